import Derived.Test.YtlbpnlngckgcbaaGreatDoorM14
import Derived.Test.YtlbpnlngckgcbaaGreatDoorM15
set_option linter.all false
set_option maxHeartbeats 4000000
set_option maxRecDepth 100000
namespace Go.Proofs.YtlbpnlngckgcbaaGreatDoor
open Go.RowKit Go.PlainAid Go.Proofs.Tryz
variable {pl:List PV} {rl:List RV} {ts:List Ty} {t:Ty} {aA aU:Prop} {α:Type} {q lo hi k:Nat}
def bk(ts:List Ty):List (ae×Rl):=ts.flatMap fun t=>t.rels.map fun r=>(t.name,r)
def cU(pl:List PV):List RV->List (ae×Rl)->Prop
 | [],[]=>True
 |x::xs,p::ps=>Lr pl p.1 x p.2/\cU pl xs ps
 |_,_=>False
def cU.more{pl}(t):∀(xs:List RV) (ps:List (ae×Rl)),cU pl xs ps->cU (pl++t) xs ps
 | [],[],_=>trivial
 |x::xs,r::rs,h=>⟨h.1.more t,cU.more t xs rs h.2⟩
 | [],_::_,h=>h.elim
 |_::_,[],h=>h.elim
def cU.app{pl c cs}(k:cU pl c cs):∀(xs:List RV) (ps:List (ae×Rl)),cU pl xs ps->cU pl (xs++c) (ps++cs)
 | [],[],_=>k
 |x::xs,r::rs,h=>⟨h.1,cU.app k xs rs h.2⟩
 | [],_::_,h=>h.elim
 |_::_,[],h=>h.elim
def cU.of{pl:List PV}{tn:ae}:∀(xs:List RV)(rs:List Rl),jE pl tn xs rs->cU pl xs (rs.map fun r=>(tn,r))
 | [],[],_=>trivial
 |x::xs,r::rs,h=>⟨h.1,cU.of xs rs h.2⟩
 | [],_::_,h=>h.elim
 |_::_,[],h=>h.elim
def vH(pl:List PV)(kl:List (ae×Nat))(rl:List RV)(ts:List Ty):Prop:=kl=ts.map (fun t=>(t.name,t.place))/\cU pl rl (bk ts)
def vH.snoc{kl}(h:vH pl kl rl ts){tt rn}(k:jE (pl++tt) t.name rn t.rels):vH (pl++tt) (kl++[(t.name,t.place)]) (rl++rn) (ts++[t]):=by
 refine ⟨by rw [h.1];simp,?_⟩;have e:bk (ts++[t])=bk ts++t.rels.map fun r=>(t.name,r):=by simp [bk]
 rw [e];exact cU.app (cU.of _ _ k) _ _ (cU.more tt _ _ h.2)
def MdC(s:ae)(h:eI (List Ty))(k j e aa:Nat)(kl:List (ae×Nat))(rl:List RV)(pl:List PV):Prop:=
 (e=0/\pl.length<=j/\rl.length<=j/\512<=k+j/\kl.length<=5/\∃ts,vH pl kl rl ts/\cS (TT s) (PP s) k ts j=h)\/
 (e≠0/\∃A,aa=PP s A/\h=.error (e,A))
def MPost(base b:Nat)(s:ae)(tv:ag)(w:af)(h:eI (List Ty))(e:Ending)(w':af):Prop:=
 e=.returned (.tuple #[])/\Below base w w'/\∃kv rv pv kl rl pl l j e' a',RM base w' b s tv j 0 e' a' kv rv pv kl rl pl l/\(match h with
  | .ok (ts,m)=>e'=0/\m=j/\kl.length<=5/\rl.length<=500/\pl.length<=500/\vH pl kl rl ts
  | .error (c,jj)=>c≠0/\e'=c/\a'=PP s jj)
def Gl(base b s tv kv rv pv l w)(h:RM base w b s tv 0 0 0 0 kv rv pv [] [] [] l)(hbb:base<=b)(aF:base<=w.heap.size):
  Calls prog 127 #[.pointer (some ⟨b,0,none⟩)] w (MPost base b s tv w (eg (TT s) (PP s))):=by
 generalize aZ:eg (TT s) (PP s)=an;have aS:=ai (show MdC s an 512 0 0 0 [] [] [] from .inl ⟨rfl,ar,ar,aj,ar,[],⟨rfl,trivial⟩,aZ⟩);have aR:=ai h;have aO:=ai (az base w);clear h aZ;go_enter func127,ntmps127;go_wp2_with fail
 go_loopg [2] 512 (fun k bP wr=>∃(j e aa:Nat) (kv rv pv:ag) (kl:List (ae×Nat)) (rl:List RV) (pl:List PV) (l:List PX),RM base wr b s tv j 0 e aa kv rv pv kl rl pl l/\Below base w wr/\Hid (MdC s an k j e aa kl rl pl))
 case atStart=>exact ⟨0,0,0,kv,rv,pv,[],[],[],l,aR.u,aO.u,aS⟩
 case round=>
  clear aR aO aS;obtain ⟨j,e,aa,kv,rv,pv,kl,rl,pl,l,A,ap,aE⟩:=hrel;have YT:base<=wr.heap.size:=aP aF ap.size;have HI:=ai A;have HB:=ai ap
  rcases ak aE with ⟨rfl,bJ,bL,bG,bu,ts,aN,aw⟩|⟨bs,a7,br,aw⟩
  ·have bI:=A.rs.gd.le;have bM:=A.rs.sz;obtain ⟨I,rfl⟩:∃f,gk=f+1:=⟨gk-1,aj⟩;obtain ⟨Y,Z,ab,r3,ac,ad,af,ah⟩:=A.rs.blk.eight;have Q:=ai aw;have J:=ai aN
   cases V:eqs (TT s j) em
   ·have C:=ai (de b s tv j 0 aa kv rv pv em wr A.rs false V);obtain ⟨bN,bO,rfl⟩:=ax A.kt;clear A ap aE aN aw;go_wp2_with fail;refine AR ?_;intro w6 MS H6 B6;have a0:base<=w6.heap.size:=aP aF B6.u.size;have aQ:=ai (lE b s tv j 0 0 aa _ rv pv jA w6 H6.u.rs au);obtain ⟨ba,bb,bc,be,bf,bg,bh,bi⟩:=H6.u.rs.blk.eight;clear MS C HI HB Y Z ab r3 ac ad af ah;go_wp2_with fail;refine aQ.u.mono ?_;rintro e' aH ⟨rfl,aL,aG,e1,aW,aB,bl⟩;have D:=ai (H6.u.but aL hbb a0 bl);have R:=ai (B6.u.trans (aL.below hbb a0));have a1:base<=aH.heap.size:=aP aF R.u.size;obtain ⟨Y,Z,ab,r3,ac,ad,af,ah⟩:=D.u.rs.blk.eight;clear aL bl aQ H6 B6 ba bb bc be bf bg bh bi;simp only [IZ,if_true] at aB
    cases aC:eqs (TT s j) jA
    ·simp only [aC,bH,aV,Prod.mk.injEq] at aB;obtain ⟨rfl,rfl,rfl⟩:=aB;have am:=ai (show MdC s an I aG 2 (PP s aG) kl rl pl from .inr ⟨aj,aG,rfl,by
      rw [<-Q.u,cS,V];simp [aC,kf]⟩)
     clear Q J;go_wp2
     go_roundg I
     case measure=>omega
     case rel=>exact ⟨aG,2,_,_,rv,pv,kl,rl,pl,l,D.u,R.u,am⟩
    simp only [aC,if_true,Prod.mk.injEq] at aB;obtain ⟨rfl,rfl,rfl⟩:=aB
    by_cases bD:kl.length=5
    ·have bv:((kl.length:Int)==5)=true:=by rw [dA];omega
     have a3:=D.u.rs.gd;have a4:Gd s j:=fun q bK=>a3 q aj
     have zq:=D.u.rs.blk.fz;have aK:=ai (D.u.but ((But.refl b aH).setCell 1 (.int .i64 (j:Int))) hbb a1 (D.u.rs.setI j a4));have aI:=ai (R.u.setCell (p:=⟨b,1,none⟩) hbb (.int .i64 (j:Int)));have a2:base<=(aH.setCell ⟨b,1,none⟩ (.int .i64 (j:Int))).heap.size:=aP aF aI.u.size;have al:=ai (tQ b s tv j 0 aW _ rv pv 3 _ aK.u.rs);have am:=ai (show MdC s an I j 3 (PP s j) kl rl pl from .inr ⟨aj,j,rfl,by
      have hl:ts.length=5:=by have:=congrArg List.length J.u.1;rw [List.length_map] at this;omega
      rw [<-Q.u,cS,V];simp [aC,hl]⟩)
     clear Q J a3 a4;go_wp2_with fail;refine al.u.mono ?_;rintro e' bC ⟨rfl,U,bn⟩;have aD:=ai (aK.u.but U hbb a2 bn);have aJ:=ai (aI.u.trans (U.below hbb a2));obtain ⟨ba,bb,bc,be,bf,bg,bh,bi⟩:=aD.u.rs.blk.eight;clear U bn al aK aI D R Y Z ab r3 ac ad af ah zq;go_wp2
     go_roundg I
     case measure=>omega
     case rel=>exact ⟨j,3,_,_,rv,pv,kl,rl,pl,l,aD.u,aJ.u,am⟩
    have bv:((kl.length:Int)==5)=false:=by rw [b6];omega
    have al:=ai (Qj base b s tv (j+1) aW _ rv pv kl rl pl l aH D.u hbb a1 aj aj aj);go_wp2_with fail;refine al.u.mono ?_;rintro e' bC ⟨rfl,U,bx,bB,bA,a8,bj,a9,bz,a6,aY,aX,bk,ay⟩;have aD:=ai bk;have aJ:=ai (R.u.trans U);have am:=ai (show MdC s an I a6 aY aX a8 bj a9 from by
     have hl:ts.length≠5:=by have:=congrArg List.length J.u.1;rw [List.length_map] at this;omega
     have bw:cS (TT s) (PP s) (I+1) ts j=(match mR (TT s) (PP s) (j+1) with
      | .error e=> .error e
      | .ok (t,j)=>cS (TT s) (PP s) I (ts++[t]) j):=by
      rw [cS,V,kf,aC];simp only [bH,aV,Bool.true_and,b6.2 hl,if_true]
      cases mR (TT s) (PP s) (j+1)<;>rfl
     have av:=Q.u;rw [bw] at av
     cases a5:mR (TT s) (PP s) (j+1) with
     |error er=>
      obtain ⟨c,a7⟩:=er;rw [a5] at ay av;obtain ⟨hc,rfl,rfl⟩:=ay;exact .inr ⟨hc,a7,rfl,av.symm⟩
     |ok y=>
      obtain ⟨t,m⟩:=y;rw [a5] at ay av;obtain ⟨rfl,rfl,rfl,h1,h2,bo,rfl,rn,tt,rfl,rfl,bp⟩:=ay;exact .inl ⟨rfl,h2,bo,aj,aM,ts++[t],J.u.snoc bp,av⟩)
    clear U bk ay al D R Q J Y Z ab r3 ac ad af ah;go_wp2
    go_roundg I
    case measure=>omega
    case rel=>exact ⟨a6,aY,aX,bx,bB,bA,a8,bj,a9,bz,aD.u,aJ.u,am⟩
   have C:=ai (de b s tv j 0 aa kv rv pv em wr A.rs true V);clear A ap aE aN aw;go_wp2_with fail;refine AR ?_;intro w6 MS H6 B6;clear MS C Y Z ab r3 ac ad af ah;go_wp2;refine bq (results_none rfl _ _ _) rfl ⟨rfl,B6.u,_,rv,pv,_,rl,pl,l,j,0,aa,H6.u,?_⟩;rw [<-Q.u,cS,V];exact ⟨rfl,rfl,bu,aj,aj,J.u⟩
  have bt:¬((e:Int)=0):=aj;have bE:((e:Int)==0)=false:=b6.2 bt;obtain ⟨Y,Z,ab,r3,ac,ad,af,ah⟩:=A.rs.blk.eight;clear A ap aE;go_wp2;go_end0;refine ⟨rfl,HB.u,kv,rv,pv,_,rl,pl,l,j,e,aa,HI.u,?_⟩;rw [aw];exact ⟨bs,rfl,br⟩
abbrev k9:=@List.pairwise_cons
def XD (h:aA:=by
 constructor
 ·rintro ((h|h)|h)
  ·exact .inl h
  ·exact .inr (.inl ⟨⟨y,hy,hl'⟩,h⟩)
  exact .inr (.inr h)
 rintro (h|⟨_,h⟩|h)
 ·exact .inl (.inl h)
 ·exact .inl (.inr h)
 exact .inr h):aA:=h
def Qo (h:aA:=by
 rcases hq with hq|hq
 ·exact Qp _ _ (fR.mem hq)
 exact Gt _ _ (fR.mem hq)):aA:=h
def dD(c:Int)(S:Nat->Prop):Prop:=(c= -1/\∀q,¬S q)\/∃p:Nat,c=p/\S p/\∀q,S q->p<=q
def dD.unique{c d S}(h:dD c S)(k:dD d S):c=d:=by
 rcases h with ⟨rfl,h⟩|⟨p,rfl,C,h⟩
 ·rcases k with ⟨rfl,_⟩|⟨q,rfl,A,_⟩
  ·rfl
  exact absurd A (h q)
 rcases k with ⟨rfl,k⟩|⟨q,rfl,A,k⟩
 ·exact absurd C (k p)
 have:=h q A;have:=k p C;omega
def dD.congr{c S T}(h:dD c S)(e:∀q,S q↔T q):dD c T:=by
 rcases h with ⟨h1,h2⟩|⟨p,h1,h2,C⟩
 ·exact .inl ⟨h1,fun q A=>h2 q ((e q).2 A)⟩
 exact .inr ⟨p,h1,(e p).1 h2,fun q A=>C q ((e q).2 A)⟩
def dD.step{c S}(h:dD c S)(p):dD (ey c p) (fun q=>S q\/q=p):=by
 unfold ey
 rcases h with ⟨rfl,h⟩|⟨q,rfl,C,h⟩
 ·rw [if_pos (.inl aj)];exact .inr ⟨p,rfl,.inr rfl,fun q C=>by
   rcases C with C|rfl
   ·exact absurd C (h q)
   exact bY _⟩
 split
 ·rename_i D;refine .inr ⟨p,rfl,.inr rfl,fun r A=> ?_⟩
  rcases A with A|rfl
  ·have:=h r A;omega
  exact bY _
 rename_i D;refine .inr ⟨q,rfl,.inl C,fun r A=> ?_⟩
 rcases A with A|rfl
 ·exact h r A
 omega
def vI(c p):ey (ey c p) p=ey c p:=by
 unfold ey
 by_cases h:c<0\/(p:Int)<c
 ·rw [if_pos h]
  split<;>rfl
 rw [if_neg h,if_neg h]
def Dt(x:ae×Nat):∀(acc:List (ae×Nat)) (c:Int),td x acc c=if (acc.any fun y=>eqs y.1 x.1) then ey c x.2 else c
 | [],c=>rfl
 |y::ys,c=>by
  rw [td,Dt x ys]
  cases h:eqs y.1 x.1<;>cases h2:(ys.any fun y=>eqs y.1 x.1)<;>simp [h,h2,vI]
def Du(x):∀(acc:List RV)(c:Int),te x acc c=if (acc.any fun y=>eqs y.kd x.kd&&eqs y.nm x.nm) then ey c x.pl else c
 | [],c=>rfl
 |y::ys,c=>by
  rw [te,Du x ys]
  cases h:(eqs y.kd x.kd&&eqs y.nm x.nm)<;>cases h2:(ys.any fun y=>eqs y.kd x.kd&&eqs y.nm x.nm)<;>simp [h,h2,vI]
def fR{α:Type}(like:α->α->Prop)(pl:α->Nat)(acc l:List α)(q:Nat):Prop:=∃A x B,l=A++x::B/\(∃y∈acc++A,like y x)/\q=pl x
def fR.cons{like:α->α->Prop}{pl:α->Nat}{acc l:List α}{x:α}:fR like pl acc (x::l) q↔((∃y∈acc,like y x)/\q=pl x)\/fR like pl (acc++[x]) l q:=by
 constructor
 ·rintro ⟨A,z,B,e,hl,C⟩
  cases A with
  |nil=>
   simp only [List.nil_append,kO] at e;obtain ⟨rfl,rfl⟩:=e;exact .inl ⟨by simpa using hl,C⟩
  |cons a A=>
   simp only [List.cons_append,kO] at e;obtain ⟨rfl,rfl⟩:=e;exact .inr ⟨A,z,B,rfl,by simpa using hl,C⟩
 rintro (⟨h,C⟩|⟨A,z,B,rfl,hl,C⟩)
 ·exact ⟨[],x,l,rfl,by simpa using h,C⟩
 exact ⟨x::A,z,B,rfl,by simpa using hl,C⟩
def fR.nil{like:α->α->Prop}{pl:α->Nat}{acc:List α}:¬fR like pl acc [] q:=by
 rintro ⟨A,x,B,e,_⟩
 cases A<;>simp at e
def oV(y x:ae×Nat):Prop:=y.1=x.1
def Dv(y x:RV):Prop:=y.kd=x.kd/\y.nm=x.nm
def mz:∀(l acc:List (ae×Nat)) (c:Int) (S:Nat->Prop),dD c S->dD (nM acc l c) (fun q=>S q\/fR oV Prod.snd acc l q)
 | [],acc,c,S,h=>h.congr (fun q=>⟨.inl,fun h=>h.elim id (fun h=>absurd h fR.nil)⟩)
 |x::l,acc,c,S,h=>by
  rw [nM,Dt]
  cases A:(acc.any fun y=>eqs y.1 x.1)
  ·simp only [bH,aV];refine (mz l (acc++[x]) c S h).congr (fun q=> ?_);rw [fR.cons]
   constructor
   ·rintro (h|h)
    ·exact .inl h
    exact .inr (.inr h)
   rintro (h|⟨⟨y,hy,hl⟩,_⟩|h)
   ·exact .inl h
   ·rw [jk] at A;exact absurd ((bo _ _).2 hl) (A y hy)
   exact .inr h
  simp only [if_true];refine (mz l (acc++[x]) _ _ (h.step x.2)).congr (fun q=> ?_);rw [fR.cons];rw [cX] at A;obtain ⟨y,hy,hl⟩:=A;have hl':oV y x:=(bo _ _).1 hl;exact XD
def mA:∀(l acc:List RV)(c:Int)(S:Nat->Prop),dD c S->dD (pP acc l c) (fun q=>S q\/fR Dv RV.pl acc l q)
 | [],acc,c,S,h=>h.congr (fun q=>⟨.inl,fun h=>h.elim id (fun h=>absurd h fR.nil)⟩)
 |x::l,acc,c,S,h=>by
  rw [pP,Du];have C:∀y:RV,(eqs y.kd x.kd&&eqs y.nm x.nm)=true↔Dv y x:=fun y=>by rw [bM,bo,bo];rfl
  cases A:(acc.any fun y=>eqs y.kd x.kd&&eqs y.nm x.nm)
  ·simp only [bH,aV];refine (mA l (acc++[x]) c S h).congr (fun q=> ?_);rw [fR.cons]
   constructor
   ·rintro (h|h)
    ·exact .inl h
    exact .inr (.inr h)
   rintro (h|⟨⟨y,hy,hl⟩,_⟩|h)
   ·exact .inl h
   ·rw [jk] at A;exact absurd ((C y).2 hl) (A y hy)
   exact .inr h
  simp only [if_true];refine (mA l (acc++[x]) _ _ (h.step x.pl)).congr (fun q=> ?_);rw [fR.cons];rw [cX] at A;obtain ⟨y,hy,hl⟩:=A;have hl':Dv y x:=(C y).1 hl;exact XD
def AX(kl rl):dD (vG kl rl) (fun q=>fR oV Prod.snd [] kl q\/fR Dv RV.pl [] rl q):=by
 have h:=mA rl [] _ _ (mz kl [] (-1) (fun _=>False) (.inl ⟨rfl,fun _ h=>h⟩));exact h.congr (fun q=>ar)
def fR.mem{like:α->α->Prop}{pl:α->Nat}{acc l:List α}(h:fR like pl acc l q):q∈l.map pl:=by
 obtain ⟨A,x,B,rfl,_,rfl⟩:=h;simp
def fR.append{α:Type}{like:α->α->Prop}{pl:α->Nat}{A:Nat}:∀(l1 acc l2:List α),fR like pl acc (l1++l2) A↔fR like pl acc l1 A\/fR like pl (acc++l1) l2 A
 | [],acc,l2=>by
  rw [List.nil_append,eh];exact ⟨.inr,fun h=>h.elim (fun h=>absurd h fR.nil) id⟩
 |x::l1,acc,l2=>by
  rw [List.cons_append,fR.cons,fR.cons,fR.append l1 (acc++[x]) l2,dc,List.singleton_append,or_assoc]
def yS:∀(l acc:List (ae×Nat)),(l.map Prod.snd).Pairwise (· < ·)->dD (k8 (Ud (acc.map Prod.fst) l)) (fun q=>fR oV Prod.snd acc l q)
 | [],acc,_=> .inl ⟨rfl,fun q h=>absurd h fR.nil⟩
 |(n,p)::l,acc,ho=>by
  rw [Ud];simp only [cA,k9] at ho;rw [pH]
  cases A:(acc.any ((fun m=>eqs m n) ∘ Prod.fst))
  ·simp only [bH,aV];have I:=yS l (acc++[(n,p)]) ho.2;rw [cO] at I;refine I.congr (fun q=> ?_);rw [fR.cons]
   constructor
   ·exact .inr
   rintro (⟨⟨y,D,hl⟩,_⟩|h)
   ·rw [jk] at A;exact absurd ((bo _ _).2 hl) (A y D)
   exact h
  simp only [if_true];rw [cX] at A;obtain ⟨y,D,hl⟩:=A;refine .inr ⟨p,rfl,?_,fun q J=> ?_⟩
  ·show fR oV Prod.snd acc ((n,p)::l) p
   rw [fR.cons];exact .inl ⟨⟨y,D,(bo _ _).1 hl⟩,rfl⟩
  have C:=fR.mem J;rw [cA,bi] at C
  rcases C with rfl|C
  ·exact bY _
  exact Nat.le_of_lt (ho.1 q C)
def vJ(y x:Ty):Prop:=y.name=x.name
def qA(y x:ae×Rl):Prop:=y.1=x.1/\y.2.name=x.2.name
def Uf(p:ae×Rl):Nat:=p.2.place
def gG(ts:List Ty):List Nat:=ts.flatMap fun t=>t.place::t.rels.map fun r=>r.place
def Qq(ts)(p:ae×Rl)(h:p∈bk ts):∃t∈ts,t.name=p.1:=by
 unfold bk at h;obtain ⟨t,A,h⟩:=bS.1 h;obtain ⟨r,_,rfl⟩:=aN.1 h;exact ⟨t,A,rfl⟩
def Gt(ts q)(h:q∈(bk ts).map Uf):q∈gG ts:=by
 obtain ⟨p,A,rfl⟩:=aN.1 h;unfold bk at A;obtain ⟨t,D,A⟩:=bS.1 A;obtain ⟨r,C,rfl⟩:=aN.1 A;exact bS.2 ⟨t,D,by simp [Uf];exact .inr ⟨r,C,rfl⟩⟩
def Qp(ts q)(h:q∈ts.map Ty.place):q∈gG ts:=by
 obtain ⟨t,A,rfl⟩:=aN.1 h;exact bS.2 ⟨t,A,ar⟩
def Dw(C:List Ty)(t:Ty)(Q:¬∃y∈C,y.name=t.name)(J:Nat):∀(l acc:List Rl),fR qA Uf (bk C++acc.map fun r=>(t.name,r)) (l.map fun r=>(t.name,r)) J↔fR oV Prod.snd (acc.map fun r=>(r.name,r.place)) (l.map fun r=>(r.name,r.place)) J
 | [],acc=>⟨fun h=>absurd h fR.nil,fun h=>absurd h fR.nil⟩
 |r::l,acc=>by
  have R:=Dw C t Q J l (acc++[r]);rw [cO,cO,cA,po,cA,po,<-dc] at R;rw [cA,cA,fR.cons,fR.cons,R];have key:(∃y∈bk C++acc.map (fun r=>(t.name,r)),qA y (t.name,r))↔∃y∈acc.map (fun r=>(r.name,r.place)),oV y (r.name,r.place):=by
   constructor
   ·rintro ⟨y,A,h1,h2⟩
    rcases aQ.1 A with A|A
    ·obtain ⟨V,U,e⟩:=Qq C y A;exact absurd ⟨V,U,e.trans h1⟩ Q
    obtain ⟨D,I,rfl⟩:=aN.1 A;exact ⟨_,aN.2 ⟨D,I,rfl⟩,h2⟩
   rintro ⟨y,A,h⟩;obtain ⟨D,I,rfl⟩:=aN.1 A;exact ⟨(t.name,D),aQ.2 (.inr (aN.2 ⟨D,I,rfl⟩)),rfl,h⟩
  rw [key]
  rfl
def yT:∀(bs A:List Ty),(gG bs).Pairwise (· < ·)->dD (k8 (CF (A.map Ty.name) bs)) (fun q=>fR vJ Ty.place A bs q\/fR qA Uf (bk A) (bk bs) q)
 | [],A,_=> .inl ⟨rfl,fun q h=>h.elim (fun h=>fR.nil h) (fun h=>fR.nil h)⟩
 |t::bs,A,ho=>by
  have eF:bk (t::bs)=(t.rels.map fun r=>(t.name,r))++bk bs:=by simp [bk]
  have U:gG (t::bs)=(t.place::t.rels.map fun r=>r.place)++gG bs:=by simp [gG]
  have af:bk (A++[t])=bk A++t.rels.map fun r=>(t.name,r):=by simp [bk]
  rw [U,List.pairwise_append] at ho;obtain ⟨R,al,Y⟩:=ho;rw [k9] at R;have ah:∀q,(fR vJ Ty.place A (t::bs) q\/fR qA Uf (bk A) (bk (t::bs)) q)->t.place<=q:=fun q hq=>by
   have C:q∈gG (t::bs):=by
    exact Qo
   rw [U,aQ,bi] at C
   rcases C with (rfl|C)|C
   ·exact bY _
   ·exact Nat.le_of_lt (R.1 q C)
   exact Nat.le_of_lt (Y t.place ar q C)
  rw [CF,pH]
  cases I:(A.any ((fun m=>eqs m t.name) ∘ Ty.name))
  ·have hn:¬∃y∈A,y.name=t.name:=fun ⟨y,D,e⟩=>by
    rw [jk] at I;exact I y D ((bo _ _).2 e)
   simp only [bH,aV];have J:=yS (t.rels.map fun r=>(r.name,r.place)) [] (by rw [gq];exact R.2);have Q:∀q,(fR vJ Ty.place A (t::bs) q\/fR qA Uf (bk A) (bk (t::bs)) q)↔fR oV Prod.snd [] (t.rels.map fun r=>(r.name,r.place)) q\/(fR vJ Ty.place (A++[t]) bs q\/fR qA Uf (bk (A++[t])) (bk bs) q):=fun q=>by
    rw [fR.cons,eF,fR.append,af];have V:=Dw A t hn q t.rels [];simp only [po,eh] at V;rw [V]
    constructor
    ·rintro ((⟨⟨y,D,e⟩,_⟩|h)|h|h)
     ·exact absurd ⟨y,D,e⟩ hn
     ·exact .inr (.inl h)
     ·exact .inl h
     exact .inr (.inr h)
    rintro (h|h|h)
    ·exact .inr (.inl h)
    ·exact .inl (.inr h)
    exact .inr (.inr h)
   have ai:∀q,(fR vJ Ty.place (A++[t]) bs q\/fR qA Uf (bk (A++[t])) (bk bs) q)->q∈gG bs:=fun q hq=>by
    exact Qo
   unfold twR
   cases ab:Ud [] (t.rels.map fun r=>(r.name,r.place)) with
   |some p=>
    rw [show ([]:List (ae×Nat)).map Prod.fst=[] from rfl,ab] at J;simp only
    rcases J with ⟨h1,_⟩|⟨ad,h1,h2,ag⟩
    ·simp only [k8] at h1;omega
    simp only [k8] at h1;obtain rfl:p=ad:=aj;refine .inr ⟨p,rfl,(Q p).2 (.inl h2),fun q hq=> ?_⟩
    rcases (Q q).1 hq with hq|hq
    ·exact ag q hq
    have Z:=fR.mem h2;rw [gq] at Z;exact Nat.le_of_lt (Y p (by simp only [bi];exact .inr Z) q (ai q hq))
   |none=>
    rw [show ([]:List (ae×Nat)).map Prod.fst=[] from rfl,ab] at J;simp only;have ak:∀q,¬fR oV Prod.snd [] (t.rels.map fun r=>(r.name,r.place)) q:=by
     rcases J with ⟨_,h⟩|⟨ad,h1,_⟩
     ·exact h
     simp only [k8] at h1;omega
    have ac:=yT bs (A++[t]) al;rw [cO] at ac;refine ac.congr (fun q=> ?_);rw [Q q];exact ⟨.inr,fun h=>h.elim (fun h=>absurd h (ak q)) id⟩
  simp only [if_true];rw [cX] at I;obtain ⟨y,D,hl⟩:=I;exact .inr ⟨t.place,rfl,.inl (fR.cons.2 (.inl ⟨⟨y,D,(bo _ _).1 hl⟩,rfl⟩)),ah⟩
def fR.map{α β:Type}{like:α->α->Prop}{yU:β->β->Prop}{pl:α->Nat}{kG:β->Nat}(f:α->β)(h1:∀y x,like y x↔yU (f y) (f x))(h2:∀x,pl x=kG (f x))(q):∀(l acc:List α),fR like pl acc l q↔fR yU kG (acc.map f) (l.map f) q
 | [],acc=>⟨fun h=>absurd h fR.nil,fun h=>absurd h fR.nil⟩
 |x::l,acc=>by
  have C:=fR.map f h1 h2 q l (acc++[x]);rw [cO] at C;rw [cA,fR.cons,fR.cons,C,h2 x];have key:(∃y∈acc,like y x)↔∃y∈acc.map f,yU y (f x):=by
   constructor
   ·rintro ⟨y,A,h⟩;exact ⟨f y,aN.2 ⟨y,A,rfl⟩,(h1 y x).1 h⟩
   rintro ⟨y,A,h⟩;obtain ⟨z,D,rfl⟩:=aN.1 A;exact ⟨z,D,(h1 z x).2 h⟩
  rw [key]
  rfl
def tri(x:RV):ae×ae×Nat:=(x.kd,x.nm,x.pl)
def YU(p:ae×Rl):ae×ae×Nat:=(p.1,p.2.name,p.2.place)
def cU.tri{pl:List PV}:∀(rl:List RV) (ps:List (ae×Rl)),cU pl rl ps->rl.map tri=ps.map YU
 | [],[],_=>rfl
 |x::xs,p::ps,h=>by
  obtain ⟨⟨h1,h2,A,_⟩,C⟩:=h;rw [cA,cA,cU.tri xs ps C];unfold Go.Proofs.YtlbpnlngckgcbaaGreatDoor.tri YU;rw [h1,h2,A]
 | [],_::_,h=>h.elim
 |_::_,[],h=>h.elim
def Gu{kl}(h:vH pl kl rl ts)(ho:(gG ts).Pairwise (· < ·)):vG kl rl=k8 (CF [] ts):=by
 refine (AX kl rl).unique ((yT ts [] ho).congr (fun q=> ?_));have e1:=fR.map (like:=vJ) (yU:=oV) (pl:=Ty.place) (kG:=Prod.snd) (fun t:Ty=>(t.name,t.place)) (fun y x=>Iff.rfl) (fun x=>rfl) q ts [];have A:=fR.map (like:=Dv) (yU:=fun (y x:ae×ae×Nat)=>y.1=x.1/\y.2.1=x.2.1) (pl:=RV.pl) (kG:=fun x=>x.2.2) tri (fun y x=>Iff.rfl) (fun x=>rfl) q rl [];have C:=fR.map (like:=qA) (yU:=fun (y x:ae×ae×Nat)=>y.1=x.1/\y.2.1=x.2.1) (pl:=Uf) (kG:=fun x=>x.2.2) YU (fun y x=>Iff.rfl) (fun x=>rfl) q (bk ts) [];rw [cU.tri rl _ h.2] at A;rw [h.1];simp only [po] at e1 A C
 show fR vJ Ty.place [] ts q\/fR qA Uf (bk []) (bk ts) q↔_
 rw [show bk []=[] from rfl,e1,C,A]
abbrev rZ:=@List.pairwise_map
abbrev dL:=@Except.ok.injEq
def AY (h:aA:=by
 simp only [dL,Prod.mk.injEq] at h;obtain ⟨rfl,rfl⟩:=h;exact ⟨[],ar,aj,i6.nil _ _ _⟩):aA:=h
def Qr (h:aA:=by
 split at h
 ·simp at h
 exact Qs):aA:=h
def Qs (h:aA:=by
 simp only [dL,Prod.mk.injEq] at h;rw [<-h.1];exact i6.nil _ _ _):aA:=h
def i6(P:Nat->Nat)(lo hi:Nat)(l:List Nat):Prop:=∃ks:List Nat,l=ks.map P/\ks.Pairwise (· < ·)/\∀k∈ks,lo<=k/\k<hi
def i6.nil(P lo hi):i6 P lo hi []:=⟨[],rfl,by simp,by simp⟩
def i6.one(P)(h1:lo<=k)(h2:k<hi):i6 P lo hi [P k]:=⟨[k],rfl,by simp,by simp;omega⟩
def i6.app{P mid l1 l2}(h:i6 P lo mid l1)(k:i6 P mid hi l2)(h1:lo<=mid)(h2:mid<=hi):i6 P lo hi (l1++l2):=by
 obtain ⟨a,rfl,D,C⟩:=h;obtain ⟨c,rfl,c1,c2⟩:=k;refine ⟨a++c,by rw [cO],?_,?_⟩
 ·rw [List.pairwise_append];exact ⟨D,c1,fun x A y I=>by have:=(C x A).2;have:=(c2 y I).1;omega⟩
 intro x A
 rcases aQ.1 A with A|A
 ·have:=C x A;omega
 have:=c2 x A;omega
def i6.wide{P lo' hi' l}(h:i6 P lo hi l)(h1:lo'<=lo)(h2:hi<=hi'):i6 P lo' hi' l:=by
 obtain ⟨a,rfl,A,C⟩:=h;exact ⟨a,rfl,A,fun x D=>by have:=C x D;omega⟩
def i6.sorted{P l}(h:i6 P lo hi l)(D:∀i j,i<j->j<hi->P i<P j):l.Pairwise (· < ·):=by
 obtain ⟨a,rfl,A,C⟩:=h;rw [rZ];refine List.Pairwise.imp_of_mem (fun {x y} Q J I=>D x y I (C y J).2) A
section
variable (T:Nat->ae)(P:Nat->Nat)
def vK(i:Nat)(r:Rl)(j:Nat)(h:lW T P i=.ok (r,j)):r.place=P i/\i<j:=by
 refine ⟨?_,od T P _ _ _ h⟩;unfold lW at h
 split at h
 ·simp at h
 split at h
 ·simp at h
 split at h
 ·simp only [dL,Prod.mk.injEq] at h;rw [<-h.1]
 simp at h
def yV:∀(f:Nat)(acc:List Rl)(i:Nat)(rs:List Rl)(m:Nat),dv T P f acc i=.ok (rs,m)->∃new,rs=acc++new/\i<m/\i6 P i m (new.map fun r=>r.place)
 |0,acc,i,rs,m,h=>by simp [dv] at h
 |f+1,acc,i,rs,m,h=>by
  unfold dv at h
  split at h
  ·exact AY
  split at h
  ·simp at h
  split at h
  ·simp at h
  rename_i r j C;obtain ⟨h1,h2⟩:=vK T P i r j C;obtain ⟨new,rfl,D,A⟩:=yV f _ _ _ _ h;refine ⟨r::new,ar,aj,?_⟩;have:=(i6.one P (lo:=i) (hi:=j) (bY i) h2).app A aj aj;rw [cA,h1];exact this
def pQ:∀(f:Nat)(acc:List Ty)(i:Nat)(ts:List Ty)(m:Nat),cS T P f acc i=.ok (ts,m)->∃new,ts=acc++new/\i<=m/\i6 P i m (gG new)
 |0,acc,i,ts,m,h=>by simp [cS] at h
 |f+1,acc,i,ts,m,h=>by
  unfold cS at h
  split at h
  ·exact AY
  split at h
  ·simp at h
  split at h
  ·simp at h
  rename_i t j A;obtain ⟨new,rfl,U,I⟩:=pQ f _ _ _ _ h;rw [kf] at A
  split at A
  ·unfold mR at A
   split at A
   ·simp at A
   rename_i u R hn;have Y:=fy T _ _ _ _ hn
   split at A
   ·simp at A
   rename_i rs Z Q;simp only [dL,Prod.mk.injEq] at A;obtain ⟨rfl,rfl⟩:=A;obtain ⟨rn,e,V,J⟩:=yV T P _ _ _ _ _ Q;rw [List.nil_append] at e;subst e;refine ⟨⟨T (i+1),P (i+1),rs⟩::new,ar,aj,?_⟩;have C:=i6.one P (lo:=i) (hi:=R) (k:=i+1) aj aj;have D:=(C.app J aj aj).app I aj aj
   simpa [gG] using D
  simp at A
def ld:Ex->List Nat
 |⟨n,some x,some y⟩=>ld x++n.place::ld y
 |⟨_,none,_⟩=>[]
 |⟨_,some _,none⟩=>[]
def Lt(r:Nat->eI Ex):Prop:=∀i x j,r i=.ok (x,j)->i6 P i j (ld x)
def yW(l:List ae)(part:Nat->eI Ex)(A:jQ part)(C:Lt P part):∀f y i0 i x j,joinL T P l part f y i=.ok (x,j)->i0<=i->i6 P i0 i (ld y)->i6 P i0 j (ld x)
 |0,y,i0,i,x,j,h,_,_=>by simp [joinL] at h
 |f+1,y,i0,i,x,j,h,h0,ha=>by
  unfold joinL at h
  split at h
  ·split at h
   ·simp at h
   rename_i z Q D;have h1:=A _ _ _ D;refine yW l part A C f _ i0 Q x j h aj ?_;simp only [fU,ld];have I:=ha.app (i6.one P (lo:=i) (hi:=i+1) (bY i) aj) h0 aj;have J:=I.app (C _ _ _ D) aj aj
   simpa using J
  simp only [dL,Prod.mk.injEq] at h;obtain ⟨rfl,rfl⟩:=h;exact ha
def oo(l:List ae)(part:Nat->eI Ex)(A:jQ part)(C:Lt P part):Lt P (fe T P l part):=by
 intro i x j h;unfold fe at h
 split at h
 ·simp at h
 rename_i y I D;have h1:=A _ _ _ D;exact yW T P l part A C _ _ i I x j h aj (C _ _ _ D)
def yX(I:Bool)(A:Nat->eI Ex)(J:jQ A)(C:Lt P A):Lt P (eR T P I A):=by
 intro i x j h;unfold eR at h
 split at h
 ·unfold lw at h;exact Qr
 split at h
 ·split at h
  ·split at h
   ·simp at h
   rename_i y Q D
   split at h
   ·simp only [dL,Prod.mk.injEq] at h;obtain ⟨rfl,rfl⟩:=h;exact (C _ _ _ D).wide aj aj
   simp at h
  simp at h
 unfold jl at h
 split at h
 ·simp at h
 split at h
 ·exact Qr
 exact Qs
def yY:∀n,Lt P (fp T P n)
 |0=>oo T P _ _ (gU T P false _ (fun i x j h=>by simp at h)) (oo T P _ _ (jR T P false _ (fun i x j h=>by simp at h)) (yX T P false _ (fun i x j h=>by simp at h) (fun i x j h=>by simp at h)))
 |n+1=>oo T P _ _ (gU T P true _ (gI T P n)) (oo T P _ _ (jR T P true _ (gI T P n)) (yX T P true _ (gI T P n) (yY n)))
end
