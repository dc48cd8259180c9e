import Derived.Test.YtlbpnlngckgcbaaGreatDoorM19
import Derived.Test.YtlbpnlngckgcbaaGreatDoorM20
set_option linter.all false
set_option maxHeartbeats 4000000
set_option maxRecDepth 100000
namespace Go.Proofs.YtlbpnlngckgcbaaGreatDoor
open Go.RowKit Go.PlainAid Go.Proofs.Tryz
variable {pl:List PV} {rl:List RV} {ts:List Ty} {t:Ty} {aD br:Prop} {α:Type} {q lo hi k base b i d a f n F m j g:Nat} {w:af} {s:ae} {tv kv rv pv:ag} {r:Rl}
def bx(ts:List Ty):List (ae×Rl):=ts.flatMap fun t=>t.rels.map fun r=>(t.name,r)
def dc(pl:List PV):List RV->List (ae×Rl)->Prop
 | [],[]=>True
 |x::xs,p::ps=>LW pl p.1 x p.2/\dc pl xs ps
 |_,_=>False
def dc.more{pl}(t):∀(xs:List RV) (ps:List (ae×Rl)),dc pl xs ps->dc (pl++t) xs ps
 | [],[],_=>trivial
 |x::xs,r::rs,h=>⟨h.1.more t,dc.more t xs rs h.2⟩
 | [],_::_,h=>h.elim
 |_::_,[],h=>h.elim
def dc.app{pl c cs}(k:dc pl c cs):∀(xs:List RV) (ps:List (ae×Rl)),dc pl xs ps->dc pl (xs++c) (ps++cs)
 | [],[],_=>k
 |x::xs,r::rs,h=>⟨h.1,dc.app k xs rs h.2⟩
 | [],_::_,h=>h.elim
 |_::_,[],h=>h.elim
def dc.of{pl:List PV}{tn:ae}:∀(xs:List RV)(rs:List Rl),jQ pl tn xs rs->dc pl xs (rs.map fun r=>(tn,r))
 | [],[],_=>trivial
 |x::xs,r::rs,h=>⟨h.1,dc.of xs rs h.2⟩
 | [],_::_,h=>h.elim
 |_::_,[],h=>h.elim
def tO(pl:List PV)(kl:List (ae×Nat))(rl:List RV)(ts:List Ty):Prop:=kl=ts.map (fun t=>(t.name,t.place))/\dc pl rl (bx ts)
def tO.snoc{kl}(h:tO pl kl rl ts){tt rn}(k:jQ (pl++tt) t.name rn t.rels):tO (pl++tt) (kl++[(t.name,t.place)]) (rl++rn) (ts++[t]):=by
 refine ⟨by rw [h.1];simp,?_⟩;have e:bx (ts++[t])=bx ts++t.rels.map fun r=>(t.name,r):=by simp [bx]
 rw [e];exact dc.app (dc.of _ _ k) _ _ (dc.more tt _ _ h.2)
def MdC(s:ae)(R:eJ (List Ty))(k j e aa:Nat)(kl:List (ae×Nat))(rl:List RV)(pl:List PV):Prop:=
 (e=0/\pl.length<=j/\rl.length<=j/\512<=k+j/\kl.length<=5/\∃ts,tO pl kl rl ts/\cR (TT s) (PP s) k ts j=R)\/
 (e≠0/\∃h,aa=PP s h/\R=.error (e,h))
def MPost(base b:Nat)(s:ae)(tv:ag)(w:af)(R:eJ (List Ty))(e:Ending)(w':af):Prop:=
 e=bj (.tuple #[])/\Below base w w'/\∃kv rv pv kl rl pl l j e' a',RM base w' b s tv j 0 e' a' kv rv pv kl rl pl l/\(match R with
  | .ok (ts,m)=>e'=0/\m=j/\kl.length<=5/\rl.length<=500/\pl.length<=500/\tO pl kl rl ts
  | .error (c,jj)=>c≠0/\e'=c/\a'=PP s jj)
def Hi(base b s tv kv rv pv l w)(h:RM base w b s tv 0 0 0 0 kv rv pv [] [] [] l)(J:base<=b)(aH:base<=w.heap.size):
  Calls prog 127 #[bc b] w (MPost base b s tv w (dI (TT s) (PP s))):=by
 generalize aZ:dI (TT s) (PP s)=R;have aU:=show MdC s R 512 0 0 0 [] [] [] from .inl ⟨rfl,au,au,ai,au,[],⟨rfl,trivial⟩,aZ⟩
 have aQ:=aA base w;clear aZ;go_enter func127,ntmps127;go_wp2_with fail
 go_loopg [2] 512 (fun k bS wr=>∃(j e aa:Nat) (kv rv pv:ag) (kl:List (ae×Nat)) (rl:List RV) (pl:List PV) (l:List PX),RM base wr b s tv j 0 e aa kv rv pv kl rl pl l/\Below base w wr/\(MdC s R k j e aa kl rl pl))
 ·exact ⟨0,0,0,kv,rv,pv,[],[],[],l,h,aQ,aU⟩
 ·clear h aQ aU;obtain ⟨j,e,aa,kv,rv,pv,kl,rl,pl,l,D,aw,aG⟩:=hrel;have aI:base<=wr.heap.size:=aV aH aw.size
  rcases aE aG with ⟨rfl,bM,bO,bK,bw,ts,V,A⟩|⟨bu,a7,bt,A⟩
  ·have bL:=D.rs.gd.le;have bP:=D.rs.sz;obtain ⟨Q,rfl⟩:∃f,gk=f+1:=⟨gk-1,ai⟩;obtain ⟨ad,af,ah,r3,aj,ak,al,am⟩:=D.rs.blk.eight
   cases ac:eqs (TT s j) em
   ·have C:=ea b s tv j 0 aa kv rv pv em wr D.rs false ac;obtain ⟨bQ,bR,rfl⟩:=ax D.kt;clear aG;go_wp2_with fail;refine C.mono ?_;rintro e' aP ⟨rfl,U⟩;have Z:=D.below U J aI;have an:=aw.trans (U.mono aI);have a0:base<=aP.heap.size:=aV aH an.size;have aR:=lz b s tv j 0 0 aa _ rv pv jN aP Z.rs ay;obtain ⟨bb,be,bg,bh,bi,bj,bk,bl⟩:=Z.rs.blk.eight;clear U C D aw ad af ah r3 aj ak al am;go_wp2_with fail;refine aR.mono ?_;rintro e' aK ⟨rfl,aO,aJ,e1,aW,aB,bo⟩;have I:=Z.but aO J a0 bo;have Y:=an.trans (aO.below J a0);have a1:base<=aK.heap.size:=aV aH Y.size;obtain ⟨ad,af,ah,r3,aj,ak,al,am⟩:=I.rs.blk.eight;clear aO bo aR Z an bb be bg bh bi bj bk bl;simp only [Jy,if_true] at aB
    cases aF:eqs (TT s j) jN
    ·simp only [aF,bJ,a8,Prod.mk.injEq] at aB;obtain ⟨rfl,rfl,rfl⟩:=aB;have av:=(show MdC s R Q aJ 2 (PP s aJ) kl rl pl from .inr ⟨ai,aJ,rfl,by
      rw [<-A,cR,ac];simp [aF,kw]⟩)
     clear A V;go_wp2
     go_roundg Q
     case measure=>omega
     case rel=>exact ⟨aJ,2,_,_,rv,pv,kl,rl,pl,l,I,Y,av⟩
    simp only [aF,if_true,Prod.mk.injEq] at aB;obtain ⟨rfl,rfl,rfl⟩:=aB
    by_cases bH:kl.length=5
    ·have bx:((kl.length:Int)==5)=true:=by rw [dQ];omega
     have a3:=I.rs.gd;have a4:Gd s j:=fun q bN=>a3 q ai
     have zq:=I.rs.blk.fz;have aN:=I.but ((But.refl b aK).setCell 1 (ar (j:Int))) J a1 (I.rs.setI j a4);have aL:=Y.setCell (p:=⟨b,1,none⟩) J (ar (j:Int));have a2:base<=(aK.setCell (aC b 1) (ar (j:Int))).heap.size:=aV aH aL.size;have ap:=tX b s tv j 0 aW _ rv pv 3 _ aN.rs;have av:=(show MdC s R Q j 3 (PP s j) kl rl pl from .inr ⟨ai,j,rfl,by
      have hl:ts.length=5:=by have:=congrArg List.length V.1;rw [List.length_map] at this;omega
      rw [<-A,cR,ac];simp [aF,hl]⟩)
     clear A V a3 a4;go_wp2_with fail;refine ap.mono ?_;rintro e' bG ⟨rfl,ab,bp⟩;have aT:=aN.but ab J a2 bp;have aM:=aL.trans (ab.below J a2);obtain ⟨bb,be,bg,bh,bi,bj,bk,bl⟩:=aT.rs.blk.eight;clear ab bp ap aN aL I Y ad af ah r3 aj ak al am zq;go_wp2
     go_roundg Q
     case measure=>omega
     case rel=>exact ⟨j,3,_,_,rv,pv,kl,rl,pl,l,aT,aM,av⟩
    have bx:((kl.length:Int)==5)=false:=by rw [bW];omega
    have ap:=Qn base b s tv (j+1) aW _ rv pv kl rl pl l aK I J a1 ai ai ai;go_wp2_with fail;refine ap.mono ?_;rintro e' bG ⟨rfl,ab,bA,bE,bC,a9,bn,ba,bB,a6,aY,aX,bD,az⟩;have aM:=Y.trans ab;have av:=(show MdC s R Q a6 aY aX a9 bn ba from by
     have hl:ts.length≠5:=by have:=congrArg List.length V.1;rw [List.length_map] at this;omega
     have bz:cR (TT s) (PP s) (Q+1) ts j=(match mR (TT s) (PP s) (j+1) with
      | .error e=> .error e
      | .ok (t,j)=>cR (TT s) (PP s) Q (ts++[t]) j):=by
      rw [cR,ac,kw,aF];simp only [bJ,a8,Bool.true_and,bW.2 hl,if_true]
      cases mR (TT s) (PP s) (j+1)<;>rfl
     rw [bz] at A
     cases a5:mR (TT s) (PP s) (j+1) with
     |error er=>
      obtain ⟨c,a7⟩:=er;rw [a5] at az A;obtain ⟨hc,rfl,rfl⟩:=az;exact .inr ⟨hc,a7,rfl,A.symm⟩
     |ok y=>
      obtain ⟨t,m⟩:=y;rw [a5] at az A;obtain ⟨rfl,rfl,rfl,h1,h2,bq,rfl,rn,tt,rfl,rfl,bs⟩:=az;exact .inl ⟨rfl,h2,bq,ai,aS,ts++[t],V.snoc bs,A⟩)
    clear ab az ap I Y A V ad af ah r3 aj ak al am;go_wp2
    go_roundg Q
    case measure=>omega
    case rel=>exact ⟨a6,aY,aX,bA,bE,bC,a9,bn,ba,bB,bD,aM,av⟩
   have C:=ea b s tv j 0 aa kv rv pv em wr D.rs true ac;clear aG;go_wp2_with fail;refine C.mono ?_;rintro e' aP ⟨rfl,U⟩;have Z:=D.below U J aI;have an:=aw.trans (U.mono aI);clear U C ad af ah r3 aj ak al am;go_wp2;refine bF (results_none rfl _ _ _) rfl ⟨rfl,an,_,rv,pv,_,rl,pl,l,j,0,aa,Z,?_⟩;rw [<-A,cR,ac];exact ⟨rfl,rfl,bw,ai,ai,V⟩
  have bv:¬((e:Int)=0):=ai;have bI:((e:Int)==0)=false:=bW.2 bv;obtain ⟨ad,af,ah,r3,aj,ak,al,am⟩:=D.rs.blk.eight;clear aG;go_wp2;go_end0;refine ⟨rfl,aw,kv,rv,pv,_,rl,pl,l,j,e,aa,D,?_⟩;rw [A];exact ⟨bu,rfl,bt⟩
abbrev ky:=@List.pairwise_cons
def Xs (h:aD:=by
 constructor
 ·rintro ((h|h)|h)
  ·exact .inl h
  ·exact .inr (.inl ⟨⟨y,hy,hl'⟩,h⟩)
  exact .inr (.inr h)
 rintro (h|⟨_,h⟩|h)
 ·exact .inl (.inl h)
 ·exact .inl (.inr h)
 exact .inr h):aD:=h
def Qv (h:aD:=by
 rcases hq with hq|hq
 ·exact Qw _ _ (gy.mem hq)
 exact Ho _ _ (gy.mem hq)):aD:=h
def dL(c:Int)(S:Nat->Prop):Prop:=(c= -1/\∀q,¬S q)\/∃p:Nat,c=p/\S p/\∀q,S q->p<=q
def dL.unique{c d S}(h:dL c S)(k:dL d S):c=d:=by
 rcases h with ⟨rfl,h⟩|⟨p,rfl,C,h⟩
 ·rcases k with ⟨rfl,_⟩|⟨q,rfl,A,_⟩
  ·rfl
  exact absurd A (h q)
 rcases k with ⟨rfl,k⟩|⟨q,rfl,A,k⟩
 ·exact absurd C (k p)
 have:=h q A;have:=k p C;omega
def dL.congr{c S T}(h:dL c S)(e:∀q,S q↔T q):dL c T:=by
 rcases h with ⟨h1,h2⟩|⟨p,h1,h2,C⟩
 ·exact .inl ⟨h1,fun q A=>h2 q ((e q).2 A)⟩
 exact .inr ⟨p,h1,(e p).1 h2,fun q A=>C q ((e q).2 A)⟩
def dL.step{c S}(h:dL c S)(p):dL (eG c p) (fun q=>S q\/q=p):=by
 unfold eG
 rcases h with ⟨rfl,h⟩|⟨q,rfl,C,h⟩
 ·rw [if_pos (.inl ai)];exact .inr ⟨p,rfl,.inr rfl,fun q C=>by
   rcases C with C|rfl
   ·exact absurd C (h q)
   exact bV _⟩
 split
 ·rename_i D;refine .inr ⟨p,rfl,.inr rfl,fun r A=> ?_⟩
  rcases A with A|rfl
  ·have:=h r A;omega
  exact bV _
 rename_i D;refine .inr ⟨q,rfl,.inl C,fun r A=> ?_⟩
 rcases A with A|rfl
 ·exact h r A
 omega
def v7(c p):eG (eG c p) p=eG c p:=by
 unfold eG
 by_cases h:c<0\/(p:Int)<c
 ·rw [if_pos h]
  split<;>rfl
 rw [if_neg h,if_neg h]
def D3(x:ae×Nat):∀(acc:List (ae×Nat)) (c:Int),tm x acc c=if (acc.any fun y=>eqs y.1 x.1) then eG c x.2 else c
 | [],c=>rfl
 |y::ys,c=>by
  rw [tm,D3 x ys]
  cases h:eqs y.1 x.1<;>cases h2:(ys.any fun y=>eqs y.1 x.1)<;>simp [h,h2,v7]
def D4(x):∀(acc:List RV)(c:Int),tq x acc c=if (acc.any fun y=>eqs y.kd x.kd&&eqs y.nm x.nm) then eG c x.pl else c
 | [],c=>rfl
 |y::ys,c=>by
  rw [tq,D4 x ys]
  cases h:(eqs y.kd x.kd&&eqs y.nm x.nm)<;>cases h2:(ys.any fun y=>eqs y.kd x.kd&&eqs y.nm x.nm)<;>simp [h,h2,v7]
def gy{α:Type}(like:α->α->Prop)(pl:α->Nat)(acc l:List α)(q:Nat):Prop:=∃A x B,l=A++x::B/\(∃y∈acc++A,like y x)/\q=pl x
def gy.cons{like:α->α->Prop}{pl:α->Nat}{acc l:List α}{x:α}:gy like pl acc (x::l) q↔((∃y∈acc,like y x)/\q=pl x)\/gy like pl (acc++[x]) l q:=by
 constructor
 ·rintro ⟨A,z,B,e,hl,C⟩
  cases A with
  |nil=>
   simp only [List.nil_append,kT] at e;obtain ⟨rfl,rfl⟩:=e;exact .inl ⟨by simpa using hl,C⟩
  |cons a A=>
   simp only [List.cons_append,kT] at e;obtain ⟨rfl,rfl⟩:=e;exact .inr ⟨A,z,B,rfl,by simpa using hl,C⟩
 rintro (⟨h,C⟩|⟨A,z,B,rfl,hl,C⟩)
 ·exact ⟨[],x,l,rfl,by simpa using h,C⟩
 exact ⟨x::A,z,B,rfl,by simpa using hl,C⟩
def gy.nil{like:α->α->Prop}{pl:α->Nat}{acc:List α}:¬gy like pl acc [] q:=by
 rintro ⟨A,x,B,e,_⟩
 cases A<;>simp at e
def o4(y x:ae×Nat):Prop:=y.1=x.1
def D5(y x:RV):Prop:=y.kd=x.kd/\y.nm=x.nm
def mx:∀(l acc:List (ae×Nat)) (c:Int) (S:Nat->Prop),dL c S->dL (nK acc l c) (fun q=>S q\/gy o4 Prod.snd acc l q)
 | [],acc,c,S,h=>h.congr (fun q=>⟨.inl,fun h=>h.elim id (fun h=>absurd h gy.nil)⟩)
 |x::l,acc,c,S,h=>by
  rw [nK,D3]
  cases A:(acc.any fun y=>eqs y.1 x.1)
  ·simp only [bJ,a8];refine (mx l (acc++[x]) c S h).congr (fun q=> ?_);rw [gy.cons]
   constructor
   ·rintro (h|h)
    ·exact .inl h
    exact .inr (.inr h)
   rintro (h|⟨⟨y,hy,hl⟩,_⟩|h)
   ·exact .inl h
   ·rw [jy] at A;exact absurd ((bz _ _).2 hl) (A y hy)
   exact .inr h
  simp only [if_true];refine (mx l (acc++[x]) _ _ (h.step x.2)).congr (fun q=> ?_);rw [gy.cons];rw [dh] at A;obtain ⟨y,hy,hl⟩:=A;have hl':o4 y x:=(bz _ _).1 hl;exact Xs
def my:∀(l acc:List RV)(c:Int)(S:Nat->Prop),dL c S->dL (pO acc l c) (fun q=>S q\/gy D5 RV.pl acc l q)
 | [],acc,c,S,h=>h.congr (fun q=>⟨.inl,fun h=>h.elim id (fun h=>absurd h gy.nil)⟩)
 |x::l,acc,c,S,h=>by
  rw [pO,D4];have C:∀y:RV,(eqs y.kd x.kd&&eqs y.nm x.nm)=true↔D5 y x:=fun y=>by rw [bP,bz,bz];rfl
  cases A:(acc.any fun y=>eqs y.kd x.kd&&eqs y.nm x.nm)
  ·simp only [bJ,a8];refine (my l (acc++[x]) c S h).congr (fun q=> ?_);rw [gy.cons]
   constructor
   ·rintro (h|h)
    ·exact .inl h
    exact .inr (.inr h)
   rintro (h|⟨⟨y,hy,hl⟩,_⟩|h)
   ·exact .inl h
   ·rw [jy] at A;exact absurd ((C y).2 hl) (A y hy)
   exact .inr h
  simp only [if_true];refine (my l (acc++[x]) _ _ (h.step x.pl)).congr (fun q=> ?_);rw [gy.cons];rw [dh] at A;obtain ⟨y,hy,hl⟩:=A;have hl':D5 y x:=(C y).1 hl;exact Xs
def Bs(kl rl):dL (v6 kl rl) (fun q=>gy o4 Prod.snd [] kl q\/gy D5 RV.pl [] rl q):=by
 have h:=my rl [] _ _ (mx kl [] (-1) (fun _=>False) (.inl ⟨rfl,fun _ h=>h⟩));exact h.congr (fun q=>au)
def gy.mem{like:α->α->Prop}{pl:α->Nat}{acc l:List α}(h:gy like pl acc l q):q∈l.map pl:=by
 obtain ⟨A,x,B,rfl,_,rfl⟩:=h;simp
def gy.append{α:Type}{like:α->α->Prop}{pl:α->Nat}{A:Nat}:∀(l1 acc l2:List α),gy like pl acc (l1++l2) A↔gy like pl acc l1 A\/gy like pl (acc++l1) l2 A
 | [],acc,l2=>by
  rw [List.nil_append,dS];exact ⟨.inr,fun h=>h.elim (fun h=>absurd h gy.nil) id⟩
 |x::l1,acc,l2=>by
  rw [List.cons_append,gy.cons,gy.cons,gy.append l1 (acc++[x]) l2,ct,List.singleton_append,or_assoc]
def zn:∀(l acc:List (ae×Nat)),(l.map Prod.snd).Pairwise (· < ·)->dL (k7 (Uc (acc.map Prod.fst) l)) (fun q=>gy o4 Prod.snd acc l q)
 | [],acc,_=> .inl ⟨rfl,fun q h=>absurd h gy.nil⟩
 |(n,p)::l,acc,ho=>by
  rw [Uc];simp only [bZ,ky] at ho;rw [pK]
  cases A:(acc.any ((fun m=>eqs m n) ∘ Prod.fst))
  ·simp only [bJ,a8];have I:=zn l (acc++[(n,p)]) ho.2;rw [cK] at I;refine I.congr (fun q=> ?_);rw [gy.cons]
   constructor
   ·exact .inr
   rintro (⟨⟨y,D,hl⟩,_⟩|h)
   ·rw [jy] at A;exact absurd ((bz _ _).2 hl) (A y D)
   exact h
  simp only [if_true];rw [dh] at A;obtain ⟨y,D,hl⟩:=A;refine .inr ⟨p,rfl,?_,fun q J=> ?_⟩
  ·show gy o4 Prod.snd acc ((n,p)::l) p
   rw [gy.cons];exact .inl ⟨⟨y,D,(bz _ _).1 hl⟩,rfl⟩
  have C:=gy.mem J;rw [bZ,List.mem_cons] at C
  rcases C with rfl|C
  ·exact bV _
  exact Nat.le_of_lt (ho.1 q C)
def v8(y x:Ty):Prop:=y.name=x.name
def qD(y x:ae×Rl):Prop:=y.1=x.1/\y.2.name=x.2.name
def Ue(p:ae×Rl):Nat:=p.2.place
def gQ(ts:List Ty):List Nat:=ts.flatMap fun t=>t.place::t.rels.map fun r=>r.place
def Qx(ts)(p:ae×Rl)(h:p∈bx ts):∃t∈ts,t.name=p.1:=by
 unfold bx at h;obtain ⟨t,A,h⟩:=b6.1 h;obtain ⟨r,_,rfl⟩:=aU.1 h;exact ⟨t,A,rfl⟩
def Ho(ts q)(h:q∈(bx ts).map Ue):q∈gQ ts:=by
 obtain ⟨p,A,rfl⟩:=aU.1 h;unfold bx at A;obtain ⟨t,D,A⟩:=b6.1 A;obtain ⟨r,C,rfl⟩:=aU.1 A;exact b6.2 ⟨t,D,by simp [Ue];exact .inr ⟨r,C,rfl⟩⟩
def Qw(ts q)(h:q∈ts.map Ty.place):q∈gQ ts:=by
 obtain ⟨t,A,rfl⟩:=aU.1 h;exact b6.2 ⟨t,A,au⟩
def D6(C:List Ty)(t:Ty)(Q:¬∃y∈C,y.name=t.name)(J:Nat):∀(l acc:List Rl),gy qD Ue (bx C++acc.map fun r=>(t.name,r)) (l.map fun r=>(t.name,r)) J↔gy o4 Prod.snd (acc.map fun r=>(r.name,r.place)) (l.map fun r=>(r.name,r.place)) J
 | [],acc=>⟨fun h=>absurd h gy.nil,fun h=>absurd h gy.nil⟩
 |r::l,acc=>by
  have R:=D6 C t Q J l (acc++[r]);rw [cK,cK,bZ,pz,bZ,pz,<-ct] at R;rw [bZ,bZ,gy.cons,gy.cons,R];have key:(∃y∈bx C++acc.map (fun r=>(t.name,r)),qD y (t.name,r))↔∃y∈acc.map (fun r=>(r.name,r.place)),o4 y (r.name,r.place):=by
   constructor
   ·rintro ⟨y,A,h1,h2⟩
    rcases aW.1 A with A|A
    ·obtain ⟨V,U,e⟩:=Qx C y A;exact absurd ⟨V,U,e.trans h1⟩ Q
    obtain ⟨D,I,rfl⟩:=aU.1 A;exact ⟨_,aU.2 ⟨D,I,rfl⟩,h2⟩
   rintro ⟨y,A,h⟩;obtain ⟨D,I,rfl⟩:=aU.1 A;exact ⟨(t.name,D),aW.2 (.inr (aU.2 ⟨D,I,rfl⟩)),rfl,h⟩
  rw [key]
  rfl
def zo:∀(bs A:List Ty),(gQ bs).Pairwise (· < ·)->dL (k7 (CB (A.map Ty.name) bs)) (fun q=>gy v8 Ty.place A bs q\/gy qD Ue (bx A) (bx bs) q)
 | [],A,_=> .inl ⟨rfl,fun q h=>h.elim (fun h=>gy.nil h) (fun h=>gy.nil h)⟩
 |t::bs,A,ho=>by
  have eF:bx (t::bs)=(t.rels.map fun r=>(t.name,r))++bx bs:=by simp [bx]
  have U:gQ (t::bs)=(t.place::t.rels.map fun r=>r.place)++gQ bs:=by simp [gQ]
  have af:bx (A++[t])=bx A++t.rels.map fun r=>(t.name,r):=by simp [bx]
  rw [U,List.pairwise_append] at ho;obtain ⟨R,al,Y⟩:=ho;rw [ky] at R;have ah:∀q,(gy v8 Ty.place A (t::bs) q\/gy qD Ue (bx A) (bx (t::bs)) q)->t.place<=q:=fun q hq=>by
   have C:q∈gQ (t::bs):=by
    exact Qv
   rw [U,aW,List.mem_cons] at C
   rcases C with (rfl|C)|C
   ·exact bV _
   ·exact Nat.le_of_lt (R.1 q C)
   exact Nat.le_of_lt (Y t.place au q C)
  rw [CB,pK]
  cases I:(A.any ((fun m=>eqs m t.name) ∘ Ty.name))
  ·have hn:¬∃y∈A,y.name=t.name:=fun ⟨y,D,e⟩=>by
    rw [jy] at I;exact I y D ((bz _ _).2 e)
   simp only [bJ,a8];have J:=zn (t.rels.map fun r=>(r.name,r.place)) [] (by rw [fT];exact R.2);have Q:∀q,(gy v8 Ty.place A (t::bs) q\/gy qD Ue (bx A) (bx (t::bs)) q)↔gy o4 Prod.snd [] (t.rels.map fun r=>(r.name,r.place)) q\/(gy v8 Ty.place (A++[t]) bs q\/gy qD Ue (bx (A++[t])) (bx bs) q):=fun q=>by
    rw [gy.cons,eF,gy.append,af];have V:=D6 A t hn q t.rels [];simp only [pz,dS] at V;rw [V]
    constructor
    ·rintro ((⟨⟨y,D,e⟩,_⟩|h)|h|h)
     ·exact absurd ⟨y,D,e⟩ hn
     ·exact .inr (.inl h)
     ·exact .inl h
     exact .inr (.inr h)
    rintro (h|h|h)
    ·exact .inr (.inl h)
    ·exact .inl (.inr h)
    exact .inr (.inr h)
   have aj:∀q,(gy v8 Ty.place (A++[t]) bs q\/gy qD Ue (bx (A++[t])) (bx bs) q)->q∈gQ bs:=fun q hq=>by
    exact Qv
   unfold twR
   cases ab:Uc [] (t.rels.map fun r=>(r.name,r.place)) with
   |some p=>
    rw [show ([]:List (ae×Nat)).map Prod.fst=[] from rfl,ab] at J;simp only
    rcases J with ⟨h1,_⟩|⟨ad,h1,h2,ag⟩
    ·simp only [k7] at h1;omega
    simp only [k7] at h1;obtain rfl:p=ad:=ai;refine .inr ⟨p,rfl,(Q p).2 (.inl h2),fun q hq=> ?_⟩
    rcases (Q q).1 hq with hq|hq
    ·exact ag q hq
    have Z:=gy.mem h2;rw [fT] at Z;exact Nat.le_of_lt (Y p (by simp only [List.mem_cons];exact .inr Z) q (aj q hq))
   |none=>
    rw [show ([]:List (ae×Nat)).map Prod.fst=[] from rfl,ab] at J;simp only;have ak:∀q,¬gy o4 Prod.snd [] (t.rels.map fun r=>(r.name,r.place)) q:=by
     rcases J with ⟨_,h⟩|⟨ad,h1,_⟩
     ·exact h
     simp only [k7] at h1;omega
    have ac:=zo bs (A++[t]) al;rw [cK] at ac;refine ac.congr (fun q=> ?_);rw [Q q];exact ⟨.inr,fun h=>h.elim (fun h=>absurd h (ak q)) id⟩
  simp only [if_true];rw [dh] at I;obtain ⟨y,D,hl⟩:=I;exact .inr ⟨t.place,rfl,.inl (gy.cons.2 (.inl ⟨⟨y,D,(bz _ _).1 hl⟩,rfl⟩)),ah⟩
def gy.map{α β:Type}{like:α->α->Prop}{zt:β->β->Prop}{pl:α->Nat}{kM:β->Nat}(f:α->β)(h1:∀y x,like y x↔zt (f y) (f x))(h2:∀x,pl x=kM (f x))(q):∀(l acc:List α),gy like pl acc l q↔gy zt kM (acc.map f) (l.map f) q
 | [],acc=>⟨fun h=>absurd h gy.nil,fun h=>absurd h gy.nil⟩
 |x::l,acc=>by
  have C:=gy.map f h1 h2 q l (acc++[x]);rw [cK] at C;rw [bZ,gy.cons,gy.cons,C,h2 x];have key:(∃y∈acc,like y x)↔∃y∈acc.map f,zt y (f x):=by
   constructor
   ·rintro ⟨y,A,h⟩;exact ⟨f y,aU.2 ⟨y,A,rfl⟩,(h1 y x).1 h⟩
   rintro ⟨y,A,h⟩;obtain ⟨z,D,rfl⟩:=aU.1 A;exact ⟨z,D,(h1 z x).2 h⟩
  rw [key]
  rfl
def tri(x:RV):ae×ae×Nat:=(x.kd,x.nm,x.pl)
def YF(p:ae×Rl):ae×ae×Nat:=(p.1,p.2.name,p.2.place)
def dc.tri{pl:List PV}:∀(rl:List RV) (ps:List (ae×Rl)),dc pl rl ps->rl.map tri=ps.map YF
 | [],[],_=>rfl
 |x::xs,p::ps,h=>by
  obtain ⟨⟨h1,h2,A,_⟩,C⟩:=h;rw [bZ,bZ,dc.tri xs ps C];unfold Go.Proofs.YtlbpnlngckgcbaaGreatDoor.tri YF;rw [h1,h2,A]
 | [],_::_,h=>h.elim
 |_::_,[],h=>h.elim
def Hq{kl}(h:tO pl kl rl ts)(ho:(gQ ts).Pairwise (· < ·)):v6 kl rl=k7 (CB [] ts):=by
 refine (Bs kl rl).unique ((zo ts [] ho).congr (fun q=> ?_));have e1:=gy.map (like:=v8) (zt:=o4) (pl:=Ty.place) (kM:=Prod.snd) (fun t:Ty=>(t.name,t.place)) (fun y x=>Iff.rfl) (fun x=>rfl) q ts [];have A:=gy.map (like:=D5) (zt:=fun (y x:ae×ae×Nat)=>y.1=x.1/\y.2.1=x.2.1) (pl:=RV.pl) (kM:=fun x=>x.2.2) tri (fun y x=>Iff.rfl) (fun x=>rfl) q rl [];have C:=gy.map (like:=qD) (zt:=fun (y x:ae×ae×Nat)=>y.1=x.1/\y.2.1=x.2.1) (pl:=Ue) (kM:=fun x=>x.2.2) YF (fun y x=>Iff.rfl) (fun x=>rfl) q (bx ts) [];rw [dc.tri rl _ h.2] at A;rw [h.1];simp only [pz] at e1 A C
 show gy v8 Ty.place [] ts q\/gy qD Ue (bx []) (bx ts) q↔_
 rw [show bx []=[] from rfl,e1,C,A]
abbrev sj:=@List.pairwise_map
abbrev dW:=@Except.ok.injEq
def Bt (h:aD:=by
 simp only [dW,Prod.mk.injEq] at h;obtain ⟨rfl,rfl⟩:=h;exact ⟨[],au,ai,ji.nil _ _ _⟩):aD:=h
def Qy (h:aD:=by
 split at h
 ·simp at h
 exact Qz):aD:=h
def Qz (h:aD:=by
 simp only [dW,Prod.mk.injEq] at h;rw [<-h.1];exact ji.nil _ _ _):aD:=h
def ji(P:Nat->Nat)(lo hi:Nat)(l:List Nat):Prop:=∃ks:List Nat,l=ks.map P/\ks.Pairwise (· < ·)/\∀k∈ks,lo<=k/\k<hi
def ji.nil(P lo hi):ji P lo hi []:=⟨[],rfl,by simp,by simp⟩
def ji.one(P)(h1:lo<=k)(h2:k<hi):ji P lo hi [P k]:=⟨[k],rfl,by simp,by simp;omega⟩
def ji.app{P mid l1 l2}(h:ji P lo mid l1)(k:ji P mid hi l2)(h1:lo<=mid)(h2:mid<=hi):ji P lo hi (l1++l2):=by
 obtain ⟨a,rfl,D,C⟩:=h;obtain ⟨c,rfl,c1,c2⟩:=k;refine ⟨a++c,by rw [cK],?_,?_⟩
 ·rw [List.pairwise_append];exact ⟨D,c1,fun x A y I=>by have:=(C x A).2;have:=(c2 y I).1;omega⟩
 intro x A
 rcases aW.1 A with A|A
 ·have:=C x A;omega
 have:=c2 x A;omega
def ji.wide{P lo' hi' l}(h:ji P lo hi l)(h1:lo'<=lo)(h2:hi<=hi'):ji P lo' hi' l:=by
 obtain ⟨a,rfl,A,C⟩:=h;exact ⟨a,rfl,A,fun x D=>by have:=C x D;omega⟩
def ji.sorted{P l}(h:ji P lo hi l)(D:∀i j,i<j->j<hi->P i<P j):l.Pairwise (· < ·):=by
 obtain ⟨a,rfl,A,C⟩:=h;rw [sj];refine List.Pairwise.imp_of_mem (fun {x y} Q J I=>D x y I (C y J).2) A
section
variable (T:Nat->ae)(P:Nat->Nat)
def wb(i:Nat)(r:Rl)(j:Nat)(h:kS T P i=.ok (r,j)):r.place=P i/\i<j:=by
 refine ⟨?_,og T P _ _ _ h⟩;unfold kS at h
 split at h
 ·simp at h
 split at h
 ·simp at h
 split at h
 ·simp only [dW,Prod.mk.injEq] at h;rw [<-h.1]
 simp at h
def zu:∀(f:Nat)(acc:List Rl)(i:Nat)(rs:List Rl)(m:Nat),dj T P f acc i=.ok (rs,m)->∃new,rs=acc++new/\i<m/\ji P i m (new.map fun r=>r.place)
 |0,acc,i,rs,m,h=>by simp [dj] at h
 |f+1,acc,i,rs,m,h=>by
  unfold dj at h
  split at h
  ·exact Bt
  split at h
  ·simp at h
  split at h
  ·simp at h
  rename_i r j C;obtain ⟨h1,h2⟩:=wb T P i r j C;obtain ⟨new,rfl,D,A⟩:=zu f _ _ _ _ h;refine ⟨r::new,au,ai,?_⟩;have:=(ji.one P (lo:=i) (hi:=j) (bV i) h2).app A ai ai;rw [bZ,h1];exact this
def pP:∀(f:Nat)(acc:List Ty)(i:Nat)(ts:List Ty)(m:Nat),cR T P f acc i=.ok (ts,m)->∃new,ts=acc++new/\i<=m/\ji P i m (gQ new)
 |0,acc,i,ts,m,h=>by simp [cR] at h
 |f+1,acc,i,ts,m,h=>by
  unfold cR at h
  split at h
  ·exact Bt
  split at h
  ·simp at h
  split at h
  ·simp at h
  rename_i t j A;obtain ⟨new,rfl,U,I⟩:=pP f _ _ _ _ h;rw [kw] at A
  split at A
  ·unfold mR at A
   split at A
   ·simp at A
   rename_i u R hn;have Y:=fN T _ _ _ _ hn
   split at A
   ·simp at A
   rename_i rs Z Q;simp only [dW,Prod.mk.injEq] at A;obtain ⟨rfl,rfl⟩:=A;obtain ⟨rn,e,V,J⟩:=zu T P _ _ _ _ _ Q;rw [List.nil_append] at e;subst e;refine ⟨⟨T (i+1),P (i+1),rs⟩::new,au,ai,?_⟩;have C:=ji.one P (lo:=i) (hi:=R) (k:=i+1) ai ai;have D:=(C.app J ai ai).app I ai ai
   simpa [gQ] using D
  simp at A
def k8:Ex->List Nat
 |⟨n,some x,some y⟩=>k8 x++n.place::k8 y
 |⟨_,none,_⟩=>[]
 |⟨_,some _,none⟩=>[]
def LZ(r:Nat->eJ Ex):Prop:=∀i x j,r i=.ok (x,j)->ji P i j (k8 x)
def zv(l:List ae)(part:Nat->eJ Ex)(A:j7 part)(C:LZ P part):∀f y i0 i x j,joinL T P l part f y i=.ok (x,j)->i0<=i->ji P i0 i (k8 y)->ji P i0 j (k8 x)
 |0,y,i0,i,x,j,h,_,_=>by simp [joinL] at h
 |f+1,y,i0,i,x,j,h,h0,ha=>by
  unfold joinL at h
  split at h
  ·split at h
   ·simp at h
   rename_i z Q D;have h1:=A _ _ _ D;refine zv l part A C f _ i0 Q x j h ai ?_;simp only [dE,k8];have I:=ha.app (ji.one P (lo:=i) (hi:=i+1) (bV i) ai) h0 ai;have J:=I.app (C _ _ _ D) ai ai
   simpa using J
  simp only [dW,Prod.mk.injEq] at h;obtain ⟨rfl,rfl⟩:=h;exact ha
def ou(l:List ae)(part:Nat->eJ Ex)(A:j7 part)(C:LZ P part):LZ P (eT T P l part):=by
 intro i x j h;unfold eT at h
 split at h
 ·simp at h
 rename_i y I D;have h1:=A _ _ _ D;exact zv T P l part A C _ _ i I x j h ai (C _ _ _ D)
def zw(I:Bool)(A:Nat->eJ Ex)(J:j7 A)(C:LZ P A):LZ P (eQ T P I A):=by
 intro i x j h;unfold eQ at h
 split at h
 ·unfold j4 at h;exact Qy
 split at h
 ·split at h
  ·split at h
   ·simp at h
   rename_i y Q D
   split at h
   ·simp only [dW,Prod.mk.injEq] at h;obtain ⟨rfl,rfl⟩:=h;exact (C _ _ _ D).wide ai ai
   simp at h
  simp at h
 unfold hY at h
 split at h
 ·simp at h
 split at h
 ·exact Qy
 exact Qz
def zx:∀n,LZ P (fq T P n)
 |0=>ou T P _ _ (hD T P false _ (fun i x j h=>by simp at h)) (ou T P _ _ (j8 T P false _ (fun i x j h=>by simp at h)) (zw T P false _ (fun i x j h=>by simp at h) (fun i x j h=>by simp at h)))
 |n+1=>ou T P _ _ (hD T P true _ (gT T P n)) (ou T P _ _ (j8 T P true _ (gT T P n)) (zw T P true _ (gT T P n) (zx n)))
end
def QO(kl:List (ae×Nat))(rl:List RV)(pl:List PV)(ts:List Ty):Prop:=
 ∃(h:Nat->List Gr)(A:Nat->List Nat)(D:RV->Nat->Prop)(C:RV->Nat->Nat),nL rl pl h/\YG rl pl A/\v6 kl rl=k7 (CB [] ts)/\(CB [] ts=none->kz kl rl pl h A=ff (gX ts) ts/\(ff (gX ts) ts=none->k9 rl pl h A/\(∀x∈rl,HC rl pl h A x (D x) (C x))/\loopsR rl pl h A C rl 0 (-1)=k7 (ff (jE ts) ts)))
def QP(s:ae)(w:af)(e:Ending)(w':af):Prop:=an w w'/\(match dI (TT s) (PP s) with
 | .error (c,jj)=>c≠0/\e=bj (.tuple #[.pointer none,ar c,ar (PP s jj)])
 | .ok (ts,m)=>match eB ts with
  |some (p,c)=>e=bj (.tuple #[.pointer none,ar c,ar p])
  |none=>∃b kv rv pv kl rl pl l,e=bj (.tuple #[.pointer (some (aC b 5)),ar 0,ar 0])/\DM w' b kv rv pv kl rl pl l/\tO pl kl rl ts/\Gd s m/\(∃cs,aL w' b cs 252)/\∀x∈l,jP w.heap.size x)
def RM.dm{e kl l}(h:RM base w b s tv i d e a kv rv pv kl rl pl l)(h1:kl.length<=5)(h2:rl.length<=500)(A:pl.length<=500):DM w b kv rv pv kl rl pl l:=by
 obtain ⟨_,_,_,_,_,c5,c6,c7⟩:=h.rs.blk.eight;exact ⟨c5,c6,c7,fy h.kt,fy h.rt,⟨h.pt.fst,fy h.pt.row,h.pt.rep⟩,h1,h2,A⟩
def wk(s w)(hs:500<s.size):Calls prog 80 #[aj s] w fun e w'=>e=bj (.tuple #[.pointer none,ar 1,ar 0])/\an w w':=by
 go_enter func80,ntmps80;go_wp2;go_ret3;exact ⟨rfl,aA _ _⟩
def L7(s w)(hs:s.size<=500)(aI:∀kl rl pl ts m,dI (TT s) (PP s)=.ok (ts,m)->Gd s m->tO pl kl rl ts->QO kl rl pl ts):Calls prog 80 #[aj s] w (QP s w):=by
 have C:=CY s w hs;go_enter func80,ntmps80;go_wp2_with fail;refine C.mono ?_;rintro e w1 ⟨v,rfl,ac,al⟩;obtain ⟨ta,tc,rfl⟩:=ax al;have aM:=ac.alloc ac.size (.cells #[aw ta (jz s).length tc,ar 0,ar 0,ar 0,ar 0,aw none 0 0,aw none 0 0,aw none 0 0] 252);have aX:=ac.size;have aK:=(show RM w.heap.size (w1.alloc (.cells #[aw ta (jz s).length tc,ar 0,ar 0,ar 0,ar 0,aw none 0 0,aw none 0 0,aw none 0 0] 252)) w1.heap.size s (aw ta (jz s).length tc) 0 0 0 0 (aw none 0 0) (aw none 0 0) (aw none 0 0) [] [] [] [] from
  ⟨⟨aL.new w1 _ _,fy (al.alloc _),fun j a6=>ai,⟨⟨_,_,_,rfl⟩,⟨_,_,_,rfl⟩,⟨_,_,_,rfl⟩⟩,hs⟩,⟨rfl,bQ,au⟩,bQ,bQ,au⟩)
 have az:=Hi w.heap.size w1.heap.size s _ _ _ _ [] _ aK aX aS;go_wp2_with fail;refine az.mono ?_;rintro e a1 ⟨rfl,aQ,kv,rv,pv,kl,rl,pl,l,j,aN,a3,I,Z⟩;have Y:=aM.trans aQ;have an:=Y.size;obtain ⟨a8,a9,ba,r3,bb,bc,be,bg⟩:=I.rs.blk.eight;generalize a4:w1.heap.size=b at*
 cases A:dI (TT s) (PP s) with
 |error er=>
  obtain ⟨c,a7⟩:=er;rw [A] at Z;obtain ⟨hc,rfl,rfl⟩:=Z;have a5:¬((aN:Int)=0):=ai;go_wp2
  go_quiet (fail)
  go_wp2;go_ret3;exact ⟨below_drewN Y _,by rw [A];exact ⟨ai,rfl⟩⟩
 |ok y=>
  obtain ⟨ts,m⟩:=y;rw [A] at Z;obtain ⟨rfl,rfl,h1,h2,aO,ak⟩:=Z;obtain ⟨af,am,aJ,a0,ah,aP,aZ,aU⟩:=aI kl rl pl ts _ A I.rs.gd ak;have ag:=I.dm h1 h2 aO;have aE:=I.rs.gd;have aB:=I.rs.blk;have aC:=I.fh;have C:=Hg b kv rv pv kl rl pl l a1 ag;rw [aZ] at C
  cases D:CB [] ts with
  |some p=>
   rw [D] at C;unfold k7 at C;simp only at C;go_wp2_with fail;refine C.mono ?_;rintro e ay ⟨rfl,R⟩;have J:=Y.trans (R.mono an);go_wp2;go_ret3;exact ⟨J,by rw [A];simp only [eB,D];rfl⟩
  |none=>
   rw [D] at C;obtain ⟨aT,aV⟩:=aU D;unfold k7 at C;simp only at C;go_wp2_with fail;refine C.mono ?_;rintro e ay ⟨rfl,R⟩;have J:=Y.trans (R.mono an);have ap:=J.size;have ad:=ag.below R;have aF:=aB.below R;have C:=Hr b kv rv pv kl rl pl l af am ay ad ah aP;rw [aT] at C
   cases hn:ff (gX ts) ts with
   |some p=>
    rw [hn] at C;unfold k7 at C;simp only at C;go_wp2_with fail;refine C.mono ?_;rintro e w5 ⟨rfl,U⟩;have Q:=J.trans (U.mono ap);go_wp2;go_ret3;exact ⟨Q,by rw [A];simp only [eB,D,hn];rfl⟩
   |none=>
    rw [hn] at C;obtain ⟨aW,aY,aR⟩:=aV hn;unfold k7 at C;simp only at C;go_wp2_with fail;refine C.mono ?_;rintro e w5 ⟨rfl,U⟩;have Q:=J.trans (U.mono ap);have av:=Q.size;have ae:=ad.below U;have aG:=aF.below U;have C:=HJ b kv rv pv kl rl pl l af am aJ a0 w5 ae ah aW aY;rw [aR] at C
    cases hl:ff (jE ts) ts with
    |some p=>
     rw [hl] at C;unfold k7 at C;simp only at C;go_wp2_with fail;refine C.mono ?_;rintro e a2 ⟨rfl,V⟩;have ab:=Q.trans (V.mono av);go_wp2;go_ret3;exact ⟨ab,by rw [A];simp only [eB,D,hn,hl];rfl⟩
    |none=>
     rw [hl] at C;unfold k7 at C;simp only at C;go_wp2_with fail;refine C.mono ?_;rintro e a2 ⟨rfl,V⟩;have ab:=Q.trans (V.mono av);have aA:=ae.below V;have aH:=aG.below V;go_wp2;go_ret3;exact ⟨ab,by rw [A];simp only [eB,D,hn,hl];exact ⟨b,kv,rv,pv,kl,rl,pl,l,rfl,aA,ak,aE,⟨_,aH⟩,aC⟩⟩
def QQ (h:aD:=by
 cases e:eqs g.rel (sg 42)
 ·rfl
 rw [(bz _ _).1 e,zz] at h2;cases h2):aD:=h
def QS (h:aD:=by
 rcases List.mem_cons.1 hx with rfl|hx
 ·exact hn
 exact fun hm=>h1 x hx JU):aD:=h
def HK (h:aD:=by
 cases e:eqs g.rel em
 ·rfl
 rw [(bz _ _).1 e,JX] at h2;cases h2):aD:=h
structure et(ts:List Ty):Prop where
 ty:ts.Pairwise fun t u=>t.name≠u.name
 rl:∀t∈ts,t.rels.Pairwise fun r q=>r.name≠q.name
def Eb:∀(l:List (ae×Nat)) (ah:List ae),Uc ah l=none->(∀x∈l,x.1∉ah)/\l.Pairwise fun x y=>x.1≠y.1
 | [],ah,_=>⟨au,au⟩
 |(n,p)::l,ah,h=>by
  rw [Uc] at h
  cases A:(ah.any fun m=>eqs m n)
  ·rw [A] at h;simp only [bJ,a8] at h;obtain ⟨h1,h2⟩:=Eb l _ h;have hn:n∉ah:=fun hm=>by
    rw [jy] at A;exact A n hm ((bz _ _).2 rfl)
   refine ⟨fun x hx=> ?_,?_⟩
   ·exact QS
   rw [ky];exact ⟨fun y C e=>h1 y C (by simp at e;simp [e]),h2⟩
  rw [A] at h;simp at h
def lG:∀(l:List Ty)(ah:List ae),CB ah l=none->(∀t∈l,t.name∉ah)/\et l
 | [],ah,_=>⟨au,au,au⟩
 |t::l,ah,h=>by
  rw [CB] at h
  cases A:(ah.any fun m=>eqs m t.name)
  ·rw [A] at h;simp only [bJ,a8] at h;have hn:t.name∉ah:=fun hm=>by
    rw [jy] at A;exact A _ hm ((bz _ _).2 rfl)
   unfold twR at h
   cases C:Uc [] (t.rels.map fun r=>(r.name,r.place)) with
   |some p=>rw [C] at h;simp at h
   |none=>
    rw [C] at h;simp only at h;obtain ⟨h1,h2⟩:=lG l _ h;obtain ⟨_,D⟩:=Eb _ _ C;rw [sj] at D;refine ⟨fun x hx=> ?_,?_,?_⟩
    ·exact QS
    ·rw [ky];exact ⟨fun y I e=>h1 y I (by rw [<-e];simp),h2.ty⟩
    intro x hx
    rcases List.mem_cons.1 hx with rfl|hx
    ·exact D
    exact h2.rl x hx
  rw [A] at h;simp at h
def dq(h:et ts)(I:t∈ts):bX ts t.name=some t:=by
 unfold bX;obtain ⟨A,B,rfl⟩:=rI I;have C:=h.ty;rw [List.pairwise_append,ky] at C;rw [List.find?_append];have:A.find? (fun u=>eqs u.name t.name)=none:=by
  rw [List.find?_eq_none];intro u J D;exact C.2.2 u J t au ((bz _ _).1 D)
 rw [this];simp [(bz t.name t.name).2 rfl]
def pQ(h:t.rels.Pairwise fun r q=>r.name≠q.name)(D:r∈t.rels):b9 t r.name=some r:=by
 unfold b9;obtain ⟨A,B,e⟩:=rI D;rw [e] at h ⊢;rw [List.pairwise_append,ky] at h;rw [List.find?_append];have:A.find? (fun u=>eqs u.name r.name)=none:=by
  rw [List.find?_eq_none];intro u I C;exact h.2.2 u I r au ((bz _ _).1 C)
 rw [this];simp [(bz r.name r.name).2 rfl]
def cw{k}(h:bX ts k=some t):t∈ts/\t.name=k:=⟨gH h,(bz _ _).1 (List.find?_some (p:=fun t:Ty=>eqs t.name k) h)⟩
def cF{n}(h:b9 t n=some r):r∈t.rels/\r.name=n:=⟨gH h,(bz _ _).1 (List.find?_some (p:=fun r:Rl=>eqs r.name n) h)⟩
def wl{pl}(k n):∀(rl:List RV) (ps:List (ae×Rl)) (i:Nat),dc pl rl ps->(bi k n rl i= -1/\∀p∈ps,¬(p.1=k/\p.2.name=n))\/∃j p,bi k n rl i=((i+j:Nat):Int)/\ps[j]? =some p/\p.1=k/\p.2.name=n
 | [],[],i,_=> .inl ⟨rfl,au⟩
 |x::rl,p::ps,i,h=>by
  obtain ⟨⟨h1,h2,_,_⟩,I⟩:=h;rw [bi]
  by_cases A:(eqs x.kd k&&eqs x.nm n)=true
  ·rw [if_pos A];rw [bP,bz,bz] at A;exact .inr ⟨0,p,au,au,h1▸A.1,h2▸A.2⟩
  rw [if_neg A]
  rcases wl k n rl ps (i+1) I with ⟨e,R⟩|⟨j,q,e,J,Q⟩
  ·refine .inl ⟨e,fun q C=> ?_⟩
   rcases List.mem_cons.1 C with rfl|C
   ·rintro ⟨e1,D⟩;exact A (by rw [bP,bz,bz,h1,h2];exact ⟨e1,D⟩)
   exact R q C
  exact .inr ⟨j+1,q,by rw [e];omega,by simpa using J,Q⟩
 | [],_::_,_,h=>h.elim
 |_::_,[],_,h=>h.elim
def dz{p:ae×Rl}:p∈bx ts↔∃t∈ts,t.name=p.1/\p.2∈t.rels:=by
 unfold bx;rw [b6]
 constructor
 ·rintro ⟨t,A,C⟩;obtain ⟨r,h,rfl⟩:=aU.1 C;exact ⟨t,A,rfl,h⟩
 rintro ⟨t,A,e,h⟩;exact ⟨t,A,aU.2 ⟨p.2,h,by rw [e]⟩⟩
def cS(A:et ts)(J:dc pl rl (bx ts))(k n):
  (bi k n rl 0= -1/\∀t,bX ts k=some t->b9 t n=none)\/∃(j:Nat)(t:Ty)(r:Rl),bi k n rl 0=j/\bX ts k=some t/\b9 t n=some r/\(bx ts)[j]? =some (k,r):=by
 rcases wl k n rl _ 0 J with ⟨e,U⟩|⟨j,p,e,C,h1,h2⟩
 ·refine .inl ⟨e,fun t h=> ?_⟩
  cases V:b9 t n with
  |none=>rfl
  |some r=>
   obtain ⟨R,Q⟩:=cw h;obtain ⟨Y,hn⟩:=cF V;exact absurd ⟨rfl,hn⟩ (U (k,r) (dz.2 ⟨t,R,Q,Y⟩))
 ·obtain ⟨t,h,D,I⟩:=dz.1 (bG C);refine .inr ⟨j,t,p.2,by simpa using e,?_,?_,?_⟩
  ·rw [<-h1,<-D];exact dq A h
  ·rw [<-h2];exact pQ (A.rl t h) I
  rw [C,<-h1]
def zA(x):((ts.map fun t=>(t.name,t.place)).any fun k=>eqs k.1 x)=(bX ts x).isSome:=by
 unfold bX;exact Ph
def iB(g:Gr):Prop:=(g.reach=0/\g.rel=em)\/g.reach=1\/(g.reach=2/\dC g.rel=true)
def JX:dC em=false:=by decide
def zz:dC (sg 42)=false:=by decide
def ow{g}(h:g.reach=2):bH g=g.rel:=by unfold bH;rw [if_neg ai]
def Ec(J:et ts)(Q:dc pl rl (bx ts))(g)(R:iB g):oM (ts.map fun t=>(t.name,t.place)) rl g=l7 ts g:=by
 unfold oM l7;rw [zA]
 cases C:bX ts g.ty with
 |none=>simp
 |some t=>
  simp only [Option.isSome_some,Bool.true_eq_false,a8]
  rcases R with ⟨h1,h2⟩|h1|⟨h1,h2⟩
  ·have e:bH g=em:=by unfold bH;rw [if_neg ai,h2]
   rw [e,(bz em em).2 rfl,h1];simp
  ·have e:bH g=sg 42:=by unfold bH;rw [if_pos h1]
   rw [e,(bz (sg 42) (sg 42)).2 rfl,h1];simp
  rw [ow h1,h1];have e1:eqs g.rel em=false:=by
   exact HK
  have D:eqs g.rel (sg 42)=false:=by
   exact QQ
  rw [e1,D]
  rcases cS J Q g.ty g.rel with ⟨e,U⟩|⟨j,V,r,e,A,I,_⟩
  ·rw [e,U t C];simp
  rw [C] at A;simp only [aR] at A;subst A;rw [e,I];have:¬((j:Int)<0):=ai;simp [this]
def qF (h:aD:=by
 simp [hr]):aD:=h
def HM (h:aD:=by
 unfold eH;rw [hx,dv];exact so _ _ (eg pl F _ _ htr)):aD:=h
def wm{α β:Type}{f g:α->List β}:∀{l:List α},(∀a∈l,f a=g a)->l.flatMap f=l.flatMap g
 | [],_=>rfl
 |a::l,h=>by
  rw [bN,bN,h a au,wm (fun b A=>h b (by simp [A]))]
def Tr.kids{x p}(h:Tr pl (f+1) n x)(Q:pl[n]? =some p):∀m∈p.ps,∃y,Tr pl f m y:=by
 obtain ⟨V,C,h⟩:=h;rw [Q] at C;simp only [aR] at C;subst C;intro m hm
 rcases h with ⟨h1,hn,h2⟩|⟨h1,h0,hn,h2⟩|⟨h1,h0,hn,h2⟩|⟨h1,h0,R,ns,x0,rs,h3,h4,h5,D,I,J⟩|⟨h1,h0,U,R,ns,x0,rs,h3,h4,h5,D,I,J⟩
 ·rw [hn.1] at hm;simp at hm
 ·rw [hn.1] at hm;simp at hm
 ·rw [hn.1] at hm;simp at hm
 ·exact Bl
 exact Bl
def wn(pl):∀(f n:Nat)(x:Ex),Tr pl f n x->aJ pl (f+1) n=aJ pl f n
 |0,_,_,h=>h.elim
 |f+1,n,x,h=>by
  obtain ⟨p,A,_⟩:=id h;have C:=h.kids A;rw [aJ,aJ,A];simp only
  split
  ·exact wm (fun m D=>by obtain ⟨y,I⟩:=C m D;exact wn pl f m y I)
  rfl
def kA(pl){x}(h:Tr pl f n x)(hF:f<=F):aJ pl F n=aJ pl f n:=by
 obtain ⟨d,rfl⟩:=Nat.exists_eq_add_of_le hF;clear hF
 induction d with
 |zero=>rfl
 |succ d ih=>rw [<-ih];exact wn pl _ _ _ (Tr.le pl (Nat.le_add_right f d) h)
def cT(pl:List PV)(F:Nat):List RV->List (ae×Rl)->Prop
 | [],[]=>True
 |x::xs,p::ps=>(x.kd=p.1/\x.nm=p.2.name/\x.pl=p.2.place/\Tr pl F x.ex p.2.body)/\cT pl F xs ps
 |_,_=>False
def cT.le{pl F G}(h:F<=G):∀(xs:List RV) (ps:List (ae×Rl)),cT pl F xs ps->cT pl G xs ps
 | [],[],_=>trivial
 |x::xs,p::ps,k=>⟨⟨k.1.1,k.1.2.1,k.1.2.2.1,Tr.le pl h k.1.2.2.2⟩,cT.le h xs ps k.2⟩
 | [],_::_,k=>k.elim
 |_::_,[],k=>k.elim
def dc.fuel{pl:List PV}:∀(xs:List RV) (ps:List (ae×Rl)),dc pl xs ps->∃F,cT pl F xs ps
 | [],[],_=>⟨0,trivial⟩
 |x::xs,p::ps,h=>by
  obtain ⟨F,hF⟩:=dc.fuel xs ps h.2;obtain ⟨⟨h1,h2,A,f,C⟩,_⟩:=h;exact ⟨F+f,⟨h1,h2,A,Tr.le pl ai C⟩,cT.le ai xs ps hF⟩
 | [],_::_,h=>h.elim
 |_::_,[],h=>h.elim
def cT.get{pl:List PV}{F:Nat}:∀(xs:List RV) (ps:List (ae×Rl)) (j:Nat) (p:ae×Rl),cT pl F xs ps->ps[j]? =some p->∃x,xs[j]? =some x/\x.kd=p.1/\x.nm=p.2.name/\x.pl=p.2.place/\Tr pl F x.ex p.2.body
 | [],[],j,p,_,h=>by simp at h
 |x::xs,q::ps,0,p,k,h=>by
  simp only [List.getElem?_cons_zero,aR] at h;subst h;exact ⟨x,rfl,k.1⟩
 |x::xs,q::ps,j+1,p,k,h=>by
  rw [vo] at h;obtain ⟨y,C,A⟩:=cT.get xs ps j p k.2 h;exact ⟨y,by simpa using C,A⟩
 | [],_::_,_,_,k,_=>k.elim
 |_::_,[],_,_,k,_=>k.elim
def eH(rl:List RV)(pl:List PV)(h:Nat->List Nat)(r:Nat):List Gr:=match rl[r]? with
 |some x=>(h x.ex).flatMap (jK pl)
 |none=>[]
def ox{e}(h:Tr pl 1 n e):jK pl n=eM e:=by
 obtain ⟨p,C,h⟩:=h;unfold jK;rw [C]
 rcases h with ⟨h1,hn,rfl⟩|⟨h1,h0,hn,rfl⟩|⟨h1,h0,hn,rfl⟩|⟨_,_,_,_,_,_,_,A,_⟩|⟨_,_,_,_,_,_,_,_,A,_⟩
 ·simp [eM]
 ·simp [eM,h0]
 ·simp [eM,h0]
 ·exact A.elim
 exact A.elim
def so{pl:List PV}:∀(ns:List Nat)(A:List Ex),cu (Tr pl 1) ns A->ns.flatMap (jK pl)=A.flatMap eM
 | [],[],_=>rfl
 |n::ns,e::A,h=>by rw [bN,bN,ox h.1,so ns A h.2]
 | [],_::_,h=>h.elim
 |_::_,[],h=>h.elim
def dv:∀(x:Ex),bR x=(aO x).flatMap eM
 |⟨n,some x,some y⟩=>by
  have h1:=dv x;have h2:=dv y;unfold bR at*;simp only [aF,aO,cN,bN,jF,dS,h1,h2];simp [eM]
 |⟨n,none,r⟩=>by simp [bR,aF,aO]
 |⟨n,some x,none⟩=>by simp [bR,aF,aO]
def mB{β:Type}(f:Ex->Option β)(h:∀e,e.l.isSome=true->f e=none):∀(x:Ex),(aF x).findSome? f=(aO x).findSome? f
 |⟨n,some x,some y⟩=>by
  have h1:=mB f h x;have h2:=mB f h y;simp only [aF,aO,rS,h1,h2,List.findSome?_cons,List.findSome?_nil];rw [h ⟨n,some x,some y⟩ rfl];simp
 |⟨n,none,r⟩=>by simp [aF,aO]
 |⟨n,some x,none⟩=>by simp [aF,aO]
def wo(ts:List Ty):Prop:=∀t∈ts,∀r∈t.rels,∀e∈aO r.body,∀g∈eM e,iB g
def Ed(J:et ts)(Q:dc pl rl (bx ts))(y g)(R:iB g):
  (hQ rl y g=[]/\iM ts y g=none)\/∃(j:Nat)(u:Ty)(r:Rl),hQ rl y g=[j]/\iM ts y g=some u/\b9 u y=some r/\(bx ts)[j]? =some (u.name,r):=by
 unfold hQ iM
 rcases R with ⟨h1,h2⟩|h1|⟨h1,h2⟩
 ·have e:bH g=em:=by unfold bH;rw [if_neg ai,h2]
  rw [e,(bz em em).2 rfl,if_pos h1]
  rcases cS J Q g.ty y with ⟨e1,U⟩|⟨j,t,r,e1,C,D,I⟩
  ·refine .inl ⟨by rw [e1];simp,?_⟩
   cases V:bX ts g.ty with
   |none=>rfl
   |some u=>simp [U u V]
  refine .inr ⟨j,t,r,by rw [e1];simp,?_,D,?_⟩
  ·rw [C];simp [D]
  rw [(cw C).2];exact I
 ·have e:bH g=sg 42:=by unfold bH;rw [if_pos h1]
  have A:¬(g.reach=0):=ai;exact .inl ⟨by rw [e];simp [show eqs (sg 42) em=false from by decide],if_neg A⟩
 ·have A:¬(g.reach=0):=by omega
  have e1:eqs g.rel em=false:=by
   exact HK
  exact .inl ⟨by rw [ow h1];simp [e1],if_neg A⟩
def wq{pl rl ts}(C:et ts)(D:dc pl rl (bx ts))(y):∀(G:List Gr),(∀g∈G,iB g)->(fA rl y G=[]↔(G.filterMap (iM ts y)).length=0)
 | [],_=>by simp [fA]
 |g::G,h=>by
  have J:=wq C D y G (fun g I=>h g (by simp [I]));unfold fA at*;rw [bN,List.filterMap_cons]
  rcases Ed C D y g (h g au) with ⟨e1,A⟩|⟨j,u,r,e1,A,_⟩
  ·rw [e1,A,List.nil_append];exact J
  rw [e1,A];simp
def QT(C:et ts)(D:dc pl rl (bx ts))(hF:cT pl F rl (bx ts))(R:wo ts)(t)(I:t∈ts)(n e)(h:Tr pl 1 n e)(Z:∀g∈eM e,iB g):
  qE (ts.map fun t=>(t.name,t.place)) rl pl (eH rl pl (aJ pl F)) t.name n=gC ts t e:=by
 obtain ⟨p,af,h⟩:=h;unfold qE;rw [af];simp only;unfold Hm
 rcases h with ⟨h1,hn,rfl⟩|⟨h1,h0,hn,rfl⟩|⟨h1,h0,hn,rfl⟩|⟨_,_,_,_,_,_,_,A,_⟩|⟨_,_,_,_,_,_,_,_,A,_⟩
 ·have key:∀(l:List Gr),(∀g∈l,iB g)->l.findSome? (oM (ts.map fun t=>(t.name,t.place)) rl)=l.findSome? (l7 ts):=by
   intro l hl
   induction l with
   |nil=>rfl
   |cons a l ih=>rw [gI,gI,Ec C D a (hl a au),ih (fun g R=>hl g (by simp [R]))]
  rw [key p.gs (by simpa [eM] using Z)];simp only [gC,if_true,oV,h1]
  cases p.gs.findSome? (l7 ts)<;>simp
 ·simp only [h0,List.findSome?_nil,h1,if_true,gC,Nat.reduceEqDiff,a8]
  rcases cS C D t.name p.nr with ⟨e1,U⟩|⟨j,ah,r,e1,A,J,_⟩
  ·rw [e1,U t (dq C I)];simp
  rw [dq C I] at A;simp only [aR] at A;subst A;have:¬((j:Int)<0):=ai;rw [e1,J];simp [this]
 ·simp only [h0,List.findSome?_nil,h1,Nat.reduceEqDiff,a8,if_true,gC,Gc]
  rcases cS C D t.name p.nb with ⟨e1,U⟩|⟨j,ah,r,e1,A,J,V⟩
  ·rw [e1,U t (dq C I)];simp
  rw [dq C I] at A;simp only [aR] at A;subst A;have ae:¬((j:Int)<0):=ai;obtain ⟨x,hx,aj,_,_,htr⟩:=cT.get rl _ j _ hF V;have Y:eH rl pl (aJ pl F) j=bR r.body:=by
   exact HM
  have ag:=(cF J).1;have ha:∀g∈bR r.body,iB g:=by
   rw [dv];intro g ac;obtain ⟨e',ab,ad⟩:=b6.1 ac;exact R t I r ag e' ab g ad
  rw [e1,J,if_neg ae,Int.toNat_natCast,Y];simp only
  by_cases Q:fA rl p.nr (bR r.body)=[]
  ·rw [if_pos Q,if_pos ((wq C D p.nr _ ha).1 Q)]
  rw [if_neg Q,if_neg (fun h=>Q ((wq C D p.nr _ ha).2 h))]
 ·exact A.elim
 ·exact A.elim
def ws{pl rl ts F}(C:et ts)(D:dc pl rl (bx ts))(hF:cT pl F rl (bx ts))(I:wo ts)(t)(J:t∈ts):∀(ns:List Nat)(A:List Ex),cu (Tr pl 1) ns A->(∀e∈A,∀g∈eM e,iB g)->
  ns.findSome? (qE (ts.map fun t=>(t.name,t.place)) rl pl (eH rl pl (aJ pl F)) t.name)=A.findSome? (gC ts t)
 | [],[],_,_=>rfl
 |n::ns,e::A,h,he=>by
  rw [gI,gI,QT C D hF I t J n e h.1 (he e au),ws C D hF I t J ns A h.2 (fun e' Q=>he e' (by simp [Q]))]
 | [],_::_,h,_=>h.elim
 |_::_,[],h,_=>h.elim
def HO(ts t e)(h:e.l.isSome=true):gC ts t e=none:=by
 unfold gC
 cases hl:e.l with
 |none=>rw [hl] at h;simp at h
 |some x=>rfl
def wu(N)(g:ae×Rl->Option Nat):∀(ts:List Ty),(∀t∈ts,∀r∈t.rels,g (t.name,r)=N t r)->(bx ts).findSome? g=ff N ts
 | [],_=>rfl
 |t::ts,h=>by
  have C:=wu N g ts (fun t A=>h t (by simp [A]));have e:bx (t::ts)=(t.rels.map fun r=>(t.name,r))++bx ts:=by simp [bx]
  have key:∀(l:List Rl),(∀r∈l,r∈t.rels)->(l.map fun r=>(t.name,r)).findSome? g=l.findSome? (N t):=by
   intro l hl
   induction l with
   |nil=>rfl
   |cons a l ihl=>rw [bZ,gI,gI,h t au a (hl a au),ihl (fun r hr=>hl r qF)]
  rw [e,rS,C,key t.rels (fun r hr=>hr)];unfold ff;rw [gI]
  cases t.rels.findSome? (N t)<;>rfl
def tw(C:et ts)(Y:dc pl rl (bx ts))(hF:cT pl F rl (bx ts))(I:wo ts):
  kz (ts.map fun t=>(t.name,t.place)) rl pl (eH rl pl (aJ pl F)) (aJ pl F)=ff (gX ts) ts:=by
 have h1:∀(xs:List RV) (ps:List (ae×Rl)),(∀p∈ps,p∈bx ts)->cT pl F xs ps->(xs.findSome? fun x=>(aJ pl F x.ex).findSome? (qE (ts.map fun t=>(t.name,t.place)) rl pl (eH rl pl (aJ pl F)) x.kd))=ps.findSome? fun p=>match bX ts p.1 with
   |some t=>gX ts t p.2
   |none=>none:=by
  intro xs
  induction xs with
  |nil=>intro ps _ h;cases ps with
   |nil=>rfl
   |cons p ps=>exact h.elim
  |cons x xs ih=>intro ps J h;cases ps with
   |nil=>exact h.elim
   |cons p ps=>
    obtain ⟨⟨h1,_,_,Q⟩,R⟩:=h;obtain ⟨t,A,D,U⟩:=dz.1 (J p au);have e:(aJ pl F x.ex).findSome? (qE (ts.map fun t=>(t.name,t.place)) rl pl (eH rl pl (aJ pl F)) x.kd)=gX ts t p.2:=by
     rw [h1,<-D,ws C Y hF I t A _ _ (eg pl F _ _ Q) (fun e V=>I t A p.2 U e V)];unfold gX;rw [mB _ (HO ts t)]
    rw [gI,gI,e,ih ps (fun q ab=>J q (by simp [ab])) R,<-D,dq C A]
 unfold kz;rw [h1 rl (bx ts) (fun p Z=>Z) hF];exact wu (gX ts) _ ts (fun t A r ac=>by simp only [dq C A])
def JY (h:aD:=by
 simpa [eM] using hg):aD:=h
def Xw (h:aD:=by
 split at h
 ·split at h
  ·split at h
   ·simp at h
   rename_i y I D
   split at h
   ·simp only [dW,Prod.mk.injEq] at h;rw [<-h.1];exact hp _ _ _ D
   simp at h
  simp at h
 unfold hY at h
 split at h
 ·simp at h
 split at h
 ·split at h
  ·simp at h
  exact QU
 exact QU):aD:=h
def QV (h:aD:=by
 rw [List.nil_append] at e;subst e;exact ha.sorted (fun i j A C=>Xx s j i A (fun k D=>hg k ai))):aD:=h
def QW (h:aD:=by
 simp only [dE,aO,aW] at he
 rcases he with he|he
 ·exact ha e he
 exact hp _ _ _ hz e he):aD:=h
def QX (h:aD:=by
 rcases aW.1 hg with hg|hg
 ·exact ha g hg
 rw [aX] at hg;rw [hg];exact h0):aD:=h
def QY (h:aD:=by
 simp only [dW,Prod.mk.injEq] at h;obtain ⟨rfl,rfl⟩:=h;exact fun r A=> .inl A):aD:=h
def QZ (h:aD:=by
 split at h
 ·simp only [dW,Prod.mk.injEq] at h;rw [<-h.1];exact h1
 simp at h):aD:=h
def QU (h:aD:=by
 simp only [dW,Prod.mk.injEq] at h;rw [<-h.1];intro e A g C;simp only [aO,aX] at A;subst A;simp [eM] at C):aD:=h
def Vx(s i)(h:0<(TT s i).size):PP s i<PP s (i+1):=by
 have e:PP s (i+1)=skip (bB s) (K s (i+1)):=rfl;have h1:=Je (bB s) (K s (i+1));have A:K s (i+1)=PP s i+(TT s i).size:=rfl;rw [e];omega
def Xx(s):∀(j i:Nat),i<j->Gd s j->PP s i<PP s j
 |0,i,h,_=>ai
 |j+1,i,h,hg=>by
  have h1:=Vx s j (hg j ai)
  by_cases e:i=j
  ·subst e;exact h1
  have:=Xx s j i ai (fun k A=>hg k ai);omega
def xX(h:dI (TT s) (PP s)=.ok (ts,m))(hg:Gd s m):(gQ ts).Pairwise (· < ·):=by
 obtain ⟨new,e,_,ha⟩:=pP (TT s) (PP s) 512 [] 0 ts m h;exact QV
section
variable (T:Nat->ae)(P:Nat->Nat)
def L8(i:Nat)(g:Gr)(j:Nat)(h:dR T P i=.ok (g,j)):iB g:=by
 unfold dR at h
 split at h
 ·simp at h
 split at h
 ·simp only [dW,Prod.mk.injEq] at h;rw [<-h.1];exact .inr (.inl rfl)
 split at h
 ·split at h
  ·simp at h
  rename_i u m hn;simp only [dW,Prod.mk.injEq] at h;rw [<-h.1];refine .inr (.inr ⟨rfl,?_⟩);unfold di at hn
  split at hn
  ·rename_i A;exact A
  simp at hn
 simp only [dW,Prod.mk.injEq] at h;rw [<-h.1];exact .inl ⟨rfl,rfl⟩
def Ee:∀f acc i gs j,dO T P f acc i=.ok (gs,j)->(∀g∈acc,iB g)->∀g∈gs,iB g
 |0,acc,i,gs,j,h,_=>by simp [dO] at h
 |f+1,acc,i,gs,j,h,ha=>by
  unfold dO at h
  split at h
  ·simp at h
  rename_i g0 A hg;have h0:=L8 T P _ _ _ hg;have h1:∀g∈acc++[g0],iB g:=fun g hg=>by
   exact QX
  split at h
  ·exact Ee f _ _ _ _ h h1
  exact QZ
def GR(r:Nat->eJ Ex):Prop:=∀i x j,r i=.ok (x,j)->∀e∈aO x,∀g∈eM e,iB g
def Ef(l:List ae)(part:Nat->eJ Ex)(hp:GR part):∀f y i x j,joinL T P l part f y i=.ok (x,j)->(∀e∈aO y,∀g∈eM e,iB g)->∀e∈aO x,∀g∈eM e,iB g
 |0,y,i,x,j,h,_=>by simp [joinL] at h
 |f+1,y,i,x,j,h,ha=>by
  unfold joinL at h
  split at h
  ·split at h
   ·simp at h
   rename_i z A hz;refine Ef l part hp f _ A x j h (fun e he=> ?_);exact QW
  simp only [dW,Prod.mk.injEq] at h;rw [<-h.1];exact ha
def qG(l:List ae)(part:Nat->eJ Ex)(A:GR part):GR (eT T P l part):=by
 intro i x j h;unfold eT at h
 split at h
 ·simp at h
 rename_i y D C;exact Ef T P l part A _ _ _ x j h (A _ _ _ C)
def Eg(R:Bool)(Q:Nat->eJ Ex)(hp:GR Q):GR (eQ T P R Q):=by
 intro i x j h;unfold eQ at h
 split at h
 ·unfold j4 at h
  split at h
  ·simp at h
  rename_i gs U hl;simp only [dW,Prod.mk.injEq] at h;rw [<-h.1];intro e J g hg;simp only [Jd,aO,aX] at J;subst J;exact Ee T P _ _ _ _ _ hl au g JY
 exact Xw
def Eh:∀n,GR (fq T P n)
 |0=>qG T P _ _ (qG T P _ _ (Eg T P false _ (fun i x j h=>by simp at h)))
 |n+1=>qG T P _ _ (qG T P _ _ (Eg T P true _ (Eh n)))
def L9(i:Nat)(r:Rl)(j:Nat)(h:kS T P i=.ok (r,j)):dC r.name=true/\∃i0 A,fq T P 4 i0=.ok (r.body,A)/\A<=j:=by
 unfold kS at h
 split at h
 ·simp at h
 rename_i u I hn
 split at h
 ·simp at h
 rename_i x m D
 split at h
 ·simp only [dW,Prod.mk.injEq] at h;obtain ⟨rfl,rfl⟩:=h;refine ⟨?_,I,m,D,ai⟩;unfold cb di at hn;simp only
  cases C:dC (T i)
  ·rw [C] at hn;simp at hn
  rfl
 simp at h
def wv:∀f acc i rs m,dj T P f acc i=.ok (rs,m)->∀r∈rs,r∈acc\/(dC r.name=true/\∃i0 C,fq T P 4 i0=.ok (r.body,C)/\C<=m)
 |0,acc,i,rs,m,h=>by simp [dj] at h
 |f+1,acc,i,rs,m,h=>by
  unfold dj at h
  split at h
  ·exact QY
  split at h
  ·simp at h
  split at h
  ·simp at h
  rename_i U j J;intro r I;have R:=pi T P f _ _ _ _ h
  rcases wv f _ _ _ _ h r I with h1|h1
  ·rcases aW.1 h1 with h1|h1
   ·exact .inl h1
   rw [aX] at h1;subst h1;obtain ⟨h2,i0,C,D,Q⟩:=L9 T P _ _ _ J;exact .inr ⟨h2,i0,C,D,ai⟩
  exact .inr h1
def tx:∀f acc i ts m,cR T P f acc i=.ok (ts,m)->∀t∈ts,t∈acc\/∀r∈t.rels,dC r.name=true/\∃i0 D,fq T P 4 i0=.ok (r.body,D)/\D<=m
 |0,acc,i,ts,m,h=>by simp [cR] at h
 |f+1,acc,i,ts,m,h=>by
  unfold cR at h
  split at h
  ·exact QY
  split at h
  ·simp at h
  split at h
  ·simp at h
  rename_i t0 j C;intro t Q;obtain ⟨_,_,Y,_⟩:=pP T P f _ _ _ _ h
  rcases tx f _ _ _ _ h t Q with h1|h1
  ·rcases aW.1 h1 with h1|h1
   ·exact .inl h1
   rw [aX] at h1;subst h1;refine .inr (fun r R=> ?_);rw [kw] at C
   split at C
   ·unfold mR at C
    split at C
    ·simp at C
    split at C
    ·simp at C
    rename_i rs Z U;simp only [dW,Prod.mk.injEq] at C;obtain ⟨rfl,rfl⟩:=C
    rcases wv T P _ _ _ _ _ U r R with I|⟨I,i0,D,J,V⟩
    ·simp at I
    exact ⟨I,i0,D,J,ai⟩
   simp at C
  exact .inr h1
end
def kB(h:dI (TT s) (PP s)=.ok (ts,m)):∀t∈ts,∀r∈t.rels,dC r.name=true/\∃i0 A,fq (TT s) (PP s) 4 i0=.ok (r.body,A)/\A<=m:=fun t C=>by
 rcases tx (TT s) (PP s) 512 [] 0 ts m h t C with h|h
 ·simp at h
 exact h
def sq(h:dI (TT s) (PP s)=.ok (ts,m)):wo ts:=fun t C r A=>by
 obtain ⟨_,i0,D,h1,_⟩:=kB h t C r A;exact Eh (TT s) (PP s) 4 _ _ _ h1
def pR:∀(x:Ex),(aO x).length<=(aF x).length
 |⟨n,some x,some y⟩=>by
  have h1:=pR x;have h2:=pR y;simp only [aO,aF,bg,List.length_cons,List.length_nil];omega
 |⟨n,none,r⟩=>by simp [aO,aF]
 |⟨n,some x,none⟩=>by simp [aO,aF]
def cT.mem{pl:List PV}{F:Nat}:∀(xs:List RV) (ps:List (ae×Rl)),cT pl F xs ps->∀x∈xs,∃p∈ps,x.kd=p.1/\x.nm=p.2.name/\x.pl=p.2.place/\Tr pl F x.ex p.2.body
 | [],[],_,x,A=>by simp at A
 |y::xs,p::ps,h,x,A=>by
  rcases List.mem_cons.1 A with rfl|A
  ·exact ⟨p,au,h.1⟩
  obtain ⟨q,C,D⟩:=cT.mem xs ps h.2 x A;exact ⟨q,by simp [C],D⟩
 | [],_::_,h,_,_=>h.elim
 |_::_,[],h,_,_=>h.elim
def qH(ts:List Ty):Prop:=∀t∈ts,∀r∈t.rels,(aF r.body).length<=500/\(bR r.body).length<=500
def sized(h:dI (TT s) (PP s)=.ok (ts,m))(A:Gd s m)(hs:s.size<=500):qH ts:=fun t D r C=>by
 have I:=A.le;have:=((iR (TT s) (PP s) ts m h).1 t D).1 r C;exact ⟨aV this.p ai,aV this.g ai⟩
section
variable {pl:List PV}{rl:List RV}{ts:List Ty}{F:Nat}
def jV(hF:cT pl F rl (bx ts))(V:qH ts)(x)(U:x∈rl):(aJ pl F x.ex).length<=500/\((aJ pl F x.ex).flatMap (jK pl)).length<=500/\∀n∈aJ pl F x.ex,∃p,pl[n]? =some p/\p.gs.length<=500:=by
 obtain ⟨p,D,_,_,_,R⟩:=cT.mem rl _ hF x U;obtain ⟨t,J,_,I⟩:=dz.1 D;obtain ⟨h1,h2⟩:=V t J p.2 I;have ha:=eg pl F _ _ R;have hl:=cu.len _ _ ha;have Z:=pR p.2.body;have A:(aJ pl F x.ex).flatMap (jK pl)=bR p.2.body:=by rw [dv];exact so _ _ ha
 refine ⟨ai,by rw [A];exact h2,fun n hn=> ?_⟩;obtain ⟨e,Y,Q⟩:=cu.mem _ _ ha n hn;obtain ⟨q,C,_⟩:=id Q;refine ⟨q,C,?_⟩;have e1:jK pl n=q.gs:=by unfold jK;rw [C]
 have:=tj (jK pl) _ n hn;rw [e1,A] at this;omega
def Q0(hF:cT pl F rl (bx ts))(J:qH ts):YG rl pl (aJ pl F):=fun x A=>by
 obtain ⟨h1,_,C⟩:=jV hF J x A;obtain ⟨p,Q,_,_,_,I⟩:=cT.mem rl _ hF x A;exact ⟨hP pl F _ _ I ai,ai,fun n hn=>by obtain ⟨q,D,hl⟩:=C n hn;exact ⟨q,D,ai⟩⟩
def wy(hF:cT pl F rl (bx ts))(A:qH ts)(r):(eH rl pl (aJ pl F) r).length<=500:=by
 unfold eH
 cases h:rl[r]? with
 |none=>simp
 |some x=>exact (jV hF A x (bG h)).2.1
def Bz(hF:cT pl F rl (bx ts))(A:qH ts):nL rl pl (eH rl pl (aJ pl F)):=fun r C=>by
 refine ⟨?_,aV (wy hF A r) ai⟩;intro b kv rv pv kl l w h;have D:=aI C;obtain ⟨h1,h2,I⟩:=Q0 hF A rl[r] (bu C);have J:(aJ pl F rl[r].ex).flatMap (jK pl)=eH rl pl (aJ pl F) r:=by unfold eH;rw [D]
 exact D0 b kv rv pv kl rl pl l r rl[r] _ _ w h D h1 (fun m Q=>by obtain ⟨p,R,_⟩:=I m Q;exact (bD.1 R).1) J (aV (wy hF A r) ai) h2
def Vy(rl:List RV)(kd:ae)(p:PV):Prop:=(p.kind=2->0<=bi kd p.nr rl 0)/\(p.kind=3->0<=bi kd p.nb rl 0)
def qI(kl dN fB)(h:kz kl rl pl dN fB=none)(x)(I:x∈rl)(n)(C:n∈fB x.ex)(p)(D:pl[n]? =some p):Vy rl x.kd p:=by
 unfold kz at h;rw [ko] at h;have h1:=h x I;rw [ko] at h1;have h2:=h1 n C;unfold qE at h2;rw [D] at h2;simp only at h2;unfold Hm at h2
 split at h2
 ·simp at h2
 refine ⟨fun A=> ?_,fun A=> ?_⟩
 ·rw [if_pos A] at h2
  split at h2
  ·simp at h2
  omega
 rw [if_neg ai,if_pos A] at h2
 split at h2
 ·simp at h2
 omega
def Ei(rl g):∀r∈eu rl g,r<rl.length:=by
 unfold eu
 rcases dd g.ty (bH g) rl 0 with h|⟨j,h,_,h2⟩
 ·rw [h];simp
 rw [h];simp;omega
def Q1(rl dN kd p)(I:Vy rl kd p):∀r∈gF rl dN kd p,r<rl.length:=by
 intro r A;unfold gF at A
 rcases aW.1 A with A|A
 ·obtain ⟨g,_,C⟩:=b6.1 A;exact Ei rl g r C
 split at A
 ·rename_i D;rw [aX] at A;have h0:=I.1 D
  rcases dd kd p.nr rl 0 with h|⟨j,h,_,h2⟩
  ·omega
  rw [h] at A;omega
 split at A
 ·unfold fA at A;obtain ⟨g,_,C⟩:=b6.1 A;unfold hQ at C
  split at C
  ·rw [aX] at C;rename_i hc;rw [bP,fF] at hc
   rcases dd g.ty p.nr rl 0 with h|⟨j,h,_,h2⟩
   ·omega
   rw [h] at C;omega
  simp at C
 simp at A
def BA(rl):∀(l:List Gr),(l.flatMap (eu rl)).length<=l.length
 | []=>au
 |g::l=>by
  have h1:=QK rl g;have h2:=BA rl l;exact Bm
def Q2(rl dN)(h:∀r,(dN r).length<=500)(kd p):(gF rl dN kd p).length<=p.gs.length+500:=by
 unfold gF;have h1:=BA rl p.gs;rw [bg]
 split
 ·simp only [List.length_cons,List.length_nil];omega
 split
 ·have:=Bq rl p.nr (dN (bi kd p.nb rl 0).toNat);have:=h (bi kd p.nb rl 0).toNat;omega
 simp only [List.length_nil];omega
def pS{α β:Type}(f:α->List β)(n):∀(l:List α),(∀a∈l,(f a).length<=n)->(l.flatMap f).length<=l.length*n
 | [],_=>au
 |a::l,h=>by
  have h1:=h a au;have h2:=pS f n l (fun a ha=>h a (by simp [ha]));exact Pc
def nO(hF:cT pl F rl (bx ts))(U:qH ts)(kl)(h:kz kl rl pl (eH rl pl (aJ pl F)) (aJ pl F)=none)(x)(R:x∈rl)(lv)(I:∀n∈lv,n∈aJ pl F x.ex)(V:lv.length<=500):
  (∀m∈lv,∃p,pl[m]? =some p/\p.gs.length<=1000/\(p.kind=2->0<=bi x.kd p.nr rl 0)/\(p.kind=3->0<=bi x.kd p.nb rl 0))/\(io rl pl (eH rl pl (aJ pl F)) x.kd lv).length<=1000000/\(∀r∈io rl pl (eH rl pl (aJ pl F)) x.kd lv,r<rl.length)/\(Nu rl pl lv).length<=1000000/\∀r∈Nu rl pl lv,r<rl.length:=by
 obtain ⟨_,_,Q⟩:=jV hF U x R;refine ⟨fun m C=> ?_,?_,?_,?_,?_⟩
 ·obtain ⟨p,D,J⟩:=Q m (I m C);have:=qI kl _ _ h x R m (I m C) p D;exact ⟨p,D,ai,this.1,this.2⟩
 ·refine aV (pS _ 1000 lv (fun m C=> ?_)) ai;obtain ⟨p,D,J⟩:=Q m (I m C);unfold sl;rw [D];simp only;have:=Q2 rl _ (wy hF U) x.kd p;omega
 ·intro r A;unfold io at A;obtain ⟨m,C,A⟩:=b6.1 A;obtain ⟨p,D,J⟩:=Q m (I m C);unfold sl at A;rw [D] at A;exact Q1 rl _ x.kd p (qI kl _ _ h x R m (I m C) p D) r A
 ·refine aV (pS _ 1000 lv (fun m C=> ?_)) ai;obtain ⟨p,D,J⟩:=Q m (I m C);unfold sl;rw [D];have:=BA rl p.gs;simp only;unfold L0;omega
 ·intro r A;unfold Nu at A;obtain ⟨m,C,A⟩:=b6.1 A;obtain ⟨p,D,J⟩:=Q m (I m C);unfold sl at A;rw [D] at A;unfold L0 at A;obtain ⟨g,_,J⟩:=b6.1 A;exact Ei rl g r J
def Vz(hF:cT pl F rl (bx ts))(C:qH ts)(kl)(h:kz kl rl pl (eH rl pl (aJ pl F)) (aJ pl F)=none):k9 rl pl (eH rl pl (aJ pl F)) (aJ pl F):=fun x A=>by
 obtain ⟨h1,h2,J⟩:=Q0 hF C x A;obtain ⟨D,Q,I,_⟩:=nO hF C kl h x A _ (fun n hn=>hn) (jV hF C x A).1;exact ⟨⟨h1,h2,D⟩,ai,I⟩
end
def BC (h:aD:=by
 simp only [bZ,List.sum_cons];omega):aD:=h
def mX(pl:List PV):Nat->Nat->Nat
 |0,_=>0
 |f+1,n=>match pl[n]? with
  |none=>1
  |some p=>(p.ps.map (mX pl f)).sum+1
def oy{f g:Nat->Nat}:∀{l:List Nat},(∀a∈l,f a=g a)->(l.map f).sum=(l.map g).sum
 | [],_=>rfl
 |a::l,h=>by
  simp only [bZ,List.sum_cons];rw [h a au,oy (fun b A=>h b (by simp [A]))]
def Q3(pl):∀(f n:Nat)(x:Ex),Tr pl f n x->mX pl (f+1) n=mX pl f n
 |0,_,_,h=>h.elim
 |f+1,n,x,h=>by
  obtain ⟨p,A,_⟩:=id h;have C:=h.kids A;rw [mX,mX,A];simp only;rw [oy (f:=mX pl (f+1)) (g:=mX pl f) (fun m D=>by obtain ⟨y,I⟩:=C m D;exact Q3 pl f m y I)]
def BD(pl){x}(h:Tr pl f n x)(hF:f<=F):mX pl F n=mX pl f n:=by
 obtain ⟨d,rfl⟩:=Nat.exists_eq_add_of_le hF;clear hF
 induction d with
 |zero=>rfl
 |succ d ih=>rw [<-ih];exact Q3 pl _ _ _ (Tr.le pl (Nat.le_add_right f d) h)
def iV:∀(rs:List (ae×Nat×Ex)) (x:Ex),(aF (cd x rs)).length=(aF x).length+(rs.map fun r=>(aF r.2.2).length+1).sum
 | [],x=>by simp [cd]
 |(t,p,y)::rs,x=>by
  rw [cd,iV rs];simp only [dE,aF,bg,List.length_cons,List.length_nil,bZ,List.sum_cons];omega
def nP{R}(z)(h:∀n x,R n x->z n<=(aF x).length):∀(ns:List Nat) (rs:List (ae×Nat×Ex)),cu R ns (rs.map fun r=>r.2.2)->(ns.map z).sum+rs.length<=(rs.map fun r=>(aF r.2.2).length+1).sum
 | [],[],_=>au
 |n::ns,r::rs,k=>by
  have h1:z n<=(aF r.2.2).length:=h _ _ k.1;have h2:=nP z h ns rs k.2;simp only [bZ,List.sum_cons,List.length_cons];omega
 | [],_::_,k=>k.elim
 |_::_,[],k=>k.elim
def iW(pl):∀(f n:Nat)(x:Ex),Tr pl f n x->mX pl f n<=(aF x).length
 |0,_,_,h=>h.elim
 |f+1,n,x,⟨p,hp,h⟩=>by
  rw [mX,hp];simp only
  rcases h with ⟨h1,hn,h2⟩|⟨h1,h0,hn,h2⟩|⟨h1,h0,hn,h2⟩|⟨h1,h0,U,ns,V,rs,A,C,D,Q,I,J⟩|⟨h1,h0,Y,U,ns,V,rs,A,C,D,Q,I,J⟩
  ·rw [hn.1,h2];simp [aF]
  ·rw [hn.1,h2];simp [aF]
  ·rw [hn.1,h2];simp [aF]
  ·rw [J,A,iV];have k1:=iW pl f _ _ C;have R:=nP (mX pl f) (iW pl f) ns rs D;have k3:0<rs.length:=lT.2 I.2;exact BC
  rw [J,A,iV];have k1:=iW pl f _ _ C;have R:=nP (mX pl f) (iW pl f) ns rs D;have k3:0<rs.length:=lT.2 I;exact BC
def Tr.signs{x p}(h:Tr pl (f+1) n x)(V:pl[n]? =some p):p.sg.length<=p.ps.length:=by
 obtain ⟨ab,A,h⟩:=h;rw [V] at A;simp only [aR] at A;subst A
 rcases h with ⟨h1,hn,h2⟩|⟨h1,h0,hn,h2⟩|⟨h1,h0,hn,h2⟩|⟨h1,h0,Y,ns,Z,rs,C,Q,D,I,R,U⟩|⟨h1,h0,J,Y,ns,Z,rs,C,Q,D,I,R,U⟩
 ·rw [hn.2];simp
 ·rw [hn.2];simp
 ·rw [hn.2];simp
 ·have:=cu.len _ _ D;rw [I,C];simp at this ⊢;omega
 rw [J];simp
def Tr.kid_leaves{x p}(h:Tr pl (f+1) n x)(I:pl[n]? =some p):∀m∈p.ps,∀k∈aJ pl f m,k∈aJ pl (f+1) n:=by
 obtain ⟨J,C,h⟩:=h;rw [I] at C;simp only [aR] at C;subst C;intro m A k D;rw [aJ,I];simp only
 rcases h with ⟨h1,hn,h2⟩|⟨h1,h0,hn,h2⟩|⟨h1,h0,hn,h2⟩|⟨h1,_⟩|⟨h1,_⟩
 ·rw [hn.1] at A;simp at A
 ·rw [hn.1] at A;simp at A
 ·rw [hn.1] at A;simp at A
 ·rw [if_pos (.inl h1)];exact b6.2 ⟨m,A,D⟩
 rw [if_pos (.inr h1)];exact b6.2 ⟨m,A,D⟩
def QF(pl:List PV)(F:Nat)(x:RV)(n:Nat):Prop:=∃f y,f<=F/\Tr pl f n y/\∀k∈aJ pl F n,k∈aJ pl F x.ex
section
variable {pl:List PV}{rl:List RV}{ts:List Ty}{F:Nat}
def wz(pl):∀(f n:Nat)(x:Ex),Tr pl f n x->(aJ pl f n).length<=mX pl f n
 |0,_,_,h=>h.elim
 |f+1,n,x,h=>by
  obtain ⟨p,A,_⟩:=id h;have C:=h.kids A;rw [aJ,mX,A];simp only
  split
  ·rw [List.length_flatMap];have:∀l:List Nat,(∀m∈l,∃y,Tr pl f m y)->(l.map fun a=>(aJ pl f a).length).sum<=(l.map (mX pl f)).sum:=by
    intro l
    induction l with
    |nil=>simp
    |cons a l ih=>
     intro hl;obtain ⟨y,D⟩:=hl a au;have h1:=wz pl f a y D;have h2:=ih (fun m hm=>hl m JU);exact BC
   have:=this p.ps C;omega
  simp
def Q4(pl:List PV)(F:Nat)(n:Nat):Prop:=mX pl F n<=500
def JZ(z:Nat->Nat):∀(l:List Nat),∀m∈l,z m<=(l.map z).sum
 |a::l,m,h=>by
  simp only [bZ,List.sum_cons]
  rcases List.mem_cons.1 h with rfl|h
  ·omega
  have:=JZ z l m h;omega
def VA(hF:cT pl F rl (bx ts))(D:qH ts)(kl)(h:kz kl rl pl (eH rl pl (aJ pl F)) (aJ pl F)=none)(x)(R:x∈rl):HC rl pl (eH rl pl (aJ pl F)) (aJ pl F) x (fun n=>QF pl F x n/\Q4 pl F n) (mX pl F):=by
 obtain ⟨p,ae,_,_,_,Z⟩:=cT.mem rl _ hF x R;obtain ⟨t,af,_,A⟩:=dz.1 ae;obtain ⟨h1,h2⟩:=D t af p.2 A;have ah:=iW pl F _ _ Z;have V:=nO hF D kl h x R (aJ pl F x.ex) (fun n hn=>hn) (jV hF D x R).1;have hl:=(jV hF D x R).1;refine ⟨⟨⟨F,_,bV _,Z,fun k U=>U⟩,by unfold Q4;omega⟩,ai,fun n hn=> ?_,⟨⟨hP pl F _ _ Z ai,ai,V.1⟩,ai⟩⟩;obtain ⟨⟨f,y,ab,C,hs⟩,ho⟩:=hn;unfold Q4 at ho
 cases f with
 |zero=>exact C.elim
 |succ g=>
  obtain ⟨q,J,_⟩:=id C;have e1:mX pl F n=(q.ps.map (mX pl F)).sum+1:=by
   rw [BD pl C ab,mX,J];simp only;rw [oy (f:=mX pl g) (g:=mX pl F) (fun m Q=>by obtain ⟨z,D⟩:=C.kids J m Q;exact (BD pl D ai).symm)]
  refine ⟨q,J,C.signs J,ai,fun m Q=> ?_⟩;obtain ⟨z,I⟩:=C.kids J m Q;have ac:∀k∈aJ pl F m,k∈aJ pl F x.ex:=fun k U=>by
   refine hs k ?_;rw [kA pl C ab];rw [kA pl I ai] at U;exact C.kid_leaves J m Q k U
  have ag:mX pl F m<=(q.ps.map (mX pl F)).sum:=JZ _ _ m Q;have ad:(aJ pl F m).length<=500:=by
   rw [kA pl I ai];have:=wz pl g m z I;rw [<-BD pl I (show g<=F by omega)] at this;omega
  have Y:=nO hF D kl h x R (aJ pl F m) ac ad;refine ⟨⟨⟨g,z,ai,I,ac⟩,by unfold Q4;omega⟩,⟨?_,ai,Y.1⟩,ai,?_,?_⟩
  ·have e:aJ pl F m=aJ pl g m:=kA pl I ai;rw [e];exact hP pl g m z I (by rw [<-e];omega)
  ·intro r A;unfold fL at A
   rcases aW.1 A with A|A
   ·exact Y.2.2.1 r A
   split at A
   ·exact V.2.2.2.2 r A
   simp at A
  unfold fL;rw [bg];have:=Y.2.1;have:=V.2.2.2.1
  split
  ·omega
  simp only [List.length_nil];omega
end
abbrev ip:=@List.mem_iff_getElem?
def Ej (h:aD:=by
 simp [h]):aD:=h
def Q5 (h:aD:=by
 obtain ⟨k,A⟩:=ip.1 ih;have C:=(bD.1 A).1;exact h2 k ai _ A _ hy):aD:=h
def Q6 (h:aD:=by
 rcases List.mem_cons.1 h with rfl|h
 ·exact .inl au
 exact .inr Ej):aD:=h
inductive BE{α:Type}(nd:α->List α)(S:List α):α->Prop
 |base {x:α}:x∈S->BE nd S x
 |step {x y:α}:BE nd S x->y∈nd x->BE nd S y
def HS(f:List Sp)(x:Sp):(f.any fun y=>gY x y)=true↔x∈f:=by
 rw [dh]
 constructor
 ·rintro ⟨y,A,e⟩;rw [(qk x y).1 e];exact A
 exact fun h=>⟨x,h,(qk x x).2 rfl⟩
def pT(ts S):∀(k:Nat)(q f:List Sp),q.length+eR (bh ts) f (hN ts)<k->(∀x∈S,x∈f\/x∈q)->(∀x∈f,BE (bh ts) S x)->(∀x∈q,BE (bh ts) S x)->(∀x∈f,∀y∈bh ts x,y∈f\/y∈q)->
  ∀x,x∈eb (bh ts) k q f↔BE (bh ts) S x
 |0,q,f,hk,_,_,_,_=>ai
 |k+1,[],f,hk,h1,h2,h3,h4=>by
  intro x;rw [eb];refine ⟨h2 x,fun h=> ?_⟩
  induction h with
  |base h=>
   rcases h1 _ h with h|h
   ·exact h
   simp at h
  |step _ A ih=>
   rcases h4 _ ih _ A with h|h
   ·exact h
   simp at h
 |k+1,z::q,f,hk,h1,h2,h3,h4=>by
  intro x;rw [eb];simp only [List.length_cons] at hk
  by_cases C:(f.any fun y=>gY z y)=true
  ·rw [if_pos C];have D:=(HS f z).1 C;refine pT ts S k q f ai (fun x hx=> ?_) h2 (fun x hx=>h3 x yC) (fun x hx y A=> ?_) x
   ·rcases h1 x hx with h|h
    ·exact .inl h
    rcases List.mem_cons.1 h with rfl|h
    ·exact .inl D
    exact .inr h
   rcases h4 x hx y A with h|h
   ·exact .inl h
   rcases List.mem_cons.1 h with rfl|h
   ·exact .inl D
   exact .inr h
  rw [if_neg C];have J:(f.any fun y=>gY z y)=false:=by
   cases e:(f.any fun y=>gY z y)
   ·rfl
   exact absurd e C
  have hs:=rQ ts f z J;have I:=h3 z au;refine pT ts S k (q++bh ts z) (f++[z]) (by rw [bg];omega) (fun x hx=> ?_) (fun x hx=> ?_) (fun x hx=> ?_) (fun x hx y A=> ?_) x
  ·rcases h1 x hx with h|h
   ·exact .inl Ej
   exact Q6
  ·rcases aW.1 hx with h|h
   ·exact h2 x h
   rw [aX.1 h];exact I
  ·rcases aW.1 hx with h|h
   ·exact h3 x Ej
   exact .step I h
  rcases aW.1 hx with h|h
  ·rcases h4 x h y A with h|h
   ·exact .inl Ej
   exact Q6
  rw [aX.1 h] at A;exact .inr (by simp [A])
def fk(ts S x):x∈cU ts S↔BE (bh ts) S x:=by
 unfold cU eS;exact pT ts S _ S [] ai (fun x A=> .inr A) au (fun x A=> .base A) au x
def wA(ts S x):ij ts S x=true↔BE (bh ts) S x:=by
 unfold ij;rw [HS,fk]
def Ma(o x y):y∈jk o x↔y∈o\/y=x:=by
 unfold jk
 split
 ·rename_i h;rw [dh] at h;obtain ⟨k,A,e⟩:=h;have:k=x:=by simpa using e
  subst this
  constructor
  ·exact .inl
  rintro (h|rfl)
  ·exact h
  exact A
 simp
def sr:∀(l o:List Nat)(y:Nat),y∈lF o l↔y∈o\/y∈l
 | [],o,y=>by simp [lF]
 |x::l,o,y=>by
  have:=sr l (jk o x) y;unfold lF at*;rw [List.foldl_cons,this,Ma,List.mem_cons]
  constructor
  ·rintro ((h|h)|h)
   ·exact .inl h
   ·exact .inr (.inl h)
   exact .inr (.inr h)
  rintro (h|h|h)
  ·exact .inl (.inl h)
  ·exact .inl (.inr h)
  exact .inr h
def Mb(o x):∃e,jk o x=o++e:=by
 unfold jk
 split
 ·exact ⟨[],au⟩
 exact ⟨[x],rfl⟩
def zB:∀(l o:List Nat),∃e,lF o l=o++e
 | [],o=>⟨[],by simp [lF]⟩
 |x::l,o=>by
  obtain ⟨e1,h1⟩:=Mb o x;obtain ⟨h,h2⟩:=zB l (jk o x);refine ⟨e1++h,?_⟩;unfold lF at*;rw [List.foldl_cons,h2,h1,ct]
def Ek(H S m)(I:∀r,∀x∈H r,x<m):∀(f:Nat)(o:List Nat)(i:Nat),S.length+m<f+i->g7 S m o->(∀x∈o,BE H S x)->(∀k<i,∀r,o[k]? =some r->∀y∈H r,y∈o)->
  ∀x,x∈wg H f o i↔BE H S x
 |0,o,i,hf,hg,h1,h2=>by
  intro x;rw [wg];have hl:=hg.le;obtain ⟨ex,rfl,_,_⟩:=hg;refine ⟨h1 x,fun h=> ?_⟩
  induction h with
  |base h=>simp [h]
  |step _ hy ih=>
   exact Q5
 |f+1,o,i,hf,hg,h1,h2=>by
  intro x;rw [wg]
  cases hi:o[i]? with
  |none=>
   simp only;have V:=List.getElem?_eq_none_iff.1 hi;obtain ⟨ex,rfl,_,_⟩:=hg;refine ⟨h1 x,fun h=> ?_⟩
   induction h with
   |base h=>simp [h]
   |step _ hy ih=>
    exact Q5
  |some r=>
   simp only;have Z:=(bD.1 hi).1;have R:=h1 r (bG hi);refine Ek H S m I f _ (i+1) ai (nN _ _ hg (I r)) (fun y hy=> ?_) (fun k Y U D y hy=> ?_) x
   ·rcases (sr _ _ _).1 hy with h|h
    ·exact h1 y h
    exact .step R h
   obtain ⟨e,J⟩:=zB (H r) o;have Q:k<o.length:=ai;rw [J,nu Q] at D;rw [sr]
   rcases fE k i with h|h
   ·exact .inl (h2 k h U D y hy)
   have:k=i:=ai;subst this;rw [hi] at D;simp only [aR] at D;subst D;exact .inr hy
def El(rl pl dN fB)(h:k9 rl pl dN fB)(S x):x∈Bx rl pl dN fB S↔BE (nM rl pl dN fB) S x:=by
 unfold Bx;refine Ek _ S rl.length (fun r x A=> ?_) _ S 0 ai ⟨[],au,au,au⟩ (fun x A=> .base A) (fun k D=>ai) x;unfold nM at A
 cases C:rl[r]? with
 |none=>rw [C] at A;simp at A
 |some y=>
  rw [C] at A;exact (h y (bG C)).2.2 x A
def VB(num:α->Int)(nd:α->List α)(H:Nat->List Nat)(S:List α)(N)(C:∀j,j∈N↔∃s∈S,num s=(j:Nat))(A:∀(s:α)(j:Nat),num s=j->∀j',j'∈H j↔∃s'∈nd s,num s'=(j':Nat))(h0:∀s,nd s≠ []->0<=num s)(j):BE H N j↔∃s,BE nd S s/\num s=j:=by
 constructor
 ·intro h
  induction h with
  |base h=>
   obtain ⟨s,hs,e⟩:=(C _).1 h;exact ⟨s,.base hs,e⟩
  |step _ hy ih=>
   obtain ⟨s,hs,e⟩:=ih;obtain ⟨s',D,e'⟩:=(A s _ e _).1 hy;exact ⟨s',.step hs D,e'⟩
 ·rintro ⟨s,h,e⟩
  induction h generalizing j with
  |base h=>exact .base ((C _).2 ⟨_,h,e⟩)
  |@step x y _ hy ih=>
   have I:=h0 x (fun e=>by rw [e] at hy;simp at hy);exact .step (ih (num x).toNat ai) ((A x (num x).toNat ai _).2 ⟨y,hy,e⟩)
abbrev mC:=@List.mem_filterMap
def cu.memr{R}:∀(ns:List Nat)(xs:List Ex),cu R ns xs->∀x∈xs,∃n∈ns,R n x
 | [],[],_,x,h=>by simp at h
 |n::ns,y::xs,k,x,h=>by
  rcases List.mem_cons.1 h with rfl|h
  ·exact ⟨n,au,k.1⟩
  obtain ⟨m,A,C⟩:=cu.memr ns xs k.2 x h;exact ⟨m,by simp [A],C⟩
 | [],_::_,k,_,_=>k.elim
 |_::_,[],k,_,_=>k.elim
def VC{x y}(h:Tr pl 1 n x)(k:Tr pl 1 n y):x=y:=by
 obtain ⟨p,I,h⟩:=h;obtain ⟨q,D,k⟩:=k;rw [I] at D;simp only [aR] at D;subst D
 rcases h with ⟨h1,hn,rfl⟩|⟨h1,h0,hn,rfl⟩|⟨h1,h0,hn,rfl⟩|⟨_,_,_,_,_,_,_,C,_⟩|⟨_,_,_,_,_,_,_,_,C,_⟩
 ·rcases k with ⟨k1,kn,rfl⟩|⟨k1,k0,kn,rfl⟩|⟨k1,k0,kn,rfl⟩|⟨_,_,_,_,_,_,_,A,_⟩|⟨_,_,_,_,_,_,_,_,A,_⟩
  ·rfl
  ·omega
  ·omega
  ·exact A.elim
  exact A.elim
 ·rcases k with ⟨k1,kn,rfl⟩|⟨k1,k0,kn,rfl⟩|⟨k1,k0,kn,rfl⟩|⟨_,_,_,_,_,_,_,A,_⟩|⟨_,_,_,_,_,_,_,_,A,_⟩
  ·omega
  ·rfl
  ·omega
  ·exact A.elim
  exact A.elim
 ·rcases k with ⟨k1,kn,rfl⟩|⟨k1,k0,kn,rfl⟩|⟨k1,k0,kn,rfl⟩|⟨_,_,_,_,_,_,_,A,_⟩|⟨_,_,_,_,_,_,_,_,A,_⟩
  ·omega
  ·omega
  ·rfl
  ·exact A.elim
  exact A.elim
 ·exact C.elim
 exact C.elim
def fl:∀(x p:Ex),p∈aO x↔p∈aF x/\p.l=none
 |⟨n,some x,some y⟩,p=>by
  have h1:=fl x p;have h2:=fl y p;simp only [aO,aF,aW,aX,h1,h2]
  constructor
  ·rintro (h|h)
   ·exact ⟨.inl (.inl h.1),h.2⟩
   exact ⟨.inr h.1,h.2⟩
  rintro ⟨(h|rfl)|h,k⟩
  ·exact .inl ⟨h,k⟩
  ·simp at k
  exact .inr ⟨h,k⟩
 |⟨n,none,r⟩,p=>by
  simp only [aO,aF,aX]
  constructor
  ·rintro rfl;exact ⟨rfl,rfl⟩
  exact fun h=>h.1
 |⟨n,some x,none⟩,p=>by simp [aO,aF]
def eN(ts t r y s):s∈dw ts t r y↔∃e∈aO y,s∈dU ts t r e:=by
 unfold dw;rw [b6]
 constructor
 ·rintro ⟨p,A,hs⟩;refine ⟨p,(fl y p).2 ⟨A,?_⟩,hs⟩;unfold dU at hs
  cases h:p.l with
  |none=>rfl
  |some z=>rw [h] at hs;simp at hs
 rintro ⟨p,A,hs⟩;exact ⟨p,((fl y p).1 A).1,hs⟩
def tQ(ts:List Ty)(t:Ty)(e:Ex):List Sp:=if e.nd.kind=0 then e.nd.gs.filterMap l9 else if e.nd.kind=1 then [(t.name,e.nd.n1)] else (nk ts t e.nd.n1 e.nd.n2).map fun u=>(u.name,e.nd.n2)
structure Kn(pl:List PV)(rl:List RV)(ts:List Ty)(F:Nat):Prop where
 d:et ts
 b:dc pl rl (bx ts)
 f:cT pl F rl (bx ts)
 g:wo ts
 n:∀t∈ts,∀r∈t.rels,dC r.name=true
 w:∀t∈ts,∀r∈t.rels,WF r.body
 z:qH ts
 k:∀x∈rl,∀n∈aJ pl F x.ex,∀p,pl[n]? =some p->Vy rl x.kd p
section
variable {pl:List PV}{rl:List RV}{ts:List Ty}{F:Nat}
def Kn.noName(h:Kn pl rl ts F)(k n)(I:dC n=false):bi k n rl 0= -1:=by
 rcases cS h.d h.b k n with ⟨e,_⟩|⟨j,t,r,_,C,D,_⟩
 ·exact e
 have h1:=(cw C).1;obtain ⟨h2,A⟩:=cF D;have:=h.n t h1 r h2;rw [A,I] at this
 cases this
def Kn.hash(h:Kn pl rl ts F)(g)(C:iB g)(j):j∈eu rl g↔∃s,l9 g=some s/\bi s.1 s.2 rl 0=j:=by
 unfold eu l9
 rcases C with ⟨h1,h2⟩|h1|⟨h1,h2⟩
 ·have e:bH g=em:=by unfold bH;rw [if_neg ai,h2]
  rw [e,h.noName g.ty em JX,if_neg ai,if_neg ai];simp
 ·have e:bH g=sg 42:=by unfold bH;rw [if_pos h1]
  rw [e,h.noName g.ty (sg 42) zz,if_neg ai,if_neg ai];simp
 rw [ow h1,if_pos h1]
 constructor
 ·intro A
  split at A
  ·rw [aX] at A;exact ⟨_,rfl,by simp only;omega⟩
  simp at A
 rintro ⟨s,e,hs⟩;simp only [aR] at e;subst e;simp only at hs;rw [if_pos ai,aX];omega
def Kn.gof(h:Kn pl rl ts F){k}(A:(bx ts)[j]? =some (k,r)):eH rl pl (aJ pl F) j=bR r.body:=by
 obtain ⟨x,hx,_,_,_,htr⟩:=cT.get rl _ j _ h.f A;exact HM
def Kn.allg(h:Kn pl rl ts F)(J:t∈ts)(I:r∈t.rels):∀g∈bR r.body,iB g:=by
 rw [dv];intro g C;obtain ⟨e',A,D⟩:=b6.1 C;exact h.g t J r I e' A g D
def Kn.tie(h:Kn pl rl ts F)(y g)(D:iB g)(j):j∈hQ rl y g↔∃u,iM ts y g=some u/\bi u.name y rl 0=j:=by
 rcases Ed h.d h.b y g D with ⟨e1,A⟩|⟨i,u,r,e1,A,I,J⟩
 ·rw [e1,A];simp
 have hn:bi u.name y rl 0=(i:Int):=by
  unfold hQ at e1
  split at e1
  ·rename_i hc;rw [bP,fF] at hc;simp only [kT,and_true] at e1;have C:u.name=g.ty:=by
    unfold iM at A
    split at A
    ·split at A
     ·cases A
     rename_i v hv
     split at A
     ·simp only [aR] at A;subst A;exact (cw hv).2
     cases A
    cases A
   rw [C];omega
  cases e1
 rw [e1,A,aX]
 constructor
 ·rintro rfl;exact ⟨u,rfl,hn⟩
 rintro ⟨v,e,hv⟩;simp only [aR] at e;subst e;omega
def Kn.leaf(h:Kn pl rl ts F)(t)(Z:t∈ts)(n e)(k:Tr pl 1 n e)(ac:∀g∈eM e,iB g)(J:∀p,pl[n]? =some p->Vy rl t.name p)(j):j∈sl (gF rl (eH rl pl (aJ pl F)) t.name) pl n↔∃s∈tQ ts t e,bi s.1 s.2 rl 0=j:=by
 obtain ⟨p,Y,k⟩:=k;have J:=J p Y;unfold sl;rw [Y];simp only;unfold gF tQ
 rcases k with ⟨h1,V,rfl⟩|⟨h1,h0,V,rfl⟩|⟨h1,h0,V,rfl⟩|⟨_,_,_,_,_,_,_,D,_⟩|⟨_,_,_,_,_,_,_,_,D,_⟩
 ·simp only [h1,Nat.reduceEqDiff,a8,dS,if_true,b6,mC];have U:∀g∈p.gs,iB g:=by simpa [eM] using ac
  constructor
  ·rintro ⟨g,A,I⟩;obtain ⟨s,e1,C⟩:=(h.hash g (U g A) j).1 I;exact ⟨s,⟨g,A,e1⟩,C⟩
  rintro ⟨s,⟨g,A,e1⟩,C⟩;exact ⟨g,A,(h.hash g (U g A) j).2 ⟨s,e1,C⟩⟩
 ·have h2:=J.1 h1;simp only [h0,h1,Nat.reduceEqDiff,a8,if_true,jF,List.nil_append,aX]
  constructor
  ·intro I;exact ⟨_,rfl,by simp only;omega⟩
  rintro ⟨s,rfl,hs⟩;simp only at hs;omega
 ·have h2:=J.2 h1;simp only [h0,h1,Nat.reduceEqDiff,a8,if_true,jF,List.nil_append]
  rcases cS h.d h.b t.name p.nb with ⟨e1,_⟩|⟨i,ae,r,e1,D,R,ab⟩
  ·omega
  rw [dq h.d Z] at D;simp only [aR] at D;subst D;have ad:=(cF R).1;rw [e1,Int.toNat_natCast,h.gof ab];unfold fA nk;rw [R];simp only [b6,aU,mC];have ha:=h.allg Z ad
  constructor
  ·rintro ⟨g,A,I⟩;obtain ⟨u,C,Q⟩:=(h.tie p.nr g (ha g A) j).1 I;exact ⟨_,⟨u,⟨g,A,C⟩,rfl⟩,Q⟩
  rintro ⟨s,⟨u,⟨g,A,C⟩,rfl⟩,Q⟩;exact ⟨g,A,(h.tie p.nr g (ha g A) j).2 ⟨u,C,Q⟩⟩
 ·exact D.elim
 exact D.elim
end
def Q7 (h:aD:=by
 simp only [dW,Prod.mk.injEq] at h;rw [<-h.1];exact fun _=>rfl):aD:=h
def xY(g:Gr):Prop:=g.reach=1->g.rel=em
section
variable (T:Nat->ae)(P:Nat->Nat)
def Mc(i:Nat)(g:Gr)(j:Nat)(h:dR T P i=.ok (g,j)):xY g:=by
 unfold dR at h
 split at h
 ·simp at h
 split at h
 ·exact Q7
 split at h
 ·split at h
  ·simp at h
  simp only [dW,Prod.mk.injEq] at h;rw [<-h.1];exact fun e=>by simp at e
 exact Q7
def Em:∀f acc i gs j,dO T P f acc i=.ok (gs,j)->(∀g∈acc,xY g)->∀g∈gs,xY g
 |0,acc,i,gs,j,h,_=>by simp [dO] at h
 |f+1,acc,i,gs,j,h,ha=>by
  unfold dO at h
  split at h
  ·simp at h
  rename_i g0 A hg;have h0:=Mc T P _ _ _ hg;have h1:∀g∈acc++[g0],xY g:=fun g hg=>by
   exact QX
  split at h
  ·exact Em f _ _ _ _ h h1
  exact QZ
def GE(r:Nat->eJ Ex):Prop:=∀i x j,r i=.ok (x,j)->∀e∈aO x,∀g∈eM e,xY g
def En(l:List ae)(part:Nat->eJ Ex)(hp:GE part):∀f y i x j,joinL T P l part f y i=.ok (x,j)->(∀e∈aO y,∀g∈eM e,xY g)->∀e∈aO x,∀g∈eM e,xY g
 |0,y,i,x,j,h,_=>by simp [joinL] at h
 |f+1,y,i,x,j,h,ha=>by
  unfold joinL at h
  split at h
  ·split at h
   ·simp at h
   rename_i z A hz;refine En l part hp f _ A x j h (fun e he=> ?_);exact QW
  simp only [dW,Prod.mk.injEq] at h;rw [<-h.1];exact ha
def qJ(l:List ae)(part:Nat->eJ Ex)(A:GE part):GE (eT T P l part):=by
 intro i x j h;unfold eT at h
 split at h
 ·simp at h
 rename_i y D C;exact En T P l part A _ _ _ x j h (A _ _ _ C)
def Eo(R:Bool)(Q:Nat->eJ Ex)(hp:GE Q):GE (eQ T P R Q):=by
 intro i x j h;unfold eQ at h
 split at h
 ·unfold j4 at h
  split at h
  ·simp at h
  rename_i gs U hl;simp only [dW,Prod.mk.injEq] at h;rw [<-h.1];intro e J g hg;simp only [Jd,aO,aX] at J;subst J;exact Em T P _ _ _ _ _ hl au g JY
 exact Xw
def Ep:∀n,GE (fq T P n)
 |0=>qJ T P _ _ (qJ T P _ _ (Eo T P false _ (fun i x j h=>by simp at h)))
 |n+1=>qJ T P _ _ (qJ T P _ _ (Eo T P true _ (Ep n)))
end
def Q8(h:dI (TT s) (PP s)=.ok (ts,m)):∀t∈ts,∀r∈t.rels,∀g∈bR r.body,xY g:=fun t I r D g A=>by
 obtain ⟨_,i0,J,h1,_⟩:=kB h t I r D;rw [dv] at A;obtain ⟨e,C,A⟩:=b6.1 A;exact Ep (TT s) (PP s) 4 _ _ _ h1 e C g A
def J0(h:wo ts):∀t∈ts,∀r∈t.rels,∀g∈bR r.body,iB g:=fun t I r D g A=>by
 rw [dv] at A;obtain ⟨e,C,A⟩:=b6.1 A;exact h t I r D e C g A
section
variable {pl:List PV}{rl:List RV}{ts:List Ty}{F:Nat}
structure YK(pl:List PV)(F:Nat)(x:RV)(t:Ty)(r:Rl)(m:Nat)(y:Ex):Prop where
 tr:Tr pl F m y
 xt:Tr pl F x.ex r.body
 lv:∀n∈aJ pl F m,n∈aJ pl F x.ex
 kd:x.kd=t.name
def YK.leaf{x y}(s:YK pl F x t r m y){e}(A:e∈aO y):∃n∈aJ pl F m,Tr pl 1 n e/\e∈aO r.body:=by
 obtain ⟨n,hn,D⟩:=cu.memr _ _ (eg pl F _ _ s.tr) e A;obtain ⟨e',C,h⟩:=cu.mem _ _ (eg pl F _ _ s.xt) n (s.lv n hn);rw [VC D h] at*;exact ⟨n,hn,h,C⟩
def Kn.hang(h:Kn pl rl ts F){x}(U:x∈rl)(D:t∈ts)(R:r∈t.rels){y}(s:YK pl F x t r m y)(j):j∈io rl pl (eH rl pl (aJ pl F)) x.kd (aJ pl F m)↔∃e∈aO y,∃s∈tQ ts t e,bi s.1 s.2 rl 0=j:=by
 unfold io;rw [b6];have key:∀n∈aJ pl F m,∀e∈aO y,Tr pl 1 n e->(j∈sl (gF rl (eH rl pl (aJ pl F)) x.kd) pl n↔∃s∈tQ ts t e,bi s.1 s.2 rl 0=j):=fun n hn e A C=>by
  rw [s.kd];obtain ⟨_,_,_,I⟩:=s.leaf A;exact h.leaf t D n e C (h.g t D r R e I) (fun p Q=>by rw [<-s.kd];exact h.k x U n (s.lv n hn) p Q) j
 constructor
 ·rintro ⟨n,hn,J⟩;obtain ⟨e,A,C⟩:=cu.mem _ _ (eg pl F _ _ s.tr) n hn;exact ⟨e,A,(key n hn e A C).1 J⟩
 rintro ⟨e,A,hs⟩;obtain ⟨n,hn,C,_⟩:=s.leaf A;exact ⟨n,hn,(key n hn e A C).2 hs⟩
def qK{s}:s∈mf r↔∃e∈aO r.body,∃g∈eM e,l9 g=some s:=by
 unfold mf;rw [dv];simp only [mC,b6]
 constructor
 ·rintro ⟨g,⟨e,h,A⟩,hs⟩;exact ⟨e,h,g,A,hs⟩
 rintro ⟨e,h,g,A,hs⟩;exact ⟨g,⟨e,h,A⟩,hs⟩
def iZ{x e}(h:e∈aO x):e.l=none:=((fl x e).1 h).2
def gm{e}(h:e.l=none):dU ts t r e=if e.nd.kind=0 then mf r else tQ ts t e:=by
 unfold dU tQ;rw [h];simp only
 split
 ·rfl
 rfl
def lH{e}(h:e.l=none):eM e=if e.nd.kind=0 then e.nd.gs else []:=by
 unfold eM;rw [h]
def Kn.grants(h:Kn pl rl ts F){x:RV}(R:t∈ts)(Q:r∈t.rels)(U:Tr pl F x.ex r.body)(j:Nat):j∈Nu rl pl (aJ pl F x.ex)↔∃s∈mf r,bi s.1 s.2 rl 0=j:=by
 unfold Nu;rw [b6];have key:∀n e,Tr pl 1 n e->sl (L0 rl) pl n=(eM e).flatMap (eu rl):=fun n e A=>by
  rw [<-ox A];obtain ⟨p,V,_⟩:=A;unfold sl jK L0;rw [V]
 constructor
 ·rintro ⟨n,hn,I⟩;obtain ⟨e,C,A⟩:=cu.mem _ _ (eg pl F _ _ U) n hn;rw [key n e A,b6] at I;obtain ⟨g,D,I⟩:=I;obtain ⟨s,e1,J⟩:=(h.hash g (h.g t R r Q e C g D) j).1 I;exact ⟨s,qK.2 ⟨e,C,g,D,e1⟩,J⟩
 rintro ⟨s,hs,J⟩;obtain ⟨e,C,g,D,e1⟩:=qK.1 hs;obtain ⟨n,hn,A⟩:=cu.memr _ _ (eg pl F _ _ U) e C;refine ⟨n,hn,?_⟩;rw [key n e A,b6];exact ⟨g,D,(h.hash g (h.g t R r Q e C g D) j).2 ⟨s,e1,J⟩⟩
def J6{e}(h:e∈aO r.body)(A:e.nd.kind=0){s}(hs:s∈tQ ts t e):s∈mf r:=by
 unfold tQ at hs;rw [if_pos A,mC] at hs;obtain ⟨g,C,e1⟩:=hs;exact qK.2 ⟨e,h,g,by rw [lH (iZ h),if_pos A];exact C,e1⟩
def Kn.need(h:Kn pl rl ts F){x}(Z:x∈rl)(Q:t∈ts)(J:r∈t.rels){y}(s:YK pl F x t r m y)(j):j∈fL rl pl (eH rl pl (aJ pl F)) x.kd (aJ pl F m) (aJ pl F x.ex)↔∃s∈dw ts t r y,bi s.1 s.2 rl 0=j:=by
 unfold fL;rw [aW,h.hang Z Q J s j]
 constructor
 ·rintro (⟨e,A,C,hs,D⟩|U)
  ·refine ⟨C,(eN ts t r y C).2 ⟨e,A,?_⟩,D⟩;obtain ⟨_,_,_,R⟩:=s.leaf A;rw [gm (iZ A)]
   split
   ·rename_i I;exact J6 R I hs
   exact hs
  split at U
  ·rename_i ha;obtain ⟨C,hs,D⟩:=(h.grants Q J s.xt j).1 U;rw [dh] at ha;obtain ⟨n,hn,hl⟩:=ha;rw [fF] at hl;obtain ⟨e,A,V⟩:=cu.mem _ _ (eg pl F _ _ s.tr) n hn;rw [ox V,lH (iZ A)] at hl;refine ⟨C,(eN ts t r y C).2 ⟨e,A,?_⟩,D⟩;rw [gm (iZ A)]
   split at hl
   ·rename_i I;rw [if_pos I];exact hs
   simp at hl
  simp at U
 rintro ⟨C,hs,D⟩;obtain ⟨e,A,hs⟩:=(eN ts t r y C).1 hs;rw [gm (iZ A)] at hs;obtain ⟨n,hn,V,R⟩:=s.leaf A
 split at hs
 ·rename_i I;right;have Y:=h.w t Q r J e ((fl _ e).1 R).1 (iZ A) I;rw [if_pos (by
   rw [dh];refine ⟨n,hn,?_⟩;rw [fF,ox V,lH (iZ A),if_pos I];exact lT.2 Y)]
  exact (h.grants Q J s.xt j).2 ⟨C,hs,D⟩
 exact .inl ⟨e,A,C,hs,D⟩
def Kn.spot(h:Kn pl rl ts F){s:Sp}(e:bi s.1 s.2 rl 0=j):∃t r x,t∈ts/\r∈t.rels/\t.name=s.1/\r.name=s.2/\bX ts s.1=some t/\b9 t s.2=some r/\(bx ts)[j]? =some (s.1,r)/\rl[j]? =some x/\x.kd=t.name/\Tr pl F x.ex r.body:=by
 rcases cS h.d h.b s.1 s.2 with ⟨e1,_⟩|⟨i,t,r,e1,C,D,I⟩
 ·omega
 have:i=j:=ai;subst this;obtain ⟨x,V,R,_,_,U⟩:=cT.get rl _ i _ h.f I;obtain ⟨J,A⟩:=cw C;obtain ⟨b1,Q⟩:=cF D;exact ⟨t,r,x,J,b1,A,Q,C,D,I,V,by rw [R,A],U⟩
def Kn.inj(h:Kn pl rl ts F){s s':Sp}(e:bi s.1 s.2 rl 0=j)(e':bi s'.1 s'.2 rl 0=j):s=s':=by
 obtain ⟨t,r,x,_,_,_,h2,_,_,I,_⟩:=h.spot e;obtain ⟨Q,J,R,_,_,_,D,_,_,A,_⟩:=h.spot e';rw [I] at A;simp only [aR,Prod.mk.injEq] at A;obtain ⟨e1,C⟩:=A;subst C;exact Prod.ext e1 (by rw [<-h2,<-D])
def Kn.hangr(h:Kn pl rl ts F)(s)(j:Nat)(e:bi s.1 s.2 rl 0=j)(j':Nat):j'∈nM rl pl (eH rl pl (aJ pl F)) (aJ pl F) j↔∃s'∈bh ts s,bi s'.1 s'.2 rl 0=j':=by
 obtain ⟨t,r,x,ac,ab,_,_,V,Y,ad,U,J,R⟩:=h.spot e;unfold nM bh;rw [U,V];simp only;rw [Y];simp only;have hs:YK pl F x t r x.ex r.body:=⟨R,R,fun n hn=>hn,J⟩;rw [h.hang (bG U) ac ab hs]
 constructor
 ·rintro ⟨e,A,C,hs,D⟩;refine ⟨C,(eN ts t r _ C).2 ⟨e,A,?_⟩,D⟩;rw [gm (iZ A)]
  split
  ·rename_i J;exact J6 A J hs
  exact hs
 rintro ⟨C,hs,D⟩;obtain ⟨e,A,hs⟩:=(eN ts t r _ C).1 hs;rw [gm (iZ A)] at hs
 split at hs
 ·obtain ⟨e',Q,g,I,e1⟩:=qK.1 hs;refine ⟨e',Q,C,?_,D⟩;rw [lH (iZ Q)] at I
  split at I
  ·rename_i Z;unfold tQ;rw [if_pos Z,mC];exact ⟨g,I,e1⟩
  simp at I
 exact ⟨e,A,C,hs,D⟩
def Kn.bad(h:Kn pl rl ts F)(C:k9 rl pl (eH rl pl (aJ pl F)) (aJ pl F)){x}(V:rl[i]? =some x)(U:t∈ts)(R:r∈t.rels)(hi:bi t.name r.name rl 0=i){y}(s:YK pl F x t r m y):wi rl pl (eH rl pl (aJ pl F)) (aJ pl F) i x m=ij ts (dw ts t r y) (t.name,r.name):=by
 rw [gU,wA];unfold wi;rw [dh];have D:=VB (fun s:Sp=>bi s.1 s.2 rl 0) (bh ts) (nM rl pl (eH rl pl (aJ pl F)) (aJ pl F)) (dw ts t r y) (fL rl pl (eH rl pl (aJ pl F)) x.kd (aJ pl F m) (aJ pl F x.ex)) (fun j=>h.need (bG V) U R s j) (fun s j e j'=>h.hangr s j e j') (fun s hs=>by
  rcases cS h.d h.b s.1 s.2 with ⟨e1,Q⟩|⟨i,t,r,e1,Z,ab,ac⟩
  ·refine absurd ?_ hs;unfold bh
   cases I:bX ts s.1 with
   |none=>rfl
   |some u=>simp only;rw [Q u I]
  omega)
 constructor
 ·rintro ⟨k,J,e⟩;have:k=i:=by simpa using e
  subst this;obtain ⟨Y,A,e⟩:=(D k).1 ((El _ _ _ _ C _ _).1 J);rw [<-h.inj (s:=Y) (s':=(t.name,r.name)) e hi];exact A
 intro A;exact ⟨i,(El _ _ _ _ C _ _).2 ((D i).2 ⟨_,A,hi⟩),au⟩
end
def H4(rs:List Rl):List Nat:=rs.flatMap fun r=>k8 r.body
def sA(ts:List Ty):List Nat:=ts.flatMap fun t=>H4 t.rels
section
variable (T:Nat->ae)(P:Nat->Nat)
def H5(i:Nat)(r:Rl)(j:Nat)(h:kS T P i=.ok (r,j)):ji P i j (k8 r.body):=by
 unfold kS at h
 split at h
 ·simp at h
 rename_i u D hn;have C:=fN T _ _ _ _ hn
 split at h
 ·simp at h
 rename_i x I A
 split at h
 ·simp only [dW,Prod.mk.injEq] at h;obtain ⟨rfl,rfl⟩:=h;exact (zx T P 4 _ _ _ A).wide ai ai
 simp at h
def tA:∀(f:Nat)(acc:List Rl)(i:Nat)(rs:List Rl)(m:Nat),dj T P f acc i=.ok (rs,m)->∃new,rs=acc++new/\i<m/\ji P i m (H4 new)
 |0,acc,i,rs,m,h=>by simp [dj] at h
 |f+1,acc,i,rs,m,h=>by
  unfold dj at h
  split at h
  ·exact Bt
  split at h
  ·simp at h
  split at h
  ·simp at h
  rename_i r j A;have h1:=H5 T P i r j A;have h2:=(wb T P i r j A).2;obtain ⟨new,rfl,D,C⟩:=tA f _ _ _ _ h;refine ⟨r::new,au,ai,?_⟩;exact h1.app C ai ai
def qL:∀(f:Nat)(acc:List Ty)(i:Nat)(ts:List Ty)(m:Nat),cR T P f acc i=.ok (ts,m)->∃new,ts=acc++new/\i<=m/\ji P i m (sA new)
 |0,acc,i,ts,m,h=>by simp [cR] at h
 |f+1,acc,i,ts,m,h=>by
  unfold cR at h
  split at h
  ·exact Bt
  split at h
  ·simp at h
  split at h
  ·simp at h
  rename_i t j A;obtain ⟨new,rfl,J,C⟩:=qL f _ _ _ _ h;rw [kw] at A
  split at A
  ·unfold mR at A
   split at A
   ·simp at A
   rename_i u U hn;have R:=fN T _ _ _ _ hn
   split at A
   ·simp at A
   rename_i rs V I;simp only [dW,Prod.mk.injEq] at A;obtain ⟨rfl,rfl⟩:=A;obtain ⟨rn,e,Q,D⟩:=tA T P _ _ _ _ _ I;rw [List.nil_append] at e;subst e;refine ⟨⟨T (i+1),P (i+1),rs⟩::new,au,ai,?_⟩;exact (D.wide (lo':=i) ai aH).app C ai ai
  simp at A
end
def BM(h:dI (TT s) (PP s)=.ok (ts,m))(hg:Gd s m):(sA ts).Pairwise (· < ·):=by
 obtain ⟨new,e,_,ha⟩:=qL (TT s) (PP s) 512 [] 0 ts m h;exact QV
def iq(B:Ex->Bool):Ex->List Nat
 |⟨n,some x,some y⟩=>iq B x++(if fj n.kind=246/\B y=true then [n.place] else [])++iq B y
 |⟨_,none,_⟩=>[]
 |⟨_,some _,none⟩=>[]
def wH(B):∀(x:Ex),(iq B x).Sublist (k8 x)
 |⟨n,some x,some y⟩=>by
  simp only [iq,k8];have h1:=wH B x;have h2:=wH B y;rw [ct];refine h1.append ?_
  split
  ·exact h2.cons_cons _
  exact h2.cons _
 |⟨_,none,_⟩=>by simp [iq]
 |⟨_,some _,none⟩=>by simp [iq]
def pV(ts t r):∀(x:Ex),(aF x).findSome? (lA ts t r)=(iq (fun y=>ij ts (dw ts t r y) (t.name,r.name)) x).head?
 |⟨n,some x,some y⟩=>by
  have h1:=pV ts t r x;have h2:=pV ts t r y;simp only [aF,iq,rS,h1,h2,List.findSome?_cons,List.findSome?_nil,List.head?_append]
  congr 2
  unfold lA;simp only
  by_cases ha:fj n.kind=246
  ·by_cases h:ij ts (dw ts t r y) (t.name,r.name)=true
   ·simp [ha,h]
   simp [ha,h]
  simp [ha]
 |⟨n,none,r'⟩=>by simp [aF,iq,lA]
 |⟨n,some x,none⟩=>by simp [aF,iq]
def H6{l:List Nat}(h:l.Pairwise (· < ·)):dL (k7 l.head?) (fun q=>q∈l):=by
 cases l with
 |nil=>exact .inl ⟨rfl,au⟩
 |cons a l=>
  refine .inr ⟨a,rfl,au,fun q A=> ?_⟩
  rcases List.mem_cons.1 A with rfl|A
  ·exact bV _
  exact Nat.le_of_lt ((ky.1 h).1 q A)
def pW{α:Type}(f:α->List Nat):∀(l:List α),(l.findSome? fun a=>(f a).head?)=(l.flatMap f).head?
 | []=>rfl
 |a::l=>by
  rw [gI,bN,List.head?_append,<-pW f l]
  cases (f a).head? <;>rfl
def wI(ts:List Ty):List Nat:=ts.flatMap fun t=>t.rels.flatMap fun r=>iq (fun y=>ij ts (dw ts t r y) (t.name,r.name)) r.body
def wJ{α:Type}{f g:α->List Nat}(h:∀a,(f a).Sublist (g a)):∀(l:List α),(l.flatMap f).Sublist (l.flatMap g)
 | []=>au
 |a::l=>by
  rw [bN,bN];exact (h a).append (wJ h l)
def Ew(h:(sA ts).Pairwise (· < ·)):dL (k7 (ff (jE ts) ts)) (fun q=>q∈wI ts):=by
 have e:ff (jE ts) ts=(wI ts).head? :=by
  unfold ff wI;rw [<-pW]
  congr 1
  funext t
  rw [<-pW]
  congr 1
  funext r
  unfold jE;exact pV ts t r r.body
 rw [e];have hs:(wI ts).Sublist (sA ts):=by
  unfold wI sA H4;exact wJ (fun t=>wJ (fun r=>wH _ r.body) t.rels) ts
 exact H6 (h.sublist hs)
def XD (h:aD:=by
 rw [cK,List.sum_append];omega):aD:=h
def H7 (h:aD:=by
 rw [hn.1,hn.2];simp only [dS,List.drop_nil,Uf];refine (kP x bad B hB f q ys c S k2 ai h).congr (fun q=> ?_);simp [iq]):aD:=h
def Rs (h:aD:=by
 rw [h3];exact cu.app (show cu (wK pl (g+1) x) (n0::ns) (x0::rs.map fun r=>r.2.2) from ⟨k0,kn⟩) _ _ k2):aD:=h
def Rt(q:br) (h:cj br->aD:=by
 intro zq;have kn:cu (wK pl (g+1) x) ns (rs.map fun r=>r.2.2):=Ey ns _ (fun m hm z hz=>k1.kid hp (by rw [h3];simp [hm]) hz) h5;have k0:wK pl (g+1) x n0 x0:=k1.kid hp (by rw [h3];simp) h4
 revert kn k0
 exact zq.1):aD:=h ⟨q⟩
def qM(t p):minus ⟨bB t,p,false⟩=eqs t (sg 45):=by
 unfold minus eqs;simp only;rw [cX,aT]
 rfl
def Ru:¬fj (kindOf (sg 38))=246:=by decide
def VG:¬fj (kindOf (sg 124))=246:=by decide
def Mf:fj (kindOf (sg 45))=246:=by decide
def qN{P:α->Prop}{x:α}{l:List α}:(∃a∈x::l,P a)↔P x\/∃a∈l,P a:=by
 constructor
 ·rintro ⟨a,ha,h⟩
  rcases List.mem_cons.1 ha with rfl|ha
  ·exact .inl h
  exact .inr ⟨a,ha,h⟩
 rintro (h|⟨a,ha,h⟩)
 ·exact ⟨x,au,h⟩
 exact ⟨a,by simp [ha],h⟩
def sB(B q):∀(rs:List (ae×Nat×Ex)) (x:Ex),q∈iq B (cd x rs)↔q∈iq B x\/(∃r∈rs,fj (kindOf r.1)=246/\B r.2.2=true/\q=r.2.1)\/∃r∈rs,q∈iq B r.2.2
 | [],x=>by simp [cd]
 |(t,p,y)::rs,x=>by
  rw [cd,sB B q rs];simp only [dE,iq,aW,qN]
  by_cases h:fj (kindOf t)=246/\B y=true
  ·rw [if_pos h];simp only [aX,h,true_and]
   constructor
   ·rintro (((h|h)|h)|h|h)
    ·exact .inl h
    ·exact .inr (.inl (.inl h))
    ·exact .inr (.inr (.inl h))
    ·exact .inr (.inl (.inr h))
    exact .inr (.inr (.inr h))
   rintro (h|(h|h)|h|h)
   ·exact .inl (.inl (.inl h))
   ·exact .inl (.inl (.inr h))
   ·exact .inr (.inl h)
   ·exact .inl (.inr h)
   exact .inr (.inr h)
  rw [if_neg h];simp only [List.not_mem_nil,or_false]
  constructor
  ·rintro ((h|h)|h|h)
   ·exact .inl h
   ·exact .inr (.inr (.inl h))
   ·exact .inr (.inl (.inr h))
   exact .inr (.inr (.inr h))
  rintro (A|(A|A)|A|A)
  ·exact .inl (.inl A)
  ·exact absurd ⟨A.1,A.2.1⟩ h
  ·exact .inr (.inl A)
  ·exact .inl (.inr A)
  exact .inr (.inr A)
def zD{R:Nat->Ex->Prop}(bad:Nat->Bool)(B:Ex->Bool)(C:∀n y,R n y->bad n=B y):∀(rs:List (ae×Nat×Ex)) (ns:List Nat) (c:Int) (S:Nat->Prop),cu R ns (rs.map fun r=>r.2.2)->(∀r∈rs,r.1=sg 38\/r.1=sg 45)->dL c S->
  dL (Uf bad ns (rs.map fun r=>⟨bB r.1,r.2.1,false⟩) c) (fun q=>S q\/∃r∈rs,fj (kindOf r.1)=246/\B r.2.2=true/\q=r.2.1)
 | [],[],c,S,_,_,h=>h.congr (fun q=>au)
 |r::rs,n::ns,c,S,k,hs,h=>by
  have I:bad n=B r.2.2:=C n _ k.1;have A:=zD bad B C rs ns;simp only [bZ,Uf,qM,I]
  rcases hs r au with e|e
  ·have e1:eqs r.1 (sg 45)=false:=by rw [e];decide
   rw [e1];simp only [eK,bJ,a8];refine (A c S k.2 (fun r hr=>hs r qF) h).congr (fun q=> ?_);simp only [qN,e,Ru,false_and,false_or]
  have e1:eqs r.1 (sg 45)=true:=by rw [e];decide
  rw [e1];simp only [Bool.true_and]
  cases D:B r.2.2
  ·simp only [bJ,a8];refine (A c S k.2 (fun r hr=>hs r qF) h).congr (fun q=> ?_);simp only [qN,D,bJ,false_and,and_false,false_or]
  simp only [if_true];refine (A _ _ k.2 (fun r hr=>hs r qF) (h.step r.2.1)).congr (fun q=> ?_);simp only [qN,D,e,Mf,true_and,or_assoc]
 | [],_::_,_,_,k,_,_=>k.elim
 |_::_,[],_,_,k,_,_=>k.elim
section
variable {pl:List PV}{rl:List RV}{ts:List Ty}{F:Nat}
def Rv{y q}(D:Tr pl (f+1) n y)(A:pl[n]? =some q):mX pl (f+1) n=(q.ps.map (mX pl (f+1))).sum+1:=by
 rw [mX,A];simp only;rw [oy (f:=mX pl f) (g:=mX pl (f+1)) (fun m C=>by obtain ⟨z,I⟩:=D.kids A m C;exact (BD pl I ai).symm)]
def wK(pl:List PV)(F:Nat)(x:RV)(n:Nat)(y:Ex):Prop:=Tr pl F n y/\∀k∈aJ pl F n,k∈aJ pl F x.ex
def wK.kid{x y p}(h:wK pl (g+1) x n y)(I:pl[n]? =some p)(D:m∈p.ps){z}(C:Tr pl g m z):wK pl (g+1) x m z:=by
 refine ⟨Tr.up pl _ _ _ C,fun k A=>h.2 k ?_⟩;rw [kA pl C ai] at A;exact h.1.kid_leaves I m D k A
def Ey{R S}:∀(ns:List Nat)(xs:List Ex),(∀n∈ns,∀x,R n x->S n x)->cu R ns xs->cu S ns xs
 | [],[],_,_=>trivial
 |n::ns,x::xs,h,k=>⟨h n au x k.1,Ey ns xs (fun n hn=>h n (by simp [hn])) k.2⟩
 | [],_::_,_,k=>k.elim
 |_::_,[],_,k=>k.elim
def kP{g}(x bad B)(hB:∀n y,wK pl (g+1) x n y->bad n=B y):∀(f:Nat)(q:List Nat)(ys:List Ex)(c:Int)(S:Nat->Prop),cu (wK pl (g+1) x) q ys->(q.map (mX pl (g+1))).sum<f->dL c S->
  dL (o5 bad pl f q c) (fun p=>S p\/∃y∈ys,p∈iq B y)
 |0,_,_,_,_,_,h,_=>ai
 |f+1,[],[],c,S,_,_,h=>h.congr (fun q=>au)
 |f+1,n::q,y::ys,c,S,k,hs,h=>by
  obtain ⟨k1,k2⟩:=k;obtain ⟨p,hp,hc⟩:=id k1.1;have hz:=Rv k1.1 hp;simp only [bZ,List.sum_cons] at hs;rw [o5,hp];simp only
  rcases hc with ⟨h1,hn,rfl⟩|⟨h1,h0,hn,rfl⟩|⟨h1,h0,hn,rfl⟩|⟨h1,h0,n0,ns,x0,rs,h3,h4,h5,C,I,rfl⟩|⟨h1,h0,Q,n0,ns,x0,rs,h3,h4,h5,C,I,rfl⟩
  ·exact H7
  ·exact H7
  ·exact H7
  ·refine Rt ?_;intro kn k0;have R:=zD bad B hB rs ns c S kn I.1 h;have D:cu (wK pl (g+1) x) (q++p.ps) (ys++(x0::rs.map fun r=>r.2.2)):=by
    exact Rs
   have hl:=kP x bad B hB f _ _ _ _ D XD R;rw [C];rw [h3] at hl ⊢;simp only [ri,m4];refine hl.congr (fun p=> ?_);simp only [sB,aW,or_and_right,exists_or,List.mem_cons,exists_eq_left,aU]
   constructor
   ·rintro ((h|h)|h|h|⟨z,⟨r,A,rfl⟩,hz⟩)
    ·exact .inl h
    ·exact .inr (.inl (.inr (.inl h)))
    ·exact .inr (.inr h)
    ·exact .inr (.inl (.inl h))
    exact .inr (.inl (.inr (.inr ⟨r,A,hz⟩)))
   rintro (h|(h|h|⟨r,A,hz⟩)|h)
   ·exact .inl (.inl h)
   ·exact .inr (.inr (.inl h))
   ·exact .inl (.inr h)
   ·exact .inr (.inr (.inr ⟨_,⟨r,A,rfl⟩,hz⟩))
   exact .inr (.inl h)
  refine Rt ?_;intro kn k0;have D:cu (wK pl (g+1) x) (q++p.ps) (ys++(x0::rs.map fun r=>r.2.2)):=by
   exact Rs
  have hl:=kP x bad B hB f _ _ _ _ D XD h;rw [Q];have e:∀l:List Nat,Uf bad l (List.drop 1 []) c=c:=fun l=>by cases l<;>rfl
  rw [e];refine hl.congr (fun p=> ?_);have U:¬∃r∈rs,fj (kindOf r.1)=246/\B r.2.2=true/\p=r.2.1:=by
   rintro ⟨r,A,J,_⟩;rw [C r A] at J;exact VG J
  simp only [sB,aW,or_and_right,exists_or,List.mem_cons,exists_eq_left,aU,U,false_or]
  constructor
  ·rintro (h|h|h|⟨z,⟨r,A,rfl⟩,hz⟩)
   ·exact .inl h
   ·exact .inr (.inr h)
   ·exact .inr (.inl (.inl h))
   exact .inr (.inl (.inr ⟨r,A,hz⟩))
  rintro (h|(h|⟨r,A,hz⟩)|h)
  ·exact .inl h
  ·exact .inr (.inr (.inl h))
  ·exact .inr (.inr (.inr ⟨_,⟨r,A,rfl⟩,hz⟩))
  exact .inr (.inl h)
 |f+1,[],_::_,_,_,k,_,_=>k.elim
 |f+1,_::_,[],_,_,k,_,_=>k.elim
end
def x8(h:et ts):(bx ts).Pairwise fun p q=>¬(p.1=q.1/\p.2.name=q.2.name):=by
 unfold bx;rw [List.pairwise_flatMap];refine ⟨fun t C=> ?_,?_⟩
 ·rw [sj];exact (h.rl t C).imp (fun {a b} A e=>A e.2)
 refine h.ty.imp (fun {a b} A=> ?_);intro x D y I e;obtain ⟨r,_,rfl⟩:=aU.1 D;obtain ⟨q,_,rfl⟩:=aU.1 I;exact A e.1
section
variable {pl:List PV}{rl:List RV}{ts:List Ty}{F:Nat}
def Kn.num(h:Kn pl rl ts F){p:ae×Rl}(hi:(bx ts)[i]? =some p):bi p.1 p.2.name rl 0=i:=by
 obtain ⟨t,J,e1,Z⟩:=dz.1 (bG hi)
 rcases cS h.d h.b p.1 p.2.name with ⟨_,Y⟩|⟨j,ac,r,e,ab,U,V⟩
 ·have:=Y t (by rw [<-e1];exact dq h.d J);rw [pQ (h.d.rl t J) Z] at this
  cases this
 have hn:=(cF U).2;have C:=x8 h.d;rw [List.pairwise_iff_getElem] at C;obtain ⟨Q,D⟩:=bD.1 hi;obtain ⟨R,I⟩:=bD.1 V
 rcases Nat.lt_trichotomy i j with A|A|A
 ·exact absurd (by rw [D,I];exact ⟨rfl,hn.symm⟩) (C i j Q R A)
 ·rw [e,A]
 exact absurd (by rw [D,I];exact ⟨rfl,hn⟩) (C j i R Q A)
def Rw(ts:List Ty)(p:ae×Rl)(q:Nat):Prop:=∃t∈ts,t.name=p.1/\q∈iq (fun y=>ij ts (dw ts t p.2 y) (t.name,p.2.name)) p.2.body
def Kn.best(h:Kn pl rl ts F)(ab:k9 rl pl (eH rl pl (aJ pl F)) (aJ pl F)){x}(V:rl[i]? =some x){p:ae×Rl}(hi:(bx ts)[i]? =some p)(c S)(ac:dL c S):dL (o5 (wi rl pl (eH rl pl (aJ pl F)) (aJ pl F) i x) pl (mX pl F x.ex+1) [x.ex] c) (fun q=>S q\/Rw ts p q):=by
 obtain ⟨t,I,e1,ad⟩:=dz.1 (bG hi);obtain ⟨ah,Q,D,_,_,J⟩:=cT.get rl _ i p h.f hi;rw [V] at Q;simp only [aR] at Q;subst Q;have U:=h.num hi;rw [<-e1] at U
 cases F with
 |zero=>exact J.elim
 |succ g=>
  have Z:∀n y,wK pl (g+1) x n y->wi rl pl (eH rl pl (aJ pl (g+1))) (aJ pl (g+1)) i x n=ij ts (dw ts t p.2 y) (t.name,p.2.name):=fun n y hs=>
   h.bad ab V I ad U ⟨hs.1,J,hs.2,by rw [D,e1]⟩
  refine (kP x _ (fun y=>ij ts (dw ts t p.2 y) (t.name,p.2.name)) Z _ [x.ex] [p.2.body] c S ⟨⟨J,fun k D=>D⟩,trivial⟩ au ac).congr (fun q=> ?_);simp only [aX,exists_eq_left];unfold Rw
  constructor
  ·rintro (A|A)
   ·exact .inl A
   exact .inr ⟨t,I,e1,A⟩
  rintro (A|⟨ag,af,Y,A⟩)
  ·exact .inl A
  have R:=dq h.d I;have C:=dq h.d af;rw [e1] at R;rw [Y,R] at C;simp only [aR] at C;subst C;exact .inr A
def Kn.loops(h:Kn pl rl ts F)(A:k9 rl pl (eH rl pl (aJ pl F)) (aJ pl F)):∀(xs:List RV) (ps:List (ae×Rl)) (i:Nat) (c:Int) (S:Nat->Prop),cT pl F xs ps->(∀k,xs[k]? =rl[i+k]?)->(∀k,ps[k]? =(bx ts)[i+k]?)->dL c S->
  dL (loopsR rl pl (eH rl pl (aJ pl F)) (aJ pl F) (fun _=>mX pl F) xs i c) (fun q=>S q\/∃p∈ps,Rw ts p q)
 | [],[],i,c,S,_,_,_,hc=>by
  rw [loopsR];exact hc.congr (fun q=>au)
 |x::xs,p::ps,i,c,S,hf,hx,hp,hc=>by
  rw [loopsR];have h1:=h.best A (i:=i) (x:=x) (by have:=hx 0;simpa using this.symm) (p:=p) (by have:=hp 0;simpa using this.symm) c S hc;refine (Kn.loops h A xs ps (i+1) _ _ hf.2 (fun k=> ?_) (fun k=> ?_) h1).congr (fun q=> ?_)
  ·have:=hx (k+1);simp only [List.getElem?_cons_succ] at this;rw [this];congr 1;omega
  ·have:=hp (k+1);simp only [List.getElem?_cons_succ] at this;rw [this];congr 1;omega
  rw [qN,or_assoc]
 | [],_::_,_,_,_,k,_,_,_=>k.elim
 |_::_,[],_,_,_,k,_,_,_=>k.elim
def Mh:q∈wI ts↔∃t∈ts,∃r∈t.rels,q∈iq (fun y=>ij ts (dw ts t r y) (t.name,r.name)) r.body:=by
 unfold wI;simp only [b6]
def Kn.loopsR(h:Kn pl rl ts F)(Q:k9 rl pl (eH rl pl (aJ pl F)) (aJ pl F))(hs:(sA ts).Pairwise (· < ·)):loopsR rl pl (eH rl pl (aJ pl F)) (aJ pl F) (fun _=>mX pl F) rl 0 (-1)=k7 (ff (jE ts) ts):=by
 have h1:=h.loops Q rl (bx ts) 0 (-1) (fun _=>False) h.f (fun k=>au) (fun k=>au) (.inl ⟨rfl,fun q A=>A⟩);refine h1.unique ((Ew hs).congr (fun q=> ?_));rw [Mh,false_or]
 constructor
 ·rintro ⟨t,C,r,I,A⟩;exact ⟨(t.name,r),dz.2 ⟨t,C,rfl,I⟩,t,C,rfl,A⟩
 rintro ⟨p,R,t,C,e,A⟩;obtain ⟨V,U,e',I⟩:=dz.1 R;have J:=dq h.d C;have D:=dq h.d U;rw [e] at J;rw [e',J] at D;simp only [aR] at D;subst D;exact ⟨t,C,p.2,I,A⟩
end
def VH(hs:s.size<=500)(kl rl pl ts m)(h:dI (TT s) (PP s)=.ok (ts,m))(C:Gd s m)(D:tO pl kl rl ts):QO kl rl pl ts:=by
 obtain ⟨F,hF⟩:=dc.fuel rl _ D.2;have A:=sized h C hs;have Y:=sq h;obtain ⟨rfl,U⟩:=id D;refine ⟨eH rl pl (aJ pl F),aJ pl F,fun x n=>QF pl F x n/\Q4 pl F n,fun _=>mX pl F,Bz hF A,Q0 hF A,Hq D (xX h C),fun ae=> ?_⟩;have V:=(lG ts [] ae).2;have hn:=tw V U hF Y;refine ⟨hn,fun ac=> ?_⟩;rw [ac] at hn;have R:=Vz hF A _ hn;refine ⟨R,fun x Q=>VA hF A _ hn x Q,?_⟩;have Z:Kn pl rl ts F:=⟨V,U,hF,Y,fun t J r I=>(kB h t J r I).1,fun t J r I=>(((iR (TT s) (PP s) ts m h).1 t J).1 r I).wf,A,fun x Q n ab p ad=>qI _ _ _ hn x Q n ab p ad⟩;exact Z.loopsR R (BM h C)
def jm(s w)(hs:s.size<=500):Calls prog 80 #[aj s] w (QP s w):=L7 s w hs (fun kl rl pl ts m h A C=>VH hs kl rl pl ts m h A C)
