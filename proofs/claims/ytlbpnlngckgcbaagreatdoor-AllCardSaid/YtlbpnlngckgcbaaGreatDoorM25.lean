import Derived.Test.YtlbpnlngckgcbaaGreatDoorM19
import Derived.Test.YtlbpnlngckgcbaaGreatDoorM20
set_option linter.all false
set_option maxHeartbeats 4000000
set_option maxRecDepth 100000
namespace Go.Proofs.YtlbpnlngckgcbaaGreatDoor
open Go.RowKit Go.PlainAid Go.Proofs.Tryz
variable {pl:List PV} {rl:List RV} {ts:List Ty} {t:Ty} {aD bq:Prop} {α:Type} {q lo hi k base b i d a f n F m j g:Nat} {w:af} {s:ae} {tv kv rv pv:ag} {r:Rl}
def bx(ts:List Ty):List (ae×Rl):=ts.flatMap fun t=>t.rels.map fun r=>(t.name,r)
def db(pl:List PV):List RV->List (ae×Rl)->Prop
 | [],[]=>True
 |x::xs,p::ps=>Mw pl p.1 x p.2/\db pl xs ps
 |_,_=>False
def db.more{pl}(t):∀(xs:List RV) (ps:List (ae×Rl)),db pl xs ps->db (pl++t) xs ps
 | [],[],_=>trivial
 |x::xs,r::rs,h=>⟨h.1.more t,db.more t xs rs h.2⟩
 | [],_::_,h=>h.elim
 |_::_,[],h=>h.elim
def db.app{pl c cs}(k:db pl c cs):∀(xs:List RV) (ps:List (ae×Rl)),db pl xs ps->db pl (xs++c) (ps++cs)
 | [],[],_=>k
 |x::xs,r::rs,h=>⟨h.1,db.app k xs rs h.2⟩
 | [],_::_,h=>h.elim
 |_::_,[],h=>h.elim
def db.of{pl:List PV}{tn:ae}:∀(xs:List RV)(rs:List Rl),jT pl tn xs rs->db pl xs (rs.map fun r=>(tn,r))
 | [],[],_=>trivial
 |x::xs,r::rs,h=>⟨h.1,db.of xs rs h.2⟩
 | [],_::_,h=>h.elim
 |_::_,[],h=>h.elim
def uv(pl:List PV)(kl:List (ae×Nat))(rl:List RV)(ts:List Ty):Prop:=kl=ts.map (fun t=>(t.name,t.place))/\db pl rl (bx ts)
def uv.snoc{kl}(h:uv pl kl rl ts){tt rn}(k:jT (pl++tt) t.name rn t.rels):uv (pl++tt) (kl++[(t.name,t.place)]) (rl++rn) (ts++[t]):=by
 refine ⟨by rw [h.1];simp,?_⟩;have e:bx (ts++[t])=bx ts++t.rels.map fun r=>(t.name,r):=by simp [bx]
 rw [e];exact db.app (db.of _ _ k) _ _ (db.more tt _ _ h.2)
def MdC(s:ae)(R:eL (List Ty))(k j e aa:Nat)(kl:List (ae×Nat))(rl:List RV)(pl:List PV):Prop:=
 (e=0/\pl.length<=j/\rl.length<=j/\512<=k+j/\kl.length<=5/\∃ts,uv pl kl rl ts/\cQ (TT s) (PP s) k ts j=R)\/
 (e≠0/\∃h,aa=PP s h/\R=.error (e,h))
def MPost(base b:Nat)(s:ae)(tv:ag)(w:af)(R:eL (List Ty))(e:Ending)(w':af):Prop:=
 e=bi (.tuple #[])/\Below base w w'/\∃kv rv pv kl rl pl l j e' a',RM base w' b s tv j 0 e' a' kv rv pv kl rl pl l/\(match R with
  | .ok (ts,m)=>e'=0/\m=j/\kl.length<=5/\rl.length<=500/\pl.length<=500/\uv pl kl rl ts
  | .error (c,jj)=>c≠0/\e'=c/\a'=PP s jj)
def H5(base b s tv kv rv pv l w)(h:RM base w b s tv 0 0 0 0 kv rv pv [] [] [] l)(J:base<=b)(aH:base<=w.heap.size):
  Calls prog 127 #[bu b] w (MPost base b s tv w (dJ (TT s) (PP s))):=by
 generalize a0:dJ (TT s) (PP s)=R;have aU:=show MdC s R 512 0 0 0 [] [] [] from .inl ⟨rfl,ar,ar,ai,ar,[],⟨rfl,trivial⟩,a0⟩
 have aQ:=az base w;clear a0;go_enter func127,ntmps127;go_wp2_with fail
 go_loopg [2] 512 (fun k bT wr=>∃(j e aa:Nat) (kv rv pv:ag) (kl:List (ae×Nat)) (rl:List RV) (pl:List PV) (l:List PX),RM base wr b s tv j 0 e aa kv rv pv kl rl pl l/\Below base w wr/\(MdC s R k j e aa kl rl pl))
 ·exact ⟨0,0,0,kv,rv,pv,[],[],[],l,h,aQ,aU⟩
 ·clear h aQ aU;obtain ⟨j,e,aa,kv,rv,pv,kl,rl,pl,l,D,ay,aG⟩:=hrel;have aI:base<=wr.heap.size:=aV aH ay.size
  rcases aE aG with ⟨rfl,bM,bO,bK,bw,ts,V,A⟩|⟨bt,a8,bs,A⟩
  ·have bL:=D.rs.gd.le;have bP:=D.rs.sz;obtain ⟨Q,rfl⟩:∃f,gk=f+1:=⟨gk-1,ai⟩;obtain ⟨ad,af,ah,r3,aj,ak,al,am⟩:=D.rs.blk.eight
   cases ac:eqs (TT s j) em
   ·have C:=ec b s tv j 0 aa kv rv pv em wr D.rs false ac;obtain ⟨bQ,bS,rfl⟩:=aw D.kt;clear aG;go_wp2_with fail;refine C.mono ?_;rintro e' aP ⟨rfl,U⟩;have Z:=D.below U J aI;have an:=ay.trans (U.mono aI);have a1:base<=aP.heap.size:=aV aH an.size;have aR:=lH b s tv j 0 0 aa _ rv pv jQ aP Z.rs ax;obtain ⟨bb,bc,bf,bg,bh,bi,bj,bk⟩:=Z.rs.blk.eight;clear U C D ay ad af ah r3 aj ak al am;go_wp2_with fail;refine aR.mono ?_;rintro e' aK ⟨rfl,aO,aJ,e1,aW,aB,bn⟩;have I:=Z.but aO J a1 bn;have Y:=an.trans (aO.below J a1);have a2:base<=aK.heap.size:=aV aH Y.size;obtain ⟨ad,af,ah,r3,aj,ak,al,am⟩:=I.rs.blk.eight;clear aO bn aR Z an bb bc bf bg bh bi bj bk;simp only [J3,if_true] at aB
    cases aF:eqs (TT s j) jQ
    ·simp only [aF,bJ,aZ,Prod.mk.injEq] at aB;obtain ⟨rfl,rfl,rfl⟩:=aB;have av:=(show MdC s R Q aJ 2 (PP s aJ) kl rl pl from .inr ⟨ai,aJ,rfl,by
      rw [<-A,cQ,ac];simp [aF,kA]⟩)
     clear A V;go_wp2
     go_roundg Q
     case measure=>omega
     case rel=>exact ⟨aJ,2,_,_,rv,pv,kl,rl,pl,l,I,Y,av⟩
    simp only [aF,if_true,Prod.mk.injEq] at aB;obtain ⟨rfl,rfl,rfl⟩:=aB
    by_cases bH:kl.length=5
    ·have bx:((kl.length:Int)==5)=true:=by rw [dS];omega
     have a4:=I.rs.gd;have a5:Gd s j:=fun q bN=>a4 q ai
     have zq:=I.rs.blk.fz;have aN:=I.but ((But.refl b aK).setCell 1 (au (j:Int))) J a2 (I.rs.setI j a5);have aL:=Y.setCell (p:=⟨b,1,none⟩) J (au (j:Int));have a3:base<=(aK.setCell (aC b 1) (au (j:Int))).heap.size:=aV aH aL.size;have ap:=uE b s tv j 0 aW _ rv pv 3 _ aN.rs;have av:=(show MdC s R Q j 3 (PP s j) kl rl pl from .inr ⟨ai,j,rfl,by
      have hl:ts.length=5:=by have:=congrArg List.length V.1;rw [List.length_map] at this;omega
      rw [<-A,cQ,ac];simp [aF,hl]⟩)
     clear A V a4 a5;go_wp2_with fail;refine ap.mono ?_;rintro e' bG ⟨rfl,ab,bo⟩;have aT:=aN.but ab J a3 bo;have aM:=aL.trans (ab.below J a3);obtain ⟨bb,bc,bf,bg,bh,bi,bj,bk⟩:=aT.rs.blk.eight;clear ab bo ap aN aL I Y ad af ah r3 aj ak al am zq;go_wp2
     go_roundg Q
     case measure=>omega
     case rel=>exact ⟨j,3,_,_,rv,pv,kl,rl,pl,l,aT,aM,av⟩
    have bx:((kl.length:Int)==5)=false:=by rw [bR];omega
    have ap:=QS base b s tv (j+1) aW _ rv pv kl rl pl l aK I J a2 ai ai ai;go_wp2_with fail;refine ap.mono ?_;rintro e' bG ⟨rfl,ab,bA,bF,bC,a9,bl,ba,bB,a7,aY,aX,bD,aA⟩;have aM:=Y.trans ab;have av:=(show MdC s R Q a7 aY aX a9 bl ba from by
     have hl:ts.length≠5:=by have:=congrArg List.length V.1;rw [List.length_map] at this;omega
     have bz:cQ (TT s) (PP s) (Q+1) ts j=(match m2 (TT s) (PP s) (j+1) with
      | .error e=> .error e
      | .ok (t,j)=>cQ (TT s) (PP s) Q (ts++[t]) j):=by
      rw [cQ,ac,kA,aF];simp only [bJ,aZ,Bool.true_and,bR.2 hl,if_true]
      cases m2 (TT s) (PP s) (j+1)<;>rfl
     rw [bz] at A
     cases a6:m2 (TT s) (PP s) (j+1) with
     |error er=>
      obtain ⟨c,a8⟩:=er;rw [a6] at aA A;obtain ⟨hc,rfl,rfl⟩:=aA;exact .inr ⟨hc,a8,rfl,A.symm⟩
     |ok y=>
      obtain ⟨t,m⟩:=y;rw [a6] at aA A;obtain ⟨rfl,rfl,rfl,h1,h2,bp,rfl,rn,tt,rfl,rfl,br⟩:=aA;exact .inl ⟨rfl,h2,bp,ai,aS,ts++[t],V.snoc br,A⟩)
    clear ab aA ap I Y A V ad af ah r3 aj ak al am;go_wp2
    go_roundg Q
    case measure=>omega
    case rel=>exact ⟨a7,aY,aX,bA,bF,bC,a9,bl,ba,bB,bD,aM,av⟩
   have C:=ec b s tv j 0 aa kv rv pv em wr D.rs true ac;clear aG;go_wp2_with fail;refine C.mono ?_;rintro e' aP ⟨rfl,U⟩;have Z:=D.below U J aI;have an:=ay.trans (U.mono aI);clear U C ad af ah r3 aj ak al am;go_wp2;refine bE (results_none rfl _ _ _) rfl ⟨rfl,an,_,rv,pv,_,rl,pl,l,j,0,aa,Z,?_⟩;rw [<-A,cQ,ac];exact ⟨rfl,rfl,bw,ai,ai,V⟩
  have bv:¬((e:Int)=0):=ai;have bI:((e:Int)==0)=false:=bR.2 bv;obtain ⟨ad,af,ah,r3,aj,ak,al,am⟩:=D.rs.blk.eight;clear aG;go_wp2;go_end0;refine ⟨rfl,ay,kv,rv,pv,_,rl,pl,l,j,e,aa,D,?_⟩;rw [A];exact ⟨bt,rfl,bs⟩
abbrev kB:=@List.pairwise_cons
def XX (h:aD:=by
 constructor
 ·rintro ((h|h)|h)
  ·exact .inl h
  ·exact .inr (.inl ⟨⟨y,hy,hl'⟩,h⟩)
  exact .inr (.inr h)
 rintro (h|⟨_,h⟩|h)
 ·exact .inl (.inl h)
 ·exact .inl (.inr h)
 exact .inr h):aD:=h
def Q0 (h:aD:=by
 rcases hq with hq|hq
 ·exact Q1 _ _ (gz.mem hq)
 exact Ia _ _ (gz.mem hq)):aD:=h
def dN(c:Int)(S:Nat->Prop):Prop:=(c= -1/\∀q,¬S q)\/∃p:Nat,c=p/\S p/\∀q,S q->p<=q
def dN.unique{c d S}(h:dN c S)(k:dN d S):c=d:=by
 rcases h with ⟨rfl,h⟩|⟨p,rfl,C,h⟩
 ·rcases k with ⟨rfl,_⟩|⟨q,rfl,A,_⟩
  ·rfl
  exact absurd A (h q)
 rcases k with ⟨rfl,k⟩|⟨q,rfl,A,k⟩
 ·exact absurd C (k p)
 have:=h q A;have:=k p C;omega
def dN.congr{c S T}(h:dN c S)(e:∀q,S q↔T q):dN c T:=by
 rcases h with ⟨h1,h2⟩|⟨p,h1,h2,C⟩
 ·exact .inl ⟨h1,fun q A=>h2 q ((e q).2 A)⟩
 exact .inr ⟨p,h1,(e p).1 h2,fun q A=>C q ((e q).2 A)⟩
def dN.step{c S}(h:dN c S)(p):dN (eI c p) (fun q=>S q\/q=p):=by
 unfold eI
 rcases h with ⟨rfl,h⟩|⟨q,rfl,C,h⟩
 ·rw [if_pos (.inl ai)];exact .inr ⟨p,rfl,.inr rfl,fun q C=>by
   rcases C with C|rfl
   ·exact absurd C (h q)
   exact bV _⟩
 split
 ·rename_i D;refine .inr ⟨p,rfl,.inr rfl,fun r A=> ?_⟩
  rcases A with A|rfl
  ·have:=h r A;omega
  exact bV _
 rename_i D;refine .inr ⟨q,rfl,.inl C,fun r A=> ?_⟩
 rcases A with A|rfl
 ·exact h r A
 omega
def wJ(c p):eI (eI c p) p=eI c p:=by
 unfold eI
 by_cases h:c<0\/(p:Int)<c
 ·rw [if_pos h]
  split<;>rfl
 rw [if_neg h,if_neg h]
def Ez(x:ae×Nat):∀(acc:List (ae×Nat)) (c:Int),tU x acc c=if (acc.any fun y=>eqs y.1 x.1) then eI c x.2 else c
 | [],c=>rfl
 |y::ys,c=>by
  rw [tU,Ez x ys]
  cases h:eqs y.1 x.1<;>cases h2:(ys.any fun y=>eqs y.1 x.1)<;>simp [h,h2,wJ]
def EA(x):∀(acc:List RV)(c:Int),tV x acc c=if (acc.any fun y=>eqs y.kd x.kd&&eqs y.nm x.nm) then eI c x.pl else c
 | [],c=>rfl
 |y::ys,c=>by
  rw [tV,EA x ys]
  cases h:(eqs y.kd x.kd&&eqs y.nm x.nm)<;>cases h2:(ys.any fun y=>eqs y.kd x.kd&&eqs y.nm x.nm)<;>simp [h,h2,wJ]
def gz{α:Type}(like:α->α->Prop)(pl:α->Nat)(acc l:List α)(q:Nat):Prop:=∃A x B,l=A++x::B/\(∃y∈acc++A,like y x)/\q=pl x
def gz.cons{like:α->α->Prop}{pl:α->Nat}{acc l:List α}{x:α}:gz like pl acc (x::l) q↔((∃y∈acc,like y x)/\q=pl x)\/gz like pl (acc++[x]) l q:=by
 constructor
 ·rintro ⟨A,z,B,e,hl,C⟩
  cases A with
  |nil=>
   simp only [List.nil_append,kX] at e;obtain ⟨rfl,rfl⟩:=e;exact .inl ⟨by simpa using hl,C⟩
  |cons a A=>
   simp only [List.cons_append,kX] at e;obtain ⟨rfl,rfl⟩:=e;exact .inr ⟨A,z,B,rfl,by simpa using hl,C⟩
 rintro (⟨h,C⟩|⟨A,z,B,rfl,hl,C⟩)
 ·exact ⟨[],x,l,rfl,by simpa using h,C⟩
 exact ⟨x::A,z,B,rfl,by simpa using hl,C⟩
def gz.nil{like:α->α->Prop}{pl:α->Nat}{acc:List α}:¬gz like pl acc [] q:=by
 rintro ⟨A,x,B,e,_⟩
 cases A<;>simp at e
def po(y x:ae×Nat):Prop:=y.1=x.1
def EB(y x:RV):Prop:=y.kd=x.kd/\y.nm=x.nm
def mF:∀(l acc:List (ae×Nat)) (c:Int) (S:Nat->Prop),dN c S->dN (nX acc l c) (fun q=>S q\/gz po Prod.snd acc l q)
 | [],acc,c,S,h=>h.congr (fun q=>⟨.inl,fun h=>h.elim id (fun h=>absurd h gz.nil)⟩)
 |x::l,acc,c,S,h=>by
  rw [nX,Ez]
  cases A:(acc.any fun y=>eqs y.1 x.1)
  ·simp only [bJ,aZ];refine (mF l (acc++[x]) c S h).congr (fun q=> ?_);rw [gz.cons]
   constructor
   ·rintro (h|h)
    ·exact .inl h
    exact .inr (.inr h)
   rintro (h|⟨⟨y,hy,hl⟩,_⟩|h)
   ·exact .inl h
   ·rw [jB] at A;exact absurd ((bz _ _).2 hl) (A y hy)
   exact .inr h
  simp only [if_true];refine (mF l (acc++[x]) _ _ (h.step x.2)).congr (fun q=> ?_);rw [gz.cons];rw [dg] at A;obtain ⟨y,hy,hl⟩:=A;have hl':po y x:=(bz _ _).1 hl;exact XX
def mG:∀(l acc:List RV)(c:Int)(S:Nat->Prop),dN c S->dN (qf acc l c) (fun q=>S q\/gz EB RV.pl acc l q)
 | [],acc,c,S,h=>h.congr (fun q=>⟨.inl,fun h=>h.elim id (fun h=>absurd h gz.nil)⟩)
 |x::l,acc,c,S,h=>by
  rw [qf,EA];have C:∀y:RV,(eqs y.kd x.kd&&eqs y.nm x.nm)=true↔EB y x:=fun y=>by rw [bO,bz,bz];rfl
  cases A:(acc.any fun y=>eqs y.kd x.kd&&eqs y.nm x.nm)
  ·simp only [bJ,aZ];refine (mG l (acc++[x]) c S h).congr (fun q=> ?_);rw [gz.cons]
   constructor
   ·rintro (h|h)
    ·exact .inl h
    exact .inr (.inr h)
   rintro (h|⟨⟨y,hy,hl⟩,_⟩|h)
   ·exact .inl h
   ·rw [jB] at A;exact absurd ((C y).2 hl) (A y hy)
   exact .inr h
  simp only [if_true];refine (mG l (acc++[x]) _ _ (h.step x.pl)).congr (fun q=> ?_);rw [gz.cons];rw [dg] at A;obtain ⟨y,hy,hl⟩:=A;have hl':EB y x:=(C y).1 hl;exact XX
def B8(kl rl):dN (wI kl rl) (fun q=>gz po Prod.snd [] kl q\/gz EB RV.pl [] rl q):=by
 have h:=mG rl [] _ _ (mF kl [] (-1) (fun _=>False) (.inl ⟨rfl,fun _ h=>h⟩));exact h.congr (fun q=>ar)
def gz.mem{like:α->α->Prop}{pl:α->Nat}{acc l:List α}(h:gz like pl acc l q):q∈l.map pl:=by
 obtain ⟨A,x,B,rfl,_,rfl⟩:=h;simp
def gz.append{α:Type}{like:α->α->Prop}{pl:α->Nat}{A:Nat}:∀(l1 acc l2:List α),gz like pl acc (l1++l2) A↔gz like pl acc l1 A\/gz like pl (acc++l1) l2 A
 | [],acc,l2=>by
  rw [List.nil_append,dU];exact ⟨.inr,fun h=>h.elim (fun h=>absurd h gz.nil) id⟩
 |x::l1,acc,l2=>by
  rw [List.cons_append,gz.cons,gz.cons,gz.append l1 (acc++[x]) l2,ct,List.singleton_append,or_assoc]
def zW:∀(l acc:List (ae×Nat)),(l.map Prod.snd).Pairwise (· < ·)->dN (li (UE (acc.map Prod.fst) l)) (fun q=>gz po Prod.snd acc l q)
 | [],acc,_=> .inl ⟨rfl,fun q h=>absurd h gz.nil⟩
 |(n,p)::l,acc,ho=>by
  rw [UE];simp only [bY,kB] at ho;rw [qa]
  cases A:(acc.any ((fun m=>eqs m n) ∘ Prod.fst))
  ·simp only [bJ,aZ];have I:=zW l (acc++[(n,p)]) ho.2;rw [cK] at I;refine I.congr (fun q=> ?_);rw [gz.cons]
   constructor
   ·exact .inr
   rintro (⟨⟨y,D,hl⟩,_⟩|h)
   ·rw [jB] at A;exact absurd ((bz _ _).2 hl) (A y D)
   exact h
  simp only [if_true];rw [dg] at A;obtain ⟨y,D,hl⟩:=A;refine .inr ⟨p,rfl,?_,fun q J=> ?_⟩
  ·show gz po Prod.snd acc ((n,p)::l) p
   rw [gz.cons];exact .inl ⟨⟨y,D,(bz _ _).1 hl⟩,rfl⟩
  have C:=gz.mem J;rw [bY,List.mem_cons] at C
  rcases C with rfl|C
  ·exact bV _
  exact Nat.le_of_lt (ho.1 q C)
def wK(y x:Ty):Prop:=y.name=x.name
def qY(y x:ae×Rl):Prop:=y.1=x.1/\y.2.name=x.2.name
def UG(p:ae×Rl):Nat:=p.2.place
def gS(ts:List Ty):List Nat:=ts.flatMap fun t=>t.place::t.rels.map fun r=>r.place
def Q2(ts)(p:ae×Rl)(h:p∈bx ts):∃t∈ts,t.name=p.1:=by
 unfold bx at h;obtain ⟨t,A,h⟩:=bZ.1 h;obtain ⟨r,_,rfl⟩:=aU.1 h;exact ⟨t,A,rfl⟩
def Ia(ts q)(h:q∈(bx ts).map UG):q∈gS ts:=by
 obtain ⟨p,A,rfl⟩:=aU.1 h;unfold bx at A;obtain ⟨t,D,A⟩:=bZ.1 A;obtain ⟨r,C,rfl⟩:=aU.1 A;exact bZ.2 ⟨t,D,by simp [UG];exact .inr ⟨r,C,rfl⟩⟩
def Q1(ts q)(h:q∈ts.map Ty.place):q∈gS ts:=by
 obtain ⟨t,A,rfl⟩:=aU.1 h;exact bZ.2 ⟨t,A,ar⟩
def EC(C:List Ty)(t:Ty)(Q:¬∃y∈C,y.name=t.name)(J:Nat):∀(l acc:List Rl),gz qY UG (bx C++acc.map fun r=>(t.name,r)) (l.map fun r=>(t.name,r)) J↔gz po Prod.snd (acc.map fun r=>(r.name,r.place)) (l.map fun r=>(r.name,r.place)) J
 | [],acc=>⟨fun h=>absurd h gz.nil,fun h=>absurd h gz.nil⟩
 |r::l,acc=>by
  have R:=EC C t Q J l (acc++[r]);rw [cK,cK,bY,pQ,bY,pQ,<-ct] at R;rw [bY,bY,gz.cons,gz.cons,R];have key:(∃y∈bx C++acc.map (fun r=>(t.name,r)),qY y (t.name,r))↔∃y∈acc.map (fun r=>(r.name,r.place)),po y (r.name,r.place):=by
   constructor
   ·rintro ⟨y,A,h1,h2⟩
    rcases aW.1 A with A|A
    ·obtain ⟨V,U,e⟩:=Q2 C y A;exact absurd ⟨V,U,e.trans h1⟩ Q
    obtain ⟨D,I,rfl⟩:=aU.1 A;exact ⟨_,aU.2 ⟨D,I,rfl⟩,h2⟩
   rintro ⟨y,A,h⟩;obtain ⟨D,I,rfl⟩:=aU.1 A;exact ⟨(t.name,D),aW.2 (.inr (aU.2 ⟨D,I,rfl⟩)),rfl,h⟩
  rw [key]
  rfl
def zX:∀(bs A:List Ty),(gS bs).Pairwise (· < ·)->dN (li (Df (A.map Ty.name) bs)) (fun q=>gz wK Ty.place A bs q\/gz qY UG (bx A) (bx bs) q)
 | [],A,_=> .inl ⟨rfl,fun q h=>h.elim (fun h=>gz.nil h) (fun h=>gz.nil h)⟩
 |t::bs,A,ho=>by
  have eF:bx (t::bs)=(t.rels.map fun r=>(t.name,r))++bx bs:=by simp [bx]
  have U:gS (t::bs)=(t.place::t.rels.map fun r=>r.place)++gS bs:=by simp [gS]
  have af:bx (A++[t])=bx A++t.rels.map fun r=>(t.name,r):=by simp [bx]
  rw [U,List.pairwise_append] at ho;obtain ⟨R,al,Y⟩:=ho;rw [kB] at R;have ah:∀q,(gz wK Ty.place A (t::bs) q\/gz qY UG (bx A) (bx (t::bs)) q)->t.place<=q:=fun q hq=>by
   have C:q∈gS (t::bs):=by
    exact Q0
   rw [U,aW,List.mem_cons] at C
   rcases C with (rfl|C)|C
   ·exact bV _
   ·exact Nat.le_of_lt (R.1 q C)
   exact Nat.le_of_lt (Y t.place ar q C)
  rw [Df,qa]
  cases I:(A.any ((fun m=>eqs m t.name) ∘ Ty.name))
  ·have hn:¬∃y∈A,y.name=t.name:=fun ⟨y,D,e⟩=>by
    rw [jB] at I;exact I y D ((bz _ _).2 e)
   simp only [bJ,aZ];have J:=zW (t.rels.map fun r=>(r.name,r.place)) [] (by rw [fU];exact R.2);have Q:∀q,(gz wK Ty.place A (t::bs) q\/gz qY UG (bx A) (bx (t::bs)) q)↔gz po Prod.snd [] (t.rels.map fun r=>(r.name,r.place)) q\/(gz wK Ty.place (A++[t]) bs q\/gz qY UG (bx (A++[t])) (bx bs) q):=fun q=>by
    rw [gz.cons,eF,gz.append,af];have V:=EC A t hn q t.rels [];simp only [pQ,dU] at V;rw [V]
    constructor
    ·rintro ((⟨⟨y,D,e⟩,_⟩|h)|h|h)
     ·exact absurd ⟨y,D,e⟩ hn
     ·exact .inr (.inl h)
     ·exact .inl h
     exact .inr (.inr h)
    rintro (h|h|h)
    ·exact .inr (.inl h)
    ·exact .inl (.inr h)
    exact .inr (.inr h)
   have aj:∀q,(gz wK Ty.place (A++[t]) bs q\/gz qY UG (bx (A++[t])) (bx bs) q)->q∈gS bs:=fun q hq=>by
    exact Q0
   unfold twR
   cases ab:UE [] (t.rels.map fun r=>(r.name,r.place)) with
   |some p=>
    rw [show ([]:List (ae×Nat)).map Prod.fst=[] from rfl,ab] at J;simp only
    rcases J with ⟨h1,_⟩|⟨ad,h1,h2,ag⟩
    ·simp only [li] at h1;omega
    simp only [li] at h1;obtain rfl:p=ad:=ai;refine .inr ⟨p,rfl,(Q p).2 (.inl h2),fun q hq=> ?_⟩
    rcases (Q q).1 hq with hq|hq
    ·exact ag q hq
    have Z:=gz.mem h2;rw [fU] at Z;exact Nat.le_of_lt (Y p (by simp only [List.mem_cons];exact .inr Z) q (aj q hq))
   |none=>
    rw [show ([]:List (ae×Nat)).map Prod.fst=[] from rfl,ab] at J;simp only;have ak:∀q,¬gz po Prod.snd [] (t.rels.map fun r=>(r.name,r.place)) q:=by
     rcases J with ⟨_,h⟩|⟨ad,h1,_⟩
     ·exact h
     simp only [li] at h1;omega
    have ac:=zX bs (A++[t]) al;rw [cK] at ac;refine ac.congr (fun q=> ?_);rw [Q q];exact ⟨.inr,fun h=>h.elim (fun h=>absurd h (ak q)) id⟩
  simp only [if_true];rw [dg] at I;obtain ⟨y,D,hl⟩:=I;exact .inr ⟨t.place,rfl,.inl (gz.cons.2 (.inl ⟨⟨y,D,(bz _ _).1 hl⟩,rfl⟩)),ah⟩
def gz.map{α β:Type}{like:α->α->Prop}{zY:β->β->Prop}{pl:α->Nat}{kQ:β->Nat}(f:α->β)(h1:∀y x,like y x↔zY (f y) (f x))(h2:∀x,pl x=kQ (f x))(q):∀(l acc:List α),gz like pl acc l q↔gz zY kQ (acc.map f) (l.map f) q
 | [],acc=>⟨fun h=>absurd h gz.nil,fun h=>absurd h gz.nil⟩
 |x::l,acc=>by
  have C:=gz.map f h1 h2 q l (acc++[x]);rw [cK] at C;rw [bY,gz.cons,gz.cons,C,h2 x];have key:(∃y∈acc,like y x)↔∃y∈acc.map f,zY y (f x):=by
   constructor
   ·rintro ⟨y,A,h⟩;exact ⟨f y,aU.2 ⟨y,A,rfl⟩,(h1 y x).1 h⟩
   rintro ⟨y,A,h⟩;obtain ⟨z,D,rfl⟩:=aU.1 A;exact ⟨z,D,(h1 z x).2 h⟩
  rw [key]
  rfl
def tri(x:RV):ae×ae×Nat:=(x.kd,x.nm,x.pl)
def Y7(p:ae×Rl):ae×ae×Nat:=(p.1,p.2.name,p.2.place)
def db.tri{pl:List PV}:∀(rl:List RV) (ps:List (ae×Rl)),db pl rl ps->rl.map tri=ps.map Y7
 | [],[],_=>rfl
 |x::xs,p::ps,h=>by
  obtain ⟨⟨h1,h2,A,_⟩,C⟩:=h;rw [bY,bY,db.tri xs ps C];unfold Go.Proofs.YtlbpnlngckgcbaaGreatDoor.tri Y7;rw [h1,h2,A]
 | [],_::_,h=>h.elim
 |_::_,[],h=>h.elim
def Ib{kl}(h:uv pl kl rl ts)(ho:(gS ts).Pairwise (· < ·)):wI kl rl=li (Df [] ts):=by
 refine (B8 kl rl).unique ((zX ts [] ho).congr (fun q=> ?_));have e1:=gz.map (like:=wK) (zY:=po) (pl:=Ty.place) (kQ:=Prod.snd) (fun t:Ty=>(t.name,t.place)) (fun y x=>Iff.rfl) (fun x=>rfl) q ts [];have A:=gz.map (like:=EB) (zY:=fun (y x:ae×ae×Nat)=>y.1=x.1/\y.2.1=x.2.1) (pl:=RV.pl) (kQ:=fun x=>x.2.2) tri (fun y x=>Iff.rfl) (fun x=>rfl) q rl [];have C:=gz.map (like:=qY) (zY:=fun (y x:ae×ae×Nat)=>y.1=x.1/\y.2.1=x.2.1) (pl:=UG) (kQ:=fun x=>x.2.2) Y7 (fun y x=>Iff.rfl) (fun x=>rfl) q (bx ts) [];rw [db.tri rl _ h.2] at A;rw [h.1];simp only [pQ] at e1 A C
 show gz wK Ty.place [] ts q\/gz qY UG (bx []) (bx ts) q↔_
 rw [show bx []=[] from rfl,e1,C,A]
abbrev sP:=@List.pairwise_map
abbrev dY:=@Except.ok.injEq
def B9 (h:aD:=by
 simp only [dY,Prod.mk.injEq] at h;obtain ⟨rfl,rfl⟩:=h;exact ⟨[],ar,ai,jm.nil _ _ _⟩):aD:=h
def Q3 (h:aD:=by
 split at h
 ·simp at h
 exact Q4):aD:=h
def Q4 (h:aD:=by
 simp only [dY,Prod.mk.injEq] at h;rw [<-h.1];exact jm.nil _ _ _):aD:=h
def jm(P:Nat->Nat)(lo hi:Nat)(l:List Nat):Prop:=∃ks:List Nat,l=ks.map P/\ks.Pairwise (· < ·)/\∀k∈ks,lo<=k/\k<hi
def jm.nil(P lo hi):jm P lo hi []:=⟨[],rfl,by simp,by simp⟩
def jm.one(P)(h1:lo<=k)(h2:k<hi):jm P lo hi [P k]:=⟨[k],rfl,by simp,by simp;omega⟩
def jm.app{P mid l1 l2}(h:jm P lo mid l1)(k:jm P mid hi l2)(h1:lo<=mid)(h2:mid<=hi):jm P lo hi (l1++l2):=by
 obtain ⟨a,rfl,D,C⟩:=h;obtain ⟨c,rfl,c1,c2⟩:=k;refine ⟨a++c,by rw [cK],?_,?_⟩
 ·rw [List.pairwise_append];exact ⟨D,c1,fun x A y I=>by have:=(C x A).2;have:=(c2 y I).1;omega⟩
 intro x A
 rcases aW.1 A with A|A
 ·have:=C x A;omega
 have:=c2 x A;omega
def jm.wide{P lo' hi' l}(h:jm P lo hi l)(h1:lo'<=lo)(h2:hi<=hi'):jm P lo' hi' l:=by
 obtain ⟨a,rfl,A,C⟩:=h;exact ⟨a,rfl,A,fun x D=>by have:=C x D;omega⟩
def jm.sorted{P l}(h:jm P lo hi l)(D:∀i j,i<j->j<hi->P i<P j):l.Pairwise (· < ·):=by
 obtain ⟨a,rfl,A,C⟩:=h;rw [sP];refine List.Pairwise.imp_of_mem (fun {x y} Q J I=>D x y I (C y J).2) A
section
variable (T:Nat->ae)(P:Nat->Nat)
def wL(i:Nat)(r:Rl)(j:Nat)(h:kW T P i=.ok (r,j)):r.place=P i/\i<j:=by
 refine ⟨?_,oz T P _ _ _ h⟩;unfold kW at h
 split at h
 ·simp at h
 split at h
 ·simp at h
 split at h
 ·simp only [dY,Prod.mk.injEq] at h;rw [<-h.1]
 simp at h
def zZ:∀(f:Nat)(acc:List Rl)(i:Nat)(rs:List Rl)(m:Nat),di T P f acc i=.ok (rs,m)->∃new,rs=acc++new/\i<m/\jm P i m (new.map fun r=>r.place)
 |0,acc,i,rs,m,h=>by simp [di] at h
 |f+1,acc,i,rs,m,h=>by
  unfold di at h
  split at h
  ·exact B9
  split at h
  ·simp at h
  split at h
  ·simp at h
  rename_i r j C;obtain ⟨h1,h2⟩:=wL T P i r j C;obtain ⟨new,rfl,D,A⟩:=zZ f _ _ _ _ h;refine ⟨r::new,ar,ai,?_⟩;have:=(jm.one P (lo:=i) (hi:=j) (bV i) h2).app A ai ai;rw [bY,h1];exact this
def qh:∀(f:Nat)(acc:List Ty)(i:Nat)(ts:List Ty)(m:Nat),cQ T P f acc i=.ok (ts,m)->∃new,ts=acc++new/\i<=m/\jm P i m (gS new)
 |0,acc,i,ts,m,h=>by simp [cQ] at h
 |f+1,acc,i,ts,m,h=>by
  unfold cQ at h
  split at h
  ·exact B9
  split at h
  ·simp at h
  split at h
  ·simp at h
  rename_i t j A;obtain ⟨new,rfl,U,I⟩:=qh f _ _ _ _ h;rw [kA] at A
  split at A
  ·unfold m2 at A
   split at A
   ·simp at A
   rename_i u R hn;have Y:=fO T _ _ _ _ hn
   split at A
   ·simp at A
   rename_i rs Z Q;simp only [dY,Prod.mk.injEq] at A;obtain ⟨rfl,rfl⟩:=A;obtain ⟨rn,e,V,J⟩:=zZ T P _ _ _ _ _ Q;rw [List.nil_append] at e;subst e;refine ⟨⟨T (i+1),P (i+1),rs⟩::new,ar,ai,?_⟩;have C:=jm.one P (lo:=i) (hi:=R) (k:=i+1) ai ai;have D:=(C.app J ai ai).app I ai ai
   simpa [gS] using D
  simp at A
def lj:Ex->List Nat
 |⟨n,some x,some y⟩=>lj x++n.place::lj y
 |⟨_,none,_⟩=>[]
 |⟨_,some _,none⟩=>[]
def My(r:Nat->eL Ex):Prop:=∀i x j,r i=.ok (x,j)->jm P i j (lj x)
def z6(l:List ae)(part:Nat->eL Ex)(A:ka part)(C:My P part):∀f y i0 i x j,joinL T P l part f y i=.ok (x,j)->i0<=i->jm P i0 i (lj y)->jm P i0 j (lj x)
 |0,y,i0,i,x,j,h,_,_=>by simp [joinL] at h
 |f+1,y,i0,i,x,j,h,h0,ha=>by
  unfold joinL at h
  split at h
  ·split at h
   ·simp at h
   rename_i z Q D;have h1:=A _ _ _ D;refine z6 l part A C f _ i0 Q x j h ai ?_;simp only [dF,lj];have I:=ha.app (jm.one P (lo:=i) (hi:=i+1) (bV i) ai) h0 ai;have J:=I.app (C _ _ _ D) ai ai
   simpa using J
  simp only [dY,Prod.mk.injEq] at h;obtain ⟨rfl,rfl⟩:=h;exact ha
def oI(l:List ae)(part:Nat->eL Ex)(A:ka part)(C:My P part):My P (eU T P l part):=by
 intro i x j h;unfold eU at h
 split at h
 ·simp at h
 rename_i y I D;have h1:=A _ _ _ D;exact z6 T P l part A C _ _ i I x j h ai (C _ _ _ D)
def z7(I:Bool)(A:Nat->eL Ex)(J:ka A)(C:My P A):My P (eR T P I A):=by
 intro i x j h;unfold eR at h
 split at h
 ·unfold j7 at h;exact Q3
 split at h
 ·split at h
  ·split at h
   ·simp at h
   rename_i y Q D
   split at h
   ·simp only [dY,Prod.mk.injEq] at h;obtain ⟨rfl,rfl⟩:=h;exact (C _ _ _ D).wide ai ai
   simp at h
  simp at h
 unfold h6 at h
 split at h
 ·simp at h
 split at h
 ·exact Q3
 exact Q4
def z8:∀n,My P (fp T P n)
 |0=>oI T P _ _ (hJ T P false _ (fun i x j h=>by simp at h)) (oI T P _ _ (ke T P false _ (fun i x j h=>by simp at h)) (z7 T P false _ (fun i x j h=>by simp at h) (fun i x j h=>by simp at h)))
 |n+1=>oI T P _ _ (hJ T P true _ (gV T P n)) (oI T P _ _ (ke T P true _ (gV T P n)) (z7 T P true _ (gV T P n) (z8 n)))
end
def Ri(kl:List (ae×Nat))(rl:List RV)(pl:List PV)(ts:List Ty):Prop:=
 ∃(h:Nat->List Gr)(A:Nat->List Nat)(D:RV->Nat->Prop)(C:RV->Nat->Nat),nY rl pl h/\Y8 rl pl A/\wI kl rl=li (Df [] ts)/\(Df [] ts=none->kD kl rl pl h A=fe (gZ ts) ts/\(fe (gZ ts) ts=none->lk rl pl h A/\(∀x∈rl,Io rl pl h A x (D x) (C x))/\loopsR rl pl h A C rl 0 (-1)=li (fe (jH ts) ts)))
def Rj(s:ae)(w:af)(e:Ending)(w':af):Prop:=am w w'/\(match dJ (TT s) (PP s) with
 | .error (c,jj)=>c≠0/\e=bi (.tuple #[.pointer none,au c,au (PP s jj)])
 | .ok (ts,m)=>match eD ts with
  |some (p,c)=>e=bi (.tuple #[.pointer none,au c,au p])
  |none=>∃b kv rv pv kl rl pl l,e=bi (.tuple #[.pointer (some (aC b 5)),au 0,au 0])/\DM w' b kv rv pv kl rl pl l/\uv pl kl rl ts/\Gd s m/\(∃cs,aL w' b cs 252)/\∀x∈l,jS w.heap.size x)
def RM.dm{e kl l}(h:RM base w b s tv i d e a kv rv pv kl rl pl l)(h1:kl.length<=5)(h2:rl.length<=500)(A:pl.length<=500):DM w b kv rv pv kl rl pl l:=by
 obtain ⟨_,_,_,_,_,c5,c6,c7⟩:=h.rs.blk.eight;exact ⟨c5,c6,c7,fx h.kt,fx h.rt,⟨h.pt.fst,fx h.pt.row,h.pt.rep⟩,h1,h2,A⟩
def wS(s w)(hs:500<s.size):Calls prog 80 #[an s] w fun e w'=>e=bi (.tuple #[.pointer none,au 1,au 0])/\am w w':=by
 go_enter func80,ntmps80;go_wp2;go_ret3;exact ⟨rfl,az _ _⟩
def ME(s w)(hs:s.size<=500)(aI:∀kl rl pl ts m,dJ (TT s) (PP s)=.ok (ts,m)->Gd s m->uv pl kl rl ts->Ri kl rl pl ts):Calls prog 80 #[an s] w (Rj s w):=by
 have C:=Dy s w hs;go_enter func80,ntmps80;go_wp2_with fail;refine C.mono ?_;rintro e w1 ⟨v,rfl,ac,ak⟩;obtain ⟨ta,tc,rfl⟩:=aw ak;have aM:=ac.alloc ac.size (.cells #[aA ta (jC s).length tc,au 0,au 0,au 0,au 0,aA none 0 0,aA none 0 0,aA none 0 0] 252);have aX:=ac.size;have aK:=(show RM w.heap.size (w1.alloc (.cells #[aA ta (jC s).length tc,au 0,au 0,au 0,au 0,aA none 0 0,aA none 0 0,aA none 0 0] 252)) w1.heap.size s (aA ta (jC s).length tc) 0 0 0 0 (aA none 0 0) (aA none 0 0) (aA none 0 0) [] [] [] [] from
  ⟨⟨aL.new w1 _ _,fx (ak.alloc _),fun j a6=>ai,⟨⟨_,_,_,rfl⟩,⟨_,_,_,rfl⟩,⟨_,_,_,rfl⟩⟩,hs⟩,⟨rfl,bP,ar⟩,bP,bP,ar⟩)
 have ay:=H5 w.heap.size w1.heap.size s _ _ _ _ [] _ aK aX aS;go_wp2_with fail;refine ay.mono ?_;rintro e a1 ⟨rfl,aQ,kv,rv,pv,kl,rl,pl,l,j,aN,a3,I,Z⟩;have Y:=aM.trans aQ;have am:=Y.size;obtain ⟨a8,a9,ba,r3,bb,bc,bf,bg⟩:=I.rs.blk.eight;generalize a4:w1.heap.size=b at*
 cases A:dJ (TT s) (PP s) with
 |error er=>
  obtain ⟨c,a7⟩:=er;rw [A] at Z;obtain ⟨hc,rfl,rfl⟩:=Z;have a5:¬((aN:Int)=0):=ai;go_wp2
  go_quiet (fail)
  go_wp2;go_ret3;exact ⟨below_drewN Y _,by rw [A];exact ⟨ai,rfl⟩⟩
 |ok y=>
  obtain ⟨ts,m⟩:=y;rw [A] at Z;obtain ⟨rfl,rfl,h1,h2,aO,aj⟩:=Z;obtain ⟨af,al,aJ,a0,ah,aP,aZ,aU⟩:=aI kl rl pl ts _ A I.rs.gd aj;have ag:=I.dm h1 h2 aO;have aE:=I.rs.gd;have aB:=I.rs.blk;have aC:=I.fh;have C:=H3 b kv rv pv kl rl pl l a1 ag;rw [aZ] at C
  cases D:Df [] ts with
  |some p=>
   rw [D] at C;unfold li at C;simp only at C;go_wp2_with fail;refine C.mono ?_;rintro e ax ⟨rfl,R⟩;have J:=Y.trans (R.mono am);go_wp2;go_ret3;exact ⟨J,by rw [A];simp only [eD,D];rfl⟩
  |none=>
   rw [D] at C;obtain ⟨aT,aV⟩:=aU D;unfold li at C;simp only at C;go_wp2_with fail;refine C.mono ?_;rintro e ax ⟨rfl,R⟩;have J:=Y.trans (R.mono am);have ap:=J.size;have ad:=ag.below R;have aF:=aB.below R;have C:=Ic b kv rv pv kl rl pl l af al ax ad ah aP;rw [aT] at C
   cases hn:fe (gZ ts) ts with
   |some p=>
    rw [hn] at C;unfold li at C;simp only at C;go_wp2_with fail;refine C.mono ?_;rintro e w5 ⟨rfl,U⟩;have Q:=J.trans (U.mono ap);go_wp2;go_ret3;exact ⟨Q,by rw [A];simp only [eD,D,hn];rfl⟩
   |none=>
    rw [hn] at C;obtain ⟨aW,aY,aR⟩:=aV hn;unfold li at C;simp only at C;go_wp2_with fail;refine C.mono ?_;rintro e w5 ⟨rfl,U⟩;have Q:=J.trans (U.mono ap);have av:=Q.size;have ae:=ad.below U;have aG:=aF.below U;have C:=Iq b kv rv pv kl rl pl l af al aJ a0 w5 ae ah aW aY;rw [aR] at C
    cases hl:fe (jH ts) ts with
    |some p=>
     rw [hl] at C;unfold li at C;simp only at C;go_wp2_with fail;refine C.mono ?_;rintro e a2 ⟨rfl,V⟩;have ab:=Q.trans (V.mono av);go_wp2;go_ret3;exact ⟨ab,by rw [A];simp only [eD,D,hn,hl];rfl⟩
    |none=>
     rw [hl] at C;unfold li at C;simp only at C;go_wp2_with fail;refine C.mono ?_;rintro e a2 ⟨rfl,V⟩;have ab:=Q.trans (V.mono av);have az:=ae.below V;have aH:=aG.below V;go_wp2;go_ret3;exact ⟨ab,by rw [A];simp only [eD,D,hn,hl];exact ⟨b,kv,rv,pv,kl,rl,pl,l,rfl,az,aj,aE,⟨_,aH⟩,aC⟩⟩
def Rk (h:aD:=by
 cases e:eqs g.rel (sg 42)
 ·rfl
 rw [(bz _ _).1 e,Aa] at h2;cases h2):aD:=h
def Rm (h:aD:=by
 rcases List.mem_cons.1 hx with rfl|hx
 ·exact hn
 exact fun hm=>h1 x hx Ks):aD:=h
def Ir (h:aD:=by
 cases e:eqs g.rel em
 ·rfl
 rw [(bz _ _).1 e,Kv] at h2;cases h2):aD:=h
structure ew(ts:List Ty):Prop where
 ty:ts.Pairwise fun t u=>t.name≠u.name
 rl:∀t∈ts,t.rels.Pairwise fun r q=>r.name≠q.name
def EH:∀(l:List (ae×Nat)) (ah:List ae),UE ah l=none->(∀x∈l,x.1∉ah)/\l.Pairwise fun x y=>x.1≠y.1
 | [],ah,_=>⟨ar,ar⟩
 |(n,p)::l,ah,h=>by
  rw [UE] at h
  cases A:(ah.any fun m=>eqs m n)
  ·rw [A] at h;simp only [bJ,aZ] at h;obtain ⟨h1,h2⟩:=EH l _ h;have hn:n∉ah:=fun hm=>by
    rw [jB] at A;exact A n hm ((bz _ _).2 rfl)
   refine ⟨fun x hx=> ?_,?_⟩
   ·exact Rm
   rw [kB];exact ⟨fun y C e=>h1 y C (by simp at e;simp [e]),h2⟩
  rw [A] at h;simp at h
def lO:∀(l:List Ty)(ah:List ae),Df ah l=none->(∀t∈l,t.name∉ah)/\ew l
 | [],ah,_=>⟨ar,ar,ar⟩
 |t::l,ah,h=>by
  rw [Df] at h
  cases A:(ah.any fun m=>eqs m t.name)
  ·rw [A] at h;simp only [bJ,aZ] at h;have hn:t.name∉ah:=fun hm=>by
    rw [jB] at A;exact A _ hm ((bz _ _).2 rfl)
   unfold twR at h
   cases C:UE [] (t.rels.map fun r=>(r.name,r.place)) with
   |some p=>rw [C] at h;simp at h
   |none=>
    rw [C] at h;simp only at h;obtain ⟨h1,h2⟩:=lO l _ h;obtain ⟨_,D⟩:=EH _ _ C;rw [sP] at D;refine ⟨fun x hx=> ?_,?_,?_⟩
    ·exact Rm
    ·rw [kB];exact ⟨fun y I e=>h1 y I (by rw [<-e];simp),h2.ty⟩
    intro x hx
    rcases List.mem_cons.1 hx with rfl|hx
    ·exact D
    exact h2.rl x hx
  rw [A] at h;simp at h
def dn(h:ew ts)(I:t∈ts):bW ts t.name=some t:=by
 unfold bW;obtain ⟨A,B,rfl⟩:=se I;have C:=h.ty;rw [List.pairwise_append,kB] at C;rw [List.find?_append];have:A.find? (fun u=>eqs u.name t.name)=none:=by
  rw [List.find?_eq_none];intro u J D;exact C.2.2 u J t ar ((bz _ _).1 D)
 rw [this];simp [(bz t.name t.name).2 rfl]
def qi(h:t.rels.Pairwise fun r q=>r.name≠q.name)(D:r∈t.rels):b8 t r.name=some r:=by
 unfold b8;obtain ⟨A,B,e⟩:=se D;rw [e] at h ⊢;rw [List.pairwise_append,kB] at h;rw [List.find?_append];have:A.find? (fun u=>eqs u.name r.name)=none:=by
  rw [List.find?_eq_none];intro u I C;exact h.2.2 u I r ar ((bz _ _).1 C)
 rw [this];simp [(bz r.name r.name).2 rfl]
def cw{k}(h:bW ts k=some t):t∈ts/\t.name=k:=⟨gI h,(bz _ _).1 (List.find?_some (p:=fun t:Ty=>eqs t.name k) h)⟩
def cF{n}(h:b8 t n=some r):r∈t.rels/\r.name=n:=⟨gI h,(bz _ _).1 (List.find?_some (p:=fun r:Rl=>eqs r.name n) h)⟩
def wT{pl}(k n):∀(rl:List RV) (ps:List (ae×Rl)) (i:Nat),db pl rl ps->(bh k n rl i= -1/\∀p∈ps,¬(p.1=k/\p.2.name=n))\/∃j p,bh k n rl i=((i+j:Nat):Int)/\ps[j]? =some p/\p.1=k/\p.2.name=n
 | [],[],i,_=> .inl ⟨rfl,ar⟩
 |x::rl,p::ps,i,h=>by
  obtain ⟨⟨h1,h2,_,_⟩,I⟩:=h;rw [bh]
  by_cases A:(eqs x.kd k&&eqs x.nm n)=true
  ·rw [if_pos A];rw [bO,bz,bz] at A;exact .inr ⟨0,p,ar,ar,h1▸A.1,h2▸A.2⟩
  rw [if_neg A]
  rcases wT k n rl ps (i+1) I with ⟨e,R⟩|⟨j,q,e,J,Q⟩
  ·refine .inl ⟨e,fun q C=> ?_⟩
   rcases List.mem_cons.1 C with rfl|C
   ·rintro ⟨e1,D⟩;exact A (by rw [bO,bz,bz,h1,h2];exact ⟨e1,D⟩)
   exact R q C
  exact .inr ⟨j+1,q,by rw [e];omega,by simpa using J,Q⟩
 | [],_::_,_,h=>h.elim
 |_::_,[],_,h=>h.elim
def dz{p:ae×Rl}:p∈bx ts↔∃t∈ts,t.name=p.1/\p.2∈t.rels:=by
 unfold bx;rw [bZ]
 constructor
 ·rintro ⟨t,A,C⟩;obtain ⟨r,h,rfl⟩:=aU.1 C;exact ⟨t,A,rfl,h⟩
 rintro ⟨t,A,e,h⟩;exact ⟨t,A,aU.2 ⟨p.2,h,by rw [e]⟩⟩
def cR(A:ew ts)(J:db pl rl (bx ts))(k n):
  (bh k n rl 0= -1/\∀t,bW ts k=some t->b8 t n=none)\/∃(j:Nat)(t:Ty)(r:Rl),bh k n rl 0=j/\bW ts k=some t/\b8 t n=some r/\(bx ts)[j]? =some (k,r):=by
 rcases wT k n rl _ 0 J with ⟨e,U⟩|⟨j,p,e,C,h1,h2⟩
 ·refine .inl ⟨e,fun t h=> ?_⟩
  cases V:b8 t n with
  |none=>rfl
  |some r=>
   obtain ⟨R,Q⟩:=cw h;obtain ⟨Y,hn⟩:=cF V;exact absurd ⟨rfl,hn⟩ (U (k,r) (dz.2 ⟨t,R,Q,Y⟩))
 ·obtain ⟨t,h,D,I⟩:=dz.1 (bF C);refine .inr ⟨j,t,p.2,by simpa using e,?_,?_,?_⟩
  ·rw [<-h1,<-D];exact dn A h
  ·rw [<-h2];exact qi (A.rl t h) I
  rw [C,<-h1]
def Ab(x):((ts.map fun t=>(t.name,t.place)).any fun k=>eqs k.1 x)=(bW ts x).isSome:=by
 unfold bW;exact PM
def iG(g:Gr):Prop:=(g.reach=0/\g.rel=em)\/g.reach=1\/(g.reach=2/\dC g.rel=true)
def Kv:dC em=false:=by decide
def Aa:dC (sg 42)=false:=by decide
def oK{g}(h:g.reach=2):bH g=g.rel:=by unfold bH;rw [if_neg ai]
def EI(J:ew ts)(Q:db pl rl (bx ts))(g)(R:iG g):o0 (ts.map fun t=>(t.name,t.place)) rl g=ml ts g:=by
 unfold o0 ml;rw [Ab]
 cases C:bW ts g.ty with
 |none=>simp
 |some t=>
  simp only [Option.isSome_some,Bool.true_eq_false,aZ]
  rcases R with ⟨h1,h2⟩|h1|⟨h1,h2⟩
  ·have e:bH g=em:=by unfold bH;rw [if_neg ai,h2]
   rw [e,(bz em em).2 rfl,h1];simp
  ·have e:bH g=sg 42:=by unfold bH;rw [if_pos h1]
   rw [e,(bz (sg 42) (sg 42)).2 rfl,h1];simp
  rw [oK h1,h1];have e1:eqs g.rel em=false:=by
   exact Ir
  have D:eqs g.rel (sg 42)=false:=by
   exact Rk
  rw [e1,D]
  rcases cR J Q g.ty g.rel with ⟨e,U⟩|⟨j,V,r,e,A,I,_⟩
  ·rw [e,U t C];simp
  rw [C] at A;simp only [aR] at A;subst A;rw [e,I];have:¬((j:Int)<0):=ai;simp [this]
def q8 (h:aD:=by
 simp [hr]):aD:=h
def Is (h:aD:=by
 unfold eJ;rw [hx,dt];exact sS _ _ (ei pl F _ _ htr)):aD:=h
def wU{α β:Type}{f g:α->List β}:∀{l:List α},(∀a∈l,f a=g a)->l.flatMap f=l.flatMap g
 | [],_=>rfl
 |a::l,h=>by
  rw [bM,bM,h a ar,wU (fun b A=>h b (by simp [A]))]
def Tr.kids{x p}(h:Tr pl (f+1) n x)(Q:pl[n]? =some p):∀m∈p.ps,∃y,Tr pl f m y:=by
 obtain ⟨V,C,h⟩:=h;rw [Q] at C;simp only [aR] at C;subst C;intro m hm
 rcases h with ⟨h1,hn,h2⟩|⟨h1,h0,hn,h2⟩|⟨h1,h0,hn,h2⟩|⟨h1,h0,R,ns,x0,rs,h3,h4,h5,D,I,J⟩|⟨h1,h0,U,R,ns,x0,rs,h3,h4,h5,D,I,J⟩
 ·rw [hn.1] at hm;simp at hm
 ·rw [hn.1] at hm;simp at hm
 ·rw [hn.1] at hm;simp at hm
 ·exact BT
 exact BT
def wV(pl):∀(f n:Nat)(x:Ex),Tr pl f n x->aJ pl (f+1) n=aJ pl f n
 |0,_,_,h=>h.elim
 |f+1,n,x,h=>by
  obtain ⟨p,A,_⟩:=id h;have C:=h.kids A;rw [aJ,aJ,A];simp only
  split
  ·exact wU (fun m D=>by obtain ⟨y,I⟩:=C m D;exact wV pl f m y I)
  rfl
def kE(pl){x}(h:Tr pl f n x)(hF:f<=F):aJ pl F n=aJ pl f n:=by
 obtain ⟨d,rfl⟩:=Nat.exists_eq_add_of_le hF;clear hF
 induction d with
 |zero=>rfl
 |succ d ih=>rw [<-ih];exact wV pl _ _ _ (Tr.le pl (Nat.le_add_right f d) h)
def cS(pl:List PV)(F:Nat):List RV->List (ae×Rl)->Prop
 | [],[]=>True
 |x::xs,p::ps=>(x.kd=p.1/\x.nm=p.2.name/\x.pl=p.2.place/\Tr pl F x.ex p.2.body)/\cS pl F xs ps
 |_,_=>False
def cS.le{pl F G}(h:F<=G):∀(xs:List RV) (ps:List (ae×Rl)),cS pl F xs ps->cS pl G xs ps
 | [],[],_=>trivial
 |x::xs,p::ps,k=>⟨⟨k.1.1,k.1.2.1,k.1.2.2.1,Tr.le pl h k.1.2.2.2⟩,cS.le h xs ps k.2⟩
 | [],_::_,k=>k.elim
 |_::_,[],k=>k.elim
def db.fuel{pl:List PV}:∀(xs:List RV) (ps:List (ae×Rl)),db pl xs ps->∃F,cS pl F xs ps
 | [],[],_=>⟨0,trivial⟩
 |x::xs,p::ps,h=>by
  obtain ⟨F,hF⟩:=db.fuel xs ps h.2;obtain ⟨⟨h1,h2,A,f,C⟩,_⟩:=h;exact ⟨F+f,⟨h1,h2,A,Tr.le pl ai C⟩,cS.le ai xs ps hF⟩
 | [],_::_,h=>h.elim
 |_::_,[],h=>h.elim
def cS.get{pl:List PV}{F:Nat}:∀(xs:List RV) (ps:List (ae×Rl)) (j:Nat) (p:ae×Rl),cS pl F xs ps->ps[j]? =some p->∃x,xs[j]? =some x/\x.kd=p.1/\x.nm=p.2.name/\x.pl=p.2.place/\Tr pl F x.ex p.2.body
 | [],[],j,p,_,h=>by simp at h
 |x::xs,q::ps,0,p,k,h=>by
  simp only [List.getElem?_cons_zero,aR] at h;subst h;exact ⟨x,rfl,k.1⟩
 |x::xs,q::ps,j+1,p,k,h=>by
  rw [vQ] at h;obtain ⟨y,C,A⟩:=cS.get xs ps j p k.2 h;exact ⟨y,by simpa using C,A⟩
 | [],_::_,_,_,k,_=>k.elim
 |_::_,[],_,_,k,_=>k.elim
def eJ(rl:List RV)(pl:List PV)(h:Nat->List Nat)(r:Nat):List Gr:=match rl[r]? with
 |some x=>(h x.ex).flatMap (jN pl)
 |none=>[]
def oL{e}(h:Tr pl 1 n e):jN pl n=eO e:=by
 obtain ⟨p,C,h⟩:=h;unfold jN;rw [C]
 rcases h with ⟨h1,hn,rfl⟩|⟨h1,h0,hn,rfl⟩|⟨h1,h0,hn,rfl⟩|⟨_,_,_,_,_,_,_,A,_⟩|⟨_,_,_,_,_,_,_,_,A,_⟩
 ·simp [eO]
 ·simp [eO,h0]
 ·simp [eO,h0]
 ·exact A.elim
 exact A.elim
def sS{pl:List PV}:∀(ns:List Nat)(A:List Ex),cu (Tr pl 1) ns A->ns.flatMap (jN pl)=A.flatMap eO
 | [],[],_=>rfl
 |n::ns,e::A,h=>by rw [bM,bM,oL h.1,sS ns A h.2]
 | [],_::_,h=>h.elim
 |_::_,[],h=>h.elim
def dt:∀(x:Ex),bS x=(aN x).flatMap eO
 |⟨n,some x,some y⟩=>by
  have h1:=dt x;have h2:=dt y;unfold bS at*;simp only [aF,aN,cN,bM,jI,dU,h1,h2];simp [eO]
 |⟨n,none,r⟩=>by simp [bS,aF,aN]
 |⟨n,some x,none⟩=>by simp [bS,aF,aN]
def mJ{β:Type}(f:Ex->Option β)(h:∀e,e.l.isSome=true->f e=none):∀(x:Ex),(aF x).findSome? f=(aN x).findSome? f
 |⟨n,some x,some y⟩=>by
  have h1:=mJ f h x;have h2:=mJ f h y;simp only [aF,aN,sy,h1,h2,List.findSome?_cons,List.findSome?_nil];rw [h ⟨n,some x,some y⟩ rfl];simp
 |⟨n,none,r⟩=>by simp [aF,aN]
 |⟨n,some x,none⟩=>by simp [aF,aN]
def wW(ts:List Ty):Prop:=∀t∈ts,∀r∈t.rels,∀e∈aN r.body,∀g∈eO e,iG g
def EJ(J:ew ts)(Q:db pl rl (bx ts))(y g)(R:iG g):
  (hU rl y g=[]/\iQ ts y g=none)\/∃(j:Nat)(u:Ty)(r:Rl),hU rl y g=[j]/\iQ ts y g=some u/\b8 u y=some r/\(bx ts)[j]? =some (u.name,r):=by
 unfold hU iQ
 rcases R with ⟨h1,h2⟩|h1|⟨h1,h2⟩
 ·have e:bH g=em:=by unfold bH;rw [if_neg ai,h2]
  rw [e,(bz em em).2 rfl,if_pos h1]
  rcases cR J Q g.ty y with ⟨e1,U⟩|⟨j,t,r,e1,C,D,I⟩
  ·refine .inl ⟨by rw [e1];simp,?_⟩
   cases V:bW ts g.ty with
   |none=>rfl
   |some u=>simp [U u V]
  refine .inr ⟨j,t,r,by rw [e1];simp,?_,D,?_⟩
  ·rw [C];simp [D]
  rw [(cw C).2];exact I
 ·have e:bH g=sg 42:=by unfold bH;rw [if_pos h1]
  have A:¬(g.reach=0):=ai;exact .inl ⟨by rw [e];simp [show eqs (sg 42) em=false from by decide],if_neg A⟩
 ·have A:¬(g.reach=0):=by omega
  have e1:eqs g.rel em=false:=by
   exact Ir
  exact .inl ⟨by rw [oK h1];simp [e1],if_neg A⟩
def wX{pl rl ts}(C:ew ts)(D:db pl rl (bx ts))(y):∀(G:List Gr),(∀g∈G,iG g)->(fy rl y G=[]↔(G.filterMap (iQ ts y)).length=0)
 | [],_=>by simp [fy]
 |g::G,h=>by
  have J:=wX C D y G (fun g I=>h g (by simp [I]));unfold fy at*;rw [bM,List.filterMap_cons]
  rcases EJ C D y g (h g ar) with ⟨e1,A⟩|⟨j,u,r,e1,A,_⟩
  ·rw [e1,A,List.nil_append];exact J
  rw [e1,A];simp
def Rn(C:ew ts)(D:db pl rl (bx ts))(hF:cS pl F rl (bx ts))(R:wW ts)(t)(I:t∈ts)(n e)(h:Tr pl 1 n e)(Z:∀g∈eO e,iG g):
  qZ (ts.map fun t=>(t.name,t.place)) rl pl (eJ rl pl (aJ pl F)) t.name n=gD ts t e:=by
 obtain ⟨p,af,h⟩:=h;unfold qZ;rw [af];simp only;unfold H9
 rcases h with ⟨h1,hn,rfl⟩|⟨h1,h0,hn,rfl⟩|⟨h1,h0,hn,rfl⟩|⟨_,_,_,_,_,_,_,A,_⟩|⟨_,_,_,_,_,_,_,_,A,_⟩
 ·have key:∀(l:List Gr),(∀g∈l,iG g)->l.findSome? (o0 (ts.map fun t=>(t.name,t.place)) rl)=l.findSome? (ml ts):=by
   intro l hl
   induction l with
   |nil=>rfl
   |cons a l ih=>rw [gJ,gJ,EI C D a (hl a ar),ih (fun g R=>hl g (by simp [R]))]
  rw [key p.gs (by simpa [eO] using Z)];simp only [gD,if_true,pe,h1]
  cases p.gs.findSome? (ml ts)<;>simp
 ·simp only [h0,List.findSome?_nil,h1,if_true,gD,Nat.reduceEqDiff,aZ]
  rcases cR C D t.name p.nr with ⟨e1,U⟩|⟨j,ah,r,e1,A,J,_⟩
  ·rw [e1,U t (dn C I)];simp
  rw [dn C I] at A;simp only [aR] at A;subst A;have:¬((j:Int)<0):=ai;rw [e1,J];simp [this]
 ·simp only [h0,List.findSome?_nil,h1,Nat.reduceEqDiff,aZ,if_true,gD,GM]
  rcases cR C D t.name p.nb with ⟨e1,U⟩|⟨j,ah,r,e1,A,J,V⟩
  ·rw [e1,U t (dn C I)];simp
  rw [dn C I] at A;simp only [aR] at A;subst A;have ae:¬((j:Int)<0):=ai;obtain ⟨x,hx,aj,_,_,htr⟩:=cS.get rl _ j _ hF V;have Y:eJ rl pl (aJ pl F) j=bS r.body:=by
   exact Is
  have ag:=(cF J).1;have ha:∀g∈bS r.body,iG g:=by
   rw [dt];intro g ac;obtain ⟨e',ab,ad⟩:=bZ.1 ac;exact R t I r ag e' ab g ad
  rw [e1,J,if_neg ae,Int.toNat_natCast,Y];simp only
  by_cases Q:fy rl p.nr (bS r.body)=[]
  ·rw [if_pos Q,if_pos ((wX C D p.nr _ ha).1 Q)]
  rw [if_neg Q,if_neg (fun h=>Q ((wX C D p.nr _ ha).2 h))]
 ·exact A.elim
 ·exact A.elim
def wY{pl rl ts F}(C:ew ts)(D:db pl rl (bx ts))(hF:cS pl F rl (bx ts))(I:wW ts)(t)(J:t∈ts):∀(ns:List Nat)(A:List Ex),cu (Tr pl 1) ns A->(∀e∈A,∀g∈eO e,iG g)->
  ns.findSome? (qZ (ts.map fun t=>(t.name,t.place)) rl pl (eJ rl pl (aJ pl F)) t.name)=A.findSome? (gD ts t)
 | [],[],_,_=>rfl
 |n::ns,e::A,h,he=>by
  rw [gJ,gJ,Rn C D hF I t J n e h.1 (he e ar),wY C D hF I t J ns A h.2 (fun e' Q=>he e' (by simp [Q]))]
 | [],_::_,h,_=>h.elim
 |_::_,[],h,_=>h.elim
def Iu(ts t e)(h:e.l.isSome=true):gD ts t e=none:=by
 unfold gD
 cases hl:e.l with
 |none=>rw [hl] at h;simp at h
 |some x=>rfl
def wZ(N)(g:ae×Rl->Option Nat):∀(ts:List Ty),(∀t∈ts,∀r∈t.rels,g (t.name,r)=N t r)->(bx ts).findSome? g=fe N ts
 | [],_=>rfl
 |t::ts,h=>by
  have C:=wZ N g ts (fun t A=>h t (by simp [A]));have e:bx (t::ts)=(t.rels.map fun r=>(t.name,r))++bx ts:=by simp [bx]
  have key:∀(l:List Rl),(∀r∈l,r∈t.rels)->(l.map fun r=>(t.name,r)).findSome? g=l.findSome? (N t):=by
   intro l hl
   induction l with
   |nil=>rfl
   |cons a l ihl=>rw [bY,gJ,gJ,h t ar a (hl a ar),ihl (fun r hr=>hl r q8)]
  rw [e,sy,C,key t.rels (fun r hr=>hr)];unfold fe;rw [gJ]
  cases t.rels.findSome? (N t)<;>rfl
def tW(C:ew ts)(Y:db pl rl (bx ts))(hF:cS pl F rl (bx ts))(I:wW ts):
  kD (ts.map fun t=>(t.name,t.place)) rl pl (eJ rl pl (aJ pl F)) (aJ pl F)=fe (gZ ts) ts:=by
 have h1:∀(xs:List RV) (ps:List (ae×Rl)),(∀p∈ps,p∈bx ts)->cS pl F xs ps->(xs.findSome? fun x=>(aJ pl F x.ex).findSome? (qZ (ts.map fun t=>(t.name,t.place)) rl pl (eJ rl pl (aJ pl F)) x.kd))=ps.findSome? fun p=>match bW ts p.1 with
   |some t=>gZ ts t p.2
   |none=>none:=by
  intro xs
  induction xs with
  |nil=>intro ps _ h;cases ps with
   |nil=>rfl
   |cons p ps=>exact h.elim
  |cons x xs ih=>intro ps J h;cases ps with
   |nil=>exact h.elim
   |cons p ps=>
    obtain ⟨⟨h1,_,_,Q⟩,R⟩:=h;obtain ⟨t,A,D,U⟩:=dz.1 (J p ar);have e:(aJ pl F x.ex).findSome? (qZ (ts.map fun t=>(t.name,t.place)) rl pl (eJ rl pl (aJ pl F)) x.kd)=gZ ts t p.2:=by
     rw [h1,<-D,wY C Y hF I t A _ _ (ei pl F _ _ Q) (fun e V=>I t A p.2 U e V)];unfold gZ;rw [mJ _ (Iu ts t)]
    rw [gJ,gJ,e,ih ps (fun q ab=>J q (by simp [ab])) R,<-D,dn C A]
 unfold kD;rw [h1 rl (bx ts) (fun p Z=>Z) hF];exact wZ (gZ ts) _ ts (fun t A r ac=>by simp only [dn C A])
def Kw (h:aD:=by
 simpa [eO] using hg):aD:=h
def X1 (h:aD:=by
 split at h
 ·split at h
  ·split at h
   ·simp at h
   rename_i y I D
   split at h
   ·simp only [dY,Prod.mk.injEq] at h;rw [<-h.1];exact hp _ _ _ D
   simp at h
  simp at h
 unfold h6 at h
 split at h
 ·simp at h
 split at h
 ·split at h
  ·simp at h
  exact Ro
 exact Ro):aD:=h
def Rp (h:aD:=by
 rw [List.nil_append] at e;subst e;exact ha.sorted (fun i j A C=>X2 s j i A (fun k D=>hg k ai))):aD:=h
def Rq (h:aD:=by
 simp only [dF,aN,aW] at he
 rcases he with he|he
 ·exact ha e he
 exact hp _ _ _ hz e he):aD:=h
def Rr (h:aD:=by
 rcases aW.1 hg with hg|hg
 ·exact ha g hg
 rw [aX] at hg;rw [hg];exact h0):aD:=h
def Rs (h:aD:=by
 simp only [dY,Prod.mk.injEq] at h;obtain ⟨rfl,rfl⟩:=h;exact fun r A=> .inl A):aD:=h
def Rt (h:aD:=by
 split at h
 ·simp only [dY,Prod.mk.injEq] at h;rw [<-h.1];exact h1
 simp at h):aD:=h
def Ro (h:aD:=by
 simp only [dY,Prod.mk.injEq] at h;rw [<-h.1];intro e A g C;simp only [aN,aX] at A;subst A;simp [eO] at C):aD:=h
def VZ(s i)(h:0<(TT s i).size):PP s i<PP s (i+1):=by
 have e:PP s (i+1)=skip (bB s) (K s (i+1)):=rfl;have h1:=JI (bB s) (K s (i+1));have A:K s (i+1)=PP s i+(TT s i).size:=rfl;rw [e];omega
def X2(s):∀(j i:Nat),i<j->Gd s j->PP s i<PP s j
 |0,i,h,_=>ai
 |j+1,i,h,hg=>by
  have h1:=VZ s j (hg j ai)
  by_cases e:i=j
  ·subst e;exact h1
  have:=X2 s j i ai (fun k A=>hg k ai);omega
def yK(h:dJ (TT s) (PP s)=.ok (ts,m))(hg:Gd s m):(gS ts).Pairwise (· < ·):=by
 obtain ⟨new,e,_,ha⟩:=qh (TT s) (PP s) 512 [] 0 ts m h;exact Rp
section
variable (T:Nat->ae)(P:Nat->Nat)
def MF(i:Nat)(g:Gr)(j:Nat)(h:dT T P i=.ok (g,j)):iG g:=by
 unfold dT at h
 split at h
 ·simp at h
 split at h
 ·simp only [dY,Prod.mk.injEq] at h;rw [<-h.1];exact .inr (.inl rfl)
 split at h
 ·split at h
  ·simp at h
  rename_i u m hn;simp only [dY,Prod.mk.injEq] at h;rw [<-h.1];refine .inr (.inr ⟨rfl,?_⟩);unfold dh at hn
  split at hn
  ·rename_i A;exact A
  simp at hn
 simp only [dY,Prod.mk.injEq] at h;rw [<-h.1];exact .inl ⟨rfl,rfl⟩
def EK:∀f acc i gs j,dQ T P f acc i=.ok (gs,j)->(∀g∈acc,iG g)->∀g∈gs,iG g
 |0,acc,i,gs,j,h,_=>by simp [dQ] at h
 |f+1,acc,i,gs,j,h,ha=>by
  unfold dQ at h
  split at h
  ·simp at h
  rename_i g0 A hg;have h0:=MF T P _ _ _ hg;have h1:∀g∈acc++[g0],iG g:=fun g hg=>by
   exact Rr
  split at h
  ·exact EK f _ _ _ _ h h1
  exact Rt
def GR(r:Nat->eL Ex):Prop:=∀i x j,r i=.ok (x,j)->∀e∈aN x,∀g∈eO e,iG g
def EL(l:List ae)(part:Nat->eL Ex)(hp:GR part):∀f y i x j,joinL T P l part f y i=.ok (x,j)->(∀e∈aN y,∀g∈eO e,iG g)->∀e∈aN x,∀g∈eO e,iG g
 |0,y,i,x,j,h,_=>by simp [joinL] at h
 |f+1,y,i,x,j,h,ha=>by
  unfold joinL at h
  split at h
  ·split at h
   ·simp at h
   rename_i z A hz;refine EL l part hp f _ A x j h (fun e he=> ?_);exact Rq
  simp only [dY,Prod.mk.injEq] at h;rw [<-h.1];exact ha
def q9(l:List ae)(part:Nat->eL Ex)(A:GR part):GR (eU T P l part):=by
 intro i x j h;unfold eU at h
 split at h
 ·simp at h
 rename_i y D C;exact EL T P l part A _ _ _ x j h (A _ _ _ C)
def EM(R:Bool)(Q:Nat->eL Ex)(hp:GR Q):GR (eR T P R Q):=by
 intro i x j h;unfold eR at h
 split at h
 ·unfold j7 at h
  split at h
  ·simp at h
  rename_i gs U hl;simp only [dY,Prod.mk.injEq] at h;rw [<-h.1];intro e J g hg;simp only [JH,aN,aX] at J;subst J;exact EK T P _ _ _ _ _ hl ar g Kw
 exact X1
def EN:∀n,GR (fp T P n)
 |0=>q9 T P _ _ (q9 T P _ _ (EM T P false _ (fun i x j h=>by simp at h)))
 |n+1=>q9 T P _ _ (q9 T P _ _ (EM T P true _ (EN n)))
def MG(i:Nat)(r:Rl)(j:Nat)(h:kW T P i=.ok (r,j)):dC r.name=true/\∃i0 A,fp T P 4 i0=.ok (r.body,A)/\A<=j:=by
 unfold kW at h
 split at h
 ·simp at h
 rename_i u I hn
 split at h
 ·simp at h
 rename_i x m D
 split at h
 ·simp only [dY,Prod.mk.injEq] at h;obtain ⟨rfl,rfl⟩:=h;refine ⟨?_,I,m,D,ai⟩;unfold b9 dh at hn;simp only
  cases C:dC (T i)
  ·rw [C] at hn;simp at hn
  rfl
 simp at h
def w8:∀f acc i rs m,di T P f acc i=.ok (rs,m)->∀r∈rs,r∈acc\/(dC r.name=true/\∃i0 C,fp T P 4 i0=.ok (r.body,C)/\C<=m)
 |0,acc,i,rs,m,h=>by simp [di] at h
 |f+1,acc,i,rs,m,h=>by
  unfold di at h
  split at h
  ·exact Rs
  split at h
  ·simp at h
  split at h
  ·simp at h
  rename_i U j J;intro r I;have R:=pE T P f _ _ _ _ h
  rcases w8 f _ _ _ _ h r I with h1|h1
  ·rcases aW.1 h1 with h1|h1
   ·exact .inl h1
   rw [aX] at h1;subst h1;obtain ⟨h2,i0,C,D,Q⟩:=MG T P _ _ _ J;exact .inr ⟨h2,i0,C,D,ai⟩
  exact .inr h1
def tX:∀f acc i ts m,cQ T P f acc i=.ok (ts,m)->∀t∈ts,t∈acc\/∀r∈t.rels,dC r.name=true/\∃i0 D,fp T P 4 i0=.ok (r.body,D)/\D<=m
 |0,acc,i,ts,m,h=>by simp [cQ] at h
 |f+1,acc,i,ts,m,h=>by
  unfold cQ at h
  split at h
  ·exact Rs
  split at h
  ·simp at h
  split at h
  ·simp at h
  rename_i t0 j C;intro t Q;obtain ⟨_,_,Y,_⟩:=qh T P f _ _ _ _ h
  rcases tX f _ _ _ _ h t Q with h1|h1
  ·rcases aW.1 h1 with h1|h1
   ·exact .inl h1
   rw [aX] at h1;subst h1;refine .inr (fun r R=> ?_);rw [kA] at C
   split at C
   ·unfold m2 at C
    split at C
    ·simp at C
    split at C
    ·simp at C
    rename_i rs Z U;simp only [dY,Prod.mk.injEq] at C;obtain ⟨rfl,rfl⟩:=C
    rcases w8 T P _ _ _ _ _ U r R with I|⟨I,i0,D,J,V⟩
    ·simp at I
    exact ⟨I,i0,D,J,ai⟩
   simp at C
  exact .inr h1
end
def kF(h:dJ (TT s) (PP s)=.ok (ts,m)):∀t∈ts,∀r∈t.rels,dC r.name=true/\∃i0 A,fp (TT s) (PP s) 4 i0=.ok (r.body,A)/\A<=m:=fun t C=>by
 rcases tX (TT s) (PP s) 512 [] 0 ts m h t C with h|h
 ·simp at h
 exact h
def sT(h:dJ (TT s) (PP s)=.ok (ts,m)):wW ts:=fun t C r A=>by
 obtain ⟨_,i0,D,h1,_⟩:=kF h t C r A;exact EN (TT s) (PP s) 4 _ _ _ h1
def qj:∀(x:Ex),(aN x).length<=(aF x).length
 |⟨n,some x,some y⟩=>by
  have h1:=qj x;have h2:=qj y;simp only [aN,aF,bf,List.length_cons,List.length_nil];omega
 |⟨n,none,r⟩=>by simp [aN,aF]
 |⟨n,some x,none⟩=>by simp [aN,aF]
def cS.mem{pl:List PV}{F:Nat}:∀(xs:List RV) (ps:List (ae×Rl)),cS pl F xs ps->∀x∈xs,∃p∈ps,x.kd=p.1/\x.nm=p.2.name/\x.pl=p.2.place/\Tr pl F x.ex p.2.body
 | [],[],_,x,A=>by simp at A
 |y::xs,p::ps,h,x,A=>by
  rcases List.mem_cons.1 A with rfl|A
  ·exact ⟨p,ar,h.1⟩
  obtain ⟨q,C,D⟩:=cS.mem xs ps h.2 x A;exact ⟨q,by simp [C],D⟩
 | [],_::_,h,_,_=>h.elim
 |_::_,[],h,_,_=>h.elim
def rb(ts:List Ty):Prop:=∀t∈ts,∀r∈t.rels,(aF r.body).length<=500/\(bS r.body).length<=500
def sized(h:dJ (TT s) (PP s)=.ok (ts,m))(A:Gd s m)(hs:s.size<=500):rb ts:=fun t D r C=>by
 have I:=A.le;have:=((iU (TT s) (PP s) ts m h).1 t D).1 r C;exact ⟨aV this.p ai,aV this.g ai⟩
section
variable {pl:List PV}{rl:List RV}{ts:List Ty}{F:Nat}
def jY(hF:cS pl F rl (bx ts))(V:rb ts)(x)(U:x∈rl):(aJ pl F x.ex).length<=500/\((aJ pl F x.ex).flatMap (jN pl)).length<=500/\∀n∈aJ pl F x.ex,∃p,pl[n]? =some p/\p.gs.length<=500:=by
 obtain ⟨p,D,_,_,_,R⟩:=cS.mem rl _ hF x U;obtain ⟨t,J,_,I⟩:=dz.1 D;obtain ⟨h1,h2⟩:=V t J p.2 I;have ha:=ei pl F _ _ R;have hl:=cu.len _ _ ha;have Z:=qj p.2.body;have A:(aJ pl F x.ex).flatMap (jN pl)=bS p.2.body:=by rw [dt];exact sS _ _ ha
 refine ⟨ai,by rw [A];exact h2,fun n hn=> ?_⟩;obtain ⟨e,Y,Q⟩:=cu.mem _ _ ha n hn;obtain ⟨q,C,_⟩:=id Q;refine ⟨q,C,?_⟩;have e1:jN pl n=q.gs:=by unfold jN;rw [C]
 have:=tT (jN pl) _ n hn;rw [e1,A] at this;omega
def Ru(hF:cS pl F rl (bx ts))(J:rb ts):Y8 rl pl (aJ pl F):=fun x A=>by
 obtain ⟨h1,_,C⟩:=jY hF J x A;obtain ⟨p,Q,_,_,_,I⟩:=cS.mem rl _ hF x A;exact ⟨hT pl F _ _ I ai,ai,fun n hn=>by obtain ⟨q,D,hl⟩:=C n hn;exact ⟨q,D,ai⟩⟩
def xa(hF:cS pl F rl (bx ts))(A:rb ts)(r):(eJ rl pl (aJ pl F) r).length<=500:=by
 unfold eJ
 cases h:rl[r]? with
 |none=>simp
 |some x=>exact (jY hF A x (bF h)).2.1
def Ce(hF:cS pl F rl (bx ts))(A:rb ts):nY rl pl (eJ rl pl (aJ pl F)):=fun r C=>by
 refine ⟨?_,aV (xa hF A r) ai⟩;intro b kv rv pv kl l w h;have D:=aI C;obtain ⟨h1,h2,I⟩:=Ru hF A rl[r] (br C);have J:(aJ pl F rl[r].ex).flatMap (jN pl)=eJ rl pl (aJ pl F) r:=by unfold eJ;rw [D]
 exact Ev b kv rv pv kl rl pl l r rl[r] _ _ w h D h1 (fun m Q=>by obtain ⟨p,R,_⟩:=I m Q;exact (bD.1 R).1) J (aV (xa hF A r) ai) h2
def V0(rl:List RV)(kd:ae)(p:PV):Prop:=(p.kind=2->0<=bh kd p.nr rl 0)/\(p.kind=3->0<=bh kd p.nb rl 0)
def re(kl dP fA)(h:kD kl rl pl dP fA=none)(x)(I:x∈rl)(n)(C:n∈fA x.ex)(p)(D:pl[n]? =some p):V0 rl x.kd p:=by
 unfold kD at h;rw [ku] at h;have h1:=h x I;rw [ku] at h1;have h2:=h1 n C;unfold qZ at h2;rw [D] at h2;simp only at h2;unfold H9 at h2
 split at h2
 ·simp at h2
 refine ⟨fun A=> ?_,fun A=> ?_⟩
 ·rw [if_pos A] at h2
  split at h2
  ·simp at h2
  omega
 rw [if_neg ai,if_pos A] at h2
 split at h2
 ·simp at h2
 omega
def EO(rl g):∀r∈ey rl g,r<rl.length:=by
 unfold ey
 rcases dc g.ty (bH g) rl 0 with h|⟨j,h,_,h2⟩
 ·rw [h];simp
 rw [h];simp;omega
def Rv(rl dP kd p)(I:V0 rl kd p):∀r∈gG rl dP kd p,r<rl.length:=by
 intro r A;unfold gG at A
 rcases aW.1 A with A|A
 ·obtain ⟨g,_,C⟩:=bZ.1 A;exact EO rl g r C
 split at A
 ·rename_i D;rw [aX] at A;have h0:=I.1 D
  rcases dc kd p.nr rl 0 with h|⟨j,h,_,h2⟩
  ·omega
  rw [h] at A;omega
 split at A
 ·unfold fy at A;obtain ⟨g,_,C⟩:=bZ.1 A;unfold hU at C
  split at C
  ·rw [aX] at C;rename_i hc;rw [bO,fE] at hc
   rcases dc g.ty p.nr rl 0 with h|⟨j,h,_,h2⟩
   ·omega
   rw [h] at C;omega
  simp at C
 simp at A
def Cf(rl):∀(l:List Gr),(l.flatMap (ey rl)).length<=l.length
 | []=>ar
 |g::l=>by
  have h1:=Rf rl g;have h2:=Cf rl l;exact BU
def Rw(rl dP)(h:∀r,(dP r).length<=500)(kd p):(gG rl dP kd p).length<=p.gs.length+500:=by
 unfold gG;have h1:=Cf rl p.gs;rw [bf]
 split
 ·simp only [List.length_cons,List.length_nil];omega
 split
 ·have:=BX rl p.nr (dP (bh kd p.nb rl 0).toNat);have:=h (bh kd p.nb rl 0).toNat;omega
 simp only [List.length_nil];omega
def qk{α β:Type}(f:α->List β)(n):∀(l:List α),(∀a∈l,(f a).length<=n)->(l.flatMap f).length<=l.length*n
 | [],_=>ar
 |a::l,h=>by
  have h1:=h a ar;have h2:=qk f n l (fun a ha=>h a (by simp [ha]));exact PH
def n8(hF:cS pl F rl (bx ts))(U:rb ts)(kl)(h:kD kl rl pl (eJ rl pl (aJ pl F)) (aJ pl F)=none)(x)(R:x∈rl)(lv)(I:∀n∈lv,n∈aJ pl F x.ex)(V:lv.length<=500):
  (∀m∈lv,∃p,pl[m]? =some p/\p.gs.length<=1000/\(p.kind=2->0<=bh x.kd p.nr rl 0)/\(p.kind=3->0<=bh x.kd p.nb rl 0))/\(iu rl pl (eJ rl pl (aJ pl F)) x.kd lv).length<=1000000/\(∀r∈iu rl pl (eJ rl pl (aJ pl F)) x.kd lv,r<rl.length)/\(N1 rl pl lv).length<=1000000/\∀r∈N1 rl pl lv,r<rl.length:=by
 obtain ⟨_,_,Q⟩:=jY hF U x R;refine ⟨fun m C=> ?_,?_,?_,?_,?_⟩
 ·obtain ⟨p,D,J⟩:=Q m (I m C);have:=re kl _ _ h x R m (I m C) p D;exact ⟨p,D,ai,this.1,this.2⟩
 ·refine aV (qk _ 1000 lv (fun m C=> ?_)) ai;obtain ⟨p,D,J⟩:=Q m (I m C);unfold sQ;rw [D];simp only;have:=Rw rl _ (xa hF U) x.kd p;omega
 ·intro r A;unfold iu at A;obtain ⟨m,C,A⟩:=bZ.1 A;obtain ⟨p,D,J⟩:=Q m (I m C);unfold sQ at A;rw [D] at A;exact Rv rl _ x.kd p (re kl _ _ h x R m (I m C) p D) r A
 ·refine aV (qk _ 1000 lv (fun m C=> ?_)) ai;obtain ⟨p,D,J⟩:=Q m (I m C);unfold sQ;rw [D];have:=Cf rl p.gs;simp only;unfold Mz;omega
 ·intro r A;unfold N1 at A;obtain ⟨m,C,A⟩:=bZ.1 A;obtain ⟨p,D,J⟩:=Q m (I m C);unfold sQ at A;rw [D] at A;unfold Mz at A;obtain ⟨g,_,J⟩:=bZ.1 A;exact EO rl g r J
def V1(hF:cS pl F rl (bx ts))(C:rb ts)(kl)(h:kD kl rl pl (eJ rl pl (aJ pl F)) (aJ pl F)=none):lk rl pl (eJ rl pl (aJ pl F)) (aJ pl F):=fun x A=>by
 obtain ⟨h1,h2,J⟩:=Ru hF C x A;obtain ⟨D,Q,I,_⟩:=n8 hF C kl h x A _ (fun n hn=>hn) (jY hF C x A).1;exact ⟨⟨h1,h2,D⟩,ai,I⟩
end
def Cg (h:aD:=by
 simp only [bY,List.sum_cons];omega):aD:=h
def m9(pl:List PV):Nat->Nat->Nat
 |0,_=>0
 |f+1,n=>match pl[n]? with
  |none=>1
  |some p=>(p.ps.map (m9 pl f)).sum+1
def oM{f g:Nat->Nat}:∀{l:List Nat},(∀a∈l,f a=g a)->(l.map f).sum=(l.map g).sum
 | [],_=>rfl
 |a::l,h=>by
  simp only [bY,List.sum_cons];rw [h a ar,oM (fun b A=>h b (by simp [A]))]
def Rx(pl):∀(f n:Nat)(x:Ex),Tr pl f n x->m9 pl (f+1) n=m9 pl f n
 |0,_,_,h=>h.elim
 |f+1,n,x,h=>by
  obtain ⟨p,A,_⟩:=id h;have C:=h.kids A;rw [m9,m9,A];simp only;rw [oM (f:=m9 pl (f+1)) (g:=m9 pl f) (fun m D=>by obtain ⟨y,I⟩:=C m D;exact Rx pl f m y I)]
def Ch(pl){x}(h:Tr pl f n x)(hF:f<=F):m9 pl F n=m9 pl f n:=by
 obtain ⟨d,rfl⟩:=Nat.exists_eq_add_of_le hF;clear hF
 induction d with
 |zero=>rfl
 |succ d ih=>rw [<-ih];exact Rx pl _ _ _ (Tr.le pl (Nat.le_add_right f d) h)
def iY:∀(rs:List (ae×Nat×Ex)) (x:Ex),(aF (cb x rs)).length=(aF x).length+(rs.map fun r=>(aF r.2.2).length+1).sum
 | [],x=>by simp [cb]
 |(t,p,y)::rs,x=>by
  rw [cb,iY rs];simp only [dF,aF,bf,List.length_cons,List.length_nil,bY,List.sum_cons];omega
def n9{R}(z)(h:∀n x,R n x->z n<=(aF x).length):∀(ns:List Nat) (rs:List (ae×Nat×Ex)),cu R ns (rs.map fun r=>r.2.2)->(ns.map z).sum+rs.length<=(rs.map fun r=>(aF r.2.2).length+1).sum
 | [],[],_=>ar
 |n::ns,r::rs,k=>by
  have h1:z n<=(aF r.2.2).length:=h _ _ k.1;have h2:=n9 z h ns rs k.2;simp only [bY,List.sum_cons,List.length_cons];omega
 | [],_::_,k=>k.elim
 |_::_,[],k=>k.elim
def iZ(pl):∀(f n:Nat)(x:Ex),Tr pl f n x->m9 pl f n<=(aF x).length
 |0,_,_,h=>h.elim
 |f+1,n,x,⟨p,hp,h⟩=>by
  rw [m9,hp];simp only
  rcases h with ⟨h1,hn,h2⟩|⟨h1,h0,hn,h2⟩|⟨h1,h0,hn,h2⟩|⟨h1,h0,U,ns,V,rs,A,C,D,Q,I,J⟩|⟨h1,h0,Y,U,ns,V,rs,A,C,D,Q,I,J⟩
  ·rw [hn.1,h2];simp [aF]
  ·rw [hn.1,h2];simp [aF]
  ·rw [hn.1,h2];simp [aF]
  ·rw [J,A,iY];have k1:=iZ pl f _ _ C;have R:=n9 (m9 pl f) (iZ pl f) ns rs D;have k3:0<rs.length:=l5.2 I.2;exact Cg
  rw [J,A,iY];have k1:=iZ pl f _ _ C;have R:=n9 (m9 pl f) (iZ pl f) ns rs D;have k3:0<rs.length:=l5.2 I;exact Cg
def Tr.signs{x p}(h:Tr pl (f+1) n x)(V:pl[n]? =some p):p.sg.length<=p.ps.length:=by
 obtain ⟨ab,A,h⟩:=h;rw [V] at A;simp only [aR] at A;subst A
 rcases h with ⟨h1,hn,h2⟩|⟨h1,h0,hn,h2⟩|⟨h1,h0,hn,h2⟩|⟨h1,h0,Y,ns,Z,rs,C,Q,D,I,R,U⟩|⟨h1,h0,J,Y,ns,Z,rs,C,Q,D,I,R,U⟩
 ·rw [hn.2];simp
 ·rw [hn.2];simp
 ·rw [hn.2];simp
 ·have:=cu.len _ _ D;rw [I,C];simp at this ⊢;omega
 rw [J];simp
def Tr.kid_leaves{x p}(h:Tr pl (f+1) n x)(I:pl[n]? =some p):∀m∈p.ps,∀k∈aJ pl f m,k∈aJ pl (f+1) n:=by
 obtain ⟨J,C,h⟩:=h;rw [I] at C;simp only [aR] at C;subst C;intro m A k D;rw [aJ,I];simp only
 rcases h with ⟨h1,hn,h2⟩|⟨h1,h0,hn,h2⟩|⟨h1,h0,hn,h2⟩|⟨h1,_⟩|⟨h1,_⟩
 ·rw [hn.1] at A;simp at A
 ·rw [hn.1] at A;simp at A
 ·rw [hn.1] at A;simp at A
 ·rw [if_pos (.inl h1)];exact bZ.2 ⟨m,A,D⟩
 rw [if_pos (.inr h1)];exact bZ.2 ⟨m,A,D⟩
def QF(pl:List PV)(F:Nat)(x:RV)(n:Nat):Prop:=∃f y,f<=F/\Tr pl f n y/\∀k∈aJ pl F n,k∈aJ pl F x.ex
section
variable {pl:List PV}{rl:List RV}{ts:List Ty}{F:Nat}
def xb(pl):∀(f n:Nat)(x:Ex),Tr pl f n x->(aJ pl f n).length<=m9 pl f n
 |0,_,_,h=>h.elim
 |f+1,n,x,h=>by
  obtain ⟨p,A,_⟩:=id h;have C:=h.kids A;rw [aJ,m9,A];simp only
  split
  ·rw [List.length_flatMap];have:∀l:List Nat,(∀m∈l,∃y,Tr pl f m y)->(l.map fun a=>(aJ pl f a).length).sum<=(l.map (m9 pl f)).sum:=by
    intro l
    induction l with
    |nil=>simp
    |cons a l ih=>
     intro hl;obtain ⟨y,D⟩:=hl a ar;have h1:=xb pl f a y D;have h2:=ih (fun m hm=>hl m Ks);exact Cg
   have:=this p.ps C;omega
  simp
def Ry(pl:List PV)(F:Nat)(n:Nat):Prop:=m9 pl F n<=500
def Kx(z:Nat->Nat):∀(l:List Nat),∀m∈l,z m<=(l.map z).sum
 |a::l,m,h=>by
  simp only [bY,List.sum_cons]
  rcases List.mem_cons.1 h with rfl|h
  ·omega
  have:=Kx z l m h;omega
def V2(hF:cS pl F rl (bx ts))(D:rb ts)(kl)(h:kD kl rl pl (eJ rl pl (aJ pl F)) (aJ pl F)=none)(x)(R:x∈rl):Io rl pl (eJ rl pl (aJ pl F)) (aJ pl F) x (fun n=>QF pl F x n/\Ry pl F n) (m9 pl F):=by
 obtain ⟨p,ae,_,_,_,Z⟩:=cS.mem rl _ hF x R;obtain ⟨t,af,_,A⟩:=dz.1 ae;obtain ⟨h1,h2⟩:=D t af p.2 A;have ah:=iZ pl F _ _ Z;have V:=n8 hF D kl h x R (aJ pl F x.ex) (fun n hn=>hn) (jY hF D x R).1;have hl:=(jY hF D x R).1;refine ⟨⟨⟨F,_,bV _,Z,fun k U=>U⟩,by unfold Ry;omega⟩,ai,fun n hn=> ?_,⟨⟨hT pl F _ _ Z ai,ai,V.1⟩,ai⟩⟩;obtain ⟨⟨f,y,ab,C,hs⟩,ho⟩:=hn;unfold Ry at ho
 cases f with
 |zero=>exact C.elim
 |succ g=>
  obtain ⟨q,J,_⟩:=id C;have e1:m9 pl F n=(q.ps.map (m9 pl F)).sum+1:=by
   rw [Ch pl C ab,m9,J];simp only;rw [oM (f:=m9 pl g) (g:=m9 pl F) (fun m Q=>by obtain ⟨z,D⟩:=C.kids J m Q;exact (Ch pl D ai).symm)]
  refine ⟨q,J,C.signs J,ai,fun m Q=> ?_⟩;obtain ⟨z,I⟩:=C.kids J m Q;have ac:∀k∈aJ pl F m,k∈aJ pl F x.ex:=fun k U=>by
   refine hs k ?_;rw [kE pl C ab];rw [kE pl I ai] at U;exact C.kid_leaves J m Q k U
  have ag:m9 pl F m<=(q.ps.map (m9 pl F)).sum:=Kx _ _ m Q;have ad:(aJ pl F m).length<=500:=by
   rw [kE pl I ai];have:=xb pl g m z I;rw [<-Ch pl I (show g<=F by omega)] at this;omega
  have Y:=n8 hF D kl h x R (aJ pl F m) ac ad;refine ⟨⟨⟨g,z,ai,I,ac⟩,by unfold Ry;omega⟩,⟨?_,ai,Y.1⟩,ai,?_,?_⟩
  ·have e:aJ pl F m=aJ pl g m:=kE pl I ai;rw [e];exact hT pl g m z I (by rw [<-e];omega)
  ·intro r A;unfold fM at A
   rcases aW.1 A with A|A
   ·exact Y.2.2.1 r A
   split at A
   ·exact V.2.2.2.2 r A
   simp at A
  unfold fM;rw [bf];have:=Y.2.1;have:=V.2.2.2.1
  split
  ·omega
  simp only [List.length_nil];omega
end
abbrev iw:=@List.mem_iff_getElem?
def EP (h:aD:=by
 simp [h]):aD:=h
def Rz (h:aD:=by
 obtain ⟨k,A⟩:=iw.1 ih;have C:=(bD.1 A).1;exact h2 k ai _ A _ hy):aD:=h
def RA (h:aD:=by
 rcases List.mem_cons.1 h with rfl|h
 ·exact .inl ar
 exact .inr EP):aD:=h
def Ci{α:Type}(nd:α->List α)(S:List α)(x:α):Prop:=∀P:α->Prop,(∀x∈S,P x)->(∀x y,P x->y∈nd x->P y)->P x
def Ci.bz{α:Type}{nd:α->List α}{S x}(h:x∈S):Ci nd S x:=fun _ a _=>a x h
def Ci.step{α:Type}{nd:α->List α}{S x y}(h:Ci nd S x)(k:y∈nd x):Ci nd S y:=fun P a b=>b x y (h P a b) k
def Ci.ind{α:Type}{nd:α->List α}{S}{motive:∀x,Ci nd S x->Prop}(base:∀{x}(h:x∈S),motive x (.bz h))(step:∀{x y}(h:Ci nd S x)(k:y∈nd x),motive x h->motive y (.step h k)){x}(h:Ci nd S x):motive x h:=
 (h (fun x=>∃h,motive x h) (fun x h=>⟨_,base h⟩) (fun x y ⟨h,i⟩ k=>⟨_,step h k i⟩)).elim fun _ i=>i
def Iv(f:List Sp)(x:Sp):(f.any fun y=>g4 x y)=true↔x∈f:=by
 rw [dg]
 constructor
 ·rintro ⟨y,A,e⟩;rw [(qH x y).1 e];exact A
 exact fun h=>⟨x,h,(qH x x).2 rfl⟩
def ql(ts S):∀(k:Nat)(q f:List Sp),q.length+eS (bg ts) f (hP ts)<k->(∀x∈S,x∈f\/x∈q)->(∀x∈f,Ci (bg ts) S x)->(∀x∈q,Ci (bg ts) S x)->(∀x∈f,∀y∈bg ts x,y∈f\/y∈q)->
  ∀x,x∈ed (bg ts) k q f↔Ci (bg ts) S x
 |0,q,f,hk,_,_,_,_=>ai
 |k+1,[],f,hk,h1,h2,h3,h4=>by
  intro x;rw [ed];refine ⟨h2 x,fun h=> ?_⟩
  induction h using Ci.ind with
  |base h=>
   rcases h1 _ h with h|h
   ·exact h
   simp at h
  |step _ A ih=>
   rcases h4 _ ih _ A with h|h
   ·exact h
   simp at h
 |k+1,z::q,f,hk,h1,h2,h3,h4=>by
  intro x;rw [ed];simp only [List.length_cons] at hk
  by_cases C:(f.any fun y=>g4 z y)=true
  ·rw [if_pos C];have D:=(Iv f z).1 C;refine ql ts S k q f ai (fun x hx=> ?_) h2 (fun x hx=>h3 x zb) (fun x hx y A=> ?_) x
   ·rcases h1 x hx with h|h
    ·exact .inl h
    rcases List.mem_cons.1 h with rfl|h
    ·exact .inl D
    exact .inr h
   rcases h4 x hx y A with h|h
   ·exact .inl h
   rcases List.mem_cons.1 h with rfl|h
   ·exact .inl D
   exact .inr h
  rw [if_neg C];have J:(f.any fun y=>g4 z y)=false:=by
   cases e:(f.any fun y=>g4 z y)
   ·rfl
   exact absurd e C
  have hs:=sr ts f z J;have I:=h3 z ar;refine ql ts S k (q++bg ts z) (f++[z]) (by rw [bf];omega) (fun x hx=> ?_) (fun x hx=> ?_) (fun x hx=> ?_) (fun x hx y A=> ?_) x
  ·rcases h1 x hx with h|h
   ·exact .inl EP
   exact RA
  ·rcases aW.1 hx with h|h
   ·exact h2 x h
   rw [aX.1 h];exact I
  ·rcases aW.1 hx with h|h
   ·exact h3 x EP
   exact .step I h
  rcases aW.1 hx with h|h
  ·rcases h4 x h y A with h|h
   ·exact .inl EP
   exact RA
  rw [aX.1 h] at A;exact .inr (by simp [A])
def fj(ts S x):x∈cT ts S↔Ci (bg ts) S x:=by
 unfold cT eT;exact ql ts S _ S [] ai (fun x A=> .inr A) ar (fun x A=> .bz A) ar x
def xc(ts S x):ip ts S x=true↔Ci (bg ts) S x:=by
 unfold ip;rw [Iv,fj]
def MH(o x y):y∈jn o x↔y∈o\/y=x:=by
 unfold jn
 split
 ·rename_i h;rw [dg] at h;obtain ⟨k,A,e⟩:=h;have:k=x:=by simpa using e
  subst this
  constructor
  ·exact .inl
  rintro (h|rfl)
  ·exact h
  exact A
 simp
def sU:∀(l o:List Nat)(y:Nat),y∈lN o l↔y∈o\/y∈l
 | [],o,y=>by simp [lN]
 |x::l,o,y=>by
  have:=sU l (jn o x) y;unfold lN at*;rw [List.foldl_cons,this,MH,List.mem_cons]
  constructor
  ·rintro ((h|h)|h)
   ·exact .inl h
   ·exact .inr (.inl h)
   exact .inr (.inr h)
  rintro (h|h|h)
  ·exact .inl (.inl h)
  ·exact .inl (.inr h)
  exact .inr h
def MI(o x):∃e,jn o x=o++e:=by
 unfold jn
 split
 ·exact ⟨[],ar⟩
 exact ⟨[x],rfl⟩
def Ac:∀(l o:List Nat),∃e,lN o l=o++e
 | [],o=>⟨[],by simp [lN]⟩
 |x::l,o=>by
  obtain ⟨e1,h1⟩:=MI o x;obtain ⟨h,h2⟩:=Ac l (jn o x);refine ⟨e1++h,?_⟩;unfold lN at*;rw [List.foldl_cons,h2,h1,ct]
def EQ(H S m)(I:∀r,∀x∈H r,x<m):∀(f:Nat)(o:List Nat)(i:Nat),S.length+m<f+i->g9 S m o->(∀x∈o,Ci H S x)->(∀k<i,∀r,o[k]? =some r->∀y∈H r,y∈o)->
  ∀x,x∈wO H f o i↔Ci H S x
 |0,o,i,hf,hg,h1,h2=>by
  intro x;rw [wO];have hl:=hg.le;obtain ⟨ex,rfl,_,_⟩:=hg;refine ⟨h1 x,fun h=> ?_⟩
  induction h using Ci.ind with
  |base h=>simp [h]
  |step _ hy ih=>
   exact Rz
 |f+1,o,i,hf,hg,h1,h2=>by
  intro x;rw [wO]
  cases hi:o[i]? with
  |none=>
   simp only;have V:=List.getElem?_eq_none_iff.1 hi;obtain ⟨ex,rfl,_,_⟩:=hg;refine ⟨h1 x,fun h=> ?_⟩
   induction h using Ci.ind with
   |base h=>simp [h]
   |step _ hy ih=>
    exact Rz
  |some r=>
   simp only;have Z:=(bD.1 hi).1;have R:=h1 r (bF hi);refine EQ H S m I f _ (i+1) ai (n7 _ _ hg (I r)) (fun y hy=> ?_) (fun k Y U D y hy=> ?_) x
   ·rcases (sU _ _ _).1 hy with h|h
    ·exact h1 y h
    exact .step R h
   obtain ⟨e,J⟩:=Ac (H r) o;have Q:k<o.length:=ai;rw [J,nF Q] at D;rw [sU]
   rcases fD k i with h|h
   ·exact .inl (h2 k h U D y hy)
   have:k=i:=ai;subst this;rw [hi] at D;simp only [aR] at D;subst D;exact .inr hy
def ER(rl pl dP fA)(h:lk rl pl dP fA)(S x):x∈Cd rl pl dP fA S↔Ci (nZ rl pl dP fA) S x:=by
 unfold Cd;refine EQ _ S rl.length (fun r x A=> ?_) _ S 0 ai ⟨[],ar,ar,ar⟩ (fun x A=> .bz A) (fun k D=>ai) x;unfold nZ at A
 cases C:rl[r]? with
 |none=>rw [C] at A;simp at A
 |some y=>
  rw [C] at A;exact (h y (bF C)).2.2 x A
def V3(num:α->Int)(nd:α->List α)(H:Nat->List Nat)(S:List α)(N)(C:∀j,j∈N↔∃s∈S,num s=(j:Nat))(A:∀(s:α)(j:Nat),num s=j->∀j',j'∈H j↔∃s'∈nd s,num s'=(j':Nat))(h0:∀s,nd s≠ []->0<=num s)(j):Ci H N j↔∃s,Ci nd S s/\num s=j:=by
 constructor
 ·intro h
  induction h using Ci.ind with
  |base h=>
   obtain ⟨s,hs,e⟩:=(C _).1 h;exact ⟨s,.bz hs,e⟩
  |step _ hy ih=>
   obtain ⟨s,hs,e⟩:=ih;obtain ⟨s',D,e'⟩:=(A s _ e _).1 hy;exact ⟨s',.step hs D,e'⟩
 ·rintro ⟨s,h,e⟩
  induction h using Ci.ind generalizing j with
  |base h=>exact .bz ((C _).2 ⟨_,h,e⟩)
  |@step x y _ hy ih=>
   have I:=h0 x (fun e=>by rw [e] at hy;simp at hy);exact .step (ih (num x).toNat ai) ((A x (num x).toNat ai _).2 ⟨y,hy,e⟩)
abbrev mK:=@List.mem_filterMap
def cu.memr{R}:∀(ns:List Nat)(xs:List Ex),cu R ns xs->∀x∈xs,∃n∈ns,R n x
 | [],[],_,x,h=>by simp at h
 |n::ns,y::xs,k,x,h=>by
  rcases List.mem_cons.1 h with rfl|h
  ·exact ⟨n,ar,k.1⟩
  obtain ⟨m,A,C⟩:=cu.memr ns xs k.2 x h;exact ⟨m,by simp [A],C⟩
 | [],_::_,k,_,_=>k.elim
 |_::_,[],k,_,_=>k.elim
def V4{x y}(h:Tr pl 1 n x)(k:Tr pl 1 n y):x=y:=by
 obtain ⟨p,I,h⟩:=h;obtain ⟨q,D,k⟩:=k;rw [I] at D;simp only [aR] at D;subst D
 rcases h with ⟨h1,hn,rfl⟩|⟨h1,h0,hn,rfl⟩|⟨h1,h0,hn,rfl⟩|⟨_,_,_,_,_,_,_,C,_⟩|⟨_,_,_,_,_,_,_,_,C,_⟩
 ·rcases k with ⟨k1,kn,rfl⟩|⟨k1,k0,kn,rfl⟩|⟨k1,k0,kn,rfl⟩|⟨_,_,_,_,_,_,_,A,_⟩|⟨_,_,_,_,_,_,_,_,A,_⟩
  ·rfl
  ·omega
  ·omega
  ·exact A.elim
  exact A.elim
 ·rcases k with ⟨k1,kn,rfl⟩|⟨k1,k0,kn,rfl⟩|⟨k1,k0,kn,rfl⟩|⟨_,_,_,_,_,_,_,A,_⟩|⟨_,_,_,_,_,_,_,_,A,_⟩
  ·omega
  ·rfl
  ·omega
  ·exact A.elim
  exact A.elim
 ·rcases k with ⟨k1,kn,rfl⟩|⟨k1,k0,kn,rfl⟩|⟨k1,k0,kn,rfl⟩|⟨_,_,_,_,_,_,_,A,_⟩|⟨_,_,_,_,_,_,_,_,A,_⟩
  ·omega
  ·omega
  ·rfl
  ·exact A.elim
  exact A.elim
 ·exact C.elim
 exact C.elim
def fk:∀(x p:Ex),p∈aN x↔p∈aF x/\p.l=none
 |⟨n,some x,some y⟩,p=>by
  have h1:=fk x p;have h2:=fk y p;simp only [aN,aF,aW,aX,h1,h2]
  constructor
  ·rintro (h|h)
   ·exact ⟨.inl (.inl h.1),h.2⟩
   exact ⟨.inr h.1,h.2⟩
  rintro ⟨(h|rfl)|h,k⟩
  ·exact .inl ⟨h,k⟩
  ·simp at k
  exact .inr ⟨h,k⟩
 |⟨n,none,r⟩,p=>by
  simp only [aN,aF,aX]
  constructor
  ·rintro rfl;exact ⟨rfl,rfl⟩
  exact fun h=>h.1
 |⟨n,some x,none⟩,p=>by simp [aN,aF]
def eP(ts t r y s):s∈dw ts t r y↔∃e∈aN y,s∈dW ts t r e:=by
 unfold dw;rw [bZ]
 constructor
 ·rintro ⟨p,A,hs⟩;refine ⟨p,(fk y p).2 ⟨A,?_⟩,hs⟩;unfold dW at hs
  cases h:p.l with
  |none=>rfl
  |some z=>rw [h] at hs;simp at hs
 rintro ⟨p,A,hs⟩;exact ⟨p,((fk y p).1 A).1,hs⟩
def ux(ts:List Ty)(t:Ty)(e:Ex):List Sp:=if e.nd.kind=0 then e.nd.gs.filterMap mo else if e.nd.kind=1 then [(t.name,e.nd.n1)] else (nB ts t e.nd.n1 e.nd.n2).map fun u=>(u.name,e.nd.n2)
structure Kn(pl:List PV)(rl:List RV)(ts:List Ty)(F:Nat):Prop where
 d:ew ts
 b:db pl rl (bx ts)
 f:cS pl F rl (bx ts)
 g:wW ts
 n:∀t∈ts,∀r∈t.rels,dC r.name=true
 w:∀t∈ts,∀r∈t.rels,WF r.body
 z:rb ts
 k:∀x∈rl,∀n∈aJ pl F x.ex,∀p,pl[n]? =some p->V0 rl x.kd p
section
variable {pl:List PV}{rl:List RV}{ts:List Ty}{F:Nat}
def Kn.noName(h:Kn pl rl ts F)(k n)(I:dC n=false):bh k n rl 0= -1:=by
 rcases cR h.d h.b k n with ⟨e,_⟩|⟨j,t,r,_,C,D,_⟩
 ·exact e
 have h1:=(cw C).1;obtain ⟨h2,A⟩:=cF D;have:=h.n t h1 r h2;rw [A,I] at this
 cases this
def Kn.hash(h:Kn pl rl ts F)(g)(C:iG g)(j):j∈ey rl g↔∃s,mo g=some s/\bh s.1 s.2 rl 0=j:=by
 unfold ey mo
 rcases C with ⟨h1,h2⟩|h1|⟨h1,h2⟩
 ·have e:bH g=em:=by unfold bH;rw [if_neg ai,h2]
  rw [e,h.noName g.ty em Kv,if_neg ai,if_neg ai];simp
 ·have e:bH g=sg 42:=by unfold bH;rw [if_pos h1]
  rw [e,h.noName g.ty (sg 42) Aa,if_neg ai,if_neg ai];simp
 rw [oK h1,if_pos h1]
 constructor
 ·intro A
  split at A
  ·rw [aX] at A;exact ⟨_,rfl,by simp only;omega⟩
  simp at A
 rintro ⟨s,e,hs⟩;simp only [aR] at e;subst e;simp only at hs;rw [if_pos ai,aX];omega
def Kn.gof(h:Kn pl rl ts F){k}(A:(bx ts)[j]? =some (k,r)):eJ rl pl (aJ pl F) j=bS r.body:=by
 obtain ⟨x,hx,_,_,_,htr⟩:=cS.get rl _ j _ h.f A;exact Is
def Kn.allg(h:Kn pl rl ts F)(J:t∈ts)(I:r∈t.rels):∀g∈bS r.body,iG g:=by
 rw [dt];intro g C;obtain ⟨e',A,D⟩:=bZ.1 C;exact h.g t J r I e' A g D
def Kn.tie(h:Kn pl rl ts F)(y g)(D:iG g)(j):j∈hU rl y g↔∃u,iQ ts y g=some u/\bh u.name y rl 0=j:=by
 rcases EJ h.d h.b y g D with ⟨e1,A⟩|⟨i,u,r,e1,A,I,J⟩
 ·rw [e1,A];simp
 have hn:bh u.name y rl 0=(i:Int):=by
  unfold hU at e1
  split at e1
  ·rename_i hc;rw [bO,fE] at hc;simp only [kX,and_true] at e1;have C:u.name=g.ty:=by
    unfold iQ at A
    split at A
    ·split at A
     ·cases A
     rename_i v hv
     split at A
     ·simp only [aR] at A;subst A;exact (cw hv).2
     cases A
    cases A
   rw [C];omega
  cases e1
 rw [e1,A,aX]
 constructor
 ·rintro rfl;exact ⟨u,rfl,hn⟩
 rintro ⟨v,e,hv⟩;simp only [aR] at e;subst e;omega
def Kn.leaf(h:Kn pl rl ts F)(t)(Z:t∈ts)(n e)(k:Tr pl 1 n e)(ac:∀g∈eO e,iG g)(J:∀p,pl[n]? =some p->V0 rl t.name p)(j):j∈sQ (gG rl (eJ rl pl (aJ pl F)) t.name) pl n↔∃s∈ux ts t e,bh s.1 s.2 rl 0=j:=by
 obtain ⟨p,Y,k⟩:=k;have J:=J p Y;unfold sQ;rw [Y];simp only;unfold gG ux
 rcases k with ⟨h1,V,rfl⟩|⟨h1,h0,V,rfl⟩|⟨h1,h0,V,rfl⟩|⟨_,_,_,_,_,_,_,D,_⟩|⟨_,_,_,_,_,_,_,_,D,_⟩
 ·simp only [h1,Nat.reduceEqDiff,aZ,dU,if_true,bZ,mK];have U:∀g∈p.gs,iG g:=by simpa [eO] using ac
  constructor
  ·rintro ⟨g,A,I⟩;obtain ⟨s,e1,C⟩:=(h.hash g (U g A) j).1 I;exact ⟨s,⟨g,A,e1⟩,C⟩
  rintro ⟨s,⟨g,A,e1⟩,C⟩;exact ⟨g,A,(h.hash g (U g A) j).2 ⟨s,e1,C⟩⟩
 ·have h2:=J.1 h1;simp only [h0,h1,Nat.reduceEqDiff,aZ,if_true,jI,List.nil_append,aX]
  constructor
  ·intro I;exact ⟨_,rfl,by simp only;omega⟩
  rintro ⟨s,rfl,hs⟩;simp only at hs;omega
 ·have h2:=J.2 h1;simp only [h0,h1,Nat.reduceEqDiff,aZ,if_true,jI,List.nil_append]
  rcases cR h.d h.b t.name p.nb with ⟨e1,_⟩|⟨i,ae,r,e1,D,R,ab⟩
  ·omega
  rw [dn h.d Z] at D;simp only [aR] at D;subst D;have ad:=(cF R).1;rw [e1,Int.toNat_natCast,h.gof ab];unfold fy nB;rw [R];simp only [bZ,aU,mK];have ha:=h.allg Z ad
  constructor
  ·rintro ⟨g,A,I⟩;obtain ⟨u,C,Q⟩:=(h.tie p.nr g (ha g A) j).1 I;exact ⟨_,⟨u,⟨g,A,C⟩,rfl⟩,Q⟩
  rintro ⟨s,⟨u,⟨g,A,C⟩,rfl⟩,Q⟩;exact ⟨g,A,(h.tie p.nr g (ha g A) j).2 ⟨u,C,Q⟩⟩
 ·exact D.elim
 exact D.elim
end
def RB (h:aD:=by
 simp only [dY,Prod.mk.injEq] at h;rw [<-h.1];exact fun _=>rfl):aD:=h
def yL(g:Gr):Prop:=g.reach=1->g.rel=em
section
variable (T:Nat->ae)(P:Nat->Nat)
def MJ(i:Nat)(g:Gr)(j:Nat)(h:dT T P i=.ok (g,j)):yL g:=by
 unfold dT at h
 split at h
 ·simp at h
 split at h
 ·exact RB
 split at h
 ·split at h
  ·simp at h
  simp only [dY,Prod.mk.injEq] at h;rw [<-h.1];exact fun e=>by simp at e
 exact RB
def ES:∀f acc i gs j,dQ T P f acc i=.ok (gs,j)->(∀g∈acc,yL g)->∀g∈gs,yL g
 |0,acc,i,gs,j,h,_=>by simp [dQ] at h
 |f+1,acc,i,gs,j,h,ha=>by
  unfold dQ at h
  split at h
  ·simp at h
  rename_i g0 A hg;have h0:=MJ T P _ _ _ hg;have h1:∀g∈acc++[g0],yL g:=fun g hg=>by
   exact Rr
  split at h
  ·exact ES f _ _ _ _ h h1
  exact Rt
def GE(r:Nat->eL Ex):Prop:=∀i x j,r i=.ok (x,j)->∀e∈aN x,∀g∈eO e,yL g
def ET(l:List ae)(part:Nat->eL Ex)(hp:GE part):∀f y i x j,joinL T P l part f y i=.ok (x,j)->(∀e∈aN y,∀g∈eO e,yL g)->∀e∈aN x,∀g∈eO e,yL g
 |0,y,i,x,j,h,_=>by simp [joinL] at h
 |f+1,y,i,x,j,h,ha=>by
  unfold joinL at h
  split at h
  ·split at h
   ·simp at h
   rename_i z A hz;refine ET l part hp f _ A x j h (fun e he=> ?_);exact Rq
  simp only [dY,Prod.mk.injEq] at h;rw [<-h.1];exact ha
def rf(l:List ae)(part:Nat->eL Ex)(A:GE part):GE (eU T P l part):=by
 intro i x j h;unfold eU at h
 split at h
 ·simp at h
 rename_i y D C;exact ET T P l part A _ _ _ x j h (A _ _ _ C)
def EU(R:Bool)(Q:Nat->eL Ex)(hp:GE Q):GE (eR T P R Q):=by
 intro i x j h;unfold eR at h
 split at h
 ·unfold j7 at h
  split at h
  ·simp at h
  rename_i gs U hl;simp only [dY,Prod.mk.injEq] at h;rw [<-h.1];intro e J g hg;simp only [JH,aN,aX] at J;subst J;exact ES T P _ _ _ _ _ hl ar g Kw
 exact X1
def EV:∀n,GE (fp T P n)
 |0=>rf T P _ _ (rf T P _ _ (EU T P false _ (fun i x j h=>by simp at h)))
 |n+1=>rf T P _ _ (rf T P _ _ (EU T P true _ (EV n)))
end
def RD(h:dJ (TT s) (PP s)=.ok (ts,m)):∀t∈ts,∀r∈t.rels,∀g∈bS r.body,yL g:=fun t I r D g A=>by
 obtain ⟨_,i0,J,h1,_⟩:=kF h t I r D;rw [dt] at A;obtain ⟨e,C,A⟩:=bZ.1 A;exact EV (TT s) (PP s) 4 _ _ _ h1 e C g A
def Ky(h:wW ts):∀t∈ts,∀r∈t.rels,∀g∈bS r.body,iG g:=fun t I r D g A=>by
 rw [dt] at A;obtain ⟨e,C,A⟩:=bZ.1 A;exact h t I r D e C g A
section
variable {pl:List PV}{rl:List RV}{ts:List Ty}{F:Nat}
structure Zc(pl:List PV)(F:Nat)(x:RV)(t:Ty)(r:Rl)(m:Nat)(y:Ex):Prop where
 tr:Tr pl F m y
 xt:Tr pl F x.ex r.body
 lv:∀n∈aJ pl F m,n∈aJ pl F x.ex
 kd:x.kd=t.name
def Zc.leaf{x y}(s:Zc pl F x t r m y){e}(A:e∈aN y):∃n∈aJ pl F m,Tr pl 1 n e/\e∈aN r.body:=by
 obtain ⟨n,hn,D⟩:=cu.memr _ _ (ei pl F _ _ s.tr) e A;obtain ⟨e',C,h⟩:=cu.mem _ _ (ei pl F _ _ s.xt) n (s.lv n hn);rw [V4 D h] at*;exact ⟨n,hn,h,C⟩
def Kn.hang(h:Kn pl rl ts F){x}(U:x∈rl)(D:t∈ts)(R:r∈t.rels){y}(s:Zc pl F x t r m y)(j):j∈iu rl pl (eJ rl pl (aJ pl F)) x.kd (aJ pl F m)↔∃e∈aN y,∃s∈ux ts t e,bh s.1 s.2 rl 0=j:=by
 unfold iu;rw [bZ];have key:∀n∈aJ pl F m,∀e∈aN y,Tr pl 1 n e->(j∈sQ (gG rl (eJ rl pl (aJ pl F)) x.kd) pl n↔∃s∈ux ts t e,bh s.1 s.2 rl 0=j):=fun n hn e A C=>by
  rw [s.kd];obtain ⟨_,_,_,I⟩:=s.leaf A;exact h.leaf t D n e C (h.g t D r R e I) (fun p Q=>by rw [<-s.kd];exact h.k x U n (s.lv n hn) p Q) j
 constructor
 ·rintro ⟨n,hn,J⟩;obtain ⟨e,A,C⟩:=cu.mem _ _ (ei pl F _ _ s.tr) n hn;exact ⟨e,A,(key n hn e A C).1 J⟩
 rintro ⟨e,A,hs⟩;obtain ⟨n,hn,C,_⟩:=s.leaf A;exact ⟨n,hn,(key n hn e A C).2 hs⟩
def rg{s}:s∈mq r↔∃e∈aN r.body,∃g∈eO e,mo g=some s:=by
 unfold mq;rw [dt];simp only [mK,bZ]
 constructor
 ·rintro ⟨g,⟨e,h,A⟩,hs⟩;exact ⟨e,h,g,A,hs⟩
 rintro ⟨e,h,g,A,hs⟩;exact ⟨g,⟨e,h,A⟩,hs⟩
def i8{x e}(h:e∈aN x):e.l=none:=((fk x e).1 h).2
def gq{e}(h:e.l=none):dW ts t r e=if e.nd.kind=0 then mq r else ux ts t e:=by
 unfold dW ux;rw [h];simp only
 split
 ·rfl
 rfl
def lP{e}(h:e.l=none):eO e=if e.nd.kind=0 then e.nd.gs else []:=by
 unfold eO;rw [h]
def Kn.grants(h:Kn pl rl ts F){x:RV}(R:t∈ts)(Q:r∈t.rels)(U:Tr pl F x.ex r.body)(j:Nat):j∈N1 rl pl (aJ pl F x.ex)↔∃s∈mq r,bh s.1 s.2 rl 0=j:=by
 unfold N1;rw [bZ];have key:∀n e,Tr pl 1 n e->sQ (Mz rl) pl n=(eO e).flatMap (ey rl):=fun n e A=>by
  rw [<-oL A];obtain ⟨p,V,_⟩:=A;unfold sQ jN Mz;rw [V]
 constructor
 ·rintro ⟨n,hn,I⟩;obtain ⟨e,C,A⟩:=cu.mem _ _ (ei pl F _ _ U) n hn;rw [key n e A,bZ] at I;obtain ⟨g,D,I⟩:=I;obtain ⟨s,e1,J⟩:=(h.hash g (h.g t R r Q e C g D) j).1 I;exact ⟨s,rg.2 ⟨e,C,g,D,e1⟩,J⟩
 rintro ⟨s,hs,J⟩;obtain ⟨e,C,g,D,e1⟩:=rg.1 hs;obtain ⟨n,hn,A⟩:=cu.memr _ _ (ei pl F _ _ U) e C;refine ⟨n,hn,?_⟩;rw [key n e A,bZ];exact ⟨g,D,(h.hash g (h.g t R r Q e C g D) j).2 ⟨s,e1,J⟩⟩
def KE{e}(h:e∈aN r.body)(A:e.nd.kind=0){s}(hs:s∈ux ts t e):s∈mq r:=by
 unfold ux at hs;rw [if_pos A,mK] at hs;obtain ⟨g,C,e1⟩:=hs;exact rg.2 ⟨e,h,g,by rw [lP (i8 h),if_pos A];exact C,e1⟩
def Kn.need(h:Kn pl rl ts F){x}(Z:x∈rl)(Q:t∈ts)(J:r∈t.rels){y}(s:Zc pl F x t r m y)(j):j∈fM rl pl (eJ rl pl (aJ pl F)) x.kd (aJ pl F m) (aJ pl F x.ex)↔∃s∈dw ts t r y,bh s.1 s.2 rl 0=j:=by
 unfold fM;rw [aW,h.hang Z Q J s j]
 constructor
 ·rintro (⟨e,A,C,hs,D⟩|U)
  ·refine ⟨C,(eP ts t r y C).2 ⟨e,A,?_⟩,D⟩;obtain ⟨_,_,_,R⟩:=s.leaf A;rw [gq (i8 A)]
   split
   ·rename_i I;exact KE R I hs
   exact hs
  split at U
  ·rename_i ha;obtain ⟨C,hs,D⟩:=(h.grants Q J s.xt j).1 U;rw [dg] at ha;obtain ⟨n,hn,hl⟩:=ha;rw [fE] at hl;obtain ⟨e,A,V⟩:=cu.mem _ _ (ei pl F _ _ s.tr) n hn;rw [oL V,lP (i8 A)] at hl;refine ⟨C,(eP ts t r y C).2 ⟨e,A,?_⟩,D⟩;rw [gq (i8 A)]
   split at hl
   ·rename_i I;rw [if_pos I];exact hs
   simp at hl
  simp at U
 rintro ⟨C,hs,D⟩;obtain ⟨e,A,hs⟩:=(eP ts t r y C).1 hs;rw [gq (i8 A)] at hs;obtain ⟨n,hn,V,R⟩:=s.leaf A
 split at hs
 ·rename_i I;right;have Y:=h.w t Q r J e ((fk _ e).1 R).1 (i8 A) I;rw [if_pos (by
   rw [dg];refine ⟨n,hn,?_⟩;rw [fE,oL V,lP (i8 A),if_pos I];exact l5.2 Y)]
  exact (h.grants Q J s.xt j).2 ⟨C,hs,D⟩
 exact .inl ⟨e,A,C,hs,D⟩
def Kn.spot(h:Kn pl rl ts F){s:Sp}(e:bh s.1 s.2 rl 0=j):∃t r x,t∈ts/\r∈t.rels/\t.name=s.1/\r.name=s.2/\bW ts s.1=some t/\b8 t s.2=some r/\(bx ts)[j]? =some (s.1,r)/\rl[j]? =some x/\x.kd=t.name/\Tr pl F x.ex r.body:=by
 rcases cR h.d h.b s.1 s.2 with ⟨e1,_⟩|⟨i,t,r,e1,C,D,I⟩
 ·omega
 have:i=j:=ai;subst this;obtain ⟨x,V,R,_,_,U⟩:=cS.get rl _ i _ h.f I;obtain ⟨J,A⟩:=cw C;obtain ⟨b1,Q⟩:=cF D;exact ⟨t,r,x,J,b1,A,Q,C,D,I,V,by rw [R,A],U⟩
def Kn.inj(h:Kn pl rl ts F){s s':Sp}(e:bh s.1 s.2 rl 0=j)(e':bh s'.1 s'.2 rl 0=j):s=s':=by
 obtain ⟨t,r,x,_,_,_,h2,_,_,I,_⟩:=h.spot e;obtain ⟨Q,J,R,_,_,_,D,_,_,A,_⟩:=h.spot e';rw [I] at A;simp only [aR,Prod.mk.injEq] at A;obtain ⟨e1,C⟩:=A;subst C;exact Prod.ext e1 (by rw [<-h2,<-D])
def Kn.hangr(h:Kn pl rl ts F)(s)(j:Nat)(e:bh s.1 s.2 rl 0=j)(j':Nat):j'∈nZ rl pl (eJ rl pl (aJ pl F)) (aJ pl F) j↔∃s'∈bg ts s,bh s'.1 s'.2 rl 0=j':=by
 obtain ⟨t,r,x,ac,ab,_,_,V,Y,ad,U,J,R⟩:=h.spot e;unfold nZ bg;rw [U,V];simp only;rw [Y];simp only;have hs:Zc pl F x t r x.ex r.body:=⟨R,R,fun n hn=>hn,J⟩;rw [h.hang (bF U) ac ab hs]
 constructor
 ·rintro ⟨e,A,C,hs,D⟩;refine ⟨C,(eP ts t r _ C).2 ⟨e,A,?_⟩,D⟩;rw [gq (i8 A)]
  split
  ·rename_i J;exact KE A J hs
  exact hs
 rintro ⟨C,hs,D⟩;obtain ⟨e,A,hs⟩:=(eP ts t r _ C).1 hs;rw [gq (i8 A)] at hs
 split at hs
 ·obtain ⟨e',Q,g,I,e1⟩:=rg.1 hs;refine ⟨e',Q,C,?_,D⟩;rw [lP (i8 Q)] at I
  split at I
  ·rename_i Z;unfold ux;rw [if_pos Z,mK];exact ⟨g,I,e1⟩
  simp at I
 exact ⟨e,A,C,hs,D⟩
def Kn.bad(h:Kn pl rl ts F)(C:lk rl pl (eJ rl pl (aJ pl F)) (aJ pl F)){x}(V:rl[i]? =some x)(U:t∈ts)(R:r∈t.rels)(hi:bh t.name r.name rl 0=i){y}(s:Zc pl F x t r m y):wQ rl pl (eJ rl pl (aJ pl F)) (aJ pl F) i x m=ip ts (dw ts t r y) (t.name,r.name):=by
 rw [gW,xc];unfold wQ;rw [dg];have D:=V3 (fun s:Sp=>bh s.1 s.2 rl 0) (bg ts) (nZ rl pl (eJ rl pl (aJ pl F)) (aJ pl F)) (dw ts t r y) (fM rl pl (eJ rl pl (aJ pl F)) x.kd (aJ pl F m) (aJ pl F x.ex)) (fun j=>h.need (bF V) U R s j) (fun s j e j'=>h.hangr s j e j') (fun s hs=>by
  rcases cR h.d h.b s.1 s.2 with ⟨e1,Q⟩|⟨i,t,r,e1,Z,ab,ac⟩
  ·refine absurd ?_ hs;unfold bg
   cases I:bW ts s.1 with
   |none=>rfl
   |some u=>simp only;rw [Q u I]
  omega)
 constructor
 ·rintro ⟨k,J,e⟩;have:k=i:=by simpa using e
  subst this;obtain ⟨Y,A,e⟩:=(D k).1 ((ER _ _ _ _ C _ _).1 J);rw [<-h.inj (s:=Y) (s':=(t.name,r.name)) e hi];exact A
 intro A;exact ⟨i,(ER _ _ _ _ C _ _).2 ((D i).2 ⟨_,A,hi⟩),ar⟩
end
def IC(rs:List Rl):List Nat:=rs.flatMap fun r=>lj r.body
def sX(ts:List Ty):List Nat:=ts.flatMap fun t=>IC t.rels
section
variable (T:Nat->ae)(P:Nat->Nat)
def ID(i:Nat)(r:Rl)(j:Nat)(h:kW T P i=.ok (r,j)):jm P i j (lj r.body):=by
 unfold kW at h
 split at h
 ·simp at h
 rename_i u D hn;have C:=fO T _ _ _ _ hn
 split at h
 ·simp at h
 rename_i x I A
 split at h
 ·simp only [dY,Prod.mk.injEq] at h;obtain ⟨rfl,rfl⟩:=h;exact (z8 T P 4 _ _ _ A).wide ai ai
 simp at h
def tY:∀(f:Nat)(acc:List Rl)(i:Nat)(rs:List Rl)(m:Nat),di T P f acc i=.ok (rs,m)->∃new,rs=acc++new/\i<m/\jm P i m (IC new)
 |0,acc,i,rs,m,h=>by simp [di] at h
 |f+1,acc,i,rs,m,h=>by
  unfold di at h
  split at h
  ·exact B9
  split at h
  ·simp at h
  split at h
  ·simp at h
  rename_i r j A;have h1:=ID T P i r j A;have h2:=(wL T P i r j A).2;obtain ⟨new,rfl,D,C⟩:=tY f _ _ _ _ h;refine ⟨r::new,ar,ai,?_⟩;exact h1.app C ai ai
def rh:∀(f:Nat)(acc:List Ty)(i:Nat)(ts:List Ty)(m:Nat),cQ T P f acc i=.ok (ts,m)->∃new,ts=acc++new/\i<=m/\jm P i m (sX new)
 |0,acc,i,ts,m,h=>by simp [cQ] at h
 |f+1,acc,i,ts,m,h=>by
  unfold cQ at h
  split at h
  ·exact B9
  split at h
  ·simp at h
  split at h
  ·simp at h
  rename_i t j A;obtain ⟨new,rfl,J,C⟩:=rh f _ _ _ _ h;rw [kA] at A
  split at A
  ·unfold m2 at A
   split at A
   ·simp at A
   rename_i u U hn;have R:=fO T _ _ _ _ hn
   split at A
   ·simp at A
   rename_i rs V I;simp only [dY,Prod.mk.injEq] at A;obtain ⟨rfl,rfl⟩:=A;obtain ⟨rn,e,Q,D⟩:=tY T P _ _ _ _ _ I;rw [List.nil_append] at e;subst e;refine ⟨⟨T (i+1),P (i+1),rs⟩::new,ar,ai,?_⟩;exact (D.wide (lo':=i) ai aH).app C ai ai
  simp at A
end
def Cs(h:dJ (TT s) (PP s)=.ok (ts,m))(hg:Gd s m):(sX ts).Pairwise (· < ·):=by
 obtain ⟨new,e,_,ha⟩:=rh (TT s) (PP s) 512 [] 0 ts m h;exact Rp
def ix(B:Ex->Bool):Ex->List Nat
 |⟨n,some x,some y⟩=>ix B x++(if fi n.kind=246/\B y=true then [n.place] else [])++ix B y
 |⟨_,none,_⟩=>[]
 |⟨_,some _,none⟩=>[]
def xj(B):∀(x:Ex),(ix B x).Sublist (lj x)
 |⟨n,some x,some y⟩=>by
  simp only [ix,lj];have h1:=xj B x;have h2:=xj B y;rw [ct];refine h1.append ?_
  split
  ·exact h2.cons_cons _
  exact h2.cons _
 |⟨_,none,_⟩=>by simp [ix]
 |⟨_,some _,none⟩=>by simp [ix]
def qn(ts t r):∀(x:Ex),(aF x).findSome? (lI ts t r)=(ix (fun y=>ip ts (dw ts t r y) (t.name,r.name)) x).head?
 |⟨n,some x,some y⟩=>by
  have h1:=qn ts t r x;have h2:=qn ts t r y;simp only [aF,ix,sy,h1,h2,List.findSome?_cons,List.findSome?_nil,List.head?_append]
  congr 2
  unfold lI;simp only
  by_cases ha:fi n.kind=246
  ·by_cases h:ip ts (dw ts t r y) (t.name,r.name)=true
   ·simp [ha,h]
   simp [ha,h]
  simp [ha]
 |⟨n,none,r'⟩=>by simp [aF,ix,lI]
 |⟨n,some x,none⟩=>by simp [aF,ix]
def IE{l:List Nat}(h:l.Pairwise (· < ·)):dN (li l.head?) (fun q=>q∈l):=by
 cases l with
 |nil=>exact .inl ⟨rfl,ar⟩
 |cons a l=>
  refine .inr ⟨a,rfl,ar,fun q A=> ?_⟩
  rcases List.mem_cons.1 A with rfl|A
  ·exact bV _
  exact Nat.le_of_lt ((kB.1 h).1 q A)
def qo{α:Type}(f:α->List Nat):∀(l:List α),(l.findSome? fun a=>(f a).head?)=(l.flatMap f).head?
 | []=>rfl
 |a::l=>by
  rw [gJ,bM,List.head?_append,<-qo f l]
  cases (f a).head? <;>rfl
def xk(ts:List Ty):List Nat:=ts.flatMap fun t=>t.rels.flatMap fun r=>ix (fun y=>ip ts (dw ts t r y) (t.name,r.name)) r.body
def xl{α:Type}{f g:α->List Nat}(h:∀a,(f a).Sublist (g a)):∀(l:List α),(l.flatMap f).Sublist (l.flatMap g)
 | []=>ar
 |a::l=>by
  rw [bM,bM];exact (h a).append (xl h l)
def E4(h:(sX ts).Pairwise (· < ·)):dN (li (fe (jH ts) ts)) (fun q=>q∈xk ts):=by
 have e:fe (jH ts) ts=(xk ts).head? :=by
  unfold fe xk;rw [<-qo]
  congr 1
  funext t
  rw [<-qo]
  congr 1
  funext r
  unfold jH;exact qn ts t r r.body
 rw [e];have hs:(xk ts).Sublist (sX ts):=by
  unfold xk sX IC;exact xl (fun t=>xl (fun r=>xj _ r.body) t.rels) ts
 exact IE (h.sublist hs)
def X7 (h:aD:=by
 rw [cK,List.sum_append];omega):aD:=h
def IF (h:aD:=by
 rw [hn.1,hn.2];simp only [dU,List.drop_nil,UH];refine (kT x bad B hB f q ys c S k2 ai h).congr (fun q=> ?_);simp [ix]):aD:=h
def R5 (h:aD:=by
 rw [h3];exact cu.app (show cu (xm pl (g+1) x) (n0::ns) (x0::rs.map fun r=>r.2.2) from ⟨k0,kn⟩) _ _ k2):aD:=h
def R8(q:bq) (h:cj bq->aD:=by
 intro zq;have kn:cu (xm pl (g+1) x) ns (rs.map fun r=>r.2.2):=E5 ns _ (fun m hm z hz=>k1.kid hp (by rw [h3];simp [hm]) hz) h5;have k0:xm pl (g+1) x n0 x0:=k1.kid hp (by rw [h3];simp) h4
 revert kn k0
 exact zq.1):aD:=h ⟨q⟩
def ri(t p):minus ⟨bB t,p,false⟩=eqs t (sg 45):=by
 unfold minus eqs;simp only;rw [cW,aT]
 rfl
def R9:¬fi (kindOf (sg 38))=246:=by decide
def V8:¬fi (kindOf (sg 124))=246:=by decide
def MM:fi (kindOf (sg 45))=246:=by decide
def rj{P:α->Prop}{x:α}{l:List α}:(∃a∈x::l,P a)↔P x\/∃a∈l,P a:=by
 constructor
 ·rintro ⟨a,ha,h⟩
  rcases List.mem_cons.1 ha with rfl|ha
  ·exact .inl h
  exact .inr ⟨a,ha,h⟩
 rintro (h|⟨a,ha,h⟩)
 ·exact ⟨x,ar,h⟩
 exact ⟨a,by simp [ha],h⟩
def sY(B q):∀(rs:List (ae×Nat×Ex)) (x:Ex),q∈ix B (cb x rs)↔q∈ix B x\/(∃r∈rs,fi (kindOf r.1)=246/\B r.2.2=true/\q=r.2.1)\/∃r∈rs,q∈ix B r.2.2
 | [],x=>by simp [cb]
 |(t,p,y)::rs,x=>by
  rw [cb,sY B q rs];simp only [dF,ix,aW,rj]
  by_cases h:fi (kindOf t)=246/\B y=true
  ·rw [if_pos h];simp only [aX,h,true_and]
   constructor
   ·rintro (((h|h)|h)|h|h)
    ·exact .inl h
    ·exact .inr (.inl (.inl h))
    ·exact .inr (.inr (.inl h))
    ·exact .inr (.inl (.inr h))
    exact .inr (.inr (.inr h))
   rintro (h|(h|h)|h|h)
   ·exact .inl (.inl (.inl h))
   ·exact .inl (.inl (.inr h))
   ·exact .inr (.inl h)
   ·exact .inl (.inr h)
   exact .inr (.inr h)
  rw [if_neg h];simp only [List.not_mem_nil,or_false]
  constructor
  ·rintro ((h|h)|h|h)
   ·exact .inl h
   ·exact .inr (.inr (.inl h))
   ·exact .inr (.inl (.inr h))
   exact .inr (.inr (.inr h))
  rintro (A|(A|A)|A|A)
  ·exact .inl (.inl A)
  ·exact absurd ⟨A.1,A.2.1⟩ h
  ·exact .inr (.inl A)
  ·exact .inl (.inr A)
  exact .inr (.inr A)
def Ae{R:Nat->Ex->Prop}(bad:Nat->Bool)(B:Ex->Bool)(C:∀n y,R n y->bad n=B y):∀(rs:List (ae×Nat×Ex)) (ns:List Nat) (c:Int) (S:Nat->Prop),cu R ns (rs.map fun r=>r.2.2)->(∀r∈rs,r.1=sg 38\/r.1=sg 45)->dN c S->
  dN (UH bad ns (rs.map fun r=>⟨bB r.1,r.2.1,false⟩) c) (fun q=>S q\/∃r∈rs,fi (kindOf r.1)=246/\B r.2.2=true/\q=r.2.1)
 | [],[],c,S,_,_,h=>h.congr (fun q=>ar)
 |r::rs,n::ns,c,S,k,hs,h=>by
  have I:bad n=B r.2.2:=C n _ k.1;have A:=Ae bad B C rs ns;simp only [bY,UH,ri,I]
  rcases hs r ar with e|e
  ·have e1:eqs r.1 (sg 45)=false:=by rw [e];decide
   rw [e1];simp only [eM,bJ,aZ];refine (A c S k.2 (fun r hr=>hs r q8) h).congr (fun q=> ?_);simp only [rj,e,R9,false_and,false_or]
  have e1:eqs r.1 (sg 45)=true:=by rw [e];decide
  rw [e1];simp only [Bool.true_and]
  cases D:B r.2.2
  ·simp only [bJ,aZ];refine (A c S k.2 (fun r hr=>hs r q8) h).congr (fun q=> ?_);simp only [rj,D,bJ,false_and,and_false,false_or]
  simp only [if_true];refine (A _ _ k.2 (fun r hr=>hs r q8) (h.step r.2.1)).congr (fun q=> ?_);simp only [rj,D,e,MM,true_and,or_assoc]
 | [],_::_,_,_,k,_,_=>k.elim
 |_::_,[],_,_,k,_,_=>k.elim
section
variable {pl:List PV}{rl:List RV}{ts:List Ty}{F:Nat}
def Sa{y q}(D:Tr pl (f+1) n y)(A:pl[n]? =some q):m9 pl (f+1) n=(q.ps.map (m9 pl (f+1))).sum+1:=by
 rw [m9,A];simp only;rw [oM (f:=m9 pl f) (g:=m9 pl (f+1)) (fun m C=>by obtain ⟨z,I⟩:=D.kids A m C;exact (Ch pl I ai).symm)]
def xm(pl:List PV)(F:Nat)(x:RV)(n:Nat)(y:Ex):Prop:=Tr pl F n y/\∀k∈aJ pl F n,k∈aJ pl F x.ex
def xm.kid{x y p}(h:xm pl (g+1) x n y)(I:pl[n]? =some p)(D:m∈p.ps){z}(C:Tr pl g m z):xm pl (g+1) x m z:=by
 refine ⟨Tr.up pl _ _ _ C,fun k A=>h.2 k ?_⟩;rw [kE pl C ai] at A;exact h.1.kid_leaves I m D k A
def E5{R S}:∀(ns:List Nat)(xs:List Ex),(∀n∈ns,∀x,R n x->S n x)->cu R ns xs->cu S ns xs
 | [],[],_,_=>trivial
 |n::ns,x::xs,h,k=>⟨h n ar x k.1,E5 ns xs (fun n hn=>h n (by simp [hn])) k.2⟩
 | [],_::_,_,k=>k.elim
 |_::_,[],_,k=>k.elim
def kT{g}(x bad B)(hB:∀n y,xm pl (g+1) x n y->bad n=B y):∀(f:Nat)(q:List Nat)(ys:List Ex)(c:Int)(S:Nat->Prop),cu (xm pl (g+1) x) q ys->(q.map (m9 pl (g+1))).sum<f->dN c S->
  dN (pp bad pl f q c) (fun p=>S p\/∃y∈ys,p∈ix B y)
 |0,_,_,_,_,_,h,_=>ai
 |f+1,[],[],c,S,_,_,h=>h.congr (fun q=>ar)
 |f+1,n::q,y::ys,c,S,k,hs,h=>by
  obtain ⟨k1,k2⟩:=k;obtain ⟨p,hp,hc⟩:=id k1.1;have hz:=Sa k1.1 hp;simp only [bY,List.sum_cons] at hs;rw [pp,hp];simp only
  rcases hc with ⟨h1,hn,rfl⟩|⟨h1,h0,hn,rfl⟩|⟨h1,h0,hn,rfl⟩|⟨h1,h0,n0,ns,x0,rs,h3,h4,h5,C,I,rfl⟩|⟨h1,h0,Q,n0,ns,x0,rs,h3,h4,h5,C,I,rfl⟩
  ·exact IF
  ·exact IF
  ·exact IF
  ·refine R8 ?_;intro kn k0;have R:=Ae bad B hB rs ns c S kn I.1 h;have D:cu (xm pl (g+1) x) (q++p.ps) (ys++(x0::rs.map fun r=>r.2.2)):=by
    exact R5
   have hl:=kT x bad B hB f _ _ _ _ D X7 R;rw [C];rw [h3] at hl ⊢;simp only [rT,nj];refine hl.congr (fun p=> ?_);simp only [sY,aW,or_and_right,exists_or,List.mem_cons,exists_eq_left,aU]
   constructor
   ·rintro ((h|h)|h|h|⟨z,⟨r,A,rfl⟩,hz⟩)
    ·exact .inl h
    ·exact .inr (.inl (.inr (.inl h)))
    ·exact .inr (.inr h)
    ·exact .inr (.inl (.inl h))
    exact .inr (.inl (.inr (.inr ⟨r,A,hz⟩)))
   rintro (h|(h|h|⟨r,A,hz⟩)|h)
   ·exact .inl (.inl h)
   ·exact .inr (.inr (.inl h))
   ·exact .inl (.inr h)
   ·exact .inr (.inr (.inr ⟨_,⟨r,A,rfl⟩,hz⟩))
   exact .inr (.inl h)
  refine R8 ?_;intro kn k0;have D:cu (xm pl (g+1) x) (q++p.ps) (ys++(x0::rs.map fun r=>r.2.2)):=by
   exact R5
  have hl:=kT x bad B hB f _ _ _ _ D X7 h;rw [Q];have e:∀l:List Nat,UH bad l (List.drop 1 []) c=c:=fun l=>by cases l<;>rfl
  rw [e];refine hl.congr (fun p=> ?_);have U:¬∃r∈rs,fi (kindOf r.1)=246/\B r.2.2=true/\p=r.2.1:=by
   rintro ⟨r,A,J,_⟩;rw [C r A] at J;exact V8 J
  simp only [sY,aW,or_and_right,exists_or,List.mem_cons,exists_eq_left,aU,U,false_or]
  constructor
  ·rintro (h|h|h|⟨z,⟨r,A,rfl⟩,hz⟩)
   ·exact .inl h
   ·exact .inr (.inr h)
   ·exact .inr (.inl (.inl h))
   exact .inr (.inl (.inr ⟨r,A,hz⟩))
  rintro (h|(h|⟨r,A,hz⟩)|h)
  ·exact .inl h
  ·exact .inr (.inr (.inl h))
  ·exact .inr (.inr (.inr ⟨_,⟨r,A,rfl⟩,hz⟩))
  exact .inr (.inl h)
 |f+1,[],_::_,_,_,k,_,_=>k.elim
 |f+1,_::_,[],_,_,k,_,_=>k.elim
end
def yN(h:ew ts):(bx ts).Pairwise fun p q=>¬(p.1=q.1/\p.2.name=q.2.name):=by
 unfold bx;rw [List.pairwise_flatMap];refine ⟨fun t C=> ?_,?_⟩
 ·rw [sP];exact (h.rl t C).imp (fun {a b} A e=>A e.2)
 refine h.ty.imp (fun {a b} A=> ?_);intro x D y I e;obtain ⟨r,_,rfl⟩:=aU.1 D;obtain ⟨q,_,rfl⟩:=aU.1 I;exact A e.1
section
variable {pl:List PV}{rl:List RV}{ts:List Ty}{F:Nat}
def Kn.num(h:Kn pl rl ts F){p:ae×Rl}(hi:(bx ts)[i]? =some p):bh p.1 p.2.name rl 0=i:=by
 obtain ⟨t,J,e1,Z⟩:=dz.1 (bF hi)
 rcases cR h.d h.b p.1 p.2.name with ⟨_,Y⟩|⟨j,ac,r,e,ab,U,V⟩
 ·have:=Y t (by rw [<-e1];exact dn h.d J);rw [qi (h.d.rl t J) Z] at this
  cases this
 have hn:=(cF U).2;have C:=yN h.d;rw [List.pairwise_iff_getElem] at C;obtain ⟨Q,D⟩:=bD.1 hi;obtain ⟨R,I⟩:=bD.1 V
 rcases Nat.lt_trichotomy i j with A|A|A
 ·exact absurd (by rw [D,I];exact ⟨rfl,hn.symm⟩) (C i j Q R A)
 ·rw [e,A]
 exact absurd (by rw [D,I];exact ⟨rfl,hn⟩) (C j i R Q A)
def Sb(ts:List Ty)(p:ae×Rl)(q:Nat):Prop:=∃t∈ts,t.name=p.1/\q∈ix (fun y=>ip ts (dw ts t p.2 y) (t.name,p.2.name)) p.2.body
def Kn.best(h:Kn pl rl ts F)(ab:lk rl pl (eJ rl pl (aJ pl F)) (aJ pl F)){x}(V:rl[i]? =some x){p:ae×Rl}(hi:(bx ts)[i]? =some p)(c S)(ac:dN c S):dN (pp (wQ rl pl (eJ rl pl (aJ pl F)) (aJ pl F) i x) pl (m9 pl F x.ex+1) [x.ex] c) (fun q=>S q\/Sb ts p q):=by
 obtain ⟨t,I,e1,ad⟩:=dz.1 (bF hi);obtain ⟨ah,Q,D,_,_,J⟩:=cS.get rl _ i p h.f hi;rw [V] at Q;simp only [aR] at Q;subst Q;have U:=h.num hi;rw [<-e1] at U
 cases F with
 |zero=>exact J.elim
 |succ g=>
  have Z:∀n y,xm pl (g+1) x n y->wQ rl pl (eJ rl pl (aJ pl (g+1))) (aJ pl (g+1)) i x n=ip ts (dw ts t p.2 y) (t.name,p.2.name):=fun n y hs=>
   h.bad ab V I ad U ⟨hs.1,J,hs.2,by rw [D,e1]⟩
  refine (kT x _ (fun y=>ip ts (dw ts t p.2 y) (t.name,p.2.name)) Z _ [x.ex] [p.2.body] c S ⟨⟨J,fun k D=>D⟩,trivial⟩ ar ac).congr (fun q=> ?_);simp only [aX,exists_eq_left];unfold Sb
  constructor
  ·rintro (A|A)
   ·exact .inl A
   exact .inr ⟨t,I,e1,A⟩
  rintro (A|⟨ag,af,Y,A⟩)
  ·exact .inl A
  have R:=dn h.d I;have C:=dn h.d af;rw [e1] at R;rw [Y,R] at C;simp only [aR] at C;subst C;exact .inr A
def Kn.loops(h:Kn pl rl ts F)(A:lk rl pl (eJ rl pl (aJ pl F)) (aJ pl F)):∀(xs:List RV) (ps:List (ae×Rl)) (i:Nat) (c:Int) (S:Nat->Prop),cS pl F xs ps->(∀k,xs[k]? =rl[i+k]?)->(∀k,ps[k]? =(bx ts)[i+k]?)->dN c S->
  dN (loopsR rl pl (eJ rl pl (aJ pl F)) (aJ pl F) (fun _=>m9 pl F) xs i c) (fun q=>S q\/∃p∈ps,Sb ts p q)
 | [],[],i,c,S,_,_,_,hc=>by
  rw [loopsR];exact hc.congr (fun q=>ar)
 |x::xs,p::ps,i,c,S,hf,hx,hp,hc=>by
  rw [loopsR];have h1:=h.best A (i:=i) (x:=x) (by have:=hx 0;simpa using this.symm) (p:=p) (by have:=hp 0;simpa using this.symm) c S hc;refine (Kn.loops h A xs ps (i+1) _ _ hf.2 (fun k=> ?_) (fun k=> ?_) h1).congr (fun q=> ?_)
  ·have:=hx (k+1);simp only [List.getElem?_cons_succ] at this;rw [this];congr 1;omega
  ·have:=hp (k+1);simp only [List.getElem?_cons_succ] at this;rw [this];congr 1;omega
  rw [rj,or_assoc]
 | [],_::_,_,_,_,k,_,_,_=>k.elim
 |_::_,[],_,_,_,k,_,_,_=>k.elim
def MO:q∈xk ts↔∃t∈ts,∃r∈t.rels,q∈ix (fun y=>ip ts (dw ts t r y) (t.name,r.name)) r.body:=by
 unfold xk;simp only [bZ]
def Kn.loopsR(h:Kn pl rl ts F)(Q:lk rl pl (eJ rl pl (aJ pl F)) (aJ pl F))(hs:(sX ts).Pairwise (· < ·)):loopsR rl pl (eJ rl pl (aJ pl F)) (aJ pl F) (fun _=>m9 pl F) rl 0 (-1)=li (fe (jH ts) ts):=by
 have h1:=h.loops Q rl (bx ts) 0 (-1) (fun _=>False) h.f (fun k=>ar) (fun k=>ar) (.inl ⟨rfl,fun q A=>A⟩);refine h1.unique ((E4 hs).congr (fun q=> ?_));rw [MO,false_or]
 constructor
 ·rintro ⟨t,C,r,I,A⟩;exact ⟨(t.name,r),dz.2 ⟨t,C,rfl,I⟩,t,C,rfl,A⟩
 rintro ⟨p,R,t,C,e,A⟩;obtain ⟨V,U,e',I⟩:=dz.1 R;have J:=dn h.d C;have D:=dn h.d U;rw [e] at J;rw [e',J] at D;simp only [aR] at D;subst D;exact ⟨t,C,p.2,I,A⟩
end
def V9(hs:s.size<=500)(kl rl pl ts m)(h:dJ (TT s) (PP s)=.ok (ts,m))(C:Gd s m)(D:uv pl kl rl ts):Ri kl rl pl ts:=by
 obtain ⟨F,hF⟩:=db.fuel rl _ D.2;have A:=sized h C hs;have Y:=sT h;obtain ⟨rfl,U⟩:=id D;refine ⟨eJ rl pl (aJ pl F),aJ pl F,fun x n=>QF pl F x n/\Ry pl F n,fun _=>m9 pl F,Ce hF A,Ru hF A,Ib D (yK h C),fun ae=> ?_⟩;have V:=(lO ts [] ae).2;have hn:=tW V U hF Y;refine ⟨hn,fun ac=> ?_⟩;rw [ac] at hn;have R:=V1 hF A _ hn;refine ⟨R,fun x Q=>V2 hF A _ hn x Q,?_⟩;have Z:Kn pl rl ts F:=⟨V,U,hF,Y,fun t J r I=>(kF h t J r I).1,fun t J r I=>(((iU (TT s) (PP s) ts m h).1 t J).1 r I).wf,A,fun x Q n ab p ad=>re _ _ _ hn x Q n ab p ad⟩;exact Z.loopsR R (Cs h C)
def jp(s w)(hs:s.size<=500):Calls prog 80 #[an s] w (Rj s w):=ME s w hs (fun kl rl pl ts m h A C=>V9 hs kl rl pl ts m h A C)
