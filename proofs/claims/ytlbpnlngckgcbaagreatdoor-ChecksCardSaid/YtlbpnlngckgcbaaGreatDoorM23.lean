import Derived.Test.YtlbpnlngckgcbaaGreatDoorM13
import Derived.Test.YtlbpnlngckgcbaaGreatDoorM14
import Derived.Test.YtlbpnlngckgcbaaGreatDoorM11
set_option linter.all false
set_option maxHeartbeats 4000000
set_option maxRecDepth 100000
namespace Go.Proofs.YtlbpnlngckgcbaaGreatDoor
open Go.RowKit Go.PlainAid Go.Proofs.Tryz
variable {pl:List PV} {rl:List RV} {ts:List Ty} {t:Ty} {aF cD:Prop} {α:Type} {q lo hi k:Nat}
def bh(ts:List Ty):List (ae×Rl):=ts.flatMap fun t=>t.rels.map fun r=>(t.name,r)
def cO(pl:List PV):List RV->List (ae×Rl)->Prop
 | [],[]=>True
 |x::xs,p::ps=>G6 pl p.1 x p.2/\cO pl xs ps
 |_,_=>False
theorem cO.more{pl}(t):∀(xs:List RV) (ps:List (ae×Rl)),cO pl xs ps->cO (pl++t) xs ps
 | [],[],_=>trivial
 |x::xs,r::rs,h=>⟨h.1.more t,cO.more t xs rs h.2⟩
 | [],_::_,h=>h.elim
 |_::_,[],h=>h.elim
theorem cO.app{pl c cs}(k:cO pl c cs):∀(xs:List RV) (ps:List (ae×Rl)),cO pl xs ps->cO pl (xs++c) (ps++cs)
 | [],[],_=>k
 |x::xs,r::rs,h=>⟨h.1,cO.app k xs rs h.2⟩
 | [],_::_,h=>h.elim
 |_::_,[],h=>h.elim
theorem cO.of{pl:List PV}{tn:ae}:∀(xs:List RV)(rs:List Rl),jk pl tn xs rs->cO pl xs (rs.map fun r=>(tn,r))
 | [],[],_=>trivial
 |x::xs,r::rs,h=>⟨h.1,cO.of xs rs h.2⟩
 | [],_::_,h=>h.elim
 |_::_,[],h=>h.elim
def tL(pl:List PV)(kl:List (ae×Nat))(rl:List RV)(ts:List Ty):Prop:=kl=ts.map (fun t=>(t.name,t.place))/\cO pl rl (bh ts)
theorem tL.snoc{kl}(h:tL pl kl rl ts){tt rn}(k:jk (pl++tt) t.name rn t.rels):tL (pl++tt) (kl++[(t.name,t.place)]) (rl++rn) (ts++[t]):=by
 refine ⟨by rw [h.1];simp,?_⟩;have e:bh (ts++[t])=bh ts++t.rels.map fun r=>(t.name,r):=by simp [bh]
 rw [e];exact cO.app (cO.of _ _ k) _ _ (cO.more tt _ _ h.2)
def TE(s:ae)(h:eC (List Ty))(k j e aa:Nat)(kl:List (ae×Nat))(rl:List RV)(pl:List PV):Prop:=
 (e=0/\pl.length<=j/\rl.length<=j/\512<=k+j/\kl.length<=5/\∃ts,tL pl kl rl ts/\db (TT s) (PP s) k ts j=h)\/
 (e≠0/\∃A,aa=PP s A/\h=.error (e,A))
def MPost(base b:Nat)(s:ae)(tv:ag)(w:af)(h:eC (List Ty))(e:Ending)(w':af):Prop:=
 e=.returned (.tuple #[])/\Below base w w'/\∃kv rv pv kl rl pl l j e' a',RM base w' b s tv j 0 e' a' kv rv pv kl rl pl l/\(match h with
  | .ok (ts,m)=>e'=0/\m=j/\kl.length<=5/\rl.length<=500/\pl.length<=500/\tL pl kl rl ts
  | .error (c,jj)=>c≠0/\e'=c/\a'=PP s jj)
theorem C5(base b s tv kv rv pv l w)(a6:RM base w b s tv 0 0 0 0 kv rv pv [] [] [] l)(J:base<=b)(aN:base<=w.heap.size):
  Calls prog 127 #[.pointer (some ⟨b,0,none⟩)] w (MPost base b s tv w (ej (TT s) (PP s))):=by
 generalize a7:ej (TT s) (PP s)=az;have a2:=ai (show TE s az 512 0 0 0 [] [] [] from .inl ⟨rfl,an,an,aj,an,[],⟨rfl,trivial⟩,a7⟩);have a1:=ai a6;have aZ:=ai (aw base w);clear a6 a7;go_enter func127,ntmps127;go_wp2_with fail
 go_loopg [2] 512 (fun k bX wr=>∃(j e aa:Nat) (kv rv pv:ag) (kl:List (ae×Nat)) (rl:List RV) (pl:List PV) (l:List PX),RM base wr b s tv j 0 e aa kv rv pv kl rl pl l/\Below base w wr/\Hid (TE s az k j e aa kl rl pl))
 case atStart=>exact ⟨0,0,0,kv,rv,pv,[],[],[],l,a1.u,aZ.u,a2⟩
 case round=>
  clear a1 aZ a2;obtain ⟨j,e,aa,kv,rv,pv,kl,rl,pl,l,D,aA,aJ⟩:=hrel;have aO:base<=wr.heap.size:=aL aN aA.size;have aK:=ai D;have aI:=ai aA
  rcases ak aJ with ⟨rfl,bR,bT,bP,bE,ts,aX,aC⟩|⟨bC,bh,bB,aC⟩
  ·have bQ:=D.rs.gd.le;have bU:=D.rs.sz;obtain ⟨O,rfl⟩:∃f,gk=f+1:=⟨gk-1,aj⟩;obtain ⟨ac,ad,af,r3,ah,al,am,ap⟩:=D.rs.blk.eight;have R:=ai aC;have Q:=ai aX
   cases ab:eqs (TT s j) em
   ·have C:=ai (b3 b s tv j 0 aa kv rv pv em wr D.rs false ab);obtain ⟨bV,bW,rfl⟩:=ay D.kt;clear D aA aJ aX aC;go_wp2_with fail;refine C.u.mono ?_;rintro e' aY ⟨rfl,U⟩;have Y:=ai (aK.u.below U J aO);have au:=ai (aI.u.trans (U.mono aO));have a8:base<=aY.heap.size:=aL aN au.u.size;have a0:=ai (kN b s tv j 0 0 aa _ rv pv jf aY Y.u.rs ar);obtain ⟨bk,bl,bn,bo,bp,bq,br,bs⟩:=Y.u.rs.blk.eight;clear U C aK aI ac ad af r3 ah al am ap;go_wp2_with fail;refine a0.u.mono ?_;rintro e' aR ⟨rfl,aW,aQ,e1,a3,aE,bv⟩;have I:=ai (Y.u.but aW J a8 bv);have V:=ai (au.u.trans (aW.below J a8));have a9:base<=aR.heap.size:=aL aN V.u.size;obtain ⟨ac,ad,af,r3,ah,al,am,ap⟩:=I.u.rs.blk.eight;clear aW bv a0 Y au bk bl bn bo bp bq br bs;simp only [EN,if_true] at aE
    cases aG:eqs (TT s j) jf
    ·simp only [aG,bz,aP,Prod.mk.injEq] at aE;obtain ⟨rfl,rfl,rfl⟩:=aE;have ax:=ai (show TE s az O aQ 2 (PP s aQ) kl rl pl from .inr ⟨aj,aQ,rfl,by
      rw [<-R.u,db,ab];simp [aG,jN]⟩)
     clear R Q;go_wp2
     go_roundg O
     case measure=>omega
     case rel=>exact ⟨aQ,2,_,_,rv,pv,kl,rl,pl,l,I.u,V.u,ax⟩
    simp only [aG,if_true,Prod.mk.injEq] at aE;obtain ⟨rfl,rfl,rfl⟩:=aE
    by_cases bN:kl.length=5
    ·have bF:((kl.length:Int)==5)=true:=by rw [dL];omega
     have bb:=I.u.rs.gd;have be:Gd s j:=fun q bS=>bb q aj
     have zq:=I.u.rs.blk.fz;have aU:=ai (I.u.but ((But.refl b aR).setCell 1 (.int .i64 (j:Int))) J a9 (I.u.rs.setI j be));have aS:=ai (V.u.setCell (p:=⟨b,1,none⟩) J (.int .i64 (j:Int)));have ba:base<=(aR.setCell ⟨b,1,none⟩ (.int .i64 (j:Int))).heap.size:=aL aN aS.u.size;have av:=ai (lu b s tv j 0 a3 _ rv pv 3 _ aU.u.rs);have ax:=ai (show TE s az O j 3 (PP s j) kl rl pl from .inr ⟨aj,j,rfl,by
      have hl:ts.length=5:=by have:=congrArg List.length Q.u.1;rw [List.length_map] at this;omega
      rw [<-R.u,db,ab];simp [aG,hl]⟩)
     clear R Q bb be;go_wp2_with fail;refine av.u.mono ?_;rintro e' bM ⟨rfl,Z,bw⟩;have aH:=ai (aU.u.but Z J ba bw);have aT:=ai (aS.u.trans (Z.below J ba));obtain ⟨bk,bl,bn,bo,bp,bq,br,bs⟩:=aH.u.rs.blk.eight;clear Z bw av aU aS I V ac ad af r3 ah al am ap zq;go_wp2
     go_roundg O
     case measure=>omega
     case rel=>exact ⟨j,3,_,_,rv,pv,kl,rl,pl,l,aH.u,aT.u,ax⟩
    have bF:((kl.length:Int)==5)=false:=by rw [bG];omega
    have av:=ai (K8 base b s tv (j+1) a3 _ rv pv kl rl pl l aR I.u J a9 aj aj aj);go_wp2_with fail;refine av.u.mono ?_;rintro e' bM ⟨rfl,Z,bI,bL,bK,bi,bt,bj,bJ,bg,a5,a4,bu,aD⟩;have aH:=ai bu;have aT:=ai (V.u.trans Z);have ax:=ai (show TE s az O bg a5 a4 bi bt bj from by
     have hl:ts.length≠5:=by have:=congrArg List.length Q.u.1;rw [List.length_map] at this;omega
     have bH:db (TT s) (PP s) (O+1) ts j=(match l7 (TT s) (PP s) (j+1) with
      | .error e=> .error e
      | .ok (t,j)=>db (TT s) (PP s) O (ts++[t]) j):=by
      rw [db,ab,jN,aG];simp only [bz,aP,Bool.true_and,bG.2 hl,if_true]
      cases l7 (TT s) (PP s) (j+1)<;>rfl
     have aB:=R.u;rw [bH] at aB
     cases bf:l7 (TT s) (PP s) (j+1) with
     |error er=>
      obtain ⟨c,bh⟩:=er;rw [bf] at aD aB;obtain ⟨hc,rfl,rfl⟩:=aD;exact .inr ⟨hc,bh,rfl,aB.symm⟩
     |ok y=>
      obtain ⟨t,m⟩:=y;rw [bf] at aD aB;obtain ⟨rfl,rfl,rfl,h1,h2,bx,rfl,rn,tt,rfl,rfl,bA⟩:=aD;exact .inl ⟨rfl,h2,bx,aj,aM,ts++[t],Q.u.snoc bA,aB⟩)
    clear Z bu aD av I V R Q ac ad af r3 ah al am ap;go_wp2
    go_roundg O
    case measure=>omega
    case rel=>exact ⟨bg,a5,a4,bI,bL,bK,bi,bt,bj,bJ,aH.u,aT.u,ax⟩
   have C:=ai (b3 b s tv j 0 aa kv rv pv em wr D.rs true ab);clear D aA aJ aX aC;go_wp2_with fail;refine C.u.mono ?_;rintro e' aY ⟨rfl,U⟩;have Y:=ai (aK.u.below U J aO);have au:=ai (aI.u.trans (U.mono aO));clear U C ac ad af r3 ah al am ap;go_wp2;refine bc (results_none rfl _ _ _) rfl ⟨rfl,au.u,_,rv,pv,_,rl,pl,l,j,0,aa,Y.u,?_⟩;rw [<-R.u,db,ab];exact ⟨rfl,rfl,bE,aj,aj,Q.u⟩
  have bD:¬((e:Int)=0):=aj;have bO:((e:Int)==0)=false:=bG.2 bD;obtain ⟨ac,ad,af,r3,ah,al,am,ap⟩:=D.rs.blk.eight;clear D aA aJ;go_wp2;go_end0;refine ⟨rfl,aI.u,kv,rv,pv,_,rl,pl,l,j,e,aa,aK.u,?_⟩;rw [aC];exact ⟨bC,rfl,bB⟩
abbrev oH:=@List.pairwise_cons
def Ld (A:aF:=by
 constructor
 ·rintro ((A|A)|A)
  ·exact .inl A
  ·exact .inr (.inl ⟨⟨y,hy,hl'⟩,A⟩)
  exact .inr (.inr A)
 rintro (A|⟨_,A⟩|A)
 ·exact .inl (.inl A)
 ·exact .inl (.inr A)
 exact .inr A):aF:=A
def Le (A:aF:=by
 rcases hq with hq|hq
 ·exact Lf _ _ (fT.mem hq)
 exact Dc _ _ (fT.mem hq)):aF:=A
def dj(c:Int)(S:Nat->Prop):Prop:=(c= -1/\∀q,¬S q)\/∃p:Nat,c=p/\S p/\∀q,S q->p<=q
theorem dj.unique{c d S}(h:dj c S)(k:dj d S):c=d:=by
 rcases h with ⟨rfl,h⟩|⟨p,rfl,C,h⟩
 ·rcases k with ⟨rfl,_⟩|⟨q,rfl,A,_⟩
  ·rfl
  exact absurd A (h q)
 rcases k with ⟨rfl,k⟩|⟨q,rfl,A,k⟩
 ·exact absurd C (k p)
 have:=h q A;have:=k p C;omega
theorem dj.congr{c S T}(A:dj c S)(e:∀q,S q↔T q):dj c T:=by
 rcases A with ⟨h1,h2⟩|⟨p,h1,h2,C⟩
 ·exact .inl ⟨h1,fun q h=>h2 q ((e q).2 h)⟩
 exact .inr ⟨p,h1,(e p).1 h2,fun q h=>C q ((e q).2 h)⟩
theorem dj.step{c S}(D:dj c S)(p):dj (ed c p) (fun q=>S q\/q=p):=by
 unfold ed
 rcases D with ⟨rfl,D⟩|⟨q,rfl,I,D⟩
 ·rw [if_pos (.inl aj)];exact .inr ⟨p,rfl,.inr rfl,fun q I=>by
   rcases I with I|rfl
   ·exact absurd I (D q)
   exact cm _⟩
 split
 ·rename_i J;refine .inr ⟨p,rfl,.inr rfl,fun r C=> ?_⟩
  rcases C with C|rfl
  ·have:=D r C;omega
  exact cm _
 rename_i J;refine .inr ⟨q,rfl,.inl I,fun r C=> ?_⟩
 rcases C with C|rfl
 ·exact D r C
 omega
theorem tM(c p):ed (ed c p) p=ed c p:=by
 unfold ed
 by_cases h:c<0\/(p:Int)<c
 ·rw [if_pos h]
  split<;>rfl
 rw [if_neg h,if_neg h]
theorem Ag(x:ae×Nat):∀(acc:List (ae×Nat)) (c:Int),re x acc c=if (acc.any fun y=>eqs y.1 x.1) then ed c x.2 else c
 | [],c=>rfl
 |y::ys,c=>by
  rw [re,Ag x ys]
  cases h:eqs y.1 x.1<;>cases h2:(ys.any fun y=>eqs y.1 x.1)<;>simp [h,h2,tM]
theorem Ah(x):∀(acc:List RV)(c:Int),rf x acc c=if (acc.any fun y=>eqs y.kd x.kd&&eqs y.nm x.nm) then ed c x.pl else c
 | [],c=>rfl
 |y::ys,c=>by
  rw [rf,Ah x ys]
  cases h:(eqs y.kd x.kd&&eqs y.nm x.nm)<;>cases h2:(ys.any fun y=>eqs y.kd x.kd&&eqs y.nm x.nm)<;>simp [h,h2,tM]
def fT{α:Type}(like:α->α->Prop)(pl:α->Nat)(acc l:List α)(q:Nat):Prop:=∃A x B,l=A++x::B/\(∃y∈acc++A,like y x)/\q=pl x
theorem fT.cons{like:α->α->Prop}{pl:α->Nat}{acc l:List α}{x:α}:fT like pl acc (x::l) q↔((∃y∈acc,like y x)/\q=pl x)\/fT like pl (acc++[x]) l q:=by
 constructor
 ·rintro ⟨A,z,B,e,hl,h⟩
  cases A with
  |nil=>
   simp only [List.nil_append,ke] at e;obtain ⟨rfl,rfl⟩:=e;exact .inl ⟨by simpa using hl,h⟩
  |cons a A=>
   simp only [List.cons_append,ke] at e;obtain ⟨rfl,rfl⟩:=e;exact .inr ⟨A,z,B,rfl,by simpa using hl,h⟩
 rintro (⟨C,h⟩|⟨A,z,B,rfl,hl,h⟩)
 ·exact ⟨[],x,l,rfl,by simpa using C,h⟩
 exact ⟨x::A,z,B,rfl,by simpa using hl,h⟩
theorem fT.nil{like:α->α->Prop}{pl:α->Nat}{acc:List α}:¬fT like pl acc [] q:=by
 rintro ⟨A,x,B,e,_⟩
 cases A<;>simp at e
def nS(y x:ae×Nat):Prop:=y.1=x.1
def Ai(y x:RV):Prop:=y.kd=x.kd/\y.nm=x.nm
theorem lI:∀(l acc:List (ae×Nat)) (c:Int) (S:Nat->Prop),dj c S->dj (mP acc l c) (fun q=>S q\/fT nS Prod.snd acc l q)
 | [],acc,c,S,C=>C.congr (fun q=>⟨.inl,fun C=>C.elim id (fun C=>absurd C fT.nil)⟩)
 |x::l,acc,c,S,C=>by
  rw [mP,Ag]
  cases D:(acc.any fun y=>eqs y.1 x.1)
  ·simp only [bz,aP];refine (lI l (acc++[x]) c S C).congr (fun q=> ?_);rw [fT.cons]
   constructor
   ·rintro (C|C)
    ·exact .inl C
    exact .inr (.inr C)
   rintro (C|⟨⟨y,hy,hl⟩,_⟩|C)
   ·exact .inl C
   ·rw [iW] at D;exact absurd ((bn _ _).2 hl) (D y hy)
   exact .inr C
  simp only [if_true];refine (lI l (acc++[x]) _ _ (C.step x.2)).congr (fun q=> ?_);rw [fT.cons];rw [ei] at D;obtain ⟨y,hy,hl⟩:=D;have hl':nS y x:=(bn _ _).1 hl;exact Ld
theorem lJ:∀(l acc:List RV)(c:Int)(S:Nat->Prop),dj c S->dj (oG acc l c) (fun q=>S q\/fT Ai RV.pl acc l q)
 | [],acc,c,S,C=>C.congr (fun q=>⟨.inl,fun C=>C.elim id (fun C=>absurd C fT.nil)⟩)
 |x::l,acc,c,S,C=>by
  rw [oG,Ah];have I:∀y:RV,(eqs y.kd x.kd&&eqs y.nm x.nm)=true↔Ai y x:=fun y=>by rw [bO,bn,bn];rfl
  cases D:(acc.any fun y=>eqs y.kd x.kd&&eqs y.nm x.nm)
  ·simp only [bz,aP];refine (lJ l (acc++[x]) c S C).congr (fun q=> ?_);rw [fT.cons]
   constructor
   ·rintro (C|C)
    ·exact .inl C
    exact .inr (.inr C)
   rintro (C|⟨⟨y,hy,hl⟩,_⟩|C)
   ·exact .inl C
   ·rw [iW] at D;exact absurd ((I y).2 hl) (D y hy)
   exact .inr C
  simp only [if_true];refine (lJ l (acc++[x]) _ _ (C.step x.pl)).congr (fun q=> ?_);rw [fT.cons];rw [ei] at D;obtain ⟨y,hy,hl⟩:=D;have hl':Ai y x:=(I y).1 hl;exact Ld
theorem xU(kl rl):dj (tK kl rl) (fun q=>fT nS Prod.snd [] kl q\/fT Ai RV.pl [] rl q):=by
 have C:=lJ rl [] _ _ (lI kl [] (-1) (fun _=>False) (.inl ⟨rfl,fun _ C=>C⟩));exact C.congr (fun q=>an)
theorem fT.mem{like:α->α->Prop}{pl:α->Nat}{acc l:List α}(h:fT like pl acc l q):q∈l.map pl:=by
 obtain ⟨A,x,B,rfl,_,rfl⟩:=h;simp
theorem fT.append{α:Type}{like:α->α->Prop}{pl:α->Nat}{C:Nat}:∀(l1 acc h:List α),fT like pl acc (l1++h) C↔fT like pl acc l1 C\/fT like pl (acc++l1) h C
 | [],acc,h=>by
  rw [List.nil_append,gl];exact ⟨.inr,fun A=>A.elim (fun A=>absurd A fT.nil) id⟩
 |x::l1,acc,h=>by
  rw [List.cons_append,fT.cons,fT.cons,fT.append l1 (acc++[x]) h,eI,List.singleton_append,or_assoc]
theorem wh:∀(l acc:List (ae×Nat)),(l.map Prod.snd).Pairwise (· < ·)->dj (kq (Nq (acc.map Prod.fst) l)) (fun q=>fT nS Prod.snd acc l q)
 | [],acc,_=> .inl ⟨rfl,fun q C=>absurd C fT.nil⟩
 |(n,p)::l,acc,ho=>by
  rw [Nq];simp only [cj,oH] at ho;rw [oB]
  cases h:(acc.any ((fun m=>eqs m n) ∘ Prod.fst))
  ·simp only [bz,aP];have I:=wh l (acc++[(n,p)]) ho.2;rw [de] at I;refine I.congr (fun q=> ?_);rw [fT.cons]
   constructor
   ·exact .inr
   rintro (⟨⟨y,D,hl⟩,_⟩|C)
   ·rw [iW] at h;exact absurd ((bn _ _).2 hl) (h y D)
   exact C
  simp only [if_true];rw [ei] at h;obtain ⟨y,D,hl⟩:=h;refine .inr ⟨p,rfl,?_,fun q J=> ?_⟩
  ·show fT nS Prod.snd acc ((n,p)::l) p
   rw [fT.cons];exact .inl ⟨⟨y,D,(bn _ _).1 hl⟩,rfl⟩
  have A:=fT.mem J;rw [cj,bA] at A
  rcases A with rfl|A
  ·exact cm _
  exact Nat.le_of_lt (ho.1 q A)
def tN(y x:Ty):Prop:=y.name=x.name
def po(y x:ae×Rl):Prop:=y.1=x.1/\y.2.name=x.2.name
def Nr(p:ae×Rl):Nat:=p.2.place
def gG(ts:List Ty):List Nat:=ts.flatMap fun t=>t.place::t.rels.map fun r=>r.place
theorem Lg(ts)(p:ae×Rl)(h:p∈bh ts):∃t∈ts,t.name=p.1:=by
 unfold bh at h;obtain ⟨t,A,h⟩:=cb.1 h;obtain ⟨r,_,rfl⟩:=aY.1 h;exact ⟨t,A,rfl⟩
theorem Dc(ts q)(A:q∈(bh ts).map Nr):q∈gG ts:=by
 obtain ⟨p,h,rfl⟩:=aY.1 A;unfold bh at h;obtain ⟨t,D,h⟩:=cb.1 h;obtain ⟨r,C,rfl⟩:=aY.1 h;exact cb.2 ⟨t,D,by simp [Nr];exact .inr ⟨r,C,rfl⟩⟩
theorem Lf(ts q)(C:q∈ts.map Ty.place):q∈gG ts:=by
 obtain ⟨t,D,rfl⟩:=aY.1 C;exact cb.2 ⟨t,D,an⟩
theorem Aj(A:List Ty)(t:Ty)(O:¬∃y∈A,y.name=t.name)(J:Nat):∀(l acc:List Rl),fT po Nr (bh A++acc.map fun r=>(t.name,r)) (l.map fun r=>(t.name,r)) J↔fT nS Prod.snd (acc.map fun r=>(r.name,r.place)) (l.map fun r=>(r.name,r.place)) J
 | [],acc=>⟨fun C=>absurd C fT.nil,fun C=>absurd C fT.nil⟩
 |r::l,acc=>by
  have Q:=Aj A t O J l (acc++[r]);rw [de,de,cj,p8,cj,p8,<-eI] at Q;rw [cj,cj,fT.cons,fT.cons,Q];have key:(∃y∈bh A++acc.map (fun r=>(t.name,r)),po y (t.name,r))↔∃y∈acc.map (fun r=>(r.name,r.place)),nS y (r.name,r.place):=by
   constructor
   ·rintro ⟨y,h,h1,h2⟩
    rcases aT.1 h with h|h
    ·obtain ⟨U,R,e⟩:=Lg A y h;exact absurd ⟨U,R,e.trans h1⟩ O
    obtain ⟨D,I,rfl⟩:=aY.1 h;exact ⟨_,aY.2 ⟨D,I,rfl⟩,h2⟩
   rintro ⟨y,h,C⟩;obtain ⟨D,I,rfl⟩:=aY.1 h;exact ⟨(t.name,D),aT.2 (.inr (aY.2 ⟨D,I,rfl⟩)),rfl,C⟩
  rw [key]
  rfl
theorem wi:∀(bs D:List Ty),(gG bs).Pairwise (· < ·)->dj (kq (zx (D.map Ty.name) bs)) (fun q=>fT tN Ty.place D bs q\/fT po Nr (bh D) (bh bs) q)
 | [],D,_=> .inl ⟨rfl,fun q C=>C.elim (fun C=>fT.nil C) (fun C=>fT.nil C)⟩
 |t::bs,D,ho=>by
  have eF:bh (t::bs)=(t.rels.map fun r=>(t.name,r))++bh bs:=by simp [bh]
  have V:gG (t::bs)=(t.place::t.rels.map fun r=>r.place)++gG bs:=by simp [gG]
  have ag:bh (D++[t])=bh D++t.rels.map fun r=>(t.name,r):=by simp [bh]
  rw [V,List.pairwise_append] at ho;obtain ⟨U,am,Z⟩:=ho;rw [oH] at U;have ai:∀q,(fT tN Ty.place D (t::bs) q\/fT po Nr (bh D) (bh (t::bs)) q)->t.place<=q:=fun q hq=>by
   have I:q∈gG (t::bs):=by
    exact Le
   rw [V,aT,bA] at I
   rcases I with (rfl|I)|I
   ·exact cm _
   ·exact Nat.le_of_lt (U.1 q I)
   exact Nat.le_of_lt (Z t.place an q I)
  rw [zx,oB]
  cases O:(D.any ((fun m=>eqs m t.name) ∘ Ty.name))
  ·have hn:¬∃y∈D,y.name=t.name:=fun ⟨y,J,e⟩=>by
    rw [iW] at O;exact O y J ((bn _ _).2 e)
   simp only [bz,aP];have Q:=wh (t.rels.map fun r=>(r.name,r.place)) [] (by rw [mD];exact U.2);have R:∀q,(fT tN Ty.place D (t::bs) q\/fT po Nr (bh D) (bh (t::bs)) q)↔fT nS Prod.snd [] (t.rels.map fun r=>(r.name,r.place)) q\/(fT tN Ty.place (D++[t]) bs q\/fT po Nr (bh (D++[t])) (bh bs) q):=fun q=>by
    rw [fT.cons,eF,fT.append,ag];have Y:=Aj D t hn q t.rels [];simp only [p8,gl] at Y;rw [Y]
    constructor
    ·rintro ((⟨⟨y,J,e⟩,_⟩|C)|C|C)
     ·exact absurd ⟨y,J,e⟩ hn
     ·exact .inr (.inl C)
     ·exact .inl C
     exact .inr (.inr C)
    rintro (C|C|C)
    ·exact .inr (.inl C)
    ·exact .inl (.inr C)
    exact .inr (.inr C)
   have ak:∀q,(fT tN Ty.place (D++[t]) bs q\/fT po Nr (bh (D++[t])) (bh bs) q)->q∈gG bs:=fun q hq=>by
    exact Le
   unfold Tq
   cases ac:Nq [] (t.rels.map fun r=>(r.name,r.place)) with
   |some p=>
    rw [show ([]:List (ae×Nat)).map Prod.fst=[] from rfl,ac] at Q;simp only
    rcases Q with ⟨h1,_⟩|⟨af,h1,h2,ah⟩
    ·simp only [kq] at h1;omega
    simp only [kq] at h1;obtain rfl:p=af:=aj;refine .inr ⟨p,rfl,(R p).2 (.inl h2),fun q hq=> ?_⟩
    rcases (R q).1 hq with hq|hq
    ·exact ah q hq
    have ab:=fT.mem h2;rw [mD] at ab;exact Nat.le_of_lt (Z p (by simp only [bA];exact .inr ab) q (ak q hq))
   |none=>
    rw [show ([]:List (ae×Nat)).map Prod.fst=[] from rfl,ac] at Q;simp only;have al:∀q,¬fT nS Prod.snd [] (t.rels.map fun r=>(r.name,r.place)) q:=by
     rcases Q with ⟨_,C⟩|⟨af,h1,_⟩
     ·exact C
     simp only [kq] at h1;omega
    have ad:=wi bs (D++[t]) am;rw [de] at ad;refine ad.congr (fun q=> ?_);rw [R q];exact ⟨.inr,fun C=>C.elim (fun C=>absurd C (al q)) id⟩
  simp only [if_true];rw [ei] at O;obtain ⟨y,J,hl⟩:=O;exact .inr ⟨t.place,rfl,.inl (fT.cons.2 (.inl ⟨⟨y,J,(bn _ _).1 hl⟩,rfl⟩)),ai⟩
theorem fT.map{α β:Type}{like:α->α->Prop}{wj:β->β->Prop}{pl:α->Nat}{j6:β->Nat}(f:α->β)(h1:∀y x,like y x↔wj (f y) (f x))(h2:∀x,pl x=j6 (f x))(q):∀(l acc:List α),fT like pl acc l q↔fT wj j6 (acc.map f) (l.map f) q
 | [],acc=>⟨fun h=>absurd h fT.nil,fun h=>absurd h fT.nil⟩
 |x::l,acc=>by
  have C:=fT.map f h1 h2 q l (acc++[x]);rw [de] at C;rw [cj,fT.cons,fT.cons,C,h2 x];have key:(∃y∈acc,like y x)↔∃y∈acc.map f,wj y (f x):=by
   constructor
   ·rintro ⟨y,A,h⟩;exact ⟨f y,aY.2 ⟨y,A,rfl⟩,(h1 y x).1 h⟩
   rintro ⟨y,A,h⟩;obtain ⟨z,D,rfl⟩:=aY.1 A;exact ⟨z,D,(h1 z x).2 h⟩
  rw [key]
  rfl
def tri(x:RV):ae×ae×Nat:=(x.kd,x.nm,x.pl)
def RE(p:ae×Rl):ae×ae×Nat:=(p.1,p.2.name,p.2.place)
theorem cO.tri{pl:List PV}:∀(rl:List RV) (ps:List (ae×Rl)),cO pl rl ps->rl.map tri=ps.map RE
 | [],[],_=>rfl
 |x::xs,p::ps,h=>by
  obtain ⟨⟨h1,h2,A,_⟩,C⟩:=h;rw [cj,cj,cO.tri xs ps C];unfold Go.Proofs.YtlbpnlngckgcbaaGreatDoor.tri RE;rw [h1,h2,A]
 | [],_::_,h=>h.elim
 |_::_,[],h=>h.elim
theorem Dd{kl}(C:tL pl kl rl ts)(ho:(gG ts).Pairwise (· < ·)):tK kl rl=kq (zx [] ts):=by
 refine (xU kl rl).unique ((wi ts [] ho).congr (fun q=> ?_));have e1:=fT.map (like:=tN) (wj:=nS) (pl:=Ty.place) (j6:=Prod.snd) (fun t:Ty=>(t.name,t.place)) (fun y x=>Iff.rfl) (fun x=>rfl) q ts [];have h:=fT.map (like:=Ai) (wj:=fun (y x:ae×ae×Nat)=>y.1=x.1/\y.2.1=x.2.1) (pl:=RV.pl) (j6:=fun x=>x.2.2) tri (fun y x=>Iff.rfl) (fun x=>rfl) q rl [];have A:=fT.map (like:=po) (wj:=fun (y x:ae×ae×Nat)=>y.1=x.1/\y.2.1=x.2.1) (pl:=Nr) (j6:=fun x=>x.2.2) RE (fun y x=>Iff.rfl) (fun x=>rfl) q (bh ts) [];rw [cO.tri rl _ C.2] at h;rw [C.1];simp only [p8] at e1 h A
 show fT tN Ty.place [] ts q\/fT po Nr (bh []) (bh ts) q↔_
 rw [show bh []=[] from rfl,e1,A,h]
abbrev dr:=@Except.ok.injEq
def xV (h:aF:=by
 simp only [dr,Prod.mk.injEq] at h;obtain ⟨rfl,rfl⟩:=h;exact ⟨[],an,aj,iL.nil _ _ _⟩):aF:=h
def Lh (h:aF:=by
 split at h
 ·simp at h
 exact Li):aF:=h
def Li (h:aF:=by
 simp only [dr,Prod.mk.injEq] at h;rw [<-h.1];exact iL.nil _ _ _):aF:=h
def iL(P:Nat->Nat)(lo hi:Nat)(l:List Nat):Prop:=∃ks:List Nat,l=ks.map P/\ks.Pairwise (· < ·)/\∀k∈ks,lo<=k/\k<hi
theorem iL.nil(P lo hi):iL P lo hi []:=⟨[],rfl,by simp,by simp⟩
theorem iL.one(P)(h1:lo<=k)(h2:k<hi):iL P lo hi [P k]:=⟨[k],rfl,by simp,by simp;omega⟩
theorem iL.app{P mid l1 l2}(D:iL P lo mid l1)(k:iL P mid hi l2)(h1:lo<=mid)(h2:mid<=hi):iL P lo hi (l1++l2):=by
 obtain ⟨a,rfl,C,A⟩:=D;obtain ⟨c,rfl,c1,c2⟩:=k;refine ⟨a++c,by rw [de],?_,?_⟩
 ·rw [List.pairwise_append];exact ⟨C,c1,fun x h y I=>by have:=(A x h).2;have:=(c2 y I).1;omega⟩
 intro x h
 rcases aT.1 h with h|h
 ·have:=A x h;omega
 have:=c2 x h;omega
theorem iL.wide{P lo' hi' l}(C:iL P lo hi l)(h1:lo'<=lo)(h2:hi<=hi'):iL P lo' hi' l:=by
 obtain ⟨a,rfl,h,A⟩:=C;exact ⟨a,rfl,h,fun x D=>by have:=A x D;omega⟩
theorem iL.sorted{P l}(C:iL P lo hi l)(D:∀i j,i<j->j<hi->P i<P j):l.Pairwise (· < ·):=by
 obtain ⟨a,rfl,h,A⟩:=C;rw [List.pairwise_map];refine List.Pairwise.imp_of_mem (fun {x y} O J I=>D x y I (A y J).2) h
section
variable (T:Nat->ae)(P:Nat->Nat)
theorem tO(i:Nat)(r:Rl)(j:Nat)(h:kH T P i=.ok (r,j)):r.place=P i/\i<j:=by
 refine ⟨?_,kI T P _ _ _ h⟩;unfold kH at h
 split at h
 ·simp at h
 split at h
 ·simp at h
 split at h
 ·simp only [dr,Prod.mk.injEq] at h;rw [<-h.1]
 simp at h
theorem wk:∀(f:Nat)(acc:List Rl)(i:Nat)(rs:List Rl)(m:Nat),dg T P f acc i=.ok (rs,m)->∃new,rs=acc++new/\i<m/\iL P i m (new.map fun r=>r.place)
 |0,acc,i,rs,m,h=>by simp [dg] at h
 |f+1,acc,i,rs,m,h=>by
  unfold dg at h
  split at h
  ·exact xV
  split at h
  ·simp at h
  split at h
  ·simp at h
  rename_i r j D;obtain ⟨h1,h2⟩:=tO T P i r j D;obtain ⟨new,rfl,I,C⟩:=wk f _ _ _ _ h;refine ⟨r::new,an,aj,?_⟩;have:=(iL.one P (lo:=i) (hi:=j) (cm i) h2).app C aj aj;rw [cj,h1];exact this
theorem oI:∀(f:Nat)(acc:List Ty)(i:Nat)(ts:List Ty)(m:Nat),db T P f acc i=.ok (ts,m)->∃new,ts=acc++new/\i<=m/\iL P i m (gG new)
 |0,acc,i,ts,m,h=>by simp [db] at h
 |f+1,acc,i,ts,m,h=>by
  unfold db at h
  split at h
  ·exact xV
  split at h
  ·simp at h
  split at h
  ·simp at h
  rename_i t j C;obtain ⟨new,rfl,U,J⟩:=oI f _ _ _ _ h;rw [jN] at C
  split at C
  ·unfold l7 at C
   split at C
   ·simp at C
   rename_i u R hn;have Y:=fx T _ _ _ _ hn
   split at C
   ·simp at C
   rename_i rs Z Q;simp only [dr,Prod.mk.injEq] at C;obtain ⟨rfl,rfl⟩:=C;obtain ⟨rn,e,V,O⟩:=wk T P _ _ _ _ _ Q;rw [List.nil_append] at e;subst e;refine ⟨⟨T (i+1),P (i+1),rs⟩::new,an,aj,?_⟩;have D:=iL.one P (lo:=i) (hi:=R) (k:=i+1) aj aj;have I:=(D.app O aj aj).app J aj aj
   simpa [gG] using I
  simp at C
def kr:Ex->List Nat
 |⟨n,some x,some y⟩=>kr x++n.place::kr y
 |⟨_,none,_⟩=>[]
 |⟨_,some _,none⟩=>[]
def G8(r:Nat->eC Ex):Prop:=∀i x j,r i=.ok (x,j)->iL P i j (kr x)
theorem wl(l:List ae)(part:Nat->eC Ex)(C:jn part)(D:G8 P part):∀f y i0 i x j,joinL T P l part f y i=.ok (x,j)->i0<=i->iL P i0 i (kr y)->iL P i0 j (kr x)
 |0,y,i0,i,x,j,h,_,_=>by simp [joinL] at h
 |f+1,y,i0,i,x,j,h,h0,ha=>by
  unfold joinL at h
  split at h
  ·split at h
   ·simp at h
   rename_i z Q I;have h1:=C _ _ _ I;refine wl l part C D f _ i0 Q x j h aj ?_;simp only [fV,kr];have J:=ha.app (iL.one P (lo:=i) (hi:=i+1) (cm i) aj) h0 aj;have O:=J.app (D _ _ _ I) aj aj
   simpa using O
  simp only [dr,Prod.mk.injEq] at h;obtain ⟨rfl,rfl⟩:=h;exact ha
theorem ny(l:List ae)(part:Nat->eC Ex)(D:jn part)(I:G8 P part):G8 P (eG T P l part):=by
 intro i x j C;unfold eG at C
 split at C
 ·simp at C
 rename_i y O J;have h1:=D _ _ _ J;exact wl T P l part D I _ _ i O x j C aj (I _ _ _ J)
theorem wm(O:Bool)(C:Nat->eC Ex)(I:jn C)(J:G8 P C):G8 P (eQ T P O C):=by
 intro i x j h;unfold eQ at h
 split at h
 ·unfold kG at h;exact Lh
 split at h
 ·split at h
  ·split at h
   ·simp at h
   rename_i y Q D;have h1:=I _ _ _ D
   split at h
   ·simp only [dr,Prod.mk.injEq] at h;obtain ⟨rfl,rfl⟩:=h;exact (J _ _ _ D).wide aj aj
   simp at h
  simp at h
 unfold iX at h
 split at h
 ·simp at h
 split at h
 ·exact Lh
 exact Li
theorem wn:∀n,G8 P (fb T P n)
 |0=>ny T P _ _ (gR T P false _ (fun i x j h=>by simp at h)) (ny T P _ _ (jw T P false _ (fun i x j h=>by simp at h)) (wm T P false _ (fun i x j h=>by simp at h) (fun i x j h=>by simp at h)))
 |n+1=>ny T P _ _ (gR T P true _ (gH T P n)) (ny T P _ _ (jw T P true _ (gH T P n)) (wm T P true _ (gH T P n) (wn n)))
end
