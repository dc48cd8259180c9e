import Derived.Test.YtlbpnlngckgcbaaGreatDoorM11
import Derived.Test.YtlbpnlngckgcbaaGreatDoorM16
import Derived.Test.YtlbpnlngckgcbaaGreatDoorM17
set_option linter.all false
set_option maxHeartbeats 4000000
set_option maxRecDepth 100000
namespace Go.Proofs.YtlbpnlngckgcbaaGreatDoor
open Go.RowKit Go.PlainAid Go.Proofs.Tryz
variable {aF cD:Prop} {s:ae}
abbrev Kh:Obj:=.cells #[.string ⟨#[]⟩,.string ⟨#[]⟩,.string ⟨#[]⟩,.string ⟨#[]⟩,.string ⟨#[]⟩,.string ⟨#[]⟩] 123
def Qe (C:aF:=by
 go_region
 all_goals (
  go_wp2;refine bc (v:=.tuple #[.agg #[.string kind,.string id,.string rel,.string sub,.string who,.string yI],.bool _]) (bC results60 _ _ w.heap.size _ 123 _ _ rfl rfl ?_ underlying123 rfl au) rfl ?_
  ·exact ⟨_,(b4 R6),aS⟩
  ·exact ⟨rfl,(bB B6)⟩)):aF:=C
def mI(s:ae):Array ag×Bool:=
 if 53<s.size then (#[.string ⟨#[]⟩,.string ⟨#[]⟩,.string ⟨#[]⟩,.string ⟨#[]⟩,.string ⟨#[]⟩,.string ⟨#[]⟩],false) else
 (#[.string (aC (aC (aC s 64).1 35).1 58).1,.string (aC (aC (aC s 64).1 35).1 58).2.1,.string (aC (aC s 64).1 35).2.1,.string (aC (aC (aC s 64).2.1 35).1 58).1,.string (aC (aC (aC s 64).2.1 35).1 58).2.1,.string (aC (aC s 64).2.1 35).2.1],
  bQ (aC (aC s 64).1 35).1&&jH (aC (aC s 64).2.1 35).1 (aC (aC s 64).2.1 35).2.1 (aC (aC s 64).2.1 35).2.2&&bp (aC (aC s 64).1 35).2.1)
theorem CJ(s w)(hs:53<s.size):
  Calls prog 60 #[.string s] w fun e w'=>e=.returned (.tuple #[.agg (mI s).1,.bool (mI s).2])/\Below w.heap.size w w':=by
 unfold mI;rw [if_pos hs];have I:(53:Int)<(s.size:Int):=aj;have D:=ai (aB.new w #[.string ⟨#[]⟩,.string ⟨#[]⟩,.string ⟨#[]⟩,.string ⟨#[]⟩,.string ⟨#[]⟩,.string ⟨#[]⟩] 123);have C:=ai (aw w.heap.size w);clear hs;go_enter func60,ntmps60;go_wp2;refine bc (v:=.tuple #[.agg #[.string ⟨#[]⟩,.string ⟨#[]⟩,.string ⟨#[]⟩,.string ⟨#[]⟩,.string ⟨#[]⟩,.string ⟨#[]⟩],.bool false]) (bC results60 _ _ w.heap.size _ 123 _ _ rfl rfl ?hB underlying123 rfl au) rfl ?post
 case hB=>exact ⟨_,(b4 D),aS⟩
 case post=>exact ⟨rfl,(bB C)⟩
theorem zF(R:Cw)(s:ae)(w:af)(hs:s.size<=53)(D:kO w)(I:1<w.heap.size):
  Calls prog 60 #[.string s] w fun e w'=>e=.returned (.tuple #[.agg (mI s).1,.bool (mI s).2])/\Below w.heap.size w w':=by
 unfold mI;rw [if_neg aj];have a7:¬((53:Int)<(s.size:Int)):=aj;have aO:Below w.heap.size w (w.alloc Kh):=(aw _ w).alloc az _;have ah:=ai aO;have aJ:=ai (aB.new w #[.string ⟨#[]⟩,.string ⟨#[]⟩,.string ⟨#[]⟩,.string ⟨#[]⟩,.string ⟨#[]⟩,.string ⟨#[]⟩] 123);have ac:=ai D;have aD:=ai (np s (w.alloc Kh) aj);have aP:=eb s 64;have am:=ai (fun w D=>R s 64 w aj D);generalize aC s 64=aT at*;obtain ⟨l,r,ok⟩:=aT;simp only at aP am ⊢;have aQ:=eb l 35;have an:=ai (fun w D=>R l 35 w aj D);generalize aC l 35=aU at*;obtain ⟨what,rel,a6⟩:=aU;simp only at aQ an ⊢;have Z:=ai (fun w D I=>et R what w aj D I);have ab:=ai (fun w D I=>rJ R r w aj D I);have aR:=ai (fun w=>gB rel w ey);generalize bQ what=th at*;generalize aC what 58=aW at*;obtain ⟨kind,id,two⟩:=aW;generalize aC r 35=aX at*;obtain ⟨x,yI,aZ⟩:=aX;simp only at Z ab ⊢;generalize jH x yI aZ=a3 at*;generalize aC x 58=aY at*;obtain ⟨sub,who,bq⟩:=aY;simp only at Z ab ⊢;generalize bp rel=fr at*;clear aP aQ aO D hs R;go_enter func60,ntmps60;go_wp2_with fail;refine aD.u.mono ?_;rintro e w1 ⟨rfl,ax⟩;have V:=ai (ah.u.trans (ax.mono ah.u.size));have aK:=ai (aJ.u.below ax);have aE:=ai (ak am w1 (ac.u.below V.u I));clear ax aD am ah aJ;go_wp2_with fail;refine aE.u.mono ?_;rintro e a4 ⟨rfl,ay⟩;have Y:=ai (V.u.trans (ay.mono V.u.size));have aL:=ai (aK.u.below ay);have aG:=ai (ak an a4 (ac.u.below Y.u I));clear ay aE an V aK;go_wp2_with fail;refine aG.u.mono ?_;rintro e a5 ⟨rfl,aA⟩;have O:=ai (Y.u.trans (aA.mono Y.u.size));have R3:=ai (aL.u.below aA);have aH:=ai (ak Z a5 (ac.u.below O.u I) (by have:=O.u.size;omega));clear aA aG Z Y aL;go_wp2_with fail;refine aH.u.mono ?_;rintro e J ⟨rfl,U⟩;have Q:=ai ((O.u.trans (U.mono O.u.size)).alloc (O.u.trans (U.mono O.u.size)).size (df kind id));have aM:=ai ((R3.u.below U).alloc (df kind id));have aN:=ai (aB.new J #[.string kind,.string id] 98);have aI:=ai (ak ab (J.alloc (df kind id)) (ac.u.below Q.u I) (by have:=Q.u.size;omega));have be:=(R3.u.below U).lt;clear U aH ab O R3;go_wp2_with fail;refine aI.u.mono ?_;rintro e w5 ⟨rfl,ag⟩;have al:=ai (Q.u.trans (ag.mono Q.u.size));have ap:=ai (aM.u.below ag);have ar:=ai (aN.u.below ag);clear ag aI Q aM aN;go_wp2_with fail;have ad:=ai (aB.new w5 #[.string sub,.string who,.string yI] 102);have av:=ai (ar.u.alloc (b8 sub who yI));have R6:=ai (ap.u.alloc (b8 sub who yI));have B6:=ai (al.u.alloc al.u.size (b8 sub who yI));have a9:=ap.u.lt;have a8:=ar.u.lt;generalize (w5.alloc (b8 sub who yI))=W at*;have n1:¬(w.heap.size=J.heap.size):=aj;have n2:¬(J.heap.size=w.heap.size):=aj;have ba:¬(w.heap.size=w5.heap.size):=aj;have bb:¬(w5.heap.size=w.heap.size):=aj;have bk:=R6.u.fz;have bf:W.cell? ⟨w.heap.size,0,none⟩=some (.string ⟨#[]⟩):=R6.u.cell rfl;have bg:W.cell? ⟨w.heap.size,1,none⟩=some (.string ⟨#[]⟩):=R6.u.cell rfl;have bh:W.cell? ⟨w.heap.size,2,none⟩=some (.string ⟨#[]⟩):=R6.u.cell rfl;have r3:W.cell? ⟨w.heap.size,3,none⟩=some (.string ⟨#[]⟩):=R6.u.cell rfl;have bi:W.cell? ⟨w.heap.size,4,none⟩=some (.string ⟨#[]⟩):=R6.u.cell rfl;have bj:W.cell? ⟨w.heap.size,5,none⟩=some (.string ⟨#[]⟩):=R6.u.cell rfl;have t0:W.cell? ⟨J.heap.size,0,none⟩=some (.string kind):=av.u.cell rfl;have t1:W.cell? ⟨J.heap.size,1,none⟩=some (.string id):=av.u.cell rfl;have bl:W.cell? ⟨w5.heap.size,0,none⟩=some (.string sub):=ad.u.cell rfl;have bn:W.cell? ⟨w5.heap.size,1,none⟩=some (.string who):=ad.u.cell rfl;have bo:W.cell? ⟨w5.heap.size,2,none⟩=some (.string yI):=ad.u.cell rfl;clear al ap ar av ad
 cases th
 ·exact Qe
 ·cases a3
  ·exact Qe
  go_region_held3 (fun w'=>w'.cell? ⟨J.heap.size,0,none⟩=some (.string kind)/\w'.cell? ⟨J.heap.size,1,none⟩=some (.string id)/\w'.cell? ⟨w5.heap.size,0,none⟩=some (.string sub)/\w'.cell? ⟨w5.heap.size,1,none⟩=some (.string who)/\w'.cell? ⟨w5.heap.size,2,none⟩=some (.string yI)) (go_keep)
   ((go_at_call 93;refine (aR.u _).mono ?_;rintro e br ⟨rfl,rfl⟩))
  go_wp2;refine bc (v:=.tuple #[.agg #[.string kind,.string id,.string rel,.string sub,.string who,.string yI],.bool _]) (bC results60 _ _ w.heap.size _ 123 _ _ rfl rfl ?_ underlying123 rfl au) rfl ?_
  ·exact ⟨_,(b4 R6),aS⟩
  exact ⟨rfl,(bB B6)⟩
abbrev oE:=@Bool.or_eq_true
abbrev mK:=@Bool.not_false
abbrev qp:=@Bool.and_assoc
abbrev lE:=@Bool.not_true
theorem Ou:bp (mk [])=false:=by decide
theorem c8(h:bp s=true):0<s.size/\s.size<=8:=by
 unfold bp at h;simp only [bO,mA] at h;exact h.1
theorem fI{c}(h:(aC s c).2.2=false):(aC s c).1=s/\(aC s c).2.1=mk []:=by
 obtain ⟨h1,h2⟩:=jG c (bW s) h;unfold aC;simp only [h1,h2,gh,List.drop_nil,and_self]
theorem iu{c}(h:bp (aC s c).2.1=true):(aC s c).2.2=true:=by
 cases A:(aC s c).2.2
 ·rw [(fI A).2,Ou] at h
  cases h
 rfl
theorem iK{c}(h:(aC s c).2.2=true):bW s=bW (aC s c).1++c::bW (aC s c).2.1:=by
 have hc:(bW s).contains c=true:=h;have key:∀l:List UInt8,l.contains c=true->l=l.takeWhile (· != c)++c::(l.dropWhile (· != c)).drop 1:=by
  intro l
  induction l with
  |nil=>intro h;simp at h
  |cons b l ih=>
   intro h
   by_cases e:b=c
   ·subst e;simp
   have h2:(b != c)=true:=by simpa using e
   rw [ig,List.dropWhile_cons,if_pos h2,if_pos h2,List.cons_append,<-ih (by
    rw [List.contains_cons,oE] at h
    rcases h with h|h
    ·exact absurd (dL.1 h).symm e
    exact h)]
 exact key _ hc
theorem fK(s):(cJ s).2.2=bQ s:=by
 unfold cJ bQ;simp only
 cases h:bp (aC s 58).2.1
 ·simp
 rw [iu h];simp
theorem Rh(x yI al):((mB x al).2.2&&(!al||bp yI))=jH x yI al:=by
 unfold mB jH;rw [fK];have hs:eqs (aC x 58).2.1 jg=eqs (aC x 58).2.1 dh:=rfl
 cases al
 ·cases I:bQ x
  ·simp only [mK,Bool.and_self,if_true,Bool.true_or,pU,bz,aP,sT,hs]
   cases D:eqs (aC x 58).2.1 dh
   ·simp
   have C:(aC x 58).2.2=true:=by
    cases C:(aC x 58).2.2
    ·rw [(fI C).2] at D;exact absurd D ar
    rfl
   rw [C];simp
  simp [fK,I]
 simp [fK]
theorem Kj:jH (mk []) (mk []) false=false:=by decide
theorem Kk(c):aC (mk []) c=(mk [],mk [],false):=rfl
def di(s:ae):Bool:=bQ (aC (aC s 64).1 35).1&&jH (aC (aC s 64).2.1 35).1 (aC (aC s 64).2.1 35).2.1 (aC (aC s 64).2.1 35).2.2&&bp (aC (aC s 64).1 35).2.1
theorem Kl(s):(bU s).2=di s:=by
 unfold bU di;simp only;rw [fK];have e:=Rh (aC (aC s 64).2.1 35).1 (aC (aC s 64).2.1 35).2.1 (aC (aC s 64).2.1 35).2.2;rw [qp,e]
 cases h1:(aC s 64).2.2
 ·rw [(fI h1).2,Kk];simp [Kj]
 cases h2:bp (aC (aC s 64).1 35).2.1
 ·simp
 rw [iu h2]
 cases bQ (aC (aC s 64).1 35).1<;>simp
theorem gT{c}(h:(aC s c).2.2=true):s.size=(aC s c).1.size+1+(aC s c).2.1.size:=by
 have:=congrArg List.length (iK h);rw [bo,lj,bf,bf,bf] at this;omega
theorem EV{b}(h:eqs b dh=true):b=dh:=by
 unfold eqs at h;rw [dL] at h;rw [<-gh b,h]
 rfl
theorem nt(I:di s=true):s.size<=53/\(mI s)=(#[.string (bU s).1.kind,.string (bU s).1.id,.string (bU s).1.rel,.string (bU s).1.sub,.string (bU s).1.who,.string (bU s).1.of],true)/\
  bW s=bW (bU s).1.kind++58::bW (bU s).1.id++35::bW (bU s).1.rel++64::(bW (bU s).1.sub++58::bW (bU s).1.who++(if (bU s).1.of.size=0 then [] else 35::bW (bU s).1.of)):=by
 have h0:=I;unfold di at I;simp only [bO] at I;obtain ⟨⟨h1,h2⟩,O⟩:=I;have f1:(aC s 64).2.2=true:=by
  cases f:(aC s 64).2.2
  ·rw [(fI f).2,Kk] at h2;exact absurd h2 (by rw [Kj];simp)
  rfl
 have f2:=iu O;have ag:=h1;unfold bQ at h1;simp only [bO] at h1;have f3:=iu h1.2;have ap:=c8 h1.1;have au:=c8 h1.2;have av:=c8 O;have ai:=gT f1;have ak:=gT f2;have al:=gT f3;have l1:=iK f1;have V:=iK f2;have Y:=iK f3;have tk:(bU s).1.kind=(aC (aC (aC s 64).1 35).1 58).1:=rfl;have Z:(bU s).1.id=(aC (aC (aC s 64).1 35).1 58).2.1:=rfl;have tr:(bU s).1.rel=(aC (aC s 64).1 35).2.1:=rfl;have ts:(bU s).1.sub=(mB (aC (aC s 64).2.1 35).1 (aC (aC s 64).2.1 35).2.2).1:=rfl;have ab:(bU s).1.who=(mB (aC (aC s 64).2.1 35).1 (aC (aC s 64).2.1 35).2.2).2.1:=rfl;have to:(bU s).1.of=(aC (aC s 64).2.1 35).2.1:=rfl;have R:s.size<=53->mI s=(#[.string (aC (aC (aC s 64).1 35).1 58).1,.string (aC (aC (aC s 64).1 35).1 58).2.1,.string (aC (aC s 64).1 35).2.1,.string (aC (aC (aC s 64).2.1 35).1 58).1,.string (aC (aC (aC s 64).2.1 35).1 58).2.1,.string (aC (aC s 64).2.1 35).2.1],true):=fun aw=>by
  unfold mI;rw [if_neg aj];unfold di at h0;rw [h0]
 rw [tk,Z,tr,ts,ab,to];have hs:(aC s 64).2.1.size<=26/\(mB (aC (aC s 64).2.1 35).1 (aC (aC s 64).2.1 35).2.2).1=(aC (aC (aC s 64).2.1 35).1 58).1/\(mB (aC (aC s 64).2.1 35).1 (aC (aC s 64).2.1 35).2.2).2.1=(aC (aC (aC s 64).2.1 35).1 58).2.1/\
   bW (aC s 64).2.1=bW (aC (aC (aC s 64).2.1 35).1 58).1++58::bW (aC (aC (aC s 64).2.1 35).1 58).2.1++(if (aC (aC s 64).2.1 35).2.1.size=0 then [] else 35::bW (aC (aC s 64).2.1 35).2.1):=by
  generalize (aC s 64).2.1=r at*;clear l1 V Y tk Z tr ts ab to R ai ak al ap au av f1 f2 f3 h0 h1 ag O;unfold jH at h2;unfold mB;rw [fK]
  cases D:(aC r 35).2.2
  ·rw [D] at h2;simp only [bz,aP,oE,bO] at h2;obtain ⟨ac,an⟩:=fI D;rw [ac] at h2;rw [ac,an];simp only [mK,pU]
   rcases h2 with h2|⟨h2,C⟩
   ·have J:=h2;unfold bQ at h2;simp only [bO] at h2;have f:=iu h2.2;have ad:=c8 h2.1;have ae:=c8 h2.2;have af:=gT f;rw [J];refine ⟨aj,rfl,rfl,?_⟩;rw [if_pos aS,gl];exact iK f
   have f:(aC r 58).2.2=true:=by
    cases f:(aC r 58).2.2
    ·rw [(fI f).2] at h2;exact absurd h2 ar
    rfl
   have ad:=c8 C;have af:=gT f;have Q:=EV h2;have ae:(aC r 58).2.1.size=1:=by rw [Q];rfl
   have J:bQ r=false:=by unfold bQ;rw [Q];simp [show bp dh=false by decide]
   rw [J];refine ⟨aj,rfl,Q.symm,?_⟩;rw [if_pos aS,gl];exact iK f
  ·rw [D] at h2;simp only [if_true,bO] at h2;have J:=h2.1;obtain ⟨C,ah⟩:=h2;unfold bQ at C;simp only [bO] at C;have f:=iu C.2;have ad:=c8 C.1;have ae:=c8 C.2;have af:=gT f;have ax:=gT D;have ay:=c8 ah;simp only [lE,nZ,bz,aP];refine ⟨aj,rfl,rfl,?_⟩;rw [if_neg aj,<-iK f];exact iK D
 obtain ⟨k1,U,k3,am⟩:=hs;refine ⟨aj,by rw [R aj,U,k3],?_⟩;rw [U,k3,<-am,<-Y,<-V];exact l1
theorem Km(A:53<s.size):di s=false:=by
 cases h:di s
 ·rfl
 have:=(nt h).1;omega
theorem EW(s):(mI s).2=di s:=by
 by_cases h:53<s.size
 ·rw [Km h];unfold mI;rw [if_pos h]
 unfold mI di;rw [if_neg h]
abbrev hX(a0:ae)(a1:ae)(a2:ae)(a3:ae)(a4:ae)(a5:ae)(a6:ae):Obj:=.cells #[.string a0,.string a1,.string a2,.string a3,.string a4,.string a5,.string a6] 264
def Fe (A:aF:=by
 rw [Nt.u,Ff,fE];exact Nu):aF:=A
def yd (C:aF:=by
 go_wp2;go_roundw
 case rel=>exact ⟨k+1,aj,by go_num,cN Qv.u _,Uc⟩
 case measure=>simp [intOf];omega):aF:=C
def iN(T:Tu)(g:Gr):Bool:=eqs g.ty T.sub&&eqs (b9 g) (if eqs T.who jg then jg else T.of)
theorem Hk(b bm:Nat)(s T w kv rv pv tv kl rl pl l ss)(Q:DU w b (.pointer (some ⟨bm,5,none⟩)) tv ss)(au:DM w bm kv rv pv kl rl pl l)(r:Nat)(D)(aY:aU T.kind T.rel rl 0=(r:Int))(aW:T9 rl pl r D)(bo:D.length<=1000000):
  Calls prog 133 #[.pointer (some ⟨b,0,none⟩),.agg #[.string T.kind,.string T.id,.string T.rel,.string T.sub,.string T.who,.string T.of,.string s]] w fun e w'=>e=.returned (.bool (D.any (iN T)))/\Below w.heap.size w w':=by
 have af:=ai (fun w' (k:Below w.heap.size w w')=>dI bm kv rv pv kl rl pl l T.kind T.rel w' (au.below k));rw [aY] at af;have aK:=ai (fun w' (k:Below w.heap.size w w')=>aW bm kv rv pv kl l w' (au.below k));have H:=ai Q;obtain ⟨aQ,ap⟩:∃aQ,aQ=D.any (iN T):=⟨_,rfl⟩;rw [<-ap];have ah:=ai ap;have aT:=(aw w.heap.size w).alloc az (hX T.kind T.id T.rel T.sub T.who T.of s);have Z:=ai aT;have ae:=ai (aB.new w #[.string T.kind,.string T.id,.string T.rel,.string T.sub,.string T.who,.string T.of,.string s] 264);have bl:=Q.blk.lt;have bp:¬(w.heap.size=b):=aj;have bq:¬(b=w.heap.size):=aj;obtain ⟨Y,ac⟩:=hS Q.blk;clear ap aT Q au aW aY;go_enter func133,ntmps133;go_wp2_with fail;have bj:=Z.u.size;have an:=ai (H.u.below Z.u).blk;generalize (w.alloc (hX T.kind T.id T.rel T.sub T.who T.of s))=W at*;clear Y ac;obtain ⟨Y,ac⟩:=hS an.u;have a9:W.cell? ⟨w.heap.size,0,none⟩=some (.string T.kind):=ae.u.cell rfl;have ba:W.cell? ⟨w.heap.size,2,none⟩=some (.string T.rel):=ae.u.cell rfl;have aL:=ai (ak af W.drew Z.u.drew);clear af
 go_region_held3 (fun w'=>w'.cell? ⟨b,0,none⟩=some (.pointer (some ⟨bm,5,none⟩))/\w'.cell? ⟨w.heap.size,0,none⟩=some (.string T.kind)/\w'.cell? ⟨w.heap.size,2,none⟩=some (.string T.rel)) (go_keep)
  ((go_at_call 132;refine aL.u.mono ?_;rintro e w1 ⟨rfl,aX⟩;have V:=ai (show Below W.heap.size W w1 from (aw _ W).drew.trans aX);have d0:=am Y V.u;have d1:=am a9 V.u;have d2:=am ba V.u;clear aX))
 have ad:=ai (Z.u.trans (V.u.mono bj));have aR:=ai (ae.u.below V.u);have aS:=ai (an.u.below V.u);clear d0 d1 d2 Y ac a9 ba aL V ae an Z;obtain ⟨Y,ac⟩:=hS aS.u;have l1:=ad.u.size;have aM:=ai (aK.u w1 ad.u);clear aK;go_wp2_with fail;refine aM.u.mono ?_;rintro e a8 ⟨sv,rfl,ar,aC⟩;obtain ⟨ga,gc,rfl⟩:=ay aC;have aH:=ai (ad.u.trans (ar.mono l1));have al:=ai (aR.u.below ar);have bb:=ai aC;have bk:=aH.u.size;clear ar aC aM aR aS ad Y ac;go_wp2_with fail
 go_loopw [7] (fun u wr=>∃k:Nat,k<=D.length/\u=.int .i64 k/\Below a8.heap.size a8 wr/\Hid (∀j,(Q:j<D.length)->j<k->iN T D[j]=false)) (fun u _=>D.length-(intOf u).toNat)
 case atStart=>exact ⟨0,aj,rfl,aw _ _,ai (fun j Q be=>aj)⟩
 case round=>
  obtain ⟨k,bn,rfl,I,aN⟩:=hrel;have ag:=ai (aH.u.trans (I.mono bk));have Qv:=ai I;have br:wr.cell? ⟨w.heap.size,3,none⟩=some (.string T.sub):=(al.u.below I).cell rfl;have bs:wr.cell? ⟨w.heap.size,4,none⟩=some (.string T.who):=(al.u.below I).cell rfl;have bt:wr.cell? ⟨w.heap.size,5,none⟩=some (.string T.of):=(al.u.below I).cell rfl
  by_cases aZ:k<D.length
  ·have bg:(k:Int)<(D.length:Int):=by omega
   obtain ⟨g,c,e1,hc⟩:=bi bK 4 (fun _=>rfl) (aE bb.u I) k D[k] (aG aZ);simp only [aI,cz] at e1;obtain ⟨rfl,rfl⟩:=e1;have U:=ai (fun (av:iN T D[k]=true)=>(show D.any (iN T)=true from ei.2 ⟨D[k],bu aZ,av⟩));have O:=ai (fun (av:iN T D[k]=false)=>(show ∀j,(Q:j<D.length)->j<k+1->iN T D[j]=false from fun j Q be=>by
    by_cases e:j=k
    ·subst e;exact av
    exact ak aN j Q aj))
   generalize D[k]=y at*;have R:iN T y=(eqs y.ty T.sub&&eqs (b9 y) (if eqs T.who jg then jg else T.of)):=rfl;have aD:eqs T.who jg=(T.who.toList== [42]):=by unfold eqs jg;rw [aO];rfl
   rw [aD] at R
   cases a7:(T.who.toList== [42])
   ·rw [a7] at R;simp only [bz,aP] at R;have Nt:=ai R;clear aD R;have g0:wr.cell? ⟨g,k*4,none⟩=some (.string y.ty):=hc 0 _ aj rfl;have bc:wr.cell? ⟨g,k*4+1,none⟩=some (.string (b9 y)):=hc 1 _ aj rfl;generalize b9 y=yr at*;have J:eqs yr T.of=(yr.toList==T.of.toList):=aJ _ _
    cases Ff:eqs y.ty T.sub
    ·have ax:(y.ty.toList==T.sub.toList)=false:=by rw [<-aJ];exact Ff
     have Uc:=ai (O.u (by rw [Nt.u,Ff,dR]));clear I hc Ff O U J Nt;go_wp2
     go_quiet (fail)
     exact yd
    have ax:(y.ty.toList==T.sub.toList)=true:=by rw [<-aJ];exact Ff
    cases Nu:eqs yr T.of
    ·have aA:(yr.toList==T.of.toList)=false:=by rw [<-J];exact Nu
     have Uc:=ai (O.u Fe);clear I hc Ff Nu O U J Nt;go_wp2
     go_quiet (fail)
     exact yd
    have aA:(yr.toList==T.of.toList)=true:=by rw [<-J];exact Nu
    have ab:=ai (U.u Fe);clear I hc Ff Nu O U J Nt;go_wp2
    go_quiet (fail)
    go_wp2;go_ret;exact ⟨by rw [ah.u,ab.u];rfl,cN ag.u _⟩
   rw [a7] at R;simp only [if_true] at R;have Nt:=ai R;clear aD R;have g0:wr.cell? ⟨g,k*4,none⟩=some (.string y.ty):=hc 0 _ aj rfl;have bc:wr.cell? ⟨g,k*4+1,none⟩=some (.string (b9 y)):=hc 1 _ aj rfl;generalize b9 y=yr at*;have J:eqs yr jg=(yr.toList== [42]):=by unfold eqs jg;rw [aO];rfl
   cases Ff:eqs y.ty T.sub
   ·have ax:(y.ty.toList==T.sub.toList)=false:=by rw [<-aJ];exact Ff
    have Uc:=ai (O.u (by rw [Nt.u,Ff,dR]));clear I hc Ff O U J Nt;go_wp2
    go_quiet (fail)
    exact yd
   have ax:(y.ty.toList==T.sub.toList)=true:=by rw [<-aJ];exact Ff
   cases Nu:eqs yr jg
   ·have aA:(yr.toList== [42])=false:=by rw [<-J];exact Nu
    have Uc:=ai (O.u Fe);clear I hc Ff Nu O U J Nt;go_wp2
    go_quiet (fail)
    exact yd
   have aA:(yr.toList== [42])=true:=by rw [<-J];exact Nu
   have ab:=ai (U.u Fe);clear I hc Ff Nu O U J Nt;go_wp2
   go_quiet (fail)
   go_wp2;go_ret;exact ⟨by rw [ah.u,ab.u];rfl,cN ag.u _⟩
  have bg:¬((k:Int)<(D.length:Int)):=aj;have ab:=ai (show D.any (iN T)=false from by
   rw [iW];intro y bh;obtain ⟨j,bf,rfl⟩:=dn bh;rw [ak aN j bf aj];simp)
  clear I;go_wp2;go_ret;exact ⟨by rw [ah.u,ab.u];rfl,ag.u⟩
def RH(k i r:ae):ae:=if r.size=0 then (k++sg 58)++i else (((k++sg 58)++i)++sg 35)++r
theorem AF(A:di s=true):((((((bU s).1.kind++sg 58)++(bU s).1.id)++sg 35)++(bU s).1.rel)++sg 64++RH (bU s).1.sub (bU s).1.who (bU s).1.of)=s:=by
 obtain ⟨_,_,hl⟩:=nt A;have e:∀a b:ae,bW (a++b)=bW a++bW b:=fun a b=>by simp [bW,ByteArray.data_append]
 have h:∀c:UInt8,bW (sg c)=[c]:=fun c=>rfl
 generalize (bU s).1=t at*;have key:bW ((((((t.kind++sg 58)++t.id)++sg 35)++t.rel)++sg 64++RH t.sub t.who t.of))=bW s:=by
  rw [hl];unfold RH
  split<;>simp [e,h]
 rw [<-gh s,<-key,gh]
