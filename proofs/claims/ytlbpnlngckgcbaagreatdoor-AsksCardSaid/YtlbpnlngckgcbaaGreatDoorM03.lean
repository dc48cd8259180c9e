import Derived.Test.YtlbpnlngckgcbaaGreatDoorM01
import Derived.Deep.DeepCutAuto
set_option linter.all false
set_option maxHeartbeats 4000000
set_option maxRecDepth 100000
namespace Go.Proofs.YtlbpnlngckgcbaaGreatDoor
open Go.RowKit Go.PlainAid Go.Proofs.Tryz
variable {aA aU:Prop} {w y z w' w1:af} {size n base' b d i k:Nat} {e T:TypeId} {v sv tv:ag} {xs:List ag} {cs:Array ag} {row:Option Nat} {α:Type} {s x:ae} {rs:List Rl} {ts:List Ty} {t:Ty} {P:Program} {rest:List Oper}
section
abbrev aL:=@Option.some.injEq
abbrev bK:=@info_parts
abbrev bI:=@wpList_append_lies
abbrev bu:=@World.news_of_block
def Tryz.info207:(Tryz.prog.info? 207).map (fun i=>(i.zero,i.size,i.bytes))=some (some (.agg #[.int .i64 0,.string ⟨#[]⟩,.int .i64 0,.int .i64 0,.string ⟨#[]⟩]),5,56):=by kernel_rfl
def WT(T:Nat->ae)(P:Nat->Nat)(k:Nat)(acc:List Gr)(j:Nat):eI (List Gr):=
 if eqs (T j) (sg 44) then dZ T P k acc j else if eqs (T j) (sg 93) then .ok (acc,j+1) else .error (2,j)
variable {base g:Nat}
def own_ne(h:w.ownsRow base e size v n xs)(C:aE w g cs T)(I:T≠e):some g≠v.ownBlock:=by
 rcases h.2 with ⟨rfl,_⟩|⟨g',cap,J,rfl,Q,A,r⟩
 ·simp [Value.ownBlock]
 intro D;simp only [Value.ownBlock,aL] at D;subst D;unfold aE at C;rw [C] at A;simp at A;exact I A.2
def bN(h:w.ownsRow base e size v n xs)(C:aE w g cs T)(D:T≠e)(o u):(w.setCell ⟨g,o,none⟩ u).ownsRow base e size v n xs:=
 ay h fun g' I f J A=>dN _ _ _ _ (fun (e':g'=g)=>by
  subst e';unfold aE at C;rw [C] at A;simp at A;exact D A.2.1)
def bg(h:w.ownsRow base e size v n xs)(C:base'<=base):w.ownsRow base' e size v n xs:=by
 obtain ⟨h1,h2⟩:=h;refine ⟨h1,?_⟩
 rcases h2 with h2|⟨g,cap,A,hv,D,r⟩
 ·exact Or.inl h2
 exact Or.inr ⟨g,cap,A,hv,aP C D,r⟩
def zS(l g):cz (l++[g])=cz l++(cR g).toList:=by simp [cz]
def But.grown{x}(h:But b x y)(A:y.grownBy z row)(I:∀k,row=some k->x.heap.size<=k):But b x z:=
 ⟨A.os.trans h.os,A.tape.trans h.tape,A.output.trans h.output,aP h.size A.size,fun k C D=>(A.block k (cK C h.size) (fun e=>by have:=I k e.symm;omega)).trans (h.block k C D)⟩
def aE.new'(w:af)(cs:Array ag)(T n:Nat)(h:n=w.heap.size):aE (w.alloc (.cells cs T)) n cs T:=by subst h;exact aE.new w cs T
def Nq(g):∀u∈(cR g).toList,u.oneCell'=true:=by
 intro u h;simp [cR] at h
 rcases h with rfl|rfl|rfl|rfl|rfl<;>rfl
def listM(P:Nat->Nat)(i:Nat)(h:eI (List Gr)):eI Ex:=match h with
 | .error e=> .error e
 | .ok (gs,j)=> .ok (IB P i gs,j)
def KA(b s i d w)(hs:s.size<=500)(h:At w b s i d)(bo:eqs (TT s i) (sg 91)=true):
  Calls prog 271 #[.pointer (some ⟨b,0,none⟩)] w (eL b s d w (lw (TT s) (PP s) i)):=by
 have bP:=h.lt;have ax:Hid (s.size<=maxLen):=ai gz;have bh:=ai (df bo au);have a6:=ai h;have c1:=h.pos.rd.c1;obtain ⟨i0,hi,br,bs,bt⟩:=bK Tryz.info207;have a9:=ai hi;have bc:=ai br;have be:=ai bs;have bf:=ai bt;change Calls _ _ _ _ (eL b s d w (listM (PP s) i (dZ (TT s) (PP s) 512 [] i)));generalize bl:dZ (TT s) (PP s) 512 [] i=ac;have bb:=ai bl;go_enter func271,ntmps271;go_wp2_with fail
 go_loopg [5] 512 (fun k bw wr=>∃(f:Bool)(acc:List Gr)(j:Nat)(sv:ag),bw=.bool f/\But b w wr/\At wr b s j d/\512<=k+j/\acc.length<=j/\
  aE wr w.heap.size #[.int .i64 (dz s (K s i)),sv] 236/\wr.ownsRow w.heap.size 207 5 sv acc.length (cz acc)/\
  Hid ((f=true->j=i/\dZ (TT s) (PP s) k acc j=ac)/\(f=false->WT (TT s) (PP s) k acc j=ac)))
 case atStart=>exact ⟨true,[],i,_,rfl,(But.refl b w).alloc _,a6.u.alloc _,aj,ar,aE.new _ _ _,bL,ai ⟨fun _=>⟨rfl,bb.u⟩,fun h=>by cases h⟩⟩
 case round=>
  obtain ⟨f,acc,j,sv,rfl,bn,ha,a1,bE,hl,ho,aY⟩:=hrel;have bG:12<=gk:=by have:=ha.le;omega
  obtain ⟨aO,rfl⟩:∃f,gk=f+1:=⟨gk-1,aj⟩;have R:=ai ha;have af:=ai bn;have Q:=ai hl;have am:=ai ho;obtain ⟨aR,l1⟩:=hl.two
  go_upto_region 3 with fail
  go_cut [19] (fun s' bA=>∃c:Bool,s'=.bool c/\an wr bA/\Hid (cond c ((0<(TT s j).size)/\dZ (TT s) (PP s) (aO+1) acc j=ac) ((if eqs (TT s j) (sg 93) then .ok (acc,j+1) else .error (2,j))=ac)))
  case first=>
   cases f with
   |true=>
    obtain ⟨e1,aN⟩:=(ak aY).1 rfl;have al:=ai (⟨(by rw [e1];exact bh.u:0<(TT s j).size),aN⟩:_/\_);go_wp2
    go_meet
    exact ⟨true,rfl,az _ _,al⟩
   |false=>
    have al:=ai (show cond (eqs (TT s j) (sg 44)) ((0<(TT s j).size)/\dZ (TT s) (PP s) (aO+1) acc j=ac) ((if eqs (TT s j) (sg 93) then .ok (acc,j+1) else .error (2,j))=ac) from by
     have J:=(ak aY).2 rfl;unfold WT at J
     cases a2:eqs (TT s j) (sg 44)<;>rw [a2] at J
     ·exact J
     exact ⟨df a2 au,J⟩)
    go_wp2_with fail;refine (ats b s j d _ _ (sg 44) _ ?_ ?_).mono ?_
    ·exact (hA R)
    ·exact db _ _ _ _ ar
    rintro e w1 ⟨rfl,rfl⟩;go_wp2
    go_meet
    exact ⟨_,rfl,bj.alloc aD _,al⟩
  case rest=>
   obtain ⟨c,rfl,aF,aW⟩:=hcut;have R:=ai (R.u.below aF);have af:=ai (af.u.trans (But.of_below aF));have Q:=ai (Q.u.below aF);have am:=ai (ay am.u (fun g cs f _ I=>aF.block g (lt_of_some I)));obtain ⟨aR,l1⟩:=Q.u.two;have bB:=Q.u.fz;have bM:=Q.u.lt;have bO:=R.u.lt;obtain ⟨bR,bq⟩:∃z,z=wc:=⟨_,rfl⟩;subst bq
   cases c with
   |true=>
    obtain ⟨e1,aN⟩:=ak aW;have al:=ai aN;have bi:=ai e1;go_wp2_with fail;refine (steps b s j d _ (ak ax) ?_ bi.u).mono ?_
    ·exact (hA R)
    rintro e V ⟨rfl,ap,D⟩;have ab:=ai (aE.but (g:=w.heap.size) (T:=236) (cM Q) D aj);have aB:=ai (ay (w':=V) am.u (fun g cs f aP I=>(D.block g (by first|exact lt_of_some I|(have:=lt_of_some I;simp;omega)) aj).trans (by first|rfl|exact Below.heap_alloc _ _ _ (lt_of_some I))));have Z:=ai (But.trans (x:=w) (eu af) D);have Y:=ai ap;have aw:=al.u;unfold dZ at aw
    cases J:dY (TT s) (PP s) (j+1) with
    |error e=>
     obtain ⟨c3,a3⟩:=e;rw [J] at aw;have aI:=ai aw;have C:=ai (uu b s (j+1) d V (ak ax) Y.u);rw [J] at C;go_wp2_with fail;refine (ak C).mono ?_;rintro e ae ⟨ad,bx,d3,rfl,⟨A,rfl⟩,aC⟩;have U:=ab.u.but ad aj;have bv:=U.lt;obtain ⟨aR,l1⟩:=U.two;have aH:=ai (But.trans Z.u ad);have aG:=ai aC;unfold cj E7 cR;go_wp2;go_ret2;rw [<-aI.u];exact ⟨(eu aH),_,d3,rfl,.inr ⟨_,_,rfl⟩,(hA aG)⟩
    |ok y=>
     obtain ⟨A,a3⟩:=y;have bJ:=nh _ _ _ _ _ J;rw [J] at aw;have aI:=ai aw;have C:=ai (uu b s (j+1) d V (ak ax) Y.u);rw [J] at C;go_wp2_with fail;refine (ak C).mono ?_;rintro e ae ⟨ad,bx,rfl,rfl,aC⟩;have U:=ab.u.but ad aj;have bv:=U.lt;obtain ⟨aR,l1⟩:=U.two;have bB:=U.fz;have ba:=ai U;have a0:=ai (ay (w':=ae) aB.u (fun g cs f aP I=>ad.block g (lt_of_some I) aj));have aH:=ai (But.trans Z.u ad);have aG:=ai aC;have bQ:=aC.le;unfold E7 cR;go_wp2_with (at_builtin;go_must (refine bI _ rfl _ _ 211 rfl w.heap.size 207 i0 _ 5 56 underlying211 a9.u bc.u be.u bf.u rfl au sv acc.length (cz acc) rfl ?hown ⟨ae.heap.size+1,0,none⟩ 1 1 (cR A).toList rfl rfl ?hnews ?hone au ?h63 ?hbytes ?hbase (ae.heap.size+2) ?hH ?hrest))
     case hown=>exact (a0.u.alloc _).alloc _
     case hnews=>exact bu (B:=ae.heap.size+1) (cs:=cR A) (t:=207) (fr:=(0,0)) (aE.new' (ae.alloc _) _ _ _ ar)
     case hone=>exact Nq A
     case h63=>unfold maxLen;omega
     case hbytes=>omega
     case hbase=>simp;omega
     case hH=>simp
     case hrest=>
      intro bD bC bz bp aQ bF bH;have aJ:=(ba.u.alloc (.cells (cR A) 207)).alloc (.cells (cR A) 207);have aL:=(a0.u.alloc (.cells (cR A) 207)).alloc (.cells (cR A) 207);have aS:=(aG.u.alloc (.cells (cR A) 207)).alloc (.cells (cR A) 207);have aK:aE bz w.heap.size #[.int .i64 (dz s (K s i)),sv] 236:=(aQ.block _ aJ.lt (own_ne aL aJ au)).trans aJ;have a7:=ai (aS.grown aQ (own_ne aL aS.pos.rd.blk au));have a8:=ai (But.grown ((aH.u.alloc (.cells (cR A) 207)).alloc (.cells (cR A) 207)) aQ (fun k a1=>(aL.lt k a1).1));have bk:=ai bp;have aX:=ai aK;obtain ⟨a4,a5⟩:=aK.two;have bS:=aK.fz;go_wp2
      go_roundg aO
      case measure=>omega
      case rel=>exact ⟨false,acc++[A],a3,_,rfl,(eu a8),(hA a7),aj,aM,aX.u.set 1 _,by rw [List.length_append,zS];exact bN bk.u aX.u au 1 _,ai ⟨fun h=>(by cases h),fun _=>aI.u⟩⟩
   |false=>
    have aZ:=aW;go_wp2_with fail
    cases hc:eqs (TT s j) (sg 93)
    ·have ah:=ai hc
     go_region_held3 (fun w'=>w'.cell? ⟨w.heap.size,0,none⟩=some (.int .i64 (dz s (K s i)))/\w'.cell? ⟨w.heap.size,1,none⟩=some sv)
      (go_keep) ((go_at_call 169;refine (nf b s j d (sg 93) _ ?_ ah.u).mono ?_;(exact R.u.drew);rintro e V ⟨rfl,ap,D⟩;have ab:=Q.u.drew.but D aj;obtain ⟨a4,a5⟩:=ab.two;have Y:=ai ap;have aB:=ai (ay (w':=V) am.u (fun g cs f aP I=>D.block g (lt_of_some I) aj));have Z:=ai (But.trans (x:=w) af.u.drew D)))
     all_goals
      go_wp2;go_ret2;have av:=ak aZ;simp only [cond,ah.u,Bool.false_eq_true,aV] at av;rw [<-av];exact ⟨Z.u,_,d,rfl,.inr ⟨_,_,rfl⟩,Y.u⟩
    have ah:=ai hc
    go_region_held3 (fun w'=>w'.cell? ⟨w.heap.size,0,none⟩=some (.int .i64 (dz s (K s i)))/\w'.cell? ⟨w.heap.size,1,none⟩=some sv)
     (go_keep) ((go_at_call 169;refine (ix b s j d (sg 93) _ (ak ax) ?_ ah.u au).mono ?_;(exact R.u.drew);rintro e V ⟨rfl,ap,D⟩;have ab:=Q.u.drew.but D aj;obtain ⟨a4,a5⟩:=ab.two;have Y:=ai ap;have aB:=ai (ay (w':=V) am.u (fun g cs f aP I=>D.block g (lt_of_some I) aj));have Z:=ai (But.trans (x:=w) af.u.drew D)))
    all_goals
     go_wp2;go_ret2;have av:=ak aZ;simp only [cond,ah.u,if_true] at av;rw [<-av];exact ⟨Z.u,_,rfl,.inl ⟨rfl,_,rfl,bg aB.u aj⟩,Y.u⟩
end
abbrev b6:=@beq_eq_false_iff_ne
def E8 (h:aA:=by
 intro e J A;obtain ⟨v,I,rfl⟩:=Post.form A;have D:=ai A;go_wp2;go_ret2;have C:=ai (But.refl b w);exact Post.from (w:=w) (eu C) D.u):aA:=h
def Post.form{r:eI α}{rep:af->α->ag->Prop}{bad e}(h:Post b s d w r rep bad e w'):∃v A,e=.returned (.tuple #[v,A]):=by
 obtain ⟨_,h⟩:=h
 cases r with
 |error y=>obtain ⟨c,j⟩:=y;obtain ⟨v,d',h,_⟩:=h;exact ⟨_,_,h⟩
 |ok y=>obtain ⟨c,j⟩:=y;obtain ⟨v,h,_⟩:=h;exact ⟨_,_,h⟩
def Post.from{r:eI α}{rep:af->α->ag->Prop}{bad e}(k:But b w w1)(h:Post b s d w1 r rep bad e w'):Post b s d w r rep bad e w':=⟨k.trans h.1,h.2⟩
def At.open(h:At w b s i d)(d':Nat):At (w.setCell ⟨b,3,none⟩ (.int .i64 d')) b s i d':=
 ⟨⟨⟨by rw [fS _ h.pos.rd.blk];rfl⟩,h.pos.le⟩,h.good⟩
def xo(b s i w)(h:At w b s i 4):
  Calls prog 272 #[.pointer (some ⟨b,0,none⟩)] w (eL b s 4 w (.error (3,i))):=by
 have c3:=h.pos.rd.c3;have A:=ai h;go_enter func272,ntmps272;go_wp2;go_ret2;exact ⟨But.refl _ _,_,4,rfl,.inl rfl,A.u⟩
def zT(b s i d w)(hs:s.size<=500)(h:At w b s i d)(aj:d<4)(af:eqs (TT s i) (sg 40)=true)(A:Nat->eI Ex)(ag:∀i w,At w b s i (d+1)->Calls prog 222 #[.pointer (some ⟨b,0,none⟩)] w (eL b s (d+1) w (A i)))(c j)(V:Hid (A (i+1)=.error (c,j))):
  Calls prog 272 #[.pointer (some ⟨b,0,none⟩)] w (eL b s d w (.error (c,j))):=by
 have Y:Hid (s.size<=maxLen):=ai gz;have U:=ai (df af au);have c3:=h.pos.rd.c3;have ar:=h.pos.rd.fz;have D:=ai (At.open h (d+1));have al:((d:Int)==4)=false:=by rw [b6];omega
 have Z:=ai ag;go_enter func272,ntmps272;go_wp2_with fail;rw [show ((d:Int)+1)=((d+1:Nat):Int) by omega];refine (steps b s i (d+1) _ (ak Y) D.u U.u).mono ?_;rintro e ah ⟨rfl,ab,ad⟩;have Q:=ai (But.trans (x:=w) ((But.refl b w).setCell 3 _) ad);have I:=ai ab;have C:=ai (Z.u (i+1) ah I.u);rw [ak V] at C;go_wp2_with fail;refine (ak C).mono ?_;rintro e ap ⟨ae,an,d3,rfl,am,ac⟩;have R:=ai (But.trans Q.u ae);have J:=ai ac;unfold cj;go_wp2;go_ret2;exact ⟨R.u,_,d3,rfl,.inl rfl,J.u⟩
def Cg(b s i d w)(hs:s.size<=500)(h:At w b s i d)(aw:d<4)(an:eqs (TT s i) (sg 40)=true)(D:Nat->eI Ex)(ar:∀i w,At w b s i (d+1)->Calls prog 222 #[.pointer (some ⟨b,0,none⟩)] w (eL b s (d+1) w (D i)))(x j)(ac:Hid (D (i+1)=.ok (x,j)))(Z:Hid (eqs (TT s j) (sg 41)=false)):
  Calls prog 272 #[.pointer (some ⟨b,0,none⟩)] w (eL b s d w (.error (2,j))):=by
 have ad:Hid (s.size<=maxLen):=ai gz;have ab:=ai (df an au);have c3:=h.pos.rd.c3;have aC:=h.pos.rd.fz;have I:=ai (At.open h (d+1));have ax:((d:Int)==4)=false:=by rw [b6];omega
 have ae:=ai ar;go_enter func272,ntmps272;go_wp2_with fail;rw [show ((d:Int)+1)=((d+1:Nat):Int) by omega];refine (steps b s i (d+1) _ (ak ad) I.u ab.u).mono ?_;rintro e av ⟨rfl,ag,aj⟩;have U:=ai (But.trans (x:=w) ((But.refl b w).setCell 3 _) aj);have J:=ai ag;have C:=ai (ae.u (i+1) av J.u);rw [ak ac] at C;go_wp2_with fail;refine (ak C).mono ?_;rintro e az ⟨al,ay,rfl,ap,A⟩;have V:=ai (But.trans U.u al);have Q:=ai (At.open A d);have k3:=A.pos.rd.c3;have aD:=A.pos.rd.fz;have af:=ai ap;go_wp2_with fail;refine (nf b s j d (sg 41) _ Q.u (ak Z)).mono ?_;rintro e aB ⟨rfl,ah,am⟩;have Y:=ai (But.trans (V.u.setCell 3 _) am);have R:=ai ah;go_wp2;go_ret2;exact ⟨Y.u,_,d,rfl,.inr af.u.isI,R.u⟩
def zU(b s i d w)(hs:s.size<=500)(h:At w b s i d)(ay:d<4)(ap:eqs (TT s i) (sg 40)=true)(J:Nat->eI Ex)(av:∀i w,At w b s i (d+1)->Calls prog 222 #[.pointer (some ⟨b,0,none⟩)] w (eL b s (d+1) w (J i)))(x j)(ae:Hid (J (i+1)=.ok (x,j)))(ac:Hid (eqs (TT s j) (sg 41)=true)):
  Calls prog 272 #[.pointer (some ⟨b,0,none⟩)] w (eL b s d w (.ok (x,j+1))):=by
 have D:Hid (s.size<=maxLen):=ai gz;have ad:=ai (df ap au);have c3:=h.pos.rd.c3;have aD:=h.pos.rd.fz;have Q:=ai (At.open h (d+1));have az:((d:Int)==4)=false:=by rw [b6];omega
 have af:=ai av;go_enter func272,ntmps272;go_wp2_with fail;rw [show ((d:Int)+1)=((d+1:Nat):Int) by omega];refine (steps b s i (d+1) _ (ak D) Q.u ad.u).mono ?_;rintro e aw ⟨rfl,aj,am⟩;have Y:=ai (But.trans (x:=w) ((But.refl b w).setCell 3 _) am);have R:=ai aj;have C:=ai (af.u (i+1) aw R.u);rw [ak ae] at C;go_wp2_with fail;refine (ak C).mono ?_;rintro e ax ⟨an,aB,rfl,ar,A⟩;have Z:=ai (But.trans Y.u an);have U:=ai (At.open A d);have k3:=A.pos.rd.c3;have aE:=A.pos.rd.fz;have ag:=ai ar;go_wp2_with fail;refine (ix b s j d (sg 41) _ (ak D) U.u (ak ac) au).mono ?_;rintro e aC ⟨rfl,al,I⟩;have ab:=ai (But.trans (Z.u.setCell 3 _) I);have ah:=ai (bB.but ag.u (But.trans ((But.refl b ax).setCell 3 _) I));have V:=ai al;go_wp2;go_ret2;exact ⟨ab.u,_,rfl,ah.u,V.u⟩
def Nr(b s i d w)(hs:s.size<=500)(h:At w b s i d)(r)(ab:eqs (TT s i) (sg 91)=true->∀w,At w b s i d->Calls prog 271 #[.pointer (some ⟨b,0,none⟩)] w (eL b s d w r))(Z:eqs (TT s i) (sg 91)=false->eqs (TT s i) (sg 40)=true->∀w,At w b s i d->Calls prog 272 #[.pointer (some ⟨b,0,none⟩)] w (eL b s d w r))(ho:eqs (TT s i) (sg 91)=false->eqs (TT s i) (sg 40)=false->∀w,At w b s i d->Calls prog 273 #[.pointer (some ⟨b,0,none⟩)] w (eL b s d w r)):
  Calls prog 264 #[.pointer (some ⟨b,0,none⟩)] w (eL b s d w r):=by
 have Q:=ai h;have V:=ai ab;have U:=ai Z;have Y:=ai ho
 cases h1:eqs (TT s i) (sg 91)
 ·cases h2:eqs (TT s i) (sg 40)
  ·go_enter func264,ntmps264;go_wp2_with fail;refine (ats b s i d _ _ (sg 91) _ ?_ ?_).mono ?_
   ·exact (hA Q)
   ·exact db _ _ _ _ ar
   rintro e R ⟨rfl,rfl⟩;rw [h1];go_wp2_with fail;refine (ats b s i d _ _ (sg 40) _ ?_ ?_).mono ?_
   ·exact (hA Q)
   ·exact db _ _ _ _ ar
   rintro e R ⟨rfl,rfl⟩;rw [h2];go_wp2_with fail;refine (Y.u h1 h2 _ (hA Q)).mono ?_;exact E8
  go_enter func264,ntmps264;go_wp2_with fail;refine (ats b s i d _ _ (sg 91) _ ?_ ?_).mono ?_
  ·exact (hA Q)
  ·exact db _ _ _ _ ar
  rintro e R ⟨rfl,rfl⟩;rw [h1];go_wp2_with fail;refine (ats b s i d _ _ (sg 40) _ ?_ ?_).mono ?_
  ·exact (hA Q)
  ·exact db _ _ _ _ ar
  rintro e R ⟨rfl,rfl⟩;rw [h2];go_wp2_with fail;refine (U.u h1 h2 _ (hA Q)).mono ?_;exact E8
 ·go_enter func264,ntmps264;go_wp2_with fail;refine (ats b s i d _ _ (sg 91) _ ?_ ?_).mono ?_
  ·exact (hA Q)
  ·exact db _ _ _ _ ar
  rintro e R ⟨rfl,rfl⟩;rw [h1];go_wp2_with fail;refine (V.u h1 _ (hA Q)).mono ?_;exact E8
def xQ(b s i d w)(hs:s.size<=500)(h:At w b s i d)(room inner)(J:d<=4)(D:room=true↔d<4)(C:room=true->∀i w,At w b s i (d+1)->Calls prog 222 #[.pointer (some ⟨b,0,none⟩)] w (eL b s (d+1) w (inner i))):
  Calls prog 264 #[.pointer (some ⟨b,0,none⟩)] w (eL b s d w (eR (TT s) (PP s) room inner i)):=by
 have I:s.size<=maxLen:=by unfold maxLen;omega
 refine Nr b s i d w hs h _ ?_ ?_ ?_
 ·intro h1 w h;simp only [eR,h1,if_true];exact KA b s i d w hs h h1
 ·intro h1 h2 w h;simp only [eR,h1,h2,if_true,Bool.false_eq_true,aV]
  cases room with
  |false=>
   have:d=4:=by
    have:¬d<4:=fun k=>by have:=D.2 k;cases this
    omega
   subst this;exact xo b s i w h
  |true=>
   have A:=D.1 rfl;simp only [if_true]
   cases hi:inner (i+1) with
   |error e=>exact zT b s i d w hs h A h2 inner (C rfl) e.1 e.2 (ai hi)
   |ok y=>
    obtain ⟨x,j⟩:=y
    cases hc:eqs (TT s j) (sg 41)
    ·simp only [hc];exact Cg b s i d w hs h A h2 inner (C rfl) x j (ai hi) (ai hc)
    simp only [hc];exact zU b s i d w hs h A h2 inner (C rfl) x j (ai hi) (ai hc)
 ·intro h1 h2 w h;simp only [eR,h1,h2,Bool.false_eq_true,aV];exact Nl b s i d w I h
def uA(b s i d w)(hs:s.size<=500)(h:At w b s i d)(part)(J:jQ part)(A:∀i w,At w b s i d->Calls prog 264 #[.pointer (some ⟨b,0,none⟩)] w (eL b s d w (part i))):
  Calls prog 249 #[.pointer (some ⟨b,0,none⟩)] w (eL b s d w (fe (TT s) (PP s) [sg 38,sg 45] part i)):=by
 have R:=h.lt;have C:=ai (xP _ b (.inl rfl) s i d (w.alloc (.cells #[.string ⟨#[38]⟩,.string ⟨#[45]⟩] 9)) hs (h.alloc _) w.heap.size 2 [sg 38,sg 45] part J A (by simp [maxLen]) au aj ar (fun i hi=>by
  match i,hi with
  |0,_=>exact (aE.new w _ _).cell rfl
  |1,_=>exact (aE.new w _ _).cell rfl
  |n+2,hi=>simp at hi;omega))
 generalize fe (TT s) (PP s) [sg 38,sg 45] part i=r at*;go_enter func249,ntmps249;go_wp2_with fail;refine C.u.mono ?_;intro e U A;obtain ⟨v,Q,rfl⟩:=Post.form A;have I:=ai A;go_wp2;go_ret2;have D:=ai (But.refl b w);exact Post.from (w:=w) (eu D) I.u
def IF(b s i d w)(hs:s.size<=500)(h:At w b s i d)(part)(J:jQ part)(A:∀i w,At w b s i d->Calls prog 249 #[.pointer (some ⟨b,0,none⟩)] w (eL b s d w (part i))):
  Calls prog 222 #[.pointer (some ⟨b,0,none⟩)] w (eL b s d w (fe (TT s) (PP s) [sg 124] part i)):=by
 have R:=h.lt;have C:=ai (xP _ b (.inr rfl) s i d (w.alloc (.cells #[.string ⟨#[124]⟩] 9)) hs (h.alloc _) w.heap.size 1 [sg 124] part J A (by simp [maxLen]) au aj ar (fun i hi=>by
  match i,hi with
  |0,_=>exact (aE.new w _ _).cell rfl
  |n+1,hi=>simp at hi))
 generalize fe (TT s) (PP s) [sg 124] part i=r at*;go_enter func222,ntmps222;go_wp2_with fail;refine C.u.mono ?_;intro e U A;obtain ⟨v,Q,rfl⟩:=Post.form A;have I:=ai A;go_wp2;go_ret2;have D:=ai (But.refl b w);exact Post.from (w:=w) (eu D) I.u
def rg(b s)(hs:s.size<=500):∀n i d w,d+n=4->At w b s i d->
  Calls prog 222 #[.pointer (some ⟨b,0,none⟩)] w (eL b s d w (fp (TT s) (PP s) n i))
 |0,i,d,w,hd,h=>IF b s i d w hs h _ (gU _ _ false _ (fun i x j h=>by simp at h)) (fun i w h=>
   uA b s i d w hs h _ (jR _ _ false _ (fun i x j h=>by simp at h)) (fun i w h=>
    xQ b s i d w hs h false _ aj aM (fun h=>by cases h)))
 |n+1,i,d,w,hd,h=>IF b s i d w hs h _ (gU _ _ true _ (gI _ _ n)) (fun i w h=>
   uA b s i d w hs h _ (jR _ _ true _ (gI _ _ n)) (fun i w h=>
    xQ b s i d w hs h true _ aj aM (fun _ i w h=>rg b s hs n i (d+1) w aj h)))
section
abbrev eC:Array ag:=#[.int .i64 0,.string ⟨#[]⟩,.nilIface]
abbrev rh(a0:Int)(a1:ae)(a2:TypeId)(a3:ag):Array ag:=#[.int .i64 a0,.string a1,.iface a2 a3]
abbrev cI:Obj:=.cells #[.int .i64 0,.string ⟨#[]⟩,.nilIface] 159
variable {g:Nat}
def bB.set{e}(h:bB b w e v)(C:aE w g cs T)(D:T≠207)(o u):bB b (w.setCell ⟨g,o,none⟩ u) e v:=
 bB.frame (fun g' I f J A=>dN _ _ _ _ (fun (e':g'=g)=>by
  subst e';unfold aE at C;rw [C] at A;simp at A;exact D A.2.1)) e v h
def IG(b:Nat)(w:af)(r:Rl)(v:ag):Prop:=∃h,v=.agg #[.int .i64 r.place,.string r.name,h]/\bB b w r.body h
def UC(v:ag):Prop:=∃(p:Nat)(t:ae)(h:ag),v=.agg #[.int .i64 p,.string t,h]/\IsI h
def UD(b s i d w)(hs:s.size<=500)(h:At w b s i d)(c j)(Q:Hid (bZ (TT s) (sg 58) i=.error (c,j))):
  Calls prog 172 #[.pointer (some ⟨b,0,none⟩)] w (Post b s d w (.error (c,j):eI Rl) (IG b) UC):=by
 have Z:=h.lt;have R:Hid (s.size<=maxLen):=ai gz;have C:=ai (gx b s i d (sg 58) _ (ak R) ((h.alloc cI).alloc cI) au);rw [ak Q] at C;go_enter func172,ntmps172;go_wp2_with fail;refine (ak C).mono ?_;rintro e w1 ⟨b1,v,d1,rfl,⟨p,t,rfl⟩,U⟩;have I:=ai (((But.refl b w).alloc _).alloc _ |>.trans b1);have A:=((aE.new w eC 159).alloc cI).but b1 aj;have G:=(aE.new' (w.alloc cI) eC 159 (w.heap.size+1) ar).but b1 aj;have J:=ai A;obtain ⟨ad,ae,af⟩:=A.three;obtain ⟨g0,V,Y⟩:=G.three;have ah:=A.fz;have ag:=G.fz;have ab:=G.lt;have ac:w.heap.size<w1.heap.size:=aj;have D:=ai U;unfold cj;go_wp2;refine bq (v:=.tuple #[.agg #[.int .i64 p,.string t,.nilIface],cj c]) (bR results172 _ _ w.heap.size _ 159 _ _ rfl rfl ?hB underlying159 rfl aw) rfl ?post
 case hB=>exact ⟨_,(cM J),bc⟩
 case post=>exact ⟨(eu I),_,d1,rfl,⟨p,t,_,rfl,.inl rfl⟩,(hA D)⟩
def Ns(b s i d w)(hs:s.size<=500)(h:At w b s i d)(an:d+4=4)(c j m)(ae:Hid (bZ (TT s) (sg 58) i=.ok ((),j)))(ag:Hid (fp (TT s) (PP s) 4 j=.error (c,m))):
  Calls prog 172 #[.pointer (some ⟨b,0,none⟩)] w (Post b s d w (.error (c,m):eI Rl) (IG b) UC):=by
 have aB:=h.lt;have af:Hid (s.size<=maxLen):=ai gz;have C:=ai (gx b s i d (sg 58) _ (ak af) ((h.alloc cI).alloc cI) au);rw [ak ae] at C;go_enter func172,ntmps172;go_wp2_with fail;refine (ak C).mono ?_;rintro e w1 ⟨b1,v,rfl,rfl,al⟩;have Z:=ai (((But.refl b w).alloc _).alloc _ |>.trans b1);have V:=((aE.new w eC 159).alloc cI).but b1 aj;have G:=(aE.new' (w.alloc cI) eC 159 (w.heap.size+1) ar).but b1 aj;have ad:=ai V;have ac:=ai G;obtain ⟨aJ,aK,aL⟩:=V.three;obtain ⟨g0,ay,az⟩:=G.three;have aP:=G.fz;have aC:=G.lt;have aD:w.heap.size<w1.heap.size:=aj;have Y:=ai al;unfold xn;go_wp2_with fail;have C:=ai (rg b s hs 4 j d _ an ((hA Y):At ((w1.setCell ⟨w.heap.size+1,0,none⟩ (.int .i64 (dz s (K s i)))).setCell ⟨w.heap.size+1,1,none⟩ (.string (cD s (K s i)))) b s j d));rw [ak ag] at C;refine (ak C).mono ?_;rintro e J ⟨I,aO,d2,rfl,ap,am⟩;have R:=ai (But.trans (x:=w) (eu Z) I);have ah:=aE.but (g:=w.heap.size) (T:=159) (cM ad) I aj;have D:aE J w.heap.size eC 159:=ah;have ab:=aE.but (g:=w.heap.size+1) (T:=159) (cM ac) I aj;have A:aE J (w.heap.size+1) #[.int .i64 (dz s (K s i)),.string (cD s (K s i)),.nilIface] 159:=ab;have U:=ai D;obtain ⟨aF,p1,p2⟩:=D.three;obtain ⟨aG,aH,aI⟩:=A.three;have aQ:=D.fz;have zq:=A.fz;have aM:=A.lt;have aN:w.heap.size<J.heap.size:=aj;have Q:=ai am;unfold cj
 rcases ap with rfl|⟨av,ax,rfl⟩
 ·go_wp2;refine bq (v:=.tuple #[.agg #[.int .i64 (dz s (K s i)),.string (cD s (K s i)),.nilIface],cj c]) (bR results172 _ _ w.heap.size _ 159 _ _ rfl rfl ?hB underlying159 rfl aw) rfl ?post
  case hB=>exact ⟨_,(cM U),bc⟩
  case post=>exact ⟨(eu R),_,d2,rfl,⟨_,_,_,rfl,.inl rfl⟩,(hA Q)⟩
 ·go_wp2;refine bq (v:=.tuple #[.agg #[.int .i64 (dz s (K s i)),.string (cD s (K s i)),.iface av ax],cj c]) (bR results172 _ _ w.heap.size _ 159 _ _ rfl rfl ?hB underlying159 rfl aw) rfl ?post
  case hB=>exact ⟨_,(cM U),bc⟩
  case post=>exact ⟨(eu R),_,d2,rfl,⟨_,_,_,rfl,.inr ⟨_,_,rfl⟩⟩,(hA Q)⟩
def IH(b:Nat)(s:ae)(i d:Nat)(w:af)(hs:s.size<=500)(h:At w b s i d)(aS:d+4=4)(x:Ex)(j m M:Nat)(V:ag)(J:eI Rl)(aL:Hid (bZ (TT s) (sg 58) i=.ok ((),j)))(aN:Hid (fp (TT s) (PP s) 4 j=.ok (x,m)))
  (aG:Hid (∀W,At W b s m d->Calls prog 169 #[.pointer (some ⟨b,0,none⟩),.string (sg 59)] W fun e w'=>e=.returned V/\At w' b s M d/\But b W w'))
  (aI:Hid ((V=.nilIface/\J=.ok (⟨TT s i,PP s i,x⟩,M))\/(V=cj 2/\J=.error (2,M)))):
  Calls prog 172 #[.pointer (some ⟨b,0,none⟩)] w (Post b s d w J (IG b) UC):=by
 have a5:=h.lt;have aM:Hid (s.size<=maxLen):=ai gz;have C:=ai (gx b s i d (sg 58) _ (ak aM) ((h.alloc cI).alloc cI) au);rw [ak aL] at C;go_enter func172,ntmps172;go_wp2_with fail;refine (ak C).mono ?_;rintro e w1 ⟨b1,v,rfl,rfl,a1⟩;have ax:=ai (((But.refl b w).alloc _).alloc _ |>.trans b1);have J:=((aE.new w eC 159).alloc cI).but b1 aj;have G:=(aE.new' (w.alloc cI) eC 159 (w.heap.size+1) ar).but b1 aj;have aH:=ai J;have aD:=ai G;obtain ⟨bb,be,bf⟩:=J.three;obtain ⟨g0,aY,aZ⟩:=G.three;have bk:=G.fz;have a6:=G.lt;have a7:w.heap.size<w1.heap.size:=aj;have an:=ai a1;unfold xn;go_wp2_with fail;have C:=ai (rg b s hs 4 j d _ aS ((hA an):At ((w1.setCell ⟨w.heap.size+1,0,none⟩ (.int .i64 (dz s (K s i)))).setCell ⟨w.heap.size+1,1,none⟩ (.string (cD s (K s i)))) b s j d));rw [ak aN] at C;refine (ak C).mono ?_;rintro e I ⟨Z,bi,rfl,am,a2⟩;have ay:=ai (But.trans (x:=w) (eu ax) Z);have aO:=aE.but (g:=w.heap.size) (T:=159) (cM aH) Z aj;have al:aE I w.heap.size eC 159:=aO;have aB:=aE.but (g:=w.heap.size+1) (T:=159) (cM aD) Z aj;have Q:aE I (w.heap.size+1) #[.int .i64 (dz s (K s i)),.string (cD s (K s i)),.nilIface] 159:=aB;have aJ:=ai al;have ah:=ai Q;obtain ⟨ba,p1,p2⟩:=al.three;obtain ⟨aV,aW,aX⟩:=Q.three;have zq:=Q.fz;have bg:=Q.lt;have bh:w.heap.size<I.heap.size:=aj;have ap:=ai a2;obtain ⟨A,D,rfl⟩:=am.isI;have aP:=ai am;go_wp2_with fail;have av:=ai ((hA ap):At (I.setCell ⟨w.heap.size+1,2,none⟩ (.iface A D)) b s m d);have az:=ai ((eu ay):But b w (I.setCell ⟨w.heap.size+1,2,none⟩ (.iface A D)));have aQ:=ai (bB.set aP.u ah.u au 2 (.iface A D));have ad:aE (I.setCell ⟨w.heap.size+1,2,none⟩ (.iface A D)) (w.heap.size+1) (rh (dz s (K s i)) (cD s (K s i)) A D) 159:=ah.u.set 2 _;have R3:aE (I.setCell ⟨w.heap.size+1,2,none⟩ (.iface A D)) w.heap.size eC 159:=aJ.u.other ar _;generalize I.setCell ⟨w.heap.size+1,2,none⟩ (.iface A D)=W at*;have aF:=ai ad;have aK:=ai R3;obtain ⟨aV,aW,aX⟩:=ad.three;have a4:=R3.lt
 go_region_held3 (fun w'=>w'.cell? ⟨w.heap.size+1,0,none⟩=some (.int .i64 (dz s (K s i)))/\w'.cell? ⟨w.heap.size+1,1,none⟩=some (.string (cD s (K s i)))/\w'.cell? ⟨w.heap.size+1,2,none⟩=some (.iface A D)) (go_keep)
  ((go_at_call 169;refine (ak aG _ ?_).mono ?_;(exact av.u.drew);rintro e bj ⟨rfl,a3,U⟩;have aC:=aF.u.drew.but U aj;obtain ⟨a9,n1,n2⟩:=aC.three;have Y:=aK.u.drew.but U aj;obtain ⟨k0,k1,a8⟩:=Y.three;have bl:=aE.fz Y;have R:=ai Y;have ab:=ai a3;have aR:=ai (bB.but aQ.u (But.trans ((But.refl b W).drew) U));have ac:=ai (But.trans az.u.drew U)))
 go_wp2;refine bq (v:=.tuple #[.agg #[.int .i64 (dz s (K s i)),.string (cD s (K s i)),.iface A D],V]) (bR results172 _ _ w.heap.size _ 159 _ _ rfl rfl ?hB underlying159 rfl aw) rfl ?post
 case hB=>exact ⟨_,(cM R),bc⟩
 case post=>
  rcases ak aI with ⟨rfl,rfl⟩|⟨rfl,rfl⟩
  ·exact ⟨(eu ac),_,rfl,⟨_,rfl,bB.set (bB.set (bB.set aR.u R.u au 0 _) (R.u.set 0 _) au 1 _) ((R.u.set 0 _).set 1 _) au 2 _⟩,(hA ab)⟩
  exact ⟨(eu ac),_,d,rfl,⟨_,_,_,rfl,.inr ⟨_,_,rfl⟩⟩,(hA ab)⟩
def Ch(b s i d w)(hs:s.size<=500)(h:At w b s i d)(J:d+4=4):
  Calls prog 172 #[.pointer (some ⟨b,0,none⟩)] w (Post b s d w (lW (TT s) (PP s) i) (IG b) UC):=by
 unfold lW
 cases D:bZ (TT s) (sg 58) i with
 |error e=>exact UD b s i d w hs h e.1 e.2 (ai D)
 |ok y=>
  obtain ⟨⟨⟩,j⟩:=y
  cases A:fp (TT s) (PP s) 4 j with
  |error e=>simp only [A];exact Ns b s i d w hs h J e.1 j e.2 (ai D) (ai A)
  |ok y=>
   obtain ⟨x,m⟩:=y
   cases C:eqs (TT s m) (sg 59)
   ·simp only [A,C];exact IH b s i d w hs h J x j m _ _ _ (ai D) (ai A) (ai fun W I=>nf b s m d _ W I C) (ai (.inr ⟨rfl,rfl⟩))
   simp only [A,C];exact IH b s i d w hs h J x j m _ _ _ (ai D) (ai A) (ai fun W I=>ix b s m d _ W gz I C au) (ai (.inl ⟨rfl,rfl⟩))
end
abbrev gJ:=@Bool.eq_iff_iff
abbrev aQ:=@List.mem_append
abbrev cT:=@List.flatMap_append
abbrev eX:Array ag:=#[.int .i64 0,.string ⟨#[]⟩,.slice none 0 0]
abbrev iy(a0:Int)(a1:ae)(a2:Option Addr)(a3:Nat)(a4:Nat):Array ag:=#[.int .i64 a0,.string a1,.slice a2 a3 a4]
abbrev cY:Obj:=.cells #[.int .i64 0,.string ⟨#[]⟩,.slice none 0 0] 110
abbrev hI:Obj:=.cells #[.string ⟨#[125]⟩] 9
abbrev cE(a0:Int)(a1:ae)(a2:TypeId)(a3:ag):Obj:=.cells #[.int .i64 a0,.string a1,.iface a2 a3] 159
def zV(q:aU) (h:bF aU->aA:=by
 intro zq;have R4:=Kx.u.but b4 aj;have G4:=E9.u.but b4 aj;have B4:=ai (But.trans B3.u b4)
 revert R4 G4 B4
 exact zq.1):aA:=h ⟨q⟩
def Nt(q:aU) (h:bF aU->aA:=by
 intro zq;have A5:=ai (A4'.grown bE (own_ne xR A4'.pos.rd.blk au));have B5:=ai (But.grown (B4.u.trans (But.of_below b0)) bE (fun k hk=>(xR.lt k hk).1));have O5:=ai fg
 revert A5 B5 O5
 exact zq.1):aA:=h ⟨q⟩
def Tryz.info159:(Tryz.prog.info? 159).map (fun i=>(i.zero,i.size,i.bytes))=some (some (.agg #[.int .i64 0,.string ⟨#[]⟩,.nilIface]),3,40):=by kernel_rfl
def qi(p:Rl×ag):List ag:=[.int .i64 p.1.place,.string p.1.name,p.2]
def iz(base b:Nat)(w:af)(sv:ag)(rs:List Rl):Prop:=
 ∃l:List (Rl×ag),l.map Prod.fst=rs/\(∀p∈l,bB b w p.1.body p.2)/\w.ownsRow base 159 3 sv rs.length (l.flatMap qi)
def ax{base:Nat}(h:w.ownsRow base e size v n xs):∃a cap,v=.slice a n cap:=by
 rcases h.2 with ⟨rfl,rfl⟩|⟨g,cap,A,rfl,_⟩
 ·exact ⟨_,_,rfl⟩
 exact ⟨_,_,rfl⟩
def fi(b:Nat)(w w':af):Prop:=∀g cs T f,b+1<=g->w.heap[g]? =some (.cells cs T f)->(T=207\/T=159)->w'.heap[g]? =w.heap[g]?
def fi.of_but(h:But b w w'):fi b w w':=fun g cs T f C A _=>h.block g (lt_of_some A) aj
def fi.g(h:fi b w w'):oN b w w':=fun g cs f A C=>h g cs _ f A C (.inl rfl)
def iz.frame{base:Nat}(h:iz base b w sv rs)(k:fi b w w')(I:b+1<=base):iz base b w' sv rs:=by
 obtain ⟨l,h1,h2,A⟩:=h;exact ⟨l,h1,fun p D=>bB.frame k.g _ _ (h2 p D),ay A fun g cs f J C=>k g cs _ f aj C (.inr rfl)⟩
def iz.base{base:Nat}(h:iz base b w sv rs)(C:base'<=base):iz base' b w sv rs:=by
 obtain ⟨l,h1,h2,A⟩:=h;exact ⟨l,h1,h2,bg A C⟩
def fi.set{g}(C:aE w g cs T)(h1:T≠207)(h2:T≠159)(o u):fi b w (w.setCell ⟨g,o,none⟩ u):=
 fun g' D T' f I A h=>dN _ _ _ _ (fun (e':g'=g)=>by
  subst e';unfold aE at C;rw [C] at A;simp at A;obtain ⟨_,rfl,_⟩:=A
  rcases h with h|h
  ·exact h1 h
  exact h2 h)
def fi.trans{x}(h:fi b x y)(k:fi b y z):fi b x z:=fun g cs T f A C D=>(k g cs T f A ((h g cs T f A C D).trans C) D).trans (h g cs T f A C D)
def fi.below(h:an w w'):fi b w w':=fi.of_but (But.of_below h)
def dH{base:Nat}{g:Nat}{f:Nat×Nat}(h:w.ownsRow base e size v n xs)(D:w.heap[g]? =some (.cells cs T f))(I:T≠e):some g≠v.ownBlock:=by
 rcases h.2 with ⟨rfl,_⟩|⟨g',cap,J,rfl,Q,A,r⟩
 ·simp [Value.ownBlock]
 intro C;simp only [Value.ownBlock,aL] at C;subst C;rw [D] at A;simp at A;exact I A.2.1
def IJ(b:Nat)(w:af)(t:Ty)(v:ag):Prop:=∃sv,v=.agg #[.int .i64 t.place,.string t.name,sv]/\iz (b+1) b w sv t.rels
def UE(v:ag):Prop:=∃(p:Nat)(t:ae)(a:Option Addr)(n c:Nat),v=.agg #[.int .i64 p,.string t,.slice a n c]
def typeM(T:Nat->ae)(P:Nat->Nat)(i:Nat)(h:eI (List Rl)):eI Ty:=match h with
 | .error e=> .error e
 | .ok (rs,m)=> .ok (⟨T (i+1),P (i+1),rs⟩,m)
def UF(b s i d w)(hs:s.size<=500)(h:At w b s i d)(R:eqs (TT s i) jA=false):
  Calls prog 114 #[.pointer (some ⟨b,0,none⟩)] w (Post b s d w (.error (2,i):eI Ty) (IJ b) UE):=by
 have Y:=h.lt;have C:=ai h;go_enter func114,ntmps114;go_wp2_with fail;refine (nf b s i d jA _ ?_ R).mono ?_
 ·exact (hA C)
 rintro e w1 ⟨rfl,Q,b1⟩;have I:=ai (((But.refl b w).alloc _).alloc _ |>.trans b1);have A:=((aE.new w eX 110).alloc cY).but b1 aj;have G:=(aE.new' (w.alloc cY) eX 110 (w.heap.size+1) ar).but b1 aj;have J:=ai A;obtain ⟨Z,ab,ac⟩:=A.three;obtain ⟨g0,U,V⟩:=G.three;have ad:=A.fz;have D:=ai Q;unfold cj;go_wp2;refine bq (v:=.tuple #[.agg #[.int .i64 0,.string ⟨#[]⟩,.slice none 0 0],cj 2]) (bR results114 _ _ w.heap.size _ 110 _ _ rfl rfl ?hB underlying110 rfl aw) rfl ?post
 case hB=>exact ⟨_,(cM J),bc⟩
 case post=>exact ⟨(eu I),_,d,rfl,⟨0,_,_,_,_,rfl⟩,(hA D)⟩
def KB(b s i d w)(hs:s.size<=500)(h:At w b s i d)(ag:eqs (TT s i) jA=true)(c j)(ac:Hid (bZ (TT s) (sg 123) (i+1)=.error (c,j))):
  Calls prog 114 #[.pointer (some ⟨b,0,none⟩)] w (Post b s d w (.error (c,j):eI Ty) (IJ b) UE):=by
 have am:=h.lt;have I:Hid (s.size<=maxLen):=ai gz;have ab:=ai ag;have J:=ai h;go_enter func114,ntmps114;go_wp2_with fail;refine (ix b s i d jA _ (ak I) ?_ ab.u au).mono ?_
 ·exact (hA J)
 rintro e w1 ⟨rfl,ae,b1⟩;have U:=ai (((But.refl b w).alloc _).alloc _ |>.trans b1);have ad:=ai (((aE.new w eX 110).alloc cY).but b1 aj);have Y:=ai ((aE.new' (w.alloc cY) eX 110 (w.heap.size+1) ar).but b1 aj);have Q:=ai ae;have C:=ai (gx b s (i+1) d (sg 123) w1 (ak I) Q.u au);rw [ak ac] at C;go_wp2_with fail;refine (ak C).mono ?_;rintro e ax ⟨D,v,d2,rfl,⟨p,t,rfl⟩,af⟩;have V:=ai (But.trans U.u D);have A:=ad.u.but D aj;have G:=Y.u.but D aj;have Z:=ai A;obtain ⟨an,ap,av⟩:=A.three;obtain ⟨g0,ah,al⟩:=G.three;have az:=A.fz;have ay:=G.fz;have R:=ai af;unfold cj;go_wp2;refine bq (v:=.tuple #[.agg #[.int .i64 p,.string t,.slice none 0 0],cj c]) (bR results114 _ _ w.heap.size _ 110 _ _ rfl rfl ?hB underlying110 rfl aw) rfl ?post
 case hB=>exact ⟨_,(cM Z),bc⟩
 case post=>exact ⟨(eu V),_,d2,rfl,⟨p,t,_,_,_,rfl⟩,(hA R)⟩
def UG(b s i d w)(hs:s.size<=500)(h:At w b s i d)(bk:d+4=4)(bl:eqs (TT s i) jA=true)(j)(cf:Hid (bZ (TT s) (sg 123) (i+1)=.ok ((),j))):
  Calls prog 114 #[.pointer (some ⟨b,0,none⟩)] w (Post b s d w (typeM (TT s) (PP s) i (dv (TT s) (PP s) 512 [] j)) (IJ b) UE):=by
 obtain ⟨i0,hi,bv,bw,bx⟩:=bK Tryz.info159;have b6:=ai hi;have b9:=ai bv;have cb:=ai bw;have cd:=ai bx;clear hi bv bw bx;generalize bh:dv (TT s) (PP s) 512 [] j=ae;have b8:=ai bh;clear bh;have cW:=h.lt;have aY:Hid (s.size<=maxLen):=ai gz;have ce:=ai bl;have bM:=ai h;clear h bl;go_enter func114,ntmps114;go_wp2_with fail;refine (ix b s i d jA _ (ak aY) ?_ ce.u au).mono ?_
 ·exact (hA bM)
 rintro e w1 ⟨rfl,a1,b1⟩;have bS:=ai (((But.refl b w).alloc _).alloc _ |>.trans b1);have cg:=ai (((aE.new w eX 110).alloc cY).but b1 aj);have bX:=ai ((aE.new' (w.alloc cY) eX 110 (w.heap.size+1) ar).but b1 aj);have bO:=ai a1;clear a1 b1;have C:=ai (gx b s (i+1) d (sg 123) w1 (ak aY) bO.u au);rw [ak cf] at C;go_wp2_with fail;refine (ak C).mono ?_;rintro e c6 ⟨aN,v,rfl,rfl,a2⟩;have bT:=ai (But.trans bS.u aN);have ae:=cg.u.but aN aj;have G:=bX.u.but aN aj;have ad:=ai ae;have b3:=ai G;obtain ⟨cF,cG,cH⟩:=ae.three;obtain ⟨g0,co,cp⟩:=G.three;have cP:=ae.fz;have cO:=G.fz;have bP:=ai a2;clear a2 aN ae G C;unfold xn;go_wp2_with fail
 go_loopg [7] 512 (fun k c5 wr=>∃(rs:List Rl)(j:Nat)(sv:ag),But b w wr/\At wr b s j d/\512<=k+j/\rs.length<=j/\aE wr w.heap.size eX 110/\
  aE wr (w.heap.size+1) #[.int .i64 (dz s (K s (i+1))),.string (cD s (K s (i+1))),sv] 110/\iz w.heap.size b wr sv rs/\Hid (dv (TT s) (PP s) k rs j=ae))
 case atStart=>exact ⟨[],j,_,(eu bT),(hA bP),aj,ar,(ad.u.other ar _).other ar _,(b3.u.set 0 _).set 1 _,⟨[],rfl,ar,bL⟩,b8⟩
 case round=>
  obtain ⟨rs,j,sv,bi,ha,hk,cX,aO,am,cy,bb⟩:=hrel;have cR:12<=gk:=by have:=ha.le;omega
  obtain ⟨cm,rfl⟩:∃f,gk=f+1:=⟨gk-1,aj⟩;obtain ⟨l,bn,bo,a7⟩:=cy;obtain ⟨sa,sc,rfl⟩:=ax a7;have Z:=ai ha;have aH:=ai bi;have ad:=ai aO;have ah:=ai am;have aI:=ai bn;have aJ:=ai bo;have aK:=ai a7;have ab:=ak bb;obtain ⟨t0,t1,t2⟩:=am.three;obtain ⟨av,ay,aB⟩:=aO.three;have aC:=aO.fz;have bH:=am.fz;have br:=am.lt;have bs:w.heap.size<wr.heap.size:=aj;have n1:=ha.pos.rd.c1;have n2:=ha.pos.rd.c2;have bp:=ha.lt;unfold dv at ab;clear ha bi aO am bn bo a7 bb cF cG cH g0 co cp cP cO
  cases h1:eqs (TT s j) (sg 125)
  ·simp only [h1,Bool.false_eq_true,aV] at ab;have be:Hid (iz w.heap.size b wr (.slice sa rs.length sc) rs):=ai ⟨l,aI.u,aJ.u,aK.u⟩;have V:=ai ab;clear ab;go_wp2_with fail;refine (ats b s j d _ _ (sg 125) _ ?_ ?_).mono ?_
   ·exact (hA Z)
   ·exact db _ _ _ _ ar
   rintro e w1 ⟨rfl,rfl⟩;rw [h1]
   go_upto_region 9 with fail
   go_cut [38] (fun c cJ=>c=.bool (dl (TT s j)&&rs.length==6)/\Below (wr.alloc hI).heap.size (wr.alloc hI) cJ)
   case first=>
    go_wp2_with fail;refine (lV _ _ _ (qg s (K s j) gz Z.u.pos.le)).mono ?_;rintro e aX ⟨rfl,J⟩;obtain ⟨aR,aS,aW⟩:=((ah.u.alloc hI).below J).three;rw [show dl (cD s (K s j))=dl (TT s j) from rfl];have b2:=ai (show (rs.length==6)=((rs.length:Int)==6) from gJ.2 (by rw [dA,dA];omega))
    cases cx:dl (TT s j)<;>cases cq:((rs.length:Int)==6)
    all_goals
     go_wp2
     go_meet
     exact ⟨by rw [cx,b2.u,cq];rfl,J⟩
   case rest=>
    obtain ⟨rfl,J⟩:=hcut;obtain ⟨aX,cz⟩:∃z,z=wc:=⟨_,rfl⟩;subst cz;have aF:=ai ((show At (wr.alloc hI) b s j d from (hA Z)).below J);have B3:=ai ((show But b w (wr.alloc hI) from (eu aH)).trans (But.of_below J));have I:=(ah.u.alloc hI).below J;have R3:=(ad.u.alloc hI).below J;have aZ:=ai ((ak be).frame ((fi.below (b:=b) ((az _ wr).alloc aD hI)).trans (fi.below J)) aj);clear J t0 t1 t2 av ay aB aC bH n1 n2 Z aH ad ah aI aJ aK br bs be bp;have E9:=ai I;have Kx:=ai R3;obtain ⟨aR,aS,aW⟩:=I.three;obtain ⟨av,ay,aB⟩:=R3.three;have aC:=R3.fz;have zq:=I.fz;have cQ:=I.lt;have cr:=R3.lt;have bp:=aF.u.lt;clear I R3
    cases cu:(dl (TT s j)&&rs.length==6)<;>rw [cu] at V
    ·skip
     cases ap:lW (TT s) (PP s) j with
     |error e=>
      obtain ⟨cl,bz⟩:=e;have C:=ai (Ch b s j d aX hs aF.u bk);rw [ap] at C V;clear ap;go_wp2_with fail;refine (ak C).mono ?_;rintro e D ⟨b4,cI,d4,rfl,⟨c3,c4,ck,rfl,cw⟩,a4⟩;refine zV ?_;intro R4 G4 B4;have ac:=ai a4;have Y:=ai R4;obtain ⟨bA,bC,bD⟩:=R4.three;obtain ⟨k0,k1,a9⟩:=G4.three;have bJ:=R4.fz;have cL:=G4.lt;have cN:w.heap.size<D.heap.size:=aj;clear a4 b4 R4 G4 aR aS aW av ay aB aC zq C;unfold cj
      rcases cw with rfl|⟨R,U,rfl⟩
      all_goals
       go_wp2;rw [<-ak V];refine bq (v:=.tuple #[.agg #[.int .i64 (dz s (K s (i+1))),.string (cD s (K s (i+1))),.slice sa rs.length sc],cj cl]) (bR results114 _ _ w.heap.size _ 110 _ _ rfl rfl ?hB underlying110 rfl aw) rfl ?post
       case hB=>exact ⟨_,(cM Y),bc⟩
       case post=>exact ⟨(eu B4),_,d4,rfl,⟨_,_,_,_,_,rfl⟩,(hA ac)⟩
     |ok y=>
      obtain ⟨A,bz⟩:=y;have C:=ai (Ch b s j d aX hs aF.u bk);have cV:=od _ _ _ _ _ ap;rw [ap] at C V;clear ap;go_wp2_with fail;refine (ak C).mono ?_;rintro e D ⟨b4,cI,rfl,⟨ck,rfl,a8⟩,a4⟩;refine zV ?_;intro R4 G4 B4;have a5:=ai (aZ.u.frame (fi.of_but b4) aj);have ac:=ai a4;have Y:=ai R4;have b5:=ai G4;obtain ⟨bA,bC,bD⟩:=R4.three;obtain ⟨k0,k1,a9⟩:=G4.three;have bJ:=R4.fz;have bG:=G4.fz;have cL:=G4.lt;have cN:w.heap.size<D.heap.size:=aj;clear a4 b4 R4 G4 aR aS aW av ay aB aC zq C;obtain ⟨R,U,rfl⟩:=a8.isI;have ch:=ai a8;have cZ:=ac.u.le;clear a8;obtain ⟨ba,e1,bf,bg⟩:=a5.u;have bV:=ai e1;have bW:=ai bf;have E3:=ai bg;clear e1 bf bg;unfold cj at*;go_wp2_with (at_builtin;go_must (refine bI _ rfl _ _ 108 rfl w.heap.size 159 i0 _ 3 40 underlying108 b6.u b9.u cb.u cd.u rfl au (.slice sa rs.length sc) rs.length (ba.flatMap qi) rfl ?hown ⟨D.heap.size+1,0,none⟩ 1 1 (qi (A,.iface R U)) rfl rfl ?hnews ?hone au ?h63 ?hbytes ?hbase (D.heap.size+2) ?hH ?hrest))
      case hown=>exact (E3.u.alloc _).alloc _
      case hnews=>exact bu (B:=D.heap.size+1) (cs:=#[.int .i64 A.place,.string A.name,.iface R U]) (t:=159) (fr:=(0,0)) (aE.new' (D.alloc _) _ _ _ ar)
      case hone=>
       intro u bt;simp [qi] at bt
       rcases bt with rfl|rfl|rfl<;>rfl
      case h63=>unfold maxLen;omega
      case hbytes=>omega
      case hbase=>simp;omega
      case hH=>simp
      case hrest=>
       intro g5 aT w5 fg bE ct cU;have b0:an D ((D.alloc (cE A.place A.name R U)).alloc (cE A.place A.name R U)):=(bj.alloc aD _).alloc ar _;have aG:=b5.u.below b0;have aL:=Y.u.below b0;have A4':=ac.u.below b0;have xR:=(E3.u.alloc (cE A.place A.name R U)).alloc (cE A.place A.name R U);have a6:oN b D w5:=fun g cs f cS aP=>(bE.block g (cK (lt_of_some aP) b0.size) (dH xR ((b0.block g (lt_of_some aP)).trans aP) au)).trans (b0.block g (lt_of_some aP))
       have ci:=ai (show ∀p∈ba++[(A,Value.iface R U)],bB b w5 p.1.body p.2 from fun p Q=>by
        rw [aQ] at Q
        rcases Q with Q|Q
        ·exact bB.frame a6 _ _ (bW.u p Q)
        simp at Q;subst Q;exact bB.frame a6 _ _ ch.u)
       have af:=ai (show aE w5 (w.heap.size+1) (iy (dz s (K s (i+1))) (cD s (K s (i+1))) sa rs.length sc) 110 from (bE.block _ aG.lt (own_ne xR aG au)).trans aG);have b7:=ai (show aE w5 w.heap.size eX 110 from (bE.block _ aL.lt (own_ne xR aL au)).trans aL);refine Nt ?_;intro A5 B5 O5;obtain ⟨cA,cB,cC⟩:=af.u.three;have c7:=af.u.fz;clear b0 aG aL A4' xR a6 fg bE ct bA bC bD k0 k1 a9 bJ bG;go_wp2
       go_roundg cm
       case measure=>omega
       case rel=>exact ⟨rs++[A],bz,_,(eu B5),(hA A5),aj,aM,(cM b7),af.u.set 2 _,⟨ba++[(A,.iface R U)],by simp [bV.u],fun p Q=>bB.set (ci.u p Q) af.u au 2 _,by rw [List.length_append,cT];exact bN O5.u af.u au 2 _⟩,V⟩
    go_wp2;rw [<-ak V];refine bq (v:=.tuple #[.agg #[.int .i64 (dz s (K s (i+1))),.string (cD s (K s (i+1))),.slice sa rs.length sc],cj 3]) (bR results114 _ _ w.heap.size _ 110 _ _ rfl rfl ?hB underlying110 rfl aw) rfl ?post
    case hB=>exact ⟨_,(cM Kx),bc⟩
    case post=>exact ⟨(eu B3),_,d,rfl,⟨_,_,_,_,_,rfl⟩,(hA aF)⟩
  simp only [h1,if_true] at ab;have V:=ai ab;have bY:=ai h1;clear ab;go_wp2_with fail;refine (ats b s j d _ _ (sg 125) _ ?_ ?_).mono ?_
  ·exact (hA Z)
  ·exact db _ _ _ _ ar
  rintro e w1 ⟨rfl,rfl⟩;rw [h1];clear h1;go_wp2_with fail;have bQ:=ai (show At (wr.alloc hI) b s j d from (hA Z));have bU:=ai (show But b w (wr.alloc hI) from (eu aH));have I:=ah.u.alloc hI;have R3:=ad.u.alloc hI;have aZ:=ai (iz.frame (base:=w.heap.size) ⟨l,aI.u,aJ.u,aK.u⟩ (fi.below (b:=b) ((az _ wr).alloc aD hI)) aj);generalize wr.alloc hI=W at*;clear t0 t1 t2 av ay aB aC bH n1 n2 Z aH ad ah aI aJ aK br bs;have E9:=ai I;have Kx:=ai R3;obtain ⟨aR,aS,aW⟩:=I.three;have cr:=R3.lt;clear I R3
  go_region_held3 (fun w'=>w'.cell? ⟨w.heap.size+1,0,none⟩=some (.int .i64 (dz s (K s (i+1))))/\w'.cell? ⟨w.heap.size+1,1,none⟩=some (.string (cD s (K s (i+1))))/\w'.cell? ⟨w.heap.size+1,2,none⟩=some (.slice sa rs.length sc)) (go_keep)
   ((go_at_call 169;refine (ix b s j d (sg 125) _ (ak aY) ?_ bY.u au).mono ?_;(exact bQ.u.drew);rintro e aX ⟨rfl,a3,al⟩;have G4:=E9.u.drew.but al aj;obtain ⟨k0,k1,a9⟩:=G4.three;have R4:=Kx.u.drew.but al aj;obtain ⟨cA,cB,cC⟩:=R4.three;have bG:=aE.fz R4;have Y:=ai R4;have ac:=ai a3;have a5:=ai (aZ.u.frame (fi.of_but (But.trans ((But.refl b W).drew) al)) aj);have B4:=ai (But.trans bU.u.drew al);clear G4 R4 a3 al))
  go_wp2;rw [<-ak V];refine bq (v:=.tuple #[.agg #[.int .i64 (dz s (K s (i+1))),.string (cD s (K s (i+1))),.slice sa rs.length sc],.nilIface]) (bR results114 _ _ w.heap.size _ 110 _ _ rfl rfl ?hB underlying110 rfl aw) rfl ?post
  case hB=>exact ⟨_,(cM Y),bc⟩
  case post=>exact ⟨(eu B4),_,rfl,⟨_,rfl,(a5.u.frame ((fi.set Y.u au au 0 _).trans ((fi.set (Y.u.set 0 _) au au 1 _).trans (fi.set ((Y.u.set 0 _).set 1 _) au au 2 _))) aj).base aj⟩,(hA ac)⟩
section
abbrev o3:Array ag:=#[.slice none 0 0]
abbrev o4:Obj:=.cells #[.string ⟨#[]⟩] 9
abbrev o5:Obj:=.cells #[.string ⟨#[116,121,112,101]⟩] 9
abbrev bD(a0:Int)(a1:ae)(a2:Option Addr)(a3:Nat)(a4:Nat):Obj:=.cells #[.int .i64 a0,.string a1,.slice a2 a3 a4] 110
def xS(b s i d w)(hs:s.size<=500)(h:At w b s i d)(C:d+4=4):
  Calls prog 114 #[.pointer (some ⟨b,0,none⟩)] w (Post b s d w (ly (TT s) (PP s) i) (IJ b) UE):=by
 unfold ly
 cases A:eqs (TT s i) jA
 ·simp only [Bool.false_eq_true,aV];exact UF b s i d w hs h A
 ·simp only [if_true]
  cases hn:bZ (TT s) (sg 123) (i+1) with
  |error e=>exact KB b s i d w hs h A e.1 e.2 (ai hn)
  |ok y=>
   obtain ⟨⟨⟩,j⟩:=y;exact UG b s i d w hs h C A j (ai hn)
def Tryz.info110:(Tryz.prog.info? 110).map (fun i=>(i.zero,i.size,i.bytes))=some (some (.agg #[.int .i64 0,.string ⟨#[]⟩,.slice none 0 0]),3,48):=by kernel_rfl
def qj(p:Ty×ag):List ag:=[.int .i64 p.1.place,.string p.1.name,p.2]
def kQ(base b:Nat)(w:af)(sv:ag)(ts:List Ty):Prop:=
 ∃l:List (Ty×ag),l.map Prod.fst=ts/\(∀p∈l,iz (b+1) b w p.2 p.1.rels)/\w.ownsRow base 110 3 sv ts.length (l.flatMap qj)
def iu(b:Nat)(w w':af):Prop:=∀g cs T f,b+1<=g->w.heap[g]? =some (.cells cs T f)->(T=207\/T=159\/T=110)->w'.heap[g]? =w.heap[g]?
def iu.of_but(h:But b w w'):iu b w w':=fun g cs T f C A _=>h.block g (lt_of_some A) aj
def iu.below(h:an w w'):iu b w w':=iu.of_but (But.of_below h)
def iu.r(h:iu b w w'):fi b w w':=fun g cs T f A C D=>h g cs T f A C (by rcases D with h|h;exact .inl h;exact .inr (.inl h))
def iu.trans{x}(h:iu b x y)(k:iu b y z):iu b x z:=fun g cs T f A C D=>(k g cs T f A ((h g cs T f A C D).trans C) D).trans (h g cs T f A C D)
variable {g:Nat}
def iu.set(C:aE w g cs T)(h1:T≠207)(h2:T≠159)(D:T≠110)(o u):iu b w (w.setCell ⟨g,o,none⟩ u):=
 fun g' I T' f J A h=>dN _ _ _ _ (fun (e':g'=g)=>by
  subst e';unfold aE at C;rw [C] at A;simp at A;obtain ⟨_,rfl,_⟩:=A
  rcases h with h|h|h
  ·exact h1 h
  ·exact h2 h
  exact D h)
def kQ.frame{base:Nat}(h:kQ base b w sv ts)(k:iu b w w')(I:b+1<=base):kQ base b w' sv ts:=by
 obtain ⟨l,h1,h2,A⟩:=h;exact ⟨l,h1,fun p D=>(h2 p D).frame k.r aD,ay A fun g cs f J C=>k g cs _ f aj C (.inr (.inr rfl))⟩
def kQ.base{base:Nat}(h:kQ base b w sv ts)(C:base'<=base):kQ base' b w sv ts:=by
 obtain ⟨l,h1,h2,A⟩:=h;exact ⟨l,h1,h2,bg A C⟩
def RepM(b:Nat)(w:af)(ts:List Ty)(v:ag):Prop:=∃sv,v=.agg #[sv]/\kQ (b+1) b w sv ts
def IsM(v:ag):Prop:=∃(a:Option Addr)(n c:Nat),v=.agg #[.slice a n c]
def Fa(b s d w)(hs:s.size<=500)(h:At w b s 0 d)(aZ:d+4=4):
  Calls prog 72 #[.pointer (some ⟨b,0,none⟩)] w (Post b s d w (eg (TT s) (PP s)) (RepM b) IsM):=by
 obtain ⟨i0,hi,a7,a8,a9⟩:=bK Tryz.info110;have bl:=ai hi;have bt:=ai a7;have bv:=ai a8;have bw:=ai a9;clear hi a7 a8 a9;unfold eg;generalize aX:cS (TT s) (PP s) 512 [] 0=bA;have bs:=ai aX;clear aX;have cf:=h.lt;have bf:=ai h;clear h;go_enter func72,ntmps72;go_wp2_with fail
 go_loopg [6] 512 (fun k cl wr=>∃(ts:List Ty)(j:Nat)(sv:ag),But b w wr/\At wr b s j d/\512<=k+j/\ts.length<=j/\aE wr w.heap.size o3 75/\
  aE wr (w.heap.size+1) #[sv] 75/\kQ w.heap.size b wr sv ts/\Hid (cS (TT s) (PP s) k ts j=bA))
 case atStart=>exact ⟨[],0,_,((But.refl b w).alloc _).alloc _,(hA bf),aj,ar,(aE.new w _ _).alloc _,aE.new' (w.alloc _) _ _ _ ar,⟨[],rfl,ar,bL⟩,bs⟩
 case round=>
  obtain ⟨ts,j,sv,aY,ha,hk,cg,ap,ac,bU,aP⟩:=hrel;have b9:12<=gk:=by have:=ha.le;omega
  obtain ⟨bH,rfl⟩:∃f,gk=f+1:=⟨gk-1,aj⟩;obtain ⟨l,aJ,aK,ay⟩:=bU;obtain ⟨sa,sc,rfl⟩:=ax ay;have aH:Hid (kQ w.heap.size b wr (.slice sa ts.length sc) ts):=ai ⟨l,aJ,aK,ay⟩;have V:=ai ha;have aF:=ai aY;have al:=ai ap;have aR:=ai ac;have bn:=ai aJ;have bo:=ai aK;have bp:=ai ay;have U:=ak aP;have t0:=ac.cell (o:=0) rfl;have Y:=ap.cell (o:=0) rfl;simp only [List.getElem_toArray,List.getElem_cons_zero] at t0 Y;have aC:=ap.fz;have b6:=ac.fz;have bS:=ac.lt;have bT:w.heap.size<wr.heap.size:=aj;have a5:=ha.lt;unfold cS at U;clear ha aY ap ac aJ aK ay aP
  cases h1:eqs (TT s j) em
  ·simp only [h1,Bool.false_eq_true,aV] at U;have R:=ai U;clear U;go_wp2_with fail;refine (ats b s j d _ _ em _ ?_ ?_).mono ?_
   ·exact (hA V)
   ·exact db _ _ _ _ ar
   rintro e w1 ⟨rfl,rfl⟩;rw [h1]
   go_upto_region 3 with fail
   go_cut [19] (fun c bZ=>c=.bool (eqs (TT s j) jA&&ts.length==5)/\bZ=((wr.alloc o4).alloc o5))
   case first=>
    go_wp2_with fail;refine (ats b s j d _ _ jA _ ?_ ?_).mono ?_
    ·exact (hA V)
    ·exact db _ _ _ _ ar
    rintro e w1 ⟨rfl,rfl⟩;have bi:=ai (show (ts.length==5)=((ts.length:Int)==5) from gJ.2 (by rw [dA,dA];omega))
    cases h2:eqs (TT s j) jA<;>cases bM:((ts.length:Int)==5)
    all_goals
     go_wp2
     go_meet
     exact ⟨by rw [h2,bi.u,bM];rfl,rfl⟩
   case rest=>
    obtain ⟨rfl,rfl⟩:=hcut;have ae:=ai (show At ((wr.alloc o4).alloc o5) b s j d from (hA V));have B3:=ai (show But b w ((wr.alloc o4).alloc o5) from (eu aF));have Z:=(aR.u.alloc o4).alloc o5;have R3:=(al.u.alloc o4).alloc o5;have bx:=ai ((ak aH).frame (iu.below (b:=b) (((az _ wr).alloc aD o4).alloc ar o5)) aj);generalize (wr.alloc o4).alloc o5=bb at*;clear t0 Y aC b6 V aF al aR bn bo bp bS bT aH a5;have E9:=ai Z;have Kx:=ai R3;have aO:=Z.cell (o:=0) rfl;have Y:=R3.cell (o:=0) rfl;simp only [List.getElem_toArray,List.getElem_cons_zero] at aO Y;have aC:=R3.fz;have zq:=Z.fz;have b7:=Z.lt;have b8:=R3.lt;have a5:=ae.u.lt;clear Z R3
    cases bP:(eqs (TT s j) jA&&ts.length==5)<;>rw [bP] at R
    ·skip
     cases ad:ly (TT s) (PP s) j with
     |error e=>
      obtain ⟨bG,ba⟩:=e;have C:=ai (xS b s j d bb hs ae.u aZ);rw [ad] at C R;clear ad;go_wp2_with fail;refine (ak C).mono ?_;rintro e A ⟨b4,bY,d4,rfl,⟨ci,ck,I,Q,J,rfl⟩,a4⟩;refine zV ?_;intro R4 G4 B4;have af:=ai a4;have aG:=ai R4;have aB:=R4.cell (o:=0) rfl;have k0:=G4.cell (o:=0) rfl;simp only [List.getElem_toArray,List.getElem_cons_zero] at aB k0;have be:=R4.fz;have b2:=G4.lt;have b3:w.heap.size<A.heap.size:=aj;clear a4 b4 R4 G4 aO Y aC zq C;unfold cj;go_wp2;rw [<-ak R];refine bq (v:=.tuple #[.agg #[.slice sa ts.length sc],cj bG]) (bR results72 _ _ w.heap.size _ 75 _ _ rfl rfl ?hB underlying75 rfl aw) rfl ?post
      case hB=>exact ⟨_,(cM aG),bc⟩
      case post=>exact ⟨(eu B4),_,d4,rfl,⟨_,_,_,rfl⟩,(hA af)⟩
     |ok y=>
      obtain ⟨t4,ba⟩:=y;have C:=ai (xS b s j d bb hs ae.u aZ);have ce:=uy _ _ _ _ _ ad;rw [ad] at C R;clear ad;go_wp2_with fail;refine (ak C).mono ?_;rintro e A ⟨b4,bY,rfl,⟨bX,rfl,aL⟩,a4⟩;refine zV ?_;intro R4 G4 B4;have bz:=ai (bx.u.frame (iu.of_but b4) aj);have af:=ai a4;have aG:=ai R4;have bk:=ai G4;have aB:=R4.cell (o:=0) rfl;have k0:=G4.cell (o:=0) rfl;simp only [List.getElem_toArray,List.getElem_cons_zero] at aB k0;have be:=R4.fz;have b5:=G4.fz;have b2:=G4.lt;have b3:w.heap.size<A.heap.size:=aj;clear a4 b4 R4 G4 aO Y aC zq C;have bQ:∃a n c,bX=.slice a n c:=by
       obtain ⟨_,_,_,bJ⟩:=aL;obtain ⟨a,c,h⟩:=ax bJ;exact ⟨a,_,c,h⟩
      obtain ⟨I,Q,J,rfl⟩:=bQ;have bB:=ai aL;have ch:=af.u.le;clear aL;obtain ⟨aN,e1,aS,aW⟩:=bz.u;have bg:=ai e1;have bh:=ai aS;have E3:=ai aW;clear e1 aS aW;go_wp2_with (at_builtin;go_must (refine bI _ rfl _ _ 73 rfl w.heap.size 110 i0 _ 3 48 underlying73 bl.u bt.u bv.u bw.u rfl au (.slice sa ts.length sc) ts.length (aN.flatMap qj) rfl ?hown ⟨A.heap.size+1,0,none⟩ 1 1 (qj (t4,.slice I Q J)) rfl rfl ?hnews ?hone au ?h63 ?hbytes ?hbase (A.heap.size+2) ?hH ?hrest))
      case hown=>exact (E3.u.alloc _).alloc _
      case hnews=>exact bu (B:=A.heap.size+1) (cs:=#[.int .i64 t4.place,.string t4.name,.slice I Q J]) (t:=110) (fr:=(0,0)) (aE.new' (A.alloc _) _ _ _ ar)
      case hone=>
       intro u a6;simp [qj] at a6
       rcases a6 with rfl|rfl|rfl<;>rfl
      case h63=>unfold maxLen;omega
      case hbytes=>omega
      case hbase=>simp;omega
      case hH=>simp
      case hrest=>
       intro g5 aT w5 fg bE bO cd;have b0:an A ((A.alloc (bD t4.place t4.name I Q J)).alloc (bD t4.place t4.name I Q J)):=(bj.alloc aD _).alloc ar _;have ah:=bk.u.below b0;have am:=aG.u.below b0;have A4':=af.u.below b0;have xR:=(E3.u.alloc (bD t4.place t4.name I Q J)).alloc (bD t4.place t4.name I Q J);have aI:fi b A w5:=fun g cs T f cb av bV=>(bE.block g (cK (lt_of_some av) b0.size) (dH xR ((b0.block g (lt_of_some av)).trans av) (by rcases bV with rfl|rfl<;>decide))).trans (b0.block g (lt_of_some av))
       have bC:=ai (show ∀p∈aN++[(t4,Value.slice I Q J)],iz (b+1) b w5 p.2 p.1.rels from fun p D=>by
        rw [aQ] at D
        rcases D with D|D
        ·exact (bh.u p D).frame aI aD
        simp at D;subst D;exact bB.u.frame aI aD)
       have ab:=ai (show aE w5 (w.heap.size+1) #[.slice sa ts.length sc] 75 from (bE.block _ ah.lt (own_ne xR ah au)).trans ah);have br:=ai (show aE w5 w.heap.size o3 75 from (bE.block _ am.lt (own_ne xR am au)).trans am);refine Nt ?_;intro A5 B5 O5;have bW:=ab.u.cell (o:=0) rfl;simp only [List.getElem_toArray,List.getElem_cons_zero] at bW;have cm:=ab.u.fz;clear b0 ah am A4' xR aI fg bE bO aB k0 be b5;go_wp2
       go_roundg bH
       case measure=>omega
       case rel=>exact ⟨ts++[t4],ba,_,(eu B5),(hA A5),aj,aM,(cM br),ab.u.set 0 _,⟨aN++[(t4,.slice I Q J)],by simp [bg.u],fun p D=>(bC.u p D).frame (fi.set ab.u au au 0 _) aD,by rw [List.length_append,cT];exact bN O5.u ab.u au 0 _⟩,R⟩
    go_wp2;rw [<-ak R];refine bq (v:=.tuple #[.agg #[.slice sa ts.length sc],cj 3]) (bR results72 _ _ w.heap.size _ 75 _ _ rfl rfl ?hB underlying75 rfl aw) rfl ?post
    case hB=>exact ⟨_,(cM Kx),bc⟩
    case post=>exact ⟨(eu B3),_,d,rfl,⟨_,_,_,rfl⟩,(hA ae)⟩
  simp only [h1,if_true] at U;have R:=ai U;clear U;go_wp2_with fail;refine (ats b s j d _ _ em _ ?_ ?_).mono ?_
  ·exact (hA V)
  ·exact db _ _ _ _ ar
  rintro e w1 ⟨rfl,rfl⟩;rw [h1];go_wp2;rw [<-ak R];refine bq (v:=.tuple #[.agg #[.slice sa ts.length sc],.nilIface]) (bR results72 _ _ w.heap.size _ 75 _ _ rfl rfl ?hB underlying75 rfl aw) rfl ?post
  case hB=>exact ⟨_,(cM al),bc⟩
  case post=>exact ⟨(eu aF),_,rfl,⟨_,rfl,((ak aH).frame ((iu.set al.u au au au 0 _).trans (iu.below (bj.alloc aD _))) aj).base aj⟩,(hA V)⟩
end
section
abbrev cq:=@List.flatMap_cons
abbrev kR:=@List.getElem?_eq_none
abbrev Fb:=@List.getElem?_take_of_lt
abbrev aI:=@Value.slice.injEq
abbrev ce:=@Addr.mk.injEq
abbrev kS:=@List.findIdx?_eq_some_iff_getElem
abbrev o6:=@List.findIdx?_eq_none_iff
def ni (h:aA:=by
 simpa using h):aA:=h
def Nu (h:aA:=by
 rintro e C ⟨rfl,hb2⟩;rw [He.u];exact Nv):aA:=h
def Nw (h:aA:=by
 rintro e D ⟨rfl,C⟩;rw [He.u];have A:=ai (HB.u.trans (C.mono HB.u.size));go_wp2;go_ret;exact ⟨by rw [qe.u];rfl,A.u⟩):aA:=h
def Nx (h:aA:=by
 have A:=ai (IK x l (fun j h=>ak KC j h aj));go_wp2;go_ret;exact ⟨by rw [A.u];rfl,HB.u⟩):aA:=h
def Nv (h:aA:=by
 have A:=ai (HB.u.trans (hb2.mono HB.u.size));go_wp2;go_roundw
 case rel=>exact ⟨k+1,aj,by go_num,A.u,Hn⟩
 case measure=>simp [intOf];omega):aA:=h
abbrev E3:=Nat×ae×ag
def c3(e:E3):List ag:=[.int .i64 e.1,.string e.2.1,e.2.2]
def hJ(w:af)(T:TypeId)(v:ag)(l:List E3):Prop:=w.ownsRow 0 T 3 v l.length (l.flatMap c3)
def xT(e):∀(l:List E3)(i:Nat),l[i]? =some e->(l.flatMap c3)[i*3]? =some (.int .i64 e.1)/\(l.flatMap c3)[i*3+1]? =some (.string e.2.1)/\(l.flatMap c3)[i*3+2]? =some e.2.2
 | [],i,h=>by simp at h
 |e'::l,0,h=>by simp at h;subst h;simp [cq,c3]
 |e'::l,i+1,h=>by
  have:=xT e l i ni;rw [cq,show (i+1)*3=i*3+3 by omega]
  simpa [c3] using this
variable {base:Nat}
def aS(h:w.ownsRow base e size v n xs)(k u)(A:xs[k]? =some u):∃g c,v=.slice (some ⟨g,0,none⟩) n c/\w.cell? ⟨g,k,none⟩=some u:=by
 have C:k<xs.length:=by
  rcases gh k xs.length with h|h
  ·exact h
  rw [kR h] at A;cases A
 rcases h with ⟨h1,⟨rfl,rfl⟩|⟨g,cap,Q,rfl,Y,I,R,U,V,D⟩⟩
 ·simp at h1;rw [h1] at C;simp at C
 refine ⟨g,cap,rfl,?_⟩;rw [<-D] at A;have J:k<n*size:=aj;rw [Fb J] at A
 simpa [World.cell?,I] using A
def hJ.cell{l}(h:hJ w T v l)(i)(hi:i<l.length):
  ∃g c,v=.slice (some ⟨g,0,none⟩) l.length c/\w.cell? ⟨g,i*3,none⟩=some (.int .i64 l[i].1)/\w.cell? ⟨g,i*3+1,none⟩=some (.string l[i].2.1)/\w.cell? ⟨g,i*3+2,none⟩=some l[i].2.2:=by
 obtain ⟨h0,h1,h2⟩:=xT l[i] l i (aH hi);obtain ⟨g,c,rfl,e0⟩:=aS h _ _ h0;obtain ⟨g',D,e',e1⟩:=aS h _ _ h1;obtain ⟨J,I,A,C⟩:=aS h _ _ h2;simp only [aI,aL,ce] at e' A;obtain ⟨⟨rfl,_⟩,_⟩:=e';obtain ⟨⟨rfl,_⟩,_⟩:=A;exact ⟨g,c,rfl,e0,e1,C⟩
def hJ.below{l}(h:hJ w T v l)(k:an w w'):hJ w' T v l:=
 ay h fun g cs f _ A=>k.block g (lt_of_some A)
def Ci(x:ae)(l:List E3):Int:=match l.findIdx? (fun e=>eqs e.2.1 x) with
 |some k=>k
 |none=> -1
def uB(x l)(k:Nat)(I:k<l.length)(C:eqs l[k].2.1 x=true)(A:∀j,(h:j<l.length)->j<k->eqs l[j].2.1 x=false):Ci x l=k:=by
 have:l.findIdx? (fun e=>eqs e.2.1 x)=some k:=by
  rw [kS];exact ⟨I,C,fun j D=>by rw [A j aj D];decide⟩
 simp [Ci,this]
def IK(x l)(A:∀j,(h:j<l.length)->eqs l[j].2.1 x=false):Ci x l= -1:=by
 have:l.findIdx? (fun e=>eqs e.2.1 x)=none:=by
  rw [o6];intro e C;obtain ⟨j,D,rfl⟩:=dk C;exact A j D
 simp [Ci,this]
def IL(p:Nat)(n x v)(h:Nat)(w)(A:aE w h #[.string x] 9):
  Calls prog 96 #[.agg #[.int .i64 p,.string n,v],.pointer (some ⟨h,0,none⟩)] w fun e w'=>e=.returned (.bool (eqs n x))/\an w w':=by
 have c0:w.cell? ⟨h,0,none⟩=some (.string x):=A.cell rfl;have hl:=A.lt;have C:(n.toList==x.toList)=eqs n x:=by rw [aO,aO];rfl
 go_enter func96,ntmps96;go_wp2;go_ret;exact ⟨rfl,bj.alloc aD _⟩
def sS(v l x q w)(ab:l.length<=1000)(h:hJ w 110 v l)(V:aE w q #[.string x] 9):
  Calls prog 95 #[v,.func (.func 96) #[] #[.pointer (some ⟨q,0,none⟩)]] w fun e w'=>e=.returned (.int .i64 (Ci x l))/\an w w':=by
 obtain ⟨sa,sc,rfl⟩:=ax h;have H:=ai h;have U:=ai V;go_enter func95,ntmps95;go_wp2
 go_loopw [5,8] (fun u i wr=>∃k:Nat,k<=l.length/\i=.int .i64 k/\an w wr/\Hid (∀j,(h:j<l.length)->j<k->eqs l[j].2.1 x=false)) (fun _ i _=>l.length-(intOf i).toNat)
 case atStart=>exact ⟨0,aj,rfl,az _ _,ai (fun j e h=>aj)⟩
 case round=>
  obtain ⟨k,Z,rfl,J,KC⟩:=hrel;have HB:=ai J
  by_cases R:k<l.length
  ·obtain ⟨g,c,e1,k0,k1,ac⟩:=(H.u.below J).cell k R;simp only [aI] at e1;obtain ⟨rfl,_,rfl⟩:=e1;have Q:=ai (U.u.below J)
   cases I:eqs l[k].2.1 x
   ·have Hn:=ai (show ∀j,(h:j<l.length)->j<k+1->eqs l[j].2.1 x=false from fun j h Y=>by
     by_cases e:j=k
     ·subst e;exact I
     exact ak KC j h aj)
    have He:=ai I;go_wp2_with fail;refine (IL _ _ _ _ _ _ Q.u).mono ?_;exact Nu
   have qe:=ai (uB x l k R I (ak KC));have He:=ai I;go_wp2_with fail;refine (IL _ _ _ _ _ _ Q.u).mono ?_;exact Nw
  exact Nx
def IM(p:Nat)(n x v)(h:Nat)(w)(A:aE w h #[.string x] 9):
  Calls prog 206 #[.agg #[.int .i64 p,.string n,v],.pointer (some ⟨h,0,none⟩)] w fun e w'=>e=.returned (.bool (eqs n x))/\an w w':=by
 have c0:w.cell? ⟨h,0,none⟩=some (.string x):=A.cell rfl;have hl:=A.lt;have C:(n.toList==x.toList)=eqs n x:=by rw [aO,aO];rfl
 go_enter func206,ntmps206;go_wp2;go_ret;exact ⟨rfl,bj.alloc aD _⟩
def sT(v l x q w)(ab:l.length<=1000)(h:hJ w 159 v l)(V:aE w q #[.string x] 9):
  Calls prog 205 #[v,.func (.func 206) #[] #[.pointer (some ⟨q,0,none⟩)]] w fun e w'=>e=.returned (.int .i64 (Ci x l))/\an w w':=by
 obtain ⟨sa,sc,rfl⟩:=ax h;have H:=ai h;have U:=ai V;go_enter func205,ntmps205;go_wp2
 go_loopw [5,8] (fun u i wr=>∃k:Nat,k<=l.length/\i=.int .i64 k/\an w wr/\Hid (∀j,(h:j<l.length)->j<k->eqs l[j].2.1 x=false)) (fun _ i _=>l.length-(intOf i).toNat)
 case atStart=>exact ⟨0,aj,rfl,az _ _,ai (fun j e h=>aj)⟩
 case round=>
  obtain ⟨k,Z,rfl,J,KC⟩:=hrel;have HB:=ai J
  by_cases R:k<l.length
  ·obtain ⟨g,c,e1,k0,k1,ac⟩:=(H.u.below J).cell k R;simp only [aI] at e1;obtain ⟨rfl,_,rfl⟩:=e1;have Q:=ai (U.u.below J)
   cases I:eqs l[k].2.1 x
   ·have Hn:=ai (show ∀j,(h:j<l.length)->j<k+1->eqs l[j].2.1 x=false from fun j h Y=>by
     by_cases e:j=k
     ·subst e;exact I
     exact ak KC j h aj)
    have He:=ai I;go_wp2_with fail;refine (IM _ _ _ _ _ _ Q.u).mono ?_;exact Nu
   have qe:=ai (uB x l k R I (ak KC));have He:=ai I;go_wp2_with fail;refine (IM _ _ _ _ _ _ Q.u).mono ?_;exact Nw
  exact Nx
end
section
abbrev aW(a0:Option Addr)(a1:Nat)(a2:Nat):Obj:=.cells #[.slice a0 a1 a2] 75
abbrev dn(a0:ae):Obj:=.cells #[.string a0] 9
def Ny (h:aA:=by
 have:=H.u.cell k hk;obtain ⟨g',C,e1,A,_⟩:=this;simp only [aI,aL,ce] at e1;have:=iA A;omega):aA:=h
def gV(x:ae)(l:List E3):Option E3:=l.find? fun e=>eqs e.2.1 x
def xU{l}(h:gV x l=none):Ci x l= -1:=by
 unfold gV at h;rw [List.find?_eq_none] at h;exact IK x l (fun j A=>by simpa using h l[j] (bn A))
def xV{l y}(h:gV x l=some y):∃k,∃A:k<l.length,l[k]=y/\Ci x l=k:=by
 unfold gV at h;rw [List.find?_eq_some_iff_getElem] at h;obtain ⟨h1,k,A,h2,C⟩:=h;refine ⟨k,A,h2,uB x l k A (by rw [h2];exact h1) (fun j I D=>by simpa using C j D)⟩
variable {g:Nat}
def iA{o}(h:w.cell? ⟨g,o,none⟩=some v):g<w.heap.size:=by
 rcases gh g w.heap.size with k|k
 ·exact k
 simp [World.cell?,Array.getElem?_eq_none k] at h
def xW(v l x w)(U:l.length<=1000)(h:hJ w 110 v l)(R:gV x l=none):
  Calls prog 57 #[.agg #[v],.string x] w fun e w'=>e=.returned (.tuple #[.agg #[.int .i64 0,.string ⟨#[]⟩,.slice none 0 0],cj 5])/\an w w':=by
 obtain ⟨sa,sc,rfl⟩:=ax h;have W0:an w (((w.alloc (aW sa l.length sc)).alloc (dn x)).alloc cY):=((bj.alloc aD _).alloc ar _).alloc aM _;have C:=ai (sS (.slice sa l.length sc) l x (w.heap.size+1) _ U (h.below W0) ((aE.new' (w.alloc (aW sa l.length sc)) #[.string x] 9 (w.heap.size+1) ar).alloc cY));have M:=ai (((aE.new w #[.slice sa l.length sc] 75).alloc (dn x)).alloc cY);have Q:=ai (aE.new' ((w.alloc (aW sa l.length sc)).alloc (dn x)) eX 110 (w.heap.size+2) ar);have D:=ai W0;go_enter func57,ntmps57;go_wp2_with fail;refine C.u.mono ?_;rintro e w1 ⟨rfl,I⟩;have A:=ai (Q.u.below I);have J:=ai (D.u.trans (I.mono D.u.size));obtain ⟨V,Y,Z⟩:=A.u.three;have ab:=A.u.fz;rw [xU R];go_wp2;refine bq (v:=.tuple #[.agg #[.int .i64 0,.string ⟨#[]⟩,.slice none 0 0],cj 5]) (bR results57 _ _ (w.heap.size+2) _ 110 _ _ rfl rfl ?hB underlying110 rfl aw) rfl ?post
 case hB=>exact ⟨_,(cM A),bc⟩
 case post=>exact ⟨rfl,(cd J)⟩
def o7(v l x w)(ad:l.length<=1000)(h:hJ w 110 v l)(y)(ab:gV x l=some y)(af:∃a n c,y.2.2=.slice a n c):
  Calls prog 57 #[.agg #[v],.string x] w fun e w'=>e=.returned (.tuple #[.agg #[.int .i64 y.1,.string y.2.1,y.2.2],.nilIface])/\an w w':=by
 obtain ⟨k,hk,ae,hi⟩:=xV ab;obtain ⟨sa,sc,rfl⟩:=ax h;have H:=ai h;have W0:an w (((w.alloc (aW sa l.length sc)).alloc (dn x)).alloc cY):=((bj.alloc aD _).alloc ar _).alloc aM _;have C:=ai (sS (.slice sa l.length sc) l x (w.heap.size+1) _ ad (h.below W0) ((aE.new' (w.alloc (aW sa l.length sc)) #[.string x] 9 (w.heap.size+1) ar).alloc cY));have M:=ai (((aE.new w #[.slice sa l.length sc] 75).alloc (dn x)).alloc cY);have Z:=ai (aE.new' ((w.alloc (aW sa l.length sc)).alloc (dn x)) eX 110 (w.heap.size+2) ar);have J:=ai W0;have U:=ai (h.below W0);go_enter func57,ntmps57;go_wp2_with fail;refine C.u.mono ?_;rintro e w1 ⟨rfl,D⟩;have I:=ai (Z.u.below D);have Y:=ai (M.u.below D);have V:=ai (U.u.below D);have R:=ai (J.u.trans (D.mono J.u.size));obtain ⟨al,am,ap⟩:=I.u.three;have au:=I.u.fz;have mc:w1.cell? ⟨w.heap.size,0,none⟩=some (.slice sa l.length sc):=Y.u.cell rfl;rw [hi];obtain ⟨g,c,e1,k0,k1,Q⟩:=V.u.cell k hk;simp only [aI] at e1;obtain ⟨rfl,_,rfl⟩:=e1;rw [ae] at k0 k1 Q;have ac:¬(g=w.heap.size+2):=fun e=>by
  exact Ny
 have ak:¬(w.heap.size+2=g):=fun e=>ac e.symm
 obtain ⟨p,n,u⟩:=y;simp only at k0 k1 Q;obtain ⟨ag,aj,ah,rfl⟩:∃a n c,u=.slice a n c:=af;go_wp2;refine bq (v:=.tuple #[.agg #[.int .i64 p,.string n,.slice ag aj ah],.nilIface]) (bR results57 _ _ (w.heap.size+2) _ 110 _ _ rfl rfl ?hB underlying110 rfl aw) rfl ?post
 case hB=>exact ⟨_,(cM I),bc⟩
 case post=>exact ⟨rfl,(cd R)⟩
def xX(A:Nat)(nn v l x w)(V:l.length<=1000)(h:hJ w 159 v l)(U:gV x l=none):
  Calls prog 145 #[.agg #[.int .i64 A,.string nn,v],.string x] w fun e w'=>e=.returned (.tuple #[.agg #[.int .i64 0,.string ⟨#[]⟩,.nilIface],cj 5])/\an w w':=by
 obtain ⟨sa,sc,rfl⟩:=ax h;have W0:an w (((w.alloc (bD A nn sa l.length sc)).alloc (dn x)).alloc cI):=((bj.alloc aD _).alloc ar _).alloc aM _;have C:=ai (sT (.slice sa l.length sc) l x (w.heap.size+1) _ V (h.below W0) ((aE.new' (w.alloc (bD A nn sa l.length sc)) #[.string x] 9 (w.heap.size+1) ar).alloc cI));have M:=ai (((aE.new w (iy A nn sa l.length sc) 110).alloc (dn x)).alloc cI);have R:=ai (aE.new' ((w.alloc (bD A nn sa l.length sc)).alloc (dn x)) eC 159 (w.heap.size+2) ar);have I:=ai W0;go_enter func145,ntmps145;go_wp2_with fail;refine C.u.mono ?_;rintro e w1 ⟨rfl,J⟩;have D:=ai (R.u.below J);have Q:=ai (I.u.trans (J.mono I.u.size));obtain ⟨Y,Z,ab⟩:=D.u.three;have ac:=D.u.fz;rw [xU U];go_wp2;refine bq (v:=.tuple #[.agg #[.int .i64 0,.string ⟨#[]⟩,.nilIface],cj 5]) (bR results145 _ _ (w.heap.size+2) _ 159 _ _ rfl rfl ?hB underlying159 rfl aw) rfl ?post
 case hB=>exact ⟨_,(cM D),bc⟩
 case post=>exact ⟨rfl,(cd Q)⟩
def o8(D:Nat)(nn v l x w)(ae:l.length<=1000)(h:hJ w 159 v l)(y)(ac:gV x l=some y)(ag:∃a x,y.2.2=.iface a x):
  Calls prog 145 #[.agg #[.int .i64 D,.string nn,v],.string x] w fun e w'=>e=.returned (.tuple #[.agg #[.int .i64 y.1,.string y.2.1,y.2.2],.nilIface])/\an w w':=by
 obtain ⟨k,hk,af,hi⟩:=xV ac;obtain ⟨sa,sc,rfl⟩:=ax h;have H:=ai h;have W0:an w (((w.alloc (bD D nn sa l.length sc)).alloc (dn x)).alloc cI):=((bj.alloc aD _).alloc ar _).alloc aM _;have C:=ai (sT (.slice sa l.length sc) l x (w.heap.size+1) _ ae (h.below W0) ((aE.new' (w.alloc (bD D nn sa l.length sc)) #[.string x] 9 (w.heap.size+1) ar).alloc cI));have M:=ai (((aE.new w (iy D nn sa l.length sc) 110).alloc (dn x)).alloc cI);have ab:=ai (aE.new' ((w.alloc (bD D nn sa l.length sc)).alloc (dn x)) eC 159 (w.heap.size+2) ar);have Q:=ai W0;have V:=ai (h.below W0);go_enter func145,ntmps145;go_wp2_with fail;refine C.u.mono ?_;rintro e w1 ⟨rfl,I⟩;have J:=ai (ab.u.below I);have Z:=ai (M.u.below I);have Y:=ai (V.u.below I);have U:=ai (Q.u.trans (I.mono Q.u.size));obtain ⟨al,am,ap⟩:=J.u.three;have au:=J.u.fz;have mc:w1.cell? ⟨w.heap.size,2,none⟩=some (.slice sa l.length sc):=Z.u.cell rfl;rw [hi];obtain ⟨g,c,e1,k0,k1,R⟩:=Y.u.cell k hk;simp only [aI] at e1;obtain ⟨rfl,_,rfl⟩:=e1;rw [af] at k0 k1 R;have ad:¬(g=w.heap.size+2):=fun e=>by
  exact Ny
 have ak:¬(w.heap.size+2=g):=fun e=>ad e.symm
 obtain ⟨p,n,u⟩:=y;simp only at k0 k1 R;obtain ⟨ah,aj,rfl⟩:∃a x,u=.iface a x:=ag;go_wp2;refine bq (v:=.tuple #[.agg #[.int .i64 p,.string n,.iface ah aj],.nilIface]) (bR results145 _ _ (w.heap.size+2) _ 159 _ _ rfl rfl ?hB underlying159 rfl aw) rfl ?post
 case hB=>exact ⟨_,(cM J),bc⟩
 case post=>exact ⟨rfl,(cd U)⟩
end
abbrev dI:=@List.drop_eq_getElem_cons
abbrev cJ:=@List.take_succ_eq_append_getElem
abbrev gj:=@List.mem_of_find?_eq_some
abbrev ct:=@Below.grown
abbrev ei:=@List.drop_of_length_le
def IP (h:aA:=by
 have:=B2.u.size;simp;omega):aA:=h
def xY (h:aA:=by
 have:=HB.u.size;simp;omega):aA:=h
def mN (h:aA:=by
 rw [dO];omega):aA:=h
def Nz (h:aA:=by
 obtain ⟨A,C,D⟩:=E2.three;have I:=E2.lt;clear hb2 E2;go_wp2_with (go_at_call 73;refine (jS _ 4 _).mono ?_;rintro e J ⟨rfl,rfl⟩);exact Fc):aA:=h
def NA (h:aA:=by
 obtain ⟨g',C,e1,A,_⟩:=H.u.cell k hlt;simp only [aI,aL,ce] at e1;obtain ⟨⟨rfl,_⟩,_⟩:=e1;exact iA A):aA:=h
def NC (h:aA:=by
 have A:=ak HQ;rw [ei aj] at A;have C:=ai A;clear hb hbl ho A;go_wp2;go_ret;rw [<-C.u];exact ⟨rfl,HB.u⟩):aA:=h
def Fe (h:aA:=by
 intro u A;simp [c3] at A
 rcases A with rfl|rfl|rfl<;>rfl):aA:=h
def Fc (h:aA:=by
 go_ret;rw [<-kP.u];exact ⟨rfl,(cd B2)⟩):aA:=h
def gl(p c:Nat):ag:=.iface 147 (.agg #[.int .i64 p,cj c])
def iW(c:Nat):Option Nat->ag
 |none=> .nilIface
 |some p=>gl p c
def jS(p c:Nat)(w):Calls prog 73 #[.int .i64 p,.iface 134 (.int .i64 c)] w fun e w'=>e=.returned (gl p c)/\w'=w:=by
 go_enter func73,ntmps73;go_wp2;go_ret;exact ⟨rfl,rfl⟩
def ND(p:Nat)(w):Calls prog 73 #[.int .i64 p,.nilIface] w fun e w'=>e=.returned .nilIface/\w'=w:=by
 go_enter func73,ntmps73;go_wp2;go_ret;exact ⟨rfl,rfl⟩
def jT:List E3->List E3->Option Nat
 |_,[]=>none
 |ah,e::r=>if (gV e.2.1 ah).isSome then some e.1 else jT (ah++[e]) r
def Cj(l:List E3)(k:Nat)(h:k<l.length):jT (l.take k) (l.drop k)=if (gV l[k].2.1 (l.take k)).isSome then some l[k].1 else jT (l.take (k+1)) (l.drop (k+1)):=by
 rw [dI h,jT,cJ h]
def IQ(l:List E3)(k:Nat)(h:k<l.length):(l.take (k+1)).flatMap c3=(l.take k).flatMap c3++c3 l[k]:=by
 rw [cJ h,cT];simp
def Ff(be:Nat)(nn v l w)(bq:l.length<=1000)(h:hJ w 159 v l)(az:∀e∈l,∃t x,e.2.2=.iface t x):
  Calls prog 173 #[.agg #[.int .i64 be,.string nn,v]] w fun e w'=>e=.returned (iW 4 (jT [] l))/\an w w':=by
 obtain ⟨i0,hi,aH,aJ,aK⟩:=bK Tryz.info159;have aN:=ai hi;have aS:=ai aH;have aW:=ai aJ;have aX:=ai aK;clear hi aH aJ aK;obtain ⟨bt,oc,rfl⟩:=ax h;have H:=ai h;have ap:=ai az;generalize Q:jT [] l=a4;have aR:=ai Q;clear Q h az;go_enter func173,ntmps173;go_wp2_with fail
 go_loopw [11] (fun u wr=>∃(k:Nat)(sv:ag),k<=l.length/\u=.int .i64 k/\an w wr/\aE wr (w.heap.size+1) #[.int .i64 0,.string ⟨#[]⟩,sv] 110/\wr.ownsRow w.heap.size 159 3 sv k ((l.take k).flatMap c3)/\Hid (jT (l.take k) (l.drop k)=a4)) (fun u _=>l.length-(intOf u).toNat)
 case atStart=>exact ⟨0,_,aj,rfl,(bj.alloc aD _).alloc ar _,aE.new' (w.alloc _) _ _ _ ar,bL,aR⟩
 case round=>
  obtain ⟨k,sv,al,rfl,hb,hbl,ho,HQ⟩:=hrel;obtain ⟨sa,sc,rfl⟩:=ax ho;have HB:=ai hb;have aO:=ai hbl;have aQ:=ai ho;obtain ⟨ab,b1,a5⟩:=hbl.three;have bk:=hbl.fz;have lb:=hbl.lt
  by_cases hlt:k<l.length
  ·have Q:=ak HQ;rw [Cj l k hlt] at Q;obtain ⟨g,c,e1,k0,k1,a9⟩:=(H.u.below hb).cell k hlt;simp only [aI] at e1;obtain ⟨rfl,_,rfl⟩:=e1;obtain ⟨R,U,aC⟩:=ap.u l[k] (bn hlt);have aw:=IQ l k hlt;generalize a8:l[k]=y at*;obtain ⟨p,n,u⟩:=y;simp only at k0 k1 a9 aC Q;subst aC;have bo:g<w.heap.size:=by
    exact NA
   have aY:=ai aw;have am:=ai (show hJ (wr.alloc (cE p n R U)) 159 (.slice sa k sc) (l.take k) from by
    have:=bg (ho.alloc (cE p n R U)) (Nat.zero_le _);unfold hJ;rw [dO,Nat.min_eq_left al];exact this)
   clear a8 aw hb hbl ho
   cases Y:gV n (l.take k) with
   |some y=>
    have aF:∃a x,y.2.2=.iface a x:=ap.u y (List.mem_of_mem_take (gj Y));rw [Y] at Q;simp only [Option.isSome_some,if_true] at Q;have kP:=ai Q;have C:=ai (o8 0 ⟨#[]⟩ (.slice sa k sc) (l.take k) n _ mN am.u y Y aF);obtain ⟨bz,bx,bA⟩:=y;obtain ⟨bw,bB,aG⟩:=aF;simp only at aG;subst aG;clear Q Y;go_wp2_with fail;refine C.u.mono ?_;rintro e V ⟨rfl,hb2⟩;have B2:=ai ((HB.u.alloc HB.u.size (cE p n R U)).trans (hb2.mono xY));have E2:=(aE.new wr (rh p n R U) 159).below hb2;exact Nz
   |none=>
    rw [Y] at Q;simp only [Option.isSome_none,Bool.false_eq_true,aV] at Q;have kP:=ai Q;have C:=ai (xX 0 ⟨#[]⟩ (.slice sa k sc) (l.take k) n _ mN am.u Y);clear Q Y;go_wp2_with fail;refine C.u.mono ?_;rintro e V ⟨rfl,hb2⟩;have ae:an wr V:=(bj.alloc aD (cE p n R U)).trans (hb2.mono ar);have B2:=ai (HB.u.trans (ae.mono HB.u.size));have E2:=(aE.new wr (rh p n R U) 159).below hb2;obtain ⟨bf,bh,bi⟩:=E2.three;have bv:=E2.lt;have Z:=aO.u.below ae;have aP:=ai Z;obtain ⟨ba,bb,bc⟩:=Z.three;have bl:=Z.fz;have br:=Z.lt;have av:=ai (ay aQ.u (fun g cs f _ a7=>ae.block g (lt_of_some a7)));clear hb2 E2 Z ae ab b1 a5 bk;unfold cj;go_wp2_with (at_builtin;go_must (refine bI _ rfl _ _ 108 rfl w.heap.size 159 i0 _ 3 40 underlying108 aN.u aS.u aW.u aX.u rfl au (.slice sa k sc) k ((l.take k).flatMap c3) rfl ?hown ⟨V.heap.size+1,0,none⟩ 1 1 (c3 (p,n,.iface R U)) rfl rfl ?hnews ?hone au ?h63 ?hbytes ?hbase (V.heap.size+2) ?hH ?hrest))
    case hown=>exact (av.u.alloc _).alloc _
    case hnews=>exact bu (B:=V.heap.size+1) (cs:=#[.int .i64 p,.string n,.iface R U]) (t:=159) (fr:=(0,0)) (aE.new' (V.alloc _) _ _ _ ar)
    case hone=>
     exact Fe
    case h63=>unfold maxLen;omega
    case hbytes=>omega
    case hbase=>simp;omega
    case hH=>simp
    case hrest=>
     intro g5 aT w5 aB ah a6 bp;have ab:an V ((V.alloc cI).alloc (cE p n R U)):=(bj.alloc aD _).alloc ar _;have ad:=aP.u.below ab;have af:=(av.u.alloc cI).alloc (cE p n R U);have ac:=ai (show aE w5 (w.heap.size+1) #[.int .i64 0,.string ⟨#[]⟩,.slice sa k sc] 110 from (ah.block _ ad.lt (own_ne af ad au)).trans ad);have aM:=ai (ct (B2.u.trans (ab.mono B2.u.size)) ah IP (fun k al=>(af.lt k al).1));have aZ:=ai aB;obtain ⟨bs,n1,n2⟩:=ac.u.three;have bC:=ac.u.fz;clear ab ad af aB ah a6 ba bb bc bl bf bh bi;go_wp2;go_roundw
     case rel=>exact ⟨k+1,_,aj,by go_num,(cd aM),ac.u.set 2 _,by rw [aY.u];exact bN aZ.u ac.u au 2 _,kP⟩
     case measure=>simp [intOf];omega
  exact NC
def zc16q (h:aA:=by
 rw [<-Hy.u];exact bn hlt):aA:=h
def NE(q:aU) (h:bF aU->aA:=by
 intro zq;have Cn:=ai (Hin.u (p,n,.slice ua um un) zc16q (w2.alloc cY) (B2.u.alloc B2.u.size _))
 revert Cn
 exact zq.1):aA:=h ⟨q⟩
def iO(inn:E3->Option Nat):List E3->List E3->Option Nat
 |_,[]=>none
 |ah,e::r=>if (gV e.2.1 ah).isSome then some e.1 else match inn e with
  |some p=>some p
  |none=>iO inn (ah++[e]) r
def zW(inn:E3->Option Nat)(l:List E3)(k:Nat)(h:k<l.length):iO inn (l.take k) (l.drop k)=if (gV l[k].2.1 (l.take k)).isSome then some l[k].1 else match inn l[k] with
  |some p=>some p
  |none=>iO inn (l.take (k+1)) (l.drop (k+1)):=by
 rw [dI h,iO,cJ h]
def Fg(inn v l w)(bA:l.length<=1000)(h:hJ w 110 v l)(aK:∀e∈l,∃a n c,e.2.2=.slice a n c)(aM:∀e∈l,∀w',an w w'->Calls prog 173 #[.agg #[.int .i64 e.1,.string e.2.1,e.2.2]] w' fun e' w''=>e'=.returned (iW 4 (inn e))/\an w' w''):
  Calls prog 115 #[.agg #[v]] w fun e w'=>e=.returned (iW 4 (iO inn [] l))/\an w w':=by
 obtain ⟨i0,hi,aS,aW,aX⟩:=bK Tryz.info110;have a8:=ai hi;have bf:=ai aS;have bh:=ai aW;have bi:=ai aX;clear hi aS aW aX;obtain ⟨bC,oc,rfl⟩:=ax h;have H:=ai h;have aG:=ai aK;have Hin:=ai aM;generalize Q:iO inn [] l=bp;have be:=ai Q;clear Q h aK aM;go_enter func115,ntmps115;go_wp2_with fail
 go_loopw [12] (fun u wr=>∃(k:Nat)(sv:ag),k<=l.length/\u=.int .i64 k/\an w wr/\aE wr (w.heap.size+1) #[sv] 75/\wr.ownsRow w.heap.size 110 3 sv k ((l.take k).flatMap c3)/\Hid (iO inn (l.take k) (l.drop k)=bp)) (fun u _=>l.length-(intOf u).toNat)
 case atStart=>exact ⟨0,_,aj,rfl,(bj.alloc aD _).alloc ar _,aE.new' (w.alloc _) _ _ _ ar,bL,be⟩
 case round=>
  obtain ⟨k,sv,aB,rfl,hb,hbl,ho,HQ⟩:=hrel;obtain ⟨sa,sc,rfl⟩:=ax ho;have HB:=ai hb;have a9:=ai hbl;have bc:=ai ho;have ac:wr.cell? ⟨w.heap.size+1,0,none⟩=some (.slice sa k sc):=hbl.cell rfl;have bv:=hbl.fz;have lb:=hbl.lt
  by_cases hlt:k<l.length
  ·have Q:=ak HQ;rw [zW inn l k hlt] at Q;obtain ⟨g,c,e1,k0,k1,br⟩:=(H.u.below hb).cell k hlt;simp only [aI] at e1;obtain ⟨rfl,_,rfl⟩:=e1;obtain ⟨ua,um,un,aO⟩:=aG.u l[k] (bn hlt);have aJ:=IQ l k hlt;generalize aP:l[k]=y at*;obtain ⟨p,n,u⟩:=y;simp only at k0 k1 br aO Q;subst aO;have bx:g<w.heap.size:=by
    exact NA
   have bk:=ai aJ;have Hy:=ai aP;have aF:=ai (show hJ (wr.alloc (bD p n ua um un)) 110 (.slice sa k sc) (l.take k) from by
    have:=bg (ho.alloc (bD p n ua um un)) (Nat.zero_le _);unfold hJ;rw [dO,Nat.min_eq_left aB];exact this)
   clear aP aJ hb hbl ho
   cases V:gV n (l.take k) with
   |some y=>
    have aQ:∃a n c,y.2.2=.slice a n c:=aG.u y (List.mem_of_mem_take (gj V));rw [V] at Q;simp only [Option.isSome_some,if_true] at Q;have kP:=ai Q;have C:=ai (o7 (.slice sa k sc) (l.take k) n _ mN aF.u y V aQ);obtain ⟨bM,bJ,bO⟩:=y;obtain ⟨bG,bH,bP,aR⟩:=aQ;simp only at aR;subst aR;clear Q V;go_wp2_with fail;refine C.u.mono ?_;rintro e w2 ⟨rfl,hb2⟩;have B2:=ai ((HB.u.alloc HB.u.size (bD p n ua um un)).trans (hb2.mono xY));have E2:=(aE.new wr (iy p n ua um un) 110).below hb2;exact Nz
   |none=>
    rw [V] at Q;simp only [Option.isSome_none,Bool.false_eq_true,aV] at Q;have kP:=ai Q;have C:=ai (xW (.slice sa k sc) (l.take k) n _ mN aF.u V);clear Q V;go_wp2_with fail;refine C.u.mono ?_;rintro e w2 ⟨rfl,hb2⟩;have al:an wr w2:=(bj.alloc aD (bD p n ua um un)).trans (hb2.mono ar);have B2:=ai (HB.u.trans (al.mono HB.u.size));have E2:=(aE.new wr (iy p n ua um un) 110).below hb2;obtain ⟨aY,aZ,a5⟩:=E2.three;have bE:=E2.lt;have a7:=ai E2;have ap:=a9.u.below al;have ba:=ai ap;have bt:=ap.lt;have bl:=ai (ay bc.u (fun g cs f _ az=>al.block g (lt_of_some az)));clear hb2 E2 ap al ac bv
    cases Y:inn (p,n,.slice ua um un) with
    |some pq=>
     refine NE ?_;intro Cn;rw [Y] at Cn;have U:=kP.u;rw [Y] at U;have am:=ai U;clear Y U;unfold cj;go_wp2_with fail;refine (ak Cn).mono ?_;rintro e R ⟨rfl,ad⟩;have Z:=ai ((B2.u.alloc B2.u.size cY).trans (ad.mono IP));clear ad;unfold iW gl;go_wp2;go_ret;rw [<-am.u];exact ⟨rfl,Z.u⟩
    |none=>
     refine NE ?_;intro Cn;rw [Y] at Cn;have U:=kP.u;rw [Y] at U;have am:=ai U;clear Y U;unfold cj;go_wp2_with fail;refine (ak Cn).mono ?_;rintro e R ⟨rfl,ad⟩;have ae:an w2 R:=(bj.alloc aD cY).trans (ad.mono ar);have Z:=ai (B2.u.trans (ae.mono B2.u.size));have aC:=a7.u.below ae;obtain ⟨aY,aZ,a5⟩:=aC.three;have ab:=ba.u.below ae;have bb:=ai ab;have bs:R.cell? ⟨w.heap.size+1,0,none⟩=some (.slice sa k sc):=ab.cell rfl;have bw:=ab.fz;have bt:=ab.lt;have aH:=ai (ay bl.u (fun g cs f _ az=>ae.block g (lt_of_some az)));clear ad aC ab ae;unfold iW;go_wp2_with (at_builtin;go_must (refine bI _ rfl _ _ 73 rfl w.heap.size 110 i0 _ 3 48 underlying73 a8.u bf.u bh.u bi.u rfl au (.slice sa k sc) k ((l.take k).flatMap c3) rfl ?hown ⟨R.heap.size,0,none⟩ 1 1 (c3 (p,n,.slice ua um un)) rfl rfl ?hnews ?hone au ?h63 ?hbytes ?hbase (R.heap.size+1) ?hH ?hrest))
     case hown=>exact aH.u.alloc _
     case hnews=>exact bu (B:=R.heap.size) (cs:=#[.int .i64 p,.string n,.slice ua um un]) (t:=110) (fr:=(0,0)) (aE.new R _ _)
     case hone=>
      exact Fe
     case h63=>unfold maxLen;omega
     case hbytes=>omega
     case hbase=>simp;omega
     case hH=>simp
     case hrest=>
      intro g5 aT w5 aN aw bq bz;have ac:an R (R.alloc (bD p n ua um un)):=bj.alloc aD _;have ah:=bb.u.below ac;have av:=aH.u.alloc (bD p n ua um un);have af:=ai (show aE w5 (w.heap.size+1) #[.slice sa k sc] 75 from (aw.block _ ah.lt (own_ne av ah au)).trans ah);have a6:=ai (ct (Z.u.trans (ac.mono Z.u.size)) aw (by have:=Z.u.size;simp;omega) (fun k aB=>(av.lt k aB).1));have bo:=ai aN;have bB:w5.cell? ⟨w.heap.size+1,0,none⟩=some (.slice sa k sc):=af.u.cell rfl;have bQ:=af.u.fz;clear ac ah av aN aw bq bs bw aY aZ a5;go_wp2;go_roundw
      case rel=>exact ⟨k+1,_,aj,by go_num,(cd a6),af.u.set 0 _,by rw [bk.u];exact bN bo.u af.u au 0 _,am⟩
      case measure=>simp [intOf];omega
  exact NC
def jF(x w):(Instr.typeAssert (.iface 236 x) 157 236 true).run prog w=.ok (.tuple #[x,.bool true]) w:=by kernel_rfl
def uC(x w):(Instr.typeAssert (.iface 236 x) 157 244 true).run prog w=.ok (.tuple #[.agg #[.int .i64 0,.nilIface,.nilIface],.bool false]) w:=by kernel_rfl
def zX(x w):(Instr.typeAssert (.iface 236 x) 157 245 true).run prog w=.ok (.tuple #[.agg #[.int .i64 0,.nilIface,.nilIface],.bool false]) w:=by kernel_rfl
def qk(x w):(Instr.typeAssert (.iface 236 x) 157 246 true).run prog w=.ok (.tuple #[.agg #[.int .i64 0,.nilIface,.nilIface],.bool false]) w:=by kernel_rfl
def iX(x w):(Instr.typeAssert (.iface 238 x) 157 236 true).run prog w=.ok (.tuple #[.agg #[.int .i64 0,.slice none 0 0],.bool false]) w:=by kernel_rfl
def lY(x w):(Instr.typeAssert (.iface 238 x) 157 238 true).run prog w=.ok (.tuple #[x,.bool true]) w:=by kernel_rfl
def xp(x w):(Instr.typeAssert (.iface 238 x) 157 244 true).run prog w=.ok (.tuple #[.agg #[.int .i64 0,.nilIface,.nilIface],.bool false]) w:=by kernel_rfl
def Ck(x w):(Instr.typeAssert (.iface 238 x) 157 245 true).run prog w=.ok (.tuple #[.agg #[.int .i64 0,.nilIface,.nilIface],.bool false]) w:=by kernel_rfl
def sU(x w):(Instr.typeAssert (.iface 238 x) 157 246 true).run prog w=.ok (.tuple #[.agg #[.int .i64 0,.nilIface,.nilIface],.bool false]) w:=by kernel_rfl
def iY(x w):(Instr.typeAssert (.iface 240 x) 157 236 true).run prog w=.ok (.tuple #[.agg #[.int .i64 0,.slice none 0 0],.bool false]) w:=by kernel_rfl
def lZ(x w):(Instr.typeAssert (.iface 240 x) 157 238 true).run prog w=.ok (.tuple #[.agg #[.int .i64 0,.string ⟨#[]⟩],.bool false]) w:=by kernel_rfl
def l4(x w):(Instr.typeAssert (.iface 240 x) 157 240 true).run prog w=.ok (.tuple #[x,.bool true]) w:=by kernel_rfl
def xr(x w):(Instr.typeAssert (.iface 240 x) 157 244 true).run prog w=.ok (.tuple #[.agg #[.int .i64 0,.nilIface,.nilIface],.bool false]) w:=by kernel_rfl
def Cl(x w):(Instr.typeAssert (.iface 240 x) 157 245 true).run prog w=.ok (.tuple #[.agg #[.int .i64 0,.nilIface,.nilIface],.bool false]) w:=by kernel_rfl
def sV(x w):(Instr.typeAssert (.iface 240 x) 157 246 true).run prog w=.ok (.tuple #[.agg #[.int .i64 0,.nilIface,.nilIface],.bool false]) w:=by kernel_rfl
def fA(x w):(Instr.typeAssert (.iface 244 x) 157 236 true).run prog w=.ok (.tuple #[.agg #[.int .i64 0,.slice none 0 0],.bool false]) w:=by kernel_rfl
def iP(x w):(Instr.typeAssert (.iface 244 x) 157 238 true).run prog w=.ok (.tuple #[.agg #[.int .i64 0,.string ⟨#[]⟩],.bool false]) w:=by kernel_rfl
def iQ(x w):(Instr.typeAssert (.iface 244 x) 157 240 true).run prog w=.ok (.tuple #[.agg #[.int .i64 0,.int .i64 0,.string ⟨#[]⟩,.int .i64 0,.string ⟨#[]⟩],.bool false]) w:=by kernel_rfl
def iB(x w):(Instr.typeAssert (.iface 244 x) 157 244 true).run prog w=.ok (.tuple #[x,.bool true]) w:=by kernel_rfl
def uD(x w):(Instr.typeAssert (.iface 244 x) 157 246 true).run prog w=.ok (.tuple #[.agg #[.int .i64 0,.nilIface,.nilIface],.bool false]) w:=by kernel_rfl
def hN(x w):(Instr.typeAssert (.iface 245 x) 157 236 true).run prog w=.ok (.tuple #[.agg #[.int .i64 0,.slice none 0 0],.bool false]) w:=by kernel_rfl
def kA(x w):(Instr.typeAssert (.iface 245 x) 157 238 true).run prog w=.ok (.tuple #[.agg #[.int .i64 0,.string ⟨#[]⟩],.bool false]) w:=by kernel_rfl
def kB(x w):(Instr.typeAssert (.iface 245 x) 157 240 true).run prog w=.ok (.tuple #[.agg #[.int .i64 0,.int .i64 0,.string ⟨#[]⟩,.int .i64 0,.string ⟨#[]⟩],.bool false]) w:=by kernel_rfl
def jU(x w):(Instr.typeAssert (.iface 245 x) 157 244 true).run prog w=.ok (.tuple #[.agg #[.int .i64 0,.nilIface,.nilIface],.bool false]) w:=by kernel_rfl
def l5(x w):(Instr.typeAssert (.iface 245 x) 157 245 true).run prog w=.ok (.tuple #[x,.bool true]) w:=by kernel_rfl
def zY(x w):(Instr.typeAssert (.iface 245 x) 157 246 true).run prog w=.ok (.tuple #[.agg #[.int .i64 0,.nilIface,.nilIface],.bool false]) w:=by kernel_rfl
def hO(x w):(Instr.typeAssert (.iface 246 x) 157 236 true).run prog w=.ok (.tuple #[.agg #[.int .i64 0,.slice none 0 0],.bool false]) w:=by kernel_rfl
def kD(x w):(Instr.typeAssert (.iface 246 x) 157 238 true).run prog w=.ok (.tuple #[.agg #[.int .i64 0,.string ⟨#[]⟩],.bool false]) w:=by kernel_rfl
def kE(x w):(Instr.typeAssert (.iface 246 x) 157 240 true).run prog w=.ok (.tuple #[.agg #[.int .i64 0,.int .i64 0,.string ⟨#[]⟩,.int .i64 0,.string ⟨#[]⟩],.bool false]) w:=by kernel_rfl
def jV(x w):(Instr.typeAssert (.iface 246 x) 157 244 true).run prog w=.ok (.tuple #[.agg #[.int .i64 0,.nilIface,.nilIface],.bool false]) w:=by kernel_rfl
def l6(x w):(Instr.typeAssert (.iface 246 x) 157 245 true).run prog w=.ok (.tuple #[.agg #[.int .i64 0,.nilIface,.nilIface],.bool false]) w:=by kernel_rfl
def jG(x w):(Instr.typeAssert (.iface 246 x) 157 246 true).run prog w=.ok (.tuple #[x,.bool true]) w:=by kernel_rfl
def aaG (h:aA:=by
 first|exact aE.alloc (aE.new _ _ _) _|exact aE.new _ _ _):aA:=h
def sd0:Array ag:=#[.int .i64 0,.nilIface,.nilIface]
def KE(T:TypeId)(p:Nat)(A:TypeId)(D:ag)(C:TypeId)(I:ag)(w:af)(Q:T=244\/T=245\/T=246):
  Calls prog 212 #[.iface T (.agg #[.int .i64 p,.iface A D,.iface C I])] w fun e w'=>e=.returned (.tuple #[.agg #[.int .i64 p,.iface A D,.iface C I],.bool true])/\an w w':=by
 have J:=ai (az w.heap.size w);have f0:=iB;have f1:=jU;have f2:=l5;have f3:=jV;have f4:=l6;have f5:=jG
 rcases Q with rfl|rfl|rfl
 all_goals
  go_enter func212,ntmps212;go_wp2;refine bq (v:=.tuple #[.agg #[.int .i64 p,.iface A D,.iface C I],.bool true]) (bR results212 _ _ w.heap.size _ 242 _ _ rfl rfl ?_ underlying242 rfl aw) rfl ?_
  ·exact ⟨_,aaG,bc⟩
  ·exact ⟨rfl,(cd J)⟩
def KF(T:TypeId)(x:ag)(w:af)(C:T=236\/T=238\/T=240):
  Calls prog 212 #[.iface T x] w fun e w'=>e=.returned (.tuple #[.agg sd0,.bool false])/\an w w':=by
 have A:=ai (az w.heap.size w);have f0:=uC;have f1:=zX;have f2:=qk;have f3:=xp;have f4:=Ck;have f5:=sU;have f6:=xr;have f7:=Cl;have f8:=sV
 rcases C with rfl|rfl|rfl
 all_goals
  go_enter func212,ntmps212;go_wp2;refine bq (v:=.tuple #[.agg sd0,.bool false]) (bR results212 _ _ w.heap.size _ 242 _ _ rfl rfl ?_ underlying242 rfl aw) rfl ?_
  ·exact ⟨_,aaG,bc⟩
  ·exact ⟨rfl,(cd A)⟩
section
abbrev aN:=@List.mem_map
abbrev aR:=@List.mem_singleton
def aC:Ex->List Ex
 |⟨n,some x,some y⟩=>aC x++[⟨n,some x,some y⟩]++aC y
 |⟨n,none,r⟩=>[⟨n,none,r⟩]
 |⟨_,some _,none⟩=>[]
def Fh:∀(e:Ex)(v:ag),bB b w e v->0<(aC e).length
 |⟨n,some x,some y⟩,v,h=>by simp [aC];omega
 |⟨n,none,r⟩,v,h=>by simp [aC]
 |⟨_,some _,none⟩,v,h=>h.elim
def WU(base b:Nat)(w:af)(sv:ag)(h:List Ex):Prop:=
 ∃l:List (Ex×ag),l.map Prod.fst=h/\(∀p∈l,bB b w p.1 p.2)/\w.ownsRow base 157 1 sv h.length (l.map Prod.snd)
def Tryz.info157:(Tryz.prog.info? 157).map (fun i=>(i.zero,i.size,i.bytes))=some (some .nilIface,1,16):=by kernel_rfl
def Fi(e:Ex):Prop:=∀(b:Nat)(v:ag)(w:af),b<w.heap.size->bB b w e v->(aC e).length<=1000->
 Calls prog 156 #[v] w fun e' w'=>∃sv,e'=.returned sv/\an w w'/\WU w.heap.size b w' sv (aC e)
def Fj(h:af)(x:ag)(T n:Nat)(A:n=h.heap.size):∀j u,[x][j]? =some u->(h.alloc (.cells #[x] T)).cell? ((⟨n,0,none⟩:Addr).add j)=some u:=
 bu (cs:=#[x]) (fr:=(0,0)) (aE.new' h #[x] T n A)
variable {base:Nat}
def Cm(h:w.ownsRow base e 1 v n xs)(D:0<n):
  ∃g c,v=.slice (some ⟨g,0,none⟩) n c/\xs.length=n*1/\∀j u,xs[j]? =some u->w.cell? ((⟨g,0,none⟩:Addr).add j)=some u:=by
 obtain ⟨g,c,hv,_⟩:=h.form D;refine ⟨g,c,hv,h.1,fun j u I=> ?_⟩;obtain ⟨g',J,A,hc⟩:=aS h j u I;rw [hv] at A;simp only [aI,aL,ce] at A;obtain ⟨⟨rfl,_⟩,_⟩:=A;have C:(⟨g,0,none⟩:Addr).add j=⟨g,j,none⟩:=by unfold Addr.add;split<;>simp_all
 rw [C];exact hc
def ri(T:TypeId)(x:ag)(w:af)(D:T=236\/T=238\/T=240):
  Calls prog 156 #[.iface T x] w fun e' w'=>∃sv,e'=.returned sv/\an w w'/\w'.ownsRow w.heap.size 157 1 sv 1 [.iface T x]:=by
 go_enter func156,ntmps156;go_wp2_with fail;refine (KF T x w D).mono ?_;rintro e w1 ⟨rfl,A⟩;have C:=ai A;have sz:=A.size;unfold sd0;go_wp2;go_ret;refine ⟨_,rfl,(cd C),rfl,.inr ⟨w1.heap.size+1,1,#[.iface T x],rfl,aj,?_,aj,by unfold maxLen;omega,rfl,rfl⟩⟩;exact aE.new' (w1.alloc _) _ _ _ ar
def rj(T:TypeId)(bG:T=244\/T=245\/T=246)(p:Nat)(x y:Ex)(aX:Fi x)(aY:Fi y)(b:Nat)(aB aF:ag)(w:af)(bV:b<w.heap.size)(az:bB b w x aB)(ah:bB b w y aF)(bY:(aC x).length+1+(aC y).length<=1000):
  Calls prog 156 #[.iface T (.agg #[.int .i64 p,aB,aF])] w fun e' w'=>∃sv,e'=.returned sv/\an w w'/\
   ∃lx D:List (Ex×ag),lx.map Prod.fst=aC x/\D.map Prod.fst=aC y/\(∀p∈lx,bB b w' p.1 p.2)/\(∀p∈D,bB b w' p.1 p.2)/\
    w'.ownsRow w.heap.size 157 1 sv ((aC x).length+1+(aC y).length) (lx.map Prod.snd++[.iface T (.agg #[.int .i64 p,aB,aF])]++D.map Prod.snd):=by
 obtain ⟨i0,hi,aZ,a0,a1⟩:=bK Tryz.info157;have aK:=ai hi;have aL:=ai aZ;have aO:=ai a0;have aP:=ai a1;clear hi aZ a0 a1;have ba:=Fh _ _ ah;obtain ⟨ta,J,rfl⟩:=az.isI;obtain ⟨I,Q,rfl⟩:=ah.isI;have bf:=ai aX;have bh:=ai aY;have bv:=ai az;have bw:=ai ah;clear aX aY az ah;go_enter func156,ntmps156;go_wp2_with fail;refine (KE T p ta J I Q w bG).mono ?_;rintro e w1 ⟨rfl,ab⟩;have b1:an w (w1.alloc (.cells #[.int .i64 p,.iface ta J,.iface I Q] 242)):=ab.alloc ab.size _;have aH:=ai b1;have bx:=ai (aE.new w1 #[.int .i64 p,.iface ta J,.iface I Q] 242);have bz:=ai (bv.u.but (But.of_below b1));have bA:=ai (bw.u.but (But.of_below b1));have b0:=ab.size;clear ab b1;go_wp2_with fail;refine (bf.u b _ _ aM bz.u aj).mono ?_;rintro e U ⟨bQ,rfl,ac,lx,a2,a3,a4⟩;have aI:=ai (aH.u.trans (ac.mono aH.u.size));have ap:=bx.u.below ac;have bc:=ai ap;obtain ⟨bN,bO,bP⟩:=ap.three;have bC:=ai (bA.u.but (But.of_below ac));have bi:=ai a2;have bk:=ai a3;have aR:=ai (bg a4 (show w.heap.size<=_ by simp;omega));have bR:=aI.u.size;clear ac ap a2 a3 a4;go_wp2_with (at_builtin;go_must (refine bI _ rfl _ _ 301 rfl w.heap.size 157 i0 _ 1 16 underlying301 aK.u aL.u aO.u aP.u rfl au bQ (aC x).length (lx.map Prod.snd) rfl ?hown ⟨U.heap.size,0,none⟩ 1 1 [.iface T (.agg #[.int .i64 p,.iface ta J,.iface I Q])] rfl rfl ?hnews ?hone au ?h63 ?hbytes ?hbase (U.heap.size+1) ?hH ?hrest))
 case hown=>exact aR.u.alloc _
 case hnews=>exact Fj U _ _ _ rfl
 case hone=>intro u V;simp at V;subst V;rfl
 case h63=>unfold maxLen;omega
 case hbytes=>omega
 case hbase=>simp;omega
 case hH=>simp
 case hrest=>
  intro bU bT aG aV ae bH bW;have Y:=aR.u.alloc (.cells #[.iface T (.agg #[.int .i64 p,.iface ta J,.iface I Q])] 157);have R:an U (U.alloc (.cells #[.iface T (.agg #[.int .i64 p,.iface ta J,.iface I Q])] 157)):=bj.alloc aD _;have ar:oN b U aG:=fun g cs f bL A=>(ae.block g (cK (lt_of_some A) R.size) (dH Y ((R.block g (lt_of_some A)).trans A) au)).trans (R.block g (lt_of_some A))
  have al:=ai (ct (aI.u.trans (R.mono bR)) ae aM (fun k ax=>(Y.lt k ax).1));have Z:=bc.u.below R;have aS:=(ae.block _ Z.lt (own_ne Y Z au)).trans Z;have be:=ai (show aE aG w1.heap.size #[.int .i64 p,.iface ta J,.iface I Q] 242 from aS);obtain ⟨t0,t1,t2⟩:=be.u.three;have bD:=ai (bB.frame ar _ _ bC.u);have bl:=ai (show ∀p∈lx,bB b aG p.1 p.2 from fun p C=>bB.frame ar _ _ (bk.u p C));have bt:=ai aV;have b2:=al.u.size;clear Y R ar Z aS aV ae bH bN bO bP;go_wp2_with fail;refine (bh.u b _ _ aj bD.u aj).mono ?_;rintro e ak ⟨bZ,rfl,ad,D,a5,a6,a7⟩;obtain ⟨bF,bE,rfl,a8,a9⟩:=Cm a7 ba;have aJ:=ai (al.u.trans (ad.mono al.u.size));have bp:=ai a5;have aQ:=ai a6;have bn:=ai (show ∀p∈lx,bB b ak p.1 p.2 from fun p C=>(bl.u p C).but (But.of_below ad));have am:=ai (ay (w':=ak) bt.u (fun g cs f _ A=>ad.block g (lt_of_some A)));have br:=ai a8;have bs:=ai a9;have bS:=aJ.u.size;clear ad a5 a6 a7 a8 a9;go_wp2_with (at_builtin;go_must (refine bI _ rfl _ _ 301 rfl w.heap.size 157 i0 _ 1 16 underlying301 aK.u aL.u aO.u aP.u rfl au _ _ _ rfl am.u ⟨bF,0,none⟩ (aC y).length bE (D.map Prod.snd) rfl br.u bs.u ?hone ba ?h63 ?hbytes ?hbase ak.heap.size rfl ?hrest))
  case hone=>
   intro u V;rw [aN] at V;obtain ⟨q,bM,rfl⟩:=V;obtain ⟨t,z,e⟩:=(aQ.u q bM).isI;rw [e];rfl
  case h63=>unfold maxLen;omega
  case hbytes=>omega
  case hbase=>omega
  case hrest=>
   intro g5 aT w5 aW aw bJ bX;have av:oN b ak w5:=fun g cs f bL A=>aw.block g (lt_of_some A) (dH am.u A au)
   have bb:=ai (ct aJ.u aw bS (fun k ax=>(am.u.lt k ax).1));have bo:=ai (show ∀p∈lx,bB b w5 p.1 p.2 from fun p C=>bB.frame av _ _ (bn.u p C));have bq:=ai (show ∀p∈D,bB b w5 p.1 p.2 from fun p C=>bB.frame av _ _ (aQ.u p C));have bu:=ai aW;clear av aW aw bJ;go_wp2;go_ret;exact ⟨.slice (some ⟨g5,0,none⟩) ((aC x).length+1+(aC y).length) aT,rfl,bb.u,lx,D,bi.u,bp.u,bo.u,bq.u,by rw [List.append_assoc];exact bu.u⟩
def oe(e):Fi e:=by
 induction e using Ex.ind with
 |h0 n r=>
  intro b v w I h hn;have key:∀{v:ag},(Calls prog 156 #[v] w fun e' w'=>∃sv,e'=.returned sv/\an w w'/\w'.ownsRow w.heap.size 157 1 sv 1 [v])->bB b w ⟨n,none,r⟩ v->Calls prog 156 #[v] w fun e' w'=>∃sv,e'=.returned sv/\an w w'/\WU w.heap.size b w' sv (aC ⟨n,none,r⟩):=by
   intro v hc ae;refine hc.mono ?_;rintro e' w' ⟨sv,h1,h2,Q⟩;exact ⟨sv,h1,h2,[(⟨n,none,r⟩,v)],rfl,fun p A=>by simp at A;subst A;exact ae.but (But.of_below h2),Q⟩
  have V:=h
  rcases h with ⟨h1,sv,rfl,Q⟩|⟨h1,rfl⟩|⟨h1,rfl⟩
  ·exact key (ri _ _ w (.inl rfl)) V
  ·exact key (ri _ _ w (.inr (.inl rfl))) V
  exact key (ri _ _ w (.inr (.inr rfl))) V
 |h1 n a=>intro b v w I h hn;exact h.elim
 |h2 n x y hx hy=>
  intro b v w I h hn;obtain ⟨C,D,rfl,R,U⟩:=h;have Y:(aC x).length+1+(aC y).length<=1000:=by simp [aC] at hn;omega
  have key:(Calls prog 156 #[.iface (gy n.kind) (.agg #[.int .i64 n.place,C,D])] w fun e' w'=>∃sv,e'=.returned sv/\an w w'/\
   ∃lx J:List (Ex×ag),lx.map Prod.fst=aC x/\J.map Prod.fst=aC y/\(∀p∈lx,bB b w' p.1 p.2)/\(∀p∈J,bB b w' p.1 p.2)/\
    w'.ownsRow w.heap.size 157 1 sv ((aC x).length+1+(aC y).length) (lx.map Prod.snd++[.iface (gy n.kind) (.agg #[.int .i64 n.place,C,D])]++J.map Prod.snd)):=by
   unfold gy
   split
   ·exact rj _ (.inl rfl) _ x y hx hy b C D w I R U Y
   ·split
    ·exact rj _ (.inr (.inl rfl)) _ x y hx hy b C D w I R U Y
    exact rj _ (.inr (.inr rfl)) _ x y hx hy b C D w I R U Y
  refine key.mono ?_;rintro e' w' ⟨sv,h1,h2,lx,J,Q,Z,ab,ac,ad⟩;refine ⟨sv,h1,h2,lx++[(⟨n,some x,some y⟩,.iface (gy n.kind) (.agg #[.int .i64 n.place,C,D]))]++J,?_,?_,?_⟩
  ·simp [aC,Q,Z]
  ·intro p A;simp only [aQ,aR] at A
   rcases A with (A|rfl)|A
   ·exact ab p A
   ·exact ⟨C,D,rfl,R.but (But.of_below h2),U.but (But.of_below h2)⟩
   exact ac p A
  have e1:(aC ⟨n,some x,some y⟩).length=(aC x).length+1+(aC y).length:=by simp [aC];omega
  rw [e1]
  simpa using ad
end
section
abbrev o9:=@List.take_append_drop
abbrev bS:=@List.mem_flatMap
abbrev bA:=@List.mem_of_getElem?
abbrev pd(a0:Int)(a1:Option Addr)(a2:Nat)(a3:Nat):Obj:=.cells #[.int .i64 a0,.slice a1 a2 a3] 236
def zc19q (h:aA:=by
 simp [aH hkl]):aA:=h
def WV (h:aA:=by
 have A:eY ⟨nq,none,rq⟩=[]:=by simp [eY,Ye]
 subst hv;clear Ye;go_wp2;go_roundw
 case rel=>exact ⟨k+1,.slice sa (GK e k).length sc,aj,by go_num,rfl,HB.u,by rw [IR A hk'];exact HO.u⟩
 case measure=>simp [intOf];omega):aA:=h
def NF (h:aA:=by
 rcases gh k (aC e).length with h|h
 ·exact h
 rw [kR h] at hk;cases hk):aA:=h
def NG (h:aA:=by
 unfold gy;exact NH):aA:=h
def NH (h:aA:=by
 split
 ·exact .inl rfl
 split
 ·exact .inr (.inl rfl)
 exact .inr (.inr rfl)):aA:=h
def Fk(q:aU) (h:bF aU->aA:=by
 intro zq;have hkl:k<l.length:=by omega
 obtain ⟨g1,c1,e1,kc⟩:=aS (ay (w':=wr) L3.u (fun g cs f _ hh=>hbr.block g (lt_of_some hh))) k l[k].2 zc19q
 revert hkl g1 c1 e1 kc
 exact zq.1):aA:=h ⟨q⟩
variable {base:Nat}
def og(h:w.ownsRow base e size v n xs)(D:0<n):
  ∃g c,v=.slice (some ⟨g,0,none⟩) n c/\xs.length=n*size/\∀j u,xs[j]? =some u->w.cell? ((⟨g,0,none⟩:Addr).add j)=some u:=by
 obtain ⟨g,c,hv,_⟩:=h.form D;refine ⟨g,c,hv,h.1,fun j u I=> ?_⟩;obtain ⟨g',J,A,hc⟩:=aS h j u I;rw [hv] at A;simp only [aI,aL,ce] at A;obtain ⟨⟨rfl,_⟩,_⟩:=A;have C:(⟨g,0,none⟩:Addr).add j=⟨g,j,none⟩:=by unfold Addr.add;split<;>simp_all
 rw [C];exact hc
def eY(e:Ex):List Gr:=match e.l with
 |none=>if e.nd.kind=0 then e.nd.gs else []
 |some _=>[]
def WF(e:Ex):Prop:=∀p∈aC e,p.l=none->p.nd.kind=0->p.nd.gs≠ []
def b9(e:Ex):List Gr:=(aC e).flatMap eY
def GK(e:Ex)(k:Nat):List Gr:=((aC e).take k).flatMap eY
def zZ{e p gs}(h:eY p=gs)(hk:(aC e)[k]? =some p):GK e (k+1)=GK e k++gs:=by
 unfold GK;have A:k<(aC e).length:=by
  exact NF
 rw [cJ A,cT];rw [aH A] at hk;simp only [aL] at hk;simp [hk,h]
def IR{e p}(h:eY p=[])(A:(aC e)[k]? =some p):GK e (k+1)=GK e k:=by
 rw [zZ h A];simp
def gk_le(e k):(GK e k).length<=(b9 e).length:=by
 unfold GK b9
 conv=>rhs;rw [<-o9 k (aC e),cT,List.length_append]
 omega
def Yf(l):∀u∈cz l,u.oneCell'=true:=by
 intro u h;unfold cz at h;rw [bS] at h;obtain ⟨g,_,h⟩:=h;exact Nq g u h
def uE(a c):cz (a++c)=cz a++cz c:=by simp [cz]
def pe(ah:Nat)(n0)(b:Nat)(e v w)(bf:b<w.heap.size)(h:bB b w e v)(aY:(aC e).length<=1000)(bh:(b9 e).length<=1000)(a4:WF e):
  Calls prog 106 #[.agg #[.int .i64 ah,.string n0,v]] w fun e' w'=>∃sv,e'=.returned sv/\an w w'/\w'.ownsRow w.heap.size 207 5 sv (b9 e).length (cz (b9 e)):=by
 obtain ⟨i0,hi,a5,a6,a7⟩:=bK Tryz.info207;have ap:=ai hi;have aB:=ai a5;have aE:=ai a6;have aF:=ai a7;obtain ⟨tv,bc,rfl⟩:=h.isI;have H:=ai h;have aw:=ai a4;go_enter func106,ntmps106;go_wp2_with fail;refine (oe e b _ _ aM (H.u.but ((But.refl b w).alloc _)) aY).mono ?_;rintro e1 U ⟨bp,rfl,aV,l,l1,l2,ae⟩;obtain ⟨bl,oc,rfl⟩:=ax ae;have bk:l.length=(aC e).length:=by rw [<-l1];simp
 have V:=ai (((az _ w).alloc aD (cE ah n0 tv bc)).trans (aV.mono ar));have aG:=ai l1;have aJ:=ai l2;have L3:=ai ae;have al:=V.u.size;have f0:=jF;have f1:=iX;have f2:=iY;have f3:=fA;have f4:=hN;have f5:=hO;go_wp2_with fail
 go_loopw [3,11] (fun ba a9 wr=>∃(k:Nat)(sv:ag),k<=(aC e).length/\a9=.int .i64 k/\ba=sv/\an U wr/\wr.ownsRow U.heap.size 207 5 sv (GK e k).length (cz (GK e k))) (fun _ u _=>(aC e).length-(intOf u).toNat)
 case atStart=>exact ⟨0,_,aj,rfl,rfl,az _ _,bL⟩
 case round=>
  obtain ⟨k,sv,ac,rfl,rfl,hbr,ho⟩:=hrel;obtain ⟨sa,sc,rfl⟩:=ax ho;have HB:=ai hbr;have HO:=ai ho
  by_cases bj:k<(aC e).length
  ·refine Fk ?_;intro hkl g1 c1 e1 kc;simp only [aI] at e1;obtain ⟨rfl,_,rfl⟩:=e1;have D:=(aJ.u l[k] (bn hkl)).but (b:=b) (But.of_below hbr);have hk':(aC e)[k]? =some l[k].1:=by rw [<-aG.u];simp [aH hkl]
   generalize l[k]=q at*;obtain ⟨a8,bo⟩:=q;simp only at kc D hk';have aW:(k:Int)<((aC e).length:Int):=aj
   match a8,D,hk' with
   |⟨nq,some xq,some yq⟩,⟨vx,vy,hv,rx,ry⟩,hk'=>
    have J:eY ⟨nq,some xq,some yq⟩=[]:=rfl;subst hv;have I:gy nq.kind=244\/gy nq.kind=245\/gy nq.kind=246:=by
     exact NG
    rcases I with I|I|I
    all_goals
     rw [I] at kc;go_wp2;go_roundw
     case rel=>exact ⟨k+1,.slice sa (GK e k).length sc,aj,by go_num,rfl,HB.u,by rw [IR J hk'];exact HO.u⟩
     case measure=>simp [intOf];omega
   |⟨nq,none,rq⟩,D,hk'=>
    rcases D with ⟨Ye,gv,hv,R⟩|⟨Ye,hv⟩|⟨Ye,hv⟩
    ·have J:eY ⟨nq,none,rq⟩=nq.gs:=by simp [eY,Ye]
     have Q:0<nq.gs.length:=mX.2 (aw.u _ (bA hk') rfl Ye);have aX:=gk_le e (k+1);rw [zZ J hk',List.length_append] at aX;obtain ⟨C,gc,rfl,nl,af⟩:=og R Q;subst hv;have aK:=ai nl;have aN:=ai af;have aP:C<wr.heap.size:=by
      obtain ⟨g',be,e1,h1⟩:=R.form Q;simp only [aI,aL,ce] at e1;obtain ⟨⟨rfl,_⟩,_⟩:=e1;exact h1.2
     have bb:=HB.u.size;clear nl af R Ye;go_wp2_with (at_builtin;go_must (refine bI _ rfl _ _ 211 rfl U.heap.size 207 i0 _ 5 56 underlying211 ap.u aB.u aE.u aF.u rfl au _ _ _ rfl (HO.u.alloc _) ⟨C,0,none⟩ nq.gs.length gc (cz nq.gs) rfl aK.u ?hnews (Yf _) Q ?h63 ?hbytes ?hbase (wr.heap.size+1) ?hH ?hrest))
     case hnews=>
      intro j u aZ;have aQ:(⟨C,0,none⟩:Addr).add j=⟨C,j,none⟩:=by unfold Addr.add;split<;>simp_all
      have:=aN.u j u aZ;rw [aQ] at this ⊢;rw [Below.cell ((az wr.heap.size wr).alloc aD _) aP];exact this
     case h63=>unfold maxLen;omega
     case hbytes=>omega
     case hbase=>simp;omega
     case hH=>simp
     case hrest=>
      intro g5 aT w5 ad ab aR bi;have Y:=HO.u.alloc (pd nq.place (some ⟨C,0,none⟩) nq.gs.length gc);have am:=ai (ct (HB.u.alloc bb (pd nq.place (some ⟨C,0,none⟩) nq.gs.length gc)) ab aM (fun k ac=>(Y.lt k ac).1));have aO:=ai ad;clear ad ab aR Y;go_wp2;go_roundw
      case rel=>exact ⟨k+1,.slice (some ⟨g5,0,none⟩) ((GK e k).length+nq.gs.length) aT,aj,by go_num,rfl,am.u,by rw [zZ J hk',List.length_append,uE];exact aO.u⟩
      case measure=>simp [intOf];omega
    ·exact WV
    exact WV
   |⟨nq,some xq,none⟩,D,hk'=>exact D.elim
  have Z:GK e k=b9 e:=by
   unfold GK b9;rw [dy aj]
  have av:Hid (wr.ownsRow w.heap.size 207 5 (.slice sa (GK e k).length sc) (b9 e).length (cz (b9 e))):=by
   have:=bg HO.u al;rw [Z] at this ⊢;exact this
  clear Z;have aW:¬((k:Int)<((aC e).length:Int)):=aj;clear hbr ho;go_wp2;go_ret;exact ⟨.slice sa (GK e k).length sc,rfl,V.u.trans (HB.u.mono al),ak av⟩
end
section
abbrev gm:=@List.findSome?_cons
abbrev hP:=@bne_iff_ne
abbrev hQ(a0:Int)(a1:ae)(a2:Int)(a3:Int)(a4:ae):Obj:=.cells #[.int .i64 a0,.string a1,.int .i64 a2,.int .i64 a3,.string a4] 207
def NI (h:aA:=by
 go_wp2_with (go_at_call 73;refine (jS _ 5 _).mono ?_;rintro e A ⟨rfl,rfl⟩);exact Fc):aA:=h
def pf(q:aU) (h:bF aU->aA:=by
 intro zq;rintro e w2 ⟨rfl,hb2⟩;have B2:=ai (xh.u.trans (hb2.mono xh.u.size))
 revert w2 hb2 B2
 exact zq.1):aA:=h ⟨q⟩
def NJ(q:aU) (h:bF aU->aA:=by
 intro zq;refine C.u.mono ?_;rintro e w3 ⟨rfl,hb3⟩;have B3:=ai ((B2.u.alloc UH (bD t.place t.name va vn vc)).trans (hb3.mono aM))
 revert w3 hb3 B3
 exact zq.1):aA:=h ⟨q⟩
def t3(p:Ty×ag):E3:=(p.1.place,p.1.name,p.2)
def r3(p:Rl×ag):E3:=(p.1.place,p.1.name,p.2)
def bW(ts:List Ty)(x:ae):Option Ty:=ts.find? fun t=>eqs t.name x
def bT(t:Ty)(x:ae):Option Rl:=t.rels.find? fun r=>eqs r.name x
def c3_t3(l:List (Ty×ag)):(l.map t3).flatMap c3=l.flatMap qj:=by rw [List.flatMap_map];rfl
def c3_r3(l:List (Rl×ag)):(l.map r3).flatMap c3=l.flatMap qi:=by rw [List.flatMap_map];rfl
def uF(x:ae)(l:List (Ty×ag)):gV x (l.map t3)=(l.find? fun p=>eqs p.1.name x).map t3:=by
 unfold gV;rw [List.find?_map];rfl
def uG(x:ae)(l:List (Rl×ag)):gV x (l.map r3)=(l.find? fun p=>eqs p.1.name x).map r3:=by
 unfold gV;rw [List.find?_map];rfl
def ph(x:ae)(l:List (Ty×ag)):bW (l.map Prod.fst) x=(l.find? fun p=>eqs p.1.name x).map Prod.fst:=by
 unfold bW;rw [List.find?_map];rfl
structure RC(b:Nat)(w:af)(sv:ag)(rs:List Rl)(rl:List (Rl×ag)):Prop where
 fst:rl.map Prod.fst=rs
 row:hJ w 159 sv (rl.map r3)
 ex:∀p∈rl,bB b w p.1.body p.2
 len:rs.length<=1000
 okp:∀r∈rs,(aC r.body).length<=1000
 okg:∀r∈rs,(b9 r.body).length<=1000
 wf:∀r∈rs,WF r.body
structure MC(b:Nat)(w:af)(sv:ag)(ts:List Ty)(tl:List (Ty×ag)):Prop where
 fst:tl.map Prod.fst=ts
 row:hJ w 110 sv (tl.map t3)
 rels:∀p∈tl,∃rl,RC b w p.2 p.1.rels rl
 len:ts.length<=1000
 blt:b<w.heap.size
def RC.below{rl}(h:RC b w sv rs rl)(k:an w w'):RC b w' sv rs rl:=
 ⟨h.fst,h.row.below k,fun p A=>(h.ex p A).but (But.of_below k),h.len,h.okp,h.okg,h.wf⟩
def MC.below{tl}(h:MC b w sv ts tl)(k:an w w'):MC b w' sv ts tl:=
 ⟨h.fst,h.row.below k,fun p A=>by obtain ⟨rl,C⟩:=h.rels p A;exact ⟨rl,C.below k⟩,h.len,cK h.blt k.size⟩
def RC.form{rl}(h:RC b w sv rs rl):∃a n c,sv=.slice a n c:=by
 obtain ⟨a,c,e⟩:=ax h.row;exact ⟨a,_,c,e⟩
def MC.form{tl}(h:MC b w sv ts tl):∃a n c,sv=.slice a n c:=by
 obtain ⟨a,c,e⟩:=ax h.row;exact ⟨a,_,c,e⟩
def RC.llen{rl}(h:RC b w sv rs rl):(rl.map r3).length<=1000:=by
 have:=h.len;rw [<-h.fst] at this;simpa using this
def MC.llen{tl}(h:MC b w sv ts tl):(tl.map t3).length<=1000:=by
 have:=h.len;rw [<-h.fst] at this;simpa using this
def uH(b sv ts tl x w)(h:MC b w sv ts tl)(A:bW ts x=none):
  Calls prog 57 #[.agg #[sv],.string x] w fun e w'=>e=.returned (.tuple #[.agg #[.int .i64 0,.string ⟨#[]⟩,.slice none 0 0],cj 5])/\an w w':=by
 refine xW sv (tl.map t3) x w h.llen h.row ?_;rw [<-h.fst,ph] at A;rw [uF]
 cases C:tl.find? (fun p=>eqs p.1.name x) with
 |none=>rfl
 |some y=>rw [C] at A;cases A
def ru(b sv ts tl x w)(h:MC b w sv ts tl)(t)(A:bW ts x=some t):
  ∃J R Q rl,RC b w (.slice J R Q) t.rels rl/\Calls prog 57 #[.agg #[sv],.string x] w fun e w'=>e=.returned (.tuple #[.agg #[.int .i64 t.place,.string t.name,.slice J R Q],.nilIface])/\an w w':=by
 rw [<-h.fst,ph] at A
 cases C:tl.find? (fun p=>eqs p.1.name x) with
 |none=>rw [C] at A;cases A
 |some y=>
  rw [C] at A;simp only [Option.map_some,aL] at A;subst A;obtain ⟨rl,D⟩:=h.rels y (gj C);obtain ⟨a,n,c,e⟩:=D.form;have I:=D;rw [e] at I;refine ⟨a,n,c,rl,I,?_⟩;have:=o7 sv (tl.map t3) x w h.llen h.row (t3 y) (by rw [uF,C];rfl) ⟨a,n,c,e⟩;have U:(t3 y).2.2=.slice a n c:=e;rw [U] at this;exact this
def jW(b C:Nat)(nn sv t rl x w)(h:RC b w sv t.rels rl)(A:bT t x=none):
  Calls prog 145 #[.agg #[.int .i64 C,.string nn,sv],.string x] w fun e w'=>e=.returned (.tuple #[.agg #[.int .i64 0,.string ⟨#[]⟩,.nilIface],cj 5])/\an w w':=by
 refine xX C nn sv (rl.map r3) x w h.llen h.row ?_;unfold bT at A;rw [<-h.fst,List.find?_map] at A;rw [uG]
 cases D:rl.find? (fun p=>eqs p.1.name x) with
 |none=>rfl
 |some y=>rw [show ((fun r:Rl=>eqs r.name x) ∘ Prod.fst)=(fun p:Rl×ag=>eqs p.1.name x) from rfl,D] at A;cases A
def lz(b Q:Nat)(nn sv t rl x w)(h:RC b w sv t.rels rl)(r)(A:bT t x=some r):
  ∃ta C,bB b w r.body (.iface ta C)/\r∈t.rels/\Calls prog 145 #[.agg #[.int .i64 Q,.string nn,sv],.string x] w fun e w'=>e=.returned (.tuple #[.agg #[.int .i64 r.place,.string r.name,.iface ta C],.nilIface])/\an w w':=by
 have U:r∈t.rels:=gj A;unfold bT at A;rw [<-h.fst,List.find?_map,show ((fun r:Rl=>eqs r.name x) ∘ Prod.fst)=(fun p:Rl×ag=>eqs p.1.name x) from rfl] at A
 cases D:rl.find? (fun p=>eqs p.1.name x) with
 |none=>rw [D] at A;cases A
 |some y=>
  rw [D] at A;simp only [Option.map_some,aL] at A;subst A;have I:=h.ex y (gj D);obtain ⟨ta,C,e⟩:=I.isI;have J:=I;rw [e] at J;refine ⟨ta,C,J,U,?_⟩;have:=o8 Q nn sv (rl.map r3) x w h.llen h.row (r3 y) (by rw [uG,D];rfl) ⟨ta,C,e⟩;have R:(r3 y).2.2=.iface ta C:=e;rw [R] at this;exact this
def NL(g):∀(l:List Gr)(i:Nat),l[i]? =some g->(cz l)[i*5]? =some (.int .i64 g.tp)/\(cz l)[i*5+1]? =some (.string g.ty)/\(cz l)[i*5+2]? =some (.int .i64 g.reach)/\(cz l)[i*5+3]? =some (.int .i64 g.rp)/\(cz l)[i*5+4]? =some (.string g.rel)
 | [],i,h=>by simp at h
 |e'::l,0,h=>by simp at h;subst h;simp [cz,cR]
 |e'::l,i+1,h=>by
  have:=NL g l i ni;rw [show cz (e'::l)=(cR e').toList++cz l from rfl,show (i+1)*5=i*5+5 by omega]
  simpa [cR] using this
variable {base:Nat}
def Yg.cell{l}(h:w.ownsRow base 207 5 v l.length (cz l))(i g)(hi:l[i]? =some g):
  ∃q c,v=.slice (some ⟨q,0,none⟩) l.length c/\w.cell? ⟨q,i*5,none⟩=some (.int .i64 g.tp)/\w.cell? ⟨q,i*5+1,none⟩=some (.string g.ty)/\w.cell? ⟨q,i*5+2,none⟩=some (.int .i64 g.reach)/\w.cell? ⟨q,i*5+3,none⟩=some (.int .i64 g.rp)/\w.cell? ⟨q,i*5+4,none⟩=some (.string g.rel):=by
 obtain ⟨h0,h1,h2,C,D⟩:=NL g l i hi;obtain ⟨q,c,rfl,e0⟩:=aS h _ _ h0;have A:∀k u,(cz l)[k]? =some u->w.cell? ⟨q,k,none⟩=some u:=fun k u I=>by
  obtain ⟨Q,J,e',e1⟩:=aS h k u I;simp only [aI,aL,ce] at e';obtain ⟨⟨rfl,_⟩,_⟩:=e';exact e1
 exact ⟨q,c,rfl,e0,A _ _ h1,A _ _ h2,A _ _ C,A _ _ D⟩
def l7(ts:List Ty)(g:Gr):Option Nat:=match bW ts g.ty with
 |none=>some g.tp
 |some t=>if g.reach=2 then (match bT t g.rel with
   |none=>some g.rp
   |some _=>none) else none
def oO(ts:List Ty)(gs:List Gr):Option Nat:=gs.findSome? (l7 ts)
def Fl(ts:List Ty)(gs:List Gr)(k:Nat)(h:k<gs.length):oO ts (gs.drop k)=match l7 ts gs[k] with
  |some p=>some p
  |none=>oO ts (gs.drop (k+1)):=by
 unfold oO;rw [dI h,gm]
 cases l7 ts gs[k]<;>rfl
def xu(b lp:Nat)(sv ts tl gv gs w)(h:MC b w sv ts tl)(ad:w.ownsRow (b+1) 207 5 gv gs.length (cz gs))(aW:gs.length<=1000):
  Calls prog 174 #[.agg #[sv],.agg #[.int .i64 lp,gv]] w fun e' w'=>e'=.returned (iW 5 (oO ts gs))/\an w w':=by
 obtain ⟨aG,mn,mc,rfl⟩:=h.form;obtain ⟨ga,gc,rfl⟩:=ax ad;have H:=ai h;have aK:=ai ad;generalize D:oO ts gs=aO;have aL:=ai D;clear h ad D;go_enter func174,ntmps174;go_wp2_with fail
 go_loopw [14] (fun u wr=>∃(k:Nat),k<=gs.length/\u=.int .i64 k/\an w wr/\aE wr w.heap.size #[.slice aG mn mc] 75/\Hid (oO ts (gs.drop k)=aO)) (fun u _=>gs.length-(intOf u).toNat)
 case atStart=>exact ⟨0,aj,rfl,(bj.alloc aD _).alloc ar _,(aE.new w _ _).alloc _,aL⟩
 case round=>
  obtain ⟨k,aX,rfl,Q,U,ah⟩:=hrel;have aJ:=ai Q;have aV:=Q.size
  by_cases aC:k<gs.length
  ·have D:=ak ah;rw [Fl ts gs k aC] at D;obtain ⟨q,c,e1,k0,k1,aY,k3,aZ⟩:=Yg.cell (ay (w':=wr) aK.u (fun g cs f _ aR=>Q.block g (lt_of_some aR))) k gs[k] (aH aC);simp only [aI] at e1;obtain ⟨rfl,_,rfl⟩:=e1;generalize gs[k]=g at*;have ac:an w (wr.alloc (hQ g.tp g.ty g.reach g.rp g.rel)):=Q.alloc aV _;have ag:=ai (H.u.below ac);have al:=U.alloc (hQ g.tp g.ty g.reach g.rp g.rel);have ae:=aE.new wr #[.int .i64 g.tp,.string g.ty,.int .i64 g.reach,.int .i64 g.rp,.string g.rel] 207;have a5:wr.cell? ⟨w.heap.size,0,none⟩=some (.slice aG mn mc):=U.cell rfl;have a6:=U.lt;have xh:=ai ac;have af:=ai al;have J:=ai ae;clear Q U ac al ae;unfold l7 at D
   cases I:bW ts g.ty with
   |none=>
    rw [I] at D;have kP:=ai D;have C:=ai (uH b _ ts tl g.ty _ ag.u I);clear D I;go_wp2_with fail;refine C.u.mono ?_;refine pf ?_;intro w2 hb2 B2;obtain ⟨g0,ap,au,av,aw⟩:=(J.u.below hb2).five;have aB:=(J.u.below hb2).lt;have UH:=B2.u.size;clear hb2;unfold cj;exact NI
   |some t=>
    rw [I] at D;obtain ⟨va,vn,vc,rl,aF,V⟩:=ru b _ ts tl g.ty _ ag.u t I;have C:=ai V;have aP:=ai aF;clear I V aF;simp only at D
    by_cases h2:g.reach=2
    ·have aQ:((g.reach:Int) != 2)=false:=by rw [h2];rfl
     rw [if_pos h2] at D;clear h2;go_wp2_with fail;refine C.u.mono ?_;rintro e w2 ⟨rfl,hb2⟩;have ab:=xh.u.trans (hb2.mono xh.u.size);have B2:=ai ab;have Z:=ai (af.u.below hb2);have am:=ai ((aP.u.below hb2).below ((az w2.heap.size w2).alloc aD (bD t.place t.name va vn vc)));have R:=ai (J.u.below hb2);obtain ⟨g0,ap,au,av,aw⟩:=R.u.five;have aB:=R.u.lt;have UH:=ab.size;clear hb2 ab C
     cases Y:bT t g.rel with
     |none=>
      rw [Y] at D;have kP:=ai D;have C:=ai (jW b t.place t.name _ t rl g.rel _ am.u Y);go_wp2_with fail;refine NJ ?_;intro w3 hb3 B3;obtain ⟨a7,n1,n2,a8,a9⟩:=((R.u.alloc (bD t.place t.name va vn vc)).below hb3).five;have nl:=((R.u.alloc (bD t.place t.name va vn vc)).below hb3).lt;have aS:=B3.u.size;unfold cj;go_wp2_with (go_at_call 73;refine (jS _ 5 _).mono ?_;rintro e w3 ⟨rfl,rfl⟩);go_ret;rw [<-kP.u];exact ⟨rfl,(cd B3)⟩
     |some r=>
      rw [Y] at D;have kP:=ai D;obtain ⟨ba,bb,_,_,V⟩:=lz b t.place t.name _ t rl g.rel _ am.u r Y;have C:=ai V;go_wp2_with fail;refine NJ ?_;intro w3 hb3 B3;have aN:=ai ((Z.u.alloc (bD t.place t.name va vn vc)).below hb3);have aS:=B3.u.size;go_wp2;go_roundw
      case rel=>exact ⟨k+1,aj,by go_num,(cd B3),(cM aN),kP⟩
      case measure=>simp [intOf];omega
    have aQ:((g.reach:Int) != 2)=true:=by rw [hP];omega
    rw [if_neg h2] at D;have kP:=ai D;go_wp2_with fail;refine C.u.mono ?_;refine pf ?_;intro w2 hb2 B2;have Z:=ai (af.u.below hb2);obtain ⟨g0,ap,au,av,aw⟩:=(J.u.below hb2).five;have aB:=(J.u.below hb2).lt;have UH:=B2.u.size;go_wp2;go_roundw
    case rel=>exact ⟨k+1,aj,by go_num,(cd B2),(cM Z),kP⟩
    case measure=>simp [intOf];omega
  have D:=ak ah;rw [ei aj] at D;have kP:=ai D;go_wp2;go_ret;rw [<-kP.u];exact ⟨rfl,aJ.u⟩
end
abbrev uO:=@List.length_filterMap_le
abbrev bX:=@List.length_map
abbrev cO:=@List.map_append
abbrev z7(a0:Int)(a1:Int)(a2:ae)(a3:Int)(a4:ae):Array ag:=#[.int .i64 a0,.int .i64 a1,.string a2,.int .i64 a3,.string a4]
abbrev mf(a0:Int)(a1:Int)(a2:ae)(a3:Int)(a4:ae):Obj:=.cells #[.int .i64 a0,.int .i64 a1,.string a2,.int .i64 a3,.string a4] 240
def WY (h:aA:=by
 rw [HST.u,ht1];simpa using ak HQ):aA:=h
def WZ (h:aA:=by
 go_wp2_with fail;refine C.u.mono ?_;rintro e w5 ⟨rfl,oP⟩;refine NU ?_;intro B5 O5 sz5;clear oP;unfold cj;go_wp2;go_roundw
 case rel=>exact ⟨k+1,.slice sa sn sc,l3,aj,by go_num,rfl,B5.u.alloc sz5 _,O5.u.alloc _,ai WY⟩
 case measure=>simp [intOf];omega):aA:=h
def NV (h:aA:=by
 rcases gh k gs.length with A|A
 ·exact A
 rw [kR A] at h;cases h):aA:=h
def NW(q:aU) (h:bF aU->aA:=by
 intro zq;have B4:=ai (xh.u.trans (hb4.mono xh.u.size));have W1:=TBX.u.below hb4;obtain ⟨v0,v1,v2,v3,v4⟩:=W1.five;have vl:=W1.lt;have O4:=ai ((ay (w':=w4) OX.u (fun g cs f _ hh=>hb4.block g (lt_of_some hh))).alloc (bD u.place u.name ua un uc));have sz4:=B4.u.size;have B4x:=ai (B4.u.alloc sz4 (bD u.place u.name ua un uc));clear W1
 revert B4 v0 v1 v2 v3 v4 vl O4 sz4 B4x
 exact zq.1):aA:=h ⟨q⟩
def NY(q:aU) (h:bF aU->aA:=by
 intro zq;refine C.u.mono ?_;rintro e w4 ⟨rfl,hb4⟩;have RC4:=ai ((RCH.u.below hb4).below ((az w4.heap.size w4).alloc aD (bD u.place u.name ua un uc)))
 revert w4 hb4 RC4
 exact zq.1):aA:=h ⟨q⟩
def NU(q:aU) (h:bF aU->aA:=by
 intro zq;have B5:=ai (B4x.u.trans (oP.mono B4x.u.size));have O5:=ai (ay (w':=w5) O4.u (fun g cs f _ hh=>oP.block g (lt_of_some hh)));have sz5:=B5.u.size
 revert B5 O5 sz5
 exact zq.1):aA:=h ⟨q⟩
def iE(ts:List Ty)(y:ae)(g:Gr):Option Ty:=if g.reach=0 then (match bW ts g.ty with
 |none=>none
 |some u=>if (bT u y).isSome then some u else none) else none
def tk(ts:List Ty)(y:ae)(k:Nat)(gs:List Gr):List Ty:=(gs.take k).filterMap (iE ts y)
def nt(ts:List Ty)(t:Ty)(x y:ae):List Ty:=match bT t x with
 |none=>[]
 |some r=>(b9 r.body).filterMap (iE ts y)
def UN{y gs g}(h:gs[k]? =some g):tk ts y (k+1) gs=tk ts y k gs++(iE ts y g).toList:=by
 have C:k<gs.length:=by
  exact NV
 rw [aH C] at h;simp only [aL] at h;unfold tk;rw [cJ C,List.filterMap_append,h]
 cases D:iE ts y g<;>simp [D]
def tk_le(ts y k gs):(tk ts y k gs).length<=k:=by
 unfold tk;have:=uO (iE ts y) (gs.take k);rw [dO] at this;omega
def KG(b tp p1 p2:Nat)(n1 n2 sv ts tl t tv rl w)(h:MC b w sv ts tl)(I:RC b w tv t.rels rl)(Q:bT t n1=none):
  Calls prog 223 #[.agg #[sv],.agg #[.int .i64 t.place,.string t.name,tv],.agg #[.int .i64 tp,.int .i64 p1,.string n1,.int .i64 p2,.string n2]] w fun e' w'=>e'=.returned (.slice none 0 0)/\an w w':=by
 obtain ⟨R,mn,mc,rfl⟩:=h.form;obtain ⟨U,Y,V,rfl⟩:=I.form;have W0:an w (((w.alloc (aW R mn mc)).alloc (bD t.place t.name U Y V)).alloc (mf tp p1 n1 p2 n2)):=((bj.alloc aD _).alloc ar _).alloc aM _;have C:=ai (jW b t.place t.name _ t rl n1 _ (I.below W0) Q);have D:=ai W0;go_enter func223,ntmps223;go_wp2_with fail;refine C.u.mono ?_;rintro e w1 ⟨rfl,J⟩;have A:=ai (D.u.trans (J.mono D.u.size));have sz:=A.u.size;unfold cj;go_wp2;go_ret;exact ⟨rfl,(cd A)⟩
def xZ(b tp p1 p2:Nat)(n1 n2 sv ts tl t tv rl w)(h:MC b w sv ts tl)(R:RC b w tv t.rels rl)(r)(D:bT t n1=some r):
  Calls prog 223 #[.agg #[sv],.agg #[.int .i64 t.place,.string t.name,tv],.agg #[.int .i64 tp,.int .i64 p1,.string n1,.int .i64 p2,.string n2]] w fun e' w'=>∃(xi:ag)(l3:List E3),e'=.returned xi/\an w w'/\w'.ownsRow w.heap.size 110 3 xi l3.length (l3.flatMap c3)/\l3.map (fun e=>e.2.1)=((b9 r.body).filterMap (iE ts n2)).map Ty.name/\∀e∈l3,∃a n c,e.2.2=Value.slice a n c:=by
 obtain ⟨i0,hi,aZ,a5,a6⟩:=bK Tryz.info110;have be:=ai hi;have bn:=ai aZ;have bo:=ai a5;have bp:=ai a6;clear hi aZ a5 a6;obtain ⟨ab,mn,mc,rfl⟩:=h.form;obtain ⟨ah,am,al,rfl⟩:=R.form;have W0:an w (((w.alloc (aW ab mn mc)).alloc (bD t.place t.name ah am al)).alloc (mf tp p1 n1 p2 n2)):=((bj.alloc aD _).alloc ar _).alloc aM _;obtain ⟨bM,rv,aY,Z,J⟩:=lz b t.place t.name _ t rl n1 _ (R.below W0) r D;have okp:=R.okp r Z;have okg:=R.okg r Z;have wf:=R.wf r Z;have C:=ai J;have bi:=ai aY;have bf:=ai (h.below W0);have bq:=ai (((aE.new w #[.slice ab mn mc] 75).alloc (bD t.place t.name ah am al)).alloc (mf tp p1 n1 p2 n2));have TB:=ai (aE.new' ((w.alloc (aW ab mn mc)).alloc (bD t.place t.name ah am al)) (z7 tp p1 n1 p2 n2) 240 (w.heap.size+2) ar);have aG:=ai W0;have bl:=ai wf;clear W0 h R D J aY Z wf;go_enter func223,ntmps223;go_wp2_with fail;refine C.u.mono ?_;rintro e w1 ⟨rfl,ae⟩;have b1:=ae.alloc ae.size (cE r.place r.name bM rv);have av:=ai (aG.u.trans (b1.mono aG.u.size));have br:=ai (bq.u.below b1);have bv:=ai (TB.u.below b1);have aC:=ai (bf.u.below b1);have bt:=ai (bi.u.but (But.of_below b1));have bz:=aC.u.blt;clear ae b1 C;go_wp2_with fail;refine (pe r.place r.name b r.body _ _ bz bt.u okp okg bl.u).mono ?_;rintro e ap ⟨gv,rfl,U,af⟩;obtain ⟨ga,gc,rfl⟩:=ax af;have aw:=ai (av.u.trans (U.mono av.u.size));have aJ:=ai (br.u.below U);have bw:=ai (bv.u.below U);have bh:=ai (aC.u.below U);have bk:=ai af;have a8:=aw.u.size;clear U af;go_wp2_with fail
 go_loopw [9,29] (fun bO bN wr=>∃(k:Nat)(xi:ag)(l3:List E3),k<=(b9 r.body).length/\bN=.int .i64 k/\bO=xi/\an ap wr/\wr.ownsRow ap.heap.size 110 3 xi l3.length (l3.flatMap c3)/\Hid (l3.map (fun e=>e.2.1)=(tk ts n2 k (b9 r.body)).map Ty.name/\∀e∈l3,∃a n c,e.2.2=Value.slice a n c)) (fun _ u _=>(b9 r.body).length-(intOf u).toNat)
 case atStart=>exact ⟨0,_,[],aj,rfl,rfl,az _ _,bL,ai ⟨rfl,ar⟩⟩
 case round=>
  obtain ⟨k,xi,l3,aP,rfl,bH,I,ho,HQ⟩:=hrel;have bY:l3.length<=k:=by
   have:=congrArg List.length (ak HQ).1;rw [bX,bX] at this;have:=tk_le ts n2 k (b9 r.body);omega
  obtain ⟨sa,sn,sc,rfl⟩:∃a n c,xi=.slice a n c:=by
   obtain ⟨a,c,e⟩:=ax ho;exact ⟨a,_,c,e⟩
  subst bH;have bc:=ai I;have aF:=ai ho;have bP:=I.size
  by_cases aS:k<(b9 r.body).length
  ·have bG:(k:Int)<((b9 r.body).length:Int):=by omega
   obtain ⟨q,c,e1,k0,k1,bZ,k3,b0⟩:=Yg.cell (ay (w':=wr) bk.u (fun g cs f _ hh=>I.block g (lt_of_some hh))) k (b9 r.body)[k] (aH aS);simp only [aI] at e1;obtain ⟨rfl,_,rfl⟩:=e1;have aN:(b9 r.body)[k]? =some (b9 r.body)[k]:=aH aS;generalize (b9 r.body)[k]=g at*;have HST:=ai (UN (ts:=ts) (y:=n2) aN);have V:=I.alloc bP (hQ g.tp g.ty g.reach g.rp g.rel);have xh:=ai V;have aB:=ai (bh.u.below V);have TBX:=ai (bw.u.below V);have OX:=ai (aF.u.alloc (hQ g.tp g.ty g.reach g.rp g.rel));have b2:wr.cell? ⟨w.heap.size,0,none⟩=some (.slice ab mn mc):=(aJ.u.below I).cell rfl;have b3:=(aJ.u.below I).lt;clear I ho V aN
   by_cases h0:g.reach=0
   ·have bC:((g.reach:Int) != 0)=false:=by rw [h0];rfl
    cases D:bW ts g.ty with
    |none=>
     have ht1:iE ts n2 g=none:=by simp [iE,h0,D]
     have C:=ai (uH b _ ts tl g.ty _ aB.u D);clear D h0;go_wp2_with fail;refine C.u.mono ?_;refine pf ?_;intro w4 hb4 B4;have W1:=TBX.u.below hb4;have bU:=ai (W1.alloc cY);obtain ⟨v0,v1,v2,v3,v4⟩:=W1.five;have vl:=W1.lt;have O4:=ai ((ay (w':=w4) OX.u (fun g cs f _ hh=>hb4.block g (lt_of_some hh))).alloc cY);have sz4:=B4.u.size;have B4x:=ai (B4.u.alloc sz4 cY);clear hb4 W1;have C:=ai (jW b 0 ⟨#[]⟩ (.slice none 0 0) ⟨em,0,[]⟩ [] n2 (w4.alloc cY) ⟨rfl,bL,ar,ar,ar,ar,ar⟩ rfl);unfold cj;exact WZ
    |some u=>
     obtain ⟨ua,un,uc,a7,aX,J⟩:=ru b _ ts tl g.ty _ aB.u u D;have C:=ai J;have RCH:=ai aX;clear J aX
     cases Q:bT u n2 with
     |none=>
      have ht1:iE ts n2 g=none:=by simp [iE,h0,D,Q]
      have ac:=ai Q;clear D h0 Q;go_wp2_with fail;refine NY ?_;intro w4 hb4 RC4;refine NW ?_;intro B4 v0 v1 v2 v3 v4 vl O4 sz4 B4x;clear hb4;have C:=ai (jW b u.place u.name _ u a7 n2 _ RC4.u ac.u);exact WZ
     |some r2=>
      have ht1:iE ts n2 g=some u:=by simp [iE,h0,D,Q]
      have ac:=ai Q;clear D h0 Q;go_wp2_with fail;refine NY ?_;intro w4 hb4 RC4;have bx:=ai (aE.new w4 (iy u.place u.name ua un uc) 110);refine NW ?_;intro B4 v0 v1 v2 v3 v4 vl O4 sz4 B4x;clear hb4;obtain ⟨a9,ba,_,_,J⟩:=lz b u.place u.name _ u a7 n2 _ RC4.u r2 ac.u;have C:=ai J;clear J;go_wp2_with fail;refine C.u.mono ?_;rintro e w5 ⟨rfl,oP⟩;have ad:=bx.u.below oP;obtain ⟨b4,b5,b6⟩:=ad.three;have b7:=ad.lt;clear ad;refine NU ?_;intro B5 O5 sz5;clear oP;go_wp2_with (at_builtin;go_must (refine bI _ rfl _ _ 73 rfl ap.heap.size 110 i0 _ 3 48 underlying73 be.u bn.u bo.u bp.u rfl au (.slice sa sn sc) l3.length (l3.flatMap c3) rfl ?hown ⟨w5.heap.size+1,0,none⟩ 1 1 (c3 (u.place,u.name,.slice ua un uc)) rfl rfl ?hnews ?hone au ?h63 ?hbytes ?hbase (w5.heap.size+2) ?hH ?hrest))
      case hown=>exact (O5.u.alloc _).alloc _
      case hnews=>exact bu (B:=w5.heap.size+1) (cs:=#[.int .i64 u.place,.string u.name,.slice ua un uc]) (t:=110) (fr:=(0,0)) (aE.new' (w5.alloc _) _ _ _ ar)
      case hone=>
       exact Fe
      case h63=>unfold maxLen;omega
      case hbytes=>omega
      case hbase=>simp;omega
      case hH=>simp
      case hrest=>
       intro bB bA b8 aV aO bE bV;have aK:=(O5.u.alloc (cE r2.place r2.name a9 ba)).alloc (bD u.place u.name ua un uc);have bb:=ai (ct ((B5.u.alloc sz5 (cE r2.place r2.name a9 ba)).alloc aM (bD u.place u.name ua un uc)) aO aM (fun k aP=>(aK.lt k aP).1));have bs:=ai aV;clear aV aO bE aK;go_wp2;go_roundw
       case rel=>exact ⟨k+1,.slice (some ⟨bB,0,none⟩) (l3.length+1) bA,l3++[(u.place,u.name,.slice ua un uc)],aj,by go_num,rfl,bb.u,by rw [List.length_append,cT];exact bs.u,ai ⟨by rw [HST.u,ht1,cO,cO,(ak HQ).1];rfl,fun e Y=>by rw [aQ,aR] at Y;rcases Y with Y|rfl;exact (ak HQ).2 e Y;exact ⟨ua,un,uc,rfl⟩⟩⟩
       case measure=>simp [intOf];omega
   have bC:((g.reach:Int) != 0)=true:=by rw [hP];omega
   have ht1:iE ts n2 g=none:=by simp [iE,h0]
   clear h0;go_wp2;go_roundw
   case rel=>exact ⟨k+1,.slice sa sn sc,l3,aj,by go_num,rfl,xh.u,OX.u,ai WY⟩
   case measure=>simp [intOf];omega
  have bG:¬((k:Int)<((b9 r.body).length:Int)):=aj;have aL:tk ts n2 k (b9 r.body)=(b9 r.body).filterMap (iE ts n2):=by
   unfold tk;rw [dy aj]
  rw [aL] at HQ;clear I ho aL;go_wp2;go_ret;exact ⟨.slice sa sn sc,rfl,aw.u.trans (bc.u.mono a8),l3,bg aF.u a8,(ak HQ).1,fun bQ bR bS bJ=>(ak HQ).2 (bQ,bR,bS) bJ⟩
def Fq(ts:List Ty)(t:Ty)(n1:ae)(p1:Nat)(n2:ae)(p2:Nat):Option Nat:=match bT t n1 with
 |none=>some p1
 |some r=>if ((b9 r.body).filterMap (iE ts n2)).length=0 then some p2 else none
def z8(b tp p1 p2:Nat)(n1 n2 sv ts tl t tv rl w)(h:MC b w sv ts tl)(ah:RC b w tv t.rels rl):
  Calls prog 175 #[.agg #[sv],.agg #[.int .i64 t.place,.string t.name,tv],.agg #[.int .i64 tp,.int .i64 p1,.string n1,.int .i64 p2,.string n2]] w fun e' w'=>e'=.returned (iW 5 (Fq ts t n1 p1 n2 p2))/\an w w':=by
 obtain ⟨R,mn,mc,rfl⟩:=h.form;obtain ⟨V,Z,Y,rfl⟩:=ah.form;have W0:an w (((w.alloc (aW R mn mc)).alloc (bD t.place t.name V Z Y)).alloc (mf tp p1 n1 p2 n2)):=((bj.alloc aD _).alloc ar _).alloc aM _;have al:=ai (h.below W0);have ac:=ai (ah.below W0);have ae:=ai (((aE.new w #[.slice R mn mc] 75).alloc (bD t.place t.name V Z Y)).alloc (mf tp p1 n1 p2 n2));have ag:=ai ((aE.new' (w.alloc (aW R mn mc)) (iy t.place t.name V Z Y) 110 (w.heap.size+1) ar).alloc (mf tp p1 n1 p2 n2));have TB:=ai (aE.new' ((w.alloc (aW R mn mc)).alloc (bD t.place t.name V Z Y)) (z7 tp p1 n1 p2 n2) 240 (w.heap.size+2) ar);have U:=ai W0;generalize I:Fq ts t n1 p1 n2 p2=aJ;unfold Fq at I
 cases Q:bT t n1 with
 |none=>
  have C:=ai (jW b t.place t.name _ t rl n1 _ ac.u Q);rw [Q] at I;have ab:=ai I;go_enter func175,ntmps175;go_wp2_with fail;refine C.u.mono ?_;rintro e w1 ⟨rfl,D⟩;have J:=ai (U.u.trans (D.mono U.u.size));obtain ⟨az,v1,aB,aC,aF⟩:=(TB.u.below D).five;have aG:=(TB.u.below D).lt;have sz:=J.u.size;unfold cj;go_wp2_with (go_at_call 73;refine (jS _ 5 _).mono ?_;rintro e aR ⟨rfl,rfl⟩);go_ret;rw [<-ab.u];exact ⟨rfl,(cd J)⟩
 |some r=>
  obtain ⟨aH,aI,_,_,av⟩:=lz b t.place t.name _ t rl n1 _ ac.u r Q;have C:=ai av;have ak:=ai Q;rw [Q] at I;have ab:=ai I;go_enter func175,ntmps175;go_wp2_with fail;refine C.u.mono ?_;rintro e w1 ⟨rfl,D⟩;have b1:=D.alloc D.size (cE r.place r.name aH aI);have J:=ai (U.u.trans (b1.mono U.u.size));have am:=ai (al.u.below b1);have ap:=ai (ac.u.below b1);have af:=ai (TB.u.below b1);obtain ⟨az,v1,aB,aC,aF⟩:=(TB.u.below D).five;have aG:=(TB.u.below D).lt;obtain ⟨aS,aV,aX⟩:=(ag.u.below D).three;have aY:=(ag.u.below D).lt;have aK:w1.cell? ⟨w.heap.size,0,none⟩=some (.slice R mn mc):=(ae.u.below D).cell rfl;have aL:=(ae.u.below D).lt;go_wp2_with fail;refine (xZ b tp p1 p2 n1 n2 _ ts tl t _ rl _ am.u ap.u r ak.u).mono ?_;rintro e aQ ⟨aO,aj,rfl,ad,ho,aw,_⟩;have ay:aj.length=((b9 r.body).filterMap (iE ts n2)).length:=by
   have:=congrArg List.length aw
   rwa [bX,bX] at this
  obtain ⟨aN,oc,rfl⟩:=ax ho;have B2:=ai (J.u.trans (ad.mono J.u.size));obtain ⟨aZ,a5,a6,a7,a8⟩:=(af.u.below ad).five;have a9:=(af.u.below ad).lt;have aP:=B2.u.size;have I:=ab.u;rw [<-ay] at I;generalize aj.length=ln at*
  by_cases h0:ln=0
  ·have au:((ln:Int)==0)=true:=by rw [h0];rfl
   rw [if_pos h0] at I;have kP:=ai I;exact NI
  have au:((ln:Int)==0)=false:=by rw [b6];omega
  rw [if_neg h0] at I;have kP:=ai I;go_wp2;exact Fc
abbrev uP:=@List.append_of_mem
def W3 (h:aA:=by
 rw [hn] at hR C;have kP:=ai hR;go_wp2_with fail;refine (ak C).mono ?_;refine pf ?_;intro D A B3;unfold iW;go_wp2;exact NZ):aA:=h
def W4 (h:aA:=by
 rw [hn] at hR C;have D:=ai hR;go_wp2_with fail;refine (ak C).mono ?_;refine pf ?_;intro J I A;unfold iW gl;go_wp2;go_ret;rw [<-D.u];exact ⟨rfl,B2.u.trans (A.u.mono UH)⟩):aA:=h
def N0 (h:aA:=by
 have A:=ak HQ;rw [ei aj] at A;have D:¬((k:Int)<((aC r.body).length:Int)):=aj;have C:=ai A;go_wp2;go_ret;rw [<-C.u];exact ⟨rfl,B2.u.trans (HB.u.mono UH)⟩):aA:=h
def NZ (h:aA:=by
 go_roundw
 case rel=>exact ⟨k+1,aj,by go_num,B3.u,kP⟩
 case measure=>simp [intOf];omega):aA:=h
def N1(q:aU) (h:bF aU->aA:=by
 intro zq;have bx:an wr (wr.alloc (mf nq.place nq.p1 nq.n1 nq.p2 nq.n2)):=bj.alloc aD _;have xh:=ai (HB.u.trans (bx.mono wrs))
 revert bx xh
 exact zq.1):aA:=h ⟨q⟩
def N2(q:aU) (h:bF aU->aA:=by
 intro zq;have m0:wr.cell? ⟨w.heap.size,0,none⟩=some (.slice ma mn mc):=(MB2.u.below hbr).cell rfl;have ml:=(MB2.u.below hbr).lt;obtain ⟨y0,y1,y2⟩:=(YB2.u.below hbr).three;have yl:=(YB2.u.below hbr).lt
 revert m0 ml y0 y1 y2 yl
 exact zq.1):aA:=h ⟨q⟩
def N3(q:aU) (h:bF aU->aA:=by
 intro zq;have iF:=(L2.u l[k] (bn hkl)).but (b:=b) (But.of_below hbr);have hk':(aC r.body)[k]? =some l[k].1:=by rw [<-L1.u];simp [aH hkl]
 revert iF hk'
 exact zq.1):aA:=h ⟨q⟩
def fV(ts:List Ty)(t:Ty)(p:Ex):Option Nat:=match p.l with
 |some _=>none
 |none=>if p.nd.kind=0 then oO ts p.nd.gs
  else if p.nd.kind=1 then (match bT t p.nd.n1 with
   |none=>some p.nd.place
   |some _=>none)
  else Fq ts t p.nd.n1 p.nd.p1 p.nd.n2 p.nd.p2
def gN(ts:List Ty)(t:Ty)(r:Rl):Option Nat:=(aC r.body).findSome? (fV ts t)
def oQ{α β:Type}(f:α->Option β)(l:List α)(k)(a:α)(h:l[k]? =some a):(l.drop k).findSome? f=match f a with
  |some p=>some p
  |none=>(l.drop (k+1)).findSome? f:=by
 have C:k<l.length:=by
  rcases gh k l.length with A|A
  ·exact A
  rw [kR A] at h;cases h
 rw [aH C] at h;simp only [aL] at h;rw [dI C,gm,h]
 cases f a<;>rfl
def KH{e p}(D:p∈aC e)(C:p.l=none)(A:p.nd.kind=0):p.nd.gs.length<=(b9 e).length:=by
 unfold b9;have:eY p=p.nd.gs:=by simp [eY,C,A]
 rw [<-this];obtain ⟨a,c,h⟩:=uP D;rw [h];simp;omega
def pk(k):gy k=244\/gy k=245\/gy k=246:=by
 exact NG
def uQ(b sv ts tl t tv rl r bv w)(h:MC b w sv ts tl)(Z:RC b w tv t.rels rl)(av:bB b w r.body bv)(au:r∈t.rels):
  Calls prog 117 #[.agg #[sv],.agg #[.int .i64 t.place,.string t.name,tv],.agg #[.int .i64 r.place,.string r.name,bv]] w fun e' w'=>e'=.returned (iW 5 (gN ts t r))/\an w w':=by
 obtain ⟨ma,mn,mc,rfl⟩:=h.form;obtain ⟨ae,ag,af,rfl⟩:=Z.form;obtain ⟨ad,rv,rfl⟩:=av.isI;have W0:an w (((w.alloc (aW ma mn mc)).alloc (bD t.place t.name ae ag af)).alloc (cE r.place r.name ad rv)):=((bj.alloc aD _).alloc ar _).alloc aM _;have ah:=ai (h.below W0);have aJ:=ai (Z.below W0);have aK:=ai (av.but (But.of_below W0));have aN:=ai (((aE.new w #[.slice ma mn mc] 75).alloc (bD t.place t.name ae ag af)).alloc (cE r.place r.name ad rv));have aP:=ai ((aE.new' (w.alloc (aW ma mn mc)) (iy t.place t.name ae ag af) 110 (w.heap.size+1) ar).alloc (cE r.place r.name ad rv));have okp:=Z.okp r au;have okg:=Z.okg r au;have am:=ai W0;generalize hR:gN ts t r=ap;have aG:=ai hR;have aQ:=ah.u.blt;go_enter func117,ntmps117;go_wp2_with fail;refine (oe r.body b _ _ aQ aK.u okp).mono ?_;rintro e1 w2 ⟨br,rfl,hb2,l,l1,l2,aB⟩;obtain ⟨bp,oc,rfl⟩:=ax aB;have bo:l.length=(aC r.body).length:=by rw [<-l1];simp
 have B2:=ai (am.u.trans (hb2.mono am.u.size));have L1:=ai l1;have L2:=ai l2;have L3:=ai aB;have aL:=ai (ah.u.below hb2);have aO:=ai (aJ.u.below hb2);have MB2:=ai (aN.u.below hb2);have YB2:=ai (aP.u.below hb2);have UH:=B2.u.size;have f0:=jF;have f1:=iX;have f2:=iY;have f3:=fA;have f4:=hN;have f5:=hO;have g1:=lY;have bb:=lZ;have bc:=iP;have be:=kA;have g5:=kD;have h2:=l4;have bf:=iQ;have bg:=kB;have bh:=kE;go_wp2_with fail
 go_loopw [17] (fun a5 wr=>∃(k:Nat),k<=(aC r.body).length/\a5=.int .i64 k/\an w2 wr/\Hid (((aC r.body).drop k).findSome? (fV ts t)=ap)) (fun u _=>(aC r.body).length-(intOf u).toNat)
 case atStart=>exact ⟨0,aj,rfl,az _ _,aG⟩
 case round=>
  obtain ⟨k,bi,rfl,hbr,HQ⟩:=hrel;have HB:=ai hbr;have wrs:=hbr.size
  by_cases bl:k<(aC r.body).length
  ·refine Fk ?_;intro hkl aF c1 e1 kc;simp only [aI] at e1;obtain ⟨rfl,_,rfl⟩:=e1;refine N3 ?_;intro iF hk';generalize l[k]=q at*;obtain ⟨aF,bq⟩:=q;simp only at kc iF hk';have bk:(k:Int)<((aC r.body).length:Int):=aj;have hR:=ak HQ;rw [oQ _ _ _ _ hk'] at hR;have V:=bA hk';refine N2 ?_;intro m0 ml y0 y1 y2 yl;have al:=ai (aL.u.below hbr);have ab:=ai (aO.u.below hbr)
   match aF,iF,hR,V with
   |⟨nq,some xq,some yq⟩,⟨vx,vy,hv,rx,ry⟩,hR,V=>
    have kP:=ai (hR:((aC r.body).drop (k+1)).findSome? (fV ts t)=ap);subst hv
    rcases pk nq.kind with ac|ac|ac
    all_goals
     rw [ac] at kc;go_wp2;go_roundw
     case rel=>exact ⟨k+1,aj,by go_num,HB.u,kP⟩
     case measure=>simp [intOf];omega
   |⟨nq,none,rq⟩,iF,hR,V=>
    rcases iF with ⟨Q,gv,hv,aw⟩|⟨Q,hv⟩|⟨Q,hv⟩
    ·have aV:=KH V rfl Q;have R:fV ts t ⟨nq,none,rq⟩=oO ts nq.gs:=by simp [fV,Q]
     rw [R] at hR;obtain ⟨a8,ba,a9,rfl⟩:∃a n c,gv=.slice a n c:=by
      obtain ⟨a,c,e⟩:=ax aw;exact ⟨a,_,c,e⟩
     subst hv;have bx:an wr (wr.alloc (pd nq.place a8 ba a9)):=bj.alloc aD _;have C:=ai (xu b nq.place _ ts tl _ nq.gs _ (al.u.below bx) (ay aw (fun g cs f _ hh=>bx.block g (lt_of_some hh))) (by simp only at aV;omega));have xh:=ai (HB.u.trans (bx.mono wrs))
     cases hn:oO ts nq.gs with
     |some p=>
      exact W4
     |none=>
      exact W3
    ·subst hv;have bx:an wr (wr.alloc (.cells #[.int .i64 nq.place,.string nq.n1] 238)):=bj.alloc aD _;have xh:=ai (HB.u.trans (bx.mono wrs));have Y:=ai (aE.new wr (kN nq.place nq.n1) 238)
     cases hn:bT t nq.n1 with
     |none=>
      have R:fV ts t ⟨nq,none,rq⟩=some nq.place:=by simp [fV,Q,hn]
      rw [R] at hR;have kP:=ai hR;have C:=ai (jW b t.place t.name _ t rl nq.n1 _ (ab.u.below bx) hn);go_wp2_with fail;refine (ak C).mono ?_;refine pf ?_;intro a6 U B3;obtain ⟨aX,aY⟩:=(Y.u.below U).two;have aZ:=(Y.u.below U).lt;unfold cj;go_wp2_with (go_at_call 73;refine (jS _ 5 _).mono ?_;rintro e a7 ⟨rfl,rfl⟩;unfold gl cj);go_ret;rw [<-kP.u];exact ⟨rfl,B2.u.trans (B3.u.mono UH)⟩
     |some r2=>
      have R:fV ts t ⟨nq,none,rq⟩=none:=by simp [fV,Q,hn]
      rw [R] at hR;have kP:=ai hR;obtain ⟨bs,bt,_,_,aR⟩:=lz b t.place t.name _ t rl nq.n1 _ (ab.u.below bx) r2 hn;have C:=ai aR;go_wp2_with fail;refine (ak C).mono ?_;refine pf ?_;intro a6 U B3;obtain ⟨aX,aY⟩:=(Y.u.below U).two;have aZ:=(Y.u.below U).lt;go_wp2_with (go_at_call 73;refine (ND _ _).mono ?_;rintro e a7 ⟨rfl,rfl⟩);exact NZ
    subst hv;have R:fV ts t ⟨nq,none,rq⟩=Fq ts t nq.n1 nq.p1 nq.n2 nq.p2:=by simp [fV,Q]
    rw [R] at hR;refine N1 ?_;intro bx xh;have C:=ai (z8 b nq.place nq.p1 nq.p2 nq.n1 nq.n2 _ ts tl t _ rl _ (al.u.below bx) (ab.u.below bx))
    cases hn:Fq ts t nq.n1 nq.p1 nq.n2 nq.p2 with
    |some p=>
     exact W4
    |none=>
     exact W3
   |⟨nq,some xq,none⟩,iF,hR,V=>exact iF.elim
  exact N0
abbrev jp(a0:ae)(a1:ae):Obj:=.cells #[.string a0,.string a1] 291
def uR (h:aA:=by
 intro z A;simp [Cr] at A
 rcases A with rfl|rfl<;>rfl):aA:=h
abbrev Sp:=ae×ae
def Cr(s:Sp):List ag:=[.string s.1,.string s.2]
def bp(l:List Sp):List ag:=l.flatMap Cr
def N4(s):∀(l:List Sp)(i:Nat),l[i]? =some s->(bp l)[i*2]? =some (.string s.1)/\(bp l)[i*2+1]? =some (.string s.2)
 | [],i,h=>by simp at h
 |e'::l,0,h=>by simp at h;subst h;simp [bp,Cr]
 |e'::l,i+1,h=>by
  have:=N4 s l i ni;rw [show bp (e'::l)=Cr e'++bp l from rfl,show (i+1)*2=i*2+2 by omega]
  simpa [Cr] using this
def Row2.cell{base l}(h:w.ownsRow base 291 2 v l.length (bp l))(i s)(hi:l[i]? =some s):
  ∃q c,v=.slice (some ⟨q,0,none⟩) l.length c/\w.cell? ⟨q,i*2,none⟩=some (.string s.1)/\w.cell? ⟨q,i*2+1,none⟩=some (.string s.2):=by
 obtain ⟨h0,h1⟩:=N4 s l i hi;obtain ⟨q,c,rfl,e0⟩:=aS h _ _ h0;obtain ⟨C,A,e',e1⟩:=aS h _ _ h1;simp only [aI,aL,ce] at e';obtain ⟨⟨rfl,_⟩,_⟩:=e';exact ⟨q,c,rfl,e0,e1⟩
def ea(a c):bp (a++c)=bp a++bp c:=by simp [bp]
def cu(a):(bp a).length=a.length*2:=by
 induction a with
 |nil=>rfl
 |cons g r ih=>simp [bp,Cr] at*;omega
def N5(l):∀u∈bp l,u.oneCell'=true:=by
 intro u h;unfold bp at h;rw [bS] at h;obtain ⟨g,_,h⟩:=h;simp [Cr] at h
 rcases h with rfl|rfl<;>rfl
def Tryz.info291:(Tryz.prog.info? 291).map (fun i=>(i.zero,i.size,i.bytes))=some (some (.agg #[.string ⟨#[]⟩,.string ⟨#[]⟩]),2,32):=by kernel_rfl
def hS(base:Nat)(w:af)(sv:ag)(l:List Sp):Prop:=w.ownsRow base 291 2 sv l.length (bp l)/\(l=[]->sv=.slice none 0 0)
def hS.nil(base w):hS base w (.slice none 0 0) []:=⟨bL,fun _=>rfl⟩
def hS.form{base l}(h:hS base w sv l):∃a c,sv=.slice a l.length c:=ax h.1
def hS.base{base l}(h:hS base w sv l)(A:base'<=base):hS base' w sv l:=⟨bg h.1 A,h.2⟩
def mg(g:Gr):Option Sp:=if g.reach=2 then some (g.ty,g.rel) else none
def Aa(k:Nat)(gs:List Gr):List Sp:=(gs.take k).filterMap mg
def mh(r:Rl):List Sp:=(b9 r.body).filterMap mg
def KI{gs g}(h:gs[k]? =some g):Aa (k+1) gs=Aa k gs++(mg g).toList:=by
 have C:k<gs.length:=by
  exact NV
 rw [aH C] at h;simp only [aL] at h;unfold Aa;rw [cJ C,List.filterMap_append,h]
 cases D:mg g<;>simp [D]
def UO(k gs):(Aa k gs).length<=k:=by
 unfold Aa;have:=uO mg (gs.take k);rw [dO] at this;omega
def Cs(b r v w)(bk:b<w.heap.size)(h:bB b w r.body v)(bc:(aC r.body).length<=1000)(a9:(b9 r.body).length<=1000)(aB:WF r.body):
  Calls prog 225 #[.agg #[.int .i64 r.place,.string r.name,v]] w fun e' w'=>∃sv,e'=.returned sv/\an w w'/\hS w.heap.size w' sv (mh r):=by
 obtain ⟨i0,hi,aF,aG,aJ⟩:=bK Tryz.info291;have aP:=ai hi;have aV:=ai aF;have aW:=ai aG;have aX:=ai aJ;clear hi aF aG aJ;obtain ⟨bh,rv,rfl⟩:=h.isI;have H:=ai h;have aS:=ai aB;clear h aB;go_enter func225,ntmps225;go_wp2_with fail;refine (pe r.place r.name b r.body _ _ aM (H.u.but ((But.refl b w).alloc _)) bc a9 aS.u).mono ?_;rintro e Y ⟨gv,rfl,ak,U⟩;obtain ⟨ga,gc,rfl⟩:=ax U;have Z:=ai (((az _ w).alloc aD (cE r.place r.name bh rv)).trans (ak.mono ar));have aR:=ai U;have aK:=Z.u.size;clear ak U;go_wp2_with fail
 go_loopw [3,9] (fun bi bj wr=>∃(k:Nat)(sv:ag),k<=(b9 r.body).length/\bj=.int .i64 k/\bi=sv/\an Y wr/\hS Y.heap.size wr sv (Aa k (b9 r.body))) (fun _ u _=>(b9 r.body).length-(intOf u).toNat)
 case atStart=>exact ⟨0,_,aj,rfl,rfl,az _ _,hS.nil _ _⟩
 case round=>
  obtain ⟨k,sv,ap,rfl,bf,C,ho⟩:=hrel;obtain ⟨sa,sc,be⟩:=ho.form;have bn:=UO k (b9 r.body);have Q:=ho.2;have R:=ho.1;generalize ae:Aa k (b9 r.body)=L at*;have J:=ai ae;clear ae;subst be;subst bf;have I:=ai C;have ab:=ai Q;have D:=ai R;have aL:=C.size
  by_cases av:k<(b9 r.body).length
  ·have bb:(k:Int)<((b9 r.body).length:Int):=by omega
   obtain ⟨q,c,e1,k0,k1,bo,k3,bq⟩:=Yg.cell (ay (w':=wr) aR.u (fun g cs f _ ba=>C.block g (lt_of_some ba))) k (b9 r.body)[k] (aH av);simp only [aI] at e1;obtain ⟨rfl,_,rfl⟩:=e1;have al:(b9 r.body)[k]? =some (b9 r.body)[k]:=aH av;generalize (b9 r.body)[k]=g at*;have ac:=ai (KI al);clear C ho Q R al
   by_cases h2:g.reach=2
   ·have a7:((g.reach:Int)==2)=true:=by rw [h2];rfl
    have V:mg g=some (g.ty,g.rel):=by simp [mg,h2]
    clear h2;go_wp2_with (at_builtin;go_must (refine bI _ rfl _ _ 288 rfl Y.heap.size 291 i0 _ 2 32 underlying288 aP.u aV.u aW.u aX.u rfl au (.slice sa L.length sc) L.length (bp L) rfl ?hown ⟨wr.heap.size+1,0,none⟩ 1 1 (Cr (g.ty,g.rel)) rfl rfl ?hnews ?hone au ?h63 ?hbytes ?hbase (wr.heap.size+2) ?hH ?hrest))
    case hown=>exact (D.u.alloc _).alloc _
    case hnews=>exact bu (B:=wr.heap.size+1) (cs:=#[.string g.ty,.string g.rel]) (t:=291) (fr:=(0,0)) (aE.new' (wr.alloc _) _ _ _ ar)
    case hone=>
     exact uR
    case h63=>unfold maxLen;omega
    case hbytes=>omega
    case hbase=>simp;omega
    case hH=>simp
    case hrest=>
     intro a6 a5 br aw am a8 bl;have ad:=(D.u.alloc (hQ g.tp g.ty g.reach g.rp g.rel)).alloc (jp g.ty g.rel);have aN:=ai (ct ((I.u.alloc aL (hQ g.tp g.ty g.reach g.rp g.rel)).alloc aM (jp g.ty g.rel)) am aM (fun k ap=>(ad.lt k ap).1));have aY:=ai aw;clear aw am a8 ad;go_wp2;go_roundw
     case rel=>exact ⟨k+1,.slice (some ⟨a6,0,none⟩) (L.length+1) a5,aj,by go_num,rfl,aN.u,by rw [ac.u,V,J.u];exact ⟨by rw [Option.toList_some,List.length_append,ea];exact aY.u,fun h=>by simp at h⟩⟩
     case measure=>simp [intOf];omega
   have a7:((g.reach:Int)==2)=false:=by rw [b6];omega
   have V:mg g=none:=by simp [mg,h2]
   have aO:=ai (I.u.alloc aL (hQ g.tp g.ty g.reach g.rp g.rel));have aZ:=ai (D.u.alloc (hQ g.tp g.ty g.reach g.rp g.rel));clear h2;go_wp2;go_roundw
   case rel=>exact ⟨k+1,.slice sa L.length sc,aj,by go_num,rfl,aO.u,by rw [ac.u,V,J.u];exact ⟨by simpa using aZ.u,fun h=>ab.u ni⟩⟩
   case measure=>simp [intOf];omega
  have bb:¬((k:Int)<((b9 r.body).length:Int)):=aj;have ah:Aa k (b9 r.body)=mh r:=by
   unfold Aa mh;rw [dy aj]
  have af:L=mh r:=J.u.symm.trans ah;have aQ:=ai af;clear C ho Q R ah af;go_wp2;go_ret;exact ⟨.slice sa L.length sc,rfl,Z.u.trans (I.u.mono aK),by rw [<-aQ.u];exact ⟨bg D.u aK,ab.u⟩⟩
def N6(b tp p1 p2:Nat)(n1 n2 sv ts tl t tv rl w)(h:MC b w sv ts tl)(I:RC b w tv t.rels rl):
  Calls prog 223 #[.agg #[sv],.agg #[.int .i64 t.place,.string t.name,tv],.agg #[.int .i64 tp,.int .i64 p1,.string n1,.int .i64 p2,.string n2]] w fun e' w'=>∃(xi:ag)(A:List E3),e'=.returned xi/\an w w'/\w'.ownsRow w.heap.size 110 3 xi A.length (A.flatMap c3)/\A.map (fun e=>e.2.1)=(nt ts t n1 n2).map Ty.name/\A.length<=1000/\∀e∈A,∃a n c,e.2.2=.slice a n c:=by
 unfold nt
 cases D:bT t n1 with
 |none=>
  refine (KG b tp p1 p2 n1 n2 sv ts tl t tv rl w h I D).mono ?_;rintro e w' ⟨rfl,C⟩;exact ⟨_,[],rfl,C,bL,rfl,ar,ar⟩
 |some r=>
  refine (xZ b tp p1 p2 n1 n2 sv ts tl t tv rl w h I r D).mono ?_;rintro e w' ⟨xi,A,rfl,C,h1,h2,J⟩;refine ⟨_,A,rfl,C,h1,h2,?_,J⟩;have e1:=congrArg List.length h2;rw [bX,bX] at e1;have Q:=uO (iE ts n2) (b9 r.body);have R:=I.okg r (gj D);omega
section
abbrev gq:=@List.map_map
abbrev pm:=@Sem.run_bind
abbrev cA:=@List.map_cons
abbrev po:=@List.map_nil
def N7(q:aU) (h:bF aU->aA:=by
 intro zq;unfold Oper.wp execOp;simp only [ho,resolve,invoke,builtin,pm,Sem.run_pure,Result.andThen_ok,List.map_toArray,cA,po,hs,hx,hr];exact zq.1):aA:=h ⟨q⟩
def dJ(ts:List Ty)(t:Ty)(r:Rl)(p:Ex):List Sp:=match p.l with
 |some _=>[]
 |none=>if p.nd.kind=0 then mh r
  else if p.nd.kind=1 then [(t.name,p.nd.n1)]
  else (nt ts t p.nd.n1 p.nd.n2).map fun u=>(u.name,p.nd.n2)
def dd(ts:List Ty)(t:Ty)(r:Rl)(e:Ex):List Sp:=(aC e).flatMap (dJ ts t r)
def NK(ts:List Ty)(t:Ty)(r:Rl)(e:Ex)(k:Nat):List Sp:=((aC e).take k).flatMap (dJ ts t r)
variable {r:Rl}
def IV{e p}(hk:(aC e)[k]? =some p):NK ts t r e (k+1)=NK ts t r e k++dJ ts t r p:=by
 unfold NK;have A:k<(aC e).length:=by
  exact NF
 rw [cJ A,cT];rw [aH A] at hk;simp only [aL] at hk;simp [hk]
def UP(r):(mh r).length<=(b9 r.body).length:=uO _ _
def N8{rl}(ts t)(A:RC b w tv t.rels rl)(x y):(nt ts t x y).length<=1000:=by
 unfold nt
 cases h:bT t x with
 |none=>simp
 |some r=>
  have C:=uO (iE ts y) (b9 r.body);have D:=A.okg r (gj h);simp only;omega
def x8{rl}(ts t)(h:RC b w tv t.rels rl)(r)(A:(b9 r.body).length<=1000)(p):(dJ ts t r p).length<=1000:=by
 unfold dJ;have h1:=UP r;have h2:=N8 ts t h p.nd.n1 p.nd.n2
 split
 ·simp
 split
 ·omega
 split
 ·simp
 simpa using h2
def N9{b w tv rl}(ts t)(C:RC b w tv t.rels rl)(r)(A:(b9 r.body).length<=1000)(e):∀k,(NK ts t r e k).length<=1000*k
 |0=>by simp [NK]
 |k+1=>by
  have D:=N9 ts t C r A e k
  rcases gh k (aC e).length with h|h
  ·rw [IV (aH h),List.length_append];have:=x8 ts t C r A (aC e)[k];omega
  have:NK ts t r e (k+1)=NK ts t r e k:=by
   unfold NK;rw [dy aj,dy h]
  rw [this];omega
def pp{A:Array Oper}{o:Oper}{a:Act}{Q:Exit->Act->af->Prop}(D:o.guard=none)(s x:Operand)(t:TypeId)
  (ho:o.op=.call {callee:=.builtin .append,args:=#[s,x],argTypes:=#[t,t]}) (v:ag) (hs:a.eval s=v) (hx:a.eval x=.slice none 0 0)
  (hr:∀ty,(Builtin.append_ #[t,t] ty #[v,.slice none 0 0]).run P w=.ok v w)
  (h:wpList P A Q rest (a.put o.dst v) w):wpList P A Q (o::rest) a w:=
 wpList_plain D fun _ C=>by
  refine N7 ?_;exact C _ _ h
def rE(b J ts tl t tv rl r bv e ev w)(h:MC b w J ts tl)(af:RC b w tv t.rels rl)(bJ:bB b w r.body bv)(aZ:r∈t.rels)(bt:bB b w e ev)(dc:(aC e).length<=1000):
  Calls prog 177 #[.agg #[J],.agg #[.int .i64 t.place,.string t.name,tv],.agg #[.int .i64 r.place,.string r.name,bv],ev] w fun e' w'=>∃J,e'=.returned J/\an w w'/\hS w.heap.size w' J (dd ts t r e):=by
 obtain ⟨i0,hi,cd,ce,cf⟩:=bK Tryz.info291;have aV:=ai hi;have bk:=ai cd;have bl:=ai ce;have bo:=ai cf;clear hi cd ce cf;obtain ⟨ma,mn,mc,rfl⟩:=h.form;obtain ⟨bb,be,bc,rfl⟩:=af.form;obtain ⟨ba,rv,rfl⟩:=bJ.isI;obtain ⟨dk,ex,rfl⟩:=bt.isI;have W0:an w (((w.alloc (aW ma mn mc)).alloc (bD t.place t.name bb be bc)).alloc (cE r.place r.name ba rv)):=((bj.alloc aD _).alloc ar _).alloc aM _;have bV:=ai (h.below W0);have cH:=ai (af.below W0);have cM:=ai (bJ.but (But.of_below W0));have cz:=ai (bt.but (But.of_below W0));have cT:=ai (((aE.new w #[.slice ma mn mc] 75).alloc (bD t.place t.name bb be bc)).alloc (cE r.place r.name ba rv));have c6:=ai ((aE.new' (w.alloc (aW ma mn mc)) (iy t.place t.name bb be bc) 110 (w.heap.size+1) ar).alloc (cE r.place r.name ba rv));have cX:=ai (aE.new' ((w.alloc (aW ma mn mc)).alloc (bD t.place t.name bb be bc)) (rh r.place r.name ba rv) 159 (w.heap.size+2) ar);have okp:=af.okp r aZ;have okg:=af.okg r aZ;have cL:=ai (af.wf r aZ);have cF:=ai (N9 ts t af r okg e);have cD:=ai (x8 ts t af r okg);have bZ:=ai W0;have c7:=bV.u.blt;clear W0 h af bJ aZ bt;go_enter func177,ntmps177;go_wp2_with fail;refine (oe e b _ _ c7 cz.u dc).mono ?_;rintro e1 V ⟨dC,rfl,Z,l,l1,l2,bN⟩;obtain ⟨dA,oc,rfl⟩:=ax bN;have dz:l.length=(aC e).length:=by rw [<-l1];simp
 have bS:=ai (bZ.u.trans (Z.mono bZ.u.size));have cP:=ai l1;have cQ:=ai l2;have cR:=ai bN;have cS:=ai (bV.u.below Z);have cY:=ai (cH.u.below Z);have c5:=ai (cM.u.but (But.of_below Z));have MB2:=ai (cT.u.below Z);have YB2:=ai (c6.u.below Z);have b0:=ai (cX.u.below Z);have ck:=bS.u.size;clear Z l1 l2 bN;have f0:=jF;have f1:=iX;have f2:=iY;have f3:=fA;have f4:=hN;have f5:=hO;have dl:=lY;have dm:=lZ;have dn:=iP;have dp:=kA;have g5:=kD;have h2:=l4;have dq:=iQ;have ds:=kB;have dt:=kE;go_wp2_with fail
 go_loopw [9,20] (fun bQ dg wr=>∃(k:Nat)(J:ag),k<=(aC e).length/\dg=.int .i64 k/\bQ=J/\an V wr/\hS V.heap.size wr J (NK ts t r e k)) (fun _ u _=>(aC e).length-(intOf u).toNat)
 case atStart=>exact ⟨0,_,aj,rfl,rfl,az _ _,hS.nil _ _⟩
 case round=>
  obtain ⟨k,J,av,rfl,bM,hbr,ho⟩:=hrel;obtain ⟨sa,sc,bL⟩:=ho.form;have dw:=cF.u k;have bG:=ho.2;have bH:=ho.1;generalize b4:NK ts t r e k=L at*;have am:=ai b4;clear b4;subst bL;subst bM;have HB:=ai hbr;have aX:=ai bG;have ap:=ai bH;have wrs:=hbr.size
  by_cases dx:k<(aC e).length
  ·have bE:k<l.length:=by omega
   obtain ⟨bO,c1,e1,ci⟩:=aS (ay (w':=wr) cR.u (fun g cs f _ R=>hbr.block g (lt_of_some R))) k l[k].2 (by simp [aH bE]);simp only [aI] at e1;obtain ⟨rfl,_,rfl⟩:=e1;have aw:=(cQ.u l[k] (bn bE)).but (b:=b) (But.of_below hbr);have bC:(aC e)[k]? =some l[k].1:=by rw [<-cP.u];simp [aH bE]
   generalize l[k]=q at*;obtain ⟨bO,dB⟩:=q;simp only at ci aw bC;have db:(k:Int)<((aC e).length:Int):=aj;have I:=ai (IV (ts:=ts) (t:=t) (r:=r) bC);have ac:=cD.u bO;refine N2 ?_;intro m0 ml y0 y1 y2 yl;obtain ⟨dI,dK,dL⟩:=(b0.u.below hbr).three;have dM:=(b0.u.below hbr).lt;have bW:=ai (cS.u.below hbr);have cI:=ai (cY.u.below hbr);have cN:=ai (c5.u.but (But.of_below hbr));have dj:=bW.u.blt;clear hbr ho bG bH bC
   match bO,aw,ac,I with
   |⟨nq,some xq,some yq⟩,⟨vx,vy,hv,rx,ry⟩,ac,I=>
    subst hv;clear rx ry
    rcases pk nq.kind with a8|a8|a8
    all_goals
     rw [a8] at ci;clear a8;go_wp2;go_roundw
     case rel=>exact ⟨k+1,.slice sa L.length sc,aj,by go_num,rfl,HB.u,by rw [ak I,am.u];simp only [dJ,List.append_nil];exact ⟨ap.u,aX.u⟩⟩
     case measure=>simp [intOf];omega
   |⟨nq,none,rq⟩,aw,ac,I=>
    rcases aw with ⟨ab,gv,hv,b9⟩|⟨ab,hv⟩|⟨ab,hv⟩
    ·obtain ⟨cp,cr,cq,rfl⟩:∃a n c,gv=.slice a n c:=by
      obtain ⟨a,c,e⟩:=ax b9;exact ⟨a,_,c,e⟩
     have ad:dJ ts t r ⟨nq,none,rq⟩=mh r:=by simp [dJ,ab]
     rw [ad] at ac I;subst hv;have bx:an wr (wr.alloc (pd nq.place cp cr cq)):=bj.alloc aD _;have xh:=ai (HB.u.trans (bx.mono wrs));have C:=ai (Cs b r _ _ aM (cN.u.but (But.of_below bx)) okp okg cL.u);have bq:=ai (ap.u.alloc (pd nq.place cp cr cq));clear b9 ab ad bx;go_wp2_with fail;refine C.u.mono ?_;rintro e aB ⟨df,rfl,U,a7⟩;have al:=ai (xh.u.trans (U.mono xh.u.size));have bP:=al.u.size;have a9:=ay (w':=aB) bq.u (fun g cs f _ R=>U.block g (lt_of_some R));have aJ:=ai a9
     by_cases aR:mh r=[]
     ·have c8:=a7.2 aR;subst c8;rw [aR] at I;have cy:=ai (fun ty=>run_append_owned_none (P:=prog) aB V.heap.size 288 ty 291 i0 2 underlying288 aV.u (.slice sa L.length sc) L.length (bp L) a9);clear U a7 a9 aR C;go_wp2_with (at_builtin;go_must (refine pp rfl _ _ 288 rfl (.slice sa L.length sc) rfl rfl cy.u ?_));go_roundw
      case rel=>exact ⟨k+1,.slice sa L.length sc,aj,by go_num,rfl,al.u,by rw [ak I,am.u,List.append_nil];exact ⟨aJ.u,aX.u⟩⟩
      case measure=>simp [intOf];omega
     have a5:0<(mh r).length:=mX.2 aR;obtain ⟨c9,gc,rfl,nl,cj⟩:=og a7.1 a5;have cU:=ai nl;have cV:=ai cj;clear U a7 a9 aR C nl cj;go_wp2_with (at_builtin;go_must (refine bI _ rfl _ _ 288 rfl V.heap.size 291 i0 _ 2 32 underlying288 aV.u bk.u bl.u bo.u rfl au (.slice sa L.length sc) L.length (bp L) rfl aJ.u ⟨c9,0,none⟩ (mh r).length gc (bp (mh r)) rfl cU.u cV.u (N5 _) a5 ?h63 ?hbytes bP aB.heap.size rfl ?hrest))
     case h63=>unfold maxLen;omega
     case hbytes=>omega
     case hrest=>
      intro aN aL bR ae Q aO b7;have aG:=ai (ct al.u Q bP (fun k av=>(aJ.u.lt k av).1));have aK:=ai ae;clear ae Q aO;go_wp2;go_roundw
      case rel=>exact ⟨k+1,.slice (some ⟨aN,0,none⟩) (L.length+(mh r).length) aL,aj,by go_num,rfl,aG.u,by rw [ak I,am.u];exact ⟨by rw [List.length_append,ea];exact aK.u,fun h=>by simp at h;rw [h.2] at a5;simp at a5⟩⟩
      case measure=>simp [intOf];omega
    ·have ad:dJ ts t r ⟨nq,none,rq⟩=[(t.name,nq.n1)]:=by simp [dJ,ab]
     rw [ad] at ac I;subst hv;clear ad ab;go_wp2_with (at_builtin;go_must (refine bI _ rfl _ _ 288 rfl V.heap.size 291 i0 _ 2 32 underlying288 aV.u bk.u bl.u bo.u rfl au (.slice sa L.length sc) L.length (bp L) rfl ?hown ⟨wr.heap.size+1,0,none⟩ 1 1 (Cr (t.name,nq.n1)) rfl rfl ?hnews ?hone au ?h63 ?hbytes ?hbase (wr.heap.size+2) ?hH ?hrest))
     case hown=>exact (ap.u.alloc _).alloc _
     case hnews=>exact bu (B:=wr.heap.size+1) (cs:=#[.string t.name,.string nq.n1]) (t:=291) (fr:=(0,0)) (aE.new' (wr.alloc _) _ _ _ ar)
     case hone=>
      exact uR
     case h63=>unfold maxLen;omega
     case hbytes=>omega
     case hbase=>simp;omega
     case hH=>simp
     case hrest=>
      intro aN aL bR ae Q aO b7;have ah:=(ap.u.alloc (.cells #[.int .i64 nq.place,.string nq.n1] 238)).alloc (jp t.name nq.n1);have aG:=ai (ct ((HB.u.alloc wrs (.cells #[.int .i64 nq.place,.string nq.n1] 238)).alloc aM (jp t.name nq.n1)) Q aM (fun k av=>(ah.lt k av).1));have aK:=ai ae;clear ae Q aO ah;go_wp2;go_roundw
      case rel=>exact ⟨k+1,.slice (some ⟨aN,0,none⟩) (L.length+1) aL,aj,by go_num,rfl,aG.u,by rw [ak I,am.u];exact ⟨by rw [List.length_append,ea];exact aK.u,fun h=>by simp at h⟩⟩
      case measure=>simp [intOf];omega
    have ad:dJ ts t r ⟨nq,none,rq⟩=(nt ts t nq.n1 nq.n2).map fun u=>(u.name,nq.n2):=by simp [dJ,ab]
    rw [ad] at ac I;subst hv;refine N1 ?_;intro bx xh;have C:=ai (N6 b nq.place nq.p1 nq.p2 nq.n1 nq.n2 _ ts tl t _ rl _ (bW.u.below bx) (cI.u.below bx));have bq:=ai (ap.u.alloc (mf nq.place nq.p1 nq.n1 nq.p2 nq.n2));have c2:=ai (aE.new wr (z7 nq.place nq.p1 nq.n1 nq.p2 nq.n2) 240);clear bx ad ab;go_wp2_with fail;refine C.u.mono ?_;rintro e aB ⟨df,D,rfl,U,br,b2,dr,b3⟩;obtain ⟨ta,tc,rfl⟩:=ax br;have al:=ai (xh.u.trans (U.mono xh.u.size));have bP:=al.u.size;have c4:=ai (c2.u.below U);have aJ:=ai (show hS V.heap.size aB (.slice sa L.length sc) L from ⟨ay (w':=aB) bq.u (fun g cs f _ R=>U.block g (lt_of_some R)),aX.u⟩);have cw:=ai br;have cx:=ai b3;have b8:(nt ts t nq.n1 nq.n2).map (fun u=>(u.name,nq.n2))=D.map (fun e=>(e.2.1,nq.n2)):=by
     have:=congrArg (List.map (fun n=>(n,nq.n2))) b2;simp only [gq] at this;exact this.symm
    rw [b8] at ac I;clear U br b2 b3 b8 C;go_wp2_with fail
    go_loopw [9,53] (fun bQ dh bf=>∃(j:Nat)(J:ag),j<=D.length/\dh=.int .i64 j/\bQ=J/\an V bf/\aE bf wr.heap.size (z7 nq.place nq.p1 nq.n1 nq.p2 nq.n2) 240/\bf.ownsRow 0 110 3 (.slice ta D.length tc) D.length (D.flatMap c3)/\hS V.heap.size bf J (L++(D.take j).map (fun e=>(e.2.1,nq.n2)))) (fun _ u _=>D.length-(intOf u).toNat)
    case atStart=>exact ⟨0,_,aj,rfl,rfl,al.u,c4.u,bg cw.u (Nat.zero_le _),by simpa using aJ.u⟩
    case round=>
     obtain ⟨j,dD,du,rfl,bM,aY,aQ,a6,aP⟩:=hrel;obtain ⟨cg,ch,bL⟩:=aP.form;generalize bs:L++(D.take j).map (fun e=>(e.2.1,nq.n2))=Y at*;have dv:Y.length<=L.length+j:=by
      rw [<-bs,List.length_append,bX,dO];omega
     have bU:=ai bs;clear bs;have bw:=aP.2;have bz:=aP.1;subst bL;subst bM;have bT:=ai aY;have bi:=ai aQ;have cG:=ai a6;have cA:=ai bw;have bh:=ai bz;have di:=aY.size
     by_cases bA:j<D.length
     ·obtain ⟨q,c,e1,k0,k1,de⟩:=hJ.cell (T:=110) (v:=.slice ta D.length tc) (l:=D) (w:=wr) a6 j bA;simp only [aI] at e1;obtain ⟨rfl,_,rfl⟩:=e1;obtain ⟨cl,co,cm,cb⟩:=cx.u D[j] (bn bA);have bY:=ai (show L++(D.take (j+1)).map (fun e=>(e.2.1,nq.n2))=Y++[(D[j].2.1,nq.n2)] from by
       rw [<-bU.u,cJ bA,cO,List.append_assoc];rfl)
      generalize D[j]=y at*;obtain ⟨cu,aF,dG⟩:=y;simp only at k0 k1 de cb bY;subst cb;obtain ⟨t0,t1,t2,dE,t4⟩:=aQ.five;have dF:=aQ.lt;have da:(j:Int)<(D.length:Int):=aj;clear aY aP bw bz aQ a6;go_wp2_with (at_builtin;go_must (refine bI _ rfl _ _ 288 rfl V.heap.size 291 i0 _ 2 32 underlying288 aV.u bk.u bl.u bo.u rfl au (.slice cg Y.length ch) Y.length (bp Y) rfl ?hown ⟨wr.heap.size+1,0,none⟩ 1 1 (Cr (aF,nq.n2)) rfl rfl ?hnews ?hone au ?h63 ?hbytes ?hbase (wr.heap.size+2) ?hH ?hrest))
      case hown=>exact (bh.u.alloc _).alloc _
      case hnews=>exact bu (B:=wr.heap.size+1) (cs:=#[.string aF,.string nq.n2]) (t:=291) (fr:=(0,0)) (aE.new' (wr.alloc _) _ _ _ ar)
      case hone=>
       exact uR
      case h63=>unfold maxLen;omega
      case hbytes=>omega
      case hbase=>simp;omega
      case hH=>simp
      case hrest=>
       intro aN aL bR ae Q aO b7;have ah:=(bh.u.alloc (bD cu aF cl co cm)).alloc (jp aF nq.n2);have bx:=((az wr.heap.size wr).alloc aD (bD cu aF cl co cm)).alloc ar (jp aF nq.n2);have aG:=ai (ct (bT.u.trans (bx.mono di)) Q aM (fun k av=>(ah.lt k av).1));have cZ:=ai ((Q.block _ (bi.u.below bx).lt (own_ne ah (bi.u.below bx) au)).trans (bi.u.below bx));have cW:=ai (ay (w':=bR) cG.u (fun g cs f _ R=>(Q.block g (cK (lt_of_some R) bx.size) (dH ah ((bx.block g (lt_of_some R)).trans R) au)).trans (bx.block g (lt_of_some R))));have aK:=ai ae;clear ae Q aO ah bx;go_wp2;go_roundw
       case rel=>exact ⟨j+1,.slice (some ⟨aN,0,none⟩) (Y.length+1) aL,aj,by go_num,rfl,aG.u,cZ.u,cW.u,by rw [ak bY];exact ⟨by rw [List.length_append,ea];exact aK.u,fun h=>by simp at h⟩⟩
       case measure=>simp [intOf];omega
     have da:¬((j:Int)<(D.length:Int)):=aj;have b5:L++D.map (fun e=>(e.2.1,nq.n2))=Y:=by
      rw [<-bU.u,dy aj]
     have cB:=ai b5;clear aY aP bw bz aQ a6 b5;go_wp2;go_roundw
     case rel=>exact ⟨k+1,.slice cg Y.length ch,aj,by go_num,rfl,bT.u,by rw [ak I,am.u,cB.u];exact ⟨bh.u,cA.u⟩⟩
     case measure=>simp [intOf];omega
   |⟨nq,some xq,none⟩,aw,ac,I=>exact aw.elim
  have db:¬((k:Int)<((aC e).length:Int)):=aj;have b6:L=dd ts t r e:=by
   rw [<-am.u];unfold NK dd;rw [dy aj]
  have cC:=ai b6;clear hbr ho bG bH b6;go_wp2;go_ret;exact ⟨.slice sa L.length sc,rfl,bS.u.trans (HB.u.mono ck),by rw [<-cC.u];exact ⟨bg ap.u ck,aX.u⟩⟩
end
