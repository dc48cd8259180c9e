import Derived.Test.YtlbpnlngckgcbaaGreatDoorM01
import Derived.Deep.LoopGhost
set_option linter.all false
set_option maxHeartbeats 4000000
set_option maxRecDepth 100000
namespace Go.Proofs.YtlbpnlngckgcbaaGreatDoor
open Go.RowKit Go.PlainAid Go.Proofs.Tryz
variable {aF cD:Prop} {w x y z w' w1:af} {size n base' b d i k:Nat} {e T:TypeId} {v sv:ag} {xs:List ag} {cs:Array ag} {row:Option Nat} {α:Type} {s:ae} {rs:List Rl} {ts:List Ty}
def IV (h:aF:=by
 split at h
 ·split at h
  ·simp at h
  rename_i A;have:=k6 T _ _ _ A;simp at h;omega
 simp at h;omega):aF:=h
def jn{α:Type}(r:Nat->eC α):Prop:=∀i x j,r i=.ok (x,j)->i<j
theorem k6(T):jn (cE T):=by
 intro i x j h;unfold cE at h
 repeat' split at h
 all_goals simp at h
 omega
theorem fx(T y):jn (b5 T y):=by
 intro i x j h;unfold b5 at h
 split at h
 ·simp at h
 rename_i A;have:=k6 T _ _ _ A
 split at h<;>simp at h
 omega
theorem j0(T P):jn (cW T P):=by
 intro i x j h;unfold cW at h
 split at h
 ·simp at h
 rename_i C;have:=k6 T _ _ _ C
 split at h
 ·simp at h;omega
 exact IV
theorem sA(T P):∀f acc,jn (dW T P f acc)
 |0,_=>fun i x j h=>by simp [dW] at h
 |f+1,acc=>fun i x j h=>by
  unfold dW at h
  split at h
  ·simp at h
  rename_i A;have:=j0 T P _ _ _ A
  split at h
  ·have:=sA T P f _ _ _ _ h;omega
  split at h<;>simp at h
  omega
theorem sB(T P):jn (kG T P):=by
 intro i x j h;unfold kG at h
 split at h
 ·simp at h
 rename_i A;have:=sA T P _ _ _ _ _ A;simp at h;omega
theorem qX(T P):jn (iX T P):=by
 intro i x j h;unfold iX at h
 split at h
 ·simp at h
 rename_i C;have:=k6 T _ _ _ C;exact IV
theorem jw(T P room inner)(hi:jn inner):jn (eQ T P room inner):=by
 intro i x j h;unfold eQ at h
 split at h
 ·exact sB T P _ _ _ h
 split at h
 ·split at h
  ·split at h
   ·simp at h
   rename_i A;have:=hi _ _ _ A
   split at h<;>simp at h
   omega
  simp at h
 exact qX T P _ _ _ h
theorem sC(T P l part)(A:jn part):∀f y i x j,joinL T P l part f y i=.ok (x,j)->i<=j
 |0,_,i,x,j=>fun h=>by simp [joinL] at h
 |f+1,y,i,x,j=>fun h=>by
  unfold joinL at h
  split at h
  ·split at h
   ·simp at h
   rename_i C;have:=A _ _ _ C;have:=sC T P l part A f _ _ _ _ h;omega
  simp at h;omega
theorem n5(T P l part)(A:jn part):jn (eG T P l part):=by
 intro i x j h;unfold eG at h
 split at h
 ·simp at h
 rename_i C;have:=A _ _ _ C;have:=sC T P l part A _ _ _ _ _ h;omega
theorem gR(T P room inner)(hi:jn inner):jn (gY T P room inner):=
 n5 T P _ _ (jw T P room inner hi)
theorem gH(T P):∀n,jn (fb T P n)
 |0=>n5 T P _ _ (gR T P false _ (fun i x j h=>by simp at h))
 |n+1=>n5 T P _ _ (gR T P true _ (gH T P n))
theorem kI(T P):jn (kH T P):=by
 intro i x j h;unfold kH at h
 split at h
 ·simp at h
 rename_i C;have:=fx T _ _ _ _ C
 split at h
 ·simp at h
 rename_i A;have:=gH T P _ _ _ _ A
 split at h<;>simp at h
 omega
theorem n6(T P):∀f acc,jn (dg T P f acc)
 |0,_=>fun i x j h=>by simp [dg] at h
 |f+1,acc=>fun i x j h=>by
  unfold dg at h
  split at h
  ·simp at h;omega
  split at h
  ·simp at h
  split at h
  ·simp at h
  rename_i A;have:=kI T P _ _ _ A;have:=n6 T P f _ _ _ _ h;omega
theorem n7(T P):jn (lX T P):=by
 intro i x j h;unfold lX at h
 split at h
 ·split at h
  ·simp at h
  rename_i C;have:=fx T _ _ _ _ C
  split at h
  ·simp at h
  rename_i A;have:=n6 T P _ _ _ _ _ A;simp at h;omega
 simp at h
abbrev sD:=@wp_loop_rounds
abbrev pT:=@rounds_succ
def Pz (A:aF:=by
 have:=S3.u.lt;have:=HA.u.lt;omega):aF:=A
def ey (A:aF:=by
 unfold maxLen;omega):aF:=A
def PA (aT:aF:=by
 obtain ⟨aH,aD⟩:=y;have C:=ai (Hp.u i w A0.u);rw [hr] at C;have aZ:=ai (Hm.u _ _ _ hr);clear hr;simp only;generalize hR:joinL (TT s) (PP s) l part 512 aH aD=az;have aK:=ai hR;clear hR;go_enter func248,ntmps248;go_wp2_with fail;refine (ak C).mono ?_;rintro e w1 ⟨b1,v,rfl,hv,aA⟩;have aI:=ai aA;have aJ:=ai b1;have aL:=ai hv;clear aA b1 hv;go_wp2_with fail
 go_loopg [8,9] 512 (fun k u8 aE wr=>But b w wr/\((aE=.nilIface/\∃x j,bg b wr x u8/\At wr b s j d/\512<=k+j/\Hid (joinL (TT s) (PP s) l part k x j=az))\/(∃c j d',aE=bY c/\SO u8/\At wr b s j d'/\Hid (az=.error (c,j)))))
 case atStart=>exact ⟨aJ.u,.inl ⟨rfl,aH,aD,aL.u,aI.u,aj,aK⟩⟩
 case round=>
  obtain ⟨ab,⟨rfl,x,j,hv,ha,a5,ar⟩|⟨c,j,d',rfl,hv,ha,ar⟩⟩:=hrel
  ·have a0:12<=gk:=by have:=ha.le;omega
   obtain ⟨f,rfl⟩:∃f,gk=f+1:=⟨gk-1,aj⟩;have HA:=ai ha;have ad:=ai ab;have ae:=ai hv;have aC:=ai (show ∀i,i<l.length->wr.cell? ⟨g,i,none⟩=some (.string (l.getD i ByteArray.empty)) from fun i hi=>(ab.cell hgl hg).trans (Hc.u i hi));have a6:b<wr.heap.size:=ha.lt;obtain ⟨a8,a9,rfl⟩:=hv.isI;have c1:=ha.pos.rd.c1;have c2:=ha.pos.rd.c2;clear ha ab hv;have J:=ak ar;unfold joinL at J
   cases Q:gz (TT s j) l
   ·simp only [Q] at J;have O:=ai J;clear J;go_wp2_with fail;refine (wU b s _ _ d g cap l _ HA.u.pos.rd Hl.u aC.u).mono ?_;rintro e ah ⟨rfl,rfl⟩;rw [show gz (bT s (K s j)) l=false from Q];go_wp2;go_ret2;rw [<-ak O];exact ⟨ad.u,_,rfl,ae.u,HA.u⟩
   simp only [Q,if_true] at J;have O:=ai J;clear J;go_wp2_with fail;refine (wU b s _ _ d g cap l _ HA.u.pos.rd Hl.u aC.u).mono ?_;rintro e ah ⟨rfl,rfl⟩;rw [show gz (bT s (K s j)) l=true from Q];have aM:=ai Q;clear Q;go_wp2_with fail;refine (steps b s j d _ (ak Hs) (HA.u.alloc _) (F9 aM.u Td.u)).mono ?_;rintro e aw ⟨rfl,av,af⟩;have S3:=ai ((aB.new ah #[.int .i64 (cC s (K s j)),.string (bT s (K s j))] 137).but af aj);have ay:=ai (But.trans ad.u (But.trans ((But.refl b ah).alloc _) af));have aP:=ai (bg.but ae.u (But.trans ((But.refl b ah).alloc _) af));have ax:=ai av;have a7:b<aw.heap.size:=av.lt;clear av af c1 c2
   cases ac:part (j+1) with
   |error e=>
    obtain ⟨aS,ag⟩:=e;have V:=ai (Hp.u (j+1) aw ax.u);rw [ac] at O V;clear ac;go_wp2_with fail;refine (ak V).mono ?_;rintro e aX ⟨I,aG,d4,rfl,U,Z⟩;have Y:=S3.u.but I Pz;obtain ⟨aU,aW⟩:=Y.two;have an:=ai (But.trans ay.u I);have al:=ai Z;have au:=ai U;clear Z I U Y;unfold bY;go_wp2_with fail;refine (yW _ _ _ _ (.inr ⟨_,_,rfl⟩) au.u _).mono ?_;rintro e w5 ⟨rfl,D⟩;have ap:=ai (But.trans an.u (But.of_below D));have am:=ai (al.u.below D);clear D;go_wp2
    go_roundg 0
    case measure=>omega
    case rel=>exact ⟨ap.u,.inr ⟨aS,ag,d4,rfl,.inr ⟨_,_,rfl⟩,am.u,ai (ak O).symm⟩⟩
   |ok y=>
    obtain ⟨aY,ag⟩:=y;have V:=ai (Hp.u (j+1) aw ax.u);have a2:j+1<ag:=Hm.u _ _ _ ac;rw [ac] at O V;clear ac;go_wp2_with fail;refine (ak V).mono ?_;rintro e aX ⟨I,aG,rfl,U,Z⟩;have Y:=S3.u.but I Pz;obtain ⟨aU,aW⟩:=Y.two;have an:=ai (But.trans ay.u I);have al:=ai Z;have au:=ai U;have aQ:=ai (bg.but aP.u I);have aN:=ai (show SO aG from .inr U.isI);clear Z I U Y;go_wp2_with fail;refine (yW _ _ _ _ (.inr ⟨_,_,rfl⟩) aN.u _).mono ?_;rintro e w5 ⟨rfl,D⟩;have ap:=ai (But.trans an.u (But.of_below D));have am:=ai (al.u.below D);have aR:=ai (bg.but aQ.u (But.of_below D));have aO:=ai (bg.but au.u (But.of_below D));clear D;go_wp2
    go_roundg f
    case measure=>omega
    case rel=>exact ⟨ap.u,.inl ⟨rfl,fV (TT s j) (PP s j) x aY,ag,⟨_,_,rfl,aR.u,aO.u⟩,am.u,aj,ai (ak O)⟩⟩
  have ad:=ai ab;have HA:=ai ha;have ae:=ai hv;clear ab ha hv;unfold bY;go_wp2;go_ret2;rw [ak ar];exact ⟨ad.u,_,d',rfl,ae.u,HA.u⟩):aF:=aT
def PD (O:aF:=by
 obtain ⟨c,j⟩:=e;have C:=ai (Hp.u i w A0.u);rw [hr] at C;clear hr;go_enter func248,ntmps248;go_wp2_with fail;refine (ak C).mono ?_;rintro e w1 ⟨b1,v,d',rfl,hv,A⟩;have D:=ai A;have I:=ai b1;have J:=ai hv;clear A b1 hv;unfold bY;go_wp2_with fail;refine sD 1 ?_;rw [pT];go_wp2;go_ret2;exact ⟨I.u,v,d',rfl,J.u,D.u⟩):aF:=O
theorem F9{t l}(h:gz t l=true)(C:∀x∈l,0<(bW x).length):0<t.size:=by
 unfold gz at h;rw [ei] at h;obtain ⟨x,D,A⟩:=h;exact cG A (C x D)
theorem yX(b s i d w)(hs:s.size<=500)(ba:At w b s i d)(g cap l part)(be:jn part)(bf:∀i w,At w b s i d->Calls prog 264 #[.pointer (some ⟨b,0,none⟩)] w (dX b s d w (part i)))(bc:l.length<=maxLen)(bh:∀x∈l,0<(bW x).length)(hg:g≠b)(hgl:g<w.heap.size)(bb:∀i,i<l.length->w.cell? ⟨g,i,none⟩=some (.string (l.getD i ByteArray.empty))):
  Calls prog 248 #[.pointer (some ⟨b,0,none⟩),.func (.func 264) #[.pointer (some ⟨b,0,none⟩)] #[],.slice (some ⟨g,0,none⟩) l.length cap] w (dX b s d w (eG (TT s) (PP s) l part i)):=by
 have bi:=ba.lt;have Hs:Hid (s.size<=maxLen):=ai ey;have Hp:=ai bf;have Hm:=ai be;have Hc:=ai bb;have Hl:=ai bc;have Td:=ai bh;have A0:=ai ba;clear bf be bb bc ba bh;unfold eG
 cases hr:part i with
 |error e=>
  exact PD
 |ok y=>
  exact PA
theorem w8(b s i d w)(hs:s.size<=500)(ba:At w b s i d)(g cap l part)(be:jn part)(bf:∀i w,At w b s i d->Calls prog 249 #[.pointer (some ⟨b,0,none⟩)] w (dX b s d w (part i)))(bc:l.length<=maxLen)(bh:∀x∈l,0<(bW x).length)(hg:g≠b)(hgl:g<w.heap.size)(bb:∀i,i<l.length->w.cell? ⟨g,i,none⟩=some (.string (l.getD i ByteArray.empty))):
  Calls prog 248 #[.pointer (some ⟨b,0,none⟩),.func (.func 249) #[.pointer (some ⟨b,0,none⟩)] #[],.slice (some ⟨g,0,none⟩) l.length cap] w (dX b s d w (eG (TT s) (PP s) l part i)):=by
 have bi:=ba.lt;have Hs:Hid (s.size<=maxLen):=ai ey;have Hp:=ai bf;have Hm:=ai be;have Hc:=ai bb;have Hl:=ai bc;have Td:=ai bh;have A0:=ai ba;clear bf be bb bc ba bh;unfold eG
 cases hr:part i with
 |error e=>
  exact PD
 |ok y=>
  exact PA
section
abbrev aK:=@Option.some.injEq
abbrev bH:=@info_parts
abbrev bD:=@wpList_append_lies
abbrev bE:=@World.news_of_block
abbrev w9:Obj:=.cells #[.string ⟨#[44]⟩] 9
def Te (A:aF:=by
 first|exact lt_of_some hh|(have:=lt_of_some hh;simp;omega)):aF:=A
def Tf (A:aF:=by
 first|rfl|exact Below.heap_alloc _ _ _ (lt_of_some hh)):aF:=A
def PE (Q:aF:=by
 intro af ae ad U J ab ag;have D:=(HL3.u.alloc (.cells (cu g3) 207)).alloc (.cells (cu g3) 207);have I:=(O3.u.alloc (.cells (cu g3) 207)).alloc (.cells (cu g3) 207);have O:=(A3.u.alloc (.cells (cu g3) 207)).alloc (.cells (cu g3) 207);have C:aB ad w.heap.size #[.int .i64 (cC s (K s i)),sv] 236:=(J.block _ D.lt (own_ne I D ar)).trans D;have V:=ai (O.grown J (own_ne I O.pos.rd.blk ar));have Y:=ai (But.grown ((B3.u.alloc (.cells (cu g3) 207)).alloc (.cells (cu g3) 207)) J (fun k ac=>(I.lt k ac).1));have Z:=ai U;have R:=ai C;obtain ⟨ah,ak⟩:=C.two;have am:=C.fz;have al:=C.lt;clear D I O U J ab C l0 l1 zl;go_wp2
 go_roundg fu
 case measure=>omega
 case rel=>exact ⟨false,acc++[g3],j3,_,rfl,(cL Y),(eH V),aj,aM,R.u.set 1 _,by rw [List.length_append,xa];exact bJ Z.u R.u ar 1 _,ai ⟨fun Q=>(by cases Q),fun _=>HF2.u⟩⟩):aF:=Q
def PF (U:aF:=by
 obtain ⟨c3,Y⟩:=e;rw [hq] at IB;have R:=ai IB;have C:=ai (n4 b s (j+1) d w2 (ak Hs) A2.u);rw [hq] at C;clear hq IB;go_wp2_with fail;refine (ak C).mono ?_;rintro e ad ⟨I,ac,d3,rfl,⟨V,rfl⟩,J⟩;have D:=L2.u.but I aj;have ab:=D.lt;obtain ⟨Z,l1⟩:=D.two;have Q:=ai (But.trans B2.u I);have O:=ai J;clear J I D;unfold bY wZ cu;go_wp2;go_ret2;rw [<-R.u];exact ⟨(cL Q),_,d3,rfl,.inr ⟨_,_,rfl⟩,(eH O)⟩):aF:=U
theorem Tryz.info207:(Tryz.prog.info? 207).map (fun i=>(i.zero,i.size,i.bytes))=some (some (.agg #[.int .i64 0,.string ⟨#[]⟩,.int .i64 0,.int .i64 0,.string ⟨#[]⟩]),5,56):=by kernel_rfl
def PG(T:Nat->ae)(P:Nat->Nat)(k:Nat)(acc:List Gr)(j:Nat):eC (List Gr):=
 if eqs (T j) (sg 44) then dW T P k acc j else if eqs (T j) (sg 93) then .ok (acc,j+1) else .error (2,j)
variable {base g:Nat}
theorem own_ne(D:w.ownsRow base e size v n xs)(A:aB w g cs T)(I:T≠e):some g≠v.ownBlock:=by
 rcases D.2 with ⟨rfl,_⟩|⟨g',cap,J,rfl,O,h,r⟩
 ·simp [Value.ownBlock]
 intro C;simp only [Value.ownBlock,aK] at C;subst C;unfold aB at A;rw [A] at h;simp at h;exact I h.2
theorem bJ(C:w.ownsRow base e size v n xs)(A:aB w g cs T)(D:T≠e)(o u):(w.setCell ⟨g,o,none⟩ u).ownsRow base e size v n xs:=
 ax C fun g' I f J h=>dP _ _ _ _ (fun (e':g'=g)=>by
  subst e';unfold aB at A;rw [A] at h;simp at h;exact D h.2.1)
theorem aX(A:w.ownsRow base e size v n xs)(C:base'<=base):w.ownsRow base' e size v n xs:=by
 obtain ⟨h1,h2⟩:=A;refine ⟨h1,?_⟩
 rcases h2 with h2|⟨g,cap,h,hv,D,r⟩
 ·exact Or.inl h2
 exact Or.inr ⟨g,cap,h,hv,aL C D,r⟩
theorem xa(l g):b6 (l++[g])=b6 l++(cu g).toList:=by simp [b6]
theorem But.grown(h:But b x y)(A:y.grownBy z row)(I:∀k,row=some k->x.heap.size<=k):But b x z:=
 ⟨A.os.trans h.os,A.tape.trans h.tape,A.output.trans h.output,aL h.size A.size,fun k C D=>(A.block k (cg C h.size) (fun e=>by have:=I k e.symm;omega)).trans (h.block k C D)⟩
theorem aB.new'(w:af)(cs:Array ag)(T n:Nat)(h:n=w.heap.size):aB (w.alloc (.cells cs T)) n cs T:=by subst h;exact aB.new w cs T
theorem BR(g):∀u∈(cu g).toList,u.oneCell'=true:=by
 intro u h;simp [cu] at h
 rcases h with rfl|rfl|rfl|rfl|rfl<;>rfl
def listM(P:Nat->Nat)(i:Nat)(h:eC (List Gr)):eC Ex:=match h with
 | .error e=> .error e
 | .ok (gs,j)=> .ok (Eu P i gs,j)
theorem Ga(b s i d w)(hs:s.size<=500)(aG:At w b s i d)(a2:eqs (TT s i) (sg 91)=true):
  Calls prog 271 #[.pointer (some ⟨b,0,none⟩)] w (dX b s d w (kG (TT s) (PP s) i)):=by
 have bo:=aG.lt;have Hs:Hid (s.size<=maxLen):=ai ey;have a9:=ai (cG a2 ar);have a7:=ai aG;have c1:=aG.pos.rd.c1;clear aG a2;obtain ⟨i0,hi,a4,a5,a6⟩:=bH Tryz.info207;have aR:=ai hi;have aT:=ai a4;have aU:=ai a5;have aW:=ai a6;clear hi a4 a5 a6;change Calls _ _ _ _ (dX b s d w (listM (PP s) i (dW (TT s) (PP s) 512 [] i)));generalize a0:dW (TT s) (PP s) 512 [] i=aY;have a8:=ai a0;clear a0;go_enter func271,ntmps271;go_wp2_with fail
 go_loopg [5] 512 (fun k bg wr=>∃(f:Bool)(acc:List Gr)(j:Nat)(sv:ag),bg=.bool f/\But b w wr/\At wr b s j d/\512<=k+j/\acc.length<=j/\
  aB wr w.heap.size #[.int .i64 (cC s (K s i)),sv] 236/\wr.ownsRow w.heap.size 207 5 sv acc.length (b6 acc)/\
  Hid ((f=true->j=i/\dW (TT s) (PP s) k acc j=aY)/\(f=false->PG (TT s) (PP s) k acc j=aY)))
 case atStart=>exact ⟨true,[],i,_,rfl,(But.refl b w).alloc _,a7.u.alloc _,aj,an,aB.new _ _ _,bN,ai ⟨fun _=>⟨rfl,a8.u⟩,fun aG=>by cases aG⟩⟩
 case round=>
  obtain ⟨f,acc,j,sv,rfl,a1,ha,bk,bi,hl,ho,aI⟩:=hrel;have bj:12<=gk:=by have:=ha.le;omega
  obtain ⟨fu,rfl⟩:∃f,gk=f+1:=⟨gk-1,aj⟩;have aD:=ai ha;have aK:=ai a1;have aL:=ai hl;have aN:=ai ho;obtain ⟨l0,l1⟩:=hl.two;have zl:=hl.fz;have bl:=hl.lt;have bn:=ha.lt;clear ha a1 hl ho
  cases f with
  |true=>
   obtain ⟨e1,aZ⟩:=(ak aI).1 rfl;have aO:=ai aZ;have aQ:Hid (0<(TT s j).size):=ai (by rw [e1];exact a9.u);clear e1 aZ aI;go_wp2_with fail;refine (steps b s j d _ (ak Hs) ?_ (ak aQ)).mono ?_
   ·exact (eH aD)
   rintro e w2 ⟨rfl,av,ap⟩;have L2:=ai (aB.but (g:=w.heap.size) (T:=236) (b4 aL) ap aj);have aE:=ai (ax (w':=w2) aN.u (fun g cs f aJ hh=>(ap.block g Te aj).trans Tf));have B2:=ai (But.trans (x:=w) (cL aK) ap);have A2:=ai av;clear av ap;have IB:=aO.u;unfold dW at IB
   cases hq:cW (TT s) (PP s) (j+1) with
   |error e=>
    exact PF
   |ok y=>
    obtain ⟨g3,j3⟩:=y;have ba:=j0 _ _ _ _ _ hq;rw [hq] at IB;have HF2:=ai IB;have C:=ai (n4 b s (j+1) d w2 (ak Hs) A2.u);rw [hq] at C;clear hq IB;go_wp2_with fail;refine (ak C).mono ?_;rintro e aw ⟨ay,bh,rfl,rfl,az⟩;have au:=L2.u.but ay aj;have bc:=au.lt;obtain ⟨l0,l1⟩:=au.two;have zl:=au.fz;have HL3:=ai au;have O3:=ai (ax (w':=aw) aE.u (fun g cs f aJ hh=>ay.block g (lt_of_some hh) aj));have B3:=ai (But.trans B2.u ay);have A3:=ai az;have bb:=az.le;clear az ay au;unfold wZ cu;go_wp2_with (at_builtin;go_must (refine bD _ rfl _ _ 211 rfl w.heap.size 207 i0 _ 5 56 underlying211 aR.u aT.u aU.u aW.u rfl ar sv acc.length (b6 acc) rfl ?hown ⟨aw.heap.size+1,0,none⟩ 1 1 (cu g3).toList rfl rfl ?hnews ?hone ar ?h63 ?hbytes ?hbase (aw.heap.size+2) ?hH ?hrest))
    case hown=>exact (O3.u.alloc _).alloc _
    case hnews=>exact bE (B:=aw.heap.size+1) (cs:=cu g3) (t:=207) (fr:=(0,0)) (aB.new' (aw.alloc _) _ _ _ an)
    case hone=>exact BR g3
    case h63=>unfold maxLen;omega
    case hbytes=>omega
    case hbase=>simp;omega
    case hH=>simp
    case hrest=>
     exact PE
  |false=>
   have hq:=(ak aI).2 rfl;unfold PG at hq
   cases aC:eqs (TT s j) (sg 44)
   ·simp only [aC] at hq;go_wp2_with fail;refine (ats b s j d _ _ (sg 44) _ ?_ ?_).mono ?_
    ·exact (eH aD)
    ·exact bF _ _ _ _ an
    rintro e w1 ⟨rfl,rfl⟩;rw [aC];clear aC aI;have aS:=ai hq;clear hq;go_wp2_with fail
    cases hc:eqs (TT s j) (sg 93)
    ·have aH:=ai hc;clear hc
     go_region_held3 (fun w'=>w'.cell? ⟨w.heap.size,0,none⟩=some (.int .i64 (cC s (K s i)))/\w'.cell? ⟨w.heap.size,1,none⟩=some sv)
      (go_keep) ((go_at_call 169;refine (mr b s j d (sg 93) _ ?_ aH.u).mono ?_;(exact (aD.u.alloc _).drew);rintro e w2 ⟨rfl,av,ap⟩;have L2:=(aL.u.alloc w9).drew.but ap aj;obtain ⟨be,bf⟩:=L2.two;have A2:=ai av;have aE:=ai (ax (w':=w2) aN.u (fun g cs f aJ hh=>(ap.block g (by have:=lt_of_some hh;simp;omega) aj).trans (Below.heap_alloc _ _ _ (lt_of_some hh))));have B2:=ai (But.trans (x:=w) (aK.u.alloc w9).drew ap);clear L2 av ap))
     all_goals
      go_wp2;go_ret2;have aA:=aS.u;rw [aH.u] at aA;simp only [if_true,Bool.false_eq_true,aP] at aA;rw [<-aA];exact ⟨B2.u,_,d,rfl,.inr ⟨_,_,rfl⟩,A2.u⟩
    have aH:=ai hc;clear hc
    go_region_held3 (fun w'=>w'.cell? ⟨w.heap.size,0,none⟩=some (.int .i64 (cC s (K s i)))/\w'.cell? ⟨w.heap.size,1,none⟩=some sv)
     (go_keep) ((go_at_call 169;refine (ik b s j d (sg 93) _ (ak Hs) ?_ aH.u ar).mono ?_;(exact (aD.u.alloc _).drew);rintro e w2 ⟨rfl,av,ap⟩;have L2:=(aL.u.alloc w9).drew.but ap aj;obtain ⟨be,bf⟩:=L2.two;have A2:=ai av;have aE:=ai (ax (w':=w2) aN.u (fun g cs f aJ hh=>(ap.block g (by have:=lt_of_some hh;simp;omega) aj).trans (Below.heap_alloc _ _ _ (lt_of_some hh))));have B2:=ai (But.trans (x:=w) (aK.u.alloc w9).drew ap);clear L2 av ap))
    all_goals
     go_wp2;go_ret2;have aA:=aS.u;rw [aH.u] at aA;simp only [if_true,Bool.false_eq_true,aP] at aA;rw [<-aA];exact ⟨B2.u,_,rfl,.inl ⟨rfl,_,rfl,aX aE.u aj⟩,A2.u⟩
   simp only [aC,if_true] at hq;have aO:=ai hq;have aQ:Hid (0<(TT s j).size):=ai (cG aC ar);clear hq aI;go_wp2_with fail;refine (ats b s j d _ _ (sg 44) _ ?_ ?_).mono ?_
   ·exact (eH aD)
   ·exact bF _ _ _ _ an
   rintro e w1 ⟨rfl,rfl⟩;rw [aC];clear aC;go_wp2_with fail;refine (steps b s j d _ (ak Hs) ?_ (ak aQ)).mono ?_
   ·exact (eH aD)
   rintro e w2 ⟨rfl,av,ap⟩;have L2:=ai (aB.but (g:=w.heap.size) (T:=236) (b4 aL) ap aj);have aE:=ai (ax (w':=w2) aN.u (fun g cs f aJ hh=>(ap.block g Te aj).trans Tf));have B2:=ai (But.trans (x:=w) (cL aK) ap);have A2:=ai av;clear av ap;have IB:=aO.u;unfold dW at IB
   cases hq:cW (TT s) (PP s) (j+1) with
   |error e=>
    exact PF
   |ok y=>
    obtain ⟨g3,j3⟩:=y;have ba:=j0 _ _ _ _ _ hq;rw [hq] at IB;have HF2:=ai IB;have C:=ai (n4 b s (j+1) d w2 (ak Hs) A2.u);rw [hq] at C;clear hq IB;go_wp2_with fail;refine (ak C).mono ?_;rintro e aw ⟨ay,bh,rfl,rfl,az⟩;have au:=L2.u.but ay aj;have bc:=au.lt;obtain ⟨l0,l1⟩:=au.two;have zl:=au.fz;have HL3:=ai au;have O3:=ai (ax (w':=aw) aE.u (fun g cs f aJ hh=>ay.block g (lt_of_some hh) aj));have B3:=ai (But.trans B2.u ay);have A3:=ai az;have bb:=az.le;clear az ay au;unfold wZ cu;go_wp2_with (at_builtin;go_must (refine bD _ rfl _ _ 211 rfl w.heap.size 207 i0 _ 5 56 underlying211 aR.u aT.u aU.u aW.u rfl ar sv acc.length (b6 acc) rfl ?hown ⟨aw.heap.size+1,0,none⟩ 1 1 (cu g3).toList rfl rfl ?hnews ?hone ar ?h63 ?hbytes ?hbase (aw.heap.size+2) ?hH ?hrest))
    case hown=>exact (O3.u.alloc _).alloc _
    case hnews=>exact bE (B:=aw.heap.size+1) (cs:=cu g3) (t:=207) (fr:=(0,0)) (aB.new' (aw.alloc _) _ _ _ an)
    case hone=>exact BR g3
    case h63=>unfold maxLen;omega
    case hbytes=>omega
    case hbase=>simp;omega
    case hH=>simp
    case hrest=>
     exact PE
end
abbrev bG:=@beq_eq_false_iff_ne
def BS (I:aF:=by
 intro e O A;obtain ⟨v,J,rfl⟩:=Post.form A;have D:=ai A;clear A;go_wp2;go_ret2;have C:=ai (But.refl b w);exact Post.from (w:=w) (cL C) D.u):aF:=I
theorem Post.form{r:eC α}{rep:af->α->ag->Prop}{bad e}(h:Post b s d w r rep bad e w'):∃v A,e=.returned (.tuple #[v,A]):=by
 obtain ⟨_,h⟩:=h
 cases r with
 |error y=>obtain ⟨c,j⟩:=y;obtain ⟨v,d',h,_⟩:=h;exact ⟨_,_,h⟩
 |ok y=>obtain ⟨c,j⟩:=y;obtain ⟨v,h,_⟩:=h;exact ⟨_,_,h⟩
theorem Post.from{r:eC α}{rep:af->α->ag->Prop}{bad e}(k:But b w w1)(h:Post b s d w1 r rep bad e w'):Post b s d w r rep bad e w':=⟨k.trans h.1,h.2⟩
theorem At.open(h:At w b s i d)(d':Nat):At (w.setCell ⟨b,3,none⟩ (.int .i64 d')) b s i d':=
 ⟨⟨⟨by rw [fU _ h.pos.rd.blk];rfl⟩,h.pos.le⟩,h.good⟩
theorem uZ(b s i w)(h:At w b s i 4):
  Calls prog 272 #[.pointer (some ⟨b,0,none⟩)] w (dX b s 4 w (.error (3,i))):=by
 have c3:=h.pos.rd.c3;have A:=ai h;clear h;go_enter func272,ntmps272;go_wp2;go_ret2;exact ⟨But.refl _ _,_,4,rfl,.inl rfl,A.u⟩
theorem xb(b s i d w)(hs:s.size<=500)(D:At w b s i d)(an:d<4)(R:eqs (TT s i) (sg 40)=true)(V:Nat->eC Ex)(U:∀i w,At w b s i (d+1)->Calls prog 222 #[.pointer (some ⟨b,0,none⟩)] w (dX b s (d+1) w (V i)))(c j)(af:Hid (V (i+1)=.error (c,j))):
  Calls prog 272 #[.pointer (some ⟨b,0,none⟩)] w (dX b s d w (.error (c,j))):=by
 have au:=D.lt;have ag:Hid (s.size<=maxLen):=ai ey;have ae:=ai (cG R ar);have c3:=D.pos.rd.c3;have am:=D.pos.rd.fz;have Y:=ai (At.open D (d+1));have ap:((d:Int)==4)=false:=by rw [bG];omega
 have ah:=ai U;clear D R U;go_enter func272,ntmps272;go_wp2_with fail;rw [show ((d:Int)+1)=((d+1:Nat):Int) by omega];refine (steps b s i (d+1) _ (ak ag) Y.u ae.u).mono ?_;rintro e al ⟨rfl,I,O⟩;have ac:=ai (But.trans (x:=w) ((But.refl b w).setCell 3 _) O);have Z:=ai I;have av:=I.lt;clear I O;have C:=ai (ah.u (i+1) al Z.u);rw [ak af] at C;go_wp2_with fail;refine (ak C).mono ?_;rintro e ax ⟨Q,aw,d3,rfl,aj,J⟩;have ad:=ai (But.trans ac.u Q);have ab:=ai J;clear J Q aj c3 am;unfold bY;go_wp2;go_ret2;exact ⟨ad.u,_,d3,rfl,.inl rfl,ab.u⟩
theorem yY(b s i d w)(hs:s.size<=500)(D:At w b s i d)(ay:d<4)(V:eqs (TT s i) (sg 40)=true)(ab:Nat->eC Ex)(Z:∀i w,At w b s i (d+1)->Calls prog 222 #[.pointer (some ⟨b,0,none⟩)] w (dX b s (d+1) w (ab i)))(x j)(an:Hid (ab (i+1)=.ok (x,j)))(al:Hid (eqs (TT s j) (sg 41)=false)):
  Calls prog 272 #[.pointer (some ⟨b,0,none⟩)] w (dX b s d w (.error (2,j))):=by
 have aA:=D.lt;have ap:Hid (s.size<=maxLen):=ai ey;have am:=ai (cG V ar);have c3:=D.pos.rd.c3;have ax:=D.pos.rd.fz;have ac:=ai (At.open D (d+1));have az:((d:Int)==4)=false:=by rw [bG];omega
 have au:=ai Z;clear D V Z;go_enter func272,ntmps272;go_wp2_with fail;rw [show ((d:Int)+1)=((d+1:Nat):Int) by omega];refine (steps b s i (d+1) _ (ak ap) ac.u am.u).mono ?_;rintro e aw ⟨rfl,J,Q⟩;have ag:=ai (But.trans (x:=w) ((But.refl b w).setCell 3 _) Q);have ad:=ai J;have aB:=J.lt;clear J Q;have C:=ai (au.u (i+1) aw ad.u);rw [ak an] at C;go_wp2_with fail;refine (ak C).mono ?_;rintro e aD ⟨R,aC,rfl,Y,I⟩;have ah:=ai (But.trans ag.u R);have ae:=ai (At.open I d);have k3:=I.pos.rd.c3;have aG:=I.pos.rd.fz;have av:=ai Y;clear I R Y c3 ax;go_wp2_with fail;refine (mr b s j d (sg 41) _ ae.u (ak al)).mono ?_;rintro e aE ⟨rfl,O,U⟩;have aj:=ai (But.trans (ah.u.setCell 3 _) U);have af:=ai O;clear O U;go_wp2;go_ret2;exact ⟨aj.u,_,d,rfl,.inr av.u.isI,af.u⟩
theorem xc(b s i d w)(hs:s.size<=500)(D:At w b s i d)(aA:d<4)(Y:eqs (TT s i) (sg 40)=true)(ac:Nat->eC Ex)(ab:∀i w,At w b s i (d+1)->Calls prog 222 #[.pointer (some ⟨b,0,none⟩)] w (dX b s (d+1) w (ac i)))(x j)(ap:Hid (ac (i+1)=.ok (x,j)))(am:Hid (eqs (TT s j) (sg 41)=true)):
  Calls prog 272 #[.pointer (some ⟨b,0,none⟩)] w (dX b s d w (.ok (x,j+1))):=by
 have aC:=D.lt;have Q:Hid (s.size<=maxLen):=ai ey;have an:=ai (cG Y ar);have c3:=D.pos.rd.c3;have az:=D.pos.rd.fz;have ad:=ai (At.open D (d+1));have aB:((d:Int)==4)=false:=by rw [bG];omega
 have au:=ai ab;clear D Y ab;go_enter func272,ntmps272;go_wp2_with fail;rw [show ((d:Int)+1)=((d+1:Nat):Int) by omega];refine (steps b s i (d+1) _ (ak Q) ad.u an.u).mono ?_;rintro e ax ⟨rfl,J,U⟩;have ah:=ai (But.trans (x:=w) ((But.refl b w).setCell 3 _) U);have ae:=ai J;have aD:=J.lt;clear J U;have C:=ai (au.u (i+1) ax ae.u);rw [ak ap] at C;go_wp2_with fail;refine (ak C).mono ?_;rintro e ay ⟨V,aE,rfl,Z,I⟩;have aj:=ai (But.trans ah.u V);have af:=ai (At.open I d);have k3:=I.pos.rd.c3;have aH:=I.pos.rd.fz;have av:=ai Z;clear I V Z c3 az;go_wp2_with fail;refine (ik b s j d (sg 41) _ (ak Q) af.u (ak am) ar).mono ?_;rintro e aG ⟨rfl,R,O⟩;have al:=ai (But.trans (aj.u.setCell 3 _) O);have aw:=ai (bg.but av.u (But.trans ((But.refl b ay).setCell 3 _) O));have ag:=ai R;clear R O;go_wp2;go_ret2;exact ⟨al.u,_,rfl,aw.u,ag.u⟩
theorem IW(b s i d w)(hs:s.size<=500)(U:At w b s i d)(r)(Y:eqs (TT s i) (sg 91)=true->∀w,At w b s i d->Calls prog 271 #[.pointer (some ⟨b,0,none⟩)] w (dX b s d w r))(V:eqs (TT s i) (sg 91)=false->eqs (TT s i) (sg 40)=true->∀w,At w b s i d->Calls prog 272 #[.pointer (some ⟨b,0,none⟩)] w (dX b s d w r))(ho:eqs (TT s i) (sg 91)=false->eqs (TT s i) (sg 40)=false->∀w,At w b s i d->Calls prog 273 #[.pointer (some ⟨b,0,none⟩)] w (dX b s d w r)):
  Calls prog 264 #[.pointer (some ⟨b,0,none⟩)] w (dX b s d w r):=by
 have Q:=ai U;have ab:=ai Y;have Z:=ai V;have ac:=ai ho;have ad:=U.lt;clear U Y V ho
 cases h1:eqs (TT s i) (sg 91)
 ·cases h2:eqs (TT s i) (sg 40)
  ·go_enter func264,ntmps264;go_wp2_with fail;refine (ats b s i d _ _ (sg 91) _ ?_ ?_).mono ?_
   ·exact (eH Q)
   ·exact bF _ _ _ _ an
   rintro e R ⟨rfl,rfl⟩;rw [h1];go_wp2_with fail;refine (ats b s i d _ _ (sg 40) _ ?_ ?_).mono ?_
   ·exact (eH Q)
   ·exact bF _ _ _ _ an
   rintro e R ⟨rfl,rfl⟩;rw [h2];go_wp2_with fail;refine (ac.u h1 h2 _ (eH Q)).mono ?_;exact BS
  go_enter func264,ntmps264;go_wp2_with fail;refine (ats b s i d _ _ (sg 91) _ ?_ ?_).mono ?_
  ·exact (eH Q)
  ·exact bF _ _ _ _ an
  rintro e R ⟨rfl,rfl⟩;rw [h1];go_wp2_with fail;refine (ats b s i d _ _ (sg 40) _ ?_ ?_).mono ?_
  ·exact (eH Q)
  ·exact bF _ _ _ _ an
  rintro e R ⟨rfl,rfl⟩;rw [h2];go_wp2_with fail;refine (Z.u h1 h2 _ (eH Q)).mono ?_;exact BS
 ·go_enter func264,ntmps264;go_wp2_with fail;refine (ats b s i d _ _ (sg 91) _ ?_ ?_).mono ?_
  ·exact (eH Q)
  ·exact bF _ _ _ _ an
  rintro e R ⟨rfl,rfl⟩;rw [h1];go_wp2_with fail;refine (ab.u h1 _ (eH Q)).mono ?_;exact BS
theorem vq(b s i d w)(hs:s.size<=500)(h:At w b s i d)(room inner)(J:d<=4)(D:room=true↔d<4)(C:room=true->∀i w,At w b s i (d+1)->Calls prog 222 #[.pointer (some ⟨b,0,none⟩)] w (dX b s (d+1) w (inner i))):
  Calls prog 264 #[.pointer (some ⟨b,0,none⟩)] w (dX b s d w (eQ (TT s) (PP s) room inner i)):=by
 have I:s.size<=maxLen:=by unfold maxLen;omega
 refine IW b s i d w hs h _ ?_ ?_ ?_
 ·intro h1 w h;simp only [eQ,h1,if_true];exact Ga b s i d w hs h h1
 ·intro h1 h2 w h;simp only [eQ,h1,h2,if_true,Bool.false_eq_true,aP]
  cases room with
  |false=>
   have:d=4:=by
    have:¬d<4:=fun k=>by have:=D.2 k;cases this
    omega
   subst this;exact uZ b s i w h
  |true=>
   have A:=D.1 rfl;simp only [if_true]
   cases hi:inner (i+1) with
   |error e=>exact xb b s i d w hs h A h2 inner (C rfl) e.1 e.2 (ai hi)
   |ok y=>
    obtain ⟨x,j⟩:=y
    cases hc:eqs (TT s j) (sg 41)
    ·simp only [hc];exact yY b s i d w hs h A h2 inner (C rfl) x j (ai hi) (ai hc)
    simp only [hc];exact xc b s i d w hs h A h2 inner (C rfl) x j (ai hi) (ai hc)
 ·intro h1 h2 w h;simp only [eQ,h1,h2,Bool.false_eq_true,aP];exact IU b s i d w I h
theorem sE(b s i d w)(hs:s.size<=500)(I:At w b s i d)(part)(J:jn part)(D:∀i w,At w b s i d->Calls prog 264 #[.pointer (some ⟨b,0,none⟩)] w (dX b s d w (part i))):
  Calls prog 249 #[.pointer (some ⟨b,0,none⟩)] w (dX b s d w (eG (TT s) (PP s) [sg 38,sg 45] part i)):=by
 have R:=ai I;have V:=I.lt;have C:=ai (yX b s i d (w.alloc (.cells #[.string ⟨#[38]⟩,.string ⟨#[45]⟩] 9)) hs (I.alloc _) w.heap.size 2 [sg 38,sg 45] part J D (by simp [maxLen]) ar aj an (fun i hi=>by
  match i,hi with
  |0,_=>exact (aB.new w _ _).cell rfl
  |1,_=>exact (aB.new w _ _).cell rfl
  |n+2,hi=>simp at hi;omega))
 generalize eG (TT s) (PP s) [sg 38,sg 45] part i=r at*;clear I D J;go_enter func249,ntmps249;go_wp2_with fail;refine C.u.mono ?_;intro e Y D;obtain ⟨v,U,rfl⟩:=Post.form D;have Q:=ai D;clear D;go_wp2;go_ret2;have O:=ai (But.refl b w);exact Post.from (w:=w) (cL O) Q.u
theorem Ey(b s i d w)(hs:s.size<=500)(I:At w b s i d)(part)(J:jn part)(D:∀i w,At w b s i d->Calls prog 249 #[.pointer (some ⟨b,0,none⟩)] w (dX b s d w (part i))):
  Calls prog 222 #[.pointer (some ⟨b,0,none⟩)] w (dX b s d w (eG (TT s) (PP s) [sg 124] part i)):=by
 have R:=ai I;have V:=I.lt;have C:=ai (w8 b s i d (w.alloc (.cells #[.string ⟨#[124]⟩] 9)) hs (I.alloc _) w.heap.size 1 [sg 124] part J D (by simp [maxLen]) ar aj an (fun i hi=>by
  match i,hi with
  |0,_=>exact (aB.new w _ _).cell rfl
  |n+1,hi=>simp at hi))
 generalize eG (TT s) (PP s) [sg 124] part i=r at*;clear I D J;go_enter func222,ntmps222;go_wp2_with fail;refine C.u.mono ?_;intro e Y D;obtain ⟨v,U,rfl⟩:=Post.form D;have Q:=ai D;clear D;go_wp2;go_ret2;have O:=ai (But.refl b w);exact Post.from (w:=w) (cL O) Q.u
theorem nc(b s)(hs:s.size<=500):∀n i d w,d+n=4->At w b s i d->
  Calls prog 222 #[.pointer (some ⟨b,0,none⟩)] w (dX b s d w (fb (TT s) (PP s) n i))
 |0,i,d,w,hd,C=>Ey b s i d w hs C _ (gR _ _ false _ (fun i x j C=>by simp at C)) (fun i w C=>
   sE b s i d w hs C _ (jw _ _ false _ (fun i x j C=>by simp at C)) (fun i w C=>
    vq b s i d w hs C false _ aj aM (fun C=>by cases C)))
 |n+1,i,d,w,hd,C=>Ey b s i d w hs C _ (gR _ _ true _ (gH _ _ n)) (fun i w C=>
   sE b s i d w hs C _ (jw _ _ true _ (gH _ _ n)) (fun i w C=>
    vq b s i d w hs C true _ aj aM (fun _ i w C=>nc b s hs n i (d+1) w aj C)))
section
abbrev ce:Obj:=.cells #[.int .i64 0,.string ⟨#[]⟩,.nilIface] 159
variable {g:Nat}
theorem bg.set{e}(C:bg b w e v)(A:aB w g cs T)(D:T≠207)(o u):bg b (w.setCell ⟨g,o,none⟩ u) e v:=
 bg.frame (fun g' I f J h=>dP _ _ _ _ (fun (e':g'=g)=>by
  subst e';unfold aB at A;rw [A] at h;simp at h;exact D h.2.1)) e v C
def yZ(b:Nat)(w:af)(r:Rl)(v:ag):Prop:=∃h,v=.agg #[.int .i64 r.place,.string r.name,h]/\bg b w r.body h
def IX(v:ag):Prop:=∃(p:Nat)(t:ae)(h:ag),v=.agg #[.int .i64 p,.string t,h]/\SO h
theorem NP(b s i d w)(hs:s.size<=500)(I:At w b s i d)(c j)(U:Hid (b5 (TT s) (sg 58) i=.error (c,j))):
  Calls prog 172 #[.pointer (some ⟨b,0,none⟩)] w (Post b s d w (.error (c,j):eC Rl) (yZ b) IX):=by
 have ac:=I.lt;have V:Hid (s.size<=maxLen):=ai ey;have C:=ai (fj b s i d (sg 58) _ (ak V) ((I.alloc ce).alloc ce) ar);rw [ak U] at C;clear I;go_enter func172,ntmps172;go_wp2_with fail;refine (ak C).mono ?_;rintro e w1 ⟨b1,v,d1,rfl,⟨p,t,rfl⟩,J⟩;have Q:=ai (((But.refl b w).alloc _).alloc _ |>.trans b1);have D:=((aB.new w #[.int .i64 0,.string ⟨#[]⟩,.nilIface] 159).alloc ce).but b1 aj;have G:=(aB.new' (w.alloc ce) #[.int .i64 0,.string ⟨#[]⟩,.nilIface] 159 (w.heap.size+1) an).but b1 aj;have R:=ai D;have Y:=ai G;obtain ⟨af,ag,ah⟩:=D.three;obtain ⟨g0,Z,ab⟩:=G.three;have am:=D.fz;have al:=G.fz;have ad:=G.lt;have ae:w.heap.size<w1.heap.size:=aj;have O:=ai J;clear J b1 D G C;unfold bY;go_wp2;refine bc (v:=.tuple #[.agg #[.int .i64 p,.string t,.nilIface],bY c]) (bC results172 _ _ w.heap.size _ 159 _ _ rfl rfl ?hB underlying159 rfl au) rfl ?post
 case hB=>exact ⟨_,(b4 R),aS⟩
 case post=>exact ⟨(cL Q),_,d1,rfl,⟨p,t,_,rfl,.inl rfl⟩,(eH O)⟩
theorem IY(b s i d w)(hs:s.size<=500)(Q:At w b s i d)(ax:d+4=4)(c j m)(al:Hid (b5 (TT s) (sg 58) i=.ok ((),j)))(ap:Hid (fb (TT s) (PP s) 4 j=.error (c,m))):
  Calls prog 172 #[.pointer (some ⟨b,0,none⟩)] w (Post b s d w (.error (c,m):eC Rl) (yZ b) IX):=by
 have aL:=Q.lt;have am:Hid (s.size<=maxLen):=ai ey;have C:=ai (fj b s i d (sg 58) _ (ak am) ((Q.alloc ce).alloc ce) ar);rw [ak al] at C;clear Q;go_enter func172,ntmps172;go_wp2_with fail;refine (ak C).mono ?_;rintro e w1 ⟨b1,v,rfl,rfl,ac⟩;have af:=ai (((But.refl b w).alloc _).alloc _ |>.trans b1);have I:=((aB.new w #[.int .i64 0,.string ⟨#[]⟩,.nilIface] 159).alloc ce).but b1 aj;have G:=(aB.new' (w.alloc ce) #[.int .i64 0,.string ⟨#[]⟩,.nilIface] 159 (w.heap.size+1) an).but b1 aj;have ah:=ai I;have ag:=ai G;obtain ⟨aC,aD,aE⟩:=I.three;obtain ⟨g0,av,aw⟩:=G.three;have aJ:=I.fz;have aI:=G.fz;have ay:=G.lt;have az:w.heap.size<w1.heap.size:=aj;have ae:=ai ac;clear ac b1 I G C;unfold rH;go_wp2_with fail;have C:=ai (nc b s hs 4 j d _ ax (show At ((w1.setCell ⟨w.heap.size+1,0,none⟩ (.int .i64 (cC s (K s i)))).setCell ⟨w.heap.size+1,1,none⟩ (.string (bT s (K s i)))) b s j d from (eH ae)));rw [ak ap] at C;refine (ak C).mono ?_;rintro e R ⟨O,aT,d2,rfl,aA,ad⟩;have V:=ai (But.trans (x:=w) (cL af) O);have ab:=aB.but (g:=w.heap.size) (T:=159) (b4 ah) O aj;have J:aB R w.heap.size #[.int .i64 0,.string ⟨#[]⟩,.nilIface] 159:=ab;have Y:=aB.but (g:=w.heap.size+1) (T:=159) (b4 ag) O aj;have D:aB R (w.heap.size+1) #[.int .i64 (cC s (K s i)),.string (bT s (K s i)),.nilIface] 159:=Y;have Z:=ai J;have aK:=ai D;obtain ⟨aM,p1,p2⟩:=J.three;obtain ⟨aN,aO,aP⟩:=D.three;have aU:=J.fz;have zq:=D.fz;have aQ:=D.lt;have aR:w.heap.size<R.heap.size:=aj;have U:=ai ad;clear ad O J D ab Y aC aD aE g0 av aw aJ aI ay az;unfold bY
 rcases aA with rfl|⟨aG,aH,rfl⟩
 ·go_wp2;refine bc (v:=.tuple #[.agg #[.int .i64 (cC s (K s i)),.string (bT s (K s i)),.nilIface],bY c]) (bC results172 _ _ w.heap.size _ 159 _ _ rfl rfl ?hB underlying159 rfl au) rfl ?post
  case hB=>exact ⟨_,(b4 Z),aS⟩
  case post=>exact ⟨(cL V),_,d2,rfl,⟨_,_,_,rfl,.inl rfl⟩,(eH U)⟩
 ·go_wp2;refine bc (v:=.tuple #[.agg #[.int .i64 (cC s (K s i)),.string (bT s (K s i)),.iface aG aH],bY c]) (bC results172 _ _ w.heap.size _ 159 _ _ rfl rfl ?hB underlying159 rfl au) rfl ?post
  case hB=>exact ⟨_,(b4 Z),aS⟩
  case post=>exact ⟨(cL V),_,d2,rfl,⟨_,_,_,rfl,.inr ⟨_,_,rfl⟩⟩,(eH U)⟩
theorem NQ(b s i d w)(hs:s.size<=500)(ad:At w b s i d)(aY:d+4=4)(x j m)(aQ:Hid (b5 (TT s) (sg 58) i=.ok ((),j)))(aR:Hid (fb (TT s) (PP s) 4 j=.ok (x,m)))(aP:Hid (eqs (TT s m) (sg 59)=true)):
  Calls prog 172 #[.pointer (some ⟨b,0,none⟩)] w (Post b s d w (.ok (⟨TT s i,PP s i,x⟩,m+1):eC Rl) (yZ b) IX):=by
 have ba:=ad.lt;have ap:Hid (s.size<=maxLen):=ai ey;have C:=ai (fj b s i d (sg 58) _ (ak ap) ((ad.alloc ce).alloc ce) ar);rw [ak aQ] at C;clear ad;go_enter func172,ntmps172;go_wp2_with fail;refine (ak C).mono ?_;rintro e w1 ⟨b1,v,rfl,rfl,ax⟩;have aI:=ai (((But.refl b w).alloc _).alloc _ |>.trans b1);have V:=((aB.new w #[.int .i64 0,.string ⟨#[]⟩,.nilIface] 159).alloc ce).but b1 aj;have G:=(aB.new' (w.alloc ce) #[.int .i64 0,.string ⟨#[]⟩,.nilIface] 159 (w.heap.size+1) an).but b1 aj;have aN:=ai V;have aL:=ai G;obtain ⟨a2,a3,a4⟩:=V.three;obtain ⟨g0,aW,aX⟩:=G.three;have a7:=V.fz;have a5:=G.fz;have aZ:=G.lt;have a0:w.heap.size<w1.heap.size:=aj;have aE:=ai ax;clear ax b1 V G C;unfold rH;go_wp2_with fail;have C:=ai (nc b s hs 4 j d _ aY (show At ((w1.setCell ⟨w.heap.size+1,0,none⟩ (.int .i64 (cC s (K s i)))).setCell ⟨w.heap.size+1,1,none⟩ (.string (bT s (K s i)))) b s j d from (eH aE)));rw [ak aR] at C;refine (ak C).mono ?_;rintro e J ⟨ab,bj,rfl,ae,ay⟩;have ag:=ai (But.trans (x:=w) (cL aI) ab);have av:=aB.but (g:=w.heap.size) (T:=159) (b4 aN) ab aj;have Y:aB J w.heap.size #[.int .i64 0,.string ⟨#[]⟩,.nilIface] 159:=av;have ah:=aB.but (g:=w.heap.size+1) (T:=159) (b4 aL) ab aj;have O:aB J (w.heap.size+1) #[.int .i64 (cC s (K s i)),.string (bT s (K s i)),.nilIface] 159:=ah;have am:=ai Y;have ac:=ai O;obtain ⟨a1,p1,p2⟩:=Y.three;obtain ⟨aA,aC,aD⟩:=O.three;have a6:=Y.fz;have zq:=O.fz;have bh:=O.lt;have bi:w.heap.size<J.heap.size:=aj;have af:=ai ay;clear ay ab Y O av ah a2 a3 a4 g0 aW aX a7 a5 aZ a0;obtain ⟨D,I,rfl⟩:=ae.isI;have aw:=ai ae;clear ae;have bb:¬(w.heap.size+1=w.heap.size):=aj;go_wp2_with fail;have aG:=ai (show At (J.setCell ⟨w.heap.size+1,2,none⟩ (.iface D I)) b s m d from (eH af));have aJ:=ai (show But b w (J.setCell ⟨w.heap.size+1,2,none⟩ (.iface D I)) from (cL ag));have aT:=ai (bg.set aw.u ac.u ar 2 (.iface D I));have Q:aB (J.setCell ⟨w.heap.size+1,2,none⟩ (.iface D I)) (w.heap.size+1) #[.int .i64 (cC s (K s i)),.string (bT s (K s i)),.iface D I] 159:=ac.u.set 2 _;have R3:aB (J.setCell ⟨w.heap.size+1,2,none⟩ (.iface D I)) w.heap.size #[.int .i64 0,.string ⟨#[]⟩,.nilIface] 159:=am.u.other an _;generalize J.setCell ⟨w.heap.size+1,2,none⟩ (.iface D I)=W at*;clear a1 p1 p2 aA aC aD a6 zq af ag aw ac am;have aM:=ai Q;have aO:=ai R3;obtain ⟨aA,aC,aD⟩:=Q.three;have zq:=Q.fz;have a8:=Q.lt;have a9:=R3.lt;clear Q R3
 go_region_held3 (fun w'=>w'.cell? ⟨w.heap.size+1,0,none⟩=some (.int .i64 (cC s (K s i)))/\w'.cell? ⟨w.heap.size+1,1,none⟩=some (.string (bT s (K s i)))/\w'.cell? ⟨w.heap.size+1,2,none⟩=some (.iface D I)) (go_keep)
  ((go_at_call 169;refine (ik b s m d (sg 59) _ (ak ap) ?_ (ak aP) ar).mono ?_;(exact aG.u.drew);rintro e bk ⟨rfl,az,R⟩;have al:=aM.u.drew.but R aj;obtain ⟨bf,n1,n2⟩:=al.three;have Z:=aO.u.drew.but R aj;obtain ⟨k0,k1,be⟩:=Z.three;have bl:=aB.fz Z;have U:=ai Z;have aH:=ai az;have aU:=ai (bg.but aT.u (But.trans ((But.refl b W).drew) R));have aK:=ai (But.trans aJ.u.drew R);clear al Z az R))
 go_wp2;refine bc (v:=.tuple #[.agg #[.int .i64 (cC s (K s i)),.string (bT s (K s i)),.iface D I],.nilIface]) (bC results172 _ _ w.heap.size _ 159 _ _ rfl rfl ?hB underlying159 rfl au) rfl ?post
 case hB=>exact ⟨_,(b4 U),aS⟩
 case post=>exact ⟨(cL aK),_,rfl,⟨_,rfl,bg.set (bg.set (bg.set aU.u U.u ar 0 _) (U.u.set 0 _) ar 1 _) ((U.u.set 0 _).set 1 _) ar 2 _⟩,(eH aH)⟩
theorem QY(b s i d w)(hs:s.size<=500)(ac:At w b s i d)(aX:d+4=4)(x j m)(aP:Hid (b5 (TT s) (sg 58) i=.ok ((),j)))(aR:Hid (fb (TT s) (PP s) 4 j=.ok (x,m)))(aO:Hid (eqs (TT s m) (sg 59)=false)):
  Calls prog 172 #[.pointer (some ⟨b,0,none⟩)] w (Post b s d w (.error (2,m):eC Rl) (yZ b) IX):=by
 have ba:=ac.lt;have aQ:Hid (s.size<=maxLen):=ai ey;have C:=ai (fj b s i d (sg 58) _ (ak aQ) ((ac.alloc ce).alloc ce) ar);rw [ak aP] at C;clear ac;go_enter func172,ntmps172;go_wp2_with fail;refine (ak C).mono ?_;rintro e w1 ⟨b1,v,rfl,rfl,av⟩;have aG:=ai (((But.refl b w).alloc _).alloc _ |>.trans b1);have U:=((aB.new w #[.int .i64 0,.string ⟨#[]⟩,.nilIface] 159).alloc ce).but b1 aj;have G:=(aB.new' (w.alloc ce) #[.int .i64 0,.string ⟨#[]⟩,.nilIface] 159 (w.heap.size+1) an).but b1 aj;have aL:=ai U;have aJ:=ai G;obtain ⟨a1,a2,a3⟩:=U.three;obtain ⟨g0,aU,aW⟩:=G.three;have a6:=U.fz;have a4:=G.fz;have aY:=G.lt;have aZ:w.heap.size<w1.heap.size:=aj;have aC:=ai av;clear av b1 U G C;unfold rH;go_wp2_with fail;have C:=ai (nc b s hs 4 j d _ aX (show At ((w1.setCell ⟨w.heap.size+1,0,none⟩ (.int .i64 (cC s (K s i)))).setCell ⟨w.heap.size+1,1,none⟩ (.string (bT s (K s i)))) b s j d from (eH aC)));rw [ak aR] at C;refine (ak C).mono ?_;rintro e J ⟨Z,bj,rfl,ad,aw⟩;have af:=ai (But.trans (x:=w) (cL aG) Z);have am:=aB.but (g:=w.heap.size) (T:=159) (b4 aL) Z aj;have V:aB J w.heap.size #[.int .i64 0,.string ⟨#[]⟩,.nilIface] 159:=am;have ag:=aB.but (g:=w.heap.size+1) (T:=159) (b4 aJ) Z aj;have O:aB J (w.heap.size+1) #[.int .i64 (cC s (K s i)),.string (bT s (K s i)),.nilIface] 159:=ag;have al:=ai V;have ab:=ai O;obtain ⟨a0,p1,p2⟩:=V.three;obtain ⟨ay,az,aA⟩:=O.three;have a5:=V.fz;have zq:=O.fz;have bh:=O.lt;have bi:w.heap.size<J.heap.size:=aj;have ae:=ai aw;clear aw Z V O am ag a1 a2 a3 g0 aU aW a6 a4 aY aZ;obtain ⟨D,I,rfl⟩:=ad.isI;have ap:=ai ad;clear ad;have bb:¬(w.heap.size+1=w.heap.size):=aj;go_wp2_with fail;have aD:=ai (show At (J.setCell ⟨w.heap.size+1,2,none⟩ (.iface D I)) b s m d from (eH ae));have aH:=ai (show But b w (J.setCell ⟨w.heap.size+1,2,none⟩ (.iface D I)) from (cL af));have aT:=ai (bg.set ap.u ab.u ar 2 (.iface D I));have Q:aB (J.setCell ⟨w.heap.size+1,2,none⟩ (.iface D I)) (w.heap.size+1) #[.int .i64 (cC s (K s i)),.string (bT s (K s i)),.iface D I] 159:=ab.u.set 2 _;have R3:aB (J.setCell ⟨w.heap.size+1,2,none⟩ (.iface D I)) w.heap.size #[.int .i64 0,.string ⟨#[]⟩,.nilIface] 159:=al.u.other an _;generalize J.setCell ⟨w.heap.size+1,2,none⟩ (.iface D I)=W at*;clear a0 p1 p2 ay az aA a5 zq ae af ap ab al;have aK:=ai Q;have aM:=ai R3;obtain ⟨ay,az,aA⟩:=Q.three;have zq:=Q.fz;have a8:=Q.lt;have a9:=R3.lt;clear Q R3
 go_region_held3 (fun w'=>w'.cell? ⟨w.heap.size+1,0,none⟩=some (.int .i64 (cC s (K s i)))/\w'.cell? ⟨w.heap.size+1,1,none⟩=some (.string (bT s (K s i)))/\w'.cell? ⟨w.heap.size+1,2,none⟩=some (.iface D I)) (go_keep)
  ((go_at_call 169;refine (mr b s m d (sg 59) _ ?_ (ak aO)).mono ?_;(exact aD.u.drew);rintro e bk ⟨rfl,ax,R⟩;have ah:=aK.u.drew.but R aj;obtain ⟨bf,n1,n2⟩:=ah.three;have Y:=aM.u.drew.but R aj;obtain ⟨k0,k1,be⟩:=Y.three;have bl:=aB.fz Y;have aN:=ai Y;have aE:=ai ax;have a7:=ai (bg.but aT.u (But.trans ((But.refl b W).drew) R));have aI:=ai (But.trans aH.u.drew R);clear ah Y ax R))
 go_wp2;refine bc (v:=.tuple #[.agg #[.int .i64 (cC s (K s i)),.string (bT s (K s i)),.iface D I],bY 2]) (bC results172 _ _ w.heap.size _ 159 _ _ rfl rfl ?hB underlying159 rfl au) rfl ?post
 case hB=>exact ⟨_,(b4 aN),aS⟩
 case post=>exact ⟨(cL aI),_,d,rfl,⟨_,_,_,rfl,.inr ⟨_,_,rfl⟩⟩,(eH aE)⟩
theorem o0(b s i d w)(hs:s.size<=500)(A:At w b s i d)(I:d+4=4):
  Calls prog 172 #[.pointer (some ⟨b,0,none⟩)] w (Post b s d w (kH (TT s) (PP s) i) (yZ b) IX):=by
 unfold kH
 cases D:b5 (TT s) (sg 58) i with
 |error e=>exact NP b s i d w hs A e.1 e.2 (ai D)
 |ok y=>
  obtain ⟨⟨⟩,j⟩:=y
  cases h:fb (TT s) (PP s) 4 j with
  |error e=>simp only [h];exact IY b s i d w hs A I e.1 j e.2 (ai D) (ai h)
  |ok y=>
   obtain ⟨x,m⟩:=y
   cases C:eqs (TT s m) (sg 59)
   ·simp only [h,C];exact QY b s i d w hs A I x j m (ai D) (ai h) (ai C)
   simp only [h,C];exact NQ b s i d w hs A I x j m (ai D) (ai h) (ai C)
end
abbrev pU:=@Bool.and_true
abbrev cX:=@List.flatMap_append
abbrev aT:=@List.mem_append
abbrev cM:Obj:=.cells #[.int .i64 0,.string ⟨#[]⟩,.slice none 0 0] 110
abbrev en:Obj:=.cells #[.string ⟨#[125]⟩] 9
abbrev cp(a0:Int)(a1:ae)(a2:TypeId)(a3:ag):Obj:=.cells #[.int .i64 a0,.string a1,.iface a2 a3] 159
def PH (ag:aF:=by
 intro g5 aV w5 Z O ah am;have D:Below w4.heap.size w4 ((w4.alloc (cp r4.place r4.name tx vx)).alloc (cp r4.place r4.name tx vx)):=(ba.alloc az _).alloc an _;have Q:=NR.u.below D;have R:=yH.u.below D;have V:=A4.u.below D;have J:=(E3.u.alloc (cp r4.place r4.name tx vx)).alloc (cp r4.place r4.name tx vx);have Y:nN b w4 w5:=fun g cs f al U=>(O.block g (cg (lt_of_some U) D.size) (eo J ((D.block g (lt_of_some U)).trans U) ar)).trans (D.block g (lt_of_some U))
 have af:=ai (show ∀p∈l4++[(r4,Value.iface tx vx)],bg b w5 p.1.body p.2 from fun p C=>by
  rw [aT] at C
  rcases C with C|C
  ·exact bg.frame Y _ _ (E2.u p C)
  simp at C;subst C;exact bg.frame Y _ _ V4.u)
 have I:=ai (show aB w5 (w.heap.size+1) #[.int .i64 (cC s (K s (i+1))),.string (bT s (K s (i+1))),.slice sa rs.length sc] 110 from (O.block _ Q.lt (own_ne J Q ar)).trans Q);have ad:=ai (show aB w5 w.heap.size #[.int .i64 0,.string ⟨#[]⟩,.slice none 0 0] 110 from (O.block _ R.lt (own_ne J R ar)).trans R);have ab:=ai (V.grown O (own_ne J V.pos.rd.blk ar));have ac:=ai (But.grown (B4.u.trans (But.of_below D)) O (fun k ak=>(J.lt k ak).1));have ae:=ai Z;obtain ⟨ap,au,av⟩:=I.u.three;have ax:=I.u.fz;have aw:=I.u.lt;clear D Q R V J Y Z O ah y0 y1 y2 k0 k1 k2 zy zk;go_wp2
 go_roundg fu
 case measure=>omega
 case rel=>exact ⟨rs++[r4],j4,_,(cL ac),(eH ab),aj,aM,(b4 ad),I.u.set 2 _,⟨l4++[(r4,.iface tx vx)],by simp [E1.u],fun p C=>bg.set (af.u p C) I.u ar 2 _,by rw [List.length_append,cX];exact bJ ae.u I.u ar 2 _⟩,HK⟩):aF:=ag
theorem Tryz.info159:(Tryz.prog.info? 159).map (fun i=>(i.zero,i.size,i.bytes))=some (some (.agg #[.int .i64 0,.string ⟨#[]⟩,.nilIface]),3,40):=by kernel_rfl
def j2(p:Rl×ag):List ag:=[.int .i64 p.1.place,.string p.1.name,p.2]
def im(base b:Nat)(w:af)(sv:ag)(rs:List Rl):Prop:=
 ∃l:List (Rl×ag),l.map Prod.fst=rs/\(∀p∈l,bg b w p.1.body p.2)/\w.ownsRow base 159 3 sv rs.length (l.flatMap j2)
theorem ay{base:Nat}(h:w.ownsRow base e size v n xs):∃a cap,v=.slice a n cap:=by
 rcases h.2 with ⟨rfl,rfl⟩|⟨g,cap,A,rfl,_⟩
 ·exact ⟨_,_,rfl⟩
 exact ⟨_,_,rfl⟩
def dC(b:Nat)(w w':af):Prop:=∀g cs T f,b+1<=g->w.heap[g]? =some (.cells cs T f)->(T=207\/T=159)->w'.heap[g]? =w.heap[g]?
theorem dC.of_but(C:But b w w'):dC b w w':=fun g cs T f I D _=>C.block g (lt_of_some D) aj
theorem dC.g(h:dC b w w'):nN b w w':=fun g cs f A C=>h g cs _ f A C (.inl rfl)
theorem im.frame{base:Nat}(C:im base b w sv rs)(k:dC b w w')(O:b+1<=base):im base b w' sv rs:=by
 obtain ⟨l,h1,h2,D⟩:=C;exact ⟨l,h1,fun p J=>bg.frame k.g _ _ (h2 p J),ax D fun g cs f Q I=>k g cs _ f aj I (.inr rfl)⟩
theorem im.base{base:Nat}(h:im base b w sv rs)(C:base'<=base):im base' b w sv rs:=by
 obtain ⟨l,h1,h2,A⟩:=h;exact ⟨l,h1,h2,aX A C⟩
theorem dC.set{g}(C:aB w g cs T)(h1:T≠207)(h2:T≠159)(o u):dC b w (w.setCell ⟨g,o,none⟩ u):=
 fun g' D T' f I A h=>dP _ _ _ _ (fun (e':g'=g)=>by
  subst e';unfold aB at C;rw [C] at A;simp at A;obtain ⟨_,rfl,_⟩:=A
  rcases h with h|h
  ·exact h1 h
  exact h2 h)
theorem dC.trans(D:dC b x y)(k:dC b y z):dC b x z:=fun g cs T f h A C=>(k g cs T f h ((D g cs T f h A C).trans A) C).trans (D g cs T f h A C)
theorem dC.below(h:Below w.heap.size w w'):dC b w w':=dC.of_but (But.of_below h)
theorem eo{base:Nat}{g:Nat}{f:Nat×Nat}(C:w.ownsRow base e size v n xs)(D:w.heap[g]? =some (.cells cs T f))(I:T≠e):some g≠v.ownBlock:=by
 rcases C.2 with ⟨rfl,_⟩|⟨g',cap,J,rfl,O,h,r⟩
 ·simp [Value.ownBlock]
 intro A;simp only [Value.ownBlock,aK] at A;subst A;rw [D] at h;simp at h;exact I h.2.1
def Ez(b:Nat)(w:af)(t:Ty)(v:ag):Prop:=∃sv,v=.agg #[.int .i64 t.place,.string t.name,sv]/\im (b+1) b w sv t.rels
def NT(v:ag):Prop:=∃(p:Nat)(t:ae)(a:Option Addr)(n c:Nat),v=.agg #[.int .i64 p,.string t,.slice a n c]
def typeM(T:Nat->ae)(P:Nat->Nat)(i:Nat)(h:eC (List Rl)):eC Ty:=match h with
 | .error e=> .error e
 | .ok (rs,m)=> .ok (⟨T (i+1),P (i+1),rs⟩,m)
theorem NU(b s i d w)(hs:s.size<=500)(D:At w b s i d)(U:eqs (TT s i) jf=false):
  Calls prog 114 #[.pointer (some ⟨b,0,none⟩)] w (Post b s d w (.error (2,i):eC Ty) (Ez b) NT):=by
 have ab:=D.lt;have J:=ai D;clear D;go_enter func114,ntmps114;go_wp2_with fail;refine (mr b s i d jf _ ?_ U).mono ?_
 ·exact (eH J)
 rintro e w1 ⟨rfl,I,b1⟩;have Q:=ai (((But.refl b w).alloc _).alloc _ |>.trans b1);have C:=((aB.new w #[.int .i64 0,.string ⟨#[]⟩,.slice none 0 0] 110).alloc cM).but b1 aj;have G:=(aB.new' (w.alloc cM) #[.int .i64 0,.string ⟨#[]⟩,.slice none 0 0] 110 (w.heap.size+1) an).but b1 aj;have R:=ai C;have V:=ai G;obtain ⟨ac,ad,ae⟩:=C.three;obtain ⟨g0,Y,Z⟩:=G.three;have ag:=C.fz;have af:=G.fz;have O:=ai I;clear I b1 C G;unfold bY;go_wp2;refine bc (v:=.tuple #[.agg #[.int .i64 0,.string ⟨#[]⟩,.slice none 0 0],bY 2]) (bC results114 _ _ w.heap.size _ 110 _ _ rfl rfl ?hB underlying110 rfl au) rfl ?post
 case hB=>exact ⟨_,(b4 R),aS⟩
 case post=>exact ⟨(cL Q),_,d,rfl,⟨0,_,_,_,_,rfl⟩,(eH O)⟩
theorem Gb(b s i d w)(hs:s.size<=500)(J:At w b s i d)(U:eqs (TT s i) jf=true)(c j)(ag:Hid (b5 (TT s) (sg 123) (i+1)=.error (c,j))):
  Calls prog 114 #[.pointer (some ⟨b,0,none⟩)] w (Post b s d w (.error (c,j):eC Ty) (Ez b) NT):=by
 have av:=J.lt;have O:Hid (s.size<=maxLen):=ai ey;have af:=ai U;have V:=ai J;clear J U;go_enter func114,ntmps114;go_wp2_with fail;refine (ik b s i d jf _ (ak O) ?_ af.u ar).mono ?_
 ·exact (eH V)
 rintro e w1 ⟨rfl,Q,b1⟩;have ab:=ai (((But.refl b w).alloc _).alloc _ |>.trans b1);have ah:=ai (((aB.new w #[.int .i64 0,.string ⟨#[]⟩,.slice none 0 0] 110).alloc cM).but b1 aj);have ad:=ai ((aB.new' (w.alloc cM) #[.int .i64 0,.string ⟨#[]⟩,.slice none 0 0] 110 (w.heap.size+1) an).but b1 aj);have Y:=ai Q;clear Q b1;have C:=ai (fj b s (i+1) d (sg 123) w1 (ak O) Y.u ar);rw [ak ag] at C;go_wp2_with fail;refine (ak C).mono ?_;rintro e aA ⟨I,v,d2,rfl,⟨p,t,rfl⟩,R⟩;have ac:=ai (But.trans ab.u I);have D:=ah.u.but I aj;have G:=ad.u.but I aj;have ae:=ai D;have al:=ai G;obtain ⟨ax,ay,az⟩:=D.three;obtain ⟨g0,am,ap⟩:=G.three;have aD:=D.fz;have aC:=G.fz;have aw:=G.lt;have Z:=ai R;clear R I D G C;unfold bY;go_wp2;refine bc (v:=.tuple #[.agg #[.int .i64 p,.string t,.slice none 0 0],bY c]) (bC results114 _ _ w.heap.size _ 110 _ _ rfl rfl ?hB underlying110 rfl au) rfl ?post
 case hB=>exact ⟨_,(b4 ae),aS⟩
 case post=>exact ⟨(cL ac),_,d2,rfl,⟨p,t,_,_,_,rfl⟩,(eH Z)⟩
theorem NV(b s i d w)(hs:s.size<=500)(bL:At w b s i d)(bw:d+4=4)(b7:eqs (TT s i) jf=true)(j)(cw:Hid (b5 (TT s) (sg 123) (i+1)=.ok ((),j))):
  Calls prog 114 #[.pointer (some ⟨b,0,none⟩)] w (Post b s d w (typeM (TT s) (PP s) i (dg (TT s) (PP s) 512 [] j)) (Ez b) NT):=by
 obtain ⟨i0,hi,cb,cd,ce⟩:=bH Tryz.info159;have bV:=ai hi;have bX:=ai cb;have bZ:=ai cd;have b2:=ai ce;clear hi cb cd ce;generalize b3:dg (TT s) (PP s) 512 [] j=bl;have ct:=ai b3;clear b3;have cR:=bL.lt;have bB:Hid (s.size<=maxLen):=ai ey;have cu:=ai b7;have cf:=ai bL;clear bL b7;go_enter func114,ntmps114;go_wp2_with fail;refine (ik b s i d jf _ (ak bB) ?_ cu.u ar).mono ?_
 ·exact (eH cf)
 rintro e w1 ⟨rfl,a1,b1⟩;have ck:=ai (((But.refl b w).alloc _).alloc _ |>.trans b1);have cx:=ai (((aB.new w #[.int .i64 0,.string ⟨#[]⟩,.slice none 0 0] 110).alloc cM).but b1 aj);have co:=ai ((aB.new' (w.alloc cM) #[.int .i64 0,.string ⟨#[]⟩,.slice none 0 0] 110 (w.heap.size+1) an).but b1 aj);have ch:=ai a1;clear a1 b1;have C:=ai (fj b s (i+1) d (sg 123) w1 (ak bB) ch.u ar);rw [ak cw] at C;go_wp2_with fail;refine (ak C).mono ?_;rintro e c3 ⟨bu,v,rfl,rfl,a2⟩;have cl:=ai (But.trans ck.u bu);have bl:=cx.u.but bu aj;have G:=co.u.but bu aj;have aU:=ai bl;have cr:=ai G;obtain ⟨cG,cH,cI⟩:=bl.three;obtain ⟨g0,cy,cz⟩:=G.three;have cN:=bl.fz;have cK:=G.fz;have cU:=G.lt;have ci:=ai a2;clear a2 bu bl G C;unfold rH;go_wp2_with fail
 go_loopg [7] 512 (fun k cZ wr=>∃(rs:List Rl)(j:Nat)(sv:ag),But b w wr/\At wr b s j d/\512<=k+j/\rs.length<=j/\aB wr w.heap.size #[.int .i64 0,.string ⟨#[]⟩,.slice none 0 0] 110/\
  aB wr (w.heap.size+1) #[.int .i64 (cC s (K s (i+1))),.string (bT s (K s (i+1))),sv] 110/\im w.heap.size b wr sv rs/\Hid (dg (TT s) (PP s) k rs j=bl))
 case atStart=>exact ⟨[],j,_,(cL cl),(eH ci),aj,an,(aU.u.other an _).other an _,(cr.u.set 0 _).set 1 _,⟨[],rfl,an,bN⟩,ct⟩
 case round=>
  obtain ⟨rs,j,sv,b6,ha,cQ,cT,bv,bs,cB,bW⟩:=hrel;have cP:12<=gk:=by have:=ha.le;omega
  obtain ⟨fu,rfl⟩:∃f,gk=f+1:=⟨gk-1,aj⟩;obtain ⟨l,b8,b9,bQ⟩:=cB;obtain ⟨sa,sc,rfl⟩:=ay bQ;have aH:=ai ha;have aY:=ai b6;have aU:=ai bv;have a4:=ai bs;have bh:=ai b8;have bi:=ai b9;have bj:=ai bQ;have aI:=ak bW;obtain ⟨t0,t1,t2⟩:=bs.three;obtain ⟨aL,aN,aO⟩:=bv.three;have aQ:=bv.fz;have bA:=bs.fz;have bx:=bs.lt;have bz:w.heap.size<wr.heap.size:=aj;have n1:=ha.pos.rd.c1;have n2:=ha.pos.rd.c2;have bn:=ha.lt;unfold dg at aI;clear ha b6 bv bs b8 b9 bQ bW cG cH cI g0 cy cz cN cK
  cases h1:eqs (TT s j) (sg 125)
  ·simp only [h1,Bool.false_eq_true,aP] at aI;have bk:Hid (im w.heap.size b wr (.slice sa rs.length sc) rs):=ai ⟨l,bh.u,bi.u,bj.u⟩
   cases aX:c9 (TT s j)
   ·simp only [aX,Bool.false_and,Bool.false_eq_true,aP] at aI;have HK:=ai aI;clear aI;go_wp2_with fail;refine (ats b s j d _ _ (sg 125) _ ?_ ?_).mono ?_
    ·exact (eH aH)
    ·exact bF _ _ _ _ an
    rintro e w1 ⟨rfl,rfl⟩;rw [h1];go_wp2_with fail;refine (ij _ _ _ (kF s (K s j) ey aH.u.pos.le)).mono ?_;rintro e bf ⟨rfl,aG⟩;rw [show c9 (bT s (K s j))=false from aX];clear aX;have aR:=ai ((show At (wr.alloc en) b s j d from (eH aH)).below aG);have a6:=ai ((show But b w (wr.alloc en) from (cL aY)).trans (But.of_below aG));have aD:=(a4.u.alloc en).below aG;have R3:=(aU.u.alloc en).below aG;have a5:=ai ((ak bk).frame ((dC.below (b:=b) ((aw _ wr).alloc az en)).trans (dC.below aG)) aj);clear aG t0 t1 t2 aL aN aO aQ bA n1 n2 aH aY aU a4 bh bi bj bx bz bk bn;have aZ:=ai aD;have aW:=ai R3;obtain ⟨a9,bb,be⟩:=aD.three;obtain ⟨aL,aN,aO⟩:=R3.three;have aQ:=R3.fz;have zq:=aD.fz;have bM:=aD.lt;have bO:=R3.lt;have bn:=aR.u.lt;clear aD R3
    cases aK:kH (TT s) (PP s) j with
    |error e=>
     obtain ⟨bK,j4⟩:=e;have C:=ai (o0 b s j d bf hs aR.u bw);rw [aK] at C HK;clear aK;go_wp2_with fail;refine (ak C).mono ?_;rintro e w4 ⟨aE,bR,d4,rfl,⟨cF,cJ,bI,rfl,bP⟩,aJ⟩;have aC:=aW.u.but aE aj;have aA:=aZ.u.but aE aj;have B4:=ai (But.trans a6.u aE);have a7:=ai (a5.u.frame (dC.of_but aE) aj);have A4:=ai aJ;have yH:=ai aC;have NR:=ai aA;obtain ⟨y0,y1,y2⟩:=aC.three;obtain ⟨k0,k1,k2⟩:=aA.three;have zy:=aC.fz;have zk:=aA.fz;have bS:=aA.lt;have bU:w.heap.size<w4.heap.size:=aj;clear aJ aE aC aA a9 bb be aL aN aO aQ zq C;unfold bY
     rcases bP with rfl|⟨tx,vx,rfl⟩
     all_goals
      go_wp2;rw [<-ak HK];refine bc (v:=.tuple #[.agg #[.int .i64 (cC s (K s (i+1))),.string (bT s (K s (i+1))),.slice sa rs.length sc],bY bK]) (bC results114 _ _ w.heap.size _ 110 _ _ rfl rfl ?hB underlying110 rfl au) rfl ?post
      case hB=>exact ⟨_,(b4 yH),aS⟩
      case post=>exact ⟨(cL B4),_,d4,rfl,⟨_,_,_,_,_,rfl⟩,(eH A4)⟩
    |ok y=>
     obtain ⟨r4,j4⟩:=y;have C:=ai (o0 b s j d bf hs aR.u bw);have cA:=kI _ _ _ _ _ aK;rw [aK] at C HK;clear aK;go_wp2_with fail;refine (ak C).mono ?_;rintro e w4 ⟨aE,bR,rfl,⟨bI,rfl,a8⟩,aJ⟩;have aC:=aW.u.but aE aj;have aA:=aZ.u.but aE aj;have B4:=ai (But.trans a6.u aE);have a7:=ai (a5.u.frame (dC.of_but aE) aj);have A4:=ai aJ;have yH:=ai aC;have NR:=ai aA;obtain ⟨y0,y1,y2⟩:=aC.three;obtain ⟨k0,k1,k2⟩:=aA.three;have zy:=aC.fz;have zk:=aA.fz;have bS:=aA.lt;have bU:w.heap.size<w4.heap.size:=aj;clear aJ aE aC aA a9 bb be aL aN aO aQ zq C;obtain ⟨tx,vx,rfl⟩:=a8.isI;have V4:=ai a8;have cE:=A4.u.le;clear a8;obtain ⟨l4,e1,bp,bq⟩:=a7.u;have E1:=ai e1;have E2:=ai bp;have E3:=ai bq;clear e1 bp bq;unfold bY at*;go_wp2_with (at_builtin;go_must (refine bD _ rfl _ _ 108 rfl w.heap.size 159 i0 _ 3 40 underlying108 bV.u bX.u bZ.u b2.u rfl ar (.slice sa rs.length sc) rs.length (l4.flatMap j2) rfl ?hown ⟨w4.heap.size+1,0,none⟩ 1 1 (j2 (r4,.iface tx vx)) rfl rfl ?hnews ?hone ar ?h63 ?hbytes ?hbase (w4.heap.size+2) ?hH ?hrest))
     case hown=>exact (E3.u.alloc _).alloc _
     case hnews=>exact bE (B:=w4.heap.size+1) (cs:=#[.int .i64 r4.place,.string r4.name,.iface tx vx]) (t:=159) (fr:=(0,0)) (aB.new' (w4.alloc _) _ _ _ an)
     case hone=>
      intro u bt;simp [j2] at bt
      rcases bt with rfl|rfl|rfl<;>rfl
     case h63=>unfold maxLen;omega
     case hbytes=>omega
     case hbase=>simp;omega
     case hH=>simp
     case hrest=>
      exact PH
   cases cO:((rs.length:Int)==6)
   ·have br:(rs.length==6)=false:=by
     rw [bG] at*;omega
    simp only [aX,br,Bool.and_false,Bool.false_eq_true,aP] at aI;have HK:=ai aI;clear aI br;go_wp2_with fail;refine (ats b s j d _ _ (sg 125) _ ?_ ?_).mono ?_
    ·exact (eH aH)
    ·exact bF _ _ _ _ an
    rintro e w1 ⟨rfl,rfl⟩;rw [h1];go_wp2_with fail;refine (ij _ _ _ (kF s (K s j) ey aH.u.pos.le)).mono ?_;rintro e bf ⟨rfl,aG⟩;rw [show c9 (bT s (K s j))=true from aX];clear aX;have aR:=ai ((show At (wr.alloc en) b s j d from (eH aH)).below aG);have a6:=ai ((show But b w (wr.alloc en) from (cL aY)).trans (But.of_below aG));have aD:=(a4.u.alloc en).below aG;have R3:=(aU.u.alloc en).below aG;have a5:=ai ((ak bk).frame ((dC.below (b:=b) ((aw _ wr).alloc az en)).trans (dC.below aG)) aj);clear aG t0 t1 t2 aL aN aO aQ bA n1 n2 aH aY aU a4 bh bi bj bx bz bk bn;have aZ:=ai aD;have aW:=ai R3;obtain ⟨a9,bb,be⟩:=aD.three;obtain ⟨aL,aN,aO⟩:=R3.three;have aQ:=R3.fz;have zq:=aD.fz;have bM:=aD.lt;have bO:=R3.lt;have bn:=aR.u.lt;clear aD R3
    cases aK:kH (TT s) (PP s) j with
    |error e=>
     obtain ⟨bK,j4⟩:=e;have C:=ai (o0 b s j d bf hs aR.u bw);rw [aK] at C HK;clear aK;go_wp2_with fail;refine (ak C).mono ?_;rintro e w4 ⟨aE,bR,d4,rfl,⟨cF,cJ,bI,rfl,bP⟩,aJ⟩;have aC:=aW.u.but aE aj;have aA:=aZ.u.but aE aj;have B4:=ai (But.trans a6.u aE);have a7:=ai (a5.u.frame (dC.of_but aE) aj);have A4:=ai aJ;have yH:=ai aC;have NR:=ai aA;obtain ⟨y0,y1,y2⟩:=aC.three;obtain ⟨k0,k1,k2⟩:=aA.three;have zy:=aC.fz;have zk:=aA.fz;have bS:=aA.lt;have bU:w.heap.size<w4.heap.size:=aj;clear aJ aE aC aA a9 bb be aL aN aO aQ zq C;unfold bY
     rcases bP with rfl|⟨tx,vx,rfl⟩
     all_goals
      go_wp2;rw [<-ak HK];refine bc (v:=.tuple #[.agg #[.int .i64 (cC s (K s (i+1))),.string (bT s (K s (i+1))),.slice sa rs.length sc],bY bK]) (bC results114 _ _ w.heap.size _ 110 _ _ rfl rfl ?hB underlying110 rfl au) rfl ?post
      case hB=>exact ⟨_,(b4 yH),aS⟩
      case post=>exact ⟨(cL B4),_,d4,rfl,⟨_,_,_,_,_,rfl⟩,(eH A4)⟩
    |ok y=>
     obtain ⟨r4,j4⟩:=y;have C:=ai (o0 b s j d bf hs aR.u bw);have cA:=kI _ _ _ _ _ aK;rw [aK] at C HK;clear aK;go_wp2_with fail;refine (ak C).mono ?_;rintro e w4 ⟨aE,bR,rfl,⟨bI,rfl,a8⟩,aJ⟩;have aC:=aW.u.but aE aj;have aA:=aZ.u.but aE aj;have B4:=ai (But.trans a6.u aE);have a7:=ai (a5.u.frame (dC.of_but aE) aj);have A4:=ai aJ;have yH:=ai aC;have NR:=ai aA;obtain ⟨y0,y1,y2⟩:=aC.three;obtain ⟨k0,k1,k2⟩:=aA.three;have zy:=aC.fz;have zk:=aA.fz;have bS:=aA.lt;have bU:w.heap.size<w4.heap.size:=aj;clear aJ aE aC aA a9 bb be aL aN aO aQ zq C;obtain ⟨tx,vx,rfl⟩:=a8.isI;have V4:=ai a8;have cE:=A4.u.le;clear a8;obtain ⟨l4,e1,bp,bq⟩:=a7.u;have E1:=ai e1;have E2:=ai bp;have E3:=ai bq;clear e1 bp bq;unfold bY at*;go_wp2_with (at_builtin;go_must (refine bD _ rfl _ _ 108 rfl w.heap.size 159 i0 _ 3 40 underlying108 bV.u bX.u bZ.u b2.u rfl ar (.slice sa rs.length sc) rs.length (l4.flatMap j2) rfl ?hown ⟨w4.heap.size+1,0,none⟩ 1 1 (j2 (r4,.iface tx vx)) rfl rfl ?hnews ?hone ar ?h63 ?hbytes ?hbase (w4.heap.size+2) ?hH ?hrest))
     case hown=>exact (E3.u.alloc _).alloc _
     case hnews=>exact bE (B:=w4.heap.size+1) (cs:=#[.int .i64 r4.place,.string r4.name,.iface tx vx]) (t:=159) (fr:=(0,0)) (aB.new' (w4.alloc _) _ _ _ an)
     case hone=>
      intro u bt;simp [j2] at bt
      rcases bt with rfl|rfl|rfl<;>rfl
     case h63=>unfold maxLen;omega
     case hbytes=>omega
     case hbase=>simp;omega
     case hH=>simp
     case hrest=>
      exact PH
   have br:(rs.length==6)=true:=by
    rw [dL] at*;omega
   simp only [aX,br,pU,if_true] at aI;have HK:=ai aI;clear aI br;go_wp2_with fail;refine (ats b s j d _ _ (sg 125) _ ?_ ?_).mono ?_
   ·exact (eH aH)
   ·exact bF _ _ _ _ an
   rintro e w1 ⟨rfl,rfl⟩;rw [h1];go_wp2_with fail;refine (ij _ _ _ (kF s (K s j) ey aH.u.pos.le)).mono ?_;rintro e bf ⟨rfl,aG⟩;rw [show c9 (bT s (K s j))=true from aX];clear aX;have aR:=ai ((show At (wr.alloc en) b s j d from (eH aH)).below aG);have a6:=ai ((show But b w (wr.alloc en) from (cL aY)).trans (But.of_below aG));have aD:=(a4.u.alloc en).below aG;have R3:=(aU.u.alloc en).below aG;have a5:=ai ((ak bk).frame ((dC.below (b:=b) ((aw _ wr).alloc az en)).trans (dC.below aG)) aj);clear aG t0 t1 t2 aL aN aO aQ bA n1 n2 aH aY aU a4 bh bi bj bx bz bk bn;have aZ:=ai aD;have aW:=ai R3;obtain ⟨a9,bb,be⟩:=aD.three;obtain ⟨aL,aN,aO⟩:=R3.three;have aQ:=R3.fz;have zq:=aD.fz;have bM:=aD.lt;have bO:=R3.lt;have bn:=aR.u.lt;clear aD R3;go_wp2;rw [<-ak HK];refine bc (v:=.tuple #[.agg #[.int .i64 (cC s (K s (i+1))),.string (bT s (K s (i+1))),.slice sa rs.length sc],bY 3]) (bC results114 _ _ w.heap.size _ 110 _ _ rfl rfl ?hB underlying110 rfl au) rfl ?post
   case hB=>exact ⟨_,(b4 aW),aS⟩
   case post=>exact ⟨(cL a6),_,d,rfl,⟨_,_,_,_,_,rfl⟩,(eH aR)⟩
  simp only [h1,if_true] at aI;have HK:=ai aI;have cq:=ai h1;clear aI;go_wp2_with fail;refine (ats b s j d _ _ (sg 125) _ ?_ ?_).mono ?_
  ·exact (eH aH)
  ·exact bF _ _ _ _ an
  rintro e w1 ⟨rfl,rfl⟩;rw [h1];clear h1;go_wp2_with fail;have cj:=ai (show At (wr.alloc en) b s j d from (eH aH));have cm:=ai (show But b w (wr.alloc en) from (cL aY));have aD:=a4.u.alloc en;have R3:=aU.u.alloc en;have a5:=ai (im.frame (base:=w.heap.size) ⟨l,bh.u,bi.u,bj.u⟩ (dC.below (b:=b) ((aw _ wr).alloc az en)) aj);generalize wr.alloc en=W at*;clear t0 t1 t2 aL aN aO aQ bA n1 n2 aH aY aU a4 bh bi bj bx bz;have aZ:=ai aD;have aW:=ai R3;obtain ⟨a9,bb,be⟩:=aD.three;have zq:=aD.fz;have bM:=aD.lt;have bO:=R3.lt;clear aD R3;have cS:¬(w.heap.size+1=w.heap.size):=aj
  go_region_held3 (fun w'=>w'.cell? ⟨w.heap.size+1,0,none⟩=some (.int .i64 (cC s (K s (i+1))))/\w'.cell? ⟨w.heap.size+1,1,none⟩=some (.string (bT s (K s (i+1))))/\w'.cell? ⟨w.heap.size+1,2,none⟩=some (.slice sa rs.length sc)) (go_keep)
   ((go_at_call 169;refine (ik b s j d (sg 125) _ (ak bB) ?_ cq.u ar).mono ?_;(exact cj.u.drew);rintro e bf ⟨rfl,a3,bo⟩;have aA:=aZ.u.drew.but bo aj;obtain ⟨k0,k1,k2⟩:=aA.three;have aC:=aW.u.drew.but bo aj;obtain ⟨cV,cW,cY⟩:=aC.three;have zk:=aB.fz aC;have yH:=ai aC;have A4:=ai a3;have a7:=ai (a5.u.frame (dC.of_but (But.trans ((But.refl b W).drew) bo)) aj);have B4:=ai (But.trans cm.u.drew bo);clear aA aC a3 bo))
  go_wp2;rw [<-ak HK];refine bc (v:=.tuple #[.agg #[.int .i64 (cC s (K s (i+1))),.string (bT s (K s (i+1))),.slice sa rs.length sc],.nilIface]) (bC results114 _ _ w.heap.size _ 110 _ _ rfl rfl ?hB underlying110 rfl au) rfl ?post
  case hB=>exact ⟨_,(b4 yH),aS⟩
  case post=>exact ⟨(cL B4),_,rfl,⟨_,rfl,(a7.u.frame ((dC.set yH.u ar ar 0 _).trans ((dC.set (yH.u.set 0 _) ar ar 1 _).trans (dC.set ((yH.u.set 0 _).set 1 _) ar ar 2 _))) aj).base aj⟩,(eH A4)⟩
section
abbrev fk:Obj:=.cells #[.string ⟨#[]⟩] 9
abbrev fl:Obj:=.cells #[.string ⟨#[116,121,112,101]⟩] 9
abbrev bq(a0:Int)(a1:ae)(a2:Option Addr)(a3:Nat)(a4:Nat):Obj:=.cells #[.int .i64 a0,.string a1,.slice a2 a3 a4] 110
def PI (ag:aF:=by
 intro g5 aV w5 Z O ah au;have D:Below w4.heap.size w4 ((w4.alloc (bq t4.place t4.name va vn vc)).alloc (bq t4.place t4.name va vn vc)):=(ba.alloc az _).alloc an _;have Q:=NR.u.below D;have R:=yH.u.below D;have V:=A4.u.below D;have J:=(E3.u.alloc (bq t4.place t4.name va vn vc)).alloc (bq t4.place t4.name va vn vc);have Y:dC b w4 w5:=fun g cs T f ap U al=>(O.block g (cg (lt_of_some U) D.size) (eo J ((D.block g (lt_of_some U)).trans U) (by rcases al with rfl|rfl<;>decide))).trans (D.block g (lt_of_some U))
 have af:=ai (show ∀p∈l4++[(t4,Value.slice va vn vc)],im (b+1) b w5 p.2 p.1.rels from fun p C=>by
  rw [aT] at C
  rcases C with C|C
  ·exact (E2.u p C).frame Y az
  simp at C;subst C;exact V4.u.frame Y az)
 have I:=ai (show aB w5 (w.heap.size+1) #[.slice sa ts.length sc] 75 from (O.block _ Q.lt (own_ne J Q ar)).trans Q);have ad:=ai (show aB w5 w.heap.size #[.slice none 0 0] 75 from (O.block _ R.lt (own_ne J R ar)).trans R);have ab:=ai (V.grown O (own_ne J V.pos.rd.blk ar));have ac:=ai (But.grown (B4.u.trans (But.of_below D)) O (fun k ak=>(J.lt k ak).1));have ae:=ai Z;have am:=I.u.cell (o:=0) rfl;simp only [List.getElem_toArray,List.getElem_cons_zero] at am;have aw:=I.u.fz;have av:=I.u.lt;clear D Q R V J Y Z O ah y0 k0 zy zk;go_wp2
 go_roundg fu
 case measure=>omega
 case rel=>exact ⟨ts++[t4],j4,_,(cL ac),(eH ab),aj,aM,(b4 ad),I.u.set 0 _,⟨l4++[(t4,.slice va vn vc)],by simp [E1.u],fun p C=>(af.u p C).frame (dC.set I.u ar ar 0 _) az,by rw [List.length_append,cX];exact bJ ae.u I.u ar 0 _⟩,HK⟩):aF:=ag
def IZ (A:aF:=by
 obtain ⟨_,_,_,C⟩:=SP;obtain ⟨a,c,A⟩:=ay C;exact ⟨a,_,c,A⟩):aF:=A
theorem nf(b s i d w)(hs:s.size<=500)(A:At w b s i d)(C:d+4=4):
  Calls prog 114 #[.pointer (some ⟨b,0,none⟩)] w (Post b s d w (lX (TT s) (PP s) i) (Ez b) NT):=by
 unfold lX
 cases h:eqs (TT s i) jf
 ·simp only [h,Bool.false_eq_true,aP];exact NU b s i d w hs A h
 ·simp only [h,if_true]
  cases hn:b5 (TT s) (sg 123) (i+1) with
  |error e=>exact Gb b s i d w hs A h e.1 e.2 (ai hn)
  |ok y=>
   obtain ⟨⟨⟩,j⟩:=y;exact NV b s i d w hs A C h j (ai hn)
theorem Tryz.info110:(Tryz.prog.info? 110).map (fun i=>(i.zero,i.size,i.bytes))=some (some (.agg #[.int .i64 0,.string ⟨#[]⟩,.slice none 0 0]),3,48):=by kernel_rfl
def j5(p:Ty×ag):List ag:=[.int .i64 p.1.place,.string p.1.name,p.2]
def kf(base b:Nat)(w:af)(sv:ag)(ts:List Ty):Prop:=
 ∃l:List (Ty×ag),l.map Prod.fst=ts/\(∀p∈l,im (b+1) b w p.2 p.1.rels)/\w.ownsRow base 110 3 sv ts.length (l.flatMap j5)
def fy(b:Nat)(w w':af):Prop:=∀g cs T f,b+1<=g->w.heap[g]? =some (.cells cs T f)->(T=207\/T=159\/T=110)->w'.heap[g]? =w.heap[g]?
theorem fy.of_but(C:But b w w'):fy b w w':=fun g cs T f I D _=>C.block g (lt_of_some D) aj
theorem fy.below(h:Below w.heap.size w w'):fy b w w':=fy.of_but (But.of_below h)
theorem fy.r(h:fy b w w'):dC b w w':=fun g cs T f A C D=>h g cs T f A C (by rcases D with h|h;exact .inl h;exact .inr (.inl h))
theorem fy.trans(D:fy b x y)(k:fy b y z):fy b x z:=fun g cs T f h A C=>(k g cs T f h ((D g cs T f h A C).trans A) C).trans (D g cs T f h A C)
variable {g:Nat}
theorem fy.set(C:aB w g cs T)(h1:T≠207)(h2:T≠159)(D:T≠110)(o u):fy b w (w.setCell ⟨g,o,none⟩ u):=
 fun g' I T' f J A h=>dP _ _ _ _ (fun (e':g'=g)=>by
  subst e';unfold aB at C;rw [C] at A;simp at A;obtain ⟨_,rfl,_⟩:=A
  rcases h with h|h|h
  ·exact h1 h
  ·exact h2 h
  exact D h)
theorem kf.frame{base:Nat}(C:kf base b w sv ts)(k:fy b w w')(O:b+1<=base):kf base b w' sv ts:=by
 obtain ⟨l,h1,h2,D⟩:=C;exact ⟨l,h1,fun p J=>(h2 p J).frame k.r az,ax D fun g cs f Q I=>k g cs _ f aj I (.inr (.inr rfl))⟩
theorem kf.base{base:Nat}(h:kf base b w sv ts)(C:base'<=base):kf base' b w sv ts:=by
 obtain ⟨l,h1,h2,A⟩:=h;exact ⟨l,h1,h2,aX A C⟩
def RepM(b:Nat)(w:af)(ts:List Ty)(v:ag):Prop:=∃sv,v=.agg #[sv]/\kf (b+1) b w sv ts
def IsM(v:ag):Prop:=∃(a:Option Addr)(n c:Nat),v=.agg #[.slice a n c]
theorem n8(b s d w)(hs:s.size<=500)(bn:At w b s 0 d)(bg:d+4=4):
  Calls prog 72 #[.pointer (some ⟨b,0,none⟩)] w (Post b s d w (ej (TT s) (PP s)) (RepM b) IsM):=by
 obtain ⟨i0,hi,bR,bS,bT⟩:=bH Tryz.info110;have bA:=ai hi;have bI:=ai bR;have bK:=ai bS;have bL:=ai bT;clear hi bR bS bT;unfold ej;generalize bM:db (TT s) (PP s) 512 [] 0=bW;have bV:=ai bM;clear bM;have cb:=bn.lt;have b6:Hid (s.size<=maxLen):=ai ey;have bU:=ai bn;clear bn;go_enter func72,ntmps72;go_wp2_with fail
 go_loopg [6] 512 (fun k ce wr=>∃(ts:List Ty)(j:Nat)(sv:ag),But b w wr/\At wr b s j d/\512<=k+j/\ts.length<=j/\aB wr w.heap.size #[.slice none 0 0] 75/\
  aB wr (w.heap.size+1) #[sv] 75/\kf w.heap.size b wr sv ts/\Hid (db (TT s) (PP s) k ts j=bW))
 case atStart=>exact ⟨[],0,_,((But.refl b w).alloc _).alloc _,(eH bU),aj,an,(aB.new w _ _).alloc _,aB.new' (w.alloc _) _ _ _ an,⟨[],rfl,an,bN⟩,bV⟩
 case round=>
  obtain ⟨ts,j,sv,bQ,ha,b9,cd,bf,bb,bZ,bB⟩:=hrel;have b8:12<=gk:=by have:=ha.le;omega
  obtain ⟨fu,rfl⟩:∃f,gk=f+1:=⟨gk-1,aj⟩;obtain ⟨l,bp,br,bh⟩:=bZ;obtain ⟨sa,sc,rfl⟩:=ay bh;have aU:Hid (kf w.heap.size b wr (.slice sa ts.length sc) ts):=ai ⟨l,bp,br,bh⟩;have aE:=ai ha;have aQ:=ai bQ;have aN:=ai bf;have aX:=ai bb;have bi:=ai bp;have bj:=ai br;have bk:=ai bh;have aG:=ak bB;have t0:=bb.cell (o:=0) rfl;have aH:=bf.cell (o:=0) rfl;simp only [List.getElem_toArray,List.getElem_cons_zero] at t0 aH;have aK:=bf.fz;have bz:=bb.fz;have bs:=bb.lt;have bt:w.heap.size<wr.heap.size:=aj;have aZ:=ha.lt;unfold db at aG;clear ha bQ bf bb bp br bh bB
  cases h1:eqs (TT s j) em
  ·simp only [h1,Bool.false_eq_true,aP] at aG
   cases h2:eqs (TT s j) jf
   ·simp only [h2,Bool.false_and,Bool.false_eq_true,aP] at aG;have HK:=ai aG;clear aG;go_wp2_with fail;refine (ats b s j d _ _ em _ ?_ ?_).mono ?_
    ·exact (eH aE)
    ·exact bF _ _ _ _ an
    rintro e w1 ⟨rfl,rfl⟩;rw [h1];go_wp2_with fail;refine (ats b s j d _ _ jf _ ?_ ?_).mono ?_
    ·exact (eH aE)
    ·exact bF _ _ _ _ an
    rintro e w1 ⟨rfl,rfl⟩;rw [h2];have aJ:=ai (show At ((wr.alloc fk).alloc fl) b s j d from (eH aE));have aO:=ai (show But b w ((wr.alloc fk).alloc fl) from (cL aQ));have aD:=(aX.u.alloc fk).alloc fl;have R3:=(aN.u.alloc fk).alloc fl;have aY:=ai ((ak aU).frame (fy.below (b:=b) (((aw _ wr).alloc az fk).alloc an fl)) aj);generalize (wr.alloc fk).alloc fl=a5 at*;clear t0 aH aK bz aE aQ aN aX bi bj bk bs bt aU aZ;have aW:=ai aD;have aR:=ai R3;have aL:=aD.cell (o:=0) rfl;have aH:=R3.cell (o:=0) rfl;simp only [List.getElem_toArray,List.getElem_cons_zero] at aL aH;have aK:=R3.fz;have zq:=aD.fz;have bO:=aD.lt;have bP:=R3.lt;have aZ:=aJ.u.lt;clear aD R3
    cases aI:lX (TT s) (PP s) j with
    |error e=>
     obtain ⟨bl,j4⟩:=e;have C:=ai (nf b s j d a5 hs aJ.u bg);rw [aI] at C HK;clear aI;go_wp2_with fail;refine (ak C).mono ?_;rintro e w4 ⟨aA,bv,d4,rfl,⟨b3,b5,va,vn,vc,rfl⟩,a4⟩;have aC:=aR.u.but aA aj;have ax:=aW.u.but aA aj;have B4:=ai (But.trans aO.u aA);have a6:=ai (aY.u.frame (fy.of_but aA) aj);have A4:=ai a4;have yH:=ai aC;have NR:=ai ax;have y0:=aC.cell (o:=0) rfl;have k0:=ax.cell (o:=0) rfl;simp only [List.getElem_toArray,List.getElem_cons_zero] at y0 k0;have zy:=aC.fz;have zk:=ax.fz;have bw:=ax.lt;have bx:w.heap.size<w4.heap.size:=aj;clear a4 aA aC ax aL aH aK zq C;unfold bY;go_wp2;rw [<-ak HK];refine bc (v:=.tuple #[.agg #[.slice sa ts.length sc],bY bl]) (bC results72 _ _ w.heap.size _ 75 _ _ rfl rfl ?hB underlying75 rfl au) rfl ?post
     case hB=>exact ⟨_,(b4 yH),aS⟩
     case post=>exact ⟨(cL B4),_,d4,rfl,⟨_,_,_,rfl⟩,(eH A4)⟩
    |ok y=>
     obtain ⟨t4,j4⟩:=y;have C:=ai (nf b s j d a5 hs aJ.u bg);have bX:=n7 _ _ _ _ _ aI;rw [aI] at C HK;clear aI;go_wp2_with fail;refine (ak C).mono ?_;rintro e w4 ⟨aA,bv,rfl,⟨bu,rfl,SP⟩,a4⟩;have aC:=aR.u.but aA aj;have ax:=aW.u.but aA aj;have B4:=ai (But.trans aO.u aA);have a6:=ai (aY.u.frame (fy.of_but aA) aj);have A4:=ai a4;have yH:=ai aC;have NR:=ai ax;have y0:=aC.cell (o:=0) rfl;have k0:=ax.cell (o:=0) rfl;simp only [List.getElem_toArray,List.getElem_cons_zero] at y0 k0;have zy:=aC.fz;have zk:=ax.fz;have bw:=ax.lt;have bx:w.heap.size<w4.heap.size:=aj;clear a4 aA aC ax aL aH aK zq C;have bo:∃a n c,bu=.slice a n c:=by
      exact IZ
     obtain ⟨va,vn,vc,rfl⟩:=bo;have V4:=ai SP;have b2:=A4.u.le;clear SP;obtain ⟨l4,e1,a7,a8⟩:=a6.u;have E1:=ai e1;have E2:=ai a7;have E3:=ai a8;clear e1 a7 a8;go_wp2_with (at_builtin;go_must (refine bD _ rfl _ _ 73 rfl w.heap.size 110 i0 _ 3 48 underlying73 bA.u bI.u bK.u bL.u rfl ar (.slice sa ts.length sc) ts.length (l4.flatMap j5) rfl ?hown ⟨w4.heap.size+1,0,none⟩ 1 1 (j5 (t4,.slice va vn vc)) rfl rfl ?hnews ?hone ar ?h63 ?hbytes ?hbase (w4.heap.size+2) ?hH ?hrest))
     case hown=>exact (E3.u.alloc _).alloc _
     case hnews=>exact bE (B:=w4.heap.size+1) (cs:=#[.int .i64 t4.place,.string t4.name,.slice va vn vc]) (t:=110) (fr:=(0,0)) (aB.new' (w4.alloc _) _ _ _ an)
     case hone=>
      intro u be;simp [j5] at be
      rcases be with rfl|rfl|rfl<;>rfl
     case h63=>unfold maxLen;omega
     case hbytes=>omega
     case hbase=>simp;omega
     case hH=>simp
     case hrest=>
      exact PI
   cases b7:((ts.length:Int)==5)
   ·have a9:(ts.length==5)=false:=by
     rw [bG] at*;omega
    simp only [h2,a9,Bool.and_false,Bool.false_eq_true,aP] at aG;have HK:=ai aG;clear aG a9;go_wp2_with fail;refine (ats b s j d _ _ em _ ?_ ?_).mono ?_
    ·exact (eH aE)
    ·exact bF _ _ _ _ an
    rintro e w1 ⟨rfl,rfl⟩;rw [h1];go_wp2_with fail;refine (ats b s j d _ _ jf _ ?_ ?_).mono ?_
    ·exact (eH aE)
    ·exact bF _ _ _ _ an
    rintro e w1 ⟨rfl,rfl⟩;rw [h2];have aJ:=ai (show At ((wr.alloc fk).alloc fl) b s j d from (eH aE));have aO:=ai (show But b w ((wr.alloc fk).alloc fl) from (cL aQ));have aD:=(aX.u.alloc fk).alloc fl;have R3:=(aN.u.alloc fk).alloc fl;have aY:=ai ((ak aU).frame (fy.below (b:=b) (((aw _ wr).alloc az fk).alloc an fl)) aj);generalize (wr.alloc fk).alloc fl=a5 at*;clear t0 aH aK bz aE aQ aN aX bi bj bk bs bt aU aZ;have aW:=ai aD;have aR:=ai R3;have aL:=aD.cell (o:=0) rfl;have aH:=R3.cell (o:=0) rfl;simp only [List.getElem_toArray,List.getElem_cons_zero] at aL aH;have aK:=R3.fz;have zq:=aD.fz;have bO:=aD.lt;have bP:=R3.lt;have aZ:=aJ.u.lt;clear aD R3
    cases aI:lX (TT s) (PP s) j with
    |error e=>
     obtain ⟨bl,j4⟩:=e;have C:=ai (nf b s j d a5 hs aJ.u bg);rw [aI] at C HK;clear aI;go_wp2_with fail;refine (ak C).mono ?_;rintro e w4 ⟨aA,bv,d4,rfl,⟨b3,b5,va,vn,vc,rfl⟩,a4⟩;have aC:=aR.u.but aA aj;have ax:=aW.u.but aA aj;have B4:=ai (But.trans aO.u aA);have a6:=ai (aY.u.frame (fy.of_but aA) aj);have A4:=ai a4;have yH:=ai aC;have NR:=ai ax;have y0:=aC.cell (o:=0) rfl;have k0:=ax.cell (o:=0) rfl;simp only [List.getElem_toArray,List.getElem_cons_zero] at y0 k0;have zy:=aC.fz;have zk:=ax.fz;have bw:=ax.lt;have bx:w.heap.size<w4.heap.size:=aj;clear a4 aA aC ax aL aH aK zq C;unfold bY;go_wp2;rw [<-ak HK];refine bc (v:=.tuple #[.agg #[.slice sa ts.length sc],bY bl]) (bC results72 _ _ w.heap.size _ 75 _ _ rfl rfl ?hB underlying75 rfl au) rfl ?post
     case hB=>exact ⟨_,(b4 yH),aS⟩
     case post=>exact ⟨(cL B4),_,d4,rfl,⟨_,_,_,rfl⟩,(eH A4)⟩
    |ok y=>
     obtain ⟨t4,j4⟩:=y;have C:=ai (nf b s j d a5 hs aJ.u bg);have bX:=n7 _ _ _ _ _ aI;rw [aI] at C HK;clear aI;go_wp2_with fail;refine (ak C).mono ?_;rintro e w4 ⟨aA,bv,rfl,⟨bu,rfl,SP⟩,a4⟩;have aC:=aR.u.but aA aj;have ax:=aW.u.but aA aj;have B4:=ai (But.trans aO.u aA);have a6:=ai (aY.u.frame (fy.of_but aA) aj);have A4:=ai a4;have yH:=ai aC;have NR:=ai ax;have y0:=aC.cell (o:=0) rfl;have k0:=ax.cell (o:=0) rfl;simp only [List.getElem_toArray,List.getElem_cons_zero] at y0 k0;have zy:=aC.fz;have zk:=ax.fz;have bw:=ax.lt;have bx:w.heap.size<w4.heap.size:=aj;clear a4 aA aC ax aL aH aK zq C;have bo:∃a n c,bu=.slice a n c:=by
      exact IZ
     obtain ⟨va,vn,vc,rfl⟩:=bo;have V4:=ai SP;have b2:=A4.u.le;clear SP;obtain ⟨l4,e1,a7,a8⟩:=a6.u;have E1:=ai e1;have E2:=ai a7;have E3:=ai a8;clear e1 a7 a8;go_wp2_with (at_builtin;go_must (refine bD _ rfl _ _ 73 rfl w.heap.size 110 i0 _ 3 48 underlying73 bA.u bI.u bK.u bL.u rfl ar (.slice sa ts.length sc) ts.length (l4.flatMap j5) rfl ?hown ⟨w4.heap.size+1,0,none⟩ 1 1 (j5 (t4,.slice va vn vc)) rfl rfl ?hnews ?hone ar ?h63 ?hbytes ?hbase (w4.heap.size+2) ?hH ?hrest))
     case hown=>exact (E3.u.alloc _).alloc _
     case hnews=>exact bE (B:=w4.heap.size+1) (cs:=#[.int .i64 t4.place,.string t4.name,.slice va vn vc]) (t:=110) (fr:=(0,0)) (aB.new' (w4.alloc _) _ _ _ an)
     case hone=>
      intro u be;simp [j5] at be
      rcases be with rfl|rfl|rfl<;>rfl
     case h63=>unfold maxLen;omega
     case hbytes=>omega
     case hbase=>simp;omega
     case hH=>simp
     case hrest=>
      exact PI
   have a9:(ts.length==5)=true:=by
    rw [dL] at*;omega
   simp only [h2,a9,pU,if_true] at aG;have HK:=ai aG;clear aG a9;go_wp2_with fail;refine (ats b s j d _ _ em _ ?_ ?_).mono ?_
   ·exact (eH aE)
   ·exact bF _ _ _ _ an
   rintro e w1 ⟨rfl,rfl⟩;rw [h1];go_wp2_with fail;refine (ats b s j d _ _ jf _ ?_ ?_).mono ?_
   ·exact (eH aE)
   ·exact bF _ _ _ _ an
   rintro e w1 ⟨rfl,rfl⟩;rw [h2];have aJ:=ai (show At ((wr.alloc fk).alloc fl) b s j d from (eH aE));have aO:=ai (show But b w ((wr.alloc fk).alloc fl) from (cL aQ));have aD:=(aX.u.alloc fk).alloc fl;have R3:=(aN.u.alloc fk).alloc fl;have aY:=ai ((ak aU).frame (fy.below (b:=b) (((aw _ wr).alloc az fk).alloc an fl)) aj);generalize (wr.alloc fk).alloc fl=a5 at*;clear t0 aH aK bz aE aQ aN aX bi bj bk bs bt aU aZ;have aW:=ai aD;have aR:=ai R3;have aL:=aD.cell (o:=0) rfl;have aH:=R3.cell (o:=0) rfl;simp only [List.getElem_toArray,List.getElem_cons_zero] at aL aH;have aK:=R3.fz;have zq:=aD.fz;have bO:=aD.lt;have bP:=R3.lt;have aZ:=aJ.u.lt;clear aD R3;go_wp2;rw [<-ak HK];refine bc (v:=.tuple #[.agg #[.slice sa ts.length sc],bY 3]) (bC results72 _ _ w.heap.size _ 75 _ _ rfl rfl ?hB underlying75 rfl au) rfl ?post
   case hB=>exact ⟨_,(b4 aR),aS⟩
   case post=>exact ⟨(cL aO),_,d,rfl,⟨_,_,_,rfl⟩,(eH aJ)⟩
  simp only [h1,if_true] at aG;have HK:=ai aG;clear aG;go_wp2_with fail;refine (ats b s j d _ _ em _ ?_ ?_).mono ?_
  ·exact (eH aE)
  ·exact bF _ _ _ _ an
  rintro e w1 ⟨rfl,rfl⟩;rw [h1];go_wp2;rw [<-ak HK];refine bc (v:=.tuple #[.agg #[.slice sa ts.length sc],.nilIface]) (bC results72 _ _ w.heap.size _ 75 _ _ rfl rfl ?hB underlying75 rfl au) rfl ?post
  case hB=>exact ⟨_,(b4 aN),aS⟩
  case post=>exact ⟨(cL aQ),_,rfl,⟨_,rfl,((ak aU).frame ((fy.set aN.u ar ar ar 0 _).trans (fy.below (ba.alloc az _))) aj).base aj⟩,(eH aE)⟩
end
section
abbrev cq:=@List.flatMap_cons
abbrev k7:=@List.getElem?_eq_none
abbrev aI:=@Value.slice.injEq
abbrev cw:=@Addr.mk.injEq
abbrev kg:=@List.findIdx?_eq_some_iff_getElem
abbrev n9:=@List.findIdx?_eq_none_iff
def mw (h:aF:=by
 simpa using h):aF:=h
def I0 (I:aF:=by
 rintro e J ⟨rfl,hb2⟩;rw [He.u];exact I1):aF:=I
def I3 (D:aF:=by
 rintro e I ⟨rfl,A⟩;rw [He.u];have C:=ai (HB.u.trans (A.mono HB.u.size));clear A;go_wp2;go_ret;exact ⟨by rw [BK.u];rfl,C.u⟩):aF:=D
def I4 (C:aF:=by
 have D:=ai (EA x l (fun j C=>ak Gc j C aj));clear hb;go_wp2;go_ret;exact ⟨by rw [D.u];rfl,HB.u⟩):aF:=C
def I1 (D:aF:=by
 have C:=ai (HB.u.trans (hb2.mono HB.u.size));clear hb2;go_wp2;go_roundw
 case rel=>exact ⟨k+1,aj,by go_num,C.u,Hn⟩
 case measure=>simp [intOf];omega):aF:=D
abbrev E3:=Nat×ae×ag
def c3(e:E3):List ag:=[.int .i64 e.1,.string e.2.1,e.2.2]
def g4(w:af)(T:TypeId)(v:ag)(l:List E3):Prop:=w.ownsRow 0 T 3 v l.length (l.flatMap c3)
theorem vr(e):∀(l:List E3)(i:Nat),l[i]? =some e->(l.flatMap c3)[i*3]? =some (.int .i64 e.1)/\(l.flatMap c3)[i*3+1]? =some (.string e.2.1)/\(l.flatMap c3)[i*3+2]? =some e.2.2
 | [],i,h=>by simp at h
 |e'::l,0,h=>by simp at h;subst h;simp [cq,c3]
 |e'::l,i+1,h=>by
  have:=vr e l i mw;rw [cq,show (i+1)*3=i*3+3 by omega]
  simpa [c3] using this
variable {base:Nat}
theorem aZ(C:w.ownsRow base e size v n xs)(k u)(D:xs[k]? =some u):∃g c,v=.slice (some ⟨g,0,none⟩) n c/\w.cell? ⟨g,k,none⟩=some u:=by
 have I:k<xs.length:=by
  rcases ii k xs.length with C|C
  ·exact C
  rw [k7 C] at D;cases D
 rcases C with ⟨h1,⟨rfl,rfl⟩|⟨g,cap,R,rfl,Z,O,U,V,Y,J⟩⟩
 ·simp at h1;rw [h1] at I;simp at I
 refine ⟨g,cap,rfl,?_⟩;rw [<-J] at D;have Q:k<n*size:=aj;rw [List.getElem?_take_of_lt Q] at D
 simpa [World.cell?,O] using D
theorem g4.cell{l}(h:g4 w T v l)(i)(hi:i<l.length):
  ∃g c,v=.slice (some ⟨g,0,none⟩) l.length c/\w.cell? ⟨g,i*3,none⟩=some (.int .i64 l[i].1)/\w.cell? ⟨g,i*3+1,none⟩=some (.string l[i].2.1)/\w.cell? ⟨g,i*3+2,none⟩=some l[i].2.2:=by
 obtain ⟨h0,h1,h2⟩:=vr l[i] l i (aG hi);obtain ⟨g,c,rfl,e0⟩:=aZ h _ _ h0;obtain ⟨g',D,e',e1⟩:=aZ h _ _ h1;obtain ⟨J,I,A,C⟩:=aZ h _ _ h2;simp only [aI,aK,cw] at e' A;obtain ⟨⟨rfl,_⟩,_⟩:=e';obtain ⟨⟨rfl,_⟩,_⟩:=A;exact ⟨g,c,rfl,e0,e1,C⟩
theorem g4.below{l}(h:g4 w T v l)(k:Below w.heap.size w w'):g4 w' T v l:=
 ax h fun g cs f _ A=>k.block g (lt_of_some A)
def za(x:ae)(l:List E3):Int:=match l.findIdx? (fun e=>eqs e.2.1 x) with
 |some k=>k
 |none=> -1
theorem sF(x l)(k:Nat)(J:k<l.length)(D:eqs l[k].2.1 x=true)(C:∀j,(O:j<l.length)->j<k->eqs l[j].2.1 x=false):za x l=k:=by
 have:l.findIdx? (fun e=>eqs e.2.1 x)=some k:=by
  rw [kg];exact ⟨J,D,fun j I=>by rw [C j aj I];decide⟩
 simp [za,this]
theorem EA(x l)(h:∀j,(D:j<l.length)->eqs l[j].2.1 x=false):za x l= -1:=by
 have:l.findIdx? (fun e=>eqs e.2.1 x)=none:=by
  rw [n9];intro e A;obtain ⟨j,C,rfl⟩:=dn A;exact h j C
 simp [za,this]
theorem EB(p:Nat)(n x v)(A:Nat)(w)(h:aB w A #[.string x] 9):
  Calls prog 96 #[.agg #[.int .i64 p,.string n,v],.pointer (some ⟨A,0,none⟩)] w fun e w'=>e=.returned (.bool (eqs n x))/\Below w.heap.size w w':=by
 have c0:w.cell? ⟨A,0,none⟩=some (.string x):=h.cell rfl;have hl:=h.lt;have C:(n.toList==x.toList)=eqs n x:=by rw [aO,aO];rfl
 clear h;go_enter func96,ntmps96;go_wp2;go_ret;exact ⟨rfl,ba.alloc az _⟩
theorem qY(v l x q w)(ac:l.length<=1000)(O:g4 w 110 v l)(V:aB w q #[.string x] 9):
  Calls prog 95 #[v,.func (.func 96) #[] #[.pointer (some ⟨q,0,none⟩)]] w fun e w'=>e=.returned (.int .i64 (za x l))/\Below w.heap.size w w':=by
 obtain ⟨sa,sc,rfl⟩:=ay O;have H:=ai O;have Y:=ai V;clear O V;go_enter func95,ntmps95;go_wp2
 go_loopw [5,8] (fun u i wr=>∃k:Nat,k<=l.length/\i=.int .i64 k/\Below w.heap.size w wr/\Hid (∀j,(O:j<l.length)->j<k->eqs l[j].2.1 x=false)) (fun _ i _=>l.length-(intOf i).toNat)
 case atStart=>exact ⟨0,aj,rfl,aw _ _,ai (fun j e O=>aj)⟩
 case round=>
  obtain ⟨k,ab,rfl,hb,Gc⟩:=hrel;have HB:=ai hb
  by_cases U:k<l.length
  ·obtain ⟨g,c,e1,k0,k1,ad⟩:=(H.u.below hb).cell k U;simp only [aI] at e1;obtain ⟨rfl,_,rfl⟩:=e1;have R:=ai (Y.u.below hb);clear hb
   cases Q:eqs l[k].2.1 x
   ·have Hn:=ai (show ∀j,(O:j<l.length)->j<k+1->eqs l[j].2.1 x=false from fun j O Z=>by
     by_cases e:j=k
     ·subst e;exact Q
     exact ak Gc j O aj)
    have He:=ai Q;clear Q;go_wp2_with fail;refine (EB _ _ _ _ _ _ R.u).mono ?_;exact I0
   have BK:=ai (sF x l k U Q (ak Gc));have He:=ai Q;clear Q;go_wp2_with fail;refine (EB _ _ _ _ _ _ R.u).mono ?_;exact I3
  exact I4
theorem EC(p:Nat)(n x v)(A:Nat)(w)(h:aB w A #[.string x] 9):
  Calls prog 206 #[.agg #[.int .i64 p,.string n,v],.pointer (some ⟨A,0,none⟩)] w fun e w'=>e=.returned (.bool (eqs n x))/\Below w.heap.size w w':=by
 have c0:w.cell? ⟨A,0,none⟩=some (.string x):=h.cell rfl;have hl:=h.lt;have C:(n.toList==x.toList)=eqs n x:=by rw [aO,aO];rfl
 clear h;go_enter func206,ntmps206;go_wp2;go_ret;exact ⟨rfl,ba.alloc az _⟩
theorem qZ(v l x q w)(ac:l.length<=1000)(O:g4 w 159 v l)(V:aB w q #[.string x] 9):
  Calls prog 205 #[v,.func (.func 206) #[] #[.pointer (some ⟨q,0,none⟩)]] w fun e w'=>e=.returned (.int .i64 (za x l))/\Below w.heap.size w w':=by
 obtain ⟨sa,sc,rfl⟩:=ay O;have H:=ai O;have Y:=ai V;clear O V;go_enter func205,ntmps205;go_wp2
 go_loopw [5,8] (fun u i wr=>∃k:Nat,k<=l.length/\i=.int .i64 k/\Below w.heap.size w wr/\Hid (∀j,(O:j<l.length)->j<k->eqs l[j].2.1 x=false)) (fun _ i _=>l.length-(intOf i).toNat)
 case atStart=>exact ⟨0,aj,rfl,aw _ _,ai (fun j e O=>aj)⟩
 case round=>
  obtain ⟨k,ab,rfl,hb,Gc⟩:=hrel;have HB:=ai hb
  by_cases U:k<l.length
  ·obtain ⟨g,c,e1,k0,k1,ad⟩:=(H.u.below hb).cell k U;simp only [aI] at e1;obtain ⟨rfl,_,rfl⟩:=e1;have R:=ai (Y.u.below hb);clear hb
   cases Q:eqs l[k].2.1 x
   ·have Hn:=ai (show ∀j,(O:j<l.length)->j<k+1->eqs l[j].2.1 x=false from fun j O Z=>by
     by_cases e:j=k
     ·subst e;exact Q
     exact ak Gc j O aj)
    have He:=ai Q;clear Q;go_wp2_with fail;refine (EC _ _ _ _ _ _ R.u).mono ?_;exact I0
   have BK:=ai (sF x l k U Q (ak Gc));have He:=ai Q;clear Q;go_wp2_with fail;refine (EC _ _ _ _ _ _ R.u).mono ?_;exact I3
  exact I4
end
section
abbrev aN(a0:Option Addr)(a1:Nat)(a2:Nat):Obj:=.cells #[.slice a0 a1 a2] 75
abbrev iY(a0:ae):Obj:=.cells #[.string a0] 9
def I5 (A:aF:=by
 have:=H.u.cell k hk;obtain ⟨g',D,e1,C,_⟩:=this;simp only [aI,aK,cw] at e1;have:=cI C;omega):aF:=A
def gS(x:ae)(l:List E3):Option E3:=l.find? fun e=>eqs e.2.1 x
theorem vs{x l}(h:gS x l=none):za x l= -1:=by
 unfold gS at h;rw [List.find?_eq_none] at h;exact EA x l (fun j A=>by simpa using h l[j] (bu A))
theorem vt{x l y}(h:gS x l=some y):∃k,∃A:k<l.length,l[k]=y/\za x l=k:=by
 unfold gS at h;rw [List.find?_eq_some_iff_getElem] at h;obtain ⟨h1,k,A,h2,C⟩:=h;refine ⟨k,A,h2,sF x l k A (by rw [h2];exact h1) (fun j I D=>by simpa using C j D)⟩
variable {g:Nat}
theorem cI{o}(h:w.cell? ⟨g,o,none⟩=some v):g<w.heap.size:=by
 rcases ii g w.heap.size with k|k
 ·exact k
 simp [World.cell?,Array.getElem?_eq_none k] at h
theorem vu(v l x w)(Z:l.length<=1000)(D:g4 w 110 v l)(Y:gS x l=none):
  Calls prog 57 #[.agg #[v],.string x] w fun e w'=>e=.returned (.tuple #[.agg #[.int .i64 0,.string ⟨#[]⟩,.slice none 0 0],bY 5])/\Below w.heap.size w w':=by
 obtain ⟨sa,sc,rfl⟩:=ay D;have H:=ai D;have W0:Below w.heap.size w (((w.alloc (aN sa l.length sc)).alloc (iY x)).alloc cM):=((ba.alloc az _).alloc an _).alloc aM _;have C:=ai (qY (.slice sa l.length sc) l x (w.heap.size+1) _ Z (D.below W0) ((aB.new' (w.alloc (aN sa l.length sc)) #[.string x] 9 (w.heap.size+1) an).alloc cM));have M:=ai (((aB.new w #[.slice sa l.length sc] 75).alloc (iY x)).alloc cM);have V:=ai (aB.new' ((w.alloc (aN sa l.length sc)).alloc (iY x)) #[.int .i64 0,.string ⟨#[]⟩,.slice none 0 0] 110 (w.heap.size+2) an);have O:=ai W0;have R:=ai (D.below W0);clear D W0;go_enter func57,ntmps57;go_wp2_with fail;refine C.u.mono ?_;rintro e w1 ⟨rfl,I⟩;have J:=ai (V.u.below I);have U:=ai (M.u.below I);have ab:=ai (R.u.below I);have Q:=ai (O.u.trans (I.mono O.u.size));clear I C;obtain ⟨ad,ae,af⟩:=J.u.three;have ag:=J.u.fz;have ac:=J.u.lt;have mc:w1.cell? ⟨w.heap.size,0,none⟩=some (.slice sa l.length sc):=U.u.cell rfl;rw [vs Y];go_wp2;refine bc (v:=.tuple #[.agg #[.int .i64 0,.string ⟨#[]⟩,.slice none 0 0],bY 5]) (bC results57 _ _ (w.heap.size+2) _ 110 _ _ rfl rfl ?hB underlying110 rfl au) rfl ?post
 case hB=>exact ⟨_,(b4 J),aS⟩
 case post=>exact ⟨rfl,(bB Q)⟩
theorem oa(v l x w)(af:l.length<=1000)(I:g4 w 110 v l)(y)(R:gS x l=some y)(ag:∃a n c,y.2.2=.slice a n c):
  Calls prog 57 #[.agg #[v],.string x] w fun e w'=>e=.returned (.tuple #[.agg #[.int .i64 y.1,.string y.2.1,y.2.2],.nilIface])/\Below w.heap.size w w':=by
 obtain ⟨k,hk,U,hi⟩:=vt R;obtain ⟨sa,sc,rfl⟩:=ay I;have H:=ai I;have W0:Below w.heap.size w (((w.alloc (aN sa l.length sc)).alloc (iY x)).alloc cM):=((ba.alloc az _).alloc an _).alloc aM _;have C:=ai (qY (.slice sa l.length sc) l x (w.heap.size+1) _ af (I.below W0) ((aB.new' (w.alloc (aN sa l.length sc)) #[.string x] 9 (w.heap.size+1) an).alloc cM));have M:=ai (((aB.new w #[.slice sa l.length sc] 75).alloc (iY x)).alloc cM);have ad:=ai (aB.new' ((w.alloc (aN sa l.length sc)).alloc (iY x)) #[.int .i64 0,.string ⟨#[]⟩,.slice none 0 0] 110 (w.heap.size+2) an);have Q:=ai W0;have Z:=ai (I.below W0);clear I W0;go_enter func57,ntmps57;go_wp2_with fail;refine C.u.mono ?_;rintro e w1 ⟨rfl,J⟩;have O:=ai (ad.u.below J);have ac:=ai (M.u.below J);have ab:=ai (Z.u.below J);have Y:=ai (Q.u.trans (J.mono Q.u.size));clear J C;obtain ⟨ar,av,aw⟩:=O.u.three;have ax:=O.u.fz;have ap:=O.u.lt;have mc:w1.cell? ⟨w.heap.size,0,none⟩=some (.slice sa l.length sc):=ac.u.cell rfl;rw [hi];obtain ⟨g,c,e1,k0,k1,V⟩:=ab.u.cell k hk;simp only [aI] at e1;obtain ⟨rfl,_,rfl⟩:=e1;rw [U] at k0 k1 V;have al:=cI k0;have ae:¬(g=w.heap.size+2):=fun e=>by
  exact I5
 have am:¬(w.heap.size+2=g):=fun e=>ae e.symm
 clear hi U R;obtain ⟨p,n,u⟩:=y;simp only at k0 k1 V;obtain ⟨ah,ak,aj,rfl⟩:∃a n c,u=.slice a n c:=ag;go_wp2;refine bc (v:=.tuple #[.agg #[.int .i64 p,.string n,.slice ah ak aj],.nilIface]) (bC results57 _ _ (w.heap.size+2) _ 110 _ _ rfl rfl ?hB underlying110 rfl au) rfl ?post
 case hB=>exact ⟨_,(b4 O),aS⟩
 case post=>exact ⟨rfl,(bB Y)⟩
theorem vv(J:Nat)(nn v l x w)(ab:l.length<=1000)(D:g4 w 159 v l)(Z:gS x l=none):
  Calls prog 145 #[.agg #[.int .i64 J,.string nn,v],.string x] w fun e w'=>e=.returned (.tuple #[.agg #[.int .i64 0,.string ⟨#[]⟩,.nilIface],bY 5])/\Below w.heap.size w w':=by
 obtain ⟨sa,sc,rfl⟩:=ay D;have H:=ai D;have W0:Below w.heap.size w (((w.alloc (bq J nn sa l.length sc)).alloc (iY x)).alloc ce):=((ba.alloc az _).alloc an _).alloc aM _;have C:=ai (qZ (.slice sa l.length sc) l x (w.heap.size+1) _ ab (D.below W0) ((aB.new' (w.alloc (bq J nn sa l.length sc)) #[.string x] 9 (w.heap.size+1) an).alloc ce));have M:=ai (((aB.new w #[.int .i64 J,.string nn,.slice sa l.length sc] 110).alloc (iY x)).alloc ce);have Y:=ai (aB.new' ((w.alloc (bq J nn sa l.length sc)).alloc (iY x)) #[.int .i64 0,.string ⟨#[]⟩,.nilIface] 159 (w.heap.size+2) an);have Q:=ai W0;have U:=ai (D.below W0);clear D W0;go_enter func145,ntmps145;go_wp2_with fail;refine C.u.mono ?_;rintro e w1 ⟨rfl,I⟩;have O:=ai (Y.u.below I);have V:=ai (M.u.below I);have ac:=ai (U.u.below I);have R:=ai (Q.u.trans (I.mono Q.u.size));clear I C;obtain ⟨ae,af,ag⟩:=O.u.three;have ah:=O.u.fz;have ad:=O.u.lt;have mc:w1.cell? ⟨w.heap.size,2,none⟩=some (.slice sa l.length sc):=V.u.cell rfl;rw [vs Z];go_wp2;refine bc (v:=.tuple #[.agg #[.int .i64 0,.string ⟨#[]⟩,.nilIface],bY 5]) (bC results145 _ _ (w.heap.size+2) _ 159 _ _ rfl rfl ?hB underlying159 rfl au) rfl ?post
 case hB=>exact ⟨_,(b4 O),aS⟩
 case post=>exact ⟨rfl,(bB R)⟩
theorem ob(O:Nat)(nn v l x w)(ag:l.length<=1000)(I:g4 w 159 v l)(y)(U:gS x l=some y)(ah:∃a x,y.2.2=.iface a x):
  Calls prog 145 #[.agg #[.int .i64 O,.string nn,v],.string x] w fun e w'=>e=.returned (.tuple #[.agg #[.int .i64 y.1,.string y.2.1,y.2.2],.nilIface])/\Below w.heap.size w w':=by
 obtain ⟨k,hk,V,hi⟩:=vt U;obtain ⟨sa,sc,rfl⟩:=ay I;have H:=ai I;have W0:Below w.heap.size w (((w.alloc (bq O nn sa l.length sc)).alloc (iY x)).alloc ce):=((ba.alloc az _).alloc an _).alloc aM _;have C:=ai (qZ (.slice sa l.length sc) l x (w.heap.size+1) _ ag (I.below W0) ((aB.new' (w.alloc (bq O nn sa l.length sc)) #[.string x] 9 (w.heap.size+1) an).alloc ce));have M:=ai (((aB.new w #[.int .i64 O,.string nn,.slice sa l.length sc] 110).alloc (iY x)).alloc ce);have ae:=ai (aB.new' ((w.alloc (bq O nn sa l.length sc)).alloc (iY x)) #[.int .i64 0,.string ⟨#[]⟩,.nilIface] 159 (w.heap.size+2) an);have R:=ai W0;have ab:=ai (I.below W0);clear I W0;go_enter func145,ntmps145;go_wp2_with fail;refine C.u.mono ?_;rintro e w1 ⟨rfl,J⟩;have Q:=ai (ae.u.below J);have ad:=ai (M.u.below J);have ac:=ai (ab.u.below J);have Z:=ai (R.u.trans (J.mono R.u.size));clear J C;obtain ⟨ar,av,aw⟩:=Q.u.three;have ax:=Q.u.fz;have ap:=Q.u.lt;have mc:w1.cell? ⟨w.heap.size,2,none⟩=some (.slice sa l.length sc):=ad.u.cell rfl;rw [hi];obtain ⟨g,c,e1,k0,k1,Y⟩:=ac.u.cell k hk;simp only [aI] at e1;obtain ⟨rfl,_,rfl⟩:=e1;rw [V] at k0 k1 Y;have al:=cI k0;have af:¬(g=w.heap.size+2):=fun e=>by
  exact I5
 have am:¬(w.heap.size+2=g):=fun e=>af e.symm
 clear hi V U;obtain ⟨p,n,u⟩:=y;simp only at k0 k1 Y;obtain ⟨aj,ak,rfl⟩:∃a x,u=.iface a x:=ah;go_wp2;refine bc (v:=.tuple #[.agg #[.int .i64 p,.string n,.iface aj ak],.nilIface]) (bC results145 _ _ (w.heap.size+2) _ 159 _ _ rfl rfl ?hB underlying159 rfl au) rfl ?post
 case hB=>exact ⟨_,(b4 Q),aS⟩
 case post=>exact ⟨rfl,(bB Z)⟩
end
abbrev dw:=@List.drop_eq_getElem_cons
abbrev dS:=@List.take_succ_eq_append_getElem
abbrev gm:=@List.mem_of_find?_eq_some
abbrev dc:=@Below.grown
abbrev eK:=@List.drop_of_length_le
def ED (A:aF:=by
 have:=B2.u.size;simp;omega):aF:=A
def vw (A:aF:=by
 have:=HB.u.size;simp;omega):aF:=A
def lY (A:aF:=by
 rw [gj];omega):aF:=A
def I6 (C:aF:=by
 obtain ⟨D,I,J⟩:=E2.three;have O:=E2.lt;clear hb2 E2;go_wp2_with (go_at_call 73;refine (jy _ 4 _).mono ?_;rintro e Q ⟨rfl,rfl⟩);exact BT):aF:=C
def I7 (A:aF:=by
 obtain ⟨g',D,e1,C,_⟩:=H.u.cell k hlt;simp only [aI,aK,cw] at e1;obtain ⟨⟨rfl,_⟩,_⟩:=e1;exact cI C):aF:=A
def I8 (I:aF:=by
 have C:=ak HQ;rw [eK aj] at C;have D:=ai C;clear hb hbl ho C;go_wp2;go_ret;rw [<-D.u];exact ⟨rfl,HB.u⟩):aF:=I
def BU (C:aF:=by
 intro u A;simp [c3] at A
 rcases A with rfl|rfl|rfl<;>rfl):aF:=C
def BT (A:aF:=by
 go_ret;rw [<-mf.u];exact ⟨rfl,(bB B2)⟩):aF:=A
def gp(p c:Nat):ag:=.iface 147 (.agg #[.int .i64 p,bY c])
def gW(c:Nat):Option Nat->ag
 |none=> .nilIface
 |some p=>gp p c
theorem jy(p c:Nat)(w):Calls prog 73 #[.int .i64 p,.iface 134 (.int .i64 c)] w fun e w'=>e=.returned (gp p c)/\w'=w:=by
 go_enter func73,ntmps73;go_wp2;go_ret;exact ⟨rfl,rfl⟩
theorem I9(p:Nat)(w):Calls prog 73 #[.int .i64 p,.nilIface] w fun e w'=>e=.returned .nilIface/\w'=w:=by
 go_enter func73,ntmps73;go_wp2;go_ret;exact ⟨rfl,rfl⟩
def jz:List E3->List E3->Option Nat
 |_,[]=>none
 |ah,e::r=>if (gS e.2.1 ah).isSome then some e.1 else jz (ah++[e]) r
theorem zb(l:List E3)(k:Nat)(h:k<l.length):jz (l.take k) (l.drop k)=if (gS l[k].2.1 (l.take k)).isSome then some l[k].1 else jz (l.take (k+1)) (l.drop (k+1)):=by
 rw [dw h,jz,dS h]
theorem EE(l:List E3)(k:Nat)(h:k<l.length):(l.take (k+1)).flatMap c3=(l.take k).flatMap c3++c3 l[k]:=by
 rw [dS h,cX];simp
theorem BV(bf:Nat)(nn v l w)(bo:l.length<=1000)(ah:g4 w 159 v l)(aA:∀e∈l,∃t x,e.2.2=.iface t x):
  Calls prog 173 #[.agg #[.int .i64 bf,.string nn,v]] w fun e w'=>e=.returned (gW 4 (jz [] l))/\Below w.heap.size w w':=by
 obtain ⟨i0,hi,aH,aJ,aL⟩:=bH Tryz.info159;have aN:=ai hi;have aT:=ai aH;have aU:=ai aJ;have aW:=ai aL;clear hi aH aJ aL;obtain ⟨br,bs,rfl⟩:=ay ah;have H:=ai ah;have au:=ai aA;generalize R:jz [] l=a4;have aS:=ai R;clear R ah aA;go_enter func173,ntmps173;go_wp2_with fail
 go_loopw [11] (fun u wr=>∃(k:Nat)(sv:ag),k<=l.length/\u=.int .i64 k/\Below w.heap.size w wr/\aB wr (w.heap.size+1) #[.int .i64 0,.string ⟨#[]⟩,sv] 110/\wr.ownsRow w.heap.size 159 3 sv k ((l.take k).flatMap c3)/\Hid (jz (l.take k) (l.drop k)=a4)) (fun u _=>l.length-(intOf u).toNat)
 case atStart=>exact ⟨0,_,aj,rfl,(ba.alloc az _).alloc an _,aB.new' (w.alloc _) _ _ _ an,bN,aS⟩
 case round=>
  obtain ⟨k,sv,am,rfl,hb,hbl,ho,HQ⟩:=hrel;obtain ⟨sa,sc,rfl⟩:=ay ho;have HB:=ai hb;have aO:=ai hbl;have aR:=ai ho;obtain ⟨ad,b1,a5⟩:=hbl.three;have bj:=hbl.fz;have lb:=hbl.lt
  by_cases hlt:k<l.length
  ·have R:=ak HQ;rw [zb l k hlt] at R;obtain ⟨g,c,e1,k0,k1,a9⟩:=(H.u.below hb).cell k hlt;simp only [aI] at e1;obtain ⟨rfl,_,rfl⟩:=e1;obtain ⟨U,V,aD⟩:=au.u l[k] (bu hlt);have aw:=EE l k hlt;generalize a8:l[k]=y at*;obtain ⟨p,n,u⟩:=y;simp only at k0 k1 a9 aD R;subst aD;have bl:g<w.heap.size:=by
    exact I7
   have aY:=ai aw;have ap:=ai (show g4 (wr.alloc (cp p n U V)) 159 (.slice sa k sc) (l.take k) from by
    have:=aX (ho.alloc (cp p n U V)) (Nat.zero_le _);unfold g4;rw [gj,Nat.min_eq_left am];exact this)
   clear a8 aw hb hbl ho
   cases Z:gS n (l.take k) with
   |some y=>
    have aE:∃a x,y.2.2=.iface a x:=au.u y (List.mem_of_mem_take (gm Z));rw [Z] at R;simp only [Option.isSome_some,if_true] at R;have mf:=ai R;have C:=ai (ob 0 ⟨#[]⟩ (.slice sa k sc) (l.take k) n _ lY ap.u y Z aE);obtain ⟨bz,bx,bA⟩:=y;obtain ⟨bw,bC,aG⟩:=aE;simp only at aG;subst aG;clear R Z;go_wp2_with fail;refine C.u.mono ?_;rintro e Y ⟨rfl,hb2⟩;have B2:=ai ((HB.u.alloc HB.u.size (cp p n U V)).trans (hb2.mono vw));have E2:=(aB.new wr #[.int .i64 p,.string n,.iface U V] 159).below hb2;exact I6
   |none=>
    rw [Z] at R;simp only [Option.isSome_none,Bool.false_eq_true,aP] at R;have mf:=ai R;have C:=ai (vv 0 ⟨#[]⟩ (.slice sa k sc) (l.take k) n _ lY ap.u Z);clear R Z;go_wp2_with fail;refine C.u.mono ?_;rintro e Y ⟨rfl,hb2⟩;have af:Below wr.heap.size wr Y:=(ba.alloc az (cp p n U V)).trans (hb2.mono an);have B2:=ai (HB.u.trans (af.mono HB.u.size));have E2:=(aB.new wr #[.int .i64 p,.string n,.iface U V] 159).below hb2;obtain ⟨bg,bh,bi⟩:=E2.three;have bt:=E2.lt;have ac:=aO.u.below af;have aQ:=ai ac;obtain ⟨bb,bc,be⟩:=ac.three;have bk:=ac.fz;have bp:=ac.lt;have av:=ai (ax aR.u (fun g cs f _ a7=>af.block g (lt_of_some a7)));have bv:=HB.u.size;clear hb2 E2 ac af ad b1 a5 bj;unfold bY;go_wp2_with (at_builtin;go_must (refine bD _ rfl _ _ 108 rfl w.heap.size 159 i0 _ 3 40 underlying108 aN.u aT.u aU.u aW.u rfl ar (.slice sa k sc) k ((l.take k).flatMap c3) rfl ?hown ⟨Y.heap.size+1,0,none⟩ 1 1 (c3 (p,n,.iface U V)) rfl rfl ?hnews ?hone ar ?h63 ?hbytes ?hbase (Y.heap.size+2) ?hH ?hrest))
    case hown=>exact (av.u.alloc _).alloc _
    case hnews=>exact bE (B:=Y.heap.size+1) (cs:=#[.int .i64 p,.string n,.iface U V]) (t:=159) (fr:=(0,0)) (aB.new' (Y.alloc _) _ _ _ an)
    case hone=>
     exact BU
    case h63=>unfold maxLen;omega
    case hbytes=>omega
    case hbase=>simp;omega
    case hH=>simp
    case hrest=>
     intro g5 aV w5 aC al a6 bn;have ad:Below Y.heap.size Y ((Y.alloc ce).alloc (cp p n U V)):=(ba.alloc az _).alloc an _;have ae:=aQ.u.below ad;have ag:=(av.u.alloc ce).alloc (cp p n U V);have ab:=ai (show aB w5 (w.heap.size+1) #[.int .i64 0,.string ⟨#[]⟩,.slice sa k sc] 110 from (al.block _ ae.lt (own_ne ag ae ar)).trans ae);have aM:=ai (dc (B2.u.trans (ad.mono B2.u.size)) al ED (fun k am=>(ag.lt k am).1));have aZ:=ai aC;obtain ⟨bq,n1,n2⟩:=ab.u.three;have bF:=ab.u.fz;have nl:=ab.u.lt;clear ad ae ag aC al a6 bb bc be bk bg bh bi;go_wp2;go_roundw
     case rel=>exact ⟨k+1,_,aj,by go_num,(bB aM),ab.u.set 2 _,by rw [aY.u];exact bJ aZ.u ab.u ar 2 _,mf⟩
     case measure=>simp [intOf];omega
  exact I8
def PJ (A:aF:=by
 rw [<-Hy.u];exact bu hlt):aF:=A
def iB(inn:E3->Option Nat):List E3->List E3->Option Nat
 |_,[]=>none
 |ah,e::r=>if (gS e.2.1 ah).isSome then some e.1 else match inn e with
  |some p=>some p
  |none=>iB inn (ah++[e]) r
theorem xd(inn:E3->Option Nat)(l:List E3)(k:Nat)(h:k<l.length):iB inn (l.take k) (l.drop k)=if (gS l[k].2.1 (l.take k)).isSome then some l[k].1 else match inn l[k] with
  |some p=>some p
  |none=>iB inn (l.take (k+1)) (l.drop (k+1)):=by
 rw [dw h,iB,dS h]
theorem BX(inn v l w)(bL:l.length<=1000)(aG:g4 w 110 v l)(aS:∀e∈l,∃a n c,e.2.2=.slice a n c)(aT:∀e∈l,∀w',Below w.heap.size w w'->Calls prog 173 #[.agg #[.int .i64 e.1,.string e.2.1,e.2.2]] w' fun e' w''=>e'=.returned (gW 4 (inn e))/\Below w'.heap.size w' w''):
  Calls prog 115 #[.agg #[v]] w fun e w'=>e=.returned (gW 4 (iB inn [] l))/\Below w.heap.size w w':=by
 obtain ⟨i0,hi,a6,a7,a8⟩:=bH Tryz.info110;have bi:=ai hi;have bp:=ai a6;have br:=ai a7;have bs:=ai a8;clear hi a6 a7 a8;obtain ⟨bO,bP,rfl⟩:=ay aG;have H:=ai aG;have aN:=ai aS;have aO:=ai aT;generalize R:iB inn [] l=bx;have bo:=ai R;clear R aG aS aT;go_enter func115,ntmps115;go_wp2_with fail
 go_loopw [12] (fun u wr=>∃(k:Nat)(sv:ag),k<=l.length/\u=.int .i64 k/\Below w.heap.size w wr/\aB wr (w.heap.size+1) #[sv] 75/\wr.ownsRow w.heap.size 110 3 sv k ((l.take k).flatMap c3)/\Hid (iB inn (l.take k) (l.drop k)=bx)) (fun u _=>l.length-(intOf u).toNat)
 case atStart=>exact ⟨0,_,aj,rfl,(ba.alloc az _).alloc an _,aB.new' (w.alloc _) _ _ _ an,bN,bo⟩
 case round=>
  obtain ⟨k,sv,aL,rfl,hb,hbl,ho,HQ⟩:=hrel;obtain ⟨sa,sc,rfl⟩:=ay ho;have HB:=ai hb;have bj:=ai hbl;have bn:=ai ho;have ap:wr.cell? ⟨w.heap.size+1,0,none⟩=some (.slice sa k sc):=hbl.cell rfl;have bG:=hbl.fz;have lb:=hbl.lt
  by_cases hlt:k<l.length
  ·have R:=ak HQ;rw [xd inn l k hlt] at R;obtain ⟨g,c,e1,k0,k1,bA⟩:=(H.u.below hb).cell k hlt;simp only [aI] at e1;obtain ⟨rfl,_,rfl⟩:=e1;obtain ⟨U,V,Y,aW⟩:=aN.u l[k] (bu hlt);have aR:=EE l k hlt;generalize aY:l[k]=y at*;obtain ⟨p,n,u⟩:=y;simp only at k0 k1 bA aW R;subst aW;have bI:g<w.heap.size:=by
    exact I7
   have bt:=ai aR;have Hy:=ai aY;have aM:=ai (show g4 (wr.alloc (bq p n U V Y)) 110 (.slice sa k sc) (l.take k) from by
    have:=aX (ho.alloc (bq p n U V Y)) (Nat.zero_le _);unfold g4;rw [gj,Nat.min_eq_left aL];exact this)
   clear aY aR hb hbl ho
   cases ac:gS n (l.take k) with
   |some y=>
    have aZ:∃a n c,y.2.2=.slice a n c:=aN.u y (List.mem_of_mem_take (gm ac));rw [ac] at R;simp only [Option.isSome_some,if_true] at R;have mf:=ai R;have C:=ai (oa (.slice sa k sc) (l.take k) n _ lY aM.u y ac aZ);obtain ⟨bV,bU,bW⟩:=y;obtain ⟨bS,bT,bX,a5⟩:=aZ;simp only at a5;subst a5;clear R ac;go_wp2_with fail;refine C.u.mono ?_;rintro e ad ⟨rfl,hb2⟩;have B2:=ai ((HB.u.alloc HB.u.size (bq p n U V Y)).trans (hb2.mono vw));have E2:=(aB.new wr #[.int .i64 p,.string n,.slice U V Y] 110).below hb2;exact I6
   |none=>
    rw [ac] at R;simp only [Option.isSome_none,Bool.false_eq_true,aP] at R;have mf:=ai R;have C:=ai (vu (.slice sa k sc) (l.take k) n _ lY aM.u ac);clear R ac;go_wp2_with fail;refine C.u.mono ?_;rintro e ad ⟨rfl,hb2⟩;have aA:Below wr.heap.size wr ad:=(ba.alloc az (bq p n U V Y)).trans (hb2.mono an);have B2:=ai (HB.u.trans (aA.mono HB.u.size));have E2:=(aB.new wr #[.int .i64 p,.string n,.slice U V Y] 110).below hb2;obtain ⟨bb,bc,be⟩:=E2.three;have bF:=E2.lt;have bh:=ai E2;have al:=bj.u.below aA;have bk:=ai al;have a9:ad.cell? ⟨w.heap.size+1,0,none⟩=some (.slice sa k sc):=al.cell rfl;have bf:=al.fz;have bC:=al.lt;have bv:=ai (ax bn.u (fun g cs f _ aJ=>aA.block g (lt_of_some aJ)));have bQ:=HB.u.size;clear hb2 E2 al aA ap bG
    cases af:inn (p,n,.slice U V Y) with
    |some pq=>
     have ag:=ai (aO.u (p,n,.slice U V Y) PJ (ad.alloc cM) (B2.u.alloc B2.u.size _));rw [af] at ag;have ab:=mf.u;rw [af] at ab;have aD:=ai ab;clear af ab;unfold bY;go_wp2_with fail;refine (ak ag).mono ?_;rintro e Z ⟨rfl,au⟩;have ae:=ai ((B2.u.alloc B2.u.size cM).trans (au.mono ED));clear au;unfold gW gp;go_wp2;go_ret;rw [<-aD.u];exact ⟨rfl,ae.u⟩
    |none=>
     have ag:=ai (aO.u (p,n,.slice U V Y) PJ (ad.alloc cM) (B2.u.alloc B2.u.size _));rw [af] at ag;have ab:=mf.u;rw [af] at ab;have aD:=ai ab;clear af ab;unfold bY;go_wp2_with fail;refine (ak ag).mono ?_;rintro e Z ⟨rfl,au⟩;have av:Below ad.heap.size ad Z:=(ba.alloc az cM).trans (au.mono an);have ae:=ai (B2.u.trans (av.mono B2.u.size));have aC:=bh.u.below av;obtain ⟨bb,bc,be⟩:=aC.three;have bF:=aC.lt;have am:=bk.u.below av;have bl:=ai am;have a9:Z.cell? ⟨w.heap.size+1,0,none⟩=some (.slice sa k sc):=am.cell rfl;have bf:=am.fz;have bC:=am.lt;have aQ:=ai (ax bv.u (fun g cs f _ aJ=>av.block g (lt_of_some aJ)));have bR:=ae.u.size;clear au aC am av;unfold gW;go_wp2_with (at_builtin;go_must (refine bD _ rfl _ _ 73 rfl w.heap.size 110 i0 _ 3 48 underlying73 bi.u bp.u br.u bs.u rfl ar (.slice sa k sc) k ((l.take k).flatMap c3) rfl ?hown ⟨Z.heap.size,0,none⟩ 1 1 (c3 (p,n,.slice U V Y)) rfl rfl ?hnews ?hone ar ?h63 ?hbytes ?hbase (Z.heap.size+1) ?hH ?hrest))
     case hown=>exact aQ.u.alloc _
     case hnews=>exact bE (B:=Z.heap.size) (cs:=#[.int .i64 p,.string n,.slice U V Y]) (t:=110) (fr:=(0,0)) (aB.new Z _ _)
     case hone=>
      exact BU
     case h63=>unfold maxLen;omega
     case hbytes=>omega
     case hbase=>simp;omega
     case hH=>simp
     case hrest=>
      intro g5 aV w5 aU aH bz bK;have ap:Below Z.heap.size Z (Z.alloc (bq p n U V Y)):=ba.alloc az _;have aw:=bl.u.below ap;have aE:=aQ.u.alloc (bq p n U V Y);have ah:=ai (show aB w5 (w.heap.size+1) #[.slice sa k sc] 75 from (aH.block _ aw.lt (own_ne aE aw ar)).trans aw);have bg:=ai (dc (ae.u.trans (ap.mono ae.u.size)) aH (by have:=ae.u.size;simp;omega) (fun k aL=>(aE.lt k aL).1));have bw:=ai aU;have bM:w5.cell? ⟨w.heap.size+1,0,none⟩=some (.slice sa k sc):=ah.u.cell rfl;have bZ:=ah.u.fz;have nl:=ah.u.lt;clear ap aw aE aU aH bz a9 bf bb bc be;go_wp2;go_roundw
      case rel=>exact ⟨k+1,_,aj,by go_num,(bB bg),ah.u.set 0 _,by rw [bt.u];exact bJ bw.u ah.u ar 0 _,aD⟩
      case measure=>simp [intOf];omega
  exact I8
theorem dx(x w):(Instr.typeAssert (.iface 236 x) 157 236 true).run prog w=.ok (.tuple #[x,.bool true]) w:=by kernel_rfl
theorem sG(x w):(Instr.typeAssert (.iface 236 x) 157 244 true).run prog w=.ok (.tuple #[.agg #[.int .i64 0,.nilIface,.nilIface],.bool false]) w:=by kernel_rfl
theorem xe(x w):(Instr.typeAssert (.iface 236 x) 157 245 true).run prog w=.ok (.tuple #[.agg #[.int .i64 0,.nilIface,.nilIface],.bool false]) w:=by kernel_rfl
theorem o3(x w):(Instr.typeAssert (.iface 236 x) 157 246 true).run prog w=.ok (.tuple #[.agg #[.int .i64 0,.nilIface,.nilIface],.bool false]) w:=by kernel_rfl
theorem dY(x w):(Instr.typeAssert (.iface 238 x) 157 236 true).run prog w=.ok (.tuple #[.agg #[.int .i64 0,.slice none 0 0],.bool false]) w:=by kernel_rfl
theorem fA(x w):(Instr.typeAssert (.iface 238 x) 157 238 true).run prog w=.ok (.tuple #[x,.bool true]) w:=by kernel_rfl
theorem u0(x w):(Instr.typeAssert (.iface 238 x) 157 244 true).run prog w=.ok (.tuple #[.agg #[.int .i64 0,.nilIface,.nilIface],.bool false]) w:=by kernel_rfl
theorem zc(x w):(Instr.typeAssert (.iface 238 x) 157 245 true).run prog w=.ok (.tuple #[.agg #[.int .i64 0,.nilIface,.nilIface],.bool false]) w:=by kernel_rfl
theorem q0(x w):(Instr.typeAssert (.iface 238 x) 157 246 true).run prog w=.ok (.tuple #[.agg #[.int .i64 0,.nilIface,.nilIface],.bool false]) w:=by kernel_rfl
theorem dZ(x w):(Instr.typeAssert (.iface 240 x) 157 236 true).run prog w=.ok (.tuple #[.agg #[.int .i64 0,.slice none 0 0],.bool false]) w:=by kernel_rfl
theorem fB(x w):(Instr.typeAssert (.iface 240 x) 157 238 true).run prog w=.ok (.tuple #[.agg #[.int .i64 0,.string ⟨#[]⟩],.bool false]) w:=by kernel_rfl
theorem fC(x w):(Instr.typeAssert (.iface 240 x) 157 240 true).run prog w=.ok (.tuple #[x,.bool true]) w:=by kernel_rfl
theorem u1(x w):(Instr.typeAssert (.iface 240 x) 157 244 true).run prog w=.ok (.tuple #[.agg #[.int .i64 0,.nilIface,.nilIface],.bool false]) w:=by kernel_rfl
theorem zd(x w):(Instr.typeAssert (.iface 240 x) 157 245 true).run prog w=.ok (.tuple #[.agg #[.int .i64 0,.nilIface,.nilIface],.bool false]) w:=by kernel_rfl
theorem q1(x w):(Instr.typeAssert (.iface 240 x) 157 246 true).run prog w=.ok (.tuple #[.agg #[.int .i64 0,.nilIface,.nilIface],.bool false]) w:=by kernel_rfl
theorem cQ(x w):(Instr.typeAssert (.iface 244 x) 157 236 true).run prog w=.ok (.tuple #[.agg #[.int .i64 0,.slice none 0 0],.bool false]) w:=by kernel_rfl
theorem dD(x w):(Instr.typeAssert (.iface 244 x) 157 238 true).run prog w=.ok (.tuple #[.agg #[.int .i64 0,.string ⟨#[]⟩],.bool false]) w:=by kernel_rfl
theorem dE(x w):(Instr.typeAssert (.iface 244 x) 157 240 true).run prog w=.ok (.tuple #[.agg #[.int .i64 0,.int .i64 0,.string ⟨#[]⟩,.int .i64 0,.string ⟨#[]⟩],.bool false]) w:=by kernel_rfl
theorem dd(x w):(Instr.typeAssert (.iface 244 x) 157 244 true).run prog w=.ok (.tuple #[x,.bool true]) w:=by kernel_rfl
theorem sH(x w):(Instr.typeAssert (.iface 244 x) 157 246 true).run prog w=.ok (.tuple #[.agg #[.int .i64 0,.nilIface,.nilIface],.bool false]) w:=by kernel_rfl
theorem dy(x w):(Instr.typeAssert (.iface 245 x) 157 236 true).run prog w=.ok (.tuple #[.agg #[.int .i64 0,.slice none 0 0],.bool false]) w:=by kernel_rfl
theorem eR(x w):(Instr.typeAssert (.iface 245 x) 157 238 true).run prog w=.ok (.tuple #[.agg #[.int .i64 0,.string ⟨#[]⟩],.bool false]) w:=by kernel_rfl
theorem eS(x w):(Instr.typeAssert (.iface 245 x) 157 240 true).run prog w=.ok (.tuple #[.agg #[.int .i64 0,.int .i64 0,.string ⟨#[]⟩,.int .i64 0,.string ⟨#[]⟩],.bool false]) w:=by kernel_rfl
theorem dM(x w):(Instr.typeAssert (.iface 245 x) 157 244 true).run prog w=.ok (.tuple #[.agg #[.int .i64 0,.nilIface,.nilIface],.bool false]) w:=by kernel_rfl
theorem e5(x w):(Instr.typeAssert (.iface 245 x) 157 245 true).run prog w=.ok (.tuple #[x,.bool true]) w:=by kernel_rfl
theorem xf(x w):(Instr.typeAssert (.iface 245 x) 157 246 true).run prog w=.ok (.tuple #[.agg #[.int .i64 0,.nilIface,.nilIface],.bool false]) w:=by kernel_rfl
theorem dz(x w):(Instr.typeAssert (.iface 246 x) 157 236 true).run prog w=.ok (.tuple #[.agg #[.int .i64 0,.slice none 0 0],.bool false]) w:=by kernel_rfl
theorem eT(x w):(Instr.typeAssert (.iface 246 x) 157 238 true).run prog w=.ok (.tuple #[.agg #[.int .i64 0,.string ⟨#[]⟩],.bool false]) w:=by kernel_rfl
theorem eU(x w):(Instr.typeAssert (.iface 246 x) 157 240 true).run prog w=.ok (.tuple #[.agg #[.int .i64 0,.int .i64 0,.string ⟨#[]⟩,.int .i64 0,.string ⟨#[]⟩],.bool false]) w:=by kernel_rfl
theorem dN(x w):(Instr.typeAssert (.iface 246 x) 157 244 true).run prog w=.ok (.tuple #[.agg #[.int .i64 0,.nilIface,.nilIface],.bool false]) w:=by kernel_rfl
theorem e6(x w):(Instr.typeAssert (.iface 246 x) 157 245 true).run prog w=.ok (.tuple #[.agg #[.int .i64 0,.nilIface,.nilIface],.bool false]) w:=by kernel_rfl
theorem ea(x w):(Instr.typeAssert (.iface 246 x) 157 246 true).run prog w=.ok (.tuple #[x,.bool true]) w:=by kernel_rfl
def Ge (A:aF:=by
 first|exact aB.alloc (aB.new _ _ _) _|exact aB.new _ _ _):aF:=A
def NW:Array ag:=#[.int .i64 0,.nilIface,.nilIface]
theorem xg(p:Nat)(ta va tb vb w):
  Calls prog 212 #[.iface 244 (.agg #[.int .i64 p,.iface ta va,.iface tb vb])] w fun e w'=>e=.returned (.tuple #[.agg #[.int .i64 p,.iface ta va,.iface tb vb],.bool true])/\Below w.heap.size w w':=by
 have C:=ai (aw w.heap.size w);have f0:=dd;go_enter func212,ntmps212;go_wp2;refine bc (v:=.tuple #[.agg #[.int .i64 p,.iface ta va,.iface tb vb],.bool true]) (bC results212 _ _ w.heap.size _ 242 _ _ rfl rfl ?hB underlying242 rfl au) rfl ?post
 case hB=>exact ⟨_,Ge,aS⟩
 case post=>exact ⟨rfl,(bB C)⟩
theorem BZ(p:Nat)(ta va tb vb w):
  Calls prog 212 #[.iface 245 (.agg #[.int .i64 p,.iface ta va,.iface tb vb])] w fun e w'=>e=.returned (.tuple #[.agg #[.int .i64 p,.iface ta va,.iface tb vb],.bool true])/\Below w.heap.size w w':=by
 have C:=ai (aw w.heap.size w);have f0:=dM;have f1:=e5;go_enter func212,ntmps212;go_wp2;refine bc (v:=.tuple #[.agg #[.int .i64 p,.iface ta va,.iface tb vb],.bool true]) (bC results212 _ _ w.heap.size _ 242 _ _ rfl rfl ?hB underlying242 rfl au) rfl ?post
 case hB=>exact ⟨_,Ge,aS⟩
 case post=>exact ⟨rfl,(bB C)⟩
theorem B8(p:Nat)(ta va tb vb w):
  Calls prog 212 #[.iface 246 (.agg #[.int .i64 p,.iface ta va,.iface tb vb])] w fun e w'=>e=.returned (.tuple #[.agg #[.int .i64 p,.iface ta va,.iface tb vb],.bool true])/\Below w.heap.size w w':=by
 have C:=ai (aw w.heap.size w);have f0:=dN;have f1:=e6;have f2:=ea;go_enter func212,ntmps212;go_wp2;refine bc (v:=.tuple #[.agg #[.int .i64 p,.iface ta va,.iface tb vb],.bool true]) (bC results212 _ _ w.heap.size _ 242 _ _ rfl rfl ?hB underlying242 rfl au) rfl ?post
 case hB=>exact ⟨_,Ge,aS⟩
 case post=>exact ⟨rfl,(bB C)⟩
theorem B9(x w):
  Calls prog 212 #[.iface 236 x] w fun e w'=>e=.returned (.tuple #[.agg NW,.bool false])/\Below w.heap.size w w':=by
 have C:=ai (aw w.heap.size w);have f0:=sG;have f1:=xe;have f2:=o3;go_enter func212,ntmps212;go_wp2;refine bc (v:=.tuple #[.agg NW,.bool false]) (bC results212 _ _ w.heap.size _ 242 _ _ rfl rfl ?hB underlying242 rfl au) rfl ?post
 case hB=>exact ⟨_,Ge,aS⟩
 case post=>exact ⟨rfl,(bB C)⟩
theorem Gf(x w):
  Calls prog 212 #[.iface 238 x] w fun e w'=>e=.returned (.tuple #[.agg NW,.bool false])/\Below w.heap.size w w':=by
 have C:=ai (aw w.heap.size w);have f0:=u0;have f1:=zc;have f2:=q0;go_enter func212,ntmps212;go_wp2;refine bc (v:=.tuple #[.agg NW,.bool false]) (bC results212 _ _ w.heap.size _ 242 _ _ rfl rfl ?hB underlying242 rfl au) rfl ?post
 case hB=>exact ⟨_,Ge,aS⟩
 case post=>exact ⟨rfl,(bB C)⟩
theorem Gg(x w):
  Calls prog 212 #[.iface 240 x] w fun e w'=>e=.returned (.tuple #[.agg NW,.bool false])/\Below w.heap.size w w':=by
 have C:=ai (aw w.heap.size w);have f0:=u1;have f1:=zd;have f2:=q1;go_enter func212,ntmps212;go_wp2;refine bc (v:=.tuple #[.agg NW,.bool false]) (bC results212 _ _ w.heap.size _ 242 _ _ rfl rfl ?hB underlying242 rfl au) rfl ?post
 case hB=>exact ⟨_,Ge,aS⟩
 case post=>exact ⟨rfl,(bB C)⟩
section
abbrev aR:=@List.mem_singleton
abbrev aY:=@List.mem_map
abbrev sI(a0:Int)(a1:TypeId)(a2:ag)(a3:TypeId)(a4:ag):Obj:=.cells #[.int .i64 a0,.iface a1 a2,.iface a3 a4] 242
def Ja (aL:aF:=by
 have U:nN b w2 w3:=fun g cs f aO C=>(pV.block g (cg (lt_of_some C) b2.size) (eo SQ ((b2.block g (lt_of_some C)).trans C) ar)).trans (b2.block g (lt_of_some C))
 have Q:=ai (dc (B2.u.trans (b2.mono NY)) pV aM (fun k Z=>(SQ.lt k Z).1));have I:=Ul.u.below b2;have af:=(pV.block _ I.lt (own_ne SQ I ar)).trans I;have ad:=ai (show aB w3 w1.heap.size #[.int .i64 p,.iface ta va,.iface tb vb] 242 from af);obtain ⟨t0,t1,t2⟩:=ad.u.three;have tl:=ad.u.lt;have aI:=ai (bg.frame U _ _ Y2.u);have av:=ai (show ∀p∈lx,bg b w3 p.1 p.2 from fun p D=>bg.frame U _ _ (Um.u p D));have aG:=ai EF;have aT:=Q.u.size;clear SQ b2 U I af EF pV QZ s0 s1 s2;go_wp2_with fail;refine (Hy.u b _ _ aj aI.u aj).mono ?_;rintro e O ⟨aS,rfl,J,ab,ak,al,am⟩;obtain ⟨aK,aJ,rfl,an,ap⟩:=ze am py;have ac:=ai (Q.u.trans (J.mono Q.u.size));have az:=ai ak;have ae:=ai al;have aw:=ai (show ∀p∈lx,bg b O p.1 p.2 from fun p D=>(av.u p D).but (But.of_below J));have R:=ai (ax (w':=O) aG.u (fun g cs f _ C=>J.block g (lt_of_some C)));have aD:=ai an;have aE:=ai ap;have aQ:=ac.u.size;clear J ak al am an ap;go_wp2_with (at_builtin;go_must (refine bD _ rfl _ _ 301 rfl w.heap.size 157 i0 _ 1 16 underlying301 HI.u EG.u EH.u EI.u rfl ar _ _ _ rfl R.u ⟨aK,0,none⟩ (aA y).length aJ (ab.map Prod.snd) rfl aD.u aE.u ?hone py ?h63 ?hbytes ?hbase O.heap.size rfl ?hrest))
 case hone=>
  intro u ah;rw [aY] at ah;obtain ⟨q,aP,rfl⟩:=ah;obtain ⟨t,z,e⟩:=(ae.u q aP).isI;rw [e];rfl
 case h63=>unfold maxLen;omega
 case hbytes=>omega
 case hbase=>omega
 case hrest=>
  intro g5 aV w5 ag Y aN aR;have V:nN b O w5:=fun g cs f aO C=>Y.block g (lt_of_some C) (eo R.u C ar)
  have au:=ai (dc ac.u Y aQ (fun k Z=>(R.u.lt k Z).1));have ay:=ai (show ∀p∈lx,bg b w5 p.1 p.2 from fun p D=>bg.frame V _ _ (aw.u p D));have aC:=ai (show ∀p∈ab,bg b w5 p.1 p.2 from fun p D=>bg.frame V _ _ (ae.u p D));have aH:=ai ag;clear V ag Y aN;go_wp2;go_ret;exact ⟨.slice (some ⟨g5,0,none⟩) ((aA x).length+1+(aA y).length) aV,rfl,au.u,lx,ab,Un.u,az.u,ay.u,aC.u,by rw [List.append_assoc];exact aH.u⟩):aF:=aL
def aA:Ex->List Ex
 |⟨n,some x,some y⟩=>aA x++[⟨n,some x,some y⟩]++aA y
 |⟨n,none,r⟩=>[⟨n,none,r⟩]
 |⟨_,some _,none⟩=>[]
theorem oc:∀(e:Ex)(v:ag),bg b w e v->0<(aA e).length
 |⟨n,some x,some y⟩,v,h=>by simp [aA];omega
 |⟨n,none,r⟩,v,h=>by simp [aA]
 |⟨_,some _,none⟩,v,h=>h.elim
def PK(base b:Nat)(w:af)(sv:ag)(h:List Ex):Prop:=
 ∃l:List (Ex×ag),l.map Prod.fst=h/\(∀p∈l,bg b w p.1 p.2)/\w.ownsRow base 157 1 sv h.length (l.map Prod.snd)
theorem Tryz.info157:(Tryz.prog.info? 157).map (fun i=>(i.zero,i.size,i.bytes))=some (some .nilIface,1,16):=by kernel_rfl
def od(e:Ex):Prop:=∀(b:Nat)(v:ag)(w:af),b<w.heap.size->bg b w e v->(aA e).length<=1000->
 Calls prog 156 #[v] w fun e' w'=>∃sv,e'=.returned sv/\Below w.heap.size w w'/\PK w.heap.size b w' sv (aA e)
theorem oe(h:af)(x:ag)(T n:Nat)(A:n=h.heap.size):∀j u,[x][j]? =some u->(h.alloc (.cells #[x] T)).cell? ((⟨n,0,none⟩:Addr).add j)=some u:=
 bE (cs:=#[x]) (fr:=(0,0)) (aB.new' h #[x] T n A)
variable {base:Nat}
theorem ze(h:w.ownsRow base e 1 v n xs)(D:0<n):
  ∃g c,v=.slice (some ⟨g,0,none⟩) n c/\xs.length=n*1/\∀j u,xs[j]? =some u->w.cell? ((⟨g,0,none⟩:Addr).add j)=some u:=by
 obtain ⟨g,c,hv,_⟩:=h.form D;refine ⟨g,c,hv,h.1,fun j u I=> ?_⟩;obtain ⟨g',J,A,hc⟩:=aZ h j u I;rw [hv] at A;simp only [aI,aK,cw] at A;obtain ⟨⟨rfl,_⟩,_⟩:=A;have C:(⟨g,0,none⟩:Addr).add j=⟨g,j,none⟩:=by unfold Addr.add;split<;>simp_all
 rw [C];exact hc
theorem Ca(x w):
  Calls prog 156 #[.iface 236 x] w fun e' w'=>∃sv,e'=.returned sv/\Below w.heap.size w w'/\w'.ownsRow w.heap.size 157 1 sv 1 [.iface 236 x]:=by
 go_enter func156,ntmps156;go_wp2_with fail;refine (B9 x w).mono ?_;rintro e w1 ⟨rfl,C⟩;have D:=ai C;have sz:=C.size;clear C;unfold NW;go_wp2;go_ret;refine ⟨_,rfl,(bB D),rfl,.inr ⟨w1.heap.size+1,1,#[.iface 236 x],rfl,aj,?_,aj,by unfold maxLen;omega,rfl,rfl⟩⟩;exact aB.new' (w1.alloc _) _ _ _ an
theorem Gh(x w):
  Calls prog 156 #[.iface 238 x] w fun e' w'=>∃sv,e'=.returned sv/\Below w.heap.size w w'/\w'.ownsRow w.heap.size 157 1 sv 1 [.iface 238 x]:=by
 go_enter func156,ntmps156;go_wp2_with fail;refine (Gf x w).mono ?_;rintro e w1 ⟨rfl,C⟩;have D:=ai C;have sz:=C.size;clear C;unfold NW;go_wp2;go_ret;refine ⟨_,rfl,(bB D),rfl,.inr ⟨w1.heap.size+1,1,#[.iface 238 x],rfl,aj,?_,aj,by unfold maxLen;omega,rfl,rfl⟩⟩;exact aB.new' (w1.alloc _) _ _ _ an
theorem Gi(x w):
  Calls prog 156 #[.iface 240 x] w fun e' w'=>∃sv,e'=.returned sv/\Below w.heap.size w w'/\w'.ownsRow w.heap.size 157 1 sv 1 [.iface 240 x]:=by
 go_enter func156,ntmps156;go_wp2_with fail;refine (Gg x w).mono ?_;rintro e w1 ⟨rfl,C⟩;have D:=ai C;have sz:=C.size;clear C;unfold NW;go_wp2;go_ret;refine ⟨_,rfl,(bB D),rfl,.inr ⟨w1.heap.size+1,1,#[.iface 240 x],rfl,aj,?_,aj,by unfold maxLen;omega,rfl,rfl⟩⟩;exact aB.new' (w1.alloc _) _ _ _ an
theorem xh(p:Nat)(x y)(bc:od x)(be:od y)(b:Nat)(vx vy w)(bw:b<w.heap.size)(a7:bg b w x vx)(a5:bg b w y vy)(bz:(aA x).length+1+(aA y).length<=1000):
  Calls prog 156 #[.iface 244 (.agg #[.int .i64 p,vx,vy])] w fun e' w'=>∃sv,e'=.returned sv/\Below w.heap.size w w'/\
   ∃lx a6:List (Ex×ag),lx.map Prod.fst=aA x/\a6.map Prod.fst=aA y/\(∀p∈lx,bg b w' p.1 p.2)/\(∀p∈a6,bg b w' p.1 p.2)/\
    w'.ownsRow w.heap.size 157 1 sv ((aA x).length+1+(aA y).length) (lx.map Prod.snd++[.iface 244 (.agg #[.int .i64 p,vx,vy])]++a6.map Prod.snd):=by
 obtain ⟨i0,hi,bf,bh,bi⟩:=bH Tryz.info157;have HI:=ai hi;have EG:=ai bf;have EH:=ai bh;have EI:=ai bi;clear hi bf bh bi;have py:=oc _ _ a5;obtain ⟨ta,va,rfl⟩:=a7.isI;obtain ⟨tb,vb,rfl⟩:=a5.isI;have bn:=ai bc;have Hy:=ai be;have bo:=ai a7;have bp:=ai a5;clear bc be a7 a5;go_enter func156,ntmps156;go_wp2_with fail;refine (xg p ta va tb vb w).mono ?_;rintro e w1 ⟨rfl,aW⟩;have b1:Below w.heap.size w (w1.alloc (sI p ta va tb vb)):=aW.alloc aW.size _;have a8:=ai b1;have bq:=ai (aB.new w1 #[.int .i64 p,.iface ta va,.iface tb vb] 242);have br:=ai (bo.u.but (But.of_below b1));have bs:=ai (bp.u.but (But.of_below b1));have bB:=aW.size;clear aW b1;go_wp2_with fail;refine (bn.u b _ _ aM br.u aj).mono ?_;rintro e w2 ⟨bt,rfl,aZ,lx,bj,bk,bl⟩;have B2:=ai (a8.u.trans (aZ.mono a8.u.size));have aU:=bq.u.below aZ;have Ul:=ai aU;obtain ⟨s0,s1,s2⟩:=aU.three;have bA:=aU.lt;have Y2:=ai (bs.u.but (But.of_below aZ));have Un:=ai bj;have Um:=ai bk;have a9:=ai (aX bl (show w.heap.size<=_ by simp;omega));have NY:=B2.u.size;clear aZ aU bj bk bl;go_wp2_with (at_builtin;go_must (refine bD _ rfl _ _ 301 rfl w.heap.size 157 i0 _ 1 16 underlying301 HI.u EG.u EH.u EI.u rfl ar bt (aA x).length (lx.map Prod.snd) rfl ?hown ⟨w2.heap.size,0,none⟩ 1 1 [.iface 244 (.agg #[.int .i64 p,.iface ta va,.iface tb vb])] rfl rfl ?hnews ?hone ar ?h63 ?hbytes ?hbase (w2.heap.size+1) ?hH ?hrest))
 case hown=>exact a9.u.alloc _
 case hnews=>exact oe w2 _ _ _ rfl
 case hone=>intro u bb;simp at bb;subst bb;rfl
 case h63=>unfold maxLen;omega
 case hbytes=>omega
 case hbase=>simp;omega
 case hH=>simp
 case hrest=>
  intro bv bu w3 EF pV QZ bx;have SQ:=a9.u.alloc (.cells #[.iface 244 (.agg #[.int .i64 p,.iface ta va,.iface tb vb])] 157);have b2:Below w2.heap.size w2 (w2.alloc (.cells #[.iface 244 (.agg #[.int .i64 p,.iface ta va,.iface tb vb])] 157)):=ba.alloc az _;exact Ja
theorem Cb(p:Nat)(x y)(bc:od x)(be:od y)(b:Nat)(vx vy w)(bw:b<w.heap.size)(a7:bg b w x vx)(a5:bg b w y vy)(bz:(aA x).length+1+(aA y).length<=1000):
  Calls prog 156 #[.iface 245 (.agg #[.int .i64 p,vx,vy])] w fun e' w'=>∃sv,e'=.returned sv/\Below w.heap.size w w'/\
   ∃lx a6:List (Ex×ag),lx.map Prod.fst=aA x/\a6.map Prod.fst=aA y/\(∀p∈lx,bg b w' p.1 p.2)/\(∀p∈a6,bg b w' p.1 p.2)/\
    w'.ownsRow w.heap.size 157 1 sv ((aA x).length+1+(aA y).length) (lx.map Prod.snd++[.iface 245 (.agg #[.int .i64 p,vx,vy])]++a6.map Prod.snd):=by
 obtain ⟨i0,hi,bf,bh,bi⟩:=bH Tryz.info157;have HI:=ai hi;have EG:=ai bf;have EH:=ai bh;have EI:=ai bi;clear hi bf bh bi;have py:=oc _ _ a5;obtain ⟨ta,va,rfl⟩:=a7.isI;obtain ⟨tb,vb,rfl⟩:=a5.isI;have bn:=ai bc;have Hy:=ai be;have bo:=ai a7;have bp:=ai a5;clear bc be a7 a5;go_enter func156,ntmps156;go_wp2_with fail;refine (BZ p ta va tb vb w).mono ?_;rintro e w1 ⟨rfl,aW⟩;have b1:Below w.heap.size w (w1.alloc (sI p ta va tb vb)):=aW.alloc aW.size _;have a8:=ai b1;have bq:=ai (aB.new w1 #[.int .i64 p,.iface ta va,.iface tb vb] 242);have br:=ai (bo.u.but (But.of_below b1));have bs:=ai (bp.u.but (But.of_below b1));have bB:=aW.size;clear aW b1;go_wp2_with fail;refine (bn.u b _ _ aM br.u aj).mono ?_;rintro e w2 ⟨bt,rfl,aZ,lx,bj,bk,bl⟩;have B2:=ai (a8.u.trans (aZ.mono a8.u.size));have aU:=bq.u.below aZ;have Ul:=ai aU;obtain ⟨s0,s1,s2⟩:=aU.three;have bA:=aU.lt;have Y2:=ai (bs.u.but (But.of_below aZ));have Un:=ai bj;have Um:=ai bk;have a9:=ai (aX bl (show w.heap.size<=_ by simp;omega));have NY:=B2.u.size;clear aZ aU bj bk bl;go_wp2_with (at_builtin;go_must (refine bD _ rfl _ _ 301 rfl w.heap.size 157 i0 _ 1 16 underlying301 HI.u EG.u EH.u EI.u rfl ar bt (aA x).length (lx.map Prod.snd) rfl ?hown ⟨w2.heap.size,0,none⟩ 1 1 [.iface 245 (.agg #[.int .i64 p,.iface ta va,.iface tb vb])] rfl rfl ?hnews ?hone ar ?h63 ?hbytes ?hbase (w2.heap.size+1) ?hH ?hrest))
 case hown=>exact a9.u.alloc _
 case hnews=>exact oe w2 _ _ _ rfl
 case hone=>intro u bb;simp at bb;subst bb;rfl
 case h63=>unfold maxLen;omega
 case hbytes=>omega
 case hbase=>simp;omega
 case hH=>simp
 case hrest=>
  intro bv bu w3 EF pV QZ bx;have SQ:=a9.u.alloc (.cells #[.iface 245 (.agg #[.int .i64 p,.iface ta va,.iface tb vb])] 157);have b2:Below w2.heap.size w2 (w2.alloc (.cells #[.iface 245 (.agg #[.int .i64 p,.iface ta va,.iface tb vb])] 157)):=ba.alloc az _;exact Ja
theorem Cc(p:Nat)(x y)(bc:od x)(be:od y)(b:Nat)(vx vy w)(bw:b<w.heap.size)(a7:bg b w x vx)(a5:bg b w y vy)(bz:(aA x).length+1+(aA y).length<=1000):
  Calls prog 156 #[.iface 246 (.agg #[.int .i64 p,vx,vy])] w fun e' w'=>∃sv,e'=.returned sv/\Below w.heap.size w w'/\
   ∃lx a6:List (Ex×ag),lx.map Prod.fst=aA x/\a6.map Prod.fst=aA y/\(∀p∈lx,bg b w' p.1 p.2)/\(∀p∈a6,bg b w' p.1 p.2)/\
    w'.ownsRow w.heap.size 157 1 sv ((aA x).length+1+(aA y).length) (lx.map Prod.snd++[.iface 246 (.agg #[.int .i64 p,vx,vy])]++a6.map Prod.snd):=by
 obtain ⟨i0,hi,bf,bh,bi⟩:=bH Tryz.info157;have HI:=ai hi;have EG:=ai bf;have EH:=ai bh;have EI:=ai bi;clear hi bf bh bi;have py:=oc _ _ a5;obtain ⟨ta,va,rfl⟩:=a7.isI;obtain ⟨tb,vb,rfl⟩:=a5.isI;have bn:=ai bc;have Hy:=ai be;have bo:=ai a7;have bp:=ai a5;clear bc be a7 a5;go_enter func156,ntmps156;go_wp2_with fail;refine (B8 p ta va tb vb w).mono ?_;rintro e w1 ⟨rfl,aW⟩;have b1:Below w.heap.size w (w1.alloc (sI p ta va tb vb)):=aW.alloc aW.size _;have a8:=ai b1;have bq:=ai (aB.new w1 #[.int .i64 p,.iface ta va,.iface tb vb] 242);have br:=ai (bo.u.but (But.of_below b1));have bs:=ai (bp.u.but (But.of_below b1));have bB:=aW.size;clear aW b1;go_wp2_with fail;refine (bn.u b _ _ aM br.u aj).mono ?_;rintro e w2 ⟨bt,rfl,aZ,lx,bj,bk,bl⟩;have B2:=ai (a8.u.trans (aZ.mono a8.u.size));have aU:=bq.u.below aZ;have Ul:=ai aU;obtain ⟨s0,s1,s2⟩:=aU.three;have bA:=aU.lt;have Y2:=ai (bs.u.but (But.of_below aZ));have Un:=ai bj;have Um:=ai bk;have a9:=ai (aX bl (show w.heap.size<=_ by simp;omega));have NY:=B2.u.size;clear aZ aU bj bk bl;go_wp2_with (at_builtin;go_must (refine bD _ rfl _ _ 301 rfl w.heap.size 157 i0 _ 1 16 underlying301 HI.u EG.u EH.u EI.u rfl ar bt (aA x).length (lx.map Prod.snd) rfl ?hown ⟨w2.heap.size,0,none⟩ 1 1 [.iface 246 (.agg #[.int .i64 p,.iface ta va,.iface tb vb])] rfl rfl ?hnews ?hone ar ?h63 ?hbytes ?hbase (w2.heap.size+1) ?hH ?hrest))
 case hown=>exact a9.u.alloc _
 case hnews=>exact oe w2 _ _ _ rfl
 case hone=>intro u bb;simp at bb;subst bb;rfl
 case h63=>unfold maxLen;omega
 case hbytes=>omega
 case hbase=>simp;omega
 case hH=>simp
 case hrest=>
  intro bv bu w3 EF pV QZ bx;have SQ:=a9.u.alloc (.cells #[.iface 246 (.agg #[.int .i64 p,.iface ta va,.iface tb vb])] 157);have b2:Below w2.heap.size w2 (w2.alloc (.cells #[.iface 246 (.agg #[.int .i64 p,.iface ta va,.iface tb vb])] 157)):=ba.alloc az _;exact Ja
theorem ng(e):od e:=by
 induction e using Ex.ind with
 |h0 n r=>
  intro b v w I D hn;have key:∀{v:ag},(Calls prog 156 #[v] w fun e' w'=>∃sv,e'=.returned sv/\Below w.heap.size w w'/\w'.ownsRow w.heap.size 157 1 sv 1 [v])->bg b w ⟨n,none,r⟩ v->Calls prog 156 #[v] w fun e' w'=>∃sv,e'=.returned sv/\Below w.heap.size w w'/\PK w.heap.size b w' sv (aA ⟨n,none,r⟩):=by
   intro v hc ad;refine hc.mono ?_;rintro e' w' ⟨sv,h1,h2,O⟩;exact ⟨sv,h1,h2,[(⟨n,none,r⟩,v)],rfl,fun p h=>by simp at h;subst h;exact ad.but (But.of_below h2),O⟩
  have U:=D
  rcases D with ⟨h1,sv,rfl,O⟩|⟨h1,rfl⟩|⟨h1,rfl⟩
  ·exact key (Ca _ w) U
  ·exact key (Gh _ w) U
  exact key (Gi _ w) U
 |h1 n a=>intro b v w I D hn;exact D.elim
 |h2 n x y hx hy=>
  intro b v w I D hn;obtain ⟨A,C,rfl,Q,R⟩:=D;have V:(aA x).length+1+(aA y).length<=1000:=by simp [aA] at hn;omega
  have key:(Calls prog 156 #[.iface (gA n.kind) (.agg #[.int .i64 n.place,A,C])] w fun e' w'=>∃sv,e'=.returned sv/\Below w.heap.size w w'/\
   ∃lx J:List (Ex×ag),lx.map Prod.fst=aA x/\J.map Prod.fst=aA y/\(∀p∈lx,bg b w' p.1 p.2)/\(∀p∈J,bg b w' p.1 p.2)/\
    w'.ownsRow w.heap.size 157 1 sv ((aA x).length+1+(aA y).length) (lx.map Prod.snd++[.iface (gA n.kind) (.agg #[.int .i64 n.place,A,C])]++J.map Prod.snd)):=by
   unfold gA
   split
   ·exact xh _ x y hx hy b A C w I Q R V
   ·split
    ·exact Cb _ x y hx hy b A C w I Q R V
    exact Cc _ x y hx hy b A C w I Q R V
  refine key.mono ?_;rintro e' w' ⟨sv,h1,h2,lx,J,O,Y,Z,ab,ac⟩;refine ⟨sv,h1,h2,lx++[(⟨n,some x,some y⟩,.iface (gA n.kind) (.agg #[.int .i64 n.place,A,C]))]++J,?_,?_,?_⟩
  ·simp [aA,O,Y]
  ·intro p h;simp only [aT,aR] at h
   rcases h with (h|rfl)|h
   ·exact Z p h
   ·exact ⟨A,C,rfl,Q.but (But.of_below h2),R.but (But.of_below h2)⟩
   exact ab p h
  have e1:(aA ⟨n,some x,some y⟩).length=(aA x).length+1+(aA y).length:=by simp [aA];omega
  rw [e1]
  simpa using ac
end
section
abbrev og:=@List.take_append_drop
abbrev cb:=@List.mem_flatMap
abbrev bx:=@List.mem_of_getElem?
abbrev oh(a0:Int)(a1:Option Addr)(a2:Nat)(a3:Nat):Obj:=.cells #[.int .i64 a0,.slice a1 a2 a3] 236
def Jb (A:aF:=by
 simp [aG hkl]):aF:=A
def Jc (C:aF:=by
 have D:e7 ⟨nq,none,rq⟩=[]:=by simp [e7,Q0]
 subst hv;clear Q0;go_wp2;go_roundw
 case rel=>exact ⟨k+1,.slice sa (GK e k).length sc,aj,by go_num,rfl,HB.u,by rw [EJ D hk'];exact HO.u⟩
 case measure=>simp [intOf];omega):aF:=C
def Jd (A:aF:=by
 rcases ii k (aA e).length with A|A
 ·exact A
 rw [k7 A] at hk;cases hk):aF:=A
def Je (C:aF:=by
 unfold gA;exact Jf):aF:=C
def Jf (A:aF:=by
 split
 ·exact .inl rfl
 split
 ·exact .inr (.inl rfl)
 exact .inr (.inr rfl)):aF:=A
variable {base:Nat}
theorem nh(h:w.ownsRow base e size v n xs)(D:0<n):
  ∃g c,v=.slice (some ⟨g,0,none⟩) n c/\xs.length=n*size/\∀j u,xs[j]? =some u->w.cell? ((⟨g,0,none⟩:Addr).add j)=some u:=by
 obtain ⟨g,c,hv,_⟩:=h.form D;refine ⟨g,c,hv,h.1,fun j u I=> ?_⟩;obtain ⟨g',J,A,hc⟩:=aZ h j u I;rw [hv] at A;simp only [aI,aK,cw] at A;obtain ⟨⟨rfl,_⟩,_⟩:=A;have C:(⟨g,0,none⟩:Addr).add j=⟨g,j,none⟩:=by unfold Addr.add;split<;>simp_all
 rw [C];exact hc
def e7(e:Ex):List Gr:=match e.l with
 |none=>if e.nd.kind=0 then e.nd.gs else []
 |some _=>[]
def WF(e:Ex):Prop:=∀p∈aA e,p.l=none->p.nd.kind=0->p.nd.gs≠ []
def bZ(e:Ex):List Gr:=(aA e).flatMap e7
def GK(e:Ex)(k:Nat):List Gr:=((aA e).take k).flatMap e7
theorem xi{e p gs}(D:e7 p=gs)(hk:(aA e)[k]? =some p):GK e (k+1)=GK e k++gs:=by
 unfold GK;have C:k<(aA e).length:=by
  exact Jd
 rw [dS C,cX];rw [aG C] at hk;simp only [aK] at hk;simp [hk,D]
theorem EJ{e p}(h:e7 p=[])(A:(aA e)[k]? =some p):GK e (k+1)=GK e k:=by
 rw [xi h A];simp
theorem gk_le(e k):(GK e k).length<=(bZ e).length:=by
 unfold GK bZ
 conv=>rhs;rw [<-og k (aA e),cX,List.length_append]
 omega
theorem Q1(l):∀u∈b6 l,u.oneCell'=true:=by
 intro u h;unfold b6 at h;rw [cb] at h;obtain ⟨g,_,h⟩:=h;exact BR g u h
theorem sJ(a c):b6 (a++c)=b6 a++b6 c:=by simp [b6]
theorem oi(aE:Nat)(n0)(b:Nat)(e v w)(bn:b<w.heap.size)(V:bg b w e v)(bb:(aA e).length<=1000)(bo:(bZ e).length<=1000)(am:WF e):
  Calls prog 106 #[.agg #[.int .i64 aE,.string n0,v]] w fun e' w'=>∃sv,e'=.returned sv/\Below w.heap.size w w'/\w'.ownsRow w.heap.size 207 5 sv (bZ e).length (b6 (bZ e)):=by
 obtain ⟨i0,hi,ap,au,av⟩:=bH Tryz.info207;have aL:=ai hi;have aP:=ai ap;have aQ:=ai au;have aR:=ai av;clear hi ap au av;obtain ⟨tv,bj,rfl⟩:=V.isI;have H:=ai V;have aO:=ai am;clear V am;go_enter func106,ntmps106;go_wp2_with fail;refine (ng e b _ _ aM (H.u.but ((But.refl b w).alloc _)) bb).mono ?_;rintro e1 U ⟨bw,rfl,af,l,l1,aC,ab⟩;obtain ⟨bs,bt,rfl⟩:=ay ab;have br:l.length=(aA e).length:=by rw [<-l1];simp
 have ac:=ai (((aw _ w).alloc az (cp aE n0 tv bj)).trans (af.mono an));have aS:=ai l1;have aT:=ai aC;have aU:=ai ab;have aH:=ac.u.size;clear af l1 aC ab;have f0:=dx;have f1:=dY;have f2:=dZ;have f3:=cQ;have f4:=dy;have f5:=dz;go_wp2_with fail
 go_loopw [3,11] (fun bh bf wr=>∃(k:Nat)(sv:ag),k<=(aA e).length/\bf=.int .i64 k/\bh=sv/\Below U.heap.size U wr/\wr.ownsRow U.heap.size 207 5 sv (GK e k).length (b6 (GK e k))) (fun _ u _=>(aA e).length-(intOf u).toNat)
 case atStart=>exact ⟨0,_,aj,rfl,rfl,aw _ _,bN⟩
 case round=>
  obtain ⟨k,sv,ah,rfl,rfl,Q,ho⟩:=hrel;obtain ⟨sa,sc,rfl⟩:=ay ho;have HB:=ai Q;have HO:=ai ho
  by_cases bq:k<(aA e).length
  ·have hkl:k<l.length:=by omega
   obtain ⟨bl,c1,e1,aB⟩:=aZ (ax (w':=wr) aU.u (fun g cs f _ a8=>Q.block g (lt_of_some a8))) k l[k].2 Jb;simp only [aI] at e1;obtain ⟨rfl,_,rfl⟩:=e1;have J:=(aT.u l[k] (bu hkl)).but (b:=b) (But.of_below Q);have hk':(aA e)[k]? =some l[k].1:=by rw [<-aS.u];simp [aG hkl]
   generalize l[k]=q at*;obtain ⟨be,bv⟩:=q;simp only at aB J hk';have a9:(k:Int)<((aA e).length:Int):=aj;clear Q ho
   match be,J,hk' with
   |⟨nq,some xq,some yq⟩,⟨vx,vy,hv,rx,ry⟩,hk'=>
    have R:e7 ⟨nq,some xq,some yq⟩=[]:=rfl;subst hv;clear rx ry;have O:gA nq.kind=244\/gA nq.kind=245\/gA nq.kind=246:=by
     exact Je
    rcases O with O|O|O
    all_goals
     rw [O] at aB;clear O;go_wp2;go_roundw
     case rel=>exact ⟨k+1,.slice sa (GK e k).length sc,aj,by go_num,rfl,HB.u,by rw [EJ R hk'];exact HO.u⟩
     case measure=>simp [intOf];omega
   |⟨nq,none,rq⟩,J,hk'=>
    rcases J with ⟨Q0,gv,hv,Z⟩|⟨Q0,hv⟩|⟨Q0,hv⟩
    ·have R:e7 ⟨nq,none,rq⟩=nq.gs:=by simp [e7,Q0]
     have Y:0<nq.gs.length:=mg.2 (aO.u _ (bx hk') rfl Q0);have ba:=gk_le e (k+1);rw [xi R hk',List.length_append] at ba;obtain ⟨I,gc,rfl,nl,aD⟩:=nh Z Y;subst hv;have aW:=ai nl;have aY:=ai aD;have a5:I<wr.heap.size:=by
      obtain ⟨g',bk,e1,h1⟩:=Z.form Y;simp only [aI,aK,cw] at e1;obtain ⟨⟨rfl,_⟩,_⟩:=e1;exact h1.2
     have bi:=HB.u.size;clear nl aD Z Q0;go_wp2_with (at_builtin;go_must (refine bD _ rfl _ _ 211 rfl U.heap.size 207 i0 _ 5 56 underlying211 aL.u aP.u aQ.u aR.u rfl ar _ _ _ rfl (HO.u.alloc _) ⟨I,0,none⟩ nq.gs.length gc (b6 nq.gs) rfl aW.u ?hnews (Q1 _) Y ?h63 ?hbytes ?hbase (wr.heap.size+1) ?hH ?hrest))
     case hnews=>
      intro j u bc;have a6:(⟨I,0,none⟩:Addr).add j=⟨I,j,none⟩:=by unfold Addr.add;split<;>simp_all
      have:=aY.u j u bc;rw [a6] at this ⊢;rw [Below.cell ((aw wr.heap.size wr).alloc az _) a5];exact this
     case h63=>unfold maxLen;omega
     case hbytes=>omega
     case hbase=>simp;omega
     case hH=>simp
     case hrest=>
      intro g5 aV w5 al ag a7 bp;have ad:=HO.u.alloc (oh nq.place (some ⟨I,0,none⟩) nq.gs.length gc);have aJ:=ai (dc (HB.u.alloc bi (oh nq.place (some ⟨I,0,none⟩) nq.gs.length gc)) ag aM (fun k ah=>(ad.lt k ah).1));have a4:=ai al;clear al ag a7 ad;go_wp2;go_roundw
      case rel=>exact ⟨k+1,.slice (some ⟨g5,0,none⟩) ((GK e k).length+nq.gs.length) aV,aj,by go_num,rfl,aJ.u,by rw [xi R hk',List.length_append,sJ];exact a4.u⟩
      case measure=>simp [intOf];omega
    ·exact Jc
    exact Jc
   |⟨nq,some xq,none⟩,J,hk'=>exact J.elim
  have ae:GK e k=bZ e:=by
   unfold GK bZ;rw [eh aj]
  have aN:Hid (wr.ownsRow w.heap.size 207 5 (.slice sa (GK e k).length sc) (bZ e).length (b6 (bZ e))):=by
   have:=aX HO.u aH;rw [ae] at this ⊢;exact this
  clear ae;have a9:¬((k:Int)<((aA e).length:Int)):=aj;clear Q ho;go_wp2;go_ret;exact ⟨.slice sa (GK e k).length sc,rfl,ac.u.trans (HB.u.mono aH),ak aN⟩
end
