import Derived.Test.YtlbpnlngckgcbaaGreatDoorM01
set_option linter.all false
set_option maxHeartbeats 4000000
set_option maxRecDepth 100000
namespace Go.Proofs.YtlbpnlngckgcbaaGreatDoor
open Go.RowKit Go.PlainAid Go.Proofs.Tryz
variable {aD br:Prop} {α:Type} {b d i size n base' k:Nat} {s x:ae} {w w' w1 y z:af} {v sv:ag} {cs:Array ag} {T e:TypeId} {xs:List ag} {rs:List Rl} {ts:List Ty}
abbrev bW:=@beq_eq_false_iff_ne
abbrev bE(a0:ag):Obj:=.cells #[a0] 9
def FY (h:aD:=by
 intro e D A;obtain ⟨v,C,rfl⟩:=Post.form A;go_wp2;go_ret2;exact Post.from (w:=w) (eE (But.refl b w)) A):aD:=h
def Post.form{r:eJ α}{rep:af->α->ag->Prop}{bad e}(h:Post b s d w r rep bad e w'):∃v A,e=bj (.tuple #[v,A]):=by
 obtain ⟨_,h⟩:=h
 cases r with
 |error y=>obtain ⟨c,j⟩:=y;obtain ⟨v,d',h,_⟩:=h;exact ⟨_,_,h⟩
 |ok y=>obtain ⟨c,j⟩:=y;obtain ⟨v,h,_⟩:=h;exact ⟨_,_,h⟩
def Post.from{r:eJ α}{rep:af->α->ag->Prop}{bad e}(k:But b w w1)(h:Post b s d w1 r rep bad e w'):Post b s d w r rep bad e w':=⟨k.trans h.1,h.2⟩
def At.open(h:At w b s i d)(d':Nat):At (w.setCell (aC b 3) (ar d')) b s i d':=
 ⟨⟨⟨by rw [gz _ h.pos.rd.blk];rfl⟩,h.pos.le⟩,h.good⟩
def xQ(b s i w)(h:At w b s i 4):
  Calls prog 272 #[bc b] w (eU b s 4 w (.error (3,i))):=by
 have c3:=h.pos.rd.c3;go_enter func272,ntmps272;go_wp2;go_ret2;exact ⟨But.refl _ _,_,4,rfl,.inl rfl,h⟩
def Ao(b s i d w)(hs:s.size<=500)(h:At w b s i d)(ac:d<4)(Y:eqs (TT s i) (sg 40)=true)(A:Nat->eJ Ex)(Z:∀i w,At w b s i (d+1)->Calls prog 222 #[bc b] w (eU b s (d+1) w (A i)))(c j)(I:Hid (A (i+1)=.error (c,j))):
  Calls prog 272 #[bc b] w (eU b s d w (.error (c,j))):=by
 have J:(s.size<=maxLen):=fI;have c3:=h.pos.rd.c3;have ah:=h.pos.rd.fz;have ad:((d:Int)==4)=false:=by rw [bW];omega
 go_enter func272,ntmps272;go_wp2_with fail;rw [show ((d:Int)+1)=((d+1:Nat):Int) by omega];refine (steps b s i (d+1) _ J (At.open h (d+1)) (dP Y ay)).mono ?_;rintro e ab ⟨rfl,Q,U⟩;have D:=But.trans (x:=w) ((But.refl b w).setCell 3 _) U;have C:=Z (i+1) ab Q;rw [I] at C;go_wp2_with fail;refine C.mono ?_;rintro e ag ⟨V,af,d3,rfl,ae,R⟩;unfold cm;go_wp2;go_ret2;exact ⟨(But.trans D V),_,d3,rfl,.inl rfl,R⟩
def CS(b s i d w)(hs:s.size<=500)(h:At w b s i d)(ah:d<4)(ad:eqs (TT s i) (sg 40)=true)(D:Nat->eJ Ex)(af:∀i w,At w b s i (d+1)->Calls prog 222 #[bc b] w (eU b s (d+1) w (D i)))(x j)(R:Hid (D (i+1)=.ok (x,j)))(Q:Hid (eqs (TT s j) (sg 41)=false)):
  Calls prog 272 #[bc b] w (eU b s d w (.error (2,j))):=by
 have U:(s.size<=maxLen):=fI;have c3:=h.pos.rd.c3;have am:=h.pos.rd.fz;have ai:((d:Int)==4)=false:=by rw [bW];omega
 go_enter func272,ntmps272;go_wp2_with fail;rw [show ((d:Int)+1)=((d+1:Nat):Int) by omega];refine (steps b s i (d+1) _ U (At.open h (d+1)) (dP ad ay)).mono ?_;rintro e ag ⟨rfl,V,Z⟩;have I:=But.trans (x:=w) ((But.refl b w).setCell 3 _) Z;have C:=af (i+1) ag V;rw [R] at C;go_wp2_with fail;refine C.mono ?_;rintro e ak ⟨ab,aj,rfl,ae,A⟩;have J:=But.trans I ab;have k3:=A.pos.rd.c3;have an:=A.pos.rd.fz;go_wp2_with fail;refine (m6 b s j d (sg 41) _ (At.open A d) Q).mono ?_;rintro e al ⟨rfl,Y,ac⟩;go_wp2;go_ret2;exact ⟨(But.trans (J.setCell 3 _) ac),_,d,rfl,.inr ae.isI,Y⟩
def Ap(b s i d w)(hs:s.size<=500)(h:At w b s i d)(ai:d<4)(ad:eqs (TT s i) (sg 40)=true)(J:Nat->eJ Ex)(af:∀i w,At w b s i (d+1)->Calls prog 222 #[bc b] w (eU b s (d+1) w (J i)))(x j)(V:Hid (J (i+1)=.ok (x,j)))(U:Hid (eqs (TT s j) (sg 41)=true)):
  Calls prog 272 #[bc b] w (eU b s d w (.ok (x,j+1))):=by
 have D:(s.size<=maxLen):=fI;have c3:=h.pos.rd.c3;have am:=h.pos.rd.fz;have aj:((d:Int)==4)=false:=by rw [bW];omega
 go_enter func272,ntmps272;go_wp2_with fail;rw [show ((d:Int)+1)=((d+1:Nat):Int) by omega];refine (steps b s i (d+1) _ D (At.open h (d+1)) (dP ad ay)).mono ?_;rintro e ag ⟨rfl,Y,ab⟩;have Q:=But.trans (x:=w) ((But.refl b w).setCell 3 _) ab;have C:=af (i+1) ag Y;rw [V] at C;go_wp2_with fail;refine C.mono ?_;rintro e ah ⟨ac,ak,rfl,ae,A⟩;have R:=But.trans Q ac;have k3:=A.pos.rd.c3;have an:=A.pos.rd.fz;go_wp2_with fail;refine (iG b s j d (sg 41) _ D (At.open A d) U ay).mono ?_;rintro e al ⟨rfl,Z,I⟩;go_wp2;go_ret2;exact ⟨(But.trans (R.setCell 3 _) I),_,rfl,(bA.but ae (But.trans ((But.refl b ah).setCell 3 _) I)),Z⟩
def NU(b s i d w)(hs:s.size<=500)(h:At w b s i d)(r)(Q:eqs (TT s i) (sg 91)=true->∀w,At w b s i d->Calls prog 271 #[bc b] w (eU b s d w r))(J:eqs (TT s i) (sg 91)=false->eqs (TT s i) (sg 40)=true->∀w,At w b s i d->Calls prog 272 #[bc b] w (eU b s d w r))(ho:eqs (TT s i) (sg 91)=false->eqs (TT s i) (sg 40)=false->∀w,At w b s i d->Calls prog 273 #[bc b] w (eU b s d w r)):
  Calls prog 264 #[bc b] w (eU b s d w r):=by
 cases h1:eqs (TT s i) (sg 91)
 ·cases h2:eqs (TT s i) (sg 40)
  ·go_enter func264,ntmps264;go_wp2_with fail;refine (ats b s i d _ _ (sg 91) _ ?_ ?_).mono ?_
   ·exact (hW h)
   ·exact dt _ _ _ _ au
   rintro e I ⟨rfl,rfl⟩;rw [h1];go_wp2_with fail;refine (ats b s i d _ _ (sg 40) _ ?_ ?_).mono ?_
   ·exact (hW h)
   ·exact dt _ _ _ _ au
   rintro e I ⟨rfl,rfl⟩;rw [h2];go_wp2_with fail;refine (ho h1 h2 _ (hW h)).mono ?_;exact FY
  go_enter func264,ntmps264;go_wp2_with fail;refine (ats b s i d _ _ (sg 91) _ ?_ ?_).mono ?_
  ·exact (hW h)
  ·exact dt _ _ _ _ au
  rintro e I ⟨rfl,rfl⟩;rw [h1];go_wp2_with fail;refine (ats b s i d _ _ (sg 40) _ ?_ ?_).mono ?_
  ·exact (hW h)
  ·exact dt _ _ _ _ au
  rintro e I ⟨rfl,rfl⟩;rw [h2];go_wp2_with fail;refine (J h1 h2 _ (hW h)).mono ?_;exact FY
 ·go_enter func264,ntmps264;go_wp2_with fail;refine (ats b s i d _ _ (sg 91) _ ?_ ?_).mono ?_
  ·exact (hW h)
  ·exact dt _ _ _ _ au
  rintro e I ⟨rfl,rfl⟩;rw [h1];go_wp2_with fail;refine (Q h1 _ (hW h)).mono ?_;exact FY
def yt(b s i d w)(hs:s.size<=500)(h:At w b s i d)(room inner)(J:d<=4)(D:room=true↔d<4)(C:room=true->∀i w,At w b s i (d+1)->Calls prog 222 #[bc b] w (eU b s (d+1) w (inner i))):
  Calls prog 264 #[bc b] w (eU b s d w (eQ (TT s) (PP s) room inner i)):=by
 have I:s.size<=maxLen:=by unfold maxLen;omega
 refine NU b s i d w hs h _ ?_ ?_ ?_
 ·intro h1 w h;simp only [eQ,h1,if_true];exact Le b s i d w hs h h1
 ·intro h1 h2 w h;simp only [eQ,h1,h2,if_true,Bool.false_eq_true,a8]
  cases room with
  |false=>
   have:d=4:=by
    have:¬d<4:=fun k=>by have:=D.2 k;cases this
    omega
   subst this;exact xQ b s i w h
  |true=>
   have A:=D.1 rfl;simp only [if_true]
   cases hi:inner (i+1) with
   |error e=>exact Ao b s i d w hs h A h2 inner (C rfl) e.1 e.2 (hi)
   |ok y=>
    obtain ⟨x,j⟩:=y
    cases hc:eqs (TT s j) (sg 41)
    ·simp only [hc];exact CS b s i d w hs h A h2 inner (C rfl) x j (hi) (hc)
    simp only [hc];exact Ap b s i d w hs h A h2 inner (C rfl) x j (hi) (hc)
 ·intro h1 h2 w h;simp only [eQ,h1,h2,Bool.false_eq_true,a8];exact NR b s i d w I h
def uJ(b s i d w)(hs:s.size<=500)(h:At w b s i d)(part)(D:j7 part)(A:∀i w,At w b s i d->Calls prog 264 #[bc b] w (eU b s d w (part i))):
  Calls prog 249 #[bc b] w (eU b s d w (eT (TT s) (PP s) [sg 38,sg 45] part i)):=by
 have J:=h.lt;have C:=(yp _ b (.inl rfl) s i d (w.alloc (.cells #[aj ⟨#[38]⟩,aj ⟨#[45]⟩] 9)) hs (h.alloc _) w.heap.size 2 [sg 38,sg 45] part D A (by simp [maxLen]) ay ai au (fun i hi=>by
  match i,hi with
  |0,_=>exact (aL.new w _ _).cell rfl
  |1,_=>exact (aL.new w _ _).cell rfl
  |n+2,hi=>simp at hi;omega))
 generalize eT (TT s) (PP s) [sg 38,sg 45] part i=r at*;go_enter func249,ntmps249;go_wp2_with fail;refine C.mono ?_;intro e Q A;obtain ⟨v,I,rfl⟩:=Post.form A;go_wp2;go_ret2;exact Post.from (w:=w) (eE (But.refl b w)) A
def Jh(b s i d w)(hs:s.size<=500)(h:At w b s i d)(part)(D:j7 part)(A:∀i w,At w b s i d->Calls prog 249 #[bc b] w (eU b s d w (part i))):
  Calls prog 222 #[bc b] w (eU b s d w (eT (TT s) (PP s) [sg 124] part i)):=by
 have J:=h.lt;have C:=(yp _ b (.inr rfl) s i d (w.alloc (bE aj ⟨#[124]⟩)) hs (h.alloc _) w.heap.size 1 [sg 124] part D A (by simp [maxLen]) ay ai au (fun i hi=>by
  match i,hi with
  |0,_=>exact (aL.new w _ _).cell rfl
  |n+1,hi=>simp at hi))
 generalize eT (TT s) (PP s) [sg 124] part i=r at*;go_enter func222,ntmps222;go_wp2_with fail;refine C.mono ?_;intro e Q A;obtain ⟨v,I,rfl⟩:=Post.form A;go_wp2;go_ret2;exact Post.from (w:=w) (eE (But.refl b w)) A
def rB(b s)(hs:s.size<=500):∀n i d w,d+n=4->At w b s i d->
  Calls prog 222 #[bc b] w (eU b s d w (fq (TT s) (PP s) n i))
 |0,i,d,w,hd,h=>Jh b s i d w hs h _ (hD _ _ false _ (fun i x j h=>by simp at h)) (fun i w h=>
   uJ b s i d w hs h _ (j8 _ _ false _ (fun i x j h=>by simp at h)) (fun i w h=>
    yt b s i d w hs h false _ ai aS (fun h=>by cases h)))
 |n+1,i,d,w,hd,h=>Jh b s i d w hs h _ (hD _ _ true _ (gT _ _ n)) (fun i w h=>
   uJ b s i d w hs h _ (j8 _ _ true _ (gT _ _ n)) (fun i w h=>
    yt b s i d w hs h true _ ai aS (fun _ i w h=>rB b s hs n i (d+1) w ai h)))
section
abbrev eV(a0:ag)(a1:ag):Array ag:=#[a0,a1,.nilIface]
abbrev c8(a0:ag)(a1:ag):Obj:=.cells #[a0,a1,.nilIface] 159
variable {g:Nat}
def bA.set{e}(h:bA b w e v)(C:aL w g cs T)(D:T≠207)(o u):bA b (w.setCell (aC g o) u) e v:=
 bA.frame (fun g' I f J A=>dY _ _ _ _ (fun (e':g'=g)=>by
  subst e';unfold aL at C;rw [C] at A;simp at A;exact D A.2.1)) e v h
def Ji(b:Nat)(w:af)(r:Rl)(v:ag):Prop:=∃h,v=.agg #[ar r.place,aj r.name,h]/\bA b w r.body h
def UE(v:ag):Prop:=∃(p:Nat)(t:ae)(h:ag),v=.agg #[ar p,aj t,h]/\ZT h
def UF(b s i d w)(hs:s.size<=500)(h:At w b s i d)(c j)(D:Hid (cb (TT s) (sg 58) i=.error (c,j))):
  Calls prog 172 #[bc b] w (Post b s d w (.error (c,j):eJ Rl) (Ji b) UE):=by
 have U:=h.lt;have I:(s.size<=maxLen):=fI;have C:=gM b s i d (sg 58) _ I ((h.alloc (c8 ar 0 aj ⟨#[]⟩)).alloc (c8 ar 0 aj ⟨#[]⟩)) ay;rw [D] at C;go_enter func172,ntmps172;go_wp2_with fail;refine C.mono ?_;rintro e w1 ⟨b1,v,d1,rfl,⟨p,t,rfl⟩,a1⟩;have A:=((But.refl b w).alloc _).alloc _ |>.trans b1;have R:=((aL.new w (eV ar 0 aj ⟨#[]⟩) 159).alloc (c8 ar 0 aj ⟨#[]⟩)).but b1 ai;have G:=(aL.new' (w.alloc (c8 ar 0 aj ⟨#[]⟩)) (eV ar 0 aj ⟨#[]⟩) 159 (w.heap.size+1) au).but b1 ai;obtain ⟨Z,ab,ac⟩:=R.three;obtain ⟨g0,J,Q⟩:=G.three;have ae:=R.fz;have ad:=G.fz;have V:=G.lt;have Y:w.heap.size<w1.heap.size:=ai;unfold cm;go_wp2;refine bF (v:=.tuple #[.agg #[ar p,aj t,.nilIface],cm c]) (cf results172 _ _ w.heap.size _ 159 _ _ rfl rfl ?hB underlying159 rfl aM) rfl ?post
 case hB=>exact ⟨_,(cZ R),bL⟩
 case post=>exact ⟨(eE A),_,d1,rfl,⟨p,t,_,rfl,.inl rfl⟩,(hW a1)⟩
def NV(b s i d w)(hs:s.size<=500)(h:At w b s i d)(ae:d+4=4)(c j m)(Z:Hid (cb (TT s) (sg 58) i=.ok ((),j)))(ac:Hid (fq (TT s) (PP s) 4 j=.error (c,m))):
  Calls prog 172 #[bc b] w (Post b s d w (.error (c,m):eJ Rl) (Ji b) UE):=by
 have am:=h.lt;have ab:(s.size<=maxLen):=fI;have C:=gM b s i d (sg 58) _ ab ((h.alloc (c8 ar 0 aj ⟨#[]⟩)).alloc (c8 ar 0 aj ⟨#[]⟩)) ay;rw [Z] at C;go_enter func172,ntmps172;go_wp2_with fail;refine C.mono ?_;rintro e w1 ⟨b1,v,rfl,rfl,a1⟩;have V:=((But.refl b w).alloc _).alloc _ |>.trans b1;have R:=((aL.new w (eV ar 0 aj ⟨#[]⟩) 159).alloc (c8 ar 0 aj ⟨#[]⟩)).but b1 ai;have G:=(aL.new' (w.alloc (c8 ar 0 aj ⟨#[]⟩)) (eV ar 0 aj ⟨#[]⟩) 159 (w.heap.size+1) au).but b1 ai;obtain ⟨aA,aB,aE⟩:=R.three;obtain ⟨g0,ak,al⟩:=G.three;have aI:=G.fz;have an:=G.lt;have ap:w.heap.size<w1.heap.size:=ai;unfold xP;go_wp2_with fail;have C:=rB b s hs 4 j d _ ae ((hW a1):At ((w1.setCell (aN (w.heap.size+1)) (ar (dH s (K s i)))).setCell (aC (w.heap.size+1) 1) (aj (cI s (K s i)))) b s j d);rw [ac] at C;refine C.mono ?_;rintro e J ⟨I,aH,d2,rfl,af,U⟩;have Q:=But.trans (x:=w) (eE V) I;have ad:=aL.but (g:=w.heap.size) (T:=159) (cZ R) I ai;have A:aL J w.heap.size (eV ar 0 aj ⟨#[]⟩) 159:=ad;have Y:=aL.but (g:=w.heap.size+1) (T:=159) (cZ G) I ai;have D:aL J (w.heap.size+1) (eV ar (dH s (K s i)) aj (cI s (K s i))) 159:=Y;obtain ⟨av,p1,p2⟩:=A.three;obtain ⟨aw,ax,az⟩:=D.three;have aJ:=A.fz;have zq:=D.fz;have aF:=D.lt;have aG:w.heap.size<J.heap.size:=ai;unfold cm
 rcases af with rfl|⟨ag,ah,rfl⟩
 ·go_wp2;refine bF (v:=.tuple #[.agg #[ar (dH s (K s i)),aj (cI s (K s i)),.nilIface],cm c]) (cf results172 _ _ w.heap.size _ 159 _ _ rfl rfl ?hB underlying159 rfl aM) rfl ?post
  case hB=>exact ⟨_,(cZ A),bL⟩
  case post=>exact ⟨(eE Q),_,d2,rfl,⟨_,_,_,rfl,.inl rfl⟩,(hW U)⟩
 ·go_wp2;refine bF (v:=.tuple #[.agg #[ar (dH s (K s i)),aj (cI s (K s i)),.iface ag ah],cm c]) (cf results172 _ _ w.heap.size _ 159 _ _ rfl rfl ?hB underlying159 rfl aM) rfl ?post
  case hB=>exact ⟨_,(cZ A),bL⟩
  case post=>exact ⟨(eE Q),_,d2,rfl,⟨_,_,_,rfl,.inr ⟨_,_,rfl⟩⟩,(hW U)⟩
def Jj(b:Nat)(s:ae)(i d:Nat)(w:af)(hs:s.size<=500)(h:At w b s i d)(aO:d+4=4)(x:Ex)(j m M:Nat)(V:ag)(R:eJ Rl)(aA:Hid (cb (TT s) (sg 58) i=.ok ((),j)))(aF:Hid (fq (TT s) (PP s) 4 j=.ok (x,m)))
  (ax:Hid (∀W,At W b s m d->Calls prog 169 #[bc b,aj (sg 59)] W fun e w'=>e=bj V/\At w' b s M d/\But b W w'))
  (az:Hid ((V=.nilIface/\R=.ok (⟨TT s i,PP s i,x⟩,M))\/(V=cm 2/\R=.error (2,M)))):
  Calls prog 172 #[bc b] w (Post b s d w R (Ji b) UE):=by
 have aV:=h.lt;have aB:(s.size<=maxLen):=fI;have C:=gM b s i d (sg 58) _ aB ((h.alloc (c8 ar 0 aj ⟨#[]⟩)).alloc (c8 ar 0 aj ⟨#[]⟩)) ay;rw [aA] at C;go_enter func172,ntmps172;go_wp2_with fail;refine C.mono ?_;rintro e w1 ⟨b1,v,rfl,rfl,a1⟩;have am:=((But.refl b w).alloc _).alloc _ |>.trans b1;have R:=((aL.new w (eV ar 0 aj ⟨#[]⟩) 159).alloc (c8 ar 0 aj ⟨#[]⟩)).but b1 ai;have G:=(aL.new' (w.alloc (c8 ar 0 aj ⟨#[]⟩)) (eV ar 0 aj ⟨#[]⟩) 159 (w.heap.size+1) au).but b1 ai;obtain ⟨a3,a4,a5⟩:=R.three;obtain ⟨g0,aS,aT⟩:=G.three;have ba:=G.fz;have aW:=G.lt;have aX:w.heap.size<w1.heap.size:=ai;unfold xP;go_wp2_with fail;have C:=rB b s hs 4 j d _ aO ((hW a1):At ((w1.setCell (aN (w.heap.size+1)) (ar (dH s (K s i)))).setCell (aC (w.heap.size+1) 1) (aj (cI s (K s i)))) b s j d);rw [aF] at C;refine C.mono ?_;rintro e I ⟨Z,a8,rfl,ak,aJ⟩;have an:=But.trans (x:=w) (eE am) Z;have aG:=aL.but (g:=w.heap.size) (T:=159) (cZ R) Z ai;have ah:aL I w.heap.size (eV ar 0 aj ⟨#[]⟩) 159:=aG;have av:=aL.but (g:=w.heap.size+1) (T:=159) (cZ G) Z ai;have J:aL I (w.heap.size+1) (eV ar (dH s (K s i)) aj (cI s (K s i))) 159:=av;obtain ⟨a2,p1,p2⟩:=ah.three;obtain ⟨aP,aQ,aR⟩:=J.three;have zq:=J.fz;have a6:=J.lt;have a7:w.heap.size<I.heap.size:=ai;obtain ⟨A,D,rfl⟩:=ak.isI;go_wp2_with fail;have al:=((hW aJ):At (I.setCell (aC (w.heap.size+1) 2) (.iface A D)) b s m d);have ap:=((eE an):But b w (I.setCell (aC (w.heap.size+1) 2) (.iface A D)));have aH:=bA.set ak J ay 2 (.iface A D);have ad:aL (I.setCell (aC (w.heap.size+1) 2) (.iface A D)) (w.heap.size+1) #[ar (dH s (K s i)),aj (cI s (K s i)),.iface A D] 159:=J.set 2 _;have R3:aL (I.setCell (aC (w.heap.size+1) 2) (.iface A D)) w.heap.size (eV ar 0 aj ⟨#[]⟩) 159:=ah.other au _;generalize I.setCell (aC (w.heap.size+1) 2) (.iface A D)=W at*;obtain ⟨aP,aQ,aR⟩:=ad.three;have aU:=R3.lt
 go_region_held3 (fun w'=>w'.cell? (aN (w.heap.size+1))=some (ar (dH s (K s i)))/\w'.cell? (aC (w.heap.size+1) 1)=some (aj (cI s (K s i)))/\w'.cell? (aC (w.heap.size+1) 2)=some (.iface A D)) (go_keep)
  ((go_at_call 169;refine (ax _ ?_).mono ?_;(exact al.drew);rintro e a9 ⟨rfl,aK,U⟩;have aw:=ad.drew.but U ai;obtain ⟨aZ,n1,n2⟩:=aw.three;have Y:=R3.drew.but U ai;obtain ⟨k0,k1,aY⟩:=Y.three;have bb:=aL.fz Y;have Q:=Y;have ab:=aK;have aI:=(bA.but aH (But.trans ((But.refl b W).drew) U));have ac:=(But.trans ap.drew U)))
 go_wp2;refine bF (v:=.tuple #[.agg #[ar (dH s (K s i)),aj (cI s (K s i)),.iface A D],V]) (cf results172 _ _ w.heap.size _ 159 _ _ rfl rfl ?hB underlying159 rfl aM) rfl ?post
 case hB=>exact ⟨_,(cZ Q),bL⟩
 case post=>
  rcases aE az with ⟨rfl,rfl⟩|⟨rfl,rfl⟩
  ·exact ⟨(eE ac),_,rfl,⟨_,rfl,bA.set (bA.set (bA.set aI Q ay 0 _) (Q.set 0 _) ay 1 _) ((Q.set 0 _).set 1 _) ay 2 _⟩,(hW ab)⟩
  exact ⟨(eE ac),_,d,rfl,⟨_,_,_,rfl,.inr ⟨_,_,rfl⟩⟩,(hW ab)⟩
def CU(b s i d w)(hs:s.size<=500)(h:At w b s i d)(J:d+4=4):
  Calls prog 172 #[bc b] w (Post b s d w (kS (TT s) (PP s) i) (Ji b) UE):=by
 unfold kS
 cases D:cb (TT s) (sg 58) i with
 |error e=>exact UF b s i d w hs h e.1 e.2 (D)
 |ok y=>
  obtain ⟨⟨⟩,j⟩:=y
  cases A:fq (TT s) (PP s) 4 j with
  |error e=>simp only [A];exact NV b s i d w hs h J e.1 j e.2 (D) (A)
  |ok y=>
   obtain ⟨x,m⟩:=y
   cases C:eqs (TT s m) (sg 59)
   ·simp only [A,C];exact Jj b s i d w hs h J x j m _ _ _ (D) (A) (fun W I=>m6 b s m d _ W I C) ((.inr ⟨rfl,rfl⟩))
   simp only [A,C];exact Jj b s i d w hs h J x j m _ _ _ (D) (A) (fun W I=>iG b s m d _ W fI I C ay) ((.inl ⟨rfl,rfl⟩))
end
abbrev gU:=@Bool.eq_iff_iff
abbrev aW:=@List.mem_append
abbrev cN:=@List.flatMap_append
abbrev ba(a0:ag)(a1:ag)(a2:ag):Obj:=.cells #[a0,a1,a2] 110
abbrev cC(a0:ag)(a1:ag)(a2:TypeId)(a3:ag):Obj:=.cells #[a0,a1,.iface a2 a3] 159
def NW(q:br) (h:cj br->aD:=by
 intro zq;have R4:=NM.but b4 ai;have G4:=Jk.but b4 ai;have B4:=ak (But.trans B3 b4);have P4:=ak (P3.frame (fx.of_but b4) ai);have A4:=ak a4;have T7:=ak R4;have HG4:=ak G4;obtain ⟨y0,y1,y2⟩:=R4.three;obtain ⟨k0,k1,k2⟩:=G4.three;have zy:=R4.fz;have zk:=G4.fz;have yl:=G4.lt;have yl':w.heap.size<w4.heap.size:=ai
 revert R4 G4 B4 P4 A4 T7 HG4 y0 y1 y2 k0 k1 k2 zy zk yl yl'
 exact zq.1):aD:=h ⟨q⟩
def Tryz.info159:(Tryz.prog.info? 159).map (fun i=>(i.zero,i.size,i.bytes))=some (some (.agg #[ar 0,aj ⟨#[]⟩,.nilIface]),3,40):=by kernel_rfl
def Aq(p:Rl×ag):List ag:=[ar p.1.place,aj p.1.name,p.2]
def iH(base b:Nat)(w:af)(sv:ag)(rs:List Rl):Prop:=
 ∃l:List (Rl×ag),l.map Prod.fst=rs/\(∀p∈l,bA b w p.1.body p.2)/\w.ownsRow base 159 3 sv rs.length (l.flatMap Aq)
def ax{base:Nat}(h:w.ownsRow base e size v n xs):∃a cap,v=aw a n cap:=by
 rcases h.2 with ⟨rfl,rfl⟩|⟨g,cap,A,rfl,_⟩
 ·exact ⟨_,_,rfl⟩
 exact ⟨_,_,rfl⟩
def fx(b:Nat)(w w':af):Prop:=∀g cs T f,b+1<=g->w.heap[g]? =some (.cells cs T f)->(T=207\/T=159)->w'.heap[g]? =w.heap[g]?
def fx.of_but(h:But b w w'):fx b w w':=fun g cs T f C A _=>h.block g (lt_of_some A) ai
def fx.g(h:fx b w w'):oS b w w':=fun g cs f A C=>h g cs _ f A C (.inl rfl)
def iH.frame{base:Nat}(h:iH base b w sv rs)(k:fx b w w')(I:b+1<=base):iH base b w' sv rs:=by
 obtain ⟨l,h1,h2,A⟩:=h;exact ⟨l,h1,fun p D=>bA.frame k.g _ _ (h2 p D),az A fun g cs f J C=>k g cs _ f ai C (.inr rfl)⟩
def iH.base{base:Nat}(h:iH base b w sv rs)(C:base'<=base):iH base' b w sv rs:=by
 obtain ⟨l,h1,h2,A⟩:=h;exact ⟨l,h1,h2,bn A C⟩
def fx.set{g}(C:aL w g cs T)(h1:T≠207)(h2:T≠159)(o u):fx b w (w.setCell (aC g o) u):=
 fun g' D T' f I A h=>dY _ _ _ _ (fun (e':g'=g)=>by
  subst e';unfold aL at C;rw [C] at A;simp at A;obtain ⟨_,rfl,_⟩:=A
  rcases h with h|h
  ·exact h1 h
  exact h2 h)
def fx.trans{x}(h:fx b x y)(k:fx b y z):fx b x z:=fun g cs T f A C D=>(k g cs T f A ((h g cs T f A C D).trans C) D).trans (h g cs T f A C D)
def fx.below(h:an w w'):fx b w w':=fx.of_but (But.of_below h)
def dT{base:Nat}{g:Nat}{f:Nat×Nat}(h:w.ownsRow base e size v n xs)(D:w.heap[g]? =some (.cells cs T f))(I:T≠e):some g≠v.ownBlock:=by
 rcases h.2 with ⟨rfl,_⟩|⟨g',cap,J,rfl,Q,A,r⟩
 ·simp [Value.ownBlock]
 intro C;simp only [Value.ownBlock,aR] at C;subst C;rw [D] at A;simp at A;exact I A.2.1
def Jl(b:Nat)(w:af)(t:Ty)(v:ag):Prop:=∃sv,v=.agg #[ar t.place,aj t.name,sv]/\iH (b+1) b w sv t.rels
def UG(v:ag):Prop:=∃(p:Nat)(t:ae)(a:Option Addr)(n c:Nat),v=.agg #[ar p,aj t,aw a n c]
def typeM(T:Nat->ae)(P:Nat->Nat)(i:Nat)(R:eJ (List Rl)):eJ Ty:=match R with
 | .error e=> .error e
 | .ok (rs,m)=> .ok (⟨T (i+1),P (i+1),rs⟩,m)
def UH(b s i d w)(hs:s.size<=500)(h:At w b s i d)(C:eqs (TT s i) jN=false):
  Calls prog 114 #[bc b] w (Post b s d w (.error (2,i):eJ Ty) (Jl b) UG):=by
 have J:=h.lt;go_enter func114,ntmps114;go_wp2_with fail;refine (m6 b s i d jN _ ?_ C).mono ?_
 ·exact (hW h)
 rintro e w1 ⟨rfl,a1,b1⟩;have A:=((But.refl b w).alloc _).alloc _ |>.trans b1;have R:=((aL.new w #[ar 0,aj ⟨#[]⟩,aw none 0 0] 110).alloc (ba ar 0 aj ⟨#[]⟩ aw none 0 0)).but b1 ai;have G:=(aL.new' (w.alloc (ba ar 0 aj ⟨#[]⟩ aw none 0 0)) #[ar 0,aj ⟨#[]⟩,aw none 0 0] 110 (w.heap.size+1) au).but b1 ai;obtain ⟨Q,U,V⟩:=R.three;obtain ⟨g0,D,I⟩:=G.three;have Z:=R.fz;have Y:=G.fz;clear b1;unfold cm;go_wp2;refine bF (v:=.tuple #[.agg #[ar 0,aj ⟨#[]⟩,aw none 0 0],cm 2]) (cf results114 _ _ w.heap.size _ 110 _ _ rfl rfl ?hB underlying110 rfl aM) rfl ?post
 case hB=>exact ⟨_,(cZ R),bL⟩
 case post=>exact ⟨(eE A),_,d,rfl,⟨0,_,_,_,_,rfl⟩,(hW a1)⟩
def Lf(b s i d w)(hs:s.size<=500)(h:At w b s i d)(Y:eqs (TT s i) jN=true)(c j)(U:Hid (cb (TT s) (sg 123) (i+1)=.error (c,j))):
  Calls prog 114 #[bc b] w (Post b s d w (.error (c,j):eJ Ty) (Jl b) UG):=by
 have ac:=h.lt;have D:(s.size<=maxLen):=fI;go_enter func114,ntmps114;go_wp2_with fail;refine (iG b s i d jN _ D ?_ Y ay).mono ?_
 ·exact (hW h)
 rintro e w1 ⟨rfl,a1,b1⟩;have I:=((But.refl b w).alloc _).alloc _ |>.trans b1;have V:=((aL.new w #[ar 0,aj ⟨#[]⟩,aw none 0 0] 110).alloc (ba ar 0 aj ⟨#[]⟩ aw none 0 0)).but b1 ai;have Q:=(aL.new' (w.alloc (ba ar 0 aj ⟨#[]⟩ aw none 0 0)) #[ar 0,aj ⟨#[]⟩,aw none 0 0] 110 (w.heap.size+1) au).but b1 ai;clear b1;have C:=gM b s (i+1) d (sg 123) w1 D a1 ay;rw [U] at C;go_wp2_with fail;refine C.mono ?_;rintro e ah ⟨A,v,d2,rfl,⟨p,t,rfl⟩,a2⟩;have J:=But.trans I A;have R:=V.but A ai;have G:=Q.but A ai;obtain ⟨ae,af,ag⟩:=R.three;obtain ⟨g0,Z,ab⟩:=G.three;have al:=R.fz;have ak:=G.fz;have ad:=G.lt;clear A C;unfold cm;go_wp2;refine bF (v:=.tuple #[.agg #[ar p,aj t,aw none 0 0],cm c]) (cf results114 _ _ w.heap.size _ 110 _ _ rfl rfl ?hB underlying110 rfl aM) rfl ?post
 case hB=>exact ⟨_,(cZ R),bL⟩
 case post=>exact ⟨(eE J),_,d2,rfl,⟨p,t,_,_,_,rfl⟩,(hW a2)⟩
def UI(b s i d w)(hs:s.size<=500)(h:At w b s i d)(bl:d+4=4)(bn:eqs (TT s i) jN=true)(j)(bZ:Hid (cb (TT s) (sg 123) (i+1)=.ok ((),j))):
  Calls prog 114 #[bc b] w (Post b s d w (typeM (TT s) (PP s) i (dj (TT s) (PP s) 512 [] j)) (Jl b) UG):=by
 generalize bj:dj (TT s) (PP s) 512 [] j=R;have bX:=ak bj;clear bj;have cJ:=h.lt;have a6:Hid (s.size<=maxLen):=ak fI;have bY:=ak bn;have bC:=ak h;clear h bn;go_enter func114,ntmps114;go_wp2_with fail;refine (iG b s i d jN _ a6 ?_ bY ay).mono ?_
 ·exact (hW bC)
 rintro e w1 ⟨rfl,a1,b1⟩;have bJ:=ak (((But.refl b w).alloc _).alloc _ |>.trans b1);have b2:=ak (((aL.new w #[ar 0,aj ⟨#[]⟩,aw none 0 0] 110).alloc (ba ar 0 aj ⟨#[]⟩ aw none 0 0)).but b1 ai);have bR:=ak ((aL.new' (w.alloc (ba ar 0 aj ⟨#[]⟩ aw none 0 0)) #[ar 0,aj ⟨#[]⟩,aw none 0 0] 110 (w.heap.size+1) au).but b1 ai);have bD:=ak a1;clear a1 b1;have C:=ak (gM b s (i+1) d (sg 123) w1 a6 bD ay);rw [bZ] at C;go_wp2_with fail;refine C.mono ?_;rintro e cU ⟨aR,v,rfl,rfl,a2⟩;have bK:=ak (But.trans bJ aR);have R:=b2.but aR ai;have G:=bR.but aR ai;have ad:=ak R;have bV:=ak G;obtain ⟨cw,cx,cy⟩:=R.three;obtain ⟨g0,b9,cd⟩:=G.three;have cD:=R.fz;have cB:=G.fz;have cO:=G.lt;have bG:=ak a2;clear a2 aR R G C;unfold xP;go_wp2_with fail
 go_loopg [7] 512 (fun k cT wr=>∃(rs:List Rl)(j:Nat)(sv:ag),But b w wr/\At wr b s j d/\512<=k+j/\rs.length<=j/\aL wr w.heap.size #[ar 0,aj ⟨#[]⟩,aw none 0 0] 110/\
  aL wr (w.heap.size+1) #[ar (dH s (K s (i+1))),aj (cI s (K s (i+1))),sv] 110/\iH w.heap.size b wr sv rs/\Hid (dj (TT s) (PP s) k rs j=R))
 ·exact ⟨[],j,_,(eE bK),(hW bG),ai,au,(ad.other au _).other au _,(bV.set 0 _).set 1 _,⟨[],rfl,au,bQ⟩,bX⟩
 ·obtain ⟨rs,j,sv,bk,ha,bo,cL,aT,am,cp,be⟩:=hrel;have cE:12<=gk:=by have:=ha.le;omega
  obtain ⟨b8,rfl⟩:∃f,gk=f+1:=⟨gk-1,ai⟩;obtain ⟨l,bq,bs,a9⟩:=cp;obtain ⟨sa,sc,rfl⟩:=ax a9;have Z:=ak ha;have aJ:=ak bk;have ad:=ak aT;have ah:=ak am;have aK:=ak bq;have aO:=ak bs;have aP:=ak a9;have ab:=aE be;obtain ⟨t0,t1,t2⟩:=am.three;obtain ⟨av,az,aB⟩:=aT.three;have aF:=aT.fz;have bB:=am.fz;have bu:=am.lt;have bv:w.heap.size<wr.heap.size:=ai;have n1:=ha.pos.rd.c1;have n2:=ha.pos.rd.c2;have bt:=ha.lt;unfold dj at ab;clear ha bk aT am bq bs a9 be cw cx cy g0 b9 cd cD cB
  cases h1:eqs (TT s j) (sg 125)
  ·simp only [h1,Bool.false_eq_true,a8] at ab;have bg:Hid (iH w.heap.size b wr (aw sa rs.length sc) rs):=ak ⟨l,aK,aO,aP⟩;have Q:=ak ab;clear ab;go_wp2_with fail;refine (ats b s j d _ _ (sg 125) _ ?_ ?_).mono ?_
   ·exact (hW Z)
   ·exact dt _ _ _ _ au
   rintro e w1 ⟨rfl,rfl⟩;rw [h1]
   go_upto_region 9 with fail
   go_cut [38] (fun c cA=>c=.bool (dC (TT s j)&&rs.length==6)/\Below (wr.alloc (bE aj ⟨#[125]⟩)).heap.size (wr.alloc (bE aj ⟨#[125]⟩)) cA)
   ·go_wp2_with fail;refine (lV _ _ _ (qf s (K s j) fI Z.pos.le)).mono ?_;rintro e aZ ⟨rfl,I⟩;obtain ⟨aV,aX,aY⟩:=((ah.alloc (bE aj ⟨#[125]⟩)).below I).three;rw [show dC (cI s (K s j))=dC (TT s j) from rfl];have bT:=ak (show (rs.length==6)=((rs.length:Int)==6) from gU.2 (by rw [dQ,dQ];omega))
    cases co:dC (TT s j)<;>cases ce:((rs.length:Int)==6)
    all_goals
     go_wp2
     go_meet
     exact ⟨by rw [co,bT,ce];rfl,I⟩
   obtain ⟨rfl,I⟩:=hcut;obtain ⟨aZ,cq⟩:∃z,z=wc:=⟨_,rfl⟩;subst cq;have aG:=ak ((show At (wr.alloc (bE aj ⟨#[125]⟩)) b s j d from (hW Z)).below I);have B3:=ak ((show But b w (wr.alloc (bE aj ⟨#[125]⟩)) from (eE aJ)).trans (But.of_below I));have D:=(ah.alloc (bE aj ⟨#[125]⟩)).below I;have R3:=(ad.alloc (bE aj ⟨#[125]⟩)).below I;have P3:=ak (bg.frame ((fx.below (b:=b) ((aA _ wr).alloc aH (bE aj ⟨#[125]⟩))).trans (fx.below I)) ai);clear I t0 t1 t2 av az aB aF bB n1 n2 Z aJ ad ah aK aO aP bu bv bg bt;have Jk:=ak D;have NM:=ak R3;obtain ⟨aV,aX,aY⟩:=D.three;obtain ⟨av,az,aB⟩:=R3.three;have aF:=R3.fz;have zq:=D.fz;have cg:=D.lt;have ch:=R3.lt;have bt:=aG.lt;clear D R3
   cases ck:(dC (TT s j)&&rs.length==6)<;>rw [ck] at Q
   ·skip
    cases ap:kS (TT s) (PP s) j with
    |error e=>
     obtain ⟨b7,bx⟩:=e;have C:=ak (CU b s j d aZ hs aG bl);rw [ap] at C Q;clear ap;go_wp2_with fail;refine C.mono ?_;rintro e w4 ⟨b4,cz,d4,rfl,⟨cR,cS,b6,rfl,cl⟩,a4⟩;refine NW ?_;intro R4 G4 B4 P4 A4 T7 HG4 y0 y1 y2 k0 k1 k2 zy zk yl yl';clear a4 b4 R4 G4 aV aX aY av az aB aF zq C;unfold cm
     rcases cl with rfl|⟨V,Y,rfl⟩
     all_goals
      go_wp2;rw [<-Q];refine bF (v:=.tuple #[.agg #[ar (dH s (K s (i+1))),aj (cI s (K s (i+1))),aw sa rs.length sc],cm b7]) (cf results114 _ _ w.heap.size _ 110 _ _ rfl rfl ?hB underlying110 rfl aM) rfl ?post
      case hB=>exact ⟨_,(cZ T7),bL⟩
      case post=>exact ⟨(eE B4),_,d4,rfl,⟨_,_,_,_,_,rfl⟩,(hW A4)⟩
    |ok y=>
     obtain ⟨A,bx⟩:=y;have C:=ak (CU b s j d aZ hs aG bl);have cH:=og _ _ _ _ _ ap;rw [ap] at C Q;clear ap;go_wp2_with fail;refine C.mono ?_;rintro e w4 ⟨b4,cz,rfl,⟨b6,rfl,bb⟩,a4⟩;refine NW ?_;intro R4 G4 B4 P4 A4 T7 HG4 y0 y1 y2 k0 k1 k2 zy zk yl yl';clear a4 b4 R4 G4 aV aX aY av az aB aF zq C;obtain ⟨V,Y,rfl⟩:=bb.isI;have b3:=ak bb;have cP:=A4.le;clear bb;obtain ⟨bz,e1,bh,bi⟩:=P4.u;have bO:=ak e1;have bP:=ak bh;have E3:=ak bi;clear e1 bh bi;unfold cm at*;go_wp2_with (at_builtin;go_must (refine ez rfl underlying108 Tryz.info159 w.heap.size ((E3.alloc _).alloc _) (w4.heap.size+1) 1 (Aq (A,.iface V Y)) (w4.heap.size+2) ?hrest))
     case hrest=>
      intro g5 bf w5 bw af ci cG;have U:an w4 ((w4.alloc (cC ar A.place aj A.name V Y)).alloc (cC ar A.place aj A.name V Y)):=(bp.alloc aH _).alloc au _;have aI:=HG4.below U;have aQ:=T7.below U;have a5:=A4.below U;have ae:=(E3.alloc (cC ar A.place aj A.name V Y)).alloc (cC ar A.place aj A.name V Y);have a7:oS b w4 w5:=fun g cs f cF aU=>(af.block g (cM (lt_of_some aU) U.size) (dT ae ((U.block g (lt_of_some aU)).trans aU) ay)).trans (U.block g (lt_of_some aU))
      have b5:=ak (show ∀p∈bz++[(A,Value.iface V Y)],bA b w5 p.1.body p.2 from fun p J=>by
       rw [aW] at J
       rcases J with J|J
       ·exact bA.frame a7 _ _ (bP p J)
       simp at J;subst J;exact bA.frame a7 _ _ b3)
      have ac:=ak (show aL w5 (w.heap.size+1) #[ar (dH s (K s (i+1))),aj (cI s (K s (i+1))),aw sa rs.length sc] 110 from (af.block _ aI.lt (own_ne ae aI ay)).trans aI);have bW:=ak (show aL w5 w.heap.size #[ar 0,aj ⟨#[]⟩,aw none 0 0] 110 from (af.block _ aQ.lt (own_ne ae aQ ay)).trans aQ);have bI:=ak (a5.grown af (own_ne ae a5.pos.rd.blk ay));have bN:=ak (But.grown (B4.trans (But.of_below U)) af (fun k bo=>(ae.lt k bo).1));have b0:=ak bw;obtain ⟨cr,ct,cu⟩:=ac.three;have cV:=ac.fz;have cQ:=ac.lt;clear U aI aQ a5 ae a7 bw af ci y0 y1 y2 k0 k1 k2 zy zk;go_wp2
      go_roundg b8
      case measure=>omega
      case rel=>exact ⟨rs++[A],bx,_,(eE bN),(hW bI),ai,aS,(cZ bW),ac.set 2 _,⟨bz++[(A,.iface V Y)],by simp [bO.u],fun p J=>bA.set (b5 p J) ac ay 2 _,by rw [List.length_append,cN];exact bU b0 ac ay 2 _⟩,Q⟩
   go_wp2;rw [<-Q];refine bF (v:=.tuple #[.agg #[ar (dH s (K s (i+1))),aj (cI s (K s (i+1))),aw sa rs.length sc],cm 3]) (cf results114 _ _ w.heap.size _ 110 _ _ rfl rfl ?hB underlying110 rfl aM) rfl ?post
   case hB=>exact ⟨_,(cZ NM),bL⟩
   case post=>exact ⟨(eE B3),_,d,rfl,⟨_,_,_,_,_,rfl⟩,(hW aG)⟩
  simp only [h1,if_true] at ab;have Q:=ak ab;have bS:=ak h1;clear ab;go_wp2_with fail;refine (ats b s j d _ _ (sg 125) _ ?_ ?_).mono ?_
  ·exact (hW Z)
  ·exact dt _ _ _ _ au
  rintro e w1 ⟨rfl,rfl⟩;rw [h1];clear h1;go_wp2_with fail;have bH:=ak (show At (wr.alloc (bE aj ⟨#[125]⟩)) b s j d from (hW Z));have bM:=ak (show But b w (wr.alloc (bE aj ⟨#[125]⟩)) from (eE aJ));have D:=ah.alloc (bE aj ⟨#[125]⟩);have R3:=ad.alloc (bE aj ⟨#[125]⟩);have P3:=ak (iH.frame (base:=w.heap.size) ⟨l,aK,aO,aP⟩ (fx.below (b:=b) ((aA _ wr).alloc aH (bE aj ⟨#[125]⟩))) ai);generalize wr.alloc (bE aj ⟨#[125]⟩)=W at*;clear t0 t1 t2 av az aB aF bB n1 n2 Z aJ ad ah aK aO aP bu bv;have Jk:=ak D;have NM:=ak R3;obtain ⟨aV,aX,aY⟩:=D.three;have zq:=D.fz;have cg:=D.lt;have ch:=R3.lt;clear D R3;have cK:¬(w.heap.size+1=w.heap.size):=ai
  go_region_held3 (fun w'=>w'.cell? (aN (w.heap.size+1))=some (ar (dH s (K s (i+1))))/\w'.cell? (aC (w.heap.size+1) 1)=some (aj (cI s (K s (i+1))))/\w'.cell? (aC (w.heap.size+1) 2)=some (aw sa rs.length sc)) (go_keep)
   ((go_at_call 169;refine (iG b s j d (sg 125) _ a6 ?_ bS ay).mono ?_;(exact bH.drew);rintro e aZ ⟨rfl,a3,al⟩;have G4:=Jk.drew.but al ai;obtain ⟨k0,k1,k2⟩:=G4.three;have R4:=NM.drew.but al ai;obtain ⟨cr,ct,cu⟩:=R4.three;have zk:=aL.fz R4;have T7:=ak R4;have A4:=ak a3;have P4:=ak (P3.frame (fx.of_but (But.trans ((But.refl b W).drew) al)) ai);have B4:=ak (But.trans bM.drew al);clear G4 R4 a3 al))
  go_wp2;rw [<-Q];refine bF (v:=.tuple #[.agg #[ar (dH s (K s (i+1))),aj (cI s (K s (i+1))),aw sa rs.length sc],.nilIface]) (cf results114 _ _ w.heap.size _ 110 _ _ rfl rfl ?hB underlying110 rfl aM) rfl ?post
  case hB=>exact ⟨_,(cZ T7),bL⟩
  case post=>exact ⟨(eE B4),_,rfl,⟨_,rfl,(P4.frame ((fx.set T7 ay ay 0 _).trans ((fx.set (T7.set 0 _) ay ay 1 _).trans (fx.set ((T7.set 0 _).set 1 _) ay ay 2 _))) ai).base ai⟩,(hW A4)⟩
section
def NY(q:br) (h:cj br->aD:=by
 intro zq;have R4:=R3.but b4 ai;have G4:=G3.but b4 ai;have B4:=But.trans B3 b4;have P4:=P3.frame (iC.of_but b4) ai;have y0:=R4.cell (o:=0) rfl;have k0:=G4.cell (o:=0) rfl
 revert R4 G4 B4 P4 y0 k0
 exact zq.1):aD:=h ⟨q⟩
def yu(b s i d w)(hs:s.size<=500)(h:At w b s i d)(C:d+4=4):
  Calls prog 114 #[bc b] w (Post b s d w (j5 (TT s) (PP s) i) (Jl b) UG):=by
 unfold j5
 cases A:eqs (TT s i) jN
 ·simp only [A,Bool.false_eq_true,a8];exact UH b s i d w hs h A
 ·simp only [A,if_true]
  cases hn:cb (TT s) (sg 123) (i+1) with
  |error e=>exact Lf b s i d w hs h A e.1 e.2 (hn)
  |ok y=>
   obtain ⟨⟨⟩,j⟩:=y;exact UI b s i d w hs h C A j (hn)
def Tryz.info110:(Tryz.prog.info? 110).map (fun i=>(i.zero,i.size,i.bytes))=some (some (.agg #[ar 0,aj ⟨#[]⟩,aw none 0 0]),3,48):=by kernel_rfl
def Ar(p:Ty×ag):List ag:=[ar p.1.place,aj p.1.name,p.2]
def kU(base b:Nat)(w:af)(sv:ag)(ts:List Ty):Prop:=
 ∃l:List (Ty×ag),l.map Prod.fst=ts/\(∀p∈l,iH (b+1) b w p.2 p.1.rels)/\w.ownsRow base 110 3 sv ts.length (l.flatMap Ar)
def iC(b:Nat)(w w':af):Prop:=∀g cs T f,b+1<=g->w.heap[g]? =some (.cells cs T f)->(T=207\/T=159\/T=110)->w'.heap[g]? =w.heap[g]?
def iC.of_but(h:But b w w'):iC b w w':=fun g cs T f C A _=>h.block g (lt_of_some A) ai
def iC.below(h:an w w'):iC b w w':=iC.of_but (But.of_below h)
def iC.r(h:iC b w w'):fx b w w':=fun g cs T f A C D=>h g cs T f A C (by rcases D with h|h;exact .inl h;exact .inr (.inl h))
def iC.trans{x}(h:iC b x y)(k:iC b y z):iC b x z:=fun g cs T f A C D=>(k g cs T f A ((h g cs T f A C D).trans C) D).trans (h g cs T f A C D)
variable {g:Nat}
def iC.set(C:aL w g cs T)(h1:T≠207)(h2:T≠159)(D:T≠110)(o u):iC b w (w.setCell (aC g o) u):=
 fun g' I T' f J A h=>dY _ _ _ _ (fun (e':g'=g)=>by
  subst e';unfold aL at C;rw [C] at A;simp at A;obtain ⟨_,rfl,_⟩:=A
  rcases h with h|h|h
  ·exact h1 h
  ·exact h2 h
  exact D h)
def kU.frame{base:Nat}(h:kU base b w sv ts)(k:iC b w w')(I:b+1<=base):kU base b w' sv ts:=by
 obtain ⟨l,h1,h2,A⟩:=h;exact ⟨l,h1,fun p D=>(h2 p D).frame k.r aH,az A fun g cs f J C=>k g cs _ f ai C (.inr (.inr rfl))⟩
def kU.base{base:Nat}(h:kU base b w sv ts)(C:base'<=base):kU base' b w sv ts:=by
 obtain ⟨l,h1,h2,A⟩:=h;exact ⟨l,h1,h2,bn A C⟩
def RepM(b:Nat)(w:af)(ts:List Ty)(v:ag):Prop:=∃sv,v=.agg #[sv]/\kU (b+1) b w sv ts
def IsM(v:ag):Prop:=∃(a:Option Addr)(n c:Nat),v=.agg #[aw a n c]
def FZ(b s d w)(hs:s.size<=500)(h:At w b s 0 d)(aN:d+4=4):
  Calls prog 72 #[bc b] w (Post b s d w (dI (TT s) (PP s)) (RepM b) IsM):=by
 unfold dI;generalize bi:cR (TT s) (PP s) 512 [] 0=R;have bM:=h.lt;have bC:(s.size<=maxLen):=fI;go_enter func72,ntmps72;go_wp2_with fail
 go_loopg [6] 512 (fun k bT wr=>∃(ts:List Ty)(j:Nat)(sv:ag),But b w wr/\At wr b s j d/\512<=k+j/\ts.length<=j/\aL wr w.heap.size #[aw none 0 0] 75/\
  aL wr (w.heap.size+1) #[sv] 75/\kU w.heap.size b wr sv ts/\(cR (TT s) (PP s) k ts j=R))
 ·exact ⟨[],0,_,((But.refl b w).alloc _).alloc _,(hW h),ai,au,(aL.new w _ _).alloc _,aL.new' (w.alloc _) _ _ _ au,⟨[],rfl,au,bQ⟩,bi⟩
 ·obtain ⟨ts,j,sv,aG,ha,aO,bN,ab,ae,bs,A⟩:=hrel;have bH:12<=gk:=by have:=ha.le;omega
  obtain ⟨be,rfl⟩:∃f,gk=f+1:=⟨gk-1,ai⟩;obtain ⟨l,aP,aQ,aI⟩:=bs;obtain ⟨sa,sc,rfl⟩:=ax aI;have aC:(kU w.heap.size b wr (aw sa ts.length sc) ts):=ak ⟨l,aP,aQ,aI⟩;have t0:=ae.cell (o:=0) rfl;have ad:=ab.cell (o:=0) rfl;simp only [List.getElem_toArray,List.getElem_cons_zero] at t0 ad;have az:=ab.fz;have bB:=ae.fz;have bn:=ae.lt;have bo:w.heap.size<wr.heap.size:=ai;have aR:=ha.lt;unfold cR at A
  cases h1:eqs (TT s j) em
  ·simp only [h1,Bool.false_eq_true,a8] at A;go_wp2_with fail;refine (ats b s j d _ _ em _ ?_ ?_).mono ?_
   ·exact (hW ha)
   ·exact dt _ _ _ _ au
   rintro e w1 ⟨rfl,rfl⟩;rw [h1]
   go_upto_region 3 with fail
   go_cut [19] (fun c bx=>c=.bool (eqs (TT s j) jN&&ts.length==5)/\bx=((wr.alloc (bE aj ⟨#[]⟩)).alloc (bE aj ⟨#[116,121,112,101]⟩)))
   ·go_wp2_with fail;refine (ats b s j d _ _ jN _ ?_ ?_).mono ?_
    ·exact (hW ha)
    ·exact dt _ _ _ _ au
    rintro e w1 ⟨rfl,rfl⟩;have a5:=show (ts.length==5)=((ts.length:Int)==5) from gU.2 (by rw [dQ,dQ];omega)
    cases h2:eqs (TT s j) jN<;>cases bh:((ts.length:Int)==5)
    all_goals
     go_wp2
     go_meet
     exact ⟨by rw [h2,a5,bh];rfl,rfl⟩
   obtain ⟨rfl,rfl⟩:=hcut;have ah:=show At ((wr.alloc (bE aj ⟨#[]⟩)).alloc (bE aj ⟨#[116,121,112,101]⟩)) b s j d from (hW ha)
   have B3:=show But b w ((wr.alloc (bE aj ⟨#[]⟩)).alloc (bE aj ⟨#[116,121,112,101]⟩)) from (eE aG)
   have G3:=(ae.alloc (bE aj ⟨#[]⟩)).alloc (bE aj ⟨#[116,121,112,101]⟩);have R3:=(ab.alloc (bE aj ⟨#[]⟩)).alloc (bE aj ⟨#[116,121,112,101]⟩);have P3:=aC.frame (iC.below (b:=b) (((aA _ wr).alloc aH (bE aj ⟨#[]⟩)).alloc au (bE aj ⟨#[116,121,112,101]⟩))) ai;generalize (wr.alloc (bE aj ⟨#[]⟩)).alloc (bE aj ⟨#[116,121,112,101]⟩)=aX at*;clear t0 ad az bB ha aG ab ae aP aQ aI bn bo aC aR;have aJ:=G3.cell (o:=0) rfl;have ad:=R3.cell (o:=0) rfl;simp only [List.getElem_toArray,List.getElem_cons_zero] at aJ ad;have az:=R3.fz;have zq:=G3.fz;have bD:=G3.lt;have bG:=R3.lt;have aR:=ah.lt
   cases bk:(eqs (TT s j) jN&&ts.length==5)<;>rw [bk] at A
   ·skip
    cases af:j5 (TT s) (PP s) j with
    |error e=>
     obtain ⟨a9,aU⟩:=e;have C:=yu b s j d aX hs ah aN;rw [af] at C A;clear af;go_wp2_with fail;refine C.mono ?_;rintro e V ⟨b4,bw,d4,rfl,⟨bR,bS,J,U,Q,rfl⟩,ap⟩;refine NY ?_;intro R4 G4 B4 P4 y0 k0;simp only [List.getElem_toArray,List.getElem_cons_zero] at y0 k0;have aZ:=R4.fz;have aY:=G4.fz;have bz:=G4.lt;have bA:w.heap.size<V.heap.size:=ai;clear b4 aJ ad az zq C;unfold cm;go_wp2;rw [<-A];refine bF (v:=.tuple #[.agg #[aw sa ts.length sc],cm a9]) (cf results72 _ _ w.heap.size _ 75 _ _ rfl rfl ?hB underlying75 rfl aM) rfl ?post
     case hB=>exact ⟨_,(cZ R4),bL⟩
     case post=>exact ⟨(eE B4),_,d4,rfl,⟨_,_,_,rfl⟩,(hW ap)⟩
    |ok y=>
     obtain ⟨t4,aU⟩:=y;have C:=yu b s j d aX hs ah aN;have bK:=uH _ _ _ _ _ af;rw [af] at C A;clear af;go_wp2_with fail;refine C.mono ?_;rintro e V ⟨b4,bw,rfl,⟨bv,rfl,aT⟩,ap⟩;refine NY ?_;intro R4 G4 B4 P4 y0 k0;simp only [List.getElem_toArray,List.getElem_cons_zero] at y0 k0;have aZ:=R4.fz;have aY:=G4.fz;have bz:=G4.lt;have bA:w.heap.size<V.heap.size:=ai;clear b4 aJ ad az zq C;have bl:∃a n c,bv=aw a n c:=by
      obtain ⟨_,_,_,bg⟩:=aT;obtain ⟨a,c,h⟩:=ax bg;exact ⟨a,_,c,h⟩
     obtain ⟨J,U,Q,rfl⟩:=bl;have bO:=ap.le;obtain ⟨aV,e1,bb,aK⟩:=aE P4;go_wp2_with (at_builtin;go_must (refine ez rfl underlying73 Tryz.info110 w.heap.size ((aK.alloc _).alloc _) (V.heap.size+1) 1 (Ar (t4,aw J U Q)) (V.heap.size+2) ?hrest))
     case hrest=>
      intro g5 bf w5 bq ac bj bJ;have I:an V ((V.alloc (ba ar t4.place aj t4.name aw J U Q)).alloc (ba ar t4.place aj t4.name aw J U Q)):=(bp.alloc aH _).alloc au _;have al:=G4.below I;have am:=R4.below I;have aB:=ap.below I;have Z:=(aK.alloc (ba ar t4.place aj t4.name aw J U Q)).alloc (ba ar t4.place aj t4.name aw J U Q);have aF:fx b V w5:=fun g cs T f bI av bt=>(ac.block g (cM (lt_of_some av) I.size) (dT Z ((I.block g (lt_of_some av)).trans av) (by rcases bt with rfl|rfl<;>decide))).trans (I.block g (lt_of_some av))
      have a7:=(show ∀p∈aV++[(t4,Value.slice J U Q)],iH (b+1) b w5 p.2 p.1.rels from fun p D=>by
       rw [aW] at D
       rcases D with D|D
       ·exact (bb p D).frame aF aH
       simp at D;subst D;exact aT.frame aF aH)
      have Y:=show aL w5 (w.heap.size+1) #[aw sa ts.length sc] 75 from (ac.block _ al.lt (own_ne Z al ay)).trans al
      have a6:=show aL w5 w.heap.size #[aw none 0 0] 75 from (ac.block _ am.lt (own_ne Z am ay)).trans am
      have a3:=aB.grown ac (own_ne Z aB.pos.rd.blk ay);have a4:=But.grown (B4.trans (But.of_below I)) ac (fun k aO=>(Z.lt k aO).1);have bu:=Y.cell (o:=0) rfl;simp only [List.getElem_toArray,List.getElem_cons_zero] at bu;have bV:=Y.fz;have bP:=Y.lt;clear I al am aB Z aF ac bj y0 k0 aZ aY;go_wp2
      go_roundg be
      case measure=>omega
      case rel=>exact ⟨ts++[t4],aU,_,(eE a4),(hW a3),ai,aS,(cZ a6),Y.set 0 _,⟨aV++[(t4,aw J U Q)],by simp [e1],fun p D=>(a7 p D).frame (fx.set Y ay ay 0 _) aH,by rw [List.length_append,cN];exact bU bq Y ay 0 _⟩,A⟩
   go_wp2;rw [<-A];refine bF (v:=.tuple #[.agg #[aw sa ts.length sc],cm 3]) (cf results72 _ _ w.heap.size _ 75 _ _ rfl rfl ?hB underlying75 rfl aM) rfl ?post
   case hB=>exact ⟨_,(cZ R3),bL⟩
   case post=>exact ⟨(eE B3),_,d,rfl,⟨_,_,_,rfl⟩,(hW ah)⟩
  simp only [h1,if_true] at A;go_wp2_with fail;refine (ats b s j d _ _ em _ ?_ ?_).mono ?_
  ·exact (hW ha)
  ·exact dt _ _ _ _ au
  rintro e w1 ⟨rfl,rfl⟩;rw [h1];go_wp2;rw [<-A];refine bF (v:=.tuple #[.agg #[aw sa ts.length sc],.nilIface]) (cf results72 _ _ w.heap.size _ 75 _ _ rfl rfl ?hB underlying75 rfl aM) rfl ?post
  case hB=>exact ⟨_,(cZ ab),bL⟩
  case post=>exact ⟨(eE aG),_,rfl,⟨_,rfl,(aC.frame ((iC.set ab ay ay ay 0 _).trans (iC.below (bp.alloc aH _))) ai).base ai⟩,(hW ha)⟩
end
section
abbrev bN:=@List.flatMap_cons
abbrev jA:=@List.getElem?_eq_none
abbrev F0:=@List.getElem?_take_of_lt
abbrev aK:=@Value.slice.injEq
abbrev cg:=@Addr.mk.injEq
abbrev kV:=@List.findIdx?_eq_some_iff_getElem
abbrev pj:=@List.findIdx?_eq_none_iff
def nf (h:aD:=by
 simpa using h):aD:=h
def NZ (h:aD:=by
 rintro e C ⟨rfl,A⟩;rw [he];go_wp2;go_roundw
 ·exact ⟨k+1,ai,by go_num,(hb.trans (A.mono hb.size)),Hn⟩
 simp [intOf];omega):aD:=h
def N0 (h:aD:=by
 rintro e C ⟨rfl,A⟩;rw [he];go_wp2;go_ret;exact ⟨by rw [qd];rfl,(hb.trans (A.mono hb.size))⟩):aD:=h
def N1 (h:aD:=by
 have A:=Jm x l (fun j h=>Lg j h ai);go_wp2;go_ret;exact ⟨by rw [A];rfl,hb⟩):aD:=h
def uK (h:aD:=by
 exact ⟨0,ai,rfl,aA _ _,(fun j e h=>ai)⟩):aD:=h
abbrev E3:=Nat×ae×ag
def c3(e:E3):List ag:=[ar e.1,aj e.2.1,e.2.2]
def h6(w:af)(T:TypeId)(v:ag)(l:List E3):Prop:=w.ownsRow 0 T 3 v l.length (l.flatMap c3)
def yw(e):∀(l:List E3)(i:Nat),l[i]? =some e->(l.flatMap c3)[i*3]? =some (ar e.1)/\(l.flatMap c3)[i*3+1]? =some (aj e.2.1)/\(l.flatMap c3)[i*3+2]? =some e.2.2
 | [],i,h=>by simp at h
 |e'::l,0,h=>by simp at h;subst h;simp [bN,c3]
 |e'::l,i+1,h=>by
  have:=yw e l i nf;rw [bN,show (i+1)*3=i*3+3 by omega]
  simpa [c3] using this
variable {base:Nat}
def aZ(h:w.ownsRow base e size v n xs)(k u)(A:xs[k]? =some u):∃g c,v=aw (some (aN g)) n c/\w.cell? (aC g k)=some u:=by
 have C:k<xs.length:=by
  rcases fE k xs.length with h|h
  ·exact h
  rw [jA h] at A;cases A
 rcases h with ⟨h1,⟨rfl,rfl⟩|⟨g,cap,Q,rfl,Y,I,R,U,V,D⟩⟩
 ·simp at h1;rw [h1] at C;simp at C
 refine ⟨g,cap,rfl,?_⟩;rw [<-D] at A;have J:k<n*size:=ai;rw [F0 J] at A
 simpa [World.cell?,I] using A
def h6.cell{l}(h:h6 w T v l)(i)(hi:i<l.length):
  ∃g c,v=aw (some (aN g)) l.length c/\w.cell? (aC g (i*3))=some (ar l[i].1)/\w.cell? (aC g (i*3+1))=some (aj l[i].2.1)/\w.cell? (aC g (i*3+2))=some l[i].2.2:=by
 obtain ⟨h0,h1,h2⟩:=yw l[i] l i (aI hi);obtain ⟨g,c,rfl,e0⟩:=aZ h _ _ h0;obtain ⟨g',D,e',e1⟩:=aZ h _ _ h1;obtain ⟨J,I,A,C⟩:=aZ h _ _ h2;simp only [aK,aR,cg] at e' A;obtain ⟨⟨rfl,_⟩,_⟩:=e';obtain ⟨⟨rfl,_⟩,_⟩:=A;exact ⟨g,c,rfl,e0,e1,C⟩
def h6.below{l}(h:h6 w T v l)(k:an w w'):h6 w' T v l:=
 az h fun g cs f _ A=>k.block g (lt_of_some A)
def CV(x:ae)(l:List E3):Int:=match l.findIdx? (fun e=>eqs e.2.1 x) with
 |some k=>k
 |none=> -1
def uL(x l)(k:Nat)(I:k<l.length)(C:eqs l[k].2.1 x=true)(A:∀j,(h:j<l.length)->j<k->eqs l[j].2.1 x=false):CV x l=k:=by
 have:l.findIdx? (fun e=>eqs e.2.1 x)=some k:=by
  rw [kV];exact ⟨I,C,fun j D=>by rw [A j ai D];decide⟩
 simp [CV,this]
def Jm(x l)(A:∀j,(h:j<l.length)->eqs l[j].2.1 x=false):CV x l= -1:=by
 have:l.findIdx? (fun e=>eqs e.2.1 x)=none:=by
  rw [pj];intro e C;obtain ⟨j,D,rfl⟩:=dB C;exact A j D
 simp [CV,this]
def Jn(p:Nat)(n x v)(h:Nat)(w)(A:aL w h #[aj x] 9):
  Calls prog 96 #[.agg #[ar p,aj n,v],bc h] w fun e w'=>e=bj (.bool (eqs n x))/\an w w':=by
 have c0:w.cell? (aN h)=some (aj x):=A.cell rfl;have hl:=A.lt;have C:(n.toList==x.toList)=eqs n x:=by rw [aT,aT];rfl
 go_enter func96,ntmps96;go_wp2;go_ret;exact ⟨rfl,bp.alloc aH _⟩
def sX(v l x q w)(U:l.length<=1000)(h:h6 w 110 v l)(J:aL w q #[aj x] 9):
  Calls prog 95 #[v,.func (.func 96) #[] #[bc q]] w fun e w'=>e=bj (ar (CV x l))/\an w w':=by
 obtain ⟨sa,sc,rfl⟩:=ax h;go_enter func95,ntmps95;go_wp2
 go_loopw [5,8] (fun u i wr=>∃k:Nat,k<=l.length/\i=ar k/\an w wr/\(∀j,(h:j<l.length)->j<k->eqs l[j].2.1 x=false)) (fun _ i _=>l.length-(intOf i).toNat)
 ·exact uK
 ·obtain ⟨k,R,rfl,hb,Lg⟩:=hrel
  by_cases I:k<l.length
  ·obtain ⟨g,c,e1,k0,k1,V⟩:=(h.below hb).cell k I;simp only [aK] at e1;obtain ⟨rfl,_,rfl⟩:=e1;have D:=J.below hb
   cases he:eqs l[k].2.1 x
   ·have Hn:=(show ∀j,(h:j<l.length)->j<k+1->eqs l[j].2.1 x=false from fun j h Q=>by
     by_cases e:j=k
     ·subst e;exact he
     exact Lg j h ai)
    go_wp2_with fail;refine (Jn _ _ _ _ _ _ D).mono ?_;exact NZ
   have qd:=uL x l k I he Lg;go_wp2_with fail;refine (Jn _ _ _ _ _ _ D).mono ?_;exact N0
  exact N1
def Jo(p:Nat)(n x v)(h:Nat)(w)(A:aL w h #[aj x] 9):
  Calls prog 206 #[.agg #[ar p,aj n,v],bc h] w fun e w'=>e=bj (.bool (eqs n x))/\an w w':=by
 have c0:w.cell? (aN h)=some (aj x):=A.cell rfl;have hl:=A.lt;have C:(n.toList==x.toList)=eqs n x:=by rw [aT,aT];rfl
 go_enter func206,ntmps206;go_wp2;go_ret;exact ⟨rfl,bp.alloc aH _⟩
def sY(v l x q w)(U:l.length<=1000)(h:h6 w 159 v l)(J:aL w q #[aj x] 9):
  Calls prog 205 #[v,.func (.func 206) #[] #[bc q]] w fun e w'=>e=bj (ar (CV x l))/\an w w':=by
 obtain ⟨sa,sc,rfl⟩:=ax h;go_enter func205,ntmps205;go_wp2
 go_loopw [5,8] (fun u i wr=>∃k:Nat,k<=l.length/\i=ar k/\an w wr/\(∀j,(h:j<l.length)->j<k->eqs l[j].2.1 x=false)) (fun _ i _=>l.length-(intOf i).toNat)
 ·exact uK
 ·obtain ⟨k,R,rfl,hb,Lg⟩:=hrel
  by_cases I:k<l.length
  ·obtain ⟨g,c,e1,k0,k1,V⟩:=(h.below hb).cell k I;simp only [aK] at e1;obtain ⟨rfl,_,rfl⟩:=e1;have D:=J.below hb
   cases he:eqs l[k].2.1 x
   ·have Hn:=(show ∀j,(h:j<l.length)->j<k+1->eqs l[j].2.1 x=false from fun j h Q=>by
     by_cases e:j=k
     ·subst e;exact he
     exact Lg j h ai)
    go_wp2_with fail;refine (Jo _ _ _ _ _ _ D).mono ?_;exact NZ
   have qd:=uL x l k I he Lg;go_wp2_with fail;refine (Jo _ _ _ _ _ _ D).mono ?_;exact N0
  exact N1
end
section
abbrev aY(a0:ag):Obj:=.cells #[a0] 75
def N2 (h:aD:=by
 have:=h.cell k hk;obtain ⟨g',C,e1,A,_⟩:=this;simp only [aK,aR,cg] at e1;have:=ei A;omega):aD:=h
def hI(x:ae)(l:List E3):Option E3:=l.find? fun e=>eqs e.2.1 x
def yx{l}(h:hI x l=none):CV x l= -1:=by
 unfold hI at h;rw [List.find?_eq_none] at h;exact Jm x l (fun j A=>by simpa using h l[j] (bu A))
def yz{l y}(h:hI x l=some y):∃k,∃A:k<l.length,l[k]=y/\CV x l=k:=by
 unfold hI at h;rw [List.find?_eq_some_iff_getElem] at h;obtain ⟨h1,k,A,h2,C⟩:=h;refine ⟨k,A,h2,uL x l k A (by rw [h2];exact h1) (fun j I D=>by simpa using C j D)⟩
variable {g:Nat}
def ei{o}(h:w.cell? (aC g o)=some v):g<w.heap.size:=by
 rcases fE g w.heap.size with k|k
 ·exact k
 simp [World.cell?,Array.getElem?_eq_none k] at h
def yA(v l x w)(Q:l.length<=1000)(h:h6 w 110 v l)(J:hI x l=none):
  Calls prog 57 #[.agg #[v],aj x] w fun e w'=>e=bj (.tuple #[.agg #[ar 0,aj ⟨#[]⟩,aw none 0 0],cm 5])/\an w w':=by
 obtain ⟨sa,sc,rfl⟩:=ax h;have W0:an w (((w.alloc (aY aw sa l.length sc)).alloc (bE aj x)).alloc (ba ar 0 aj ⟨#[]⟩ aw none 0 0)):=((bp.alloc aH _).alloc au _).alloc aS _;have C:=sX (aw sa l.length sc) l x (w.heap.size+1) _ Q (h.below W0) ((aL.new' (w.alloc (aY aw sa l.length sc)) #[aj x] 9 (w.heap.size+1) au).alloc (ba ar 0 aj ⟨#[]⟩ aw none 0 0));have M:=((aL.new w #[aw sa l.length sc] 75).alloc (bE aj x)).alloc (ba ar 0 aj ⟨#[]⟩ aw none 0 0);have R:=aL.new' ((w.alloc (aY aw sa l.length sc)).alloc (bE aj x)) #[ar 0,aj ⟨#[]⟩,aw none 0 0] 110 (w.heap.size+2) au;go_enter func57,ntmps57;go_wp2_with fail;refine C.mono ?_;rintro e w1 ⟨rfl,D⟩;have A:=R.below D;have I:=W0.trans (D.mono W0.size);obtain ⟨U,V,Y⟩:=A.three;have Z:=A.fz;rw [yx J];go_wp2;refine bF (v:=.tuple #[.agg #[ar 0,aj ⟨#[]⟩,aw none 0 0],cm 5]) (cf results57 _ _ (w.heap.size+2) _ 110 _ _ rfl rfl ?hB underlying110 rfl aM) rfl ?post
 case hB=>exact ⟨_,(cZ A),bL⟩
 case post=>exact ⟨rfl,(cq I)⟩
def pk(v l x w)(ac:l.length<=1000)(h:h6 w 110 v l)(y)(Z:hI x l=some y)(ae:∃a n c,y.2.2=aw a n c):
  Calls prog 57 #[.agg #[v],aj x] w fun e w'=>e=bj (.tuple #[.agg #[ar y.1,aj y.2.1,y.2.2],.nilIface])/\an w w':=by
 obtain ⟨k,hk,ad,hi⟩:=yz Z;obtain ⟨sa,sc,rfl⟩:=ax h;have W0:an w (((w.alloc (aY aw sa l.length sc)).alloc (bE aj x)).alloc (ba ar 0 aj ⟨#[]⟩ aw none 0 0)):=((bp.alloc aH _).alloc au _).alloc aS _;have C:=sX (aw sa l.length sc) l x (w.heap.size+1) _ ac (h.below W0) ((aL.new' (w.alloc (aY aw sa l.length sc)) #[aj x] 9 (w.heap.size+1) au).alloc (ba ar 0 aj ⟨#[]⟩ aw none 0 0));have M:=((aL.new w #[aw sa l.length sc] 75).alloc (bE aj x)).alloc (ba ar 0 aj ⟨#[]⟩ aw none 0 0);have R:=aL.new' ((w.alloc (aY aw sa l.length sc)).alloc (bE aj x)) #[ar 0,aj ⟨#[]⟩,aw none 0 0] 110 (w.heap.size+2) au;have U:=h.below W0;go_enter func57,ntmps57;go_wp2_with fail;refine C.mono ?_;rintro e w1 ⟨rfl,D⟩;have I:=R.below D;have Y:=M.below D;have V:=U.below D;have Q:=W0.trans (D.mono W0.size);obtain ⟨ak,al,am⟩:=I.three;have ap:=I.fz;have mc:w1.cell? (aN w.heap.size)=some (aw sa l.length sc):=Y.cell rfl;rw [hi];obtain ⟨g,c,e1,k0,k1,J⟩:=V.cell k hk;simp only [aK] at e1;obtain ⟨rfl,_,rfl⟩:=e1;rw [ad] at k0 k1 J;have ab:¬(g=w.heap.size+2):=fun e=>by
  exact N2
 have ai:¬(w.heap.size+2=g):=fun e=>ab e.symm
 obtain ⟨p,n,u⟩:=y;simp only at k0 k1 J;obtain ⟨af,ah,ag,rfl⟩:∃a n c,u=aw a n c:=ae;go_wp2;refine bF (v:=.tuple #[.agg #[ar p,aj n,aw af ah ag],.nilIface]) (cf results57 _ _ (w.heap.size+2) _ 110 _ _ rfl rfl ?hB underlying110 rfl aM) rfl ?post
 case hB=>exact ⟨_,(cZ I),bL⟩
 case post=>exact ⟨rfl,(cq Q)⟩
def yB(A:Nat)(nn v l x w)(U:l.length<=1000)(h:h6 w 159 v l)(Q:hI x l=none):
  Calls prog 145 #[.agg #[ar A,aj nn,v],aj x] w fun e w'=>e=bj (.tuple #[.agg #[ar 0,aj ⟨#[]⟩,.nilIface],cm 5])/\an w w':=by
 obtain ⟨sa,sc,rfl⟩:=ax h;have W0:an w (((w.alloc (ba ar A aj nn aw sa l.length sc)).alloc (bE aj x)).alloc (c8 ar 0 aj ⟨#[]⟩)):=((bp.alloc aH _).alloc au _).alloc aS _;have C:=sY (aw sa l.length sc) l x (w.heap.size+1) _ U (h.below W0) ((aL.new' (w.alloc (ba ar A aj nn aw sa l.length sc)) #[aj x] 9 (w.heap.size+1) au).alloc (c8 ar 0 aj ⟨#[]⟩));have M:=((aL.new w #[ar A,aj nn,aw sa l.length sc] 110).alloc (bE aj x)).alloc (c8 ar 0 aj ⟨#[]⟩);have R:=aL.new' ((w.alloc (ba ar A aj nn aw sa l.length sc)).alloc (bE aj x)) (eV ar 0 aj ⟨#[]⟩) 159 (w.heap.size+2) au;go_enter func145,ntmps145;go_wp2_with fail;refine C.mono ?_;rintro e w1 ⟨rfl,I⟩;have D:=R.below I;have J:=W0.trans (I.mono W0.size);obtain ⟨V,Y,Z⟩:=D.three;have ab:=D.fz;rw [yx Q];go_wp2;refine bF (v:=.tuple #[.agg #[ar 0,aj ⟨#[]⟩,.nilIface],cm 5]) (cf results145 _ _ (w.heap.size+2) _ 159 _ _ rfl rfl ?hB underlying159 rfl aM) rfl ?post
 case hB=>exact ⟨_,(cZ D),bL⟩
 case post=>exact ⟨rfl,(cq J)⟩
def pm(D:Nat)(nn v l x w)(ad:l.length<=1000)(h:h6 w 159 v l)(y)(ab:hI x l=some y)(af:∃a x,y.2.2=.iface a x):
  Calls prog 145 #[.agg #[ar D,aj nn,v],aj x] w fun e w'=>e=bj (.tuple #[.agg #[ar y.1,aj y.2.1,y.2.2],.nilIface])/\an w w':=by
 obtain ⟨k,hk,ae,hi⟩:=yz ab;obtain ⟨sa,sc,rfl⟩:=ax h;have W0:an w (((w.alloc (ba ar D aj nn aw sa l.length sc)).alloc (bE aj x)).alloc (c8 ar 0 aj ⟨#[]⟩)):=((bp.alloc aH _).alloc au _).alloc aS _;have C:=sY (aw sa l.length sc) l x (w.heap.size+1) _ ad (h.below W0) ((aL.new' (w.alloc (ba ar D aj nn aw sa l.length sc)) #[aj x] 9 (w.heap.size+1) au).alloc (c8 ar 0 aj ⟨#[]⟩));have M:=((aL.new w #[ar D,aj nn,aw sa l.length sc] 110).alloc (bE aj x)).alloc (c8 ar 0 aj ⟨#[]⟩);have R:=aL.new' ((w.alloc (ba ar D aj nn aw sa l.length sc)).alloc (bE aj x)) (eV ar 0 aj ⟨#[]⟩) 159 (w.heap.size+2) au;have V:=h.below W0;go_enter func145,ntmps145;go_wp2_with fail;refine C.mono ?_;rintro e w1 ⟨rfl,I⟩;have J:=R.below I;have Z:=M.below I;have Y:=V.below I;have U:=W0.trans (I.mono W0.size);obtain ⟨ak,al,am⟩:=J.three;have ap:=J.fz;have mc:w1.cell? (aC w.heap.size 2)=some (aw sa l.length sc):=Z.cell rfl;rw [hi];obtain ⟨g,c,e1,k0,k1,Q⟩:=Y.cell k hk;simp only [aK] at e1;obtain ⟨rfl,_,rfl⟩:=e1;rw [ae] at k0 k1 Q;have ac:¬(g=w.heap.size+2):=fun e=>by
  exact N2
 have ai:¬(w.heap.size+2=g):=fun e=>ac e.symm
 obtain ⟨p,n,u⟩:=y;simp only at k0 k1 Q;obtain ⟨ag,ah,rfl⟩:∃a x,u=.iface a x:=af;go_wp2;refine bF (v:=.tuple #[.agg #[ar p,aj n,.iface ag ah],.nilIface]) (cf results145 _ _ (w.heap.size+2) _ 159 _ _ rfl rfl ?hB underlying159 rfl aM) rfl ?post
 case hB=>exact ⟨_,(cZ J),bL⟩
 case post=>exact ⟨rfl,(cq U)⟩
end
abbrev c9:=@List.drop_eq_getElem_cons
abbrev cD:=@List.take_succ_eq_append_getElem
abbrev gH:=@List.mem_of_find?_eq_some
abbrev cA:=@Below.grown
abbrev eA:=@List.drop_of_length_le
def Jp (h:aD:=by
 have:=B2.size;simp;omega):aD:=h
def mM (h:aD:=by
 rw [dZ];omega):aD:=h
def WP (h:aD:=by
 obtain ⟨A,C,D⟩:=E2.three;have I:=E2.lt;clear hb2 E2;go_wp2_with (go_at_call 73;refine (j9 _ 4 _).mono ?_;rintro e J ⟨rfl,rfl⟩);exact F1):aD:=h
def N3 (h:aD:=by
 obtain ⟨g',C,e1,A,_⟩:=h.cell k hlt;simp only [aK,aR,cg] at e1;obtain ⟨⟨rfl,_⟩,_⟩:=e1;exact ei A):aD:=h
def N4 (h:aD:=by
 exact ⟨0,_,ai,rfl,(bp.alloc aH _).alloc au _,aL.new' (w.alloc _) _ _ _ au,bQ,hR⟩):aD:=h
def F2 (h:aD:=by
 have A:=HQ;rw [eA ai] at A;go_wp2;go_ret;rw [<-A];exact ⟨rfl,hb⟩):aD:=h
def F1 (h:aD:=by
 go_ret;rw [<-hR];exact ⟨rfl,(cq B2)⟩):aD:=h
def fO(p c:Nat):ag:=.iface 147 (.agg #[ar p,cm c])
def jf(c:Nat):Option Nat->ag
 |none=> .nilIface
 |some p=>fO p c
def j9(p c:Nat)(w):Calls prog 73 #[ar p,.iface 134 (ar c)] w fun e w'=>e=bj (fO p c)/\w'=w:=by
 go_enter func73,ntmps73;go_wp2;go_ret;exact ⟨rfl,rfl⟩
def N5(p:Nat)(w):Calls prog 73 #[ar p,.nilIface] w fun e w'=>e=.returned .nilIface/\w'=w:=by
 go_enter func73,ntmps73;go_wp2;go_ret;exact ⟨rfl,rfl⟩
def ka:List E3->List E3->Option Nat
 |_,[]=>none
 |ah,e::r=>if (hI e.2.1 ah).isSome then some e.1 else ka (ah++[e]) r
def CW(l:List E3)(k:Nat)(h:k<l.length):ka (l.take k) (l.drop k)=if (hI l[k].2.1 (l.take k)).isSome then some l[k].1 else ka (l.take (k+1)) (l.drop (k+1)):=by
 rw [c9 h,ka,cD h]
def Jq(l:List E3)(k:Nat)(h:k<l.length):(l.take (k+1)).flatMap c3=(l.take k).flatMap c3++c3 l[k]:=by
 rw [cD h,cN];simp
def F3(aT:Nat)(nn v l w)(a5:l.length<=1000)(h:h6 w 159 v l)(av:∀e∈l,∃t x,e.2.2=.iface t x):
  Calls prog 173 #[.agg #[ar aT,aj nn,v]] w fun e w'=>e=bj (jf 4 (ka [] l))/\an w w':=by
 obtain ⟨a9,oc,rfl⟩:=ax h;generalize hR:ka [] l=R;go_enter func173,ntmps173;go_wp2_with fail
 go_loopw [11] (fun u wr=>∃(k:Nat)(sv:ag),k<=l.length/\u=ar k/\an w wr/\aL wr (w.heap.size+1) #[ar 0,aj ⟨#[]⟩,sv] 110/\wr.ownsRow w.heap.size 159 3 sv k ((l.take k).flatMap c3)/\(ka (l.take k) (l.drop k)=R)) (fun u _=>l.length-(intOf u).toNat)
 ·exact N4
 ·obtain ⟨k,sv,al,rfl,hb,af,ho,HQ⟩:=hrel;obtain ⟨sa,sc,rfl⟩:=ax ho;obtain ⟨ab,b1,aF⟩:=af.three;have aX:=af.fz;have lb:=af.lt
  by_cases hlt:k<l.length
  ·have hR:=HQ;rw [CW l k hlt] at hR;obtain ⟨g,c,e1,k0,k1,aO⟩:=(h.below hb).cell k hlt;simp only [aK] at e1;obtain ⟨rfl,_,rfl⟩:=e1;obtain ⟨Q,U,aA⟩:=av l[k] (bu hlt);have aI:=Jq l k hlt;generalize aN:l[k]=y at*;obtain ⟨p,n,u⟩:=y;simp only at k0 k1 aO aA hR;subst aA;have aZ:g<w.heap.size:=by
    exact N3
   have am:=(show h6 (wr.alloc (cC ar p aj n Q U)) 159 (aw sa k sc) (l.take k) from by
    have:=bn (ho.alloc (cC ar p aj n Q U)) (Nat.zero_le _);unfold h6;rw [dZ,Nat.min_eq_left al];exact this)
   clear aN
   cases V:hI n (l.take k) with
   |some y=>
    have aB:∃a x,y.2.2=.iface a x:=av y (List.mem_of_mem_take (gH V));rw [V] at hR;simp only [Option.isSome_some,if_true] at hR;have C:=pm 0 ⟨#[]⟩ (aw sa k sc) (l.take k) n _ mM am y V aB;obtain ⟨bg,be,bh⟩:=y;obtain ⟨bc,bi,aC⟩:=aB;simp only at aC;subst aC;clear V;go_wp2_with fail;refine C.mono ?_;rintro e Y ⟨rfl,hb2⟩;have B2:=(hb.alloc hb.size (cC ar p aj n Q U)).trans (hb2.mono (by have:=hb.size;simp;omega));have E2:=(aL.new wr #[ar p,aj n,.iface Q U] 159).below hb2;exact WP
   |none=>
    rw [V] at hR;simp only [Option.isSome_none,Bool.false_eq_true,a8] at hR;have C:=yB 0 ⟨#[]⟩ (aw sa k sc) (l.take k) n _ mM am V;clear V;go_wp2_with fail;refine C.mono ?_;rintro e Y ⟨rfl,hb2⟩;have ae:an wr Y:=(bp.alloc aH (cC ar p aj n Q U)).trans (hb2.mono au);have B2:=hb.trans (ae.mono hb.size);have E2:=(aL.new wr #[ar p,aj n,.iface Q U] 159).below hb2;obtain ⟨aU,aV,aW⟩:=E2.three;have ba:=E2.lt;have ac:=af.below ae;obtain ⟨aP,aQ,aS⟩:=ac.three;have aY:=ac.fz;have a6:=ac.lt;have ap:=az ho (fun g cs f _ aJ=>ae.block g (lt_of_some aJ));have bb:=hb.size;clear hb2 E2 ae ab b1 aF aX;unfold cm;go_wp2_with (at_builtin;go_must (refine ez rfl underlying108 Tryz.info159 w.heap.size ((ap.alloc _).alloc _) (Y.heap.size+1) 1 (c3 (p,n,.iface Q U)) (Y.heap.size+2) ?hrest))
    case hrest=>
     intro g5 bf w5 aM ak aG a4;have ab:an Y ((Y.alloc (c8 ar 0 aj ⟨#[]⟩)).alloc (cC ar p aj n Q U)):=(bp.alloc aH _).alloc au _;have ad:=ac.below ab;have ah:=(ap.alloc (c8 ar 0 aj ⟨#[]⟩)).alloc (cC ar p aj n Q U);have Z:=show aL w5 (w.heap.size+1) #[ar 0,aj ⟨#[]⟩,aw sa k sc] 110 from (ak.block _ ad.lt (own_ne ah ad ay)).trans ad
     have aE:=cA (B2.trans (ab.mono B2.size)) ak Jp (fun k al=>(ah.lt k al).1);obtain ⟨a7,n1,n2⟩:=Z.three;have bk:=Z.fz;have nl:=Z.lt;clear ab ad ah ak aG aP aQ aS aY aU aV aW;go_wp2;go_roundw
     ·exact ⟨k+1,_,ai,by go_num,(cq aE),Z.set 2 _,by rw [aI];exact bU aM Z ay 2 _,hR⟩
     simp [intOf];omega
  exact F2
def N6(q:br) (h:cj br->aD:=by
 intro zq;have Cn:=hin (p,n,aw ua um un) (by rw [<-hy];exact bu hlt) (w2.alloc (ba ar 0 aj ⟨#[]⟩ aw none 0 0)) (B2.alloc B2.size _)
 revert Cn
 exact zq.1):aD:=h ⟨q⟩
def i8(inn:E3->Option Nat):List E3->List E3->Option Nat
 |_,[]=>none
 |ah,e::r=>if (hI e.2.1 ah).isSome then some e.1 else match inn e with
  |some p=>some p
  |none=>i8 inn (ah++[e]) r
def As(inn:E3->Option Nat)(l:List E3)(k:Nat)(h:k<l.length):i8 inn (l.take k) (l.drop k)=if (hI l[k].2.1 (l.take k)).isSome then some l[k].1 else match inn l[k] with
  |some p=>some p
  |none=>i8 inn (l.take (k+1)) (l.drop (k+1)):=by
 rw [c9 h,i8,cD h]
def F4(inn v l w)(a7:l.length<=1000)(h:h6 w 110 v l)(aF:∀e∈l,∃a n c,e.2.2=aw a n c)(hin:∀e∈l,∀w',an w w'->Calls prog 173 #[.agg #[ar e.1,aj e.2.1,e.2.2]] w' fun e' w''=>e'=bj (jf 4 (inn e))/\an w' w''):
  Calls prog 115 #[.agg #[v]] w fun e w'=>e=bj (jf 4 (i8 inn [] l))/\an w w':=by
 obtain ⟨bb,oc,rfl⟩:=ax h;generalize hR:i8 inn [] l=R;go_enter func115,ntmps115;go_wp2_with fail
 go_loopw [12] (fun u wr=>∃(k:Nat)(sv:ag),k<=l.length/\u=ar k/\an w wr/\aL wr (w.heap.size+1) #[sv] 75/\wr.ownsRow w.heap.size 110 3 sv k ((l.take k).flatMap c3)/\(i8 inn (l.take k) (l.drop k)=R)) (fun u _=>l.length-(intOf u).toNat)
 ·exact N4
 ·obtain ⟨k,sv,aB,rfl,hb,al,ho,HQ⟩:=hrel;obtain ⟨sa,sc,rfl⟩:=ax ho;have ab:wr.cell? (aN (w.heap.size+1))=some (aw sa k sc):=al.cell rfl;have a4:=al.fz;have lb:=al.lt
  by_cases hlt:k<l.length
  ·have hR:=HQ;rw [As inn l k hlt] at hR;obtain ⟨g,c,e1,k0,k1,aY⟩:=(h.below hb).cell k hlt;simp only [aK] at e1;obtain ⟨rfl,_,rfl⟩:=e1;obtain ⟨ua,um,un,aG⟩:=aF l[k] (bu hlt);have aW:=Jq l k hlt;generalize hy:l[k]=y at*;obtain ⟨p,n,u⟩:=y;simp only at k0 k1 aY aG hR;subst aG;have a5:g<w.heap.size:=by
    exact N3
   have aC:=(show h6 (wr.alloc (ba ar p aj n aw ua um un)) 110 (aw sa k sc) (l.take k) from by
    have:=bn (ho.alloc (ba ar p aj n aw ua um un)) (Nat.zero_le _);unfold h6;rw [dZ,Nat.min_eq_left aB];exact this)
   cases Q:hI n (l.take k) with
   |some y=>
    have aI:∃a n c,y.2.2=aw a n c:=aF y (List.mem_of_mem_take (gH Q));rw [Q] at hR;simp only [Option.isSome_some,if_true] at hR;have C:=pk (aw sa k sc) (l.take k) n _ mM aC y Q aI;obtain ⟨bk,bi,bl⟩:=y;obtain ⟨bg,bh,bo,aJ⟩:=aI;simp only at aJ;subst aJ;clear Q;go_wp2_with fail;refine C.mono ?_;rintro e w2 ⟨rfl,hb2⟩;have B2:=(hb.alloc hb.size (ba ar p aj n aw ua um un)).trans (hb2.mono (by have:=hb.size;simp;omega));have E2:=(aL.new wr #[ar p,aj n,aw ua um un] 110).below hb2;exact WP
   |none=>
    rw [Q] at hR;simp only [Option.isSome_none,Bool.false_eq_true,a8] at hR;have C:=yA (aw sa k sc) (l.take k) n _ mM aC Q;clear Q;go_wp2_with fail;refine C.mono ?_;rintro e w2 ⟨rfl,hb2⟩;have ak:an wr w2:=(bp.alloc aH (ba ar p aj n aw ua um un)).trans (hb2.mono au);have B2:=hb.trans (ak.mono hb.size);have E2:=(aL.new wr #[ar p,aj n,aw ua um un] 110).below hb2;obtain ⟨aO,aP,aQ⟩:=E2.three;have a3:=E2.lt;have ae:=al.below ak;have aM:w2.cell? (aN (w.heap.size+1))=some (aw sa k sc):=ae.cell rfl;have aS:=ae.fz;have aZ:=ae.lt;have aU:=az ho (fun g cs f _ aA=>ak.block g (lt_of_some aA));have bc:=hb.size;clear hb2 ak ab a4
    cases Y:inn (p,n,aw ua um un) with
    |some pq=>
     refine N6 ?_;intro Cn;rw [Y] at Cn;rw [Y] at hR;clear Y;unfold cm;go_wp2_with fail;refine Cn.mono ?_;rintro e U ⟨rfl,ac⟩;have V:=(B2.alloc B2.size (ba ar 0 aj ⟨#[]⟩ aw none 0 0)).trans (ac.mono Jp);clear ac;unfold jf fO;go_wp2;go_ret;rw [<-hR];exact ⟨rfl,V⟩
    |none=>
     refine N6 ?_;intro Cn;rw [Y] at Cn;rw [Y] at hR;clear Y;unfold cm;go_wp2_with fail;refine Cn.mono ?_;rintro e U ⟨rfl,ac⟩;have ad:an w2 U:=(bp.alloc aH (ba ar 0 aj ⟨#[]⟩ aw none 0 0)).trans (ac.mono au);have V:=B2.trans (ad.mono B2.size);have am:=E2.below ad;obtain ⟨aO,aP,aQ⟩:=am.three;have a3:=am.lt;have af:=ae.below ad;have aM:U.cell? (aN (w.heap.size+1))=some (aw sa k sc):=af.cell rfl;have aS:=af.fz;have aZ:=af.lt;have aE:=az aU (fun g cs f _ aA=>ad.block g (lt_of_some aA));have be:=V.size;clear ac am ad;unfold jf;go_wp2_with (at_builtin;go_must (refine ez rfl underlying73 Tryz.info110 w.heap.size (aE.alloc _) U.heap.size 1 (c3 (p,n,aw ua um un)) (U.heap.size+1) ?hrest))
     case hrest=>
      intro g5 bf w5 aX av aV a6;have ab:an U (U.alloc (ba ar p aj n aw ua um un)):=bp.alloc aH _;have ah:=af.below ab;have ap:=aE.alloc (ba ar p aj n aw ua um un);have Z:=show aL w5 (w.heap.size+1) #[aw sa k sc] 75 from (av.block _ ah.lt (own_ne ap ah ay)).trans ah
      have aT:=cA (V.trans (ab.mono V.size)) av (by have:=V.size;simp;omega) (fun k aB=>(ap.lt k aB).1);have a9:w5.cell? (aN (w.heap.size+1))=some (aw sa k sc):=Z.cell rfl;have bq:=Z.fz;have nl:=Z.lt;clear ab ah ap av aV aM aS aO aP aQ;go_wp2;go_roundw
      ·exact ⟨k+1,_,ai,by go_num,(cq aT),Z.set 0 _,by rw [aW];exact bU aX Z ay 0 _,hR⟩
      simp [intOf];omega
  exact F2
def h7(x w):(Instr.typeAssert (.iface 236 x) 157 236 true).run prog w=.ok (.tuple #[x,.bool true]) w:=by kernel_rfl
def ng(x w):(Instr.typeAssert (.iface 236 x) 157 244 true).run prog w=.ok (.tuple #[.agg #[ar 0,.nilIface,.nilIface],.bool false]) w:=by kernel_rfl
def qh(x w):(Instr.typeAssert (.iface 236 x) 157 245 true).run prog w=.ok (.tuple #[.agg #[ar 0,.nilIface,.nilIface],.bool false]) w:=by kernel_rfl
def lZ(x w):(Instr.typeAssert (.iface 236 x) 157 246 true).run prog w=.ok (.tuple #[.agg #[ar 0,.nilIface,.nilIface],.bool false]) w:=by kernel_rfl
def hJ(x w):(Instr.typeAssert (.iface 238 x) 157 236 true).run prog w=.ok (.tuple #[.agg #[ar 0,aw none 0 0],.bool false]) w:=by kernel_rfl
def l4(x w):(Instr.typeAssert (.iface 238 x) 157 238 true).run prog w=.ok (.tuple #[x,.bool true]) w:=by kernel_rfl
def oT(x w):(Instr.typeAssert (.iface 238 x) 157 244 true).run prog w=.ok (.tuple #[.agg #[ar 0,.nilIface,.nilIface],.bool false]) w:=by kernel_rfl
def sZ(x w):(Instr.typeAssert (.iface 238 x) 157 245 true).run prog w=.ok (.tuple #[.agg #[ar 0,.nilIface,.nilIface],.bool false]) w:=by kernel_rfl
def nh(x w):(Instr.typeAssert (.iface 238 x) 157 246 true).run prog w=.ok (.tuple #[.agg #[ar 0,.nilIface,.nilIface],.bool false]) w:=by kernel_rfl
def hK(x w):(Instr.typeAssert (.iface 240 x) 157 236 true).run prog w=.ok (.tuple #[.agg #[ar 0,aw none 0 0],.bool false]) w:=by kernel_rfl
def l5(x w):(Instr.typeAssert (.iface 240 x) 157 238 true).run prog w=.ok (.tuple #[.agg #[ar 0,aj ⟨#[]⟩],.bool false]) w:=by kernel_rfl
def l6(x w):(Instr.typeAssert (.iface 240 x) 157 240 true).run prog w=.ok (.tuple #[x,.bool true]) w:=by kernel_rfl
def oU(x w):(Instr.typeAssert (.iface 240 x) 157 244 true).run prog w=.ok (.tuple #[.agg #[ar 0,.nilIface,.nilIface],.bool false]) w:=by kernel_rfl
def s3(x w):(Instr.typeAssert (.iface 240 x) 157 245 true).run prog w=.ok (.tuple #[.agg #[ar 0,.nilIface,.nilIface],.bool false]) w:=by kernel_rfl
def ni(x w):(Instr.typeAssert (.iface 240 x) 157 246 true).run prog w=.ok (.tuple #[.agg #[ar 0,.nilIface,.nilIface],.bool false]) w:=by kernel_rfl
def eW(x w):(Instr.typeAssert (.iface 244 x) 157 236 true).run prog w=.ok (.tuple #[.agg #[ar 0,aw none 0 0],.bool false]) w:=by kernel_rfl
def ja(x w):(Instr.typeAssert (.iface 244 x) 157 238 true).run prog w=.ok (.tuple #[.agg #[ar 0,aj ⟨#[]⟩],.bool false]) w:=by kernel_rfl
def jb(x w):(Instr.typeAssert (.iface 244 x) 157 240 true).run prog w=.ok (.tuple #[.agg #[ar 0,ar 0,aj ⟨#[]⟩,ar 0,aj ⟨#[]⟩],.bool false]) w:=by kernel_rfl
def gA(x w):(Instr.typeAssert (.iface 244 x) 157 244 true).run prog w=.ok (.tuple #[x,.bool true]) w:=by kernel_rfl
def uM(x w):(Instr.typeAssert (.iface 244 x) 157 246 true).run prog w=.ok (.tuple #[.agg #[ar 0,.nilIface,.nilIface],.bool false]) w:=by kernel_rfl
def gB(x w):(Instr.typeAssert (.iface 245 x) 157 236 true).run prog w=.ok (.tuple #[.agg #[ar 0,aw none 0 0],.bool false]) w:=by kernel_rfl
def kI(x w):(Instr.typeAssert (.iface 245 x) 157 238 true).run prog w=.ok (.tuple #[.agg #[ar 0,aj ⟨#[]⟩],.bool false]) w:=by kernel_rfl
def kJ(x w):(Instr.typeAssert (.iface 245 x) 157 240 true).run prog w=.ok (.tuple #[.agg #[ar 0,ar 0,aj ⟨#[]⟩,ar 0,aj ⟨#[]⟩],.bool false]) w:=by kernel_rfl
def h8(x w):(Instr.typeAssert (.iface 245 x) 157 244 true).run prog w=.ok (.tuple #[.agg #[ar 0,.nilIface,.nilIface],.bool false]) w:=by kernel_rfl
def jR(x w):(Instr.typeAssert (.iface 245 x) 157 245 true).run prog w=.ok (.tuple #[x,.bool true]) w:=by kernel_rfl
def qi(x w):(Instr.typeAssert (.iface 245 x) 157 246 true).run prog w=.ok (.tuple #[.agg #[ar 0,.nilIface,.nilIface],.bool false]) w:=by kernel_rfl
def h9(x w):(Instr.typeAssert (.iface 246 x) 157 236 true).run prog w=.ok (.tuple #[.agg #[ar 0,aw none 0 0],.bool false]) w:=by kernel_rfl
def kK(x w):(Instr.typeAssert (.iface 246 x) 157 238 true).run prog w=.ok (.tuple #[.agg #[ar 0,aj ⟨#[]⟩],.bool false]) w:=by kernel_rfl
def kL(x w):(Instr.typeAssert (.iface 246 x) 157 240 true).run prog w=.ok (.tuple #[.agg #[ar 0,ar 0,aj ⟨#[]⟩,ar 0,aj ⟨#[]⟩],.bool false]) w:=by kernel_rfl
def ib(x w):(Instr.typeAssert (.iface 246 x) 157 244 true).run prog w=.ok (.tuple #[.agg #[ar 0,.nilIface,.nilIface],.bool false]) w:=by kernel_rfl
def jS(x w):(Instr.typeAssert (.iface 246 x) 157 245 true).run prog w=.ok (.tuple #[.agg #[ar 0,.nilIface,.nilIface],.bool false]) w:=by kernel_rfl
def ie(x w):(Instr.typeAssert (.iface 246 x) 157 246 true).run prog w=.ok (.tuple #[x,.bool true]) w:=by kernel_rfl
def aag (h:aD:=by
 first|exact aL.alloc (aL.new _ _ _) _|exact aL.new _ _ _):aD:=h
def sd0:Array ag:=#[ar 0,.nilIface,.nilIface]
def Lh(T:TypeId)(p:Nat)(A:TypeId)(D:ag)(C:TypeId)(I:ag)(w:af)(Q:T=244\/T=245\/T=246):
  Calls prog 212 #[.iface T (.agg #[ar p,.iface A D,.iface C I])] w fun e w'=>e=bj (.tuple #[.agg #[ar p,.iface A D,.iface C I],.bool true])/\an w w':=by
 have J:=aA w.heap.size w;have f0:=gA;have f1:=h8;have f2:=jR;have f3:=ib;have f4:=jS;have f5:=ie
 rcases Q with rfl|rfl|rfl
 all_goals
  go_enter func212,ntmps212;go_wp2;refine bF (v:=.tuple #[.agg #[ar p,.iface A D,.iface C I],.bool true]) (cf results212 _ _ w.heap.size _ 242 _ _ rfl rfl ?_ underlying242 rfl aM) rfl ?_
  ·exact ⟨_,aag,bL⟩
  ·exact ⟨rfl,(cq J)⟩
def Li(T:TypeId)(x:ag)(w:af)(C:T=236\/T=238\/T=240):
  Calls prog 212 #[.iface T x] w fun e w'=>e=bj (.tuple #[.agg sd0,.bool false])/\an w w':=by
 have A:=aA w.heap.size w;have f0:=ng;have f1:=qh;have f2:=lZ;have f3:=oT;have f4:=sZ;have f5:=nh;have f6:=oU;have f7:=s3;have f8:=ni
 rcases C with rfl|rfl|rfl
 all_goals
  go_enter func212,ntmps212;go_wp2;refine bF (v:=.tuple #[.agg sd0,.bool false]) (cf results212 _ _ w.heap.size _ 242 _ _ rfl rfl ?_ underlying242 rfl aM) rfl ?_
  ·exact ⟨_,aag,bL⟩
  ·exact ⟨rfl,(cq A)⟩
section
abbrev aU:=@List.mem_map
abbrev aX:=@List.mem_singleton
def aF:Ex->List Ex
 |⟨n,some x,some y⟩=>aF x++[⟨n,some x,some y⟩]++aF y
 |⟨n,none,r⟩=>[⟨n,none,r⟩]
 |⟨_,some _,none⟩=>[]
def F5:∀(e:Ex)(v:ag),bA b w e v->0<(aF e).length
 |⟨n,some x,some y⟩,v,h=>by simp [aF];omega
 |⟨n,none,r⟩,v,h=>by simp [aF]
 |⟨_,some _,none⟩,v,h=>h.elim
def WQ(base b:Nat)(w:af)(sv:ag)(h:List Ex):Prop:=
 ∃l:List (Ex×ag),l.map Prod.fst=h/\(∀p∈l,bA b w p.1 p.2)/\w.ownsRow base 157 1 sv h.length (l.map Prod.snd)
def Tryz.info157:(Tryz.prog.info? 157).map (fun i=>(i.zero,i.size,i.bytes))=some (some .nilIface,1,16):=by kernel_rfl
def F6(e:Ex):Prop:=∀(b:Nat)(v:ag)(w:af),b<w.heap.size->bA b w e v->(aF e).length<=1000->
 Calls prog 156 #[v] w fun e' w'=>∃sv,e'=bj sv/\an w w'/\WQ w.heap.size b w' sv (aF e)
variable {base:Nat}
def CX(h:w.ownsRow base e 1 v n xs)(D:0<n):
  ∃g c,v=aw (some (aN g)) n c/\xs.length=n*1/\∀j u,xs[j]? =some u->w.cell? ((⟨g,0,none⟩:Addr).add j)=some u:=by
 obtain ⟨g,c,hv,_⟩:=h.form D;refine ⟨g,c,hv,h.1,fun j u I=> ?_⟩;obtain ⟨g',J,A,hc⟩:=aZ h j u I;rw [hv] at A;simp only [aK,aR,cg] at A;obtain ⟨⟨rfl,_⟩,_⟩:=A;have C:(⟨g,0,none⟩:Addr).add j=⟨g,j,none⟩:=by unfold Addr.add;split<;>simp_all
 rw [C];exact hc
def rD(T:TypeId)(x:ag)(w:af)(C:T=236\/T=238\/T=240):
  Calls prog 156 #[.iface T x] w fun e' w'=>∃sv,e'=bj sv/\an w w'/\w'.ownsRow w.heap.size 157 1 sv 1 [.iface T x]:=by
 go_enter func156,ntmps156;go_wp2_with fail;refine (Li T x w C).mono ?_;rintro e w1 ⟨rfl,A⟩;have sz:=A.size;unfold sd0;go_wp2;go_ret;refine ⟨_,rfl,(cq A),rfl,.inr ⟨w1.heap.size+1,1,#[.iface T x],rfl,ai,?_,ai,by unfold maxLen;omega,rfl,rfl⟩⟩;exact aL.new' (w1.alloc _) _ _ _ au
def rE(T:TypeId)(a4:T=244\/T=245\/T=246)(p:Nat)(x y:Ex)(bb:F6 x)(bc:F6 y)(b:Nat)(ax aA:ag)(w:af)(bz:b<w.heap.size)(aQ:bA b w x ax)(av:bA b w y aA)(bD:(aF x).length+1+(aF y).length<=1000):
  Calls prog 156 #[.iface T (.agg #[ar p,ax,aA])] w fun e' w'=>∃sv,e'=bj sv/\an w w'/\
   ∃lx D:List (Ex×ag),lx.map Prod.fst=aF x/\D.map Prod.fst=aF y/\(∀p∈lx,bA b w' p.1 p.2)/\(∀p∈D,bA b w' p.1 p.2)/\
    w'.ownsRow w.heap.size 157 1 sv ((aF x).length+1+(aF y).length) (lx.map Prod.snd++[.iface T (.agg #[ar p,ax,aA])]++D.map Prod.snd):=by
 obtain ⟨i0,hi,be,bg,bh⟩:=eL Tryz.info157;have aP:=F5 _ _ av;obtain ⟨ta,J,rfl⟩:=aQ.isI;obtain ⟨I,Q,rfl⟩:=av.isI;go_enter func156,ntmps156;go_wp2_with fail;refine (Lh T p ta J I Q w a4).mono ?_;rintro e w1 ⟨rfl,Z⟩;have b1:an w (w1.alloc (.cells #[ar p,.iface ta J,.iface I Q] 242)):=Z.alloc Z.size _;have aY:=aL.new w1 #[ar p,.iface ta J,.iface I Q] 242;have aZ:=av.but (But.of_below b1);have bH:=Z.size;clear Z;go_wp2_with fail;refine (bb b _ _ aS (aQ.but (But.of_below b1)) ai).mono ?_;rintro e U ⟨bF,rfl,ab,lx,bi,bk,aK⟩;have aC:=b1.trans (ab.mono b1.size);have ak:=aY.below ab;obtain ⟨bs,bt,bu⟩:=ak.three;have bE:=ak.lt;have a0:=aZ.but (But.of_below ab);have aI:=bn aK (show w.heap.size<=_ by simp;omega);clear ab aK;go_wp2_with (at_builtin;go_must (refine ez rfl underlying301 Tryz.info157 w.heap.size (aI.alloc _) U.heap.size 1 [.iface T (.agg #[ar p,.iface ta J,.iface I Q])] (U.heap.size+1) ?hrest))
 case hrest=>
  intro bx bw aB a8 ad a5 bB;have V:=aI.alloc (.cells #[.iface T (.agg #[ar p,.iface ta J,.iface I Q])] 157);have R:an U (U.alloc (.cells #[.iface T (.agg #[ar p,.iface ta J,.iface I Q])] 157)):=bp.alloc aH _;have al:oS b U aB:=fun g cs f a7 A=>(ad.block g (cM (lt_of_some A) R.size) (dT V ((R.block g (lt_of_some A)).trans A) ay)).trans (R.block g (lt_of_some A))
  have ah:=cA (aC.trans (R.mono aC.size)) ad aS (fun k au=>(V.lt k au).1);have Y:=ak.below R;have aG:=show aL aB w1.heap.size #[ar p,.iface ta J,.iface I Q] 242 from ((ad.block _ Y.lt (own_ne V Y ay)).trans Y)
  obtain ⟨t0,t1,t2⟩:=aG.three;have tl:=aG.lt;have a1:=bA.frame al _ _ a0;have aT:=show ∀p∈lx,bA b aB p.1 p.2 from fun p C=>bA.frame al _ _ (bk p C)
  have bI:=ah.size;clear V R al Y ad a5 bs bt bu;go_wp2_with fail;refine (bc b _ _ ai a1 ai).mono ?_;rintro e ae ⟨bG,rfl,ac,D,bl,aM,aO⟩;obtain ⟨a3,a2,rfl,bo,bq⟩:=CX aO aP;have aE:=ah.trans (ac.mono ah.size);have aV:=show ∀p∈lx,bA b ae p.1 p.2 from fun p C=>(aT p C).but (But.of_below ac)
  have aj:=az (w':=ae) a8 (fun g cs f _ A=>ac.block g (lt_of_some A));have bv:=aE.size;clear ac aO;go_wp2_with (at_builtin;go_must (refine lX _ rfl _ _ 301 rfl w.heap.size 157 i0 _ 1 16 underlying301 hi be bg bh rfl ay _ _ _ rfl aj ⟨a3,0,none⟩ (aF y).length a2 (D.map Prod.snd) rfl bo bq ?hone aP ?h63 ?hbytes ?hbase ae.heap.size rfl ?hrest))
  case hone=>
   intro u aJ;rw [aU] at aJ;obtain ⟨q,ba,rfl⟩:=aJ;obtain ⟨t,z,e⟩:=(aM q ba).isI;rw [e];rfl
  case h63=>unfold maxLen;omega
  case hbytes=>omega
  case hbase=>omega
  case hrest=>
   intro g5 bf w5 a9 ap a6 bC;have am:oS b ae w5:=fun g cs f a7 A=>ap.block g (lt_of_some A) (dT aj A ay)
   have aR:=cA aE ap bv (fun k au=>(aj.lt k au).1);have aW:=show ∀p∈lx,bA b w5 p.1 p.2 from fun p C=>bA.frame am _ _ (aV p C)
   have aX:=show ∀p∈D,bA b w5 p.1 p.2 from fun p C=>bA.frame am _ _ (aM p C)
   clear am ap a6;go_wp2;go_ret;exact ⟨aw (some (aN g5)) ((aF x).length+1+(aF y).length) bf,rfl,aR,lx,D,bi,bl,aW,aX,by rw [List.append_assoc];exact a9⟩
def oh(e):F6 e:=by
 induction e using Ex.ind with
 |h0 n r=>
  intro b v w I h hn;have key:∀{v:ag},(Calls prog 156 #[v] w fun e' w'=>∃sv,e'=bj sv/\an w w'/\w'.ownsRow w.heap.size 157 1 sv 1 [v])->bA b w ⟨n,none,r⟩ v->Calls prog 156 #[v] w fun e' w'=>∃sv,e'=bj sv/\an w w'/\WQ w.heap.size b w' sv (aF ⟨n,none,r⟩):=by
   intro v hc ae;refine hc.mono ?_;rintro e' w' ⟨sv,h1,h2,Q⟩;exact ⟨sv,h1,h2,[(⟨n,none,r⟩,v)],rfl,fun p A=>by simp at A;subst A;exact ae.but (But.of_below h2),Q⟩
  have V:=h
  rcases h with ⟨h1,sv,rfl,Q⟩|⟨h1,rfl⟩|⟨h1,rfl⟩
  ·exact key (rD _ _ w (.inl rfl)) V
  ·exact key (rD _ _ w (.inr (.inl rfl))) V
  exact key (rD _ _ w (.inr (.inr rfl))) V
 |h1 n a=>intro b v w I h hn;exact h.elim
 |h2 n x y hx hy=>
  intro b v w I h hn;obtain ⟨C,D,rfl,R,U⟩:=h;have Y:(aF x).length+1+(aF y).length<=1000:=by simp [aF] at hn;omega
  have key:(Calls prog 156 #[.iface (fj n.kind) (.agg #[ar n.place,C,D])] w fun e' w'=>∃sv,e'=bj sv/\an w w'/\
   ∃lx J:List (Ex×ag),lx.map Prod.fst=aF x/\J.map Prod.fst=aF y/\(∀p∈lx,bA b w' p.1 p.2)/\(∀p∈J,bA b w' p.1 p.2)/\
    w'.ownsRow w.heap.size 157 1 sv ((aF x).length+1+(aF y).length) (lx.map Prod.snd++[.iface (fj n.kind) (.agg #[ar n.place,C,D])]++J.map Prod.snd)):=by
   unfold fj
   split
   ·exact rE _ (.inl rfl) _ x y hx hy b C D w I R U Y
   ·split
    ·exact rE _ (.inr (.inl rfl)) _ x y hx hy b C D w I R U Y
    exact rE _ (.inr (.inr rfl)) _ x y hx hy b C D w I R U Y
  refine key.mono ?_;rintro e' w' ⟨sv,h1,h2,lx,J,Q,Z,ab,ac,ad⟩;refine ⟨sv,h1,h2,lx++[(⟨n,some x,some y⟩,.iface (fj n.kind) (.agg #[ar n.place,C,D]))]++J,?_,?_,?_⟩
  ·simp [aF,Q,Z]
  ·intro p A;simp only [aW,aX] at A
   rcases A with (A|rfl)|A
   ·exact ab p A
   ·exact ⟨C,D,rfl,R.but (But.of_below h2),U.but (But.of_below h2)⟩
   exact ac p A
  have e1:(aF ⟨n,some x,some y⟩).length=(aF x).length+1+(aF y).length:=by simp [aF];omega
  rw [e1]
  simpa using ad
end
section
abbrev po:=@List.take_append_drop
abbrev b6:=@List.mem_flatMap
abbrev bG:=@List.mem_of_getElem?
def zc17q (h:aD:=by
 simp [aI hkl]):aD:=h
def WR (h:aD:=by
 have he':eM ⟨nq,none,rq⟩=[]:=by simp [eM,Yb]
 subst hv;clear Yb;go_wp2;go_roundw
 ·exact N7
 simp [intOf];omega):aD:=h
def N8 (h:aD:=by
 rcases fE k (aF e).length with h|h
 ·exact h
 rw [jA h] at hk;cases hk):aD:=h
def N9 (h:aD:=by
 unfold fj;exact Oa):aD:=h
def N7 (h:aD:=by
 exact ⟨k+1,aw sa (GK e k).length sc,ai,by go_num,rfl,hbr,by rw [UJ he' hk'];exact ho⟩):aD:=h
def Oa (h:aD:=by
 split
 ·exact .inl rfl
 split
 ·exact .inr (.inl rfl)
 exact .inr (.inr rfl)):aD:=h
def F7(q:br) (h:cj br->aD:=by
 intro zq;have hkl:k<l.length:=by omega
 obtain ⟨g1,c1,e1,kc⟩:=aZ (az (w':=wr) L3 (fun g cs f _ hh=>hbr.block g (lt_of_some hh))) k l[k].2 zc17q
 revert hkl g1 c1 e1 kc
 exact zq.1):aD:=h ⟨q⟩
variable {base:Nat}
def oi(h:w.ownsRow base e size v n xs)(D:0<n):
  ∃g c,v=aw (some (aN g)) n c/\xs.length=n*size/\∀j u,xs[j]? =some u->w.cell? ((⟨g,0,none⟩:Addr).add j)=some u:=by
 obtain ⟨g,c,hv,_⟩:=h.form D;refine ⟨g,c,hv,h.1,fun j u I=> ?_⟩;obtain ⟨g',J,A,hc⟩:=aZ h j u I;rw [hv] at A;simp only [aK,aR,cg] at A;obtain ⟨⟨rfl,_⟩,_⟩:=A;have C:(⟨g,0,none⟩:Addr).add j=⟨g,j,none⟩:=by unfold Addr.add;split<;>simp_all
 rw [C];exact hc
def eM(e:Ex):List Gr:=match e.l with
 |none=>if e.nd.kind=0 then e.nd.gs else []
 |some _=>[]
def WF(e:Ex):Prop:=∀p∈aF e,p.l=none->p.nd.kind=0->p.nd.gs≠ []
def bR(e:Ex):List Gr:=(aF e).flatMap eM
def GK(e:Ex)(k:Nat):List Gr:=((aF e).take k).flatMap eM
def Au{e p gs}(h:eM p=gs)(hk:(aF e)[k]? =some p):GK e (k+1)=GK e k++gs:=by
 unfold GK;have A:k<(aF e).length:=by
  exact N8
 rw [cD A,cN];rw [aI A] at hk;simp only [aR] at hk;simp [hk,h]
def UJ{e p}(h:eM p=[])(A:(aF e)[k]? =some p):GK e (k+1)=GK e k:=by
 rw [Au h A];simp
def gk_le(e k):(GK e k).length<=(bR e).length:=by
 unfold GK bR
 conv=>rhs;rw [<-po k (aF e),cN,List.length_append]
 omega
def Yc(l):∀u∈cz l,u.oneCell'=true:=by
 intro u h;unfold cz at h;rw [b6] at h;obtain ⟨g,_,h⟩:=h;exact Ya g u h
def uN(a c):cz (a++c)=cz a++cz c:=by simp [cz]
def pp(ac:Nat)(n0)(b:Nat)(e v w)(a5:b<w.heap.size)(h:bA b w e v)(aJ:(aF e).length<=1000)(a6:(bR e).length<=1000)(aM:WF e):
  Calls prog 106 #[.agg #[ar ac,aj n0,v]] w fun e' w'=>∃sv,e'=bj sv/\an w w'/\w'.ownsRow w.heap.size 207 5 sv (bR e).length (cz (bR e)):=by
 obtain ⟨i0,hi,aO,aP,aQ⟩:=eL Tryz.info207;obtain ⟨tv,aY,rfl⟩:=h.isI;have ah:=aM;go_enter func106,ntmps106;go_wp2_with fail;refine (oh e b _ _ aS (h.but ((But.refl b w).alloc _)) aJ).mono ?_;rintro e1 Q ⟨bc,rfl,aB,l,l1,l2,ab⟩;obtain ⟨ba,oc,rfl⟩:=ax ab;have a9:l.length=(aF e).length:=by rw [<-l1];simp
 have R:=((aA _ w).alloc aH (cC ar ac aj n0 tv aY)).trans (aB.mono au);have ak:=l1;have al:=l2;have L3:=ab;have ad:=R.size;have f0:=h7;have f1:=hJ;have f2:=hK;have f3:=eW;have f4:=gB;have f5:=h9;go_wp2_with fail
 go_loopw [3,11] (fun aW aV wr=>∃(k:Nat)(sv:ag),k<=(aF e).length/\aV=ar k/\aW=sv/\an Q wr/\wr.ownsRow Q.heap.size 207 5 sv (GK e k).length (cz (GK e k))) (fun _ u _=>(aF e).length-(intOf u).toNat)
 ·exact ⟨0,_,ai,rfl,rfl,aA _ _,bQ⟩
 ·obtain ⟨k,sv,Z,rfl,rfl,hbr,ho⟩:=hrel;obtain ⟨sa,sc,rfl⟩:=ax ho
  by_cases a8:k<(aF e).length
  ·refine F7 ?_;intro hkl g1 c1 e1 kc;simp only [aK] at e1;obtain ⟨rfl,_,rfl⟩:=e1;have C:=(al l[k] (bu hkl)).but (b:=b) (But.of_below hbr);have hk':(aF e)[k]? =some l[k].1:=by rw [<-ak];simp [aI hkl]
   generalize l[k]=q at*;obtain ⟨aU,bb⟩:=q;simp only at kc C hk';have aC:(k:Int)<((aF e).length:Int):=ai
   match aU,C,hk' with
   |⟨nq,some xq,some yq⟩,⟨vx,vy,hv,rx,ry⟩,hk'=>
    have he':eM ⟨nq,some xq,some yq⟩=[]:=rfl;subst hv;have D:fj nq.kind=244\/fj nq.kind=245\/fj nq.kind=246:=by
     exact N9
    rcases D with D|D|D
    all_goals
     rw [D] at kc;go_wp2;go_roundw
     ·exact N7
     ·simp [intOf];omega
   |⟨nq,none,rq⟩,C,hk'=>
    rcases C with ⟨Yb,gv,hv,J⟩|⟨Yb,hv⟩|⟨Yb,hv⟩
    ·have he':eM ⟨nq,none,rq⟩=nq.gs:=by simp [eM,Yb]
     have I:0<nq.gs.length:=lT.2 (ah _ (bG hk') rfl Yb);have aE:=gk_le e (k+1);rw [Au he' hk',List.length_append] at aE;obtain ⟨A,gc,rfl,nl,aT⟩:=oi J I;subst hv;have am:A<wr.heap.size:=by
      obtain ⟨g',a4,e1,h1⟩:=J.form I;simp only [aK,aR,cg] at e1;obtain ⟨⟨rfl,_⟩,_⟩:=e1;exact h1.2
     have aX:=hbr.size;clear J Yb;go_wp2_with (at_builtin;go_must (refine lX _ rfl _ _ 211 rfl Q.heap.size 207 i0 _ 5 56 underlying211 hi aO aP aQ rfl ay _ _ _ rfl (ho.alloc _) ⟨A,0,none⟩ nq.gs.length gc (cz nq.gs) rfl nl ?hnews (Yc _) I ?h63 ?hbytes ?hbase (wr.heap.size+1) ?hH ?hrest))
     case hnews=>
      intro j u aL;have ap:(⟨A,0,none⟩:Addr).add j=⟨A,j,none⟩:=by unfold Addr.add;split<;>simp_all
      have:=aT j u aL;rw [ap] at this ⊢;rw [Below.cell ((aA wr.heap.size wr).alloc aH _) am];exact this
     case h63=>unfold maxLen;omega
     case hbytes=>omega
     case hbase=>simp;omega
     case hH=>simp
     case hrest=>
      intro g5 bf w5 aG Y av a7;have U:=ho.alloc (.cells #[ar nq.place,aw (some (aN A)) nq.gs.length gc] 236);have ae:=cA (hbr.alloc aX (.cells #[ar nq.place,aw (some (aN A)) nq.gs.length gc] 236)) Y aS (fun k Z=>(U.lt k Z).1);clear Y av U;go_wp2;go_roundw
      ·exact ⟨k+1,aw (some (aN g5)) ((GK e k).length+nq.gs.length) bf,ai,by go_num,rfl,ae,by rw [Au he' hk',List.length_append,uN];exact aG⟩
      simp [intOf];omega
    ·exact WR
    exact WR
   |⟨nq,some xq,none⟩,C,hk'=>exact C.elim
  have V:GK e k=bR e:=by
   unfold GK bR;rw [cY ai]
  have af:Hid (wr.ownsRow w.heap.size 207 5 (aw sa (GK e k).length sc) (bR e).length (cz (bR e))):=by
   have:=bn ho ad;rw [V] at this ⊢;exact this
  clear V;have aC:¬((k:Int)<((aF e).length:Int)):=ai;go_wp2;go_ret;exact ⟨aw sa (GK e k).length sc,rfl,R.trans (hbr.mono ad),af⟩
end
section
abbrev gI:=@List.findSome?_cons
abbrev gV:=@bne_iff_ne
abbrev gJ(a0:ag)(a1:ag)(a2:ag)(a3:ag)(a4:ag):Obj:=.cells #[a0,a1,a2,a3,a4] 207
def Ob (h:aD:=by
 go_wp2_with (go_at_call 73;refine (j9 _ 5 _).mono ?_;rintro e A ⟨rfl,rfl⟩);exact F1):aD:=h
def t3(p:Ty×ag):E3:=(p.1.place,p.1.name,p.2)
def r3(p:Rl×ag):E3:=(p.1.place,p.1.name,p.2)
def bX(ts:List Ty)(x:ae):Option Ty:=ts.find? fun t=>eqs t.name x
def b9(t:Ty)(x:ae):Option Rl:=t.rels.find? fun r=>eqs r.name x
def c3_t3(l:List (Ty×ag)):(l.map t3).flatMap c3=l.flatMap Ar:=by rw [List.flatMap_map];rfl
def c3_r3(l:List (Rl×ag)):(l.map r3).flatMap c3=l.flatMap Aq:=by rw [List.flatMap_map];rfl
def uO(x:ae)(l:List (Ty×ag)):hI x (l.map t3)=(l.find? fun p=>eqs p.1.name x).map t3:=by
 unfold hI;rw [List.find?_map];rfl
def uP(x:ae)(l:List (Rl×ag)):hI x (l.map r3)=(l.find? fun p=>eqs p.1.name x).map r3:=by
 unfold hI;rw [List.find?_map];rfl
def pu(x:ae)(l:List (Ty×ag)):bX (l.map Prod.fst) x=(l.find? fun p=>eqs p.1.name x).map Prod.fst:=by
 unfold bX;rw [List.find?_map];rfl
structure RC(b:Nat)(w:af)(sv:ag)(rs:List Rl)(rl:List (Rl×ag)):Prop where
 fst:rl.map Prod.fst=rs
 row:h6 w 159 sv (rl.map r3)
 ex:∀p∈rl,bA b w p.1.body p.2
 len:rs.length<=1000
 okp:∀r∈rs,(aF r.body).length<=1000
 okg:∀r∈rs,(bR r.body).length<=1000
 wf:∀r∈rs,WF r.body
structure MC(b:Nat)(w:af)(sv:ag)(ts:List Ty)(tl:List (Ty×ag)):Prop where
 fst:tl.map Prod.fst=ts
 row:h6 w 110 sv (tl.map t3)
 rels:∀p∈tl,∃rl,RC b w p.2 p.1.rels rl
 len:ts.length<=1000
 blt:b<w.heap.size
def RC.below{rl}(h:RC b w sv rs rl)(k:an w w'):RC b w' sv rs rl:=
 ⟨h.fst,h.row.below k,fun p A=>(h.ex p A).but (But.of_below k),h.len,h.okp,h.okg,h.wf⟩
def MC.below{tl}(h:MC b w sv ts tl)(k:an w w'):MC b w' sv ts tl:=
 ⟨h.fst,h.row.below k,fun p A=>by obtain ⟨rl,C⟩:=h.rels p A;exact ⟨rl,C.below k⟩,h.len,cM h.blt k.size⟩
def RC.form{rl}(h:RC b w sv rs rl):∃a n c,sv=aw a n c:=by
 obtain ⟨a,c,e⟩:=ax h.row;exact ⟨a,_,c,e⟩
def MC.form{tl}(h:MC b w sv ts tl):∃a n c,sv=aw a n c:=by
 obtain ⟨a,c,e⟩:=ax h.row;exact ⟨a,_,c,e⟩
def RC.llen{rl}(h:RC b w sv rs rl):(rl.map r3).length<=1000:=by
 have:=h.len;rw [<-h.fst] at this;simpa using this
def MC.llen{tl}(h:MC b w sv ts tl):(tl.map t3).length<=1000:=by
 have:=h.len;rw [<-h.fst] at this;simpa using this
def qj(b sv ts tl x w)(h:MC b w sv ts tl)(A:bX ts x=none):
  Calls prog 57 #[.agg #[sv],aj x] w fun e w'=>e=bj (.tuple #[.agg #[ar 0,aj ⟨#[]⟩,aw none 0 0],cm 5])/\an w w':=by
 refine yA sv (tl.map t3) x w h.llen h.row ?_;rw [<-h.fst,pu] at A;rw [uO]
 cases C:tl.find? (fun p=>eqs p.1.name x) with
 |none=>rfl
 |some y=>rw [C] at A;cases A
def rF(b sv ts tl x w)(h:MC b w sv ts tl)(t)(A:bX ts x=some t):
  ∃I Q J rl,RC b w (aw I Q J) t.rels rl/\Calls prog 57 #[.agg #[sv],aj x] w fun e w'=>e=bj (.tuple #[.agg #[ar t.place,aj t.name,aw I Q J],.nilIface])/\an w w':=by
 rw [<-h.fst,pu] at A
 cases C:tl.find? (fun p=>eqs p.1.name x) with
 |none=>rw [C] at A;cases A
 |some y=>
  rw [C] at A;simp only [Option.map_some,aR] at A;subst A;obtain ⟨rl,D⟩:=h.rels y (gH C);obtain ⟨a,n,c,e⟩:=D.form;rw [e] at D;refine ⟨a,n,c,rl,D,?_⟩;have:=pk sv (tl.map t3) x w h.llen h.row (t3 y) (by rw [uO,C];rfl) ⟨a,n,c,e⟩;have R:(t3 y).2.2=aw a n c:=e;rw [R] at this;exact this
def ke(b C:Nat)(nn sv t rl x w)(h:RC b w sv t.rels rl)(A:b9 t x=none):
  Calls prog 145 #[.agg #[ar C,aj nn,sv],aj x] w fun e w'=>e=bj (.tuple #[.agg #[ar 0,aj ⟨#[]⟩,.nilIface],cm 5])/\an w w':=by
 refine yB C nn sv (rl.map r3) x w h.llen h.row ?_;unfold b9 at A;rw [<-h.fst,List.find?_map] at A;rw [uP]
 cases D:rl.find? (fun p=>eqs p.1.name x) with
 |none=>rfl
 |some y=>rw [show ((fun r:Rl=>eqs r.name x) ∘ Prod.fst)=(fun p:Rl×ag=>eqs p.1.name x) from rfl,D] at A;cases A
def lm(b J:Nat)(nn sv t rl x w)(h:RC b w sv t.rels rl)(r)(A:b9 t x=some r):
  ∃ta C,bA b w r.body (.iface ta C)/\r∈t.rels/\Calls prog 145 #[.agg #[ar J,aj nn,sv],aj x] w fun e w'=>e=bj (.tuple #[.agg #[ar r.place,aj r.name,.iface ta C],.nilIface])/\an w w':=by
 have R:r∈t.rels:=gH A;unfold b9 at A;rw [<-h.fst,List.find?_map,show ((fun r:Rl=>eqs r.name x) ∘ Prod.fst)=(fun p:Rl×ag=>eqs p.1.name x) from rfl] at A
 cases D:rl.find? (fun p=>eqs p.1.name x) with
 |none=>rw [D] at A;cases A
 |some y=>
  rw [D] at A;simp only [Option.map_some,aR] at A;subst A;have I:=h.ex y (gH D);obtain ⟨ta,C,e⟩:=I.isI;rw [e] at I;refine ⟨ta,C,I,R,?_⟩;have:=pm J nn sv (rl.map r3) x w h.llen h.row (r3 y) (by rw [uP,D];rfl) ⟨ta,C,e⟩;have Q:(r3 y).2.2=.iface ta C:=e;rw [Q] at this;exact this
def Oc(g):∀(l:List Gr)(i:Nat),l[i]? =some g->(cz l)[i*5]? =some (ar g.tp)/\(cz l)[i*5+1]? =some (aj g.ty)/\(cz l)[i*5+2]? =some (ar g.reach)/\(cz l)[i*5+3]? =some (ar g.rp)/\(cz l)[i*5+4]? =some (aj g.rel)
 | [],i,h=>by simp at h
 |e'::l,0,h=>by simp at h;subst h;simp [cz,dk]
 |e'::l,i+1,h=>by
  have:=Oc g l i nf;rw [show cz (e'::l)=(dk e').toList++cz l from rfl,show (i+1)*5=i*5+5 by omega]
  simpa [dk] using this
variable {base:Nat}
def UK.cell{l}(h:w.ownsRow base 207 5 v l.length (cz l))(i g)(hi:l[i]? =some g):
  ∃q c,v=aw (some (aN q)) l.length c/\w.cell? (aC q (i*5))=some (ar g.tp)/\w.cell? (aC q (i*5+1))=some (aj g.ty)/\w.cell? (aC q (i*5+2))=some (ar g.reach)/\w.cell? (aC q (i*5+3))=some (ar g.rp)/\w.cell? (aC q (i*5+4))=some (aj g.rel):=by
 obtain ⟨h0,h1,h2,C,D⟩:=Oc g l i hi;obtain ⟨q,c,rfl,e0⟩:=aZ h _ _ h0;have A:∀k u,(cz l)[k]? =some u->w.cell? (aC q k)=some u:=fun k u I=>by
  obtain ⟨Q,J,e',e1⟩:=aZ h k u I;simp only [aK,aR,cg] at e';obtain ⟨⟨rfl,_⟩,_⟩:=e';exact e1
 exact ⟨q,c,rfl,e0,A _ _ h1,A _ _ h2,A _ _ C,A _ _ D⟩
def l7(ts:List Ty)(g:Gr):Option Nat:=match bX ts g.ty with
 |none=>some g.tp
 |some t=>if g.reach=2 then (match b9 t g.rel with
   |none=>some g.rp
   |some _=>none) else none
def oV(ts:List Ty)(gs:List Gr):Option Nat:=gs.findSome? (l7 ts)
def F8(ts:List Ty)(gs:List Gr)(k:Nat)(h:k<gs.length):oV ts (gs.drop k)=match l7 ts gs[k] with
  |some p=>some p
  |none=>oV ts (gs.drop (k+1)):=by
 unfold oV;rw [c9 h,gI]
 cases l7 ts gs[k]<;>rfl
def xR(b lp:Nat)(sv ts tl gv gs w)(h:MC b w sv ts tl)(aF:w.ownsRow (b+1) 207 5 gv gs.length (cz gs))(aX:gs.length<=1000):
  Calls prog 174 #[.agg #[sv],.agg #[ar lp,gv]] w fun e' w'=>e'=bj (jf 5 (oV ts gs))/\an w w':=by
 obtain ⟨aM,mn,mc,rfl⟩:=h.form;obtain ⟨ga,gc,rfl⟩:=ax aF;generalize hR:oV ts gs=R;go_enter func174,ntmps174;go_wp2_with fail
 go_loopw [14] (fun u wr=>∃(k:Nat),k<=gs.length/\u=ar k/\an w wr/\aL wr w.heap.size #[aw aM mn mc] 75/\Hid (oV ts (gs.drop k)=R)) (fun u _=>gs.length-(intOf u).toNat)
 ·exact ⟨0,ai,rfl,(bp.alloc aH _).alloc au _,(aL.new w _ _).alloc _,hR⟩
 ·obtain ⟨k,aY,rfl,hb,ad,HQ⟩:=hrel;have aW:=hb.size
  by_cases aG:k<gs.length
  ·have hR:=HQ;rw [F8 ts gs k aG] at hR;obtain ⟨q,c,e1,k0,k1,aZ,k3,a5⟩:=UK.cell (az (w':=wr) aF (fun g cs f _ aU=>hb.block g (lt_of_some aU))) k gs[k] (aI aG);simp only [aK] at e1;obtain ⟨rfl,_,rfl⟩:=e1;generalize gs[k]=g at*;have I:an w (wr.alloc (gJ ar g.tp aj g.ty ar g.reach ar g.rp aj g.rel)):=hb.alloc aW _;have al:=h.below I;have am:=ad.alloc (gJ ar g.tp aj g.ty ar g.reach ar g.rp aj g.rel);have ab:=aL.new wr #[ar g.tp,aj g.ty,ar g.reach,ar g.rp,aj g.rel] 207;have a6:wr.cell? (aN w.heap.size)=some (aw aM mn mc):=ad.cell rfl;have a7:=ad.lt;clear ad;unfold l7 at hR
   cases Q:bX ts g.ty with
   |none=>
    rw [Q] at hR;have C:=qj b _ ts tl g.ty _ al Q;clear Q;go_wp2_with fail;refine C.mono ?_;rintro e ah ⟨rfl,D⟩;have B2:=I.trans (D.mono I.size);obtain ⟨g0,av,ay,aB,aC⟩:=(ab.below D).five;have aE:=(ab.below D).lt;have ag:=B2.size;clear D;unfold cm;exact Ob
   |some t=>
    rw [Q] at hR;obtain ⟨U,Y,V,rl,aJ,ae⟩:=rF b _ ts tl g.ty _ al t Q;have C:=ae;have aR:=aJ;clear Q ae aJ;simp only at hR
    by_cases h2:g.reach=2
    ·have aT:((g.reach:Int) != 2)=false:=by rw [h2];rfl
     rw [if_pos h2] at hR;clear h2;go_wp2_with fail;refine C.mono ?_;rintro e ah ⟨rfl,D⟩;have ak:=I.trans (D.mono I.size);have B2:=ak;have aQ:=am.below D;have ap:=(aR.below D).below ((aA ah.heap.size ah).alloc aH (ba ar t.place aj t.name aw U Y V));have ac:=ab.below D;obtain ⟨g0,av,ay,aB,aC⟩:=ac.five;have aE:=ac.lt;have ag:=ak.size;clear D ak C
     cases af:b9 t g.rel with
     |none=>
      rw [af] at hR;have aP:=hR;go_wp2_with fail;refine (ke b t.place t.name _ t rl g.rel _ ap af).mono ?_;rintro e aO ⟨rfl,J⟩;have Z:=(B2.alloc ag (ba ar t.place aj t.name aw U Y V)).trans (J.mono aS);obtain ⟨a8,n1,n2,a9,bb⟩:=((ac.alloc (ba ar t.place aj t.name aw U Y V)).below J).five;have nl:=((ac.alloc (ba ar t.place aj t.name aw U Y V)).below J).lt;have aV:=Z.size;unfold cm;go_wp2_with (go_at_call 73;refine (j9 _ 5 _).mono ?_;rintro e aO ⟨rfl,rfl⟩);go_ret;rw [<-aP];exact ⟨rfl,(cq Z)⟩
     |some r=>
      rw [af] at hR;obtain ⟨bc,be,_,_,ae⟩:=lm b t.place t.name _ t rl g.rel _ ap r af;go_wp2_with fail;refine ae.mono ?_;rintro e aO ⟨rfl,J⟩;have Z:=(B2.alloc ag (ba ar t.place aj t.name aw U Y V)).trans (J.mono aS);have aV:=Z.size;go_wp2;go_roundw
      ·exact ⟨k+1,ai,by go_num,(cq Z),(cZ ((aQ.alloc (ba ar t.place aj t.name aw U Y V)).below J)),hR⟩
      simp [intOf];omega
    have aT:((g.reach:Int) != 2)=true:=by rw [gV];omega
    rw [if_neg h2] at hR;go_wp2_with fail;refine C.mono ?_;rintro e ah ⟨rfl,D⟩;have B2:=I.trans (D.mono I.size);obtain ⟨g0,av,ay,aB,aC⟩:=(ab.below D).five;have aE:=(ab.below D).lt;have ag:=B2.size;go_wp2;go_roundw
    ·exact ⟨k+1,ai,by go_num,(cq B2),(cZ (am.below D)),hR⟩
    simp [intOf];omega
  exact F2
end
abbrev uT:=@List.length_filterMap_le
abbrev bO:=@List.length_map
abbrev cK:=@List.map_append
def WW (h:aD:=by
 rw [HST,ht1];simpa using HQ):aD:=h
def WX (h:aD:=by
 go_wp2_with fail;refine C.mono ?_;rintro e w5 ⟨rfl,oW⟩;refine Ok ?_;intro B5 O5 sz5;clear oW;unfold cm;go_wp2;go_roundw
 ·exact ⟨k+1,aw sa sn sc,l3,ai,by go_num,rfl,B5.alloc sz5 _,O5.alloc _,WW⟩
 simp [intOf];omega):aD:=h
def Ol (h:aD:=by
 rcases fE k gs.length with A|A
 ·exact A
 rw [jA A] at h;cases h):aD:=h
def Om(q:br) (h:cj br->aD:=by
 intro zq;have B4:=T8.trans (hb4.mono T8.size);have WY:=TBX.below hb4;obtain ⟨v0,v1,v2,v3,v4⟩:=WY.five;have vl:=WY.lt;have O4:=(az (w':=w4) OX (fun g cs f _ hh=>hb4.block g (lt_of_some hh))).alloc (ba ar u.place aj u.name aw ua un uc);have FN:=B4.size;have ZU:=B4.alloc FN (ba ar u.place aj u.name aw ua un uc);clear WY
 revert B4 v0 v1 v2 v3 v4 vl O4 FN ZU
 exact zq.1):aD:=h ⟨q⟩
def Ax(q:br) (h:cj br->aD:=by
 intro zq;refine C.mono ?_;rintro e w4 ⟨rfl,hb4⟩;have B4:=T8.trans (hb4.mono T8.size)
 revert w4 hb4 B4
 exact zq.1):aD:=h ⟨q⟩
def On(q:br) (h:cj br->aD:=by
 intro zq;refine C.mono ?_;rintro e w4 ⟨rfl,hb4⟩;have RC4:=(RCH.below hb4).below ((aA w4.heap.size w4).alloc aH (ba ar u.place aj u.name aw ua un uc))
 revert w4 hb4 RC4
 exact zq.1):aD:=h ⟨q⟩
def Ok(q:br) (h:cj br->aD:=by
 intro zq;have B5:=ZU.trans (oW.mono ZU.size);have O5:=az (w':=w5) O4 (fun g cs f _ hh=>oW.block g (lt_of_some hh));have sz5:=B5.size
 revert B5 O5 sz5
 exact zq.1):aD:=h ⟨q⟩
def iM(ts:List Ty)(y:ae)(g:Gr):Option Ty:=if g.reach=0 then (match bX ts g.ty with
 |none=>none
 |some u=>if (b9 u y).isSome then some u else none) else none
def tk(ts:List Ty)(y:ae)(k:Nat)(gs:List Gr):List Ty:=(gs.take k).filterMap (iM ts y)
def nk(ts:List Ty)(t:Ty)(x y:ae):List Ty:=match b9 t x with
 |none=>[]
 |some r=>(bR r.body).filterMap (iM ts y)
def UO{y gs g}(h:gs[k]? =some g):tk ts y (k+1) gs=tk ts y k gs++(iM ts y g).toList:=by
 have C:k<gs.length:=by
  exact Ol
 rw [aI C] at h;simp only [aR] at h;unfold tk;rw [cD C,List.filterMap_append,h]
 cases D:iM ts y g<;>simp [D]
def tk_le(ts y k gs):(tk ts y k gs).length<=k:=by
 unfold tk;have:=uT (iM ts y) (gs.take k);rw [dZ] at this;omega
def Lj(b tp p1 p2:Nat)(n1 n2 sv ts tl t tv rl w)(h:MC b w sv ts tl)(A:RC b w tv t.rels rl)(J:b9 t n1=none):
  Calls prog 223 #[.agg #[sv],.agg #[ar t.place,aj t.name,tv],.agg #[ar tp,ar p1,aj n1,ar p2,aj n2]] w fun e' w'=>e'=bj (aw none 0 0)/\an w w':=by
 obtain ⟨Q,mn,mc,rfl⟩:=h.form;obtain ⟨R,V,U,rfl⟩:=A.form;have W0:an w (((w.alloc (aY aw Q mn mc)).alloc (ba ar t.place aj t.name aw R V U)).alloc (.cells #[ar tp,ar p1,aj n1,ar p2,aj n2] 240)):=((bp.alloc aH _).alloc au _).alloc aS _;have C:=ke b t.place t.name _ t rl n1 _ (A.below W0) J;clear h A J;go_enter func223,ntmps223;go_wp2_with fail;refine C.mono ?_;rintro e w1 ⟨rfl,I⟩;have D:=W0.trans (I.mono W0.size);have sz:=D.size;clear I;unfold cm;go_wp2;go_ret;exact ⟨rfl,(cq D)⟩
def yD(b tp p1 p2:Nat)(n1 n2 sv ts tl t tv rl w)(h:MC b w sv ts tl)(J:RC b w tv t.rels rl)(r)(A:b9 t n1=some r):
  Calls prog 223 #[.agg #[sv],.agg #[ar t.place,aj t.name,tv],.agg #[ar tp,ar p1,aj n1,ar p2,aj n2]] w fun e' w'=>∃(xM:ag)(l3:List E3),e'=bj xM/\an w w'/\w'.ownsRow w.heap.size 110 3 xM l3.length (l3.flatMap c3)/\l3.map (fun e=>e.2.1)=((bR r.body).filterMap (iM ts n2)).map Ty.name/\∀e∈l3,∃a n c,e.2.2=Value.slice a n c:=by
 obtain ⟨Z,mn,mc,rfl⟩:=h.form;obtain ⟨ae,ah,af,rfl⟩:=J.form;have W0:an w (((w.alloc (aY aw Z mn mc)).alloc (ba ar t.place aj t.name aw ae ah af)).alloc (.cells #[ar tp,ar p1,aj n1,ar p2,aj n2] 240)):=((bp.alloc aH _).alloc au _).alloc aS _;obtain ⟨bt,rv,bo,V,D⟩:=lm b t.place t.name _ t rl n1 _ (J.below W0) r A;have okp:=J.okp r V;have okg:=J.okg r V;have wf:=J.wf r V;have aV:=h.below W0;have a5:=((aL.new w #[aw Z mn mc] 75).alloc (ba ar t.place aj t.name aw ae ah af)).alloc (.cells #[ar tp,ar p1,aj n1,ar p2,aj n2] 240);have TB:=aL.new' ((w.alloc (aY aw Z mn mc)).alloc (ba ar t.place aj t.name aw ae ah af)) #[ar tp,ar p1,aj n1,ar p2,aj n2] 240 (w.heap.size+2) au;have blt:=h.blt;clear h J A V;go_enter func223,ntmps223;go_wp2_with fail;refine D.mono ?_;rintro e w1 ⟨rfl,ad⟩;have b1:=ad.alloc ad.size (cC ar r.place aj r.name bt rv);have am:=W0.trans (b1.mono W0.size);have a6:=a5.below b1;have a8:=TB.below b1;have ay:=aV.below b1;have a7:=bo.but (But.of_below b1);have bc:=ay.blt;clear ad b1 D;go_wp2_with fail;refine (pp r.place r.name b r.body _ _ bc a7 okp okg wf).mono ?_;rintro e al ⟨gv,rfl,R,aO⟩;obtain ⟨ga,gc,rfl⟩:=ax aO;have ap:=am.trans (R.mono am.size);have ab:=a6.below R;have a9:=a8.below R;have aZ:=ay.below R;have aQ:=ap.size;clear R;go_wp2_with fail
 go_loopw [9,29] (fun bv bu wr=>∃(k:Nat)(xM:ag)(l3:List E3),k<=(bR r.body).length/\bu=ar k/\bv=xM/\an al wr/\wr.ownsRow al.heap.size 110 3 xM l3.length (l3.flatMap c3)/\Hid (l3.map (fun e=>e.2.1)=(tk ts n2 k (bR r.body)).map Ty.name/\∀e∈l3,∃a n c,e.2.2=Value.slice a n c)) (fun _ u _=>(bR r.body).length-(intOf u).toNat)
 ·exact ⟨0,_,[],ai,rfl,rfl,aA _ _,bQ,ak ⟨rfl,au⟩⟩
 ·obtain ⟨k,xM,l3,aG,rfl,bq,I,ho,HQ⟩:=hrel;have bF:l3.length<=k:=by
   have:=congrArg List.length HQ.1;rw [bO,bO] at this;have:=tk_le ts n2 k (bR r.body);omega
  obtain ⟨sa,sn,sc,rfl⟩:∃a n c,xM=aw a n c:=by
   obtain ⟨a,c,e⟩:=ax ho;exact ⟨a,_,c,e⟩
  subst bq;have bw:=I.size
  by_cases aJ:k<(bR r.body).length
  ·have bk:(k:Int)<((bR r.body).length:Int):=by omega
   obtain ⟨q,c,e1,k0,k1,bG,k3,bH⟩:=UK.cell (az (w':=wr) aO (fun g cs f _ hh=>I.block g (lt_of_some hh))) k (bR r.body)[k] (aI aJ);simp only [aK] at e1;obtain ⟨rfl,_,rfl⟩:=e1;have aE:(bR r.body)[k]? =some (bR r.body)[k]:=aI aJ;generalize (bR r.body)[k]=g at*;have HST:=UO (ts:=ts) (y:=n2) aE;have Q:=I.alloc bw (gJ ar g.tp aj g.ty ar g.reach ar g.rp aj g.rel);have T8:=Q;have av:=aZ.below Q;have bC:=ab.below Q;have TBX:=a9.below Q;have bB:=aL.new wr #[ar g.tp,aj g.ty,ar g.reach,ar g.rp,aj g.rel] 207;have OX:=ho.alloc (gJ ar g.tp aj g.ty ar g.reach ar g.rp aj g.rel);have bI:wr.cell? (aN w.heap.size)=some (aw Z mn mc):=(ab.below I).cell rfl;have bJ:=(ab.below I).lt;clear Q aE
   by_cases h0:g.reach=0
   ·have bh:((g.reach:Int) != 0)=false:=by rw [h0];rfl
    cases A:bX ts g.ty with
    |none=>
     have ht1:iM ts n2 g=none:=by simp [iM,h0,A]
     have C:=qj b _ ts tl g.ty _ av A;clear A h0;go_wp2_with fail;refine Ax ?_;intro w4 hb4 B4;have WY:=TBX.below hb4;have bD:=WY.alloc (ba ar 0 aj ⟨#[]⟩ aw none 0 0);obtain ⟨v0,v1,v2,v3,v4⟩:=WY.five;have vl:=WY.lt;have O4:=(az (w':=w4) OX (fun g cs f _ hh=>hb4.block g (lt_of_some hh))).alloc (ba ar 0 aj ⟨#[]⟩ aw none 0 0);have FN:=B4.size;have ZU:=B4.alloc FN (ba ar 0 aj ⟨#[]⟩ aw none 0 0);clear hb4 WY;have C:=ke b 0 ⟨#[]⟩ (aw none 0 0) ⟨em,0,[]⟩ [] n2 (w4.alloc (ba ar 0 aj ⟨#[]⟩ aw none 0 0)) ⟨rfl,bQ,au,au,au,au,au⟩ rfl;unfold cm;exact WX
    |some u=>
     obtain ⟨ua,un,uc,aP,aM,D⟩:=rF b _ ts tl g.ty _ av u A;have C:=D;have RCH:=aM;clear D aM
     cases Y:b9 u n2 with
     |none=>
      have ht1:iM ts n2 g=none:=by simp [iM,h0,A,Y]
      clear A h0;go_wp2_with fail;refine On ?_;intro w4 hb4 RC4;refine Om ?_;intro B4 v0 v1 v2 v3 v4 vl O4 FN ZU;clear hb4;have C:=ke b u.place u.name _ u aP n2 _ RC4 Y;exact WX
     |some r2=>
      have ht1:iM ts n2 g=some u:=by simp [iM,h0,A,Y]
      clear A h0;go_wp2_with fail;refine On ?_;intro w4 hb4 RC4;have bb:=aL.new w4 #[ar u.place,aj u.name,aw ua un uc] 110;refine Om ?_;intro B4 v0 v1 v2 v3 v4 vl O4 FN ZU;clear hb4;obtain ⟨aR,aT,_,_,D⟩:=lm b u.place u.name _ u aP n2 _ RC4 r2 Y;go_wp2_with fail;refine D.mono ?_;rintro e w5 ⟨rfl,oW⟩;have ac:=bb.below oW;obtain ⟨bK,bL,bM⟩:=ac.three;have bN:=ac.lt;clear ac;refine Ok ?_;intro B5 O5 sz5;clear oW;go_wp2_with (at_builtin;go_must (refine ez rfl underlying73 Tryz.info110 al.heap.size ((O5.alloc _).alloc _) (w5.heap.size+1) 1 (c3 (u.place,u.name,aw ua un uc)) (w5.heap.size+2) ?hrest))
      case hrest=>
       intro bg be bP bl aF bi bE;have aB:=(O5.alloc (cC ar r2.place aj r2.name aR aT)).alloc (ba ar u.place aj u.name aw ua un uc);have aU:=cA ((B5.alloc sz5 (cC ar r2.place aj r2.name aR aT)).alloc aS (ba ar u.place aj u.name aw ua un uc)) aF aS (fun k aG=>(aB.lt k aG).1);clear aF bi aB;go_wp2;go_roundw
       ·exact ⟨k+1,aw (some (aN bg)) (l3.length+1) be,l3++[(u.place,u.name,aw ua un uc)],ai,by go_num,rfl,aU,by rw [List.length_append,cN];exact bl,ak ⟨by rw [HST,ht1,cK,cK,HQ.1];rfl,fun e U=>by rw [aW,aX] at U;rcases U with U|rfl;exact HQ.2 e U;exact ⟨ua,un,uc,rfl⟩⟩⟩
       simp [intOf];omega
   have bh:((g.reach:Int) != 0)=true:=by rw [gV];omega
   have ht1:iM ts n2 g=none:=by simp [iM,h0]
   clear h0;go_wp2;go_roundw
   ·exact ⟨k+1,aw sa sn sc,l3,ai,by go_num,rfl,T8,OX,WW⟩
   simp [intOf];omega
  have bk:¬((k:Int)<((bR r.body).length:Int)):=ai;have aC:tk ts n2 k (bR r.body)=(bR r.body).filterMap (iM ts n2):=by
   unfold tk;rw [cY ai]
  rw [aC] at HQ;clear aC;go_wp2;go_ret;exact ⟨aw sa sn sc,rfl,ap.trans (I.mono aQ),l3,bn ho aQ,HQ.1,fun bx bz bA bs=>HQ.2 (bx,bz,bA) bs⟩
def Gc(ts:List Ty)(t:Ty)(n1:ae)(p1:Nat)(n2:ae)(p2:Nat):Option Nat:=match b9 t n1 with
 |none=>some p1
 |some r=>if ((bR r.body).filterMap (iM ts n2)).length=0 then some p2 else none
def Ay(b tp p1 p2:Nat)(n1 n2 sv ts tl t tv rl w)(h:MC b w sv ts tl)(af:RC b w tv t.rels rl):
  Calls prog 175 #[.agg #[sv],.agg #[ar t.place,aj t.name,tv],.agg #[ar tp,ar p1,aj n1,ar p2,aj n2]] w fun e' w'=>e'=bj (jf 5 (Gc ts t n1 p1 n2 p2))/\an w w':=by
 obtain ⟨Q,mn,mc,rfl⟩:=h.form;obtain ⟨U,Y,V,rfl⟩:=af.form;have W0:an w (((w.alloc (aY aw Q mn mc)).alloc (ba ar t.place aj t.name aw U Y V)).alloc (.cells #[ar tp,ar p1,aj n1,ar p2,aj n2] 240)):=((bp.alloc aH _).alloc au _).alloc aS _;have ah:=h.below W0;have Z:=af.below W0;have ac:=((aL.new w #[aw Q mn mc] 75).alloc (ba ar t.place aj t.name aw U Y V)).alloc (.cells #[ar tp,ar p1,aj n1,ar p2,aj n2] 240);have ae:=(aL.new' (w.alloc (aY aw Q mn mc)) #[ar t.place,aj t.name,aw U Y V] 110 (w.heap.size+1) au).alloc (.cells #[ar tp,ar p1,aj n1,ar p2,aj n2] 240);have TB:=aL.new' ((w.alloc (aY aw Q mn mc)).alloc (ba ar t.place aj t.name aw U Y V)) #[ar tp,ar p1,aj n1,ar p2,aj n2] 240 (w.heap.size+2) au;generalize hR:Gc ts t n1 p1 n2 p2=R;unfold Gc at hR
 cases J:b9 t n1 with
 |none=>
  have C:=ke b t.place t.name _ t rl n1 _ Z J;rw [J] at hR;go_enter func175,ntmps175;go_wp2_with fail;refine C.mono ?_;rintro e w1 ⟨rfl,D⟩;have I:=W0.trans (D.mono W0.size);obtain ⟨ay,v1,az,aA,aB⟩:=(TB.below D).five;have aC:=(TB.below D).lt;have sz:=I.size;unfold cm;go_wp2_with (go_at_call 73;refine (j9 _ 5 _).mono ?_;rintro e aP ⟨rfl,rfl⟩);go_ret;rw [<-hR];exact ⟨rfl,(cq I)⟩
 |some r=>
  obtain ⟨aE,aF,_,_,am⟩:=lm b t.place t.name _ t rl n1 _ Z r J;rw [J] at hR;go_enter func175,ntmps175;go_wp2_with fail;refine am.mono ?_;rintro e w1 ⟨rfl,D⟩;have b1:=D.alloc D.size (cC ar r.place aj r.name aE aF);have I:=W0.trans (b1.mono W0.size);have ai:=ah.below b1;have ak:=Z.below b1;have ad:=TB.below b1;obtain ⟨ay,v1,az,aA,aB⟩:=(TB.below D).five;have aC:=(TB.below D).lt;obtain ⟨aQ,aR,aT⟩:=(ae.below D).three;have aU:=(ae.below D).lt;have aG:w1.cell? (aN w.heap.size)=some (aw Q mn mc):=(ac.below D).cell rfl;have aI:=(ac.below D).lt;go_wp2_with fail;refine (yD b tp p1 p2 n1 n2 _ ts tl t _ rl _ ai ak r J).mono ?_;rintro e aO ⟨aK,ag,rfl,ab,ho,ap,_⟩;have av:ag.length=((bR r.body).filterMap (iM ts n2)).length:=by
   have:=congrArg List.length ap
   rwa [bO,bO] at this
  obtain ⟨aJ,oc,rfl⟩:=ax ho;have B2:=I.trans (ab.mono I.size);obtain ⟨aV,aW,aX,aZ,a4⟩:=(ad.below ab).five;have a5:=(ad.below ab).lt;have aM:=B2.size;rw [<-av] at hR;generalize ag.length=ln at*
  by_cases h0:ln=0
  ·have al:((ln:Int)==0)=true:=by rw [h0];rfl
   rw [if_pos h0] at hR;exact Ob
  have al:((ln:Int)==0)=false:=by rw [bW];omega
  rw [if_neg h0] at hR;go_wp2;exact F1
abbrev rI:=@List.append_of_mem
def WZ (h:aD:=by
 rw [hn] at hR C;go_wp2_with fail;refine Ax ?_;intro D A B3;unfold jf;go_wp2;exact Oo):aD:=h
def W1 (h:aD:=by
 rw [hn] at hR C;go_wp2_with fail;refine Ax ?_;intro I D A;unfold jf fO;go_wp2;go_ret;rw [<-hR];exact ⟨rfl,B2.trans (A.mono Yg)⟩):aD:=h
def Oo (h:aD:=by
 go_roundw
 ·exact ⟨k+1,ai,by go_num,B3,hR⟩
 simp [intOf];omega):aD:=h
def Oq(q:br) (h:cj br->aD:=by
 intro zq;have iN:=(L2 l[k] (bu hkl)).but (b:=b) (But.of_below hbr);have hk':(aF r.body)[k]? =some l[k].1:=by rw [<-L1];simp [aI hkl]
 revert iN hk'
 exact zq.1):aD:=h ⟨q⟩
def gC(ts:List Ty)(t:Ty)(p:Ex):Option Nat:=match p.l with
 |some _=>none
 |none=>if p.nd.kind=0 then oV ts p.nd.gs
  else if p.nd.kind=1 then (match b9 t p.nd.n1 with
   |none=>some p.nd.place
   |some _=>none)
  else Gc ts t p.nd.n1 p.nd.p1 p.nd.n2 p.nd.p2
def gX(ts:List Ty)(t:Ty)(r:Rl):Option Nat:=(aF r.body).findSome? (gC ts t)
def oX{α β:Type}(f:α->Option β)(l:List α)(k)(a:α)(h:l[k]? =some a):(l.drop k).findSome? f=match f a with
  |some p=>some p
  |none=>(l.drop (k+1)).findSome? f:=by
 have C:k<l.length:=by
  rcases fE k l.length with A|A
  ·exact A
  rw [jA A] at h;cases h
 rw [aI C] at h;simp only [aR] at h;rw [c9 C,gI,h]
 cases f a<;>rfl
def yE{e p}(D:p∈aF e)(C:p.l=none)(A:p.nd.kind=0):p.nd.gs.length<=(bR e).length:=by
 unfold bR;have:eM p=p.nd.gs:=by simp [eM,C,A]
 rw [<-this];obtain ⟨a,c,h⟩:=rI D;rw [h];simp;omega
def pw(k):fj k=244\/fj k=245\/fj k=246:=by
 exact N9
def uU(b sv ts tl t tv rl r bv w)(h:MC b w sv ts tl)(ad:RC b w tv t.rels rl)(aM:bA b w r.body bv)(aJ:r∈t.rels):
  Calls prog 117 #[.agg #[sv],.agg #[ar t.place,aj t.name,tv],.agg #[ar r.place,aj r.name,bv]] w fun e' w'=>e'=bj (jf 5 (gX ts t r))/\an w w':=by
 obtain ⟨ae,mn,mc,rfl⟩:=h.form;obtain ⟨ak,am,al,rfl⟩:=ad.form;obtain ⟨ah,rv,rfl⟩:=aM.isI;have W0:an w (((w.alloc (aY aw ae mn mc)).alloc (ba ar t.place aj t.name aw ak am al)).alloc (cC ar r.place aj r.name ah rv)):=((bp.alloc aH _).alloc au _).alloc aS _;have av:=h.below W0;have aU:=ad.below W0;have aV:=aM.but (But.of_below W0);have aX:=((aL.new w #[aw ae mn mc] 75).alloc (ba ar t.place aj t.name aw ak am al)).alloc (cC ar r.place aj r.name ah rv);have a5:=(aL.new' (w.alloc (aY aw ae mn mc)) #[ar t.place,aj t.name,aw ak am al] 110 (w.heap.size+1) au).alloc (cC ar r.place aj r.name ah rv);have okp:=ad.okp r aJ;have okg:=ad.okg r aJ;have aC:=W0;generalize hR:gX ts t r=R;have aT:=hR;have a6:=av.blt;go_enter func117,ntmps117;go_wp2_with fail;refine (oh r.body b _ _ a6 aV okp).mono ?_;rintro e1 bh ⟨bI,rfl,Z,l,l1,l2,aP⟩;obtain ⟨bF,oc,rfl⟩:=ax aP;have bC:l.length=(aF r.body).length:=by rw [<-l1];simp
 have B2:=aC.trans (Z.mono aC.size);have L1:=l1;have L2:=l2;have L3:=aP;have aW:=av.below Z;have a4:=aU.below Z;have aE:=aX.below Z;have aG:=a5.below Z;have Yg:=B2.size;have f0:=h7;have f1:=hJ;have f2:=hK;have f3:=eW;have f4:=gB;have f5:=h9;have g1:=l4;have bo:=l5;have bq:=ja;have bs:=kI;have g5:=kK;have h2:=l6;have bt:=jb;have bw:=kJ;have bx:=kL;go_wp2_with fail
 go_loopw [17] (fun bg wr=>∃(k:Nat),k<=(aF r.body).length/\bg=ar k/\an bh wr/\Hid (((aF r.body).drop k).findSome? (gC ts t)=R)) (fun u _=>(aF r.body).length-(intOf u).toNat)
 ·exact ⟨0,ai,rfl,aA _ _,aT⟩
 ·obtain ⟨k,bz,rfl,hbr,aB⟩:=hrel;have Y:=hbr;have ap:=hbr.size
  by_cases bB:k<(aF r.body).length
  ·refine F7 ?_;intro hkl aQ c1 e1 kc;simp only [aK] at e1;obtain ⟨rfl,_,rfl⟩:=e1;refine Oq ?_;intro iN hk';generalize l[k]=q at*;obtain ⟨aQ,bH⟩:=q;simp only at kc iN hk';have a8:(k:Int)<((aF r.body).length:Int):=ai;have hR:=aB;rw [oX _ _ _ _ hk'] at hR;have ab:=bG hk';have bD:wr.cell? (aN w.heap.size)=some (aw ae mn mc):=(aE.below hbr).cell rfl;have bE:=(aE.below hbr).lt;obtain ⟨bJ,bK,bL⟩:=(aG.below hbr).three;have bM:=(aG.below hbr).lt;have ay:=aW.below hbr;have af:=a4.below hbr
   match aQ,iN,hR,ab with
   |⟨nq,some xq,some yq⟩,⟨vx,vy,hv,rx,ry⟩,hR,ab=>
    have aR:=(hR:((aF r.body).drop (k+1)).findSome? (gC ts t)=R);subst hv
    rcases pw nq.kind with ag|ag|ag
    all_goals
     rw [ag] at kc;go_wp2;go_roundw
     ·exact ⟨k+1,ai,by go_num,Y,aR⟩
     ·simp [intOf];omega
   |⟨nq,none,rq⟩,iN,hR,ab=>
    rcases iN with ⟨Q,gv,hv,aO⟩|⟨Q,hv⟩|⟨Q,hv⟩
    ·have a9:=yE ab rfl Q;have U:gC ts t ⟨nq,none,rq⟩=oV ts nq.gs:=by simp [gC,Q]
     rw [U] at hR;obtain ⟨bk,bn,bl,rfl⟩:∃a n c,gv=aw a n c:=by
      obtain ⟨a,c,e⟩:=ax aO;exact ⟨a,_,c,e⟩
     subst hv;have J:an wr (wr.alloc (.cells #[ar nq.place,aw bk bn bl] 236)):=bp.alloc aH _;have C:=xR b nq.place _ ts tl _ nq.gs _ (ay.below J) (az aO (fun g cs f _ hh=>J.block g (lt_of_some hh))) (by simp only at a9;omega);have T8:=Y.trans (J.mono ap)
     cases hn:oV ts nq.gs with
     |some p=>
      exact W1
     |none=>
      exact WZ
    ·subst hv;have J:an wr (wr.alloc (.cells #[ar nq.place,aj nq.n1] 238)):=bp.alloc aH _;have T8:=Y.trans (J.mono ap);have ac:=aL.new wr #[ar nq.place,aj nq.n1] 238
     cases hn:b9 t nq.n1 with
     |none=>
      have U:gC ts t ⟨nq,none,rq⟩=some nq.place:=by simp [gC,Q,hn]
      rw [U] at hR;have C:=ke b t.place t.name _ t rl nq.n1 _ (af.below J) hn;go_wp2_with fail;refine Ax ?_;intro bi V B3;obtain ⟨bb,bc⟩:=(ac.below V).two;have be:=(ac.below V).lt;unfold cm;go_wp2_with (go_at_call 73;refine (j9 _ 5 _).mono ?_;rintro e w4 ⟨rfl,rfl⟩;unfold fO cm);go_ret;rw [<-hR];exact ⟨rfl,B2.trans (B3.mono Yg)⟩
     |some r2=>
      have U:gC ts t ⟨nq,none,rq⟩=none:=by simp [gC,Q,hn]
      rw [U] at hR;obtain ⟨bN,bO,_,_,a7⟩:=lm b t.place t.name _ t rl nq.n1 _ (af.below J) r2 hn;go_wp2_with fail;refine a7.mono ?_;rintro e bi ⟨rfl,V⟩;have B3:=T8.trans (V.mono T8.size);obtain ⟨bb,bc⟩:=(ac.below V).two;have be:=(ac.below V).lt;go_wp2_with (go_at_call 73;refine (N5 _ _).mono ?_;rintro e w4 ⟨rfl,rfl⟩);exact Oo
    subst hv;have U:gC ts t ⟨nq,none,rq⟩=Gc ts t nq.n1 nq.p1 nq.n2 nq.p2:=by simp [gC,Q]
    rw [U] at hR;have J:an wr (wr.alloc (.cells #[ar nq.place,ar nq.p1,aj nq.n1,ar nq.p2,aj nq.n2] 240)):=bp.alloc aH _;have T8:=Y.trans (J.mono ap);have C:=Ay b nq.place nq.p1 nq.p2 nq.n1 nq.n2 _ ts tl t _ rl _ (ay.below J) (af.below J)
    cases hn:Gc ts t nq.n1 nq.p1 nq.n2 nq.p2 with
    |some p=>
     exact W1
    |none=>
     exact WZ
   |⟨nq,some xq,none⟩,iN,hR,ab=>exact iN.elim
  have hR:=aB;rw [eA ai] at hR;have a8:¬((k:Int)<((aF r.body).length:Int)):=ai;go_wp2;go_ret;rw [<-hR];exact ⟨rfl,B2.trans (Y.mono Yg)⟩
