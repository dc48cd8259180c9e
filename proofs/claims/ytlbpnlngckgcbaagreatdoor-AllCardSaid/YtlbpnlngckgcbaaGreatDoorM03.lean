import Derived.Test.YtlbpnlngckgcbaaGreatDoorM01
set_option linter.all false
set_option maxHeartbeats 4000000
set_option maxRecDepth 100000
namespace Go.Proofs.YtlbpnlngckgcbaaGreatDoor
open Go.RowKit Go.PlainAid Go.Proofs.Tryz
variable {aD bq:Prop} {α:Type} {b d i size n base' k:Nat} {s x:ae} {w w' w1 y z:af} {v sv:ag} {cs:Array ag} {T e:TypeId} {xs:List ag} {rs:List Rl} {ts:List Ty}
abbrev bR:=@beq_eq_false_iff_ne
def Gv (h:aD:=by
 intro e D A;obtain ⟨v,C,rfl⟩:=Post.form A;go_wp2;go_ret2;exact Post.from (w:=w) (eH (But.refl b w)) A):aD:=h
def Post.form{r:eL α}{rep:af->α->ag->Prop}{bad e}(h:Post b s d w r rep bad e w'):∃v A,e=bi (.tuple #[v,A]):=by
 obtain ⟨_,h⟩:=h
 cases r with
 |error y=>obtain ⟨c,j⟩:=y;obtain ⟨v,d',h,_⟩:=h;exact ⟨_,_,h⟩
 |ok y=>obtain ⟨c,j⟩:=y;obtain ⟨v,h,_⟩:=h;exact ⟨_,_,h⟩
def Post.from{r:eL α}{rep:af->α->ag->Prop}{bad e}(k:But b w w1)(h:Post b s d w1 r rep bad e w'):Post b s d w r rep bad e w':=⟨k.trans h.1,h.2⟩
def At.open(h:At w b s i d)(d':Nat):At (w.setCell (aC b 3) (au d')) b s i d':=
 ⟨⟨⟨by rw [gA _ h.pos.rd.blk];rfl⟩,h.pos.le⟩,h.good⟩
def yD(b s i w)(h:At w b s i 4):
  Calls prog 272 #[bu b] w (eV b s 4 w (.error (3,i))):=by
 have c3:=h.pos.rd.c3;go_enter func272,ntmps272;go_wp2;go_ret2;exact ⟨But.refl _ _,_,4,rfl,.inl rfl,h⟩
def AW(b s i d w)(hs:s.size<=500)(h:At w b s i d)(ac:d<4)(Y:eqs (TT s i) (sg 40)=true)(A:Nat->eL Ex)(Z:∀i w,At w b s i (d+1)->Calls prog 222 #[bu b] w (eV b s (d+1) w (A i)))(c j)(I:Hid (A (i+1)=.error (c,j))):
  Calls prog 272 #[bu b] w (eV b s d w (.error (c,j))):=by
 have J:(s.size<=maxLen):=fK;have c3:=h.pos.rd.c3;have ah:=h.pos.rd.fz;have ad:((d:Int)==4)=false:=by rw [bR];omega
 go_enter func272,ntmps272;go_wp2_with fail;rw [show ((d:Int)+1)=((d+1:Nat):Int) by omega];refine (steps b s i (d+1) _ J (At.open h (d+1)) (dR Y ax)).mono ?_;rintro e ab ⟨rfl,Q,U⟩;have D:=But.trans (x:=w) ((But.refl b w).setCell 3 _) U;have C:=Z (i+1) ab Q;rw [I] at C;go_wp2_with fail;refine C.mono ?_;rintro e ag ⟨V,af,d3,rfl,ae,R⟩;unfold cm;go_wp2;go_ret2;exact ⟨(But.trans D V),_,d3,rfl,.inl rfl,R⟩
def Dt(b s i d w)(hs:s.size<=500)(h:At w b s i d)(ah:d<4)(ad:eqs (TT s i) (sg 40)=true)(D:Nat->eL Ex)(af:∀i w,At w b s i (d+1)->Calls prog 222 #[bu b] w (eV b s (d+1) w (D i)))(x j)(R:Hid (D (i+1)=.ok (x,j)))(Q:Hid (eqs (TT s j) (sg 41)=false)):
  Calls prog 272 #[bu b] w (eV b s d w (.error (2,j))):=by
 have U:(s.size<=maxLen):=fK;have c3:=h.pos.rd.c3;have am:=h.pos.rd.fz;have ai:((d:Int)==4)=false:=by rw [bR];omega
 go_enter func272,ntmps272;go_wp2_with fail;rw [show ((d:Int)+1)=((d+1:Nat):Int) by omega];refine (steps b s i (d+1) _ U (At.open h (d+1)) (dR ad ax)).mono ?_;rintro e ag ⟨rfl,V,Z⟩;have I:=But.trans (x:=w) ((But.refl b w).setCell 3 _) Z;have C:=af (i+1) ag V;rw [R] at C;go_wp2_with fail;refine C.mono ?_;rintro e ak ⟨ab,aj,rfl,ae,A⟩;have J:=But.trans I ab;have k3:=A.pos.rd.c3;have an:=A.pos.rd.fz;go_wp2_with fail;refine (np b s j d (sg 41) _ (At.open A d) Q).mono ?_;rintro e al ⟨rfl,Y,ac⟩;go_wp2;go_ret2;exact ⟨(But.trans (J.setCell 3 _) ac),_,d,rfl,.inr ae.isI,Y⟩
def AX(b s i d w)(hs:s.size<=500)(h:At w b s i d)(ai:d<4)(ad:eqs (TT s i) (sg 40)=true)(J:Nat->eL Ex)(af:∀i w,At w b s i (d+1)->Calls prog 222 #[bu b] w (eV b s (d+1) w (J i)))(x j)(V:Hid (J (i+1)=.ok (x,j)))(U:Hid (eqs (TT s j) (sg 41)=true)):
  Calls prog 272 #[bu b] w (eV b s d w (.ok (x,j+1))):=by
 have D:(s.size<=maxLen):=fK;have c3:=h.pos.rd.c3;have am:=h.pos.rd.fz;have aj:((d:Int)==4)=false:=by rw [bR];omega
 go_enter func272,ntmps272;go_wp2_with fail;rw [show ((d:Int)+1)=((d+1:Nat):Int) by omega];refine (steps b s i (d+1) _ D (At.open h (d+1)) (dR ad ax)).mono ?_;rintro e ag ⟨rfl,Y,ab⟩;have Q:=But.trans (x:=w) ((But.refl b w).setCell 3 _) ab;have C:=af (i+1) ag Y;rw [V] at C;go_wp2_with fail;refine C.mono ?_;rintro e ah ⟨ac,ak,rfl,ae,A⟩;have R:=But.trans Q ac;have k3:=A.pos.rd.c3;have an:=A.pos.rd.fz;go_wp2_with fail;refine (iM b s j d (sg 41) _ D (At.open A d) U ax).mono ?_;rintro e al ⟨rfl,Z,I⟩;go_wp2;go_ret2;exact ⟨(But.trans (R.setCell 3 _) I),_,rfl,(bA.but ae (But.trans ((But.refl b ah).setCell 3 _) I)),Z⟩
def Oq(b s i d w)(hs:s.size<=500)(h:At w b s i d)(r)(Q:eqs (TT s i) (sg 91)=true->∀w,At w b s i d->Calls prog 271 #[bu b] w (eV b s d w r))(J:eqs (TT s i) (sg 91)=false->eqs (TT s i) (sg 40)=true->∀w,At w b s i d->Calls prog 272 #[bu b] w (eV b s d w r))(ho:eqs (TT s i) (sg 91)=false->eqs (TT s i) (sg 40)=false->∀w,At w b s i d->Calls prog 273 #[bu b] w (eV b s d w r)):
  Calls prog 264 #[bu b] w (eV b s d w r):=by
 cases h1:eqs (TT s i) (sg 91)
 ·cases h2:eqs (TT s i) (sg 40)
  ·go_enter func264,ntmps264;go_wp2_with fail;refine (ats b s i d _ _ (sg 91) _ ?_ ?_).mono ?_
   ·exact (hY h)
   ·exact dr _ _ _ _ ar
   rintro e I ⟨rfl,rfl⟩;rw [h1];go_wp2_with fail;refine (ats b s i d _ _ (sg 40) _ ?_ ?_).mono ?_
   ·exact (hY h)
   ·exact dr _ _ _ _ ar
   rintro e I ⟨rfl,rfl⟩;rw [h2];go_wp2_with fail;refine (ho h1 h2 _ (hY h)).mono ?_;exact Gv
  go_enter func264,ntmps264;go_wp2_with fail;refine (ats b s i d _ _ (sg 91) _ ?_ ?_).mono ?_
  ·exact (hY h)
  ·exact dr _ _ _ _ ar
  rintro e I ⟨rfl,rfl⟩;rw [h1];go_wp2_with fail;refine (ats b s i d _ _ (sg 40) _ ?_ ?_).mono ?_
  ·exact (hY h)
  ·exact dr _ _ _ _ ar
  rintro e I ⟨rfl,rfl⟩;rw [h2];go_wp2_with fail;refine (J h1 h2 _ (hY h)).mono ?_;exact Gv
 ·go_enter func264,ntmps264;go_wp2_with fail;refine (ats b s i d _ _ (sg 91) _ ?_ ?_).mono ?_
  ·exact (hY h)
  ·exact dr _ _ _ _ ar
  rintro e I ⟨rfl,rfl⟩;rw [h1];go_wp2_with fail;refine (Q h1 _ (hY h)).mono ?_;exact Gv
def yZ(b s i d w)(hs:s.size<=500)(h:At w b s i d)(room inner)(J:d<=4)(D:room=true↔d<4)(C:room=true->∀i w,At w b s i (d+1)->Calls prog 222 #[bu b] w (eV b s (d+1) w (inner i))):
  Calls prog 264 #[bu b] w (eV b s d w (eR (TT s) (PP s) room inner i)):=by
 have I:s.size<=maxLen:=by unfold maxLen;omega
 refine Oq b s i d w hs h _ ?_ ?_ ?_
 ·intro h1 w h;simp only [eR,h1,if_true];exact LJ b s i d w hs h h1
 ·intro h1 h2 w h;simp only [eR,h1,h2,if_true,Bool.false_eq_true,aZ]
  cases room with
  |false=>
   have:d=4:=by
    have:¬d<4:=fun k=>by have:=D.2 k;cases this
    omega
   subst this;exact yD b s i w h
  |true=>
   have A:=D.1 rfl;simp only [if_true]
   cases hi:inner (i+1) with
   |error e=>exact AW b s i d w hs h A h2 inner (C rfl) e.1 e.2 (hi)
   |ok y=>
    obtain ⟨x,j⟩:=y
    cases hc:eqs (TT s j) (sg 41)
    ·simp only [hc];exact Dt b s i d w hs h A h2 inner (C rfl) x j (hi) (hc)
    simp only [hc];exact AX b s i d w hs h A h2 inner (C rfl) x j (hi) (hc)
 ·intro h1 h2 w h;simp only [eR,h1,h2,Bool.false_eq_true,aZ];exact On b s i d w I h
def vm(b s i d w)(hs:s.size<=500)(h:At w b s i d)(part)(D:ka part)(A:∀i w,At w b s i d->Calls prog 264 #[bu b] w (eV b s d w (part i))):
  Calls prog 249 #[bu b] w (eV b s d w (eU (TT s) (PP s) [sg 38,sg 45] part i)):=by
 have J:=h.lt;have C:=(yY _ b (.inl rfl) s i d (w.alloc (.cells #[an ⟨#[38]⟩,an ⟨#[45]⟩] 9)) hs (h.alloc _) w.heap.size 2 [sg 38,sg 45] part D A (by simp [maxLen]) ax ai ar (fun i hi=>by
  match i,hi with
  |0,_=>exact (aL.new w _ _).cell rfl
  |1,_=>exact (aL.new w _ _).cell rfl
  |n+2,hi=>simp at hi;omega))
 generalize eU (TT s) (PP s) [sg 38,sg 45] part i=r at*;go_enter func249,ntmps249;go_wp2_with fail;refine C.mono ?_;intro e Q A;obtain ⟨v,I,rfl⟩:=Post.form A;go_wp2;go_ret2;exact Post.from (w:=w) (eH (But.refl b w)) A
def JL(b s i d w)(hs:s.size<=500)(h:At w b s i d)(part)(D:ka part)(A:∀i w,At w b s i d->Calls prog 249 #[bu b] w (eV b s d w (part i))):
  Calls prog 222 #[bu b] w (eV b s d w (eU (TT s) (PP s) [sg 124] part i)):=by
 have J:=h.lt;have C:=(yY _ b (.inr rfl) s i d (w.alloc (.cells #[an ⟨#[124]⟩] 9)) hs (h.alloc _) w.heap.size 1 [sg 124] part D A (by simp [maxLen]) ax ai ar (fun i hi=>by
  match i,hi with
  |0,_=>exact (aL.new w _ _).cell rfl
  |n+1,hi=>simp at hi))
 generalize eU (TT s) (PP s) [sg 124] part i=r at*;go_enter func222,ntmps222;go_wp2_with fail;refine C.mono ?_;intro e Q A;obtain ⟨v,I,rfl⟩:=Post.form A;go_wp2;go_ret2;exact Post.from (w:=w) (eH (But.refl b w)) A
def rY(b s)(hs:s.size<=500):∀n i d w,d+n=4->At w b s i d->
  Calls prog 222 #[bu b] w (eV b s d w (fp (TT s) (PP s) n i))
 |0,i,d,w,hd,h=>JL b s i d w hs h _ (hJ _ _ false _ (fun i x j h=>by simp at h)) (fun i w h=>
   vm b s i d w hs h _ (ke _ _ false _ (fun i x j h=>by simp at h)) (fun i w h=>
    yZ b s i d w hs h false _ ai aS (fun h=>by cases h)))
 |n+1,i,d,w,hd,h=>JL b s i d w hs h _ (hJ _ _ true _ (gV _ _ n)) (fun i w h=>
   vm b s i d w hs h _ (ke _ _ true _ (gV _ _ n)) (fun i w h=>
    yZ b s i d w hs h true _ ai aS (fun _ i w h=>rY b s hs n i (d+1) w ai h)))
section
abbrev fF:Array ag:=#[au 0,an ⟨#[]⟩,.nilIface]
abbrev cZ:Obj:=.cells #[au 0,an ⟨#[]⟩,.nilIface] 159
variable {g:Nat}
def bA.set{e}(h:bA b w e v)(C:aL w g cs T)(D:T≠207)(o u):bA b (w.setCell (aC g o) u) e v:=
 bA.frame (fun g' I f J A=>ea _ _ _ _ (fun (e':g'=g)=>by
  subst e';unfold aL at C;rw [C] at A;simp at A;exact D A.2.1)) e v h
def JM(b:Nat)(w:af)(r:Rl)(v:ag):Prop:=∃h,v=.agg #[au r.place,an r.name,h]/\bA b w r.body h
def Va(v:ag):Prop:=∃(p:Nat)(t:ae)(h:ag),v=.agg #[au p,an t,h]/\IsI h
def Vb(b s i d w)(hs:s.size<=500)(h:At w b s i d)(c j)(D:Hid (b9 (TT s) (sg 58) i=.error (c,j))):
  Calls prog 172 #[bu b] w (Post b s d w (.error (c,j):eL Rl) (JM b) Va):=by
 have V:=h.lt;have I:(s.size<=maxLen):=fK;have C:=gO b s i d (sg 58) _ I ((h.alloc cZ).alloc cZ) ax;rw [D] at C;go_enter func172,ntmps172;go_wp2_with fail;refine C.mono ?_;rintro e w1 ⟨b1,v,d1,rfl,⟨p,t,rfl⟩,J⟩;have A:=((But.refl b w).alloc _).alloc _ |>.trans b1;have R:=((aL.new w fF 159).alloc cZ).but b1 ai;have G:=(aL.new' (w.alloc cZ) fF 159 (w.heap.size+1) ar).but b1 ai;obtain ⟨ab,ac,ad⟩:=R.three;obtain ⟨g0,Q,U⟩:=G.three;have af:=R.fz;have ae:=G.fz;have Y:=G.lt;have Z:w.heap.size<w1.heap.size:=ai;unfold cm;go_wp2;refine bE (v:=.tuple #[.agg #[au p,an t,.nilIface],cm c]) (ce results172 _ _ w.heap.size _ 159 _ _ rfl rfl ?hB underlying159 rfl aM) rfl ?post
 case hB=>exact ⟨_,(cY R),bQ⟩
 case post=>exact ⟨(eH A),_,d1,rfl,⟨p,t,_,rfl,.inl rfl⟩,(hY J)⟩
def Ot(b s i d w)(hs:s.size<=500)(h:At w b s i d)(af:d+4=4)(c j m)(Z:Hid (b9 (TT s) (sg 58) i=.ok ((),j)))(ac:Hid (fp (TT s) (PP s) 4 j=.error (c,m))):
  Calls prog 172 #[bu b] w (Post b s d w (.error (c,m):eL Rl) (JM b) Va):=by
 have am:=h.lt;have ab:(s.size<=maxLen):=fK;have C:=gO b s i d (sg 58) _ ab ((h.alloc cZ).alloc cZ) ax;rw [Z] at C;go_enter func172,ntmps172;go_wp2_with fail;refine C.mono ?_;rintro e w1 ⟨b1,v,rfl,rfl,ae⟩;have V:=((But.refl b w).alloc _).alloc _ |>.trans b1;have R:=((aL.new w fF 159).alloc cZ).but b1 ai;have G:=(aL.new' (w.alloc cZ) fF 159 (w.heap.size+1) ar).but b1 ai;obtain ⟨aB,aE,aF⟩:=R.three;obtain ⟨g0,ak,al⟩:=G.three;have aJ:=G.fz;have ap:=G.lt;have av:w.heap.size<w1.heap.size:=ai;unfold yC;go_wp2_with fail;have C:=rY b s hs 4 j d _ af ((hY ae):At ((w1.setCell (aP (w.heap.size+1)) (au (dI s (K s i)))).setCell (aC (w.heap.size+1) 1) (an (cI s (K s i)))) b s j d);rw [ac] at C;refine C.mono ?_;rintro e J ⟨I,aI,d2,rfl,ag,U⟩;have Q:=But.trans (x:=w) (eH V) I;have ad:=aL.but (g:=w.heap.size) (T:=159) (cY R) I ai;have A:aL J w.heap.size fF 159:=ad;have Y:=aL.but (g:=w.heap.size+1) (T:=159) (cY G) I ai;have D:aL J (w.heap.size+1) #[au (dI s (K s i)),an (cI s (K s i)),.nilIface] 159:=Y;obtain ⟨aw,p1,p2⟩:=A.three;obtain ⟨ay,az,aA⟩:=D.three;have aK:=A.fz;have zq:=D.fz;have aG:=D.lt;have aH:w.heap.size<J.heap.size:=ai;unfold cm
 rcases ag with rfl|⟨ah,aj,rfl⟩
 ·go_wp2;refine bE (v:=.tuple #[.agg #[au (dI s (K s i)),an (cI s (K s i)),.nilIface],cm c]) (ce results172 _ _ w.heap.size _ 159 _ _ rfl rfl ?hB underlying159 rfl aM) rfl ?post
  case hB=>exact ⟨_,(cY A),bQ⟩
  case post=>exact ⟨(eH Q),_,d2,rfl,⟨_,_,_,rfl,.inl rfl⟩,(hY U)⟩
 ·go_wp2;refine bE (v:=.tuple #[.agg #[au (dI s (K s i)),an (cI s (K s i)),.iface ah aj],cm c]) (ce results172 _ _ w.heap.size _ 159 _ _ rfl rfl ?hB underlying159 rfl aM) rfl ?post
  case hB=>exact ⟨_,(cY A),bQ⟩
  case post=>exact ⟨(eH Q),_,d2,rfl,⟨_,_,_,rfl,.inr ⟨_,_,rfl⟩⟩,(hY U)⟩
def JN(b:Nat)(s:ae)(i d:Nat)(w:af)(hs:s.size<=500)(h:At w b s i d)(aO:d+4=4)(x:Ex)(j m M:Nat)(V:ag)(R:eL Rl)(aA:Hid (b9 (TT s) (sg 58) i=.ok ((),j)))(aF:Hid (fp (TT s) (PP s) 4 j=.ok (x,m)))
  (ay:Hid (∀W,At W b s m d->Calls prog 169 #[bu b,an (sg 59)] W fun e w'=>e=bi V/\At w' b s M d/\But b W w'))
  (az:Hid ((V=.nilIface/\R=.ok (⟨TT s i,PP s i,x⟩,M))\/(V=cm 2/\R=.error (2,M)))):
  Calls prog 172 #[bu b] w (Post b s d w R (JM b) Va):=by
 have aW:=h.lt;have aB:(s.size<=maxLen):=fK;have C:=gO b s i d (sg 58) _ aB ((h.alloc cZ).alloc cZ) ax;rw [aA] at C;go_enter func172,ntmps172;go_wp2_with fail;refine C.mono ?_;rintro e w1 ⟨b1,v,rfl,rfl,aJ⟩;have al:=((But.refl b w).alloc _).alloc _ |>.trans b1;have R:=((aL.new w fF 159).alloc cZ).but b1 ai;have G:=(aL.new' (w.alloc cZ) fF 159 (w.heap.size+1) ar).but b1 ai;obtain ⟨a2,a3,a4⟩:=R.three;obtain ⟨g0,aT,aU⟩:=G.three;have a9:=G.fz;have aX:=G.lt;have aY:w.heap.size<w1.heap.size:=ai;unfold yC;go_wp2_with fail;have C:=rY b s hs 4 j d _ aO ((hY aJ):At ((w1.setCell (aP (w.heap.size+1)) (au (dI s (K s i)))).setCell (aC (w.heap.size+1) 1) (an (cI s (K s i)))) b s j d);rw [aF] at C;refine C.mono ?_;rintro e I ⟨Z,a7,rfl,aj,aK⟩;have am:=But.trans (x:=w) (eH al) Z;have aG:=aL.but (g:=w.heap.size) (T:=159) (cY R) Z ai;have ah:aL I w.heap.size fF 159:=aG;have av:=aL.but (g:=w.heap.size+1) (T:=159) (cY G) Z ai;have J:aL I (w.heap.size+1) #[au (dI s (K s i)),an (cI s (K s i)),.nilIface] 159:=av;obtain ⟨a1,p1,p2⟩:=ah.three;obtain ⟨aQ,aR,aS⟩:=J.three;have zq:=J.fz;have a5:=J.lt;have a6:w.heap.size<I.heap.size:=ai;obtain ⟨A,D,rfl⟩:=aj.isI;go_wp2_with fail;have ak:=((hY aK):At (I.setCell (aC (w.heap.size+1) 2) (.iface A D)) b s m d);have ap:=((eH am):But b w (I.setCell (aC (w.heap.size+1) 2) (.iface A D)));have aH:=bA.set aj J ax 2 (.iface A D);have ad:aL (I.setCell (aC (w.heap.size+1) 2) (.iface A D)) (w.heap.size+1) #[au (dI s (K s i)),an (cI s (K s i)),.iface A D] 159:=J.set 2 _;have R3:aL (I.setCell (aC (w.heap.size+1) 2) (.iface A D)) w.heap.size fF 159:=ah.other ar _;generalize I.setCell (aC (w.heap.size+1) 2) (.iface A D)=W at*;obtain ⟨aQ,aR,aS⟩:=ad.three;have aV:=R3.lt
 go_region_held3 (fun w'=>w'.cell? (aP (w.heap.size+1))=some (au (dI s (K s i)))/\w'.cell? (aC (w.heap.size+1) 1)=some (an (cI s (K s i)))/\w'.cell? (aC (w.heap.size+1) 2)=some (.iface A D)) (go_keep)
  ((go_at_call 169;refine (ay _ ?_).mono ?_;(exact ak.drew);rintro e a8 ⟨rfl,aN,U⟩;have aw:=ad.drew.but U ai;obtain ⟨a0,n1,n2⟩:=aw.three;have Y:=R3.drew.but U ai;obtain ⟨k0,k1,aZ⟩:=Y.three;have ba:=aL.fz Y;have Q:=Y;have ab:=aN;have aI:=(bA.but aH (But.trans ((But.refl b W).drew) U));have ac:=(But.trans ap.drew U)))
 go_wp2;refine bE (v:=.tuple #[.agg #[au (dI s (K s i)),an (cI s (K s i)),.iface A D],V]) (ce results172 _ _ w.heap.size _ 159 _ _ rfl rfl ?hB underlying159 rfl aM) rfl ?post
 case hB=>exact ⟨_,(cY Q),bQ⟩
 case post=>
  rcases aE az with ⟨rfl,rfl⟩|⟨rfl,rfl⟩
  ·exact ⟨(eH ac),_,rfl,⟨_,rfl,bA.set (bA.set (bA.set aI Q ax 0 _) (Q.set 0 _) ax 1 _) ((Q.set 0 _).set 1 _) ax 2 _⟩,(hY ab)⟩
  exact ⟨(eH ac),_,d,rfl,⟨_,_,_,rfl,.inr ⟨_,_,rfl⟩⟩,(hY ab)⟩
def Du(b s i d w)(hs:s.size<=500)(h:At w b s i d)(J:d+4=4):
  Calls prog 172 #[bu b] w (Post b s d w (kW (TT s) (PP s) i) (JM b) Va):=by
 unfold kW
 cases D:b9 (TT s) (sg 58) i with
 |error e=>exact Vb b s i d w hs h e.1 e.2 (D)
 |ok y=>
  obtain ⟨⟨⟩,j⟩:=y
  cases A:fp (TT s) (PP s) 4 j with
  |error e=>simp only [A];exact Ot b s i d w hs h J e.1 j e.2 (D) (A)
  |ok y=>
   obtain ⟨x,m⟩:=y
   cases C:eqs (TT s m) (sg 59)
   ·simp only [A,C];exact JN b s i d w hs h J x j m _ _ _ (D) (A) (fun W I=>np b s m d _ W I C) ((.inr ⟨rfl,rfl⟩))
   simp only [A,C];exact JN b s i d w hs h J x j m _ _ _ (D) (A) (fun W I=>iM b s m d _ W fK I C ax) ((.inl ⟨rfl,rfl⟩))
end
abbrev gW:=@Bool.eq_iff_iff
abbrev aW:=@List.mem_append
abbrev cN:=@List.flatMap_append
abbrev fG:Array ag:=#[au 0,an ⟨#[]⟩,aA none 0 0]
abbrev h8(a0:Int)(a1:ae)(a2:Option Addr)(a3:Nat)(a4:Nat):Array ag:=#[au a0,an a1,aA a2 a3 a4]
abbrev dD:Obj:=.cells #[au 0,an ⟨#[]⟩,aA none 0 0] 110
abbrev h9:Obj:=.cells #[an ⟨#[125]⟩] 9
abbrev cC(a0:Int)(a1:ae)(a2:TypeId)(a3:ag):Obj:=.cells #[au a0,an a1,.iface a2 a3] 159
def Ou(q:bq) (h:cj bq->aD:=by
 intro zq;have R4:=Oi.but b4 ai;have G4:=JO.but b4 ai;have B4:=aj (But.trans B3 b4);have P4:=aj (P3.frame (fw.of_but b4) ai);have A4:=aj a4;have Uz:=aj R4;have HG4:=aj G4;obtain ⟨y0,y1,y2⟩:=R4.three;obtain ⟨k0,k1,k2⟩:=G4.three;have zy:=R4.fz;have zk:=G4.fz;have yl:=G4.lt;have yl':w.heap.size<w4.heap.size:=ai
 revert R4 G4 B4 P4 A4 Uz HG4 y0 y1 y2 k0 k1 k2 zy zk yl yl'
 exact zq.1):aD:=h ⟨q⟩
def Tryz.info159:(Tryz.prog.info? 159).map (fun i=>(i.zero,i.size,i.bytes))=some (some (.agg #[au 0,an ⟨#[]⟩,.nilIface]),3,40):=by kernel_rfl
def AY(p:Rl×ag):List ag:=[au p.1.place,an p.1.name,p.2]
def iN(base b:Nat)(w:af)(sv:ag)(rs:List Rl):Prop:=
 ∃l:List (Rl×ag),l.map Prod.fst=rs/\(∀p∈l,bA b w p.1.body p.2)/\w.ownsRow base 159 3 sv rs.length (l.flatMap AY)
def aw{base:Nat}(h:w.ownsRow base e size v n xs):∃a cap,v=aA a n cap:=by
 rcases h.2 with ⟨rfl,rfl⟩|⟨g,cap,A,rfl,_⟩
 ·exact ⟨_,_,rfl⟩
 exact ⟨_,_,rfl⟩
def fw(b:Nat)(w w':af):Prop:=∀g cs T f,b+1<=g->w.heap[g]? =some (.cells cs T f)->(T=207\/T=159)->w'.heap[g]? =w.heap[g]?
def fw.of_but(h:But b w w'):fw b w w':=fun g cs T f C A _=>h.block g (lt_of_some A) ai
def fw.g(h:fw b w w'):o8 b w w':=fun g cs f A C=>h g cs _ f A C (.inl rfl)
def iN.frame{base:Nat}(h:iN base b w sv rs)(k:fw b w w')(I:b+1<=base):iN base b w' sv rs:=by
 obtain ⟨l,h1,h2,A⟩:=h;exact ⟨l,h1,fun p D=>bA.frame k.g _ _ (h2 p D),ay A fun g cs f J C=>k g cs _ f ai C (.inr rfl)⟩
def iN.base{base:Nat}(h:iN base b w sv rs)(C:base'<=base):iN base' b w sv rs:=by
 obtain ⟨l,h1,h2,A⟩:=h;exact ⟨l,h1,h2,bk A C⟩
def fw.set{g}(C:aL w g cs T)(h1:T≠207)(h2:T≠159)(o u):fw b w (w.setCell (aC g o) u):=
 fun g' D T' f I A h=>ea _ _ _ _ (fun (e':g'=g)=>by
  subst e';unfold aL at C;rw [C] at A;simp at A;obtain ⟨_,rfl,_⟩:=A
  rcases h with h|h
  ·exact h1 h
  exact h2 h)
def fw.trans{x}(h:fw b x y)(k:fw b y z):fw b x z:=fun g cs T f A C D=>(k g cs T f A ((h g cs T f A C D).trans C) D).trans (h g cs T f A C D)
def fw.below(h:am w w'):fw b w w':=fw.of_but (But.of_below h)
def dV{base:Nat}{g:Nat}{f:Nat×Nat}(h:w.ownsRow base e size v n xs)(D:w.heap[g]? =some (.cells cs T f))(I:T≠e):some g≠v.ownBlock:=by
 rcases h.2 with ⟨rfl,_⟩|⟨g',cap,J,rfl,Q,A,r⟩
 ·simp [Value.ownBlock]
 intro C;simp only [Value.ownBlock,aR] at C;subst C;rw [D] at A;simp at A;exact I A.2.1
def JP(b:Nat)(w:af)(t:Ty)(v:ag):Prop:=∃sv,v=.agg #[au t.place,an t.name,sv]/\iN (b+1) b w sv t.rels
def Vc(v:ag):Prop:=∃(p:Nat)(t:ae)(a:Option Addr)(n c:Nat),v=.agg #[au p,an t,aA a n c]
def typeM(T:Nat->ae)(P:Nat->Nat)(i:Nat)(R:eL (List Rl)):eL Ty:=match R with
 | .error e=> .error e
 | .ok (rs,m)=> .ok (⟨T (i+1),P (i+1),rs⟩,m)
def Vd(b s i d w)(hs:s.size<=500)(h:At w b s i d)(D:eqs (TT s i) jQ=false):
  Calls prog 114 #[bu b] w (Post b s d w (.error (2,i):eL Ty) (JP b) Vc):=by
 have Q:=h.lt;go_enter func114,ntmps114;go_wp2_with fail;refine (np b s i d jQ _ ?_ D).mono ?_
 ·exact (hY h)
 rintro e w1 ⟨rfl,C,b1⟩;have A:=((But.refl b w).alloc _).alloc _ |>.trans b1;have R:=((aL.new w fG 110).alloc dD).but b1 ai;have G:=(aL.new' (w.alloc dD) fG 110 (w.heap.size+1) ar).but b1 ai;obtain ⟨U,V,Y⟩:=R.three;obtain ⟨g0,I,J⟩:=G.three;have ab:=R.fz;have Z:=G.fz;clear b1;unfold cm;go_wp2;refine bE (v:=.tuple #[.agg #[au 0,an ⟨#[]⟩,aA none 0 0],cm 2]) (ce results114 _ _ w.heap.size _ 110 _ _ rfl rfl ?hB underlying110 rfl aM) rfl ?post
 case hB=>exact ⟨_,(cY R),bQ⟩
 case post=>exact ⟨(eH A),_,d,rfl,⟨0,_,_,_,_,rfl⟩,(hY C)⟩
def LK(b s i d w)(hs:s.size<=500)(h:At w b s i d)(ab:eqs (TT s i) jQ=true)(c j)(U:Hid (b9 (TT s) (sg 123) (i+1)=.error (c,j))):
  Calls prog 114 #[bu b] w (Post b s d w (.error (c,j):eL Ty) (JP b) Vc):=by
 have ae:=h.lt;have D:(s.size<=maxLen):=fK;go_enter func114,ntmps114;go_wp2_with fail;refine (iM b s i d jQ _ D ?_ ab ax).mono ?_
 ·exact (hY h)
 rintro e w1 ⟨rfl,Y,b1⟩;have I:=((But.refl b w).alloc _).alloc _ |>.trans b1;have V:=((aL.new w fG 110).alloc dD).but b1 ai;have Q:=(aL.new' (w.alloc dD) fG 110 (w.heap.size+1) ar).but b1 ai;clear b1;have C:=gO b s (i+1) d (sg 123) w1 D Y ax;rw [U] at C;go_wp2_with fail;refine C.mono ?_;rintro e ak ⟨A,v,d2,rfl,⟨p,t,rfl⟩,Z⟩;have J:=But.trans I A;have R:=V.but A ai;have G:=Q.but A ai;obtain ⟨ag,ah,aj⟩:=R.three;obtain ⟨g0,ac,ad⟩:=G.three;have am:=R.fz;have al:=G.fz;have af:=G.lt;clear A C;unfold cm;go_wp2;refine bE (v:=.tuple #[.agg #[au p,an t,aA none 0 0],cm c]) (ce results114 _ _ w.heap.size _ 110 _ _ rfl rfl ?hB underlying110 rfl aM) rfl ?post
 case hB=>exact ⟨_,(cY R),bQ⟩
 case post=>exact ⟨(eH J),_,d2,rfl,⟨p,t,_,_,_,rfl⟩,(hY Z)⟩
def Ve(b s i d w)(hs:s.size<=500)(h:At w b s i d)(bj:d+4=4)(bk:eqs (TT s i) jQ=true)(j)(bX:Hid (b9 (TT s) (sg 123) (i+1)=.ok ((),j))):
  Calls prog 114 #[bu b] w (Post b s d w (typeM (TT s) (PP s) i (di (TT s) (PP s) 512 [] j)) (JP b) Vc):=by
 generalize bh:di (TT s) (PP s) 512 [] j=R;have bV:=aj bh;clear bh;have cG:=h.lt;have a7:Hid (s.size<=maxLen):=aj fK;have bW:=aj bk;have bB:=aj h;clear h bk;go_enter func114,ntmps114;go_wp2_with fail;refine (iM b s i d jQ _ a7 ?_ bW ax).mono ?_
 ·exact (hY bB)
 rintro e w1 ⟨rfl,a1,b1⟩;have bH:=aj (((But.refl b w).alloc _).alloc _ |>.trans b1);have bZ:=aj (((aL.new w fG 110).alloc dD).but b1 ai);have bN:=aj ((aL.new' (w.alloc dD) fG 110 (w.heap.size+1) ar).but b1 ai);have bC:=aj a1;clear a1 b1;have C:=aj (gO b s (i+1) d (sg 123) w1 a7 bC ax);rw [bX] at C;go_wp2_with fail;refine C.mono ?_;rintro e cS ⟨aR,v,rfl,rfl,a2⟩;have bI:=aj (But.trans bH aR);have R:=bZ.but aR ai;have G:=bN.but aR ai;have ad:=aj R;have bS:=aj G;obtain ⟨ct,cu,cw⟩:=R.three;obtain ⟨g0,b7,b8⟩:=G.three;have cA:=R.fz;have cz:=G.fz;have cK:=G.lt;have bD:=aj a2;clear a2 aR R G C;unfold yC;go_wp2_with fail
 go_loopg [7] 512 (fun k cR wr=>∃(rs:List Rl)(j:Nat)(sv:ag),But b w wr/\At wr b s j d/\512<=k+j/\rs.length<=j/\aL wr w.heap.size fG 110/\
  aL wr (w.heap.size+1) #[au (dI s (K s (i+1))),an (cI s (K s (i+1))),sv] 110/\iN w.heap.size b wr sv rs/\Hid (di (TT s) (PP s) k rs j=R))
 ·exact ⟨[],j,_,(eH bI),(hY bD),ai,ar,(ad.other ar _).other ar _,(bS.set 0 _).set 1 _,⟨[],rfl,ar,bP⟩,bV⟩
 ·obtain ⟨rs,j,sv,bi,ha,bl,cJ,aT,al,cl,bb⟩:=hrel;have cB:12<=gk:=by have:=ha.le;omega
  obtain ⟨b6,rfl⟩:∃f,gk=f+1:=⟨gk-1,ai⟩;obtain ⟨l,bn,bp,a9⟩:=cl;obtain ⟨sa,sc,rfl⟩:=aw a9;have Z:=aj ha;have aJ:=aj bi;have ad:=aj aT;have ah:=aj al;have aK:=aj bn;have aN:=aj bp;have aO:=aj a9;have ab:=aE bb;obtain ⟨t0,t1,t2⟩:=al.three;obtain ⟨av,ay,aB⟩:=aT.three;have aF:=aT.fz;have bz:=al.fz;have bs:=al.lt;have bt:w.heap.size<wr.heap.size:=ai;have n1:=ha.pos.rd.c1;have n2:=ha.pos.rd.c2;have br:=ha.lt;unfold di at ab;clear ha bi aT al bn bp a9 bb ct cu cw g0 b7 b8 cA cz
  cases h1:eqs (TT s j) (sg 125)
  ·simp only [h1,Bool.false_eq_true,aZ] at ab;have bc:Hid (iN w.heap.size b wr (aA sa rs.length sc) rs):=aj ⟨l,aK,aN,aO⟩;have Q:=aj ab;clear ab;go_wp2_with fail;refine (ats b s j d _ _ (sg 125) _ ?_ ?_).mono ?_
   ·exact (hY Z)
   ·exact dr _ _ _ _ ar
   rintro e w1 ⟨rfl,rfl⟩;rw [h1]
   go_upto_region 9 with fail
   go_cut [38] (fun c cy=>c=.bool (dC (TT s j)&&rs.length==6)/\Below (wr.alloc h9).heap.size (wr.alloc h9) cy)
   ·go_wp2_with fail;refine (l7 _ _ _ (qC s (K s j) fK Z.pos.le)).mono ?_;rintro e a5 ⟨rfl,I⟩;obtain ⟨aV,aX,aY⟩:=((ah.alloc h9).below I).three;rw [show dC (cI s (K s j))=dC (TT s j) from rfl];have bR:=aj (show (rs.length==6)=((rs.length:Int)==6) from gW.2 (by rw [dS,dS];omega))
    cases ck:dC (TT s j)<;>cases cb:((rs.length:Int)==6)
    all_goals
     go_wp2
     go_meet
     exact ⟨by rw [ck,bR,cb];rfl,I⟩
   obtain ⟨rfl,I⟩:=hcut;obtain ⟨a5,co⟩:∃z,z=wc:=⟨_,rfl⟩;subst co;have aG:=aj ((show At (wr.alloc h9) b s j d from (hY Z)).below I);have B3:=aj ((show But b w (wr.alloc h9) from (eH aJ)).trans (But.of_below I));have D:=(ah.alloc h9).below I;have R3:=(ad.alloc h9).below I;have P3:=aj (bc.frame ((fw.below (b:=b) ((az _ wr).alloc aH h9)).trans (fw.below I)) ai);clear I t0 t1 t2 av ay aB aF bz n1 n2 Z aJ ad ah aK aN aO bs bt bc br;have JO:=aj D;have Oi:=aj R3;obtain ⟨aV,aX,aY⟩:=D.three;obtain ⟨av,ay,aB⟩:=R3.three;have aF:=R3.fz;have zq:=D.fz;have cd:=D.lt;have cf:=R3.lt;have br:=aG.lt;clear D R3
   cases ch:(dC (TT s j)&&rs.length==6)<;>rw [ch] at Q
   ·skip
    cases ap:kW (TT s) (PP s) j with
    |error e=>
     obtain ⟨b5,bw⟩:=e;have C:=aj (Du b s j d a5 hs aG bj);rw [ap] at C Q;clear ap;go_wp2_with fail;refine C.mono ?_;rintro e w4 ⟨b4,cx,d4,rfl,⟨cP,cQ,b3,rfl,ci⟩,a4⟩;refine Ou ?_;intro R4 G4 B4 P4 A4 Uz HG4 y0 y1 y2 k0 k1 k2 zy zk yl yl';clear a4 b4 R4 G4 aV aX aY av ay aB aF zq C;unfold cm
     rcases ci with rfl|⟨V,Y,rfl⟩
     all_goals
      go_wp2;rw [<-Q];refine bE (v:=.tuple #[.agg #[au (dI s (K s (i+1))),an (cI s (K s (i+1))),aA sa rs.length sc],cm b5]) (ce results114 _ _ w.heap.size _ 110 _ _ rfl rfl ?hB underlying110 rfl aM) rfl ?post
      case hB=>exact ⟨_,(cY Uz),bQ⟩
      case post=>exact ⟨(eH B4),_,d4,rfl,⟨_,_,_,_,_,rfl⟩,(hY A4)⟩
    |ok y=>
     obtain ⟨A,bw⟩:=y;have C:=aj (Du b s j d a5 hs aG bj);have cF:=oz _ _ _ _ _ ap;rw [ap] at C Q;clear ap;go_wp2_with fail;refine C.mono ?_;rintro e w4 ⟨b4,cx,rfl,⟨b3,rfl,ba⟩,a4⟩;refine Ou ?_;intro R4 G4 B4 P4 A4 Uz HG4 y0 y1 y2 k0 k1 k2 zy zk yl yl';clear a4 b4 R4 G4 aV aX aY av ay aB aF zq C;obtain ⟨V,Y,rfl⟩:=ba.isI;have b0:=aj ba;have cL:=A4.le;clear ba;obtain ⟨bx,e1,bf,bg⟩:=P4.u;have bL:=aj e1;have bM:=aj bf;have E3:=aj bg;clear e1 bf bg;unfold cm at*;go_wp2_with (at_builtin;go_must (refine eB rfl underlying108 Tryz.info159 w.heap.size ((E3.alloc _).alloc _) (w4.heap.size+1) 1 (AY (A,.iface V Y)) (w4.heap.size+2) ?hrest))
     case hrest=>
      intro g5 be w5 bv af cg cE;have U:am w4 ((w4.alloc (cC A.place A.name V Y)).alloc (cC A.place A.name V Y)):=(bo.alloc aH _).alloc ar _;have aI:=HG4.below U;have aQ:=Uz.below U;have a6:=A4.below U;have ae:=(E3.alloc (cC A.place A.name V Y)).alloc (cC A.place A.name V Y);have a8:o8 b w4 w5:=fun g cs f cD aU=>(af.block g (cM (lt_of_some aU) U.size) (dV ae ((U.block g (lt_of_some aU)).trans aU) ax)).trans (U.block g (lt_of_some aU))
      have b2:=aj (show ∀p∈bx++[(A,Value.iface V Y)],bA b w5 p.1.body p.2 from fun p J=>by
       rw [aW] at J
       rcases J with J|J
       ·exact bA.frame a8 _ _ (bM p J)
       simp at J;subst J;exact bA.frame a8 _ _ b0)
      have ac:=aj (show aL w5 (w.heap.size+1) (h8 (dI s (K s (i+1))) (cI s (K s (i+1))) sa rs.length sc) 110 from (af.block _ aI.lt (own_ne ae aI ax)).trans aI);have bT:=aj (show aL w5 w.heap.size fG 110 from (af.block _ aQ.lt (own_ne ae aQ ax)).trans aQ);have bG:=aj (a6.grown af (own_ne ae a6.pos.rd.blk ax));have bK:=aj (But.grown (B4.trans (But.of_below U)) af (fun k bl=>(ae.lt k bl).1));have bY:=aj bv;obtain ⟨cp,cq,cr⟩:=ac.three;have cT:=ac.fz;have cO:=ac.lt;clear U aI aQ a6 ae a8 bv af cg y0 y1 y2 k0 k1 k2 zy zk;go_wp2
      go_roundg b6
      case measure=>omega
      case rel=>exact ⟨rs++[A],bw,_,(eH bK),(hY bG),ai,aS,(cY bT),ac.set 2 _,⟨bx++[(A,.iface V Y)],by simp [bL.u],fun p J=>bA.set (b2 p J) ac ax 2 _,by rw [List.length_append,cN];exact bU bY ac ax 2 _⟩,Q⟩
   go_wp2;rw [<-Q];refine bE (v:=.tuple #[.agg #[au (dI s (K s (i+1))),an (cI s (K s (i+1))),aA sa rs.length sc],cm 3]) (ce results114 _ _ w.heap.size _ 110 _ _ rfl rfl ?hB underlying110 rfl aM) rfl ?post
   case hB=>exact ⟨_,(cY Oi),bQ⟩
   case post=>exact ⟨(eH B3),_,d,rfl,⟨_,_,_,_,_,rfl⟩,(hY aG)⟩
  simp only [h1,if_true] at ab;have Q:=aj ab;have bO:=aj h1;clear ab;go_wp2_with fail;refine (ats b s j d _ _ (sg 125) _ ?_ ?_).mono ?_
  ·exact (hY Z)
  ·exact dr _ _ _ _ ar
  rintro e w1 ⟨rfl,rfl⟩;rw [h1];clear h1;go_wp2_with fail;have bF:=aj (show At (wr.alloc h9) b s j d from (hY Z));have bJ:=aj (show But b w (wr.alloc h9) from (eH aJ));have D:=ah.alloc h9;have R3:=ad.alloc h9;have P3:=aj (iN.frame (base:=w.heap.size) ⟨l,aK,aN,aO⟩ (fw.below (b:=b) ((az _ wr).alloc aH h9)) ai);generalize wr.alloc h9=W at*;clear t0 t1 t2 av ay aB aF bz n1 n2 Z aJ ad ah aK aN aO bs bt;have JO:=aj D;have Oi:=aj R3;obtain ⟨aV,aX,aY⟩:=D.three;have zq:=D.fz;have cd:=D.lt;have cf:=R3.lt;clear D R3;have cH:¬(w.heap.size+1=w.heap.size):=ai
  go_region_held3 (fun w'=>w'.cell? (aP (w.heap.size+1))=some (au (dI s (K s (i+1))))/\w'.cell? (aC (w.heap.size+1) 1)=some (an (cI s (K s (i+1))))/\w'.cell? (aC (w.heap.size+1) 2)=some (aA sa rs.length sc)) (go_keep)
   ((go_at_call 169;refine (iM b s j d (sg 125) _ a7 ?_ bO ax).mono ?_;(exact bF.drew);rintro e a5 ⟨rfl,a3,ak⟩;have G4:=JO.drew.but ak ai;obtain ⟨k0,k1,k2⟩:=G4.three;have R4:=Oi.drew.but ak ai;obtain ⟨cp,cq,cr⟩:=R4.three;have zk:=aL.fz R4;have Uz:=aj R4;have A4:=aj a3;have P4:=aj (P3.frame (fw.of_but (But.trans ((But.refl b W).drew) ak)) ai);have B4:=aj (But.trans bJ.drew ak);clear G4 R4 a3 ak))
  go_wp2;rw [<-Q];refine bE (v:=.tuple #[.agg #[au (dI s (K s (i+1))),an (cI s (K s (i+1))),aA sa rs.length sc],.nilIface]) (ce results114 _ _ w.heap.size _ 110 _ _ rfl rfl ?hB underlying110 rfl aM) rfl ?post
  case hB=>exact ⟨_,(cY Uz),bQ⟩
  case post=>exact ⟨(eH B4),_,rfl,⟨_,rfl,(P4.frame ((fw.set Uz ax ax 0 _).trans ((fw.set (Uz.set 0 _) ax ax 1 _).trans (fw.set ((Uz.set 0 _).set 1 _) ax ax 2 _))) ai).base ai⟩,(hY A4)⟩
section
abbrev pF:Array ag:=#[aA none 0 0]
abbrev pG:Obj:=.cells #[an ⟨#[]⟩] 9
abbrev pH:Obj:=.cells #[an ⟨#[116,121,112,101]⟩] 9
abbrev bG(a0:Int)(a1:ae)(a2:Option Addr)(a3:Nat)(a4:Nat):Obj:=.cells #[au a0,an a1,aA a2 a3 a4] 110
def Ov(q:bq) (h:cj bq->aD:=by
 intro zq;have R4:=R3.but b4 ai;have G4:=G3.but b4 ai;have B4:=But.trans B3 b4;have P4:=P3.frame (iH.of_but b4) ai;have y0:=R4.cell (o:=0) rfl;have k0:=G4.cell (o:=0) rfl
 revert R4 G4 B4 P4 y0 k0
 exact zq.1):aD:=h ⟨q⟩
def y5(b s i d w)(hs:s.size<=500)(h:At w b s i d)(C:d+4=4):
  Calls prog 114 #[bu b] w (Post b s d w (j8 (TT s) (PP s) i) (JP b) Vc):=by
 unfold j8
 cases A:eqs (TT s i) jQ
 ·simp only [A,Bool.false_eq_true,aZ];exact Vd b s i d w hs h A
 ·simp only [A,if_true]
  cases hn:b9 (TT s) (sg 123) (i+1) with
  |error e=>exact LK b s i d w hs h A e.1 e.2 (hn)
  |ok y=>
   obtain ⟨⟨⟩,j⟩:=y;exact Ve b s i d w hs h C A j (hn)
def Tryz.info110:(Tryz.prog.info? 110).map (fun i=>(i.zero,i.size,i.bytes))=some (some (.agg #[au 0,an ⟨#[]⟩,aA none 0 0]),3,48):=by kernel_rfl
def AZ(p:Ty×ag):List ag:=[au p.1.place,an p.1.name,p.2]
def kY(base b:Nat)(w:af)(sv:ag)(ts:List Ty):Prop:=
 ∃l:List (Ty×ag),l.map Prod.fst=ts/\(∀p∈l,iN (b+1) b w p.2 p.1.rels)/\w.ownsRow base 110 3 sv ts.length (l.flatMap AZ)
def iH(b:Nat)(w w':af):Prop:=∀g cs T f,b+1<=g->w.heap[g]? =some (.cells cs T f)->(T=207\/T=159\/T=110)->w'.heap[g]? =w.heap[g]?
def iH.of_but(h:But b w w'):iH b w w':=fun g cs T f C A _=>h.block g (lt_of_some A) ai
def iH.below(h:am w w'):iH b w w':=iH.of_but (But.of_below h)
def iH.r(h:iH b w w'):fw b w w':=fun g cs T f A C D=>h g cs T f A C (by rcases D with h|h;exact .inl h;exact .inr (.inl h))
def iH.trans{x}(h:iH b x y)(k:iH b y z):iH b x z:=fun g cs T f A C D=>(k g cs T f A ((h g cs T f A C D).trans C) D).trans (h g cs T f A C D)
variable {g:Nat}
def iH.set(C:aL w g cs T)(h1:T≠207)(h2:T≠159)(D:T≠110)(o u):iH b w (w.setCell (aC g o) u):=
 fun g' I T' f J A h=>ea _ _ _ _ (fun (e':g'=g)=>by
  subst e';unfold aL at C;rw [C] at A;simp at A;obtain ⟨_,rfl,_⟩:=A
  rcases h with h|h|h
  ·exact h1 h
  ·exact h2 h
  exact D h)
def kY.frame{base:Nat}(h:kY base b w sv ts)(k:iH b w w')(I:b+1<=base):kY base b w' sv ts:=by
 obtain ⟨l,h1,h2,A⟩:=h;exact ⟨l,h1,fun p D=>(h2 p D).frame k.r aH,ay A fun g cs f J C=>k g cs _ f ai C (.inr (.inr rfl))⟩
def kY.base{base:Nat}(h:kY base b w sv ts)(C:base'<=base):kY base' b w sv ts:=by
 obtain ⟨l,h1,h2,A⟩:=h;exact ⟨l,h1,h2,bk A C⟩
def RepM(b:Nat)(w:af)(ts:List Ty)(v:ag):Prop:=∃sv,v=.agg #[sv]/\kY (b+1) b w sv ts
def IsM(v:ag):Prop:=∃(a:Option Addr)(n c:Nat),v=.agg #[aA a n c]
def Gw(b s d w)(hs:s.size<=500)(h:At w b s 0 d)(aK:d+4=4):
  Calls prog 72 #[bu b] w (Post b s d w (dJ (TT s) (PP s)) (RepM b) IsM):=by
 unfold dJ;generalize bh:cQ (TT s) (PP s) 512 [] 0=R;have bL:=h.lt;have bC:(s.size<=maxLen):=fK;go_enter func72,ntmps72;go_wp2_with fail
 go_loopg [6] 512 (fun k bT wr=>∃(ts:List Ty)(j:Nat)(sv:ag),But b w wr/\At wr b s j d/\512<=k+j/\ts.length<=j/\aL wr w.heap.size pF 75/\
  aL wr (w.heap.size+1) #[sv] 75/\kY w.heap.size b wr sv ts/\(cQ (TT s) (PP s) k ts j=R))
 ·exact ⟨[],0,_,((But.refl b w).alloc _).alloc _,(hY h),ai,ar,(aL.new w _ _).alloc _,aL.new' (w.alloc _) _ _ _ ar,⟨[],rfl,ar,bP⟩,bh⟩
 ·obtain ⟨ts,j,sv,aF,ha,aN,bM,ab,ae,br,A⟩:=hrel;have bH:12<=gk:=by have:=ha.le;omega
  obtain ⟨bc,rfl⟩:∃f,gk=f+1:=⟨gk-1,ai⟩;obtain ⟨l,aO,aP,aG⟩:=br;obtain ⟨sa,sc,rfl⟩:=aw aG;have aB:(kY w.heap.size b wr (aA sa ts.length sc) ts):=aj ⟨l,aO,aP,aG⟩;have t0:=ae.cell (o:=0) rfl;have ad:=ab.cell (o:=0) rfl;simp only [List.getElem_toArray,List.getElem_cons_zero] at t0 ad;have av:=ab.fz;have bB:=ae.fz;have bl:=ae.lt;have bn:w.heap.size<wr.heap.size:=ai;have aQ:=ha.lt;unfold cQ at A
  cases h1:eqs (TT s j) em
  ·simp only [h1,Bool.false_eq_true,aZ] at A;go_wp2_with fail;refine (ats b s j d _ _ em _ ?_ ?_).mono ?_
   ·exact (hY ha)
   ·exact dr _ _ _ _ ar
   rintro e w1 ⟨rfl,rfl⟩;rw [h1]
   go_upto_region 3 with fail
   go_cut [19] (fun c bx=>c=.bool (eqs (TT s j) jQ&&ts.length==5)/\bx=((wr.alloc pG).alloc pH))
   ·go_wp2_with fail;refine (ats b s j d _ _ jQ _ ?_ ?_).mono ?_
    ·exact (hY ha)
    ·exact dr _ _ _ _ ar
    rintro e w1 ⟨rfl,rfl⟩;have a7:=show (ts.length==5)=((ts.length:Int)==5) from gW.2 (by rw [dS,dS];omega)
    cases h2:eqs (TT s j) jQ<;>cases bg:((ts.length:Int)==5)
    all_goals
     go_wp2
     go_meet
     exact ⟨by rw [h2,a7,bg];rfl,rfl⟩
   obtain ⟨rfl,rfl⟩:=hcut;have ah:=show At ((wr.alloc pG).alloc pH) b s j d from (hY ha)
   have B3:=show But b w ((wr.alloc pG).alloc pH) from (eH aF)
   have G3:=(ae.alloc pG).alloc pH;have R3:=(ab.alloc pG).alloc pH;have P3:=aB.frame (iH.below (b:=b) (((az _ wr).alloc aH pG).alloc ar pH)) ai;generalize (wr.alloc pG).alloc pH=aV at*;clear t0 ad av bB ha aF ab ae aO aP aG bl bn aB aQ;have aI:=G3.cell (o:=0) rfl;have ad:=R3.cell (o:=0) rfl;simp only [List.getElem_toArray,List.getElem_cons_zero] at aI ad;have av:=R3.fz;have zq:=G3.fz;have bD:=G3.lt;have bF:=R3.lt;have aQ:=ah.lt
   cases bj:(eqs (TT s j) jQ&&ts.length==5)<;>rw [bj] at A
   ·skip
    cases af:j8 (TT s) (PP s) j with
    |error e=>
     obtain ⟨ba,aT⟩:=e;have C:=y5 b s j d aV hs ah aK;rw [af] at C A;clear af;go_wp2_with fail;refine C.mono ?_;rintro e V ⟨b4,bw,d4,rfl,⟨bR,bS,J,U,Q,rfl⟩,a4⟩;refine Ov ?_;intro R4 G4 B4 P4 y0 k0;simp only [List.getElem_toArray,List.getElem_cons_zero] at y0 k0;have aY:=R4.fz;have aX:=G4.fz;have bz:=G4.lt;have bA:w.heap.size<V.heap.size:=ai;clear b4 aI ad av zq C;unfold cm;go_wp2;rw [<-A];refine bE (v:=.tuple #[.agg #[aA sa ts.length sc],cm ba]) (ce results72 _ _ w.heap.size _ 75 _ _ rfl rfl ?hB underlying75 rfl aM) rfl ?post
     case hB=>exact ⟨_,(cY R4),bQ⟩
     case post=>exact ⟨(eH B4),_,d4,rfl,⟨_,_,_,rfl⟩,(hY a4)⟩
    |ok y=>
     obtain ⟨t4,aT⟩:=y;have C:=y5 b s j d aV hs ah aK;have bK:=vj _ _ _ _ _ af;rw [af] at C A;clear af;go_wp2_with fail;refine C.mono ?_;rintro e V ⟨b4,bw,rfl,⟨bv,rfl,aR⟩,a4⟩;refine Ov ?_;intro R4 G4 B4 P4 y0 k0;simp only [List.getElem_toArray,List.getElem_cons_zero] at y0 k0;have aY:=R4.fz;have aX:=G4.fz;have bz:=G4.lt;have bA:w.heap.size<V.heap.size:=ai;clear b4 aI ad av zq C;have bk:∃a n c,bv=aA a n c:=by
      obtain ⟨_,_,_,bf⟩:=aR;obtain ⟨a,c,h⟩:=aw bf;exact ⟨a,_,c,h⟩
     obtain ⟨J,U,Q,rfl⟩:=bk;have bN:=a4.le;obtain ⟨aU,e1,bb,aJ⟩:=aE P4;go_wp2_with (at_builtin;go_must (refine eB rfl underlying73 Tryz.info110 w.heap.size ((aJ.alloc _).alloc _) (V.heap.size+1) 1 (AZ (t4,aA J U Q)) (V.heap.size+2) ?hrest))
     case hrest=>
      intro g5 be w5 bp ac bi bJ;have I:am V ((V.alloc (bG t4.place t4.name J U Q)).alloc (bG t4.place t4.name J U Q)):=(bo.alloc aH _).alloc ar _;have ak:=G4.below I;have al:=R4.below I;have ay:=a4.below I;have Z:=(aJ.alloc (bG t4.place t4.name J U Q)).alloc (bG t4.place t4.name J U Q);have aC:fw b V w5:=fun g cs T f bI ap bs=>(ac.block g (cM (lt_of_some ap) I.size) (dV Z ((I.block g (lt_of_some ap)).trans ap) (by rcases bs with rfl|rfl<;>decide))).trans (I.block g (lt_of_some ap))
      have a9:=(show ∀p∈aU++[(t4,Value.slice J U Q)],iN (b+1) b w5 p.2 p.1.rels from fun p D=>by
       rw [aW] at D
       rcases D with D|D
       ·exact (bb p D).frame aC aH
       simp at D;subst D;exact aR.frame aC aH)
      have Y:=show aL w5 (w.heap.size+1) #[aA sa ts.length sc] 75 from (ac.block _ ak.lt (own_ne Z ak ax)).trans ak
      have a8:=show aL w5 w.heap.size pF 75 from (ac.block _ al.lt (own_ne Z al ax)).trans al
      have a5:=ay.grown ac (own_ne Z ay.pos.rd.blk ax);have a6:=But.grown (B4.trans (But.of_below I)) ac (fun k aN=>(Z.lt k aN).1);have bt:=Y.cell (o:=0) rfl;simp only [List.getElem_toArray,List.getElem_cons_zero] at bt;have bV:=Y.fz;have bO:=Y.lt;clear I ak al ay Z aC ac bi y0 k0 aY aX;go_wp2
      go_roundg bc
      case measure=>omega
      case rel=>exact ⟨ts++[t4],aT,_,(eH a6),(hY a5),ai,aS,(cY a8),Y.set 0 _,⟨aU++[(t4,aA J U Q)],by simp [e1],fun p D=>(a9 p D).frame (fw.set Y ax ax 0 _) aH,by rw [List.length_append,cN];exact bU bp Y ax 0 _⟩,A⟩
   go_wp2;rw [<-A];refine bE (v:=.tuple #[.agg #[aA sa ts.length sc],cm 3]) (ce results72 _ _ w.heap.size _ 75 _ _ rfl rfl ?hB underlying75 rfl aM) rfl ?post
   case hB=>exact ⟨_,(cY R3),bQ⟩
   case post=>exact ⟨(eH B3),_,d,rfl,⟨_,_,_,rfl⟩,(hY ah)⟩
  simp only [h1,if_true] at A;go_wp2_with fail;refine (ats b s j d _ _ em _ ?_ ?_).mono ?_
  ·exact (hY ha)
  ·exact dr _ _ _ _ ar
  rintro e w1 ⟨rfl,rfl⟩;rw [h1];go_wp2;rw [<-A];refine bE (v:=.tuple #[.agg #[aA sa ts.length sc],.nilIface]) (ce results72 _ _ w.heap.size _ 75 _ _ rfl rfl ?hB underlying75 rfl aM) rfl ?post
  case hB=>exact ⟨_,(cY ab),bQ⟩
  case post=>exact ⟨(eH aF),_,rfl,⟨_,rfl,(aB.frame ((iH.set ab ax ax ax 0 _).trans (iH.below (bo.alloc aH _))) ai).base ai⟩,(hY ha)⟩
end
section
abbrev bM:=@List.flatMap_cons
abbrev jD:=@List.getElem?_eq_none
abbrev Gx:=@List.getElem?_take_of_lt
abbrev aK:=@Value.slice.injEq
abbrev cg:=@Addr.mk.injEq
abbrev kZ:=@List.findIdx?_eq_some_iff_getElem
abbrev pI:=@List.findIdx?_eq_none_iff
def nv (h:aD:=by
 simpa using h):aD:=h
def Ow (h:aD:=by
 rintro e C ⟨rfl,A⟩;rw [he];go_wp2;go_roundw
 ·exact ⟨k+1,ai,by go_num,(hb.trans (A.mono hb.size)),Hn⟩
 simp [intOf];omega):aD:=h
def Ox (h:aD:=by
 rintro e C ⟨rfl,A⟩;rw [he];go_wp2;go_ret;exact ⟨by rw [qA];rfl,(hb.trans (A.mono hb.size))⟩):aD:=h
def Oy (h:aD:=by
 have A:=JQ x l (fun j h=>LL j h ai);go_wp2;go_ret;exact ⟨by rw [A];rfl,hb⟩):aD:=h
def vo (h:aD:=by
 exact ⟨0,ai,rfl,az _ _,(fun j e h=>ai)⟩):aD:=h
abbrev E3:=Nat×ae×ag
def c3(e:E3):List ag:=[au e.1,an e.2.1,e.2.2]
def ib(w:af)(T:TypeId)(v:ag)(l:List E3):Prop:=w.ownsRow 0 T 3 v l.length (l.flatMap c3)
def y6(e):∀(l:List E3)(i:Nat),l[i]? =some e->(l.flatMap c3)[i*3]? =some (au e.1)/\(l.flatMap c3)[i*3+1]? =some (an e.2.1)/\(l.flatMap c3)[i*3+2]? =some e.2.2
 | [],i,h=>by simp at h
 |e'::l,0,h=>by simp at h;subst h;simp [bM,c3]
 |e'::l,i+1,h=>by
  have:=y6 e l i nv;rw [bM,show (i+1)*3=i*3+3 by omega]
  simpa [c3] using this
variable {base:Nat}
def aY(h:w.ownsRow base e size v n xs)(k u)(A:xs[k]? =some u):∃g c,v=aA (some (aP g)) n c/\w.cell? (aC g k)=some u:=by
 have C:k<xs.length:=by
  rcases fD k xs.length with h|h
  ·exact h
  rw [jD h] at A;cases A
 rcases h with ⟨h1,⟨rfl,rfl⟩|⟨g,cap,Q,rfl,Y,I,R,U,V,D⟩⟩
 ·simp at h1;rw [h1] at C;simp at C
 refine ⟨g,cap,rfl,?_⟩;rw [<-D] at A;have J:k<n*size:=ai;rw [Gx J] at A
 simpa [World.cell?,I] using A
def ib.cell{l}(h:ib w T v l)(i)(hi:i<l.length):
  ∃g c,v=aA (some (aP g)) l.length c/\w.cell? (aC g (i*3))=some (au l[i].1)/\w.cell? (aC g (i*3+1))=some (an l[i].2.1)/\w.cell? (aC g (i*3+2))=some l[i].2.2:=by
 obtain ⟨h0,h1,h2⟩:=y6 l[i] l i (aI hi);obtain ⟨g,c,rfl,e0⟩:=aY h _ _ h0;obtain ⟨g',D,e',e1⟩:=aY h _ _ h1;obtain ⟨J,I,A,C⟩:=aY h _ _ h2;simp only [aK,aR,cg] at e' A;obtain ⟨⟨rfl,_⟩,_⟩:=e';obtain ⟨⟨rfl,_⟩,_⟩:=A;exact ⟨g,c,rfl,e0,e1,C⟩
def ib.below{l}(h:ib w T v l)(k:am w w'):ib w' T v l:=
 ay h fun g cs f _ A=>k.block g (lt_of_some A)
def Dv(x:ae)(l:List E3):Int:=match l.findIdx? (fun e=>eqs e.2.1 x) with
 |some k=>k
 |none=> -1
def vp(x l)(k:Nat)(I:k<l.length)(C:eqs l[k].2.1 x=true)(A:∀j,(h:j<l.length)->j<k->eqs l[j].2.1 x=false):Dv x l=k:=by
 have:l.findIdx? (fun e=>eqs e.2.1 x)=some k:=by
  rw [kZ];exact ⟨I,C,fun j D=>by rw [A j ai D];decide⟩
 simp [Dv,this]
def JQ(x l)(A:∀j,(h:j<l.length)->eqs l[j].2.1 x=false):Dv x l= -1:=by
 have:l.findIdx? (fun e=>eqs e.2.1 x)=none:=by
  rw [pI];intro e C;obtain ⟨j,D,rfl⟩:=dB C;exact A j D
 simp [Dv,this]
def JR(p:Nat)(n x v)(h:Nat)(w)(A:aL w h #[an x] 9):
  Calls prog 96 #[.agg #[au p,an n,v],bu h] w fun e w'=>e=bi (.bool (eqs n x))/\am w w':=by
 have c0:w.cell? (aP h)=some (an x):=A.cell rfl;have hl:=A.lt;have C:(n.toList==x.toList)=eqs n x:=by rw [aT,aT];rfl
 go_enter func96,ntmps96;go_wp2;go_ret;exact ⟨rfl,bo.alloc aH _⟩
def tH(v l x q w)(U:l.length<=1000)(h:ib w 110 v l)(J:aL w q #[an x] 9):
  Calls prog 95 #[v,.func (.func 96) #[] #[bu q]] w fun e w'=>e=bi (au (Dv x l))/\am w w':=by
 obtain ⟨sa,sc,rfl⟩:=aw h;go_enter func95,ntmps95;go_wp2
 go_loopw [5,8] (fun u i wr=>∃k:Nat,k<=l.length/\i=au k/\am w wr/\(∀j,(h:j<l.length)->j<k->eqs l[j].2.1 x=false)) (fun _ i _=>l.length-(intOf i).toNat)
 ·exact vo
 ·obtain ⟨k,R,rfl,hb,LL⟩:=hrel
  by_cases I:k<l.length
  ·obtain ⟨g,c,e1,k0,k1,V⟩:=(h.below hb).cell k I;simp only [aK] at e1;obtain ⟨rfl,_,rfl⟩:=e1;have D:=J.below hb
   cases he:eqs l[k].2.1 x
   ·have Hn:=(show ∀j,(h:j<l.length)->j<k+1->eqs l[j].2.1 x=false from fun j h Q=>by
     by_cases e:j=k
     ·subst e;exact he
     exact LL j h ai)
    go_wp2_with fail;refine (JR _ _ _ _ _ _ D).mono ?_;exact Ow
   have qA:=vp x l k I he LL;go_wp2_with fail;refine (JR _ _ _ _ _ _ D).mono ?_;exact Ox
  exact Oy
def JS(p:Nat)(n x v)(h:Nat)(w)(A:aL w h #[an x] 9):
  Calls prog 206 #[.agg #[au p,an n,v],bu h] w fun e w'=>e=bi (.bool (eqs n x))/\am w w':=by
 have c0:w.cell? (aP h)=some (an x):=A.cell rfl;have hl:=A.lt;have C:(n.toList==x.toList)=eqs n x:=by rw [aT,aT];rfl
 go_enter func206,ntmps206;go_wp2;go_ret;exact ⟨rfl,bo.alloc aH _⟩
def tI(v l x q w)(U:l.length<=1000)(h:ib w 159 v l)(J:aL w q #[an x] 9):
  Calls prog 205 #[v,.func (.func 206) #[] #[bu q]] w fun e w'=>e=bi (au (Dv x l))/\am w w':=by
 obtain ⟨sa,sc,rfl⟩:=aw h;go_enter func205,ntmps205;go_wp2
 go_loopw [5,8] (fun u i wr=>∃k:Nat,k<=l.length/\i=au k/\am w wr/\(∀j,(h:j<l.length)->j<k->eqs l[j].2.1 x=false)) (fun _ i _=>l.length-(intOf i).toNat)
 ·exact vo
 ·obtain ⟨k,R,rfl,hb,LL⟩:=hrel
  by_cases I:k<l.length
  ·obtain ⟨g,c,e1,k0,k1,V⟩:=(h.below hb).cell k I;simp only [aK] at e1;obtain ⟨rfl,_,rfl⟩:=e1;have D:=J.below hb
   cases he:eqs l[k].2.1 x
   ·have Hn:=(show ∀j,(h:j<l.length)->j<k+1->eqs l[j].2.1 x=false from fun j h Q=>by
     by_cases e:j=k
     ·subst e;exact he
     exact LL j h ai)
    go_wp2_with fail;refine (JS _ _ _ _ _ _ D).mono ?_;exact Ow
   have qA:=vp x l k I he LL;go_wp2_with fail;refine (JS _ _ _ _ _ _ D).mono ?_;exact Ox
  exact Oy
end
section
abbrev ba(a0:Option Addr)(a1:Nat)(a2:Nat):Obj:=.cells #[aA a0 a1 a2] 75
abbrev dv(a0:ae):Obj:=.cells #[an a0] 9
def Oz (h:aD:=by
 have:=h.cell k hk;obtain ⟨g',C,e1,A,_⟩:=this;simp only [aK,aR,cg] at e1;have:=en A;omega):aD:=h
def hK(x:ae)(l:List E3):Option E3:=l.find? fun e=>eqs e.2.1 x
def y7{l}(h:hK x l=none):Dv x l= -1:=by
 unfold hK at h;rw [List.find?_eq_none] at h;exact JQ x l (fun j A=>by simpa using h l[j] (br A))
def y8{l y}(h:hK x l=some y):∃k,∃A:k<l.length,l[k]=y/\Dv x l=k:=by
 unfold hK at h;rw [List.find?_eq_some_iff_getElem] at h;obtain ⟨h1,k,A,h2,C⟩:=h;refine ⟨k,A,h2,vp x l k A (by rw [h2];exact h1) (fun j I D=>by simpa using C j D)⟩
variable {g:Nat}
def en{o}(h:w.cell? (aC g o)=some v):g<w.heap.size:=by
 rcases fD g w.heap.size with k|k
 ·exact k
 simp [World.cell?,Array.getElem?_eq_none k] at h
def y9(v l x w)(Q:l.length<=1000)(h:ib w 110 v l)(J:hK x l=none):
  Calls prog 57 #[.agg #[v],an x] w fun e w'=>e=bi (.tuple #[.agg #[au 0,an ⟨#[]⟩,aA none 0 0],cm 5])/\am w w':=by
 obtain ⟨sa,sc,rfl⟩:=aw h;have W0:am w (((w.alloc (ba sa l.length sc)).alloc (dv x)).alloc dD):=((bo.alloc aH _).alloc ar _).alloc aS _;have C:=tH (aA sa l.length sc) l x (w.heap.size+1) _ Q (h.below W0) ((aL.new' (w.alloc (ba sa l.length sc)) #[an x] 9 (w.heap.size+1) ar).alloc dD);have M:=((aL.new w #[aA sa l.length sc] 75).alloc (dv x)).alloc dD;have R:=aL.new' ((w.alloc (ba sa l.length sc)).alloc (dv x)) fG 110 (w.heap.size+2) ar;go_enter func57,ntmps57;go_wp2_with fail;refine C.mono ?_;rintro e w1 ⟨rfl,D⟩;have A:=R.below D;have I:=W0.trans (D.mono W0.size);obtain ⟨U,V,Y⟩:=A.three;have Z:=A.fz;rw [y7 J];go_wp2;refine bE (v:=.tuple #[.agg #[au 0,an ⟨#[]⟩,aA none 0 0],cm 5]) (ce results57 _ _ (w.heap.size+2) _ 110 _ _ rfl rfl ?hB underlying110 rfl aM) rfl ?post
 case hB=>exact ⟨_,(cY A),bQ⟩
 case post=>exact ⟨rfl,(cq I)⟩
def pJ(v l x w)(ac:l.length<=1000)(h:ib w 110 v l)(y)(Z:hK x l=some y)(ae:∃a n c,y.2.2=aA a n c):
  Calls prog 57 #[.agg #[v],an x] w fun e w'=>e=bi (.tuple #[.agg #[au y.1,an y.2.1,y.2.2],.nilIface])/\am w w':=by
 obtain ⟨k,hk,ad,hi⟩:=y8 Z;obtain ⟨sa,sc,rfl⟩:=aw h;have W0:am w (((w.alloc (ba sa l.length sc)).alloc (dv x)).alloc dD):=((bo.alloc aH _).alloc ar _).alloc aS _;have C:=tH (aA sa l.length sc) l x (w.heap.size+1) _ ac (h.below W0) ((aL.new' (w.alloc (ba sa l.length sc)) #[an x] 9 (w.heap.size+1) ar).alloc dD);have M:=((aL.new w #[aA sa l.length sc] 75).alloc (dv x)).alloc dD;have R:=aL.new' ((w.alloc (ba sa l.length sc)).alloc (dv x)) fG 110 (w.heap.size+2) ar;have U:=h.below W0;go_enter func57,ntmps57;go_wp2_with fail;refine C.mono ?_;rintro e w1 ⟨rfl,D⟩;have I:=R.below D;have Y:=M.below D;have V:=U.below D;have Q:=W0.trans (D.mono W0.size);obtain ⟨aj,ak,al⟩:=I.three;have ap:=I.fz;have mc:w1.cell? (aP w.heap.size)=some (aA sa l.length sc):=Y.cell rfl;rw [hi];obtain ⟨g,c,e1,k0,k1,J⟩:=V.cell k hk;simp only [aK] at e1;obtain ⟨rfl,_,rfl⟩:=e1;rw [ad] at k0 k1 J;have ab:¬(g=w.heap.size+2):=fun e=>by
  exact Oz
 have ai:¬(w.heap.size+2=g):=fun e=>ab e.symm
 obtain ⟨p,n,u⟩:=y;simp only at k0 k1 J;obtain ⟨af,ah,ag,rfl⟩:∃a n c,u=aA a n c:=ae;go_wp2;refine bE (v:=.tuple #[.agg #[au p,an n,aA af ah ag],.nilIface]) (ce results57 _ _ (w.heap.size+2) _ 110 _ _ rfl rfl ?hB underlying110 rfl aM) rfl ?post
 case hB=>exact ⟨_,(cY I),bQ⟩
 case post=>exact ⟨rfl,(cq Q)⟩
def za(A:Nat)(nn v l x w)(U:l.length<=1000)(h:ib w 159 v l)(Q:hK x l=none):
  Calls prog 145 #[.agg #[au A,an nn,v],an x] w fun e w'=>e=bi (.tuple #[.agg #[au 0,an ⟨#[]⟩,.nilIface],cm 5])/\am w w':=by
 obtain ⟨sa,sc,rfl⟩:=aw h;have W0:am w (((w.alloc (bG A nn sa l.length sc)).alloc (dv x)).alloc cZ):=((bo.alloc aH _).alloc ar _).alloc aS _;have C:=tI (aA sa l.length sc) l x (w.heap.size+1) _ U (h.below W0) ((aL.new' (w.alloc (bG A nn sa l.length sc)) #[an x] 9 (w.heap.size+1) ar).alloc cZ);have M:=((aL.new w (h8 A nn sa l.length sc) 110).alloc (dv x)).alloc cZ;have R:=aL.new' ((w.alloc (bG A nn sa l.length sc)).alloc (dv x)) fF 159 (w.heap.size+2) ar;go_enter func145,ntmps145;go_wp2_with fail;refine C.mono ?_;rintro e w1 ⟨rfl,I⟩;have D:=R.below I;have J:=W0.trans (I.mono W0.size);obtain ⟨V,Y,Z⟩:=D.three;have ab:=D.fz;rw [y7 Q];go_wp2;refine bE (v:=.tuple #[.agg #[au 0,an ⟨#[]⟩,.nilIface],cm 5]) (ce results145 _ _ (w.heap.size+2) _ 159 _ _ rfl rfl ?hB underlying159 rfl aM) rfl ?post
 case hB=>exact ⟨_,(cY D),bQ⟩
 case post=>exact ⟨rfl,(cq J)⟩
def pK(D:Nat)(nn v l x w)(ad:l.length<=1000)(h:ib w 159 v l)(y)(ab:hK x l=some y)(af:∃a x,y.2.2=.iface a x):
  Calls prog 145 #[.agg #[au D,an nn,v],an x] w fun e w'=>e=bi (.tuple #[.agg #[au y.1,an y.2.1,y.2.2],.nilIface])/\am w w':=by
 obtain ⟨k,hk,ae,hi⟩:=y8 ab;obtain ⟨sa,sc,rfl⟩:=aw h;have W0:am w (((w.alloc (bG D nn sa l.length sc)).alloc (dv x)).alloc cZ):=((bo.alloc aH _).alloc ar _).alloc aS _;have C:=tI (aA sa l.length sc) l x (w.heap.size+1) _ ad (h.below W0) ((aL.new' (w.alloc (bG D nn sa l.length sc)) #[an x] 9 (w.heap.size+1) ar).alloc cZ);have M:=((aL.new w (h8 D nn sa l.length sc) 110).alloc (dv x)).alloc cZ;have R:=aL.new' ((w.alloc (bG D nn sa l.length sc)).alloc (dv x)) fF 159 (w.heap.size+2) ar;have V:=h.below W0;go_enter func145,ntmps145;go_wp2_with fail;refine C.mono ?_;rintro e w1 ⟨rfl,I⟩;have J:=R.below I;have Z:=M.below I;have Y:=V.below I;have U:=W0.trans (I.mono W0.size);obtain ⟨aj,ak,al⟩:=J.three;have ap:=J.fz;have mc:w1.cell? (aC w.heap.size 2)=some (aA sa l.length sc):=Z.cell rfl;rw [hi];obtain ⟨g,c,e1,k0,k1,Q⟩:=Y.cell k hk;simp only [aK] at e1;obtain ⟨rfl,_,rfl⟩:=e1;rw [ae] at k0 k1 Q;have ac:¬(g=w.heap.size+2):=fun e=>by
  exact Oz
 have ai:¬(w.heap.size+2=g):=fun e=>ac e.symm
 obtain ⟨p,n,u⟩:=y;simp only at k0 k1 Q;obtain ⟨ag,ah,rfl⟩:∃a x,u=.iface a x:=af;go_wp2;refine bE (v:=.tuple #[.agg #[au p,an n,.iface ag ah],.nilIface]) (ce results145 _ _ (w.heap.size+2) _ 159 _ _ rfl rfl ?hB underlying159 rfl aM) rfl ?post
 case hB=>exact ⟨_,(cY J),bQ⟩
 case post=>exact ⟨rfl,(cq U)⟩
end
abbrev c8:=@List.drop_eq_getElem_cons
abbrev cD:=@List.take_succ_eq_append_getElem
abbrev gI:=@List.mem_of_find?_eq_some
abbrev cA:=@Below.grown
abbrev eC:=@List.drop_of_length_le
def JT (h:aD:=by
 have:=B2.size;simp;omega):aD:=h
def mV (h:aD:=by
 rw [eb];omega):aD:=h
def Xl (h:aD:=by
 obtain ⟨A,C,D⟩:=E2.three;have I:=E2.lt;clear hb2 E2;go_wp2_with (go_at_call 73;refine (kf _ 4 _).mono ?_;rintro e J ⟨rfl,rfl⟩);exact Gy):aD:=h
def OA (h:aD:=by
 obtain ⟨g',C,e1,A,_⟩:=h.cell k hlt;simp only [aK,aR,cg] at e1;obtain ⟨⟨rfl,_⟩,_⟩:=e1;exact en A):aD:=h
def OB (h:aD:=by
 exact ⟨0,_,ai,rfl,(bo.alloc aH _).alloc ar _,aL.new' (w.alloc _) _ _ _ ar,bP,hR⟩):aD:=h
def Gz (h:aD:=by
 have A:=HQ;rw [eC ai] at A;go_wp2;go_ret;rw [<-A];exact ⟨rfl,hb⟩):aD:=h
def Gy (h:aD:=by
 go_ret;rw [<-hR];exact ⟨rfl,(cq B2)⟩):aD:=h
def fP(p c:Nat):ag:=.iface 147 (.agg #[au p,cm c])
def ji(c:Nat):Option Nat->ag
 |none=> .nilIface
 |some p=>fP p c
def kf(p c:Nat)(w):Calls prog 73 #[au p,.iface 134 (au c)] w fun e w'=>e=bi (fP p c)/\w'=w:=by
 go_enter func73,ntmps73;go_wp2;go_ret;exact ⟨rfl,rfl⟩
def OC(p:Nat)(w):Calls prog 73 #[au p,.nilIface] w fun e w'=>e=.returned .nilIface/\w'=w:=by
 go_enter func73,ntmps73;go_wp2;go_ret;exact ⟨rfl,rfl⟩
def kg:List E3->List E3->Option Nat
 |_,[]=>none
 |ah,e::r=>if (hK e.2.1 ah).isSome then some e.1 else kg (ah++[e]) r
def Dw(l:List E3)(k:Nat)(h:k<l.length):kg (l.take k) (l.drop k)=if (hK l[k].2.1 (l.take k)).isSome then some l[k].1 else kg (l.take (k+1)) (l.drop (k+1)):=by
 rw [c8 h,kg,cD h]
def JU(l:List E3)(k:Nat)(h:k<l.length):(l.take (k+1)).flatMap c3=(l.take k).flatMap c3++c3 l[k]:=by
 rw [cD h,cN];simp
def GA(aT:Nat)(nn v l w)(a6:l.length<=1000)(h:ib w 159 v l)(av:∀e∈l,∃t x,e.2.2=.iface t x):
  Calls prog 173 #[.agg #[au aT,an nn,v]] w fun e w'=>e=bi (ji 4 (kg [] l))/\am w w':=by
 obtain ⟨a9,oc,rfl⟩:=aw h;generalize hR:kg [] l=R;go_enter func173,ntmps173;go_wp2_with fail
 go_loopw [11] (fun u wr=>∃(k:Nat)(sv:ag),k<=l.length/\u=au k/\am w wr/\aL wr (w.heap.size+1) #[au 0,an ⟨#[]⟩,sv] 110/\wr.ownsRow w.heap.size 159 3 sv k ((l.take k).flatMap c3)/\(kg (l.take k) (l.drop k)=R)) (fun u _=>l.length-(intOf u).toNat)
 ·exact OB
 ·obtain ⟨k,sv,ak,rfl,hb,af,ho,HQ⟩:=hrel;obtain ⟨sa,sc,rfl⟩:=aw ho;obtain ⟨ab,b1,aF⟩:=af.three;have aX:=af.fz;have lb:=af.lt
  by_cases hlt:k<l.length
  ·have hR:=HQ;rw [Dw l k hlt] at hR;obtain ⟨g,c,e1,k0,k1,aO⟩:=(h.below hb).cell k hlt;simp only [aK] at e1;obtain ⟨rfl,_,rfl⟩:=e1;obtain ⟨Q,U,az⟩:=av l[k] (br hlt);have aI:=JU l k hlt;generalize aN:l[k]=y at*;obtain ⟨p,n,u⟩:=y;simp only at k0 k1 aO az hR;subst az;have a4:g<w.heap.size:=by
    exact OA
   have al:=(show ib (wr.alloc (cC p n Q U)) 159 (aA sa k sc) (l.take k) from by
    have:=bk (ho.alloc (cC p n Q U)) (Nat.zero_le _);unfold ib;rw [eb,Nat.min_eq_left ak];exact this)
   clear aN
   cases V:hK n (l.take k) with
   |some y=>
    have aB:∃a x,y.2.2=.iface a x:=av y (List.mem_of_mem_take (gI V));rw [V] at hR;simp only [Option.isSome_some,if_true] at hR;have C:=pK 0 ⟨#[]⟩ (aA sa k sc) (l.take k) n _ mV al y V aB;obtain ⟨bg,bf,bh⟩:=y;obtain ⟨bc,bj,aC⟩:=aB;simp only at aC;subst aC;clear V;go_wp2_with fail;refine C.mono ?_;rintro e Y ⟨rfl,hb2⟩;have B2:=(hb.alloc hb.size (cC p n Q U)).trans (hb2.mono (by have:=hb.size;simp;omega));have E2:=(aL.new wr #[au p,an n,.iface Q U] 159).below hb2;exact Xl
   |none=>
    rw [V] at hR;simp only [Option.isSome_none,Bool.false_eq_true,aZ] at hR;have C:=za 0 ⟨#[]⟩ (aA sa k sc) (l.take k) n _ mV al V;clear V;go_wp2_with fail;refine C.mono ?_;rintro e Y ⟨rfl,hb2⟩;have ae:am wr Y:=(bo.alloc aH (cC p n Q U)).trans (hb2.mono ar);have B2:=hb.trans (ae.mono hb.size);have E2:=(aL.new wr #[au p,an n,.iface Q U] 159).below hb2;obtain ⟨aU,aV,aW⟩:=E2.three;have ba:=E2.lt;have ac:=af.below ae;obtain ⟨aP,aQ,aS⟩:=ac.three;have aY:=ac.fz;have a7:=ac.lt;have ap:=ay ho (fun g cs f _ aJ=>ae.block g (lt_of_some aJ));have bb:=hb.size;clear hb2 E2 ae ab b1 aF aX;unfold cm;go_wp2_with (at_builtin;go_must (refine eB rfl underlying108 Tryz.info159 w.heap.size ((ap.alloc _).alloc _) (Y.heap.size+1) 1 (c3 (p,n,.iface Q U)) (Y.heap.size+2) ?hrest))
    case hrest=>
     intro g5 be w5 aM aj aG a5;have ab:am Y ((Y.alloc cZ).alloc (cC p n Q U)):=(bo.alloc aH _).alloc ar _;have ad:=ac.below ab;have ah:=(ap.alloc cZ).alloc (cC p n Q U);have Z:=show aL w5 (w.heap.size+1) #[au 0,an ⟨#[]⟩,aA sa k sc] 110 from (aj.block _ ad.lt (own_ne ah ad ax)).trans ad
     have aE:=cA (B2.trans (ab.mono B2.size)) aj JT (fun k ak=>(ah.lt k ak).1);obtain ⟨a8,n1,n2⟩:=Z.three;have bl:=Z.fz;have nl:=Z.lt;clear ab ad ah aj aG aP aQ aS aY aU aV aW;go_wp2;go_roundw
     ·exact ⟨k+1,_,ai,by go_num,(cq aE),Z.set 2 _,by rw [aI];exact bU aM Z ax 2 _,hR⟩
     simp [intOf];omega
  exact Gz
def OD(q:bq) (h:cj bq->aD:=by
 intro zq;have Cn:=hin (p,n,aA ua um un) (by rw [<-hy];exact br hlt) (w2.alloc dD) (B2.alloc B2.size _)
 revert Cn
 exact zq.1):aD:=h ⟨q⟩
def jc(inn:E3->Option Nat):List E3->List E3->Option Nat
 |_,[]=>none
 |ah,e::r=>if (hK e.2.1 ah).isSome then some e.1 else match inn e with
  |some p=>some p
  |none=>jc inn (ah++[e]) r
def A0(inn:E3->Option Nat)(l:List E3)(k:Nat)(h:k<l.length):jc inn (l.take k) (l.drop k)=if (hK l[k].2.1 (l.take k)).isSome then some l[k].1 else match inn l[k] with
  |some p=>some p
  |none=>jc inn (l.take (k+1)) (l.drop (k+1)):=by
 rw [c8 h,jc,cD h]
def GB(inn v l w)(ba:l.length<=1000)(h:ib w 110 v l)(aF:∀e∈l,∃a n c,e.2.2=aA a n c)(hin:∀e∈l,∀w',am w w'->Calls prog 173 #[.agg #[au e.1,an e.2.1,e.2.2]] w' fun e' w''=>e'=bi (ji 4 (inn e))/\am w' w''):
  Calls prog 115 #[.agg #[v]] w fun e w'=>e=bi (ji 4 (jc inn [] l))/\am w w':=by
 obtain ⟨bc,oc,rfl⟩:=aw h;generalize hR:jc inn [] l=R;go_enter func115,ntmps115;go_wp2_with fail
 go_loopw [12] (fun u wr=>∃(k:Nat)(sv:ag),k<=l.length/\u=au k/\am w wr/\aL wr (w.heap.size+1) #[sv] 75/\wr.ownsRow w.heap.size 110 3 sv k ((l.take k).flatMap c3)/\(jc inn (l.take k) (l.drop k)=R)) (fun u _=>l.length-(intOf u).toNat)
 ·exact OB
 ·obtain ⟨k,sv,aB,rfl,hb,ak,ho,HQ⟩:=hrel;obtain ⟨sa,sc,rfl⟩:=aw ho;have ab:wr.cell? (aP (w.heap.size+1))=some (aA sa k sc):=ak.cell rfl;have a7:=ak.fz;have lb:=ak.lt
  by_cases hlt:k<l.length
  ·have hR:=HQ;rw [A0 inn l k hlt] at hR;obtain ⟨g,c,e1,k0,k1,aY⟩:=(h.below hb).cell k hlt;simp only [aK] at e1;obtain ⟨rfl,_,rfl⟩:=e1;obtain ⟨ua,um,un,aG⟩:=aF l[k] (br hlt);have aW:=JU l k hlt;generalize hy:l[k]=y at*;obtain ⟨p,n,u⟩:=y;simp only at k0 k1 aY aG hR;subst aG;have a8:g<w.heap.size:=by
    exact OA
   have aC:=(show ib (wr.alloc (bG p n ua um un)) 110 (aA sa k sc) (l.take k) from by
    have:=bk (ho.alloc (bG p n ua um un)) (Nat.zero_le _);unfold ib;rw [eb,Nat.min_eq_left aB];exact this)
   cases Q:hK n (l.take k) with
   |some y=>
    have aI:∃a n c,y.2.2=aA a n c:=aF y (List.mem_of_mem_take (gI Q));rw [Q] at hR;simp only [Option.isSome_some,if_true] at hR;have C:=pJ (aA sa k sc) (l.take k) n _ mV aC y Q aI;obtain ⟨bn,bl,bp⟩:=y;obtain ⟨bh,bj,bs,aJ⟩:=aI;simp only at aJ;subst aJ;clear Q;go_wp2_with fail;refine C.mono ?_;rintro e w2 ⟨rfl,hb2⟩;have B2:=(hb.alloc hb.size (bG p n ua um un)).trans (hb2.mono (by have:=hb.size;simp;omega));have E2:=(aL.new wr (h8 p n ua um un) 110).below hb2;exact Xl
   |none=>
    rw [Q] at hR;simp only [Option.isSome_none,Bool.false_eq_true,aZ] at hR;have C:=y9 (aA sa k sc) (l.take k) n _ mV aC Q;clear Q;go_wp2_with fail;refine C.mono ?_;rintro e w2 ⟨rfl,hb2⟩;have aj:am wr w2:=(bo.alloc aH (bG p n ua um un)).trans (hb2.mono ar);have B2:=hb.trans (aj.mono hb.size);have E2:=(aL.new wr (h8 p n ua um un) 110).below hb2;obtain ⟨aN,aO,aQ⟩:=E2.three;have a6:=E2.lt;have ae:=ak.below aj;have aM:w2.cell? (aP (w.heap.size+1))=some (aA sa k sc):=ae.cell rfl;have aS:=ae.fz;have a5:=ae.lt;have aU:=ay ho (fun g cs f _ az=>aj.block g (lt_of_some az));have bf:=hb.size;clear hb2 aj ab a7
    cases Y:inn (p,n,aA ua um un) with
    |some pq=>
     refine OD ?_;intro Cn;rw [Y] at Cn;rw [Y] at hR;clear Y;unfold cm;go_wp2_with fail;refine Cn.mono ?_;rintro e U ⟨rfl,ac⟩;have V:=(B2.alloc B2.size dD).trans (ac.mono JT);clear ac;unfold ji fP;go_wp2;go_ret;rw [<-hR];exact ⟨rfl,V⟩
    |none=>
     refine OD ?_;intro Cn;rw [Y] at Cn;rw [Y] at hR;clear Y;unfold cm;go_wp2_with fail;refine Cn.mono ?_;rintro e U ⟨rfl,ac⟩;have ad:am w2 U:=(bo.alloc aH dD).trans (ac.mono ar);have V:=B2.trans (ad.mono B2.size);have al:=E2.below ad;obtain ⟨aN,aO,aQ⟩:=al.three;have a6:=al.lt;have af:=ae.below ad;have aM:U.cell? (aP (w.heap.size+1))=some (aA sa k sc):=af.cell rfl;have aS:=af.fz;have a5:=af.lt;have aE:=ay aU (fun g cs f _ az=>ad.block g (lt_of_some az));have bg:=V.size;clear ac al ad;unfold ji;go_wp2_with (at_builtin;go_must (refine eB rfl underlying73 Tryz.info110 w.heap.size (aE.alloc _) U.heap.size 1 (c3 (p,n,aA ua um un)) (U.heap.size+1) ?hrest))
     case hrest=>
      intro g5 be w5 aX av aV a9;have ab:am U (U.alloc (bG p n ua um un)):=bo.alloc aH _;have ah:=af.below ab;have ap:=aE.alloc (bG p n ua um un);have Z:=show aL w5 (w.heap.size+1) #[aA sa k sc] 75 from (av.block _ ah.lt (own_ne ap ah ax)).trans ah
      have aT:=cA (V.trans (ab.mono V.size)) av (by have:=V.size;simp;omega) (fun k aB=>(ap.lt k aB).1);have bb:w5.cell? (aP (w.heap.size+1))=some (aA sa k sc):=Z.cell rfl;have bt:=Z.fz;have nl:=Z.lt;clear ab ah ap av aV aM aS aN aO aQ;go_wp2;go_roundw
      ·exact ⟨k+1,_,ai,by go_num,(cq aT),Z.set 0 _,by rw [aW];exact bU aX Z ax 0 _,hR⟩
      simp [intOf];omega
  exact Gz
def ie(x w):(Instr.typeAssert (.iface 236 x) 157 236 true).run prog w=.ok (.tuple #[x,.bool true]) w:=by kernel_rfl
def nw(x w):(Instr.typeAssert (.iface 236 x) 157 244 true).run prog w=.ok (.tuple #[.agg #[au 0,.nilIface,.nilIface],.bool false]) w:=by kernel_rfl
def qE(x w):(Instr.typeAssert (.iface 236 x) 157 245 true).run prog w=.ok (.tuple #[.agg #[au 0,.nilIface,.nilIface],.bool false]) w:=by kernel_rfl
def mg(x w):(Instr.typeAssert (.iface 236 x) 157 246 true).run prog w=.ok (.tuple #[.agg #[au 0,.nilIface,.nilIface],.bool false]) w:=by kernel_rfl
def hN(x w):(Instr.typeAssert (.iface 238 x) 157 236 true).run prog w=.ok (.tuple #[.agg #[au 0,aA none 0 0],.bool false]) w:=by kernel_rfl
def mh(x w):(Instr.typeAssert (.iface 238 x) 157 238 true).run prog w=.ok (.tuple #[x,.bool true]) w:=by kernel_rfl
def o9(x w):(Instr.typeAssert (.iface 238 x) 157 244 true).run prog w=.ok (.tuple #[.agg #[au 0,.nilIface,.nilIface],.bool false]) w:=by kernel_rfl
def tJ(x w):(Instr.typeAssert (.iface 238 x) 157 245 true).run prog w=.ok (.tuple #[.agg #[au 0,.nilIface,.nilIface],.bool false]) w:=by kernel_rfl
def nx(x w):(Instr.typeAssert (.iface 238 x) 157 246 true).run prog w=.ok (.tuple #[.agg #[au 0,.nilIface,.nilIface],.bool false]) w:=by kernel_rfl
def hO(x w):(Instr.typeAssert (.iface 240 x) 157 236 true).run prog w=.ok (.tuple #[.agg #[au 0,aA none 0 0],.bool false]) w:=by kernel_rfl
def mi(x w):(Instr.typeAssert (.iface 240 x) 157 238 true).run prog w=.ok (.tuple #[.agg #[au 0,an ⟨#[]⟩],.bool false]) w:=by kernel_rfl
def mj(x w):(Instr.typeAssert (.iface 240 x) 157 240 true).run prog w=.ok (.tuple #[x,.bool true]) w:=by kernel_rfl
def pd(x w):(Instr.typeAssert (.iface 240 x) 157 244 true).run prog w=.ok (.tuple #[.agg #[au 0,.nilIface,.nilIface],.bool false]) w:=by kernel_rfl
def tK(x w):(Instr.typeAssert (.iface 240 x) 157 245 true).run prog w=.ok (.tuple #[.agg #[au 0,.nilIface,.nilIface],.bool false]) w:=by kernel_rfl
def ny(x w):(Instr.typeAssert (.iface 240 x) 157 246 true).run prog w=.ok (.tuple #[.agg #[au 0,.nilIface,.nilIface],.bool false]) w:=by kernel_rfl
def eW(x w):(Instr.typeAssert (.iface 244 x) 157 236 true).run prog w=.ok (.tuple #[.agg #[au 0,aA none 0 0],.bool false]) w:=by kernel_rfl
def jd(x w):(Instr.typeAssert (.iface 244 x) 157 238 true).run prog w=.ok (.tuple #[.agg #[au 0,an ⟨#[]⟩],.bool false]) w:=by kernel_rfl
def je(x w):(Instr.typeAssert (.iface 244 x) 157 240 true).run prog w=.ok (.tuple #[.agg #[au 0,au 0,an ⟨#[]⟩,au 0,an ⟨#[]⟩],.bool false]) w:=by kernel_rfl
def gB(x w):(Instr.typeAssert (.iface 244 x) 157 244 true).run prog w=.ok (.tuple #[x,.bool true]) w:=by kernel_rfl
def vq(x w):(Instr.typeAssert (.iface 244 x) 157 246 true).run prog w=.ok (.tuple #[.agg #[au 0,.nilIface,.nilIface],.bool false]) w:=by kernel_rfl
def gC(x w):(Instr.typeAssert (.iface 245 x) 157 236 true).run prog w=.ok (.tuple #[.agg #[au 0,aA none 0 0],.bool false]) w:=by kernel_rfl
def kM(x w):(Instr.typeAssert (.iface 245 x) 157 238 true).run prog w=.ok (.tuple #[.agg #[au 0,an ⟨#[]⟩],.bool false]) w:=by kernel_rfl
def kN(x w):(Instr.typeAssert (.iface 245 x) 157 240 true).run prog w=.ok (.tuple #[.agg #[au 0,au 0,an ⟨#[]⟩,au 0,an ⟨#[]⟩],.bool false]) w:=by kernel_rfl
def ig(x w):(Instr.typeAssert (.iface 245 x) 157 244 true).run prog w=.ok (.tuple #[.agg #[au 0,.nilIface,.nilIface],.bool false]) w:=by kernel_rfl
def jU(x w):(Instr.typeAssert (.iface 245 x) 157 245 true).run prog w=.ok (.tuple #[x,.bool true]) w:=by kernel_rfl
def qF(x w):(Instr.typeAssert (.iface 245 x) 157 246 true).run prog w=.ok (.tuple #[.agg #[au 0,.nilIface,.nilIface],.bool false]) w:=by kernel_rfl
def ii(x w):(Instr.typeAssert (.iface 246 x) 157 236 true).run prog w=.ok (.tuple #[.agg #[au 0,aA none 0 0],.bool false]) w:=by kernel_rfl
def kO(x w):(Instr.typeAssert (.iface 246 x) 157 238 true).run prog w=.ok (.tuple #[.agg #[au 0,an ⟨#[]⟩],.bool false]) w:=by kernel_rfl
def kP(x w):(Instr.typeAssert (.iface 246 x) 157 240 true).run prog w=.ok (.tuple #[.agg #[au 0,au 0,an ⟨#[]⟩,au 0,an ⟨#[]⟩],.bool false]) w:=by kernel_rfl
def ij(x w):(Instr.typeAssert (.iface 246 x) 157 244 true).run prog w=.ok (.tuple #[.agg #[au 0,.nilIface,.nilIface],.bool false]) w:=by kernel_rfl
def jV(x w):(Instr.typeAssert (.iface 246 x) 157 245 true).run prog w=.ok (.tuple #[.agg #[au 0,.nilIface,.nilIface],.bool false]) w:=by kernel_rfl
def ik(x w):(Instr.typeAssert (.iface 246 x) 157 246 true).run prog w=.ok (.tuple #[x,.bool true]) w:=by kernel_rfl
def aaI (h:aD:=by
 first|exact aL.alloc (aL.new _ _ _) _|exact aL.new _ _ _):aD:=h
def sd0:Array ag:=#[au 0,.nilIface,.nilIface]
def LM(T:TypeId)(p:Nat)(A:TypeId)(D:ag)(C:TypeId)(I:ag)(w:af)(Q:T=244\/T=245\/T=246):
  Calls prog 212 #[.iface T (.agg #[au p,.iface A D,.iface C I])] w fun e w'=>e=bi (.tuple #[.agg #[au p,.iface A D,.iface C I],.bool true])/\am w w':=by
 have J:=az w.heap.size w;have f0:=gB;have f1:=ig;have f2:=jU;have f3:=ij;have f4:=jV;have f5:=ik
 rcases Q with rfl|rfl|rfl
 all_goals
  go_enter func212,ntmps212;go_wp2;refine bE (v:=.tuple #[.agg #[au p,.iface A D,.iface C I],.bool true]) (ce results212 _ _ w.heap.size _ 242 _ _ rfl rfl ?_ underlying242 rfl aM) rfl ?_
  ·exact ⟨_,aaI,bQ⟩
  ·exact ⟨rfl,(cq J)⟩
def LN(T:TypeId)(x:ag)(w:af)(C:T=236\/T=238\/T=240):
  Calls prog 212 #[.iface T x] w fun e w'=>e=bi (.tuple #[.agg sd0,.bool false])/\am w w':=by
 have A:=az w.heap.size w;have f0:=nw;have f1:=qE;have f2:=mg;have f3:=o9;have f4:=tJ;have f5:=nx;have f6:=pd;have f7:=tK;have f8:=ny
 rcases C with rfl|rfl|rfl
 all_goals
  go_enter func212,ntmps212;go_wp2;refine bE (v:=.tuple #[.agg sd0,.bool false]) (ce results212 _ _ w.heap.size _ 242 _ _ rfl rfl ?_ underlying242 rfl aM) rfl ?_
  ·exact ⟨_,aaI,bQ⟩
  ·exact ⟨rfl,(cq A)⟩
section
abbrev aU:=@List.mem_map
abbrev aX:=@List.mem_singleton
def aF:Ex->List Ex
 |⟨n,some x,some y⟩=>aF x++[⟨n,some x,some y⟩]++aF y
 |⟨n,none,r⟩=>[⟨n,none,r⟩]
 |⟨_,some _,none⟩=>[]
def GC:∀(e:Ex)(v:ag),bA b w e v->0<(aF e).length
 |⟨n,some x,some y⟩,v,h=>by simp [aF];omega
 |⟨n,none,r⟩,v,h=>by simp [aF]
 |⟨_,some _,none⟩,v,h=>h.elim
def Xm(base b:Nat)(w:af)(sv:ag)(h:List Ex):Prop:=
 ∃l:List (Ex×ag),l.map Prod.fst=h/\(∀p∈l,bA b w p.1 p.2)/\w.ownsRow base 157 1 sv h.length (l.map Prod.snd)
def Tryz.info157:(Tryz.prog.info? 157).map (fun i=>(i.zero,i.size,i.bytes))=some (some .nilIface,1,16):=by kernel_rfl
def GD(e:Ex):Prop:=∀(b:Nat)(v:ag)(w:af),b<w.heap.size->bA b w e v->(aF e).length<=1000->
 Calls prog 156 #[v] w fun e' w'=>∃sv,e'=bi sv/\am w w'/\Xm w.heap.size b w' sv (aF e)
variable {base:Nat}
def Dx(h:w.ownsRow base e 1 v n xs)(D:0<n):
  ∃g c,v=aA (some (aP g)) n c/\xs.length=n*1/\∀j u,xs[j]? =some u->w.cell? ((⟨g,0,none⟩:Addr).add j)=some u:=by
 obtain ⟨g,c,hv,_⟩:=h.form D;refine ⟨g,c,hv,h.1,fun j u I=> ?_⟩;obtain ⟨g',J,A,hc⟩:=aY h j u I;rw [hv] at A;simp only [aK,aR,cg] at A;obtain ⟨⟨rfl,_⟩,_⟩:=A;have C:(⟨g,0,none⟩:Addr).add j=⟨g,j,none⟩:=by unfold Addr.add;split<;>simp_all
 rw [C];exact hc
def rZ(T:TypeId)(x:ag)(w:af)(C:T=236\/T=238\/T=240):
  Calls prog 156 #[.iface T x] w fun e' w'=>∃sv,e'=bi sv/\am w w'/\w'.ownsRow w.heap.size 157 1 sv 1 [.iface T x]:=by
 go_enter func156,ntmps156;go_wp2_with fail;refine (LN T x w C).mono ?_;rintro e w1 ⟨rfl,A⟩;have sz:=A.size;unfold sd0;go_wp2;go_ret;refine ⟨_,rfl,(cq A),rfl,.inr ⟨w1.heap.size+1,1,#[.iface T x],rfl,ai,?_,ai,by unfold maxLen;omega,rfl,rfl⟩⟩;exact aL.new' (w1.alloc _) _ _ _ ar
def r7(T:TypeId)(a4:T=244\/T=245\/T=246)(p:Nat)(x y:Ex)(bb:GD x)(bc:GD y)(b:Nat)(aw az:ag)(w:af)(bz:b<w.heap.size)(aQ:bA b w x aw)(av:bA b w y az)(bD:(aF x).length+1+(aF y).length<=1000):
  Calls prog 156 #[.iface T (.agg #[au p,aw,az])] w fun e' w'=>∃sv,e'=bi sv/\am w w'/\
   ∃lx D:List (Ex×ag),lx.map Prod.fst=aF x/\D.map Prod.fst=aF y/\(∀p∈lx,bA b w' p.1 p.2)/\(∀p∈D,bA b w' p.1 p.2)/\
    w'.ownsRow w.heap.size 157 1 sv ((aF x).length+1+(aF y).length) (lx.map Prod.snd++[.iface T (.agg #[au p,aw,az])]++D.map Prod.snd):=by
 obtain ⟨i0,hi,bf,bg,bh⟩:=eN Tryz.info157;have aO:=GC _ _ av;obtain ⟨ta,J,rfl⟩:=aQ.isI;obtain ⟨I,Q,rfl⟩:=av.isI;go_enter func156,ntmps156;go_wp2_with fail;refine (LM T p ta J I Q w a4).mono ?_;rintro e w1 ⟨rfl,Z⟩;have b1:am w (w1.alloc (.cells #[au p,.iface ta J,.iface I Q] 242)):=Z.alloc Z.size _;have aY:=aL.new w1 #[au p,.iface ta J,.iface I Q] 242;have aZ:=av.but (But.of_below b1);have bH:=Z.size;clear Z;go_wp2_with fail;refine (bb b _ _ aS (aQ.but (But.of_below b1)) ai).mono ?_;rintro e U ⟨bF,rfl,ab,lx,bj,bl,aK⟩;have aC:=b1.trans (ab.mono b1.size);have ak:=aY.below ab;obtain ⟨bs,bt,bu⟩:=ak.three;have bE:=ak.lt;have a0:=aZ.but (But.of_below ab);have aI:=bk aK (show w.heap.size<=_ by simp;omega);clear ab aK;go_wp2_with (at_builtin;go_must (refine eB rfl underlying301 Tryz.info157 w.heap.size (aI.alloc _) U.heap.size 1 [.iface T (.agg #[au p,.iface ta J,.iface I Q])] (U.heap.size+1) ?hrest))
 case hrest=>
  intro bx bw aB a8 ad a5 bB;have V:=aI.alloc (.cells #[.iface T (.agg #[au p,.iface ta J,.iface I Q])] 157);have R:am U (U.alloc (.cells #[.iface T (.agg #[au p,.iface ta J,.iface I Q])] 157)):=bo.alloc aH _;have al:o8 b U aB:=fun g cs f a7 A=>(ad.block g (cM (lt_of_some A) R.size) (dV V ((R.block g (lt_of_some A)).trans A) ax)).trans (R.block g (lt_of_some A))
  have ah:=cA (aC.trans (R.mono aC.size)) ad aS (fun k ar=>(V.lt k ar).1);have Y:=ak.below R;have aG:=show aL aB w1.heap.size #[au p,.iface ta J,.iface I Q] 242 from ((ad.block _ Y.lt (own_ne V Y ax)).trans Y)
  obtain ⟨t0,t1,t2⟩:=aG.three;have tl:=aG.lt;have a1:=bA.frame al _ _ a0;have aT:=show ∀p∈lx,bA b aB p.1 p.2 from fun p C=>bA.frame al _ _ (bl p C)
  have bI:=ah.size;clear V R al Y ad a5 bs bt bu;go_wp2_with fail;refine (bc b _ _ ai a1 ai).mono ?_;rintro e ae ⟨bG,rfl,ac,D,bn,aM,aN⟩;obtain ⟨a3,a2,rfl,bp,br⟩:=Dx aN aO;have aE:=ah.trans (ac.mono ah.size);have aV:=show ∀p∈lx,bA b ae p.1 p.2 from fun p C=>(aT p C).but (But.of_below ac)
  have aj:=ay (w':=ae) a8 (fun g cs f _ A=>ac.block g (lt_of_some A));have bv:=aE.size;clear ac aN;go_wp2_with (at_builtin;go_must (refine l9 _ rfl _ _ 301 rfl w.heap.size 157 i0 _ 1 16 underlying301 hi bf bg bh rfl ax _ _ _ rfl aj ⟨a3,0,none⟩ (aF y).length a2 (D.map Prod.snd) rfl bp br ?hone aO ?h63 ?hbytes ?hbase ae.heap.size rfl ?hrest))
  case hone=>
   intro u aJ;rw [aU] at aJ;obtain ⟨q,ba,rfl⟩:=aJ;obtain ⟨t,z,e⟩:=(aM q ba).isI;rw [e];rfl
  case h63=>unfold maxLen;omega
  case hbytes=>omega
  case hbase=>omega
  case hrest=>
   intro g5 be w5 a9 ap a6 bC;have an:o8 b ae w5:=fun g cs f a7 A=>ap.block g (lt_of_some A) (dV aj A ax)
   have aR:=cA aE ap bv (fun k ar=>(aj.lt k ar).1);have aW:=show ∀p∈lx,bA b w5 p.1 p.2 from fun p C=>bA.frame an _ _ (aV p C)
   have aX:=show ∀p∈D,bA b w5 p.1 p.2 from fun p C=>bA.frame an _ _ (aM p C)
   clear an ap a6;go_wp2;go_ret;exact ⟨aA (some (aP g5)) ((aF x).length+1+(aF y).length) be,rfl,aR,lx,D,bj,bn,aW,aX,by rw [List.append_assoc];exact a9⟩
def oA(e):GD e:=by
 induction e using Ex.ind with
 |h0 n r=>
  intro b v w I h hn;have key:∀{v:ag},(Calls prog 156 #[v] w fun e' w'=>∃sv,e'=bi sv/\am w w'/\w'.ownsRow w.heap.size 157 1 sv 1 [v])->bA b w ⟨n,none,r⟩ v->Calls prog 156 #[v] w fun e' w'=>∃sv,e'=bi sv/\am w w'/\Xm w.heap.size b w' sv (aF ⟨n,none,r⟩):=by
   intro v hc ae;refine hc.mono ?_;rintro e' w' ⟨sv,h1,h2,Q⟩;exact ⟨sv,h1,h2,[(⟨n,none,r⟩,v)],rfl,fun p A=>by simp at A;subst A;exact ae.but (But.of_below h2),Q⟩
  have V:=h
  rcases h with ⟨h1,sv,rfl,Q⟩|⟨h1,rfl⟩|⟨h1,rfl⟩
  ·exact key (rZ _ _ w (.inl rfl)) V
  ·exact key (rZ _ _ w (.inr (.inl rfl))) V
  exact key (rZ _ _ w (.inr (.inr rfl))) V
 |h1 n a=>intro b v w I h hn;exact h.elim
 |h2 n x y hx hy=>
  intro b v w I h hn;obtain ⟨C,D,rfl,R,U⟩:=h;have Y:(aF x).length+1+(aF y).length<=1000:=by simp [aF] at hn;omega
  have key:(Calls prog 156 #[.iface (fi n.kind) (.agg #[au n.place,C,D])] w fun e' w'=>∃sv,e'=bi sv/\am w w'/\
   ∃lx J:List (Ex×ag),lx.map Prod.fst=aF x/\J.map Prod.fst=aF y/\(∀p∈lx,bA b w' p.1 p.2)/\(∀p∈J,bA b w' p.1 p.2)/\
    w'.ownsRow w.heap.size 157 1 sv ((aF x).length+1+(aF y).length) (lx.map Prod.snd++[.iface (fi n.kind) (.agg #[au n.place,C,D])]++J.map Prod.snd)):=by
   unfold fi
   split
   ·exact r7 _ (.inl rfl) _ x y hx hy b C D w I R U Y
   ·split
    ·exact r7 _ (.inr (.inl rfl)) _ x y hx hy b C D w I R U Y
    exact r7 _ (.inr (.inr rfl)) _ x y hx hy b C D w I R U Y
  refine key.mono ?_;rintro e' w' ⟨sv,h1,h2,lx,J,Q,Z,ab,ac,ad⟩;refine ⟨sv,h1,h2,lx++[(⟨n,some x,some y⟩,.iface (fi n.kind) (.agg #[au n.place,C,D]))]++J,?_,?_,?_⟩
  ·simp [aF,Q,Z]
  ·intro p A;simp only [aW,aX] at A
   rcases A with (A|rfl)|A
   ·exact ab p A
   ·exact ⟨C,D,rfl,R.but (But.of_below h2),U.but (But.of_below h2)⟩
   exact ac p A
  have e1:(aF ⟨n,some x,some y⟩).length=(aF x).length+1+(aF y).length:=by simp [aF];omega
  rw [e1]
  simpa using ad
end
section
abbrev pL:=@List.take_append_drop
abbrev bZ:=@List.mem_flatMap
abbrev bF:=@List.mem_of_getElem?
abbrev nz(a0:Int)(a1:Option Addr)(a2:Nat)(a3:Nat):Obj:=.cells #[au a0,aA a1 a2 a3] 236
def zc17q (h:aD:=by
 simp [aI hkl]):aD:=h
def Xn (h:aD:=by
 have he':eO ⟨nq,none,rq⟩=[]:=by simp [eO,YD]
 subst hv;clear YD;go_wp2;go_roundw
 ·exact OE
 simp [intOf];omega):aD:=h
def OG (h:aD:=by
 rcases fD k (aF e).length with h|h
 ·exact h
 rw [jD h] at hk;cases hk):aD:=h
def OH (h:aD:=by
 unfold fi;exact OI):aD:=h
def OE (h:aD:=by
 exact ⟨k+1,aA sa (GK e k).length sc,ai,by go_num,rfl,hbr,by rw [Vf he' hk'];exact ho⟩):aD:=h
def OI (h:aD:=by
 split
 ·exact .inl rfl
 split
 ·exact .inr (.inl rfl)
 exact .inr (.inr rfl)):aD:=h
def GF(q:bq) (h:cj bq->aD:=by
 intro zq;have hkl:k<l.length:=by omega
 obtain ⟨g1,c1,e1,kc⟩:=aY (ay (w':=wr) L3 (fun g cs f _ hh=>hbr.block g (lt_of_some hh))) k l[k].2 zc17q
 revert hkl g1 c1 e1 kc
 exact zq.1):aD:=h ⟨q⟩
variable {base:Nat}
def oB(h:w.ownsRow base e size v n xs)(D:0<n):
  ∃g c,v=aA (some (aP g)) n c/\xs.length=n*size/\∀j u,xs[j]? =some u->w.cell? ((⟨g,0,none⟩:Addr).add j)=some u:=by
 obtain ⟨g,c,hv,_⟩:=h.form D;refine ⟨g,c,hv,h.1,fun j u I=> ?_⟩;obtain ⟨g',J,A,hc⟩:=aY h j u I;rw [hv] at A;simp only [aK,aR,cg] at A;obtain ⟨⟨rfl,_⟩,_⟩:=A;have C:(⟨g,0,none⟩:Addr).add j=⟨g,j,none⟩:=by unfold Addr.add;split<;>simp_all
 rw [C];exact hc
def eO(e:Ex):List Gr:=match e.l with
 |none=>if e.nd.kind=0 then e.nd.gs else []
 |some _=>[]
def WF(e:Ex):Prop:=∀p∈aF e,p.l=none->p.nd.kind=0->p.nd.gs≠ []
def bS(e:Ex):List Gr:=(aF e).flatMap eO
def GK(e:Ex)(k:Nat):List Gr:=((aF e).take k).flatMap eO
def A2{e p gs}(h:eO p=gs)(hk:(aF e)[k]? =some p):GK e (k+1)=GK e k++gs:=by
 unfold GK;have A:k<(aF e).length:=by
  exact OG
 rw [cD A,cN];rw [aI A] at hk;simp only [aR] at hk;simp [hk,h]
def Vf{e p}(h:eO p=[])(A:(aF e)[k]? =some p):GK e (k+1)=GK e k:=by
 rw [A2 h A];simp
def gk_le(e k):(GK e k).length<=(bS e).length:=by
 unfold GK bS
 conv=>rhs;rw [<-pL k (aF e),cN,List.length_append]
 omega
def YE(l):∀u∈cz l,u.oneCell'=true:=by
 intro u h;unfold cz at h;rw [bZ] at h;obtain ⟨g,_,h⟩:=h;exact YC g u h
def vr(a c):cz (a++c)=cz a++cz c:=by simp [cz]
def pM(ac:Nat)(n0)(b:Nat)(e v w)(a5:b<w.heap.size)(h:bA b w e v)(aJ:(aF e).length<=1000)(a6:(bS e).length<=1000)(aM:WF e):
  Calls prog 106 #[.agg #[au ac,an n0,v]] w fun e' w'=>∃sv,e'=bi sv/\am w w'/\w'.ownsRow w.heap.size 207 5 sv (bS e).length (cz (bS e)):=by
 obtain ⟨i0,hi,aN,aO,aQ⟩:=eN Tryz.info207;obtain ⟨tv,aZ,rfl⟩:=h.isI;have ah:=aM;go_enter func106,ntmps106;go_wp2_with fail;refine (oA e b _ _ aS (h.but ((But.refl b w).alloc _)) aJ).mono ?_;rintro e1 Q ⟨bc,rfl,aB,l,l1,l2,ab⟩;obtain ⟨ba,oc,rfl⟩:=aw ab;have a9:l.length=(aF e).length:=by rw [<-l1];simp
 have R:=((az _ w).alloc aH (cC ac n0 tv aZ)).trans (aB.mono ar);have aj:=l1;have ak:=l2;have L3:=ab;have ad:=R.size;have f0:=ie;have f1:=hN;have f2:=hO;have f3:=eW;have f4:=gC;have f5:=ii;go_wp2_with fail
 go_loopw [3,11] (fun aW aV wr=>∃(k:Nat)(sv:ag),k<=(aF e).length/\aV=au k/\aW=sv/\am Q wr/\wr.ownsRow Q.heap.size 207 5 sv (GK e k).length (cz (GK e k))) (fun _ u _=>(aF e).length-(intOf u).toNat)
 ·exact ⟨0,_,ai,rfl,rfl,az _ _,bP⟩
 ·obtain ⟨k,sv,Z,rfl,rfl,hbr,ho⟩:=hrel;obtain ⟨sa,sc,rfl⟩:=aw ho
  by_cases a8:k<(aF e).length
  ·refine GF ?_;intro hkl g1 c1 e1 kc;simp only [aK] at e1;obtain ⟨rfl,_,rfl⟩:=e1;have C:=(ak l[k] (br hkl)).but (b:=b) (But.of_below hbr);have hk':(aF e)[k]? =some l[k].1:=by rw [<-aj];simp [aI hkl]
   generalize l[k]=q at*;obtain ⟨aU,bb⟩:=q;simp only at kc C hk';have aC:(k:Int)<((aF e).length:Int):=ai
   match aU,C,hk' with
   |⟨nq,some xq,some yq⟩,⟨vx,vy,hv,rx,ry⟩,hk'=>
    have he':eO ⟨nq,some xq,some yq⟩=[]:=rfl;subst hv;have D:fi nq.kind=244\/fi nq.kind=245\/fi nq.kind=246:=by
     exact OH
    rcases D with D|D|D
    all_goals
     rw [D] at kc;go_wp2;go_roundw
     ·exact OE
     ·simp [intOf];omega
   |⟨nq,none,rq⟩,C,hk'=>
    rcases C with ⟨YD,gv,hv,J⟩|⟨YD,hv⟩|⟨YD,hv⟩
    ·have he':eO ⟨nq,none,rq⟩=nq.gs:=by simp [eO,YD]
     have I:0<nq.gs.length:=l5.2 (ah _ (bF hk') rfl YD);have aE:=gk_le e (k+1);rw [A2 he' hk',List.length_append] at aE;obtain ⟨A,gc,rfl,nl,aT⟩:=oB J I;subst hv;have al:A<wr.heap.size:=by
      obtain ⟨g',a4,e1,h1⟩:=J.form I;simp only [aK,aR,cg] at e1;obtain ⟨⟨rfl,_⟩,_⟩:=e1;exact h1.2
     have aX:=hbr.size;clear J YD;go_wp2_with (at_builtin;go_must (refine l9 _ rfl _ _ 211 rfl Q.heap.size 207 i0 _ 5 56 underlying211 hi aN aO aQ rfl ax _ _ _ rfl (ho.alloc _) ⟨A,0,none⟩ nq.gs.length gc (cz nq.gs) rfl nl ?hnews (YE _) I ?h63 ?hbytes ?hbase (wr.heap.size+1) ?hH ?hrest))
     case hnews=>
      intro j u aL;have ap:(⟨A,0,none⟩:Addr).add j=⟨A,j,none⟩:=by unfold Addr.add;split<;>simp_all
      have:=aT j u aL;rw [ap] at this ⊢;rw [Below.cell ((az wr.heap.size wr).alloc aH _) al];exact this
     case h63=>unfold maxLen;omega
     case hbytes=>omega
     case hbase=>simp;omega
     case hH=>simp
     case hrest=>
      intro g5 be w5 aG Y av a7;have U:=ho.alloc (nz nq.place (some (aP A)) nq.gs.length gc);have ae:=cA (hbr.alloc aX (nz nq.place (some (aP A)) nq.gs.length gc)) Y aS (fun k Z=>(U.lt k Z).1);clear Y av U;go_wp2;go_roundw
      ·exact ⟨k+1,aA (some (aP g5)) ((GK e k).length+nq.gs.length) be,ai,by go_num,rfl,ae,by rw [A2 he' hk',List.length_append,vr];exact aG⟩
      simp [intOf];omega
    ·exact Xn
    exact Xn
   |⟨nq,some xq,none⟩,C,hk'=>exact C.elim
  have V:GK e k=bS e:=by
   unfold GK bS;rw [cX ai]
  have af:Hid (wr.ownsRow w.heap.size 207 5 (aA sa (GK e k).length sc) (bS e).length (cz (bS e))):=by
   have:=bk ho ad;rw [V] at this ⊢;exact this
  clear V;have aC:¬((k:Int)<((aF e).length:Int)):=ai;go_wp2;go_ret;exact ⟨aA sa (GK e k).length sc,rfl,R.trans (hbr.mono ad),af⟩
end
section
abbrev gJ:=@List.findSome?_cons
abbrev gX:=@bne_iff_ne
abbrev gK(a0:Int)(a1:ae)(a2:Int)(a3:Int)(a4:ae):Obj:=.cells #[au a0,an a1,au a2,au a3,an a4] 207
def OJ (h:aD:=by
 go_wp2_with (go_at_call 73;refine (kf _ 5 _).mono ?_;rintro e A ⟨rfl,rfl⟩);exact Gy):aD:=h
def t3(p:Ty×ag):E3:=(p.1.place,p.1.name,p.2)
def r3(p:Rl×ag):E3:=(p.1.place,p.1.name,p.2)
def bW(ts:List Ty)(x:ae):Option Ty:=ts.find? fun t=>eqs t.name x
def b8(t:Ty)(x:ae):Option Rl:=t.rels.find? fun r=>eqs r.name x
def c3_t3(l:List (Ty×ag)):(l.map t3).flatMap c3=l.flatMap AZ:=by rw [List.flatMap_map];rfl
def c3_r3(l:List (Rl×ag)):(l.map r3).flatMap c3=l.flatMap AY:=by rw [List.flatMap_map];rfl
def vs(x:ae)(l:List (Ty×ag)):hK x (l.map t3)=(l.find? fun p=>eqs p.1.name x).map t3:=by
 unfold hK;rw [List.find?_map];rfl
def vt(x:ae)(l:List (Rl×ag)):hK x (l.map r3)=(l.find? fun p=>eqs p.1.name x).map r3:=by
 unfold hK;rw [List.find?_map];rfl
def pN(x:ae)(l:List (Ty×ag)):bW (l.map Prod.fst) x=(l.find? fun p=>eqs p.1.name x).map Prod.fst:=by
 unfold bW;rw [List.find?_map];rfl
structure RC(b:Nat)(w:af)(sv:ag)(rs:List Rl)(rl:List (Rl×ag)):Prop where
 fst:rl.map Prod.fst=rs
 row:ib w 159 sv (rl.map r3)
 ex:∀p∈rl,bA b w p.1.body p.2
 len:rs.length<=1000
 okp:∀r∈rs,(aF r.body).length<=1000
 okg:∀r∈rs,(bS r.body).length<=1000
 wf:∀r∈rs,WF r.body
structure MC(b:Nat)(w:af)(sv:ag)(ts:List Ty)(tl:List (Ty×ag)):Prop where
 fst:tl.map Prod.fst=ts
 row:ib w 110 sv (tl.map t3)
 rels:∀p∈tl,∃rl,RC b w p.2 p.1.rels rl
 len:ts.length<=1000
 blt:b<w.heap.size
def RC.below{rl}(h:RC b w sv rs rl)(k:am w w'):RC b w' sv rs rl:=
 ⟨h.fst,h.row.below k,fun p A=>(h.ex p A).but (But.of_below k),h.len,h.okp,h.okg,h.wf⟩
def MC.below{tl}(h:MC b w sv ts tl)(k:am w w'):MC b w' sv ts tl:=
 ⟨h.fst,h.row.below k,fun p A=>by obtain ⟨rl,C⟩:=h.rels p A;exact ⟨rl,C.below k⟩,h.len,cM h.blt k.size⟩
def RC.form{rl}(h:RC b w sv rs rl):∃a n c,sv=aA a n c:=by
 obtain ⟨a,c,e⟩:=aw h.row;exact ⟨a,_,c,e⟩
def MC.form{tl}(h:MC b w sv ts tl):∃a n c,sv=aA a n c:=by
 obtain ⟨a,c,e⟩:=aw h.row;exact ⟨a,_,c,e⟩
def RC.llen{rl}(h:RC b w sv rs rl):(rl.map r3).length<=1000:=by
 have:=h.len;rw [<-h.fst] at this;simpa using this
def MC.llen{tl}(h:MC b w sv ts tl):(tl.map t3).length<=1000:=by
 have:=h.len;rw [<-h.fst] at this;simpa using this
def qG(b sv ts tl x w)(h:MC b w sv ts tl)(A:bW ts x=none):
  Calls prog 57 #[.agg #[sv],an x] w fun e w'=>e=bi (.tuple #[.agg #[au 0,an ⟨#[]⟩,aA none 0 0],cm 5])/\am w w':=by
 refine y9 sv (tl.map t3) x w h.llen h.row ?_;rw [<-h.fst,pN] at A;rw [vs]
 cases C:tl.find? (fun p=>eqs p.1.name x) with
 |none=>rfl
 |some y=>rw [C] at A;cases A
def r8(b sv ts tl x w)(h:MC b w sv ts tl)(t)(A:bW ts x=some t):
  ∃I Q J rl,RC b w (aA I Q J) t.rels rl/\Calls prog 57 #[.agg #[sv],an x] w fun e w'=>e=bi (.tuple #[.agg #[au t.place,an t.name,aA I Q J],.nilIface])/\am w w':=by
 rw [<-h.fst,pN] at A
 cases C:tl.find? (fun p=>eqs p.1.name x) with
 |none=>rw [C] at A;cases A
 |some y=>
  rw [C] at A;simp only [Option.map_some,aR] at A;subst A;obtain ⟨rl,D⟩:=h.rels y (gI C);obtain ⟨a,n,c,e⟩:=D.form;rw [e] at D;refine ⟨a,n,c,rl,D,?_⟩;have:=pJ sv (tl.map t3) x w h.llen h.row (t3 y) (by rw [vs,C];rfl) ⟨a,n,c,e⟩;have R:(t3 y).2.2=aA a n c:=e;rw [R] at this;exact this
def kh(b C:Nat)(nn sv t rl x w)(h:RC b w sv t.rels rl)(A:b8 t x=none):
  Calls prog 145 #[.agg #[au C,an nn,sv],an x] w fun e w'=>e=bi (.tuple #[.agg #[au 0,an ⟨#[]⟩,.nilIface],cm 5])/\am w w':=by
 refine za C nn sv (rl.map r3) x w h.llen h.row ?_;unfold b8 at A;rw [<-h.fst,List.find?_map] at A;rw [vt]
 cases D:rl.find? (fun p=>eqs p.1.name x) with
 |none=>rfl
 |some y=>rw [show ((fun r:Rl=>eqs r.name x) ∘ Prod.fst)=(fun p:Rl×ag=>eqs p.1.name x) from rfl,D] at A;cases A
def lD(b J:Nat)(nn sv t rl x w)(h:RC b w sv t.rels rl)(r)(A:b8 t x=some r):
  ∃ta C,bA b w r.body (.iface ta C)/\r∈t.rels/\Calls prog 145 #[.agg #[au J,an nn,sv],an x] w fun e w'=>e=bi (.tuple #[.agg #[au r.place,an r.name,.iface ta C],.nilIface])/\am w w':=by
 have R:r∈t.rels:=gI A;unfold b8 at A;rw [<-h.fst,List.find?_map,show ((fun r:Rl=>eqs r.name x) ∘ Prod.fst)=(fun p:Rl×ag=>eqs p.1.name x) from rfl] at A
 cases D:rl.find? (fun p=>eqs p.1.name x) with
 |none=>rw [D] at A;cases A
 |some y=>
  rw [D] at A;simp only [Option.map_some,aR] at A;subst A;have I:=h.ex y (gI D);obtain ⟨ta,C,e⟩:=I.isI;rw [e] at I;refine ⟨ta,C,I,R,?_⟩;have:=pK J nn sv (rl.map r3) x w h.llen h.row (r3 y) (by rw [vt,D];rfl) ⟨ta,C,e⟩;have Q:(r3 y).2.2=.iface ta C:=e;rw [Q] at this;exact this
def OK(g):∀(l:List Gr)(i:Nat),l[i]? =some g->(cz l)[i*5]? =some (au g.tp)/\(cz l)[i*5+1]? =some (an g.ty)/\(cz l)[i*5+2]? =some (au g.reach)/\(cz l)[i*5+3]? =some (au g.rp)/\(cz l)[i*5+4]? =some (an g.rel)
 | [],i,h=>by simp at h
 |e'::l,0,h=>by simp at h;subst h;simp [cz,dj]
 |e'::l,i+1,h=>by
  have:=OK g l i nv;rw [show cz (e'::l)=(dj e').toList++cz l from rfl,show (i+1)*5=i*5+5 by omega]
  simpa [dj] using this
variable {base:Nat}
def Vg.cell{l}(h:w.ownsRow base 207 5 v l.length (cz l))(i g)(hi:l[i]? =some g):
  ∃q c,v=aA (some (aP q)) l.length c/\w.cell? (aC q (i*5))=some (au g.tp)/\w.cell? (aC q (i*5+1))=some (an g.ty)/\w.cell? (aC q (i*5+2))=some (au g.reach)/\w.cell? (aC q (i*5+3))=some (au g.rp)/\w.cell? (aC q (i*5+4))=some (an g.rel):=by
 obtain ⟨h0,h1,h2,C,D⟩:=OK g l i hi;obtain ⟨q,c,rfl,e0⟩:=aY h _ _ h0;have A:∀k u,(cz l)[k]? =some u->w.cell? (aC q k)=some u:=fun k u I=>by
  obtain ⟨Q,J,e',e1⟩:=aY h k u I;simp only [aK,aR,cg] at e';obtain ⟨⟨rfl,_⟩,_⟩:=e';exact e1
 exact ⟨q,c,rfl,e0,A _ _ h1,A _ _ h2,A _ _ C,A _ _ D⟩
def ml(ts:List Ty)(g:Gr):Option Nat:=match bW ts g.ty with
 |none=>some g.tp
 |some t=>if g.reach=2 then (match b8 t g.rel with
   |none=>some g.rp
   |some _=>none) else none
def pe(ts:List Ty)(gs:List Gr):Option Nat:=gs.findSome? (ml ts)
def GG(ts:List Ty)(gs:List Gr)(k:Nat)(h:k<gs.length):pe ts (gs.drop k)=match ml ts gs[k] with
  |some p=>some p
  |none=>pe ts (gs.drop (k+1)):=by
 unfold pe;rw [c8 h,gJ]
 cases ml ts gs[k]<;>rfl
def yE(b lp:Nat)(sv ts tl gv gs w)(h:MC b w sv ts tl)(aF:w.ownsRow (b+1) 207 5 gv gs.length (cz gs))(aX:gs.length<=1000):
  Calls prog 174 #[.agg #[sv],.agg #[au lp,gv]] w fun e' w'=>e'=bi (ji 5 (pe ts gs))/\am w w':=by
 obtain ⟨aM,mn,mc,rfl⟩:=h.form;obtain ⟨ga,gc,rfl⟩:=aw aF;generalize hR:pe ts gs=R;go_enter func174,ntmps174;go_wp2_with fail
 go_loopw [14] (fun u wr=>∃(k:Nat),k<=gs.length/\u=au k/\am w wr/\aL wr w.heap.size #[aA aM mn mc] 75/\Hid (pe ts (gs.drop k)=R)) (fun u _=>gs.length-(intOf u).toNat)
 ·exact ⟨0,ai,rfl,(bo.alloc aH _).alloc ar _,(aL.new w _ _).alloc _,hR⟩
 ·obtain ⟨k,aY,rfl,hb,ad,HQ⟩:=hrel;have aW:=hb.size
  by_cases aG:k<gs.length
  ·have hR:=HQ;rw [GG ts gs k aG] at hR;obtain ⟨q,c,e1,k0,k1,aZ,k3,a5⟩:=Vg.cell (ay (w':=wr) aF (fun g cs f _ aU=>hb.block g (lt_of_some aU))) k gs[k] (aI aG);simp only [aK] at e1;obtain ⟨rfl,_,rfl⟩:=e1;generalize gs[k]=g at*;have I:am w (wr.alloc (gK g.tp g.ty g.reach g.rp g.rel)):=hb.alloc aW _;have ak:=h.below I;have al:=ad.alloc (gK g.tp g.ty g.reach g.rp g.rel);have ab:=aL.new wr #[au g.tp,an g.ty,au g.reach,au g.rp,an g.rel] 207;have a6:wr.cell? (aP w.heap.size)=some (aA aM mn mc):=ad.cell rfl;have a7:=ad.lt;clear ad;unfold ml at hR
   cases Q:bW ts g.ty with
   |none=>
    rw [Q] at hR;have C:=qG b _ ts tl g.ty _ ak Q;clear Q;go_wp2_with fail;refine C.mono ?_;rintro e ah ⟨rfl,D⟩;have B2:=I.trans (D.mono I.size);obtain ⟨g0,av,ax,aB,aC⟩:=(ab.below D).five;have aE:=(ab.below D).lt;have ag:=B2.size;clear D;unfold cm;exact OJ
   |some t=>
    rw [Q] at hR;obtain ⟨U,Y,V,rl,aJ,ae⟩:=r8 b _ ts tl g.ty _ ak t Q;have C:=ae;have aR:=aJ;clear Q ae aJ;simp only at hR
    by_cases h2:g.reach=2
    ·have aT:((g.reach:Int) != 2)=false:=by rw [h2];rfl
     rw [if_pos h2] at hR;clear h2;go_wp2_with fail;refine C.mono ?_;rintro e ah ⟨rfl,D⟩;have aj:=I.trans (D.mono I.size);have B2:=aj;have aQ:=al.below D;have ap:=(aR.below D).below ((az ah.heap.size ah).alloc aH (bG t.place t.name U Y V));have ac:=ab.below D;obtain ⟨g0,av,ax,aB,aC⟩:=ac.five;have aE:=ac.lt;have ag:=aj.size;clear D aj C
     cases af:b8 t g.rel with
     |none=>
      rw [af] at hR;have aO:=hR;go_wp2_with fail;refine (kh b t.place t.name _ t rl g.rel _ ap af).mono ?_;rintro e aN ⟨rfl,J⟩;have Z:=(B2.alloc ag (bG t.place t.name U Y V)).trans (J.mono aS);obtain ⟨a8,n1,n2,a9,ba⟩:=((ac.alloc (bG t.place t.name U Y V)).below J).five;have nl:=((ac.alloc (bG t.place t.name U Y V)).below J).lt;have aV:=Z.size;unfold cm;go_wp2_with (go_at_call 73;refine (kf _ 5 _).mono ?_;rintro e aN ⟨rfl,rfl⟩);go_ret;rw [<-aO];exact ⟨rfl,(cq Z)⟩
     |some r=>
      rw [af] at hR;obtain ⟨bb,bc,_,_,ae⟩:=lD b t.place t.name _ t rl g.rel _ ap r af;go_wp2_with fail;refine ae.mono ?_;rintro e aN ⟨rfl,J⟩;have Z:=(B2.alloc ag (bG t.place t.name U Y V)).trans (J.mono aS);have aV:=Z.size;go_wp2;go_roundw
      ·exact ⟨k+1,ai,by go_num,(cq Z),(cY ((aQ.alloc (bG t.place t.name U Y V)).below J)),hR⟩
      simp [intOf];omega
    have aT:((g.reach:Int) != 2)=true:=by rw [gX];omega
    rw [if_neg h2] at hR;go_wp2_with fail;refine C.mono ?_;rintro e ah ⟨rfl,D⟩;have B2:=I.trans (D.mono I.size);obtain ⟨g0,av,ax,aB,aC⟩:=(ab.below D).five;have aE:=(ab.below D).lt;have ag:=B2.size;go_wp2;go_roundw
    ·exact ⟨k+1,ai,by go_num,(cq B2),(cY (al.below D)),hR⟩
    simp [intOf];omega
  exact Gz
end
abbrev vz:=@List.length_filterMap_le
abbrev bN:=@List.length_map
abbrev cK:=@List.map_append
abbrev k6(a0:Int)(a1:Int)(a2:ae)(a3:Int)(a4:ae):Obj:=.cells #[au a0,au a1,an a2,au a3,an a4] 240
def Xr (h:aD:=by
 rw [HST,ht1];simpa using HQ):aD:=h
def Xs (h:aD:=by
 go_wp2_with fail;refine C.mono ?_;rintro e w5 ⟨rfl,pf⟩;refine OT ?_;intro B5 O5 sz5;clear pf;unfold cm;go_wp2;go_roundw
 ·exact ⟨k+1,aA sa sn sc,l3,ai,by go_num,rfl,B5.alloc sz5 _,O5.alloc _,Xr⟩
 simp [intOf];omega):aD:=h
def OU (h:aD:=by
 rcases fD k gs.length with A|A
 ·exact A
 rw [jD A] at h;cases h):aD:=h
def OV(q:bq) (h:cj bq->aD:=by
 intro zq;have B4:=UA.trans (hb4.mono UA.size);have Xt:=TBX.below hb4;obtain ⟨v0,v1,v2,v3,v4⟩:=Xt.five;have vl:=Xt.lt;have O4:=(ay (w':=w4) OX (fun g cs f _ hh=>hb4.block g (lt_of_some hh))).alloc (bG u.place u.name ua un uc);have Gj:=B4.size;have B4x:=B4.alloc Gj (bG u.place u.name ua un uc);clear Xt
 revert B4 v0 v1 v2 v3 v4 vl O4 Gj B4x
 exact zq.1):aD:=h ⟨q⟩
def A7(q:bq) (h:cj bq->aD:=by
 intro zq;refine C.mono ?_;rintro e w4 ⟨rfl,hb4⟩;have B4:=UA.trans (hb4.mono UA.size)
 revert w4 hb4 B4
 exact zq.1):aD:=h ⟨q⟩
def OW(q:bq) (h:cj bq->aD:=by
 intro zq;refine C.mono ?_;rintro e w4 ⟨rfl,hb4⟩;have RC4:=(RCH.below hb4).below ((az w4.heap.size w4).alloc aH (bG u.place u.name ua un uc))
 revert w4 hb4 RC4
 exact zq.1):aD:=h ⟨q⟩
def OT(q:bq) (h:cj bq->aD:=by
 intro zq;have B5:=B4x.trans (pf.mono B4x.size);have O5:=ay (w':=w5) O4 (fun g cs f _ hh=>pf.block g (lt_of_some hh));have sz5:=B5.size
 revert B5 O5 sz5
 exact zq.1):aD:=h ⟨q⟩
def iQ(ts:List Ty)(y:ae)(g:Gr):Option Ty:=if g.reach=0 then (match bW ts g.ty with
 |none=>none
 |some u=>if (b8 u y).isSome then some u else none) else none
def tk(ts:List Ty)(y:ae)(k:Nat)(gs:List Gr):List Ty:=(gs.take k).filterMap (iQ ts y)
def nB(ts:List Ty)(t:Ty)(x y:ae):List Ty:=match b8 t x with
 |none=>[]
 |some r=>(bS r.body).filterMap (iQ ts y)
def Vk{y gs g}(h:gs[k]? =some g):tk ts y (k+1) gs=tk ts y k gs++(iQ ts y g).toList:=by
 have C:k<gs.length:=by
  exact OU
 rw [aI C] at h;simp only [aR] at h;unfold tk;rw [cD C,List.filterMap_append,h]
 cases D:iQ ts y g<;>simp [D]
def tk_le(ts y k gs):(tk ts y k gs).length<=k:=by
 unfold tk;have:=vz (iQ ts y) (gs.take k);rw [eb] at this;omega
def LO(b tp p1 p2:Nat)(n1 n2 sv ts tl t tv rl w)(h:MC b w sv ts tl)(A:RC b w tv t.rels rl)(J:b8 t n1=none):
  Calls prog 223 #[.agg #[sv],.agg #[au t.place,an t.name,tv],.agg #[au tp,au p1,an n1,au p2,an n2]] w fun e' w'=>e'=bi (aA none 0 0)/\am w w':=by
 obtain ⟨Q,mn,mc,rfl⟩:=h.form;obtain ⟨R,V,U,rfl⟩:=A.form;have W0:am w (((w.alloc (ba Q mn mc)).alloc (bG t.place t.name R V U)).alloc (k6 tp p1 n1 p2 n2)):=((bo.alloc aH _).alloc ar _).alloc aS _;have C:=kh b t.place t.name _ t rl n1 _ (A.below W0) J;clear h A J;go_enter func223,ntmps223;go_wp2_with fail;refine C.mono ?_;rintro e w1 ⟨rfl,I⟩;have D:=W0.trans (I.mono W0.size);have sz:=D.size;clear I;unfold cm;go_wp2;go_ret;exact ⟨rfl,(cq D)⟩
def zc(b tp p1 p2:Nat)(n1 n2 sv ts tl t tv rl w)(h:MC b w sv ts tl)(J:RC b w tv t.rels rl)(r)(A:b8 t n1=some r):
  Calls prog 223 #[.agg #[sv],.agg #[au t.place,an t.name,tv],.agg #[au tp,au p1,an n1,au p2,an n2]] w fun e' w'=>∃(yz:ag)(l3:List E3),e'=bi yz/\am w w'/\w'.ownsRow w.heap.size 110 3 yz l3.length (l3.flatMap c3)/\l3.map (fun e=>e.2.1)=((bS r.body).filterMap (iQ ts n2)).map Ty.name/\∀e∈l3,∃a n c,e.2.2=Value.slice a n c:=by
 obtain ⟨Z,mn,mc,rfl⟩:=h.form;obtain ⟨ae,ah,af,rfl⟩:=J.form;have W0:am w (((w.alloc (ba Z mn mc)).alloc (bG t.place t.name ae ah af)).alloc (k6 tp p1 n1 p2 n2)):=((bo.alloc aH _).alloc ar _).alloc aS _;obtain ⟨bs,rv,bn,V,D⟩:=lD b t.place t.name _ t rl n1 _ (J.below W0) r A;have okp:=J.okp r V;have okg:=J.okg r V;have wf:=J.wf r V;have aV:=h.below W0;have aZ:=((aL.new w #[aA Z mn mc] 75).alloc (bG t.place t.name ae ah af)).alloc (k6 tp p1 n1 p2 n2);have TB:=aL.new' ((w.alloc (ba Z mn mc)).alloc (bG t.place t.name ae ah af)) #[au tp,au p1,an n1,au p2,an n2] 240 (w.heap.size+2) ar;have blt:=h.blt;clear h J A V;go_enter func223,ntmps223;go_wp2_with fail;refine D.mono ?_;rintro e w1 ⟨rfl,ad⟩;have b1:=ad.alloc ad.size (cC r.place r.name bs rv);have al:=W0.trans (b1.mono W0.size);have a5:=aZ.below b1;have a7:=TB.below b1;have ax:=aV.below b1;have a6:=bn.but (But.of_below b1);have bb:=ax.blt;clear ad b1 D;go_wp2_with fail;refine (pM r.place r.name b r.body _ _ bb a6 okp okg wf).mono ?_;rintro e ak ⟨gv,rfl,R,aN⟩;obtain ⟨ga,gc,rfl⟩:=aw aN;have ap:=al.trans (R.mono al.size);have ab:=a5.below R;have a8:=a7.below R;have aY:=ax.below R;have aQ:=ap.size;clear R;go_wp2_with fail
 go_loopw [9,29] (fun bu bt wr=>∃(k:Nat)(yz:ag)(l3:List E3),k<=(bS r.body).length/\bt=au k/\bu=yz/\am ak wr/\wr.ownsRow ak.heap.size 110 3 yz l3.length (l3.flatMap c3)/\Hid (l3.map (fun e=>e.2.1)=(tk ts n2 k (bS r.body)).map Ty.name/\∀e∈l3,∃a n c,e.2.2=Value.slice a n c)) (fun _ u _=>(bS r.body).length-(intOf u).toNat)
 ·exact ⟨0,_,[],ai,rfl,rfl,az _ _,bP,aj ⟨rfl,ar⟩⟩
 ·obtain ⟨k,yz,l3,aG,rfl,bp,I,ho,HQ⟩:=hrel;have bE:l3.length<=k:=by
   have:=congrArg List.length HQ.1;rw [bN,bN] at this;have:=tk_le ts n2 k (bS r.body);omega
  obtain ⟨sa,sn,sc,rfl⟩:∃a n c,yz=aA a n c:=by
   obtain ⟨a,c,e⟩:=aw ho;exact ⟨a,_,c,e⟩
  subst bp;have bv:=I.size
  by_cases aJ:k<(bS r.body).length
  ·have bj:(k:Int)<((bS r.body).length:Int):=by omega
   obtain ⟨q,c,e1,k0,k1,bF,k3,bH⟩:=Vg.cell (ay (w':=wr) aN (fun g cs f _ hh=>I.block g (lt_of_some hh))) k (bS r.body)[k] (aI aJ);simp only [aK] at e1;obtain ⟨rfl,_,rfl⟩:=e1;have aE:(bS r.body)[k]? =some (bS r.body)[k]:=aI aJ;generalize (bS r.body)[k]=g at*;have HST:=Vk (ts:=ts) (y:=n2) aE;have Q:=I.alloc bv (gK g.tp g.ty g.reach g.rp g.rel);have UA:=Q;have av:=aY.below Q;have bB:=ab.below Q;have TBX:=a8.below Q;have bA:=aL.new wr #[au g.tp,an g.ty,au g.reach,au g.rp,an g.rel] 207;have OX:=ho.alloc (gK g.tp g.ty g.reach g.rp g.rel);have bI:wr.cell? (aP w.heap.size)=some (aA Z mn mc):=(ab.below I).cell rfl;have bJ:=(ab.below I).lt;clear Q aE
   by_cases h0:g.reach=0
   ·have bg:((g.reach:Int) != 0)=false:=by rw [h0];rfl
    cases A:bW ts g.ty with
    |none=>
     have ht1:iQ ts n2 g=none:=by simp [iQ,h0,A]
     have C:=qG b _ ts tl g.ty _ av A;clear A h0;go_wp2_with fail;refine A7 ?_;intro w4 hb4 B4;have Xt:=TBX.below hb4;have bC:=Xt.alloc dD;obtain ⟨v0,v1,v2,v3,v4⟩:=Xt.five;have vl:=Xt.lt;have O4:=(ay (w':=w4) OX (fun g cs f _ hh=>hb4.block g (lt_of_some hh))).alloc dD;have Gj:=B4.size;have B4x:=B4.alloc Gj dD;clear hb4 Xt;have C:=kh b 0 ⟨#[]⟩ (aA none 0 0) ⟨em,0,[]⟩ [] n2 (w4.alloc dD) ⟨rfl,bP,ar,ar,ar,ar,ar⟩ rfl;unfold cm;exact Xs
    |some u=>
     obtain ⟨ua,un,uc,aO,aM,D⟩:=r8 b _ ts tl g.ty _ av u A;have C:=D;have RCH:=aM;clear D aM
     cases Y:b8 u n2 with
     |none=>
      have ht1:iQ ts n2 g=none:=by simp [iQ,h0,A,Y]
      clear A h0;go_wp2_with fail;refine OW ?_;intro w4 hb4 RC4;refine OV ?_;intro B4 v0 v1 v2 v3 v4 vl O4 Gj B4x;clear hb4;have C:=kh b u.place u.name _ u aO n2 _ RC4 Y;exact Xs
     |some r2=>
      have ht1:iQ ts n2 g=some u:=by simp [iQ,h0,A,Y]
      clear A h0;go_wp2_with fail;refine OW ?_;intro w4 hb4 RC4;have a9:=aL.new w4 (h8 u.place u.name ua un uc) 110;refine OV ?_;intro B4 v0 v1 v2 v3 v4 vl O4 Gj B4x;clear hb4;obtain ⟨aR,aT,_,_,D⟩:=lD b u.place u.name _ u aO n2 _ RC4 r2 Y;go_wp2_with fail;refine D.mono ?_;rintro e w5 ⟨rfl,pf⟩;have ac:=a9.below pf;obtain ⟨bK,bL,bM⟩:=ac.three;have bO:=ac.lt;clear ac;refine OT ?_;intro B5 O5 sz5;clear pf;go_wp2_with (at_builtin;go_must (refine eB rfl underlying73 Tryz.info110 ak.heap.size ((O5.alloc _).alloc _) (w5.heap.size+1) 1 (c3 (u.place,u.name,aA ua un uc)) (w5.heap.size+2) ?hrest))
      case hrest=>
       intro bf bc bQ bl aF bh bD;have aB:=(O5.alloc (cC r2.place r2.name aR aT)).alloc (bG u.place u.name ua un uc);have aU:=cA ((B5.alloc sz5 (cC r2.place r2.name aR aT)).alloc aS (bG u.place u.name ua un uc)) aF aS (fun k aG=>(aB.lt k aG).1);clear aF bh aB;go_wp2;go_roundw
       ·exact ⟨k+1,aA (some (aP bf)) (l3.length+1) bc,l3++[(u.place,u.name,aA ua un uc)],ai,by go_num,rfl,aU,by rw [List.length_append,cN];exact bl,aj ⟨by rw [HST,ht1,cK,cK,HQ.1];rfl,fun e U=>by rw [aW,aX] at U;rcases U with U|rfl;exact HQ.2 e U;exact ⟨ua,un,uc,rfl⟩⟩⟩
       simp [intOf];omega
   have bg:((g.reach:Int) != 0)=true:=by rw [gX];omega
   have ht1:iQ ts n2 g=none:=by simp [iQ,h0]
   clear h0;go_wp2;go_roundw
   ·exact ⟨k+1,aA sa sn sc,l3,ai,by go_num,rfl,UA,OX,Xr⟩
   simp [intOf];omega
  have bj:¬((k:Int)<((bS r.body).length:Int)):=ai;have aC:tk ts n2 k (bS r.body)=(bS r.body).filterMap (iQ ts n2):=by
   unfold tk;rw [cX ai]
  rw [aC] at HQ;clear aC;go_wp2;go_ret;exact ⟨aA sa sn sc,rfl,ap.trans (I.mono aQ),l3,bk ho aQ,HQ.1,fun bw bx bz br=>HQ.2 (bw,bx,bz) br⟩
def GM(ts:List Ty)(t:Ty)(n1:ae)(p1:Nat)(n2:ae)(p2:Nat):Option Nat:=match b8 t n1 with
 |none=>some p1
 |some r=>if ((bS r.body).filterMap (iQ ts n2)).length=0 then some p2 else none
def A8(b tp p1 p2:Nat)(n1 n2 sv ts tl t tv rl w)(h:MC b w sv ts tl)(af:RC b w tv t.rels rl):
  Calls prog 175 #[.agg #[sv],.agg #[au t.place,an t.name,tv],.agg #[au tp,au p1,an n1,au p2,an n2]] w fun e' w'=>e'=bi (ji 5 (GM ts t n1 p1 n2 p2))/\am w w':=by
 obtain ⟨Q,mn,mc,rfl⟩:=h.form;obtain ⟨U,Y,V,rfl⟩:=af.form;have W0:am w (((w.alloc (ba Q mn mc)).alloc (bG t.place t.name U Y V)).alloc (k6 tp p1 n1 p2 n2)):=((bo.alloc aH _).alloc ar _).alloc aS _;have ah:=h.below W0;have Z:=af.below W0;have ac:=((aL.new w #[aA Q mn mc] 75).alloc (bG t.place t.name U Y V)).alloc (k6 tp p1 n1 p2 n2);have ae:=(aL.new' (w.alloc (ba Q mn mc)) (h8 t.place t.name U Y V) 110 (w.heap.size+1) ar).alloc (k6 tp p1 n1 p2 n2);have TB:=aL.new' ((w.alloc (ba Q mn mc)).alloc (bG t.place t.name U Y V)) #[au tp,au p1,an n1,au p2,an n2] 240 (w.heap.size+2) ar;generalize hR:GM ts t n1 p1 n2 p2=R;unfold GM at hR
 cases J:b8 t n1 with
 |none=>
  have C:=kh b t.place t.name _ t rl n1 _ Z J;rw [J] at hR;go_enter func175,ntmps175;go_wp2_with fail;refine C.mono ?_;rintro e w1 ⟨rfl,D⟩;have I:=W0.trans (D.mono W0.size);obtain ⟨ax,v1,ay,az,aB⟩:=(TB.below D).five;have aC:=(TB.below D).lt;have sz:=I.size;unfold cm;go_wp2_with (go_at_call 73;refine (kf _ 5 _).mono ?_;rintro e aO ⟨rfl,rfl⟩);go_ret;rw [<-hR];exact ⟨rfl,(cq I)⟩
 |some r=>
  obtain ⟨aE,aF,_,_,al⟩:=lD b t.place t.name _ t rl n1 _ Z r J;rw [J] at hR;go_enter func175,ntmps175;go_wp2_with fail;refine al.mono ?_;rintro e w1 ⟨rfl,D⟩;have b1:=D.alloc D.size (cC r.place r.name aE aF);have I:=W0.trans (b1.mono W0.size);have ai:=ah.below b1;have aj:=Z.below b1;have ad:=TB.below b1;obtain ⟨ax,v1,ay,az,aB⟩:=(TB.below D).five;have aC:=(TB.below D).lt;obtain ⟨aQ,aR,aT⟩:=(ae.below D).three;have aU:=(ae.below D).lt;have aG:w1.cell? (aP w.heap.size)=some (aA Q mn mc):=(ac.below D).cell rfl;have aI:=(ac.below D).lt;go_wp2_with fail;refine (zc b tp p1 p2 n1 n2 _ ts tl t _ rl _ ai aj r J).mono ?_;rintro e aN ⟨aK,ag,rfl,ab,ho,ap,_⟩;have av:ag.length=((bS r.body).filterMap (iQ ts n2)).length:=by
   have:=congrArg List.length ap
   rwa [bN,bN] at this
  obtain ⟨aJ,oc,rfl⟩:=aw ho;have B2:=I.trans (ab.mono I.size);obtain ⟨aV,aW,aX,aY,aZ⟩:=(ad.below ab).five;have a5:=(ad.below ab).lt;have aM:=B2.size;rw [<-av] at hR;generalize ag.length=ln at*
  by_cases h0:ln=0
  ·have ak:((ln:Int)==0)=true:=by rw [h0];rfl
   rw [if_pos h0] at hR;exact OJ
  have ak:((ln:Int)==0)=false:=by rw [bR];omega
  rw [if_neg h0] at hR;go_wp2;exact Gy
abbrev se:=@List.append_of_mem
def Xu (h:aD:=by
 rw [hn] at hR C;go_wp2_with fail;refine A7 ?_;intro D A B3;unfold ji;go_wp2;exact OY):aD:=h
def Xv (h:aD:=by
 rw [hn] at hR C;go_wp2_with fail;refine A7 ?_;intro I D A;unfold ji fP;go_wp2;go_ret;rw [<-hR];exact ⟨rfl,B2.trans (A.mono YI)⟩):aD:=h
def OY (h:aD:=by
 go_roundw
 ·exact ⟨k+1,ai,by go_num,B3,hR⟩
 simp [intOf];omega):aD:=h
def OZ(q:bq) (h:cj bq->aD:=by
 intro zq;have iR:=(L2 l[k] (br hkl)).but (b:=b) (But.of_below hbr);have hk':(aF r.body)[k]? =some l[k].1:=by rw [<-L1];simp [aI hkl]
 revert iR hk'
 exact zq.1):aD:=h ⟨q⟩
def gD(ts:List Ty)(t:Ty)(p:Ex):Option Nat:=match p.l with
 |some _=>none
 |none=>if p.nd.kind=0 then pe ts p.nd.gs
  else if p.nd.kind=1 then (match b8 t p.nd.n1 with
   |none=>some p.nd.place
   |some _=>none)
  else GM ts t p.nd.n1 p.nd.p1 p.nd.n2 p.nd.p2
def gZ(ts:List Ty)(t:Ty)(r:Rl):Option Nat:=(aF r.body).findSome? (gD ts t)
def ph{α β:Type}(f:α->Option β)(l:List α)(k)(a:α)(h:l[k]? =some a):(l.drop k).findSome? f=match f a with
  |some p=>some p
  |none=>(l.drop (k+1)).findSome? f:=by
 have C:k<l.length:=by
  rcases fD k l.length with A|A
  ·exact A
  rw [jD A] at h;cases h
 rw [aI C] at h;simp only [aR] at h;rw [c8 C,gJ,h]
 cases f a<;>rfl
def zd{e p}(D:p∈aF e)(C:p.l=none)(A:p.nd.kind=0):p.nd.gs.length<=(bS e).length:=by
 unfold bS;have:eO p=p.nd.gs:=by simp [eO,C,A]
 rw [<-this];obtain ⟨a,c,h⟩:=se D;rw [h];simp;omega
def pO(k):fi k=244\/fi k=245\/fi k=246:=by
 exact OH
def vA(b sv ts tl t tv rl r bv w)(h:MC b w sv ts tl)(ad:RC b w tv t.rels rl)(aM:bA b w r.body bv)(aJ:r∈t.rels):
  Calls prog 117 #[.agg #[sv],.agg #[au t.place,an t.name,tv],.agg #[au r.place,an r.name,bv]] w fun e' w'=>e'=bi (ji 5 (gZ ts t r))/\am w w':=by
 obtain ⟨ae,mn,mc,rfl⟩:=h.form;obtain ⟨aj,al,ak,rfl⟩:=ad.form;obtain ⟨ah,rv,rfl⟩:=aM.isI;have W0:am w (((w.alloc (ba ae mn mc)).alloc (bG t.place t.name aj al ak)).alloc (cC r.place r.name ah rv)):=((bo.alloc aH _).alloc ar _).alloc aS _;have av:=h.below W0;have aU:=ad.below W0;have aV:=aM.but (But.of_below W0);have aX:=((aL.new w #[aA ae mn mc] 75).alloc (bG t.place t.name aj al ak)).alloc (cC r.place r.name ah rv);have a5:=(aL.new' (w.alloc (ba ae mn mc)) (h8 t.place t.name aj al ak) 110 (w.heap.size+1) ar).alloc (cC r.place r.name ah rv);have okp:=ad.okp r aJ;have okg:=ad.okg r aJ;have aC:=W0;generalize hR:gZ ts t r=R;have aT:=hR;have a6:=av.blt;go_enter func117,ntmps117;go_wp2_with fail;refine (oA r.body b _ _ a6 aV okp).mono ?_;rintro e1 bh ⟨bJ,rfl,Z,l,l1,l2,aO⟩;obtain ⟨bH,oc,rfl⟩:=aw aO;have bC:l.length=(aF r.body).length:=by rw [<-l1];simp
 have B2:=aC.trans (Z.mono aC.size);have L1:=l1;have L2:=l2;have L3:=aO;have aW:=av.below Z;have aZ:=aU.below Z;have aE:=aX.below Z;have aG:=a5.below Z;have YI:=B2.size;have f0:=ie;have f1:=hN;have f2:=hO;have f3:=eW;have f4:=gC;have f5:=ii;have g1:=mh;have bp:=mi;have bs:=jd;have bt:=kM;have g5:=kO;have h2:=mj;have bu:=je;have bw:=kN;have bx:=kP;go_wp2_with fail
 go_loopw [17] (fun bg wr=>∃(k:Nat),k<=(aF r.body).length/\bg=au k/\am bh wr/\Hid (((aF r.body).drop k).findSome? (gD ts t)=R)) (fun u _=>(aF r.body).length-(intOf u).toNat)
 ·exact ⟨0,ai,rfl,az _ _,aT⟩
 ·obtain ⟨k,bz,rfl,hbr,aB⟩:=hrel;have Y:=hbr;have ap:=hbr.size
  by_cases bB:k<(aF r.body).length
  ·refine GF ?_;intro hkl aQ c1 e1 kc;simp only [aK] at e1;obtain ⟨rfl,_,rfl⟩:=e1;refine OZ ?_;intro iR hk';generalize l[k]=q at*;obtain ⟨aQ,bI⟩:=q;simp only at kc iR hk';have a8:(k:Int)<((aF r.body).length:Int):=ai;have hR:=aB;rw [ph _ _ _ _ hk'] at hR;have ab:=bF hk';have bD:wr.cell? (aP w.heap.size)=some (aA ae mn mc):=(aE.below hbr).cell rfl;have bE:=(aE.below hbr).lt;obtain ⟨bK,bL,bM⟩:=(aG.below hbr).three;have bN:=(aG.below hbr).lt;have ax:=aW.below hbr;have af:=aZ.below hbr
   match aQ,iR,hR,ab with
   |⟨nq,some xq,some yq⟩,⟨vx,vy,hv,rx,ry⟩,hR,ab=>
    have aR:=(hR:((aF r.body).drop (k+1)).findSome? (gD ts t)=R);subst hv
    rcases pO nq.kind with ag|ag|ag
    all_goals
     rw [ag] at kc;go_wp2;go_roundw
     ·exact ⟨k+1,ai,by go_num,Y,aR⟩
     ·simp [intOf];omega
   |⟨nq,none,rq⟩,iR,hR,ab=>
    rcases iR with ⟨Q,gv,hv,aN⟩|⟨Q,hv⟩|⟨Q,hv⟩
    ·have a9:=zd ab rfl Q;have U:gD ts t ⟨nq,none,rq⟩=pe ts nq.gs:=by simp [gD,Q]
     rw [U] at hR;obtain ⟨bk,bn,bl,rfl⟩:∃a n c,gv=aA a n c:=by
      obtain ⟨a,c,e⟩:=aw aN;exact ⟨a,_,c,e⟩
     subst hv;have J:am wr (wr.alloc (nz nq.place bk bn bl)):=bo.alloc aH _;have C:=yE b nq.place _ ts tl _ nq.gs _ (ax.below J) (ay aN (fun g cs f _ hh=>J.block g (lt_of_some hh))) (by simp only at a9;omega);have UA:=Y.trans (J.mono ap)
     cases hn:pe ts nq.gs with
     |some p=>
      exact Xv
     |none=>
      exact Xu
    ·subst hv;have J:am wr (wr.alloc (.cells #[au nq.place,an nq.n1] 238)):=bo.alloc aH _;have UA:=Y.trans (J.mono ap);have ac:=aL.new wr #[au nq.place,an nq.n1] 238
     cases hn:b8 t nq.n1 with
     |none=>
      have U:gD ts t ⟨nq,none,rq⟩=some nq.place:=by simp [gD,Q,hn]
      rw [U] at hR;have C:=kh b t.place t.name _ t rl nq.n1 _ (af.below J) hn;go_wp2_with fail;refine A7 ?_;intro bj V B3;obtain ⟨bb,bc⟩:=(ac.below V).two;have bf:=(ac.below V).lt;unfold cm;go_wp2_with (go_at_call 73;refine (kf _ 5 _).mono ?_;rintro e w4 ⟨rfl,rfl⟩;unfold fP cm);go_ret;rw [<-hR];exact ⟨rfl,B2.trans (B3.mono YI)⟩
     |some r2=>
      have U:gD ts t ⟨nq,none,rq⟩=none:=by simp [gD,Q,hn]
      rw [U] at hR;obtain ⟨bO,bP,_,_,a7⟩:=lD b t.place t.name _ t rl nq.n1 _ (af.below J) r2 hn;go_wp2_with fail;refine a7.mono ?_;rintro e bj ⟨rfl,V⟩;have B3:=UA.trans (V.mono UA.size);obtain ⟨bb,bc⟩:=(ac.below V).two;have bf:=(ac.below V).lt;go_wp2_with (go_at_call 73;refine (OC _ _).mono ?_;rintro e w4 ⟨rfl,rfl⟩);exact OY
    subst hv;have U:gD ts t ⟨nq,none,rq⟩=GM ts t nq.n1 nq.p1 nq.n2 nq.p2:=by simp [gD,Q]
    rw [U] at hR;have J:am wr (wr.alloc (k6 nq.place nq.p1 nq.n1 nq.p2 nq.n2)):=bo.alloc aH _;have UA:=Y.trans (J.mono ap);have C:=A8 b nq.place nq.p1 nq.p2 nq.n1 nq.n2 _ ts tl t _ rl _ (ax.below J) (af.below J)
    cases hn:GM ts t nq.n1 nq.p1 nq.n2 nq.p2 with
    |some p=>
     exact Xv
    |none=>
     exact Xu
   |⟨nq,some xq,none⟩,iR,hR,ab=>exact iR.elim
  have hR:=aB;rw [eC ai] at hR;have a8:¬((k:Int)<((aF r.body).length:Int)):=ai;go_wp2;go_ret;rw [<-hR];exact ⟨rfl,B2.trans (Y.mono YI)⟩
