import Derived.Test.YtlbpnlngckgcbaaGreatDoorM21
import Derived.Test.YtlbpnlngckgcbaaGreatDoorM22
import Derived.Test.YtlbpnlngckgcbaaGreatDoorM23
import Derived.OrdersHeld
import Derived.OrdersIn
import Derived.Maps.OwnOps
import Derived.Maps.Views
import Derived.DeepKeys4
import Derived.Laws.BitsAllLaws
import Derived.ScopeJumps
import Derived.WalkMore
set_option linter.all false
set_option maxHeartbeats 4000000
set_option maxRecDepth 100000
namespace Go.Proofs.YtlbpnlngckgcbaaGreatDoor
open Go.RowKit Go.PlainAid Go.Proofs.Tryz
variable {k b gc g5 be g size n cap g0 c0 i B base' j c sb N sc g' m a cn cc:Nat} {aD bq:Prop} {y w W w5 w' z W0 W' wr:af} {row:Option Nat} {mv lv v v' sv pv gv tv:ag} {ga:Option Addr} {gs:List Tu} {o:Obj} {rel s:ae} {cs:Array ag} {T e T':TypeId} {α β:Type} {xs:List ag} {P:Program} {rest:List Oper} {ts:List Ty} {pre:List It}
def YT(g t q w)(D:aL w q (k8 t.kind t.id t.rel t.sub t.who t.of) 123):
  Calls prog 103 #[Gu g,bu q] w fun e w'=>e=bi (.bool (gE g t))/\am w w':=by
 have C:=fun w=>L8 g t w
 have hl:=D.lt;unfold Gu dj at C ⊢;have A:am w (w.alloc (gK g.tp g.ty g.reach g.rp g.rel)):=(az _ w).alloc aH _;have J:¬(w.heap.size=q):=ai;obtain ⟨Q,R,U,V,Y,Z⟩:=D.six;go_enter func103,ntmps103;go_wp2_with fail;refine (C _).mono ?_;rintro e w1 ⟨rfl,I⟩;go_wp2;go_ret;exact ⟨rfl,(A.trans (I.mono A.size))⟩
def YU{l:List Gr}{t:Tu}(A:k<l.length)(h:gE l[k] t=true):l.any (fun g=>gE g t)=true:=dg.2 ⟨l[k],br A,h⟩
def YV{l:List Gr}{t:Tu}(C:∀j,(h:j<l.length)->gE l[j] t=false):l.any (fun g=>gE g t)=false:=by
 rw [jB];intro y D;obtain ⟨j,A,rfl⟩:=dB D;rw [C j A];simp
def Hy(base v l t q w)(ak:l.length<=1000)(h:w.ownsRow base 207 5 v l.length (cz l))(ad:aL w q (k8 t.kind t.id t.rel t.sub t.who t.of) 123):
  Calls prog 155 #[v,.func (.func 103) #[] #[bu q]] w fun e w'=>∃n:Int,e=bi (au n)/\decide (0<=n)=l.any (fun g=>gE g t)/\am w w':=by
 obtain ⟨sa,sc,rfl⟩:=aw h;have H:=aj h;have U:=aj ad;go_enter func155,ntmps155;go_wp2
 go_loopw [5,8] (fun u i wr=>∃k:Nat,k<=l.length/\i=au k/\am w wr/\Hid (∀j,(h:j<l.length)->j<k->gE l[j] t=false)) (fun _ i _=>l.length-(intOf i).toNat)
 ·exact ⟨0,ai,rfl,az _ _,aj (fun j e h=>ai)⟩
 ·obtain ⟨k,ag,rfl,I,Q⟩:=hrel;have HB:=aj I
  by_cases R:k<l.length
  ·obtain ⟨g,c,e1,hc⟩:=bn (fun g=>(dj g).toList) 5 (fun _=>rfl) (aB H I) k l[k] (aI R);simp only [aK] at e1;obtain ⟨rfl,_,rfl⟩:=e1;have V:=aj (U.below I);have Y:=aj (fun (D:gE l[k] t=true)=>YU R D);have ab:=aj (fun (D:gE l[k] t=false)=>(show ∀j,(h:j<l.length)->j<k+1->gE l[j] t=false from fun j h af=>by
     by_cases e:j=k
     ·subst e;exact D
     exact Q j h ai))
   have C:=aj (YT l[k] t q wr V);unfold Gu dj at C;generalize l[k]=y at*;have k0:wr.cell? (aC g (k*5))=some (au y.tp):=hc 0 _ ai rfl;have k1:wr.cell? (aC g (k*5+1))=some (an y.ty):=hc 1 _ ai rfl;have al:wr.cell? (aC g (k*5+2))=some (au y.reach):=hc 2 _ ai rfl;have k3:wr.cell? (aC g (k*5+3))=some (au y.rp):=hc 3 _ ai rfl;have ap:wr.cell? (aC g (k*5+4))=some (an y.rel):=hc 4 _ ai rfl;have ah:(k:Int)<(l.length:Int):=ai
   cases D:gE y t
   ·rw [D] at C;have Z:=aj (ab D);go_wp2_with fail;refine C.mono ?_;rintro e ae ⟨rfl,J⟩;go_wp2;go_roundw
    ·exact ⟨k+1,ai,by go_num,(aj (HB.trans (J.mono HB.size))),Z⟩
    simp [intOf];omega
   rw [D] at C;have qA:=aj (Y D);go_wp2_with fail;refine C.mono ?_;rintro e ae ⟨rfl,J⟩;go_wp2;go_ret;exact ⟨k,rfl,by rw [qA];simp,(aj (HB.trans (J.mono HB.size)))⟩
  have qA:=aj (YV (t:=t) (fun j ac=>Q j ac ai));exact Pa
def yH(base v l t q w)(D:l.length<=1000)(h:w.ownsRow base 207 5 v l.length (cz l))(J:aL w q (k8 t.kind t.id t.rel t.sub t.who t.of) 123):
  Calls prog 105 #[v,.func (.func 103) #[] #[bu q]] w fun e w'=>e=bi (.bool (l.any (fun g=>gE g t)))/\am w w':=by
 have C:=Hy base v l t q w D h J;obtain ⟨sa,sc,rfl⟩:=aw h;go_enter func105,ntmps105;go_wp2_with fail;refine C.mono ?_;rintro e w1 ⟨n,rfl,I,A⟩;go_wp2;go_ret;exact ⟨by rw [<-I];rfl,A⟩
def mY(ts:List Ty)(t:Tu):Nat:=match bW ts t.kind with
 |none=>5
 |some y=>match b8 y t.rel with
  |none=>5
  |some r=>if (bS r.body).any (fun g=>gE g t) then 0 else 7
def VJ(n:Nat):ag:=if n=0 then .nilIface else cm n
def D7(A:Option Addr)(D C:Nat)(t:Tu)(w:af)(Y:Nat)(V:ae)(Q:Option Addr)(U R:Nat)
  (J:Calls prog 94 #[.agg #[aA A D C],an t.kind,an t.rel] ((w.alloc (ba A D C)).alloc (cB t.kind t.id t.rel t.sub t.who t.of)) fun e w''=>e=bi (.tuple #[.agg #[au Y,an V,aA Q U R],.agg #[au 0,an ⟨#[]⟩,.nilIface],cm 5])/\Below ((w.alloc (ba A D C)).alloc (cB t.kind t.id t.rel t.sub t.who t.of)).heap.size ((w.alloc (ba A D C)).alloc (cB t.kind t.id t.rel t.sub t.who t.of)) w''):
  Calls prog 61 #[.agg #[aA A D C],.agg #[an t.kind,an t.id,an t.rel,an t.sub,an t.who,an t.of]] w fun e w'=>e=bi (cm 5)/\am w w':=by
 have I:=((az w.heap.size w).alloc aH (ba A D C)).alloc ar (cB t.kind t.id t.rel t.sub t.who t.of);unfold cm at J ⊢;go_enter func61,ntmps61;go_wp2_with fail;refine J.mono ?_;rintro e w1 ⟨rfl,ab⟩;have b1:=I.trans (ab.mono I.size);have Z:=(b1.alloc b1.size (bG Y V Q U R)).alloc (by have:=b1.size;simp;omega) cZ;go_wp2;go_ret;exact ⟨rfl,Z⟩
def Qb(b:Nat)(A)(D C:Nat)(t w)(U:Nat)(yn va)(Q J rp:Nat)(rn ra rv e)(aC:b<w.heap.size)(h:bA b ((w.alloc (ba A D C)).alloc (cB t.kind t.id t.rel t.sub t.who t.of)) e (.iface ra rv))(ay:(aF e).length<=1000)(ad:(bS e).length<=1000)(aB:WF e)(ai:Calls prog 94 #[.agg #[aA A D C],an t.kind,an t.rel] ((w.alloc (ba A D C)).alloc (cB t.kind t.id t.rel t.sub t.who t.of)) fun e w''=>e=bi (.tuple #[.agg #[au U,an yn,aA va Q J],.agg #[au rp,an rn,.iface ra rv],.nilIface])/\Below ((w.alloc (ba A D C)).alloc (cB t.kind t.id t.rel t.sub t.who t.of)).heap.size ((w.alloc (ba A D C)).alloc (cB t.kind t.id t.rel t.sub t.who t.of)) w''):
  Calls prog 61 #[.agg #[aA A D C],.agg #[an t.kind,an t.id,an t.rel,an t.sub,an t.who,an t.of]] w fun e' w'=>e'=bi (VJ (if (bS e).any (fun g=>gE g t) then 0 else 7))/\am w w':=by
 have V:=((az w.heap.size w).alloc aH (ba A D C)).alloc ar (cB t.kind t.id t.rel t.sub t.who t.of);have al:=aL.new' (w.alloc (ba A D C)) (k8 t.kind t.id t.rel t.sub t.who t.of) 123 (w.heap.size+1) ar;have aj:=fun w' (k:Below ((w.alloc (ba A D C)).alloc (cB t.kind t.id t.rel t.sub t.who t.of)).heap.size ((w.alloc (ba A D C)).alloc (cB t.kind t.id t.rel t.sub t.who t.of)) w')=>pM rp rn b e (.iface ra rv) w' (by have:=k.size;simp at this;omega) (h.but (But.of_below k)) ay ad aB
 have Z:=fun (base:Nat) (v:ag) (w':af) (aG:w'.ownsRow base 207 5 v (bS e).length (cz (bS e))) (aI:aL w' (w.heap.size+1) (k8 t.kind t.id t.rel t.sub t.who t.of) 123)=>yH base v (bS e) t (w.heap.size+1) w' ad aG aI
 obtain ⟨R,av⟩:∃R,R=(bS e).any (fun g=>gE g t):=⟨_,rfl⟩;rw [<-av] at Z ⊢;clear h aC ay ad aB av;go_enter func61,ntmps61;go_wp2_with fail;refine ai.mono ?_;rintro e w1 ⟨rfl,I⟩;have b1:=V.trans (I.mono V.size);have ab:=(b1.alloc b1.size (bG U yn va Q J)).alloc (by have:=b1.size;simp;omega) (cC rp rn ra rv);have ap:=((al.below I).alloc (bG U yn va Q J)).alloc (cC rp rn ra rv);have ak:=aj _ ((I.alloc I.size (bG U yn va Q J)).alloc (by have:=I.size;simp at this ⊢;omega) (cC rp rn ra rv));clear I ai V al b1 aj;go_wp2_with fail;refine ak.mono ?_;rintro e aJ ⟨gv,rfl,ac,ae⟩;obtain ⟨ga,gc,rfl⟩:=aw ae;have Y:=ab.trans (ac.mono ab.size);have E:=Z _ _ aJ ae (ap.below ac);clear ac ae ak ab ap Z;go_wp2_with fail;refine E.mono ?_;rintro e aK ⟨rfl,ax⟩;have ah:=Y.trans (ax.mono Y.size);clear ax E Y
 cases R
 ·go_wp2;go_ret;exact ⟨rfl,ah⟩
 ·go_wp2;go_ret;exact ⟨rfl,ah⟩
def Qc(b sv ts tl t w)(h:MC b w sv ts tl):
  Calls prog 61 #[.agg #[sv],.agg #[an t.kind,an t.id,an t.rel,an t.sub,an t.who,an t.of]] w fun e w'=>e=bi (VJ (mY ts t))/\am w w':=by
 obtain ⟨sa,A,sc,rfl⟩:=h.form;have k:am w ((w.alloc (ba sa A sc)).alloc (cB t.kind t.id t.rel t.sub t.who t.of)):=((az w.heap.size w).alloc aH (ba sa A sc)).alloc ar (cB t.kind t.id t.rel t.sub t.who t.of);unfold mY
 cases h1:bW ts t.kind with
 |none=>exact D7 sa A sc t w 0 ⟨#[]⟩ none 0 0 (pS b _ ts tl t.kind t.rel _ (h.below k) h1)
 |some y=>
  cases h2:b8 y t.rel with
  |none=>
   simp only [h2];obtain ⟨I,Q,J,hc⟩:=pT b _ ts tl t.kind t.rel _ (h.below k) y h1 h2;exact D7 sa A sc t w _ _ I Q J hc
  |some r=>
   simp only [h2];obtain ⟨I,Q,J,rl,U,rv,C,D,R,hc⟩:=si b _ ts tl t.kind t.rel _ (h.below k) y h1 r h2;exact Qb b sa A sc t w _ _ I Q J _ _ U rv r.body h.blt R (D.okp r C) (D.okg r C) (D.wf r C) hc
def XK (h:aD:=by
 rintro k (rfl|⟨n,c,e⟩)
 ·exact .inl (.inl rfl)
 simp only [aK,aR,cg,fZ] at e;obtain ⟨rfl,_,_⟩:=e
 rcases A5 with h|h
 ·exact .inl (VK _ h)
 exact .inr Pf):aD:=h
def XL (h:aD:=by
 intro g n c e e';simp only [aK,aR,cg,fZ] at e;obtain ⟨rfl,_,_⟩:=e;obtain ⟨A,hc,_⟩:=dG O5;subst e';unfold aL at hc K5;rw [K5] at hc;simp at hc):aD:=h
def XN (h:aD:=by
 rcases H.row.2 with ⟨e,_⟩|⟨g',cap,A,e,_,_,_⟩
 ·rw [e] at hk;simp [Value.ownBlock] at hk
 rw [e] at hk ⊢;simp only [Value.ownBlock,aR] at hk;exact .inr ⟨_,_,by rw [hk]⟩):aD:=h
def Qd (h:aD:=by
 rw [cN,List.flatMap_singleton,bf];exact this):aD:=h
def VL(ts:List Ty)(gs:List Tu)(s:ae):Nat×List Tu:=if dM s=false then (2,gs) else if mY ts (b7 s).1≠0 then (mY ts (b7 s).1,gs) else if 0<=ld gs (b7 s).1 then (4,gs) else if gs.length=24 then (8,gs) else (0,gs++[(b7 s).1])
def L9(n w)(A:Laid w):Calls prog 41 #[VJ n] w fun e w'=>e=bi (.tuple #[au n,au 0])/\am w w':=by
 unfold VJ
 by_cases h:n=0
 ·subst h;rw [if_pos rfl];exact nO w
 rw [if_neg h];exact kw n w A
def Tryz.infoTu:(Tryz.prog.info? 123).map (fun i=>(i.zero,i.size,i.bytes))=some (some (.agg #[an ⟨#[]⟩,an ⟨#[]⟩,an ⟨#[]⟩,an ⟨#[]⟩,an ⟨#[]⟩,an ⟨#[]⟩]),6,96):=by kernel_rfl
def dE{S x}(h:x.grownBy y row)(A:∀k,row=some k->S k):bK S x y:=⟨h.os,h.tape,h.output,h.size,fun k C hs=>h.block k C (fun e=>hs (A k e.symm))⟩
def Qe{t}(H:PU w b mv lv (.slice ga gs.length gc) gs)(hB:am w W)(D:gs.length<1000)(C:(W.alloc o).drew.grownBy w5 (Value.slice ga gs.length gc).ownBlock)(O5:w5.ownsRow 0 123 6 (.slice (some ⟨g5,0,none⟩) (gs.length+1) be) (gs.length+1) (gs.flatMap k9++k9 t))(A5:(Value.slice ga gs.length gc).ownBlock=some g5\/g5=W.heap.size+1)(K5:aL w5 b #[mv,lv,.slice ga gs.length gc] 117):
  ky b mv lv (.slice ga gs.length gc) w (0,gs++[t]) (.returned (.int .i64 0)) (w5.setCell ⟨b,2,none⟩ (.slice (some ⟨g5,0,none⟩) (gs.length+1) be)):=by
 have VK:∀k,(Value.slice ga gs.length gc).ownBlock=some k->BG b (.slice ga gs.length gc) k:=fun k hk=>by
  exact XN
 have I:=H.blk.lt;refine ⟨_,rfl,⟨K5.set 2 _,?_,?_,by show (gs++[t]).length<=1000;simp;omega⟩,((bK.of_below ((hB.alloc hB.size o).drew)).trans (dE C VK)).set (.inl rfl) _,?_⟩
 ·show World.ownsRow _ 0 123 6 _ (gs++[t]).length ((gs++[t]).flatMap k9)
  have:=bU O5 K5 ax 2 (.slice (some ⟨g5,0,none⟩) (gs.length+1) be);exact Qd
 ·exact XL
 ·exact XK
def Hz(ap:GZ)(b bm:Nat)(s:ae)(w:af)(mv lv gv:ag)(gs:List Tu)(ts:List Ty)(tl:List (Ty×ag))(h:PU w b mv lv gv gs)(ah:MC bm w mv ts tl)(Q:ko w)(aE:1<w.heap.size)(ax:Laid w)(bb:gs.length<1000):
  Calls prog 28 #[bu b,an s] w (ky b mv lv gv w (VL ts gs s)):=by
 have C1:=zM ap s w Q aE;rw [Ki s] at C1;obtain ⟨t,aR,ay⟩:=zN s;rw [aR] at C1;unfold VL;clear aR
 cases ho:dM s
 ·rw [ho] at C1;rw [if_pos rfl];clear Q aE ap ho ay ah ax;go_enter func28,ntmps28;exact XJ
 ·rw [if_neg ar,<-ay ho];rw [ho] at C1;clear ho ay;obtain ⟨ga,gc,rfl⟩:=aw h.row;obtain ⟨sa,a8,sc,rfl⟩:=ah.form;have bg:=h.most;have aH:=fun w' (k:am w w')=>Qc bm _ ts tl t w' (ah.below k)
  have bc:=h.blk.lt;have aG:=fun w' (k:am w w')=>GX 0 _ gs t w' ai (aB h.row k)
  clear Q aE ap ah;generalize mY ts t=n at*;obtain ⟨r,I⟩:∃r,r=(if n≠0 then (n,gs) else if 0<=ld gs t then (4,gs) else if gs.length=24 then (8,gs) else (0,gs++[t])):=⟨_,rfl⟩;rw [<-I];have ad:=aj I;clear I;generalize ld gs t=m at*;go_enter func28,ntmps28;go_wp2_with fail;refine Hv ?_;intro w1 B1 U1 T1 hne D5;clear C1;go_wp2_with fail;have l1:=B1.size;generalize (w1.alloc (cB t.kind t.id t.rel t.sub t.who t.of))=W at*;obtain ⟨c0,c1,c2⟩:=three U1.blk;obtain ⟨t0,t1,t2,t3,t4,t5⟩:=T1.six;have aI:=aH W.drew B1.drew;have aY:=ax.lt;clear aH
  go_region_held3 (fun w'=>w'.cell? (aP b)=some (aA sa a8 sc)/\w'.cell? (aP w1.heap.size)=some (an t.kind)/\w'.cell? (aC w1.heap.size 1)=some (an t.id)/\w'.cell? (aC w1.heap.size 2)=some (an t.rel)/\w'.cell? (aC w1.heap.size 3)=some (an t.sub)/\w'.cell? (aC w1.heap.size 4)=some (an t.who)/\w'.cell? (aC w1.heap.size 5)=some (an t.of)) (go_keep)
   (first
   |(have ba:=D;go_at_call 41;refine ((fun w' (k:am w w')=>L9 n w' (ax.below k aY)) _ (B1.trans (D.mono l1))).mono ?_;rintro e aF ⟨rfl,aM⟩;have J:=(D.trans (aM.mono D.size));have f0:=ak c0 J;have f1:=ak t0 J;have f2:=ak t1 J;have f3:=ak t2 J;have f4:=ak t3 J;have f5:=ak t4 J;have f6:=ak t5 J;clear aM ba)
   |(go_at_call 61;refine aI.mono ?_;rintro e a9 ⟨rfl,aK⟩;have D:=((az _ W).drew.trans aK:am W a9);have d0:=ak c0 D;have d1:=ak t0 D;have d2:=ak t1 D;have d3:=ak t2 D;have d4:=ak t3 D;have d5:=ak t4 D;have d6:=ak t5 D;clear aK))
  have U:=B1.trans (J.mono l1);have au:=T1.below J;have a7:=U.size;clear d0 d1 d2 d3 d4 d5 d6 f0 f1 f2 f3 f4 f5 f6 c0 c1 c2 t0 t1 t2 t3 t4 t5 D J aI U1 T1 B1
  by_cases hn:n=0
  ·have aZ:((n:Int) != 0)=false:=by rw [hn];rfl
   have a6:((n:Int)==0)=true:=by rw [hn];rfl
   have I:=ad.u;rw [if_neg (by simpa using hn)] at I;have ab:=aj I;obtain ⟨c0,c1,c2⟩:=three (h.below U).blk;obtain ⟨t0,t1,t2,t3,t4,t5⟩:=au.six;have E:=aG aF.drew U.drew;clear I ad hn aG;go_wp2_with fail
   go_region_held3 (fun w'=>w'.cell? (aC b 2)=some (aA ga gs.length gc)/\w'.cell? (aP w1.heap.size)=some (an t.kind)/\w'.cell? (aC w1.heap.size 1)=some (an t.id)/\w'.cell? (aC w1.heap.size 2)=some (an t.rel)/\w'.cell? (aC w1.heap.size 3)=some (an t.sub)/\w'.cell? (aC w1.heap.size 4)=some (an t.who)/\w'.cell? (aC w1.heap.size 5)=some (an t.of)) (go_keep)
    ((go_at_call 62;refine E.mono ?_;rintro e R ⟨rfl,aN⟩;have D:=((az _ aF).drew.trans aN:am aF R);have d0:=ak c2 D;have d1:=ak t0 D;have d2:=ak t1 D;have d3:=ak t2 D;have d4:=ak t3 D;have d5:=ak t4 D;have d6:=ak t5 D;clear aN))
   have V:=U.trans (D.mono a7);have av:=h.below V;have aW:=au.below D;have bj:=V.size;clear d0 d1 d2 d3 d4 d5 d6 c0 c1 c2 t0 t1 t2 t3 t4 t5 D E au U
   by_cases Q:0<=m
   ·have I:=ab.u;rw [if_pos Q] at I;subst I;rw [kV Q];clear ab;go_wp2;go_ret;exact ky.same h V 4
   have I:=ab.u;rw [if_neg Q] at I;rw [l6 Q];have ac:=aj I;obtain ⟨c0,c1,c2⟩:=three av.blk;obtain ⟨t0,t1,t2,t3,t4,t5⟩:=aW.six;clear I ab Q
   by_cases Z:gs.length=24
   ·have I:=ac.u;rw [if_pos Z] at I;subst I;have aX:((gs.length:Int)==24)=true:=by rw [Z];rfl
    clear ac Z;go_wp2;go_ret;exact ky.same h V 8
   have I:=ac.u;rw [if_neg Z] at I;subst I;have aX:((gs.length:Int)==24)=false:=by rw [bR];omega
   clear ac Z;go_wp2_with fail;have al:=av.blk;have bi:=al.fz;have bl:=cd R _ c2;have bn:=cd R _ t0;have c7:(R.alloc (cB t.kind t.id t.rel t.sub t.who t.of)).cell? (aC b 2)=some (aA ga gs.length gc):=(al.alloc _).cell rfl;have bh:¬(b=R.heap.size):=by have:=al.lt;omega
   go_region_law (refine Bc rfl underlying115 Tryz.infoTu 0 (cP (av.row.alloc _)) ((al.alloc (cB t.kind t.id t.rel t.sub t.who t.of)).drew) R.heap.size 1 (k9 t) (R.heap.size+1) ?_;intro g5 be w5 aQ aO aJ bf Y;obtain ⟨bo,bp,br⟩:=three Y;have zq:=Y.fz;have aU:=Y;have aT:=aO;have aV:=aQ;have aS:=aJ;have bk:=Y.lt;clear Y aO aQ aJ)
   all_goals
    go_wp2;go_ret;exact Qe h V ai aT aV aS aU
  have aZ:((n:Int) != 0)=true:=by rw [gX];omega
  have a6:((n:Int)==0)=false:=by rw [bR];omega
  have I:=ad.u;rw [if_pos hn] at I;subst I;clear hn ad;go_wp2;go_ret;exact ky.same h U n
section
abbrev qc(a0:Int)(a1:ae)(a2:Int):Obj:=.cells #[au a0,an a1,au a2] 298
def Qg (h:aD:=by
 have A:=h.blk.lt;have hl:=h.low;exact k.but.below ai (fun g e=>by
  rcases e with e|e
  ·omega
  exact (h.row.lt g e).1)):aD:=h
def Qh (h:aD:=by
 rcases k.own i hi with e|e
 ·exact h.own i e
 exact .inr (aV h.but.size e)):aD:=h
structure Ins where
 does:Nat
 rel:ae
 tzo:Nat
def Kk(i:Ins):List ag:=[au i.does,an i.rel,au i.tzo]
structure WI(base:Nat)(w:af)(b:Nat)(rel:ae)(v:ag)(l:List Ins):Prop where
 blk:aL w b #[an rel,v] 293
 row:w.ownsRow base 298 3 v l.length (l.flatMap Kk)
 low:base<=b
variable {base:Nat}
def WI.below{l}(h:WI base w b rel v l)(k:am w w'):WI base w' b rel v l:=⟨h.blk.below k,aB h.row k,h.low⟩
def Tryz.infoIns:(Tryz.prog.info? 298).map (fun i=>(i.zero,i.size,i.bytes))=some (some (.agg #[au 0,an ⟨#[]⟩,au 0]),3,32):=by kernel_rfl
structure oD(b:Nat)(v:ag)(w w':af)(v':ag):Prop where
 but:bK (fun k=>k=b\/v.ownBlock=some k) w w'
 own:∀k,v'.ownBlock=some k->v.ownBlock=some k\/w.heap.size<=k
def oD.trans{x:af}{A:ag}(h:oD b v x y v')(k:oD b v' y z A):oD b v x z A where
 but:=⟨k.but.os.trans h.but.os,k.but.tape.trans h.but.tape,k.but.output.trans h.but.output,aV h.but.size k.but.size,fun i hi hs=>(k.but.block i (cM hi h.but.size) (fun e=>by
  rcases e with e|e
  ·exact hs (.inl e)
  rcases h.own i e with e|e
  ·exact hs (.inr e)
  omega)).trans (h.but.block i hi hs)⟩
 own:=fun i hi=>by
  exact Qh
def oD.of_below{x}(h:am x y):oD b v x y v:=⟨.of_below h,fun _ e=> .inl e⟩
def oD.below{l}(h:WI base w b rel v l)(k:oD b v w w' v'):Below base w w':=by
 exact Qg
def oD.blk(k:oD b v w w' v')(h:aL w g cs T)(A:g≠b)(C:v.ownBlock≠some g):aL w' g cs T:=k.but.blk h (fun e=>by
 rcases e with e|e
 ·exact A e
 exact C e)
def Kl(base b:Nat)(rel:ae)(v:ag)(l:List Ins)(i:Ins)(w:af)(e:Ending)(w':af):Prop:=∃v',e=bi (au l.length)/\oD b v w w' v'/\WI base w' b rel v' (l++[i])
def Mb{va vc l i}(H:WI base w b rel (aA va l.length vc) l)(hB:am w W)(I:(W.alloc o).drew.grownBy w5 (Value.slice va l.length vc).ownBlock)(J:w5.ownsRow base 298 3 (aA (some (aP g5)) (l.length+1) be) (l.length+1) (l.flatMap Kk++Kk i))(D:(Value.slice va l.length vc).ownBlock=some g5\/g5=W.heap.size+1)(C:aL w5 b #[an rel,aA va l.length vc] 293):
  Kl base b rel (aA va l.length vc) l i w (bi (au l.length)) (w5.setCell (aC b 1) (aA (some (aP g5)) (l.length+1) be)):=by
 have R:=H.low;have Q:=(hB.alloc hB.size o).drew;refine ⟨_,rfl,⟨((bK.of_below Q).trans (dE I (fun k A=> .inr A))).set (.inl rfl) _,fun k A=> ?_⟩,⟨C.set 1 _,?_,R⟩⟩
 ·simp only [Value.ownBlock,aR] at A
  rcases D with e|e
  ·exact .inl (by rw [e,A])
  exact .inr Pf
 have:=bU J C ax 1 (aA (some (aP g5)) (l.length+1) be);rw [cN,List.flatMap_singleton,bf];exact this
def jf(base b rel v l i w)(h:WI base w b rel v l)(ai:l.length<=100000):
  Calls prog 153 #[bu b,.agg #[au i.does,an i.rel,au i.tzo]] w (Kl base b rel v l i w):=by
 obtain ⟨U,V,rfl⟩:=aw h.row;have b1:=(az w.heap.size w).alloc aH (qc i.does i.rel i.tzo);have A:=h.below b1;have I:=aL.new w #[au i.does,an i.rel,au i.tzo] 298;have ag:=h.blk.lt;go_enter func153,ntmps153;go_wp2_with fail;generalize (w.alloc (qc i.does i.rel i.tzo))=W at*;obtain ⟨c0,c1⟩:W.cell? (aP b)=some (an rel)/\W.cell? (aC b 1)=some (aA U l.length V):=⟨A.blk.cell rfl,A.blk.cell rfl⟩;obtain ⟨ae,ay,aB⟩:W.cell? (aP w.heap.size)=some (au i.does)/\W.cell? (aC w.heap.size 1)=some (an i.rel)/\W.cell? (aC w.heap.size 2)=some (au i.tzo):=⟨I.cell rfl,I.cell rfl,I.cell rfl⟩;have D:=A.blk;have al:=D.fz;have ac:=A.row;have aj:=A.low;have ap:=cd W _ c1;have ar:=cd W _ ae;have c7:(W.alloc (qc i.does i.rel i.tzo)).cell? (aC b 1)=some (aA U l.length V):=(D.alloc _).cell rfl;have ak:¬(b=W.heap.size):=by have:=D.lt;omega
 have af:=D.lt
 go_region_law (refine Bc rfl underlying199 Tryz.infoIns base (cP (ac.alloc _)) ((D.alloc (qc i.does i.rel i.tzo)).drew) W.heap.size 1 (Kk i) (W.heap.size+1) ?_;intro g5 be w5 R Q J ah C;obtain ⟨av,ax⟩:=gh C;have zq:=C.fz;have ab:=C;have Z:=Q;have ad:=R;have Y:=J;have am:=C.lt;clear C Q R J)
 all_goals
  go_wp2;go_ret;exact Mb h b1 Z ad Y ab
end
def pm(l:List Ins)(k:Nat):List Ins:=match l[k]? with
 |some i=>l.set k ⟨i.does,i.rel,l.length⟩
 |none=>l
def D8{l}(h:k<l.length):pm l k=l.set k ⟨l[k].does,l[k].rel,l.length⟩:=by
 unfold pm;rw [aI h]
def Mc(l k):(pm l k).length=l.length:=by
 unfold pm
 split
 ·simp
 rfl
def Qi(u:Nat):∀(l:List Ins)(k:Nat)(h:k<l.length),(l.flatMap Kk).set (k*3+2) (au u)=(l.set k ⟨l[k].does,l[k].rel,u⟩).flatMap Kk
 | [],k,h=>by simp at h
 |i::l,0,_=>rfl
 |i::l,k+1,h=>by
  have A:=Qi u l k nv;rw [bM,r9 _ _ (by show 3<=_;omega),show (k+1)*3+2-(Kk i).length=k*3+2 by show (k+1)*3+2-3=_;omega,A,List.set_cons_succ,bM]
  rfl
def D9(base b rel v l k w)(h:WI base w b rel v l)(ab:l.length<=100000)(D:k<l.length):
  Calls prog 246 #[bu b,au k] w fun e w'=>e=bi (.tuple #[])/\oD b v w w' v/\WI base w' b rel v (pm l k):=by
 obtain ⟨g,c,e1,hc⟩:=bn Kk 3 (fun _=>rfl) h.row k l[k] (aI D);subst e1;have ad:w.cell? (aC g (k*3+2))=some (au l[k].tzo):=hc 2 _ ai rfl;obtain ⟨c0,c1⟩:=gh h.blk;obtain ⟨V,A,Y⟩:=dG h.row;have ac:=A.fz;have Z:(k:Int)<(l.length:Int):=ai;have Q:¬(g=b):=fun e=>by
  have C:=h.blk;subst e;unfold aL at A C;rw [C] at A;simp at A
 have R:¬(b=g):=fun e=>Q e.symm
 have J:=(show (w.setCell (aC g (k*3+2)) (au l.length)).ownsRow base 298 3 (aA (some (aP g)) l.length c) (pm l k).length ((pm l k).flatMap Kk) from by
  have:=oC h.row (k*3+2) (au l.length);rw [Mc,D8 D,<-Qi];exact this)
 have I:=h.blk.other (a:=⟨g,k*3+2,none⟩) R (au l.length);have U:=h.low;generalize l[k].tzo=t0 at*;clear h hc A;go_enter func246,ntmps246;go_wp2_with fail;have bl:bK (fun k=>k=b\/(Value.slice (some (aP g)) l.length c).ownBlock=some k) w (w.setCell (aC g (k*3+2)) (au l.length)):=(bK.refl _ w).set (.inr rfl) _
 go_region
 all_goals (
  go_end0;exact ⟨rfl,⟨bl.drew,fun _ e=> .inl e⟩,⟨I.drew,cP J,U⟩⟩)
def wm (h:aD:=by
 first|omega|(simp;omega)):aD:=h
def gQ(n:Nat)(r:ae)(each:Ins):List Ins:=[⟨1,⟨#[]⟩,0⟩,⟨3,r,n+5⟩,each,⟨6,⟨#[]⟩,0⟩,⟨10,⟨#[]⟩,n+1⟩]
def Md(l r each):pm (((((l++[⟨1,⟨#[]⟩,0⟩])++[⟨3,r,0⟩])++[each])++[⟨6,⟨#[]⟩,0⟩])++[⟨10,⟨#[]⟩,l.length+1⟩]) (l.length+1)=l++gQ l.length r each:=by
 have e:((((l++[⟨1,⟨#[]⟩,0⟩])++[⟨3,r,0⟩])++[each])++[⟨6,⟨#[]⟩,0⟩])++[⟨10,⟨#[]⟩,l.length+1⟩]=l++[⟨1,⟨#[]⟩,0⟩,⟨3,r,0⟩,each,⟨6,⟨#[]⟩,0⟩,(⟨10,⟨#[]⟩,l.length+1⟩:Ins)]:=ar;rw [e,D8 ar];unfold gQ;rw [r9 _ _ ai,show l.length+1-l.length=1 by omega];simp
def Qj(base b:Nat)(rel:ae)(v:ag)(l:List Ins)(r:ae)(each:Ins)(w:af)(e:Ending)(w':af):Prop:=∃v',e=bi (.tuple #[])/\oD b v w w' v'/\WI base w' b rel v' (l++gQ l.length r each)
def Ea(base b rel v l r each w)(h:WI base w b rel v l)(aO:l.length<=90000):
  Calls prog 210 #[bu b,an r,.agg #[au each.does,an each.rel,au each.tzo]] w fun e w'=>Qj base b rel v l r each w e w':=by
 have I:=(az w.heap.size w).alloc aH (qc each.does each.rel each.tzo);have al:=h.below I;have ab:=oD.of_below (b:=b) (v:=v) I;have Y:=aL.new w #[au each.does,an each.rel,au each.tzo] 298;have aA:w.heap.size≠b:=by have:=h.blk.lt;omega
 have ak:=(show v.ownBlock≠some w.heap.size from fun e=>by have:=(h.row.lt _ e).2;omega);have aj:=Md l r each;have J:((l.length+1:Nat):Int)=(l.length:Int)+1:=ai;go_enter func210,ntmps210;go_wp2_with fail;generalize w.alloc (qc each.does each.rel each.tzo)=W at*;have ah:=oD.of_below (b:=b) (v:=v) (az W.heap.size W);have Q:=jf base b rel _ l ⟨1,⟨#[]⟩,0⟩ W al ai;refine Q.mono ?_;rintro e w1 ⟨v1,rfl,am,aB⟩;have ac:=oD.trans ah am;have R:=jf base b rel _ (l++[⟨1,⟨#[]⟩,0⟩]) ⟨3,r,0⟩ w1 aB wm
 skip
 go_wp2_with fail;refine R.mono ?_;rintro e aJ ⟨aP,rfl,ap,aC⟩;have D:=oD.trans ac ap;have Z:=D.blk Y aA ak;obtain ⟨e0,e1,aN⟩:=three Z;have U:=jf base b rel _ ((l++[⟨1,⟨#[]⟩,0⟩])++[⟨3,r,0⟩]) each aJ aC wm
 skip
 go_wp2_with fail;refine U.mono ?_;rintro e aK ⟨aQ,rfl,av,aE⟩;have ad:=oD.trans D av;have V:=jf base b rel _ (((l++[⟨1,⟨#[]⟩,0⟩])++[⟨3,r,0⟩])++[each]) ⟨6,⟨#[]⟩,0⟩ aK aE wm
 skip
 go_wp2_with fail;refine V.mono ?_;rintro e aM ⟨aR,rfl,aw,aF⟩;have ae:=oD.trans ad aw;have A:=jf base b rel _ ((((l++[⟨1,⟨#[]⟩,0⟩])++[⟨3,r,0⟩])++[each])++[⟨6,⟨#[]⟩,0⟩]) ⟨10,⟨#[]⟩,l.length+1⟩ aM aF wm
 (dsimp only at A;rw [J] at A)
 go_wp2_with fail;refine A.mono ?_;rintro e w5 ⟨aT,rfl,ax,aG⟩;have af:=oD.trans ae ax;have C:=D9 base b rel _ _ (l.length+1) w5 aG aS ar;rw [aj,J] at C;go_wp2_with fail;refine C.mono ?_;rintro e aU ⟨rfl,ay,aI⟩;have ag:=ab.trans (oD.trans af ay);go_wp2;go_end0;exact ⟨_,rfl,ag,aI⟩
section
def bp(rel:ae):Nat->Ex->List Ins
 |m,⟨n,some x,some y⟩=>if n.kind=3 then bp rel m x++bp rel (m+(bp rel m x).length) y++[⟨6,⟨#[]⟩,0⟩]
  else bp rel m x++[⟨9,⟨#[]⟩,m+(bp rel m x).length+(bp rel (m+(bp rel m x).length+1) y).length+2⟩]++bp rel (m+(bp rel m x).length+1) y++[⟨if n.kind=4 then 7 else 8,⟨#[]⟩,0⟩]
 |m,⟨n,none,_⟩=>if n.kind=0 then gQ m rel ⟨4,⟨#[]⟩,0⟩ else if n.kind=1 then [⟨2,n.n1,0⟩] else gQ m n.n1 ⟨5,n.n2,0⟩
 |_,⟨_,some _,none⟩=>[]
def nQ(base b:Nat)(rel:ae)(v:ag)(l c:List Ins)(w:af)(e:Ending)(w':af):Prop:=∃v',e=bi (.tuple #[])/\oD b v w w' v'/\WI base w' b rel v' (l++c)
variable {base:Nat}
def WI.gkept{l}(h:WI base w b rel v l)(k:oD b v w w' v')(bb):o8 bb w w':=fun g cs f _ A=>k.but.block g (lt_of_some A) (fun e=>by
 rcases e with rfl|e
 ·have:=h.blk;unfold aL at this;rw [this] at A;simp at A
 rcases h.row.2 with ⟨C,_⟩|⟨g',cap,D,C,_,hc,_⟩
 ·rw [C] at e;simp [Value.ownBlock] at e
 rw [C] at e;simp only [Value.ownBlock,aR] at e;rw [e] at hc;rw [hc] at A;simp at A)
def Mg(base b:Nat)(rel v l)(p:Nat)(sa)(I D:Nat)(w)(h:WI base w b rel v l)(U:l.length<=90000):
  Calls prog 152 #[bu b,.iface 236 (.agg #[au p,aA sa I D])] w (nQ base b rel v l (gQ l.length rel ⟨4,⟨#[]⟩,0⟩) w):=by
 have f0:=ie;have f1:=hN;have f2:=hO;have f3:=eW;have f4:=gC;have A:=(az w.heap.size w).alloc aH (nz p sa I D);have Q:=oD.of_below (b:=b) (v:=v) A;have C:=Ea base b rel v l rel ⟨4,⟨#[]⟩,0⟩ _ (h.below A) U;have c0:w.cell? (aP b)=some (an rel):=h.blk.cell rfl;have Y:(w.alloc (nz p sa I D)).cell? (aP b)=some (an rel):=(h.below A).blk.cell rfl;have ac:=cd w _ c0;have Z:¬(w.heap.size=b):=by have:=h.blk.lt;omega
 have ab:¬(b=w.heap.size):=by have:=h.blk.lt;omega
 clear h A;go_enter func152,ntmps152;go_wp2_with fail;refine C.mono ?_;rintro e w1 ⟨v1,rfl,J,V⟩;have R:=Q.trans J;clear J C;go_wp2;go_end0;exact ⟨_,rfl,R,V⟩
def Qm(base b:Nat)(rel v l)(p:Nat)(s w)(h:WI base w b rel v l)(U:l.length<=90000):
  Calls prog 152 #[bu b,.iface 238 (.agg #[au p,an s])] w (nQ base b rel v l [⟨2,s,0⟩] w):=by
 have f1:=hN;have R:=mh;have A:=(az w.heap.size w).alloc aH (.cells #[au p,an s] 238);have D:=oD.of_below (b:=b) (v:=v) A;have C:=jf base b rel v l ⟨2,s,0⟩ _ (h.below A) ai;go_enter func152,ntmps152;go_wp2_with fail;refine C.mono ?_;rintro e w1 ⟨v1,rfl,J,Q⟩;have I:=D.trans J;go_wp2;go_end0;exact ⟨_,rfl,I,Q⟩
def Qn(base b:Nat)(rel v l)(p p1 p2:Nat)(s t w)(h:WI base w b rel v l)(Q:l.length<=90000):
  Calls prog 152 #[bu b,.iface 240 (.agg #[au p,au p1,an s,au p2,an t])] w (nQ base b rel v l (gQ l.length s ⟨5,t,0⟩) w):=by
 have f2:=hO;have U:=mi;have h2:=mj;have A:=(az w.heap.size w).alloc aH (k6 p p1 s p2 t);have D:=oD.of_below (b:=b) (v:=v) A;have C:=Ea base b rel v l s ⟨5,t,0⟩ _ (h.below A) Q;go_enter func152,ntmps152;go_wp2_with fail;refine C.mono ?_;rintro e w1 ⟨v1,rfl,J,R⟩;have I:=D.trans J;go_wp2;go_end0;exact ⟨_,rfl,I,R⟩
end
def Kq (h:aD:=by
 rw [bf];omega):aD:=h
def lL(rel e):∀n,(bp rel n e).length<=8*(aF e).length:=by
 induction e using Ex.ind with
 |h0 n r=>
  intro m;have:(aF ⟨n,none,r⟩).length=1:=by simp [aF]
  rw [this];unfold bp
  split
  ·simp [gQ]
  split
  ·simp
  simp [gQ]
 |h1 n a=>intro m;simp [bp]
 |h2 n a c iha NV=>
  intro m;refine BI ?_;intro A;rw [A];have h1:=iha m;have h2:=NV (m+(bp rel m a).length);have C:=NV (m+(bp rel m a).length+1);unfold bp
  split
  ·simp only [bf,List.length_cons,List.length_nil];omega
  simp only [bf,List.length_cons,List.length_nil];omega
def VO(base b:Nat)(rel:ae)(h:Nat)(e:Ex):Prop:=∀(v:ag)(l:List Ins)(w:af)(val:ag),bA h w e val->WI base w b rel v l->l.length+8*(aF e).length<=80000->Calls prog 152 #[bu b,val] w (nQ base b rel v l (bp rel l.length e) w)
def Eg(base b:Nat)(rel)(C:Nat)(x y)(am:VO base b rel C x)(an:VO base b rel C y)(v l)(p:Nat)(vx vy w)(U:bA C w x vx)(V:bA C w y vy)(h:WI base w b rel v l)(aG:l.length+8*((aF x).length+(aF y).length)+8<=80000):
  Calls prog 152 #[bu b,.iface 244 (.agg #[au p,vx,vy])] w (nQ base b rel v l (bp rel l.length x++bp rel (l.length+(bp rel l.length x).length) y++[⟨6,⟨#[]⟩,0⟩]) w):=by
 have f3:=eW;have aA:=jd;have aB:=je;have aI:=gB;obtain ⟨I,J,rfl⟩:=U.isI;obtain ⟨Q,yv,rfl⟩:=V.isI;have A:=(az w.heap.size w).alloc aH (.cells #[au p,.iface I J,.iface Q yv] 244);have ak:=h.below A;have ac:=oD.of_below (b:=b) (v:=v) A;have ab:=aL.new w #[au p,.iface I J,.iface Q yv] 244;have al:w.heap.size≠b:=by have:=h.blk.lt;omega
 have ah:=(fun e=>by have:=(h.row.lt _ e).2;omega:v.ownBlock≠some w.heap.size);have lx:=lL rel x l.length;have aJ:=lL rel y (l.length+(bp rel l.length x).length);have Y:=am v l _ _ (U.but (But.of_below A)) (h.below A) ai;have aj:=V.but (But.of_below A);generalize aC:bp rel l.length x=D at*;have ag:=(by rw [bf]:bp rel (l++D).length y=bp rel (l.length+D.length) y);generalize aE:bp rel (l.length+D.length) y=ay at*;go_enter func152,ntmps152;go_wp2_with fail;generalize (w.alloc (.cells #[au p,.iface I J,.iface Q yv] 244))=W at*;refine Y.mono ?_;rintro e w1 ⟨v1,rfl,f1,av⟩;have R:=an v1 (l++D) w1 _ (bA.frame (ak.gkept f1 C) _ _ aj) av Kq;rw [ag] at R;have e1:=f1.blk ab al ah;obtain ⟨aN,aO,aP⟩:=three e1;have ad:=ac.trans f1;go_wp2_with fail;refine R.mono ?_;rintro e ar ⟨ap,rfl,f2,aw⟩;have Z:=jf base b rel ap _ ⟨6,⟨#[]⟩,0⟩ ar aw (by rw [bf,bf];omega);have ae:=ad.trans f2;go_wp2_with fail;refine Z.mono ?_;rintro e aM ⟨aK,rfl,f3,ax⟩;have af:=ae.trans f3;go_wp2;go_end0;exact ⟨_,rfl,af,by simpa [ct] using ax⟩
def Eh(l cx cy d):pm ((((l++cx)++[⟨9,⟨#[]⟩,0⟩])++cy)++[⟨d,⟨#[]⟩,0⟩]) (l.length+cx.length)=l++(cx++[⟨9,⟨#[]⟩,l.length+cx.length+cy.length+2⟩]++cy++[⟨d,⟨#[]⟩,0⟩]):=by
 have e:(((l++cx)++[⟨9,⟨#[]⟩,0⟩])++cy)++[(⟨d,⟨#[]⟩,0⟩:Ins)]=(l++cx)++(⟨9,⟨#[]⟩,0⟩::(cy++[⟨d,⟨#[]⟩,0⟩])):=ar;have A:((l++cx)++((⟨9,⟨#[]⟩,0⟩:Ins)::(cy++[⟨d,⟨#[]⟩,0⟩])))[l.length+cx.length]? =some ⟨9,⟨#[]⟩,0⟩:=by
  rw [nG ar];simp
 rw [e];unfold pm;rw [A];simp only;rw [r9 _ _ ar,show l.length+cx.length-(l++cx).length=0 by simp,List.set_cons_zero];simp;omega
def wv(base b:Nat)(rel)(C:Nat)(x y)(aB:VO base b rel C x)(aC:VO base b rel C y)(v l)(p d:Nat)(vx vy w)(Y:bA C w x vx)(Z:bA C w y vy)(h:WI base w b rel v l)(aU:l.length+8*((aF x).length+(aF y).length)+8<=80000):
  Calls prog 211 #[bu b,.agg #[au p,vx,vy],au d] w (nQ base b rel v l (bp rel l.length x++[⟨9,⟨#[]⟩,l.length+(bp rel l.length x).length+(bp rel (l.length+(bp rel l.length x).length+1) y).length+2⟩]++bp rel (l.length+(bp rel l.length x).length+1) y++[⟨d,⟨#[]⟩,0⟩]) w):=by
 obtain ⟨I,J,rfl⟩:=Y.isI;obtain ⟨Q,yv,rfl⟩:=Z.isI;have D:=(az w.heap.size w).alloc aH (.cells #[au p,.iface I J,.iface Q yv] 242);have ax:=h.below D;have ag:=oD.of_below (b:=b) (v:=v) D;have af:=aL.new w #[au p,.iface I J,.iface Q yv] 242;have aA:w.heap.size≠b:=by have:=h.blk.lt;omega
 have ap:=(fun e=>by have:=(h.row.lt _ e).2;omega:v.ownBlock≠some w.heap.size);have lx:=lL rel x l.length;have aV:=lL rel y (l.length+(bp rel l.length x).length+1);have ac:=aB v l _ _ (Y.but (But.of_below D)) (h.below D) ai;have av:=Z.but (But.of_below D);generalize aR:bp rel l.length x=A at*;have al:=(by rw [bf,bf];rfl:bp rel ((l++A)++[(⟨9,⟨#[]⟩,0⟩:Ins)]).length y=bp rel (l.length+A.length+1) y);generalize aT:bp rel (l.length+A.length+1) y=ay at*;have am:=Eh l A ay d;have an:=(by omega:((l.length+A.length:Nat):Int)=(l.length:Int)+(A.length:Int));go_enter func211,ntmps211;go_wp2_with fail;generalize (w.alloc (.cells #[au p,.iface I J,.iface Q yv] 242))=W at*;refine ac.mono ?_;rintro e w1 ⟨v1,rfl,f1,ab⟩;have ad:=jf base b rel v1 _ ⟨9,⟨#[]⟩,0⟩ w1 ab Kq;have aw:=bA.frame (ax.gkept f1 C) _ _ av;go_wp2_with fail;refine ad.mono ?_;rintro e aJ ⟨aE,rfl,f2,aN⟩;have R:=aC aE _ aJ _ (bA.frame (ab.gkept f2 C) _ _ aw) aN (by rw [bf,bf];simp;omega);rw [al] at R;have V:=f1.trans f2;obtain ⟨aW,aX,aY⟩:=three (V.blk af aA ap);go_wp2_with fail;refine R.mono ?_;rintro e aK ⟨aG,rfl,f3,aO⟩;have ae:=jf base b rel aG _ ⟨d,⟨#[]⟩,0⟩ aK aO (by rw [bf,bf,bf];simp;omega);have ah:=V.trans f3;go_wp2_with fail;refine ae.mono ?_;rintro e aM ⟨aI,rfl,f4,aP⟩;have U:=D9 base b rel aI _ (l.length+A.length) aM aP aS ar;rw [am,an] at U;have aj:=ah.trans f4;go_wp2_with fail;refine U.mono ?_;rintro e w5 ⟨rfl,f5,aQ⟩;have ak:=ag.trans (aj.trans f5);go_wp2;go_end0;exact ⟨_,rfl,ak,aQ⟩
def Mh(base b:Nat)(rel)(A:Nat)(x y)(Z:VO base b rel A x)(ab:VO base b rel A y)(v l)(p:Nat)(vx vy w)(I:bA A w x vx)(J:bA A w y vy)(h:WI base w b rel v l)(Y:l.length+8*((aF x).length+(aF y).length)+8<=80000):
  Calls prog 152 #[bu b,.iface 245 (.agg #[au p,vx,vy])] w (nQ base b rel v l (bp rel l.length x++[⟨9,⟨#[]⟩,l.length+(bp rel l.length x).length+(bp rel (l.length+(bp rel l.length x).length+1) y).length+2⟩]++bp rel (l.length+(bp rel l.length x).length+1) y++[⟨7,⟨#[]⟩,0⟩]) w):=by
 have f4:=gC;have ag:=kM;have ah:=kN;have ai:=ig;have aj:=jU;obtain ⟨ad,ae,rfl⟩:=I.isI;obtain ⟨af,yv,rfl⟩:=J.isI;have D:=(az w.heap.size w).alloc aH (.cells #[au p,.iface ad ae,.iface af yv] 245);have Q:=oD.of_below (b:=b) (v:=v) D;have C:=wv base b rel A x y Z ab v l p 7 _ _ _ (I.but (But.of_below D)) (J.but (But.of_below D)) (h.below D) Y;go_enter func152,ntmps152;go_wp2_with fail;refine C.mono ?_;rintro e w1 ⟨v1,rfl,V,ac⟩;have R:=Q.trans V;have U:=ac;go_wp2;go_end0;exact ⟨_,rfl,R,U⟩
def Mi(base b:Nat)(rel)(A:Nat)(x y)(Z:VO base b rel A x)(ab:VO base b rel A y)(v l)(p:Nat)(vx vy w)(I:bA A w x vx)(J:bA A w y vy)(h:WI base w b rel v l)(Y:l.length+8*((aF x).length+(aF y).length)+8<=80000):
  Calls prog 152 #[bu b,.iface 246 (.agg #[au p,vx,vy])] w (nQ base b rel v l (bp rel l.length x++[⟨9,⟨#[]⟩,l.length+(bp rel l.length x).length+(bp rel (l.length+(bp rel l.length x).length+1) y).length+2⟩]++bp rel (l.length+(bp rel l.length x).length+1) y++[⟨8,⟨#[]⟩,0⟩]) w):=by
 have f5:=ii;have g5:=kO;have ag:=kP;have ah:=ij;have ai:=jV;have aj:=ik;obtain ⟨ad,ae,rfl⟩:=I.isI;obtain ⟨af,yv,rfl⟩:=J.isI;have D:=(az w.heap.size w).alloc aH (.cells #[au p,.iface ad ae,.iface af yv] 246);have Q:=oD.of_below (b:=b) (v:=v) D;have C:=wv base b rel A x y Z ab v l p 8 _ _ _ (I.but (But.of_below D)) (J.but (But.of_below D)) (h.below D) Y;go_enter func152,ntmps152;go_wp2_with fail;refine C.mono ?_;rintro e w1 ⟨v1,rfl,V,ac⟩;have R:=Q.trans V;have U:=ac;go_wp2;go_end0;exact ⟨_,rfl,R,U⟩
def Mj(base b rel bb e):VO base b rel bb e:=by
 induction e using Ex.ind with
 |h0 n r=>
  intro v l w val h A hl;have hp:(aF ⟨n,none,r⟩).length=1:=by simp [aF]
  rw [hp] at hl
  rcases h with ⟨D,sv,rfl,V⟩|⟨D,rfl⟩|⟨D,rfl⟩
  ·have C:bp rel l.length ⟨n,none,r⟩=gQ l.length rel ⟨4,⟨#[]⟩,0⟩:=by simp [bp,D]
   obtain ⟨sa,sc,rfl⟩:=aw V;rw [C];exact Mg base b rel v l _ _ _ _ w A ai
  ·have C:bp rel l.length ⟨n,none,r⟩=[⟨2,n.n1,0⟩]:=by simp [bp,D]
   rw [C];exact Qm base b rel v l _ _ w A ai
  have C:bp rel l.length ⟨n,none,r⟩=gQ l.length n.n1 ⟨5,n.n2,0⟩:=by simp [bp,D]
  rw [C];exact Qn base b rel v l _ _ _ _ _ w A ai
 |h1 n a=>intro v l w val h;exact h.elim
 |h2 n a c iha NV=>
  intro v l w val h A hl;refine BI ?_;intro U;rw [U] at hl;obtain ⟨Y,Z,rfl,Q,R⟩:=h
  by_cases k3:n.kind=3
  ·have I:fi n.kind=244:=by simp [fi,k3]
   rw [bp,if_pos k3,I];exact Eg base b rel bb a c iha NV v l _ _ _ w Q R A ai
  by_cases J:n.kind=4
  ·have I:fi n.kind=245:=by simp [fi,J]
   rw [bp,if_neg k3,if_pos J,I];exact Mh base b rel bb a c iha NV v l _ _ _ w Q R A ai
  have I:fi n.kind=246:=by simp [fi,k3,J]
  rw [bp,if_neg k3,if_neg J,I];exact Mi base b rel bb a c iha NV v l _ _ _ w Q R A ai
abbrev lh(a0:ae)(a1:Int)(a2:ae)(a3:TypeId)(a4:ag):Obj:=.cells #[an a0,au a1,an a2,.iface a3 a4] 198
abbrev BM:Obj:=.cells #[an ⟨#[]⟩,an ⟨#[]⟩,aA none 0 0] 201
abbrev wy(a0:ae):Obj:=.cells #[an a0,aA none 0 0] 293
def gF(t:ae)(e:Ex):List Ins:=bp t 0 e++[⟨0,⟨#[]⟩,0⟩]
def YW(k t:ae)(e:Ex)(w:af)(e':Ending)(w':af):Prop:=∃v',e'=bi (.agg #[an k,an t,v'])/\am w w'/\w'.ownsRow w.heap.size 298 3 v' (gF t e).length ((gF t e).flatMap Kk)
def XP{P fn p ty}(h:fn.results=#[.cell p ty])(tmps w g cs' t d)(D:tmps.getD p undef=bu g)(A:∃cs,aL w g cs t/\cs=cs')(I:P.underlying ty=some d)(C:(match d with| .struct _| .array _ _=>true|_=>false)=true)(hi:(P.info? ty).map (·.size)=some cs'.size):
  (results fn tmps).run P w=.ok (.agg cs') w:=by
 obtain ⟨cs,A,rfl⟩:=A;exact results_cell_row h tmps w g t cs (0,0) d D A I C hi
def HJ(ab:Nat)(k t)(pl:Nat)(e val w)(h:bA ab w e val)(ay:(aF e).length<=1000):
  Calls prog 101 #[.agg #[an k,au pl,an t,val]] w (YW k t e w):=by
 obtain ⟨A,C,rfl⟩:=h.isI;have Z:am w (((w.alloc (lh k pl t A C)).alloc BM).alloc (wy t)):=(((az w.heap.size w).alloc aH _).alloc ar _).alloc aS _;have Y:WI w.heap.size (((w.alloc (lh k pl t A C)).alloc BM).alloc (wy t)) (w.heap.size+1+1) t (aA none 0 0) []:=⟨aL.new' _ _ _ _ ar,bP,ai⟩;have av:=((aL.new w #[an k,au pl,an t,.iface A C] 198).alloc BM).alloc (wy t);have aj:=(aL.new' (w.alloc (lh k pl t A C)) #[an ⟨#[]⟩,an ⟨#[]⟩,aA none 0 0] 201 (w.heap.size+1) ar).alloc (wy t);have aB:=lL t e 0;have U:=Mj w.heap.size (w.heap.size+1+1) t ab e (aA none 0 0) [] _ _ (h.but (But.of_below Z)) Y aS;rw [List.length_nil] at U;go_enter func101,ntmps101;go_wp2_with fail;generalize (((w.alloc (lh k pl t A C)).alloc BM).alloc (wy t))=W at*;refine U.mono ?_;rintro e' w1 ⟨v1,rfl,f1,ae⟩;rw [List.nil_append] at ae;have af:=jf w.heap.size (w.heap.size+1+1) t v1 _ ⟨0,⟨#[]⟩,0⟩ w1 ae ai;go_wp2_with fail;refine af.mono ?_;rintro e' J ⟨aO,rfl,f2,R⟩;have Q:=f1.trans f2;have I:=Q.blk av ai (by simp [Value.ownBlock]);have D:=Q.blk aj ai (by simp [Value.ownBlock]);obtain ⟨aE,aG,aI,aJ⟩:J.cell? (aP w.heap.size)=some (an k)/\J.cell? (aC w.heap.size 1)=some (au pl)/\J.cell? (aC w.heap.size 2)=some (an t)/\J.cell? (aC w.heap.size 3)=some (.iface A C):=⟨I.cell rfl,I.cell rfl,I.cell rfl,I.cell rfl⟩;obtain ⟨aQ,aR,aT⟩:=three D;have aU:=D.fz;obtain ⟨ac,ad,rfl⟩:=aw R.row;obtain ⟨aK,aN⟩:=gh R.blk;have ag:=Z.trans (Q.below Y);go_wp2_with fail;have hn:(gF t e).length=(bp t 0 e).length+1:=by simp [gF]
 refine bE (v:=.agg #[an k,an t,aA ac ((bp t 0 e).length+1) ad]) (XP results101 _ _ (w.heap.size+1) _ 201 _ rfl ?hB underlying201 rfl aM) rfl ?post
 case hB=>exact ⟨_,(cY D),bQ⟩
 case post=>
  have ak:=R.row;have al:=bU ak D ax 0 (an k);have K1:=D.set 0 (an k);have ap:=bU al K1 ax 1 (an t);have ah:=K1.set 1 (an t);have V:=bU ap ah ax 2 (aA ac ((bp t 0 e).length+1) ad);refine ⟨_,rfl,(cq ag),?_⟩;rw [hn];rw [show (bp t 0 e++[(⟨0,⟨#[]⟩,0⟩:Ins)]).length=(bp t 0 e).length+1 from by simp] at V;exact V
abbrev gM:=@Option.some.inj
abbrev iW:=@List.pairwise_iff_getElem
abbrev qd:=@List.map_set
abbrev jM:=@List.getElem_set_ne
abbrev sH:=@List.mem_or_eq_of_mem_set
abbrev BO:=@List.pairwise_append
abbrev wz:=@Nat.lt_or_gt_of_ne
def XQ (h:aD:=by
 rw [hpe];exact ek.symm):aD:=h
def XR (h:aD:=by
 rw [hpe];exact e):aD:=h
def XT (h:aD:=by
 by_cases A:i=a
 ·subst A;rw [jF] at hk;rw [jM ai] at e;exact old b hb' ai e (by simpa [Value.ownBlock] using hk)
 rw [jM A] at hk
 by_cases C:i=b
 ·subst C;rw [jF] at e;exact old a ha ai hk (by simpa [Value.ownBlock] using e)
 rw [jM C] at e;exact hap a b ha hb' hab k hk e):aD:=h
def XU (h:aD:=by
 subst e;rw [jF];simp only [bf,List.length_cons,List.length_nil,cN,bM,jI,dU];exact hown):aD:=h
def Qo (h:aD:=by
 refine BO.2 ⟨h.ap,ar,fun p _ q A k C e=> ?_⟩;rw [aX] at A;subst A;simp [Value.ownBlock] at e):aD:=h
def Qp (h:aD:=by
 rcases wz hji with A|A
 ·exact hap j i hj hil A g hk XR
 exact hap i j hil hj A g XR hk):aD:=h
def Qq (h:aD:=by
 rcases wz e with A|A
 ·exact hap i j hil hj A k XQ hk
 exact hap j i hj hil A k hk XQ):aD:=h
def gj{α:Type}(n:Nat)(g:List (List α)):List (List α):=g++List.replicate (n-g.length) []
def gl{α:Type}(n:Nat)(x:α)(g:List (List α)):List (List α):=(gj n g).set (n-1) ((gj n g).getD (n-1) []++[x])
def jg{α:Type}(rk:α->Nat)(l:List α):List (List α):=l.foldl (fun g x=>gl (rk x) x g) []
def BP(rk:α->Nat)(l:List α)(x:α):jg rk (l++[x])=gl (rk x) x (jg rk l):=by simp [jg]
def UF(x:It):List ag:=[an x.1.1.name,au x.2.1.place,an x.2.1.name,x.2.2]
structure oE(base:Nat)(w:af)(sv:ag)(ps:List (ag×List It)):Prop where
 row:w.ownsRow base 196 1 sv ps.length (ps.map Prod.fst)
 inn:∀p∈ps,w.ownsRow base 198 4 p.1 p.2.length (p.2.flatMap UF)
 ap:ps.Pairwise (fun p q=>∀k,p.1.ownBlock=some k->q.1.ownBlock≠some k)
def oE.frame{base ps}(h:oE base w sv ps)(k:∀(g:Nat)(cs:Array ag)(T:TypeId)(f:Nat×Nat),w.heap[g]? =some (Obj.cells cs T f)->(T=196\/T=198)->w'.heap[g]? =w.heap[g]?):oE base w' sv ps:=
 ⟨ay h.row (fun g cs f _ A=>k g cs _ f A (.inl rfl)),fun p C=>ay (h.inn p C) (fun g cs f _ A=>k g cs _ f A (.inr rfl)),h.ap⟩
def oE.below{base ps}(h:oE base w sv ps)(k:am w w'):oE base w' sv ps:=h.frame (fun g cs T f A _=>k.block g (lt_of_some A))
def Mk(sv:ag)(ps:List (ag×List It))(k:Nat):Prop:=sv.ownBlock=some k\/∃p∈ps,p.1.ownBlock=some k
def oE.lt{base ps}(h:oE base w sv ps)(A:Mk sv ps k):base<=k/\k<w.heap.size:=by
 rcases A with e|⟨p,C,e⟩
 ·exact h.row.lt k e
 exact (h.inn p C).lt k e
def nR{base:Nat}(h:w.ownsRow base e size v n xs)(A:v.ownBlock=some k):∃cs,aL w k cs e:=by
 rcases h.2 with ⟨rfl,_⟩|⟨g,cap,C,rfl,_,D,_⟩
 ·cases A
 simp only [Value.ownBlock,aR] at A;subst A;exact ⟨C,D⟩
def oE.ty{base ps}(h:oE base w sv ps)(C:Mk sv ps k):∃cs T,aL w k cs T/\(T=196\/T=198):=by
 rcases C with e|⟨p,D,e⟩
 ·obtain ⟨cs,A⟩:=nR h.row e;exact ⟨cs,_,A,.inl rfl⟩
 obtain ⟨cs,A⟩:=nR (h.inn p D) e;exact ⟨cs,_,A,.inr rfl⟩
def oE.off{base ps}(h:oE base w sv ps)(C:aL w g cs T)(h1:T≠196)(h2:T≠198):¬Mk sv ps g:=fun e=>by
 obtain ⟨I,T',A,D⟩:=h.ty e;unfold aL at C A;rw [C] at A
 cases A
 rcases D with e|e
 ·exact h1 e
 exact h2 e
structure yI(sb:Nat)(sv:ag)(ps:List (ag×List It))(w w':af)(yz:ag)(ps':List (ag×List It)):Prop where
 but:bK (fun k=>k=sb\/Mk sv ps k) w w'
 own:∀k,Mk yz ps' k->Mk sv ps k\/w.heap.size<=k
section
variable {sb:Nat}{sv yz aaW:ag}{ps ps' aaX:List (ag×List It)}{w w' w'':af}
def yI.below(h:am w w'):yI sb sv ps w w' sv ps:=⟨.of_below h,fun _ e=> .inl e⟩
def yI.trans(h:yI sb sv ps w w' yz ps')(k:yI sb yz ps' w' w'' aaW aaX):yI sb sv ps w w'' aaW aaX where
 but:=⟨k.but.os.trans h.but.os,k.but.tape.trans h.but.tape,k.but.output.trans h.but.output,aV h.but.size k.but.size,fun i hi hs=>(k.but.block i (cM hi h.but.size) (fun e=>by
  rcases e with e|e
  ·exact hs (.inl e)
  rcases h.own i e with e|e
  ·exact hs (.inr e)
  omega)).trans (h.but.block i hi hs)⟩
 own:=fun i hi=>by
  exact Qh
def oE.push{base:Nat}(h:oE base w sv ps)(J:w.grownBy w' sv.ownBlock)(Q:w'.ownsRow base 196 1 (aA (some (aP g)) (ps.length+1) cap) (ps.length+1) (ps.map Prod.fst++[aA none 0 0])):oE base w' (aA (some (aP g)) (ps.length+1) cap) (ps++[(aA none 0 0,[])]):=by
 refine ⟨by simpa using Q,fun p D=> ?_,?_⟩
 ·rcases aW.1 D with D|D
  ·exact ay (h.inn p D) (fun g cs f _ I=>J.block g (lt_of_some I) (dV h.row I ax))
  rw [aX] at D;subst D;exact bP
 exact Qo
def yI.push{base}(h:oE base w sv ps)(I:w.grownBy w' sv.ownBlock)(D:sv.ownBlock=some g\/w.heap.size<=g)(u):yI sb sv ps w (w'.setCell (aP sb) u) (aA (some (aP g)) (ps.length+1) cap) (ps++[(aA none 0 0,[])]):=by
 refine ⟨(dE I (fun k C=> .inr (.inl C))).set (.inl rfl) _,fun k C=> ?_⟩
 rcases C with e|⟨p,A,e⟩
 ·simp only [Value.ownBlock,aR] at e;subst e
  rcases D with e|e
  ·exact .inl (.inl e)
  exact .inr e
 rcases aW.1 A with A|A
 ·exact .inl (.inr ⟨p,A,e⟩)
 rw [aX] at A;subst A;simp [Value.ownBlock] at e
def oE.put{base}{p:ag×List It}{x}(h:oE base w (aA (some (aP g0)) ps.length c0) ps)(hi:ps[i]? =some p)(I:w.grownBy w' p.1.ownBlock)(hown:w'.ownsRow base 198 4 (aA (some (aP g)) (p.2.length+1) cap) (p.2.length+1) (p.2.flatMap UF++UF x))(Q:p.1.ownBlock=some g\/w.heap.size<=g):
  oE base (w'.setCell (aC g0 i) (aA (some (aP g)) (p.2.length+1) cap)) (aA (some (aP g0)) ps.length c0) (ps.set i (aA (some (aP g)) (p.2.length+1) cap,p.2++[x])):=by
 have hil:i<ps.length:=by
  rcases fD i ps.length with h|h
  ·exact h
  rw [jD h] at hi;cases hi
 have U:p∈ps:=bF hi;have hpe:ps[i]=p:=by rw [aI hil] at hi;exact gM hi
 have J:w'.ownsRow base 196 1 (aA (some (aP g0)) ps.length c0) ps.length (ps.map Prod.fst):=ay h.row (fun g cs f _ D=>I.block g (lt_of_some D) (dV (h.inn p U) D ax));obtain ⟨Y,R,_⟩:=dG J;have hap:=iW.1 h.ap;refine ⟨?_,fun q V=> ?_,?_⟩
 ·have:=oC J i (aA (some (aP g)) (p.2.length+1) cap);rw [fV,qd];exact this
 ·obtain ⟨j,hj,rfl⟩:=dB V;rw [fV] at hj;refine bU ?_ R ax _ _
  by_cases e:i=j
  ·exact XU
  rw [jM e];refine cH (h.inn _ (br hj)) (fun k cs f hk D=>I.block k (lt_of_some D) (fun ek=> ?_));exact Qq
 ·refine iW.2 (fun a b ha hb' hab k hk e=> ?_);rw [fV] at ha hb';have old:∀j (hj:j<ps.length),j≠i->ps[j].1.ownBlock=some k->g=k->False:=fun j hj hji hk e=>by
   subst e
   rcases Q with e|e
   ·exact Qp
   have:=((h.inn _ (br hj)).lt g hk).2;omega
  exact XT
def yI.put{p:ag×List It}{l}(hi:ps[i]? =some p)(I:w.grownBy w' p.1.ownBlock)(D:p.1.ownBlock=some g\/w.heap.size<=g)(u):
  yI sb (aA (some (aP g0)) n c0) ps w (w'.setCell (aC g0 i) u) (aA (some (aP g0)) n c0) (ps.set i (aA (some (aP g)) (l.length) cap,l)):=by
 have C:p∈ps:=bF hi;refine ⟨(dE I (fun k h=> .inr (.inr ⟨p,C,h⟩))).set (.inr (.inl rfl)) _,fun k h=> ?_⟩
 rcases h with e|⟨q,A,e⟩
 ·exact .inl (.inl e)
 ·rcases sH A with A|rfl
  ·exact .inl (.inr ⟨q,A,e⟩)
  simp only [Value.ownBlock,aR] at e;subst e
  rcases D with e|e
  ·exact .inl (.inr ⟨p,C,e⟩)
  exact .inr e
def yI.ck{base:Nat}(h:oE base w sv ps)(k:yI sb sv ps w w' yz ps')(C:aL w sb #[sv] 194):KeepsFrom B w w'/\CK w w':=by
 have key:∀(i:Nat)(o:Obj),w.heap[i]? =some o->(o.isCells=false\/∃cs T f,o=.cells cs T f/\MT T)->w'.heap[i]? =w.heap[i]? :=fun i o hi ho=>k.but.block i (lt_of_some hi) (fun e=>by
  rcases e with e|e
  ·subst e;unfold aL at C;rw [C] at hi
   cases hi
   rcases ho with ho|⟨cs,T,f,ho,A⟩
   ·cases ho
   cases ho
   exact absurd A (by unfold MT;decide)
  obtain ⟨cs,T,D,I⟩:=h.ty e;unfold aL at D;rw [D] at hi
  cases hi
  rcases ho with ho|⟨Q,T',f',ho,A⟩
  ·cases ho
  cases ho
  rcases I with rfl|rfl<;>exact absurd A (by unfold MT;decide))
 exact ⟨⟨k.but.size,fun i o _ hi ho=>(key i o hi (.inl ho)).trans hi⟩,k.but.size,fun g cs T f J A=>key g _ J (.inr ⟨cs,T,f,rfl,A⟩)⟩
def yI.outer{base:Nat}(h:oE base w sv ps)(k:yI sb sv ps w w' yz ps')(h0:bK (fun k=>k=sb) W0 w)(A:W0.heap.size<=base):bK (fun k=>k=sb) W0 w':=
 ⟨k.but.os.trans h0.os,k.but.tape.trans h0.tape,k.but.output.trans h0.output,aV h0.size k.but.size,fun i hi hs=>(k.but.block i (cM hi h0.size) (fun e=>by
  rcases e with e|e
  ·exact hs e
  have:=(h.lt e).1;omega)).trans (h0.block i hi hs)⟩
def oE.set{base}(h:oE base w sv ps)(A:aL w g cs T)(h1:T≠196)(h2:T≠198)(o u):oE base (w.setCell (aC g o) u) sv ps:=⟨bU h.row A h1 o u,fun p C=>bU (h.inn p C) A h2 o u,h.ap⟩
def oE.base{base:Nat}(h:oE base w sv ps)(A:base'<=base):oE base' w sv ps:=⟨bk h.row A,fun p C=>bk (h.inn p C) A,h.ap⟩
def oE.oth{base:Nat}(h:oE base w sv ps)(C:w.grownBy w' row)(D:∀r,row=some r->∃o:Obj,w.heap[r]? =some o/\o.isCells=false):oE base w' sv ps:=h.frame (fun g cs T f A _=>C.block g (lt_of_some A) (fun e=>by
 obtain ⟨o,ho,hc⟩:=D g e.symm;rw [A] at ho
 cases ho
 cases hc))
end
def uJ:Op->Bool
 | .defer _=>true
 |_=>false
def wA{l:Nat}{o:Oper}{a:Act}{K:Act->af->Prop}{Q:Exit->Act->af->Prop}(A:uJ o.op=false)(h:o.wp P a w K Q):o.wpIn (Fence.wide.inRound l) n P a w K Q:=by
 refine ⟨fun _ _=>trivial,?_⟩;rw [show (Fence.wide.inRound l).round=some l from rfl,Oper.semAt_some l _ _ (fun c e=>by rw [e] at A;cases A)];unfold Oper.wp at h;generalize (execOp a.eval o).run P w=r at*
 cases r with
 |ok x w'=>
  cases x<;>simp only [Oper.upon,Oper.uponIn] at h ⊢<;>first|exact h|exact ⟨(fun e=>by cases e),sC l (jJ.2 h)⟩|exact ⟨(fun e=>by cases e),fun c cs _=>let ⟨v,w',r,s⟩:=h c cs;⟨v,w',r,stepsIn_wide.2 s⟩⟩
 |halt x w'=>cases x<;>simp only [Oper.upon,Oper.uponIn] at h ⊢<;>exact h
def oF{l n P md ops Q}(D:∀(i:Nat)(o:Oper),ops[i]? =some o->uJ o.op=false)(C:¬LetsOut Q):∀(fuel:Nat)(I:Array Bool)(a:Act)(w:af),wpAny P md ops Q fuel I a w->wpAnyIn (Fence.wide.inRound l) n P md ops Q fuel I a w
 |0,_,_,_,h=>h
 |fuel+1,I,a,w,h=>⟨h.1,fun i hi=>by
  have A:=h.2 i hi;unfold wpOp at A;unfold wpOpIn
  cases ho:ops[i]? with
  |none=>
   simp only [ho] at A ⊢;exact oF D C fuel _ _ _ A
  |some o=>
   simp only [ho] at A ⊢
   by_cases J:Region.wanted o (yielded ops a.tmps)=true
   ·rw [if_pos J] at A ⊢
    rcases A with A|⟨_,A⟩
    ·exact Oper.wpIn_mono (fun a w=>oF D C fuel _ a w) (wA (D i o ho) A)
    exact absurd A C
   rw [if_neg J] at A ⊢;exact ⟨fun _ _=>trivial,oF D C fuel _ _ _ A⟩⟩
def QN(Q:Exit->Act->af->Prop):Exit->Act->af->Prop:=fun e a w=>e=.normal/\Q .normal a w
def qU{S l id ops Q a}(J:P.follows .mixedOrders=true)(D:(ops.all fun o=> !(uJ o.op))=true)(C:S w.drew)(h:S w.drew->wpAnyH P .any ops (QN Q) S ops.size (Array.replicate ops.size false) a w.drew):(Code.region id ops true).wpIn (Fence.wide.inRound l) n P Q a w:=by
 have A:¬LetsOut (QN Q):=by
  rintro ⟨_,_,e,_⟩
  cases e
 have I:∀(i:Nat)(o:Oper),ops[i]? =some o->uJ o.op=false:=fun i o ho=>by
  obtain ⟨hi,rfl⟩:=Array.getElem?_eq_some_iff.1 ho
  simpa using Array.all_eq_true.1 D i hi
 exact wpIn_mono (Q:=QN Q) (wpIn_region_any J (oF I A _ _ _ _ (wpAny_of_held _ _ _ _ (h C)))) (fun e a w h=>by rw [h.1];exact h.2)
section
open Go.Shelf
abbrev sI:Obj:=.cells #[aA none 0 0] 194
def aaY (h:aD:=by
 obtain ⟨k0,k1,k2,k3,k4⟩:=hH;exact ⟨ak k0 HBD,ak k1 HBD,ak k2 HBD,ak k3 HBD,ak k4 HBD⟩):aD:=h
def HK (h:aD:=by
 intro w' A;obtain ⟨k0,k1,C,k3,D⟩:=A
 go_simp
 all_goals with_reducible rfl):aD:=h
attribute [local go_sem] Oper.semAt_some
def kS{l:Nat}{I:Array Oper}{o:Oper}{a:Act}{Q:Exit->Act->af->Prop}(ad:o.guard=none)(s x:Operand)(t:TypeId)
  (ho:o.op=.call {callee:=.builtin .append,args:=#[s,x],argTypes:=#[t,t]})
  (base:Nat) (e:TypeId) (i:TypeInfo) (z:ag) (size bytes:Nat) (am:P.underlying t=some (.slice e)) (hi:P.info? e=some i) (ap:i.zero=some z)
  (ak:i.size=size) (ab:i.bytes=bytes) (ar:z.cells.size=size) (al:0<size)
  (v:ag) (k:Nat) (D:List ag) (hs:a.eval s=v) (aj:w.ownsRow base e size v k D)
  (C:Addr) (m c:Nat) (A:List ag) (an:a.eval x=.slice (some C) m c) (ae:A.length=m*size) (ai:∀j u,A[j]? =some u->w.cell? (C.add j)=some u) (h1:∀u∈A,u.oneCell'=true)
  (ah:0<m) (V:k+m<=maxLen) (ac:(k+m)*bytes<=140737488355328) (hbase:base<=w.heap.size) (H:Nat) (Y:w.heap.size=H)
  (h:∀g cap w',w'.ownsRow base e size (.slice (some ⟨g,0,none⟩) (k+m) cap) (k+m) (D++A)->w.grownBy w' v.ownBlock->(v.ownBlock=some g\/g=H)->g<w'.heap.size->wpListIn (Fence.wide.inRound l) n P I Q rest (a.put o.dst (.slice (some ⟨g,0,none⟩) (k+m) cap)) w'):wpListIn (Fence.wide.inRound l) n P I Q (o::rest) a w:=
 wpListIn_plain ad fun _ Z=>wA (by rw [ho];rfl) (wp_append_lies w s x t ho base e i z size bytes am hi ap ak ab ar al v k D hs aj C m c A an ae ai h1 ah V ac hbase H Y fun g cap w' h2 J R U=>Z _ _ (h g cap w' h2 J R U))
def Tryz.infoRu:(Tryz.prog.info? 198).map (fun i=>(i.zero,i.size,i.bytes))=some (some (.agg #[an ⟨#[]⟩,au 0,an ⟨#[]⟩,.nilIface]),4,56):=by kernel_rfl
def Tryz.infoRus:(Tryz.prog.info? 196).map (fun i=>(i.zero,i.size,i.bytes))=some (some (aA none 0 0),1,24):=by kernel_rfl
def XV(ts:List Ty)(x:It):Nat:=(cT ts [(x.1.1.name,x.2.1.name)]).length
def sJ(nd):∀(k:Nat)(q f:List Sp),f.length<=(ed nd k q f).length
 |0,_,f=>by simp [ed]
 |k+1,[],f=>by simp [ed]
 |k+1,x::q,f=>by
  unfold ed
  split
  ·exact sJ nd k _ f
  exact aV ar (sJ nd k _ (f++[x]))
def YX(ts x):1<=XV ts x:=by
 unfold XV cT;generalize (x.1.1.name,x.2.1.name)=s;obtain ⟨k,A⟩:∃k,eT ts [s]+1=k+1:=⟨_,rfl⟩;rw [A];unfold ed;rw [if_neg ar];exact aV ar (sJ _ _ _ _)
def rk_le{tl}(h:MC b w sv ts tl)(x):XV ts x<=1000001000001:=by
 have h1:=tP ts [(x.1.1.name,x.2.1.name)];have h2:=sx h [(x.1.1.name,x.2.1.name)] ar;unfold XV;omega
def Qr{g A:List (List α)}(h:g=A++List.replicate j [])(D:n<=g.length)(C:g.length<=max A.length n):g=gj n A:=by
 subst h;unfold gj;rw [bf,vV] at D C;rw [show n-A.length=j by omega]
def Qs(w:af)(g:Nat):Nat:=match w.cell? (aP g) with
 |some (.slice _ n _)=>n
 |_=>0
def Ei{a}(h:w.cell? (aP g)=some (aA a n c)):Qs w g=n:=by unfold Qs;rw [h]
structure VP(sb:Nat)(rk:It->Nat)(W0:af)(pre:List It)(W:af)(sv:ag)(ps:List (ag×List It)):Prop where
 but:bK (fun k=>k=sb) W0 W
 blk:aL W sb #[sv] 194
 st:oE W0.heap.size W sv ps
 snd:ps.map Prod.snd=jg rk pre
 len:ps.length<=1000001000001
 inn:∀p∈ps,p.2.length<=pre.length
def VP.oth{rk ps}(h:VP sb rk W0 pre W sv ps)(A:W.grownBy W' row)(C:∀r,row=some r->W0.heap.size<=r/\∃o:Obj,W.heap[r]? =some o/\o.isCells=false):VP sb rk W0 pre W' sv ps:=
 ⟨⟨A.os.trans h.but.os,A.tape.trans h.but.tape,A.output.trans h.but.output,aV h.but.size A.size,fun k D hs=>(A.block k (cM D h.but.size) (fun e=>by have:=(C k e.symm).1;omega)).trans (h.but.block k D hs)⟩,
  fW (β:=Unit) W0.heap.size _ _ _ () W W' row h.blk A C,h.st.oth A (fun r e=>(C r e).2),h.snd,h.len,h.inn⟩
def VP.below{rk ps}(h:VP sb rk W0 pre W sv ps)(k:am W W'):VP sb rk W0 pre W' sv ps:=
 ⟨h.but.trans (.of_below k),h.blk.below k,h.st.below k,h.snd,h.len,h.inn⟩
def wB{A ps:List (ag×List It)}(h:A.map Prod.snd=ps.map Prod.snd++List.replicate j [])(C:∀p∈ps,p.2.length<=n):∀p∈A,p.2.length<=n:=fun p D=>by
 have h1:p.2∈A.map Prod.snd:=aU.2 ⟨p,D,rfl⟩;rw [h] at h1
 rcases aW.1 h1 with h1|h1
 ·obtain ⟨q,I,e⟩:=aU.1 h1;rw [<-e];exact C q I
 rw [GY h1];exact gU _
def Ml{A ps:List (ag×List It)}{pl:List It}{x:It}(D:N-1<A.length)(C:A[N-1]? =some (pv,pl))(h:A.map Prod.snd=gj N (ps.map Prod.snd)):(A.set (N-1) (v',pl++[x])).map Prod.snd=gl N x (ps.map Prod.snd):=by
 unfold gl;rw [qd,<-h]
 congr 2
 rw [eA,et,C]
 rfl
def Ej{rk w3 sv1 ps Qt pl x}(V:am W w3)(A:VP sb rk W0 pre w3 sv1 ps)(ac:yI sb sv1 ps w3 wr (aA (some (aP g0)) Qt.length sc) Qt)(ab:aL wr sb #[aA (some (aP g0)) Qt.length sc] 194)(ae:oE W0.heap.size wr (aA (some (aP g0)) Qt.length sc) Qt)(ag:N-1<Qt.length)(au:¬Qt.length<N)(C:Qt[N-1]? =some (pv,pl))(ad:∃j,Qt.map Prod.snd=ps.map Prod.snd++List.replicate j [])(ai:Qt.length<=max ps.length N)(ar:N<=1000001000001)(an:rk x=N)(R:(wr.alloc o).drew.grownBy w5 pv.ownBlock)(ak:w5.ownsRow W0.heap.size 198 4 (aA (some (aP g5)) (pl.length+1) be) (pl.length+1) (pl.flatMap UF++UF x))(ah:pv.ownBlock=some g5\/g5=wr.heap.size+1):
  KeepsFrom W0.heap.size W (w5.setCell (aC g0 (N-1)) (aA (some (aP g5)) (pl.length+1) be))/\CK W (w5.setCell (aC g0 (N-1)) (aA (some (aP g5)) (pl.length+1) be))/\∃sv ps,VP sb rk W0 (pre++[x]) (w5.setCell (aC g0 (N-1)) (aA (some (aP g5)) (pl.length+1) be)) sv ps:=by
 have J:am wr ((wr.alloc o).drew):=((az _ wr).alloc aH o).drew;have I:=ae.below J;have Y:(pv,pl).1.ownBlock=some g5\/(wr.alloc o).drew.heap.size<=g5:=by
  rcases ah with e|e
  ·exact .inl e
  exact .inr aS
 have F:=(ac.trans (yI.below J)).trans (yI.put (sb:=sb) (l:=pl++[x]) (cap:=be) C R Y (aA (some (aP g5)) (pl.length+1) be));have D:=ab.below J;have af:aL w5 sb _ 194:=(R.block _ D.lt (own_ne (I.inn _ (bF C)) D ax)).trans D;obtain ⟨c1,c2⟩:=F.ck (B:=W0.heap.size) A.st A.blk;obtain ⟨j,Z⟩:=ad;have al:=Qr (n:=N) Z (by rw [bN];omega) (by rw [bN,bN];exact ai);have av:=A.len;obtain ⟨ap,Q,_⟩:=dG I.row;have aj:sb≠g0:=fun e=>by
  subst e;unfold aL at Q D;rw [D] at Q;simp at Q
 refine ⟨(jK V).trans c1,(CK.below V).trans c2,_,Qt.set (N-1) (aA (some (aP g5)) (pl.length+1) be,pl++[x]),⟨F.outer A.st A.but aH,af.other aj _,?_,?_,?_,?_⟩⟩
 ·exact I.put C R ak Y
 ·rw [BP,an,<-A.snd];exact Ml ag C al
 ·rw [fV];omega
 ·intro q U;rw [bf];have h2:=wB Z A.inn
  rcases sH U with U|rfl
  ·have:=h2 q U;simp;omega
  have:=h2 _ (bF C);simp at this ⊢;omega
def HM{cs'}(h:aL w g cs T)(A:aL w g' cs' T')(C:T≠T'):g≠g':=fun e=>by
 subst e;unfold aL at h A;rw [h] at A
 cases A
 exact C rfl
def YY(ts:List Ty)(b:Nat)(L:List It)(w:af)(e:Ending)(w':af):Prop:=∃v ps,e=bi v/\am w w'/\oE w.heap.size w' v ps/\ps.map Prod.snd=jg (XV ts) L/\ps.length<=1000001000001/\∀p∈ps,p.2.length<=L.length
def Mm(b aW ts tl w)(h:MC b w aW ts tl)(aN:Ty×ag->List (Rl×ag))(bZ:Vx b w tl aN):
  Calls prog 100 #[.agg #[aW]] w (YY ts b (qM aN tl) w):=by
 obtain ⟨i0,cx,cL,cM,cN⟩:=eN Tryz.infoRus;obtain ⟨cO,cy,cH,cI,cJ⟩:=eN Tryz.infoRu;obtain ⟨Q,mn,mc,rfl⟩:=h.form;refine (jJ (n:=8)).1 ?_;refine callsIn_of_wp_marks func100 rfl trivial ?_ rfl;simp only [ntmps100,sA,List.length_cons,List.length_nil,Nat.reduceAdd,Nat.reduceSub,vZ,Array.replicate_zero,v6,v7,List.nil_append,List.cons_append];gi_wp2_with fail;refine ⟨trivial,(jJ.2 (pj _ _ ⟨_,_,_,rfl⟩)).mono ?_⟩;rintro e w' ⟨rfl,rfl⟩;gi_wp2_with fail;have av:am w (((w.alloc (ba Q mn mc)).alloc sI).alloc (ba Q mn mc)):=(((az _ w).alloc aH _).alloc ar _).alloc aS _;have bT:aL (((w.alloc (ba Q mn mc)).alloc sI).alloc (ba Q mn mc)) w.heap.size #[aA Q mn mc] 75:=((aL.new w _ _).alloc _).alloc _;have aX:aL (((w.alloc (ba Q mn mc)).alloc sI).alloc (ba Q mn mc)) (w.heap.size+1) pF 194:=(aL.new' (w.alloc (ba Q mn mc)) _ _ (w.heap.size+1) ar).alloc _;have bS:aL (((w.alloc (ba Q mn mc)).alloc sI).alloc (ba Q mn mc)) (w.heap.size+1+1) #[aA Q mn mc] 75:=aL.new' _ _ _ _ ar;have aO:=h.below av;have hF:Vx b (((w.alloc (ba Q mn mc)).alloc sI).alloc (ba Q mn mc)) tl aN:=fun p a6=>(bZ p a6).below av
 obtain ⟨W0,b2⟩:∃W0,(((w.alloc (ba Q mn mc)).alloc sI).alloc (ba Q mn mc))=W0:=⟨_,rfl⟩;rw [b2] at av bT aX bS aO hF ⊢;clear b2 bZ;obtain ⟨L,bh⟩:∃L:List {x:It // Bu b W0 tl x},L.map Subtype.val=qM aN tl:=v8 _ _ (Ha hF);have cX:L.length<=1000000:=by
  have h1:L.length=(qM aN tl).length:=by rw [<-bh,bN]
  have h2:(qM aN tl).length<=tl.length*1000:=iq _ 1000 tl (fun p a6=>by have:=(hF p a6).llen;simpa using this);have bW:tl.length<=1000:=by have:=aO.llen;simpa using this
  omega
 refine wpIn_rangeFunc_ownH (F:=Fence.wide) rfl ax (gf:=208) (lb:=#[bu (w.heap.size+1+1)]) rfl trivial (enters_of func208 aM rfl)
  (zu b W0 _ ts tl aO aN hF _ ax _ bS L bh) (fun h k=>CK.trans h k) (CK.b (w:=W0)) bo (fun _=>rfl)
  (fun pre W=>∃aW ps,VP (w.heap.size+1) (XV ts) W0 (pre.map Subtype.val) W aW ps)
  (fun bU pre W=>False)
  (fun pre X bf row hs aG aU=>by obtain ⟨aW,ps,h⟩:=hs;exact ⟨aW,ps,h.oth aG aU⟩)
  (fun bU s X bf row hs aG aU=>hs)
  ⟨aA none 0 0,[],⟨bK.refl _ _,aX,⟨bP,(fun _ h=>by cases h),List.Pairwise.nil⟩,rfl,ar,(fun _ h=>by cases h)⟩⟩
  (fun x a' W=>∃R,W0.heap.size<=R/\aL W R #[au x.1.1.1.place,an x.1.1.1.name,x.1.1.2] 110/\aL W (R+1) #[au x.1.2.1.place,an x.1.2.1.name,x.1.2.2] 159/\a'={tmps:=#[.agg #[aA Q mn mc],bu w.heap.size,aA none 0 0,bu (w.heap.size+1),bu R,bu (R+1),undef,.agg #[aA Q mn mc],.func (.func 208) #[] #[bu (w.heap.size+1+1)],.agg #[au x.1.1.1.place,an x.1.1.1.name,x.1.1.2],.agg #[au x.1.2.1.place,an x.1.2.1.name,x.1.2.2],undef,undef,undef,undef,undef,undef,undef,undef,undef,undef,undef,undef,undef,undef,undef,undef,undef,undef,undef,undef,undef,undef,undef,undef,undef,undef,undef,undef,undef,undef,undef,undef,undef,undef,undef],defers:=[]})
  (fun x a' _ X bf row hs aG aU=>by
   obtain ⟨R,h1,h2,bW,cr⟩:=hs;exact ⟨R,h1,fW (β:=Unit) W0.heap.size _ _ _ () X bf row h2 aG aU,fW (β:=Unit) W0.heap.size _ _ _ () X bf row bW aG aU,cr⟩)
  ?assign ?body ?done ?stop
 case assign=>
  rintro l pre x W K ⟨bn,ps,V⟩ I;obtain ⟨⟨⟨t,tv⟩,⟨r,cp⟩⟩,bl⟩:=x;obtain ⟨rl,ap,aT⟩:=bl.2;simp only at ap aT I;obtain ⟨ad,af,ae,rfl⟩:=ap.form;obtain ⟨Y,rv,aZ⟩:=(ap.ex _ aT).isI;simp only at aZ;subst aZ;simp only [itE];have b1:=(az _ W).alloc aH (bG t.place t.name ad af ae);have bR:=b1.alloc b1.size (cC r.place r.name Y rv);gi_wp2_with fail;exact I _ _ (((Bt _ _).trans (Bt _ _)).from _) (CK.below bR) ⟨bn,ps,V.below bR⟩ ⟨W.heap.size,V.but.size,(aL.new W _ _).alloc _,aL.new' _ _ _ _ ar,rfl⟩
 case body=>
  rintro l pre x a' W hl ⟨rr,aU⟩ ⟨bn,ps,V⟩ ⟨R,cW,al,ab,rfl⟩ c2;obtain ⟨⟨⟨t,tv⟩,⟨r,cp⟩⟩,bl⟩:=x;obtain ⟨rl,ap,aT⟩:=bl.2;simp only at ap aT al ab;obtain ⟨ad,af,ae,rfl⟩:=ap.form;obtain ⟨Y,rv,aZ⟩:=(ap.ex _ aT).isI;simp only at aZ;subst aZ;obtain ⟨t0,t1,t2⟩:=al.three;obtain ⟨bC,bD,bE⟩:=ab.three;have cR:W.cell? (aP w.heap.size)=some (aA Q mn mc):=(V.but.blk bT ai).cell rfl;have b6:KT W0 W:=fun g cs T f ac cE=>V.but.block g (lt_of_some ac) (fun e=>by
   subst e;unfold aL at aX;rw [aX] at ac
   cases ac
   exact absurd cE ax)
  have bx:am W (W.alloc (jE t.name r.name)):=bo.alloc aH _;have cD:=sx aO [(t.name,r.name)] ar;have C:=nI b W.heap.size _ ts tl (aA (some (aP W.heap.size)) 1 1) [(t.name,r.name)] _ ((aO.kt b6 V.but.size).below bx) ⟨rfl,.inr ⟨W.heap.size,1,#[an t.name,an r.name],rfl,bV _,aL.new W _ _,ar,ax,rfl,rfl⟩⟩ bx.size ai;have ci:=YX ts ((t,aA ad af ae),(r,.iface Y rv));have bL:=rk_le aO ((t,aA ad af ae),(r,.iface Y rv));change (1<=(cT ts [(t.name,r.name)]).length) at ci;change ((cT ts [(t.name,r.name)]).length<=1000001000001) at bL;generalize b0:(cT ts [(t.name,r.name)]).length=N at*;have cj:=show XV ts ((t,aA ad af ae),(r,.iface Y rv))=N from b0
  have cV:=ab.lt;have cm:=show pre.length<=1000000 by omega
  clear ap aT b0 cD b6;gi_wp2_with fail;refine ⟨trivial,(sC l (jJ.2 C)).mono ?_⟩;rintro e cQ ⟨dg,rfl,b4,cB,b7⟩;obtain ⟨de,df,rfl⟩:=aw b7;have a9:=bx.trans b4;have ah:=V.below a9;have bJ:=al.below a9;have bI:=ab.below a9;clear b4 cB b7 C V al ab t0 t1 t2 bC bD bE cR;gi_wp2_with fail
  gi_loopw [22] (fun u wr=>∃a8 J,yI (w.heap.size+1) bn ps cQ wr a8 J/\aL wr (w.heap.size+1) #[a8] 194/\oE W0.heap.size wr a8 J/\(∃j,J.map Prod.snd=ps.map Prod.snd++List.replicate j [])/\J.length<=max ps.length N) (fun u wr=>N-Qs wr (w.heap.size+1))
  ·exact ⟨bn,ps,yI.below bo,ah.blk,ah.st,aj ⟨0,ar⟩,ai⟩
  obtain ⟨a8,J,a5,aF,aJ,bt,cA⟩:=hrel;obtain ⟨sa,sc,rfl⟩:=aw aJ.row;have bH:wr.cell? (aP (w.heap.size+1))=some (aA sa J.length sc):=aF.cell rfl;have sz:=aF.fz;have c4:=ah.len;have cF:W0.heap.size<=wr.heap.size:=by have:=ah.but.size;have:=a5.but.size;omega
  have c7:=aF.lt
  by_cases cz:J.length<N
  ·have ct:(J.length:Int)<(N:Int):=by omega
   have c1:J.length<=1000001000001:=ai;have cg:=Ei bH;gi_wp2_with (gi_at_builtin;go_must (refine kS rfl _ _ 194 rfl W0.heap.size 196 i0 _ 1 24 underlying194 cx cL cM cN rfl ax (aA sa J.length sc) J.length (J.map Prod.fst) rfl ?hown ⟨wr.heap.size,0,none⟩ 1 1 [aA none 0 0] rfl rfl ?hnews ?hone ax ?h63 ?hbytes ?hbase (wr.heap.size+1) ?hH ?hrest))
   case hown=>exact aJ.row.alloc _
   case hnews=>exact j9 (B:=wr.heap.size) (cs:=#[aA none 0 0]) (t:=196) (fr:=(0,0)) (aL.new _ _ _)
   case hone=>
    intro u a7;simp at a7;subst a7
    rfl
   case h63=>unfold maxLen;omega
   case hbytes=>omega
   case hbase=>simp;omega
   case hH=>simp
   case hrest=>
    intro g5 be w5 bk Z bi cw;have bg:=(az wr.heap.size wr).alloc aH (.cells #[aA none 0 0] 196);have bc:=aJ.below bg;have bb:=aF.below bg;have aR:aL w5 (w.heap.size+1) _ 194:=(Z.block _ bb.lt (own_ne bc.row bb ax)).trans bb;have cP:=aR.cell (o:=0) rfl;have dd:=aR.fz;have b3:(Value.slice sa J.length sc).ownBlock=some g5\/(wr.alloc (.cells #[aA none 0 0] 196)).heap.size<=g5:=by
     rcases bi with e|e
     ·exact .inl e
     exact .inr aS
    have ce:=(a5.trans (yI.below bg)).trans (yI.push (sb:=w.heap.size+1) (cap:=be) bc Z b3 (aA (some (aP g5)) (J.length+1) be));have co:=(bc.push Z bk).set aR ax ax 0 (aA (some (aP g5)) (J.length+1) be);have b9:=aR.set 0 (aA (some (aP g5)) (J.length+1) be);have ch:=Ei ((aR.set 0 (aA (some (aP g5)) (J.length+1) be)).cell (o:=0) rfl);clear bg bc bb aR b3 bi bk Z bH sz;gi_wp2;go_roundw
    ·exact ⟨_,_,ce,b9,co,by
     obtain ⟨j,bz⟩:=aE bt;exact aj ⟨j+1,by rw [cK,bz,List.replicate_succ'];simp⟩,aS⟩
    rw [ch,cg];omega
  have ct:¬((J.length:Int)<(N:Int)):=ai;have bj:N-1<J.length:=ai;obtain ⟨g0,c0,e0,bB⟩:=aY aJ.row (N-1) _ (by rw [et,aI bj];rfl);simp only [aK,bX] at e0;obtain ⟨rfl,rfl⟩:=e0;have bM:=aI bj;have bA:=aJ.inn _ (br bj);generalize J[N-1]=p at*;obtain ⟨pv,pl⟩:=p;simp only at bB bA;obtain ⟨pa,pc,rfl⟩:=aw bA;have c6:=aX.lt;have al:=a5.but.blk bJ (fun e=>e.elim (fun e=>ai) (ah.st.off bJ ax ax));have ab:=a5.but.blk bI (fun e=>e.elim (fun e=>ai) (ah.st.off bI ax ax));obtain ⟨t0,t1,t2⟩:=al.three;obtain ⟨bC,bD,bE⟩:=ab.three;have c8:(N:Int)-1=((N-1:Nat):Int):=ai;have c9:IntKind.i64.wrap ((N-1:Nat):Int)=((N-1:Nat):Int):=IntWalk.i64_in _ ⟨ai,ai⟩;have cY:(0:Int)<=((N-1:Nat):Int):=ai;have cZ:((N-1:Nat):Int)<(J.length:Int):=ai;gi_wp2_with fail;refine qU (S:=fun w'=>w'.cell? (aP (w.heap.size+1))=some (aA (some (aP g0)) J.length sc)/\w'.cell? (aC R 1)=some (an t.name)/\w'.cell? (aP (R+1))=some (au r.place)/\w'.cell? (aC (R+1) 1)=some (an r.name)/\w'.cell? (aC (R+1) 2)=some (.iface Y rv)) aM aM ⟨bH,t1,bC,bD,bE⟩ (fun hH=> ?_);refine wl 0 ?_
  iterate 7
   refine pk (v:= ?_) rfl aM (fun _ _ _ h=>by cases h.1) hH (Or.inl ⟨bQ,?_⟩) ?_
   rotate_left
   ·exact HK
   simp only [Act.put,List.getElem_toArray,List.getElem_cons_zero,List.getElem_cons_succ,jL,List.set_cons_zero,List.set_cons_succ,Nat.reduceAdd]
  refine wl 8 ?_
  iterate 5
   refine pk (v:= ?_) rfl aM (fun _ _ _ h=>by cases h.1) hH (Or.inl ⟨bQ,?_⟩) ?_
   rotate_left
   ·exact HK
   simp only [Act.put,List.getElem_toArray,List.getElem_cons_zero,List.getElem_cons_succ,jL,List.set_cons_zero,List.set_cons_succ,Nat.reduceAdd]
  have U:am wr (wr.alloc (lh t.name r.place r.name Y rv)).drew:=((az _ wr).alloc aH _).drew;have HBD:Below wr.drew.heap.size wr.drew (wr.alloc (lh t.name r.place r.name Y rv)).drew:=⟨U.os,U.tape,U.output,U.size,U.block⟩;have aQ:=aB bA U;have ck:=j9 (B:=wr.heap.size) (cs:=#[an t.name,au r.place,an r.name,.iface Y rv]) (t:=198) (fr:=(0,0)) (aL.new wr _ _).drew;have cl:∀u∈UF ((t,aA ad af ae),(r,.iface Y rv)),u.oneCell'=true:=by
   intro u a7;simp only [UF,cG,iT,jG] at a7
   rcases a7 with rfl|rfl|rfl|rfl<;>rfl
  have c3:pl.length<=1000000:=by
   obtain ⟨j,bz⟩:=aE bt;have:=wB bz ah.inn _ (bF bM);have:=cm;simp at*;omega
  have b8:pl.length+1<=maxLen:=by unfold maxLen;omega
  have cd:(pl.length+1)*56<=140737488355328:=ai;have cb:W0.heap.size<=(wr.alloc (lh t.name r.place r.name Y rv)).drew.heap.size:=aV cF U.size;have cf:(wr.alloc (lh t.name r.place r.name Y rv)).drew.heap.size=wr.heap.size+1:=ar;obtain ⟨cS,ay,_⟩:=dG (aB aJ.row U);have bs:=HM (ab.below U) ay ax;have bv:=own_ne aQ (ab.below U) ax;refine sF (rs:=[7,13]) aM ar (qb rfl (fun K I=> ?_) (qb rfl (fun K I=> ?_) sG))
  try simp only [List.getElem_toArray,List.getElem_cons_zero,List.getElem_cons_succ]
  go_simp
  refine I.out _ _ hH (fun hH=> ?_);clear I K
  try simp only [Act.put,List.getElem_toArray,List.getElem_cons_zero,List.getElem_cons_succ,jL,List.set_cons_zero,List.set_cons_succ]
  refine sF (rs:=[13]) aM ar (qb rfl (fun K I=> ?_) sG)
  try simp only [List.getElem_toArray,List.getElem_cons_zero,List.getElem_cons_succ]
  go_simp
  refine I.out _ _ aaY (fun hH=> ?_);clear I K
  try simp only [Act.put,List.getElem_toArray,List.getElem_cons_zero,List.getElem_cons_succ,jL,List.set_cons_zero,List.set_cons_succ]
  rotate_left
  try simp only [List.getElem_toArray,List.getElem_cons_zero,List.getElem_cons_succ]
  go_simp
  refine I.out _ _ aaY (fun hH=> ?_);clear I K
  try simp only [Act.put,List.getElem_toArray,List.getElem_cons_zero,List.getElem_cons_succ,jL,List.set_cons_zero,List.set_cons_succ]
  refine sF (rs:=[7]) aM ar (qb rfl (fun K I=> ?_) sG);have db:=ak bB U
  try simp only [List.getElem_toArray,List.getElem_cons_zero,List.getElem_cons_succ]
  go_simp
  refine I.out _ _ hH (fun hH=> ?_);clear I K
  try simp only [Act.put,List.getElem_toArray,List.getElem_cons_zero,List.getElem_cons_succ,jL,List.set_cons_zero,List.set_cons_succ]
  all_goals
   refine sF (rs:=[14]) aM ar (qb rfl (fun K I=> ?_) sG);refine step_append_lies _ rfl (.tmp 36) (.tmp 42) 196 rfl W0.heap.size 198 cO _ 4 56 underlying196 cy cH cI cJ rfl ax (aA pa pl.length pc) pl.length (pl.flatMap UF) J5 aQ ⟨wr.heap.size,0,none⟩ 1 1 (UF ((t,aA ad af ae),(r,.iface Y rv))) J5 rfl ck cl ax b8 cd cb (wr.heap.size+1) cf ?_;intro g5 be w5 bk Z bi cw;have bO:w5.cell? (aP (w.heap.size+1))=some (aA (some (aP g0)) J.length sc)/\w5.cell? (aC R 1)=some (an t.name)/\w5.cell? (aP (R+1))=some (au r.place)/\w5.cell? (aC (R+1) 1)=some (an r.name)/\w5.cell? (aC (R+1) 2)=some (.iface Y rv):=by
    obtain ⟨k0,k1,k2,k3,k4⟩:=hH;exact ⟨Z.cell k0 (own_ne aQ (aF.below U) ax),Z.cell k1 (own_ne aQ (al.below U) ax),Z.cell k2 bv,Z.cell k3 bv,Z.cell k4 bv⟩
   refine I.out _ _ bO (fun hH=> ?_);clear I K
   try simp only [Act.put,List.getElem_toArray,List.getElem_cons_zero,List.getElem_cons_succ,jL,List.set_cons_zero,List.set_cons_succ]
   refine wl 15 ?_
   iterate 1
    refine pk (v:= ?_) rfl aM (fun _ _ _ h=>by cases h.1) hH (Or.inl ⟨bQ,?_⟩) ?_
    rotate_left
    ·exact HK
    simp only [Act.put,List.getElem_toArray,List.getElem_cons_zero,List.getElem_cons_succ,jL,List.set_cons_zero,List.set_cons_succ,Nat.reduceAdd]
   have bw:∃cq,aL w5 g0 cq 196:=⟨_,(Z.block g0 ay.lt (own_ne aQ ay ax)).trans ay⟩;obtain ⟨cU,bw⟩:=bw;have da:=bw.fz;have dc:w5.cell? (aC g0 (N-1))=some (aA pa pl.length pc):=Z.cell (ak bB U) (own_ne aQ ay ax);refine sF (rs:=[16]) aM ar (qb rfl (fun K I=> ?_) sG)
   try simp only [List.getElem_toArray,List.getElem_cons_zero,List.getElem_cons_succ]
   go_simp
   refine I.out _ _ ?_ (fun _=> ?_)
   ·obtain ⟨k0,k1,k2,k3,k4⟩:=bO;have ac:∀(g o:Nat)(v u:ag),g≠g0->w5.cell? (aC g o)=some v->(w5.setCell (aC g0 (N-1)) u).cell? (aC g o)=some v:=fun g o v u aG hv=>(jA (w:=w5) (ea _ _ _ _ aG)).trans hv
    exact ⟨ac _ _ _ _ (HM (aF.below U) ay ax) k0,ac _ _ _ _ (HM (al.below U) ay ax) k1,ac _ _ _ _ bs k2,ac _ _ _ _ bs k3,ac _ _ _ _ bs k4⟩
   clear I K;refine wpAnyH_done aM ?_ _;refine ⟨rfl,?_⟩;have b5:=Ej a9 ah a5 aF aJ bj cz bM bt cA bL cj Z bk bi;rw [show List.map Subtype.val pre++[((t,Value.slice ad af ae),(r,Value.iface Y rv))]=List.map Subtype.val (pre++[⟨((t,Value.slice ad af ae),(r,Value.iface Y rv)),bl⟩]) by simp] at b5;exact b5
 case done=>
  rintro bp dh W bY rfl ⟨a8,ps,V⟩ I;obtain ⟨sa,sc,rfl⟩:=aw V.st.row;have cP:W.cell? (aP (w.heap.size+1))=some (aA sa ps.length sc):=V.blk.cell rfl;gi_wp2;refine ⟨ar,.inl ⟨_,_,rfl,run_takeDeferred I,?_⟩⟩;refine ⟨aA sa ps.length sc,?_,_,ps,rfl,(av.trans (V.but.below (B:=w.heap.size) av.size (fun g e=>ai))).trans (belowK_b (w:=w) aH W bp _ _ (aV av.size bY) I rfl rfl),((V.st.oth (vY _ bp (.deferred none)) (fun r e=>by cases e;exact ⟨_,I,rfl⟩)).base av.size),by rw [<-bh];exact V.snd,V.len,fun p a6=>by have:=V.inn p a6;rw [<-bh];exact this⟩;simp [results,Tryz.f100,go_sem]
 case stop=>
  rintro bp bU pre W bY c5 cu I;exact cu.elim
end
def OfC(C:List Ty->ag->af->Prop):Prop:=∀(bm:Nat) (sv:ag) (ts:List Ty) (tl:List (Ty×ag)) (w:af),MC bm w sv ts tl->Calls prog 59 #[.agg #[sv]] w fun e w'=>∃h ln A,e=bi (.agg #[aA h ln A])/\am w w'/\C ts (aA h ln A) w'
structure YZ(LX:List Ty->ag->af->Prop):Prop where
 below:∀ts lv w w',LX ts lv w->am w w'->LX ts lv w'
 set:∀ts lv w g cs o u,LX ts lv w->aL w g cs 117->LX ts lv (w.setCell (aC g o) u)
def Mp(o c w)(h:Laid w):∃p:Nat,Calls prog 41 #[PZ (o,c)] w fun e w'=>e=bi (.tuple #[au c,au p])/\am w w':=by
 cases o with
 |none=>exact ⟨0,kw c w h⟩
 |some p=>exact ⟨p,tR p c w h⟩
def zR(b s w o c)(Z:dy s=.error (o,c))(af:c≠0)(V:Laid w):
  Calls prog 27 #[bu b,an s] w fun e w'=>e=bi (au c)/\am w w':=by
 have C:=qO s w;rw [Z] at C;have hl:=V.lt;have ag:((c:Int)==0)=false:=by rw [bR];omega
 have ah:((c:Int) != 0)=true:=gX.2 ai;have R:=fun w' (k:am w w')=>Mp o c w' (V.below k hl)
 obtain ⟨D,J⟩:∃D,D=PZ (o,c):=⟨_,rfl⟩;have ac:∃ty v,D=.iface ty v:=by
  rw [J]
  cases o with
  |none=>exact ⟨_,_,rfl⟩
  |some p=>exact ⟨_,_,rfl⟩
 obtain ⟨ad,ae,rfl⟩:=ac;have Q:=aj J;clear Z J;go_enter func27,ntmps27;go_wp2_with fail;refine C.mono ?_;rintro e ak ⟨I,rfl⟩;rw [<-Q.u];have A:=I.alloc I.size wd;obtain ⟨p,Y⟩:=aE R _ A;rw [<-Q.u] at Y;clear I C R;go_wp2_with fail;refine Y.mono ?_;rintro e al ⟨rfl,U⟩;have ab:=A.trans (U.mono A.size);clear U;go_wp2;go_ret;exact ⟨rfl,ab⟩
def Y0(h:List Ty->ag->af->Prop)(b:Nat)(ts:List Ty)(w:af)(e:Ending)(w':af):Prop:=∃mv lv bm tl,e=bi (au 0)/\PU w' b mv lv (aA none 0 0) []/\MC bm w' mv ts tl/\h ts lv w'/\bK (fun k=>k=b) w w'
def Ep(Z:List Ty->ag->af->Prop)(aw:OfC Z)(ab:YZ Z)(b:Nat)(s:ae)(w:af)(mv lv gv:ag)(ay:aL w b #[mv,lv,gv] 117)(ts:List Ty)(aC:dy s=.ok ts)(aM:Laid w):
  Calls prog 27 #[bu b,an s] w (Y0 Z b ts w):=by
 have C:=qO s w;rw [aC] at C;have aR:=ay.lt;clear aC aM;go_enter func27,ntmps27;go_wp2_with fail;refine C.mono ?_;rintro e J ⟨I,sv,tl,bm,rfl,ac⟩;obtain ⟨A,mn,mc,rfl⟩:=ac.form;have V:=I.alloc I.size (ba A mn mc);have av:=aL.new J #[aA A mn mc] 75;have ap:=ac.below (bo.alloc aH (ba A mn mc));have aS:¬(J.heap.size=b):=by have:=I.size;omega
 have aT:¬(b=J.heap.size):=by have:=I.size;omega
 clear I ac C;go_wp2_with fail;refine (nO _).mono ?_;rintro e Q ⟨rfl,U⟩;have Y:=V.trans (U.mono V.size);have k0:Q.cell? (aP J.heap.size)=some (aA A mn mc):=(av.below U).cell rfl;have au:=ap.below U;have aJ:=ay.below Y;clear U V ap av;go_wp2_with fail;have aG:=aw bm _ ts tl Q.drew (au.below (az _ Q).drew);have aN:=Y.size;clear aw
 go_region_held3 (fun w'=>w'.cell? (aP J.heap.size)=some (aA A mn mc)) (go_keep)
  ((go_at_call 59;refine aG.mono ?_;rintro e aQ ⟨ad,ln,ah,rfl,aB,aE⟩;have R:=(show am Q aQ from (az _ Q).drew.trans aB);have d0:=ak k0 R;have D:=(aJ.below R);obtain ⟨aU,aV,aW⟩:=three D;have aX:=D.fz;have aI:=(au.below R);have aK:=aE;clear aB aE))
 have aF:=Y.trans (R.mono aN);go_wp2;go_ret;have aj:=D.set 0 (aA A mn mc);have al:=aj.set 1 (aA ad ln ah);have aO:=al.set 2 (aA none 0 0);have ai:¬(117=207\/117=159\/117=110):=ax;have kt:=((KT.set D ai 0 (aA A mn mc)).trans (KT.set aj ai 1 (aA ad ln ah))).trans (KT.set al ai 2 (aA none 0 0));refine ⟨aA A mn mc,aA ad ln ah,bm,tl,rfl,⟨aO,bP,fun g n c e=>by simp at e,ar⟩,aI.kt kt ar,ab.set _ _ _ _ _ _ _ (ab.set _ _ _ _ _ _ _ (ab.set _ _ _ _ _ _ _ aK D) aj) al,(((bK.of_below aF).set (show (fun k=>k=b) (⟨b,0,none⟩:Addr).block from rfl) _).set (show (fun k=>k=b) (⟨b,1,none⟩:Addr).block from rfl) _).set (show (fun k=>k=b) (⟨b,2,none⟩:Addr).block from rfl) _⟩
abbrev eY:=@List.mem_cons_of_mem
abbrev eu:=@List.mem_cons_self
abbrev nT:=@List.foldl_cons
def zS (h:aD:=by
 unfold LT;decide):aD:=h
def Kr{g:List (List α)}{l:List α}(h:l∈gj n g):l∈g\/l=[]:=by
 unfold gj at h
 rcases aW.1 h with h|h
 ·exact .inl h
 exact .inr (GY h)
def Mq{x:α}{g:List (List α)}{l:List α}(h:l∈gl n x g)(y:α)(A:y∈l):y=x\/∃D∈g,y∈D:=by
 unfold gl at h
 rcases sH h with h|rfl
 ·rcases Kr h with h|rfl
  ·exact .inr ⟨l,h,A⟩
  simp at A
 rcases aW.1 A with A|A
 ·rw [eA] at A
  cases C:(gj n g)[n-1]? with
  |none=>rw [C] at A;simp at A
  |some D=>
   rw [C] at A
   rcases Kr (bF C) with h|rfl
   ·exact .inr ⟨D,h,A⟩
   simp at A
 exact .inl (by simpa using A)
def Mr(rk:α->Nat)(A:List α):∀g0:List (List α),∀l∈A.foldl (fun g x=>gl (rk x) x g) g0,∀y∈l,y∈A\/∃D∈g0,y∈D:=by
 induction A with
 |nil=>intro g0 l hl y C;exact .inr ⟨l,hl,C⟩
 |cons x A ih=>
  intro g0 l hl y C
  rcases ih _ l hl y C with h|⟨D,h1,h2⟩
  ·exact .inl (eY _ h)
  rcases Mq h1 y h2 with h|h
  ·exact .inl (by rw [h];exact eu)
  exact .inr h
def Er{rk:α->Nat}{A:List α}{l:List α}(h:l∈jg rk A){y:α}(C:y∈l):y∈A:=by
 rcases Mr rk A [] l h y C with h|⟨D,h,_⟩
 ·exact h
 simp at h
def Ms(f:α->β)(n)(x:α)(g:List (List α)):(gl n x g).map (List.map f)=gl n (f x) (g.map (List.map f)):=by
 have e:(gj n g).map (List.map f)=gj n (g.map (List.map f)):=by unfold gj;simp
 unfold gl;rw [qd,e,cK,<-e]
 congr 2
 rw [eA,eA,et]
 cases (gj n g)[n-1]? <;>simp
def Mt(f:α->β)(rk:β->Nat)(l:List α):(jg (fun x=>rk (f x)) l).map (List.map f)=jg rk (l.map f):=by
 have key:∀(l:List α) (g:List (List α)),(l.foldl (fun g x=>gl (rk (f x)) x g) g).map (List.map f)=(l.map f).foldl (fun g x=>gl (rk x) x g) (g.map (List.map f)):=by
  intro l
  induction l with
  |nil=>intro g;rfl
  |cons x l ih=>intro g;rw [nT,ih,Ms,bY,nT]
 exact key l []
abbrev TR:=Ty×Rl
def nU(ts:List Ty):List TR:=ts.flatMap fun t=>t.rels.map fun r=>(t,r)
def rkR(ts:List Ty)(x:TR):Nat:=(cT ts [(x.1.name,x.2.name)]).length
def QB(x:It):TR:=(x.1.1,x.2.1)
def cL(ts:List Ty):List (List TR):=jg (rkR ts) (nU ts)
def zT{b:Nat}{w:af}{A:Ty×ag->List (Rl×ag)}:∀{tl:List (Ty×ag)},Vx b w tl A->(qM A tl).map QB=nU (tl.map Prod.fst)
 | [],_=>rfl
 |p::tl,h=>by
  have I:=zT (tl:=tl) (fun q C=>h q (by simp [C]));have e:(qM A (p::tl))=((A p).map fun q=>(p,q))++qM A tl:=by simp [qM]
  rw [e,cK,I,bY];have D:=(h p ar).fst;unfold nU;rw [bM,<-D];simp [QB]
def Mu{A:Ty×ag->List (Rl×ag)}{tl}(h:Vx b w tl A)(C:tl.map Prod.fst=ts):(jg (XV ts) (qM A tl)).map (List.map QB)=cL ts:=by
 have:=Mt QB (rkR ts) (qM A tl);rw [zT h,C] at this;exact this
def lnC(p:It×ag):List ag:=[an p.1.1.1.name,an p.1.2.1.name,p.2]
structure Dh(base:Nat)(w:af)(v:ag)(ls:List (It×ag)):Prop where
 row:w.ownsRow base 201 3 v ls.length (ls.flatMap lnC)
 ins:∀p∈ls,w.ownsRow base 298 3 p.2 (gF p.1.2.1.name p.1.2.1.body).length ((gF p.1.2.1.name p.1.2.1.body).flatMap Kk)
structure HW(base:Nat)(w:af)(v:ag)(qs:List (ag×List (It×ag))):Prop where
 row:w.ownsRow base 190 1 v qs.length (qs.map Prod.fst)
 grp:∀q∈qs,Dh base w q.1 q.2
def LT(T:TypeId):Prop:=T=190\/T=201\/T=298
section
variable {base base':Nat}{w w':af}{v:ag}
def Dh.frame{ls}(h:Dh base w v ls)(k:∀(g:Nat)(cs:Array ag)(T:TypeId)(f:Nat×Nat),w.heap[g]? =some (Obj.cells cs T f)->LT T->w'.heap[g]? =w.heap[g]?):Dh base w' v ls:=
 ⟨ay h.row (fun g cs f _ A=>k g cs _ f A (.inr (.inl rfl))),fun p C=>ay (h.ins p C) (fun g cs f _ A=>k g cs _ f A (.inr (.inr rfl)))⟩
def HW.frame{qs:List (ag×List (It×ag))}(h:HW base w v qs)(k:∀(g:Nat)(cs:Array ag)(T:TypeId)(f:Nat×Nat),w.heap[g]? =some (Obj.cells cs T f)->LT T->w'.heap[g]? =w.heap[g]?):HW base w' v qs:=
 ⟨ay h.row (fun g cs f _ A=>k g cs _ f A (.inl rfl)),fun q C=>(h.grp q C).frame k⟩
def Dh.below{ls}(h:Dh base w v ls)(k:am w w'):Dh base w' v ls:=h.frame (fun g cs T f A _=>k.block g (lt_of_some A))
def HW.below{qs:List (ag×List (It×ag))}(h:HW base w v qs)(k:am w w'):HW base w' v qs:=h.frame (fun g cs T f A _=>k.block g (lt_of_some A))
def Dh.lower{ls}(h:Dh base w v ls)(A:base'<=base):Dh base' w v ls:=⟨bk h.row A,fun p C=>bk (h.ins p C) A⟩
def HW.lower{qs:List (ag×List (It×ag))}(h:HW base w v qs)(A:base'<=base):HW base' w v qs:=⟨bk h.row A,fun q C=>(h.grp q C).lower A⟩
def Y1(A:aL w g cs T)(D:¬LT T)(o u):∀(g':Nat)(h:Array ag)(T':TypeId)(f:Nat×Nat),w.heap[g']? =some (Obj.cells h T' f)->LT T'->(w.setCell (aC g o) u).heap[g']? =w.heap[g']? :=fun g' h T' f C I=>ea _ _ _ _ (fun (e:g'=g)=>by
 subst e;unfold aL at A;rw [A] at C
 cases C
 exact D I)
def Dh.push{ls x iv}(h:Dh base w v ls)(D:w.grownBy w' v.ownBlock)(I:w'.ownsRow base 201 3 v' (ls.length+1) (ls.flatMap lnC++lnC (x,iv)))(hi:w.ownsRow base 298 3 iv (gF x.2.1.name x.2.1.body).length ((gF x.2.1.name x.2.1.body).flatMap Kk)):Dh base w' v' (ls++[(x,iv)]):=by
 refine ⟨by simpa using I,fun p A=> ?_⟩;have k:∀(g:Nat)(cs:Array ag)(f:Nat×Nat),base<=g->w.heap[g]? =some (.cells cs 298 f)->w'.heap[g]? =w.heap[g]? :=fun g cs f _ C=>D.block g (lt_of_some C) (dV h.row C ax)
 rcases aW.1 A with A|A
 ·exact ay (h.ins p A) k
 rw [aX] at A;subst A;exact ay hi k
def HW.push{qs:List (ag×List (It×ag))}{ls}(h:HW base w v qs)(D:w.grownBy w' v.ownBlock)(I:w'.ownsRow base 190 1 v' (qs.length+1) (qs.map Prod.fst++[gv]))(hi:Dh base w gv ls):HW base w' v' (qs++[(gv,ls)]):=by
 have k:∀q:ag×List (It×ag),Dh base w q.1 q.2->Dh base w' q.1 q.2:=fun q A=>
  ⟨ay A.row (fun g cs f _ C=>D.block g (lt_of_some C) (dV h.row C ax)),fun p J=>ay (A.ins p J) (fun g cs f _ C=>D.block g (lt_of_some C) (dV h.row C ax))⟩
 refine ⟨by simpa using I,fun q A=> ?_⟩
 rcases aW.1 A with A|A
 ·exact k q (h.grp q A)
 rw [aX] at A;subst A;exact k _ hi
end
def Y2(ts:List Ty)(lv:ag)(w:af):Prop:=∃qs,HW 0 w lv qs/\qs.map (fun q=>q.2.map fun p=>QB p.1)=cL ts/\qs.length<=1000001000001/\∀q∈qs,q.2.length<=1000000
def wF:YZ Y2 where
 below:=fun ts lv w w' ⟨qs,h1,h2⟩ k=>⟨qs,h1.below k,h2⟩
 set:=fun ts lv w g cs o u ⟨qs,h1,h2⟩ A=>⟨qs,h1.frame (Y1 A zS o u),h2⟩
def Tryz.infoLn:(Tryz.prog.info? 201).map (fun i=>(i.zero,i.size,i.bytes))=some (some (.agg #[an ⟨#[]⟩,an ⟨#[]⟩,aA none 0 0]),3,56):=by kernel_rfl
def Tryz.infoLns:(Tryz.prog.info? 190).map (fun i=>(i.zero,i.size,i.bytes))=some (some (aA none 0 0),1,24):=by kernel_rfl
abbrev sM:Obj:=.cells #[aA none 0 0] 114
def bK.then{S x}(h:bK S x y)(k:Below x.heap.size y z):bK S x z:=⟨k.os.trans h.os,k.tape.trans h.tape,k.output.trans h.output,aV h.size k.size,fun i hi hs=>(k.block i hi).trans (h.block i hi hs)⟩
def QC:OfC Y2:=by
 intro b sv ts tl w h;obtain ⟨aT,mn,mc,rfl⟩:=h.form;obtain ⟨ah,hF⟩:=PL h;have ay:am w (((w.alloc (ba aT mn mc)).alloc sM).alloc sM):=(((az _ w).alloc aH _).alloc ar _).alloc aS _;have bR:aL (((w.alloc (ba aT mn mc)).alloc sM).alloc sM) (w.heap.size+1) pF 114:=(aL.new' (w.alloc (ba aT mn mc)) _ _ (w.heap.size+1) ar).alloc _;have bO:aL (((w.alloc (ba aT mn mc)).alloc sM).alloc sM) (w.heap.size+2) pF 114:=aL.new' _ _ _ _ ar;have bt:=aj (Mm b _ ts tl _ (h.below ay) ah (fun p ae=>(hF p ae).below ay));have ce:=aj (show ∀x∈qM ah tl,bA b w x.2.1.body x.2.2/\(aF x.2.1.body).length<=1000 from fun x bh=>by
  obtain ⟨_,rl,bf,Z⟩:=Ha hF x bh;exact ⟨bf.ex _ Z,bf.okp _ (by rw [<-bf.fst];exact aU.2 ⟨_,Z,rfl⟩)⟩)
 have cb:=aj (Mu hF h.fst);have bF:=aj (show (qM ah tl).length<=1000000 from by
  have h2:(qM ah tl).length<=tl.length*1000:=iq _ 1000 tl (fun p ae=>by have:=(hF p ae).llen;simpa using this);have Y:tl.length<=1000:=by have:=h.llen;simpa using this
  omega)
 have aX:=aj ay;have bB:=aj bR;have bw:=aj bO;generalize cm:qM ah tl=L at*;clear h hF ay bR bO cm;go_enter func59,ntmps59;go_wp2_with fail;refine bt.mono ?_;rintro e w1 ⟨v1,ps,rfl,aJ,bg,bY,cI,Z⟩;obtain ⟨sa,sc,rfl⟩:=aw bg.row;have B1:=aj (aX.trans (aJ.mono aX.size));have ck:=aj (bB.below aJ);have bo:=aj (bw.below aJ);have ci:=aj bg;have bJ:=aj bY;have bD:=aj Z;clear aJ bg bY Z bt aX bB bw;go_wp2_with fail
 go_loopw [12] (fun u wr=>∃(j:Nat) (lv:ag) (qs:List (ag×List (It×ag))),j<=ps.length/\u=au j/\bK (fun k=>k=w.heap.size+2) w1 wr/\aL wr (w.heap.size+2) #[lv] 114/\HW w1.heap.size wr lv qs/\Hid (qs.map (fun q=>q.2.map Prod.fst)=(ps.take j).map Prod.snd)) (fun u _=>ps.length-(intOf u).toNat)
 ·exact ⟨0,aA none 0 0,[],ai,rfl,bK.refl _ _,bo,⟨bP,fun _ h=>by cases h⟩,aj ar⟩
 obtain ⟨j,lv,qs,cG,rfl,J,C,ac,al⟩:=hrel;obtain ⟨D,co⟩:∃D,D=wr:=⟨_,rfl⟩;subst co;obtain ⟨bi,bj,rfl⟩:=aw ac.row;have bZ:=J.size;have cM:qs.length<=j/\j<=qs.length:=by have:=congrArg List.length al;simp at this;omega
 by_cases ab:j<ps.length
 ·have cq:(j:Int)<(ps.length:Int):=by omega
  have U:=ci.frame (fun g cs T f a9 cx=>J.block g (lt_of_some a9) (fun e=>by
   have:=bo.u;subst e;unfold aL at this;rw [this] at a9
   cases a9
   exact absurd cx ax))
  obtain ⟨g,c,e1,k0⟩:=aY U.row j _ (by rw [et,aI ab];rfl);simp only [aK,bX] at e1;obtain ⟨rfl,rfl⟩:=e1;have aQ:=U.inn _ (br ab);have bL:=aj (by rw [cD ab,cK];rfl:(ps.take (j+1)).map Prod.snd=(ps.take j).map Prod.snd++[ps[j].2]);have bH:=aj (fun x bh=>Er (by rw [<-bJ];exact aU.2 ⟨_,br ab,rfl⟩) bh:∀x∈ps[j].2,x∈L);have bW:=bD _ (br ab);generalize ps[j]=p at*;obtain ⟨pv,pl⟩:=p;simp only at k0 aQ bW bL bH;obtain ⟨pa,pc,rfl⟩:=aw aQ;have cL:pl.length<=1000000:=by have:=bF.u;omega
  have ch:=aj aQ;have b8:=aj J;have b6:=aj C;have cg:=aj ac;have bs:=aj (B1.trans (J.below (B:=w.heap.size) Pu (fun g e=>ai)));clear U aQ J C ac bW;go_wp2_with fail
  go_loopw [6,18] (fun cB bl b3=>∃(k:Nat) (ls:List (It×ag)),k<=pl.length/\bl=au k/\am D b3/\Dh D.heap.size b3 cB ls/\Hid (ls.map Prod.fst=pl.take k)) (fun _ bl _=>pl.length-(intOf bl).toNat)
  ·exact ⟨0,[],ai,rfl,az _ _,⟨bP,fun _ h=>by cases h⟩,aj ar⟩
  obtain ⟨k,ls,cH,rfl,I,aN,aZ⟩:=hrel;obtain ⟨ga,gc,rfl⟩:=aw aN.row;have cJ:ls.length<=k/\k<=ls.length:=by have:=congrArg List.length aZ;simp at this;omega
  have U:=I.size;have bz:=aj I;have bC:=aj aN
  by_cases bb:k<pl.length
  ·have cr:(k:Int)<(pl.length:Int):=by omega
   obtain ⟨g',cE,bS,hc⟩:=bn UF 4 (fun _=>rfl) (aB ch I) k pl[k] (aI bb);simp only [aK,bX] at bS;obtain ⟨rfl,rfl⟩:=bS;have cj:=aj (cD bb:pl.take (k+1)=pl.take k++[pl[k]]);obtain ⟨aR,bc⟩:=ce _ (bH _ (br bb));generalize pl[k]=x at*;obtain ⟨⟨t,tv⟩,⟨r,cC⟩⟩:=x;obtain ⟨af,rv,bU⟩:=aR.isI;simp only at bU aR bc;subst bU;have k1:wr.cell? (aC g' (k*4))=some (an t.name):=hc 0 _ ai rfl;have cy:wr.cell? (aC g' (k*4+1))=some (au r.place):=hc 1 _ ai rfl;have k3:wr.cell? (aC g' (k*4+2))=some (an r.name):=hc 2 _ ai rfl;have cz:wr.cell? (aC g' (k*4+3))=some (.iface af rv):=hc 3 _ ai rfl;have a7:=(az wr.heap.size wr).alloc aH (lh t.name r.place r.name af rv);have bu:=aj (HJ b t.name r.name r.place r.body (.iface af rv) _ (aR.but (But.of_below (bs.trans ((I.trans (a7.mono U)).mono bs.size)))) bc);have bx:=aj a7;clear hc aR bc a7 I aN;go_wp2_with fail;refine bu.mono ?_;rintro e aV ⟨cN,rfl,bT,aO⟩;have cd:=aj aO;obtain ⟨il,bV⟩:∃il,il=(gF r.name r.body).length:=⟨_,rfl⟩;rw [<-bV] at aO;obtain ⟨b0,b2,rfl⟩:=aw aO;have a6:=bx.trans (bT.mono bx.size);have bp:=aj (bz.trans (a6.mono U));have bv:=aj (bC.below a6);have cu:=bp.size;have cw:D.heap.size<=(wr.alloc (lh t.name r.place r.name af rv)).heap.size:=aS;clear aO bV a6 bu k1 cy k3 cz bT;go_wp2_with (at_builtin;go_must (refine eB rfl underlying190 Tryz.infoLn D.heap.size (bv.row.alloc _) aV.heap.size 1 [an t.name,an r.name,aA b0 il b2] (aV.heap.size+1) ?hrest))
   case hrest=>
    intro g5 be w5 ad Q a8 cp;have A:=(az aV.heap.size aV).alloc aH (.cells #[an t.name,an r.name,aA b0 il b2] 201);have aW:=bv.below A;have b9:=aj (aW.push (x:=((t,tv),(r,.iface af rv))) Q ad (bk (aB cd A) cw));have ak:=aj (cA (bp.trans (A.mono cu)) Q aS (fun q R=>(aW.row.lt q R).1));clear A aW ad Q a8;go_wp2;go_roundw
    ·exact ⟨k+1,_,ai,by go_num,ak,b9,by
     have h1:=aE aZ;have h2:=cj.u;exact aj (by rw [cK,h1,h2];rfl)⟩
    simp [intOf];omega
  have cr:¬((k:Int)<(pl.length:Int)):=ai;have C:=b6.below I;have a0:wr.cell? (aP (w.heap.size+2))=some (aA bi qs.length bj):=C.cell rfl;have cl:=C.fz;have b5:=aj C;have bG:=aj (cg.below I);clear C I aN;go_wp2_with (at_builtin;go_must (refine eB rfl underlying112 Tryz.infoLns w1.heap.size (bG.row.alloc _) wr.heap.size 1 [aA ga ls.length gc] (wr.heap.size+1) ?HY))
  case HY=>
   intro g5 be w5 ad Q a8 cp;have A:=(az wr.heap.size wr).alloc aH (.cells #[aA ga ls.length gc] 190);have av:=bG.below A;have ap:=b5.below A;have V:aL w5 (w.heap.size+2) _ 114:=(Q.block _ ap.lt (own_ne av.row ap ax)).trans ap;have cO:=V.cell (o:=0) rfl;have cP:=V.fz;have bM:=av.push Q ad ((bC.below A).lower bZ);have ak:=cA ((bz.mono bZ).trans (A.mono ai)) Q aS (fun q R=>(av.row.lt q R).1);have b7:=aj ((bK.then b8 ak).set (rfl:(fun k=>k=w.heap.size+2) (⟨w.heap.size+2,0,none⟩:Addr).block) (aA (some (aP g5)) (qs.length+1) be));have cf:=aj (V.set 0 (aA (some (aP g5)) (qs.length+1) be));have a5:=aj (bM.frame (Y1 V zS 0 (aA (some (aP g5)) (qs.length+1) be)));clear A av ap V bM ak ad Q a8 a0 cl;go_wp2;go_roundw
   ·exact ⟨j+1,_,_,ai,by go_num,b7,cf,a5,by
    have h1:=aE al;have h2:=aE bL;have Y:=aE aZ;rw [cX ai] at Y;exact aj (by rw [cK,h1,h2];simp [Y])⟩
   simp [intOf];omega
 have cq:¬((j:Int)<(ps.length:Int)):=ai;have a0:D.cell? (aP (w.heap.size+2))=some (aA bi qs.length bj):=C.cell rfl;have aG:=J.blk ck ai;have cQ:D.cell? (aP (w.heap.size+1))=some (aA none 0 0):=aG.cell rfl;have cR:=aG.fz;have bI:=aj aG;have b4:=aj (B1.trans (J.below (B:=w.heap.size) Pu (fun g e=>ai)));have a5:=aj ac;clear aG J C ac;go_wp2_with fail;refine bE (v:=.agg #[aA bi qs.length bj]) (XP results59 _ _ (w.heap.size+1) _ 114 _ rfl ?hB underlying114 rfl aM) rfl ?post
 case hB=>exact ⟨_,bI.set 0 _,bQ⟩
 case post=>
  rw [cX ai] at al;have R:=aE al;refine ⟨_,_,_,rfl,b4.setCell (p:=⟨w.heap.size+1,0,none⟩) ar _,qs,(a5.frame (Y1 bI zS 0 _)).lower (gU _),?_,ai,fun q ct=> ?_⟩
  ·have h1:=congrArg (List.map (List.map QB)) R;rw [bJ,cb] at h1;rw [<-h1,fU];simp
  have h1:q.2.map Prod.fst∈ps.map Prod.snd:=by rw [<-R];exact aU.2 ⟨q,ct,rfl⟩
  obtain ⟨p,ae,e⟩:=aU.1 h1;have h2:=bD p ae;have Y:=congrArg List.length e;rw [bN] at Y;have cF:=bF.u;omega
def Se(s w o c)(Q:dy s=.error (o,c))(J:c≠0)(A:Laid w):
  Calls prog 50 #[an s] w fun e w'=>e=bi (.tuple #[.pointer none,au c])/\am w w':=by
 have hl:=A.lt;have h:=(az w.heap.size w).alloc aH (.cells #[aA none 0 0,aA none 0 0,aA none 0 0] 117);have C:=zR w.heap.size s _ o c Q J (A.below h hl);have R:((c:Int)==0)=false:=by rw [bR];omega
 go_enter func50,ntmps50;go_wp2_with fail;refine C.mono ?_;rintro e U ⟨rfl,I⟩;have D:=h.trans (I.mono h.size);go_wp2;go_ret2;exact ⟨rfl,D⟩
def Zd(h:List Ty->ag->af->Prop)(ts:List Ty)(w:af)(e:Ending)(w':af):Prop:=∃mv lv bm tl b,e=bi (.tuple #[bu b,au 0])/\PU w' b mv lv (aA none 0 0) []/\MC bm w' mv ts tl/\h ts lv w'/\am w w'/\w.heap.size<=b
def Wb(A:List Ty->ag->af->Prop)(Q:OfC A)(J:YZ A)(s:ae)(w:af)(ts:List Ty)(V:dy s=.ok ts)(I:Laid w):
  Calls prog 50 #[an s] w (Zd A ts w):=by
 have hl:=I.lt;have D:=(az w.heap.size w).alloc aH (.cells #[aA none 0 0,aA none 0 0,aA none 0 0] 117);have C:=Ep A Q J w.heap.size s _ _ _ _ (aL.new w #[aA none 0 0,aA none 0 0,aA none 0 0] 117) ts V (I.below D hl);go_enter func50,ntmps50;go_wp2_with fail;refine C.mono ?_;rintro e ab ⟨mv,lv,bm,tl,rfl,Y,U,Z,R⟩;go_wp2;go_ret2;exact ⟨mv,lv,bm,tl,w.heap.size,rfl,Y,U,Z,D.trans (R.below D.size (fun g e=>ai)),bV _⟩
section
def seV(n:Nat):ag:=.int .u64 n
structure M5(base:Nat)(w:af)(b:Nat)(v:ag)(l:List Nat):Prop where
 blk:aL w b #[v] 389
 row:w.ownsRow base 193 1 v l.length (l.map seV)
 low:base<=b
variable {base:Nat}
def M5.below{l}(h:M5 base w b v l)(k:am w w'):M5 base w' b v l:=⟨h.blk.below k,aB h.row k,h.low⟩
def Tryz.infoSet:(Tryz.prog.info? 193).map (fun i=>(i.zero,i.size,i.bytes))=some (some (.int .u64 0),1,8):=by kernel_rfl
def SC(h:w.ownsRow base e 1 (aA (some (aP g)) n cap) n xs)(V:m<=n):w.ownsRow base e 1 (aA (some (aP g)) m cap) m (xs.take m):=by
 obtain ⟨hl,h2⟩:=h
 rcases h2 with ⟨A,_⟩|⟨g',U,C,A,D,Q,Y,I,J,R⟩
 ·simp at A
 simp only [aK,aR,cg,fZ,bX] at A;obtain ⟨rfl,rfl⟩:=A;refine ⟨aS,.inr ⟨g,cap,C,rfl,D,Q,ai,I,J,?_⟩⟩;rw [<-R,List.take_take]
 congr 1
 omega
def KN{f:α->ag}{l:List α}(h:w.ownsRow base e 1 v l.length (l.map f))(V:0<l.length):∃g c,v=aA (some (aP g)) l.length c/\l.length<=c/\∀i x,l[i]? =some x->w.cell? (aC g i)=some (f x):=by
 obtain ⟨_,h2⟩:=id h
 rcases h2 with ⟨_,D⟩|⟨g,cap,C,rfl,I,R,A,J,Q,Y⟩
 ·omega
 refine ⟨g,cap,rfl,A,fun i x hi=> ?_⟩;obtain ⟨U,_⟩:=bD.1 hi;rw [World.ownsRow.cellAt h i ai,List.getElem?_map,hi]
 rfl
def SkPut(base b:Nat)(v:ag)(l:List Nat)(w:af)(e:Ending)(w':af):Prop:=∃v',e=bi (.tuple #[])/\oD b v w w' v'/\M5 base w' b v' l
def Zt(base b:Nat)(v:ag)(l:List Nat)(n:Nat)(w:af)(e:Ending)(w':af):Prop:=∃v',e=bi (.int .u64 n)/\oD b v w w' v'/\M5 base w' b v' l
def ru(base b:Nat)(v l)(n:Nat)(w)(h:M5 base w b v l)(ad:l.length<=100000):
  Calls prog 241 #[bu b,.int .u64 n] w (SkPut base b v (l++[n]) w):=by
 obtain ⟨J,Q,rfl⟩:=aw h.row;have c0:w.cell? (aP b)=some (aA J l.length Q):=h.blk.cell rfl;have ab:=h.blk.lt;have Y:=h.low;go_enter func241,ntmps241;go_wp2_with (at_builtin;go_must (refine eB rfl underlying389 Tryz.infoSet base (h.row.alloc _) w.heap.size 1 [.int .u64 n] (w.heap.size+1) ?hrest))
 case hrest=>
  intro g5 be w5 Z I V ac;have R:=h.row.alloc (.cells #[.int .u64 n] 193);have D:=h.blk.alloc (.cells #[.int .u64 n] 193);have A:aL w5 b _ 389:=(I.block b D.lt (own_ne R D ax)).trans D;have zq:=A.fz;have ae:w5.cell? (aP b)=some (aA J l.length Q):=A.cell rfl;go_wp2;go_end0;have U:=(az w.heap.size w).alloc aH (.cells #[.int .u64 n] 193);refine ⟨_,rfl,⟨((bK.of_below U).trans (dE I (fun k C=> .inr C))).set (.inl rfl) _,fun k C=> ?_⟩,⟨A.set 0 _,?_,Y⟩⟩
  ·simp only [Value.ownBlock,aR] at C
   rcases aE V with e|e
   ·exact .inl (by rw [e,C])
   exact .inr ai
  have:=bU Z A ax 0 (aA (some (aP g5)) (l.length+1) be);rw [cK,bf];exact this
def s3(base b v l n w)(h:M5 base w b v (l++[n]))(Q:l.length<=100000):
  Calls prog 240 #[bu b] w (Zt base b v l n w):=by
 obtain ⟨g,c,e1,I,hc⟩:=KN h.row ar;have A:(l++[n]).length=l.length+1:=ar;rw [A] at e1;subst e1;have J:l.length<=c:=ai;have c0:w.cell? (aP b)=some (aA (some (aP g)) (l.length+1) c):=h.blk.cell rfl;have R:=h.blk.fz;have D:=h.low;go_enter func240,ntmps240;go_wp2;go_ret;refine ⟨_,rfl,⟨(bK.refl _ w).set (.inl rfl) _,fun k C=> .inl (by simpa [Value.ownBlock] using C)⟩,⟨h.blk.set 0 _,?_,D⟩⟩;have h1:=SC (m:=l.length) (by have:=h.row;rw [A] at this;exact this:w.ownsRow base 193 1 (aA (some (aP g)) (l.length+1) c) (l.length+1) ((l++[n]).map seV)) ai;have h2:=bU h1 h.blk ax 0 (aA (some (aP g)) l.length c);rw [cK,sq ar] at h2;exact h2
def SD(base b:Nat)(v l)(n:Nat)(w)(h:M5 base w b v (l++[n]))(D:l.length<=100000):
  Calls prog 245 #[v] w fun e w'=>e=bi (.int .u64 n)/\w'=w:=by
 obtain ⟨g,c,e1,C,hc⟩:=KN h.row ar;have A:(l++[n]).length=l.length+1:=ar;rw [A] at e1;subst e1;go_enter func245,ntmps245;go_wp2;go_ret;exact ⟨rfl,rfl⟩
end
structure Sj where
 kind:ae
 id:ae
 rel:ae
def Sj.dec(a b:Sj):Decidable (a=b):=decidable_of_iff (a.kind=b.kind/\a.id=b.id/\a.rel=b.rel) ⟨fun h=>by cases a;cases b;simp_all,fun h=>by simp [h]⟩
def IR(s:Sj):ag:=.agg #[.string s.kind,.string s.id,.string s.rel]
def oe(s:Sj):Prop:=s.kind.size<=maxLen/\s.id.size<=maxLen/\s.rel.size<=maxLen
def Tryz.laidB:laidOutB prog=true:=by kernel_rfl
def Tryz.keyWide:(match Tryz.prog.underlying 102 with|some (.array _ _)|some (.struct _)=>true|_=>false)=true:=by rw [underlying102]
def Tryz.keyRow:(102:TypeId)<Tryz.prog.types.size:=of_decide_eq_true aM
def Tryz.keyAt:Tryz.prog.keyTypeAt 3 102=true:=by kernel_rfl
def Tryz.keyLaw:WideMaps.KeyLaw prog 102:=deep_law_laid Tryz.laidB (m:=3) ai Tryz.keyRow Tryz.keyAt Tryz.keyWide
def Tryz.keyed:Maps.Keyed prog 102:=Maps.Keyed.of_law Tryz.keyLaw
def Tryz.keyType:Tryz.prog.keyType 102=true:=by kernel_rfl
def Tryz.cellsSj:Tryz.prog.cellsOf 102=3:=by kernel_rfl
def Tryz.cellsTh:Tryz.prog.cellsOf 98=2:=by kernel_rfl
def Tryz.cellsStr:Tryz.prog.cellsOf 9=1:=by kernel_rfl
def xx(n)(hs:s.size<=maxLen):Tryz.prog.keyLits (n+1) 9 [.string s]=some [.string s.data.toList]:=by
 unfold Program.keyLits;rw [underlying9];simp [hs]
def Wk(n){a b}(ha:a.size<=maxLen)(h:b.size<=maxLen):Tryz.prog.keyLits (n+2) 98 [.string a,.string b]=some [.string a.data.toList,.string b.data.toList]:=by
 unfold Program.keyLits;rw [underlying98];simp [Tryz.cellsTh,Tryz.cellsStr,xx n ha,xx n h]
def Wl(n){s}(h:oe s):Tryz.prog.keyLits (n+3) 102 [.string s.kind,.string s.id,.string s.rel]=some [.string s.kind.data.toList,.string s.id.data.toList,.string s.rel.data.toList]:=by
 unfold Program.keyLits;rw [underlying102];simp [Tryz.cellsSj,Tryz.cellsTh,Tryz.cellsStr,Wk n h.1 h.2.1,xx (n+1) h.2.2]
def sjK(s:Sj):Lit:=.string (keyBytes [.string s.kind.data.toList,.string s.id.data.toList,.string s.rel.data.toList])
def xy{s}(h:oe s):keyOf prog 102 (IR s)=some (sjK s):=by
 have hn:Tryz.prog.types.size+1=(445-2)+3:=by
  have:Tryz.prog.types.size=445:=aM;omega
 have A:(IR s).formed prog 102=true:=by simp [IR,Value.formed,underlying102,Tryz.cellsSj]
 unfold keyOf;rw [underlying102];simp only [Tryz.keyType,A,Bool.and_self,if_true,hn];rw [show (IR s).cells.toList=[.string s.kind,.string s.id,.string s.rel] from rfl,Wl _ h]
 rfl
def Wm{s s'}(h:oe s)(A:oe s')(e:sjK s=sjK s'):s=s':=by
 have:=Tryz.keyed.inj (xy h) (by rw [e];exact xy A);simp [IR] at this
 cases s;cases s';simp_all
def rR(w:af)(b n:Nat)(K:Sj->Nat):Prop:=∃h:DataW Unit,w.ownsMap prog 102 (plainElem prog 193) b n h/\Maps.IsMap h/\∀s,oe s->h.atKey (sjK s) (.lit (.int .u64 0))=.lit (.int .u64 (K s))
def m5(K:Sj->Nat)(s:Sj)(v:Nat):Sj->Nat:=fun x=>@ite _ (x=s) (x.dec s) v (K x)
def SE(w:af):rR (w.alloc (.map #[] 0)) w.heap.size 0 (fun _=>0):=⟨.map [],World.ownsMap_made _ _ _ _,Maps.isMap_empty,fun s _=>rfl⟩
def rR.lt{K}(h:rR w b n K):b<w.heap.size:=by
 obtain ⟨A,h1,_⟩:=h;exact h1.lt
def rR.block{K}(h:rR w b n K)(I:w'.heap[b]? =w.heap[b]?):rR w' b n K:=by
 obtain ⟨A,⟨C,c,h1,D⟩,h2⟩:=h;exact ⟨A,⟨C,c,I.trans h1,D⟩,h2⟩
def rR.isMap{K}(h:rR w b n K):∃A c,w.heap[b]? =some (.map A c):=by
 obtain ⟨C,⟨A,c,h1,D⟩,h2⟩:=h;exact ⟨A,c,h1⟩
def SF(w):(zeroValue 193).run prog w=.ok (.int .u64 0) w:=by kernel_rfl
def rR.look{K}(h:rR w b n K){s}(hs:oe s):(Instr.lookup 187 (.map (some b)) (IR s) false).run prog w=.ok (.int .u64 (K s)) w:=by
 obtain ⟨I,h1,h2,C⟩:=h;obtain ⟨c,D,A,_⟩:=h1.lookup_int Tryz.keyed underlying187 underlying193 (SF w) (xy hs);rw [C s hs] at A;simp only [DataW.lit.injEq,Lit.int.injEq,bX] at A;rw [D,<-A]
def Zu{v:Nat}(h:v<18446744073709551616):(Lit.int .u64 (v:Int)).wf=true:=WalkArith.wf_u64 ⟨by omega,by omega⟩
def rR.upd{K}(h:rR w b n K)(I:n<maxLen){s}(hs:oe s){v:Nat}(Q:v<18446744073709551616):
  ∃w',(Instr.mapUpdate 187 (.map (some b)) (IR s) (.int .u64 v)).run prog w=.ok () w'/\rR w' b (n+1) (m5 K s v)/\w.grownBy w' (some b):=by
 obtain ⟨R,h1,h2,C⟩:=h;obtain ⟨w',J,ho,D⟩:=h1.update Tryz.keyed underlying187 I (xy hs) (plainElem_int underlying193 (Zu Q));refine ⟨w',J,⟨_,ho,h2.put _ _,fun s' A=> ?_⟩,D⟩;unfold m5
 by_cases e:s'=s
 ·subst e;rw [if_pos rfl,Maps.atKey_put_same h2 (Tryz.keyed.key (xy hs))]
 ·rw [if_neg e,Maps.atKey_put_other (fun e'=>e (Wm A hs e')),C s' A]
def kU(ts:List Tu)(k:Nat)(rel:ae):Nat:=match (ts.drop k).findIdx? (fun t=>decide (t.rel=rel)) with
 |some i=>k+i+1
 |none=>0
structure Wn(w:af)(tv:ag)(ts:List Tu):Prop where
 row:w.ownsRow 0 123 6 tv ts.length (ts.flatMap k9)
 most:ts.length<=1000
def Wn.below{ts}(h:Wn w tv ts)(k:am w w'):Wn w' tv ts:=⟨aB h.row k,h.most⟩
def KO{a c:ae}(h:a≠c):(a.toList==c.toList)=false:=by
 rw [<-aQ]
 cases e:eqs a c
 ·rfl
 exact absurd ((bz _ _).1 e) h
def Ya{a c:ae}(h:a=c):(a.toList==c.toList)=true:=by subst h;simp
def IU{ts t}(C:ts[k+j]? =some t)(I:t.rel=rel)(D:∀i,i<j->∀u,ts[k+i]? =some u->u.rel≠rel):kU ts k rel=k+j+1:=by
 have:(ts.drop k).findIdx? (fun t=>decide (t.rel=rel))=some j:=by
  rw [kZ];obtain ⟨h1,h2⟩:=bD.1 C;refine ⟨aS,by simp [h2,I],fun i hi=> ?_⟩;have A:k+i<ts.length:=ai;have:=D i hi _ (aI A)
  simpa using this
 unfold kU;rw [this]
def xz{ts}(A:∀i u,ts[k+i]? =some u->u.rel≠rel):kU ts k rel=0:=by
 have:(ts.drop k).findIdx? (fun t=>decide (t.rel=rel))=none:=by
  rw [pI];intro x C;obtain ⟨i,hi,rfl⟩:=dB C;have h:k+i<ts.length:=by simp at hi;omega
  have:=A i _ (aI h)
  simpa using this
 unfold kU;rw [this]
def SG(kd id rel tv ts k w)(h:Wn w tv ts)(h0:0<ts.length)(ax:k<=ts.length):
  Calls prog 242 #[.agg #[an kd,an id,tv],au k,an rel] w fun e w'=>e=bi (au (kU ts k rel))/\am w w':=by
 obtain ⟨g,c,e1,hc⟩:=bn k9 6 (fun _=>rfl) h.row 0 ts[0] (aI h0);subst e1;have ag:ts.length<=c:=by
  rcases h.row.2 with ⟨V,_⟩|⟨_,_,_,V,_,_,aG,_⟩
  ·simp at V
  simp only [aK] at V;omega
 have aF:=h.most;have ad:=(show ∀j t,ts[k+j]? =some t->w.cell? (aC g (k*6+j*6))=some (an t.kind)/\w.cell? (aC g (k*6+j*6+1))=some (an t.id)/\w.cell? (aC g (k*6+j*6+2))=some (an t.rel)/\w.cell? (aC g (k*6+j*6+3))=some (an t.sub)/\w.cell? (aC g (k*6+j*6+4))=some (an t.who)/\w.cell? (aC g (k*6+j*6+5))=some (an t.of) from fun j t Z=>by
  obtain ⟨g',aw,e',D⟩:=bn k9 6 (fun _=>rfl) h.row (k+j) t Z;rw [Nat.add_mul] at D;simp only [aK,aR,cg,fZ,bX] at e';obtain ⟨rfl,rfl⟩:=e';exact ⟨D 0 _ ai rfl,D 1 _ ai rfl,D 2 _ ai rfl,D 3 _ ai rfl,D 4 _ ai rfl,D 5 _ ai rfl⟩)
 have I:g<w.heap.size:=(h.row.lt g rfl).2;obtain ⟨m,J⟩:∃m,ts.length=k+m:=⟨ts.length-k,ai⟩;rw [J] at ag;have ay:(k:Int)<=(c:Int):=ai;have aB:k+m<=1000:=ai;rw [J]
 by_cases ah:c=k
 ·have ak:m=0:=by omega
  subst ak;have ae:=xz (ts:=ts) (k:=k) (rel:=rel) (fun i u C=>by have:=(bD.1 C).1;have:=J;omega);subst ah;go_enter func242,ntmps242;go_wp2_with fail
  go_loopw [14] (fun Q wr=>Q=au 0/\am w wr) (fun _ _=>0)
  ·exact ⟨rfl,(az _ w).alloc aH _⟩
  obtain ⟨rfl,A⟩:=hrel;go_wp2;go_ret;rw [ae];exact ⟨rfl,A⟩
 ·go_enter func242,ntmps242;go_wp2_with fail
  go_loopw [14] (fun Q wr=>∃j:Nat,j<=m/\Q=au j/\am w wr/\(∀i,i<j->∀u,ts[k+i]? =some u->u.rel≠rel)) (fun Q _=>m-(intOf Q).toNat)
  ·exact ⟨0,ai,rfl,(az _ w).alloc aH _,(fun i hi=>ai)⟩
  obtain ⟨j,Z,rfl,A,U⟩:=hrel;have ab:=A.size
  by_cases aA:j<m
  ·have aj:(j:Int)<(m:Int):=by omega
   obtain ⟨t,Y⟩:∃t,ts[k+j]? =some t:=⟨_,aI (by have:=aE J;omega)⟩;obtain ⟨k0,k1,ap,k3,ar,av⟩:=ad j t Y;have aJ:=(A.cell (p:=⟨g,_,none⟩) I).trans k0;have aL:=(A.cell (p:=⟨g,_,none⟩) I).trans k1;have aM:=(A.cell (p:=⟨g,_,none⟩) I).trans ap;have aN:=(A.cell (p:=⟨g,_,none⟩) I).trans k3;have aO:=(A.cell (p:=⟨g,_,none⟩) I).trans ar;have aP:=(A.cell (p:=⟨g,_,none⟩) I).trans av
   by_cases R:t.rel=rel
   ·have al:=R;have af:=Ya R;go_wp2;go_ret;rw [IU Y al U];exact ⟨by go_num,A.alloc ab _⟩
   have ac:=A.alloc ab (cB t.kind t.id t.rel t.sub t.who t.of);have af:=KO R;go_wp2;go_roundw
   ·exact ⟨j+1,ai,by go_num,ac,(fun i hi u C=>by
    by_cases e:i=j
    ·subst e;rw [Y] at C
     cases C
     exact R
    exact U i ai u C)⟩
   simp [intOf];omega
  have aj:¬((j:Int)<(m:Int)):=ai;go_wp2;go_ret;rw [xz (fun i u C=>U i (by have:=(bD.1 C).1;have:=J;omega) u C)];exact ⟨rfl,A⟩
abbrev Cy:=@Nat.or_lt_two_pow
def Zv (h:aD:=by
 rw [show ((2:Int) ^ j)=((2 ^ j:Nat):Int) from by simp];generalize 2 ^ j=x at*;simp [IntKind.wrap,IntKind.bits,IntKind.signed];omega):aD:=h
def SH (h:aD:=by
 clear HU;go_wp2;go_roundw
 ·exact ⟨j+1,ai,by go_num,by rw [HU2];exact Zw HL ai,X3⟩
 simp [intOf];omega):aD:=h
def SI (h:aD:=by
 clear HU;go_wp2;go_roundw
 ·exact ⟨j+1,ai,by go_num,by rw [HU2],X3⟩
 simp [intOf];omega):aD:=h
def SJ (h:aD:=by
 clear h0;go_enter func244,ntmps244;go_wp2;go_ret;rw [HE];exact ⟨rfl,b0⟩):aD:=h
def SK(q:bq) (h:cj bq->aD:=by
 intro zq;have h2:2 ^ j<18446744073709551616:=Nat.pow_lt_pow_right ai (show j<64 by omega);have e:IntKind.u64.wrap ((2:Int) ^ j)=((2 ^ j:Nat):Int):=by
  exact Zv
 revert h2 e
 exact zq.1):aD:=h ⟨q⟩
def s4(K:Sj->Nat)(s:Sj)(rel:ae):Nat:=if s.rel.size=0 then K ⟨s.kind,s.id,rel⟩ else 0
def Yb{c:ae}(h:c.size=0):(c.toList== [])=true:=by rw [aT,dS];exact iL Do
def Yc{c:ae}(h:¬c.size=0):(c.toList== [])=false:=by
 rw [aT];have:(bB c).length≠0:=by rw [bj];exact h
 revert this
 cases bB c<;>simp
def IV(ca ha cn cc hn hc mb n K s rel w)(A:rR w mb n K)(hs:oe s)(I:rel.size<=maxLen):
  Calls prog 244 #[.agg #[aA ca cn cc,aA ha hn hc,.map (some mb)],IR s,an rel] w fun e w'=>e=bi (.int .u64 (s4 K s rel))/\am w w':=by
 have b0:=((az w.heap.size w).alloc aH (.cells #[aA ca cn cc,aA ha hn hc,.map (some mb)] 189)).alloc ar (cf s.kind s.id s.rel);have C:=(A.block (b0.block mb A.lt)).look (s:=⟨s.kind,s.id,rel⟩) ⟨hs.1,hs.2.1,I⟩;unfold IR at C ⊢
 by_cases h0:s.rel.size=0
 ·have D:=Yb h0;have HE:=aj (show s4 K s rel=K ⟨s.kind,s.id,rel⟩ from if_pos h0);exact SJ
 ·have D:=Yc h0;have HE:=aj (show s4 K s rel=0 from if_neg h0);exact SJ
structure Tg where
 kind:ae
 id:ae
def Ai(w:af)(v:ag)(cs:List Tg):Prop:=∃g o c,v=aA (some (aC g o)) cs.length c/\g<w.heap.size/\cs.length<=64/\∀i x,cs[i]? =some x->w.cell? (aC g (o+i*2))=some (an x.kind)/\w.cell? (aC g (o+i*2+1))=some (an x.id)
def Ai.below{cs}(h:Ai w v cs)(k:am w w'):Ai w' v cs:=by
 obtain ⟨g,o,c,h1,h2,C,A⟩:=h;exact ⟨g,o,c,h1,cM h2 k.size,C,fun i x hi=>⟨(k.cell (p:=⟨g,_,none⟩) h2).trans (A i x hi).1,(k.cell (p:=⟨g,_,none⟩) h2).trans (A i x hi).2⟩⟩
def Fo(a c:Tg):Bool:=eqs a.kind c.kind&&eqs a.id c.id
def lu(s:Sj)(t:Tg):Bool:=Fo t ⟨s.kind,s.id⟩||((s.id.toList== [42])&&(t.kind.toList==s.kind.toList))
def e8(p:Tg->Bool)(cs:List Tg):Nat->Nat
 |0=>0
 |j+1=>match cs[j]? with
  |some t=>if p t then e8 p cs j|||2 ^ j else e8 p cs j
  |none=>e8 p cs j
def s7(p cs):∀j,j<=64->e8 p cs j<18446744073709551616
 |0,_=>by show 0<18446744073709551616;decide
 |j+1,h=>by
  have A:=s7 p cs j ai;have h2:2 ^ j<18446744073709551616:=Nat.pow_lt_pow_right ai (show j<64 by omega);unfold e8
  split
  ·split
   ·exact Cy (n:=64) A h2
   exact A
  exact A
def Zw(A:B<18446744073709551616)(C:j<64):Value.int .u64 (bits .or .u64 (B:Int) (IntKind.u64.wrap (2 ^ j)))=.int .u64 ((B|||2 ^ j:Nat):Int):=by
 refine SK ?_;intro h2 e;rw [e,u64_or_nat _ _ A h2]
def ja(K:Sj->Nat)(cs:List Tg)(s:Sj):Nat:=if s.rel.size=0 then e8 (lu s) cs cs.length else K s
def KP(a c w):(Op.equalIn 10000 98 (.agg #[an a.kind,an a.id]) (.agg #[an c.kind,an c.id])).run prog w=.ok (Fo a c) w:=by
 have A:=underlying9;rw [show (10000:Nat)=9999+1 from rfl,run_equalIn_agg w 9999 98 _ _ aM aM];simp only [Program.fieldsOf,underlying98]
 go_simp
 refine Pr ?_;intro e;simp only [Fo,e]
 (repeat' split)<;>simp_all
def guardTh(x y xs ys w):(eqGuard .eql 98 x y (.agg xs) (.agg ys)).run prog w=.ok () w:=run_eqGuard_agg w .eql 98 x y xs ys aM
def M6(cv cs ha hn hc mb n K s w)(R:rR w mb n K)(ah:Ai w cv cs)(hs:oe s):
  Calls prog 243 #[.agg #[cv,aA ha hn hc,.map (some mb)],IR s] w fun e w'=>e=bi (.int .u64 (ja K cs s))/\am w w':=by
 obtain ⟨g,o,c,rfl,ac,hl,ag⟩:=ah;have C:=((az w.heap.size w).alloc aH (.cells #[aA (some (aC g o)) cs.length c,aA ha hn hc,.map (some mb)] 189)).alloc ar (cf s.kind s.id s.rel);have ab:=(R.block (C.block mb R.lt)).look hs;unfold IR at ab ⊢
 by_cases h0:s.rel.size=0
 ·have ap:=Yb h0;have I:=aj (show ja K cs s=e8 (lu s) cs cs.length from if_pos h0);have Y:=aL.new' (w.alloc (.cells #[aA (some (aC g o)) cs.length c,aA ha hn hc,.map (some mb)] 189)) #[an s.kind,an s.id,an s.rel] 102 (w.heap.size+1) ar;clear h0 ab R;go_enter func243,ntmps243;go_wp2_with fail;generalize ((w.alloc (.cells #[aA (some (aC g o)) cs.length c,aA ha hn hc,.map (some mb)] 189)).alloc (cf s.kind s.id s.rel))=W at*
  go_loopw [5,18] (fun av V wr=>∃j:Nat,j<=cs.length/\V=au j/\av=.int .u64 (e8 (lu s) cs j)/\am W wr) (fun _ V _=>cs.length-(intOf V).toNat)
  ·exact ⟨0,ai,rfl,rfl,az _ _⟩
  obtain ⟨j,ax,rfl,rfl,A⟩:=hrel;obtain ⟨ay,aB,aE⟩:=three (Y.below A);have aw:=(Y.below A).lt
  by_cases al:j<cs.length
  ·have ak:(j:Int)<(cs.length:Int):=by omega
   obtain ⟨x,U⟩:∃x,cs[j]? =some x:=⟨_,aI al⟩;obtain ⟨ad,ae⟩:=ag j x U;have Q:=C.trans (A.mono C.size);have aF:=(Q.cell (p:=⟨g,_,none⟩) ac).trans ad;have aG:=(Q.cell (p:=⟨g,_,none⟩) ac).trans ae;have af:=fun w'=>KP x ⟨s.kind,s.id⟩ w'
   have HU:=aj (show e8 (lu s) cs (j+1)=if lu s x then e8 (lu s) cs j|||2 ^ j else e8 (lu s) cs j from by rw [e8];simp only [U]);have HL:=s7 (lu s) cs j ai;have X3:=A.alloc A.size (dK x.kind x.id);clear ad ae Q A U;dsimp only at af;generalize e8 (lu s) cs j=B at*
   cases D:Fo x ⟨s.kind,s.id⟩
   ·cases J:(s.id.toList== [42])
    ·have HU2:=aj (show e8 (lu s) cs (j+1)=B from by rw [HU];simp [lu,D,J]);exact SI
    cases Z:(x.kind.toList==s.kind.toList)
    ·have HU2:=aj (show e8 (lu s) cs (j+1)=B from by rw [HU];simp [lu,D,J,Z]);exact SI
    have HU2:=aj (show e8 (lu s) cs (j+1)=B|||2 ^ j from by rw [HU];simp [lu,D,J,Z]);exact SH
   have HU2:=aj (show e8 (lu s) cs (j+1)=B|||2 ^ j from by rw [HU];simp [lu,D]);exact SH
  have ak:¬((j:Int)<(cs.length:Int)):=ai;have e:j=cs.length:=ai;subst e;go_wp2;go_ret;rw [I];exact ⟨rfl,C.trans (A.mono C.size)⟩
 ·have ap:=Yc h0;have I:=aj (show ja K cs s=K s from if_neg h0);clear h0;go_enter func243,ntmps243;go_wp2;go_ret;rw [I];exact ⟨rfl,C⟩
def KQ (h:aD:=by
 simp [js];omega):aD:=h
def Fp (h:aD:=by
 simp [gQ]):aD:=h
def e9(t:Tu):Sj:=⟨t.sub,t.who,t.of⟩
def rA(a b:Nat):Nat:=a&&& (18446744073709551615-b)
structure SL where
 at_:Nat
 tup:Nat
 st:List Nat
structure SM where
 K:Sj->Nat
 cs:List Tg
 kd:ae
 id:ae
 ts:List Tu
def js(v:SM)(i:Ins)(s:SL):Option SL:=
 if 50000<s.st.length then none else
 match i.does,s.st with
 |1,st=>some ⟨s.at_+1,s.tup,0::st⟩
 |2,st=>some ⟨s.at_+1,s.tup,v.K ⟨v.kd,v.id,i.rel⟩::st⟩
 |3,st=>some ⟨if kU v.ts s.tup i.rel=0 then i.tzo else s.at_+1,kU v.ts s.tup i.rel,st⟩
 |4,st=>if 0<s.tup then (v.ts[s.tup-1]?).map fun t=>⟨s.at_+1,s.tup,ja v.K v.cs (e9 t)::st⟩ else none
 |5,st=>if 0<s.tup then (v.ts[s.tup-1]?).map fun t=>⟨s.at_+1,s.tup,s4 v.K (e9 t) i.rel::st⟩ else none
 |6,b::a::st=>some ⟨s.at_+1,s.tup,(b|||a)::st⟩
 |7,b::a::st=>some ⟨s.at_+1,s.tup,(b&&& a)::st⟩
 |8,b::a::st=>some ⟨s.at_+1,s.tup,rA a b::st⟩
 |9,b::st=>some ⟨if b=0 then i.tzo else s.at_+1,s.tup,b::st⟩
 |10,st=>some ⟨i.tzo,s.tup,st⟩
 |_,_=>none
def Fq(v:SM)(code:List Ins)(s:SL):Option SL:=(code[s.at_]?).bind fun i=>js v i s
def hW(v:SM)(code:List Ins):Nat->SL->Option SL
 |0,s=>some s
 |n+1,s=>(Fq v code s).bind (hW v code n)
def Fs(v code):∀n m s,hW v code (n+m) s=(hW v code n s).bind (hW v code m)
 |0,m,s=>by simp [hW]
 |n+1,m,s=>by
  rw [show n+1+m=(n+m)+1 by omega,hW,hW]
  cases h:Fq v code s with
  |none=>rfl
  |some s'=>simp only [Option.bind_some];exact Fs v code n m s'
def Goes(v:SM)(code:List Ins)(s s':SL):Prop:=∃n,hW v code n s=some s'
variable {code:List Ins}
def Goes.trans{v a b c}(h:Goes v code a b)(k:Goes v code b c):Goes v code a c:=by
 obtain ⟨n,hn⟩:=h;obtain ⟨m,A⟩:=k;exact ⟨n+m,by rw [Fs,hn];exact A⟩
def Goes.one{v s s' i}(hi:code[s.at_]? =some i)(h:js v i s=some s'):Goes v code s s':=⟨1,by
 rw [hW,Fq,hi,Option.bind_some,h]
 rfl⟩
def Cz:Ex->Prop
 |⟨_,some x,some y⟩=>Cz x/\Cz y
 |⟨_,none,_⟩=>True
 |⟨_,some _,none⟩=>False
def jt(ts:List Tu)(r:ae)(f:Tu->Nat)(a:Nat):Nat:=(ts.filter fun t=>decide (t.rel=r)).foldl (fun a t=>f t|||a) a
def eg(v:SM)(rel:ae):Ex->Nat
 |⟨n,some x,some y⟩=>if n.kind=3 then eg v rel y|||eg v rel x else if eg v rel x=0 then 0 else if n.kind=4 then eg v rel y&&& eg v rel x else rA (eg v rel x) (eg v rel y)
 |⟨n,none,_⟩=>if n.kind=0 then jt v.ts rel (fun t=>ja v.K v.cs (e9 t)) 0 else if n.kind=1 then v.K ⟨v.kd,v.id,n.n1⟩ else jt v.ts n.n1 (fun t=>s4 v.K (e9 t) n.n2) 0
 |⟨_,some _,none⟩=>0
def Aj{α:Type}{p:α->Bool}:∀{l:List α} {i:Nat},l.findIdx? p=some i->∃x,l[i]? =some x/\l.filter p=x::(l.drop (i+1)).filter p
 | [],i,h=>by simp at h
 |y::l,i,h=>by
  rw [List.findIdx?_cons] at h
  by_cases A:p y=true
  ·rw [if_pos A] at h
   cases h
   exact ⟨y,rfl,by rw [List.filter_cons_of_pos A];rfl⟩
  rw [if_neg A] at h
  cases hl:l.findIdx? p with
  |none=>rw [hl] at h;simp at h
  |some j=>
   rw [hl] at h;simp only [Option.map_some,aR] at h;subst h;obtain ⟨x,h1,h2⟩:=Aj hl;exact ⟨x,h1,by rw [List.filter_cons_of_neg A,h2];rfl⟩
def M7{ts r f}:(kU ts k r=0->jt (ts.drop k) r f a=a)/\(∀m,kU ts k r=m+1->k<=m/\∃t,ts[m]? =some t/\jt (ts.drop k) r f a=jt (ts.drop (m+1)) r f (f t|||a)):=by
 unfold kU
 cases h:(ts.drop k).findIdx? (fun t=>decide (t.rel=r)) with
 |none=>
  refine ⟨fun _=> ?_,fun m A=>by simp at A⟩;rw [pI] at h;unfold jt;rw [List.filter_eq_nil_iff.2 (fun x D=>by simpa using h x D)]
  rfl
 |some i=>
  refine ⟨fun h0=>by simp at h0,fun m A=> ?_⟩;have C:m=k+i:=by simp at A;omega
  subst C;obtain ⟨x,h1,h2⟩:=Aj h;rw [rV] at h1;refine ⟨ai,x,h1,?_⟩;unfold jt;rw [h2,nk,List.foldl_cons,vT]
def SN(ts k r):kU ts k r<=ts.length:=by
 unfold kU
 split
 ·rename_i i h;have:=(kZ.1 h).1;simp at this;omega
 omega
section
variable {v:SM}{code:List Ins}
def M8(m r each f st)(Y:st.length<40000)(h1:code[m+1]? =some ⟨3,r,m+5⟩)(h2:code[m+2]? =some each)(C:code[m+3]? =some ⟨6,⟨#[]⟩,0⟩)(D:code[m+4]? =some ⟨10,⟨#[]⟩,m+1⟩)(J:∀k t a,0<k->v.ts[k-1]? =some t->js v each ⟨m+2,k,a::st⟩=some ⟨m+3,k,f t::a::st⟩):
  ∀d k a,v.ts.length-k=d->k<=v.ts.length->Goes v code ⟨m+1,k,a::st⟩ ⟨m+5,0,jt (v.ts.drop k) r f a::st⟩:=by
 intro d
 induction d using Nat.strongRecOn with
 |_ d ih=>
  intro k a Q R;have G:=M7 (ts:=v.ts) (r:=r) (f:=f) (k:=k) (a:=a)
  cases hn:kU v.ts k r with
  |zero=>
   rw [G.1 hn];exact Goes.one h1 (by simp [js,hn];omega)
  |succ q=>
   obtain ⟨U,t,A,I⟩:=G.2 q hn;have V:=(bD.1 A).1;rw [I];refine (Goes.one (s':=⟨m+2,q+1,a::st⟩) h1 (by simp [js,hn];omega)).trans ?_;refine (Goes.one h2 (J (q+1) t a ai (by simpa using A))).trans ?_;refine (Goes.one (s':=⟨m+4,q+1,(f t|||a)::st⟩) C KQ).trans ?_;refine (Goes.one (s':=⟨m+1,q+1,(f t|||a)::st⟩) D KQ).trans ?_;exact ih (v.ts.length-(q+1)) ai (q+1) _ rfl ai
def Seg(code:List Ins)(m:Nat)(l:List Ins):Prop:=∀i,i<l.length->code[m+i]? =l[i]?
def Seg.left{l1 l2}(h:Seg code m (l1++l2)):Seg code m l1:=fun i hi=>by
 rw [h i Kq,nF hi]
def Seg.right{l1 l2}(h:Seg code m (l1++l2)):Seg code (m+l1.length) l2:=fun i hi=>by
 rw [vT,h (l1.length+i) Kq,nG ai]
 congr 1
 omega
def Seg.head{x l}(h:Seg code m (x::l)):code[m]? =some x:=by simpa using h 0 ar
def lQ(rel):∀(e:Ex),Cz e->∀(m:Nat)(st:List Nat),Seg code m (bp rel m e)->st.length+(bp rel m e).length<40000->Goes v code ⟨m,0,st⟩ ⟨m+(bp rel m e).length,0,eg v rel e::st⟩
 |⟨n,some x,some y⟩,hw,m,st,hc,hl=>by
  unfold Cz at hw;obtain ⟨U,V⟩:=hw;unfold bp at hc hl ⊢;unfold eg
  by_cases A:n.kind=3
  ·rw [if_pos A] at hc hl;rw [if_pos A,if_pos A];simp only [bf,List.length_singleton] at hl ⊢;have X:=lQ rel x U m st hc.left.left ai;have I:=lQ rel y V (m+(bp rel m x).length) (eg v rel x::st) hc.left.right aS;have C:=hc.right.head;rw [bf] at C;refine X.trans (I.trans ?_);rw [show m+((bp rel m x).length+(bp rel (m+(bp rel m x).length) y).length+1)=m+(bp rel m x).length+(bp rel (m+(bp rel m x).length) y).length+1 by omega];exact Goes.one (by rw [vT];exact C) KQ
  rw [if_neg A] at hc hl;rw [if_neg A,if_neg A];simp only [bf,List.length_singleton] at hl ⊢;have X:=lQ rel x U m st hc.left.left.left ai;have S:=hc.left.left.right.head;have R:=hc.left.right;rw [bf,List.length_singleton,<-vT] at R;have I:=lQ rel y V (m+(bp rel m x).length+1) (eg v rel x::st) R aS;have C:=hc.right.head;simp only [bf,List.length_singleton] at C;refine X.trans ?_
  by_cases h0:eg v rel x=0
  ·rw [if_pos h0];refine Goes.one S ?_;simp [js,h0];omega
  rw [if_neg h0];refine (Goes.one (s':=⟨m+(bp rel m x).length+1,0,eg v rel x::st⟩) S (by simp [js,h0];omega)).trans (I.trans ?_);rw [show m+((bp rel m x).length+1+(bp rel (m+(bp rel m x).length+1) y).length+1)=m+(bp rel m x).length+1+(bp rel (m+(bp rel m x).length+1) y).length+1 by omega];refine Goes.one (by rw [show m+(bp rel m x).length+1+(bp rel (m+(bp rel m x).length+1) y).length=m+((bp rel m x).length+1+(bp rel (m+(bp rel m x).length+1) y).length) by omega];exact C) ?_
  by_cases D:n.kind=4
  ·simp [js,D];omega
  simp [js,D];omega
 |⟨n,none,r⟩,hw,m,st,hc,hl=>by
  unfold bp at hc hl ⊢;unfold eg;have Y:∀(r:ae)(each:Ins)(f:Tu->Nat),Seg code m (gQ m r each)->st.length+5<40000->(∀k t a,0<k->v.ts[k-1]? =some t->js v each ⟨m+2,k,a::st⟩=some ⟨m+3,k,f t::a::st⟩)->Goes v code ⟨m,0,st⟩ ⟨m+5,0,jt v.ts r f 0::st⟩:=by
   intro r each f hs hl Z;have h0:=hs 0 Fp;have h1:=hs 1 Fp;have h2:=hs 2 Fp;have A:=hs 3 Fp;have D:=hs 4 Fp;refine (Goes.one (s':=⟨m+1,0,0::st⟩) h0 KQ).trans ?_;exact M8 m r each f st ai h1 h2 A D Z _ 0 0 rfl ai
  by_cases h0:n.kind=0
  ·rw [if_pos h0] at hc hl;rw [if_pos h0,if_pos h0];exact Y rel ⟨4,⟨#[]⟩,0⟩ _ hc (by simpa [gQ] using hl) (fun k t a J Q=>by simp [js,J,Q];simp [gQ] at hl;omega)
  rw [if_neg h0] at hc hl;rw [if_neg h0,if_neg h0]
  by_cases h1:n.kind=1
  ·rw [if_pos h1] at hc hl;rw [if_pos h1,if_pos h1];exact Goes.one hc.head (by simp at hl;simp [js];omega)
  rw [if_neg h1] at hc hl;rw [if_neg h1,if_neg h1];exact Y n.n1 ⟨5,n.n2,0⟩ _ hc (by simpa [gQ] using hl) (fun k t a J Q=>by simp [js,J,Q];simp [gQ] at hl;omega)
 |⟨n,some x,none⟩,hw,m,st,hc,hl=>by
  unfold Cz at hw;exact hw.elim
def M9(rel e)(A:Cz e)(h:(bp rel 0 e).length<40000):Goes v (gF rel e) ⟨0,0,[]⟩ ⟨(bp rel 0 e).length,0,[eg v rel e]⟩:=by
 have:=lQ (v:=v) (code:=gF rel e) rel e A 0 [] (fun i hi=>by unfold gF;rw [pZ,nF hi]) (by simpa using h)
 simpa using this
def SO(rel e):(gF rel e)[(bp rel 0 e).length]? =some ⟨0,⟨#[]⟩,0⟩:=by
 unfold gF;rw [nG ai];simp
end
section
def KR (h:aD:=by
 simp at hsl ⊢;omega):aD:=h
def Ft (h:aD:=by
 simpa using hs):aD:=h
def og (h:aD:=by
 exact ⟨rfl,r,ai,_,_,_,_,HIT,rfl,rfl,J1⟩):aD:=h
def rB{P:Nat->Prop}(h:∃r,P r):∃r,P r/\∀A,A<r->¬P A:=by
 obtain ⟨r,C⟩:=h
 induction r using Nat.strongRecOn with
 |_ r ih=>
  by_cases h:∃A,A<r/\P A
  ·obtain ⟨A,h1,h2⟩:=h;exact ih A h1 h2
  exact ⟨r,C,fun A h1 h2=>h ⟨A,h1,h2⟩⟩
open Classical in
def Fu{a:Act}{Q:Exit->Act->af->Prop}{c rest:Code}(l:Nat)(C:Nat->Act->af->Prop)(R:findLabel c l=some (.seq .skip rest))
  (J:∀r a w,C r a w->rest.wp P (Exit.jump l (fun a' w'=>∃A,A<r/\C A a' w') Q) a w)
  (first:(∀r a w,C r a w->rest.wp P (Exit.jump l (fun a w=>∃r,C r a w) Q) a w)->c.wp P (Exit.jump l (fun a w=>∃r,C r a w) Q) a w):(Code.scope c).wp P Q a w:=by
 refine wp_scope_jumps l (fun a w=>∃r,C r a w) (fun a w=>if h:∃r,C r a w then Classical.choose (rB h) else 0) R (first fun r a w h=>wp_mono (J r a w h) (fun e a' w' q=>by
  cases e<;>try exact q
  obtain ⟨h1,A,_,D⟩:=q;exact ⟨h1,A,D⟩)) ?_
 intro a w h;have hs:=Classical.choose_spec (rB h);refine wp_seq (wp_skip ?_);refine wp_mono (J _ a w hs.1) (fun e a' w' q=> ?_)
 cases e<;>try exact q
 obtain ⟨h1,A,h2,D⟩:=q;refine ⟨h1,⟨A,D⟩,?_⟩;have I:∃r,C r a' w':=⟨A,D⟩;rw [dif_pos I,dif_pos h];have U:=Classical.choose_spec (rB I);have:¬A<Classical.choose (rB I):=fun e=>U.2 A e D
 omega
structure yP(w:af)(ca ha ta:Option Addr)(cn cc hn hc tn tc mb:Nat)(v:SM)(s:SL)(sv:ag)(wr:af):Prop where
 bel:am w wr
 kn:aL wr w.heap.size #[aA ca cn cc,aA ha hn hc,.map (some mb)] 189
 ho:aL wr (w.heap.size+1) #[an v.kd,an v.id,aA ta tn tc] 282
 sk:M5 w.heap.size wr (w.heap.size+2) sv s.st.reverse
 tup:s.tup<=v.ts.length
 bits:∀x∈s.st,x<18446744073709551616
def us94(us)(h:us.length=94):∃u:Nat->ag,us=[u 0,u 1,u 2,u 3,u 4,u 5,u 6,u 7,u 8,u 9,u 10,u 11,u 12,u 13,u 14,u 15,u 16,u 17,u 18,u 19,u 20,u 21,u 22,u 23,u 24,u 25,u 26,u 27,u 28,u 29,u 30,u 31,u 32,u 33,u 34,u 35,u 36,u 37,u 38,u 39,u 40,u 41,u 42,u 43,u 44,u 45,u 46,u 47,u 48,u 49,u 50,u 51,u 52,u 53,u 54,u 55,u 56,u 57,u 58,u 59,u 60,u 61,u 62,u 63,u 64,u 65,u 66,u 67,u 68,u 69,u 70,u 71,u 72,u 73,u 74,u 75,u 76,u 77,u 78,u 79,u 80,u 81,u 82,u 83,u 84,u 85,u 86,u 87,u 88,u 89,u 90,u 91,u 92,u 93]:=by
 refine ⟨fun k=>us.getD k undef,?_⟩;have e:us=(List.range 94).map (fun k=>us.getD k undef):=by
  refine List.ext_getElem (by simp [h]) fun i h1 h2=> ?_
  simp [eA,aI h1]
 generalize (fun k=>us.getD k undef)=u at*;rw [e]
 rfl
def UM(w:af)(ca h ha ta:Option Addr)(cn cc il A hn hc tn tc mb:Nat)(v:SM)(s:SL)(C:ag)(us:List ag):Act:={tmps:=(.agg #[aA ca cn cc,aA ha hn hc,.map (some mb)]::aA h il A:: .agg #[an v.kd,an v.id,aA ta tn tc]::bu w.heap.size::C::bu (w.heap.size+1):: .int .u64 0::bu (w.heap.size+2)::au s.at_::au s.tup::us).toArray,defers:=[]}
variable {base:Nat}
def M5.bel{C:ag}{l:List Nat}(h:M5 base w b sv l)(k:oD b sv w w' C):Below base w w':=by
 exact Qg
section
variable {w wr wa w1:af}{ca ha ta:Option Addr}{cn cc hn hc tn tc mb:Nat}{v:SM}{s s':SL}{sv yz:ag}
def yP.below(h:yP w ca ha ta cn cc hn hc tn tc mb v s sv wr)(k:am wr wa):yP w ca ha ta cn cc hn hc tn tc mb v s sv wa:=
 ⟨h.bel.trans (k.mono h.bel.size),h.kn.below k,h.ho.below k,h.sk.below k,h.tup,h.bits⟩
def yP.push(A:yP w ca ha ta cn cc hn hc tn tc mb v s sv wa)(f:oD (w.heap.size+2) sv wa w1 yz)(hs:M5 w.heap.size w1 (w.heap.size+2) yz s'.st.reverse)(D:s'.tup<=v.ts.length)(C:∀x∈s'.st,x<18446744073709551616):yP w ca ha ta cn cc hn hc tn tc mb v s' yz w1:=
 ⟨A.bel.trans (A.sk.bel f),f.blk A.kn ai (fun e=>own_ne A.sk.row A.kn ax e.symm),f.blk A.ho ai (fun e=>own_ne A.sk.row A.ho ax e.symm),hs,D,C⟩
def yP.same(h:yP w ca ha ta cn cc hn hc tn tc mb v s sv wa)(hs:s'.st=s.st)(A:s'.tup<=v.ts.length):yP w ca ha ta cn cc hn hc tn tc mb v s' sv wa:=
 ⟨h.bel,h.kn,h.ho,by rw [hs];exact h.sk,A,by rw [hs];exact h.bits⟩
end
def Ai.most{x cs}(h:Ai w x cs):cs.length<=64:=by
 obtain ⟨_,_,_,_,_,h,_⟩:=h;exact h
def Fv{K cs}(h:∀s,K s<18446744073709551616)(A:cs.length<=64)(s):ja K cs s<18446744073709551616:=by
 unfold ja
 split
 ·exact s7 _ _ _ A
 exact h s
def SP{K}(h:∀s,K s<18446744073709551616)(s rel):s4 K s rel<18446744073709551616:=by
 unfold s4
 split
 ·exact h _
 decide
def Ak(n):IntKind.i64.wrap n=(n+9223372036854775808) % 18446744073709551616-9223372036854775808:=by
 simp [IntKind.wrap,IntKind.bits,IntKind.signed]
 split<;>omega
def SQ(ha:a<18446744073709551616)(h:b<18446744073709551616):bits .andNot .u64 (a:Int) (b:Int)=((rA a b:Nat):Int):=u64_andNot_nat a b ha h
def KS(ha:a<18446744073709551616):rA a b<18446744073709551616:=Nat.lt_of_le_of_lt Nat.and_le_left ha
structure CoI(w:af)(ca ia ha ta:Option Addr)(cn cc il ic hn hc tn tc mb n:Nat)(v:SM)(code:List Ins):Prop where
 kn:rR w mb n v.K
 cr:Ai w (aA ca cn cc) v.cs
 ln:w.ownsRow 0 298 3 (aA ia il ic) code.length (code.flatMap Kk)
 ho:Wn w (aA ta tn tc) v.ts
 pos:0<v.ts.length
 bits:∀s,v.K s<18446744073709551616
 kd:v.kd.size<=maxLen
 id:v.id.size<=maxLen
 rel:∀i∈code,i.rel.size<=maxLen
 sub:∀t∈v.ts,oe (e9 t)
 len:code.length<=100000
def Na(w ca ia ha ta cn cc il ic hn V tn tc mb n v code)(h:CoI w ca ia ha ta cn cc il ic hn V tn tc mb n v code)(p res)(bk:Goes v code ⟨0,0,[]⟩ ⟨p,0,[res]⟩)(a5:code[p]? =some ⟨0,⟨#[]⟩,0⟩):
  Calls prog 207 #[.agg #[aA ca cn cc,aA ha hn V,.map (some mb)],aA ia il ic,.agg #[an v.kd,an v.id,aA ta tn tc]] w fun e w'=>e=bi (.int .u64 res)/\am w w':=by
 go_enter func207,ntmps207;go_wp2;refine Fu 0 (fun r a wr=>∃(s:SL)(sv a8:ag)(us:List ag),hW v code r s=some ⟨p,0,[res]⟩/\us.length=94/\a=UM w ca ia ha ta cn cc il ic hn V tn tc mb v s a8 us/\yP w ca ha ta cn cc hn V tn tc mb v s sv wr) rfl ?pass ?first
 case pass=>
  rintro r a wr ⟨s,sv,a8,us,U,bp,rfl,A⟩;obtain ⟨u,rfl⟩:=us94 us bp;obtain ⟨i,hi⟩:∃i,code[s.at_]? =some i:=by
   cases r with
   |zero=>simp only [hW,aR] at U;subst U;exact ⟨_,a5⟩
   |succ r=>
    rw [hW,Fq] at U
    cases V:code[s.at_]? with
    |none=>rw [V] at U;simp at U
    |some i=>exact ⟨i,rfl⟩
  obtain ⟨aU,bR,e1,V⟩:=bn Kk 3 (fun _=>rfl) (aB h.ln A.bel) s.at_ i hi;simp only [aK] at e1;obtain ⟨rfl,rfl,rfl⟩:=e1;have bB:=(bD.1 hi).1;have k0:wr.cell? (aC aU (s.at_*3))=some (au i.does):=V 0 _ ai rfl;have k1:=V 1 _ ai rfl;have aI:=V 2 _ ai rfl;have bG:=h.len;have bE:(s.at_:Int)<(code.length:Int):=ai;have bC:s.at_<100000:=ai;have bO:=A.bel.size;have HIT:=U;have R:=(az wr.heap.size wr).alloc aH (qc i.does i.rel i.tzo);have aM:=aL.new wr #[au i.does,an i.rel,au i.tzo] 298;clear V U
  cases r with
  |zero=>
   simp only [hW,aR] at HIT;subst HIT;have aQ:=hi;rw [a5] at aQ;simp only [aR] at aQ;subst aQ;dsimp only at*;have C:=s3 w.heap.size (w.heap.size+2) sv [] res _ (show M5 w.heap.size _ _ sv ([]++[res]) from A.sk.below R) ar;unfold UM;go_wp2_with fail;refine C.mono ?_;rintro e w1 ⟨v',rfl,I,hs⟩;have a9:=I;clear I hs;go_wp2;simp only [Exit.jump];go_ret;refine ⟨rfl,?_⟩;exact ((A.below R).bel.trans ((A.below R).sk.bel a9))
  |succ r=>
   obtain ⟨s',D,U⟩:∃s',js v i s=some s'/\hW v code r s'=some ⟨p,0,[res]⟩:=by
    have U:=HIT;rw [hW,Fq,hi,Option.bind_some] at U
    cases hs:js v i s with
    |none=>rw [hs] at U;simp at U
    |some s'=>rw [hs] at U;exact ⟨s',rfl,U⟩
   clear HIT;have HIT:=U;clear U;unfold js at D
   split at D
   ·cases D
   rename_i hsl;obtain ⟨d,rl,tzo⟩:=i;obtain ⟨at_,tup,st⟩:=s;dsimp only at*;obtain ⟨c0,c1,c2⟩:=three A.kn;obtain ⟨d0,d1,d2⟩:=three A.ho;have e0:wr.cell? (aP (w.heap.size+2))=some sv:=A.sk.blk.cell rfl;have bT:=A.sk.blk.lt;have bS:¬(w.heap.size=wr.heap.size):=ai;have n1:¬(w.heap.size+1=wr.heap.size):=ai;have n2:¬(w.heap.size+2=wr.heap.size):=ai;have Z:=A.bits;have K0:=k0;have K1:=k1;have bc:=aI
   split at D
   ·simp only [aR] at D;subst D;have C:=ru w.heap.size (w.heap.size+2) sv st.reverse 0 _ (A.sk.below R) aS;unfold UM;go_wp2_with fail;refine C.mono ?_;rintro e w1 ⟨v',rfl,I,hs⟩;have J1:=yP.push (s':=⟨at_+1,tup,0::st⟩) (A.below R) I Ft A.tup (fun x J=>by rcases cG.1 J with rfl|J;(· decide);exact Z x J);clear I hs;go_wp2
    go_step3
    exact og
   ·simp only [aR] at D;subst D;have aj:am wr (wr.alloc (.cells #[au 2,an rl,au tzo] 298)):=R;have Q:=A.below aj;have a3:=(h.kn.block (Q.bel.block mb h.kn.lt)).look (s:=⟨v.kd,v.id,rl⟩) ⟨h.kd,h.id,h.rel _ (bF hi)⟩;have bh:=h.bits ⟨v.kd,v.id,rl⟩;unfold IR at a3;dsimp only at a3;obtain ⟨f0,f1,f2⟩:=three Q.kn;obtain ⟨g0,aZ,aO⟩:=three Q.ho;have C:=ru w.heap.size (w.heap.size+2) sv st.reverse (v.K ⟨v.kd,v.id,rl⟩) _ Q.sk aS;clear aj Q;unfold UM;go_wp2_with fail;refine C.mono ?_;rintro e w1 ⟨v',rfl,I,hs⟩;have J1:=yP.push (s':=⟨at_+1,tup,v.K ⟨v.kd,v.id,rl⟩::st⟩) (A.below R) I Ft A.tup (fun x J=>by rcases cG.1 J with rfl|J;(· exact bh);exact Z x J);clear I hs;go_wp2
    go_step3
    exact og
   ·simp only [aR] at D;subst D;have aj:am wr (wr.alloc (.cells #[au 3,an rl,au tzo] 298)):=R;have Q:=A.below aj;obtain ⟨g0,aZ,aO⟩:=three Q.ho;have nb:=aL.new wr #[au 3,an rl,au tzo] 298;have C:=SG v.kd v.id rl (aA ta tn tc) v.ts tup _ (h.ho.below Q.bel) h.pos A.tup;have aG:=SN v.ts tup rl;generalize kU v.ts tup rl=m at*;have av:=Q;clear Q aj;unfold UM;go_wp2_with fail;refine C.mono ?_;rintro e w1 ⟨rfl,al⟩;obtain ⟨bs,bt,bu⟩:=three (nb.below al);clear nb C
    by_cases ac:m=0
    ·have aT:((m:Int)==0)=true:=by rw [ac];rfl
     have J1:=yP.same (s':=⟨tzo,m,st⟩) (av.below al) rfl aG;rw [if_pos ac] at HIT;clear ac al av aG;go_wp2
     go_step3
     exact og
    have aT:((m:Int)==0)=false:=by simpa using ac
    have J1:=yP.same (s':=⟨at_+1,m,st⟩) (av.below al) rfl aG;rw [if_neg ac] at HIT;clear ac al av aG;go_wp2
    go_step3
    exact og
   iterate 2
    ·split at D
     ·rename_i bL;obtain ⟨m,rfl⟩:∃m,tup=m+1:=⟨tup-1,ai⟩;rw [show m+1-1=m by omega] at D
      cases ah:v.ts[m]? with
      |none=>rw [ah] at D;cases D
      |some t=>
       rw [ah] at D;simp only [Option.map_some,aR] at D;subst D;have a6:=h.sub t (bF ah);obtain ⟨aJ,b6,aY,aF⟩:=bn k9 6 (fun _=>rfl) h.ho.row m t ah;simp only [aK] at aY;obtain ⟨rfl,rfl,rfl⟩:=aY;have t3:=aF 3 _ ai rfl;have t4:=aF 4 _ ai rfl;have t5:=aF 5 _ ai rfl;have bI:=(bD.1 ah).1;have bJ:(m:Int)<(v.ts.length:Int):=ai;have ac:(0:Int)<=(m:Int):=ai;have bK:=h.ho.most;have bN:IntKind.i64.wrap (m:Int)=(m:Int):=by rw [Ak];omega
       have bM:IntKind.i64.wrap ((m:Int)+1-1)=(m:Int):=by rw [Ak];omega
       simp only [Int.cast_ofNat_Int] at R aM K0;have Q:=A.below R;have bl:=h.rel _ (bF hi)
       first
       |change Hid (hW v code r ⟨at_+1,m+1,ja v.K v.cs (e9 t)::st⟩=some ⟨p,0,[res]⟩) at HIT
        have ay:=Fv h.bits h.cr.most (e9 t);have ap:=fun w' (k:am w w')=>M6 _ v.cs ha hn V mb n v.K (e9 t) w' (h.kn.block (k.block mb h.kn.lt)) (h.cr.below k) a6
        generalize ja v.K v.cs (e9 t)=X at HIT ay ap
       |change Hid (hW v code r ⟨at_+1,m+1,s4 v.K (e9 t) rl::st⟩=some ⟨p,0,[res]⟩) at HIT
        have ay:=SP h.bits (e9 t) rl;have ap:=fun w' (k:am w w')=>IV ca ha cn cc hn V mb n v.K (e9 t) rl w' (h.kn.block (k.block mb h.kn.lt)) a6 bl
        generalize s4 v.K (e9 t) rl=X at HIT ay ap
       have bo:=A.tup;clear R aF ah k0 k1 aI c0 c1 c2 d0 d1 d2 e0;have k1:wr.cell? (aC aU (at_*3+1))=some (an rl):=K1;have aI:wr.cell? (aC aU (at_*3+2))=some (au tzo):=bc;unfold UM;go_wp2_with fail;generalize wr.alloc _=aN at*;clear K0 k1 aI;obtain ⟨f0,f1,f2⟩:=three Q.kn;obtain ⟨g0,aZ,aO⟩:=three Q.ho;obtain ⟨i0,br,bQ⟩:=three aM;have bx:=ak t3 Q.bel;have bz:=ak t4 Q.bel;have bA:=ak t5 Q.bel;have bH:=Q.bel.size;have ba:=ap aN.drew Q.bel.drew
       go_region_held3 (fun w'=>w'.cell? (aP w.heap.size)=some (aA ca cn cc)/\w'.cell? (aC w.heap.size 1)=some (aA ha hn V)/\w'.cell? (aC w.heap.size 2)=some (.map (some mb))/\w'.cell? (aC (w.heap.size+1) 2)=some (aA (some (aP aJ)) v.ts.length tc)/\w'.cell? (aC aJ (m*6+3))=some (an t.sub)/\w'.cell? (aC aJ (m*6+4))=some (an t.who)/\w'.cell? (aC aJ (m*6+5))=some (an t.of)/\w'.cell? (aC wr.heap.size 1)=some (an rl)) (go_keep)
        (first
        |((first|go_at_call 243|go_at_call 244);refine ba.mono ?_;rintro e aW ⟨rfl,a4⟩;have Y:=(show am aN aW from (az _ aN).drew.trans a4);have bs:=ak f0 Y;have bt:=ak f1 Y;have bu:=ak f2 Y;have b0:=ak aO Y;have b2:=ak bx Y;have b3:=ak bz Y;have b4:=ak bA Y;have b5:=ak br Y;clear a4)
        |(go_at_call 241;refine (ru w.heap.size (w.heap.size+2) sv st.reverse X _ (Q.below Y).sk aS).mono ?_;rintro e bw ⟨v',rfl,I,hs⟩;have aV:=Q.below Y;have ad:=yP.push (s':=⟨at_+1,m+1,X::st⟩) aV I Ft bo (fun x J=>by rcases cG.1 J with rfl|J;(· exact ay);exact Z x J);have nb:=aM.below Y;have a7:=I.blk nb ai (fun e=>own_ne aV.sk.row nb ax e.symm);obtain ⟨bU,p1,p2⟩:=three ad.kn;have bV:=(three ad.ho).2.2;have bW:=ak t3 ad.bel;have bX:=ak t4 ad.bel;have bY:=ak t5 ad.bel;have bZ:=(three a7).2.1;have J1:=ad;clear I hs aV ad nb a7))
       all_goals (
        go_wp2
        go_step3
        exact ⟨rfl,r,ai,_,_,_,_,HIT,rfl,rfl,J1⟩)
     cases D
   iterate 3
    ·rename_i b a st;simp only [aR] at D;subst D;have aE:=Z b ar;have ha:=Z a ar
     first
     |change Hid (hW v code r ⟨at_+1,tup,(b|||a)::st⟩=some ⟨p,0,[res]⟩) at HIT
      have ab:=u64_or_nat b a aE ha;have af:=Cy (n:=64) aE ha;generalize (b|||a)=y at HIT ab af
     |change Hid (hW v code r ⟨at_+1,tup,(b&&& a)::st⟩=some ⟨p,0,[res]⟩) at HIT
      have ab:=u64_and_nat b a aE ha;have af:=Nat.and_lt_two_pow (n:=64) b ha;generalize (b&&& a)=y at HIT ab af
     |change Hid (hW v code r ⟨at_+1,tup,(rA a b)::st⟩=some ⟨p,0,[res]⟩) at HIT
      have ab:=SQ ha aE;have af:=KS (b:=b) ha;generalize (rA a b)=y at HIT ab af
     have C:=s3 w.heap.size (w.heap.size+2) sv (st.reverse++[a]) b _ (by simpa using A.sk.below R) KR;unfold UM;go_wp2_with fail;refine C.mono ?_;rintro e w1 ⟨v1,rfl,I,hs⟩;have J1:=yP.push (s':=⟨at_+1,tup,a::st⟩) (A.below R) I Ft A.tup (fun x J=>Z x (List.mem_cons_of_mem _ J));have aX:=s3 w.heap.size (w.heap.size+2) v1 st.reverse a _ hs KR;clear I hs C;go_wp2_with fail;refine aX.mono ?_;rintro e aW ⟨bv,rfl,I,hs⟩;have bb:=yP.push (s':=⟨at_+1,tup,st⟩) J1 I hs A.tup (fun x J=>Z x (List.mem_cons_of_mem _ (List.mem_cons_of_mem _ J)));have c3:=ru w.heap.size (w.heap.size+2) bv st.reverse y aW hs KR;rw [<-ab] at c3;clear I hs aX J1 ab;go_wp2_with fail;refine c3.mono ?_;rintro e bw ⟨b7,rfl,I,hs⟩;have J1:=yP.push (s':=⟨at_+1,tup,y::st⟩) bb I Ft A.tup (fun x J=>by rcases cG.1 J with rfl|J;(· exact af);exact Z x (List.mem_cons_of_mem _ (List.mem_cons_of_mem _ J)));clear I hs;go_wp2
     go_step3
     exact og
   ·rename_i b st;simp only [aR] at D;subst D;obtain ⟨sa,sc,rfl⟩:=aw A.sk.row;have C:=SD w.heap.size (w.heap.size+2) _ st.reverse b _ (by simpa using A.sk.below R) KR
    by_cases ae:b=0
    ·have aT:((b:Int)==0)=true:=by rw [ae];rfl
     have J1:=yP.same (s':=⟨if b=0 then tzo else at_+1,tup,b::st⟩) (A.below R) rfl A.tup;rw [if_pos ae] at HIT J1;clear ae;unfold UM;go_wp2_with fail;refine C.mono ?_;rintro e w1 ⟨rfl,rfl⟩;go_wp2
     go_step3
     exact og
    have aT:((b:Int)==0)=false:=by simpa using ae
    have J1:=yP.same (s':=⟨if b=0 then tzo else at_+1,tup,b::st⟩) (A.below R) rfl A.tup;rw [if_neg ae] at HIT J1;clear ae;unfold UM;go_wp2_with fail;refine C.mono ?_;rintro e w1 ⟨rfl,rfl⟩;go_wp2
    go_step3
    exact og
   ·simp only [aR] at D;subst D;have J1:=yP.same (s':=⟨tzo,tup,st⟩) (A.below R) rfl A.tup;unfold UM;go_wp2
    go_step3
    exact og
   cases D
 case first=>
  intro pass;go_wp2
  go_step3
  obtain ⟨N,bj⟩:=bk;rename_i K bg;refine bg _ _ (pass N _ _ ⟨⟨0,0,[]⟩,aA none 0 0,_,_,bj,?_,rfl,?_⟩)
  ·rfl
  have b1:=(az w.heap.size w).alloc aH (.cells #[aA ca cn cc,aA ha hn V,.map (some mb)] 189);have bf:=b1.alloc ar (.cells #[an v.kd,an v.id,aA ta tn tc] 282);refine ⟨bf.alloc aS _,((aL.new w _ _).alloc _).alloc _,(aL.new' _ _ _ _ ar).alloc _,⟨aL.new' _ _ _ _ ar,bP,ai⟩,gU _,fun x J=>by cases J⟩
end
variable {code:List Ins}
def CoI.below{ca ia ha ta il ic hn hc tn tc mb v}(h:CoI w ca ia ha ta cn cc il ic hn hc tn tc mb n v code)(k:am w w'):CoI w' ca ia ha ta cn cc il ic hn hc tn tc mb n v code:=
 ⟨h.kn.block (k.block mb h.kn.lt),h.cr.below k,aB h.ln k,h.ho.below k,h.pos,h.bits,h.kd,h.id,h.rel,h.sub,h.len⟩
def Zx(mb n:Nat)(K:Sj->Nat)(s:Sj)(X:Nat)(w:af)(e:Ending)(w':af):Prop:=
 bK (fun k=>k=mb) w w'/\((X=K s/\e=bi (.bool false)/\rR w' mb n K)\/(X≠K s/\e=bi (.bool true)/\rR w' mb (n+1) (m5 K s X)))
def Nb(w ca ia ha ta cn cc il ic hn hc tn tc mb n v knd rel ex)(h:CoI w ca ia ha ta cn cc il ic hn hc tn tc mb n v (gF rel ex))(ah:Cz ex)(af:(bp rel 0 ex).length<40000)(hrel:rel.size<=maxLen)(ac:eg v rel ex<18446744073709551616)(ag:n<maxLen):
  Calls prog 149 #[.agg #[aA ca cn cc,aA ha hn hc,.map (some mb)],.agg #[an knd,an rel,aA ia il ic],.agg #[an v.kd,an v.id,aA ta tn tc]] w (Zx mb n v.K ⟨v.kd,v.id,rel⟩ (eg v rel ex) w):=by
 have V:oe ⟨v.kd,v.id,rel⟩:=⟨h.kd,h.id,hrel⟩;have ab:=M9 (v:=v) rel ex ah af;generalize eg v rel ex=X at*;have A:am w ((((w.alloc (.cells #[aA ca cn cc,aA ha hn hc,.map (some mb)] 189)).alloc (.cells #[an knd,an rel,aA ia il ic] 201)).alloc (.cells #[an v.kd,an v.id,aA ta tn tc] 282)).alloc (cf v.kd v.id rel)):=((((az w.heap.size w).alloc aH (.cells #[aA ca cn cc,aA ha hn hc,.map (some mb)] 189)).alloc ar (.cells #[an knd,an rel,aA ia il ic] 201)).alloc aS (.cells #[an v.kd,an v.id,aA ta tn tc] 282)).alloc aS (cf v.kd v.id rel);have C:=Na _ ca ia ha ta cn cc il ic hn hc tn tc mb n v (gF rel ex) (h.below A) (bp rel 0 ex).length X ab (SO rel ex);have Y:=(((aL.new w #[aA ca cn cc,aA ha hn hc,.map (some mb)] 189).alloc (.cells #[an knd,an rel,aA ia il ic] 201)).alloc (.cells #[an v.kd,an v.id,aA ta tn tc] 282)).alloc (cf v.kd v.id rel);have Z:=aL.new' (((w.alloc (.cells #[aA ca cn cc,aA ha hn hc,.map (some mb)] 189)).alloc (.cells #[an knd,an rel,aA ia il ic] 201)).alloc (.cells #[an v.kd,an v.id,aA ta tn tc] 282)) #[an v.kd,an v.id,an rel] 102 (w.heap.size+3) ar;have Q:=h.kn;go_enter func149,ntmps149;go_wp2_with fail;refine C.mono ?_;rintro e w1 ⟨rfl,D⟩;have b1:=A.trans (D.mono A.size);obtain ⟨c0,c1,c2⟩:=three (Y.below D);obtain ⟨d0,d1,d2⟩:=three (Z.below D);have J:=Q.block (b1.block mb Q.lt);have R:=J.look V;unfold IR at R;dsimp only at R
 by_cases I:X=v.K ⟨v.kd,v.id,rel⟩
 ·simp;go_wp2;go_ret;exact ⟨.of_below b1,.inl ⟨I,rfl,J⟩⟩
 ·have ak:((X:Int)==((v.K ⟨v.kd,v.id,rel⟩:Nat):Int))=false:=by
   rw [bR];intro e;exact I ai
  obtain ⟨al,U,aj,ad⟩:=J.upd ag V ac;unfold IR at U;dsimp only at U;go_wp2;go_ret;refine ⟨?_,.inr ⟨I,rfl,aj⟩⟩;exact (bK.of_below b1).trans (dE ad (fun k ae=>by simpa using ae.symm))
structure Hd where
 kd:ae
 id:ae
 ts:List Tu
 tv:ag
def Nc(h:Hd):List ag:=[an h.kd,an h.id,h.tv]
structure HdOK(h:Hd):Prop where
 pos:0<h.ts.length
 kd:h.kd.size<=maxLen
 id:h.id.size<=maxLen
 sub:∀t∈h.ts,oe (e9 t)
structure HsI(w:af)(hv:ag)(hl:List Hd):Prop where
 row:w.ownsRow 0 282 3 hv hl.length (hl.flatMap Nc)
 tups:∀h∈hl,Wn w h.tv h.ts/\HdOK h
 most:hl.length<=1000
def UN(K:Sj->Nat)(cs:List Tg)(h:Hd):SM:=⟨K,cs,h.kd,h.id,h.ts⟩
def j0(p:It×ag)(h:Hd):Sj:=⟨h.kd,h.id,p.1.2.1.name⟩
def uf(K:Sj->Nat)(cs:List Tg)(p:It×ag)(h:Hd):Nat:=eg (UN K cs h) p.1.2.1.name p.1.2.1.body
structure Zy(p:It×ag):Prop where
 wf:Cz p.1.2.1.body
 len:(bp p.1.2.1.name 0 p.1.2.1.body).length<40000
 name:p.1.2.1.name.size<=maxLen
 rel:∀i∈gF p.1.2.1.name p.1.2.1.body,i.rel.size<=maxLen
structure SeG(w:af)(cv hv sv:ag)(cs:List Tg)(hl:List Hd)(ls:List (It×ag)):Prop where
 cr:Ai w cv cs
 hs:HsI w hv hl
 ln:Dh 0 w sv ls
 ok:∀p∈ls,Zy p
 few:ls.length<=1000000
section
variable {w w':af}{cv hv sv tv:ag}{cs:List Tg}{hl:List Hd}{ls:List (It×ag)}{mb n:Nat}{K:Sj->Nat}{ts:List Tu}
def oh(w w':af):Prop:=w.heap.size<=w'.heap.size/\∀(g:Nat)(cs:Array ag)(T:TypeId)(f:Nat×Nat),w.heap[g]? =some (.cells cs T f)->w'.heap[g]? =w.heap[g]?
def mN(C:rR w mb n K)(A:bK (fun k=>k=mb) w w'):oh w w':=⟨A.size,fun g cs T f h=>A.block g (lt_of_some h) (fun e=>by
 subst e;obtain ⟨I,c,D⟩:=C.isMap;rw [D] at h
 cases h)⟩
def Wn.cellsK(h:Wn w tv ts)(k:oh w w'):Wn w' tv ts:=⟨ay h.row (fun g cs f _ A=>k.2 g cs _ f A),h.most⟩
def HsI.cellsK(h:HsI w hv hl)(k:oh w w'):HsI w' hv hl:=⟨ay h.row (fun g cs f _ C=>k.2 g cs _ f C),fun x A=>⟨(h.tups x A).1.cellsK k,(h.tups x A).2⟩,h.most⟩
def ug{a x}(h:w.cell? a=some x)(k:oh w w'):w'.cell? a=some x:=by
 rw [<-h];apply jA;unfold World.cell? at h
 cases A:w.heap[a.block]? with
 |none=>rw [A] at h;cases h
 |some o=>
  cases o with
  |cells cs T f=>exact (k.2 _ cs T f A).trans A
  |_=>rw [A] at h;cases h
def Ai.cellsK(h:Ai w cv cs)(k:oh w w'):Ai w' cv cs:=by
 obtain ⟨g,o,c,h1,h2,C,A⟩:=h;exact ⟨g,o,c,h1,cM h2 k.1,C,fun i x hi=>⟨ug (A i x hi).1 k,ug (A i x hi).2 k⟩⟩
def SeG.cellsK(h:SeG w cv hv sv cs hl ls)(k:oh w w'):SeG w' cv hv sv cs hl ls:=⟨h.cr.cellsK k,h.hs.cellsK k,h.ln.frame (fun g cs T f A _=>k.2 g cs T f A),h.ok,h.few⟩
def CA(k:am w w'):oh w w':=⟨k.size,fun g cs T f h=>k.block g (lt_of_some h)⟩
end
structure SeC(cs:List Tg)(hl:List Hd)(ls:List (It×ag))(Inv:(Sj->Nat)->Prop)(mu:(Sj->Nat)->Nat):Prop where
 bits:∀K,Inv K->∀s,K s<18446744073709551616
 val:∀K,Inv K->∀p∈ls,∀h∈hl,h.kd=p.1.1.1.name->uf K cs p h<18446744073709551616
 step:∀K,Inv K->∀p∈ls,∀h∈hl,h.kd=p.1.1.1.name->uf K cs p h≠K (j0 p h)->Inv (m5 K (j0 p h) (uf K cs p h))/\mu (m5 K (j0 p h) (uf K cs p h))<mu K
abbrev xA:=@Nat.testBit_or
abbrev IX:=@Nat.testBit_two_pow_self
abbrev IY:=@Nat.testBit_two_pow_of_ne
abbrev xB:=@Nat.testBit_and
def hA(kb:Sj->Bool)(who:Tg)(s:Sj):Bool:=if s.rel.size=0 then lu s who else kb s
def IZ(kb:Sj->Bool)(s:Sj)(rel:ae):Bool:=if s.rel.size=0 then kb ⟨s.kind,s.id,rel⟩ else false
def cV(kb:Sj->Bool)(who:Tg)(kd id:ae)(ts:List Tu)(rel:ae):Ex->Bool
 |⟨n,some x,some y⟩=>if n.kind=3 then cV kb who kd id ts rel x||cV kb who kd id ts rel y else if n.kind=4 then cV kb who kd id ts rel x&&cV kb who kd id ts rel y else cV kb who kd id ts rel x&& !cV kb who kd id ts rel y
 |⟨n,none,_⟩=>if n.kind=0 then ts.any (fun t=>decide (t.rel=rel)&&hA kb who (e9 t)) else if n.kind=1 then kb ⟨kd,id,n.n1⟩ else ts.any (fun t=>decide (t.rel=n.n1)&&IZ kb (e9 t) n.n2)
 |⟨_,some _,none⟩=>false
def xC(p:Tg->Bool)(cs:List Tg)(i:Nat):∀j,(e8 p cs j).testBit i=(decide (i<j)&&match cs[i]? with|some t=>p t|none=>false)
 |0=>by simp [e8]
 |j+1=>by
  have A:=xC p cs i j;rw [e8]
  by_cases e:i=j
  ·subst e
   cases hc:cs[i]? with
   |none=>rw [hc] at A;simpa using A
   |some t=>
    rw [hc] at A;simp only
    by_cases C:p t=true
    ·rw [if_pos C,xA,IX];simp [C]
    rw [if_neg C,A];simp [C]
  have h1:decide (i<j+1)=decide (i<j):=by rw [decide_eq_decide];omega
  rw [h1,<-A]
  split
  ·split
   ·rw [xA,IY ai,my]
   rfl
  rfl
def SR(h:b<18446744073709551616)(hi:i<64):(rA a b).testBit i=(a.testBit i&& !b.testBit i):=by
 unfold rA;rw [xB,show 18446744073709551615-b=2 ^ 64-(b+1) by omega,Nat.testBit_two_pow_sub_succ h];simp [hi]
def lR(r f i):∀(ts:List Tu)(a:Nat),(jt ts r f a).testBit i=(a.testBit i||ts.any fun t=>decide (t.rel=r)&&(f t).testBit i)
 | [],a=>by simp [jt]
 |t::ts,a=>by
  unfold jt
  by_cases h:t.rel=r
  ·rw [List.filter_cons_of_pos nv,List.foldl_cons];have:=lR r f i ts (f t|||a);unfold jt at this;rw [this,xA,kj]
   cases a.testBit i<;>cases (f t).testBit i<;>simp [h]
  rw [List.filter_cons_of_neg nv];have:=lR r f i ts a;unfold jt at this;rw [this,kj];simp [h]
def uM(r f)(A:∀t,f t<18446744073709551616):∀(ts:List Tu)(a:Nat),a<18446744073709551616->jt ts r f a<18446744073709551616
 | [],a,ha=>by simpa [jt] using ha
 |t::ts,a,ha=>by
  unfold jt
  by_cases h:t.rel=r
  ·rw [List.filter_cons_of_pos nv,List.foldl_cons];exact uM r f A ts (f t|||a) (Cy (n:=64) (A t) ha)
  rw [List.filter_cons_of_neg nv];exact uM r f A ts a ha
def CB(v)(A:∀s,v.K s<18446744073709551616)(C:v.cs.length<=64)(rel):∀e,eg v rel e<18446744073709551616
 |⟨n,some x,some y⟩=>by
  have D:=CB v A C rel x;have I:=CB v A C rel y;unfold eg
  split
  ·exact Cy (n:=64) I D
  split
  ·decide
  split
  ·exact Nat.and_lt_two_pow (n:=64) _ D
  exact KS D
 |⟨n,none,r⟩=>by
  unfold eg
  split
  ·exact uM _ _ (fun t=>Fv A C _) _ _ ax
  split
  ·exact A _
  exact uM _ _ (fun t=>SP A _ _) _ _ ax
 |⟨_,some _,none⟩=>by
  unfold eg
  decide
def oi(v)(I:∀s,v.K s<18446744073709551616)(J:v.cs.length<=64){i who}(A:v.cs[i]? =some who)(rel):∀e,(eg v rel e).testBit i=cV (fun s=>(v.K s).testBit i) who v.kd v.id v.ts rel e
 |⟨n,some x,some y⟩=>by
  have C:=oi v I J A rel x;have D:=oi v I J A rel y;have hi:=(bD.1 A).1;unfold eg cV
  split
  ·rw [xA,C,D,Bool.or_comm]
  split
  ·rename_i h0;rw [<-C,<-D,h0];simp
  split
  ·rw [xB,C,D,Bool.and_comm]
  rw [SR (CB v I J rel y) ai,C,D]
 |⟨n,none,r⟩=>by
  have hi:=(bD.1 A).1;unfold eg cV;have R:∀t,(ja v.K v.cs (e9 t)).testBit i=hA (fun s=>(v.K s).testBit i) who (e9 t):=fun t=>by
   unfold ja hA
   split
   ·rw [xC,A];simp [hi]
   rfl
  have Q:∀t,(s4 v.K (e9 t) n.n2).testBit i=IZ (fun s=>(v.K s).testBit i) (e9 t) n.n2:=fun t=>by
   unfold s4 IZ
   split
   ·rfl
   simp
  split
  ·rw [lR];simp [R]
  split
  ·rfl
  rw [lR];simp [Q]
 |⟨_,some _,none⟩=>by
  unfold eg cV;simp
structure Sys(F:(Sj->Bool)->(Sj->Bool)->Sj->Bool)(rk:Sj->Nat):Prop where
 mono:∀kp Gl kn s,(∀x,kp x=true->Gl x=true)->F kp kn s=true->F Gl kn s=true
 dep:∀kp Gl kn kn' s,(∀x,rk x<=rk s->kp x=Gl x)->(∀x,rk x<rk s->kn x=kn' x)->F kp kn s=F Gl kn' s
structure s8(F:(Sj->Bool)->(Sj->Bool)->Sj->Bool)(K:Sj->Bool):Prop where
 fix:∀s,K s=F K K s
 least:∀K',(∀s,F K' K s=true->K' s=true)->∀s,K s=true->K' s=true
def Al{F:(Sj->Bool)->(Sj->Bool)->Sj->Bool}{rk:Sj->Nat}(S:Sys F rk){C A:Sj->Bool}(h1:s8 F C)(h2:s8 F A)(n:Nat)(J:∀s,rk s<n->C s=A s)(s:Sj)(hs:rk s<=n)(h:C s=true):A s=true:=by
 have:=h1.least (fun x=>decide (n<rk x)||A x) (fun x D=>by
  by_cases hn:n<rk x
  ·simp [hn]
  rw [S.dep _ A C A x (fun y I=>aS) (fun y I=>J y ai),<-h2.fix] at D;simp [D]) s h
 have hn:¬n<rk s:=ai
 simpa [hn] using this
def I0{F:(Sj->Bool)->(Sj->Bool)->Sj->Bool}{rk:Sj->Nat}(S:Sys F rk){A C:Sj->Bool}(h1:s8 F A)(h2:s8 F C)(s:Sj):A s=C s:=by
 have key:∀n s,rk s<n->A s=C s:=by
  intro n
  induction n with
  |zero=>intro s hs;omega
  |succ n ih=>
   intro s hs;rw [gW];exact ⟨Al S h1 h2 n ih s ai,Al S h2 h1 n (fun x D=>(ih x D).symm) s ai⟩
 exact key (rk s+1) s ai
def iz(kp kn:Sj->Bool)(who:Tg)(kd id:ae)(ts:List Tu)(rel:ae):Ex->Bool
 |⟨n,some x,some y⟩=>if n.kind=3 then iz kp kn who kd id ts rel x||iz kp kn who kd id ts rel y else if n.kind=4 then iz kp kn who kd id ts rel x&&iz kp kn who kd id ts rel y else iz kp kn who kd id ts rel x&& !cV kn who kd id ts rel y
 |e=>cV kp who kd id ts rel e
def gu(k who kd id ts rel):∀e,iz k k who kd id ts rel e=cV k who kd id ts rel e
 |⟨n,some x,some y⟩=>by
  rw [iz,cV,gu k who kd id ts rel x,gu k who kd id ts rel y]
 |⟨n,none,r⟩=>by rw [iz];intro a b c h;cases h
 |⟨n,some x,none⟩=>by rw [iz];intro a b c h;cases h
