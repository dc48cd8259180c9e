import Derived.Test.YtlbpnlngckgcbaaGreatDoorM21
import Derived.Test.YtlbpnlngckgcbaaGreatDoorM22
import Derived.Test.YtlbpnlngckgcbaaGreatDoorM23
import Derived.OrdersHeld
import Derived.OrdersIn
import Derived.Maps.OwnOps
import Derived.Maps.Views
import Derived.DeepKeys4
import Derived.Laws.BitsAllLaws
import Derived.ScopeJumps
import Derived.WalkMore
set_option linter.all false
set_option maxHeartbeats 4000000
set_option maxRecDepth 100000
namespace Go.Proofs.YtlbpnlngckgcbaaGreatDoor
open Go.RowKit Go.PlainAid Go.Proofs.Tryz
variable {k b gc g5 bf g size n cap g0 c0 i B base' j c sb N sc g' m a cn cc:Nat} {aD br:Prop} {y w W w5 w' z W0 W' wr:af} {row:Option Nat} {mv lv v v' sv pv gv tv:ag} {ga:Option Addr} {gs:List Tu} {o:Obj} {rel s:ae} {cs:Array ag} {T e T':TypeId} {α β:Type} {xs:List ag} {P:Program} {rest:List Oper} {ts:List Ty} {pre:List It}
def Yr(g t q w)(D:aL w q #[aj t.kind,aj t.id,aj t.rel,aj t.sub,aj t.who,aj t.of] 123):
  Calls prog 103 #[FX g,bc q] w fun e w'=>e=bj (.bool (gD g t))/\an w w':=by
 have C:=fun w=>Lw g t w
 have hl:=D.lt;unfold FX dk at C ⊢;have A:an w (w.alloc (gJ ar g.tp aj g.ty ar g.reach ar g.rp aj g.rel)):=(aA _ w).alloc aH _;have J:¬(w.heap.size=q):=ai;obtain ⟨Q,R,U,V,Y,Z⟩:=D.six;go_enter func103,ntmps103;go_wp2_with fail;refine (C _).mono ?_;rintro e w1 ⟨rfl,I⟩;go_wp2;go_ret;exact ⟨rfl,(A.trans (I.mono A.size))⟩
def Ys{l:List Gr}{t:Tu}(A:k<l.length)(h:gD l[k] t=true):l.any (fun g=>gD g t)=true:=dh.2 ⟨l[k],bu A,h⟩
def Yt{l:List Gr}{t:Tu}(C:∀j,(h:j<l.length)->gD l[j] t=false):l.any (fun g=>gD g t)=false:=by
 rw [jy];intro y D;obtain ⟨j,A,rfl⟩:=dB D;rw [C j A];simp
def GW(base v l t q w)(al:l.length<=1000)(h:w.ownsRow base 207 5 v l.length (cz l))(ad:aL w q #[aj t.kind,aj t.id,aj t.rel,aj t.sub,aj t.who,aj t.of] 123):
  Calls prog 155 #[v,.func (.func 103) #[] #[bc q]] w fun e w'=>∃n:Int,e=bj (ar n)/\decide (0<=n)=l.any (fun g=>gD g t)/\an w w':=by
 obtain ⟨sa,sc,rfl⟩:=ax h;have H:=ak h;have U:=ak ad;go_enter func155,ntmps155;go_wp2
 go_loopw [5,8] (fun u i wr=>∃k:Nat,k<=l.length/\i=ar k/\an w wr/\Hid (∀j,(h:j<l.length)->j<k->gD l[j] t=false)) (fun _ i _=>l.length-(intOf i).toNat)
 ·exact ⟨0,ai,rfl,aA _ _,ak (fun j e h=>ai)⟩
 ·obtain ⟨k,ag,rfl,I,Q⟩:=hrel;have HB:=ak I
  by_cases R:k<l.length
  ·obtain ⟨g,c,e1,hc⟩:=bo (fun g=>(dk g).toList) 5 (fun _=>rfl) (aB H I) k l[k] (aI R);simp only [aK] at e1;obtain ⟨rfl,_,rfl⟩:=e1;have V:=ak (U.below I);have Y:=ak (fun (D:gD l[k] t=true)=>Ys R D);have ab:=ak (fun (D:gD l[k] t=false)=>(show ∀j,(h:j<l.length)->j<k+1->gD l[j] t=false from fun j h af=>by
     by_cases e:j=k
     ·subst e;exact D
     exact Q j h ai))
   have C:=ak (Yr l[k] t q wr V);unfold FX dk at C;generalize l[k]=y at*;have k0:wr.cell? (aC g (k*5))=some (ar y.tp):=hc 0 _ ai rfl;have k1:wr.cell? (aC g (k*5+1))=some (aj y.ty):=hc 1 _ ai rfl;have am:wr.cell? (aC g (k*5+2))=some (ar y.reach):=hc 2 _ ai rfl;have k3:wr.cell? (aC g (k*5+3))=some (ar y.rp):=hc 3 _ ai rfl;have ap:wr.cell? (aC g (k*5+4))=some (aj y.rel):=hc 4 _ ai rfl;have ah:(k:Int)<(l.length:Int):=ai
   cases D:gD y t
   ·rw [D] at C;have Z:=ak (ab D);go_wp2_with fail;refine C.mono ?_;rintro e ae ⟨rfl,J⟩;go_wp2;go_roundw
    ·exact ⟨k+1,ai,by go_num,(ak (HB.trans (J.mono HB.size))),Z⟩
    simp [intOf];omega
   rw [D] at C;have qd:=ak (Y D);go_wp2_with fail;refine C.mono ?_;rintro e ae ⟨rfl,J⟩;go_wp2;go_ret;exact ⟨k,rfl,by rw [qd];simp,(ak (HB.trans (J.mono HB.size)))⟩
  have qd:=ak (Yt (t:=t) (fun j ac=>Q j ac ai));exact OB
def xU(base v l t q w)(D:l.length<=1000)(h:w.ownsRow base 207 5 v l.length (cz l))(J:aL w q #[aj t.kind,aj t.id,aj t.rel,aj t.sub,aj t.who,aj t.of] 123):
  Calls prog 105 #[v,.func (.func 103) #[] #[bc q]] w fun e w'=>e=bj (.bool (l.any (fun g=>gD g t)))/\an w w':=by
 have C:=GW base v l t q w D h J;obtain ⟨sa,sc,rfl⟩:=ax h;go_enter func105,ntmps105;go_wp2_with fail;refine C.mono ?_;rintro e w1 ⟨n,rfl,I,A⟩;go_wp2;go_ret;exact ⟨by rw [<-I];rfl,A⟩
def mP(ts:List Ty)(t:Tu):Nat:=match bX ts t.kind with
 |none=>5
 |some y=>match b9 y t.rel with
  |none=>5
  |some r=>if (bR r.body).any (fun g=>gD g t) then 0 else 7
def Vh(n:Nat):ag:=if n=0 then .nilIface else cm n
def DB(A:Option Addr)(D C:Nat)(t:Tu)(w:af)(Y:Nat)(V:ae)(Q:Option Addr)(U R:Nat)
  (J:Calls prog 94 #[.agg #[aw A D C],aj t.kind,aj t.rel] ((w.alloc (aY aw A D C)).alloc (cB aj t.kind aj t.id aj t.rel aj t.sub aj t.who aj t.of)) fun e w''=>e=bj (.tuple #[.agg #[ar Y,aj V,aw Q U R],.agg #[ar 0,aj ⟨#[]⟩,.nilIface],cm 5])/\Below ((w.alloc (aY aw A D C)).alloc (cB aj t.kind aj t.id aj t.rel aj t.sub aj t.who aj t.of)).heap.size ((w.alloc (aY aw A D C)).alloc (cB aj t.kind aj t.id aj t.rel aj t.sub aj t.who aj t.of)) w''):
  Calls prog 61 #[.agg #[aw A D C],.agg #[aj t.kind,aj t.id,aj t.rel,aj t.sub,aj t.who,aj t.of]] w fun e w'=>e=bj (cm 5)/\an w w':=by
 have I:=((aA w.heap.size w).alloc aH (aY aw A D C)).alloc au (cB aj t.kind aj t.id aj t.rel aj t.sub aj t.who aj t.of);unfold cm at J ⊢;go_enter func61,ntmps61;go_wp2_with fail;refine J.mono ?_;rintro e w1 ⟨rfl,ab⟩;have b1:=I.trans (ab.mono I.size);have Z:=(b1.alloc b1.size (ba ar Y aj V aw Q U R)).alloc (by have:=b1.size;simp;omega) (c8 ar 0 aj ⟨#[]⟩);go_wp2;go_ret;exact ⟨rfl,Z⟩
def PC(b:Nat)(A)(D C:Nat)(t w)(U:Nat)(yn va)(Q J rp:Nat)(rn ra rv e)(aC:b<w.heap.size)(h:bA b ((w.alloc (aY aw A D C)).alloc (cB aj t.kind aj t.id aj t.rel aj t.sub aj t.who aj t.of)) e (.iface ra rv))(az:(aF e).length<=1000)(ad:(bR e).length<=1000)(aB:WF e)(ai:Calls prog 94 #[.agg #[aw A D C],aj t.kind,aj t.rel] ((w.alloc (aY aw A D C)).alloc (cB aj t.kind aj t.id aj t.rel aj t.sub aj t.who aj t.of)) fun e w''=>e=bj (.tuple #[.agg #[ar U,aj yn,aw va Q J],.agg #[ar rp,aj rn,.iface ra rv],.nilIface])/\Below ((w.alloc (aY aw A D C)).alloc (cB aj t.kind aj t.id aj t.rel aj t.sub aj t.who aj t.of)).heap.size ((w.alloc (aY aw A D C)).alloc (cB aj t.kind aj t.id aj t.rel aj t.sub aj t.who aj t.of)) w''):
  Calls prog 61 #[.agg #[aw A D C],.agg #[aj t.kind,aj t.id,aj t.rel,aj t.sub,aj t.who,aj t.of]] w fun e' w'=>e'=bj (Vh (if (bR e).any (fun g=>gD g t) then 0 else 7))/\an w w':=by
 have V:=((aA w.heap.size w).alloc aH (aY aw A D C)).alloc au (cB aj t.kind aj t.id aj t.rel aj t.sub aj t.who aj t.of);have am:=aL.new' (w.alloc (aY aw A D C)) #[aj t.kind,aj t.id,aj t.rel,aj t.sub,aj t.who,aj t.of] 123 (w.heap.size+1) au;have ak:=fun w' (k:Below ((w.alloc (aY aw A D C)).alloc (cB aj t.kind aj t.id aj t.rel aj t.sub aj t.who aj t.of)).heap.size ((w.alloc (aY aw A D C)).alloc (cB aj t.kind aj t.id aj t.rel aj t.sub aj t.who aj t.of)) w')=>pp rp rn b e (.iface ra rv) w' (by have:=k.size;simp at this;omega) (h.but (But.of_below k)) az ad aB
 have Z:=fun (base:Nat) (v:ag) (w':af) (aG:w'.ownsRow base 207 5 v (bR e).length (cz (bR e))) (aI:aL w' (w.heap.size+1) #[aj t.kind,aj t.id,aj t.rel,aj t.sub,aj t.who,aj t.of] 123)=>xU base v (bR e) t (w.heap.size+1) w' ad aG aI
 obtain ⟨R,av⟩:∃R,R=(bR e).any (fun g=>gD g t):=⟨_,rfl⟩;rw [<-av] at Z ⊢;clear h aC az ad aB av;go_enter func61,ntmps61;go_wp2_with fail;refine ai.mono ?_;rintro e w1 ⟨rfl,I⟩;have b1:=V.trans (I.mono V.size);have ab:=(b1.alloc b1.size (ba ar U aj yn aw va Q J)).alloc (by have:=b1.size;simp;omega) (cC ar rp aj rn ra rv);have ap:=((am.below I).alloc (ba ar U aj yn aw va Q J)).alloc (cC ar rp aj rn ra rv);have al:=ak _ ((I.alloc I.size (ba ar U aj yn aw va Q J)).alloc (by have:=I.size;simp at this ⊢;omega) (cC ar rp aj rn ra rv));clear I ai V am b1 ak;go_wp2_with fail;refine al.mono ?_;rintro e aJ ⟨gv,rfl,ac,ae⟩;obtain ⟨ga,gc,rfl⟩:=ax ae;have Y:=ab.trans (ac.mono ab.size);have E:=Z _ _ aJ ae (ap.below ac);clear ac ae al ab ap Z;go_wp2_with fail;refine E.mono ?_;rintro e aK ⟨rfl,ay⟩;have ah:=Y.trans (ay.mono Y.size);clear ay E Y
 cases R
 ·go_wp2;go_ret;exact ⟨rfl,ah⟩
 ·go_wp2;go_ret;exact ⟨rfl,ah⟩
def PD(b sv ts tl t w)(h:MC b w sv ts tl):
  Calls prog 61 #[.agg #[sv],.agg #[aj t.kind,aj t.id,aj t.rel,aj t.sub,aj t.who,aj t.of]] w fun e w'=>e=bj (Vh (mP ts t))/\an w w':=by
 obtain ⟨sa,A,sc,rfl⟩:=h.form;have k:an w ((w.alloc (aY aw sa A sc)).alloc (cB aj t.kind aj t.id aj t.rel aj t.sub aj t.who aj t.of)):=((aA w.heap.size w).alloc aH (aY aw sa A sc)).alloc au (cB aj t.kind aj t.id aj t.rel aj t.sub aj t.who aj t.of);unfold mP
 cases h1:bX ts t.kind with
 |none=>exact DB sa A sc t w 0 ⟨#[]⟩ none 0 0 (pB b _ ts tl t.kind t.rel _ (h.below k) h1)
 |some y=>
  cases h2:b9 y t.rel with
  |none=>
   simp only [h2];obtain ⟨I,Q,J,hc⟩:=pC b _ ts tl t.kind t.rel _ (h.below k) y h1 h2;exact DB sa A sc t w _ _ I Q J hc
  |some r=>
   simp only [h2];obtain ⟨I,Q,J,rl,U,rv,C,D,R,hc⟩:=rK b _ ts tl t.kind t.rel _ (h.below k) y h1 r h2;exact PC b sa A sc t w _ _ I Q J _ _ U rv r.body h.blt R (D.okp r C) (D.okg r C) (D.wf r C) hc
def Xh (h:aD:=by
 rintro k (rfl|⟨n,c,e⟩)
 ·exact .inl (.inl rfl)
 simp only [aK,aR,cg,fY] at e;obtain ⟨rfl,_,_⟩:=e
 rcases A5 with h|h
 ·exact .inl (Vi _ h)
 exact .inr OH):aD:=h
def Xi (h:aD:=by
 intro g n c e e';simp only [aK,aR,cg,fY] at e;obtain ⟨rfl,_,_⟩:=e;obtain ⟨A,hc,_⟩:=dF O5;subst e';unfold aL at hc K5;rw [K5] at hc;simp at hc):aD:=h
def Xj (h:aD:=by
 rcases H.row.2 with ⟨e,_⟩|⟨g',cap,A,e,_,_,_⟩
 ·rw [e] at hk;simp [Value.ownBlock] at hk
 rw [e] at hk ⊢;simp only [Value.ownBlock,aR] at hk;exact .inr ⟨_,_,by rw [hk]⟩):aD:=h
def PE (h:aD:=by
 rw [cN,List.flatMap_singleton,bg];exact this):aD:=h
def Vj(ts:List Ty)(gs:List Tu)(s:ae):Nat×List Tu:=if dK s=false then (2,gs) else if mP ts (b8 s).1≠0 then (mP ts (b8 s).1,gs) else if 0<=kY gs (b8 s).1 then (4,gs) else if gs.length=24 then (8,gs) else (0,gs++[(b8 s).1])
def Lx(n w)(A:Laid w):Calls prog 41 #[Vh n] w fun e w'=>e=bj (.tuple #[ar n,ar 0])/\an w w':=by
 unfold Vh
 by_cases h:n=0
 ·subst h;rw [if_pos rfl];exact nB w
 rw [if_neg h];exact kq n w A
def Tryz.infoTu:(Tryz.prog.info? 123).map (fun i=>(i.zero,i.size,i.bytes))=some (some (.agg #[aj ⟨#[]⟩,aj ⟨#[]⟩,aj ⟨#[]⟩,aj ⟨#[]⟩,aj ⟨#[]⟩,aj ⟨#[]⟩]),6,96):=by kernel_rfl
def dD{S x}(h:x.grownBy y row)(A:∀k,row=some k->S k):bK S x y:=⟨h.os,h.tape,h.output,h.size,fun k C hs=>h.block k C (fun e=>hs (A k e.symm))⟩
def PF{t}(H:PU w b mv lv (aw ga gs.length gc) gs)(hB:an w W)(D:gs.length<1000)(C:(W.alloc o).drew.grownBy w5 (Value.slice ga gs.length gc).ownBlock)(O5:w5.ownsRow 0 123 6 (aw (some (aN g5)) (gs.length+1) bf) (gs.length+1) (gs.flatMap kX++kX t))(A5:(Value.slice ga gs.length gc).ownBlock=some g5\/g5=W.heap.size+1)(K5:aL w5 b #[mv,lv,aw ga gs.length gc] 117):
  kr b mv lv (aw ga gs.length gc) w (0,gs++[t]) (bj (ar 0)) (w5.setCell (aC b 2) (aw (some (aN g5)) (gs.length+1) bf)):=by
 have Vi:∀k,(aw ga gs.length gc).ownBlock=some k->A9 b (aw ga gs.length gc) k:=fun k hk=>by
  exact Xj
 have I:=H.blk.lt;refine ⟨_,rfl,⟨K5.set 2 _,?_,?_,by show (gs++[t]).length<=1000;simp;omega⟩,((bK.of_below ((hB.alloc hB.size o).drew)).trans (dD C Vi)).set (.inl rfl) _,?_⟩
 ·show World.ownsRow _ 0 123 6 _ (gs++[t]).length ((gs++[t]).flatMap kX)
  have:=bU O5 K5 ay 2 (aw (some (aN g5)) (gs.length+1) bf);exact PE
 ·exact Xi
 ·exact Xh
def GX(ap:Gn)(b bm:Nat)(s:ae)(w:af)(mv lv gv:ag)(gs:List Tu)(ts:List Ty)(tl:List (Ty×ag))(h:PU w b mv lv gv gs)(ah:MC bm w mv ts tl)(Q:kj w)(aE:1<w.heap.size)(ay:Laid w)(bb:gs.length<1000):
  Calls prog 28 #[bc b,aj s] w (kr b mv lv gv w (Vj ts gs s)):=by
 have C1:=za ap s w Q aE;rw [JM s] at C1;obtain ⟨t,aR,az⟩:=zb s;rw [aR] at C1;unfold Vj;clear aR
 cases ho:dK s
 ·rw [ho] at C1;rw [if_pos rfl];clear Q aE ap ho az ah ay;go_enter func28,ntmps28;exact Xg
 ·rw [if_neg au,<-az ho];rw [ho] at C1;clear ho az;obtain ⟨ga,gc,rfl⟩:=ax h.row;obtain ⟨sa,a8,sc,rfl⟩:=ah.form;have bh:=h.most;have aH:=fun w' (k:an w w')=>PD bm _ ts tl t w' (ah.below k)
  have be:=h.blk.lt;have aG:=fun w' (k:an w w')=>Gl 0 _ gs t w' ai (aB h.row k)
  clear Q aE ap ah;generalize mP ts t=n at*;obtain ⟨r,I⟩:∃r,r=(if n≠0 then (n,gs) else if 0<=kY gs t then (4,gs) else if gs.length=24 then (8,gs) else (0,gs++[t])):=⟨_,rfl⟩;rw [<-I];have ad:=ak I;clear I;generalize kY gs t=m at*;go_enter func28,ntmps28;go_wp2_with fail;refine GU ?_;intro w1 B1 U1 T1 hne Dz;clear C1;go_wp2_with fail;have l1:=B1.size;generalize (w1.alloc (cB aj t.kind aj t.id aj t.rel aj t.sub aj t.who aj t.of))=W at*;obtain ⟨c0,c1,c2⟩:=three U1.blk;obtain ⟨t0,t1,t2,t3,t4,t5⟩:=T1.six;have aI:=aH W.drew B1.drew;have aY:=ay.lt;clear aH
  go_region_held3 (fun w'=>w'.cell? (aN b)=some (aw sa a8 sc)/\w'.cell? (aN w1.heap.size)=some (aj t.kind)/\w'.cell? (aC w1.heap.size 1)=some (aj t.id)/\w'.cell? (aC w1.heap.size 2)=some (aj t.rel)/\w'.cell? (aC w1.heap.size 3)=some (aj t.sub)/\w'.cell? (aC w1.heap.size 4)=some (aj t.who)/\w'.cell? (aC w1.heap.size 5)=some (aj t.of)) (go_keep)
   (first
   |(have ba:=D;go_at_call 41;refine ((fun w' (k:an w w')=>Lx n w' (ay.below k aY)) _ (B1.trans (D.mono l1))).mono ?_;rintro e aF ⟨rfl,aM⟩;have J:=(D.trans (aM.mono D.size));have f0:=am c0 J;have f1:=am t0 J;have f2:=am t1 J;have f3:=am t2 J;have f4:=am t3 J;have f5:=am t4 J;have f6:=am t5 J;clear aM ba)
   |(go_at_call 61;refine aI.mono ?_;rintro e a9 ⟨rfl,aK⟩;have D:=((aA _ W).drew.trans aK:an W a9);have d0:=am c0 D;have d1:=am t0 D;have d2:=am t1 D;have d3:=am t2 D;have d4:=am t3 D;have d5:=am t4 D;have d6:=am t5 D;clear aK))
  have U:=B1.trans (J.mono l1);have ar:=T1.below J;have a7:=U.size;clear d0 d1 d2 d3 d4 d5 d6 f0 f1 f2 f3 f4 f5 f6 c0 c1 c2 t0 t1 t2 t3 t4 t5 D J aI U1 T1 B1
  by_cases hn:n=0
  ·have aZ:((n:Int) != 0)=false:=by rw [hn];rfl
   have a6:((n:Int)==0)=true:=by rw [hn];rfl
   have I:=ad.u;rw [if_neg (by simpa using hn)] at I;have ab:=ak I;obtain ⟨c0,c1,c2⟩:=three (h.below U).blk;obtain ⟨t0,t1,t2,t3,t4,t5⟩:=ar.six;have E:=aG aF.drew U.drew;clear I ad hn aG;go_wp2_with fail
   go_region_held3 (fun w'=>w'.cell? (aC b 2)=some (aw ga gs.length gc)/\w'.cell? (aN w1.heap.size)=some (aj t.kind)/\w'.cell? (aC w1.heap.size 1)=some (aj t.id)/\w'.cell? (aC w1.heap.size 2)=some (aj t.rel)/\w'.cell? (aC w1.heap.size 3)=some (aj t.sub)/\w'.cell? (aC w1.heap.size 4)=some (aj t.who)/\w'.cell? (aC w1.heap.size 5)=some (aj t.of)) (go_keep)
    ((go_at_call 62;refine E.mono ?_;rintro e R ⟨rfl,aO⟩;have D:=((aA _ aF).drew.trans aO:an aF R);have d0:=am c2 D;have d1:=am t0 D;have d2:=am t1 D;have d3:=am t2 D;have d4:=am t3 D;have d5:=am t4 D;have d6:=am t5 D;clear aO))
   have V:=U.trans (D.mono a7);have av:=h.below V;have aW:=ar.below D;have bk:=V.size;clear d0 d1 d2 d3 d4 d5 d6 c0 c1 c2 t0 t1 t2 t3 t4 t5 D E ar U
   by_cases Q:0<=m
   ·have I:=ab.u;rw [if_pos Q] at I;subst I;rw [kR Q];clear ab;go_wp2;go_ret;exact kr.same h V 4
   have I:=ab.u;rw [if_neg Q] at I;rw [lU Q];have ac:=ak I;obtain ⟨c0,c1,c2⟩:=three av.blk;obtain ⟨t0,t1,t2,t3,t4,t5⟩:=aW.six;clear I ab Q
   by_cases Z:gs.length=24
   ·have I:=ac.u;rw [if_pos Z] at I;subst I;have aX:((gs.length:Int)==24)=true:=by rw [Z];rfl
    clear ac Z;go_wp2;go_ret;exact kr.same h V 8
   have I:=ac.u;rw [if_neg Z] at I;subst I;have aX:((gs.length:Int)==24)=false:=by rw [bW];omega
   clear ac Z;go_wp2_with fail;have al:=av.blk;have bj:=al.fz;have bn:=ce R _ c2;have bo:=ce R _ t0;have c7:(R.alloc (cB aj t.kind aj t.id aj t.rel aj t.sub aj t.who aj t.of)).cell? (aC b 2)=some (aw ga gs.length gc):=(al.alloc _).cell rfl;have bi:¬(b=R.heap.size):=by have:=al.lt;omega
   go_region_law (refine AC rfl underlying115 Tryz.infoTu 0 (cQ (av.row.alloc _)) ((al.alloc (cB aj t.kind aj t.id aj t.rel aj t.sub aj t.who aj t.of)).drew) R.heap.size 1 (kX t) (R.heap.size+1) ?_;intro g5 bf w5 aQ aP aJ bg Y;obtain ⟨bp,bq,bs⟩:=three Y;have zq:=Y.fz;have aU:=Y;have aT:=aP;have aV:=aQ;have aS:=aJ;have bl:=Y.lt;clear Y aP aQ aJ)
   all_goals
    go_wp2;go_ret;exact PF h V ai aT aV aS aU
  have aZ:((n:Int) != 0)=true:=by rw [gV];omega
  have a6:((n:Int)==0)=false:=by rw [bW];omega
  have I:=ad.u;rw [if_pos hn] at I;subst I;clear hn ad;go_wp2;go_ret;exact kr.same h U n
section
def PH (h:aD:=by
 have A:=h.blk.lt;have hl:=h.low;exact k.but.below ai (fun g e=>by
  rcases e with e|e
  ·omega
  exact (h.row.lt g e).1)):aD:=h
def PI (h:aD:=by
 rcases k.own i hi with e|e
 ·exact h.own i e
 exact .inr (aV h.but.size e)):aD:=h
structure Ins where
 does:Nat
 rel:ae
 tzo:Nat
def JO(i:Ins):List ag:=[ar i.does,aj i.rel,ar i.tzo]
structure WI(base:Nat)(w:af)(b:Nat)(rel:ae)(v:ag)(l:List Ins):Prop where
 blk:aL w b #[aj rel,v] 293
 row:w.ownsRow base 298 3 v l.length (l.flatMap JO)
 low:base<=b
variable {base:Nat}
def WI.below{l}(h:WI base w b rel v l)(k:an w w'):WI base w' b rel v l:=⟨h.blk.below k,aB h.row k,h.low⟩
def Tryz.infoIns:(Tryz.prog.info? 298).map (fun i=>(i.zero,i.size,i.bytes))=some (some (.agg #[ar 0,aj ⟨#[]⟩,ar 0]),3,32):=by kernel_rfl
structure ol(b:Nat)(v:ag)(w w':af)(v':ag):Prop where
 but:bK (fun k=>k=b\/v.ownBlock=some k) w w'
 own:∀k,v'.ownBlock=some k->v.ownBlock=some k\/w.heap.size<=k
def ol.trans{x:af}{A:ag}(h:ol b v x y v')(k:ol b v' y z A):ol b v x z A where
 but:=⟨k.but.os.trans h.but.os,k.but.tape.trans h.but.tape,k.but.output.trans h.but.output,aV h.but.size k.but.size,fun i hi hs=>(k.but.block i (cM hi h.but.size) (fun e=>by
  rcases e with e|e
  ·exact hs (.inl e)
  rcases h.own i e with e|e
  ·exact hs (.inr e)
  omega)).trans (h.but.block i hi hs)⟩
 own:=fun i hi=>by
  exact PI
def ol.of_below{x}(h:an x y):ol b v x y v:=⟨.of_below h,fun _ e=> .inl e⟩
def ol.below{l}(h:WI base w b rel v l)(k:ol b v w w' v'):Below base w w':=by
 exact PH
def ol.blk(k:ol b v w w' v')(h:aL w g cs T)(A:g≠b)(C:v.ownBlock≠some g):aL w' g cs T:=k.but.blk h (fun e=>by
 rcases e with e|e
 ·exact A e
 exact C e)
def JP(base b:Nat)(rel:ae)(v:ag)(l:List Ins)(i:Ins)(w:af)(e:Ending)(w':af):Prop:=∃v',e=bj (ar l.length)/\ol b v w w' v'/\WI base w' b rel v' (l++[i])
def Lz{va vc l i}(H:WI base w b rel (aw va l.length vc) l)(hB:an w W)(I:(W.alloc o).drew.grownBy w5 (Value.slice va l.length vc).ownBlock)(J:w5.ownsRow base 298 3 (aw (some (aN g5)) (l.length+1) bf) (l.length+1) (l.flatMap JO++JO i))(D:(Value.slice va l.length vc).ownBlock=some g5\/g5=W.heap.size+1)(C:aL w5 b #[aj rel,aw va l.length vc] 293):
  JP base b rel (aw va l.length vc) l i w (bj (ar l.length)) (w5.setCell (aC b 1) (aw (some (aN g5)) (l.length+1) bf)):=by
 have R:=H.low;have Q:=(hB.alloc hB.size o).drew;refine ⟨_,rfl,⟨((bK.of_below Q).trans (dD I (fun k A=> .inr A))).set (.inl rfl) _,fun k A=> ?_⟩,⟨C.set 1 _,?_,R⟩⟩
 ·simp only [Value.ownBlock,aR] at A
  rcases D with e|e
  ·exact .inl (by rw [e,A])
  exact .inr OH
 have:=bU J C ay 1 (aw (some (aN g5)) (l.length+1) bf);rw [cN,List.flatMap_singleton,bg];exact this
def jc(base b rel v l i w)(h:WI base w b rel v l)(ai:l.length<=100000):
  Calls prog 153 #[bc b,.agg #[ar i.does,aj i.rel,ar i.tzo]] w (JP base b rel v l i w):=by
 obtain ⟨U,V,rfl⟩:=ax h.row;have b1:=(aA w.heap.size w).alloc aH (.cells #[ar i.does,aj i.rel,ar i.tzo] 298);have A:=h.below b1;have I:=aL.new w #[ar i.does,aj i.rel,ar i.tzo] 298;have ag:=h.blk.lt;go_enter func153,ntmps153;go_wp2_with fail;generalize (w.alloc (.cells #[ar i.does,aj i.rel,ar i.tzo] 298))=W at*;obtain ⟨c0,c1⟩:W.cell? (aN b)=some (aj rel)/\W.cell? (aC b 1)=some (aw U l.length V):=⟨A.blk.cell rfl,A.blk.cell rfl⟩;obtain ⟨ae,az,aB⟩:W.cell? (aN w.heap.size)=some (ar i.does)/\W.cell? (aC w.heap.size 1)=some (aj i.rel)/\W.cell? (aC w.heap.size 2)=some (ar i.tzo):=⟨I.cell rfl,I.cell rfl,I.cell rfl⟩;have D:=A.blk;have am:=D.fz;have ac:=A.row;have ak:=A.low;have ap:=ce W _ c1;have au:=ce W _ ae;have c7:(W.alloc (.cells #[ar i.does,aj i.rel,ar i.tzo] 298)).cell? (aC b 1)=some (aw U l.length V):=(D.alloc _).cell rfl;have al:¬(b=W.heap.size):=by have:=D.lt;omega
 have af:=D.lt
 go_region_law (refine AC rfl underlying199 Tryz.infoIns base (cQ (ac.alloc _)) ((D.alloc (.cells #[ar i.does,aj i.rel,ar i.tzo] 298)).drew) W.heap.size 1 (JO i) (W.heap.size+1) ?_;intro g5 bf w5 R Q J ah C;obtain ⟨av,ay⟩:=fZ C;have zq:=C.fz;have ab:=C;have Z:=Q;have ad:=R;have Y:=J;have an:=C.lt;clear C Q R J)
 all_goals
  go_wp2;go_ret;exact Lz h b1 Z ad Y ab
end
def o3(l:List Ins)(k:Nat):List Ins:=match l[k]? with
 |some i=>l.set k ⟨i.does,i.rel,l.length⟩
 |none=>l
def DC{l}(h:k<l.length):o3 l k=l.set k ⟨l[k].does,l[k].rel,l.length⟩:=by
 unfold o3;rw [aI h]
def LA(l k):(o3 l k).length=l.length:=by
 unfold o3
 split
 ·simp
 rfl
def PJ(u:Nat):∀(l:List Ins)(k:Nat)(h:k<l.length),(l.flatMap JO).set (k*3+2) (ar u)=(l.set k ⟨l[k].does,l[k].rel,u⟩).flatMap JO
 | [],k,h=>by simp at h
 |i::l,0,_=>rfl
 |i::l,k+1,h=>by
  have A:=PJ u l k nf;rw [bN,rG _ _ (by show 3<=_;omega),show (k+1)*3+2-(JO i).length=k*3+2 by show (k+1)*3+2-3=_;omega,A,List.set_cons_succ,bN]
  rfl
def DD(base b rel v l k w)(h:WI base w b rel v l)(ab:l.length<=100000)(D:k<l.length):
  Calls prog 246 #[bc b,ar k] w fun e w'=>e=bj (.tuple #[])/\ol b v w w' v/\WI base w' b rel v (o3 l k):=by
 obtain ⟨g,c,e1,hc⟩:=bo JO 3 (fun _=>rfl) h.row k l[k] (aI D);subst e1;have ad:w.cell? (aC g (k*3+2))=some (ar l[k].tzo):=hc 2 _ ai rfl;obtain ⟨c0,c1⟩:=fZ h.blk;obtain ⟨V,A,Y⟩:=dF h.row;have ac:=A.fz;have Z:(k:Int)<(l.length:Int):=ai;have Q:¬(g=b):=fun e=>by
  have C:=h.blk;subst e;unfold aL at A C;rw [C] at A;simp at A
 have R:¬(b=g):=fun e=>Q e.symm
 have J:=(show (w.setCell (aC g (k*3+2)) (ar l.length)).ownsRow base 298 3 (aw (some (aN g)) l.length c) (o3 l k).length ((o3 l k).flatMap JO) from by
  have:=oj h.row (k*3+2) (ar l.length);rw [LA,DC D,<-PJ];exact this)
 have I:=h.blk.other (a:=⟨g,k*3+2,none⟩) R (ar l.length);have U:=h.low;generalize l[k].tzo=t0 at*;clear h hc A;go_enter func246,ntmps246;go_wp2_with fail;have bl:bK (fun k=>k=b\/(Value.slice (some (aN g)) l.length c).ownBlock=some k) w (w.setCell (aC g (k*3+2)) (ar l.length)):=(bK.refl _ w).set (.inr rfl) _
 go_region
 all_goals (
  go_end0;exact ⟨rfl,⟨bl.drew,fun _ e=> .inl e⟩,⟨I.drew,cQ J,U⟩⟩)
def vK (h:aD:=by
 first|omega|(simp;omega)):aD:=h
def gO(n:Nat)(r:ae)(each:Ins):List Ins:=[⟨1,⟨#[]⟩,0⟩,⟨3,r,n+5⟩,each,⟨6,⟨#[]⟩,0⟩,⟨10,⟨#[]⟩,n+1⟩]
def LB(l r each):o3 (((((l++[⟨1,⟨#[]⟩,0⟩])++[⟨3,r,0⟩])++[each])++[⟨6,⟨#[]⟩,0⟩])++[⟨10,⟨#[]⟩,l.length+1⟩]) (l.length+1)=l++gO l.length r each:=by
 have e:((((l++[⟨1,⟨#[]⟩,0⟩])++[⟨3,r,0⟩])++[each])++[⟨6,⟨#[]⟩,0⟩])++[⟨10,⟨#[]⟩,l.length+1⟩]=l++[⟨1,⟨#[]⟩,0⟩,⟨3,r,0⟩,each,⟨6,⟨#[]⟩,0⟩,(⟨10,⟨#[]⟩,l.length+1⟩:Ins)]:=au;rw [e,DC au];unfold gO;rw [rG _ _ ai,show l.length+1-l.length=1 by omega];simp
def PK(base b:Nat)(rel:ae)(v:ag)(l:List Ins)(r:ae)(each:Ins)(w:af)(e:Ending)(w':af):Prop:=∃v',e=bj (.tuple #[])/\ol b v w w' v'/\WI base w' b rel v' (l++gO l.length r each)
def DE(base b rel v l r each w)(h:WI base w b rel v l)(aO:l.length<=90000):
  Calls prog 210 #[bc b,aj r,.agg #[ar each.does,aj each.rel,ar each.tzo]] w fun e w'=>PK base b rel v l r each w e w':=by
 have I:=(aA w.heap.size w).alloc aH (.cells #[ar each.does,aj each.rel,ar each.tzo] 298);have am:=h.below I;have ab:=ol.of_below (b:=b) (v:=v) I;have Y:=aL.new w #[ar each.does,aj each.rel,ar each.tzo] 298;have az:w.heap.size≠b:=by have:=h.blk.lt;omega
 have al:=(show v.ownBlock≠some w.heap.size from fun e=>by have:=(h.row.lt _ e).2;omega);have ak:=LB l r each;have J:((l.length+1:Nat):Int)=(l.length:Int)+1:=ai;go_enter func210,ntmps210;go_wp2_with fail;generalize w.alloc (.cells #[ar each.does,aj each.rel,ar each.tzo] 298)=W at*;have ah:=ol.of_below (b:=b) (v:=v) (aA W.heap.size W);have Q:=jc base b rel _ l ⟨1,⟨#[]⟩,0⟩ W am ai;refine Q.mono ?_;rintro e w1 ⟨v1,rfl,an,aB⟩;have ac:=ol.trans ah an;have R:=jc base b rel _ (l++[⟨1,⟨#[]⟩,0⟩]) ⟨3,r,0⟩ w1 aB vK
 skip
 go_wp2_with fail;refine R.mono ?_;rintro e aJ ⟨aP,rfl,ap,aC⟩;have D:=ol.trans ac ap;have Z:=D.blk Y az al;obtain ⟨e0,e1,aN⟩:=three Z;have U:=jc base b rel _ ((l++[⟨1,⟨#[]⟩,0⟩])++[⟨3,r,0⟩]) each aJ aC vK
 skip
 go_wp2_with fail;refine U.mono ?_;rintro e aK ⟨aQ,rfl,av,aE⟩;have ad:=ol.trans D av;have V:=jc base b rel _ (((l++[⟨1,⟨#[]⟩,0⟩])++[⟨3,r,0⟩])++[each]) ⟨6,⟨#[]⟩,0⟩ aK aE vK
 skip
 go_wp2_with fail;refine V.mono ?_;rintro e aM ⟨aR,rfl,aw,aF⟩;have ae:=ol.trans ad aw;have A:=jc base b rel _ ((((l++[⟨1,⟨#[]⟩,0⟩])++[⟨3,r,0⟩])++[each])++[⟨6,⟨#[]⟩,0⟩]) ⟨10,⟨#[]⟩,l.length+1⟩ aM aF vK
 (dsimp only at A;rw [J] at A)
 go_wp2_with fail;refine A.mono ?_;rintro e w5 ⟨aT,rfl,ax,aG⟩;have af:=ol.trans ae ax;have C:=DD base b rel _ _ (l.length+1) w5 aG aS au;rw [ak,J] at C;go_wp2_with fail;refine C.mono ?_;rintro e aU ⟨rfl,ay,aI⟩;have ag:=ab.trans (ol.trans af ay);go_wp2;go_end0;exact ⟨_,rfl,ag,aI⟩
section
def bq(rel:ae):Nat->Ex->List Ins
 |m,⟨n,some x,some y⟩=>if n.kind=3 then bq rel m x++bq rel (m+(bq rel m x).length) y++[⟨6,⟨#[]⟩,0⟩]
  else bq rel m x++[⟨9,⟨#[]⟩,m+(bq rel m x).length+(bq rel (m+(bq rel m x).length+1) y).length+2⟩]++bq rel (m+(bq rel m x).length+1) y++[⟨if n.kind=4 then 7 else 8,⟨#[]⟩,0⟩]
 |m,⟨n,none,_⟩=>if n.kind=0 then gO m rel ⟨4,⟨#[]⟩,0⟩ else if n.kind=1 then [⟨2,n.n1,0⟩] else gO m n.n1 ⟨5,n.n2,0⟩
 |_,⟨_,some _,none⟩=>[]
def nD(base b:Nat)(rel:ae)(v:ag)(l c:List Ins)(w:af)(e:Ending)(w':af):Prop:=∃v',e=bj (.tuple #[])/\ol b v w w' v'/\WI base w' b rel v' (l++c)
variable {base:Nat}
def WI.gkept{l}(h:WI base w b rel v l)(k:ol b v w w' v')(bb):oS bb w w':=fun g cs f _ A=>k.but.block g (lt_of_some A) (fun e=>by
 rcases e with rfl|e
 ·have:=h.blk;unfold aL at this;rw [this] at A;simp at A
 rcases h.row.2 with ⟨C,_⟩|⟨g',cap,D,C,_,hc,_⟩
 ·rw [C] at e;simp [Value.ownBlock] at e
 rw [C] at e;simp only [Value.ownBlock,aR] at e;rw [e] at hc;rw [hc] at A;simp at A)
def LF(base b:Nat)(rel v l)(p:Nat)(sa)(I D:Nat)(w)(h:WI base w b rel v l)(U:l.length<=90000):
  Calls prog 152 #[bc b,.iface 236 (.agg #[ar p,aw sa I D])] w (nD base b rel v l (gO l.length rel ⟨4,⟨#[]⟩,0⟩) w):=by
 have f0:=h7;have f1:=hJ;have f2:=hK;have f3:=eW;have f4:=gB;have A:=(aA w.heap.size w).alloc aH (.cells #[ar p,aw sa I D] 236);have Q:=ol.of_below (b:=b) (v:=v) A;have C:=DE base b rel v l rel ⟨4,⟨#[]⟩,0⟩ _ (h.below A) U;have c0:w.cell? (aN b)=some (aj rel):=h.blk.cell rfl;have Y:(w.alloc (.cells #[ar p,aw sa I D] 236)).cell? (aN b)=some (aj rel):=(h.below A).blk.cell rfl;have ac:=ce w _ c0;have Z:¬(w.heap.size=b):=by have:=h.blk.lt;omega
 have ab:¬(b=w.heap.size):=by have:=h.blk.lt;omega
 clear h A;go_enter func152,ntmps152;go_wp2_with fail;refine C.mono ?_;rintro e w1 ⟨v1,rfl,J,V⟩;have R:=Q.trans J;clear J C;go_wp2;go_end0;exact ⟨_,rfl,R,V⟩
def PN(base b:Nat)(rel v l)(p:Nat)(s w)(h:WI base w b rel v l)(U:l.length<=90000):
  Calls prog 152 #[bc b,.iface 238 (.agg #[ar p,aj s])] w (nD base b rel v l [⟨2,s,0⟩] w):=by
 have f1:=hJ;have R:=l4;have A:=(aA w.heap.size w).alloc aH (.cells #[ar p,aj s] 238);have D:=ol.of_below (b:=b) (v:=v) A;have C:=jc base b rel v l ⟨2,s,0⟩ _ (h.below A) ai;go_enter func152,ntmps152;go_wp2_with fail;refine C.mono ?_;rintro e w1 ⟨v1,rfl,J,Q⟩;have I:=D.trans J;go_wp2;go_end0;exact ⟨_,rfl,I,Q⟩
def PO(base b:Nat)(rel v l)(p p1 p2:Nat)(s t w)(h:WI base w b rel v l)(Q:l.length<=90000):
  Calls prog 152 #[bc b,.iface 240 (.agg #[ar p,ar p1,aj s,ar p2,aj t])] w (nD base b rel v l (gO l.length s ⟨5,t,0⟩) w):=by
 have f2:=hK;have U:=l5;have h2:=l6;have A:=(aA w.heap.size w).alloc aH (.cells #[ar p,ar p1,aj s,ar p2,aj t] 240);have D:=ol.of_below (b:=b) (v:=v) A;have C:=DE base b rel v l s ⟨5,t,0⟩ _ (h.below A) Q;go_enter func152,ntmps152;go_wp2_with fail;refine C.mono ?_;rintro e w1 ⟨v1,rfl,J,R⟩;have I:=D.trans J;go_wp2;go_end0;exact ⟨_,rfl,I,R⟩
end
def JS (h:aD:=by
 rw [bg];omega):aD:=h
def lD(rel e):∀n,(bq rel n e).length<=8*(aF e).length:=by
 induction e using Ex.ind with
 |h0 n r=>
  intro m;have:(aF ⟨n,none,r⟩).length=1:=by simp [aF]
  rw [this];unfold bq
  split
  ·simp [gO]
  split
  ·simp
  simp [gO]
 |h1 n a=>intro m;simp [bq]
 |h2 n a c iha Np=>
  intro m;refine Bb ?_;intro A;rw [A];have h1:=iha m;have h2:=Np (m+(bq rel m a).length);have C:=Np (m+(bq rel m a).length+1);unfold bq
  split
  ·simp only [bg,List.length_cons,List.length_nil];omega
  simp only [bg,List.length_cons,List.length_nil];omega
def Vm(base b:Nat)(rel:ae)(h:Nat)(e:Ex):Prop:=∀(v:ag)(l:List Ins)(w:af)(val:ag),bA h w e val->WI base w b rel v l->l.length+8*(aF e).length<=80000->Calls prog 152 #[bc b,val] w (nD base b rel v l (bq rel l.length e) w)
def DK(base b:Nat)(rel)(C:Nat)(x y)(am:Vm base b rel C x)(an:Vm base b rel C y)(v l)(p:Nat)(vx vy w)(U:bA C w x vx)(V:bA C w y vy)(h:WI base w b rel v l)(aG:l.length+8*((aF x).length+(aF y).length)+8<=80000):
  Calls prog 152 #[bc b,.iface 244 (.agg #[ar p,vx,vy])] w (nD base b rel v l (bq rel l.length x++bq rel (l.length+(bq rel l.length x).length) y++[⟨6,⟨#[]⟩,0⟩]) w):=by
 have f3:=eW;have az:=ja;have aB:=jb;have aI:=gA;obtain ⟨I,J,rfl⟩:=U.isI;obtain ⟨Q,yv,rfl⟩:=V.isI;have A:=(aA w.heap.size w).alloc aH (.cells #[ar p,.iface I J,.iface Q yv] 244);have ak:=h.below A;have ac:=ol.of_below (b:=b) (v:=v) A;have ab:=aL.new w #[ar p,.iface I J,.iface Q yv] 244;have al:w.heap.size≠b:=by have:=h.blk.lt;omega
 have ah:=(fun e=>by have:=(h.row.lt _ e).2;omega:v.ownBlock≠some w.heap.size);have lx:=lD rel x l.length;have aJ:=lD rel y (l.length+(bq rel l.length x).length);have Y:=am v l _ _ (U.but (But.of_below A)) (h.below A) ai;have aj:=V.but (But.of_below A);generalize aC:bq rel l.length x=D at*;have ag:=(by rw [bg]:bq rel (l++D).length y=bq rel (l.length+D.length) y);generalize aE:bq rel (l.length+D.length) y=ay at*;go_enter func152,ntmps152;go_wp2_with fail;generalize (w.alloc (.cells #[ar p,.iface I J,.iface Q yv] 244))=W at*;refine Y.mono ?_;rintro e w1 ⟨v1,rfl,f1,av⟩;have R:=an v1 (l++D) w1 _ (bA.frame (ak.gkept f1 C) _ _ aj) av JS;rw [ag] at R;have e1:=f1.blk ab al ah;obtain ⟨aN,aO,aP⟩:=three e1;have ad:=ac.trans f1;go_wp2_with fail;refine R.mono ?_;rintro e au ⟨ap,rfl,f2,aw⟩;have Z:=jc base b rel ap _ ⟨6,⟨#[]⟩,0⟩ au aw (by rw [bg,bg];omega);have ae:=ad.trans f2;go_wp2_with fail;refine Z.mono ?_;rintro e aM ⟨aK,rfl,f3,ax⟩;have af:=ae.trans f3;go_wp2;go_end0;exact ⟨_,rfl,af,by simpa [ct] using ax⟩
def DL(l cx cy d):o3 ((((l++cx)++[⟨9,⟨#[]⟩,0⟩])++cy)++[⟨d,⟨#[]⟩,0⟩]) (l.length+cx.length)=l++(cx++[⟨9,⟨#[]⟩,l.length+cx.length+cy.length+2⟩]++cy++[⟨d,⟨#[]⟩,0⟩]):=by
 have e:(((l++cx)++[⟨9,⟨#[]⟩,0⟩])++cy)++[(⟨d,⟨#[]⟩,0⟩:Ins)]=(l++cx)++(⟨9,⟨#[]⟩,0⟩::(cy++[⟨d,⟨#[]⟩,0⟩])):=au;have A:((l++cx)++((⟨9,⟨#[]⟩,0⟩:Ins)::(cy++[⟨d,⟨#[]⟩,0⟩])))[l.length+cx.length]? =some ⟨9,⟨#[]⟩,0⟩:=by
  rw [nv au];simp
 rw [e];unfold o3;rw [A];simp only;rw [rG _ _ au,show l.length+cx.length-(l++cx).length=0 by simp,List.set_cons_zero];simp;omega
def vQ(base b:Nat)(rel)(C:Nat)(x y)(aB:Vm base b rel C x)(aC:Vm base b rel C y)(v l)(p d:Nat)(vx vy w)(Y:bA C w x vx)(Z:bA C w y vy)(h:WI base w b rel v l)(aU:l.length+8*((aF x).length+(aF y).length)+8<=80000):
  Calls prog 211 #[bc b,.agg #[ar p,vx,vy],ar d] w (nD base b rel v l (bq rel l.length x++[⟨9,⟨#[]⟩,l.length+(bq rel l.length x).length+(bq rel (l.length+(bq rel l.length x).length+1) y).length+2⟩]++bq rel (l.length+(bq rel l.length x).length+1) y++[⟨d,⟨#[]⟩,0⟩]) w):=by
 obtain ⟨I,J,rfl⟩:=Y.isI;obtain ⟨Q,yv,rfl⟩:=Z.isI;have D:=(aA w.heap.size w).alloc aH (.cells #[ar p,.iface I J,.iface Q yv] 242);have ax:=h.below D;have ag:=ol.of_below (b:=b) (v:=v) D;have af:=aL.new w #[ar p,.iface I J,.iface Q yv] 242;have az:w.heap.size≠b:=by have:=h.blk.lt;omega
 have ap:=(fun e=>by have:=(h.row.lt _ e).2;omega:v.ownBlock≠some w.heap.size);have lx:=lD rel x l.length;have aV:=lD rel y (l.length+(bq rel l.length x).length+1);have ac:=aB v l _ _ (Y.but (But.of_below D)) (h.below D) ai;have av:=Z.but (But.of_below D);generalize aR:bq rel l.length x=A at*;have al:=(by rw [bg,bg];rfl:bq rel ((l++A)++[(⟨9,⟨#[]⟩,0⟩:Ins)]).length y=bq rel (l.length+A.length+1) y);generalize aT:bq rel (l.length+A.length+1) y=ay at*;have am:=DL l A ay d;have an:=(by omega:((l.length+A.length:Nat):Int)=(l.length:Int)+(A.length:Int));go_enter func211,ntmps211;go_wp2_with fail;generalize (w.alloc (.cells #[ar p,.iface I J,.iface Q yv] 242))=W at*;refine ac.mono ?_;rintro e w1 ⟨v1,rfl,f1,ab⟩;have ad:=jc base b rel v1 _ ⟨9,⟨#[]⟩,0⟩ w1 ab JS;have aw:=bA.frame (ax.gkept f1 C) _ _ av;go_wp2_with fail;refine ad.mono ?_;rintro e aJ ⟨aE,rfl,f2,aN⟩;have R:=aC aE _ aJ _ (bA.frame (ab.gkept f2 C) _ _ aw) aN (by rw [bg,bg];simp;omega);rw [al] at R;have V:=f1.trans f2;obtain ⟨aW,aX,aY⟩:=three (V.blk af az ap);go_wp2_with fail;refine R.mono ?_;rintro e aK ⟨aG,rfl,f3,aO⟩;have ae:=jc base b rel aG _ ⟨d,⟨#[]⟩,0⟩ aK aO (by rw [bg,bg,bg];simp;omega);have ah:=V.trans f3;go_wp2_with fail;refine ae.mono ?_;rintro e aM ⟨aI,rfl,f4,aP⟩;have U:=DD base b rel aI _ (l.length+A.length) aM aP aS au;rw [am,an] at U;have aj:=ah.trans f4;go_wp2_with fail;refine U.mono ?_;rintro e w5 ⟨rfl,f5,aQ⟩;have ak:=ag.trans (aj.trans f5);go_wp2;go_end0;exact ⟨_,rfl,ak,aQ⟩
def LG(base b:Nat)(rel)(A:Nat)(x y)(Z:Vm base b rel A x)(ab:Vm base b rel A y)(v l)(p:Nat)(vx vy w)(I:bA A w x vx)(J:bA A w y vy)(h:WI base w b rel v l)(Y:l.length+8*((aF x).length+(aF y).length)+8<=80000):
  Calls prog 152 #[bc b,.iface 245 (.agg #[ar p,vx,vy])] w (nD base b rel v l (bq rel l.length x++[⟨9,⟨#[]⟩,l.length+(bq rel l.length x).length+(bq rel (l.length+(bq rel l.length x).length+1) y).length+2⟩]++bq rel (l.length+(bq rel l.length x).length+1) y++[⟨7,⟨#[]⟩,0⟩]) w):=by
 have f4:=gB;have ag:=kI;have ah:=kJ;have ai:=h8;have aj:=jR;obtain ⟨ad,ae,rfl⟩:=I.isI;obtain ⟨af,yv,rfl⟩:=J.isI;have D:=(aA w.heap.size w).alloc aH (.cells #[ar p,.iface ad ae,.iface af yv] 245);have Q:=ol.of_below (b:=b) (v:=v) D;have C:=vQ base b rel A x y Z ab v l p 7 _ _ _ (I.but (But.of_below D)) (J.but (But.of_below D)) (h.below D) Y;go_enter func152,ntmps152;go_wp2_with fail;refine C.mono ?_;rintro e w1 ⟨v1,rfl,V,ac⟩;have R:=Q.trans V;have U:=ac;go_wp2;go_end0;exact ⟨_,rfl,R,U⟩
def LH(base b:Nat)(rel)(A:Nat)(x y)(Z:Vm base b rel A x)(ab:Vm base b rel A y)(v l)(p:Nat)(vx vy w)(I:bA A w x vx)(J:bA A w y vy)(h:WI base w b rel v l)(Y:l.length+8*((aF x).length+(aF y).length)+8<=80000):
  Calls prog 152 #[bc b,.iface 246 (.agg #[ar p,vx,vy])] w (nD base b rel v l (bq rel l.length x++[⟨9,⟨#[]⟩,l.length+(bq rel l.length x).length+(bq rel (l.length+(bq rel l.length x).length+1) y).length+2⟩]++bq rel (l.length+(bq rel l.length x).length+1) y++[⟨8,⟨#[]⟩,0⟩]) w):=by
 have f5:=h9;have g5:=kK;have ag:=kL;have ah:=ib;have ai:=jS;have aj:=ie;obtain ⟨ad,ae,rfl⟩:=I.isI;obtain ⟨af,yv,rfl⟩:=J.isI;have D:=(aA w.heap.size w).alloc aH (.cells #[ar p,.iface ad ae,.iface af yv] 246);have Q:=ol.of_below (b:=b) (v:=v) D;have C:=vQ base b rel A x y Z ab v l p 8 _ _ _ (I.but (But.of_below D)) (J.but (But.of_below D)) (h.below D) Y;go_enter func152,ntmps152;go_wp2_with fail;refine C.mono ?_;rintro e w1 ⟨v1,rfl,V,ac⟩;have R:=Q.trans V;have U:=ac;go_wp2;go_end0;exact ⟨_,rfl,R,U⟩
def LI(base b rel bb e):Vm base b rel bb e:=by
 induction e using Ex.ind with
 |h0 n r=>
  intro v l w val h A hl;have hp:(aF ⟨n,none,r⟩).length=1:=by simp [aF]
  rw [hp] at hl
  rcases h with ⟨D,sv,rfl,V⟩|⟨D,rfl⟩|⟨D,rfl⟩
  ·have C:bq rel l.length ⟨n,none,r⟩=gO l.length rel ⟨4,⟨#[]⟩,0⟩:=by simp [bq,D]
   obtain ⟨sa,sc,rfl⟩:=ax V;rw [C];exact LF base b rel v l _ _ _ _ w A ai
  ·have C:bq rel l.length ⟨n,none,r⟩=[⟨2,n.n1,0⟩]:=by simp [bq,D]
   rw [C];exact PN base b rel v l _ _ w A ai
  have C:bq rel l.length ⟨n,none,r⟩=gO l.length n.n1 ⟨5,n.n2,0⟩:=by simp [bq,D]
  rw [C];exact PO base b rel v l _ _ _ _ _ w A ai
 |h1 n a=>intro v l w val h;exact h.elim
 |h2 n a c iha Np=>
  intro v l w val h A hl;refine Bb ?_;intro U;rw [U] at hl;obtain ⟨Y,Z,rfl,Q,R⟩:=h
  by_cases k3:n.kind=3
  ·have I:fj n.kind=244:=by simp [fj,k3]
   rw [bq,if_pos k3,I];exact DK base b rel bb a c iha Np v l _ _ _ w Q R A ai
  by_cases J:n.kind=4
  ·have I:fj n.kind=245:=by simp [fj,J]
   rw [bq,if_neg k3,if_pos J,I];exact LG base b rel bb a c iha Np v l _ _ _ w Q R A ai
  have I:fj n.kind=246:=by simp [fj,k3,J]
  rw [bq,if_neg k3,if_neg J,I];exact LH base b rel bb a c iha Np v l _ _ _ w Q R A ai
abbrev k6(a0:ag)(a1:ag)(a2:ag)(a3:TypeId)(a4:ag):Obj:=.cells #[a0,a1,a2,.iface a3 a4] 198
def gE(t:ae)(e:Ex):List Ins:=bq t 0 e++[⟨0,⟨#[]⟩,0⟩]
def Yu(k t:ae)(e:Ex)(w:af)(e':Ending)(w':af):Prop:=∃v',e'=bj (.agg #[aj k,aj t,v'])/\an w w'/\w'.ownsRow w.heap.size 298 3 v' (gE t e).length ((gE t e).flatMap JO)
def Xl{P fn p ty}(h:fn.results=#[.cell p ty])(tmps w g cs' t d)(D:tmps.getD p undef=bc g)(A:∃cs,aL w g cs t/\cs=cs')(I:P.underlying ty=some d)(C:(match d with| .struct _| .array _ _=>true|_=>false)=true)(hi:(P.info? ty).map (·.size)=some cs'.size):
  (results fn tmps).run P w=.ok (.agg cs') w:=by
 obtain ⟨cs,A,rfl⟩:=A;exact results_cell_row h tmps w g t cs (0,0) d D A I C hi
def G1(ab:Nat)(k t)(pl:Nat)(e val w)(h:bA ab w e val)(az:(aF e).length<=1000):
  Calls prog 101 #[.agg #[aj k,ar pl,aj t,val]] w (Yu k t e w):=by
 obtain ⟨A,C,rfl⟩:=h.isI;have Z:an w (((w.alloc (k6 aj k ar pl aj t A C)).alloc (.cells #[aj ⟨#[]⟩,aj ⟨#[]⟩,aw none 0 0] 201)).alloc (.cells #[aj t,aw none 0 0] 293)):=(((aA w.heap.size w).alloc aH _).alloc au _).alloc aS _;have Y:WI w.heap.size (((w.alloc (k6 aj k ar pl aj t A C)).alloc (.cells #[aj ⟨#[]⟩,aj ⟨#[]⟩,aw none 0 0] 201)).alloc (.cells #[aj t,aw none 0 0] 293)) (w.heap.size+1+1) t (aw none 0 0) []:=⟨aL.new' _ _ _ _ au,bQ,ai⟩;have av:=((aL.new w #[aj k,ar pl,aj t,.iface A C] 198).alloc (.cells #[aj ⟨#[]⟩,aj ⟨#[]⟩,aw none 0 0] 201)).alloc (.cells #[aj t,aw none 0 0] 293);have ak:=(aL.new' (w.alloc (k6 aj k ar pl aj t A C)) #[aj ⟨#[]⟩,aj ⟨#[]⟩,aw none 0 0] 201 (w.heap.size+1) au).alloc (.cells #[aj t,aw none 0 0] 293);have aB:=lD t e 0;have U:=LI w.heap.size (w.heap.size+1+1) t ab e (aw none 0 0) [] _ _ (h.but (But.of_below Z)) Y aS;rw [List.length_nil] at U;go_enter func101,ntmps101;go_wp2_with fail;generalize (((w.alloc (k6 aj k ar pl aj t A C)).alloc (.cells #[aj ⟨#[]⟩,aj ⟨#[]⟩,aw none 0 0] 201)).alloc (.cells #[aj t,aw none 0 0] 293))=W at*;refine U.mono ?_;rintro e' w1 ⟨v1,rfl,f1,ae⟩;rw [List.nil_append] at ae;have af:=jc w.heap.size (w.heap.size+1+1) t v1 _ ⟨0,⟨#[]⟩,0⟩ w1 ae ai;go_wp2_with fail;refine af.mono ?_;rintro e' J ⟨aP,rfl,f2,R⟩;have Q:=f1.trans f2;have I:=Q.blk av ai (by simp [Value.ownBlock]);have D:=Q.blk ak ai (by simp [Value.ownBlock]);obtain ⟨aE,aG,aI,aJ⟩:J.cell? (aN w.heap.size)=some (aj k)/\J.cell? (aC w.heap.size 1)=some (ar pl)/\J.cell? (aC w.heap.size 2)=some (aj t)/\J.cell? (aC w.heap.size 3)=some (.iface A C):=⟨I.cell rfl,I.cell rfl,I.cell rfl,I.cell rfl⟩;obtain ⟨aQ,aR,aT⟩:=three D;have aU:=D.fz;obtain ⟨ac,ad,rfl⟩:=ax R.row;obtain ⟨aK,aO⟩:=fZ R.blk;have ag:=Z.trans (Q.below Y);go_wp2_with fail;have hn:(gE t e).length=(bq t 0 e).length+1:=by simp [gE]
 refine bF (v:=.agg #[aj k,aj t,aw ac ((bq t 0 e).length+1) ad]) (Xl results101 _ _ (w.heap.size+1) _ 201 _ rfl ?hB underlying201 rfl aM) rfl ?post
 case hB=>exact ⟨_,(cZ D),bL⟩
 case post=>
  have al:=R.row;have am:=bU al D ay 0 (aj k);have K1:=D.set 0 (aj k);have ap:=bU am K1 ay 1 (aj t);have ah:=K1.set 1 (aj t);have V:=bU ap ah ay 2 (aw ac ((bq t 0 e).length+1) ad);refine ⟨_,rfl,(cq ag),?_⟩;rw [hn];rw [show (bq t 0 e++[(⟨0,⟨#[]⟩,0⟩:Ins)]).length=(bq t 0 e).length+1 from by simp] at V;exact V
abbrev gK:=@Option.some.inj
abbrev iT:=@List.pairwise_iff_getElem
abbrev pM:=@List.map_set
abbrev jJ:=@List.getElem_set_ne
abbrev r8:=@List.mem_or_eq_of_mem_set
abbrev Bg:=@List.pairwise_append
abbrev vR:=@Nat.lt_or_gt_of_ne
def Xm (h:aD:=by
 rw [hpe];exact ek.symm):aD:=h
def Xn (h:aD:=by
 rw [hpe];exact e):aD:=h
def Xo (h:aD:=by
 by_cases A:i=a
 ·subst A;rw [jC] at hk;rw [jJ ai] at e;exact old b hb' ai e (by simpa [Value.ownBlock] using hk)
 rw [jJ A] at hk
 by_cases C:i=b
 ·subst C;rw [jC] at e;exact old a ha ai hk (by simpa [Value.ownBlock] using e)
 rw [jJ C] at e;exact hap a b ha hb' hab k hk e):aD:=h
def Xp (h:aD:=by
 subst e;rw [jC];simp only [bg,List.length_cons,List.length_nil,cN,bN,jF,dS];exact hown):aD:=h
def PQ (h:aD:=by
 refine Bg.2 ⟨h.ap,au,fun p _ q A k C e=> ?_⟩;rw [aX] at A;subst A;simp [Value.ownBlock] at e):aD:=h
def PR (h:aD:=by
 rcases vR hji with A|A
 ·exact hap j i hj hil A g hk Xn
 exact hap i j hil hj A g Xn hk):aD:=h
def PS (h:aD:=by
 rcases vR e with A|A
 ·exact hap i j hil hj A k Xm hk
 exact hap j i hj hil A k hk Xm):aD:=h
def gh{α:Type}(n:Nat)(g:List (List α)):List (List α):=g++List.replicate (n-g.length) []
def gj{α:Type}(n:Nat)(x:α)(g:List (List α)):List (List α):=(gh n g).set (n-1) ((gh n g).getD (n-1) []++[x])
def jd{α:Type}(rk:α->Nat)(l:List α):List (List α):=l.foldl (fun g x=>gj (rk x) x g) []
def Bh(rk:α->Nat)(l:List α)(x:α):jd rk (l++[x])=gj (rk x) x (jd rk l):=by simp [jd]
def Ud(x:It):List ag:=[aj x.1.1.name,ar x.2.1.place,aj x.2.1.name,x.2.2]
structure om(base:Nat)(w:af)(sv:ag)(ps:List (ag×List It)):Prop where
 row:w.ownsRow base 196 1 sv ps.length (ps.map Prod.fst)
 inn:∀p∈ps,w.ownsRow base 198 4 p.1 p.2.length (p.2.flatMap Ud)
 ap:ps.Pairwise (fun p q=>∀k,p.1.ownBlock=some k->q.1.ownBlock≠some k)
def om.frame{base ps}(h:om base w sv ps)(k:∀(g:Nat)(cs:Array ag)(T:TypeId)(f:Nat×Nat),w.heap[g]? =some (Obj.cells cs T f)->(T=196\/T=198)->w'.heap[g]? =w.heap[g]?):om base w' sv ps:=
 ⟨az h.row (fun g cs f _ A=>k g cs _ f A (.inl rfl)),fun p C=>az (h.inn p C) (fun g cs f _ A=>k g cs _ f A (.inr rfl)),h.ap⟩
def om.below{base ps}(h:om base w sv ps)(k:an w w'):om base w' sv ps:=h.frame (fun g cs T f A _=>k.block g (lt_of_some A))
def LJ(sv:ag)(ps:List (ag×List It))(k:Nat):Prop:=sv.ownBlock=some k\/∃p∈ps,p.1.ownBlock=some k
def om.lt{base ps}(h:om base w sv ps)(A:LJ sv ps k):base<=k/\k<w.heap.size:=by
 rcases A with e|⟨p,C,e⟩
 ·exact h.row.lt k e
 exact (h.inn p C).lt k e
def nE{base:Nat}(h:w.ownsRow base e size v n xs)(A:v.ownBlock=some k):∃cs,aL w k cs e:=by
 rcases h.2 with ⟨rfl,_⟩|⟨g,cap,C,rfl,_,D,_⟩
 ·cases A
 simp only [Value.ownBlock,aR] at A;subst A;exact ⟨C,D⟩
def om.ty{base ps}(h:om base w sv ps)(C:LJ sv ps k):∃cs T,aL w k cs T/\(T=196\/T=198):=by
 rcases C with e|⟨p,D,e⟩
 ·obtain ⟨cs,A⟩:=nE h.row e;exact ⟨cs,_,A,.inl rfl⟩
 obtain ⟨cs,A⟩:=nE (h.inn p D) e;exact ⟨cs,_,A,.inr rfl⟩
def om.off{base ps}(h:om base w sv ps)(C:aL w g cs T)(h1:T≠196)(h2:T≠198):¬LJ sv ps g:=fun e=>by
 obtain ⟨I,T',A,D⟩:=h.ty e;unfold aL at C A;rw [C] at A
 cases A
 rcases D with e|e
 ·exact h1 e
 exact h2 e
structure xV(sb:Nat)(sv:ag)(ps:List (ag×List It))(w w':af)(xM:ag)(ps':List (ag×List It)):Prop where
 but:bK (fun k=>k=sb\/LJ sv ps k) w w'
 own:∀k,LJ xM ps' k->LJ sv ps k\/w.heap.size<=k
section
variable {sb:Nat}{sv xM aau:ag}{ps ps' aav:List (ag×List It)}{w w' w'':af}
def xV.below(h:an w w'):xV sb sv ps w w' sv ps:=⟨.of_below h,fun _ e=> .inl e⟩
def xV.trans(h:xV sb sv ps w w' xM ps')(k:xV sb xM ps' w' w'' aau aav):xV sb sv ps w w'' aau aav where
 but:=⟨k.but.os.trans h.but.os,k.but.tape.trans h.but.tape,k.but.output.trans h.but.output,aV h.but.size k.but.size,fun i hi hs=>(k.but.block i (cM hi h.but.size) (fun e=>by
  rcases e with e|e
  ·exact hs (.inl e)
  rcases h.own i e with e|e
  ·exact hs (.inr e)
  omega)).trans (h.but.block i hi hs)⟩
 own:=fun i hi=>by
  exact PI
def om.push{base:Nat}(h:om base w sv ps)(J:w.grownBy w' sv.ownBlock)(Q:w'.ownsRow base 196 1 (aw (some (aN g)) (ps.length+1) cap) (ps.length+1) (ps.map Prod.fst++[aw none 0 0])):om base w' (aw (some (aN g)) (ps.length+1) cap) (ps++[(aw none 0 0,[])]):=by
 refine ⟨by simpa using Q,fun p D=> ?_,?_⟩
 ·rcases aW.1 D with D|D
  ·exact az (h.inn p D) (fun g cs f _ I=>J.block g (lt_of_some I) (dT h.row I ay))
  rw [aX] at D;subst D;exact bQ
 exact PQ
def xV.push{base}(h:om base w sv ps)(I:w.grownBy w' sv.ownBlock)(D:sv.ownBlock=some g\/w.heap.size<=g)(u):xV sb sv ps w (w'.setCell (aN sb) u) (aw (some (aN g)) (ps.length+1) cap) (ps++[(aw none 0 0,[])]):=by
 refine ⟨(dD I (fun k C=> .inr (.inl C))).set (.inl rfl) _,fun k C=> ?_⟩
 rcases C with e|⟨p,A,e⟩
 ·simp only [Value.ownBlock,aR] at e;subst e
  rcases D with e|e
  ·exact .inl (.inl e)
  exact .inr e
 rcases aW.1 A with A|A
 ·exact .inl (.inr ⟨p,A,e⟩)
 rw [aX] at A;subst A;simp [Value.ownBlock] at e
def om.put{base}{p:ag×List It}{x}(h:om base w (aw (some (aN g0)) ps.length c0) ps)(hi:ps[i]? =some p)(I:w.grownBy w' p.1.ownBlock)(hown:w'.ownsRow base 198 4 (aw (some (aN g)) (p.2.length+1) cap) (p.2.length+1) (p.2.flatMap Ud++Ud x))(Q:p.1.ownBlock=some g\/w.heap.size<=g):
  om base (w'.setCell (aC g0 i) (aw (some (aN g)) (p.2.length+1) cap)) (aw (some (aN g0)) ps.length c0) (ps.set i (aw (some (aN g)) (p.2.length+1) cap,p.2++[x])):=by
 have hil:i<ps.length:=by
  rcases fE i ps.length with h|h
  ·exact h
  rw [jA h] at hi;cases hi
 have U:p∈ps:=bG hi;have hpe:ps[i]=p:=by rw [aI hil] at hi;exact gK hi
 have J:w'.ownsRow base 196 1 (aw (some (aN g0)) ps.length c0) ps.length (ps.map Prod.fst):=az h.row (fun g cs f _ D=>I.block g (lt_of_some D) (dT (h.inn p U) D ay));obtain ⟨Y,R,_⟩:=dF J;have hap:=iT.1 h.ap;refine ⟨?_,fun q V=> ?_,?_⟩
 ·have:=oj J i (aw (some (aN g)) (p.2.length+1) cap);rw [fU,pM];exact this
 ·obtain ⟨j,hj,rfl⟩:=dB V;rw [fU] at hj;refine bU ?_ R ay _ _
  by_cases e:i=j
  ·exact Xp
  rw [jJ e];refine cH (h.inn _ (bu hj)) (fun k cs f hk D=>I.block k (lt_of_some D) (fun ek=> ?_));exact PS
 ·refine iT.2 (fun a b ha hb' hab k hk e=> ?_);rw [fU] at ha hb';have old:∀j (hj:j<ps.length),j≠i->ps[j].1.ownBlock=some k->g=k->False:=fun j hj hji hk e=>by
   subst e
   rcases Q with e|e
   ·exact PR
   have:=((h.inn _ (bu hj)).lt g hk).2;omega
  exact Xo
def xV.put{p:ag×List It}{l}(hi:ps[i]? =some p)(I:w.grownBy w' p.1.ownBlock)(D:p.1.ownBlock=some g\/w.heap.size<=g)(u):
  xV sb (aw (some (aN g0)) n c0) ps w (w'.setCell (aC g0 i) u) (aw (some (aN g0)) n c0) (ps.set i (aw (some (aN g)) (l.length) cap,l)):=by
 have C:p∈ps:=bG hi;refine ⟨(dD I (fun k h=> .inr (.inr ⟨p,C,h⟩))).set (.inr (.inl rfl)) _,fun k h=> ?_⟩
 rcases h with e|⟨q,A,e⟩
 ·exact .inl (.inl e)
 ·rcases r8 A with A|rfl
  ·exact .inl (.inr ⟨q,A,e⟩)
  simp only [Value.ownBlock,aR] at e;subst e
  rcases D with e|e
  ·exact .inl (.inr ⟨p,C,e⟩)
  exact .inr e
def xV.ck{base:Nat}(h:om base w sv ps)(k:xV sb sv ps w w' xM ps')(C:aL w sb #[sv] 194):KeepsFrom B w w'/\CK w w':=by
 have key:∀(i:Nat)(o:Obj),w.heap[i]? =some o->(o.isCells=false\/∃cs T f,o=.cells cs T f/\MT T)->w'.heap[i]? =w.heap[i]? :=fun i o hi ho=>k.but.block i (lt_of_some hi) (fun e=>by
  rcases e with e|e
  ·subst e;unfold aL at C;rw [C] at hi
   cases hi
   rcases ho with ho|⟨cs,T,f,ho,A⟩
   ·cases ho
   cases ho
   exact absurd A (by unfold MT;decide)
  obtain ⟨cs,T,D,I⟩:=h.ty e;unfold aL at D;rw [D] at hi
  cases hi
  rcases ho with ho|⟨Q,T',f',ho,A⟩
  ·cases ho
  cases ho
  rcases I with rfl|rfl<;>exact absurd A (by unfold MT;decide))
 exact ⟨⟨k.but.size,fun i o _ hi ho=>(key i o hi (.inl ho)).trans hi⟩,k.but.size,fun g cs T f J A=>key g _ J (.inr ⟨cs,T,f,rfl,A⟩)⟩
def xV.outer{base:Nat}(h:om base w sv ps)(k:xV sb sv ps w w' xM ps')(h0:bK (fun k=>k=sb) W0 w)(A:W0.heap.size<=base):bK (fun k=>k=sb) W0 w':=
 ⟨k.but.os.trans h0.os,k.but.tape.trans h0.tape,k.but.output.trans h0.output,aV h0.size k.but.size,fun i hi hs=>(k.but.block i (cM hi h0.size) (fun e=>by
  rcases e with e|e
  ·exact hs e
  have:=(h.lt e).1;omega)).trans (h0.block i hi hs)⟩
def om.set{base}(h:om base w sv ps)(A:aL w g cs T)(h1:T≠196)(h2:T≠198)(o u):om base (w.setCell (aC g o) u) sv ps:=⟨bU h.row A h1 o u,fun p C=>bU (h.inn p C) A h2 o u,h.ap⟩
def om.base{base:Nat}(h:om base w sv ps)(A:base'<=base):om base' w sv ps:=⟨bn h.row A,fun p C=>bn (h.inn p C) A,h.ap⟩
def om.oth{base:Nat}(h:om base w sv ps)(C:w.grownBy w' row)(D:∀r,row=some r->∃o:Obj,w.heap[r]? =some o/\o.isCells=false):om base w' sv ps:=h.frame (fun g cs T f A _=>C.block g (lt_of_some A) (fun e=>by
 obtain ⟨o,ho,hc⟩:=D g e.symm;rw [A] at ho
 cases ho
 cases hc))
end
def uf:Op->Bool
 | .defer _=>true
 |_=>false
def vS{l:Nat}{o:Oper}{a:Act}{K:Act->af->Prop}{Q:Exit->Act->af->Prop}(A:uf o.op=false)(h:o.wp P a w K Q):o.wpIn (Fence.wide.inRound l) n P a w K Q:=by
 refine ⟨fun _ _=>trivial,?_⟩;rw [show (Fence.wide.inRound l).round=some l from rfl,Oper.semAt_some l _ _ (fun c e=>by rw [e] at A;cases A)];unfold Oper.wp at h;generalize (execOp a.eval o).run P w=r at*
 cases r with
 |ok x w'=>
  cases x<;>simp only [Oper.upon,Oper.uponIn] at h ⊢<;>first|exact h|exact ⟨(fun e=>by cases e),rV l (jG.2 h)⟩|exact ⟨(fun e=>by cases e),fun c cs _=>let ⟨v,w',r,s⟩:=h c cs;⟨v,w',r,stepsIn_wide.2 s⟩⟩
 |halt x w'=>cases x<;>simp only [Oper.upon,Oper.uponIn] at h ⊢<;>exact h
def oo{l n P md ops Q}(D:∀(i:Nat)(o:Oper),ops[i]? =some o->uf o.op=false)(C:¬LetsOut Q):∀(fuel:Nat)(I:Array Bool)(a:Act)(w:af),wpAny P md ops Q fuel I a w->wpAnyIn (Fence.wide.inRound l) n P md ops Q fuel I a w
 |0,_,_,_,h=>h
 |fuel+1,I,a,w,h=>⟨h.1,fun i hi=>by
  have A:=h.2 i hi;unfold wpOp at A;unfold wpOpIn
  cases ho:ops[i]? with
  |none=>
   simp only [ho] at A ⊢;exact oo D C fuel _ _ _ A
  |some o=>
   simp only [ho] at A ⊢
   by_cases J:Region.wanted o (yielded ops a.tmps)=true
   ·rw [if_pos J] at A ⊢
    rcases A with A|⟨_,A⟩
    ·exact Oper.wpIn_mono (fun a w=>oo D C fuel _ a w) (vS (D i o ho) A)
    exact absurd A C
   rw [if_neg J] at A ⊢;exact ⟨fun _ _=>trivial,oo D C fuel _ _ _ A⟩⟩
def QN(Q:Exit->Act->af->Prop):Exit->Act->af->Prop:=fun e a w=>e=.normal/\Q .normal a w
def qz{S l id ops Q a}(J:P.follows .mixedOrders=true)(D:(ops.all fun o=> !(uf o.op))=true)(C:S w.drew)(h:S w.drew->wpAnyH P .any ops (QN Q) S ops.size (Array.replicate ops.size false) a w.drew):(Code.region id ops true).wpIn (Fence.wide.inRound l) n P Q a w:=by
 have A:¬LetsOut (QN Q):=by
  rintro ⟨_,_,e,_⟩
  cases e
 have I:∀(i:Nat)(o:Oper),ops[i]? =some o->uf o.op=false:=fun i o ho=>by
  obtain ⟨hi,rfl⟩:=Array.getElem?_eq_some_iff.1 ho
  simpa using Array.all_eq_true.1 D i hi
 exact wpIn_mono (Q:=QN Q) (wpIn_region_any J (oo I A _ _ _ _ (wpAny_of_held _ _ _ _ (h C)))) (fun e a w h=>by rw [h.1];exact h.2)
section
open Go.Shelf
def aaw (h:aD:=by
 obtain ⟨k0,k1,k2,k3,k4⟩:=hH;exact ⟨am k0 HBD,am k1 HBD,am k2 HBD,am k3 HBD,am k4 HBD⟩):aD:=h
def G5 (h:aD:=by
 intro w' A;obtain ⟨k0,k1,C,k3,D⟩:=A
 go_simp
 all_goals with_reducible rfl):aD:=h
attribute [local go_sem] Oper.semAt_some
def kO{l:Nat}{I:Array Oper}{o:Oper}{a:Act}{Q:Exit->Act->af->Prop}(ad:o.guard=none)(s x:Operand)(t:TypeId)
  (ho:o.op=.call {callee:=.builtin .append,args:=#[s,x],argTypes:=#[t,t]})
  (base:Nat) (e:TypeId) (i:TypeInfo) (z:ag) (size bytes:Nat) (am:P.underlying t=some (.slice e)) (hi:P.info? e=some i) (ap:i.zero=some z)
  (ak:i.size=size) (ab:i.bytes=bytes) (ar:z.cells.size=size) (al:0<size)
  (v:ag) (k:Nat) (D:List ag) (hs:a.eval s=v) (aj:w.ownsRow base e size v k D)
  (C:Addr) (m c:Nat) (A:List ag) (an:a.eval x=aw (some C) m c) (ae:A.length=m*size) (ai:∀j u,A[j]? =some u->w.cell? (C.add j)=some u) (h1:∀u∈A,u.oneCell'=true)
  (ah:0<m) (V:k+m<=maxLen) (ac:(k+m)*bytes<=140737488355328) (hbase:base<=w.heap.size) (H:Nat) (Y:w.heap.size=H)
  (h:∀g cap w',w'.ownsRow base e size (aw (some (aN g)) (k+m) cap) (k+m) (D++A)->w.grownBy w' v.ownBlock->(v.ownBlock=some g\/g=H)->g<w'.heap.size->wpListIn (Fence.wide.inRound l) n P I Q rest (a.put o.dst (aw (some (aN g)) (k+m) cap)) w'):wpListIn (Fence.wide.inRound l) n P I Q (o::rest) a w:=
 wpListIn_plain ad fun _ Z=>vS (by rw [ho];rfl) (wp_append_lies w s x t ho base e i z size bytes am hi ap ak ab ar al v k D hs aj C m c A an ae ai h1 ah V ac hbase H Y fun g cap w' h2 J R U=>Z _ _ (h g cap w' h2 J R U))
def Tryz.infoRu:(Tryz.prog.info? 198).map (fun i=>(i.zero,i.size,i.bytes))=some (some (.agg #[aj ⟨#[]⟩,ar 0,aj ⟨#[]⟩,.nilIface]),4,56):=by kernel_rfl
def Tryz.infoRus:(Tryz.prog.info? 196).map (fun i=>(i.zero,i.size,i.bytes))=some (some (aw none 0 0),1,24):=by kernel_rfl
def Xq(ts:List Ty)(x:It):Nat:=(cU ts [(x.1.1.name,x.2.1.name)]).length
def r9(nd):∀(k:Nat)(q f:List Sp),f.length<=(eb nd k q f).length
 |0,_,f=>by simp [eb]
 |k+1,[],f=>by simp [eb]
 |k+1,x::q,f=>by
  unfold eb
  split
  ·exact r9 nd k _ f
  exact aV au (r9 nd k _ (f++[x]))
def Yv(ts x):1<=Xq ts x:=by
 unfold Xq cU;generalize (x.1.1.name,x.2.1.name)=s;obtain ⟨k,A⟩:∃k,eS ts [s]+1=k+1:=⟨_,rfl⟩;rw [A];unfold eb;rw [if_neg au];exact aV au (r9 _ _ _ _)
def rk_le{tl}(h:MC b w sv ts tl)(x):Xq ts x<=1000001000001:=by
 have h1:=td ts [(x.1.1.name,x.2.1.name)];have h2:=rR h [(x.1.1.name,x.2.1.name)] au;unfold Xq;omega
def PW{g A:List (List α)}(h:g=A++List.replicate j [])(D:n<=g.length)(C:g.length<=max A.length n):g=gh n A:=by
 subst h;unfold gh;rw [bg,vt] at D C;rw [show n-A.length=j by omega]
def PY(w:af)(g:Nat):Nat:=match w.cell? (aN g) with
 |some (.slice _ n _)=>n
 |_=>0
def DN{a}(h:w.cell? (aN g)=some (aw a n c)):PY w g=n:=by unfold PY;rw [h]
structure Vn(sb:Nat)(rk:It->Nat)(W0:af)(pre:List It)(W:af)(sv:ag)(ps:List (ag×List It)):Prop where
 but:bK (fun k=>k=sb) W0 W
 blk:aL W sb #[sv] 194
 st:om W0.heap.size W sv ps
 snd:ps.map Prod.snd=jd rk pre
 len:ps.length<=1000001000001
 inn:∀p∈ps,p.2.length<=pre.length
def Vn.oth{rk ps}(h:Vn sb rk W0 pre W sv ps)(A:W.grownBy W' row)(C:∀r,row=some r->W0.heap.size<=r/\∃o:Obj,W.heap[r]? =some o/\o.isCells=false):Vn sb rk W0 pre W' sv ps:=
 ⟨⟨A.os.trans h.but.os,A.tape.trans h.but.tape,A.output.trans h.but.output,aV h.but.size A.size,fun k D hs=>(A.block k (cM D h.but.size) (fun e=>by have:=(C k e.symm).1;omega)).trans (h.but.block k D hs)⟩,
  fV (β:=Unit) W0.heap.size _ _ _ () W W' row h.blk A C,h.st.oth A (fun r e=>(C r e).2),h.snd,h.len,h.inn⟩
def Vn.below{rk ps}(h:Vn sb rk W0 pre W sv ps)(k:an W W'):Vn sb rk W0 pre W' sv ps:=
 ⟨h.but.trans (.of_below k),h.blk.below k,h.st.below k,h.snd,h.len,h.inn⟩
def vT{A ps:List (ag×List It)}(h:A.map Prod.snd=ps.map Prod.snd++List.replicate j [])(C:∀p∈ps,p.2.length<=n):∀p∈A,p.2.length<=n:=fun p D=>by
 have h1:p.2∈A.map Prod.snd:=aU.2 ⟨p,D,rfl⟩;rw [h] at h1
 rcases aW.1 h1 with h1|h1
 ·obtain ⟨q,I,e⟩:=aU.1 h1;rw [<-e];exact C q I
 rw [Gm h1];exact gS _
def LK{A ps:List (ag×List It)}{pl:List It}{x:It}(D:N-1<A.length)(C:A[N-1]? =some (pv,pl))(h:A.map Prod.snd=gh N (ps.map Prod.snd)):(A.set (N-1) (v',pl++[x])).map Prod.snd=gj N x (ps.map Prod.snd):=by
 unfold gj;rw [pM,<-h]
 congr 2
 rw [ey,eo,C]
 rfl
def DO{rk w3 sv1 ps PZ pl x}(V:an W w3)(A:Vn sb rk W0 pre w3 sv1 ps)(ac:xV sb sv1 ps w3 wr (aw (some (aN g0)) PZ.length sc) PZ)(ab:aL wr sb #[aw (some (aN g0)) PZ.length sc] 194)(ae:om W0.heap.size wr (aw (some (aN g0)) PZ.length sc) PZ)(ag:N-1<PZ.length)(au:¬PZ.length<N)(C:PZ[N-1]? =some (pv,pl))(ad:∃j,PZ.map Prod.snd=ps.map Prod.snd++List.replicate j [])(ai:PZ.length<=max ps.length N)(ar:N<=1000001000001)(am:rk x=N)(R:(wr.alloc o).drew.grownBy w5 pv.ownBlock)(ak:w5.ownsRow W0.heap.size 198 4 (aw (some (aN g5)) (pl.length+1) bf) (pl.length+1) (pl.flatMap Ud++Ud x))(ah:pv.ownBlock=some g5\/g5=wr.heap.size+1):
  KeepsFrom W0.heap.size W (w5.setCell (aC g0 (N-1)) (aw (some (aN g5)) (pl.length+1) bf))/\CK W (w5.setCell (aC g0 (N-1)) (aw (some (aN g5)) (pl.length+1) bf))/\∃sv ps,Vn sb rk W0 (pre++[x]) (w5.setCell (aC g0 (N-1)) (aw (some (aN g5)) (pl.length+1) bf)) sv ps:=by
 have J:an wr ((wr.alloc o).drew):=((aA _ wr).alloc aH o).drew;have I:=ae.below J;have Y:(pv,pl).1.ownBlock=some g5\/(wr.alloc o).drew.heap.size<=g5:=by
  rcases ah with e|e
  ·exact .inl e
  exact .inr aS
 have F:=(ac.trans (xV.below J)).trans (xV.put (sb:=sb) (l:=pl++[x]) (cap:=bf) C R Y (aw (some (aN g5)) (pl.length+1) bf));have D:=ab.below J;have af:aL w5 sb _ 194:=(R.block _ D.lt (own_ne (I.inn _ (bG C)) D ay)).trans D;obtain ⟨c1,c2⟩:=F.ck (B:=W0.heap.size) A.st A.blk;obtain ⟨j,Z⟩:=ad;have al:=PW (n:=N) Z (by rw [bO];omega) (by rw [bO,bO];exact ai);have av:=A.len;obtain ⟨ap,Q,_⟩:=dF I.row;have aj:sb≠g0:=fun e=>by
  subst e;unfold aL at Q D;rw [D] at Q;simp at Q
 refine ⟨(jH V).trans c1,(CK.below V).trans c2,_,PZ.set (N-1) (aw (some (aN g5)) (pl.length+1) bf,pl++[x]),⟨F.outer A.st A.but aH,af.other aj _,?_,?_,?_,?_⟩⟩
 ·exact I.put C R ak Y
 ·rw [Bh,am,<-A.snd];exact LK ag C al
 ·rw [fU];omega
 ·intro q U;rw [bg];have h2:=vT Z A.inn
  rcases r8 U with U|rfl
  ·have:=h2 q U;simp;omega
  have:=h2 _ (bG C);simp at this ⊢;omega
def G7{cs'}(h:aL w g cs T)(A:aL w g' cs' T')(C:T≠T'):g≠g':=fun e=>by
 subst e;unfold aL at h A;rw [h] at A
 cases A
 exact C rfl
def Yw(ts:List Ty)(b:Nat)(L:List It)(w:af)(e:Ending)(w':af):Prop:=∃v ps,e=bj v/\an w w'/\om w.heap.size w' v ps/\ps.map Prod.snd=jd (Xq ts) L/\ps.length<=1000001000001/\∀p∈ps,p.2.length<=L.length
def LL(b aW ts tl w)(h:MC b w aW ts tl)(aO:Ty×ag->List (Rl×ag))(bZ:U5 b w tl aO):
  Calls prog 100 #[.agg #[aW]] w (Yw ts b (qp aO tl) w):=by
 obtain ⟨i0,cx,cL,cM,cN⟩:=eL Tryz.infoRus;obtain ⟨cO,cy,cH,cI,cJ⟩:=eL Tryz.infoRu;obtain ⟨Q,mn,mc,rfl⟩:=h.form;refine (jG (n:=8)).1 ?_;refine callsIn_of_wp_marks func100 rfl trivial ?_ rfl;simp only [ntmps100,rT,List.length_cons,List.length_nil,Nat.reduceAdd,Nat.reduceSub,vz,Array.replicate_zero,vA,vB,List.nil_append,List.cons_append];gi_wp2_with fail;refine ⟨trivial,(jG.2 (oZ _ _ ⟨_,_,_,rfl⟩)).mono ?_⟩;rintro e w' ⟨rfl,rfl⟩;gi_wp2_with fail;have av:an w (((w.alloc (aY aw Q mn mc)).alloc (.cells #[aw none 0 0] 194)).alloc (aY aw Q mn mc)):=(((aA _ w).alloc aH _).alloc au _).alloc aS _;have bT:aL (((w.alloc (aY aw Q mn mc)).alloc (.cells #[aw none 0 0] 194)).alloc (aY aw Q mn mc)) w.heap.size #[aw Q mn mc] 75:=((aL.new w _ _).alloc _).alloc _;have aX:aL (((w.alloc (aY aw Q mn mc)).alloc (.cells #[aw none 0 0] 194)).alloc (aY aw Q mn mc)) (w.heap.size+1) #[aw none 0 0] 194:=(aL.new' (w.alloc (aY aw Q mn mc)) _ _ (w.heap.size+1) au).alloc _;have bS:aL (((w.alloc (aY aw Q mn mc)).alloc (.cells #[aw none 0 0] 194)).alloc (aY aw Q mn mc)) (w.heap.size+1+1) #[aw Q mn mc] 75:=aL.new' _ _ _ _ au;have aP:=h.below av;have hF:U5 b (((w.alloc (aY aw Q mn mc)).alloc (.cells #[aw none 0 0] 194)).alloc (aY aw Q mn mc)) tl aO:=fun p a7=>(bZ p a7).below av
 obtain ⟨W0,b2⟩:∃W0,(((w.alloc (aY aw Q mn mc)).alloc (.cells #[aw none 0 0] 194)).alloc (aY aw Q mn mc))=W0:=⟨_,rfl⟩;rw [b2] at av bT aX bS aP hF ⊢;clear b2 bZ;obtain ⟨L,bj⟩:∃L:List {x:It // AW b W0 tl x},L.map Subtype.val=qp aO tl:=vC _ _ (Gw hF);have cX:L.length<=1000000:=by
  have h1:L.length=(qp aO tl).length:=by rw [<-bj,bO]
  have h2:(qp aO tl).length<=tl.length*1000:=ik _ 1000 tl (fun p a7=>by have:=(hF p a7).llen;simpa using this);have bW:tl.length<=1000:=by have:=aP.llen;simpa using this
  omega
 refine wpIn_rangeFunc_ownH (F:=Fence.wide) rfl ay (gf:=208) (lb:=#[bc (w.heap.size+1+1)]) rfl trivial (enters_of func208 aM rfl)
  (yO b W0 _ ts tl aP aO hF _ ay _ bS L bj) (fun h k=>CK.trans h k) (CK.b (w:=W0)) bp (fun _=>rfl)
  (fun pre W=>∃aW ps,Vn (w.heap.size+1) (Xq ts) W0 (pre.map Subtype.val) W aW ps)
  (fun bU pre W=>False)
  (fun pre X bh row hs aG aU=>by obtain ⟨aW,ps,h⟩:=hs;exact ⟨aW,ps,h.oth aG aU⟩)
  (fun bU s X bh row hs aG aU=>hs)
  ⟨aw none 0 0,[],⟨bK.refl _ _,aX,⟨bQ,(fun _ h=>by cases h),List.Pairwise.nil⟩,rfl,au,(fun _ h=>by cases h)⟩⟩
  (fun x a' W=>∃R,W0.heap.size<=R/\aL W R #[ar x.1.1.1.place,aj x.1.1.1.name,x.1.1.2] 110/\aL W (R+1) #[ar x.1.2.1.place,aj x.1.2.1.name,x.1.2.2] 159/\a'={tmps:=#[.agg #[aw Q mn mc],bc w.heap.size,aw none 0 0,bc (w.heap.size+1),bc R,bc (R+1),undef,.agg #[aw Q mn mc],.func (.func 208) #[] #[bc (w.heap.size+1+1)],.agg #[ar x.1.1.1.place,aj x.1.1.1.name,x.1.1.2],.agg #[ar x.1.2.1.place,aj x.1.2.1.name,x.1.2.2],undef,undef,undef,undef,undef,undef,undef,undef,undef,undef,undef,undef,undef,undef,undef,undef,undef,undef,undef,undef,undef,undef,undef,undef,undef,undef,undef,undef,undef,undef,undef,undef,undef,undef,undef],defers:=[]})
  (fun x a' _ X bh row hs aG aU=>by
   obtain ⟨R,h1,h2,bW,cr⟩:=hs;exact ⟨R,h1,fV (β:=Unit) W0.heap.size _ _ _ () X bh row h2 aG aU,fV (β:=Unit) W0.heap.size _ _ _ () X bh row bW aG aU,cr⟩)
  ?assign ?body ?done ?stop
 case assign=>
  rintro l pre x W K ⟨bq,ps,V⟩ I;obtain ⟨⟨⟨t,tv⟩,⟨r,cp⟩⟩,bo⟩:=x;obtain ⟨rl,ap,aT⟩:=bo.2;simp only at ap aT I;obtain ⟨ad,af,ae,rfl⟩:=ap.form;obtain ⟨Y,rv,a5⟩:=(ap.ex _ aT).isI;simp only at a5;subst a5;simp only [itE];have b1:=(aA _ W).alloc aH (ba ar t.place aj t.name aw ad af ae);have bR:=b1.alloc b1.size (cC ar r.place aj r.name Y rv);gi_wp2_with fail;exact I _ _ (((AV _ _).trans (AV _ _)).from _) (CK.below bR) ⟨bq,ps,V.below bR⟩ ⟨W.heap.size,V.but.size,(aL.new W _ _).alloc _,aL.new' _ _ _ _ au,rfl⟩
 case body=>
  rintro l pre x a' W hl ⟨rr,aU⟩ ⟨bq,ps,V⟩ ⟨R,cW,al,ab,rfl⟩ c2;obtain ⟨⟨⟨t,tv⟩,⟨r,cp⟩⟩,bo⟩:=x;obtain ⟨rl,ap,aT⟩:=bo.2;simp only at ap aT al ab;obtain ⟨ad,af,ae,rfl⟩:=ap.form;obtain ⟨Y,rv,a5⟩:=(ap.ex _ aT).isI;simp only at a5;subst a5;obtain ⟨t0,t1,t2⟩:=al.three;obtain ⟨bD,bE,bF⟩:=ab.three;have cR:W.cell? (aN w.heap.size)=some (aw Q mn mc):=(V.but.blk bT ai).cell rfl;have b6:KT W0 W:=fun g cs T f ac cE=>V.but.block g (lt_of_some ac) (fun e=>by
   subst e;unfold aL at aX;rw [aX] at ac
   cases ac
   exact absurd cE ay)
  have bz:an W (W.alloc (jB aj t.name aj r.name)):=bp.alloc aH _;have cD:=rR aP [(t.name,r.name)] au;have C:=nw b W.heap.size _ ts tl (aw (some (aN W.heap.size)) 1 1) [(t.name,r.name)] _ ((aP.kt b6 V.but.size).below bz) ⟨rfl,.inr ⟨W.heap.size,1,#[aj t.name,aj r.name],rfl,bV _,aL.new W _ _,au,ay,rfl,rfl⟩⟩ bz.size ai;have ci:=Yv ts ((t,aw ad af ae),(r,.iface Y rv));have bM:=rk_le aP ((t,aw ad af ae),(r,.iface Y rv));change (1<=(cU ts [(t.name,r.name)]).length) at ci;change ((cU ts [(t.name,r.name)]).length<=1000001000001) at bM;generalize b0:(cU ts [(t.name,r.name)]).length=N at*;have cj:=show Xq ts ((t,aw ad af ae),(r,.iface Y rv))=N from b0
  have cV:=ab.lt;have cm:=show pre.length<=1000000 by omega
  clear ap aT b0 cD b6;gi_wp2_with fail;refine ⟨trivial,(rV l (jG.2 C)).mono ?_⟩;rintro e cQ ⟨dg,rfl,b4,cB,b7⟩;obtain ⟨de,df,rfl⟩:=ax b7;have bb:=bz.trans b4;have ah:=V.below bb;have bJ:=al.below bb;have bI:=ab.below bb;clear b4 cB b7 C V al ab t0 t1 t2 bD bE bF cR;gi_wp2_with fail
  gi_loopw [22] (fun u wr=>∃a9 J,xV (w.heap.size+1) bq ps cQ wr a9 J/\aL wr (w.heap.size+1) #[a9] 194/\om W0.heap.size wr a9 J/\(∃j,J.map Prod.snd=ps.map Prod.snd++List.replicate j [])/\J.length<=max ps.length N) (fun u wr=>N-PY wr (w.heap.size+1))
  ·exact ⟨bq,ps,xV.below bp,ah.blk,ah.st,ak ⟨0,au⟩,ai⟩
  obtain ⟨a9,J,a6,aF,aJ,bv,cA⟩:=hrel;obtain ⟨sa,sc,rfl⟩:=ax aJ.row;have bH:wr.cell? (aN (w.heap.size+1))=some (aw sa J.length sc):=aF.cell rfl;have sz:=aF.fz;have c4:=ah.len;have cF:W0.heap.size<=wr.heap.size:=by have:=ah.but.size;have:=a6.but.size;omega
  have c7:=aF.lt
  by_cases cz:J.length<N
  ·have ct:(J.length:Int)<(N:Int):=by omega
   have c1:J.length<=1000001000001:=ai;have cg:=DN bH;gi_wp2_with (gi_at_builtin;go_must (refine kO rfl _ _ 194 rfl W0.heap.size 196 i0 _ 1 24 underlying194 cx cL cM cN rfl ay (aw sa J.length sc) J.length (J.map Prod.fst) rfl ?hown ⟨wr.heap.size,0,none⟩ 1 1 [aw none 0 0] rfl rfl ?hnews ?hone ay ?h63 ?hbytes ?hbase (wr.heap.size+1) ?hH ?hrest))
   case hown=>exact aJ.row.alloc _
   case hnews=>exact j6 (B:=wr.heap.size) (cs:=#[aw none 0 0]) (t:=196) (fr:=(0,0)) (aL.new _ _ _)
   case hone=>
    intro u a8;simp at a8;subst a8
    rfl
   case h63=>unfold maxLen;omega
   case hbytes=>omega
   case hbase=>simp;omega
   case hH=>simp
   case hrest=>
    intro g5 bf w5 bn Z bk cw;have bi:=(aA wr.heap.size wr).alloc aH (.cells #[aw none 0 0] 196);have bg:=aJ.below bi;have be:=aF.below bi;have aR:aL w5 (w.heap.size+1) _ 194:=(Z.block _ be.lt (own_ne bg.row be ay)).trans be;have cP:=aR.cell (o:=0) rfl;have dd:=aR.fz;have b3:(Value.slice sa J.length sc).ownBlock=some g5\/(wr.alloc (.cells #[aw none 0 0] 196)).heap.size<=g5:=by
     rcases bk with e|e
     ·exact .inl e
     exact .inr aS
    have ce:=(a6.trans (xV.below bi)).trans (xV.push (sb:=w.heap.size+1) (cap:=bf) bg Z b3 (aw (some (aN g5)) (J.length+1) bf));have co:=(bg.push Z bn).set aR ay ay 0 (aw (some (aN g5)) (J.length+1) bf);have b9:=aR.set 0 (aw (some (aN g5)) (J.length+1) bf);have ch:=DN ((aR.set 0 (aw (some (aN g5)) (J.length+1) bf)).cell (o:=0) rfl);clear bi bg be aR b3 bk bn Z bH sz;gi_wp2;go_roundw
    ·exact ⟨_,_,ce,b9,co,by
     obtain ⟨j,bA⟩:=aE bv;exact ak ⟨j+1,by rw [cK,bA,List.replicate_succ'];simp⟩,aS⟩
    rw [ch,cg];omega
  have ct:¬((J.length:Int)<(N:Int)):=ai;have bl:N-1<J.length:=ai;obtain ⟨g0,c0,e0,bC⟩:=aZ aJ.row (N-1) _ (by rw [eo,aI bl];rfl);simp only [aK,bY] at e0;obtain ⟨rfl,rfl⟩:=e0;have bN:=aI bl;have bB:=aJ.inn _ (bu bl);generalize J[N-1]=p at*;obtain ⟨pv,pl⟩:=p;simp only at bC bB;obtain ⟨pa,pc,rfl⟩:=ax bB;have c6:=aX.lt;have al:=a6.but.blk bJ (fun e=>e.elim (fun e=>ai) (ah.st.off bJ ay ay));have ab:=a6.but.blk bI (fun e=>e.elim (fun e=>ai) (ah.st.off bI ay ay));obtain ⟨t0,t1,t2⟩:=al.three;obtain ⟨bD,bE,bF⟩:=ab.three;have c8:(N:Int)-1=((N-1:Nat):Int):=ai;have c9:IntKind.i64.wrap ((N-1:Nat):Int)=((N-1:Nat):Int):=IntWalk.i64_in _ ⟨ai,ai⟩;have cY:(0:Int)<=((N-1:Nat):Int):=ai;have cZ:((N-1:Nat):Int)<(J.length:Int):=ai;gi_wp2_with fail;refine qz (S:=fun w'=>w'.cell? (aN (w.heap.size+1))=some (aw (some (aN g0)) J.length sc)/\w'.cell? (aC R 1)=some (aj t.name)/\w'.cell? (aN (R+1))=some (ar r.place)/\w'.cell? (aC (R+1) 1)=some (aj r.name)/\w'.cell? (aC (R+1) 2)=some (.iface Y rv)) aM aM ⟨bH,t1,bD,bE,bF⟩ (fun hH=> ?_);refine vJ 0 ?_
  iterate 7
   refine o0 (v:= ?_) rfl aM (fun _ _ _ h=>by cases h.1) hH (Or.inl ⟨bL,?_⟩) ?_
   rotate_left
   ·exact G5
   simp only [Act.put,List.getElem_toArray,List.getElem_cons_zero,List.getElem_cons_succ,jI,List.set_cons_zero,List.set_cons_succ,Nat.reduceAdd]
  refine vJ 8 ?_
  iterate 5
   refine o0 (v:= ?_) rfl aM (fun _ _ _ h=>by cases h.1) hH (Or.inl ⟨bL,?_⟩) ?_
   rotate_left
   ·exact G5
   simp only [Act.put,List.getElem_toArray,List.getElem_cons_zero,List.getElem_cons_succ,jI,List.set_cons_zero,List.set_cons_succ,Nat.reduceAdd]
  have U:an wr (wr.alloc (k6 aj t.name ar r.place aj r.name Y rv)).drew:=((aA _ wr).alloc aH _).drew;have HBD:Below wr.drew.heap.size wr.drew (wr.alloc (k6 aj t.name ar r.place aj r.name Y rv)).drew:=⟨U.os,U.tape,U.output,U.size,U.block⟩;have aQ:=aB bB U;have ck:=j6 (B:=wr.heap.size) (cs:=#[aj t.name,ar r.place,aj r.name,.iface Y rv]) (t:=198) (fr:=(0,0)) (aL.new wr _ _).drew;have cl:∀u∈Ud ((t,aw ad af ae),(r,.iface Y rv)),u.oneCell'=true:=by
   intro u a8;simp only [Ud,cG,iQ,jD] at a8
   rcases a8 with rfl|rfl|rfl|rfl<;>rfl
  have c3:pl.length<=1000000:=by
   obtain ⟨j,bA⟩:=aE bv;have:=vT bA ah.inn _ (bG bN);have:=cm;simp at*;omega
  have b8:pl.length+1<=maxLen:=by unfold maxLen;omega
  have cd:(pl.length+1)*56<=140737488355328:=ai;have cb:W0.heap.size<=(wr.alloc (k6 aj t.name ar r.place aj r.name Y rv)).drew.heap.size:=aV cF U.size;have cf:(wr.alloc (k6 aj t.name ar r.place aj r.name Y rv)).drew.heap.size=wr.heap.size+1:=au;obtain ⟨cS,az,_⟩:=dF (aB aJ.row U);have bt:=G7 (ab.below U) az ay;have bw:=own_ne aQ (ab.below U) ay;refine rZ (rs:=[7,13]) aM au (pL rfl (fun K I=> ?_) (pL rfl (fun K I=> ?_) r7))
  try simp only [List.getElem_toArray,List.getElem_cons_zero,List.getElem_cons_succ]
  go_simp
  refine I.out _ _ hH (fun hH=> ?_);clear I K
  try simp only [Act.put,List.getElem_toArray,List.getElem_cons_zero,List.getElem_cons_succ,jI,List.set_cons_zero,List.set_cons_succ]
  refine rZ (rs:=[13]) aM au (pL rfl (fun K I=> ?_) r7)
  try simp only [List.getElem_toArray,List.getElem_cons_zero,List.getElem_cons_succ]
  go_simp
  refine I.out _ _ aaw (fun hH=> ?_);clear I K
  try simp only [Act.put,List.getElem_toArray,List.getElem_cons_zero,List.getElem_cons_succ,jI,List.set_cons_zero,List.set_cons_succ]
  rotate_left
  try simp only [List.getElem_toArray,List.getElem_cons_zero,List.getElem_cons_succ]
  go_simp
  refine I.out _ _ aaw (fun hH=> ?_);clear I K
  try simp only [Act.put,List.getElem_toArray,List.getElem_cons_zero,List.getElem_cons_succ,jI,List.set_cons_zero,List.set_cons_succ]
  refine rZ (rs:=[7]) aM au (pL rfl (fun K I=> ?_) r7);have db:=am bC U
  try simp only [List.getElem_toArray,List.getElem_cons_zero,List.getElem_cons_succ]
  go_simp
  refine I.out _ _ hH (fun hH=> ?_);clear I K
  try simp only [Act.put,List.getElem_toArray,List.getElem_cons_zero,List.getElem_cons_succ,jI,List.set_cons_zero,List.set_cons_succ]
  all_goals
   refine rZ (rs:=[14]) aM au (pL rfl (fun K I=> ?_) r7);refine step_append_lies _ rfl (.tmp 36) (.tmp 42) 196 rfl W0.heap.size 198 cO _ 4 56 underlying196 cy cH cI cJ rfl ay (aw pa pl.length pc) pl.length (pl.flatMap Ud) JA aQ ⟨wr.heap.size,0,none⟩ 1 1 (Ud ((t,aw ad af ae),(r,.iface Y rv))) JA rfl ck cl ay b8 cd cb (wr.heap.size+1) cf ?_;intro g5 bf w5 bn Z bk cw;have bP:w5.cell? (aN (w.heap.size+1))=some (aw (some (aN g0)) J.length sc)/\w5.cell? (aC R 1)=some (aj t.name)/\w5.cell? (aN (R+1))=some (ar r.place)/\w5.cell? (aC (R+1) 1)=some (aj r.name)/\w5.cell? (aC (R+1) 2)=some (.iface Y rv):=by
    obtain ⟨k0,k1,k2,k3,k4⟩:=hH;exact ⟨Z.cell k0 (own_ne aQ (aF.below U) ay),Z.cell k1 (own_ne aQ (al.below U) ay),Z.cell k2 bw,Z.cell k3 bw,Z.cell k4 bw⟩
   refine I.out _ _ bP (fun hH=> ?_);clear I K
   try simp only [Act.put,List.getElem_toArray,List.getElem_cons_zero,List.getElem_cons_succ,jI,List.set_cons_zero,List.set_cons_succ]
   refine vJ 15 ?_
   iterate 1
    refine o0 (v:= ?_) rfl aM (fun _ _ _ h=>by cases h.1) hH (Or.inl ⟨bL,?_⟩) ?_
    rotate_left
    ·exact G5
    simp only [Act.put,List.getElem_toArray,List.getElem_cons_zero,List.getElem_cons_succ,jI,List.set_cons_zero,List.set_cons_succ,Nat.reduceAdd]
   have bx:∃cq,aL w5 g0 cq 196:=⟨_,(Z.block g0 az.lt (own_ne aQ az ay)).trans az⟩;obtain ⟨cT,bx⟩:=bx;have da:=bx.fz;have dc:w5.cell? (aC g0 (N-1))=some (aw pa pl.length pc):=Z.cell (am bC U) (own_ne aQ az ay);refine rZ (rs:=[16]) aM au (pL rfl (fun K I=> ?_) r7)
   try simp only [List.getElem_toArray,List.getElem_cons_zero,List.getElem_cons_succ]
   go_simp
   refine I.out _ _ ?_ (fun _=> ?_)
   ·obtain ⟨k0,k1,k2,k3,k4⟩:=bP;have ac:∀(g o:Nat)(v u:ag),g≠g0->w5.cell? (aC g o)=some v->(w5.setCell (aC g0 (N-1)) u).cell? (aC g o)=some v:=fun g o v u aG hv=>(jw (w:=w5) (dY _ _ _ _ aG)).trans hv
    exact ⟨ac _ _ _ _ (G7 (aF.below U) az ay) k0,ac _ _ _ _ (G7 (al.below U) az ay) k1,ac _ _ _ _ bt k2,ac _ _ _ _ bt k3,ac _ _ _ _ bt k4⟩
   clear I K;refine wpAnyH_done aM ?_ _;refine ⟨rfl,?_⟩;have b5:=DO bb ah a6 aF aJ bl cz bN bv cA bM cj Z bn bk;rw [show List.map Subtype.val pre++[((t,Value.slice ad af ae),(r,Value.iface Y rv))]=List.map Subtype.val (pre++[⟨((t,Value.slice ad af ae),(r,Value.iface Y rv)),bo⟩]) by simp] at b5;exact b5
 case done=>
  rintro bs dh W bX rfl ⟨a9,ps,V⟩ I;obtain ⟨sa,sc,rfl⟩:=ax V.st.row;have cP:W.cell? (aN (w.heap.size+1))=some (aw sa ps.length sc):=V.blk.cell rfl;gi_wp2;refine ⟨au,.inl ⟨_,_,rfl,run_takeDeferred I,?_⟩⟩;refine ⟨aw sa ps.length sc,?_,_,ps,rfl,(av.trans (V.but.below (B:=w.heap.size) av.size (fun g e=>ai))).trans (belowK_b (w:=w) aH W bs _ _ (aV av.size bX) I rfl rfl),((V.st.oth (vw _ bs (.deferred none)) (fun r e=>by cases e;exact ⟨_,I,rfl⟩)).base av.size),by rw [<-bj];exact V.snd,V.len,fun p a7=>by have:=V.inn p a7;rw [<-bj];exact this⟩;simp [results,Tryz.f100,go_sem]
 case stop=>
  rintro bs bU pre W bX c5 cu I;exact cu.elim
end
def OfC(C:List Ty->ag->af->Prop):Prop:=∀(bm:Nat) (sv:ag) (ts:List Ty) (tl:List (Ty×ag)) (w:af),MC bm w sv ts tl->Calls prog 59 #[.agg #[sv]] w fun e w'=>∃h ln A,e=bj (.agg #[aw h ln A])/\an w w'/\C ts (aw h ln A) w'
structure Yx(LX:List Ty->ag->af->Prop):Prop where
 below:∀ts lv w w',LX ts lv w->an w w'->LX ts lv w'
 set:∀ts lv w g cs o u,LX ts lv w->aL w g cs 117->LX ts lv (w.setCell (aC g o) u)
def LO(o c w)(h:Laid w):∃p:Nat,Calls prog 41 #[Pp (o,c)] w fun e w'=>e=bj (.tuple #[ar c,ar p])/\an w w':=by
 cases o with
 |none=>exact ⟨0,kq c w h⟩
 |some p=>exact ⟨p,tf p c w h⟩
def zf(b s w o c)(Z:dy s=.error (o,c))(af:c≠0)(V:Laid w):
  Calls prog 27 #[bc b,aj s] w fun e w'=>e=bj (ar c)/\an w w':=by
 have C:=qt s w;rw [Z] at C;have hl:=V.lt;have ag:((c:Int)==0)=false:=by rw [bW];omega
 have ah:((c:Int) != 0)=true:=gV.2 ai;have R:=fun w' (k:an w w')=>LO o c w' (V.below k hl)
 obtain ⟨D,J⟩:∃D,D=Pp (o,c):=⟨_,rfl⟩;have ac:∃ty v,D=.iface ty v:=by
  rw [J]
  cases o with
  |none=>exact ⟨_,_,rfl⟩
  |some p=>exact ⟨_,_,rfl⟩
 obtain ⟨ad,ae,rfl⟩:=ac;have Q:=ak J;clear Z J;go_enter func27,ntmps27;go_wp2_with fail;refine C.mono ?_;rintro e al ⟨I,rfl⟩;rw [<-Q.u];have A:=I.alloc I.size (aY aw none 0 0);obtain ⟨p,Y⟩:=aE R _ A;rw [<-Q.u] at Y;clear I C R;go_wp2_with fail;refine Y.mono ?_;rintro e am ⟨rfl,U⟩;have ab:=A.trans (U.mono A.size);clear U;go_wp2;go_ret;exact ⟨rfl,ab⟩
def Yy(h:List Ty->ag->af->Prop)(b:Nat)(ts:List Ty)(w:af)(e:Ending)(w':af):Prop:=∃mv lv bm tl,e=bj (ar 0)/\PU w' b mv lv (aw none 0 0) []/\MC bm w' mv ts tl/\h ts lv w'/\bK (fun k=>k=b) w w'
def DV(Z:List Ty->ag->af->Prop)(ax:OfC Z)(ab:Yx Z)(b:Nat)(s:ae)(w:af)(mv lv gv:ag)(az:aL w b #[mv,lv,gv] 117)(ts:List Ty)(aC:dy s=.ok ts)(aM:Laid w):
  Calls prog 27 #[bc b,aj s] w (Yy Z b ts w):=by
 have C:=qt s w;rw [aC] at C;have aR:=az.lt;clear aC aM;go_enter func27,ntmps27;go_wp2_with fail;refine C.mono ?_;rintro e J ⟨I,sv,tl,bm,rfl,ac⟩;obtain ⟨A,mn,mc,rfl⟩:=ac.form;have V:=I.alloc I.size (aY aw A mn mc);have av:=aL.new J #[aw A mn mc] 75;have ap:=ac.below (bp.alloc aH (aY aw A mn mc));have aS:¬(J.heap.size=b):=by have:=I.size;omega
 have aT:¬(b=J.heap.size):=by have:=I.size;omega
 clear I ac C;go_wp2_with fail;refine (nB _).mono ?_;rintro e Q ⟨rfl,U⟩;have Y:=V.trans (U.mono V.size);have k0:Q.cell? (aN J.heap.size)=some (aw A mn mc):=(av.below U).cell rfl;have ar:=ap.below U;have aJ:=az.below Y;clear U V ap av;go_wp2_with fail;have aG:=ax bm _ ts tl Q.drew (ar.below (aA _ Q).drew);have aO:=Y.size;clear ax
 go_region_held3 (fun w'=>w'.cell? (aN J.heap.size)=some (aw A mn mc)) (go_keep)
  ((go_at_call 59;refine aG.mono ?_;rintro e aQ ⟨ad,ln,ah,rfl,aB,aE⟩;have R:=(show an Q aQ from (aA _ Q).drew.trans aB);have d0:=am k0 R;have D:=(aJ.below R);obtain ⟨aU,aV,aW⟩:=three D;have aX:=D.fz;have aI:=(ar.below R);have aK:=aE;clear aB aE))
 have aF:=Y.trans (R.mono aO);go_wp2;go_ret;have ak:=D.set 0 (aw A mn mc);have al:=ak.set 1 (aw ad ln ah);have aP:=al.set 2 (aw none 0 0);have ai:¬(117=207\/117=159\/117=110):=ay;have kt:=((KT.set D ai 0 (aw A mn mc)).trans (KT.set ak ai 1 (aw ad ln ah))).trans (KT.set al ai 2 (aw none 0 0));refine ⟨aw A mn mc,aw ad ln ah,bm,tl,rfl,⟨aP,bQ,fun g n c e=>by simp at e,au⟩,aI.kt kt au,ab.set _ _ _ _ _ _ _ (ab.set _ _ _ _ _ _ _ (ab.set _ _ _ _ _ _ _ aK D) ak) al,(((bK.of_below aF).set (show (fun k=>k=b) (⟨b,0,none⟩:Addr).block from rfl) _).set (show (fun k=>k=b) (⟨b,1,none⟩:Addr).block from rfl) _).set (show (fun k=>k=b) (⟨b,2,none⟩:Addr).block from rfl) _⟩
abbrev eY:=@List.mem_cons_of_mem
abbrev ep:=@List.mem_cons_self
abbrev nG:=@List.foldl_cons
def zh (h:aD:=by
 unfold LT;decide):aD:=h
def JT{g:List (List α)}{l:List α}(h:l∈gh n g):l∈g\/l=[]:=by
 unfold gh at h
 rcases aW.1 h with h|h
 ·exact .inl h
 exact .inr (Gm h)
def LP{x:α}{g:List (List α)}{l:List α}(h:l∈gj n x g)(y:α)(A:y∈l):y=x\/∃D∈g,y∈D:=by
 unfold gj at h
 rcases r8 h with h|rfl
 ·rcases JT h with h|rfl
  ·exact .inr ⟨l,h,A⟩
  simp at A
 rcases aW.1 A with A|A
 ·rw [ey] at A
  cases C:(gh n g)[n-1]? with
  |none=>rw [C] at A;simp at A
  |some D=>
   rw [C] at A
   rcases JT (bG C) with h|rfl
   ·exact .inr ⟨D,h,A⟩
   simp at A
 exact .inl (by simpa using A)
def LQ(rk:α->Nat)(A:List α):∀g0:List (List α),∀l∈A.foldl (fun g x=>gj (rk x) x g) g0,∀y∈l,y∈A\/∃D∈g0,y∈D:=by
 induction A with
 |nil=>intro g0 l hl y C;exact .inr ⟨l,hl,C⟩
 |cons x A ih=>
  intro g0 l hl y C
  rcases ih _ l hl y C with h|⟨D,h1,h2⟩
  ·exact .inl (eY _ h)
  rcases LP h1 y h2 with h|h
  ·exact .inl (by rw [h];exact ep)
  exact .inr h
def DW{rk:α->Nat}{A:List α}{l:List α}(h:l∈jd rk A){y:α}(C:y∈l):y∈A:=by
 rcases LQ rk A [] l h y C with h|⟨D,h,_⟩
 ·exact h
 simp at h
def LR(f:α->β)(n)(x:α)(g:List (List α)):(gj n x g).map (List.map f)=gj n (f x) (g.map (List.map f)):=by
 have e:(gh n g).map (List.map f)=gh n (g.map (List.map f)):=by unfold gh;simp
 unfold gj;rw [pM,e,cK,<-e]
 congr 2
 rw [ey,ey,eo]
 cases (gh n g)[n-1]? <;>simp
def LS(f:α->β)(rk:β->Nat)(l:List α):(jd (fun x=>rk (f x)) l).map (List.map f)=jd rk (l.map f):=by
 have key:∀(l:List α) (g:List (List α)),(l.foldl (fun g x=>gj (rk (f x)) x g) g).map (List.map f)=(l.map f).foldl (fun g x=>gj (rk x) x g) (g.map (List.map f)):=by
  intro l
  induction l with
  |nil=>intro g;rfl
  |cons x l ih=>intro g;rw [nG,ih,LR,bZ,nG]
 exact key l []
abbrev TR:=Ty×Rl
def nH(ts:List Ty):List TR:=ts.flatMap fun t=>t.rels.map fun r=>(t,r)
def rkR(ts:List Ty)(x:TR):Nat:=(cU ts [(x.1.name,x.2.name)]).length
def P9(x:It):TR:=(x.1.1,x.2.1)
def cL(ts:List Ty):List (List TR):=jd (rkR ts) (nH ts)
def zi{b:Nat}{w:af}{A:Ty×ag->List (Rl×ag)}:∀{tl:List (Ty×ag)},U5 b w tl A->(qp A tl).map P9=nH (tl.map Prod.fst)
 | [],_=>rfl
 |p::tl,h=>by
  have I:=zi (tl:=tl) (fun q C=>h q (by simp [C]));have e:(qp A (p::tl))=((A p).map fun q=>(p,q))++qp A tl:=by simp [qp]
  rw [e,cK,I,bZ];have D:=(h p au).fst;unfold nH;rw [bN,<-D];simp [P9]
def LU{A:Ty×ag->List (Rl×ag)}{tl}(h:U5 b w tl A)(C:tl.map Prod.fst=ts):(jd (Xq ts) (qp A tl)).map (List.map P9)=cL ts:=by
 have:=LS P9 (rkR ts) (qp A tl);rw [zi h,C] at this;exact this
def lnC(p:It×ag):List ag:=[aj p.1.1.1.name,aj p.1.2.1.name,p.2]
structure CD(base:Nat)(w:af)(v:ag)(ls:List (It×ag)):Prop where
 row:w.ownsRow base 201 3 v ls.length (ls.flatMap lnC)
 ins:∀p∈ls,w.ownsRow base 298 3 p.2 (gE p.1.2.1.name p.1.2.1.body).length ((gE p.1.2.1.name p.1.2.1.body).flatMap JO)
structure Hb(base:Nat)(w:af)(v:ag)(qs:List (ag×List (It×ag))):Prop where
 row:w.ownsRow base 190 1 v qs.length (qs.map Prod.fst)
 grp:∀q∈qs,CD base w q.1 q.2
def LT(T:TypeId):Prop:=T=190\/T=201\/T=298
section
variable {base base':Nat}{w w':af}{v:ag}
def CD.frame{ls}(h:CD base w v ls)(k:∀(g:Nat)(cs:Array ag)(T:TypeId)(f:Nat×Nat),w.heap[g]? =some (Obj.cells cs T f)->LT T->w'.heap[g]? =w.heap[g]?):CD base w' v ls:=
 ⟨az h.row (fun g cs f _ A=>k g cs _ f A (.inr (.inl rfl))),fun p C=>az (h.ins p C) (fun g cs f _ A=>k g cs _ f A (.inr (.inr rfl)))⟩
def Hb.frame{qs:List (ag×List (It×ag))}(h:Hb base w v qs)(k:∀(g:Nat)(cs:Array ag)(T:TypeId)(f:Nat×Nat),w.heap[g]? =some (Obj.cells cs T f)->LT T->w'.heap[g]? =w.heap[g]?):Hb base w' v qs:=
 ⟨az h.row (fun g cs f _ A=>k g cs _ f A (.inl rfl)),fun q C=>(h.grp q C).frame k⟩
def CD.below{ls}(h:CD base w v ls)(k:an w w'):CD base w' v ls:=h.frame (fun g cs T f A _=>k.block g (lt_of_some A))
def Hb.below{qs:List (ag×List (It×ag))}(h:Hb base w v qs)(k:an w w'):Hb base w' v qs:=h.frame (fun g cs T f A _=>k.block g (lt_of_some A))
def CD.lower{ls}(h:CD base w v ls)(A:base'<=base):CD base' w v ls:=⟨bn h.row A,fun p C=>bn (h.ins p C) A⟩
def Hb.lower{qs:List (ag×List (It×ag))}(h:Hb base w v qs)(A:base'<=base):Hb base' w v qs:=⟨bn h.row A,fun q C=>(h.grp q C).lower A⟩
def Yz(A:aL w g cs T)(D:¬LT T)(o u):∀(g':Nat)(h:Array ag)(T':TypeId)(f:Nat×Nat),w.heap[g']? =some (Obj.cells h T' f)->LT T'->(w.setCell (aC g o) u).heap[g']? =w.heap[g']? :=fun g' h T' f C I=>dY _ _ _ _ (fun (e:g'=g)=>by
 subst e;unfold aL at A;rw [A] at C
 cases C
 exact D I)
def CD.push{ls x iv}(h:CD base w v ls)(D:w.grownBy w' v.ownBlock)(I:w'.ownsRow base 201 3 v' (ls.length+1) (ls.flatMap lnC++lnC (x,iv)))(hi:w.ownsRow base 298 3 iv (gE x.2.1.name x.2.1.body).length ((gE x.2.1.name x.2.1.body).flatMap JO)):CD base w' v' (ls++[(x,iv)]):=by
 refine ⟨by simpa using I,fun p A=> ?_⟩;have k:∀(g:Nat)(cs:Array ag)(f:Nat×Nat),base<=g->w.heap[g]? =some (.cells cs 298 f)->w'.heap[g]? =w.heap[g]? :=fun g cs f _ C=>D.block g (lt_of_some C) (dT h.row C ay)
 rcases aW.1 A with A|A
 ·exact az (h.ins p A) k
 rw [aX] at A;subst A;exact az hi k
def Hb.push{qs:List (ag×List (It×ag))}{ls}(h:Hb base w v qs)(D:w.grownBy w' v.ownBlock)(I:w'.ownsRow base 190 1 v' (qs.length+1) (qs.map Prod.fst++[gv]))(hi:CD base w gv ls):Hb base w' v' (qs++[(gv,ls)]):=by
 have k:∀q:ag×List (It×ag),CD base w q.1 q.2->CD base w' q.1 q.2:=fun q A=>
  ⟨az A.row (fun g cs f _ C=>D.block g (lt_of_some C) (dT h.row C ay)),fun p J=>az (A.ins p J) (fun g cs f _ C=>D.block g (lt_of_some C) (dT h.row C ay))⟩
 refine ⟨by simpa using I,fun q A=> ?_⟩
 rcases aW.1 A with A|A
 ·exact k q (h.grp q A)
 rw [aX] at A;subst A;exact k _ hi
end
def YA(ts:List Ty)(lv:ag)(w:af):Prop:=∃qs,Hb 0 w lv qs/\qs.map (fun q=>q.2.map fun p=>P9 p.1)=cL ts/\qs.length<=1000001000001/\∀q∈qs,q.2.length<=1000000
def vX:Yx YA where
 below:=fun ts lv w w' ⟨qs,h1,h2⟩ k=>⟨qs,h1.below k,h2⟩
 set:=fun ts lv w g cs o u ⟨qs,h1,h2⟩ A=>⟨qs,h1.frame (Yz A zh o u),h2⟩
def Tryz.infoLn:(Tryz.prog.info? 201).map (fun i=>(i.zero,i.size,i.bytes))=some (some (.agg #[aj ⟨#[]⟩,aj ⟨#[]⟩,aw none 0 0]),3,56):=by kernel_rfl
def Tryz.infoLns:(Tryz.prog.info? 190).map (fun i=>(i.zero,i.size,i.bytes))=some (some (aw none 0 0),1,24):=by kernel_rfl
def bK.then{S x}(h:bK S x y)(k:Below x.heap.size y z):bK S x z:=⟨k.os.trans h.os,k.tape.trans h.tape,k.output.trans h.output,aV h.size k.size,fun i hi hs=>(k.block i hi).trans (h.block i hi hs)⟩
def Qa:OfC YA:=by
 intro b sv ts tl w h;obtain ⟨aT,mn,mc,rfl⟩:=h.form;obtain ⟨ah,hF⟩:=Pg h;have az:an w (((w.alloc (aY aw aT mn mc)).alloc (.cells #[aw none 0 0] 114)).alloc (.cells #[aw none 0 0] 114)):=(((aA _ w).alloc aH _).alloc au _).alloc aS _;have bR:aL (((w.alloc (aY aw aT mn mc)).alloc (.cells #[aw none 0 0] 114)).alloc (.cells #[aw none 0 0] 114)) (w.heap.size+1) #[aw none 0 0] 114:=(aL.new' (w.alloc (aY aw aT mn mc)) _ _ (w.heap.size+1) au).alloc _;have bP:aL (((w.alloc (aY aw aT mn mc)).alloc (.cells #[aw none 0 0] 114)).alloc (.cells #[aw none 0 0] 114)) (w.heap.size+2) #[aw none 0 0] 114:=aL.new' _ _ _ _ au;have bs:=ak (LL b _ ts tl _ (h.below az) ah (fun p ae=>(hF p ae).below az));have ce:=ak (show ∀x∈qp ah tl,bA b w x.2.1.body x.2.2/\(aF x.2.1.body).length<=1000 from fun x bh=>by
  obtain ⟨_,rl,be,Z⟩:=Gw hF x bh;exact ⟨be.ex _ Z,be.okp _ (by rw [<-be.fst];exact aU.2 ⟨_,Z,rfl⟩)⟩)
 have cb:=ak (LU hF h.fst);have bE:=ak (show (qp ah tl).length<=1000000 from by
  have h2:(qp ah tl).length<=tl.length*1000:=ik _ 1000 tl (fun p ae=>by have:=(hF p ae).llen;simpa using this);have Y:tl.length<=1000:=by have:=h.llen;simpa using this
  omega)
 have aX:=ak az;have bB:=ak bR;have bw:=ak bP;generalize cm:qp ah tl=L at*;clear h hF az bR bP cm;go_enter func59,ntmps59;go_wp2_with fail;refine bs.mono ?_;rintro e w1 ⟨v1,ps,rfl,aJ,bg,bX,cI,Z⟩;obtain ⟨sa,sc,rfl⟩:=ax bg.row;have B1:=ak (aX.trans (aJ.mono aX.size));have ck:=ak (bB.below aJ);have bl:=ak (bw.below aJ);have ci:=ak bg;have bJ:=ak bX;have bD:=ak Z;clear aJ bg bX Z bs aX bB bw;go_wp2_with fail
 go_loopw [12] (fun u wr=>∃(j:Nat) (lv:ag) (qs:List (ag×List (It×ag))),j<=ps.length/\u=ar j/\bK (fun k=>k=w.heap.size+2) w1 wr/\aL wr (w.heap.size+2) #[lv] 114/\Hb w1.heap.size wr lv qs/\Hid (qs.map (fun q=>q.2.map Prod.fst)=(ps.take j).map Prod.snd)) (fun u _=>ps.length-(intOf u).toNat)
 ·exact ⟨0,aw none 0 0,[],ai,rfl,bK.refl _ _,bl,⟨bQ,fun _ h=>by cases h⟩,ak au⟩
 obtain ⟨j,lv,qs,cG,rfl,J,C,ac,am⟩:=hrel;obtain ⟨D,co⟩:∃D,D=wr:=⟨_,rfl⟩;subst co;obtain ⟨bi,bj,rfl⟩:=ax ac.row;have bZ:=J.size;have cM:qs.length<=j/\j<=qs.length:=by have:=congrArg List.length am;simp at this;omega
 by_cases ab:j<ps.length
 ·have cq:(j:Int)<(ps.length:Int):=by omega
  have U:=ci.frame (fun g cs T f ba cx=>J.block g (lt_of_some ba) (fun e=>by
   have:=bl.u;subst e;unfold aL at this;rw [this] at ba
   cases ba
   exact absurd cx ay))
  obtain ⟨g,c,e1,k0⟩:=aZ U.row j _ (by rw [eo,aI ab];rfl);simp only [aK,bY] at e1;obtain ⟨rfl,rfl⟩:=e1;have aQ:=U.inn _ (bu ab);have bM:=ak (by rw [cD ab,cK];rfl:(ps.take (j+1)).map Prod.snd=(ps.take j).map Prod.snd++[ps[j].2]);have bH:=ak (fun x bh=>DW (by rw [<-bJ];exact aU.2 ⟨_,bu ab,rfl⟩) bh:∀x∈ps[j].2,x∈L);have bW:=bD _ (bu ab);generalize ps[j]=p at*;obtain ⟨pv,pl⟩:=p;simp only at k0 aQ bW bM bH;obtain ⟨pa,pc,rfl⟩:=ax aQ;have cL:pl.length<=1000000:=by have:=bE.u;omega
  have ch:=ak aQ;have b8:=ak J;have b6:=ak C;have cg:=ak ac;have bq:=ak (B1.trans (J.below (B:=w.heap.size) OY (fun g e=>ai)));clear U aQ J C ac bW;go_wp2_with fail
  go_loopw [6,18] (fun cB bk b3=>∃(k:Nat) (ls:List (It×ag)),k<=pl.length/\bk=ar k/\an D b3/\CD D.heap.size b3 cB ls/\Hid (ls.map Prod.fst=pl.take k)) (fun _ bk _=>pl.length-(intOf bk).toNat)
  ·exact ⟨0,[],ai,rfl,aA _ _,⟨bQ,fun _ h=>by cases h⟩,ak au⟩
  obtain ⟨k,ls,cH,rfl,I,aO,a5⟩:=hrel;obtain ⟨ga,gc,rfl⟩:=ax aO.row;have cJ:ls.length<=k/\k<=ls.length:=by have:=congrArg List.length a5;simp at this;omega
  have U:=I.size;have bz:=ak I;have bC:=ak aO
  by_cases bb:k<pl.length
  ·have cr:(k:Int)<(pl.length:Int):=by omega
   obtain ⟨g',cE,bS,hc⟩:=bo Ud 4 (fun _=>rfl) (aB ch I) k pl[k] (aI bb);simp only [aK,bY] at bS;obtain ⟨rfl,rfl⟩:=bS;have cj:=ak (cD bb:pl.take (k+1)=pl.take k++[pl[k]]);obtain ⟨aR,bc⟩:=ce _ (bH _ (bu bb));generalize pl[k]=x at*;obtain ⟨⟨t,tv⟩,⟨r,cC⟩⟩:=x;obtain ⟨af,rv,bU⟩:=aR.isI;simp only at bU aR bc;subst bU;have k1:wr.cell? (aC g' (k*4))=some (aj t.name):=hc 0 _ ai rfl;have cy:wr.cell? (aC g' (k*4+1))=some (ar r.place):=hc 1 _ ai rfl;have k3:wr.cell? (aC g' (k*4+2))=some (aj r.name):=hc 2 _ ai rfl;have cz:wr.cell? (aC g' (k*4+3))=some (.iface af rv):=hc 3 _ ai rfl;have a8:=(aA wr.heap.size wr).alloc aH (k6 aj t.name ar r.place aj r.name af rv);have bt:=ak (G1 b t.name r.name r.place r.body (.iface af rv) _ (aR.but (But.of_below (bq.trans ((I.trans (a8.mono U)).mono bq.size)))) bc);have bx:=ak a8;clear hc aR bc a8 I aO;go_wp2_with fail;refine bt.mono ?_;rintro e aV ⟨cN,rfl,bT,aP⟩;have cd:=ak aP;obtain ⟨il,bV⟩:∃il,il=(gE r.name r.body).length:=⟨_,rfl⟩;rw [<-bV] at aP;obtain ⟨b0,b2,rfl⟩:=ax aP;have a7:=bx.trans (bT.mono bx.size);have bp:=ak (bz.trans (a7.mono U));have bv:=ak (bC.below a7);have cu:=bp.size;have cw:D.heap.size<=(wr.alloc (k6 aj t.name ar r.place aj r.name af rv)).heap.size:=aS;clear aP bV a7 bt k1 cy k3 cz bT;go_wp2_with (at_builtin;go_must (refine ez rfl underlying190 Tryz.infoLn D.heap.size (bv.row.alloc _) aV.heap.size 1 [aj t.name,aj r.name,aw b0 il b2] (aV.heap.size+1) ?hrest))
   case hrest=>
    intro g5 bf w5 ad Q a9 cp;have A:=(aA aV.heap.size aV).alloc aH (.cells #[aj t.name,aj r.name,aw b0 il b2] 201);have aW:=bv.below A;have b9:=ak (aW.push (x:=((t,tv),(r,.iface af rv))) Q ad (bn (aB cd A) cw));have al:=ak (cA (bp.trans (A.mono cu)) Q aS (fun q R=>(aW.row.lt q R).1));clear A aW ad Q a9;go_wp2;go_roundw
    ·exact ⟨k+1,_,ai,by go_num,al,b9,by
     have h1:=aE a5;have h2:=cj.u;exact ak (by rw [cK,h1,h2];rfl)⟩
    simp [intOf];omega
  have cr:¬((k:Int)<(pl.length:Int)):=ai;have C:=b6.below I;have a0:wr.cell? (aN (w.heap.size+2))=some (aw bi qs.length bj):=C.cell rfl;have cl:=C.fz;have b5:=ak C;have bG:=ak (cg.below I);clear C I aO;go_wp2_with (at_builtin;go_must (refine ez rfl underlying112 Tryz.infoLns w1.heap.size (bG.row.alloc _) wr.heap.size 1 [aw ga ls.length gc] (wr.heap.size+1) ?Hc))
  case Hc=>
   intro g5 bf w5 ad Q a9 cp;have A:=(aA wr.heap.size wr).alloc aH (.cells #[aw ga ls.length gc] 190);have av:=bG.below A;have ap:=b5.below A;have V:aL w5 (w.heap.size+2) _ 114:=(Q.block _ ap.lt (own_ne av.row ap ay)).trans ap;have cO:=V.cell (o:=0) rfl;have cP:=V.fz;have bN:=av.push Q ad ((bC.below A).lower bZ);have al:=cA ((bz.mono bZ).trans (A.mono ai)) Q aS (fun q R=>(av.row.lt q R).1);have b7:=ak ((bK.then b8 al).set (rfl:(fun k=>k=w.heap.size+2) (⟨w.heap.size+2,0,none⟩:Addr).block) (aw (some (aN g5)) (qs.length+1) bf));have cf:=ak (V.set 0 (aw (some (aN g5)) (qs.length+1) bf));have a6:=ak (bN.frame (Yz V zh 0 (aw (some (aN g5)) (qs.length+1) bf)));clear A av ap V bN al ad Q a9 a0 cl;go_wp2;go_roundw
   ·exact ⟨j+1,_,_,ai,by go_num,b7,cf,a6,by
    have h1:=aE am;have h2:=aE bM;have Y:=aE a5;rw [cY ai] at Y;exact ak (by rw [cK,h1,h2];simp [Y])⟩
   simp [intOf];omega
 have cq:¬((j:Int)<(ps.length:Int)):=ai;have a0:D.cell? (aN (w.heap.size+2))=some (aw bi qs.length bj):=C.cell rfl;have aG:=J.blk ck ai;have cQ:D.cell? (aN (w.heap.size+1))=some (aw none 0 0):=aG.cell rfl;have cR:=aG.fz;have bI:=ak aG;have b4:=ak (B1.trans (J.below (B:=w.heap.size) OY (fun g e=>ai)));have a6:=ak ac;clear aG J C ac;go_wp2_with fail;refine bF (v:=.agg #[aw bi qs.length bj]) (Xl results59 _ _ (w.heap.size+1) _ 114 _ rfl ?hB underlying114 rfl aM) rfl ?post
 case hB=>exact ⟨_,bI.set 0 _,bL⟩
 case post=>
  rw [cY ai] at am;have R:=aE am;refine ⟨_,_,_,rfl,b4.setCell (p:=⟨w.heap.size+1,0,none⟩) au _,qs,(a6.frame (Yz bI zh 0 _)).lower (gS _),?_,ai,fun q ct=> ?_⟩
  ·have h1:=congrArg (List.map (List.map P9)) R;rw [bJ,cb] at h1;rw [<-h1,fT];simp
  have h1:q.2.map Prod.fst∈ps.map Prod.snd:=by rw [<-R];exact aU.2 ⟨q,ct,rfl⟩
  obtain ⟨p,ae,e⟩:=aU.1 h1;have h2:=bD p ae;have Y:=congrArg List.length e;rw [bO] at Y;have cF:=bE.u;omega
def Rz(s w o c)(Q:dy s=.error (o,c))(J:c≠0)(A:Laid w):
  Calls prog 50 #[aj s] w fun e w'=>e=bj (.tuple #[.pointer none,ar c])/\an w w':=by
 have hl:=A.lt;have h:=(aA w.heap.size w).alloc aH (.cells #[aw none 0 0,aw none 0 0,aw none 0 0] 117);have C:=zf w.heap.size s _ o c Q J (A.below h hl);have R:((c:Int)==0)=false:=by rw [bW];omega
 go_enter func50,ntmps50;go_wp2_with fail;refine C.mono ?_;rintro e U ⟨rfl,I⟩;have D:=h.trans (I.mono h.size);go_wp2;go_ret2;exact ⟨rfl,D⟩
def YL(h:List Ty->ag->af->Prop)(ts:List Ty)(w:af)(e:Ending)(w':af):Prop:=∃mv lv bm tl b,e=bj (.tuple #[bc b,ar 0])/\PU w' b mv lv (aw none 0 0) []/\MC bm w' mv ts tl/\h ts lv w'/\an w w'/\w.heap.size<=b
def VJ(A:List Ty->ag->af->Prop)(Q:OfC A)(J:Yx A)(s:ae)(w:af)(ts:List Ty)(V:dy s=.ok ts)(I:Laid w):
  Calls prog 50 #[aj s] w (YL A ts w):=by
 have hl:=I.lt;have D:=(aA w.heap.size w).alloc aH (.cells #[aw none 0 0,aw none 0 0,aw none 0 0] 117);have C:=DV A Q J w.heap.size s _ _ _ _ (aL.new w (vu aw none 0 0) 117) ts V (I.below D hl);go_enter func50,ntmps50;go_wp2_with fail;refine C.mono ?_;rintro e ab ⟨mv,lv,bm,tl,rfl,Y,U,Z,R⟩;go_wp2;go_ret2;exact ⟨mv,lv,bm,tl,w.heap.size,rfl,Y,U,Z,D.trans (R.below D.size (fun g e=>ai)),bV _⟩
section
def seV(n:Nat):ag:=.int .u64 n
structure Mv(base:Nat)(w:af)(b:Nat)(v:ag)(l:List Nat):Prop where
 blk:aL w b #[v] 389
 row:w.ownsRow base 193 1 v l.length (l.map seV)
 low:base<=b
variable {base:Nat}
def Mv.below{l}(h:Mv base w b v l)(k:an w w'):Mv base w' b v l:=⟨h.blk.below k,aB h.row k,h.low⟩
def Tryz.infoSet:(Tryz.prog.info? 193).map (fun i=>(i.zero,i.size,i.bytes))=some (some (.int .u64 0),1,8):=by kernel_rfl
def RW(h:w.ownsRow base e 1 (aw (some (aN g)) n cap) n xs)(V:m<=n):w.ownsRow base e 1 (aw (some (aN g)) m cap) m (xs.take m):=by
 obtain ⟨hl,h2⟩:=h
 rcases h2 with ⟨A,_⟩|⟨g',U,C,A,D,Q,Y,I,J,R⟩
 ·simp at A
 simp only [aK,aR,cg,fY,bY] at A;obtain ⟨rfl,rfl⟩:=A;refine ⟨aS,.inr ⟨g,cap,C,rfl,D,Q,ai,I,J,?_⟩⟩;rw [<-R,List.take_take]
 congr 1
 omega
def Kg{f:α->ag}{l:List α}(h:w.ownsRow base e 1 v l.length (l.map f))(V:0<l.length):∃g c,v=aw (some (aN g)) l.length c/\l.length<=c/\∀i x,l[i]? =some x->w.cell? (aC g i)=some (f x):=by
 obtain ⟨_,h2⟩:=id h
 rcases h2 with ⟨_,D⟩|⟨g,cap,C,rfl,I,R,A,J,Q,Y⟩
 ·omega
 refine ⟨g,cap,rfl,A,fun i x hi=> ?_⟩;obtain ⟨U,_⟩:=bD.1 hi;rw [World.ownsRow.cellAt h i ai,List.getElem?_map,hi]
 rfl
def SkPut(base b:Nat)(v:ag)(l:List Nat)(w:af)(e:Ending)(w':af):Prop:=∃v',e=bj (.tuple #[])/\ol b v w w' v'/\Mv base w' b v' l
def Y1(base b:Nat)(v:ag)(l:List Nat)(n:Nat)(w:af)(e:Ending)(w':af):Prop:=∃v',e=bj (.int .u64 n)/\ol b v w w' v'/\Mv base w' b v' l
def qO(base b:Nat)(v l)(n:Nat)(w)(h:Mv base w b v l)(ad:l.length<=100000):
  Calls prog 241 #[bc b,.int .u64 n] w (SkPut base b v (l++[n]) w):=by
 obtain ⟨J,Q,rfl⟩:=ax h.row;have c0:w.cell? (aN b)=some (aw J l.length Q):=h.blk.cell rfl;have ab:=h.blk.lt;have Y:=h.low;go_enter func241,ntmps241;go_wp2_with (at_builtin;go_must (refine ez rfl underlying389 Tryz.infoSet base (h.row.alloc _) w.heap.size 1 [.int .u64 n] (w.heap.size+1) ?hrest))
 case hrest=>
  intro g5 bf w5 Z I V ac;have R:=h.row.alloc (.cells #[.int .u64 n] 193);have D:=h.blk.alloc (.cells #[.int .u64 n] 193);have A:aL w5 b _ 389:=(I.block b D.lt (own_ne R D ay)).trans D;have zq:=A.fz;have ae:w5.cell? (aN b)=some (aw J l.length Q):=A.cell rfl;go_wp2;go_end0;have U:=(aA w.heap.size w).alloc aH (.cells #[.int .u64 n] 193);refine ⟨_,rfl,⟨((bK.of_below U).trans (dD I (fun k C=> .inr C))).set (.inl rfl) _,fun k C=> ?_⟩,⟨A.set 0 _,?_,Y⟩⟩
  ·simp only [Value.ownBlock,aR] at C
   rcases aE V with e|e
   ·exact .inl (by rw [e,C])
   exact .inr ai
  have:=bU Z A ay 0 (aw (some (aN g5)) (l.length+1) bf);rw [cK,bg];exact this
def sD(base b v l n w)(h:Mv base w b v (l++[n]))(Q:l.length<=100000):
  Calls prog 240 #[bc b] w (Y1 base b v l n w):=by
 obtain ⟨g,c,e1,I,hc⟩:=Kg h.row au;have A:(l++[n]).length=l.length+1:=au;rw [A] at e1;subst e1;have J:l.length<=c:=ai;have c0:w.cell? (aN b)=some (aw (some (aN g)) (l.length+1) c):=h.blk.cell rfl;have R:=h.blk.fz;have D:=h.low;go_enter func240,ntmps240;go_wp2;go_ret;refine ⟨_,rfl,⟨(bK.refl _ w).set (.inl rfl) _,fun k C=> .inl (by simpa [Value.ownBlock] using C)⟩,⟨h.blk.set 0 _,?_,D⟩⟩;have h1:=RW (m:=l.length) (by have:=h.row;rw [A] at this;exact this:w.ownsRow base 193 1 (aw (some (aN g)) (l.length+1) c) (l.length+1) ((l++[n]).map seV)) ai;have h2:=bU h1 h.blk ay 0 (aw (some (aN g)) l.length c);rw [cK,rP au] at h2;exact h2
def RX(base b:Nat)(v l)(n:Nat)(w)(h:Mv base w b v (l++[n]))(D:l.length<=100000):
  Calls prog 245 #[v] w fun e w'=>e=bj (.int .u64 n)/\w'=w:=by
 obtain ⟨g,c,e1,C,hc⟩:=Kg h.row au;have A:(l++[n]).length=l.length+1:=au;rw [A] at e1;subst e1;go_enter func245,ntmps245;go_wp2;go_ret;exact ⟨rfl,rfl⟩
end
structure Sj where
 kind:ae
 id:ae
 rel:ae
 deriving DecidableEq
def Ij(s:Sj):ag:=.agg #[aj s.kind,aj s.id,aj s.rel]
def nS(s:Sj):Prop:=s.kind.size<=maxLen/\s.id.size<=maxLen/\s.rel.size<=maxLen
def Tryz.laidB:laidOutB prog=true:=by kernel_rfl
def Tryz.keyWide:(match Tryz.prog.underlying 102 with|some (.array _ _)|some (.struct _)=>true|_=>false)=true:=by rw [underlying102]
def Tryz.keyRow:(102:TypeId)<Tryz.prog.types.size:=of_decide_eq_true aM
def Tryz.keyAt:Tryz.prog.keyTypeAt 3 102=true:=by kernel_rfl
def Tryz.keyLaw:WideMaps.KeyLaw prog 102:=deep_law_laid Tryz.laidB (m:=3) ai Tryz.keyRow Tryz.keyAt Tryz.keyWide
def Tryz.keyed:Maps.Keyed prog 102:=Maps.Keyed.of_law Tryz.keyLaw
def Tryz.keyType:Tryz.prog.keyType 102=true:=by kernel_rfl
def Tryz.cellsSj:Tryz.prog.cellsOf 102=3:=by kernel_rfl
def Tryz.cellsTh:Tryz.prog.cellsOf 98=2:=by kernel_rfl
def Tryz.cellsStr:Tryz.prog.cellsOf 9=1:=by kernel_rfl
def wQ(n)(hs:s.size<=maxLen):Tryz.prog.keyLits (n+1) 9 [aj s]=some [aj s.data.toList]:=by
 unfold Program.keyLits;rw [underlying9];simp [hs]
def VS(n){a b}(ha:a.size<=maxLen)(h:b.size<=maxLen):Tryz.prog.keyLits (n+2) 98 [aj a,aj b]=some [aj a.data.toList,aj b.data.toList]:=by
 unfold Program.keyLits;rw [underlying98];simp [Tryz.cellsTh,Tryz.cellsStr,wQ n ha,wQ n h]
def VT(n){s}(h:nS s):Tryz.prog.keyLits (n+3) 102 [aj s.kind,aj s.id,aj s.rel]=some [aj s.kind.data.toList,aj s.id.data.toList,aj s.rel.data.toList]:=by
 unfold Program.keyLits;rw [underlying102];simp [Tryz.cellsSj,Tryz.cellsTh,Tryz.cellsStr,VS n h.1 h.2.1,wQ (n+1) h.2.2]
def sjK(s:Sj):Lit:=aj (keyBytes [aj s.kind.data.toList,aj s.id.data.toList,aj s.rel.data.toList])
def wR{s}(h:nS s):keyOf prog 102 (Ij s)=some (sjK s):=by
 have hn:Tryz.prog.types.size+1=(445-2)+3:=by
  have:Tryz.prog.types.size=445:=aM;omega
 have A:(Ij s).formed prog 102=true:=by simp [Ij,Value.formed,underlying102,Tryz.cellsSj]
 unfold keyOf;rw [underlying102];simp only [Tryz.keyType,A,Bool.and_self,if_true,hn];rw [show (Ij s).cells.toList=[aj s.kind,aj s.id,aj s.rel] from rfl,VT _ h]
 rfl
def VU{s s'}(h:nS s)(A:nS s')(e:sjK s=sjK s'):s=s':=by
 have:=Tryz.keyed.inj (wR h) (by rw [e];exact wR A);simp [Ij] at this
 cases s;cases s';simp_all
def rg(w:af)(b n:Nat)(K:Sj->Nat):Prop:=∃h:DataW Unit,w.ownsMap prog 102 (plainElem prog 193) b n h/\Maps.IsMap h/\∀s,nS s->h.atKey (sjK s) (.lit (.int .u64 0))=.lit (.int .u64 (K s))
def mU(K:Sj->Nat)(s:Sj)(v:Nat):Sj->Nat:=fun x=>if x=s then v else K x
def RY(w:af):rg (w.alloc (.map #[] 0)) w.heap.size 0 (fun _=>0):=⟨.map [],World.ownsMap_made _ _ _ _,Maps.isMap_empty,fun s _=>rfl⟩
def rg.lt{K}(h:rg w b n K):b<w.heap.size:=by
 obtain ⟨A,h1,_⟩:=h;exact h1.lt
def rg.block{K}(h:rg w b n K)(I:w'.heap[b]? =w.heap[b]?):rg w' b n K:=by
 obtain ⟨A,⟨C,c,h1,D⟩,h2⟩:=h;exact ⟨A,⟨C,c,I.trans h1,D⟩,h2⟩
def rg.isMap{K}(h:rg w b n K):∃A c,w.heap[b]? =some (.map A c):=by
 obtain ⟨C,⟨A,c,h1,D⟩,h2⟩:=h;exact ⟨A,c,h1⟩
def RZ(w):(zeroValue 193).run prog w=.ok (.int .u64 0) w:=by kernel_rfl
def rg.look{K}(h:rg w b n K){s}(hs:nS s):(Instr.lookup 187 (.map (some b)) (Ij s) false).run prog w=.ok (.int .u64 (K s)) w:=by
 obtain ⟨I,h1,h2,C⟩:=h;obtain ⟨c,D,A,_⟩:=h1.lookup_int Tryz.keyed underlying187 underlying193 (RZ w) (wR hs);rw [C s hs] at A;simp only [DataW.lit.injEq,Lit.int.injEq,bY] at A;rw [D,<-A]
def Y2{v:Nat}(h:v<18446744073709551616):(Lit.int .u64 (v:Int)).wf=true:=WalkArith.wf_u64 ⟨by omega,by omega⟩
def rg.upd{K}(h:rg w b n K)(I:n<maxLen){s}(hs:nS s){v:Nat}(Q:v<18446744073709551616):
  ∃w',(Instr.mapUpdate 187 (.map (some b)) (Ij s) (.int .u64 v)).run prog w=.ok () w'/\rg w' b (n+1) (mU K s v)/\w.grownBy w' (some b):=by
 obtain ⟨R,h1,h2,C⟩:=h;obtain ⟨w',J,ho,D⟩:=h1.update Tryz.keyed underlying187 I (wR hs) (plainElem_int underlying193 (Y2 Q));refine ⟨w',J,⟨_,ho,h2.put _ _,fun s' A=> ?_⟩,D⟩;unfold mU
 by_cases e:s'=s
 ·subst e;rw [if_pos rfl,Maps.atKey_put_same h2 (Tryz.keyed.key (wR hs))]
 ·rw [if_neg e,Maps.atKey_put_other (fun e'=>e (VU A hs e')),C s' A]
def kQ(ts:List Tu)(k:Nat)(rel:ae):Nat:=match (ts.drop k).findIdx? (fun t=>decide (t.rel=rel)) with
 |some i=>k+i+1
 |none=>0
structure VV(w:af)(tv:ag)(ts:List Tu):Prop where
 row:w.ownsRow 0 123 6 tv ts.length (ts.flatMap kX)
 most:ts.length<=1000
def VV.below{ts}(h:VV w tv ts)(k:an w w'):VV w' tv ts:=⟨aB h.row k,h.most⟩
def Kh{a c:ae}(h:a≠c):(a.toList==c.toList)=false:=by
 rw [<-aQ]
 cases e:eqs a c
 ·rfl
 exact absurd ((bz _ _).1 e) h
def XG{a c:ae}(h:a=c):(a.toList==c.toList)=true:=by subst h;simp
def Ik{ts t}(C:ts[k+j]? =some t)(I:t.rel=rel)(D:∀i,i<j->∀u,ts[k+i]? =some u->u.rel≠rel):kQ ts k rel=k+j+1:=by
 have:(ts.drop k).findIdx? (fun t=>decide (t.rel=rel))=some j:=by
  rw [kV];obtain ⟨h1,h2⟩:=bD.1 C;refine ⟨aS,by simp [h2,I],fun i hi=> ?_⟩;have A:k+i<ts.length:=ai;have:=D i hi _ (aI A)
  simpa using this
 unfold kQ;rw [this]
def wS{ts}(A:∀i u,ts[k+i]? =some u->u.rel≠rel):kQ ts k rel=0:=by
 have:(ts.drop k).findIdx? (fun t=>decide (t.rel=rel))=none:=by
  rw [pj];intro x C;obtain ⟨i,hi,rfl⟩:=dB C;have h:k+i<ts.length:=by simp at hi;omega
  have:=A i _ (aI h)
  simpa using this
 unfold kQ;rw [this]
def R5(kd id rel tv ts k w)(h:VV w tv ts)(h0:0<ts.length)(ax:k<=ts.length):
  Calls prog 242 #[.agg #[aj kd,aj id,tv],ar k,aj rel] w fun e w'=>e=bj (ar (kQ ts k rel))/\an w w':=by
 obtain ⟨g,c,e1,hc⟩:=bo kX 6 (fun _=>rfl) h.row 0 ts[0] (aI h0);subst e1;have ag:ts.length<=c:=by
  rcases h.row.2 with ⟨V,_⟩|⟨_,_,_,V,_,_,aG,_⟩
  ·simp at V
  simp only [aK] at V;omega
 have aF:=h.most;have ad:=(show ∀j t,ts[k+j]? =some t->w.cell? (aC g (k*6+j*6))=some (aj t.kind)/\w.cell? (aC g (k*6+j*6+1))=some (aj t.id)/\w.cell? (aC g (k*6+j*6+2))=some (aj t.rel)/\w.cell? (aC g (k*6+j*6+3))=some (aj t.sub)/\w.cell? (aC g (k*6+j*6+4))=some (aj t.who)/\w.cell? (aC g (k*6+j*6+5))=some (aj t.of) from fun j t Z=>by
  obtain ⟨g',aw,e',D⟩:=bo kX 6 (fun _=>rfl) h.row (k+j) t Z;rw [Nat.add_mul] at D;simp only [aK,aR,cg,fY,bY] at e';obtain ⟨rfl,rfl⟩:=e';exact ⟨D 0 _ ai rfl,D 1 _ ai rfl,D 2 _ ai rfl,D 3 _ ai rfl,D 4 _ ai rfl,D 5 _ ai rfl⟩)
 have I:g<w.heap.size:=(h.row.lt g rfl).2;obtain ⟨m,J⟩:∃m,ts.length=k+m:=⟨ts.length-k,ai⟩;rw [J] at ag;have ay:(k:Int)<=(c:Int):=ai;have aB:k+m<=1000:=ai;rw [J]
 by_cases ah:c=k
 ·have al:m=0:=by omega
  subst al;have ae:=wS (ts:=ts) (k:=k) (rel:=rel) (fun i u C=>by have:=(bD.1 C).1;have:=J;omega);subst ah;go_enter func242,ntmps242;go_wp2_with fail
  go_loopw [14] (fun Q wr=>Q=ar 0/\an w wr) (fun _ _=>0)
  ·exact ⟨rfl,(aA _ w).alloc aH _⟩
  obtain ⟨rfl,A⟩:=hrel;go_wp2;go_ret;rw [ae];exact ⟨rfl,A⟩
 ·go_enter func242,ntmps242;go_wp2_with fail
  go_loopw [14] (fun Q wr=>∃j:Nat,j<=m/\Q=ar j/\an w wr/\(∀i,i<j->∀u,ts[k+i]? =some u->u.rel≠rel)) (fun Q _=>m-(intOf Q).toNat)
  ·exact ⟨0,ai,rfl,(aA _ w).alloc aH _,(fun i hi=>ai)⟩
  obtain ⟨j,Z,rfl,A,U⟩:=hrel;have ab:=A.size
  by_cases az:j<m
  ·have ak:(j:Int)<(m:Int):=by omega
   obtain ⟨t,Y⟩:∃t,ts[k+j]? =some t:=⟨_,aI (by have:=aE J;omega)⟩;obtain ⟨k0,k1,ap,k3,au,av⟩:=ad j t Y;have aJ:=(A.cell (p:=⟨g,_,none⟩) I).trans k0;have aL:=(A.cell (p:=⟨g,_,none⟩) I).trans k1;have aM:=(A.cell (p:=⟨g,_,none⟩) I).trans ap;have aN:=(A.cell (p:=⟨g,_,none⟩) I).trans k3;have aO:=(A.cell (p:=⟨g,_,none⟩) I).trans au;have aP:=(A.cell (p:=⟨g,_,none⟩) I).trans av
   by_cases R:t.rel=rel
   ·have am:=R;have af:=XG R;go_wp2;go_ret;rw [Ik Y am U];exact ⟨by go_num,A.alloc ab _⟩
   have ac:=A.alloc ab (cB aj t.kind aj t.id aj t.rel aj t.sub aj t.who aj t.of);have af:=Kh R;go_wp2;go_roundw
   ·exact ⟨j+1,ai,by go_num,ac,(fun i hi u C=>by
    by_cases e:i=j
    ·subst e;rw [Y] at C
     cases C
     exact R
    exact U i ai u C)⟩
   simp [intOf];omega
  have ak:¬((j:Int)<(m:Int)):=ai;go_wp2;go_ret;rw [wS (fun i u C=>U i (by have:=(bD.1 C).1;have:=J;omega) u C)];exact ⟨rfl,A⟩
abbrev BT:=@Nat.or_lt_two_pow
def Y3 (h:aD:=by
 rw [show ((2:Int) ^ j)=((2 ^ j:Nat):Int) from by simp];generalize 2 ^ j=x at*;simp [IntKind.wrap,IntKind.bits,IntKind.signed];omega):aD:=h
def R8 (h:aD:=by
 clear HU;go_wp2;go_roundw
 ·exact ⟨j+1,ai,by go_num,by rw [HU2];exact Y4 HL ai,Xy⟩
 simp [intOf];omega):aD:=h
def R9 (h:aD:=by
 clear HU;go_wp2;go_roundw
 ·exact ⟨j+1,ai,by go_num,by rw [HU2],Xy⟩
 simp [intOf];omega):aD:=h
def Sa (h:aD:=by
 clear h0;go_enter func244,ntmps244;go_wp2;go_ret;rw [HE];exact ⟨rfl,b0⟩):aD:=h
def Sb(q:br) (h:cj br->aD:=by
 intro zq;have h2:2 ^ j<18446744073709551616:=Nat.pow_lt_pow_right ai (show j<64 by omega);have e:IntKind.u64.wrap ((2:Int) ^ j)=((2 ^ j:Nat):Int):=by
  exact Y3
 revert h2 e
 exact zq.1):aD:=h ⟨q⟩
def sE(K:Sj->Nat)(s:Sj)(rel:ae):Nat:=if s.rel.size=0 then K ⟨s.kind,s.id,rel⟩ else 0
def XH{c:ae}(h:c.size=0):(c.toList== [])=true:=by rw [aT,dQ];exact iF CM
def XI{c:ae}(h:¬c.size=0):(c.toList== [])=false:=by
 rw [aT];have:(bB c).length≠0:=by rw [bk];exact h
 revert this
 cases bB c<;>simp
def Il(ca ha cn cc hn hc mb n K s rel w)(A:rg w mb n K)(hs:nS s)(I:rel.size<=maxLen):
  Calls prog 244 #[.agg #[aw ca cn cc,aw ha hn hc,.map (some mb)],Ij s,aj rel] w fun e w'=>e=bj (.int .u64 (sE K s rel))/\an w w':=by
 have b0:=((aA w.heap.size w).alloc aH (.cells #[aw ca cn cc,aw ha hn hc,.map (some mb)] 189)).alloc au (bT aj s.kind aj s.id aj s.rel);have C:=(A.block (b0.block mb A.lt)).look (s:=⟨s.kind,s.id,rel⟩) ⟨hs.1,hs.2.1,I⟩;unfold Ij at C ⊢
 by_cases h0:s.rel.size=0
 ·have D:=XH h0;have HE:=ak (show sE K s rel=K ⟨s.kind,s.id,rel⟩ from if_pos h0);exact Sa
 ·have D:=XI h0;have HE:=ak (show sE K s rel=0 from if_neg h0);exact Sa
structure Tg where
 kind:ae
 id:ae
 deriving DecidableEq
def zH(w:af)(v:ag)(cs:List Tg):Prop:=∃g o c,v=aw (some (aC g o)) cs.length c/\g<w.heap.size/\cs.length<=64/\∀i x,cs[i]? =some x->w.cell? (aC g (o+i*2))=some (aj x.kind)/\w.cell? (aC g (o+i*2+1))=some (aj x.id)
def zH.below{cs}(h:zH w v cs)(k:an w w'):zH w' v cs:=by
 obtain ⟨g,o,c,h1,h2,C,A⟩:=h;exact ⟨g,o,c,h1,cM h2 k.size,C,fun i x hi=>⟨(k.cell (p:=⟨g,_,none⟩) h2).trans (A i x hi).1,(k.cell (p:=⟨g,_,none⟩) h2).trans (A i x hi).2⟩⟩
def EP(a c:Tg):Bool:=eqs a.kind c.kind&&eqs a.id c.id
def lh(s:Sj)(t:Tg):Bool:=EP t ⟨s.kind,s.id⟩||((s.id.toList== [42])&&(t.kind.toList==s.kind.toList))
def e9(p:Tg->Bool)(cs:List Tg):Nat->Nat
 |0=>0
 |j+1=>match cs[j]? with
  |some t=>if p t then e9 p cs j|||2 ^ j else e9 p cs j
  |none=>e9 p cs j
def sF(p cs):∀j,j<=64->e9 p cs j<18446744073709551616
 |0,_=>by show 0<18446744073709551616;decide
 |j+1,h=>by
  have A:=sF p cs j ai;have h2:2 ^ j<18446744073709551616:=Nat.pow_lt_pow_right ai (show j<64 by omega);unfold e9
  split
  ·split
   ·exact BT (n:=64) A h2
   exact A
  exact A
def Y4(A:B<18446744073709551616)(C:j<64):Value.int .u64 (bits .or .u64 (B:Int) (IntKind.u64.wrap (2 ^ j)))=.int .u64 ((B|||2 ^ j:Nat):Int):=by
 refine Sb ?_;intro h2 e;rw [e,u64_or_nat _ _ A h2]
def i6(K:Sj->Nat)(cs:List Tg)(s:Sj):Nat:=if s.rel.size=0 then e9 (lh s) cs cs.length else K s
def Ki(a c w):(Op.equalIn 10000 98 (.agg #[aj a.kind,aj a.id]) (.agg #[aj c.kind,aj c.id])).run prog w=.ok (EP a c) w:=by
 have A:=underlying9;rw [show (10000:Nat)=9999+1 from rfl,run_equalIn_agg w 9999 98 _ _ aM aM];simp only [Program.fieldsOf,underlying98]
 go_simp
 refine OU ?_;intro e;simp only [EP,e]
 (repeat' split)<;>simp_all
def guardTh(x y xs ys w):(eqGuard .eql 98 x y (.agg xs) (.agg ys)).run prog w=.ok () w:=run_eqGuard_agg w .eql 98 x y xs ys aM
def Mw(cv cs ha hn hc mb n K s w)(R:rg w mb n K)(ah:zH w cv cs)(hs:nS s):
  Calls prog 243 #[.agg #[cv,aw ha hn hc,.map (some mb)],Ij s] w fun e w'=>e=bj (.int .u64 (i6 K cs s))/\an w w':=by
 obtain ⟨g,o,c,rfl,ac,hl,ag⟩:=ah;have C:=((aA w.heap.size w).alloc aH (.cells #[aw (some (aC g o)) cs.length c,aw ha hn hc,.map (some mb)] 189)).alloc au (bT aj s.kind aj s.id aj s.rel);have ab:=(R.block (C.block mb R.lt)).look hs;unfold Ij at ab ⊢
 by_cases h0:s.rel.size=0
 ·have ap:=XH h0;have I:=ak (show i6 K cs s=e9 (lh s) cs cs.length from if_pos h0);have Y:=aL.new' (w.alloc (.cells #[aw (some (aC g o)) cs.length c,aw ha hn hc,.map (some mb)] 189)) #[aj s.kind,aj s.id,aj s.rel] 102 (w.heap.size+1) au;clear h0 ab R;go_enter func243,ntmps243;go_wp2_with fail;generalize ((w.alloc (.cells #[aw (some (aC g o)) cs.length c,aw ha hn hc,.map (some mb)] 189)).alloc (bT aj s.kind aj s.id aj s.rel))=W at*
  go_loopw [5,18] (fun av V wr=>∃j:Nat,j<=cs.length/\V=ar j/\av=.int .u64 (e9 (lh s) cs j)/\an W wr) (fun _ V _=>cs.length-(intOf V).toNat)
  ·exact ⟨0,ai,rfl,rfl,aA _ _⟩
  obtain ⟨j,ay,rfl,rfl,A⟩:=hrel;obtain ⟨az,aB,aE⟩:=three (Y.below A);have ax:=(Y.below A).lt
  by_cases am:j<cs.length
  ·have al:(j:Int)<(cs.length:Int):=by omega
   obtain ⟨x,U⟩:∃x,cs[j]? =some x:=⟨_,aI am⟩;obtain ⟨ad,ae⟩:=ag j x U;have Q:=C.trans (A.mono C.size);have aF:=(Q.cell (p:=⟨g,_,none⟩) ac).trans ad;have aG:=(Q.cell (p:=⟨g,_,none⟩) ac).trans ae;have af:=fun w'=>Ki x ⟨s.kind,s.id⟩ w'
   have HU:=ak (show e9 (lh s) cs (j+1)=if lh s x then e9 (lh s) cs j|||2 ^ j else e9 (lh s) cs j from by rw [e9];simp only [U]);have HL:=sF (lh s) cs j ai;have Xy:=A.alloc A.size (cP aj x.kind aj x.id);clear ad ae Q A U;dsimp only at af;generalize e9 (lh s) cs j=B at*
   cases D:EP x ⟨s.kind,s.id⟩
   ·cases J:(s.id.toList== [42])
    ·have HU2:=ak (show e9 (lh s) cs (j+1)=B from by rw [HU];simp [lh,D,J]);exact R9
    cases Z:(x.kind.toList==s.kind.toList)
    ·have HU2:=ak (show e9 (lh s) cs (j+1)=B from by rw [HU];simp [lh,D,J,Z]);exact R9
    have HU2:=ak (show e9 (lh s) cs (j+1)=B|||2 ^ j from by rw [HU];simp [lh,D,J,Z]);exact R8
   have HU2:=ak (show e9 (lh s) cs (j+1)=B|||2 ^ j from by rw [HU];simp [lh,D]);exact R8
  have al:¬((j:Int)<(cs.length:Int)):=ai;have e:j=cs.length:=ai;subst e;go_wp2;go_ret;rw [I];exact ⟨rfl,C.trans (A.mono C.size)⟩
 ·have ap:=XI h0;have I:=ak (show i6 K cs s=K s from if_neg h0);clear h0;go_enter func243,ntmps243;go_wp2;go_ret;rw [I];exact ⟨rfl,C⟩
def Kj (h:aD:=by
 simp [jp];omega):aD:=h
def EQ (h:aD:=by
 simp [gO]):aD:=h
def fb(t:Tu):Sj:=⟨t.sub,t.who,t.of⟩
def qP(a b:Nat):Nat:=a&&& (18446744073709551615-b)
structure Sc where
 at_:Nat
 tup:Nat
 st:List Nat
structure Sd where
 K:Sj->Nat
 cs:List Tg
 kd:ae
 id:ae
 ts:List Tu
def jp(v:Sd)(i:Ins)(s:Sc):Option Sc:=
 if 50000<s.st.length then none else
 match i.does,s.st with
 |1,st=>some ⟨s.at_+1,s.tup,0::st⟩
 |2,st=>some ⟨s.at_+1,s.tup,v.K ⟨v.kd,v.id,i.rel⟩::st⟩
 |3,st=>some ⟨if kQ v.ts s.tup i.rel=0 then i.tzo else s.at_+1,kQ v.ts s.tup i.rel,st⟩
 |4,st=>if 0<s.tup then (v.ts[s.tup-1]?).map fun t=>⟨s.at_+1,s.tup,i6 v.K v.cs (fb t)::st⟩ else none
 |5,st=>if 0<s.tup then (v.ts[s.tup-1]?).map fun t=>⟨s.at_+1,s.tup,sE v.K (fb t) i.rel::st⟩ else none
 |6,b::a::st=>some ⟨s.at_+1,s.tup,(b|||a)::st⟩
 |7,b::a::st=>some ⟨s.at_+1,s.tup,(b&&& a)::st⟩
 |8,b::a::st=>some ⟨s.at_+1,s.tup,qP a b::st⟩
 |9,b::st=>some ⟨if b=0 then i.tzo else s.at_+1,s.tup,b::st⟩
 |10,st=>some ⟨i.tzo,s.tup,st⟩
 |_,_=>none
def ER(v:Sd)(code:List Ins)(s:Sc):Option Sc:=(code[s.at_]?).bind fun i=>jp v i s
def hU(v:Sd)(code:List Ins):Nat->Sc->Option Sc
 |0,s=>some s
 |n+1,s=>(ER v code s).bind (hU v code n)
def ES(v code):∀n m s,hU v code (n+m) s=(hU v code n s).bind (hU v code m)
 |0,m,s=>by simp [hU]
 |n+1,m,s=>by
  rw [show n+1+m=(n+m)+1 by omega,hU,hU]
  cases h:ER v code s with
  |none=>rfl
  |some s'=>simp only [Option.bind_some];exact ES v code n m s'
def Goes(v:Sd)(code:List Ins)(s s':Sc):Prop:=∃n,hU v code n s=some s'
variable {code:List Ins}
def Goes.trans{v a b c}(h:Goes v code a b)(k:Goes v code b c):Goes v code a c:=by
 obtain ⟨n,hn⟩:=h;obtain ⟨m,A⟩:=k;exact ⟨n+m,by rw [ES,hn];exact A⟩
def Goes.one{v s s' i}(hi:code[s.at_]? =some i)(h:jp v i s=some s'):Goes v code s s':=⟨1,by
 rw [hU,ER,hi,Option.bind_some,h]
 rfl⟩
def BU:Ex->Prop
 |⟨_,some x,some y⟩=>BU x/\BU y
 |⟨_,none,_⟩=>True
 |⟨_,some _,none⟩=>False
def jq(ts:List Tu)(r:ae)(f:Tu->Nat)(a:Nat):Nat:=(ts.filter fun t=>decide (t.rel=r)).foldl (fun a t=>f t|||a) a
def ed(v:Sd)(rel:ae):Ex->Nat
 |⟨n,some x,some y⟩=>if n.kind=3 then ed v rel y|||ed v rel x else if ed v rel x=0 then 0 else if n.kind=4 then ed v rel y&&& ed v rel x else qP (ed v rel x) (ed v rel y)
 |⟨n,none,_⟩=>if n.kind=0 then jq v.ts rel (fun t=>i6 v.K v.cs (fb t)) 0 else if n.kind=1 then v.K ⟨v.kd,v.id,n.n1⟩ else jq v.ts n.n1 (fun t=>sE v.K (fb t) n.n2) 0
 |⟨_,some _,none⟩=>0
def zI{α:Type}{p:α->Bool}:∀{l:List α} {i:Nat},l.findIdx? p=some i->∃x,l[i]? =some x/\l.filter p=x::(l.drop (i+1)).filter p
 | [],i,h=>by simp at h
 |y::l,i,h=>by
  rw [List.findIdx?_cons] at h
  by_cases A:p y=true
  ·rw [if_pos A] at h
   cases h
   exact ⟨y,rfl,by rw [List.filter_cons_of_pos A];rfl⟩
  rw [if_neg A] at h
  cases hl:l.findIdx? p with
  |none=>rw [hl] at h;simp at h
  |some j=>
   rw [hl] at h;simp only [Option.map_some,aR] at h;subst h;obtain ⟨x,h1,h2⟩:=zI hl;exact ⟨x,h1,by rw [List.filter_cons_of_neg A,h2];rfl⟩
def Mx{ts r f}:(kQ ts k r=0->jq (ts.drop k) r f a=a)/\(∀m,kQ ts k r=m+1->k<=m/\∃t,ts[m]? =some t/\jq (ts.drop k) r f a=jq (ts.drop (m+1)) r f (f t|||a)):=by
 unfold kQ
 cases h:(ts.drop k).findIdx? (fun t=>decide (t.rel=r)) with
 |none=>
  refine ⟨fun _=> ?_,fun m A=>by simp at A⟩;rw [pj] at h;unfold jq;rw [List.filter_eq_nil_iff.2 (fun x D=>by simpa using h x D)]
  rfl
 |some i=>
  refine ⟨fun h0=>by simp at h0,fun m A=> ?_⟩;have C:m=k+i:=by simp at A;omega
  subst C;obtain ⟨x,h1,h2⟩:=zI h;rw [ru] at h1;refine ⟨ai,x,h1,?_⟩;unfold jq;rw [h2,m5,List.foldl_cons,vr]
def Se(ts k r):kQ ts k r<=ts.length:=by
 unfold kQ
 split
 ·rename_i i h;have:=(kV.1 h).1;simp at this;omega
 omega
section
variable {v:Sd}{code:List Ins}
def My(m r each f st)(Y:st.length<40000)(h1:code[m+1]? =some ⟨3,r,m+5⟩)(h2:code[m+2]? =some each)(C:code[m+3]? =some ⟨6,⟨#[]⟩,0⟩)(D:code[m+4]? =some ⟨10,⟨#[]⟩,m+1⟩)(J:∀k t a,0<k->v.ts[k-1]? =some t->jp v each ⟨m+2,k,a::st⟩=some ⟨m+3,k,f t::a::st⟩):
  ∀d k a,v.ts.length-k=d->k<=v.ts.length->Goes v code ⟨m+1,k,a::st⟩ ⟨m+5,0,jq (v.ts.drop k) r f a::st⟩:=by
 intro d
 induction d using Nat.strongRecOn with
 |_ d ih=>
  intro k a Q R;have G:=Mx (ts:=v.ts) (r:=r) (f:=f) (k:=k) (a:=a)
  cases hn:kQ v.ts k r with
  |zero=>
   rw [G.1 hn];exact Goes.one h1 (by simp [jp,hn];omega)
  |succ q=>
   obtain ⟨U,t,A,I⟩:=G.2 q hn;have V:=(bD.1 A).1;rw [I];refine (Goes.one (s':=⟨m+2,q+1,a::st⟩) h1 (by simp [jp,hn];omega)).trans ?_;refine (Goes.one h2 (J (q+1) t a ai (by simpa using A))).trans ?_;refine (Goes.one (s':=⟨m+4,q+1,(f t|||a)::st⟩) C Kj).trans ?_;refine (Goes.one (s':=⟨m+1,q+1,(f t|||a)::st⟩) D Kj).trans ?_;exact ih (v.ts.length-(q+1)) ai (q+1) _ rfl ai
def Seg(code:List Ins)(m:Nat)(l:List Ins):Prop:=∀i,i<l.length->code[m+i]? =l[i]?
def Seg.left{l1 l2}(h:Seg code m (l1++l2)):Seg code m l1:=fun i hi=>by
 rw [h i JS,nu hi]
def Seg.right{l1 l2}(h:Seg code m (l1++l2)):Seg code (m+l1.length) l2:=fun i hi=>by
 rw [vr,h (l1.length+i) JS,nv ai]
 congr 1
 omega
def Seg.head{x l}(h:Seg code m (x::l)):code[m]? =some x:=by simpa using h 0 au
def lI(rel):∀(e:Ex),BU e->∀(m:Nat)(st:List Nat),Seg code m (bq rel m e)->st.length+(bq rel m e).length<40000->Goes v code ⟨m,0,st⟩ ⟨m+(bq rel m e).length,0,ed v rel e::st⟩
 |⟨n,some x,some y⟩,hw,m,st,hc,hl=>by
  unfold BU at hw;obtain ⟨U,V⟩:=hw;unfold bq at hc hl ⊢;unfold ed
  by_cases A:n.kind=3
  ·rw [if_pos A] at hc hl;rw [if_pos A,if_pos A];simp only [bg,List.length_singleton] at hl ⊢;have X:=lI rel x U m st hc.left.left ai;have I:=lI rel y V (m+(bq rel m x).length) (ed v rel x::st) hc.left.right aS;have C:=hc.right.head;rw [bg] at C;refine X.trans (I.trans ?_);rw [show m+((bq rel m x).length+(bq rel (m+(bq rel m x).length) y).length+1)=m+(bq rel m x).length+(bq rel (m+(bq rel m x).length) y).length+1 by omega];exact Goes.one (by rw [vr];exact C) Kj
  rw [if_neg A] at hc hl;rw [if_neg A,if_neg A];simp only [bg,List.length_singleton] at hl ⊢;have X:=lI rel x U m st hc.left.left.left ai;have S:=hc.left.left.right.head;have R:=hc.left.right;rw [bg,List.length_singleton,<-vr] at R;have I:=lI rel y V (m+(bq rel m x).length+1) (ed v rel x::st) R aS;have C:=hc.right.head;simp only [bg,List.length_singleton] at C;refine X.trans ?_
  by_cases h0:ed v rel x=0
  ·rw [if_pos h0];refine Goes.one S ?_;simp [jp,h0];omega
  rw [if_neg h0];refine (Goes.one (s':=⟨m+(bq rel m x).length+1,0,ed v rel x::st⟩) S (by simp [jp,h0];omega)).trans (I.trans ?_);rw [show m+((bq rel m x).length+1+(bq rel (m+(bq rel m x).length+1) y).length+1)=m+(bq rel m x).length+1+(bq rel (m+(bq rel m x).length+1) y).length+1 by omega];refine Goes.one (by rw [show m+(bq rel m x).length+1+(bq rel (m+(bq rel m x).length+1) y).length=m+((bq rel m x).length+1+(bq rel (m+(bq rel m x).length+1) y).length) by omega];exact C) ?_
  by_cases D:n.kind=4
  ·simp [jp,D];omega
  simp [jp,D];omega
 |⟨n,none,r⟩,hw,m,st,hc,hl=>by
  unfold bq at hc hl ⊢;unfold ed;have Y:∀(r:ae)(each:Ins)(f:Tu->Nat),Seg code m (gO m r each)->st.length+5<40000->(∀k t a,0<k->v.ts[k-1]? =some t->jp v each ⟨m+2,k,a::st⟩=some ⟨m+3,k,f t::a::st⟩)->Goes v code ⟨m,0,st⟩ ⟨m+5,0,jq v.ts r f 0::st⟩:=by
   intro r each f hs hl Z;have h0:=hs 0 EQ;have h1:=hs 1 EQ;have h2:=hs 2 EQ;have A:=hs 3 EQ;have D:=hs 4 EQ;refine (Goes.one (s':=⟨m+1,0,0::st⟩) h0 Kj).trans ?_;exact My m r each f st ai h1 h2 A D Z _ 0 0 rfl ai
  by_cases h0:n.kind=0
  ·rw [if_pos h0] at hc hl;rw [if_pos h0,if_pos h0];exact Y rel ⟨4,⟨#[]⟩,0⟩ _ hc (by simpa [gO] using hl) (fun k t a J Q=>by simp [jp,J,Q];simp [gO] at hl;omega)
  rw [if_neg h0] at hc hl;rw [if_neg h0,if_neg h0]
  by_cases h1:n.kind=1
  ·rw [if_pos h1] at hc hl;rw [if_pos h1,if_pos h1];exact Goes.one hc.head (by simp at hl;simp [jp];omega)
  rw [if_neg h1] at hc hl;rw [if_neg h1,if_neg h1];exact Y n.n1 ⟨5,n.n2,0⟩ _ hc (by simpa [gO] using hl) (fun k t a J Q=>by simp [jp,J,Q];simp [gO] at hl;omega)
 |⟨n,some x,none⟩,hw,m,st,hc,hl=>by
  unfold BU at hw;exact hw.elim
def Mz(rel e)(A:BU e)(h:(bq rel 0 e).length<40000):Goes v (gE rel e) ⟨0,0,[]⟩ ⟨(bq rel 0 e).length,0,[ed v rel e]⟩:=by
 have:=lI (v:=v) (code:=gE rel e) rel e A 0 [] (fun i hi=>by unfold gE;rw [pH,nu hi]) (by simpa using h)
 simpa using this
def Sf(rel e):(gE rel e)[(bq rel 0 e).length]? =some ⟨0,⟨#[]⟩,0⟩:=by
 unfold gE;rw [nv ai];simp
end
section
def Kk (h:aD:=by
 simp at hsl ⊢;omega):aD:=h
def ET (h:aD:=by
 simpa using hs):aD:=h
def nT (h:aD:=by
 exact ⟨rfl,r,ai,_,_,_,_,HIT,rfl,rfl,J1⟩):aD:=h
def qQ{P:Nat->Prop}(h:∃r,P r):∃r,P r/\∀A,A<r->¬P A:=by
 obtain ⟨r,C⟩:=h
 induction r using Nat.strongRecOn with
 |_ r ih=>
  by_cases h:∃A,A<r/\P A
  ·obtain ⟨A,h1,h2⟩:=h;exact ih A h1 h2
  exact ⟨r,C,fun A h1 h2=>h ⟨A,h1,h2⟩⟩
open Classical in
def EU{a:Act}{Q:Exit->Act->af->Prop}{c rest:Code}(l:Nat)(C:Nat->Act->af->Prop)(R:findLabel c l=some (.seq .skip rest))
  (J:∀r a w,C r a w->rest.wp P (Exit.jump l (fun a' w'=>∃A,A<r/\C A a' w') Q) a w)
  (first:(∀r a w,C r a w->rest.wp P (Exit.jump l (fun a w=>∃r,C r a w) Q) a w)->c.wp P (Exit.jump l (fun a w=>∃r,C r a w) Q) a w):(Code.scope c).wp P Q a w:=by
 refine wp_scope_jumps l (fun a w=>∃r,C r a w) (fun a w=>if h:∃r,C r a w then Classical.choose (qQ h) else 0) R (first fun r a w h=>wp_mono (J r a w h) (fun e a' w' q=>by
  cases e<;>try exact q
  obtain ⟨h1,A,_,D⟩:=q;exact ⟨h1,A,D⟩)) ?_
 intro a w h;have hs:=Classical.choose_spec (qQ h);refine wp_seq (wp_skip ?_);refine wp_mono (J _ a w hs.1) (fun e a' w' q=> ?_)
 cases e<;>try exact q
 obtain ⟨h1,A,h2,D⟩:=q;refine ⟨h1,⟨A,D⟩,?_⟩;have I:∃r,C r a' w':=⟨A,D⟩;rw [dif_pos I,dif_pos h];have U:=Classical.choose_spec (qQ I);have:¬A<Classical.choose (qQ I):=fun e=>U.2 A e D
 omega
structure ya(w:af)(ca ha ta:Option Addr)(cn cc hn hc tn tc mb:Nat)(v:Sd)(s:Sc)(sv:ag)(wr:af):Prop where
 bel:an w wr
 kn:aL wr w.heap.size #[aw ca cn cc,aw ha hn hc,.map (some mb)] 189
 ho:aL wr (w.heap.size+1) #[aj v.kd,aj v.id,aw ta tn tc] 282
 sk:Mv w.heap.size wr (w.heap.size+2) sv s.st.reverse
 tup:s.tup<=v.ts.length
 bits:∀x∈s.st,x<18446744073709551616
def us94(us)(h:us.length=94):∃u:Nat->ag,us=[u 0,u 1,u 2,u 3,u 4,u 5,u 6,u 7,u 8,u 9,u 10,u 11,u 12,u 13,u 14,u 15,u 16,u 17,u 18,u 19,u 20,u 21,u 22,u 23,u 24,u 25,u 26,u 27,u 28,u 29,u 30,u 31,u 32,u 33,u 34,u 35,u 36,u 37,u 38,u 39,u 40,u 41,u 42,u 43,u 44,u 45,u 46,u 47,u 48,u 49,u 50,u 51,u 52,u 53,u 54,u 55,u 56,u 57,u 58,u 59,u 60,u 61,u 62,u 63,u 64,u 65,u 66,u 67,u 68,u 69,u 70,u 71,u 72,u 73,u 74,u 75,u 76,u 77,u 78,u 79,u 80,u 81,u 82,u 83,u 84,u 85,u 86,u 87,u 88,u 89,u 90,u 91,u 92,u 93]:=by
 refine ⟨fun k=>us.getD k undef,?_⟩;have e:us=(List.range 94).map (fun k=>us.getD k undef):=by
  refine List.ext_getElem (by simp [h]) fun i h1 h2=> ?_
  simp [ey,aI h1]
 generalize (fun k=>us.getD k undef)=u at*;rw [e]
 rfl
def Uk(w:af)(ca h ha ta:Option Addr)(cn cc il A hn hc tn tc mb:Nat)(v:Sd)(s:Sc)(C:ag)(us:List ag):Act:={tmps:=(.agg #[aw ca cn cc,aw ha hn hc,.map (some mb)]::aw h il A:: .agg #[aj v.kd,aj v.id,aw ta tn tc]::bc w.heap.size::C::bc (w.heap.size+1):: .int .u64 0::bc (w.heap.size+2)::ar s.at_::ar s.tup::us).toArray,defers:=[]}
variable {base:Nat}
def Mv.bel{C:ag}{l:List Nat}(h:Mv base w b sv l)(k:ol b sv w w' C):Below base w w':=by
 exact PH
section
variable {w wr wa w1:af}{ca ha ta:Option Addr}{cn cc hn hc tn tc mb:Nat}{v:Sd}{s s':Sc}{sv xM:ag}
def ya.below(h:ya w ca ha ta cn cc hn hc tn tc mb v s sv wr)(k:an wr wa):ya w ca ha ta cn cc hn hc tn tc mb v s sv wa:=
 ⟨h.bel.trans (k.mono h.bel.size),h.kn.below k,h.ho.below k,h.sk.below k,h.tup,h.bits⟩
def ya.push(A:ya w ca ha ta cn cc hn hc tn tc mb v s sv wa)(f:ol (w.heap.size+2) sv wa w1 xM)(hs:Mv w.heap.size w1 (w.heap.size+2) xM s'.st.reverse)(D:s'.tup<=v.ts.length)(C:∀x∈s'.st,x<18446744073709551616):ya w ca ha ta cn cc hn hc tn tc mb v s' xM w1:=
 ⟨A.bel.trans (A.sk.bel f),f.blk A.kn ai (fun e=>own_ne A.sk.row A.kn ay e.symm),f.blk A.ho ai (fun e=>own_ne A.sk.row A.ho ay e.symm),hs,D,C⟩
def ya.same(h:ya w ca ha ta cn cc hn hc tn tc mb v s sv wa)(hs:s'.st=s.st)(A:s'.tup<=v.ts.length):ya w ca ha ta cn cc hn hc tn tc mb v s' sv wa:=
 ⟨h.bel,h.kn,h.ho,by rw [hs];exact h.sk,A,by rw [hs];exact h.bits⟩
end
def zH.most{x cs}(h:zH w x cs):cs.length<=64:=by
 obtain ⟨_,_,_,_,_,h,_⟩:=h;exact h
def EV{K cs}(h:∀s,K s<18446744073709551616)(A:cs.length<=64)(s):i6 K cs s<18446744073709551616:=by
 unfold i6
 split
 ·exact sF _ _ _ A
 exact h s
def Sg{K}(h:∀s,K s<18446744073709551616)(s rel):sE K s rel<18446744073709551616:=by
 unfold sE
 split
 ·exact h _
 decide
def zJ(n):IntKind.i64.wrap n=(n+9223372036854775808) % 18446744073709551616-9223372036854775808:=by
 simp [IntKind.wrap,IntKind.bits,IntKind.signed]
 split<;>omega
def Si(ha:a<18446744073709551616)(h:b<18446744073709551616):bits .andNot .u64 (a:Int) (b:Int)=((qP a b:Nat):Int):=u64_andNot_nat a b ha h
def Kl(ha:a<18446744073709551616):qP a b<18446744073709551616:=Nat.lt_of_le_of_lt Nat.and_le_left ha
structure Z3(w:af)(ca ia ha ta:Option Addr)(cn cc il ic hn hc tn tc mb n:Nat)(v:Sd)(code:List Ins):Prop where
 kn:rg w mb n v.K
 cr:zH w (aw ca cn cc) v.cs
 ln:w.ownsRow 0 298 3 (aw ia il ic) code.length (code.flatMap JO)
 ho:VV w (aw ta tn tc) v.ts
 pos:0<v.ts.length
 bits:∀s,v.K s<18446744073709551616
 kd:v.kd.size<=maxLen
 id:v.id.size<=maxLen
 rel:∀i∈code,i.rel.size<=maxLen
 sub:∀t∈v.ts,nS (fb t)
 len:code.length<=100000
def MA(w ca ia ha ta cn cc il ic hn V tn tc mb n v code)(h:Z3 w ca ia ha ta cn cc il ic hn V tn tc mb n v code)(p res)(bg:Goes v code ⟨0,0,[]⟩ ⟨p,0,[res]⟩)(a2:code[p]? =some ⟨0,⟨#[]⟩,0⟩):
  Calls prog 207 #[.agg #[aw ca cn cc,aw ha hn V,.map (some mb)],aw ia il ic,.agg #[aj v.kd,aj v.id,aw ta tn tc]] w fun e w'=>e=bj (.int .u64 res)/\an w w':=by
 go_enter func207,ntmps207;go_wp2;refine EU 0 (fun r a wr=>∃(s:Sc)(sv a5:ag)(us:List ag),hU v code r s=some ⟨p,0,[res]⟩/\us.length=94/\a=Uk w ca ia ha ta cn cc il ic hn V tn tc mb v s a5 us/\ya w ca ha ta cn cc hn V tn tc mb v s sv wr) rfl ?pass ?first
 case pass=>
  rintro r a wr ⟨s,sv,a5,us,U,bk,rfl,A⟩;obtain ⟨u,rfl⟩:=us94 us bk;obtain ⟨i,hi⟩:∃i,code[s.at_]? =some i:=by
   cases r with
   |zero=>simp only [hU,aR] at U;subst U;exact ⟨_,a2⟩
   |succ r=>
    rw [hU,ER] at U
    cases V:code[s.at_]? with
    |none=>rw [V] at U;simp at U
    |some i=>exact ⟨i,rfl⟩
  obtain ⟨aU,bN,e1,V⟩:=bo JO 3 (fun _=>rfl) (aB h.ln A.bel) s.at_ i hi;simp only [aK] at e1;obtain ⟨rfl,rfl,rfl⟩:=e1;have bx:=(bD.1 hi).1;have k0:wr.cell? (aC aU (s.at_*3))=some (ar i.does):=V 0 _ ai rfl;have k1:=V 1 _ ai rfl;have aI:=V 2 _ ai rfl;have bB:=h.len;have bA:(s.at_:Int)<(code.length:Int):=ai;have bz:s.at_<100000:=ai;have bL:=A.bel.size;have HIT:=U;have R:=(aA wr.heap.size wr).alloc aH (.cells #[ar i.does,aj i.rel,ar i.tzo] 298);have aM:=aL.new wr #[ar i.does,aj i.rel,ar i.tzo] 298;clear V U
  cases r with
  |zero=>
   simp only [hU,aR] at HIT;subst HIT;have aQ:=hi;rw [a2] at aQ;simp only [aR] at aQ;subst aQ;dsimp only at*;have C:=sD w.heap.size (w.heap.size+2) sv [] res _ (show Mv w.heap.size _ _ sv ([]++[res]) from A.sk.below R) au;unfold Uk;go_wp2_with fail;refine C.mono ?_;rintro e w1 ⟨v',rfl,I,hs⟩;have a6:=I;clear I hs;go_wp2;simp only [Exit.jump];go_ret;refine ⟨rfl,?_⟩;exact ((A.below R).bel.trans ((A.below R).sk.bel a6))
  |succ r=>
   obtain ⟨s',D,U⟩:∃s',jp v i s=some s'/\hU v code r s'=some ⟨p,0,[res]⟩:=by
    have U:=HIT;rw [hU,ER,hi,Option.bind_some] at U
    cases hs:jp v i s with
    |none=>rw [hs] at U;simp at U
    |some s'=>rw [hs] at U;exact ⟨s',rfl,U⟩
   clear HIT;have HIT:=U;clear U;unfold jp at D
   split at D
   ·cases D
   rename_i hsl;obtain ⟨d,rl,tzo⟩:=i;obtain ⟨at_,tup,st⟩:=s;dsimp only at*;obtain ⟨c0,c1,c2⟩:=three A.kn;obtain ⟨d0,d1,d2⟩:=three A.ho;have e0:wr.cell? (aN (w.heap.size+2))=some sv:=A.sk.blk.cell rfl;have bP:=A.sk.blk.lt;have bO:¬(w.heap.size=wr.heap.size):=ai;have n1:¬(w.heap.size+1=wr.heap.size):=ai;have n2:¬(w.heap.size+2=wr.heap.size):=ai;have Z:=A.bits;have K0:=k0;have K1:=k1;have a9:=aI
   split at D
   ·simp only [aR] at D;subst D;have C:=qO w.heap.size (w.heap.size+2) sv st.reverse 0 _ (A.sk.below R) aS;unfold Uk;go_wp2_with fail;refine C.mono ?_;rintro e w1 ⟨v',rfl,I,hs⟩;have J1:=ya.push (s':=⟨at_+1,tup,0::st⟩) (A.below R) I ET A.tup (fun x J=>by rcases cG.1 J with rfl|J;(· decide);exact Z x J);clear I hs;go_wp2
    go_step3
    exact nT
   ·simp only [aR] at D;subst D;have ak:an wr (wr.alloc (.cells #[ar 2,aj rl,ar tzo] 298)):=R;have Q:=A.below ak;have a0:=(h.kn.block (Q.bel.block mb h.kn.lt)).look (s:=⟨v.kd,v.id,rl⟩) ⟨h.kd,h.id,h.rel _ (bG hi)⟩;have bc:=h.bits ⟨v.kd,v.id,rl⟩;unfold Ij at a0;dsimp only at a0;obtain ⟨f0,f1,f2⟩:=three Q.kn;obtain ⟨g0,aZ,aP⟩:=three Q.ho;have C:=qO w.heap.size (w.heap.size+2) sv st.reverse (v.K ⟨v.kd,v.id,rl⟩) _ Q.sk aS;clear ak Q;unfold Uk;go_wp2_with fail;refine C.mono ?_;rintro e w1 ⟨v',rfl,I,hs⟩;have J1:=ya.push (s':=⟨at_+1,tup,v.K ⟨v.kd,v.id,rl⟩::st⟩) (A.below R) I ET A.tup (fun x J=>by rcases cG.1 J with rfl|J;(· exact bc);exact Z x J);clear I hs;go_wp2
    go_step3
    exact nT
   ·simp only [aR] at D;subst D;have ak:an wr (wr.alloc (.cells #[ar 3,aj rl,ar tzo] 298)):=R;have Q:=A.below ak;obtain ⟨g0,aZ,aP⟩:=three Q.ho;have nb:=aL.new wr #[ar 3,aj rl,ar tzo] 298;have C:=R5 v.kd v.id rl (aw ta tn tc) v.ts tup _ (h.ho.below Q.bel) h.pos A.tup;have aG:=Se v.ts tup rl;generalize kQ v.ts tup rl=m at*;have av:=Q;clear Q ak;unfold Uk;go_wp2_with fail;refine C.mono ?_;rintro e w1 ⟨rfl,al⟩;obtain ⟨bn,bp,bq⟩:=three (nb.below al);clear nb C
    by_cases ac:m=0
    ·have aT:((m:Int)==0)=true:=by rw [ac];rfl
     have J1:=ya.same (s':=⟨tzo,m,st⟩) (av.below al) rfl aG;rw [if_pos ac] at HIT;clear ac al av aG;go_wp2
     go_step3
     exact nT
    have aT:((m:Int)==0)=false:=by simpa using ac
    have J1:=ya.same (s':=⟨at_+1,m,st⟩) (av.below al) rfl aG;rw [if_neg ac] at HIT;clear ac al av aG;go_wp2
    go_step3
    exact nT
   iterate 2
    ·split at D
     ·rename_i bI;obtain ⟨m,rfl⟩:∃m,tup=m+1:=⟨tup-1,ai⟩;rw [show m+1-1=m by omega] at D
      cases ah:v.ts[m]? with
      |none=>rw [ah] at D;cases D
      |some t=>
       rw [ah] at D;simp only [Option.map_some,aR] at D;subst D;have a3:=h.sub t (bG ah);obtain ⟨aJ,b3,aY,aF⟩:=bo kX 6 (fun _=>rfl) h.ho.row m t ah;simp only [aK] at aY;obtain ⟨rfl,rfl,rfl⟩:=aY;have t3:=aF 3 _ ai rfl;have t4:=aF 4 _ ai rfl;have t5:=aF 5 _ ai rfl;have bE:=(bD.1 ah).1;have bF:(m:Int)<(v.ts.length:Int):=ai;have ac:(0:Int)<=(m:Int):=ai;have bH:=h.ho.most;have bK:IntKind.i64.wrap (m:Int)=(m:Int):=by rw [zJ];omega
       have bJ:IntKind.i64.wrap ((m:Int)+1-1)=(m:Int):=by rw [zJ];omega
       simp only [Int.cast_ofNat_Int] at R aM K0;have Q:=A.below R;have bh:=h.rel _ (bG hi)
       first
       |change Hid (hU v code r ⟨at_+1,m+1,i6 v.K v.cs (fb t)::st⟩=some ⟨p,0,[res]⟩) at HIT
        have az:=EV h.bits h.cr.most (fb t);have ap:=fun w' (k:an w w')=>Mw _ v.cs ha hn V mb n v.K (fb t) w' (h.kn.block (k.block mb h.kn.lt)) (h.cr.below k) a3
        generalize i6 v.K v.cs (fb t)=X at HIT az ap
       |change Hid (hU v code r ⟨at_+1,m+1,sE v.K (fb t) rl::st⟩=some ⟨p,0,[res]⟩) at HIT
        have az:=Sg h.bits (fb t) rl;have ap:=fun w' (k:an w w')=>Il ca ha cn cc hn V mb n v.K (fb t) rl w' (h.kn.block (k.block mb h.kn.lt)) a3 bh
        generalize sE v.K (fb t) rl=X at HIT az ap
       have bi:=A.tup;clear R aF ah k0 k1 aI c0 c1 c2 d0 d1 d2 e0;have k1:wr.cell? (aC aU (at_*3+1))=some (aj rl):=K1;have aI:wr.cell? (aC aU (at_*3+2))=some (ar tzo):=a9;unfold Uk;go_wp2_with fail;generalize wr.alloc _=aO at*;clear K0 k1 aI;obtain ⟨f0,f1,f2⟩:=three Q.kn;obtain ⟨g0,aZ,aP⟩:=three Q.ho;obtain ⟨i0,bl,bM⟩:=three aM;have bu:=am t3 Q.bel;have bv:=am t4 Q.bel;have bw:=am t5 Q.bel;have bC:=Q.bel.size;have a7:=ap aO.drew Q.bel.drew
       go_region_held3 (fun w'=>w'.cell? (aN w.heap.size)=some (aw ca cn cc)/\w'.cell? (aC w.heap.size 1)=some (aw ha hn V)/\w'.cell? (aC w.heap.size 2)=some (.map (some mb))/\w'.cell? (aC (w.heap.size+1) 2)=some (aw (some (aN aJ)) v.ts.length tc)/\w'.cell? (aC aJ (m*6+3))=some (aj t.sub)/\w'.cell? (aC aJ (m*6+4))=some (aj t.who)/\w'.cell? (aC aJ (m*6+5))=some (aj t.of)/\w'.cell? (aC wr.heap.size 1)=some (aj rl)) (go_keep)
        (first
        |((first|go_at_call 243|go_at_call 244);refine a7.mono ?_;rintro e aW ⟨rfl,a1⟩;have Y:=(show an aO aW from (aA _ aO).drew.trans a1);have bn:=am f0 Y;have bp:=am f1 Y;have bq:=am f2 Y;have bX:=am aP Y;have bY:=am bu Y;have bZ:=am bv Y;have b0:=am bw Y;have b2:=am bl Y;clear a1)
        |(go_at_call 241;refine (qO w.heap.size (w.heap.size+2) sv st.reverse X _ (Q.below Y).sk aS).mono ?_;rintro e bt ⟨v',rfl,I,hs⟩;have aV:=Q.below Y;have ad:=ya.push (s':=⟨at_+1,m+1,X::st⟩) aV I ET bi (fun x J=>by rcases cG.1 J with rfl|J;(· exact az);exact Z x J);have nb:=aM.below Y;have a4:=I.blk nb ai (fun e=>own_ne aV.sk.row nb ay e.symm);obtain ⟨bR,p1,p2⟩:=three ad.kn;have bS:=(three ad.ho).2.2;have bT:=am t3 ad.bel;have bU:=am t4 ad.bel;have bV:=am t5 ad.bel;have bW:=(three a4).2.1;have J1:=ad;clear I hs aV ad nb a4))
       all_goals (
        go_wp2
        go_step3
        exact ⟨rfl,r,ai,_,_,_,_,HIT,rfl,rfl,J1⟩)
     cases D
   iterate 3
    ·rename_i b a st;simp only [aR] at D;subst D;have aE:=Z b au;have ha:=Z a au
     first
     |change Hid (hU v code r ⟨at_+1,tup,(b|||a)::st⟩=some ⟨p,0,[res]⟩) at HIT
      have ab:=u64_or_nat b a aE ha;have af:=BT (n:=64) aE ha;generalize (b|||a)=y at HIT ab af
     |change Hid (hU v code r ⟨at_+1,tup,(b&&& a)::st⟩=some ⟨p,0,[res]⟩) at HIT
      have ab:=u64_and_nat b a aE ha;have af:=Nat.and_lt_two_pow (n:=64) b ha;generalize (b&&& a)=y at HIT ab af
     |change Hid (hU v code r ⟨at_+1,tup,(qP a b)::st⟩=some ⟨p,0,[res]⟩) at HIT
      have ab:=Si ha aE;have af:=Kl (b:=b) ha;generalize (qP a b)=y at HIT ab af
     have C:=sD w.heap.size (w.heap.size+2) sv (st.reverse++[a]) b _ (by simpa using A.sk.below R) Kk;unfold Uk;go_wp2_with fail;refine C.mono ?_;rintro e w1 ⟨v1,rfl,I,hs⟩;have J1:=ya.push (s':=⟨at_+1,tup,a::st⟩) (A.below R) I ET A.tup (fun x J=>Z x (List.mem_cons_of_mem _ J));have aX:=sD w.heap.size (w.heap.size+2) v1 st.reverse a _ hs Kk;clear I hs C;go_wp2_with fail;refine aX.mono ?_;rintro e aW ⟨bs,rfl,I,hs⟩;have a8:=ya.push (s':=⟨at_+1,tup,st⟩) J1 I hs A.tup (fun x J=>Z x (List.mem_cons_of_mem _ (List.mem_cons_of_mem _ J)));have c3:=qO w.heap.size (w.heap.size+2) bs st.reverse y aW hs Kk;rw [<-ab] at c3;clear I hs aX J1 ab;go_wp2_with fail;refine c3.mono ?_;rintro e bt ⟨b4,rfl,I,hs⟩;have J1:=ya.push (s':=⟨at_+1,tup,y::st⟩) a8 I ET A.tup (fun x J=>by rcases cG.1 J with rfl|J;(· exact af);exact Z x (List.mem_cons_of_mem _ (List.mem_cons_of_mem _ J)));clear I hs;go_wp2
     go_step3
     exact nT
   ·rename_i b st;simp only [aR] at D;subst D;obtain ⟨sa,sc,rfl⟩:=ax A.sk.row;have C:=RX w.heap.size (w.heap.size+2) _ st.reverse b _ (by simpa using A.sk.below R) Kk
    by_cases ae:b=0
    ·have aT:((b:Int)==0)=true:=by rw [ae];rfl
     have J1:=ya.same (s':=⟨if b=0 then tzo else at_+1,tup,b::st⟩) (A.below R) rfl A.tup;rw [if_pos ae] at HIT J1;clear ae;unfold Uk;go_wp2_with fail;refine C.mono ?_;rintro e w1 ⟨rfl,rfl⟩;go_wp2
     go_step3
     exact nT
    have aT:((b:Int)==0)=false:=by simpa using ae
    have J1:=ya.same (s':=⟨if b=0 then tzo else at_+1,tup,b::st⟩) (A.below R) rfl A.tup;rw [if_neg ae] at HIT J1;clear ae;unfold Uk;go_wp2_with fail;refine C.mono ?_;rintro e w1 ⟨rfl,rfl⟩;go_wp2
    go_step3
    exact nT
   ·simp only [aR] at D;subst D;have J1:=ya.same (s':=⟨tzo,tup,st⟩) (A.below R) rfl A.tup;unfold Uk;go_wp2
    go_step3
    exact nT
   cases D
 case first=>
  intro pass;go_wp2
  go_step3
  obtain ⟨N,be⟩:=bg;rename_i K bb;refine bb _ _ (pass N _ _ ⟨⟨0,0,[]⟩,aw none 0 0,_,_,be,?_,rfl,?_⟩)
  ·rfl
  have b1:=(aA w.heap.size w).alloc aH (.cells #[aw ca cn cc,aw ha hn V,.map (some mb)] 189);have ba:=b1.alloc au (.cells #[aj v.kd,aj v.id,aw ta tn tc] 282);refine ⟨ba.alloc aS _,((aL.new w _ _).alloc _).alloc _,(aL.new' _ _ _ _ au).alloc _,⟨aL.new' _ _ _ _ au,bQ,ai⟩,gS _,fun x J=>by cases J⟩
end
variable {code:List Ins}
def Z3.below{ca ia ha ta il ic hn hc tn tc mb v}(h:Z3 w ca ia ha ta cn cc il ic hn hc tn tc mb n v code)(k:an w w'):Z3 w' ca ia ha ta cn cc il ic hn hc tn tc mb n v code:=
 ⟨h.kn.block (k.block mb h.kn.lt),h.cr.below k,aB h.ln k,h.ho.below k,h.pos,h.bits,h.kd,h.id,h.rel,h.sub,h.len⟩
def Y5(mb n:Nat)(K:Sj->Nat)(s:Sj)(X:Nat)(w:af)(e:Ending)(w':af):Prop:=
 bK (fun k=>k=mb) w w'/\((X=K s/\e=bj (.bool false)/\rg w' mb n K)\/(X≠K s/\e=bj (.bool true)/\rg w' mb (n+1) (mU K s X)))
def ME(w ca ia ha ta cn cc il ic hn hc tn tc mb n v knd rel ex)(h:Z3 w ca ia ha ta cn cc il ic hn hc tn tc mb n v (gE rel ex))(ah:BU ex)(af:(bq rel 0 ex).length<40000)(hrel:rel.size<=maxLen)(ac:ed v rel ex<18446744073709551616)(ag:n<maxLen):
  Calls prog 149 #[.agg #[aw ca cn cc,aw ha hn hc,.map (some mb)],.agg #[aj knd,aj rel,aw ia il ic],.agg #[aj v.kd,aj v.id,aw ta tn tc]] w (Y5 mb n v.K ⟨v.kd,v.id,rel⟩ (ed v rel ex) w):=by
 have V:nS ⟨v.kd,v.id,rel⟩:=⟨h.kd,h.id,hrel⟩;have ab:=Mz (v:=v) rel ex ah af;generalize ed v rel ex=X at*;have A:an w ((((w.alloc (.cells #[aw ca cn cc,aw ha hn hc,.map (some mb)] 189)).alloc (.cells #[aj knd,aj rel,aw ia il ic] 201)).alloc (.cells #[aj v.kd,aj v.id,aw ta tn tc] 282)).alloc (bT aj v.kd aj v.id aj rel)):=((((aA w.heap.size w).alloc aH (.cells #[aw ca cn cc,aw ha hn hc,.map (some mb)] 189)).alloc au (.cells #[aj knd,aj rel,aw ia il ic] 201)).alloc aS (.cells #[aj v.kd,aj v.id,aw ta tn tc] 282)).alloc aS (bT aj v.kd aj v.id aj rel);have C:=MA _ ca ia ha ta cn cc il ic hn hc tn tc mb n v (gE rel ex) (h.below A) (bq rel 0 ex).length X ab (Sf rel ex);have Y:=(((aL.new w #[aw ca cn cc,aw ha hn hc,.map (some mb)] 189).alloc (.cells #[aj knd,aj rel,aw ia il ic] 201)).alloc (.cells #[aj v.kd,aj v.id,aw ta tn tc] 282)).alloc (bT aj v.kd aj v.id aj rel);have Z:=aL.new' (((w.alloc (.cells #[aw ca cn cc,aw ha hn hc,.map (some mb)] 189)).alloc (.cells #[aj knd,aj rel,aw ia il ic] 201)).alloc (.cells #[aj v.kd,aj v.id,aw ta tn tc] 282)) #[aj v.kd,aj v.id,aj rel] 102 (w.heap.size+3) au;have Q:=h.kn;go_enter func149,ntmps149;go_wp2_with fail;refine C.mono ?_;rintro e w1 ⟨rfl,D⟩;have b1:=A.trans (D.mono A.size);obtain ⟨c0,c1,c2⟩:=three (Y.below D);obtain ⟨d0,d1,d2⟩:=three (Z.below D);have J:=Q.block (b1.block mb Q.lt);have R:=J.look V;unfold Ij at R;dsimp only at R
 by_cases I:X=v.K ⟨v.kd,v.id,rel⟩
 ·simp;go_wp2;go_ret;exact ⟨.of_below b1,.inl ⟨I,rfl,J⟩⟩
 ·have al:((X:Int)==((v.K ⟨v.kd,v.id,rel⟩:Nat):Int))=false:=by
   rw [bW];intro e;exact I ai
  obtain ⟨am,U,ak,ad⟩:=J.upd ag V ac;unfold Ij at U;dsimp only at U;go_wp2;go_ret;refine ⟨?_,.inr ⟨I,rfl,ak⟩⟩;exact (bK.of_below b1).trans (dD ad (fun k ae=>by simpa using ae.symm))
structure Hd where
 kd:ae
 id:ae
 ts:List Tu
 tv:ag
def MF(h:Hd):List ag:=[aj h.kd,aj h.id,h.tv]
structure HdOK(h:Hd):Prop where
 pos:0<h.ts.length
 kd:h.kd.size<=maxLen
 id:h.id.size<=maxLen
 sub:∀t∈h.ts,nS (fb t)
structure Z4(w:af)(hv:ag)(hl:List Hd):Prop where
 row:w.ownsRow 0 282 3 hv hl.length (hl.flatMap MF)
 tups:∀h∈hl,VV w h.tv h.ts/\HdOK h
 most:hl.length<=1000
def Ul(K:Sj->Nat)(cs:List Tg)(h:Hd):Sd:=⟨K,cs,h.kd,h.id,h.ts⟩
def jX(p:It×ag)(h:Hd):Sj:=⟨h.kd,h.id,p.1.2.1.name⟩
def tE(K:Sj->Nat)(cs:List Tg)(p:It×ag)(h:Hd):Nat:=ed (Ul K cs h) p.1.2.1.name p.1.2.1.body
structure Y6(p:It×ag):Prop where
 wf:BU p.1.2.1.body
 len:(bq p.1.2.1.name 0 p.1.2.1.body).length<40000
 name:p.1.2.1.name.size<=maxLen
 rel:∀i∈gE p.1.2.1.name p.1.2.1.body,i.rel.size<=maxLen
structure SeG(w:af)(cv hv sv:ag)(cs:List Tg)(hl:List Hd)(ls:List (It×ag)):Prop where
 cr:zH w cv cs
 hs:Z4 w hv hl
 ln:CD 0 w sv ls
 ok:∀p∈ls,Y6 p
 few:ls.length<=1000000
section
variable {w w':af}{cv hv sv tv:ag}{cs:List Tg}{hl:List Hd}{ls:List (It×ag)}{mb n:Nat}{K:Sj->Nat}{ts:List Tu}
def nU(w w':af):Prop:=w.heap.size<=w'.heap.size/\∀(g:Nat)(cs:Array ag)(T:TypeId)(f:Nat×Nat),w.heap[g]? =some (.cells cs T f)->w'.heap[g]? =w.heap[g]?
def mE(C:rg w mb n K)(A:bK (fun k=>k=mb) w w'):nU w w':=⟨A.size,fun g cs T f h=>A.block g (lt_of_some h) (fun e=>by
 subst e;obtain ⟨I,c,D⟩:=C.isMap;rw [D] at h
 cases h)⟩
def VV.cellsK(h:VV w tv ts)(k:nU w w'):VV w' tv ts:=⟨az h.row (fun g cs f _ A=>k.2 g cs _ f A),h.most⟩
def Z4.cellsK(h:Z4 w hv hl)(k:nU w w'):Z4 w' hv hl:=⟨az h.row (fun g cs f _ C=>k.2 g cs _ f C),fun x A=>⟨(h.tups x A).1.cellsK k,(h.tups x A).2⟩,h.most⟩
def tF{a x}(h:w.cell? a=some x)(k:nU w w'):w'.cell? a=some x:=by
 rw [<-h];apply jw;unfold World.cell? at h
 cases A:w.heap[a.block]? with
 |none=>rw [A] at h;cases h
 |some o=>
  cases o with
  |cells cs T f=>exact (k.2 _ cs T f A).trans A
  |_=>rw [A] at h;cases h
def zH.cellsK(h:zH w cv cs)(k:nU w w'):zH w' cv cs:=by
 obtain ⟨g,o,c,h1,h2,C,A⟩:=h;exact ⟨g,o,c,h1,cM h2 k.1,C,fun i x hi=>⟨tF (A i x hi).1 k,tF (A i x hi).2 k⟩⟩
def SeG.cellsK(h:SeG w cv hv sv cs hl ls)(k:nU w w'):SeG w' cv hv sv cs hl ls:=⟨h.cr.cellsK k,h.hs.cellsK k,h.ln.frame (fun g cs T f A _=>k.2 g cs T f A),h.ok,h.few⟩
def BV(k:an w w'):nU w w':=⟨k.size,fun g cs T f h=>k.block g (lt_of_some h)⟩
end
structure SeC(cs:List Tg)(hl:List Hd)(ls:List (It×ag))(Inv:(Sj->Nat)->Prop)(mu:(Sj->Nat)->Nat):Prop where
 bits:∀K,Inv K->∀s,K s<18446744073709551616
 val:∀K,Inv K->∀p∈ls,∀h∈hl,h.kd=p.1.1.1.name->tE K cs p h<18446744073709551616
 step:∀K,Inv K->∀p∈ls,∀h∈hl,h.kd=p.1.1.1.name->tE K cs p h≠K (jX p h)->Inv (mU K (jX p h) (tE K cs p h))/\mu (mU K (jX p h) (tE K cs p h))<mu K
abbrev wT:=@Nat.testBit_or
abbrev Io:=@Nat.testBit_two_pow_self
abbrev Ip:=@Nat.testBit_two_pow_of_ne
abbrev wU:=@Nat.testBit_and
def g8(kb:Sj->Bool)(who:Tg)(s:Sj):Bool:=if s.rel.size=0 then lh s who else kb s
def Iq(kb:Sj->Bool)(s:Sj)(rel:ae):Bool:=if s.rel.size=0 then kb ⟨s.kind,s.id,rel⟩ else false
def cW(kb:Sj->Bool)(who:Tg)(kd id:ae)(ts:List Tu)(rel:ae):Ex->Bool
 |⟨n,some x,some y⟩=>if n.kind=3 then cW kb who kd id ts rel x||cW kb who kd id ts rel y else if n.kind=4 then cW kb who kd id ts rel x&&cW kb who kd id ts rel y else cW kb who kd id ts rel x&& !cW kb who kd id ts rel y
 |⟨n,none,_⟩=>if n.kind=0 then ts.any (fun t=>decide (t.rel=rel)&&g8 kb who (fb t)) else if n.kind=1 then kb ⟨kd,id,n.n1⟩ else ts.any (fun t=>decide (t.rel=n.n1)&&Iq kb (fb t) n.n2)
 |⟨_,some _,none⟩=>false
def wV(p:Tg->Bool)(cs:List Tg)(i:Nat):∀j,(e9 p cs j).testBit i=(decide (i<j)&&match cs[i]? with|some t=>p t|none=>false)
 |0=>by simp [e9]
 |j+1=>by
  have A:=wV p cs i j;rw [e9]
  by_cases e:i=j
  ·subst e
   cases hc:cs[i]? with
   |none=>rw [hc] at A;simpa using A
   |some t=>
    rw [hc] at A;simp only
    by_cases C:p t=true
    ·rw [if_pos C,wT,Io];simp [C]
    rw [if_neg C,A];simp [C]
  have h1:decide (i<j+1)=decide (i<j):=by rw [decide_eq_decide];omega
  rw [h1,<-A]
  split
  ·split
   ·rw [wT,Ip ai,mj]
   rfl
  rfl
def Sk(h:b<18446744073709551616)(hi:i<64):(qP a b).testBit i=(a.testBit i&& !b.testBit i):=by
 unfold qP;rw [wU,show 18446744073709551615-b=2 ^ 64-(b+1) by omega,Nat.testBit_two_pow_sub_succ h];simp [hi]
def lJ(r f i):∀(ts:List Tu)(a:Nat),(jq ts r f a).testBit i=(a.testBit i||ts.any fun t=>decide (t.rel=r)&&(f t).testBit i)
 | [],a=>by simp [jq]
 |t::ts,a=>by
  unfold jq
  by_cases h:t.rel=r
  ·rw [List.filter_cons_of_pos nf,List.foldl_cons];have:=lJ r f i ts (f t|||a);unfold jq at this;rw [this,wT,kg]
   cases a.testBit i<;>cases (f t).testBit i<;>simp [h]
  rw [List.filter_cons_of_neg nf];have:=lJ r f i ts a;unfold jq at this;rw [this,kg];simp [h]
def uj(r f)(A:∀t,f t<18446744073709551616):∀(ts:List Tu)(a:Nat),a<18446744073709551616->jq ts r f a<18446744073709551616
 | [],a,ha=>by simpa [jq] using ha
 |t::ts,a,ha=>by
  unfold jq
  by_cases h:t.rel=r
  ·rw [List.filter_cons_of_pos nf,List.foldl_cons];exact uj r f A ts (f t|||a) (BT (n:=64) (A t) ha)
  rw [List.filter_cons_of_neg nf];exact uj r f A ts a ha
def BW(v)(A:∀s,v.K s<18446744073709551616)(C:v.cs.length<=64)(rel):∀e,ed v rel e<18446744073709551616
 |⟨n,some x,some y⟩=>by
  have D:=BW v A C rel x;have I:=BW v A C rel y;unfold ed
  split
  ·exact BT (n:=64) I D
  split
  ·decide
  split
  ·exact Nat.and_lt_two_pow (n:=64) _ D
  exact Kl D
 |⟨n,none,r⟩=>by
  unfold ed
  split
  ·exact uj _ _ (fun t=>EV A C _) _ _ ay
  split
  ·exact A _
  exact uj _ _ (fun t=>Sg A _ _) _ _ ay
 |⟨_,some _,none⟩=>by
  unfold ed
  decide
def nV(v)(I:∀s,v.K s<18446744073709551616)(J:v.cs.length<=64){i who}(A:v.cs[i]? =some who)(rel):∀e,(ed v rel e).testBit i=cW (fun s=>(v.K s).testBit i) who v.kd v.id v.ts rel e
 |⟨n,some x,some y⟩=>by
  have C:=nV v I J A rel x;have D:=nV v I J A rel y;have hi:=(bD.1 A).1;unfold ed cW
  split
  ·rw [wT,C,D,Bool.or_comm]
  split
  ·rename_i h0;rw [<-C,<-D,h0];simp
  split
  ·rw [wU,C,D,Bool.and_comm]
  rw [Sk (BW v I J rel y) ai,C,D]
 |⟨n,none,r⟩=>by
  have hi:=(bD.1 A).1;unfold ed cW;have R:∀t,(i6 v.K v.cs (fb t)).testBit i=g8 (fun s=>(v.K s).testBit i) who (fb t):=fun t=>by
   unfold i6 g8
   split
   ·rw [wV,A];simp [hi]
   rfl
  have Q:∀t,(sE v.K (fb t) n.n2).testBit i=Iq (fun s=>(v.K s).testBit i) (fb t) n.n2:=fun t=>by
   unfold sE Iq
   split
   ·rfl
   simp
  split
  ·rw [lJ];simp [R]
  split
  ·rfl
  rw [lJ];simp [Q]
 |⟨_,some _,none⟩=>by
  unfold ed cW;simp
structure Sys(F:(Sj->Bool)->(Sj->Bool)->Sj->Bool)(rk:Sj->Nat):Prop where
 mono:∀kp FP kn s,(∀x,kp x=true->FP x=true)->F kp kn s=true->F FP kn s=true
 dep:∀kp FP kn Z5 s,(∀x,rk x<=rk s->kp x=FP x)->(∀x,rk x<rk s->kn x=Z5 x)->F kp kn s=F FP Z5 s
structure sG(F:(Sj->Bool)->(Sj->Bool)->Sj->Bool)(K:Sj->Bool):Prop where
 fix:∀s,K s=F K K s
 least:∀K',(∀s,F K' K s=true->K' s=true)->∀s,K s=true->K' s=true
def zK{F:(Sj->Bool)->(Sj->Bool)->Sj->Bool}{rk:Sj->Nat}(S:Sys F rk){C A:Sj->Bool}(h1:sG F C)(h2:sG F A)(n:Nat)(J:∀s,rk s<n->C s=A s)(s:Sj)(hs:rk s<=n)(h:C s=true):A s=true:=by
 have:=h1.least (fun x=>decide (n<rk x)||A x) (fun x D=>by
  by_cases hn:n<rk x
  ·simp [hn]
  rw [S.dep _ A C A x (fun y I=>aS) (fun y I=>J y ai),<-h2.fix] at D;simp [D]) s h
 have hn:¬n<rk s:=ai
 simpa [hn] using this
def Ir{F:(Sj->Bool)->(Sj->Bool)->Sj->Bool}{rk:Sj->Nat}(S:Sys F rk){A C:Sj->Bool}(h1:sG F A)(h2:sG F C)(s:Sj):A s=C s:=by
 have key:∀n s,rk s<n->A s=C s:=by
  intro n
  induction n with
  |zero=>intro s hs;omega
  |succ n ih=>
   intro s hs;rw [gU];exact ⟨zK S h1 h2 n ih s ai,zK S h2 h1 n (fun x D=>(ih x D).symm) s ai⟩
 exact key (rk s+1) s ai
def iu(kp kn:Sj->Bool)(who:Tg)(kd id:ae)(ts:List Tu)(rel:ae):Ex->Bool
 |⟨n,some x,some y⟩=>if n.kind=3 then iu kp kn who kd id ts rel x||iu kp kn who kd id ts rel y else if n.kind=4 then iu kp kn who kd id ts rel x&&iu kp kn who kd id ts rel y else iu kp kn who kd id ts rel x&& !cW kn who kd id ts rel y
 |e=>cW kp who kd id ts rel e
def gt(k who kd id ts rel):∀e,iu k k who kd id ts rel e=cW k who kd id ts rel e
 |⟨n,some x,some y⟩=>by
  rw [iu,cW,gt k who kd id ts rel x,gt k who kd id ts rel y]
 |⟨n,none,r⟩=>by rw [iu];intro a b c h;cases h
 |⟨n,some x,none⟩=>by rw [iu];intro a b c h;cases h
