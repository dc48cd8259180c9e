import Derived.Test.YtlbpnlngckgcbaaGreatDoorM27
import Derived.Test.YtlbpnlngckgcbaaGreatDoorM26
set_option linter.all false
set_option maxHeartbeats 4000000
set_option maxRecDepth 100000
namespace Go.Proofs.YtlbpnlngckgcbaaGreatDoor
open Go.RowKit Go.PlainAid Go.Proofs.Tryz
variable {b g5 aV F j p c bm:Nat} {mp:ag} {ss:List ae} {s:ae} {w W w5 w':af} {o:Obj} {ts:List Ty} {pl:List PV} {rl:List RV} {gs:List Tu} {r:Rl}
def Nv(rl:List RV)(h:Nat->List Gr)(ss:List ae)(s:ae):Nat×List ae:=if di s=false then (2,ss) else if aU (bU s).1.kind (bU s).1.rel rl 0<0 then (5,ss) else if (h (aU (bU s).1.kind (bU s).1.rel rl 0).toNat).any (iN (bU s).1)=false then (7,ss) else if 0<=jK ss s then (4,ss) else if ss.length=24 then (8,ss) else (0,ss++[s])
theorem LN{ta tc}(H:DU w b mp (.slice ta ss.length tc) ss)(hB:Below w.heap.size w W)(J:ss.length<1000)(D:(W.alloc o).drew.grownBy w5 (Value.slice ta ss.length tc).ownBlock)(O5:w5.ownsRow 0 264 7 (.slice (some ⟨g5,0,none⟩) (ss.length+1) aV) (ss.length+1) (ss.flatMap BE++BE s))(A5:(Value.slice ta ss.length tc).ownBlock=some g5\/g5=W.heap.size+1)(K5:aB w5 b #[mp,.slice ta ss.length tc] 262):
  ix b mp (.slice ta ss.length tc) w (0,ss++[s]) (.returned (.int .i64 0)) (w5.setCell ⟨b,1,none⟩ (.slice (some ⟨g5,0,none⟩) (ss.length+1) aV)):=by
 have Ox:∀k,(Value.slice ta ss.length tc).ownBlock=some k->Dr b (.slice ta ss.length tc) k:=fun k hk=>by
  exact Kw
 have I:=(hB.alloc hB.size o).drew;refine ⟨_,rfl,⟨K5.set 1 _,?_,?_,by show (ss++[s]).length<=1000;simp;omega⟩,((bI.of_below I).trans (fM D Ox)).set (.inl rfl) _,?_⟩
 ·show World.ownsRow _ 0 264 7 _ (ss++[s]).length ((ss++[s]).flatMap BE)
  have:=bJ O5 K5 ar 1 (.slice (some ⟨g5,0,none⟩) (ss.length+1) aV);exact Kx
 ·exact Kv
 ·exact Ku
theorem Dt(b bm s w kv rv pv tv kl rl pl l ss dk)(I:DU w b (.pointer (some ⟨bm,5,none⟩)) tv ss)(ax:DM w bm kv rv pv kl rl pl l)(av:mR rl pl dk)(hs:s.size<=maxLen)(bL:ss.length<1000):
  Calls prog 84 #[.pointer (some ⟨b,0,none⟩),.string s] w (ix b (.pointer (some ⟨bm,5,none⟩)) tv w (Nv rl dk ss s)):=by
 have R:=ai (uk s w hs);rw [Kl] at R;unfold Tu.cells at R;have H:=ai I;have aP:=ai (fun w' (k:Below w.heap.size w w')=>vY b s w' _ tv ss (I.below k));have bM:=I.blk.lt;have bw:=ai (show BE s=[.string (bU s).1.kind,.string (bU s).1.id,.string (bU s).1.rel,.string (bU s).1.sub,.string (bU s).1.who,.string (bU s).1.of,.string s] from rfl);unfold Nv;generalize (bU s).1=T at*;obtain ⟨r,C⟩:∃r,r=(if di s=false then (2,ss) else if aU T.kind T.rel rl 0<0 then (5,ss) else if (dk (aU T.kind T.rel rl 0).toNat).any (iN T)=false then (7,ss) else if 0<=jK ss s then (4,ss) else if ss.length=24 then (8,ss) else (0,ss++[s])):=⟨_,rfl⟩;rw [<-C]
 cases ho:di s
 ·rw [ho] at R C;rw [if_pos rfl] at C;subst C;clear I hs ho ax av;go_enter func84,ntmps84;go_wp2_with fail;refine (ak R).mono ?_;rintro e w1 ⟨rfl,O⟩;have U:=ai (O.alloc O.size (hX T.kind T.id T.rel T.sub T.who T.of s));clear O R;go_wp2;go_ret;exact ix.same H.u U.u 2
 ·rw [ho] at R C;rw [if_neg an] at C;have ad:=ai C;have aO:=ai (fun w' (k:Below w.heap.size w w')=>dI bm kv rv pv kl rl pl l T.kind T.rel w' (ax.below k));have aA:=ai (fun (q:Nat) (aK:aU T.kind T.rel rl 0=(q:Int)) (az:q<rl.length) w' (k:Below w.heap.size w w')=>Hk b bm s T w' kv rv pv tv kl rl pl l ss (I.below k) (ax.below k) q (dk q) aK (av q az).1 (av q az).2);have aD:=ai (cU T.kind T.rel rl 0);obtain ⟨ta,tc,rfl⟩:=ay I.row;clear I hs ho ax av C;go_enter func84,ntmps84;go_wp2_with fail;refine (ak R).mono ?_;rintro e w1 ⟨rfl,O⟩;have U:=ai (O.alloc O.size (hX T.kind T.id T.rel T.sub T.who T.of s));have aT:=ai (H.u.below U.u).blk;have au:=ai (aB.new w1 #[.string T.kind,.string T.id,.string T.rel,.string T.sub,.string T.who,.string T.of,.string s] 264);have bP:¬(w1.heap.size=b):=by have:=O.size;omega
  have bQ:¬(b=w1.heap.size):=by have:=O.size;omega
  clear O R;go_wp2_with fail;have l1:=U.u.size;generalize (w1.alloc (hX T.kind T.id T.rel T.sub T.who T.of s))=W at*;obtain ⟨aL,aM⟩:=hS aT.u;have bb:W.cell? ⟨w1.heap.size,0,none⟩=some (.string T.kind):=au.u.cell rfl;have bc:W.cell? ⟨w1.heap.size,2,none⟩=some (.string T.rel):=au.u.cell rfl;have aC:=ai (aO.u W.drew U.u.drew);obtain ⟨n,hn⟩:∃n,n=aU T.kind T.rel rl 0:=⟨_,rfl⟩;rw [<-hn] at aC aD ad aA;clear aO hn
  go_region_held3 (fun w'=>w'.cell? ⟨b,0,none⟩=some (.pointer (some ⟨bm,5,none⟩))/\w'.cell? ⟨w1.heap.size,0,none⟩=some (.string T.kind)/\w'.cell? ⟨w1.heap.size,2,none⟩=some (.string T.rel)) (go_keep)
   ((go_at_call 132;refine (ak aC).mono ?_;rintro e Q ⟨rfl,aX⟩;have Y:=ai (show Below W.heap.size W Q from (aw _ W).drew.trans aX);have d0:=am aL Y.u;have d1:=am bb Y.u;have d2:=am bc Y.u;clear aX))
  have ab:=ai (U.u.trans (Y.u.mono l1));have J:=ai (au.u.below Y.u);have bF:=ab.u.size;clear d0 d1 d2 aL aM bb bc aC Y au aT U
  by_cases hn:n<0
  ·have C:=ak ad;rw [if_pos hn] at C;subst C;clear ad;go_wp2;go_ret;exact ix.same H.u ab.u 5
  have C:=ak ad;rw [if_neg hn] at C;obtain ⟨q,aK,az⟩:∃q:Nat,n=q/\q<rl.length:=by
   rcases ak aD with I|⟨j,I,_,h2⟩
   ·omega
   exact ⟨j,I,aj⟩
  subst aK;rw [jF] at C;have Z:=ai C;have E:=ai (ak aA q rfl az Q ab.u);obtain ⟨aN,be,bf,bg,bh,bi,bk⟩:Q.cell? ⟨w1.heap.size,0,none⟩=some (.string T.kind)/\Q.cell? ⟨w1.heap.size,1,none⟩=some (.string T.id)/\Q.cell? ⟨w1.heap.size,2,none⟩=some (.string T.rel)/\Q.cell? ⟨w1.heap.size,3,none⟩=some (.string T.sub)/\Q.cell? ⟨w1.heap.size,4,none⟩=some (.string T.who)/\Q.cell? ⟨w1.heap.size,5,none⟩=some (.string T.of)/\Q.cell? ⟨w1.heap.size,6,none⟩=some (.string s):=⟨J.u.cell rfl,J.u.cell rfl,J.u.cell rfl,J.u.cell rfl,J.u.cell rfl,J.u.cell rfl,J.u.cell rfl⟩;generalize (dk q).any (iN T)=bJ at*;clear C ad aD aA;go_wp2_with fail;refine E.u.mono ?_;rintro e bK ⟨rfl,aG⟩;have al:=ai (ab.u.trans (aG.mono bF));have aS:=ai (J.u.below aG);have F:=ai (aP.u bK al.u);have bI:=al.u.size;clear aG E aP ab J aN be bf bg bh bi bk;generalize jK ss s=m at*;go_wp2_with fail;refine F.u.mono ?_;rintro e D ⟨rfl,aH⟩;have ac:=ai (al.u.trans (aH.mono bI));have V:=ai (aS.u.below aH);have aE:=ai (H.u.below ac.u);obtain ⟨aL,aM⟩:=hS aE.u.blk;clear aH F al aS
  cases bJ
  ·have C:=Z.u;rw [if_pos rfl] at C;subst C;clear Z;go_wp2;go_ret;exact ix.same H.u ac.u 7
  have C:=Z.u;rw [if_neg an] at C
  by_cases aJ:0<=m
  ·rw [if_pos aJ] at C;subst C;clear Z;go_wp2;go_ret;exact ix.same H.u ac.u 4
  rw [if_neg aJ] at C;have bO:decide (0<=m)=false:=k5 aJ
  by_cases af:ss.length=24
  ·rw [if_pos af] at C;subst C;have bD:((ss.length:Int)==24)=true:=by rw [af];rfl
   clear Z af;go_wp2;go_ret;exact ix.same H.u ac.u 8
  rw [if_neg af] at C;subst C;have bD:((ss.length:Int)==24)=false:=by rw [bG];omega
  clear Z af;have aN:D.cell? ⟨w1.heap.size,0,none⟩=some (.string T.kind):=V.u.cell rfl;have be:D.cell? ⟨w1.heap.size,1,none⟩=some (.string T.id):=V.u.cell rfl;have bf:D.cell? ⟨w1.heap.size,2,none⟩=some (.string T.rel):=V.u.cell rfl;have bg:D.cell? ⟨w1.heap.size,3,none⟩=some (.string T.sub):=V.u.cell rfl;have bh:D.cell? ⟨w1.heap.size,4,none⟩=some (.string T.who):=V.u.cell rfl;have bi:D.cell? ⟨w1.heap.size,5,none⟩=some (.string T.of):=V.u.cell rfl;have bk:D.cell? ⟨w1.heap.size,6,none⟩=some (.string s):=V.u.cell rfl;go_wp2_with fail;obtain ⟨i0,aY,a8,a9,ba⟩:=bH Tryz.infoDT;have bs:=ai aY;have bx:=ai a8;have bz:=ai a9;have bB:=ai ba;clear aY a8 a9 ba;have ah:=aE.u.blk;have bS:=ah.fz;have aQ:=ai aE.u.row;have bV:=bj D _ aM;have bW:=bj D _ aN;have c7:(D.alloc (hX T.kind T.id T.rel T.sub T.who T.of s)).cell? ⟨b,1,none⟩=some (.slice ta ss.length tc):=(ah.alloc _).cell rfl;have bR:¬(b=D.heap.size):=by have:=ah.lt;omega
  have bp:=ai ah;clear ah;have bu:=ai (show ∀u∈([.string T.kind,.string T.id,.string T.rel,.string T.sub,.string T.who,.string T.of,.string s]:List ag),u.oneCell'=true from by
   intro u a7;simp only [bA,fG,fH] at a7
   rcases a7 with rfl|rfl|rfl|rfl|rfl|rfl|rfl<;>rfl)
  have bo:=ai (show ss.length+1<=maxLen from by unfold maxLen;omega);have bq:=ai (show (ss.length+1)*112<=140737488355328 from aj);have bv:=ai (show 0<=(D.alloc (hX T.kind T.id T.rel T.sub T.who T.of s)).drew.heap.size from gZ _);have br:=ai (show (D.alloc (hX T.kind T.id T.rel T.sub T.who T.of s)).drew.heap.size=D.heap.size+1 from an)
  go_region_law (refine iZ _ rfl (.tmp 51) (.tmp 53) 260 rfl 0 264 i0 _ 7 112 underlying260 bs.u bx.u bz.u bB.u rfl ar (.slice ta ss.length tc) ss.length (ss.flatMap BE) eW (bX (aQ.u.alloc _)) ⟨D.heap.size,0,none⟩ 1 1 [.string T.kind,.string T.id,.string T.rel,.string T.sub,.string T.who,.string T.of,.string s] eW rfl (bE (B:=D.heap.size) (cs:=#[.string T.kind,.string T.id,.string T.rel,.string T.sub,.string T.who,.string T.of,.string s]) (t:=264) (fr:=(0,0)) (aB.new D _ _).drew) bu.u ar bo.u bq.u bv.u (D.heap.size+1) br.u ?_;intro g5 aV w5 aZ aI aW bN;have aR:=bX (aQ.u.alloc (hX T.kind T.id T.rel T.sub T.who T.of s));have ap:=(bp.u.alloc (hX T.kind T.id T.rel T.sub T.who T.of s)).drew;have ae:aB w5 b _ 262:=(aI.block b ap.lt (own_ne aR ap ar)).trans ap;obtain ⟨bY,bZ⟩:=hS ae;have zq:=ae.fz;have bt:=ai ae;have bn:=ai aI;have bC:=ai aZ;have bl:=ai aW;have bT:=ae.lt;clear aR ap ae aI aZ aW)
  all_goals
   go_wp2;go_ret;exact LN H.u ac.u aj bn.u (by rw [bw.u];exact bC.u) bl.u bt.u
theorem AH(C:di s=true):((bU s).1.who=dh/\(bU s).1.of.size=0)\/(bp (bU s).1.who=true/\(bU s).1.of.size=0)\/(bp (bU s).1.who=true/\bp (bU s).1.of=true):=by
 unfold di at C;simp only [bO] at C;obtain ⟨⟨_,h2⟩,_⟩:=C;have I:(bU s).1.who=(mB (aC (aC s 64).2.1 35).1 (aC (aC s 64).2.1 35).2.2).2.1:=rfl;have to:(bU s).1.of=(aC (aC s 64).2.1 35).2.1:=rfl;rw [I,to];generalize (aC s 64).2.1=r at*;clear I to;unfold jH at h2;unfold mB;rw [fK]
 cases A:(aC r 35).2.2
 ·rw [A] at h2;simp only [bz,aP,oE,bO] at h2;obtain ⟨J,R⟩:=fI A;rw [J] at h2;rw [J,R];simp only [mK,pU]
  rcases h2 with h2|⟨h2,h⟩
  ·have D:=h2;unfold bQ at h2;simp only [bO] at h2;rw [D];exact .inr (.inl ⟨h2.2,rfl⟩)
  have Q:=EV h2;have D:bQ r=false:=by unfold bQ;rw [Q];simp [show bp dh=false by decide]
  rw [D];exact .inl ⟨rfl,rfl⟩
 rw [A] at h2;simp only [if_true,bO] at h2;obtain ⟨h,O⟩:=h2;unfold bQ at h;simp only [bO] at h;simp only [lE,nZ,bz,aP];exact .inr (.inr ⟨h.2,O⟩)
theorem Fh(h:s.size=0):s=em:=by
 have e:bW s=[]:=mq yS;rw [<-gh s,e]
 rfl
theorem mX{a c}(h:a≠c):eqs a c=false:=by
 rw [Bool.eq_false_iff];exact fun e=>h ((bn _ _).1 e)
theorem AJ(a):eqs a a=true:=(bn _ _).2 rfl
theorem OP{T}(Z:(T.who=dh/\T.of.size=0)\/(bp T.who=true/\T.of.size=0)\/(bp T.who=true/\bp T.of=true)){g}(h1:jP g)(h2:vh g):fY g T=iN T g:=by
 have ad:(jg:ae)=dh:=rfl;have U:∀x:ae,bp x=true->x≠dh:=fun x D e=>by rw [e] at D;exact absurd D ar
 have ab:∀x:ae,c9 x=true->x≠dh:=fun x D e=>by rw [e] at D;exact absurd D ar
 have ac:∀x:ae,c9 x=true->x≠em:=fun x D e=>by rw [e] at D;exact absurd D ar
 have ll:g.reach=1->b9 g=dh:=fun e=>by unfold b9;rw [if_pos e];rfl
 have J:g.reach≠1->b9 g=g.rel:=fun e=>by unfold b9;rw [if_neg e]
 unfold fY iN;rw [ad]
 cases eqs g.ty T.sub
 ·rfl
 rw [fE,fE]
 rcases Z with ⟨I,ho⟩|⟨I,ho⟩|⟨I,ho⟩
 ·have O:hQ T.who T.of=1:=by unfold hQ;rw [if_pos ho,I,AJ,if_pos rfl]
  have hv:(if eqs T.who dh=true then dh else T.of)=dh:=by rw [I,AJ,if_pos rfl]
  rw [O,hv,Fh ho]
  rcases h1 with ⟨Q,e⟩|C|⟨R,hn⟩
  ·rw [J aj,Q,e];decide
  ·rw [ll C,C,h2 C];decide
  rw [J aj,R,mX (ab _ hn)];simp
 ·have O:hQ T.who T.of=0:=by unfold hQ;rw [if_pos ho,mX (U _ I)];rfl
  have hv:(if eqs T.who dh=true then dh else T.of)=T.of:=by rw [mX (U _ I)];rfl
  rw [O,hv,Fh ho]
  rcases h1 with ⟨Q,e⟩|C|⟨R,hn⟩
  ·rw [J aj,Q,e];decide
  ·rw [ll C,C,h2 C];decide
  rw [J aj,R,mX (ac _ hn)];simp
 have Y:=c8 ho;have O:hQ T.who T.of=2:=by unfold hQ;rw [if_neg aj]
 have hv:(if eqs T.who dh=true then dh else T.of)=T.of:=by rw [mX (U _ I)];rfl
 have V:em≠T.of:=fun e=>by rw [<-e] at Y;exact absurd Y.1 ar
 rw [O,hv]
 rcases h1 with ⟨Q,e⟩|C|⟨R,hn⟩
 ·rw [J aj,Q,e,mX V];simp
 ·rw [ll C,C,h2 C,mX V,mX (fun e=>U _ ho e.symm)];simp
 rw [J aj,R];simp
theorem LP{l:List Gr}{f g:Gr->Bool}(C:∀x∈l,f x=g x):l.any f=l.any g:=by
 induction l with
 |nil=>rfl
 |cons a l ih=>rw [jD,jD,C a an,ih (fun x D=>C x (by simp [D]))]
structure Us(ts:List Ty)(pl:List PV)(rl:List RV)(dk:Nat->List Gr):Prop where
 d:eN ts
 b:cO pl rl (bh ts)
 g:∀(j:Nat)(k:ae)(r:Rl),(bh ts)[j]? =some (k,r)->dk j=bZ r.body
 ok:∀t∈ts,∀r∈t.rels,∀x∈bZ r.body,jP x/\vh x
theorem um{dk}(I:Us ts pl rl dk)(C:rL gs ss)(s):(Oy ts gs s).1=(Nv rl dk ss s).1/\rL (Oy ts gs s).2 (Nv rl dk ss s).2:=by
 unfold Oy Nv
 by_cases h1:di s=false
 ·rw [if_pos h1,if_pos h1];exact ⟨rfl,C⟩
 have ho:di s=true:=by simpa using h1
 rw [if_neg h1,if_neg h1,AG C ho];have ac:=AH ho;have ae:gs.length=ss.length:=by rw [C.eq,cK]
 have ad:rL (gs++[(bU s).1]) (ss++[s]):=⟨by rw [C.eq,de];rfl,fun y D=>by
  rcases aT.1 D with D|D
  ·exact C.ok y D
  rw [aR] at D;rw [D];exact ho⟩
 generalize (bU s).1=T at*
 rcases cS I.d I.b T.kind T.rel with ⟨e,af⟩|⟨j,t,r,e,Q,R,ab⟩
 ·have Y:l6 ts T=5:=by
   unfold l6
   split
   ·rfl
   rename_i t O;rw [af t O]
  rw [Y,e,if_pos aj,if_pos aj];exact ⟨rfl,C⟩
 rw [e,jF,if_neg (show ¬((j:Int)<0) by omega),I.g j _ r ab];have U:=(cB R).1;have O:=(cV Q).1;have Z:(bZ r.body).any (fun g=>fY g T)=(bZ r.body).any (iN T):=LP (fun x V=>OP ac (I.ok t O r U x V).1 (I.ok t O r U x V).2);have em:l6 ts T=if (bZ r.body).any (iN T) then 0 else 7:=by
  unfold l6;rw [Q];simp only [R];rw [Z]
 rw [em]
 cases hv:(bZ r.body).any (iN T)
 ·rw [if_pos rfl,if_pos an];exact ⟨rfl,C⟩
 simp only [if_true,ne_eq,not_true_eq_false,aP,Bool.true_eq_false]
 by_cases hi:0<=jK ss s
 ·rw [if_pos hi,if_pos hi];exact ⟨rfl,C⟩
 rw [if_neg hi,if_neg hi,ae]
 by_cases J:ss.length=24
 ·rw [if_pos J,if_pos J];exact ⟨rfl,C⟩
 rw [if_neg J,if_neg J];exact ⟨rfl,ad⟩
def XM(ts:List Ty)(I:Nat->Prop)(bm:Nat)(w:af):Prop:=∃(kv rv pv:ag) (kl:List (ae×Nat)) (rl:List RV) (pl:List PV) (l:List PX) (h:Nat->List Gr),Rw w bm kv rv pv kl rl pl l/\Us ts pl rl h/\mR rl pl h/\∀x∈l,∀k,x.2.2.1.ownBlock=some k->I k
def KX(I:Nat->Prop)(w w':af):Prop:=∀(g:Nat)(cs:Array ag)(T:TypeId)(f:Nat×Nat),w.heap[g]? =some (Obj.cells cs T f)->RT T->(T=3->I g)->w'.heap[g]? =w.heap[g]?
theorem LV(hF:cP pl F rl (bh ts)){k}(C:(bh ts)[j]? =some (k,r)):ef rl pl (aD pl F) j=bZ r.body:=by
 obtain ⟨x,hx,_,_,_,htr⟩:=cP.get rl _ j _ hF C;exact Dn
theorem parse_ok(C:fo s=.ok ts)(w:af):Calls prog 80 #[.string s] w fun e w'=>∃bm,e=.returned (.tuple #[.pointer (some ⟨bm,5,none⟩),.int .i64 0,.int .i64 0])/\Below w.heap.size w w'/\XM ts (fun k=>w.heap.size<=k) bm w':=by
 unfold fo at C
 split at C
 ·simp at C
 rename_i hs
 split at C
 ·simp at C
 rename_i R m D
 split at C
 ·simp at C
 rename_i hc;simp only [dr] at C;subst C;refine (mY s w aj).mono fun e w' J=> ?_
 have h2:=J.2;rw [D] at h2;simp only [hc] at h2;obtain ⟨b,kv,rv,pv,kl,rl,pl,l,e1,V,O,Z,U,Y⟩:=h2;obtain ⟨F,hF⟩:=cO.fuel rl _ O.2;have ae:=sized D Z aj;have ad:zx [] R=none:=by
  unfold gt at hc
  split at hc
  ·simp at hc
  assumption
 exact ⟨b,e1,J.1,kv,rv,pv,kl,rl,pl,l,ef rl pl (aD pl F),⟨V,U⟩,⟨(mU R [] ad).2,O.2,fun j k r ab=>LV hF ab,fun t Q r C x I=>⟨Fc (ue D) t Q r C x I,LJ D t Q r C x I⟩⟩,xZ hF ae,fun x I k ac=>Y x I k (.inr (.inl ac))⟩
theorem Ht(h:gt ts=some (p,c)):c≠0:=by
 unfold gt at h
 split at h
 ·simp at h;omega
 split at h
 ·simp at h;omega
 split at h
 ·simp at h;omega
 simp at h
theorem nB{o}(D:fo s=.error (o,c))(w):c≠0/\∃p:Nat,Calls prog 80 #[.string s] w fun e w'=>e=.returned (.tuple #[.pointer none,.int .i64 c,.int .i64 p])/\Below w.heap.size w w':=by
 unfold fo at D
 split at D
 ·rename_i hs;simp only [Except.error.injEq,hA] at D;obtain ⟨_,rfl⟩:=D;exact ⟨aj,0,Dm s w hs⟩
 rename_i hs;have C:=mY s w aj
 split at D
 ·rename_i c0 j J;simp only [Except.error.injEq,hA] at D;obtain ⟨_,rfl⟩:=D;obtain ⟨e,w',fr,Q,_⟩:=C [];have O:=Q.2;rw [J] at O;refine ⟨O.1,PP s j,C.mono fun e w' I=> ?_⟩;have h2:=I.2;rw [J] at h2;exact ⟨h2.2,I.1⟩
 rename_i ts m J
 split at D
 ·rename_i p c0 hc;simp only [Except.error.injEq,hA] at D;obtain ⟨_,rfl⟩:=D;refine ⟨Ht hc,p,C.mono fun e w' I=> ?_⟩;have h2:=I.2;rw [J] at h2;simp only [hc] at h2;exact ⟨h2,I.1⟩
 simp at D
def SrcM(ts:List Ty)(pl:List PV)(kl:List (ae×Nat))(rl:List RV):Prop:=∃s m,s.size<=500/\fo s=.ok ts/\ej (TT s) (PP s)=.ok (ts,m)/\Gd s m/\tL pl kl rl ts
def XS(ts:List Ty)(I:Nat->Prop)(bm:Nat)(w:af):Prop:=∃(kv rv pv:ag) (kl:List (ae×Nat)) (rl:List RV) (pl:List PV) (l:List PX) (h:Nat->List Gr),Rw w bm kv rv pv kl rl pl l/\Us ts pl rl h/\(mR rl pl h/\SrcM ts pl kl rl)/\∀x∈l,∀k,x.2.2.1.ownBlock=some k->I k
theorem XS.kx{I}(D:XS ts I bm w)(k:KX I w w'):XS ts I bm w':=by
 obtain ⟨kv,rv,pv,kl,rl,pl,l,Z,V,h2,ab,R⟩:=D;have J:∀{base:Nat} {e:TypeId} {size:Nat} {v:ag} {n:Nat} {xs:List ag},w.ownsRow base e size v n xs->RT e->e≠3->w'.ownsRow base e size v n xs:=fun D ac hn=>ax D (fun g cs f _ O=>k g cs _ f O ac (fun e=>absurd e hn))
 obtain ⟨cs,U⟩:=V.blk;have e:=k bm cs _ _ U (.inl rfl) (fun D=>absurd D ar);have hc:∀o v,w.cell? ⟨bm,o,none⟩=some v->w'.cell? ⟨bm,o,none⟩=some v:=fun o v hv=>(iV (w:=w) e).trans hv
 have C:=V.dm;refine ⟨kv,rv,pv,kl,rl,pl,l,Z,⟨⟨hc _ _ C.c5,hc _ _ C.c6,hc _ _ C.c7,J C.kt (.inr (.inl rfl)) ar,J C.rt (.inr (.inr (.inl rfl))) ar,⟨C.pt.fst,J C.pt.row (.inr (.inr (.inr (.inl rfl)))) ar,fun x Y=> ?_⟩,C.kn,C.rn,C.pn⟩,cs,e.trans U⟩,h2,ab,R⟩;have Q:=C.pt.rep x Y;exact ⟨J Q.g (.inr (.inr (.inr (.inr (.inl rfl))))) ar,cA Q.p (fun g cs f ad O=>k g cs _ f O (.inr (.inr (.inr (.inr (.inr (.inl rfl)))))) (fun _=>R x Y g ad)),J Q.s (.inr (.inr (.inr (.inr (.inr (.inr rfl)))))) ar⟩
theorem XS.kd{I}(h:XS ts I bm w)(k:KD w w'):XS ts I bm w':=h.kx (fun g cs T f A C _=>k g cs T f A C)
theorem wy(C:fo s=.ok ts)(w):Calls prog 80 #[.string s] w fun e w'=>∃bm,e=.returned (.tuple #[.pointer (some ⟨bm,5,none⟩),.int .i64 0,.int .i64 0])/\Below w.heap.size w w'/\XS ts (fun k=>w.heap.size<=k) bm w':=by
 have ad:=C;unfold fo at C
 split at C
 ·simp at C
 rename_i hs
 split at C
 ·simp at C
 rename_i U m D
 split at C
 ·simp at C
 rename_i hc;simp only [dr] at C;subst C;refine (mY s w aj).mono fun e w' O=> ?_
 have h2:=O.2;rw [D] at h2;simp only [hc] at h2;obtain ⟨b,kv,rv,pv,kl,rl,pl,l,e1,Y,J,Q,V,Z⟩:=h2;obtain ⟨F,hF⟩:=cO.fuel rl _ J.2;have af:=sized D Q aj;have ae:zx [] U=none:=by
  unfold gt at hc
  split at hc
  ·simp at hc
  assumption
 exact ⟨b,e1,O.1,kv,rv,pv,kl,rl,pl,l,ef rl pl (aD pl F),⟨Y,V⟩,⟨(mU U [] ae).2,J.2,fun j k r ab=>LV hF ab,fun t R r C x I=>⟨Fc (ue D) t R r C x I,LJ D t R r C x I⟩⟩,⟨xZ hF af,s,m,aj,ad,D,Q,J⟩,fun x I k ac=>Z x I k (.inr (.inl ac))⟩
def rj(ts:List Ty)(gs:List Tu):Prop:=∀t∈gs,l6 ts t=0
theorem OS(A:rj ts gs)(s):rj ts (Oy ts gs s).2:=by
 unfold Oy
 split
 ·exact A
 split
 ·exact A
 rename_i h0
 split
 ·exact A
 split
 ·exact A
 intro t h
 rcases aT.1 h with h|h
 ·exact A t h
 rw [aR] at h;subst h
 simpa using h0
theorem LW(h:rj ts gs)(s):rj ts (xK gs s).2:=by
 unfold xK
 split
 ·exact h
 split
 ·exact h
 exact fun t A=>h t (List.mem_of_mem_eraseIdx A)
