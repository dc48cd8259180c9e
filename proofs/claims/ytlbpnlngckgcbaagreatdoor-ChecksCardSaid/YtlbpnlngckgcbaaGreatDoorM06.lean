import Derived.Test.YtlbpnlngckgcbaaGreatDoorM03
import Derived.Test.YtlbpnlngckgcbaaGreatDoorM04
import Derived.Deep.RegionLaw
set_option linter.all false
set_option maxHeartbeats 4000000
set_option maxRecDepth 100000
namespace Go.Proofs.YtlbpnlngckgcbaaGreatDoor
open Go.RowKit Go.PlainAid Go.Proofs.Tryz
variable {aF cD:Prop} {b base size n g cap m i d a i' d' e' a' B g5 aV j aa gc:Nat} {w w' w1 W w5 wr:af} {sv v tv kv rv pv pv':ag} {rs:List Rl} {ts:List Ty} {e T T':TypeId} {xs:List ag} {s:ae} {cs:Array ag} {o:Obj} {ga:Option Addr}
abbrev gq:=@List.findSome?_cons
abbrev g8:=@bne_iff_ne
abbrev g9(a0:Int)(a1:ae)(a2:Int)(a3:Int)(a4:ae):Obj:=.cells #[.int .i64 a0,.string a1,.int .i64 a2,.int .i64 a3,.string a4] 207
def Jg (C:aF:=by
 go_wp2_with (go_at_call 73;refine (jy _ 5 _).mono ?_;rintro e D ⟨rfl,rfl⟩);exact BT):aF:=C
def t3(p:Ty×ag):E3:=(p.1.place,p.1.name,p.2)
def r3(p:Rl×ag):E3:=(p.1.place,p.1.name,p.2)
def bL(ts:List Ty)(x:ae):Option Ty:=ts.find? fun t=>eqs t.name x
def bP(t:Ty)(x:ae):Option Rl:=t.rels.find? fun r=>eqs r.name x
theorem c3_t3(l:List (Ty×ag)):(l.map t3).flatMap c3=l.flatMap j5:=by rw [List.flatMap_map];rfl
theorem c3_r3(l:List (Rl×ag)):(l.map r3).flatMap c3=l.flatMap j2:=by rw [List.flatMap_map];rfl
theorem sK(x:ae)(l:List (Ty×ag)):gS x (l.map t3)=(l.find? fun p=>eqs p.1.name x).map t3:=by
 unfold gS;rw [List.find?_map];rfl
theorem sL(x:ae)(l:List (Rl×ag)):gS x (l.map r3)=(l.find? fun p=>eqs p.1.name x).map r3:=by
 unfold gS;rw [List.find?_map];rfl
theorem oj(x:ae)(l:List (Ty×ag)):bL (l.map Prod.fst) x=(l.find? fun p=>eqs p.1.name x).map Prod.fst:=by
 unfold bL;rw [List.find?_map];rfl
structure RC(b:Nat)(w:af)(sv:ag)(rs:List Rl)(rl:List (Rl×ag)):Prop where
 fst:rl.map Prod.fst=rs
 row:g4 w 159 sv (rl.map r3)
 ex:∀p∈rl,bg b w p.1.body p.2
 len:rs.length<=1000
 okp:∀r∈rs,(aA r.body).length<=1000
 okg:∀r∈rs,(bZ r.body).length<=1000
 wf:∀r∈rs,WF r.body
structure MC(b:Nat)(w:af)(sv:ag)(ts:List Ty)(tl:List (Ty×ag)):Prop where
 fst:tl.map Prod.fst=ts
 row:g4 w 110 sv (tl.map t3)
 rels:∀p∈tl,∃rl,RC b w p.2 p.1.rels rl
 len:ts.length<=1000
 blt:b<w.heap.size
theorem RC.below{rl}(h:RC b w sv rs rl)(k:Below w.heap.size w w'):RC b w' sv rs rl:=
 ⟨h.fst,h.row.below k,fun p A=>(h.ex p A).but (But.of_below k),h.len,h.okp,h.okg,h.wf⟩
theorem MC.below{tl}(h:MC b w sv ts tl)(k:Below w.heap.size w w'):MC b w' sv ts tl:=
 ⟨h.fst,h.row.below k,fun p A=>by obtain ⟨rl,C⟩:=h.rels p A;exact ⟨rl,C.below k⟩,h.len,cg h.blt k.size⟩
theorem RC.form{rl}(h:RC b w sv rs rl):∃a n c,sv=.slice a n c:=by
 obtain ⟨a,c,e⟩:=ay h.row;exact ⟨a,_,c,e⟩
theorem MC.form{tl}(h:MC b w sv ts tl):∃a n c,sv=.slice a n c:=by
 obtain ⟨a,c,e⟩:=ay h.row;exact ⟨a,_,c,e⟩
theorem RC.llen{rl}(h:RC b w sv rs rl):(rl.map r3).length<=1000:=by
 have:=h.len;rw [<-h.fst] at this;simpa using this
theorem MC.llen{tl}(h:MC b w sv ts tl):(tl.map t3).length<=1000:=by
 have:=h.len;rw [<-h.fst] at this;simpa using this
theorem o4(b sv ts tl x w)(h:MC b w sv ts tl)(A:bL ts x=none):
  Calls prog 57 #[.agg #[sv],.string x] w fun e w'=>e=.returned (.tuple #[.agg #[.int .i64 0,.string ⟨#[]⟩,.slice none 0 0],bY 5])/\Below w.heap.size w w':=by
 refine vu sv (tl.map t3) x w h.llen h.row ?_;rw [<-h.fst,oj] at A;rw [sK]
 cases C:tl.find? (fun p=>eqs p.1.name x) with
 |none=>rfl
 |some y=>rw [C] at A;cases A
theorem pW(b sv ts tl x w)(A:MC b w sv ts tl)(t)(h:bL ts x=some t):
  ∃J Q O rl,RC b w (.slice J Q O) t.rels rl/\Calls prog 57 #[.agg #[sv],.string x] w fun e w'=>e=.returned (.tuple #[.agg #[.int .i64 t.place,.string t.name,.slice J Q O],.nilIface])/\Below w.heap.size w w':=by
 rw [<-A.fst,oj] at h
 cases C:tl.find? (fun p=>eqs p.1.name x) with
 |none=>rw [C] at h;cases h
 |some y=>
  rw [C] at h;simp only [Option.map_some,aK] at h;subst h;obtain ⟨rl,D⟩:=A.rels y (gm C);obtain ⟨a,n,c,e⟩:=D.form;have I:=D;rw [e] at I;refine ⟨a,n,c,rl,I,?_⟩;have:=oa sv (tl.map t3) x w A.llen A.row (t3 y) (by rw [sK,C];rfl) ⟨a,n,c,e⟩;have R:(t3 y).2.2=.slice a n c:=e;rw [R] at this;exact this
theorem jA(b C:Nat)(nn sv t rl x w)(A:RC b w sv t.rels rl)(h:bP t x=none):
  Calls prog 145 #[.agg #[.int .i64 C,.string nn,sv],.string x] w fun e w'=>e=.returned (.tuple #[.agg #[.int .i64 0,.string ⟨#[]⟩,.nilIface],bY 5])/\Below w.heap.size w w':=by
 refine vv C nn sv (rl.map r3) x w A.llen A.row ?_;unfold bP at h;rw [<-A.fst,List.find?_map] at h;rw [sL]
 cases D:rl.find? (fun p=>eqs p.1.name x) with
 |none=>rfl
 |some y=>rw [show ((fun r:Rl=>eqs r.name x) ∘ Prod.fst)=(fun p:Rl×ag=>eqs p.1.name x) from rfl,D] at h;cases h
theorem kJ(b O:Nat)(nn sv t rl x w)(C:RC b w sv t.rels rl)(r)(h:bP t x=some r):
  ∃ta A,bg b w r.body (.iface ta A)/\r∈t.rels/\Calls prog 145 #[.agg #[.int .i64 O,.string nn,sv],.string x] w fun e w'=>e=.returned (.tuple #[.agg #[.int .i64 r.place,.string r.name,.iface ta A],.nilIface])/\Below w.heap.size w w':=by
 have R:r∈t.rels:=gm h;unfold bP at h;rw [<-C.fst,List.find?_map,show ((fun r:Rl=>eqs r.name x) ∘ Prod.fst)=(fun p:Rl×ag=>eqs p.1.name x) from rfl] at h
 cases D:rl.find? (fun p=>eqs p.1.name x) with
 |none=>rw [D] at h;cases h
 |some y=>
  rw [D] at h;simp only [Option.map_some,aK] at h;subst h;have I:=C.ex y (gm D);obtain ⟨ta,A,e⟩:=I.isI;have J:=I;rw [e] at J;refine ⟨ta,A,J,R,?_⟩;have:=ob O nn sv (rl.map r3) x w C.llen C.row (r3 y) (by rw [sL,D];rfl) ⟨ta,A,e⟩;have Q:(r3 y).2.2=.iface ta A:=e;rw [Q] at this;exact this
theorem Jh(g):∀(l:List Gr)(i:Nat),l[i]? =some g->(b6 l)[i*5]? =some (.int .i64 g.tp)/\(b6 l)[i*5+1]? =some (.string g.ty)/\(b6 l)[i*5+2]? =some (.int .i64 g.reach)/\(b6 l)[i*5+3]? =some (.int .i64 g.rp)/\(b6 l)[i*5+4]? =some (.string g.rel)
 | [],i,h=>by simp at h
 |e'::l,0,h=>by simp at h;subst h;simp [b6,cu]
 |e'::l,i+1,h=>by
  have:=Jh g l i mw;rw [show b6 (e'::l)=(cu e').toList++b6 l from rfl,show (i+1)*5=i*5+5 by omega]
  simpa [cu] using this
theorem Q2.cell{l}(A:w.ownsRow base 207 5 v l.length (b6 l))(i g)(hi:l[i]? =some g):
  ∃q c,v=.slice (some ⟨q,0,none⟩) l.length c/\w.cell? ⟨q,i*5,none⟩=some (.int .i64 g.tp)/\w.cell? ⟨q,i*5+1,none⟩=some (.string g.ty)/\w.cell? ⟨q,i*5+2,none⟩=some (.int .i64 g.reach)/\w.cell? ⟨q,i*5+3,none⟩=some (.int .i64 g.rp)/\w.cell? ⟨q,i*5+4,none⟩=some (.string g.rel):=by
 obtain ⟨h0,h1,h2,C,D⟩:=Jh g l i hi;obtain ⟨q,c,rfl,e0⟩:=aZ A _ _ h0;have h:∀k u,(b6 l)[k]? =some u->w.cell? ⟨q,k,none⟩=some u:=fun k u I=>by
  obtain ⟨O,J,e',e1⟩:=aZ A k u I;simp only [aI,aK,cw] at e';obtain ⟨⟨rfl,_⟩,_⟩:=e';exact e1
 exact ⟨q,c,rfl,e0,h _ _ h1,h _ _ h2,h _ _ C,h _ _ D⟩
def k8(ts:List Ty)(g:Gr):Option Nat:=match bL ts g.ty with
 |none=>some g.tp
 |some t=>if g.reach=2 then (match bP t g.rel with
   |none=>some g.rp
   |some _=>none) else none
def nO(ts:List Ty)(gs:List Gr):Option Nat:=gs.findSome? (k8 ts)
theorem Cd(ts:List Ty)(gs:List Gr)(k:Nat)(h:k<gs.length):nO ts (gs.drop k)=match k8 ts gs[k] with
  |some p=>some p
  |none=>nO ts (gs.drop (k+1)):=by
 unfold nO;rw [dw h,gq]
 cases k8 ts gs[k]<;>rfl
theorem u2(b lp:Nat)(sv ts tl gv gs w)(aD:MC b w sv ts tl)(aE:w.ownsRow (b+1) 207 5 gv gs.length (b6 gs))(bc:gs.length<=1000):
  Calls prog 174 #[.agg #[sv],.agg #[.int .i64 lp,gv]] w fun e' w'=>e'=.returned (gW 5 (nO ts gs))/\Below w.heap.size w w':=by
 obtain ⟨aS,mn,mc,rfl⟩:=aD.form;obtain ⟨ga,gc,rfl⟩:=ay aE;have H:=ai aD;have aW:=ai aE;generalize I:nO ts gs=aZ;have aX:=ai I;clear aD aE I;go_enter func174,ntmps174;go_wp2_with fail
 go_loopw [14] (fun u wr=>∃(k:Nat),k<=gs.length/\u=.int .i64 k/\Below w.heap.size w wr/\aB wr w.heap.size #[.slice aS mn mc] 75/\Hid (nO ts (gs.drop k)=aZ)) (fun u _=>gs.length-(intOf u).toNat)
 case atStart=>exact ⟨0,aj,rfl,(ba.alloc az _).alloc an _,(aB.new w _ _).alloc _,aX⟩
 case round=>
  obtain ⟨k,be,rfl,R,U,aL⟩:=hrel;have aU:=ai R;have bb:=ai U;have a9:=R.size
  by_cases aQ:k<gs.length
  ·have I:=ak aL;rw [Cd ts gs k aQ] at I;obtain ⟨q,c,e1,k0,k1,bf,k3,bg⟩:=Q2.cell (ax (w':=wr) aW.u (fun g cs f _ a7=>R.block g (lt_of_some a7))) k gs[k] (aG aQ);simp only [aI] at e1;obtain ⟨rfl,_,rfl⟩:=e1;generalize gs[k]=g at*;have ar:Below w.heap.size w (wr.alloc (g9 g.tp g.ty g.reach g.rp g.rel)):=R.alloc a9 _;have aK:=ai (H.u.below ar);have aN:=U.alloc (g9 g.tp g.ty g.reach g.rp g.rel);have aH:=aB.new wr #[.int .i64 g.tp,.string g.ty,.int .i64 g.reach,.int .i64 g.rp,.string g.rel] 207;have bh:wr.cell? ⟨w.heap.size,0,none⟩=some (.slice aS mn mc):=U.cell rfl;have bi:=U.lt;have Q:=ai ar;have aJ:=ai aN;have ae:=ai aH;clear R U ar aN aH;unfold k8 at I
   cases V:bL ts g.ty with
   |none=>
    rw [V] at I;have mf:=ai I;have C:=ai (o4 b _ ts tl g.ty _ aK.u V);clear I V;go_wp2_with fail;refine C.u.mono ?_;rintro e al ⟨rfl,J⟩;have B2:=ai (Q.u.trans (J.mono Q.u.size));obtain ⟨g0,au,av,aA,aC⟩:=(ae.u.below J).five;have aP:=(ae.u.below J).lt;have ah:=B2.u.size;clear J;unfold bY;exact Jg
   |some t=>
    rw [V] at I;obtain ⟨Z,ac,ab,rl,aR,af⟩:=pW b _ ts tl g.ty _ aK.u t V;have C:=ai af;have a5:=ai aR;clear V af aR;simp only at I
    by_cases h2:g.reach=2
    ·have a6:((g.reach:Int) != 2)=false:=by rw [h2];rfl
     rw [if_pos h2] at I;clear h2;go_wp2_with fail;refine C.u.mono ?_;rintro e al ⟨rfl,J⟩;have ap:=Q.u.trans (J.mono Q.u.size);have B2:=ai ap;have am:=ai (aJ.u.below J);have aO:=ai ((a5.u.below J).below ((aw al.heap.size al).alloc az (bq t.place t.name Z ac ab)));have ag:=ai (ae.u.below J);obtain ⟨g0,au,av,aA,aC⟩:=ag.u.five;have aP:=ag.u.lt;have ah:=ap.size;clear J ap C
     cases Y:bP t g.rel with
     |none=>
      rw [Y] at I;have mf:=ai I;have C:=ai (jA b t.place t.name _ t rl g.rel _ aO.u Y);clear I Y;go_wp2_with fail;refine C.u.mono ?_;rintro e aT ⟨rfl,O⟩;have ad:=ai ((B2.u.alloc ah (bq t.place t.name Z ac ab)).trans (O.mono aM));obtain ⟨bj,n1,n2,bk,bl⟩:=((ag.u.alloc (bq t.place t.name Z ac ab)).below O).five;have nl:=((ag.u.alloc (bq t.place t.name Z ac ab)).below O).lt;have a8:=ad.u.size;clear O g0 au av aA aC;unfold bY;go_wp2_with (go_at_call 73;refine (jy _ 5 _).mono ?_;rintro e aT ⟨rfl,rfl⟩);go_ret;rw [<-mf.u];exact ⟨rfl,(bB ad)⟩
     |some r=>
      rw [Y] at I;have mf:=ai I;obtain ⟨bn,bo,_,_,af⟩:=kJ b t.place t.name _ t rl g.rel _ aO.u r Y;have C:=ai af;clear I Y af;go_wp2_with fail;refine C.u.mono ?_;rintro e aT ⟨rfl,O⟩;have ad:=ai ((B2.u.alloc ah (bq t.place t.name Z ac ab)).trans (O.mono aM));have aY:=ai ((am.u.alloc (bq t.place t.name Z ac ab)).below O);have a8:=ad.u.size;clear O;go_wp2;go_roundw
      case rel=>exact ⟨k+1,aj,by go_num,(bB ad),(b4 aY),mf⟩
      case measure=>simp [intOf];omega
    have a6:((g.reach:Int) != 2)=true:=by rw [g8];omega
    rw [if_neg h2] at I;have mf:=ai I;clear h2 I;go_wp2_with fail;refine C.u.mono ?_;rintro e al ⟨rfl,J⟩;have B2:=ai (Q.u.trans (J.mono Q.u.size));have am:=ai (aJ.u.below J);obtain ⟨g0,au,av,aA,aC⟩:=(ae.u.below J).five;have aP:=(ae.u.below J).lt;have ah:=B2.u.size;clear J C;go_wp2;go_roundw
    case rel=>exact ⟨k+1,aj,by go_num,(bB B2),(b4 am),mf⟩
    case measure=>simp [intOf];omega
  have I:=ak aL;rw [eK aj] at I;have mf:=ai I;clear R U I;go_wp2;go_ret;rw [<-mf.u];exact ⟨rfl,aU.u⟩
abbrev sM:=@List.set_append_right
abbrev xj(a0:ae)(a1:Int):Obj:=.cells #[.string a0,.int .i64 a1,.bool false] 259
def PL (Q:aF:=by
 intro g5 aV w5 I D R V;have C:=(ak HR).alloc (xj (s.extract k (k+1)) k);have J:=ai (dc (HB.u.alloc HB.u.size (xj (s.extract k (k+1)) k)) D vw (fun k U=>(C.lt k U).1));have O:=ai (show w5.ownsRow w.heap.size 259 3 (.slice (some ⟨g5,0,none⟩) (l.length+1) aV) (l++[(⟨[c],k,false⟩:Tk)]).length (br (l++[⟨[c],k,false⟩])) from by
  rw [show (l++[(⟨[c],k,false⟩:Tk)]).length=l.length+1 by simp];have e:br (l++[⟨[c],k,false⟩])=br l++[.string (s.extract k (k+1)),.int .i64 k,.bool false]:=by
   unfold br;rw [cX,HX.u];simp [eZ]
  rw [e];exact I)
 clear C I D R;go_wp2;go_roundw
 case rel=>exact ⟨k+1,l++[⟨[c],k,false⟩],false,aj,rfl,by go_num,J.u,O.u,aM,an,ak Ce,NZ⟩
 case measure=>simp [intOf];omega):aF:=Q
def PM (C:aF:=by
 clear hw;go_wp2_with (first|(go_at_call 185;refine (eV _ _).mono ?_;rintro e w' ⟨rfl,rfl⟩)|(go_at_call 186;refine (fD _ _).mono ?_;rintro e w' ⟨rfl,rfl⟩))
 go_region
 go_wp2;go_roundw
 case rel=>exact ⟨k+1,l0++[⟨t.text++[c],t.place,t.word⟩],true,aj,rfl,by go_num,Below.drew (HB.u.setCell hgb _),(by
  have:=rP (ak HR) (l0.length*3) (.string (mk t.text++s.extract k (k+1)));rw [HN.u] at this;rw [show (l0++[(⟨t.text++[c],t.place,t.word⟩:Tk)]).length=l0.length+1 by simp];exact this),aM,an,ak Ce,NZ⟩
 case measure=>simp [intOf];omega):aF:=C
def pX (C:aF:=by
 intro u A;simp at A
 rcases A with rfl|rfl|rfl<;>rfl):aF:=C
theorem eV(c w):Calls prog 185 #[.int .u8 c] w fun e w'=>e=.returned (.bool (letter c))/\w'=w:=by
 by_cases h1:97<=c
 ·go_enter func185,ntmps185;go_wp2;go_ret;exact ⟨by simp [letter,h1],rfl⟩
 go_enter func185,ntmps185;go_wp2;go_ret;exact ⟨by simp [letter];omega,rfl⟩
theorem fD(c w):Calls prog 186 #[.int .u8 c] w fun e w'=>e=.returned (.bool (digit c))/\w'=w:=by
 by_cases h1:48<=c
 ·go_enter func186,ntmps186;go_wp2;go_ret;exact ⟨by simp [digit,h1],rfl⟩
 go_enter func186,ntmps186;go_wp2;go_ret;exact ⟨by simp [digit];omega,rfl⟩
theorem rP(h:w.ownsRow base e size (.slice (some ⟨g,0,none⟩) n cap) n xs)(j u):(w.setCell ⟨g,j,none⟩ u).ownsRow base e size (.slice (some ⟨g,0,none⟩) n cap) n (xs.set j u):=by
 obtain ⟨hl,h⟩:=h
 rcases h with ⟨h,_⟩|⟨g',O,A,e1,I,J,h1,h2,C,D⟩
 ·cases h
 simp only [aI,aK,cw] at e1;obtain ⟨⟨rfl,_,_⟩,_,rfl⟩:=e1;refine ⟨by simp [hl],.inr ⟨g,cap,A.setIfInBounds j u,rfl,I,aB.set J j u,h1,h2,by simp [C],?_⟩⟩;rw [Array.toList_setIfInBounds,List.take_set,D]
theorem eD(A:w.ownsRow base e size (.slice (some ⟨g,0,none⟩) m cap) n xs):∃h,aB w g h e/\base<=g:=by
 rcases A.2 with ⟨A,_⟩|⟨g',I,h,e1,C,D,h1,h2,J,O⟩
 ·cases A
 simp only [aI,aK,cw] at e1;obtain ⟨⟨rfl,_,_⟩,_,rfl⟩:=e1;exact ⟨h,D,C⟩
theorem Q3(a c):mk a++mk c=mk (a++c):=by
 rw [<-gh (mk a++mk c)]
 congr 1
theorem Ji(l i t)(h:l[i]? =some t):(br l)[i*3]? =some (.string (mk t.text))/\(br l)[i*3+1]? =some (.int .i64 t.place)/\(br l)[i*3+2]? =some (.bool t.word):=by
 unfold br
 induction l generalizing i with
 |nil=>simp at h
 |cons a l ih=>
  cases i with
  |zero=>
   simp at h;subst h;simp [eZ]
  |succ i=>
   simp at h;have:=ih i h;rw [cq,show (i+1)*3=i*3+3 by omega];simp only [eZ,List.cons_append,List.nil_append,List.getElem?_cons_succ];exact this
theorem EK(l):(br l).length=l.length*3:=by
 unfold br
 induction l with
 |nil=>rfl
 |cons a l ih=>rw [cq,bo,ih];simp [eZ];omega
theorem N0(l t c):br (l++[⟨t.text++[c],t.place,t.word⟩])=(br (l++[t])).set (l.length*3) (.string (mk (t.text++[c]))):=by
 unfold br;rw [cX,cX,sM _ _ (by rw [<-br,EK];omega),<-br,EK];simp [eZ]
theorem Tryz.infoTk:(Tryz.prog.info? 259).map (fun i=>(i.zero,i.size,i.bytes))=some (some (.agg #[.string ⟨#[]⟩,.int .i64 0,.bool false]),3,32):=by kernel_rfl
theorem N1(s k)(h:k<s.size):s.extract k (k+1)=mk [(bW s)[k]'yS]:=by
 rw [extract_mk,show k+1-k=1 by omega];rw [dw yS]
 rfl
theorem zf(s w)(hs:s.size<=500):
  Calls prog 126 #[.string s] w fun e w'=>∃v,e=.returned v/\Below w.heap.size w w'/\w'.ownsRow w.heap.size 259 3 v (g2 s).length (br (g2 s)):=by
 have bp:=get_bt s;have bn:=ai hs;obtain ⟨i0,hi,a5,a6,a7⟩:=bH Tryz.infoTk;have al:=ai hi;have ap:=ai a5;have au:=ai a6;have av:=ai a7;clear hi a5 a6 a7;go_enter func126,ntmps126;go_wp2
 go_loopw [3,4,5] (fun bk bl aQ wr=>∃(k:Nat)(l:List Tk)(o:Bool),k<=s.size/\bl=.bool o/\aQ=.int .i64 k/\Below w.heap.size w wr/\wr.ownsRow w.heap.size 259 3 bk l.length (br l)/\l.length<=k/\(o=true->l≠ [])/\(∀t∈l,t.text.length<=k)/\Hid (fd k ((bW s).drop k) (l,o)=fd 0 (bW s) ([],false))) (fun _ _ aQ _=>s.size-(intOf aQ).toNat)
 case atStart=>exact ⟨0,[],false,aj,rfl,rfl,aw _ _,bN,an,an,an,ai rfl⟩
 case round=>
  obtain ⟨k,l,o,aA,rfl,rfl,aS,aP,aO,a2,a3,Y⟩:=hrel;have ab:=ai a3;obtain ⟨aD,aE,rfl⟩:=ay aP;have HB:=ai aS;have HR:=ai aP;have am:=ai a2;clear aS aP a2 a3
  by_cases aX:k<s.size
  ·have aW:k<(bW s).length:=by rw [bf];exact aX
   have ah:=ai (sj s k aW);have hF:=Y.u;rw [dw aW] at hF;simp only [fd,stepT] at hF;have aK:=N1 s k aX;generalize aU:(bW s)[k]=c at*
   by_cases ad:blank (bt s k)=true
   ·have az:dK c=true:=by unfold dK;rw [<-ah.u];exact ad
    rw [if_pos az] at hF;have NZ:=ai hF;have ax:bt s k=32\/bt s k=9\/bt s k=10:=by
     unfold blank at ad
     simpa [or_assoc] using ad
    clear hF Y ad aK aU
    rcases ax with ax|ax|ax
    all_goals
     go_wp2_with (first|(go_at_call 185;refine (eV _ _).mono ?_;rintro e w' ⟨rfl,rfl⟩)|(go_at_call 186;refine (fD _ _).mono ?_;rintro e w' ⟨rfl,rfl⟩));go_roundw
     case rel=>exact ⟨k+1,l,false,aj,rfl,by go_num,HB.u,ak HR,aj,an,fun t bc=>Nat.le_succ_of_le (ab.u t bc),NZ⟩
     case measure=>simp [intOf];omega
   have ac:blank (bt s k)=false:=by simpa using ad
   have az:dK c=false:=by unfold dK;rw [<-ah.u];exact ac
   have bg:¬(bt s k=32)/\¬(bt s k=9)/\¬(bt s k=10):=by
    unfold blank at ac;simp at ac;exact ⟨ac.1.1,ac.1.2,ac.2⟩
   obtain ⟨bh,bi,bj⟩:=bg;have bv:(bt s k==32)=false:=bG.2 bh;have bw:(bt s k==9)=false:=bG.2 bi;have bx:(bt s k==10)=false:=bG.2 bj;rw [if_neg (by rw [az];simp)] at hF;have HX:=ai aK;clear ad ac az Y aK aU;have a4:dt c=(letter (bt s k)||digit (bt s k)):=by unfold dt;rw [ah.u]
   have aY:letter c.toNat=letter (bt s k):=by rw [ah.u]
   rw [a4,aY] at hF;have Y:=ai hF;clear hF a4 aY
   by_cases hw:(o&&(letter (bt s k)||digit (bt s k)))=true
   ·have hF:=Y.u;rw [if_pos hw] at hF;rw [bO] at hw;obtain ⟨rfl,hw⟩:=hw;obtain ⟨l0,t,rfl⟩:∃l0 t,l=l0++[t]:=⟨l.dropLast,l.getLast (am.u rfl),(List.dropLast_concat_getLast _).symm⟩;rw [na] at hF;have NZ:=ai hF;clear hF Y am;have aC:(l0++[t]).length=l0.length+1:=an;rw [aC] at HR;rw [aC];obtain ⟨g,gc,e1,k0⟩:=aZ (ak HR) (l0.length*3) _ (Ji (l0++[t]) l0.length t an).1;simp only [aI] at e1;obtain ⟨rfl,_,rfl⟩:=e1;obtain ⟨bo,aN,hgb⟩:=eD (ak HR);have bz:=aB.fz aN;have bu:=aB.lt aN;have be:=ab.u t an;have bs:¬(9223372036854775807<(mk t.text).size+(s.extract k (k+1)).size):=by
     rw [HX.u,<-bf,<-bf,si,si];simp;omega
    have Ce:=ai (show ∀x∈l0++[⟨t.text++[c],t.place,t.word⟩],x.text.length<=k+1 from fun x Z=>by
     rw [aT,aR] at Z
     rcases Z with Z|rfl
     ·exact Nat.le_succ_of_le (ab.u x (by simp [Z]))
     simp;omega)
    have bq:l0.length+1<=k:=by rw [aC] at aO;exact aO
    clear aN aC aO ab be;have HN:=ai (show (br (l0++[t])).set (l0.length*3) (.string (mk t.text++s.extract k (k+1)))=br (l0++[⟨t.text++[c],t.place,t.word⟩]) from by rw [N0,HX.u,Q3])
    cases hl:letter (bt s k)
    ·have a9:digit (bt s k)=true:=by rw [hl] at hw;simpa using hw
     exact PM
    exact PM
   have hF:=Y.u;rw [if_neg hw] at hF;have NZ:=ai hF;have Ce:=ai (show ∀x∈l++[⟨[c],k,letter (bt s k)⟩],x.text.length<=k+1 from fun x Z=>by
    rw [aT,aR] at Z
    rcases Z with Z|rfl
    ·exact Nat.le_succ_of_le (ab.u x Z)
    simp)
   clear hF Y ab am
   cases o
   ·clear hw
    cases hl:letter (bt s k)
    ·rw [hl] at NZ Ce;go_wp2_with (first|(go_at_call 185;refine (eV _ _).mono ?_;rintro e w' ⟨rfl,rfl⟩)|(go_at_call 186;refine (fD _ _).mono ?_;rintro e w' ⟨rfl,rfl⟩)|(at_builtin;go_must (refine bD _ rfl _ _ 249 rfl w.heap.size 259 i0 _ 3 32 underlying249 al.u ap.u au.u av.u rfl ar (.slice aD l.length aE) l.length (br l) rfl ?sN ⟨w'.heap.size,0,none⟩ 1 1 [.string (s.extract k (k+1)),.int .i64 k,.bool false] rfl rfl ?k9 ?mx ar ?sO ?hu ?ld (w'.heap.size+1) ?N2 ?pY)))
     case sN=>exact (ak HR).alloc _
     case k9=>exact bE (B:=w'.heap.size) (cs:=#[.string (s.extract k (k+1)),.int .i64 k,.bool false]) (t:=259) (fr:=(0,0)) (aB.new _ _ _)
     case mx=>
      exact pX
     case sO=>unfold maxLen;omega
     case hu=>omega
     case ld=>have:=HB.u.size;simp;omega
     case N2=>simp
     case pY=>
      exact PL
    rw [hl] at NZ Ce;go_wp2_with (first|(go_at_call 185;refine (eV _ _).mono ?_;rintro e w' ⟨rfl,rfl⟩)|(go_at_call 186;refine (fD _ _).mono ?_;rintro e w' ⟨rfl,rfl⟩)|(at_builtin;go_must (refine bD _ rfl _ _ 249 rfl w.heap.size 259 i0 _ 3 32 underlying249 al.u ap.u au.u av.u rfl ar (.slice aD l.length aE) l.length (br l) rfl ?sP ⟨w'.heap.size,0,none⟩ 1 1 [.string (s.extract k (k+1)),.int .i64 k,.bool true] rfl rfl ?lg ?o5 ar ?xk ?jo ?lh (w'.heap.size+1) ?N3 ?pZ)))
    case sP=>exact (ak HR).alloc _
    case lg=>exact bE (B:=w'.heap.size) (cs:=#[.string (s.extract k (k+1)),.int .i64 k,.bool true]) (t:=259) (fr:=(0,0)) (aB.new _ _ _)
    case o5=>
     exact pX
    case xk=>unfold maxLen;omega
    case jo=>omega
    case lh=>have:=HB.u.size;simp;omega
    case N3=>simp
    case pZ=>
     intro g5 aV w5 ag af aL ba;have ae:=(ak HR).alloc (.cells #[.string (s.extract k (k+1)),.int .i64 k,.bool true] 259);have aG:=ai (dc (HB.u.alloc HB.u.size (.cells #[.string (s.extract k (k+1)),.int .i64 k,.bool true] 259)) af vw (fun k aA=>(ae.lt k aA).1));have aH:=ai (show w5.ownsRow w.heap.size 259 3 (.slice (some ⟨g5,0,none⟩) (l.length+1) aV) (l++[(⟨[c],k,true⟩:Tk)]).length (br (l++[⟨[c],k,true⟩])) from by
      rw [show (l++[(⟨[c],k,true⟩:Tk)]).length=l.length+1 by simp];have e:br (l++[⟨[c],k,true⟩])=br l++[.string (s.extract k (k+1)),.int .i64 k,.bool true]:=by
       unfold br;rw [cX,HX.u];simp [eZ]
      rw [e];exact ag)
     clear ae ag af aL;go_wp2;go_roundw
     case rel=>exact ⟨k+1,l++[⟨[c],k,true⟩],true,aj,rfl,by go_num,aG.u,aH.u,aM,an,ak Ce,NZ⟩
     case measure=>simp [intOf];omega
   have hl:letter (bt s k)=false:=by
    cases aJ:letter (bt s k)
    ·rfl
    rw [aJ] at hw;simp at hw
   have a9:digit (bt s k)=false:=by
    cases aJ:digit (bt s k)
    ·rfl
    rw [aJ] at hw;simp at hw
   clear hw;rw [hl] at NZ Ce;go_wp2_with (first|(go_at_call 185;refine (eV _ _).mono ?_;rintro e w' ⟨rfl,rfl⟩)|(go_at_call 186;refine (fD _ _).mono ?_;rintro e w' ⟨rfl,rfl⟩)|(at_builtin;go_must (refine bD _ rfl _ _ 249 rfl w.heap.size 259 i0 _ 3 32 underlying249 al.u ap.u au.u av.u rfl ar (.slice aD l.length aE) l.length (br l) rfl ?zg ⟨w'.heap.size,0,none⟩ 1 1 [.string (s.extract k (k+1)),.int .i64 k,.bool false] rfl rfl ?sQ ?sR ar ?Cf ?li ?sS (w'.heap.size+1) ?Th ?xl)))
   case zg=>exact (ak HR).alloc _
   case sQ=>exact bE (B:=w'.heap.size) (cs:=#[.string (s.extract k (k+1)),.int .i64 k,.bool false]) (t:=259) (fr:=(0,0)) (aB.new _ _ _)
   case sR=>
    exact pX
   case Cf=>unfold maxLen;omega
   case li=>omega
   case sS=>have:=HB.u.size;simp;omega
   case Th=>simp
   case xl=>
    exact PL
  have bb:k=s.size:=aj;subst bb;have hF:=Y.u;have a8:=ai (show g2 s=l++[F1 s.size] from by
   rw [eK (by rw [bf];exact cm _)] at hF;simp only [fd] at hF;unfold g2 oZ;rw [mm,<-hF])
  clear hF Y ab am;go_wp2_with (at_builtin;go_must (refine bD _ rfl _ _ 249 rfl w.heap.size 259 i0 _ 3 32 underlying249 al.u ap.u au.u av.u rfl ar (.slice aD l.length aE) l.length (br l) rfl ?hownE ⟨wr.heap.size,0,none⟩ 1 1 [.string ⟨#[]⟩,.int .i64 s.size,.bool false] rfl rfl ?Q4 ?honeE ar ?h63E ?N4 ?Q5 (wr.heap.size+1) ?hHE ?Q6))
  case hownE=>exact (ak HR).alloc _
  case Q4=>exact bE (B:=wr.heap.size) (cs:=#[.string ⟨#[]⟩,.int .i64 s.size,.bool false]) (t:=259) (fr:=(0,0)) (aB.new _ _ _)
  case honeE=>
   exact pX
  case h63E=>unfold maxLen;omega
  case N4=>omega
  case Q5=>have:=HB.u.size;simp;omega
  case hHE=>simp
  case Q6=>
   intro g5 aV w5 ag af aL ba;have ae:=(ak HR).alloc (.cells #[.string ⟨#[]⟩,.int .i64 s.size,.bool false] 259);have aG:=ai (dc (HB.u.alloc HB.u.size (.cells #[.string ⟨#[]⟩,.int .i64 s.size,.bool false] 259)) af vw (fun k aA=>(ae.lt k aA).1));have aH:=ai (show w5.ownsRow w.heap.size 259 3 (.slice (some ⟨g5,0,none⟩) (l.length+1) aV) (g2 s).length (br (g2 s)) from by
    rw [a8.u,show (l++[F1 s.size]).length=l.length+1 by simp];have e:br (l++[F1 s.size])=br l++[.string ⟨#[]⟩,.int .i64 s.size,.bool false]:=by
     unfold br;rw [cX];simp [eZ,F1,mk]
    rw [e];exact ag)
   clear ae ag af aL;go_wp2;go_ret;exact ⟨_,rfl,aG.u,aH.u⟩
abbrev be:=@List.getElem?_eq_some_iff
abbrev fF:Obj:=.cells #[.string ⟨#[]⟩,.int .i64 0,.bool false] 259
structure RS(w:af)(b:Nat)(s:ae)(tv:ag)(i d e a:Nat)(kv rv pv:ag):Prop where
 blk:aB w b #[tv,.int .i64 i,.int .i64 d,.int .i64 e,.int .i64 a,kv,rv,pv] 252
 tok:w.ownsRow 0 259 3 tv (g2 s).length (br (g2 s))
 gd:Gd s i
 fm:(∃x n c,kv=.slice x n c)/\(∃x n c,rv=.slice x n c)/\(∃x n c,pv=.slice x n c)
 sz:s.size<=500
theorem aB.eight{x0 x1 x2 x3 x4 x5 x6 x7}(h:aB w g #[x0,x1,x2,x3,x4,x5,x6,x7] T):w.cell? ⟨g,0,none⟩=some x0/\w.cell? ⟨g,1,none⟩=some x1/\w.cell? ⟨g,2,none⟩=some x2/\w.cell? ⟨g,3,none⟩=some x3/\w.cell? ⟨g,4,none⟩=some x4/\w.cell? ⟨g,5,none⟩=some x5/\w.cell? ⟨g,6,none⟩=some x6/\w.cell? ⟨g,7,none⟩=some x7:=
 ⟨h.cell rfl,h.cell rfl,h.cell rfl,h.cell rfl,h.cell rfl,h.cell rfl,h.cell rfl,h.cell rfl⟩
theorem RS.at{e}(h:RS w b s tv i d e a kv rv pv):
  ∃g c,tv=.slice (some ⟨g,0,none⟩) (g2 s).length c/\i<(g2 s).length/\w.cell? ⟨g,i*3,none⟩=some (.string (TT s i))/\w.cell? ⟨g,i*3+1,none⟩=some (.int .i64 (PP s i))/\w.cell? ⟨g,i*3+2,none⟩=some (.bool (bM (TT s i))):=by
 have C:=Ew s i h.gd;obtain ⟨h0,h1,h2⟩:=Ji _ _ _ C;obtain ⟨g,c,e0,c0⟩:=aZ h.tok _ _ h0;obtain ⟨D,k1,e1,c1⟩:=aZ h.tok _ _ h1;obtain ⟨I,J,A,c2⟩:=aZ h.tok _ _ h2;rw [e0] at e1 A;simp only [aI,aK,cw] at e1 A;obtain ⟨⟨rfl,_⟩,_⟩:=e1;obtain ⟨⟨rfl,_⟩,_⟩:=A;refine ⟨g,c,e0,?_,?_,c1,c2⟩
 ·exact (be.1 C).1
 ·rw [gh] at c0;exact c0
theorem RS.below{e}(h:RS w b s tv i d e a kv rv pv)(k:Below w.heap.size w w'):RS w' b s tv i d e a kv rv pv:=⟨h.blk.below k,ax h.tok (fun g cs f _ A=>k.block g (lt_of_some A)),h.gd,h.fm,h.sz⟩
theorem Below.drewN'(m):Below w.heap.size w (w.drewN m):=below_drewN ba m
theorem RS.drewN{e}(h:RS w b s tv i d e a kv rv pv)(m):RS (w.drewN m) b s tv i d e a kv rv pv:=h.below (Below.drewN' m)
theorem RS.lt{e}(h:RS w b s tv i d e a kv rv pv):b<w.heap.size:=h.blk.lt
theorem RS.setI{e}(C:RS w b s tv i d e a kv rv pv)(j)(D:Gd s j):RS (w.setCell ⟨b,1,none⟩ (.int .i64 j)) b s tv j d e a kv rv pv:=⟨C.blk.set 1 _,bJ C.tok C.blk ar _ _,D,C.fm,C.sz⟩
theorem RS.setD{e:Nat}(C:RS w b s tv i d e a kv rv pv)(j:Nat):RS (w.setCell ⟨b,2,none⟩ (.int .i64 j)) b s tv i j e a kv rv pv:=⟨C.blk.set 2 _,bJ C.tok C.blk ar _ _,C.gd,C.fm,C.sz⟩
theorem RS.setE{e:Nat}(C:RS w b s tv i d e a kv rv pv)(j:Nat):RS (w.setCell ⟨b,3,none⟩ (.int .i64 j)) b s tv i d j a kv rv pv:=⟨C.blk.set 3 _,bJ C.tok C.blk ar _ _,C.gd,C.fm,C.sz⟩
theorem RS.setA{e:Nat}(C:RS w b s tv i d e a kv rv pv)(j:Nat):RS (w.setCell ⟨b,4,none⟩ (.int .i64 j)) b s tv i d e j kv rv pv:=⟨C.blk.set 4 _,bJ C.tok C.blk ar _ _,C.gd,C.fm,C.sz⟩
theorem RS.but{e}(h:RS w b s tv i d e a kv rv pv)(k:But b w w')(A:∃x,aB w' b x 252/\x=#[tv,.int .i64 i',.int .i64 d',.int .i64 e',.int .i64 a',kv,rv,pv])(D:Gd s i'):RS w' b s tv i' d' e' a' kv rv pv:=by
 obtain ⟨x,A,rfl⟩:=A;exact ⟨A,ax h.tok (fun g cs f _ C=>k.block g (lt_of_some C) (fun e=>by
  subst e;have:=h.blk;unfold aB at this;rw [this] at C;simp at C)),D,h.fm,h.sz⟩
theorem Gd.succ{s i}(C:Gd s i)(D:0<(TT s i).size):Gd s (i+1):=fun j I=>by
 by_cases e:j=i
 ·subst e;exact D
 exact C j aj
theorem Gd.le(h:Gd s i):i<=s.size:=by
 have:=(be.1 (Ew s i h)).1;have:=sy s;omega
theorem JB(b s tv i d a kv rv pv x w)(h:RS w b s tv i d 0 a kv rv pv):
  Calls prog 187 #[.pointer (some ⟨b,0,none⟩),.string x] w fun e w'=>e=.returned (.bool (eqs (TT s i) x))/\∃m,w'=w.drewN m:=by
 rw [show eqs (TT s i) x=((TT s i).toList==x.toList) by unfold eqs;rw [aO,aO]];obtain ⟨g,c,rfl,hi,t0,t1,t2⟩:=h.at;obtain ⟨C,D,I,r3,J,_⟩:=h.blk.eight;have hn:=sy s;have A:=h.sz;clear h;go_enter func187,ntmps187;go_wp2
 go_quiet (fail)
 go_wp2;go_ret;exact ⟨rfl,_,rfl⟩
theorem JC(b s tv i d e0 a kv rv pv x w)(C:RS w b s tv i d e0 a kv rv pv)(D:e0≠0):
  Calls prog 187 #[.pointer (some ⟨b,0,none⟩),.string x] w fun e w'=>e=.returned (.bool false)/\∃m,w'=w.drewN m:=by
 obtain ⟨g,c,rfl,hi,t0,t1,t2⟩:=C.at;obtain ⟨J,O,Q,r3,R,_⟩:=C.blk.eight;have I:¬((e0:Int)=0):=aj;clear C;go_enter func187,ntmps187;go_wp2
 go_quiet (fail)
 go_wp2;go_ret;exact ⟨rfl,_,rfl⟩
theorem lu(b:Nat)(s tv)(i d a:Nat)(kv rv pv)(c0:Nat)(w)(C:RS w b s tv i d 0 a kv rv pv):
  Calls prog 189 #[.pointer (some ⟨b,0,none⟩),.int .i64 c0] w fun e w'=>e=.returned (.tuple #[])/\But b w w'/\RS w' b s tv i d c0 (PP s i) kv rv pv:=by
 have H:=ai C;obtain ⟨g,c,e0,hi,t0,t1,t2⟩:=C.at;obtain ⟨I,Q,R,r3,U,_⟩:=C.blk.eight;have O:=C.blk.fz;have hn:=sy s;have hs:=C.sz;have D:¬(g=b):=fun e=>by
  have:=own_ne C.tok C.blk ar;rw [e0,e] at this;exact this rfl
 have J:¬(b=g):=fun e=>D e.symm
 rw [e0] at I;clear C e0;go_enter func189,ntmps189;go_wp2
 go_region
 go_wp2;go_end0;exact ⟨rfl,(((But.refl b w).setCell 3 _).setCell 4 _).drew,(H.u.setE c0 |>.setA (PP s i)).drewN 1⟩
theorem sY(b s tv i d a kv rv pv x w)(h:RS w b s tv i d 0 a kv rv pv)(A:eqs (TT s i) x=true)(D:0<(bW x).length):
  Calls prog 188 #[.pointer (some ⟨b,0,none⟩),.string x] w fun e w'=>e=.returned (.tuple #[])/\But b w w'/\RS w' b s tv (i+1) d 0 a kv rv pv:=by
 have H:=ai h;obtain ⟨R,U,V,r3,Y,_⟩:=h.blk.eight;have Q:=h.blk.fz;have O:=h.lt;have I:=h.gd.succ (cG A D);have J:=h.gd.le;have hs:=h.sz;have C:=ai (JB b s tv i d a kv rv pv x w h);rw [A] at C;clear h A D;go_enter func188,ntmps188;go_wp2_with fail;refine (ak C).mono ?_;rintro e w' ⟨rfl,m,rfl⟩;go_wp2;go_end0;exact ⟨rfl,(But.of_below (Below.drewN' m)).setCell 1 _,H.u.drewN m |>.setI (i+1) I⟩
theorem xr(b s tv i d a kv rv pv x w)(h:RS w b s tv i d 0 a kv rv pv)(I:eqs (TT s i) x=false):
  Calls prog 188 #[.pointer (some ⟨b,0,none⟩),.string x] w fun e w'=>e=.returned (.tuple #[])/\But b w w'/\RS w' b s tv i d 2 (PP s i) kv rv pv:=by
 have H:=ai h;obtain ⟨V,Y,Z,r3,ab,_⟩:=h.blk.eight;have U:=h.blk.fz;have R:=h.lt;have C:=ai (JB b s tv i d a kv rv pv x w h);rw [I] at C;clear h I;go_enter func188,ntmps188;go_wp2_with fail;refine (ak C).mono ?_;rintro e w' ⟨rfl,m,rfl⟩;have A:=ai (lu b s tv i d a kv rv pv 2 _ (H.u.drewN m));go_wp2_with fail;refine A.u.mono ?_;rintro e ac ⟨rfl,D,J⟩;have O:=ai ((But.of_below (b:=b) (Below.drewN' m)).trans D);have Q:=ai J;clear D J A C;go_wp2;go_end0;exact ⟨rfl,O.u,Q.u⟩
theorem JD(b s tv i d e0 a kv rv pv c0 w)(C:RS w b s tv i d e0 a kv rv pv)(I:e0≠0):
  Calls prog 189 #[.pointer (some ⟨b,0,none⟩),.int .i64 c0] w fun e w'=>e=.returned (.tuple #[])/\∃m,w'=w.drewN m:=by
 have H:=ai C;obtain ⟨R,U,V,r3,Y,_⟩:=C.blk.eight;have Q:=C.blk.fz;have O:=C.lt;have D:¬((e0:Int)=0):=aj;have J:((e0:Int)==0)=false:=bG.2 D;clear C;go_enter func189,ntmps189;go_wp2;go_end0;exact ⟨rfl,0,rfl⟩
theorem sZ(b s tv i d e0 a kv rv pv x w)(h:RS w b s tv i d e0 a kv rv pv)(A:e0≠0):
  Calls prog 188 #[.pointer (some ⟨b,0,none⟩),.string x] w fun e w'=>e=.returned (.tuple #[])/\Below w.heap.size w w':=by
 have H:=ai h;have C:=ai (JC b s tv i d e0 a kv rv pv x w h A);clear h;go_enter func188,ntmps188;go_wp2_with fail;refine C.u.mono ?_;rintro e w' ⟨rfl,m,rfl⟩;have D:=ai (JD b s tv i d e0 a kv rv pv 2 _ (H.u.drewN m) A);go_wp2_with fail;refine D.u.mono ?_;rintro e J ⟨rfl,I,rfl⟩;go_wp2;go_end0;exact ⟨rfl,Below.drewN' _⟩
theorem iG{P fn p ty}(A:fn.results=#[.cell p ty])(tmps w g cs t d)(D:tmps.getD p undef=.pointer (some ⟨g,0,none⟩))(h:∃x,aB w g x t/\x=cs)(I:P.underlying ty=some d)(C:(match d with| .struct _| .array _ _=>true|_=>false)=true)(hi:(P.info? ty).map (·.size)=some cs.size):
  (results fn tmps).run P w=.ok (.agg cs) w:=by
 obtain ⟨x,h,rfl⟩:=h;exact results_cell_row A tmps w g t x (0,0) d D h I C hi
def o7(s:ae)(i:Nat):ag:=.agg #[.string (TT s i),.int .i64 (PP s i),.bool (bM (TT s i))]
theorem lw(t):c9 t=(bM t&& !(t.toList== [116,121,112,101])):=by
 rw [aO];unfold c9 bM
 cases bW t with
 |nil=>rfl
 |cons c r=>rfl
theorem iH(b s tv i d a kv rv pv w)(C:RS w b s tv i d 0 a kv rv pv)(I:c9 (TT s i)=true)(Y:(TT s i).size<=8):
  Calls prog 228 #[.pointer (some ⟨b,0,none⟩),.bool true] w fun e w'=>e=.returned (o7 s i)/\But b w w'/\RS w' b s tv (i+1) d 0 a kv rv pv:=by
 have U:=C.gd.succ (yR I);rw [lw,bO] at I;obtain ⟨n1,n2⟩:=I;have av:((TT s i).toList== [116,121,112,101])=false:=by simpa using n2
 have af:¬((8:Int)<((TT s i).size:Int)):=aj;clear n2 Y;have Q:=ai C;have ag:=C.gd.le;have hs:=C.sz;have ah:=C.lt;have H:=ai (C.below (ba.alloc az fF));have D:=ai (aB.new w #[.string ⟨#[]⟩,.int .i64 0,.bool false] 259);have J:=ai (But.of_below (b:=b) ((aw _ w).alloc az fF));clear C;go_enter func228,ntmps228;go_wp2_with fail;generalize w.alloc fF=W at*;obtain ⟨g,c,e0,hi,t0,t1,t2⟩:=H.u.at;obtain ⟨O,Z,aC,r3,aD,_⟩:=H.u.blk.eight;obtain ⟨ax,ay,aA⟩:=D.u.three;have R:=ai H.u.blk;have aE:=H.u.blk.fz;have zq:=D.u.fz;have ae:=H.u.lt;have am:=D.u.lt;rw [e0] at O;have ac:=ai e0;clear e0;have ad:=cI t0;have ab:=ai (aw W.heap.size W);have an:=bj W _ O;have ap:=bj W _ Z;have ar:=bj W _ t0;have ak:¬(w.heap.size=b):=aj;have al:¬(b=w.heap.size):=aj
 go_region_held3 (fun w'=>w'.cell? ⟨b,0,none⟩=some (.slice (some ⟨g,0,none⟩) (g2 s).length c)/\w'.cell? ⟨b,1,none⟩=some (.int .i64 i)/\w'.cell? ⟨g,i*3,none⟩=some (.string (TT s i))/\w'.cell? ⟨g,i*3+1,none⟩=some (.int .i64 (PP s i))/\w'.cell? ⟨g,i*3+2,none⟩=some (.bool (bM (TT s i)))) (go_keep) (fail)
 rename_i V;clear V;go_wp2;refine bc (v:=o7 s i) (iG results228 _ _ w.heap.size _ 259 _ rfl ?hB underlying259 rfl au) rfl ⟨rfl,?but,RS.but (i':=i+1) (d':=d) (e':=0) (a':=a) Q.u ?xu ?hb2 U⟩
 case hB=>exact ⟨_,(b4 D),by rw [n1];rfl⟩
 case but=>exact (nM J)
 case xu=>exact (nM J)
 case hb2=>exact ⟨_,(b4 R),aS⟩
theorem Gp(b s tv i d a kv rv pv rm w)(C:RS w b s tv i d 0 a kv rv pv)(n1:bM (TT s i)=false):
  Calls prog 228 #[.pointer (some ⟨b,0,none⟩),.bool rm] w fun e w'=>e=.returned (o7 s i)/\But b w w'/\RS w' b s tv i d 2 (PP s i) kv rv pv:=by
 have ad:=ai C.gd;have ac:=ai C;have aG:=C.gd.le;have hs:=C.sz;have aH:=C.lt;have H:=ai (C.below (ba.alloc az fF));have D:=ai (aB.new w #[.string ⟨#[]⟩,.int .i64 0,.bool false] 259);have Z:=ai (But.of_below (b:=b) ((aw _ w).alloc az fF));clear C;go_enter func228,ntmps228;go_wp2_with fail;generalize w.alloc fF=W at*;obtain ⟨g,c,e0,hi,t0,t1,t2⟩:=H.u.at;obtain ⟨Q,Y,av,r3,ax,_⟩:=H.u.blk.eight;obtain ⟨an,ap,ar⟩:=D.u.three;have aC:=ai H.u.blk;have ay:=H.u.blk.fz;have zq:=D.u.fz;have aE:=H.u.lt;have aI:=D.u.lt;rw [e0] at Q;have aA:=ai e0;clear e0;have aD:=cI t0;have ab:=ai (aw W.heap.size W);have ak:=bj W _ Q;have al:=bj W _ Y;have am:=bj W _ t0;have ag:¬(w.heap.size=b):=aj;have O:¬(b=w.heap.size):=aj
 go_region_held3 (fun w'=>w'.cell? ⟨b,0,none⟩=some (.slice (some ⟨g,0,none⟩) (g2 s).length c)/\w'.cell? ⟨b,1,none⟩=some (.int .i64 i)/\w'.cell? ⟨g,i*3,none⟩=some (.string (TT s i))/\w'.cell? ⟨g,i*3+1,none⟩=some (.int .i64 (PP s i))/\w'.cell? ⟨g,i*3+2,none⟩=some (.bool (bM (TT s i)))) (go_keep) (fail)
 rename_i af;clear af;go_wp2_with fail;refine (lu b s tv i d a kv rv pv 2 _ ?rs).mono ?_
 case rs=>exact H.u.below (bB ab)
 rintro e aO ⟨rfl,J,V⟩;have ah:¬(W.heap.size=b):=aj;have I:=ai (aB.but ((b4 D)) J ag);have U:=ai (aB.but (aB.new W #[.string (TT s i),.int .i64 (PP s i),.bool false] 259).drew J ah);have R:=ai ((show But b w _ from (cL Z)).trans J);have ae:=ai V;obtain ⟨aK,p1,p2⟩:=I.u.three;obtain ⟨aL,aM,aN⟩:=U.u.three;have aP:=I.u.fz;have lp:=U.u.lt;have aJ:=I.u.lt;clear J V Q Y av r3 ax t0 t1 t2 an ap ar ak al am ay zq;go_wp2;refine bc (v:=o7 s i) (iG results228 _ _ w.heap.size _ 259 _ rfl ?hB underlying259 rfl au) rfl ⟨rfl,?but,RS.but (i':=i) (d':=d) (e':=2) (a':=PP s i) ac.u ?xu ?hb2 ad.u⟩
 case hB=>exact ⟨_,(b4 I),by rw [n1];rfl⟩
 case but=>exact (nM R)
 case xu=>exact (nM R)
 case hb2=>exact ⟨_,(((ae.u.blk).other O _).other O _).other O _,aS⟩
theorem Ci(b s tv i d a kv rv pv rm w)(C:RS w b s tv i d 0 a kv rv pv)(n1:bM (TT s i)=true)(aK:((TT s i).toList== [116,121,112,101])=true):
  Calls prog 228 #[.pointer (some ⟨b,0,none⟩),.bool rm] w fun e w'=>e=.returned (o7 s i)/\But b w w'/\RS w' b s tv i d 2 (PP s i) kv rv pv:=by
 have ad:=ai C.gd;have ac:=ai C;have aG:=C.gd.le;have hs:=C.sz;have aH:=C.lt;have H:=ai (C.below (ba.alloc az fF));have D:=ai (aB.new w #[.string ⟨#[]⟩,.int .i64 0,.bool false] 259);have Z:=ai (But.of_below (b:=b) ((aw _ w).alloc az fF));clear C;go_enter func228,ntmps228;go_wp2_with fail;generalize w.alloc fF=W at*;obtain ⟨g,c,e0,hi,t0,t1,t2⟩:=H.u.at;obtain ⟨Q,Y,av,r3,ax,_⟩:=H.u.blk.eight;obtain ⟨an,ap,ar⟩:=D.u.three;have aC:=ai H.u.blk;have ay:=H.u.blk.fz;have zq:=D.u.fz;have aE:=H.u.lt;have aI:=D.u.lt;rw [e0] at Q;have aA:=ai e0;clear e0;have aD:=cI t0;have ab:=ai (aw W.heap.size W);have ak:=bj W _ Q;have al:=bj W _ Y;have am:=bj W _ t0;have ag:¬(w.heap.size=b):=aj;have O:¬(b=w.heap.size):=aj
 go_region_held3 (fun w'=>w'.cell? ⟨b,0,none⟩=some (.slice (some ⟨g,0,none⟩) (g2 s).length c)/\w'.cell? ⟨b,1,none⟩=some (.int .i64 i)/\w'.cell? ⟨g,i*3,none⟩=some (.string (TT s i))/\w'.cell? ⟨g,i*3+1,none⟩=some (.int .i64 (PP s i))/\w'.cell? ⟨g,i*3+2,none⟩=some (.bool (bM (TT s i)))) (go_keep) (fail)
 rename_i af;clear af;go_wp2_with fail;refine (lu b s tv i d a kv rv pv 2 _ ?rs).mono ?_
 case rs=>exact H.u.below (bB ab)
 rintro e aP ⟨rfl,J,V⟩;have ah:¬(W.heap.size=b):=aj;have I:=ai (aB.but ((b4 D)) J ag);have U:=ai (aB.but (aB.new W #[.string (TT s i),.int .i64 (PP s i),.bool true] 259).drew J ah);have R:=ai ((show But b w _ from (cL Z)).trans J);have ae:=ai V;obtain ⟨aL,p1,p2⟩:=I.u.three;obtain ⟨aM,aN,aO⟩:=U.u.three;have aQ:=I.u.fz;have lp:=U.u.lt;have aJ:=I.u.lt;clear J V Q Y av r3 ax t0 t1 t2 an ap ar ak al am ay zq;go_wp2;refine bc (v:=o7 s i) (iG results228 _ _ w.heap.size _ 259 _ rfl ?hB underlying259 rfl au) rfl ⟨rfl,?but,RS.but (i':=i) (d':=d) (e':=2) (a':=PP s i) ac.u ?xu ?hb2 ad.u⟩
 case hB=>exact ⟨_,(b4 I),by rw [n1];rfl⟩
 case but=>exact (nM R)
 case xu=>exact (nM R)
 case hb2=>exact ⟨_,(((ae.u.blk).other O _).other O _).other O _,aS⟩
theorem jB(b s tv i d a kv rv pv rm w)(A:RS w b s tv i d 0 a kv rv pv)(h:c9 (TT s i)=false):
  Calls prog 228 #[.pointer (some ⟨b,0,none⟩),.bool rm] w fun e w'=>e=.returned (o7 s i)/\But b w w'/\RS w' b s tv i d 2 (PP s i) kv rv pv:=by
 rw [lw] at h
 cases h1:bM (TT s i)
 ·exact Gp b s tv i d a kv rv pv rm w A h1
 ·rw [h1] at h;exact Ci b s tv i d a kv rv pv rm w A h1 (by simpa using h)
theorem kK(b s tv i d a kv rv pv rm w)(C:RS w b s tv i d 0 a kv rv pv)(V:c9 (TT s i)=true)(aJ:8<(TT s i).size):
  Calls prog 228 #[.pointer (some ⟨b,0,none⟩),.bool rm] w fun e w'=>e=.returned (o7 s i)/\But b w w'/\RS w' b s tv i d 3 (PP s i) kv rv pv:=by
 have ae:=ai C.gd;rw [lw,bO] at V;obtain ⟨n1,n2⟩:=V;have aO:((TT s i).toList== [116,121,112,101])=false:=by simpa using n2
 clear n2;have ah:(8:Int)<((TT s i).size:Int):=aj;have aI:decide ((8:Int)<((TT s i).size:Int))=true:=by simpa using ah
 have ad:=ai C;have aK:=C.gd.le;have hs:=C.sz;have aL:=C.lt;have H:=ai (C.below (ba.alloc az fF));have D:=ai (aB.new w #[.string ⟨#[]⟩,.int .i64 0,.bool false] 259);have ab:=ai (But.of_below (b:=b) ((aw _ w).alloc az fF));clear C;go_enter func228,ntmps228;go_wp2_with fail;generalize w.alloc fF=W at*;obtain ⟨g,c,e0,hi,t0,t1,t2⟩:=H.u.at;obtain ⟨Q,Z,ay,r3,aA,_⟩:=H.u.blk.eight;obtain ⟨ar,av,ax⟩:=D.u.three;have aE:=ai H.u.blk;have aC:=H.u.blk.fz;have zq:=D.u.fz;have aH:=H.u.lt;have aM:=D.u.lt;rw [e0] at Q;have aD:=ai e0;clear e0;have aG:=cI t0;have ac:=ai (aw W.heap.size W);have am:=bj W _ Q;have an:=bj W _ Z;have ap:=bj W _ t0;have ak:¬(w.heap.size=b):=aj;have O:¬(b=w.heap.size):=aj
 go_region_held3 (fun w'=>w'.cell? ⟨b,0,none⟩=some (.slice (some ⟨g,0,none⟩) (g2 s).length c)/\w'.cell? ⟨b,1,none⟩=some (.int .i64 i)/\w'.cell? ⟨g,i*3,none⟩=some (.string (TT s i))/\w'.cell? ⟨g,i*3+1,none⟩=some (.int .i64 (PP s i))/\w'.cell? ⟨g,i*3+2,none⟩=some (.bool (bM (TT s i)))) (go_keep) (fail)
 rename_i ag;clear ag;go_wp2_with fail;refine (lu b s tv i d a kv rv pv 3 _ ?rs).mono ?_
 case rs=>exact H.u.below (bB ac)
 rintro e aU ⟨rfl,J,Y⟩;have al:¬(W.heap.size=b):=aj;have I:=ai (aB.but ((b4 D)) J ak);have U:=ai (aB.but (aB.new W #[.string (TT s i),.int .i64 (PP s i),.bool true] 259).drew J al);have R:=ai ((show But b w _ from (cL ab)).trans J);have af:=ai Y;obtain ⟨aP,p1,p2⟩:=I.u.three;obtain ⟨aQ,aR,aT⟩:=U.u.three;have aW:=I.u.fz;have lp:=U.u.lt;have aN:=I.u.lt;clear J Y Q Z ay r3 aA t0 t1 t2 ar av ax am an ap aC zq;go_wp2;refine bc (v:=o7 s i) (iG results228 _ _ w.heap.size _ 259 _ rfl ?hB underlying259 rfl au) rfl ⟨rfl,?but,RS.but (i':=i) (d':=d) (e':=3) (a':=PP s i) ad.u ?xu ?hb2 ae.u⟩
 case hB=>exact ⟨_,(b4 I),by rw [n1];rfl⟩
 case but=>exact (nM R)
 case xu=>exact (nM R)
 case hb2=>exact ⟨_,(((af.u.blk).other O _).other O _).other O _,aS⟩
theorem Cj(b s tv i d a kv rv pv rm w)(C:RS w b s tv i d 0 a kv rv pv)(V:c9 (TT s i)=true)(aI:(TT s i).size<=8)(al:rm=false):
  Calls prog 228 #[.pointer (some ⟨b,0,none⟩),.bool rm] w fun e w'=>e=.returned (o7 s i)/\But b w w'/\RS w' b s tv i d 3 (PP s i) kv rv pv:=by
 have ae:=ai C.gd;rw [lw,bO] at V;obtain ⟨n1,n2⟩:=V;have aO:((TT s i).toList== [116,121,112,101])=false:=by simpa using n2
 clear n2;have aJ:¬((8:Int)<((TT s i).size:Int)):=aj;subst al;have ad:=ai C;have aK:=C.gd.le;have hs:=C.sz;have aL:=C.lt;have H:=ai (C.below (ba.alloc az fF));have D:=ai (aB.new w #[.string ⟨#[]⟩,.int .i64 0,.bool false] 259);have ab:=ai (But.of_below (b:=b) ((aw _ w).alloc az fF));clear C;go_enter func228,ntmps228;go_wp2_with fail;generalize w.alloc fF=W at*;obtain ⟨g,c,e0,hi,t0,t1,t2⟩:=H.u.at;obtain ⟨Q,Z,ay,r3,aA,_⟩:=H.u.blk.eight;obtain ⟨ar,av,ax⟩:=D.u.three;have aE:=ai H.u.blk;have aC:=H.u.blk.fz;have zq:=D.u.fz;have aH:=H.u.lt;have aM:=D.u.lt;rw [e0] at Q;have aD:=ai e0;clear e0;have aG:=cI t0;have ac:=ai (aw W.heap.size W);have am:=bj W _ Q;have an:=bj W _ Z;have ap:=bj W _ t0;have ah:¬(w.heap.size=b):=aj;have O:¬(b=w.heap.size):=aj
 go_region_held3 (fun w'=>w'.cell? ⟨b,0,none⟩=some (.slice (some ⟨g,0,none⟩) (g2 s).length c)/\w'.cell? ⟨b,1,none⟩=some (.int .i64 i)/\w'.cell? ⟨g,i*3,none⟩=some (.string (TT s i))/\w'.cell? ⟨g,i*3+1,none⟩=some (.int .i64 (PP s i))/\w'.cell? ⟨g,i*3+2,none⟩=some (.bool (bM (TT s i)))) (go_keep) (fail)
 rename_i ag;clear ag;go_wp2_with fail;refine (lu b s tv i d a kv rv pv 3 _ ?rs).mono ?_
 case rs=>exact H.u.below (bB ac)
 rintro e aU ⟨rfl,J,Y⟩;have ak:¬(W.heap.size=b):=aj;have I:=ai (aB.but ((b4 D)) J ah);have U:=ai (aB.but (aB.new W #[.string (TT s i),.int .i64 (PP s i),.bool true] 259).drew J ak);have R:=ai ((show But b w _ from (cL ab)).trans J);have af:=ai Y;obtain ⟨aP,p1,p2⟩:=I.u.three;obtain ⟨aQ,aR,aT⟩:=U.u.three;have aW:=I.u.fz;have lp:=U.u.lt;have aN:=I.u.lt;clear J Y Q Z ay r3 aA t0 t1 t2 ar av ax am an ap aC zq;go_wp2;refine bc (v:=o7 s i) (iG results228 _ _ w.heap.size _ 259 _ rfl ?hB underlying259 rfl au) rfl ⟨rfl,?but,RS.but (i':=i) (d':=d) (e':=3) (a':=PP s i) ad.u ?xu ?hb2 ae.u⟩
 case hB=>exact ⟨_,(b4 I),by rw [n1];rfl⟩
 case but=>exact (nM R)
 case xu=>exact (nM R)
 case hb2=>exact ⟨_,(((af.u.blk).other O _).other O _).other O _,aS⟩
abbrev s3:=@Obj.cells.injEq
abbrev bA:=@List.mem_cons
abbrev fG:=@List.not_mem_nil
abbrev fH:=@or_false
abbrev iZ:=@step_append_lies
abbrev ct(a0:Int)(a1:Option Addr)(a2:Nat)(a3:Nat)(a4:ae)(a5:ae)(a6:Int)(a7:Int)(a8:Option Addr)(a9:Nat)(a10:Nat)(a11:Option Addr)(a12:Nat)(a13:Nat):Obj:=.cells #[.int .i64 a0,.slice a1 a2 a3,.string a4,.string a5,.int .i64 a6,.int .i64 a7,.slice a8 a9 a10,.slice a11 a12 a13] 255
def eW (A:aF:=by
 simp [Act.eval,Act.put]):aF:=A
def JE (A:aF:=by
 have:=hB.size;omega):aF:=A
def Ck (A:aF:=by
 rw [cX,bo]
 simpa using this):aF:=A
structure PV where
 kind:Nat
 gs:List Gr
 nb:ae
 nr:ae
 pa:Nat
 pr:Nat
 ps:List Nat
 sg:List Tk
abbrev PX:=PV×ag×ag×ag
def b9(g:Gr):ae:=if g.reach=1 then sg 42 else g.rel
def bK(g:Gr):List ag:=[.string g.ty,.string (b9 g),.int .i64 g.tp,.int .i64 g.rp]
def ki(x:PX):List ag:=[.int .i64 x.1.kind,x.2.1,.string x.1.nb,.string x.1.nr,.int .i64 x.1.pa,.int .i64 x.1.pr,x.2.2.1,x.2.2.2]
structure kj(w:af)(x:PX):Prop where
 g:w.ownsRow 0 257 4 x.2.1 x.1.gs.length (x.1.gs.flatMap bK)
 p:w.ownsRow 0 3 1 x.2.2.1 x.1.ps.length (x.1.ps.map fun n:Nat=> .int .i64 n)
 s:w.ownsRow 0 259 3 x.2.2.2 x.1.sg.length (br x.1.sg)
structure PT(base:Nat)(w:af)(pv:ag)(pl:List PV)(l:List PX):Prop where
 fst:l.map Prod.fst=pl
 row:w.ownsRow base 255 8 pv pl.length (l.flatMap ki)
 rep:∀x∈l,kj w x
def jh(B:Nat)(x:PX):Prop:=∀g,(x.2.1.ownBlock=some g\/x.2.2.1.ownBlock=some g\/x.2.2.2.ownBlock=some g)->B<=g
theorem jh.mono{C x}(h:jh B x)(k:C<=B):jh C x:=fun g A=>aL k (h g A)
theorem ni(B p):jh B (p,.slice none 0 0,.slice none 0 0,.slice none 0 0):=fun g h=>by
 rcases h with h|h|h<;>cases h
structure Fr(base b:Nat)(w w':af)(pv pv':ag):Prop where
 below:Below base w w'
 keep:∀g,g<w.heap.size->g≠b->pv.ownBlock≠some g->w'.heap[g]? =w.heap[g]?
 own:∀g,pv'.ownBlock=some g->pv.ownBlock=some g\/w.heap.size<=g
theorem Fr.trans{w2 p p1 p2}(h:Fr base b w w1 p p1)(k:Fr base b w1 w2 p1 p2):Fr base b w w2 p p2:=by
 refine ⟨h.below.trans k.below,fun g A C D=> ?_,fun g A=> ?_⟩
 ·refine (k.keep g (cg A h.below.size) C (fun e=> ?_)).trans (h.keep g A C D)
  rcases h.own g e with e|e
  ·exact D e
  omega
 rcases k.own g A with e|e
 ·exact h.own g e
 exact .inr (aL h.below.size e)
theorem Fr.of_below(h:Below w.heap.size w w')(A:base<=w.heap.size):Fr base b w w' pv pv:=⟨h.mono A,fun g C _ _=>h.block g C,fun g e=> .inl e⟩
theorem Fr.of_but(h:But b w w')(A:base<=b)(I:base<=w.heap.size):Fr base b w w' pv pv:=⟨h.below A I,fun g D C _=>h.block g D C,fun g e=> .inl e⟩
theorem gC(h:w.ownsRow base T size v n xs){f:Nat×Nat}(A:w.heap[g]? =some (.cells cs T' f))(C:T'≠T):v.ownBlock≠some g:=fun e=>eo h A C e.symm
theorem Fr.row(C:Fr base b w w' pv pv'){bs}(k:w.ownsRow bs T size v n xs)(A:aB w b cs 252){pb pn px}(D:w.ownsRow pb 255 8 pv pn px)(h1:T≠252)(h2:T≠255):w'.ownsRow bs T size v n xs:=
 ax k (fun g cs f _ h=>C.keep g (lt_of_some h) (fun e=>by
  subst e;unfold aB at A;rw [A] at h;simp only [aK,s3] at h;exact h1 h.2.1.symm) (gC D h h2))
theorem kj.frame(C:Fr base b w w' pv pv'){x}(k:kj w x)(D:aB w b cs 252){pb pn px}(I:w.ownsRow pb 255 8 pv pn px):kj w' x:=
 ⟨C.row k.g D I ar ar,C.row k.p D I ar ar,C.row k.s D I ar ar⟩
theorem Fr.blk(h:Fr base b w w' pv pv')(k:aB w g cs T)(A:g≠b)(C:pv.ownBlock≠some g):aB w' g cs T:=(h.keep g k.lt A C).trans k
theorem bX(h:w.ownsRow base e size v n xs):w.drew.ownsRow base e size v n xs:=h
theorem Tryz.infoPt:(Tryz.prog.info? 255).map (fun i=>(i.zero,i.size,i.bytes))=some (some (.agg #[.int .i64 0,.slice none 0 0,.string ⟨#[]⟩,.string ⟨#[]⟩,.int .i64 0,.int .i64 0,.slice none 0 0,.slice none 0 0]),8,128):=by kernel_rfl
def zn(base b:Nat)(s:ae)(tv:ag)(i d e0 a:Nat)(kv rv pv:ag)(pl:List PV)(l:List PX)(x:PX)(w:af)(e:Ending)(w':af):Prop:=
 ∃pv',e=.returned (.int .i64 pl.length)/\Fr base b w w' pv pv'/\RS w' b s tv i d e0 a kv rv pv'/\PT base w' pv' (pl++[x.1]) (l++[x])
variable {pl:List PV} {l:List PX}
theorem Cl{e0 x va vc}(C:RS w b s tv i d e0 a kv rv (.slice va pl.length vc))(D:PT base w (.slice va pl.length vc) pl l)(Y:kj w x)(ad:base<=b)(U:base<=w.heap.size)(hB:Below w.heap.size w W)(Q:(W.alloc o).drew.grownBy w5 (Value.slice va pl.length vc).ownBlock)(Z:w5.ownsRow base 255 8 (.slice (some ⟨g5,0,none⟩) (pl.length+1) aV) (pl.length+1) (l.flatMap ki++ki x))(V:(Value.slice va pl.length vc).ownBlock=some g5\/g5=W.heap.size+1)(R:aB w5 b #[tv,.int .i64 i,.int .i64 d,.int .i64 e0,.int .i64 a,kv,rv,.slice va pl.length vc] 252):
  zn base b s tv i d e0 a kv rv (.slice va pl.length vc) pl l x w (.returned (.int .i64 pl.length)) (w5.setCell ⟨b,7,none⟩ (.slice (some ⟨g5,0,none⟩) (pl.length+1) aV)):=by
 have I:Below w.heap.size w (W.alloc o).drew:=(hB.alloc hB.size o).drew;have ab:(W.alloc o).drew.ownsRow base 255 8 (.slice va pl.length vc) pl.length (l.flatMap ki):=ax D.row (fun g cs f _ ae=>I.block g (lt_of_some ae));have fr:Fr base b w (w5.setCell ⟨b,7,none⟩ (.slice (some ⟨g5,0,none⟩) (pl.length+1) aV)) (.slice va pl.length vc) (.slice (some ⟨g5,0,none⟩) (pl.length+1) aV):=by
  refine ⟨(dc (I.mono U) Q (aL U I.size) (fun k af=>(ab.lt k af).1)).setCell ad _,fun g J ac ag=> ?_,fun g J=> ?_⟩
  ·exact (dP _ _ _ _ ac).trans ((Q.block g (cg J I.size) (fun e=>ag e.symm)).trans (I.block g J))
  simp only [Value.ownBlock,aK] at J
  rcases V with e|e
  ·exact .inl (by rw [e,J])
  exact .inr JE
 refine ⟨_,rfl,fr,⟨R.set 7 _,fr.row C.tok C.blk D.row ar ar,C.gd,⟨C.fm.1,C.fm.2.1,_,_,_,rfl⟩,C.sz⟩,⟨by rw [List.map_append,D.fst];rfl,?_,fun y O=> ?_⟩⟩
 ·have:=bJ Z R ar 7 (.slice (some ⟨g5,0,none⟩) (pl.length+1) aV);exact Ck
 ·rw [aT,aR] at O
  rcases O with O|rfl
  ·exact (D.rep y O).frame fr C.blk D.row
  exact Y.frame fr C.blk D.row
theorem eL(base b s tv i d e0 a kv rv pv pl l p ga gc pa pc sa sc w)(J:RS w b s tv i d e0 a kv rv pv)(O:PT base w pv pl l)(ag:kj w (p,.slice ga p.gs.length gc,.slice pa p.ps.length pc,.slice sa p.sg.length sc))(aZ:pl.length<=2000)(aR:base<=w.heap.size)(aQ:base<=b):
  Calls prog 252 #[.pointer (some ⟨b,0,none⟩),.agg #[.int .i64 p.kind,.slice ga p.gs.length gc,.string p.nb,.string p.nr,.int .i64 p.pa,.int .i64 p.pr,.slice pa p.ps.length pc,.slice sa p.sg.length sc]] w
   (zn base b s tv i d e0 a kv rv pv pl l (p,.slice ga p.gs.length gc,.slice pa p.ps.length pc,.slice sa p.sg.length sc) w):=by
 obtain ⟨i0,hi,ah,ak,al⟩:=bH Tryz.infoPt;have aG:=ai hi;have aM:=ai ah;have aN:=ai ak;have aO:=ai al;clear hi ah ak al;have av:=ai J;have aK:=ai O;have aL:=ai ag;obtain ⟨U,V,rfl⟩:=ay O.row;have b1:=(aw _ w).alloc az (ct p.kind ga p.gs.length gc p.nb p.nr p.pa p.pr pa p.ps.length pc sa p.sg.length sc);have H:=ai (J.below b1);have Y:=ai (show (w.alloc (ct p.kind ga p.gs.length gc p.nb p.nr p.pa p.pr pa p.ps.length pc sa p.sg.length sc)).ownsRow base 255 8 (.slice U pl.length V) pl.length (l.flatMap ki) from ax O.row (fun g cs f _ aS=>b1.block g (lt_of_some aS)));have Q:=aB.new w #[.int .i64 p.kind,.slice ga p.gs.length gc,.string p.nb,.string p.nr,.int .i64 p.pa,.int .i64 p.pr,.slice pa p.ps.length pc,.slice sa p.sg.length sc] 255;have ap:=ai b1;have ba:=J.lt;have aX:w.heap.size<(w.alloc (ct p.kind ga p.gs.length gc p.nb p.nr p.pa p.pr pa p.ps.length pc sa p.sg.length sc)).heap.size:=an;clear J O ag b1;go_enter func252,ntmps252;go_wp2_with fail;generalize w.alloc (ct p.kind ga p.gs.length gc p.nb p.nr p.pa p.pr pa p.ps.length pc sa p.sg.length sc)=W at*;obtain ⟨br,bs,bt,r3,bu,bv,bw,aT⟩:=H.u.blk.eight;obtain ⟨aU,bx,bz,bB,bC,bD,bF,bG⟩:=Q.eight;have D:=H.u.blk;have bc:=D.fz;have aW:=ai Q;have bf:=bj W _ aT;have bg:=bj W _ aU;have c7:(W.alloc (ct p.kind ga p.gs.length gc p.nb p.nr p.pa p.pr pa p.ps.length pc sa p.sg.length sc)).cell? ⟨b,7,none⟩=some (.slice U pl.length V):=(D.alloc _).cell rfl;have bb:¬(b=W.heap.size):=by have:=D.lt;omega
 have aC:=ai D;clear Q D;have aI:=ai (show ∀u∈ki (p,.slice ga p.gs.length gc,.slice pa p.ps.length pc,.slice sa p.sg.length sc),u.oneCell'=true from by
  intro u af;simp only [ki,bA,fG,fH] at af
  rcases af with rfl|rfl|rfl|rfl|rfl|rfl|rfl|rfl<;>rfl)
 have ab:pl.length+1<=maxLen:=by unfold maxLen;omega
 have ad:(pl.length+1)*128<=140737488355328:=aj;have aJ:=ai (show base<=(W.alloc (ct p.kind ga p.gs.length gc p.nb p.nr p.pa p.pr pa p.ps.length pc sa p.sg.length sc)).drew.heap.size from by
  have:=((aw _ W).alloc az (ct p.kind ga p.gs.length gc p.nb p.nr p.pa p.pr pa p.ps.length pc sa p.sg.length sc)).drew.size;omega)
 have aE:=ai (show (W.alloc (ct p.kind ga p.gs.length gc p.nb p.nr p.pa p.pr pa p.ps.length pc sa p.sg.length sc)).drew.heap.size=W.heap.size+1 from an);have aA:=ai ab;have aD:=ai ad;clear ab ad
 go_region_law (refine iZ _ rfl (.tmp 10) (.tmp 12) 166 rfl base 255 i0 _ 8 128 underlying166 aG.u aM.u aN.u aO.u rfl ar (.slice U pl.length V) pl.length (l.flatMap ki) eW (bX (Y.u.alloc _)) ⟨W.heap.size,0,none⟩ 1 1 (ki (p,.slice ga p.gs.length gc,.slice pa p.ps.length pc,.slice sa p.sg.length sc)) eW rfl (bE (B:=W.heap.size) (cs:=#[.int .i64 p.kind,.slice ga p.gs.length gc,.string p.nb,.string p.nr,.int .i64 p.pa,.int .i64 p.pr,.slice pa p.ps.length pc,.slice sa p.sg.length sc]) (t:=255) (fr:=(0,0)) (aB.new W _ _).drew) aI.u ar aA.u aD.u aJ.u (W.heap.size+1) aE.u ?_;intro g5 aV w5 ae R ac aY;have Z:=bX (Y.u.alloc (ct p.kind ga p.gs.length gc p.nb p.nr p.pa p.pr pa p.ps.length pc sa p.sg.length sc));have I:=(aC.u.alloc (ct p.kind ga p.gs.length gc p.nb p.nr p.pa p.pr pa p.ps.length pc sa p.sg.length sc)).drew;have C:aB w5 b _ 252:=(R.block b I.lt (own_ne Z I ar)).trans I;obtain ⟨bh,bi,bk,bl,bn,bo,bp,bq⟩:=C.eight;have zq:=C.fz;have aH:=ai C;have au:=ai R;have aP:=ai ae;have am:=ai ac;have be:=C.lt;clear Z I C R ae ac)
 all_goals
  go_wp2;go_ret;exact Cl av.u aK.u aL.u aQ aR ap.u au.u aP.u am.u aH.u
abbrev xv:=@ownsRow_setCell_other
abbrev ep(a0:ae)(a1:Int)(a2:Bool):Obj:=.cells #[.string a0,.int .i64 a1,.bool a2] 259
def PR (bI:aF:=by
 cases hn:c9 (TT s (j+1))
 ·have af:cW (TT s) (PP s) (j+1)=.error (2,j+1):=by unfold cW cE;rw [hn];rfl
  rw [nj _ _ _ _ _ _ af] at u3;clear af;refine (jB b s tv (j+1) d a kv rv pv true _ L1.u.rs hn).mono ?_;rintro e D ⟨rfl,aZ,a3⟩;have V:=ai (L1.u.step hlt aZ a3 az);have ad:=ai (aw D.heap.size D);have bF:=V.u.box.lt;have aU:=ai (show (Value.slice ga gs.length gc).ownBlock≠some (D.heap.size+1) from fun e=>by have:=(V.u.row.lt _ e).2;omega);clear aZ a3 L1;unfold o7;go_wp2_with fail;refine (iC b s tv (j+1) d 2 (PP s (j+1)) kv rv pv (sg 42) _ ?_ ar).mono ?_
  ·exact (V.u.below (bB ad)).rs
  rintro e bn ⟨rfl,ab⟩;have aJ:=ai ((aB.new' (D.alloc (ep (TT s (j+1)) (PP s (j+1)) (bM (TT s (j+1))))) #[.string (TT s (j+1)),.string ⟨#[]⟩,.int .i64 (PP s (j+1)),.int .i64 0] 257 (D.heap.size+1) an).below ab);have Z:=ai ((V.u.below (bB ad)).below ab);clear ab V ad;go_wp2_with fail;refine (iC b s tv (j+1) d 2 (PP s (j+1)) kv rv pv (sg 35) _ Z.u.rs ar).mono ?_;rintro e w4 ⟨rfl,ac⟩;have I:=ai (Z.u.below ac);have O:=ai (aJ.u.below ac);clear ac aJ Z;obtain ⟨am,p1,p2,ap,au,av,ax,ay⟩:=I.u.box.eight;have aH:=I.u.box.fz;obtain ⟨g0,ag,ah,al⟩:=O.u.four;have aG:=O.u.fz;obtain ⟨aA,aC,aD,r3,aE,_⟩:=I.u.rs.blk.eight;have aI:=I.u.rs.blk.fz;have n1:¬(D.heap.size+1=b):=aj;have n2:¬(b=D.heap.size+1):=aj;have a5:¬(w.heap.size=b):=aj;have a6:¬(b=w.heap.size):=aj;have a7:¬(w.heap.size=D.heap.size+1):=aj;have a8:¬(D.heap.size+1=w.heap.size):=aj;have J:=I;clear hn;have bb:=J.u.len;have aO:=ai J.u.row;have aT:=J.u.but.size;go_wp2_with (at_builtin;go_must (refine bD _ rfl _ _ 253 rfl w.heap.size 257 i0 _ 4 48 underlying253 HI.u EG.u EH.u EI.u rfl ar (.slice ga gs.length gc) gs.length (gs.flatMap bK) rfl ?_ ⟨w4.heap.size,0,none⟩ 1 1 (bK ⟨TT s (j+1),PP s (j+1),0,em,0⟩) rfl rfl ?_ ?_ ar ?_ ?_ ?_ (w4.heap.size+1) ?_ ?_))
  ·exact aO.u.alloc _
  ·exact Cm
  ·exact ou
  ·unfold maxLen;omega
  ·omega
  ·simp at aT ⊢;omega
  ·simp
  intro g5 aV w5 Y U aQ a9;obtain ⟨aR,aS,Q⟩:=iJ J.u U;have aN:=ai (jC (gr:=⟨TT s (j+1),PP s (j+1),0,em,0⟩) J.u hlt U Y aj false);obtain ⟨be,bf,bg,bh,bi,bj,bk,bl⟩:=Q.eight;have zq:=Q.fz;have bc:=Q.lt;clear aR aS Q Y U aQ am p1 p2 ap au av ax ay aH g0 ag ah al aG aA aC aD r3 aE aI;go_wp2
  go_roundg fu
  case measure=>omega
  case rel=>
   have aP:=ai (show PS (TT s) (PP s) i a R fu false (j+1) 2 (PP s (j+1)) (gs++[⟨TT s (j+1),PP s (j+1),0,em,0⟩]) from .inr (.inr ⟨rfl,ar,by have:=PW.u;omega,j+1,rfl,(ak u3).symm⟩));refine ⟨false,j+1,2,PP s (j+1),gs++[⟨TT s (j+1),PP s (j+1),0,em,0⟩],some ⟨g5,0,none⟩,aV,rfl,?_,aj,aP⟩
   with_reducible exact aN.u
 by_cases hl:8<(TT s (j+1)).size
 ·have af:cW (TT s) (PP s) (j+1)=.error (3,j+1):=by unfold cW cE;rw [hn,if_pos rfl,if_pos hl]
  rw [nj _ _ _ _ _ _ af] at u3;clear af;refine (kK b s tv (j+1) d a kv rv pv true _ L1.u.rs hn hl).mono ?_;rintro e D ⟨rfl,aZ,a3⟩;have V:=ai (L1.u.step hlt aZ a3 az);have ad:=ai (aw D.heap.size D);have bF:=V.u.box.lt;have aU:=ai (show (Value.slice ga gs.length gc).ownBlock≠some (D.heap.size+1) from fun e=>by have:=(V.u.row.lt _ e).2;omega);clear aZ a3 L1;unfold o7;go_wp2_with fail;refine (iC b s tv (j+1) d 3 (PP s (j+1)) kv rv pv (sg 42) _ ?_ ar).mono ?_
  ·exact (V.u.below (bB ad)).rs
  rintro e bn ⟨rfl,ab⟩;have aJ:=ai ((aB.new' (D.alloc (ep (TT s (j+1)) (PP s (j+1)) (bM (TT s (j+1))))) #[.string (TT s (j+1)),.string ⟨#[]⟩,.int .i64 (PP s (j+1)),.int .i64 0] 257 (D.heap.size+1) an).below ab);have Z:=ai ((V.u.below (bB ad)).below ab);clear ab V ad;go_wp2_with fail;refine (iC b s tv (j+1) d 3 (PP s (j+1)) kv rv pv (sg 35) _ Z.u.rs ar).mono ?_;rintro e w4 ⟨rfl,ac⟩;have I:=ai (Z.u.below ac);have O:=ai (aJ.u.below ac);clear ac aJ Z;obtain ⟨am,p1,p2,ap,au,av,ax,ay⟩:=I.u.box.eight;have aH:=I.u.box.fz;obtain ⟨g0,ag,ah,al⟩:=O.u.four;have aG:=O.u.fz;obtain ⟨aA,aC,aD,r3,aE,_⟩:=I.u.rs.blk.eight;have aI:=I.u.rs.blk.fz;have n1:¬(D.heap.size+1=b):=aj;have n2:¬(b=D.heap.size+1):=aj;have a5:¬(w.heap.size=b):=aj;have a6:¬(b=w.heap.size):=aj;have a7:¬(w.heap.size=D.heap.size+1):=aj;have a8:¬(D.heap.size+1=w.heap.size):=aj;have J:=I;clear hn;have bb:=J.u.len;have aO:=ai J.u.row;have aT:=J.u.but.size;go_wp2_with (at_builtin;go_must (refine bD _ rfl _ _ 253 rfl w.heap.size 257 i0 _ 4 48 underlying253 HI.u EG.u EH.u EI.u rfl ar (.slice ga gs.length gc) gs.length (gs.flatMap bK) rfl ?_ ⟨w4.heap.size,0,none⟩ 1 1 (bK ⟨TT s (j+1),PP s (j+1),0,em,0⟩) rfl rfl ?_ ?_ ar ?_ ?_ ?_ (w4.heap.size+1) ?_ ?_))
  ·exact aO.u.alloc _
  ·exact Cm
  ·exact ou
  ·unfold maxLen;omega
  ·omega
  ·simp at aT ⊢;omega
  ·simp
  intro g5 aV w5 Y U aQ a9;obtain ⟨aR,aS,Q⟩:=iJ J.u U;have aN:=ai (jC (gr:=⟨TT s (j+1),PP s (j+1),0,em,0⟩) J.u hlt U Y aj false);obtain ⟨be,bf,bg,bh,bi,bj,bk,bl⟩:=Q.eight;have zq:=Q.fz;have bc:=Q.lt;clear aR aS Q Y U aQ am p1 p2 ap au av ax ay aH g0 ag ah al aG aA aC aD r3 aE aI;go_wp2
  go_roundg fu
  case measure=>omega
  case rel=>
   have aP:=ai (show PS (TT s) (PP s) i a R fu false (j+1) 3 (PP s (j+1)) (gs++[⟨TT s (j+1),PP s (j+1),0,em,0⟩]) from .inr (.inr ⟨rfl,ar,by have:=PW.u;omega,j+1,rfl,(ak u3).symm⟩));refine ⟨false,j+1,3,PP s (j+1),gs++[⟨TT s (j+1),PP s (j+1),0,em,0⟩],some ⟨g5,0,none⟩,aV,rfl,?_,aj,aP⟩
   with_reducible exact aN.u
 have af:cE (TT s) (j+1)=.ok ((),j+2):=by unfold cE;rw [hn,if_pos rfl,if_neg hl]
 refine (iH b s tv (j+1) d a kv rv pv _ L1.u.rs hn aj).mono ?_;rintro e D ⟨rfl,aZ,a3⟩;have V:=ai (L1.u.step (j':=j+2) hlt aZ a3 aj);have ad:=ai (aw D.heap.size D);have bF:=V.u.box.lt;have aU:=ai (show (Value.slice ga gs.length gc).ownBlock≠some (D.heap.size+1) from fun e=>by have:=(V.u.row.lt _ e).2;omega);clear aZ a3 L1 hn hl;unfold o7
 cases ae:eqs (TT s (j+2)) (sg 42)
 ·cases aM:eqs (TT s (j+2)) (sg 35)
  ·have aL:cW (TT s) (PP s) (j+1)=.ok (⟨TT s (j+1),PP s (j+1),0,em,0⟩,j+2):=by unfold cW;rw [af];simp only [ae,aM];rfl
   rw [s4 _ _ _ _ _ _ _ aL] at u3;clear af aL;go_wp2_with fail;refine (b3 b s tv (j+2) d a kv rv pv (sg 42) _ ?_ false ae).mono ?_
   ·exact (V.u.below (bB ad)).rs
   rintro e bn ⟨rfl,ab⟩;have aJ:=ai ((aB.new' (D.alloc (ep (TT s (j+1)) (PP s (j+1)) (bM (TT s (j+1))))) #[.string (TT s (j+1)),.string ⟨#[]⟩,.int .i64 (PP s (j+1)),.int .i64 0] 257 (D.heap.size+1) an).below ab);have Z:=ai ((V.u.below (bB ad)).below ab);clear ab V ad;go_wp2_with fail;refine (b3 b s tv (j+2) d a kv rv pv (sg 35) _ Z.u.rs false aM).mono ?_;rintro e w4 ⟨rfl,ac⟩;have I:=ai (Z.u.below ac);have O:=ai (aJ.u.below ac);clear ac aJ Z;clear ae aM;obtain ⟨am,p1,p2,ap,au,av,ax,ay⟩:=I.u.box.eight;have aH:=I.u.box.fz;obtain ⟨g0,ag,ah,al⟩:=O.u.four;have aG:=O.u.fz;obtain ⟨aA,aC,aD,r3,aE,_⟩:=I.u.rs.blk.eight;have aI:=I.u.rs.blk.fz;have n1:¬(D.heap.size+1=b):=aj;have n2:¬(b=D.heap.size+1):=aj;have a5:¬(w.heap.size=b):=aj;have a6:¬(b=w.heap.size):=aj;have a7:¬(w.heap.size=D.heap.size+1):=aj;have a8:¬(D.heap.size+1=w.heap.size):=aj;have J:=I;have bb:=J.u.len;have aO:=ai J.u.row;have aT:=J.u.but.size;go_wp2_with (at_builtin;go_must (refine bD _ rfl _ _ 253 rfl w.heap.size 257 i0 _ 4 48 underlying253 HI.u EG.u EH.u EI.u rfl ar (.slice ga gs.length gc) gs.length (gs.flatMap bK) rfl ?_ ⟨w4.heap.size,0,none⟩ 1 1 (bK ⟨TT s (j+1),PP s (j+1),0,em,0⟩) rfl rfl ?_ ?_ ar ?_ ?_ ?_ (w4.heap.size+1) ?_ ?_))
   ·exact aO.u.alloc _
   ·exact Cm
   ·exact ou
   ·unfold maxLen;omega
   ·omega
   ·simp at aT ⊢;omega
   ·simp
   intro g5 aV w5 Y U aQ a9;obtain ⟨aR,aS,Q⟩:=iJ J.u U;have aN:=ai (jC (gr:=⟨TT s (j+1),PP s (j+1),0,em,0⟩) J.u hlt U Y aj false);obtain ⟨be,bf,bg,bh,bi,bj,bk,bl⟩:=Q.eight;have zq:=Q.fz;have bc:=Q.lt;clear aR aS Q Y U aQ am p1 p2 ap au av ax ay aH g0 ag ah al aG aA aC aD r3 aE aI;go_wp2
   go_roundg fu
   case measure=>omega
   case rel=>
    have aP:=ai (show PS (TT s) (PP s) i a R fu false (j+2) 0 (a) (gs++[⟨TT s (j+1),PP s (j+1),0,em,0⟩]) from .inr (.inl ⟨rfl,rfl,rfl,by have:=PW.u;omega,ak u3⟩));refine ⟨false,j+2,0,a,gs++[⟨TT s (j+1),PP s (j+1),0,em,0⟩],some ⟨g5,0,none⟩,aV,rfl,?_,aj,aP⟩
    with_reducible exact aN.u
  have bo:=ai (show Gd s (j+2+1) from V.u.rs.gd.succ (cG aM ar));go_wp2_with fail;refine (b3 b s tv (j+2) d a kv rv pv (sg 42) _ ?_ false ae).mono ?_
  ·exact (V.u.below (bB ad)).rs
  rintro e bn ⟨rfl,ab⟩;have aJ:=ai ((aB.new' (D.alloc (ep (TT s (j+1)) (PP s (j+1)) (bM (TT s (j+1))))) #[.string (TT s (j+1)),.string ⟨#[]⟩,.int .i64 (PP s (j+1)),.int .i64 0] 257 (D.heap.size+1) an).below ab);have Z:=ai ((V.u.below (bB ad)).below ab);clear ab V ad;go_wp2_with fail;refine (b3 b s tv (j+2) d a kv rv pv (sg 35) _ Z.u.rs true aM).mono ?_;rintro e w4 ⟨rfl,ac⟩;have I:=ai (Z.u.below ac);have O:=ai (aJ.u.below ac);clear ac aJ Z;obtain ⟨am,p1,p2,ap,au,av,ax,ay⟩:=I.u.box.eight;have aH:=I.u.box.fz;obtain ⟨g0,ag,ah,al⟩:=O.u.four;have aG:=O.u.fz;obtain ⟨aA,aC,aD,r3,aE,_⟩:=I.u.rs.blk.eight;have aI:=I.u.rs.blk.fz;have n1:¬(D.heap.size+1=b):=aj;have n2:¬(b=D.heap.size+1):=aj;have a5:¬(w.heap.size=b):=aj;have a6:¬(b=w.heap.size):=aj;have a7:¬(w.heap.size=D.heap.size+1):=aj;have a8:¬(D.heap.size+1=w.heap.size):=aj;go_wp2_with fail;have aW:=ai (show uV b s tv d kv rv pv i w (w4.setCell ⟨b,1,none⟩ (.int .i64 ((j:Int)+2+1))) _ (j+3) 0 a gs ga gc from I.u.inc' hlt bo.u ((j:Int)+2+1) aj);have aX:=ai (show aB (w4.setCell ⟨b,1,none⟩ (.int .i64 ((j:Int)+2+1))) (D.heap.size+1) #[.string (TT s (j+1)),.string ⟨#[]⟩,.int .i64 (PP s (j+1)),.int .i64 0] 257 from O.u.other n1 _);generalize w4.setCell ⟨b,1,none⟩ (.int .i64 ((j:Int)+2+1))=bJ at*;clear am p1 p2 ap au av ax ay aH g0 ag ah al aG aA aC aD r3 aE aI I O
  cases aY:c9 (TT s (j+3))
  ·have aL:cW (TT s) (PP s) (j+1)=.error (2,j+3):=by unfold cW;rw [af];simp only [ae,aM,cE,aY];rfl
   rw [nj _ _ _ _ _ _ aL] at u3;clear af aL ae aM;refine (jB b s tv (j+3) d a kv rv pv true _ aW.u.rs aY).mono ?_;rintro e w4 ⟨rfl,aK,a4⟩;have I:=ai (aW.u.step (j':=j+3) hlt aK a4 aj);have O:=ai (aX.u.but aK n1);have bG:=aK.size;have bH:=aX.u.lt;have bq:=ai (aw w4.heap.size w4);clear aK a4 aW aX;unfold o7;obtain ⟨am,p1,p2,ap,au,av,ax,ay⟩:=I.u.box.eight;have aH:=I.u.box.fz;obtain ⟨g0,ag,ah,al⟩:=O.u.four;have aG:=O.u.fz;obtain ⟨aA,aC,aD,r3,aE,_⟩:=I.u.rs.blk.eight;have aI:=I.u.rs.blk.fz;have n1:¬(D.heap.size+1=b):=aj;have n2:¬(b=D.heap.size+1):=aj;have a5:¬(w.heap.size=b):=aj;have a6:¬(b=w.heap.size):=aj;have a7:¬(w.heap.size=D.heap.size+1):=aj;have a8:¬(D.heap.size+1=w.heap.size):=aj;have br:=O.u.lt;have bs:=I.u.box.lt;have bt:=I.u.rs.lt;have bx:¬(w4.heap.size=D.heap.size+1):=aj;have bz:¬(D.heap.size+1=w4.heap.size):=aj;have bC:¬(w4.heap.size=w.heap.size):=aj;have bu:¬(w.heap.size=w4.heap.size):=aj;have bv:¬(w4.heap.size=b):=aj;have bw:¬(b=w4.heap.size):=aj;clear aY;have J:=ai (((I.u.far O.u n2 aj aU.u 1 (.string (TT s (j+3)))).far (O.u.set 1 _) n2 aj aU.u 3 (.int .i64 (PP s (j+3)))).below (ba.alloc az (ep (TT s (j+3)) (PP s (j+3)) (bM (TT s (j+3))))));have bb:=J.u.len;have aO:=ai J.u.row;have aT:=J.u.but.size;go_wp2_with (at_builtin;go_must (refine bD _ rfl _ _ 253 rfl w.heap.size 257 i0 _ 4 48 underlying253 HI.u EG.u EH.u EI.u rfl ar (.slice ga gs.length gc) gs.length (gs.flatMap bK) rfl ?_ ⟨w4.heap.size+1,0,none⟩ 1 1 (bK ⟨TT s (j+1),PP s (j+1),2,TT s (j+3),PP s (j+3)⟩) rfl rfl ?_ ?_ ar ?_ ?_ ?_ (w4.heap.size+1+1) ?_ ?_))
   ·exact aO.u.alloc _
   ·exact Cn
   ·exact ou
   ·unfold maxLen;omega
   ·omega
   ·simp at aT ⊢;omega
   ·simp
   intro g5 aV w5 Y U aQ a9;obtain ⟨aR,aS,Q⟩:=iJ J.u U;have aN:=ai (jC (gr:=⟨TT s (j+1),PP s (j+1),2,TT s (j+3),PP s (j+3)⟩) J.u hlt U Y aj false);obtain ⟨be,bf,bg,bh,bi,bj,bk,bl⟩:=Q.eight;have zq:=Q.fz;have bc:=Q.lt;clear aR aS Q Y U aQ am p1 p2 ap au av ax ay aH g0 ag ah al aG aA aC aD r3 aE aI;go_wp2
   go_roundg fu
   case measure=>omega
   case rel=>
    have aP:=ai (show PS (TT s) (PP s) i a R fu false (j+3) 2 (PP s (j+3)) (gs++[⟨TT s (j+1),PP s (j+1),2,TT s (j+3),PP s (j+3)⟩]) from .inr (.inr ⟨rfl,ar,by have:=PW.u;omega,j+3,rfl,(ak u3).symm⟩));refine ⟨false,j+3,2,PP s (j+3),gs++[⟨TT s (j+1),PP s (j+1),2,TT s (j+3),PP s (j+3)⟩],some ⟨g5,0,none⟩,aV,rfl,?_,aj,aP⟩
    with_reducible exact aN.u
  by_cases bp:8<(TT s (j+3)).size
  ·have aL:cW (TT s) (PP s) (j+1)=.error (3,j+3):=by unfold cW;rw [af];simp only [ae,aM,cE,aY,bp];rfl
   rw [nj _ _ _ _ _ _ aL] at u3;clear af aL ae aM;refine (kK b s tv (j+3) d a kv rv pv true _ aW.u.rs aY bp).mono ?_;rintro e w4 ⟨rfl,aK,a4⟩;have I:=ai (aW.u.step (j':=j+3) hlt aK a4 aj);have O:=ai (aX.u.but aK n1);have bG:=aK.size;have bH:=aX.u.lt;have bq:=ai (aw w4.heap.size w4);clear aK a4 aW aX;unfold o7;obtain ⟨am,p1,p2,ap,au,av,ax,ay⟩:=I.u.box.eight;have aH:=I.u.box.fz;obtain ⟨g0,ag,ah,al⟩:=O.u.four;have aG:=O.u.fz;obtain ⟨aA,aC,aD,r3,aE,_⟩:=I.u.rs.blk.eight;have aI:=I.u.rs.blk.fz;have n1:¬(D.heap.size+1=b):=aj;have n2:¬(b=D.heap.size+1):=aj;have a5:¬(w.heap.size=b):=aj;have a6:¬(b=w.heap.size):=aj;have a7:¬(w.heap.size=D.heap.size+1):=aj;have a8:¬(D.heap.size+1=w.heap.size):=aj;have br:=O.u.lt;have bs:=I.u.box.lt;have bt:=I.u.rs.lt;have bx:¬(w4.heap.size=D.heap.size+1):=aj;have bz:¬(D.heap.size+1=w4.heap.size):=aj;have bC:¬(w4.heap.size=w.heap.size):=aj;have bu:¬(w.heap.size=w4.heap.size):=aj;have bv:¬(w4.heap.size=b):=aj;have bw:¬(b=w4.heap.size):=aj;clear aY;have J:=ai (((I.u.far O.u n2 aj aU.u 1 (.string (TT s (j+3)))).far (O.u.set 1 _) n2 aj aU.u 3 (.int .i64 (PP s (j+3)))).below (ba.alloc az (ep (TT s (j+3)) (PP s (j+3)) (bM (TT s (j+3))))));have bb:=J.u.len;have aO:=ai J.u.row;have aT:=J.u.but.size;go_wp2_with (at_builtin;go_must (refine bD _ rfl _ _ 253 rfl w.heap.size 257 i0 _ 4 48 underlying253 HI.u EG.u EH.u EI.u rfl ar (.slice ga gs.length gc) gs.length (gs.flatMap bK) rfl ?_ ⟨w4.heap.size+1,0,none⟩ 1 1 (bK ⟨TT s (j+1),PP s (j+1),2,TT s (j+3),PP s (j+3)⟩) rfl rfl ?_ ?_ ar ?_ ?_ ?_ (w4.heap.size+1+1) ?_ ?_))
   ·exact aO.u.alloc _
   ·exact Cn
   ·exact ou
   ·unfold maxLen;omega
   ·omega
   ·simp at aT ⊢;omega
   ·simp
   intro g5 aV w5 Y U aQ a9;obtain ⟨aR,aS,Q⟩:=iJ J.u U;have aN:=ai (jC (gr:=⟨TT s (j+1),PP s (j+1),2,TT s (j+3),PP s (j+3)⟩) J.u hlt U Y aj false);obtain ⟨be,bf,bg,bh,bi,bj,bk,bl⟩:=Q.eight;have zq:=Q.fz;have bc:=Q.lt;clear aR aS Q Y U aQ am p1 p2 ap au av ax ay aH g0 ag ah al aG aA aC aD r3 aE aI;go_wp2
   go_roundg fu
   case measure=>omega
   case rel=>
    have aP:=ai (show PS (TT s) (PP s) i a R fu false (j+3) 3 (PP s (j+3)) (gs++[⟨TT s (j+1),PP s (j+1),2,TT s (j+3),PP s (j+3)⟩]) from .inr (.inr ⟨rfl,ar,by have:=PW.u;omega,j+3,rfl,(ak u3).symm⟩));refine ⟨false,j+3,3,PP s (j+3),gs++[⟨TT s (j+1),PP s (j+1),2,TT s (j+3),PP s (j+3)⟩],some ⟨g5,0,none⟩,aV,rfl,?_,aj,aP⟩
    with_reducible exact aN.u
  have aL:cW (TT s) (PP s) (j+1)=.ok (⟨TT s (j+1),PP s (j+1),2,TT s (j+3),PP s (j+3)⟩,j+4):=by unfold cW;rw [af];simp only [ae,aM,cE,aY,bp];rfl
  rw [s4 _ _ _ _ _ _ _ aL] at u3;clear af aL ae aM;refine (iH b s tv (j+3) d a kv rv pv _ aW.u.rs aY aj).mono ?_;rintro e w4 ⟨rfl,aK,a4⟩;have I:=ai (aW.u.step (j':=j+4) hlt aK a4 aj);have O:=ai (aX.u.but aK n1);have bG:=aK.size;have bH:=aX.u.lt;have bq:=ai (aw w4.heap.size w4);clear aK a4 aW aX;unfold o7;obtain ⟨am,p1,p2,ap,au,av,ax,ay⟩:=I.u.box.eight;have aH:=I.u.box.fz;obtain ⟨g0,ag,ah,al⟩:=O.u.four;have aG:=O.u.fz;obtain ⟨aA,aC,aD,r3,aE,_⟩:=I.u.rs.blk.eight;have aI:=I.u.rs.blk.fz;have n1:¬(D.heap.size+1=b):=aj;have n2:¬(b=D.heap.size+1):=aj;have a5:¬(w.heap.size=b):=aj;have a6:¬(b=w.heap.size):=aj;have a7:¬(w.heap.size=D.heap.size+1):=aj;have a8:¬(D.heap.size+1=w.heap.size):=aj;have br:=O.u.lt;have bs:=I.u.box.lt;have bt:=I.u.rs.lt;have bx:¬(w4.heap.size=D.heap.size+1):=aj;have bz:¬(D.heap.size+1=w4.heap.size):=aj;have bC:¬(w4.heap.size=w.heap.size):=aj;have bu:¬(w.heap.size=w4.heap.size):=aj;have bv:¬(w4.heap.size=b):=aj;have bw:¬(b=w4.heap.size):=aj;clear aY;have J:=ai (((I.u.far O.u n2 aj aU.u 1 (.string (TT s (j+3)))).far (O.u.set 1 _) n2 aj aU.u 3 (.int .i64 (PP s (j+3)))).below (ba.alloc az (ep (TT s (j+3)) (PP s (j+3)) (bM (TT s (j+3))))));have bb:=J.u.len;have aO:=ai J.u.row;have aT:=J.u.but.size;go_wp2_with (at_builtin;go_must (refine bD _ rfl _ _ 253 rfl w.heap.size 257 i0 _ 4 48 underlying253 HI.u EG.u EH.u EI.u rfl ar (.slice ga gs.length gc) gs.length (gs.flatMap bK) rfl ?_ ⟨w4.heap.size+1,0,none⟩ 1 1 (bK ⟨TT s (j+1),PP s (j+1),2,TT s (j+3),PP s (j+3)⟩) rfl rfl ?_ ?_ ar ?_ ?_ ?_ (w4.heap.size+1+1) ?_ ?_))
  ·exact aO.u.alloc _
  ·exact Cn
  ·exact ou
  ·unfold maxLen;omega
  ·omega
  ·simp at aT ⊢;omega
  ·simp
  intro g5 aV w5 Y U aQ a9;obtain ⟨aR,aS,Q⟩:=iJ J.u U;have aN:=ai (jC (gr:=⟨TT s (j+1),PP s (j+1),2,TT s (j+3),PP s (j+3)⟩) J.u hlt U Y aj false);obtain ⟨be,bf,bg,bh,bi,bj,bk,bl⟩:=Q.eight;have zq:=Q.fz;have bc:=Q.lt;clear aR aS Q Y U aQ am p1 p2 ap au av ax ay aH g0 ag ah al aG aA aC aD r3 aE aI;go_wp2
  go_roundg fu
  case measure=>omega
  case rel=>
   have aP:=ai (show PS (TT s) (PP s) i a R fu false (j+4) 0 (a) (gs++[⟨TT s (j+1),PP s (j+1),2,TT s (j+3),PP s (j+3)⟩]) from .inr (.inl ⟨rfl,rfl,rfl,by have:=PW.u;omega,ak u3⟩));refine ⟨false,j+4,0,a,gs++[⟨TT s (j+1),PP s (j+1),2,TT s (j+3),PP s (j+3)⟩],some ⟨g5,0,none⟩,aV,rfl,?_,aj,aP⟩
   with_reducible exact aN.u
 have aM:eqs (TT s (j+2)) (sg 35)=false:=by
  unfold eqs at ae ⊢;rw [dL] at ae;rw [ae];decide
 have aL:cW (TT s) (PP s) (j+1)=.ok (⟨TT s (j+1),PP s (j+1),1,em,0⟩,j+3):=by unfold cW;rw [af];simp only [ae,if_true]
 rw [s4 _ _ _ _ _ _ _ aL] at u3;have bo:=ai (show Gd s (j+2+1) from V.u.rs.gd.succ (cG ae ar));clear af aL;go_wp2_with fail;refine (b3 b s tv (j+2) d a kv rv pv (sg 42) _ ?_ true ae).mono ?_
 ·exact (V.u.below (bB ad)).rs
 rintro e bn ⟨rfl,ab⟩;have aJ:=ai ((aB.new' (D.alloc (ep (TT s (j+1)) (PP s (j+1)) (bM (TT s (j+1))))) #[.string (TT s (j+1)),.string ⟨#[]⟩,.int .i64 (PP s (j+1)),.int .i64 0] 257 (D.heap.size+1) an).below ab);have Z:=ai ((V.u.below (bB ad)).below ab);clear ab V ad;go_wp2_with fail;refine (b3 b s tv (j+2) d a kv rv pv (sg 35) _ Z.u.rs false aM).mono ?_;rintro e w4 ⟨rfl,ac⟩;have I:=ai (Z.u.below ac);have O:=ai (aJ.u.below ac);clear ac aJ Z;clear ae aM;obtain ⟨am,p1,p2,ap,au,av,ax,ay⟩:=I.u.box.eight;have aH:=I.u.box.fz;obtain ⟨g0,ag,ah,al⟩:=O.u.four;have aG:=O.u.fz;obtain ⟨aA,aC,aD,r3,aE,_⟩:=I.u.rs.blk.eight;have aI:=I.u.rs.blk.fz;have n1:¬(D.heap.size+1=b):=aj;have n2:¬(b=D.heap.size+1):=aj;have a5:¬(w.heap.size=b):=aj;have a6:¬(b=w.heap.size):=aj;have a7:¬(w.heap.size=D.heap.size+1):=aj;have a8:¬(D.heap.size+1=w.heap.size):=aj;have J:=ai ((uV.inc' I.u hlt bo.u ((j:Int)+2+1) aj).far (O.u.other n1 _) n2 aj aU.u 1 (.string ⟨#[42]⟩));have bb:=J.u.len;have aO:=ai J.u.row;have aT:=J.u.but.size;go_wp2_with (at_builtin;go_must (refine bD _ rfl _ _ 253 rfl w.heap.size 257 i0 _ 4 48 underlying253 HI.u EG.u EH.u EI.u rfl ar (.slice ga gs.length gc) gs.length (gs.flatMap bK) rfl ?_ ⟨w4.heap.size,0,none⟩ 1 1 (bK ⟨TT s (j+1),PP s (j+1),1,em,0⟩) rfl rfl ?_ ?_ ar ?_ ?_ ?_ (w4.heap.size+1) ?_ ?_))
 ·exact aO.u.alloc _
 ·exact bE (B:=w4.heap.size) (cs:=#[.string (TT s (j+1)),.string ⟨#[42]⟩,.int .i64 (PP s (j+1)),.int .i64 0]) (t:=257) (fr:=(0,0)) (aB.new' _ _ _ _ an)
 ·exact ou
 ·unfold maxLen;omega
 ·omega
 ·simp at aT ⊢;omega
 ·simp
 intro g5 aV w5 Y U aQ a9;obtain ⟨aR,aS,Q⟩:=iJ J.u U;have aN:=ai (jC (gr:=⟨TT s (j+1),PP s (j+1),1,em,0⟩) J.u hlt U Y aj false);obtain ⟨be,bf,bg,bh,bi,bj,bk,bl⟩:=Q.eight;have zq:=Q.fz;have bc:=Q.lt;clear aR aS Q Y U aQ am p1 p2 ap au av ax ay aH g0 ag ah al aG aA aC aD r3 aE aI;go_wp2
 go_roundg fu
 case measure=>omega
 case rel=>
  have aP:=ai (show PS (TT s) (PP s) i a R fu false (j+3) 0 (a) (gs++[⟨TT s (j+1),PP s (j+1),1,em,0⟩]) from .inr (.inl ⟨rfl,rfl,rfl,by have:=PW.u;omega,ak u3⟩));refine ⟨false,j+3,0,a,gs++[⟨TT s (j+1),PP s (j+1),1,em,0⟩],some ⟨g5,0,none⟩,aV,rfl,?_,aj,aP⟩
  with_reducible exact aN.u):aF:=bI
def Cn (C:aF:=by
 exact bE (B:=w4.heap.size+1) (cs:=#[.string (TT s (j+1)),.string (TT s (j+3)),.int .i64 (PP s (j+1)),.int .i64 (PP s (j+3))]) (t:=257) (fr:=(0,0)) (aB.new' _ _ _ _ an)):aF:=C
def Cm (C:aF:=by
 exact bE (B:=w4.heap.size) (cs:=#[.string (TT s (j+1)),.string ⟨#[]⟩,.int .i64 (PP s (j+1)),.int .i64 0]) (t:=257) (fr:=(0,0)) (aB.new' _ _ _ _ an)):aF:=C
def ou (C:aF:=by
 intro u A;simp only [bK,bA,fG,fH] at A
 rcases A with rfl|rfl|rfl|rfl<;>rfl):aF:=C
def vB(T:Nat->ae)(P:Nat->Nat)(k:Nat)(gs:List Gr)(j:Nat):eC (List Gr):=if eqs (T j) (sg 44) then dW T P k gs j else if eqs (T j) (sg 93) then .ok (gs,j+1) else .error (2,j)
theorem s5(T P k gs j):dW T P (k+1) gs j=match cW T P (j+1) with
  | .error e=> .error e
  | .ok (g,m)=>vB T P k (gs++[g]) m:=by
 simp only [dW,vB]
 rfl
theorem s4(T P k gs j g m)(h:cW T P (j+1)=.ok (g,m)):dW T P (k+1) gs j=vB T P k (gs++[g]) m:=by rw [s5,h]
theorem nj(T P k gs j)(e:Nat×Nat)(h:cW T P (j+1)=.error e):dW T P (k+1) gs j=.error e:=by rw [s5,h]
structure uV(b:Nat)(s:ae)(tv:ag)(d:Nat)(kv rv pv:ag)(i:Nat)(w wr:af)(f:Bool)(j e aa:Nat)(gs:List Gr)(ga:Option Addr)(gc:Nat):Prop where
 but:But b w wr
 rs:RS wr b s tv j d e aa kv rv pv
 box:aB wr w.heap.size #[.int .i64 1,.slice ga gs.length gc,.string ⟨#[]⟩,.string ⟨#[]⟩,.int .i64 (PP s i),.int .i64 0,.slice none 0 0,.slice none 0 0] 255
 row:wr.ownsRow w.heap.size 257 4 (.slice ga gs.length gc) gs.length (gs.flatMap bK)
 len:gs.length<=j
theorem uV.below{wr' f e gs}(h:uV b s tv d kv rv pv i w wr f j e aa gs ga gc)(k:Below wr.heap.size wr wr'):uV b s tv d kv rv pv i w wr' f j e aa gs ga gc:=
 ⟨h.but.trans (But.of_below k),h.rs.below k,h.box.below k,ax h.row (fun g cs f _ A=>k.block g (lt_of_some A)),h.len⟩
theorem uV.step{b s tv d kv rv pv i w wr wr' f j e aa gs ga gc}(C:uV b s tv d kv rv pv i w wr f j e aa gs ga gc)(J:b<w.heap.size)(k:But b wr wr'){j' e' Ti}(r:RS wr' b s tv j' d e' Ti kv rv pv)(I:j<=j'):uV b s tv d kv rv pv i w wr' f j' e' Ti gs ga gc:=
 ⟨C.but.trans k,r,C.box.but k aj,ax C.row (fun g cs f _ D=>k.block g (lt_of_some D) (fun e=>by
  subst e;have:=C.rs.blk;unfold aB at this;rw [this] at D;simp at D)),aL C.len I⟩
theorem uV.inc{f e gs}(C:uV b s tv d kv rv pv i w wr f j e aa gs ga gc)(D:b<w.heap.size)(I:Gd s (j+1)):uV b s tv d kv rv pv i w (wr.setCell ⟨b,1,none⟩ (.int .i64 ((j:Int)+1))) f (j+1) e aa gs ga gc:=
 C.step D ((But.refl b wr).setCell 1 _) (C.rs.setI (j+1) I) aj
theorem b3(b s tv i d a kv rv pv x w)(h:RS w b s tv i d 0 a kv rv pv)(y)(D:eqs (TT s i) x=y):
  Calls prog 187 #[.pointer (some ⟨b,0,none⟩),.string x] w fun e w'=>e=.returned (.bool y)/\Below w.heap.size w w':=
 (JB b s tv i d a kv rv pv x w h).mono fun e w' ⟨A,m,C⟩=>⟨by rw [A,D],by rw [C];exact Below.drewN' m⟩
theorem iC(b s tv i d e0 a kv rv pv x w)(A:RS w b s tv i d e0 a kv rv pv)(h:e0≠0):
  Calls prog 187 #[.pointer (some ⟨b,0,none⟩),.string x] w fun e w'=>e=.returned (.bool false)/\Below w.heap.size w w':=
 (JC b s tv i d e0 a kv rv pv x w A h).mono fun e w' ⟨h,m,C⟩=>⟨h,by rw [C];exact Below.drewN' m⟩
theorem aB.four{x y z u}(h:aB w g #[x,y,z,u] T):w.cell? ⟨g,0,none⟩=some x/\w.cell? ⟨g,1,none⟩=some y/\w.cell? ⟨g,2,none⟩=some z/\w.cell? ⟨g,3,none⟩=some u:=⟨h.cell rfl,h.cell rfl,h.cell rfl,h.cell rfl⟩
theorem iJ{w4 f e gs}(I:uV b s tv d kv rv pv i w w4 f j e aa gs ga gc)(C:(w4.alloc o).grownBy w5 (Value.slice ga gs.length gc).ownBlock):
  But b w w5/\RS w5 b s tv j d e aa kv rv pv/\aB w5 w.heap.size #[.int .i64 1,.slice ga gs.length gc,.string ⟨#[]⟩,.string ⟨#[]⟩,.int .i64 (PP s i),.int .i64 0,.slice none 0 0,.slice none 0 0] 255:=by
 have J:Below w4.heap.size w4 (w4.alloc o):=ba.alloc az _;have L:=I.below J;refine ⟨But.grown L.but C (fun k O=>(L.row.lt k O).1),⟨(C.block _ L.rs.blk.lt (own_ne L.row L.rs.blk ar)).trans L.rs.blk,ax L.rs.tok (fun g cs f _ D=>C.block g (lt_of_some D) (eo L.row D ar)),L.rs.gd,L.rs.fm,L.rs.sz⟩,(C.block _ L.box.lt (own_ne L.row L.box ar)).trans L.box⟩
theorem jC{w4 f e gs}(I:uV b s tv d kv rv pv i w w4 f j e aa gs ga gc)(Q:b<w.heap.size)(D:(w4.alloc o).grownBy w5 (Value.slice ga gs.length gc).ownBlock){gr}(J:w5.ownsRow w.heap.size 257 4 (.slice (some ⟨g5,0,none⟩) (gs.length+1) aV) (gs.length+1) (gs.flatMap bK++bK gr))(O:gs.length+1<=j)(f'):
  uV b s tv d kv rv pv i w (w5.setCell ⟨w.heap.size,1,none⟩ (.slice (some ⟨g5,0,none⟩) (gs.length+1) aV)) f' j e aa (gs++[gr]) (some ⟨g5,0,none⟩) aV:=by
 obtain ⟨h1,h2,C⟩:=iJ I D;have el:(gs++[gr]).length=gs.length+1:=an;refine ⟨h1.setNew az _,⟨h2.blk.other aM _,bJ h2.tok C ar _ _,h2.gd,h2.fm,h2.sz⟩,?_,?_,by rw [el];exact O⟩
 ·rw [el];exact C.set 1 _
 ·rw [el,cX]
  simpa using bJ J C ar 1 (.slice (some ⟨g5,0,none⟩) (gs.length+1) aV)
theorem Tryz.infoGr:(Tryz.prog.info? 257).map (fun i=>(i.zero,i.size,i.bytes))=some (some (.agg #[.string ⟨#[]⟩,.string ⟨#[]⟩,.int .i64 0,.int .i64 0]),4,48):=by kernel_rfl
theorem uV.inc'{f e gs}(h:uV b s tv d kv rv pv i w wr f j e aa gs ga gc)(A:b<w.heap.size)(C:Gd s (j+1))(v)(D:v=(j:Int)+1):uV b s tv d kv rv pv i w (wr.setCell ⟨b,1,none⟩ (.int .i64 v)) f (j+1) e aa gs ga gc:=by
 subst D;exact h.inc A C
theorem uV.far{f e gs}(C:uV b s tv d kv rv pv i w wr f j e aa gs ga gc){gb}(D:aB wr gb cs 257)(n1:¬(b=gb))(n2:w.heap.size<gb)(I:(Value.slice ga gs.length gc).ownBlock≠some gb)(o u):uV b s tv d kv rv pv i w (wr.setCell ⟨gb,o,none⟩ u) f j e aa gs ga gc:=
 ⟨C.but.setNew aM _,⟨C.rs.blk.other n1 _,bJ C.rs.tok D ar _ _,C.rs.gd,C.rs.fm,C.rs.sz⟩,C.box.other aM _,xv C.row I _,C.len⟩
theorem qb(A:w.ownsRow B T size v n xs){p}:jh B (p,v,.slice none 0 0,.slice none 0 0):=fun g h=>by
 rcases h with h|h|h
 ·exact (A.lt g h).1
 ·cases h
 cases h
theorem ec(h:w.ownsRow base e size v n xs):w.ownsRow 0 e size v n xs:=by
 refine ⟨h.1,?_⟩
 rcases h.2 with h|⟨g,cap,A,h1,_,C⟩
 ·exact .inl h
 exact .inr ⟨g,cap,A,h1,gZ _,C⟩
theorem PT.but(h:PT base w pv pl l)(k:But b w w')(A:aB w b cs 252)(h1:base<=b)(h2:base<=w.heap.size):PT base w' pv pl l:=
 ⟨h.fst,ax h.row (fun g I f _ C=>k.block g (lt_of_some C) (fun e=>by
  subst e;unfold aB at A;rw [A] at C;simp at C)),fun x D=>(h.rep x D).frame (Fr.of_but k h1 h2) A h.row⟩
def JF(base b:Nat)(s:ae)(tv:ag)(i d a:Nat)(kv rv pv:ag)(pl:List PV)(l:List PX)(w:af)(h:eC (List Gr))(e:Ending)(w':af):Prop:=
 e=.returned (.int .i64 pl.length)/\∃pv' p x,Fr base b w w' pv pv'/\PT base w' pv' (pl++[p]) (l++[x])/\jh w.heap.size x/\match h with
  | .ok (gs,j)=>RS w' b s tv j d 0 a kv rv pv'/\p=⟨1,gs,em,em,PP s i,0,[],[]⟩/\i<j
  | .error (c,jj)=>c≠0/\∃j',i<=j'/\RS w' b s tv j' d c (PP s jj) kv rv pv'
def PS(T:Nat->ae)(P:Nat->Nat)(i a:Nat)(h:eC (List Gr))(k:Nat)(f:Bool)(j e aa:Nat)(gs:List Gr):Prop:=
 (f=true/\e=0/\a=aa/\i=j/\gs=[]/\dW T P k gs j=h)\/(f=false/\e=0/\a=aa/\i<j/\vB T P k gs j=h)\/(f=false/\e≠0/\i<=j/\∃A,P A=aa/\h=.error (e,A))
theorem Gq(base b s tv i d a kv rv pv pl l w)(bY:RS w b s tv i d 0 a kv rv pv)(cF:PT base w pv pl l)(bR:base<=b)(bS:base<=w.heap.size)(c8:pl.length<=1900)(b0:eqs (TT s i) (sg 91)=true):
  Calls prog 274 #[.pointer (some ⟨b,0,none⟩)] w (JF base b s tv i d a kv rv pv pl l w (dW (TT s) (PP s) 512 [] i)):=by
 obtain ⟨i0,cC,cH,cJ,cK⟩:=bH Tryz.infoGr;have HI:=ai cC;have EG:=ai cH;have EH:=ai cJ;have EI:=ai cK;clear cC cH cJ cK;generalize cA:dW (TT s) (PP s) 512 [] i=R;have b8:=ai cA;have cM:=ai b0;have ct:=ai bY;have cx:=ai cF;obtain ⟨g,c,e0,hi,t0,t1,t2⟩:=bY.at;obtain ⟨bX,b5,cq,r3,cr,cX,cY,cZ⟩:=bY.blk.eight;have ch:=bY.blk.fz;have hlt:=bY.lt;have c4:=ai e0;rw [e0] at bX;have c5:=cI t0;have cT:=bj w _ bX;have cU:=bj w _ b5;have cV:=bj w _ t1;clear bY cF e0 cA b0;go_enter func274,ntmps274;go_wp2_with fail
 go_region_held3 (fun w'=>w'.cell? ⟨b,0,none⟩=some (.slice (some ⟨g,0,none⟩) (g2 s).length c)/\w'.cell? ⟨b,1,none⟩=some (.int .i64 i)/\w'.cell? ⟨g,i*3+1,none⟩=some (.int .i64 (PP s i))) (go_keep) (fail)
 rename_i cR;clear cR bX b5 cq r3 cr cX cY cZ t0 t1 t2 cT cU cV ch;have cO:=ai (show uV b s tv d kv rv pv i w ((w.alloc (.cells #[.int .i64 1,.slice none 0 0,.string ⟨#[]⟩,.string ⟨#[]⟩,.int .i64 (PP s i),.int .i64 0,.slice none 0 0,.slice none 0 0] 255)).drew) true i 0 a [] none 0 from
  ⟨((But.refl b w).alloc _).drew,ct.u.below ((aw _ w).alloc az _).drew,(aB.new w _ _).drew,bN,an⟩)
 go_wp2_with fail
 go_loopg [4] 512 (fun k c1 wr=>∃(f:Bool)(j e aa:Nat)(gs:List Gr)(ga:Option Addr)(gc:Nat),c1=.bool f/\uV b s tv d kv rv pv i w wr f j e aa gs ga gc/\512<=k+j/\Hid (PS (TT s) (PP s) i a R k f j e aa gs))
 case atStart=>exact ⟨true,i,0,a,[],none,0,rfl,cO.u,aj,ai (.inl ⟨rfl,rfl,rfl,rfl,rfl,b8.u⟩)⟩
 case round=>
  obtain ⟨f,j,e,aa,gs,ga,gc,rfl,bO,c7,b7⟩:=hrel;have da:=bO.rs.gd.le;have db:=bO.rs.sz;have c6:=bO.len
  rcases ak b7 with ⟨rfl,rfl,rfl,cy,cQ,hc⟩|⟨rfl,rfl,rfl,cy,hc⟩|⟨rfl,b0,cS,cz,rfl,hc⟩
  ·obtain ⟨fu,rfl⟩:∃f,gk=f+1:=⟨gk-1,aj⟩;have cw:=ai (bO.rs.gd.succ (cG (show eqs (TT s j) (sg 91)=true from cy▸cM.u) ar));have PW:=ai (show i<=j by omega);obtain ⟨bX,b5,cq,r3,cr,_⟩:=bO.rs.blk.eight;have ch:=bO.rs.blk.fz;have L1:=ai (bO.inc hlt cw.u);clear bO b7 cy cQ b8;have u3:=ai hc;clear hc;go_wp2_with fail;clear bX b5 cq r3 cr ch;generalize wr.setCell ⟨b,1,none⟩ (.int .i64 ((j:Int)+1))=cP at*;exact PR
  ·cases bW:eqs (TT s j) (sg 44)
   ·have bP:=ai bO;clear bO b7 b8;unfold vB at hc;rw [bW] at hc;simp only [bz,aP] at hc;go_wp2_with fail;refine (b3 b s tv j d a kv rv pv (sg 44) _ bP.u.rs false bW).mono ?_;rintro e c2 ⟨rfl,cg⟩;have bQ:=ai (bP.u.below cg);clear cg bP bW
    cases bZ:eqs (TT s j) (sg 93)
    ·rw [bZ] at hc;have u3:=ai (show R=.error (2,j) from hc.symm);clear hc;go_wp2_with fail;refine (xr b s tv j d a kv rv pv (sg 93) _ bQ.u.rs bZ).mono ?_;rintro e w4 ⟨rfl,cf,ci⟩;have bL:=ai (bQ.u.step hlt cf ci az);clear cf ci bQ bZ;have cd:=ai (cx.u.but bL.u.but ct.u.blk bR bS);have ce:=ai (show kj w4 (⟨1,gs,em,em,PP s i,0,[],[]⟩,.slice ga gs.length gc,.slice none 0 0,.slice none 0 0) from ⟨ec bL.u.row,bN,bN⟩);obtain ⟨cj,p1,p2,ck,cl,cm,co,cp⟩:=bL.u.box.eight;have bT:base<=w4.heap.size:=aL bS bL.u.but.size;go_wp2_with fail;refine (eL base b s tv (j) d 2 (PP s j) kv rv pv pl l ⟨1,gs,em,em,PP s i,0,[],[]⟩ ga gc none 0 none 0 w4 bL.u.rs cd.u ce.u aj bT bR).mono ?_;rintro e' cL ⟨pv',rfl,fr,bV,bU⟩;have b6:=ai fr;have cb:=ai bV;have b9:=ai bU;clear fr bV bU cj p1 p2 ck cl cm co cp;go_wp2;go_ret;rw [ak u3];exact ⟨rfl,pv',_,_,(Fr.of_but bL.u.but bR bS).trans b6.u,b9.u,qb bL.u.row,ar,j,aj,cb.u⟩
    rw [bZ] at hc;have u3:=ai (show R=.ok (gs,j+1) from hc.symm);clear hc;go_wp2_with fail;refine (sY b s tv j d a kv rv pv (sg 93) _ bQ.u.rs bZ ar).mono ?_;rintro e w4 ⟨rfl,cf,ci⟩;have bL:=ai (bQ.u.step hlt cf ci aj);clear cf ci bQ bZ;have cd:=ai (cx.u.but bL.u.but ct.u.blk bR bS);have ce:=ai (show kj w4 (⟨1,gs,em,em,PP s i,0,[],[]⟩,.slice ga gs.length gc,.slice none 0 0,.slice none 0 0) from ⟨ec bL.u.row,bN,bN⟩);obtain ⟨cj,p1,p2,ck,cl,cm,co,cp⟩:=bL.u.box.eight;have bT:base<=w4.heap.size:=aL bS bL.u.but.size;go_wp2_with fail;refine (eL base b s tv (j+1) d 0 (a) kv rv pv pl l ⟨1,gs,em,em,PP s i,0,[],[]⟩ ga gc none 0 none 0 w4 bL.u.rs cd.u ce.u aj bT bR).mono ?_;rintro e' cL ⟨pv',rfl,fr,bV,bU⟩;have b6:=ai fr;have cb:=ai bV;have b9:=ai bU;clear fr bV bU cj p1 p2 ck cl cm co cp;go_wp2;go_ret;rw [ak u3];exact ⟨rfl,pv',_,_,(Fr.of_but bL.u.but bR bS).trans b6.u,b9.u,qb bL.u.row,cb.u,rfl,aj⟩
   obtain ⟨fu,rfl⟩:∃f,gk=f+1:=⟨gk-1,aj⟩;have cw:=ai (bO.rs.gd.succ (cG bW ar));have PW:=ai (show i<=j by omega);unfold vB at hc;rw [bW] at hc;simp only [if_true] at hc;have u3:=ai hc;have bP:=ai bO;clear bO b7 b8 hc;go_wp2_with fail;refine (b3 b s tv j d a kv rv pv (sg 44) _ bP.u.rs true bW).mono ?_;rintro e c3 ⟨rfl,cB⟩;have cu:=ai (bP.u.below cB);clear cB bP bW;obtain ⟨bX,b5,cq,r3,cr,_⟩:=cu.u.rs.blk.eight;have ch:=cu.u.rs.blk.fz;have L1:=ai (cu.u.inc hlt cw.u);go_wp2_with fail;clear bX b5 cq r3 cr ch cu;generalize c3.setCell ⟨b,1,none⟩ (.int .i64 ((j:Int)+1))=cP at*;exact PR
  have bP:=ai bO;have cN:=ai cS;have u3:=ai hc;clear bO b7 b8 hc;go_wp2_with fail;refine (iC b s tv j d e (PP s cz) kv rv pv (sg 44) _ bP.u.rs b0).mono ?_;rintro e' c2 ⟨rfl,cg⟩;have bQ:=ai (bP.u.below cg);clear cg bP;go_wp2_with fail;refine (sZ b s tv j d e (PP s cz) kv rv pv (sg 93) _ bQ.u.rs b0).mono ?_;rintro e' w4 ⟨rfl,bT⟩;have bL:=ai (bQ.u.below bT);clear bT bQ;have cd:=ai (cx.u.but bL.u.but ct.u.blk bR bS);have ce:=ai (show kj w4 (⟨1,gs,em,em,PP s i,0,[],[]⟩,.slice ga gs.length gc,.slice none 0 0,.slice none 0 0) from ⟨ec bL.u.row,bN,bN⟩);obtain ⟨cj,p1,p2,ck,cl,cm,co,cp⟩:=bL.u.box.eight;have bT:base<=w4.heap.size:=aL bS bL.u.but.size;go_wp2_with fail;refine (eL base b s tv (j) d e (PP s cz) kv rv pv pl l ⟨1,gs,em,em,PP s i,0,[],[]⟩ ga gc none 0 none 0 w4 bL.u.rs cd.u ce.u aj bT bR).mono ?_;rintro e' cL ⟨pv',rfl,fr,bV,bU⟩;have b6:=ai fr;have cb:=ai bV;have b9:=ai bU;clear fr bV bU cj p1 p2 ck cl cm co cp;go_wp2;go_ret;rw [ak u3];exact ⟨rfl,pv',_,_,(Fr.of_but bL.u.but bR bS).trans b6.u,b9.u,qb bL.u.row,b0,j,cN.u,cb.u⟩
