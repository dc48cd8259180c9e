import Derived.Test.YtlbpnlngckgcbaaGreatDoorM04
import Derived.Test.YtlbpnlngckgcbaaGreatDoorM03
import Derived.Test.YtlbpnlngckgcbaaGreatDoorM05
set_option linter.all false
set_option maxHeartbeats 4000000
set_option maxRecDepth 100000
namespace Go.Proofs.YtlbpnlngckgcbaaGreatDoor
open Go.RowKit Go.PlainAid Go.Proofs.Tryz
variable {aD bq:Prop} {w w' w1 W w5 wr:af} {base size n g cap m b i d a i' d' e' a' B g5 be j aa gc f:Nat} {e T T':TypeId} {xs:List ag} {s:ae} {tv kv rv pv v pv':ag} {cs:Array ag} {o:Obj} {ga:Option Addr}
abbrev r9:=@List.set_append_right
def OL (h:aD:=by
 have:=HB.u.size;simp;omega):aD:=h
def zb (h:aD:=by
 simp [hx]):aD:=h
def Xo (h:aD:=by
 intro g5 be w5 C A J R;have D:=aj (cA (HB.u.alloc HB.u.size (.cells #[an (s.extract k (k+1)),au k,.bool false] 259)) A OL (fun k Q=>(((aE HR).alloc (.cells #[an (s.extract k (k+1)),au k,.bool false] 259)).lt k Q).1));have I:=aj (show w5.ownsRow w.heap.size 259 3 (aA (some (aP g5)) (l.length+1) be) (l++[(⟨[c],k,false⟩:Tk)]).length (bL (l++[⟨[c],k,false⟩])) from by
  rw [show (l++[(⟨[c],k,false⟩:Tk)]).length=l.length+1 by simp];have e:bL (l++[⟨[c],k,false⟩])=bL l++[an (s.extract k (k+1)),au k,.bool false]:=by
   unfold bL;rw [cN,HX.u];simp [fI]
  rw [e];exact C)
 clear C A J;go_wp2;go_roundw
 ·exact ⟨k+1,l++[⟨[c],k,false⟩],false,ai,rfl,by go_num,D.u,I.u,aS,ar,aE GH,Vh⟩
 simp [intOf];omega):aD:=h
def Xp (h:aD:=by
 clear hw;go_wp2_with (first|(go_at_call 185;refine (fd _ _).mono ?_;rintro e w' ⟨rfl,rfl⟩)|(go_at_call 186;refine (fQ _ _).mono ?_;rintro e w' ⟨rfl,rfl⟩))
 go_region
 go_wp2;go_roundw
 ·exact ⟨k+1,l0++[⟨t.text++[c],t.place,t.word⟩],true,ai,rfl,by go_num,Below.drew (HB.u.setCell hgb _),(by
  have:=oC (aE HR) (l0.length*3) (an (mk t.text++s.extract k (k+1)));rw [HN.u] at this;rw [show (l0++[(⟨t.text++[c],t.place,t.word⟩:Tk)]).length=l0.length+1 by simp];exact this),aS,ar,aE GH,Vh⟩
 simp [intOf];omega):aD:=h
def fd(c w):Calls prog 185 #[.int .u8 c] w fun e w'=>e=bi (.bool (letter c))/\w'=w:=by
 by_cases h1:97<=c
 ·go_enter func185,ntmps185;go_wp2;go_ret;exact ⟨by simp [letter,h1],rfl⟩
 go_enter func185,ntmps185;go_wp2;go_ret;exact ⟨by simp [letter];omega,rfl⟩
def fQ(c w):Calls prog 186 #[.int .u8 c] w fun e w'=>e=bi (.bool (digit c))/\w'=w:=by
 by_cases h1:48<=c
 ·go_enter func186,ntmps186;go_wp2;go_ret;exact ⟨by simp [digit,h1],rfl⟩
 go_enter func186,ntmps186;go_wp2;go_ret;exact ⟨by simp [digit];omega,rfl⟩
def oC(h:w.ownsRow base e size (aA (some (aP g)) n cap) n xs)(j u):(w.setCell (aC g j) u).ownsRow base e size (aA (some (aP g)) n cap) n (xs.set j u):=by
 obtain ⟨hl,h⟩:=h
 rcases h with ⟨h,_⟩|⟨g',Q,A,e1,I,J,h1,h2,C,D⟩
 ·cases h
 simp only [aK,aR,cg] at e1;obtain ⟨⟨rfl,_,_⟩,_,rfl⟩:=e1;refine ⟨by simp [hl],.inr ⟨g,cap,A.setIfInBounds j u,rfl,I,aL.set J j u,h1,h2,by simp [C],?_⟩⟩;rw [Array.toList_setIfInBounds,List.take_set,D]
def dG(h:w.ownsRow base e size (aA (some (aP g)) m cap) n xs):∃A,aL w g A e/\base<=g:=by
 rcases h.2 with ⟨h,_⟩|⟨g',I,A,e1,C,D,h1,h2,J,Q⟩
 ·cases h
 simp only [aK,aR,cg] at e1;obtain ⟨⟨rfl,_,_⟩,_,rfl⟩:=e1;exact ⟨A,D,C⟩
def YF(a c):mk a++mk c=mk (a++c):=by
 rw [<-cW (mk a++mk c)]
 congr 1
def OM(l i t)(h:l[i]? =some t):(bL l)[i*3]? =some (an (mk t.text))/\(bL l)[i*3+1]? =some (au t.place)/\(bL l)[i*3+2]? =some (.bool t.word):=by
 unfold bL
 induction l generalizing i with
 |nil=>simp at h
 |cons a l ih=>
  cases i with
  |zero=>
   simp at h;subst h;simp [fI]
  |succ i=>
   simp at h;have:=ih i h;rw [bM,show (i+1)*3=i*3+3 by omega];simp only [fI,List.cons_append,List.nil_append,List.getElem?_cons_succ];exact this
def JV(l):(bL l).length=l.length*3:=by
 unfold bL
 induction l with
 |nil=>rfl
 |cons a l ih=>rw [bM,bf,ih];simp [fI];omega
def Vi(l t c):bL (l++[⟨t.text++[c],t.place,t.word⟩])=(bL (l++[t])).set (l.length*3) (an (mk (t.text++[c]))):=by
 unfold bL;rw [cN,cN,r9 _ _ (by rw [<-bL,JV];omega),<-bL,JV];simp [fI]
def Tryz.infoTk:(Tryz.prog.info? 259).map (fun i=>(i.zero,i.size,i.bytes))=some (some (.agg #[an ⟨#[]⟩,au 0,.bool false]),3,32):=by kernel_rfl
def Vj(s k)(h:k<s.size):s.extract k (k+1)=mk [(bB s)[k]'Do]:=by
 rw [extract_mk,show k+1-k=1 by omega];rw [c8 Do]
 rfl
def Dy(s w)(hs:s.size<=500):
  Calls prog 126 #[an s] w fun e w'=>∃v,e=bi v/\am w w'/\w'.ownsRow w.heap.size 259 3 v (jC s).length (bL (jC s)):=by
 have ba:=get_bt s;have a8:=aj hs;go_enter func126,ntmps126;go_wp2
 go_loopw [3,4,5] (fun a6 a7 aG wr=>∃(k:Nat)(l:List Tk)(o:Bool),k<=s.size/\a7=.bool o/\aG=au k/\am w wr/\wr.ownsRow w.heap.size 259 3 a6 l.length (bL l)/\l.length<=k/\(o=true->l≠ [])/\(∀t∈l,t.text.length<=k)/\Hid (fq k ((bB s).drop k) (l,o)=fq 0 (bB s) ([],false))) (fun _ _ aG _=>s.size-(intOf aG).toNat)
 ·exact ⟨0,[],false,ai,rfl,rfl,az _ _,bP,ar,ar,ar,aj rfl⟩
 ·obtain ⟨k,l,o,ah,rfl,rfl,aH,aF,aC,aO,aQ,U⟩:=hrel;have V:=aj aQ;obtain ⟨bf,bg,rfl⟩:=aw aF;have HB:=aj aH;have HR:=aj aF;have ae:=aj aO;clear aH aF aO aQ
  by_cases aM:k<s.size
  ·have aJ:k<(bB s).length:=by rw [bj];exact aM
   have ad:=aj (uV s k aJ);have hF:=U.u;rw [c8 aJ] at hF;simp only [fq,stepT] at hF;have av:=Vj s k aM;generalize aI:(bB s)[k]=c at*
   by_cases Z:blank (bt s k)=true
   ·have ag:ej c=true:=by unfold ej;rw [<-ad.u];exact Z
    rw [if_pos ag] at hF;have Vh:=aj hF;have af:bt s k=32\/bt s k=9\/bt s k=10:=by
     unfold blank at Z
     simpa [or_assoc] using Z
    clear hF U Z av aI
    rcases af with af|af|af
    all_goals
     go_wp2_with (first|(go_at_call 185;refine (fd _ _).mono ?_;rintro e w' ⟨rfl,rfl⟩)|(go_at_call 186;refine (fQ _ _).mono ?_;rintro e w' ⟨rfl,rfl⟩));go_roundw
     ·exact ⟨k+1,l,false,ai,rfl,by go_num,HB.u,aE HR,ai,ar,fun t a0=>Nat.le_succ_of_le (V.u t a0),Vh⟩
     ·simp [intOf];omega
   have Y:blank (bt s k)=false:=by simpa using Z
   have ag:ej c=false:=by unfold ej;rw [<-ad.u];exact Y
   have a2:¬(bt s k=32)/\¬(bt s k=9)/\¬(bt s k=10):=by
    unfold blank at Y;simp at Y;exact ⟨Y.1.1,Y.1.2,Y.2⟩
   obtain ⟨a3,a4,a5⟩:=a2;have bk:(bt s k==32)=false:=bR.2 a3;have bl:(bt s k==9)=false:=bR.2 a4;have bn:(bt s k==10)=false:=bR.2 a5;rw [if_neg (by rw [ag];simp)] at hF;have HX:=aj av;clear Z Y ag U av aI;have aR:dx c=(letter (bt s k)||digit (bt s k)):=by unfold dx;rw [ad.u]
   have aN:letter c.toNat=letter (bt s k):=by rw [ad.u]
   rw [aR,aN] at hF;have U:=aj hF;clear hF aR aN
   by_cases hw:(o&&(letter (bt s k)||digit (bt s k)))=true
   ·have hF:=U.u;rw [if_pos hw] at hF;rw [bO] at hw;obtain ⟨rfl,hw⟩:=hw;obtain ⟨l0,t,rfl⟩:∃l0 t,l=l0++[t]:=⟨l.dropLast,l.getLast (ae.u rfl),(List.dropLast_concat_getLast _).symm⟩;rw [oy] at hF;have Vh:=aj hF;clear hF U ae;have ak:(l0++[t]).length=l0.length+1:=ar;rw [ak] at HR;rw [ak];obtain ⟨g,gc,e1,k0⟩:=aY (aE HR) (l0.length*3) _ (OM (l0++[t]) l0.length t ar).1;simp only [aK] at e1;obtain ⟨rfl,_,rfl⟩:=e1;obtain ⟨a9,ay,hgb⟩:=dG (aE HR);have bo:=aL.fz ay;have bh:=aL.lt ay;have a1:=V.u t ar;have bc:¬(9223372036854775807<(mk t.text).size+(s.extract k (k+1)).size):=by
     rw [HX.u,<-bj,<-bj,j6,j6];simp;omega
    have GH:=aj (show ∀x∈l0++[⟨t.text++[c],t.place,t.word⟩],x.text.length<=k+1 from fun x hx=>by
     rw [aW,aX] at hx
     rcases hx with hx|rfl
     ·exact Nat.le_succ_of_le (V.u x zb)
     simp;omega)
    have bb:l0.length+1<=k:=by rw [ak] at aC;exact aC
    clear ay ak aC V a1;have HN:=aj (show (bL (l0++[t])).set (l0.length*3) (an (mk t.text++s.extract k (k+1)))=bL (l0++[⟨t.text++[c],t.place,t.word⟩]) from by rw [Vi,HX.u,YF])
    cases hl:letter (bt s k)
    ·have aU:digit (bt s k)=true:=by rw [hl] at hw;simpa using hw
     exact Xp
    exact Xp
   have hF:=U.u;rw [if_neg hw] at hF;have Vh:=aj hF;have GH:=aj (show ∀x∈l++[⟨[c],k,letter (bt s k)⟩],x.text.length<=k+1 from fun x hx=>by
    rw [aW,aX] at hx
    rcases hx with hx|rfl
    ·exact Nat.le_succ_of_le (V.u x hx)
    simp)
   clear hF U V ae
   cases o
   ·clear hw
    cases hl:letter (bt s k)
    ·rw [hl] at Vh GH;have aB:=HB.u.size;go_wp2_with (first|(go_at_call 185;refine (fd _ _).mono ?_;rintro e w' ⟨rfl,rfl⟩)|(go_at_call 186;refine (fQ _ _).mono ?_;rintro e w' ⟨rfl,rfl⟩)|(at_builtin;go_must (refine eB rfl underlying249 Tryz.infoTk w.heap.size ((aE HR).alloc _) w'.heap.size 1 [an (s.extract k (k+1)),au k,.bool false] (w'.heap.size+1) ?sd)))
     case sd=>
      exact Xo
    rw [hl] at Vh GH;have aB:=HB.u.size;go_wp2_with (first|(go_at_call 185;refine (fd _ _).mono ?_;rintro e w' ⟨rfl,rfl⟩)|(go_at_call 186;refine (fQ _ _).mono ?_;rintro e w' ⟨rfl,rfl⟩)|(at_builtin;go_must (refine eB rfl underlying249 Tryz.infoTk w.heap.size ((aE HR).alloc _) w'.heap.size 1 [an (s.extract k (k+1)),au k,.bool true] (w'.heap.size+1) ?vu)))
    case vu=>
     intro g5 be w5 ac ab ax aV;have al:=aj (cA (HB.u.alloc HB.u.size (.cells #[an (s.extract k (k+1)),au k,.bool true] 259)) ab OL (fun k ah=>(((aE HR).alloc (.cells #[an (s.extract k (k+1)),au k,.bool true] 259)).lt k ah).1));have ap:=aj (show w5.ownsRow w.heap.size 259 3 (aA (some (aP g5)) (l.length+1) be) (l++[(⟨[c],k,true⟩:Tk)]).length (bL (l++[⟨[c],k,true⟩])) from by
      rw [show (l++[(⟨[c],k,true⟩:Tk)]).length=l.length+1 by simp];have e:bL (l++[⟨[c],k,true⟩])=bL l++[an (s.extract k (k+1)),au k,.bool true]:=by
       unfold bL;rw [cN,HX.u];simp [fI]
      rw [e];exact ac)
     clear ac ab ax;go_wp2;go_roundw
     ·exact ⟨k+1,l++[⟨[c],k,true⟩],true,ai,rfl,by go_num,al.u,ap.u,aS,ar,aE GH,Vh⟩
     simp [intOf];omega
   have hl:letter (bt s k)=false:=by
    cases h:letter (bt s k)
    ·rfl
    rw [h] at hw;simp at hw
   have aU:digit (bt s k)=false:=by
    cases h:digit (bt s k)
    ·rfl
    rw [h] at hw;simp at hw
   clear hw;rw [hl] at Vh GH;have aB:=HB.u.size;go_wp2_with (first|(go_at_call 185;refine (fd _ _).mono ?_;rintro e w' ⟨rfl,rfl⟩)|(go_at_call 186;refine (fQ _ _).mono ?_;rintro e w' ⟨rfl,rfl⟩)|(at_builtin;go_must (refine eB rfl underlying249 Tryz.infoTk w.heap.size ((aE HR).alloc _) w'.heap.size 1 [an (s.extract k (k+1)),au k,.bool false] (w'.heap.size+1) ?GJ)))
   case GJ=>
    exact Xo
  have aZ:k=s.size:=ai;subst aZ;have hF:=U.u;have aT:=aj (show jC s=l++[LC s.size] from by
   rw [eC (by rw [bj];exact bV _)] at hF;simp only [fq] at hF;unfold jC qD;rw [nj,<-hF])
  clear hF U V ae;have aB:=HB.u.size;go_wp2_with (at_builtin;go_must (refine eB rfl underlying249 Tryz.infoTk w.heap.size ((aE HR).alloc _) wr.heap.size 1 [an ⟨#[]⟩,au s.size,.bool false] (wr.heap.size+1) ?YG))
  case YG=>
   intro g5 be w5 ac ab ax aV;have al:=aj (cA (HB.u.alloc HB.u.size (.cells #[an ⟨#[]⟩,au s.size,.bool false] 259)) ab OL (fun k ah=>(((aE HR).alloc (.cells #[an ⟨#[]⟩,au s.size,.bool false] 259)).lt k ah).1));have ap:=aj (show w5.ownsRow w.heap.size 259 3 (aA (some (aP g5)) (l.length+1) be) (jC s).length (bL (jC s)) from by
    rw [aT.u,show (l++[LC s.size]).length=l.length+1 by simp];have e:bL (l++[LC s.size])=bL l++[an ⟨#[]⟩,au s.size,.bool false]:=by
     unfold bL;rw [cN];simp [fI,LC,mk]
    rw [e];exact ac)
   clear ac ab ax;go_wp2;go_ret;exact ⟨_,rfl,al.u,ap.u⟩
abbrev bD:=@List.getElem?_eq_some_iff
abbrev nC:Obj:=.cells #[an ⟨#[]⟩,au 0,.bool false] 259
structure RS(w:af)(b:Nat)(s:ae)(tv:ag)(i d e a:Nat)(kv rv pv:ag):Prop where
 blk:aL w b #[tv,au i,au d,au e,au a,kv,rv,pv] 252
 tok:w.ownsRow 0 259 3 tv (jC s).length (bL (jC s))
 gd:Gd s i
 fm:(∃x n c,kv=aA x n c)/\(∃x n c,rv=aA x n c)/\(∃x n c,pv=aA x n c)
 sz:s.size<=500
def aL.eight{x0 x1 x2 x3 x4 x5 x6 x7}(h:aL w g #[x0,x1,x2,x3,x4,x5,x6,x7] T):w.cell? (aP g)=some x0/\w.cell? (aC g 1)=some x1/\w.cell? (aC g 2)=some x2/\w.cell? (aC g 3)=some x3/\w.cell? (aC g 4)=some x4/\w.cell? (aC g 5)=some x5/\w.cell? (aC g 6)=some x6/\w.cell? (aC g 7)=some x7:=
 ⟨h.cell rfl,h.cell rfl,h.cell rfl,h.cell rfl,h.cell rfl,h.cell rfl,h.cell rfl,h.cell rfl⟩
def RS.at{e}(h:RS w b s tv i d e a kv rv pv):
  ∃g c,tv=aA (some (aP g)) (jC s).length c/\i<(jC s).length/\w.cell? (aC g (i*3))=some (an (TT s i))/\w.cell? (aC g (i*3+1))=some (au (PP s i))/\w.cell? (aC g (i*3+2))=some (.bool (ef (TT s i))):=by
 have C:=JK s i h.gd;obtain ⟨h0,h1,h2⟩:=OM _ _ _ C;obtain ⟨g,c,e0,c0⟩:=aY h.tok _ _ h0;obtain ⟨D,k1,e1,c1⟩:=aY h.tok _ _ h1;obtain ⟨I,J,A,c2⟩:=aY h.tok _ _ h2;rw [e0] at e1 A;simp only [aK,aR,cg] at e1 A;obtain ⟨⟨rfl,_⟩,_⟩:=e1;obtain ⟨⟨rfl,_⟩,_⟩:=A;refine ⟨g,c,e0,?_,?_,c1,c2⟩
 ·exact (bD.1 C).1
 ·rw [cW] at c0;exact c0
def RS.below{e}(h:RS w b s tv i d e a kv rv pv)(k:am w w'):RS w' b s tv i d e a kv rv pv:=⟨h.blk.below k,ay h.tok (fun g cs f _ A=>k.block g (lt_of_some A)),h.gd,h.fm,h.sz⟩
def Below.drewN'(m):am w (w.drewN m):=below_drewN bo m
def RS.drewN{e}(h:RS w b s tv i d e a kv rv pv)(m):RS (w.drewN m) b s tv i d e a kv rv pv:=h.below (Below.drewN' m)
def RS.lt{e}(h:RS w b s tv i d e a kv rv pv):b<w.heap.size:=h.blk.lt
def RS.setI{e}(h:RS w b s tv i d e a kv rv pv)(j)(A:Gd s j):RS (w.setCell (aC b 1) (au j)) b s tv j d e a kv rv pv:=⟨h.blk.set 1 _,bU h.tok h.blk ax _ _,A,h.fm,h.sz⟩
def RS.setD{e:Nat}(h:RS w b s tv i d e a kv rv pv)(j:Nat):RS (w.setCell (aC b 2) (au j)) b s tv i j e a kv rv pv:=⟨h.blk.set 2 _,bU h.tok h.blk ax _ _,h.gd,h.fm,h.sz⟩
def RS.setE{e:Nat}(h:RS w b s tv i d e a kv rv pv)(j:Nat):RS (w.setCell (aC b 3) (au j)) b s tv i d j a kv rv pv:=⟨h.blk.set 3 _,bU h.tok h.blk ax _ _,h.gd,h.fm,h.sz⟩
def RS.setA{e:Nat}(h:RS w b s tv i d e a kv rv pv)(j:Nat):RS (w.setCell (aC b 4) (au j)) b s tv i d e j kv rv pv:=⟨h.blk.set 4 _,bU h.tok h.blk ax _ _,h.gd,h.fm,h.sz⟩
def RS.but{e}(h:RS w b s tv i d e a kv rv pv)(k:But b w w')(A:∃x,aL w' b x 252/\x=#[tv,au i',au d',au e',au a',kv,rv,pv])(D:Gd s i'):RS w' b s tv i' d' e' a' kv rv pv:=by
 obtain ⟨x,A,rfl⟩:=A;exact ⟨A,ay h.tok (fun g cs f _ C=>k.block g (lt_of_some C) (fun e=>by
  subst e;have:=h.blk;unfold aL at this;rw [this] at C;simp at C)),D,h.fm,h.sz⟩
def Gd.succ{s i}(h:Gd s i)(A:0<(TT s i).size):Gd s (i+1):=fun j C=>by
 by_cases e:j=i
 ·subst e;exact A
 exact h j ai
def Gd.le(h:Gd s i):i<=s.size:=by
 have:=(bD.1 (JK s i h)).1;have:=Dq s;omega
def Pc(b s tv i d a kv rv pv x w)(h:RS w b s tv i d 0 a kv rv pv):
  Calls prog 187 #[bu b,an x] w fun e w'=>e=bi (.bool (eqs (TT s i) x))/\∃m,w'=w.drewN m:=by
 rw [show eqs (TT s i) x=((TT s i).toList==x.toList) by unfold eqs;rw [aT,aT]];obtain ⟨g,c,rfl,hi,t0,t1,t2⟩:=h.at;obtain ⟨A,C,D,r3,I,_⟩:=h.blk.eight;go_enter func187,ntmps187;go_wp2
 go_quiet (fail)
 go_wp2;go_ret;exact ⟨rfl,_,rfl⟩
def Pd(b s tv i d e0 a kv rv pv x w)(h:RS w b s tv i d e0 a kv rv pv)(A:e0≠0):
  Calls prog 187 #[bu b,an x] w fun e w'=>e=bi (.bool false)/\∃m,w'=w.drewN m:=by
 obtain ⟨g,c,rfl,hi,t0,t1,t2⟩:=h.at;obtain ⟨D,I,J,r3,Q,_⟩:=h.blk.eight;have C:¬((e0:Int)=0):=ai;go_enter func187,ntmps187;go_wp2
 go_quiet (fail)
 go_wp2;go_ret;exact ⟨rfl,_,rfl⟩
def uE(b:Nat)(s tv)(i d a:Nat)(kv rv pv)(c0:Nat)(w)(h:RS w b s tv i d 0 a kv rv pv):
  Calls prog 189 #[bu b,au c0] w fun e w'=>e=bi (.tuple #[])/\But b w w'/\RS w' b s tv i d c0 (PP s i) kv rv pv:=by
 obtain ⟨g,c,e0,hi,t0,t1,t2⟩:=h.at;obtain ⟨C,J,Q,r3,R,_⟩:=h.blk.eight;have I:=h.blk.fz;have hn:=Dq s;have hs:=h.sz;have A:¬(g=b):=fun e=>by
  have:=own_ne h.tok h.blk ax;rw [e0,e] at this;exact this rfl
 have D:¬(b=g):=fun e=>A e.symm
 rw [e0] at C;go_enter func189,ntmps189;go_wp2
 go_region
 go_wp2;go_end0;exact ⟨rfl,(((But.refl b w).setCell 3 _).setCell 4 _).drew,(h.setE c0 |>.setA (PP s i)).drewN 1⟩
def vB(b s tv i d a kv rv pv x w)(h:RS w b s tv i d 0 a kv rv pv)(A:eqs (TT s i) x=true)(I:0<(bB x).length):
  Calls prog 188 #[bu b,an x] w fun e w'=>e=bi (.tuple #[])/\But b w w'/\RS w' b s tv (i+1) d 0 a kv rv pv:=by
 obtain ⟨R,U,V,r3,Y,_⟩:=h.blk.eight;have Q:=h.blk.fz;have D:=h.gd.succ (dR A I);have J:=h.gd.le;have hs:=h.sz;have C:=Pc b s tv i d a kv rv pv x w h;rw [A] at C;go_enter func188,ntmps188;go_wp2_with fail;refine C.mono ?_;rintro e w' ⟨rfl,m,rfl⟩;go_wp2;go_end0;exact ⟨rfl,(But.of_below (Below.drewN' m)).setCell 1 _,h.drewN m |>.setI (i+1) D⟩
def Bb(b s tv i d a kv rv pv x w)(h:RS w b s tv i d 0 a kv rv pv)(D:eqs (TT s i) x=false):
  Calls prog 188 #[bu b,an x] w fun e w'=>e=bi (.tuple #[])/\But b w w'/\RS w' b s tv i d 2 (PP s i) kv rv pv:=by
 obtain ⟨J,Q,R,r3,U,_⟩:=h.blk.eight;have C:=Pc b s tv i d a kv rv pv x w h;rw [D] at C;go_enter func188,ntmps188;go_wp2_with fail;refine C.mono ?_;rintro e w' ⟨rfl,m,rfl⟩;go_wp2_with fail;refine (uE b s tv i d a kv rv pv 2 _ (h.drewN m)).mono ?_;rintro e V ⟨rfl,A,I⟩;go_wp2;go_end0;exact ⟨rfl,((But.of_below (b:=b) (Below.drewN' m)).trans A),I⟩
def Pe(b s tv i d e0 a kv rv pv c0 w)(h:RS w b s tv i d e0 a kv rv pv)(C:e0≠0):
  Calls prog 189 #[bu b,au c0] w fun e w'=>e=bi (.tuple #[])/\∃m,w'=w.drewN m:=by
 obtain ⟨I,J,Q,r3,R,_⟩:=h.blk.eight;have A:¬((e0:Int)=0):=ai;have D:((e0:Int)==0)=false:=bR.2 A;go_enter func189,ntmps189;go_wp2;go_end0;exact ⟨rfl,0,rfl⟩
def vC(b s tv i d e0 a kv rv pv x w)(h:RS w b s tv i d e0 a kv rv pv)(A:e0≠0):
  Calls prog 188 #[bu b,an x] w fun e w'=>e=bi (.tuple #[])/\am w w':=by
 go_enter func188,ntmps188;go_wp2_with fail;refine (Pd b s tv i d e0 a kv rv pv x w h A).mono ?_;rintro e w' ⟨rfl,m,rfl⟩;go_wp2_with fail;refine (Pe b s tv i d e0 a kv rv pv 2 _ (h.drewN m) A).mono ?_;rintro e D ⟨rfl,C,rfl⟩;go_wp2;go_end0;exact ⟨rfl,Below.drewN' _⟩
def tM{P fn p ty}(h:fn.results=#[.cell p ty])(tmps w g cs t d)(D:tmps.getD p undef=bu g)(A:∃x,aL w g x t/\x=cs)(I:P.underlying ty=some d)(C:(match d with| .struct _| .array _ _=>true|_=>false)=true)(hi:(P.info? ty).map (·.size)=some cs.size):
  (results fn tmps).run P w=.ok (.agg cs) w:=by
 obtain ⟨x,A,rfl⟩:=A;exact results_cell_row h tmps w g t x (0,0) d D A I C hi
def De(s:ae)(i:Nat):ag:=.agg #[an (TT s i),au (PP s i),.bool (ef (TT s i))]
def pV(t):dC t=(ef t&& !(t.toList== [116,121,112,101])):=by
 rw [aT];unfold dC ef
 cases bB t with
 |nil=>rfl
 |cons c r=>rfl
def nD(b s tv i d a kv rv pv w)(h:RS w b s tv i d 0 a kv rv pv)(C:dC (TT s i)=true)(V:(TT s i).size<=8):
  Calls prog 228 #[bu b,.bool true] w fun e w'=>e=bi (De s i)/\But b w w'/\RS w' b s tv (i+1) d 0 a kv rv pv:=by
 have J:=h.gd.succ (Dn C);rw [pV,bO] at C;obtain ⟨n1,n2⟩:=C;have af:((TT s i).toList== [116,121,112,101])=false:=by simpa using n2
 have Y:¬((8:Int)<((TT s i).size:Int)):=ai;have Z:=h.gd.le;have hs:=h.sz;have ab:=h.lt;have H:=h.below (bo.alloc aH nC);have A:=aL.new w #[an ⟨#[]⟩,au 0,.bool false] 259;have D:=But.of_below (b:=b) ((az _ w).alloc aH nC);go_enter func228,ntmps228;go_wp2_with fail;generalize w.alloc nC=W at*;obtain ⟨g,c,e0,hi,t0,t1,t2⟩:=H.at;obtain ⟨Q,ak,al,r3,am,_⟩:=H.blk.eight;obtain ⟨ag,ah,aj⟩:=A.three;have I:=H.blk;have ap:=H.blk.fz;have zq:=A.fz;have R:=H.lt;have ae:=A.lt;rw [e0] at Q;have ac:¬(w.heap.size=b):=ai;have ad:¬(b=w.heap.size):=ai
 go_region_held3 (fun w'=>w'.cell? (aP b)=some (aA (some (aP g)) (jC s).length c)/\w'.cell? (aC b 1)=some (au i)/\w'.cell? (aC g (i*3))=some (an (TT s i))/\w'.cell? (aC g (i*3+1))=some (au (PP s i))/\w'.cell? (aC g (i*3+2))=some (.bool (ef (TT s i)))) (go_keep) (fail)
 rename_i U;go_wp2;refine bE (v:=De s i) (tM results228 _ _ w.heap.size _ 259 _ rfl ?hB underlying259 rfl aM) rfl ⟨rfl,?but,RS.but (i':=i+1) (d':=d) (e':=0) (a':=a) h ?but2 ?hb2 J⟩
 case hB=>exact ⟨_,(cY A),by rw [n1];rfl⟩
 case but=>exact (JJ D)
 case but2=>exact (JJ D)
 case hb2=>exact ⟨_,(cY I),bQ⟩
def sj(b:Nat)(s:ae)(tv:ag)(i d a:Nat)(kv rv pv:ag)(U:Bool)(w:af)(h:RS w b s tv i d 0 a kv rv pv)(A:Nat)(o D:Bool)(n1:ef (TT s i)=o)(ax:((TT s i).toList== [116,121,112,101])=D)
  (Z:(o=false/\A=2)\/(o=true/\D=true/\A=2)\/(o=true/\D=false/\A=3/\(8:Int)<((TT s i).size:Int))\/(o=true/\D=false/\A=3/\¬((8:Int)<((TT s i).size:Int))/\U=false)):
  Calls prog 228 #[bu b,.bool U] w fun e w'=>e=bi (De s i)/\But b w w'/\RS w' b s tv i d A (PP s i) kv rv pv:=by
 have Y:=h.gd
 rcases Z with ⟨rfl,rfl⟩|⟨rfl,rfl,rfl⟩|⟨rfl,rfl,rfl,ab⟩|⟨rfl,rfl,rfl,ab,rfl⟩
 all_goals
 have ar:=h.lt;have H:=h.below (bo.alloc aH nC);have C:=aL.new w #[an ⟨#[]⟩,au 0,.bool false] 259;have V:=But.of_below (b:=b) ((az _ w).alloc aH nC);go_enter func228,ntmps228;go_wp2_with fail;generalize w.alloc nC=W at*;obtain ⟨g,c,e0,hi,t0,t1,t2⟩:=H.at;obtain ⟨aj,ak,aG,r3,aI,_⟩:=H.blk.eight;obtain ⟨aB,aE,aF⟩:=C.three;have al:=H.blk;have aQ:=H.blk.fz;have zq:=C.fz;have am:=H.lt;have av:=C.lt;rw [e0] at aj;have aw:=cd W _ ak;have ac:¬(w.heap.size=b):=ai;have Q:¬(b=w.heap.size):=ai
 go_region_held3 (fun w'=>w'.cell? (aP b)=some (aA (some (aP g)) (jC s).length c)/\w'.cell? (aC b 1)=some (au i)/\w'.cell? (aC g (i*3))=some (an (TT s i))/\w'.cell? (aC g (i*3+1))=some (au (PP s i))/\w'.cell? (aC g (i*3+2))=some (.bool (ef (TT s i)))) (go_keep) (fail)
 rename_i ap;go_wp2_with fail;refine (uE b s tv i d a kv rv pv _ _ ?_).mono ?_
 ·exact H.below (cq (az W.heap.size W))
 rintro e aO ⟨rfl,J,ah⟩;have ad:¬(W.heap.size=b):=ai;have I:=aL.but ((cY C)) J ac;have R:=((eH V):But b w _).trans J;obtain ⟨ay,p1,p2⟩:=I.three;obtain ⟨aJ,aK,aN⟩:=(aL.but (aL.new W #[an (TT s i),au (PP s i),.bool _] 259).drew J ad).three;have aR:=I.fz;go_wp2;refine bE (v:=De s i) (tM results228 _ _ w.heap.size _ 259 _ rfl ?_ underlying259 rfl aM) rfl ⟨rfl,?_,RS.but (i':=i) (d':=d) (a':=PP s i) h ?_ ?_ Y⟩
 ·exact ⟨_,(cY I),by rw [n1];rfl⟩
 ·exact (JJ R)
 ·exact (JJ R)
 ·exact ⟨_,(((ah.blk).other Q _).other Q _).other Q _,bQ⟩
def mr(b s tv i d a kv rv pv rm w)(h:RS w b s tv i d 0 a kv rv pv)(A:dC (TT s i)=false):
  Calls prog 228 #[bu b,.bool rm] w fun e w'=>e=bi (De s i)/\But b w w'/\RS w' b s tv i d 2 (PP s i) kv rv pv:=by
 rw [pV] at A
 cases h1:ef (TT s i)
 ·exact sj b s tv i d a kv rv pv rm w h 2 _ _ h1 rfl (.inl ⟨rfl,rfl⟩)
 ·rw [h1] at A;exact sj b s tv i d a kv rv pv rm w h 2 _ _ h1 (by simpa using A) (.inr (.inl ⟨rfl,rfl,rfl⟩))
def lF(b s tv i d a kv rv pv rm w)(h:RS w b s tv i d 0 a kv rv pv)(A:dC (TT s i)=true)(D:8<(TT s i).size\/rm=false):
  Calls prog 228 #[bu b,.bool rm] w fun e w'=>e=bi (De s i)/\But b w w'/\RS w' b s tv i d 3 (PP s i) kv rv pv:=by
 rw [pV,bO] at A;refine sj b s tv i d a kv rv pv rm w h 3 true false A.1 (by simpa using A.2) (.inr (.inr ?_))
 by_cases C:(8:Int)<((TT s i).size:Int)
 ·exact .inl ⟨rfl,rfl,rfl,C⟩
 ·exact .inr ⟨rfl,rfl,rfl,C,D.resolve_left ai⟩
def zf(b:Nat)(s:ae)(tv:ag)(i d a:Nat)(kv rv pv:ag):
  ∃A E Q,(∀w,RS w b s tv i d 0 a kv rv pv->Calls prog 228 #[bu b,.bool true] w fun e w'=>e=bi (De s i)/\But b w w'/\RS w' b s tv A d E Q kv rv pv)/\
   ((i+1=A/\0=E/\a=Q/\dh (TT s) i=.ok ((),i+1))\/(i=A/\E≠0/\PP s i=Q/\dh (TT s) i=.error (E,i))):=by
 unfold dh
 cases hn:dC (TT s i)
 ·exact ⟨i,2,_,fun w h=>mr b s tv i d a kv rv pv true w h hn,.inr ⟨rfl,ax,rfl,rfl⟩⟩
 ·by_cases hl:8<(TT s i).size
  ·exact ⟨i,3,_,fun w h=>lF b s tv i d a kv rv pv true w h hn (.inl hl),.inr ⟨rfl,ax,rfl,by rw [if_pos rfl,if_pos hl]⟩⟩
  exact ⟨i+1,0,a,fun w h=>nD b s tv i d a kv rv pv w h hn ai,.inl ⟨rfl,rfl,rfl,by rw [if_pos rfl,if_neg hl]⟩⟩
abbrev vD:=@Obj.cells.injEq
abbrev gL(a0:Int)(a1:Option Addr)(a2:Nat)(a3:Nat)(a4:ae)(a5:ae)(a6:Int)(a7:Int)(a8:Option Addr)(a9:Nat)(a10:Nat)(a11:Option Addr)(a12:Nat)(a13:Nat):Array ag:=#[au a0,aA a1 a2 a3,an a4,an a5,au a6,au a7,aA a8 a9 a10,aA a11 a12 a13]
abbrev dX(a0:Int)(a1:Option Addr)(a2:Nat)(a3:Nat)(a4:ae)(a5:ae)(a6:Int)(a7:Int)(a8:Option Addr)(a9:Nat)(a10:Nat)(a11:Option Addr)(a12:Nat)(a13:Nat):Obj:=.cells #[au a0,aA a1 a2 a3,an a4,an a5,au a6,au a7,aA a8 a9 a10,aA a11 a12 a13] 255
def Pf (h:aD:=by
 have:=hB.size;omega):aD:=h
def GO (h:aD:=by
 rw [cN,bf]
 simpa using this):aD:=h
structure PV where
 kind:Nat
 gs:List Gr
 nb:ae
 nr:ae
 pa:Nat
 pr:Nat
 ps:List Nat
 sg:List Tk
abbrev PX:=PV×ag×ag×ag
def bH(g:Gr):ae:=if g.reach=1 then sg 42 else g.rel
def cO(g:Gr):List ag:=[an g.ty,an (bH g),au g.tp,au g.rp]
def pW(x:PX):List ag:=[au x.1.kind,x.2.1,an x.1.nb,an x.1.nr,au x.1.pa,au x.1.pr,x.2.2.1,x.2.2.2]
structure mw(w:af)(x:PX):Prop where
 g:w.ownsRow 0 257 4 x.2.1 x.1.gs.length (x.1.gs.flatMap cO)
 p:w.ownsRow 0 3 1 x.2.2.1 x.1.ps.length (x.1.ps.map fun n:Nat=>au n)
 s:w.ownsRow 0 259 3 x.2.2.2 x.1.sg.length (bL x.1.sg)
structure PT(base:Nat)(w:af)(pv:ag)(pl:List PV)(l:List PX):Prop where
 fst:l.map Prod.fst=pl
 row:w.ownsRow base 255 8 pv pl.length (l.flatMap pW)
 rep:∀x∈l,mw w x
def jS(B:Nat)(x:PX):Prop:=∀g,(x.2.1.ownBlock=some g\/x.2.2.1.ownBlock=some g\/x.2.2.2.ownBlock=some g)->B<=g
def jS.mono{C x}(h:jS B x)(k:C<=B):jS C x:=fun g A=>aV k (h g A)
def zh(B p):jS B (p,aA none 0 0,aA none 0 0,aA none 0 0):=fun g h=>by
 rcases h with h|h|h<;>cases h
structure Fr(base b:Nat)(w w':af)(pv pv':ag):Prop where
 below:Below base w w'
 keep:∀g,g<w.heap.size->g≠b->pv.ownBlock≠some g->w'.heap[g]? =w.heap[g]?
 own:∀g,pv'.ownBlock=some g->pv.ownBlock=some g\/w.heap.size<=g
def Fr.trans{w2 p p1 p2}(h:Fr base b w w1 p p1)(k:Fr base b w1 w2 p1 p2):Fr base b w w2 p p2:=by
 refine ⟨h.below.trans k.below,fun g A C D=> ?_,fun g A=> ?_⟩
 ·refine (k.keep g (cM A h.below.size) C (fun e=> ?_)).trans (h.keep g A C D)
  rcases h.own g e with e|e
  ·exact D e
  omega
 rcases k.own g A with e|e
 ·exact h.own g e
 exact .inr (aV h.below.size e)
def Fr.of_below(h:am w w')(A:base<=w.heap.size):Fr base b w w' pv pv:=⟨h.mono A,fun g C _ _=>h.block g C,fun g e=> .inl e⟩
def Fr.of_but(h:But b w w')(A:base<=b)(I:base<=w.heap.size):Fr base b w w' pv pv:=⟨h.below A I,fun g D C _=>h.block g D C,fun g e=> .inl e⟩
def gP(h:w.ownsRow base T size v n xs){f:Nat×Nat}(A:w.heap[g]? =some (.cells cs T' f))(C:T'≠T):v.ownBlock≠some g:=fun e=>dV h A C e.symm
def Fr.row(h:Fr base b w w' pv pv'){bs}(k:w.ownsRow bs T size v n xs)(C:aL w b cs 252){pb pn px}(D:w.ownsRow pb 255 8 pv pn px)(h1:T≠252)(h2:T≠255):w'.ownsRow bs T size v n xs:=
 ay k (fun g cs f _ A=>h.keep g (lt_of_some A) (fun e=>by
  subst e;unfold aL at C;rw [C] at A;simp only [aR,vD] at A;exact h1 A.2.1.symm) (gP D A h2))
def mw.frame(h:Fr base b w w' pv pv'){x}(k:mw w x)(A:aL w b cs 252){pb pn px}(C:w.ownsRow pb 255 8 pv pn px):mw w' x:=
 ⟨h.row k.g A C ax ax,h.row k.p A C ax ax,h.row k.s A C ax ax⟩
def Fr.blk(h:Fr base b w w' pv pv')(k:aL w g cs T)(A:g≠b)(C:pv.ownBlock≠some g):aL w' g cs T:=(h.keep g k.lt A C).trans k
def cP(h:w.ownsRow base e size v n xs):w.drew.ownsRow base e size v n xs:=h
def Tryz.infoPt:(Tryz.prog.info? 255).map (fun i=>(i.zero,i.size,i.bytes))=some (some (.agg #[au 0,aA none 0 0,an ⟨#[]⟩,an ⟨#[]⟩,au 0,au 0,aA none 0 0,aA none 0 0]),8,128):=by kernel_rfl
def DC(base b:Nat)(s:ae)(tv:ag)(i d e0 a:Nat)(kv rv pv:ag)(pl:List PV)(l:List PX)(x:PX)(w:af)(e:Ending)(w':af):Prop:=
 ∃pv',e=bi (au pl.length)/\Fr base b w w' pv pv'/\RS w' b s tv i d e0 a kv rv pv'/\PT base w' pv' (pl++[x.1]) (l++[x])
variable {pl:List PV}
def GQ{e0 l x va vc}(A:RS w b s tv i d e0 a kv rv (aA va pl.length vc))(C:PT base w (aA va pl.length vc) pl l)(Y:mw w x)(ad:base<=b)(U:base<=w.heap.size)(hB:am w W)(Q:(W.alloc o).drew.grownBy w5 (Value.slice va pl.length vc).ownBlock)(Z:w5.ownsRow base 255 8 (aA (some (aP g5)) (pl.length+1) be) (pl.length+1) (l.flatMap pW++pW x))(V:(Value.slice va pl.length vc).ownBlock=some g5\/g5=W.heap.size+1)(R:aL w5 b #[tv,au i,au d,au e0,au a,kv,rv,aA va pl.length vc] 252):
  DC base b s tv i d e0 a kv rv (aA va pl.length vc) pl l x w (bi (au pl.length)) (w5.setCell (aC b 7) (aA (some (aP g5)) (pl.length+1) be)):=by
 have D:am w (W.alloc o).drew:=(hB.alloc hB.size o).drew;have ab:(W.alloc o).drew.ownsRow base 255 8 (aA va pl.length vc) pl.length (l.flatMap pW):=ay C.row (fun g cs f _ ae=>D.block g (lt_of_some ae));have fr:Fr base b w (w5.setCell (aC b 7) (aA (some (aP g5)) (pl.length+1) be)) (aA va pl.length vc) (aA (some (aP g5)) (pl.length+1) be):=by
  refine ⟨(cA (D.mono U) Q (aV U D.size) (fun k af=>(ab.lt k af).1)).setCell ad _,fun g I ac ag=> ?_,fun g I=> ?_⟩
  ·exact (ea _ _ _ _ ac).trans ((Q.block g (cM I D.size) (fun e=>ag e.symm)).trans (D.block g I))
  simp only [Value.ownBlock,aR] at I
  rcases V with e|e
  ·exact .inl (by rw [e,I])
  exact .inr Pf
 refine ⟨_,rfl,fr,⟨R.set 7 _,fr.row A.tok A.blk C.row ax ax,A.gd,⟨A.fm.1,A.fm.2.1,_,_,_,rfl⟩,A.sz⟩,⟨by rw [List.map_append,C.fst];rfl,?_,fun y J=> ?_⟩⟩
 ·have:=bU Z R ax 7 (aA (some (aP g5)) (pl.length+1) be);exact GO
 ·rw [aW,aX] at J
  rcases J with J|rfl
  ·exact (C.rep y J).frame fr A.blk C.row
  exact Y.frame fr A.blk C.row
def ki(base b s tv i d e0 a kv rv pv pl l p ga gc pa pc sa sc w)(h:RS w b s tv i d e0 a kv rv pv)(D:PT base w pv pl l)(ah:mw w (p,aA ga p.gs.length gc,aA pa p.ps.length pc,aA sa p.sg.length sc))(am:pl.length<=2000)(af:base<=w.heap.size)(ae:base<=b):
  Calls prog 252 #[bu b,.agg #[au p.kind,aA ga p.gs.length gc,an p.nb,an p.nr,au p.pa,au p.pr,aA pa p.ps.length pc,aA sa p.sg.length sc]] w
   (DC base b s tv i d e0 a kv rv pv pl l (p,aA ga p.gs.length gc,aA pa p.ps.length pc,aA sa p.sg.length sc) w):=by
 obtain ⟨R,U,rfl⟩:=aw D.row;have b1:=(az _ w).alloc aH (dX p.kind ga p.gs.length gc p.nb p.nr p.pa p.pr pa p.ps.length pc sa p.sg.length sc);have H:=h.below b1;have ab:=show (w.alloc (dX p.kind ga p.gs.length gc p.nb p.nr p.pa p.pr pa p.ps.length pc sa p.sg.length sc)).ownsRow base 255 8 (aA R pl.length U) pl.length (l.flatMap pW) from ay D.row (fun g cs f _ ag=>b1.block g (lt_of_some ag))
 have ad:=aL.new w (gL p.kind ga p.gs.length gc p.nb p.nr p.pa p.pr pa p.ps.length pc sa p.sg.length sc) 255;have ap:=h.lt;have ak:w.heap.size<(w.alloc (dX p.kind ga p.gs.length gc p.nb p.nr p.pa p.pr pa p.ps.length pc sa p.sg.length sc)).heap.size:=ar;go_enter func252,ntmps252;go_wp2_with fail;generalize w.alloc (dX p.kind ga p.gs.length gc p.nb p.nr p.pa p.pr pa p.ps.length pc sa p.sg.length sc)=W at*;obtain ⟨aQ,aR,aS,r3,aT,aU,aV,ai⟩:=H.blk.eight;obtain ⟨aj,aW,aX,aY,aZ,ba,bb,bc⟩:=ad.eight;have C:=H.blk;have ax:=C.fz;have aE:=cd W _ ai;have aF:=cd W _ aj;have c7:(W.alloc (dX p.kind ga p.gs.length gc p.nb p.nr p.pa p.pr pa p.ps.length pc sa p.sg.length sc)).cell? (aC b 7)=some (aA R pl.length U):=(C.alloc _).cell rfl;have av:¬(b=W.heap.size):=by have:=C.lt;omega
 go_region_law (refine Bc rfl underlying166 Tryz.infoPt base (cP (ab.alloc _)) ((C.alloc (dX p.kind ga p.gs.length gc p.nb p.nr p.pa p.pr pa p.ps.length pc sa p.sg.length sc)).drew) W.heap.size 1 (pW (p,aA ga p.gs.length gc,aA pa p.ps.length pc,aA sa p.sg.length sc)) (W.heap.size+1) ?_;intro g5 be w5 Q J I al A;obtain ⟨aG,aI,aJ,aK,aM,aN,aO,aP⟩:=A.eight;have zq:=A.fz;have Z:=A;have Y:=J;have ac:=Q;have V:=I;have aB:=A.lt;clear A J Q I)
 all_goals
  go_wp2;go_ret;exact GQ h D ah ae af b1 Y ac V Z
abbrev Be:=@ownsRow_setCell_other
def vE(q:bq) (h:cj bq->aD:=by
 intro zq;have zr:=L4.u.rs.blk.fz;have n1:¬(w2.heap.size+1=b):=ai;have n2:¬(b=w2.heap.size+1):=ai;have n3:¬(w.heap.size=b):=ai;have n4:¬(b=w.heap.size):=ai;have n5:¬(w.heap.size=w2.heap.size+1):=ai;have n6:¬(w2.heap.size+1=w.heap.size):=ai
 revert zr n1 n2 n3 n4 n5 n6
 exact zq.1):aD:=h ⟨q⟩
def Bf(q:bq) (h:cj bq->aD:=by
 intro zq;rintro e w3 ⟨rfl,hb3⟩;have UB:=aj ((aL.new' (w2.alloc (.cells #[.string (TT s (j+1)),.int .i64 (PP s (j+1)),.bool (ef (TT s (j+1)))] 259)) #[.string (TT s (j+1)),.string ⟨#[]⟩,.int .i64 (PP s (j+1)),.int .i64 0] 257 (w2.heap.size+1) ar).below hb3);have L3:=aj ((L2.u.below (cq Bg)).below hb3);clear hb3
 revert w3 UB L3
 exact zq.1):aD:=h ⟨q⟩
def vF(q:bq) (h:cj bq->aD:=by
 intro zq;obtain ⟨p0,p1,p2,p3,p4,p5,p6,p7⟩:=L4.u.box.eight;have zp:=L4.u.box.fz;obtain ⟨g0,g1,g2,g3⟩:=JX.u.four;have zg:=JX.u.fz
 revert p0 p1 p2 p3 p4 p5 p6 p7 zp g0 g1 g2 g3 zg
 exact zq.1):aD:=h ⟨q⟩
def Bh(q:bq) (h:cj bq->aD:=by
 intro zq;rintro e w4 ⟨rfl,hb4⟩;have L4:=aj (L3.u.below hb4);have JX:=aj (UB.u.below hb4);clear hb4
 revert w4 L4 JX
 exact zq.1):aD:=h ⟨q⟩
def Pg(q:bq) (h:cj bq->aD:=by
 intro zq;have Bg:=aj (az w2.heap.size w2);have YI:=L2.u.box.lt;have uF:=aj (show (Value.slice ga gs.length gc).ownBlock≠some (w2.heap.size+1) from fun e=>by have:=(L2.u.row.lt _ e).2;omega)
 revert Bg YI uF
 exact zq.1):aD:=h ⟨q⟩
def Ph(q:bq) (h:cj bq->aD:=by
 intro zq;intro g5 be w5 nE dk DD Bi;obtain ⟨pf,hr5,JY⟩:=qI LX.u dk;have L5:=aj (vG (gr:=⟨TT s (j+1),PP s (j+1),0,em,0⟩) LX.u hlt dk nE ai false);obtain ⟨q0,q1,q2,q3,q4,q5,q6,q7⟩:=JY.eight;have zq:=JY.fz;have lq:=JY.lt;clear pf hr5 JY nE dk DD
 revert g5 be w5 Bi L5 q0 q1 q2 q3 q4 q5 q6 q7 zq lq
 exact zq.1):aD:=h ⟨q⟩
def Bj(q:bq) (h:cj bq->aD:=by
 intro zq;have lgs:=LX.u.len;have O4:=aj LX.u.row;have Gj:=LX.u.but.size
 revert lgs O4 Gj
 exact zq.1):aD:=h ⟨q⟩
def DE(T:Nat->ae)(P:Nat->Nat)(k:Nat)(gs:List Gr)(j:Nat):eL (List Gr):=if eqs (T j) (sg 44) then dQ T P k gs j else if eqs (T j) (sg 93) then .ok (gs,j+1) else .error (2,j)
def vH(T P k gs j):dQ T P (k+1) gs j=match dT T P (j+1) with
  | .error e=> .error e
  | .ok (g,m)=>DE T P k (gs++[g]) m:=by
 simp only [dQ,DE]
 rfl
def vI(T P k gs j g m)(h:dT T P (j+1)=.ok (g,m)):dQ T P (k+1) gs j=DE T P k (gs++[g]) m:=by rw [vH,h]
def zi(T P k gs j)(e:Nat×Nat)(h:dT T P (j+1)=.error e):dQ T P (k+1) gs j=.error e:=by rw [vH,h]
structure vJ(b:Nat)(s:ae)(tv:ag)(d:Nat)(kv rv pv:ag)(i:Nat)(w wr:af)(f:Bool)(j e aa:Nat)(gs:List Gr)(ga:Option Addr)(gc:Nat):Prop where
 but:But b w wr
 rs:RS wr b s tv j d e aa kv rv pv
 box:aL wr w.heap.size #[au 1,aA ga gs.length gc,an ⟨#[]⟩,an ⟨#[]⟩,au (PP s i),au 0,aA none 0 0,aA none 0 0] 255
 row:wr.ownsRow w.heap.size 257 4 (aA ga gs.length gc) gs.length (gs.flatMap cO)
 len:gs.length<=j
def vJ.below{wr' f e gs}(h:vJ b s tv d kv rv pv i w wr f j e aa gs ga gc)(k:am wr wr'):vJ b s tv d kv rv pv i w wr' f j e aa gs ga gc:=
 ⟨h.but.trans (But.of_below k),h.rs.below k,h.box.below k,ay h.row (fun g cs f _ A=>k.block g (lt_of_some A)),h.len⟩
def vJ.step{b s tv d kv rv pv i w wr wr' f j e aa gs ga gc}(h:vJ b s tv d kv rv pv i w wr f j e aa gs ga gc)(D:b<w.heap.size)(k:But b wr wr'){j' e' aa'}(r:RS wr' b s tv j' d e' aa' kv rv pv)(C:j<=j'):vJ b s tv d kv rv pv i w wr' f j' e' aa' gs ga gc:=
 ⟨h.but.trans k,r,h.box.but k ai,ay h.row (fun g cs f _ A=>k.block g (lt_of_some A) (fun e=>by
  subst e;have:=h.rs.blk;unfold aL at this;rw [this] at A;simp at A)),aV h.len C⟩
def vJ.inc{f e gs}(h:vJ b s tv d kv rv pv i w wr f j e aa gs ga gc)(A:b<w.heap.size)(C:Gd s (j+1)):vJ b s tv d kv rv pv i w (wr.setCell (aC b 1) (au ((j:Int)+1))) f (j+1) e aa gs ga gc:=
 h.step A ((But.refl b wr).setCell 1 _) (h.rs.setI (j+1) C) ai
def ec(b s tv i d a kv rv pv x w)(h:RS w b s tv i d 0 a kv rv pv)(y)(D:eqs (TT s i) x=y):
  Calls prog 187 #[bu b,an x] w fun e w'=>e=bi (.bool y)/\am w w':=
 (Pc b s tv i d a kv rv pv x w h).mono fun e w' ⟨A,m,C⟩=>⟨by rw [A,D],by rw [C];exact Below.drewN' m⟩
def mx(b s tv i d e0 a kv rv pv x w)(h:RS w b s tv i d e0 a kv rv pv)(A:e0≠0):
  Calls prog 187 #[bu b,an x] w fun e w'=>e=bi (.bool false)/\am w w':=
 (Pd b s tv i d e0 a kv rv pv x w h A).mono fun e w' ⟨A,m,C⟩=>⟨A,by rw [C];exact Below.drewN' m⟩
def aL.four{x y z u}(h:aL w g #[x,y,z,u] T):w.cell? (aP g)=some x/\w.cell? (aC g 1)=some y/\w.cell? (aC g 2)=some z/\w.cell? (aC g 3)=some u:=⟨h.cell rfl,h.cell rfl,h.cell rfl,h.cell rfl⟩
def qI{w4 f e gs}(D:vJ b s tv d kv rv pv i w w4 f j e aa gs ga gc)(A:(w4.alloc o).grownBy w5 (Value.slice ga gs.length gc).ownBlock):
  But b w w5/\RS w5 b s tv j d e aa kv rv pv/\aL w5 w.heap.size #[au 1,aA ga gs.length gc,an ⟨#[]⟩,an ⟨#[]⟩,au (PP s i),au 0,aA none 0 0,aA none 0 0] 255:=by
 have I:am w4 (w4.alloc o):=bo.alloc aH _;have L:=D.below I;refine ⟨But.grown L.but A (fun k J=>(L.row.lt k J).1),⟨(A.block _ L.rs.blk.lt (own_ne L.row L.rs.blk ax)).trans L.rs.blk,ay L.rs.tok (fun g cs f _ C=>A.block g (lt_of_some C) (dV L.row C ax)),L.rs.gd,L.rs.fm,L.rs.sz⟩,(A.block _ L.box.lt (own_ne L.row L.box ax)).trans L.box⟩
def vG{w4 f e gs}(D:vJ b s tv d kv rv pv i w w4 f j e aa gs ga gc)(Q:b<w.heap.size)(C:(w4.alloc o).grownBy w5 (Value.slice ga gs.length gc).ownBlock){gr}(I:w5.ownsRow w.heap.size 257 4 (aA (some (aP g5)) (gs.length+1) be) (gs.length+1) (gs.flatMap cO++cO gr))(J:gs.length+1<=j)(f'):
  vJ b s tv d kv rv pv i w (w5.setCell (aC w.heap.size 1) (aA (some (aP g5)) (gs.length+1) be)) f' j e aa (gs++[gr]) (some (aP g5)) be:=by
 obtain ⟨h1,h2,A⟩:=qI D C;have el:(gs++[gr]).length=gs.length+1:=ar;refine ⟨h1.setNew aH _,⟨h2.blk.other aS _,bU h2.tok A ax _ _,h2.gd,h2.fm,h2.sz⟩,?_,?_,by rw [el];exact J⟩
 ·rw [el];exact A.set 1 _
 ·rw [el,cN]
  simpa using bU I A ax 1 (aA (some (aP g5)) (gs.length+1) be)
def Tryz.infoGr:(Tryz.prog.info? 257).map (fun i=>(i.zero,i.size,i.bytes))=some (some (.agg #[an ⟨#[]⟩,an ⟨#[]⟩,au 0,au 0]),4,48):=by kernel_rfl
def vJ.inc'{f e gs}(h:vJ b s tv d kv rv pv i w wr f j e aa gs ga gc)(A:b<w.heap.size)(C:Gd s (j+1))(v)(D:v=(j:Int)+1):vJ b s tv d kv rv pv i w (wr.setCell (aC b 1) (au v)) f (j+1) e aa gs ga gc:=by
 subst D;exact h.inc A C
def vJ.far{f e gs}(h:vJ b s tv d kv rv pv i w wr f j e aa gs ga gc){gb}(A:aL wr gb cs 257)(n1:¬(b=gb))(n2:w.heap.size<gb)(C:(Value.slice ga gs.length gc).ownBlock≠some gb)(o u):vJ b s tv d kv rv pv i w (wr.setCell (aC gb o) u) f j e aa gs ga gc:=
 ⟨h.but.setNew aS _,⟨h.rs.blk.other n1 _,bU h.rs.tok A ax _ _,h.rs.gd,h.rs.fm,h.rs.sz⟩,h.box.other aS _,Be h.row C _,h.len⟩
def LQ(h:w.ownsRow B T size v n xs){p}:jS B (p,v,aA none 0 0,aA none 0 0):=fun g A=>by
 rcases A with A|A|A
 ·exact (h.lt g A).1
 ·cases A
 cases A
def fx(h:w.ownsRow base e size v n xs):w.ownsRow 0 e size v n xs:=by
 refine ⟨h.1,?_⟩
 rcases h.2 with h|⟨g,cap,A,h1,_,C⟩
 ·exact .inl h
 exact .inr ⟨g,cap,A,h1,gU _,C⟩
def PT.but{l:List PX}(h:PT base w pv pl l)(k:But b w w')(A:aL w b cs 252)(h1:base<=b)(h2:base<=w.heap.size):PT base w' pv pl l:=
 ⟨h.fst,ay h.row (fun g I f _ C=>k.block g (lt_of_some C) (fun e=>by
  subst e;unfold aL at A;rw [A] at C;simp at C)),fun x D=>(h.rep x D).frame (Fr.of_but k h1 h2) A h.row⟩
def Pi(base b:Nat)(s:ae)(tv:ag)(i d a:Nat)(kv rv pv:ag)(pl:List PV)(l:List PX)(w:af)(R:eL (List Gr))(e:Ending)(w':af):Prop:=
 e=bi (au pl.length)/\∃pv' p x,Fr base b w w' pv pv'/\PT base w' pv' (pl++[p]) (l++[x])/\jS w.heap.size x/\match R with
  | .ok (gs,j)=>RS w' b s tv j d 0 a kv rv pv'/\p=⟨1,gs,em,em,PP s i,0,[],[]⟩/\i<j
  | .error (c,jj)=>c≠0/\∃j',i<=j'/\RS w' b s tv j' d c (PP s jj) kv rv pv'
def LsC(T:Nat->ae)(P:Nat->Nat)(i a:Nat)(R:eL (List Gr))(k:Nat)(f:Bool)(j e aa:Nat)(gs:List Gr):Prop:=
 (f=true/\e=0/\a=aa/\i=j/\gs=[]/\dQ T P k gs j=R)\/(f=false/\e=0/\a=aa/\i<j/\DE T P k gs j=R)\/(f=false/\e≠0/\i<=j/\∃h,P h=aa/\R=.error (e,h))
def LsD(T:Nat->ae)(P:Nat->Nat)(i a:Nat)(R:eL (List Gr))(k:Nat)(c:Bool)(j e aa:Nat)(gs:List Gr):Prop:=
 (c=true/\0=e/\a=aa/\i<=j/\0<(T j).size/\dQ T P k gs j=R)\/(c=false/\0=e/\a=aa/\i<j/\(if eqs (T j) (sg 93) then .ok (gs,j+1) else .error (2,j))=R)\/(c=false/\e≠0/\i<=j/\∃h,P h=aa/\R=.error (e,h))
def YK{R:eL (List Gr)}{c:Bool}{e:Nat}{gs:List Gr}
  (U:(c=false/\0=e/\a=aa/\i<j/\(if eqs (TT s j) (sg 93) then .ok (gs,j+1) else .error (2,j))=R)\/(c=false/\e≠0/\i<=j/\∃A,PP s A=aa/\R=.error (e,A))):
  c=false/\∃C E Q,(∀w,RS w b s tv j d e aa kv rv pv->Calls prog 188 #[bu b,an (sg 93)] w fun e' w'=>e'=bi (.tuple #[])/\But b w w'/\RS w' b s tv C d E Q kv rv pv)/\j<=C/\
   ((R=.ok (gs,C)/\E=0/\Q=a/\i<C)\/(E≠0/\i<=C/\∃A,Q=PP s A/\R=.error (E,A))):=by
 rcases U with ⟨rfl,rfl,rfl,J,rfl⟩|⟨rfl,I,J,A,rfl,rfl⟩
 ·refine ⟨rfl,?_⟩
  cases D:eqs (TT s j) (sg 93)
  ·exact ⟨j,2,_,fun w h=>Bb b s tv j d a kv rv pv _ w h D,bV _,.inr ⟨ax,ai,j,rfl,rfl⟩⟩
  exact ⟨j+1,0,a,fun w h=>vB b s tv j d a kv rv pv _ w h D ax,ai,.inl ⟨rfl,rfl,rfl,ai⟩⟩
 ·exact ⟨rfl,j,e,_,fun w h=>(vC b s tv j d e _ kv rv pv _ w h I).mono fun e' w' ⟨h1,h2⟩=>⟨h1,But.of_below h2,h.below h2⟩,bV _,.inr ⟨I,J,A,rfl,rfl⟩⟩
def LR(base b s tv i d a kv rv pv pl l w)(h:RS w b s tv i d 0 a kv rv pv)(a3:PT base w pv pl l)(aM:base<=b)(aN:base<=w.heap.size)(bK:pl.length<=1900)(aw:eqs (TT s i) (sg 91)=true):
  Calls prog 274 #[.pointer (some ⟨b,0,none⟩)] w (Pi base b s tv i d a kv rv pv pl l w (dQ (TT s) (PP s) 512 [] i)):=by
 generalize aZ:dQ (TT s) (PP s) 512 [] i=R;have aS:=aj aZ;have a8:=aj aw;have aR:=aj h;have bb:=aj a3;obtain ⟨g,c,e0,hi,t0,t1,t2⟩:=h.at;obtain ⟨A,D,J,r3,U,bv,bw,bx⟩:=h.blk.eight;have aQ:=h.blk.fz;have hlt:=h.lt;have bC:=aj e0;rw [e0] at A;have bH:=en t0;have bs:=cd w _ A;have bt:=cd w _ D;have bu:=cd w _ t1;clear h a3 e0 aZ aw;go_enter func274,ntmps274;go_wp2_with fail
 go_region_held3 (fun w'=>w'.cell? ⟨b,0,none⟩=some (.slice (some ⟨g,0,none⟩) (jC s).length c)/\w'.cell? ⟨b,1,none⟩=some (.int .i64 i)/\w'.cell? ⟨g,i*3+1,none⟩=some (.int .i64 (PP s i))) (go_keep) (fail)
 rename_i bp;clear bp A D J r3 U bv bw bx t0 t1 t2 bs bt bu aQ;have bf:=aj (show vJ b s tv d kv rv pv i w ((w.alloc (.cells #[.int .i64 1,.slice none 0 0,.string ⟨#[]⟩,.string ⟨#[]⟩,.int .i64 (PP s i),.int .i64 0,.slice none 0 0,.slice none 0 0] 255)).drew) true i 0 a [] none 0 from
  ⟨((But.refl b w).alloc _).drew,aR.u.below ((az _ w).alloc aH _).drew,(aL.new w _ _).drew,bP,ar⟩)
 go_wp2_with fail
 go_loopg [4] 512 (fun k bz wr=>∃(f:Bool)(j e aa:Nat)(gs:List Gr)(ga:Option Addr)(gc:Nat),bz=.bool f/\vJ b s tv d kv rv pv i w wr f j e aa gs ga gc/\512<=k+j/\Hid (LsC (TT s) (PP s) i a R k f j e aa gs))
 case atStart=>exact ⟨true,i,0,a,[],none,0,rfl,bf.u,ai,aj (.inl ⟨rfl,rfl,rfl,rfl,rfl,aS.u⟩)⟩
 case round=>
  obtain ⟨f,j,e,aa,gs,ga,gc,rfl,I,bJ,am⟩:=hrel;have bL:=I.rs.gd.le;have bM:=I.rs.sz;have bI:=I.len;have ae:=aj I;clear I aS
  go_upto_region 3 with fail
  go_cut [26] (fun s' bA=>∃c:Bool,s'=.bool c/\vJ b s tv d kv rv pv i w bA f j e aa gs ga gc/\Hid (LsD (TT s) (PP s) i a R gk c j e aa gs))
  case first=>
   rcases aE am with ⟨rfl,rfl,rfl,Z,bn,hc⟩|⟨rfl,rfl,rfl,Z,hc⟩|⟨rfl,aw,Z,aB,rfl,hc⟩
   ·have au:=aj (show LsD (TT s) (PP s) i a R gk true j 0 a gs from .inl ⟨rfl,rfl,rfl,ai,dR (show eqs (TT s j) (sg 91)=true from Z▸a8.u) ax,hc⟩);clear am hc bn Z;go_wp2
    go_meet
    case rel=>exact ⟨true,rfl,ae.u,au⟩
   ·have au:=aj (show LsD (TT s) (PP s) i a R gk (eqs (TT s j) (sg 44)) j 0 a gs from by
     unfold DE at hc
     cases aX:eqs (TT s j) (sg 44)<;>rw [aX] at hc
     ·exact .inr (.inl ⟨rfl,rfl,rfl,Z,hc⟩)
     exact .inl ⟨rfl,rfl,rfl,ai,dR aX ax,hc⟩)
    clear am hc;go_wp2_with fail;refine (ec b s tv j d a kv rv pv (sg 44) _ ae.u.rs _ rfl).mono ?_;rintro e w3 ⟨rfl,hb3⟩;have L3:=aj (ae.u.below hb3);clear hb3 ae;go_wp2
    go_meet
    case rel=>exact ⟨_,rfl,L3.u,au⟩
   have au:=aj (show LsD (TT s) (PP s) i a R gk false j e (PP s aB) gs from .inr (.inr ⟨rfl,aw,Z,aB,rfl,hc⟩));clear am hc;go_wp2_with fail;refine (mx b s tv j d e (PP s aB) kv rv pv (sg 44) _ ae.u.rs aw).mono ?_;rintro e' w3 ⟨rfl,hb3⟩;have L3:=aj (ae.u.below hb3);clear hb3 ae;go_wp2
   go_meet
   case rel=>exact ⟨_,rfl,L3.u,au⟩
  case rest=>
   obtain ⟨c,rfl,I,aC⟩:=hcut;clear ae am
   rcases aE aC with ⟨rfl,rfl,rfl,Z,a2,hc⟩|aY
   ·obtain ⟨ad,rfl⟩:∃f,gk=f+1:=⟨gk-1,ai⟩;have a9:=aj (I.rs.gd.succ a2);have an:=aj Z;obtain ⟨A,D,J,r3,U,_⟩:=I.rs.blk.eight;have aQ:=I.rs.blk.fz;have ak:=aj (I.inc hlt a9.u);have ac:=aj hc;clear I aC hc a2;go_wp2_with fail;clear A D J r3 U aQ;generalize wc.setCell ⟨b,1,none⟩ (.int .i64 ((j:Int)+1))=bF at*;obtain ⟨bD,al,bE,a0,br⟩:=zf b s tv (j+1) d a kv rv pv;have aG:=aj a0;clear a0
    rcases br with ⟨rfl,rfl,rfl,V⟩|⟨rfl,ah,rfl,V⟩
    case inr=>
     have Y:dT (TT s) (PP s) (j+1)=.error (al,j+1):=by unfold dT;rw [V]
     rw [zi _ _ _ _ _ _ Y] at ac;clear V Y;refine (aG.u _ ak.u.rs).mono ?_;rintro e w2 ⟨rfl,av,ay⟩;have L2:=aj (ak.u.step hlt av ay aH);refine Pg ?_;intro Bg YI uF;clear av ay ak;unfold De;go_wp2_with fail;refine (mx b s tv (j+1) d al (PP s (j+1)) kv rv pv (sg 42) _ ?_ ah).mono ?_
     ·exact (L2.u.below (cq Bg)).rs
     refine Bf ?_;intro w3 UB L3;clear L2 Bg;go_wp2_with fail;refine (mx b s tv (j+1) d al (PP s (j+1)) kv rv pv (sg 35) _ L3.u.rs ah).mono ?_;refine Bh ?_;intro w4 L4 JX;clear UB L3;refine vF ?_;intro p0 p1 p2 p3 p4 p5 p6 p7 zp g0 g1 g2 g3 zg;obtain ⟨A,D,J,r3,U,_⟩:=L4.u.rs.blk.eight;refine vE ?_;intro zr n1 n2 n3 n4 n5 n6;have LX:=L4;refine Bj ?_;intro lgs O4 Gj;go_wp2_with (at_builtin;go_must (refine eB rfl underlying253 Tryz.infoGr w.heap.size (O4.u.alloc _) w4.heap.size 1 (cO ⟨TT s (j+1),PP s (j+1),0,em,0⟩) (w4.heap.size+1) ?_ (hbase:=by simp at Gj ⊢;omega)))
     ·refine Ph ?_;intro g5 be w5 Bi L5 q0 q1 q2 q3 q4 q5 q6 q7 zq lq;clear p0 p1 p2 p3 p4 p5 p6 p7 zp g0 g1 g2 g3 zg A D J r3 U zr;go_wp2
      go_roundg ad
      case measure=>omega
      case rel=>
       have af:=aj (show LsC (TT s) (PP s) i a R ad false (j+1) al (PP s (j+1)) (gs++[⟨TT s (j+1),PP s (j+1),0,em,0⟩]) from .inr (.inr ⟨rfl,ah,by have:=an.u;omega,j+1,rfl,(aE ac).symm⟩));refine ⟨false,j+1,al,PP s (j+1),gs++[⟨TT s (j+1),PP s (j+1),0,em,0⟩],some ⟨g5,0,none⟩,be,rfl,?_,ai,af⟩
       with_reducible exact L5.u
    case inl=>
     have V:dh (TT s) (j+1)=.ok ((),j+2):=V;refine (aG.u _ ak.u.rs).mono ?_;rintro e w2 ⟨rfl,av,ay⟩;have L2:=aj (ak.u.step (j':=j+2) hlt av ay ai);refine Pg ?_;intro Bg YI uF;clear av ay ak aG;unfold De
     cases C:eqs (TT s (j+2)) (sg 42)
     ·cases ab:eqs (TT s (j+2)) (sg 35)
      ·have Y:dT (TT s) (PP s) (j+1)=.ok (⟨TT s (j+1),PP s (j+1),0,em,0⟩,j+2):=by unfold dT;rw [V];simp only [C,ab];rfl
       rw [vI _ _ _ _ _ _ _ Y] at ac;clear V Y;go_wp2_with fail;refine (ec b s tv (j+2) d a kv rv pv (sg 42) _ ?_ false C).mono ?_
       ·exact (L2.u.below (cq Bg)).rs
       refine Bf ?_;intro w3 UB L3;clear L2 Bg;go_wp2_with fail;refine (ec b s tv (j+2) d a kv rv pv (sg 35) _ L3.u.rs false ab).mono ?_;refine Bh ?_;intro w4 L4 JX;clear UB L3;clear C ab;refine vF ?_;intro p0 p1 p2 p3 p4 p5 p6 p7 zp g0 g1 g2 g3 zg;obtain ⟨A,D,J,r3,U,_⟩:=L4.u.rs.blk.eight;refine vE ?_;intro zr n1 n2 n3 n4 n5 n6;have LX:=L4;refine Bj ?_;intro lgs O4 Gj;go_wp2_with (at_builtin;go_must (refine eB rfl underlying253 Tryz.infoGr w.heap.size (O4.u.alloc _) w4.heap.size 1 (cO ⟨TT s (j+1),PP s (j+1),0,em,0⟩) (w4.heap.size+1) ?_ (hbase:=by simp at Gj ⊢;omega)))
       ·refine Ph ?_;intro g5 be w5 Bi L5 q0 q1 q2 q3 q4 q5 q6 q7 zq lq;clear p0 p1 p2 p3 p4 p5 p6 p7 zp g0 g1 g2 g3 zg A D J r3 U zr;go_wp2
        go_roundg ad
        case measure=>omega
        case rel=>
         have af:=aj (show LsC (TT s) (PP s) i a R ad false (j+2) 0 (a) (gs++[⟨TT s (j+1),PP s (j+1),0,em,0⟩]) from .inr (.inl ⟨rfl,rfl,rfl,by have:=an.u;omega,aE ac⟩));refine ⟨false,j+2,0,a,gs++[⟨TT s (j+1),PP s (j+1),0,em,0⟩],some ⟨g5,0,none⟩,be,rfl,?_,ai,af⟩
         with_reducible exact L5.u
      have aF:=aj (show Gd s (j+2+1) from L2.u.rs.gd.succ (dR ab ax));go_wp2_with fail;refine (ec b s tv (j+2) d a kv rv pv (sg 42) _ ?_ false C).mono ?_
      ·exact (L2.u.below (cq Bg)).rs
      refine Bf ?_;intro w3 UB L3;clear L2 Bg;go_wp2_with fail;refine (ec b s tv (j+2) d a kv rv pv (sg 35) _ L3.u.rs true ab).mono ?_;refine Bh ?_;intro w4 L4 JX;clear UB L3;refine vF ?_;intro p0 p1 p2 p3 p4 p5 p6 p7 zp g0 g1 g2 g3 zg;obtain ⟨A,D,J,r3,U,_⟩:=L4.u.rs.blk.eight;refine vE ?_;intro zr n1 n2 n3 n4 n5 n6;go_wp2_with fail;have aI:=aj (show vJ b s tv d kv rv pv i w (w4.setCell ⟨b,1,none⟩ (.int .i64 ((j:Int)+2+1))) _ (j+3) 0 a gs ga gc from L4.u.inc' hlt aF.u ((j:Int)+2+1) ai);have aJ:=aj (show aL (w4.setCell ⟨b,1,none⟩ (.int .i64 ((j:Int)+2+1))) (w2.heap.size+1) #[.string (TT s (j+1)),.string ⟨#[]⟩,.int .i64 (PP s (j+1)),.int .i64 0] 257 from JX.u.other n1 _);generalize w4.setCell ⟨b,1,none⟩ (.int .i64 ((j:Int)+2+1))=bG at*;clear p0 p1 p2 p3 p4 p5 p6 p7 zp g0 g1 g2 g3 zg A D J r3 U zr L4 JX;obtain ⟨ap,E3,aK,a1,aP⟩:=zf b s tv (j+3) d a kv rv pv;have ba:=aj a1;have bl:j+3<=ap:=by rcases aP with h|h<;>omega
      have bh:=aj (show LsC (TT s) (PP s) i a R ad false ap E3 aK (gs++[⟨TT s (j+1),PP s (j+1),2,TT s (j+3),PP s (j+3)⟩]) from by
       rcases aP with ⟨rfl,rfl,rfl,aO⟩|⟨rfl,ah,rfl,aO⟩
       ·have Y:dT (TT s) (PP s) (j+1)=.ok (⟨TT s (j+1),PP s (j+1),2,TT s (j+3),PP s (j+3)⟩,j+4):=by unfold dT;rw [V];simp only [C,ab,aO];rfl
        rw [vI _ _ _ _ _ _ _ Y] at ac;exact .inr (.inl ⟨rfl,rfl,rfl,by have:=an.u;omega,aE ac⟩)
       have Y:dT (TT s) (PP s) (j+1)=.error (E3,j+3):=by unfold dT;rw [V];simp only [C,ab,aO];rfl
       rw [zi _ _ _ _ _ _ Y] at ac;exact .inr (.inr ⟨rfl,ah,by have:=an.u;omega,j+3,rfl,(aE ac).symm⟩))
      clear V C ab a1 aP;refine (ba.u _ aI.u.rs).mono ?_;rintro e w4 ⟨rfl,ag,aA⟩;have L4:=aj (aI.u.step (j':=ap) hlt ag aA bl);have JX:=aj (aJ.u.but ag n1);have bX:=ag.size;have bY:=aJ.u.lt;have bB:=aj (az w4.heap.size w4);clear ag aA aI aJ;unfold De;refine vF ?_;intro p0 p1 p2 p3 p4 p5 p6 p7 zp g0 g1 g2 g3 zg;obtain ⟨A,D,J,r3,U,_⟩:=L4.u.rs.blk.eight;refine vE ?_;intro zr n1 n2 n3 n4 n5 n6;have bN:=JX.u.lt;have bO:=L4.u.box.lt;have bQ:=L4.u.rs.lt;have bU:¬(w4.heap.size=w2.heap.size+1):=ai;have bV:¬(w2.heap.size+1=w4.heap.size):=ai;have bW:¬(w4.heap.size=w.heap.size):=ai;have bR:¬(w.heap.size=w4.heap.size):=ai;have bS:¬(w4.heap.size=b):=ai;have bT:¬(b=w4.heap.size):=ai;have LX:=aj (((L4.u.far JX.u n2 ai uF.u 1 (.string (TT s (j+3)))).far (JX.u.set 1 _) n2 ai uF.u 3 (.int .i64 (PP s (j+3)))).below (bo.alloc aH (.cells #[.string (TT s (j+3)),.int .i64 (PP s (j+3)),.bool (ef (TT s (j+3)))] 259)));refine Bj ?_;intro lgs O4 Gj;go_wp2_with (at_builtin;go_must (refine eB rfl underlying253 Tryz.infoGr w.heap.size (O4.u.alloc _) (w4.heap.size+1) 1 (cO ⟨TT s (j+1),PP s (j+1),2,TT s (j+3),PP s (j+3)⟩) (w4.heap.size+1+1) ?_ (hbase:=by simp at Gj ⊢;omega)))
      ·intro g5 be w5 nE dk DD Bi;obtain ⟨pf,hr5,JY⟩:=qI LX.u dk;have L5:=aj (vG (gr:=⟨TT s (j+1),PP s (j+1),2,TT s (j+3),PP s (j+3)⟩) LX.u hlt dk nE ai false);obtain ⟨q0,q1,q2,q3,q4,q5,q6,q7⟩:=JY.eight;have zq:=JY.fz;have lq:=JY.lt;clear pf hr5 JY nE dk DD p0 p1 p2 p3 p4 p5 p6 p7 zp g0 g1 g2 g3 zg A D J r3 U zr;go_wp2
       go_roundg ad
       case measure=>omega
       case rel=>
        have af:=aj (show LsC (TT s) (PP s) i a R ad false (ap) E3 (aK) (gs++[⟨TT s (j+1),PP s (j+1),2,TT s (j+3),PP s (j+3)⟩]) from bh.u);refine ⟨false,ap,E3,aK,gs++[⟨TT s (j+1),PP s (j+1),2,TT s (j+3),PP s (j+3)⟩],some ⟨g5,0,none⟩,be,rfl,?_,ai,af⟩
        with_reducible exact L5.u
     have ab:eqs (TT s (j+2)) (sg 35)=false:=by
      unfold eqs at C ⊢;rw [dS] at C;rw [C];decide
     have Y:dT (TT s) (PP s) (j+1)=.ok (⟨TT s (j+1),PP s (j+1),1,em,0⟩,j+3):=by unfold dT;rw [V];simp only [C,if_true]
     rw [vI _ _ _ _ _ _ _ Y] at ac;have aF:=aj (show Gd s (j+2+1) from L2.u.rs.gd.succ (dR C ax));clear V Y;go_wp2_with fail;refine (ec b s tv (j+2) d a kv rv pv (sg 42) _ ?_ true C).mono ?_
     ·exact (L2.u.below (cq Bg)).rs
     refine Bf ?_;intro w3 UB L3;clear L2 Bg;go_wp2_with fail;refine (ec b s tv (j+2) d a kv rv pv (sg 35) _ L3.u.rs false ab).mono ?_;refine Bh ?_;intro w4 L4 JX;clear UB L3;clear C ab;refine vF ?_;intro p0 p1 p2 p3 p4 p5 p6 p7 zp g0 g1 g2 g3 zg;obtain ⟨A,D,J,r3,U,_⟩:=L4.u.rs.blk.eight;refine vE ?_;intro zr n1 n2 n3 n4 n5 n6;have LX:=aj ((vJ.inc' L4.u hlt aF.u ((j:Int)+2+1) ai).far (JX.u.other n1 _) n2 ai uF.u 1 (.string ⟨#[42]⟩));refine Bj ?_;intro lgs O4 Gj;go_wp2_with (at_builtin;go_must (refine eB rfl underlying253 Tryz.infoGr w.heap.size (O4.u.alloc _) w4.heap.size 1 (cO ⟨TT s (j+1),PP s (j+1),1,em,0⟩) (w4.heap.size+1) ?_ (hbase:=by simp at Gj ⊢;omega)))
     ·intro g5 be w5 nE dk DD Bi;obtain ⟨pf,hr5,JY⟩:=qI LX.u dk;have L5:=aj (vG (gr:=⟨TT s (j+1),PP s (j+1),1,em,0⟩) LX.u hlt dk nE ai false);obtain ⟨q0,q1,q2,q3,q4,q5,q6,q7⟩:=JY.eight;have zq:=JY.fz;have lq:=JY.lt;clear pf hr5 JY nE dk DD p0 p1 p2 p3 p4 p5 p6 p7 zp g0 g1 g2 g3 zg A D J r3 U zr;go_wp2
      go_roundg ad
      case measure=>omega
      case rel=>
       have af:=aj (show LsC (TT s) (PP s) i a R ad false (j+3) 0 (a) (gs++[⟨TT s (j+1),PP s (j+1),1,em,0⟩]) from .inr (.inl ⟨rfl,rfl,rfl,by have:=an.u;omega,aE ac⟩));refine ⟨false,j+3,0,a,gs++[⟨TT s (j+1),PP s (j+1),1,em,0⟩],some ⟨g5,0,none⟩,be,rfl,?_,ai,af⟩
       with_reducible exact L5.u
   obtain ⟨rfl,aU,E,Q,hs,bk,a4⟩:=YK (b:=b) (s:=s) (tv:=tv) (d:=d) (kv:=kv) (rv:=rv) (pv:=pv) aY;have aT:=aj hs;have bc:=aj a4;have L3:=aj I;clear hs a4 aY aC I;go_wp2_with fail;refine (aT.u _ L3.u.rs).mono ?_;rintro e' w4 ⟨rfl,ag,aA⟩;have L4:=aj (L3.u.step hlt ag aA bk);clear ag aA L3 aT;have bi:=aj (bb.u.but L4.u.but aR.u.blk aM aN);have bj:=aj (show mw w4 (⟨1,gs,em,em,PP s i,0,[],[]⟩,.slice ga gs.length gc,.slice none 0 0,.slice none 0 0) from ⟨fx L4.u.row,bP,bP⟩);obtain ⟨p0,p1,p2,p3,p4,p5,p6,p7⟩:=L4.u.box.eight;have hb4:base<=w4.heap.size:=aV aN L4.u.but.size;go_wp2_with fail;refine (ki base b s tv (aU) d E (Q) kv rv pv pl l ⟨1,gs,em,em,PP s i,0,[],[]⟩ ga gc none 0 none 0 w4 L4.u.rs bi.u bj.u ai hb4 aM).mono ?_;rintro e' bZ ⟨pv',rfl,fr,a6,a5⟩;have a7:=aj fr;have aW:=aj a6;have bg:=aj a5;clear fr a6 a5 p0 p1 p2 p3 p4 p5 p6 p7;go_wp2;go_ret;refine ⟨rfl,pv',_,_,(Fr.of_but L4.u.but aM aN).trans a7.u,bg.u,LQ L4.u.row,?_⟩
   rcases bc.u with ⟨rfl,rfl,rfl,Z⟩|⟨ah,Z,aB,rfl,rfl⟩
   ·exact ⟨aW.u,rfl,Z⟩
   exact ⟨ah,aU,Z,aW.u⟩
abbrev nF:=@List.getElem?_append_left
abbrev vK:=@List.getElem?_concat_length
def Pj(q:bq) (h:cj bq->aD:=by
 intro zq;refine (ec b s tv i d a kv rv pv (sg 40) w1 H1 true he).mono ?_;rintro e w2 ⟨rfl,hb2⟩;have H2:=H1.below hb2;have B2:=B1.trans (But.of_below (b:=b) hb2)
 revert w2 hb2 H2 B2
 exact zq.1):aD:=h ⟨q⟩
def cu(R:Nat->Ex->Prop):List Nat->List Ex->Prop
 | [],[]=>True
 |n::ns,x::xs=>R n x/\cu R ns xs
 |_,_=>False
def cb(x:Ex):List (ae×Nat×Ex)->Ex
 | []=>x
 |(t,p,y)::r=>cb (dF t p x y) r
def Tr(pl:List PV):Nat->Nat->Ex->Prop
 |0,_,_=>False
 |f+1,n,x=>∃p,pl[n]? =some p/\(
   (p.kind=1/\(p.ps=[]/\p.sg=[])/\x=⟨⟨0,p.pa,em,0,em,0,p.gs⟩,none,none⟩)\/
   (p.kind=2/\p.gs=[]/\(p.ps=[]/\p.sg=[])/\x=⟨⟨1,p.pa,p.nr,p.pa,em,0,[]⟩,none,none⟩)\/
   (p.kind=3/\p.gs=[]/\(p.ps=[]/\p.sg=[])/\x=⟨⟨2,p.pa,p.nb,p.pa,p.nr,p.pr,[]⟩,none,none⟩)\/
   (p.kind=4/\p.gs=[]/\∃h ns A rs,p.ps=h::ns/\Tr pl f h A/\cu (Tr pl f) ns (rs.map fun r=>r.2.2)/\p.sg=⟨[],0,false⟩::rs.map (fun r=>⟨bB r.1,r.2.1,false⟩)/\((∀r∈rs,r.1=sg 38\/r.1=sg 45)/\rs≠ [])/\x=cb A rs)\/
   (p.kind=5/\p.gs=[]/\p.sg=[]/\∃h ns A rs,p.ps=h::ns/\Tr pl f h A/\cu (Tr pl f) ns (rs.map fun r=>r.2.2)/\(∀r∈rs,r.1=sg 124)/\rs≠ []/\x=cb A rs))
def cu.mono{R S}(h:∀n x,R n x->S n x):∀(ns:List Nat)(xs:List Ex),cu R ns xs->cu S ns xs
 | [],[],_=>trivial
 |n::ns,x::xs,k=>⟨h n x k.1,cu.mono h ns xs k.2⟩
 | [],_::_,k=>k.elim
 |_::_,[],k=>k.elim
def Tr.more(pl t):∀(f n:Nat)(x:Ex),Tr pl f n x->Tr (pl++t) f n x
 |0,_,_,h=>h.elim
 |f+1,n,x,⟨p,hp,h⟩=>by
  refine ⟨p,?_,?_⟩
  ·rw [nF (bD.1 hp).1];exact hp
  rcases h with h|h|h|⟨h1,h2,R,ns,U,rs,A,C,D,I,J,Q⟩|⟨h1,h2,V,R,ns,U,rs,A,C,D,I,J,Q⟩
  ·exact .inl h
  ·exact .inr (.inl h)
  ·exact .inr (.inr (.inl h))
  ·exact .inr (.inr (.inr (.inl ⟨h1,h2,R,ns,U,rs,A,Tr.more pl t f _ _ C,cu.mono (Tr.more pl t f) _ _ D,I,J,Q⟩)))
  exact .inr (.inr (.inr (.inr ⟨h1,h2,V,R,ns,U,rs,A,Tr.more pl t f _ _ C,cu.mono (Tr.more pl t f) _ _ D,I,J,Q⟩)))
def Tr.up(pl):∀(f n:Nat)(x:Ex),Tr pl f n x->Tr pl (f+1) n x
 |0,_,_,h=>h.elim
 |f+1,n,x,⟨p,hp,h⟩=>by
  refine ⟨p,hp,?_⟩
  rcases h with h|h|h|⟨h1,h2,R,ns,U,rs,A,C,D,I,J,Q⟩|⟨h1,h2,V,R,ns,U,rs,A,C,D,I,J,Q⟩
  ·exact .inl h
  ·exact .inr (.inl h)
  ·exact .inr (.inr (.inl h))
  ·exact .inr (.inr (.inr (.inl ⟨h1,h2,R,ns,U,rs,A,Tr.up pl f _ _ C,cu.mono (Tr.up pl f) _ _ D,I,J,Q⟩)))
  exact .inr (.inr (.inr (.inr ⟨h1,h2,V,R,ns,U,rs,A,Tr.up pl f _ _ C,cu.mono (Tr.up pl f) _ _ D,I,J,Q⟩)))
def Tr.le(pl)(h:f<=g){x}(k:Tr pl f n x):Tr pl g n x:=by
 obtain ⟨m,rfl⟩:=Nat.exists_eq_add_of_le h;clear h
 induction m with
 |zero=>exact k
 |succ m ih=>exact Tr.up pl _ _ _ ih
def qJ(base b:Nat)(s:ae)(tv:ag)(i d a:Nat)(kv rv pv:ag)(pl:List PV)(l:List PX)(w:af)(ex:Nat)(R:eL Ex)(e:Ending)(w':af):Prop:=
 ∃m:Nat,e=bi (au m)/\∃pv' kQ h t tl,Fr base b w w' pv pv'/\PT base w' pv' kQ h/\kQ=pl++t/\h=l++tl/\(∀x∈tl,jS w.heap.size x)/\match R with
  | .ok (x,j)=>RS w' b s tv j d 0 a kv rv pv'/\i<j/\kQ.length+i<=pl.length+j/\∃f,Tr kQ f m x
  | .error (c,jj)=>c≠0/\∃j',i<=j'/\RS w' b s tv j' d c (PP s jj) kv rv pv'/\kQ.length+i<=pl.length+j'+ex
def qK(s:ae)(h:Nat->eL Ex)(d ex:Nat):Prop:=∀(base b:Nat)(tv:ag)(i a:Nat)(kv rv pv:ag)(pl:List PV)(l:List PX)(w:af),RS w b s tv i d 0 a kv rv pv->PT base w pv pl l->base<=b->base<=w.heap.size->pl.length<=i->
 Calls prog 229 #[bu b] w (qJ base b s tv i d a kv rv pv pl l w ex (h i))
def LS(base b s tv i d a kv rv pv pl l w)(h:RS w b s tv i d 0 a kv rv pv)(ah:PT base w pv pl l)(Q:base<=b)(I:base<=w.heap.size)(aj:pl.length<=i)(ex)(R:eqs (TT s i) (sg 91)=true):Calls prog 266 #[bu b] w (qJ base b s tv i d a kv rv pv pl l w (ex+1) (j7 (TT s) (PP s) i)):=by
 have ak:=h.gd.le;have al:=h.sz;have C:=ec b s tv i d a kv rv pv (sg 91) w h true R;go_enter func266,ntmps266;go_wp2_with fail;refine C.mono ?_;rintro e w1 ⟨rfl,A⟩;have ag:=A.size;have ab:=Fr.of_below (base:=base) (b:=b) (pv:=pv) A I;have ac:=h.below A;have ae:=ah.but (But.of_below (b:=b) A) h.blk Q I;have Y:=LR base b s tv i d a kv rv pv pl l w1 ac ae Q (aV I A.size) ai R;go_wp2_with fail;refine Y.mono ?_;rintro e an ⟨rfl,pv',p,x,fr,pt,af,D⟩;have ad:=af.mono ag;have Z:=ab.trans fr;go_wp2;go_ret;refine ⟨pl.length,rfl,pv',_,_,[p],[x],Z,pt,rfl,rfl,fun y V=>by rw [aX] at V;subst V;exact ad,?_⟩;unfold j7
 cases U:dQ (TT s) (PP s) 512 [] i with
 |error e=>
  obtain ⟨c,am⟩:=e;rw [U] at D;obtain ⟨hc,j',J,rs⟩:=D;exact ⟨hc,j',J,rs,aS⟩
 |ok y=>
  obtain ⟨gs,j⟩:=y;rw [U] at D;obtain ⟨rs,rfl,J⟩:=D;exact ⟨rs,J,aS,1,_,vK,.inl ⟨rfl,⟨rfl,rfl⟩,rfl⟩⟩
def LU(base b s tv i d a kv rv pv pl l w)(h:RS w b s tv i d 0 a kv rv pv)(U:PT base w pv pl l)(I:base<=b)(J:base<=w.heap.size)(V:pl.length<=i)(ex)(h1:eqs (TT s i) (sg 91)=false)(he:eqs (TT s i) (sg 40)=true)(R:d=4):Calls prog 266 #[bu b] w (qJ base b s tv i d a kv rv pv pl l w (ex+1) (.error (3,i))):=by
 have C:=ec b s tv i d a kv rv pv (sg 91) w h false h1;go_enter func266,ntmps266;go_wp2_with fail;refine C.mono ?_;rintro e w1 ⟨rfl,D⟩;have H1:=h.below D;have B1:=But.of_below (b:=b) D;go_wp2_with fail;refine Pj ?_;intro w2 hb2 H2 B2;obtain ⟨Y,Z,ab,r3,ac,_⟩:=H2.blk.eight;subst R;go_wp2_with fail;refine (uE b s tv i 4 a kv rv pv 3 w2 H2).mono ?_;rintro e ad ⟨rfl,Q,k3⟩;have A:=B2.trans Q;go_wp2;go_ret;exact ⟨0,rfl,pv,pl,l,[],[],Fr.of_but A I J,U.but A h.blk I J,ar,ar,ar,ax,i,bV _,k3,ai⟩
def LV(T:Nat->ae)(r:eL Ex):eL Ex:=match r with
 | .error e=> .error e
 | .ok (x,j)=>if eqs (T j) (sg 41) then .ok (x,j+1) else .error (2,j)
def Vo(base b s tv i d a kv rv pv pl l w)(h:RS w b s tv i d 0 a kv rv pv)(aG:PT base w pv pl l)(A:base<=b)(al:base<=w.heap.size)(aL:pl.length<=i)(inner ex)(aA:qK s inner (d+1) ex)(h1:eqs (TT s i) (sg 91)=false)(he:eqs (TT s i) (sg 40)=true)(aJ:d<4):Calls prog 266 #[bu b] w (qJ base b s tv i d a kv rv pv pl l w (ex+1) (LV (TT s) (inner (i+1)))):=by
 have az:=h.gd.succ (dR he ax);have C:=ec b s tv i d a kv rv pv (sg 91) w h false h1;have aM:=h.gd.le;have aN:=h.sz;have aE:¬((d:Int)=4):=ai;have aK:((d:Int)==4)=false:=bR.2 aE;go_enter func266,ntmps266;go_wp2_with fail;refine C.mono ?_;rintro e w1 ⟨rfl,aj⟩;have H1:=h.below aj;have B1:=But.of_below (b:=b) aj;clear aj C;go_wp2_with fail;refine Pj ?_;intro w2 hb2 H2 B2;obtain ⟨R,U,V,r3,Y,_⟩:=H2.blk.eight;have Z:=H2.blk.fz;clear hb2 H1 B1;go_wp2_with fail;have ay:=show RS ((w2.setCell (aC b 1) (au ((i:Int)+1))).setCell (aC b 2) (au ((d:Int)+1))) b s tv (i+1) (d+1) 0 a kv rv pv from (H2.setI (i+1) az).setD (d+1)
 have ac:=show But b w ((w2.setCell (aC b 1) (au ((i:Int)+1))).setCell (aC b 2) (au ((d:Int)+1))) from (B2.setCell 1 _).setCell 2 _
 clear R U V r3 Y Z H2 B2;generalize (w2.setCell (aC b 1) (au ((i:Int)+1))).setCell (aC b 2) (au ((d:Int)+1))=ap at*;have av:base<=ap.heap.size:=aV al ac.size;have an:=aA base b tv (i+1) a kv rv pv pl l ap ay (aG.but ac h.blk A al) A av ai;refine an.mono ?_;rintro e af ⟨m,rfl,pv',kQ,aO,t,tl,fr,pt,rfl,rfl,ar,ae⟩;have ah:=fun x aI=>(ar x aI).mono ac.size
 have ag:=(Fr.of_but ac A al).trans fr;have Q:base<=af.heap.size:=aV av fr.below.size;clear fr ar an
 cases J:inner (i+1) with
 |error e=>
  obtain ⟨c,aw⟩:=e;rw [J] at ae;obtain ⟨hc,j',aF,rs,hn⟩:=ae;have E:=show LV (TT s) (inner (i+1))=.error (c,aw) by rw [J];rfl
  obtain ⟨R,U,V,r3,Y,_⟩:=rs.blk.eight;have Z:=rs.blk.fz;have I:=vC b s tv j' d c (PP s aw) kv rv pv' (sg 41) _ (rs.setD d) hc;clear J;go_wp2_with fail;refine I.mono ?_;rintro e w5 ⟨rfl,ak⟩;have aB:=(rs.setD d).below ak;have D:=((But.refl b af).setCell 2 (au (d:Nat))).trans (But.of_below ak);clear ak I R U V r3 Y Z;go_wp2;go_ret;rw [E];exact ⟨m,rfl,pv',_,_,t,tl,ag.trans (Fr.of_but D A Q),pt.but D rs.blk A Q,rfl,rfl,ah,hc,j',ai,aB,ai⟩
 |ok y=>
  obtain ⟨x,j⟩:=y;rw [J] at ae;obtain ⟨rs,aF,hn,f,aH⟩:=ae;obtain ⟨R,U,V,r3,Y,_⟩:=rs.blk.eight;have Z:=rs.blk.fz
  cases ad:eqs (TT s j) (sg 41)
  ·have E:=show LV (TT s) (inner (i+1))=.error (2,j) by rw [J];simp [LV,ad]
   have I:=Bb b s tv j d a kv rv pv' (sg 41) _ (rs.setD d) ad;clear J;go_wp2_with fail;refine I.mono ?_;rintro e w5 ⟨rfl,ab,am⟩;have D:=((But.refl b af).setCell 2 (au (d:Nat))).trans ab;clear ab I R U V r3 Y Z;go_wp2;go_ret;rw [E];exact ⟨m,rfl,pv',_,_,t,tl,ag.trans (Fr.of_but D A Q),pt.but D rs.blk A Q,rfl,rfl,ah,ax,j,ai,am,ai⟩
  have E:=show LV (TT s) (inner (i+1))=.ok (x,j+1) by rw [J];simp [LV,ad]
  have I:=vB b s tv j d a kv rv pv' (sg 41) _ (rs.setD d) ad ax;clear J;go_wp2_with fail;refine I.mono ?_;rintro e w5 ⟨rfl,ab,am⟩;have D:=((But.refl b af).setCell 2 (au (d:Nat))).trans ab;clear ab I R U V r3 Y Z;go_wp2;go_ret;rw [E];exact ⟨m,rfl,pv',_,_,t,tl,ag.trans (Fr.of_but D A Q),pt.but D rs.blk A Q,rfl,rfl,ah,am,ai,ai,f,aH⟩
abbrev pX(a0:ae)(a1:Int)(a2:Bool):Obj:=.cells #[an a0,au a1,.bool a2] 259
def JZ(w k x y p q):mw w (⟨k,[],x,y,p,q,[],[]⟩,aA none 0 0,aA none 0 0,aA none 0 0):=⟨bP,bP,bP⟩
def vL(base b:Nat)(s:ae)(tv:ag)(i d a:Nat)(kv rv pv:ag)(pl:List PV)(l:List PX)(w:af)(h:RS w b s tv i d 0 a kv rv pv)(aH:PT base w pv pl l)(J:base<=b)(U:base<=w.heap.size)(aK:pl.length<=i)(ex:Nat)(h1:eqs (TT s i) (sg 91)=false)(h2:eqs (TT s i) (sg 40)=false)(j A Q:Nat)(aF:∀W,RS W b s tv (i) d 0 a kv rv pv->Calls prog 228 #[bu b,.bool true] W fun e w'=>e=bi (De s (i))/\But b W w'/\RS w' b s tv j d A Q kv rv pv)(aG:∀W,RS W b s tv j d A Q kv rv pv->Calls prog 187 #[bu b,an (sg 46)] W fun e w'=>e=bi (.bool false)/\am W w')(R:eL Ex)
  (aC:(R=.ok (⟨⟨1,PP s i,TT s i,PP s i,em,0,[]⟩,none,none⟩,i+1)/\j=i+1/\A=0/\Q=a)\/(R=.error (A,i)/\A≠0/\j=i/\Q=PP s i)):Calls prog 266 #[bu b] w (qJ base b s tv i d a kv rv pv pl l w (ex+1) R):=by
 have C:=ec b s tv i d a kv rv pv (sg 91) w h false h1;have aM:=h.gd.le;have aN:=h.sz;go_enter func266,ntmps266;go_wp2_with fail;refine C.mono ?_;rintro e w1 ⟨rfl,ab⟩;have Z:=h.below ab;have ak:=But.of_below (b:=b) ab;go_wp2_with fail;refine (ec b s tv i d a kv rv pv (sg 40) w1 Z false h2).mono ?_;rintro e aJ ⟨rfl,ac⟩;have av:=Z.below ac;have al:=ak.trans (But.of_below (b:=b) ac);go_wp2_with fail;refine (aF aJ av).mono ?_;rintro e V ⟨rfl,aA,k3⟩;have ap:=al.trans aA;have Y:=az V.heap.size V;unfold De;go_wp2_with fail;refine (aG _ ?r).mono ?_
 case r=>exact k3.below (cq Y)
 rintro e aj ⟨rfl,D⟩;have aw:=(k3.below (cq Y)).below D;have ay:=(aL.new V #[an (TT s i),au (PP s i),.bool (ef (TT s i))] 259).below D;have I:=((eH ap):But b w _).trans (But.of_below D);obtain ⟨t0,t1,t2⟩:=ay.three;go_wp2_with fail;have ax:=aH.but I h.blk J U;have D:base<=(aj).heap.size:=aV U I.size;refine (ki base b s tv (j) d A (Q) kv rv pv pl l ⟨2,[],em,TT s i,PP s i,0,[],[]⟩ none 0 none 0 none 0 (aj) aw ax (JZ _ _ _ _ _ _) ai D J).mono ?_;rintro e' wf ⟨pv',rfl,fr,ah,aI⟩;have ar:=(Fr.of_but I J U).trans fr;go_wp2;go_ret;refine ⟨pl.length,rfl,pv',_,_,[_],[_],ar,aI,rfl,rfl,fun y ad=>by rw [aX] at ad;subst ad;exact zh _ _,?_⟩
 rcases aE aC with ⟨rfl,rfl,rfl,rfl⟩|⟨rfl,aB,rfl,rfl⟩
 ·exact ⟨ah,ai,aS,1,_,vK,.inr (.inl ⟨rfl,rfl,⟨rfl,rfl⟩,rfl⟩)⟩
 ·exact ⟨aB,_,bV _,ah,aS⟩
def vM(base b s tv i d a kv rv pv pl l w)(h:RS w b s tv i d 0 a kv rv pv)(a3:PT base w pv pl l)(ah:base<=b)(aj:base<=w.heap.size)(bc:pl.length<=i)(ex)(h1:eqs (TT s i) (sg 91)=false)(h2:eqs (TT s i) (sg 40)=false)(aZ:dC (TT s i)=true)(aT:(TT s i).size<=8)(aF:eqs (TT s (i+1)) (sg 46)=true)(j E Q)(aY:∀W,RS W b s tv (i+2) d 0 a kv rv pv->Calls prog 228 #[bu b,.bool true] W fun e w'=>e=bi (De s (i+2))/\But b W w'/\RS w' b s tv j d E Q kv rv pv)(R)(aW:(R=.ok (⟨⟨2,PP s i,TT s i,PP s i,TT s (i+2),PP s (i+2),[]⟩,none,none⟩,i+3)/\j=i+3/\E=0/\Q=a)\/(R=.error (E,i+2)/\E≠0/\j=i+2/\Q=PP s (i+2))):Calls prog 266 #[bu b] w (qJ base b s tv i d a kv rv pv pl l w (ex+1) R):=by
 have C:=ec b s tv i d a kv rv pv (sg 91) w h false h1;have bg:=h.lt;have bf:=h.gd.le;have bh:=h.sz;go_enter func266,ntmps266;go_wp2_with fail;refine C.mono ?_;rintro e w1 ⟨rfl,af⟩;have ac:=h.below af;have ak:=But.of_below (b:=b) af;clear af C;go_wp2_with fail;refine (ec b s tv i d a kv rv pv (sg 40) w1 ac false h2).mono ?_;rintro e ba ⟨rfl,ag⟩;have av:=ac.below ag;have al:=ak.trans (But.of_below (b:=b) ag);clear ag ac ak;go_wp2_with fail;refine (nD b s tv i d a kv rv pv ba av aZ aT).mono ?_;rintro e I ⟨rfl,aB,k3⟩;have Y:=al.trans aB;have ab:=az I.heap.size I;clear aB av al;unfold De;go_wp2_with fail;refine (ec b s tv (i+1) d a kv rv pv (sg 46) _ ?r true aF).mono ?_
 case r=>exact k3.below (cq ab)
 rintro e V ⟨rfl,A⟩;have D:=(k3.below (cq ab)).below A;have U:=(aL.new I #[an (TT s i),au (PP s i),.bool (ef (TT s i))] 259).below A;have am:=(show But b w _ from (eH Y)).trans (But.of_below A);obtain ⟨t0,t1,t2⟩:=U.three;have a4:=U.lt;have bk:=Y.size;clear A k3 Y ab;have aO:=D.gd.succ (dR aF ax);obtain ⟨a6,a7,a8,r3,a9,_⟩:=D.blk.eight;have bb:=D.blk.fz;go_wp2_with fail;have aw:=show RS (V.setCell (aC b 1) (au ((i:Int)+1+1))) b s tv (i+2) d 0 a kv rv pv from D.setI (i+2) aO
 have ap:=show But b w (V.setCell (aC b 1) (au ((i:Int)+1+1))) from am.setCell 1 _
 have aG:¬(I.heap.size=b):=ai;have ay:=show aL (V.setCell (aC b 1) (au ((i:Int)+1+1))) I.heap.size #[an (TT s i),au (PP s i),.bool (ef (TT s i))] 259 from U.other aG _
 clear a6 a7 a8 r3 a9 bb t0 t1 t2 a4 D am U;generalize V.setCell (aC b 1) (au ((i:Int)+1+1))=aR at*;refine (aY aR aw).mono ?_;rintro e J ⟨rfl,ae,aJ⟩;have ar:=ap.trans ae;have ad:=ay.but ae aG;have bj:=ad.lt;obtain ⟨t0,t1,t2⟩:=ad.three;have aM:=az J.heap.size J;clear ae aw ap ay;unfold De;go_wp2_with fail;have aP:=aJ.below ((az _ J).alloc aH (pX (TT s (i+2)) (PP s (i+2)) (ef (TT s (i+2)))));have Z:=ar.trans (But.of_below (b:=b) ((az _ J).alloc aH (pX (TT s (i+2)) (PP s (i+2)) (ef (TT s (i+2))))));clear aJ ar ad aM;generalize J.alloc (pX (TT s (i+2)) (PP s (i+2)) (ef (TT s (i+2))))=aA at*;have aQ:=a3.but Z h.blk ah aj;have A:base<=(aA).heap.size:=aV aj Z.size;refine (ki base b s tv (j) d E (Q) kv rv pv pl l ⟨3,[],TT s i,TT s (i+2),PP s i,PP s (i+2),[],[]⟩ none 0 none 0 none 0 (aA) aP aQ (JZ _ _ _ _ _ _) ai A ah).mono ?_;rintro e' wf ⟨pv',rfl,fr,aK,a5⟩;have aN:=(Fr.of_but Z ah aj).trans fr;clear fr;go_wp2;go_ret;refine ⟨pl.length,rfl,pv',_,_,[_],[_],aN,a5,rfl,rfl,fun y aI=>by rw [aX] at aI;subst aI;exact zh _ _,?_⟩
 rcases aE aW with ⟨rfl,rfl,rfl,rfl⟩|⟨rfl,aU,rfl,rfl⟩
 ·exact ⟨aK,ai,aS,1,_,vK,.inr (.inr (.inl ⟨rfl,rfl,⟨rfl,rfl⟩,rfl⟩))⟩
 ·exact ⟨aU,_,ai,aK,aS⟩
def LW(base b s tv i d a kv rv pv pl l w)(h:RS w b s tv i d 0 a kv rv pv)(J:PT base w pv pl l)(C:base<=b)(D:base<=w.heap.size)(I:pl.length<=i)(room inner ex)(Y:room=true->d<4/\qK s inner (d+1) ex)(Z:room=false->d=4):Calls prog 266 #[bu b] w (qJ base b s tv i d a kv rv pv pl l w (ex+1) (eR (TT s) (PP s) room inner i)):=by
 unfold eR
 cases h1:eqs (TT s i) (sg 91)
 ·simp only [bJ,aZ]
  cases h2:eqs (TT s i) (sg 40)
  ·simp only [bJ,aZ];unfold h6 dh
   cases hn:dC (TT s i)
   ·exact vL base b s tv i d a kv rv pv pl l w h J C D I ex h1 h2 i 2 (PP s i) (fun W A=>mr b s tv i d a kv rv pv true W A hn) (fun W A=>mx b s tv i d 2 _ kv rv pv _ W A ax) _ (.inr ⟨rfl,ax,rfl,rfl⟩)
   by_cases U:8<(TT s i).size
   ·simp only [if_true,U];exact vL base b s tv i d a kv rv pv pl l w h J C D I ex h1 h2 i 3 (PP s i) (fun W A=>lF b s tv i d a kv rv pv true W A hn (.inl U)) (fun W A=>mx b s tv i d 3 _ kv rv pv _ W A ax) _ (.inr ⟨rfl,ax,rfl,rfl⟩)
   simp only [if_true,U,aZ]
   cases Q:eqs (TT s (i+1)) (sg 46)
   ·simp only [bJ,aZ];exact vL base b s tv i d a kv rv pv pl l w h J C D I ex h1 h2 (i+1) 0 a (fun W A=>nD b s tv i d a kv rv pv W A hn ai) (fun W A=>ec b s tv (i+1) d a kv rv pv _ W A _ Q) _ (.inl ⟨rfl,rfl,rfl,rfl⟩)
   simp only [if_true]
   cases V:dC (TT s (i+1+1))
   ·exact vM base b s tv i d a kv rv pv pl l w h J C D I ex h1 h2 hn ai Q (i+2) 2 _ (fun W A=>mr b s tv (i+2) d a kv rv pv true W A V) _ (.inr ⟨rfl,ax,rfl,rfl⟩)
   by_cases R:8<(TT s (i+1+1)).size
   ·simp only [if_true,R];exact vM base b s tv i d a kv rv pv pl l w h J C D I ex h1 h2 hn ai Q (i+2) 3 _ (fun W A=>lF b s tv (i+2) d a kv rv pv true W A V (.inl R)) _ (.inr ⟨rfl,ax,rfl,rfl⟩)
   simp only [if_true,R,aZ];exact vM base b s tv i d a kv rv pv pl l w h J C D I ex h1 h2 hn ai Q (i+3) 0 a (fun W A=>nD b s tv (i+2) d a kv rv pv W A V (Nat.le_of_not_lt R)) _ (.inl ⟨rfl,rfl,rfl,rfl⟩)
  simp only [if_true]
  cases room with
  |false=>
   simp only [bJ,aZ];exact LU base b s tv i d a kv rv pv pl l w h J C D I ex h1 h2 (Z rfl)
  |true=>
   simp only [if_true];exact Vo base b s tv i d a kv rv pv pl l w h J C D I inner ex (Y rfl).2 h1 h2 (Y rfl).1
 simp only [if_true];exact LS base b s tv i d a kv rv pv pl l w h J C D I ex h1
