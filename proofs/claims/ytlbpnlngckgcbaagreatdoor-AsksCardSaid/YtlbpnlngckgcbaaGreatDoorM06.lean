import Derived.Test.YtlbpnlngckgcbaaGreatDoorM04
import Derived.Test.YtlbpnlngckgcbaaGreatDoorM03
import Derived.Deep.RegionLaw
set_option linter.all false
set_option maxHeartbeats 4000000
set_option maxRecDepth 100000
namespace Go.Proofs.YtlbpnlngckgcbaaGreatDoor
open Go.RowKit Go.PlainAid Go.Proofs.Tryz
variable {aA aU:Prop} {w w' w1 W w5 wr:af} {base size n g cap m b i d a i' d' e' a' B g5 aT j aa gc f:Nat} {e T T':TypeId} {xs:List ag} {s:ae} {tv kv rv pv v pv':ag} {cs:Array ag} {o:Obj} {ga:Option Addr}
abbrev rA:=@List.set_append_right
def WW (h:aA:=by
 intro g5 aT w5 D C Q U;have A:=(ak HR).alloc (.cells #[.string (s.extract k (k+1)),.int .i64 k,.bool false] 259);have I:=ai (ct (HB.u.alloc HB.u.size (.cells #[.string (s.extract k (k+1)),.int .i64 k,.bool false] 259)) C xY (fun k R=>(A.lt k R).1));have J:=ai (show w5.ownsRow w.heap.size 259 3 (.slice (some ⟨g5,0,none⟩) (l.length+1) aT) (l++[(⟨[c],k,false⟩:Tk)]).length (bC (l++[⟨[c],k,false⟩])) from by
  rw [show (l++[(⟨[c],k,false⟩:Tk)]).length=l.length+1 by simp];have e:bC (l++[⟨[c],k,false⟩])=bC l++[.string (s.extract k (k+1)),.int .i64 k,.bool false]:=by
   unfold bC;rw [cT,HX.u];simp [eW]
  rw [e];exact D)
 clear A D C Q;go_wp2;go_roundw
 case rel=>exact ⟨k+1,l++[⟨[c],k,false⟩],false,aj,rfl,by go_num,I.u,J.u,aM,ar,ak Fm,UI⟩
 case measure=>simp [intOf];omega):aA:=h
def WX (h:aA:=by
 clear hw;go_wp2_with (first|(go_at_call 185;refine (eS _ _).mono ?_;rintro e w' ⟨rfl,rfl⟩)|(go_at_call 186;refine (fB _ _).mono ?_;rintro e w' ⟨rfl,rfl⟩))
 go_region
 go_wp2;go_roundw
 case rel=>exact ⟨k+1,l0++[⟨t.text++[c],t.place,t.word⟩],true,aj,rfl,by go_num,Below.drew (HB.u.setCell hgb _),(by
  have:=oh (ak HR) (l0.length*3) (.string (mk t.text++s.extract k (k+1)));rw [HN.u] at this;rw [show (l0++[(⟨t.text++[c],t.place,t.word⟩:Tk)]).length=l0.length+1 by simp];exact this),aM,ar,ak Fm,UI⟩
 case measure=>simp [intOf];omega):aA:=h
def rB (h:aA:=by
 intro u A;simp at A
 rcases A with rfl|rfl|rfl<;>rfl):aA:=h
def eS(c w):Calls prog 185 #[.int .u8 c] w fun e w'=>e=.returned (.bool (letter c))/\w'=w:=by
 by_cases h1:97<=c
 ·go_enter func185,ntmps185;go_wp2;go_ret;exact ⟨by simp [letter,h1],rfl⟩
 go_enter func185,ntmps185;go_wp2;go_ret;exact ⟨by simp [letter];omega,rfl⟩
def fB(c w):Calls prog 186 #[.int .u8 c] w fun e w'=>e=.returned (.bool (digit c))/\w'=w:=by
 by_cases h1:48<=c
 ·go_enter func186,ntmps186;go_wp2;go_ret;exact ⟨by simp [digit,h1],rfl⟩
 go_enter func186,ntmps186;go_wp2;go_ret;exact ⟨by simp [digit];omega,rfl⟩
def oh(h:w.ownsRow base e size (.slice (some ⟨g,0,none⟩) n cap) n xs)(j u):(w.setCell ⟨g,j,none⟩ u).ownsRow base e size (.slice (some ⟨g,0,none⟩) n cap) n (xs.set j u):=by
 obtain ⟨hl,h⟩:=h
 rcases h with ⟨h,_⟩|⟨g',Q,A,e1,I,J,h1,h2,C,D⟩
 ·cases h
 simp only [aI,aL,ce] at e1;obtain ⟨⟨rfl,_,_⟩,_,rfl⟩:=e1;refine ⟨by simp [hl],.inr ⟨g,cap,A.setIfInBounds j u,rfl,I,aE.set J j u,h1,h2,by simp [C],?_⟩⟩;rw [Array.toList_setIfInBounds,List.take_set,D]
def dx(h:w.ownsRow base e size (.slice (some ⟨g,0,none⟩) m cap) n xs):∃A,aE w g A e/\base<=g:=by
 rcases h.2 with ⟨h,_⟩|⟨g',I,A,e1,C,D,h1,h2,J,Q⟩
 ·cases h
 simp only [aI,aL,ce] at e1;obtain ⟨⟨rfl,_,_⟩,_,rfl⟩:=e1;exact ⟨A,D,C⟩
def Yh(a c):mk a++mk c=mk (a++c):=by
 rw [<-dj (mk a++mk c)]
 congr 1
def NM(l i t)(h:l[i]? =some t):(bC l)[i*3]? =some (.string (mk t.text))/\(bC l)[i*3+1]? =some (.int .i64 t.place)/\(bC l)[i*3+2]? =some (.bool t.word):=by
 unfold bC
 induction l generalizing i with
 |nil=>simp at h
 |cons a l ih=>
  cases i with
  |zero=>
   simp at h;subst h;simp [eW]
  |succ i=>
   simp at h;have:=ih i h;rw [cq,show (i+1)*3=i*3+3 by omega];simp only [eW,List.cons_append,List.nil_append,List.getElem?_cons_succ];exact this
def IU(l):(bC l).length=l.length*3:=by
 unfold bC
 induction l with
 |nil=>rfl
 |cons a l ih=>rw [cq,aZ,ih];simp [eW];omega
def UJ(l t c):bC (l++[⟨t.text++[c],t.place,t.word⟩])=(bC (l++[t])).set (l.length*3) (.string (mk (t.text++[c]))):=by
 unfold bC;rw [cT,cT,rA _ _ (by rw [<-bC,IU];omega),<-bC,IU];simp [eW]
def Tryz.infoTk:(Tryz.prog.info? 259).map (fun i=>(i.zero,i.size,i.bytes))=some (some (.agg #[.string ⟨#[]⟩,.int .i64 0,.bool false]),3,32):=by kernel_rfl
def UK(s k)(h:k<s.size):s.extract k (k+1)=mk [(bJ s)[k]'Cb]:=by
 rw [extract_mk,show k+1-k=1 by omega];rw [dI Cb]
 rfl
def Co(s w)(hs:s.size<=500):
  Calls prog 126 #[.string s] w fun e w'=>∃v,e=.returned v/\an w w'/\w'.ownsRow w.heap.size 259 3 v (iV s).length (bC (iV s)):=by
 have bl:=get_bt s;obtain ⟨i0,hi,a3,a4,a5⟩:=bK Tryz.infoTk;have ah:=ai hi;have am:=ai a3;have ap:=ai a4;have av:=ai a5;clear hi a3 a4 a5;go_enter func126,ntmps126;go_wp2
 go_loopw [3,4,5] (fun bi bj aP wr=>∃(k:Nat)(l:List Tk)(o:Bool),k<=s.size/\bj=.bool o/\aP=.int .i64 k/\an w wr/\wr.ownsRow w.heap.size 259 3 bi l.length (bC l)/\l.length<=k/\(o=true->l≠ [])/\(∀t∈l,t.text.length<=k)/\Hid (ff k ((bJ s).drop k) (l,o)=ff 0 (bJ s) ([],false))) (fun _ _ aP _=>s.size-(intOf aP).toNat)
 case atStart=>exact ⟨0,[],false,aj,rfl,rfl,az _ _,bL,ar,ar,ar,ai rfl⟩
 case round=>
  obtain ⟨k,l,o,aB,rfl,rfl,aV,aO,aN,a0,a1,V⟩:=hrel;have Z:=ai a1;obtain ⟨aD,aF,rfl⟩:=ax aO;have HB:=ai aV;have HR:=ai aO;have al:=ai a0;clear aV aO a0 a1
  by_cases aY:k<s.size
  ·have aX:k<(bJ s).length:=by rw [bh];exact aY
   have ag:=ai (ui s k aX);have hF:=V.u;rw [dI aX] at hF;simp only [ff,stepT] at hF;have aJ:=UK s k aY;generalize aW:(bJ s)[k]=c at*
   by_cases ac:blank (bt s k)=true
   ·have ay:dX c=true:=by unfold dX;rw [<-ag.u];exact ac
    rw [if_pos ay] at hF;have UI:=ai hF;have aw:bt s k=32\/bt s k=9\/bt s k=10:=by
     unfold blank at ac
     simpa [or_assoc] using ac
    clear hF V ac aJ aW
    rcases aw with aw|aw|aw
    all_goals
     go_wp2_with (first|(go_at_call 185;refine (eS _ _).mono ?_;rintro e w' ⟨rfl,rfl⟩)|(go_at_call 186;refine (fB _ _).mono ?_;rintro e w' ⟨rfl,rfl⟩));go_roundw
     case rel=>exact ⟨k+1,l,false,aj,rfl,by go_num,HB.u,ak HR,aj,ar,fun t ba=>Nat.le_succ_of_le (Z.u t ba),UI⟩
     case measure=>simp [intOf];omega
   have ab:blank (bt s k)=false:=by simpa using ac
   have ay:dX c=false:=by unfold dX;rw [<-ag.u];exact ab
   have bc:¬(bt s k=32)/\¬(bt s k=9)/\¬(bt s k=10):=by
    unfold blank at ab;simp at ab;exact ⟨ab.1.1,ab.1.2,ab.2⟩
   obtain ⟨be,bf,bg⟩:=bc;have bq:(bt s k==32)=false:=b6.2 be;have br:(bt s k==9)=false:=b6.2 bf;have bs:(bt s k==10)=false:=b6.2 bg;rw [if_neg (by rw [ay];simp)] at hF;have HX:=ai aJ;clear ac ab ay V aJ aW;have a2:dg c=(letter (bt s k)||digit (bt s k)):=by unfold dg;rw [ag.u]
   have aZ:letter c.toNat=letter (bt s k):=by rw [ag.u]
   rw [a2,aZ] at hF;have V:=ai hF;clear hF a2 aZ
   by_cases hw:(o&&(letter (bt s k)||digit (bt s k)))=true
   ·have hF:=V.u;rw [if_pos hw] at hF;rw [bM] at hw;obtain ⟨rfl,hw⟩:=hw;obtain ⟨l0,t,rfl⟩:∃l0 t,l=l0++[t]:=⟨l.dropLast,l.getLast (al.u rfl),(List.dropLast_concat_getLast _).symm⟩;rw [ob] at hF;have UI:=ai hF;clear hF V al;have aC:(l0++[t]).length=l0.length+1:=ar;rw [aC] at HR;rw [aC];obtain ⟨g,gc,e1,k0⟩:=aS (ak HR) (l0.length*3) _ (NM (l0++[t]) l0.length t ar).1;simp only [aI] at e1;obtain ⟨rfl,_,rfl⟩:=e1;obtain ⟨bk,aL,hgb⟩:=dx (ak HR);have bv:=aE.fz aL;have bp:=aE.lt aL;have bb:=Z.u t ar;have bo:¬(9223372036854775807<(mk t.text).size+(s.extract k (k+1)).size):=by
     rw [HX.u,<-bh,<-bh,kM,kM];simp;omega
    have Fm:=ai (show ∀x∈l0++[⟨t.text++[c],t.place,t.word⟩],x.text.length<=k+1 from fun x Y=>by
     rw [aQ,aR] at Y
     rcases Y with Y|rfl
     ·exact Nat.le_succ_of_le (Z.u x (by simp [Y]))
     simp;omega)
    have bn:l0.length+1<=k:=by rw [aC] at aN;exact aN
    clear aL aC aN Z bb;have HN:=ai (by rw [UJ,HX.u,Yh]:(bC (l0++[t])).set (l0.length*3) (.string (mk t.text++s.extract k (k+1)))=bC (l0++[⟨t.text++[c],t.place,t.word⟩]))
    cases hl:letter (bt s k)
    ·have a7:digit (bt s k)=true:=by rw [hl] at hw;simpa using hw
     exact WX
    exact WX
   have hF:=V.u;rw [if_neg hw] at hF;have UI:=ai hF;have Fm:=ai (show ∀x∈l++[⟨[c],k,letter (bt s k)⟩],x.text.length<=k+1 from fun x Y=>by
    rw [aQ,aR] at Y
    rcases Y with Y|rfl
    ·exact Nat.le_succ_of_le (Z.u x Y)
    simp)
   clear hF V Z al
   cases o
   ·clear hw
    cases hl:letter (bt s k)
    ·rw [hl] at UI Fm;go_wp2_with (first|(go_at_call 185;refine (eS _ _).mono ?_;rintro e w' ⟨rfl,rfl⟩)|(go_at_call 186;refine (fB _ _).mono ?_;rintro e w' ⟨rfl,rfl⟩)|(at_builtin;go_must (refine bI _ rfl _ _ 249 rfl w.heap.size 259 i0 _ 3 32 underlying249 ah.u am.u ap.u av.u rfl au (.slice aD l.length aF) l.length (bC l) rfl ?uI ⟨w'.heap.size,0,none⟩ 1 1 [.string (s.extract k (k+1)),.int .i64 k,.bool false] rfl rfl ?l8 ?nj au ?nk ?ew ?l9 (w'.heap.size+1) ?UL ?jm)))
     case uI=>exact (ak HR).alloc _
     case l8=>exact bu (B:=w'.heap.size) (cs:=#[.string (s.extract k (k+1)),.int .i64 k,.bool false]) (t:=259) (fr:=(0,0)) (aE.new _ _ _)
     case nj=>
      exact rB
     case nk=>unfold maxLen;omega
     case ew=>omega
     case l9=>have:=HB.u.size;simp;omega
     case UL=>simp
     case jm=>
      exact WW
    rw [hl] at UI Fm;go_wp2_with (first|(go_at_call 185;refine (eS _ _).mono ?_;rintro e w' ⟨rfl,rfl⟩)|(go_at_call 186;refine (fB _ _).mono ?_;rintro e w' ⟨rfl,rfl⟩)|(at_builtin;go_must (refine bI _ rfl _ _ 249 rfl w.heap.size 259 i0 _ 3 32 underlying249 ah.u am.u ap.u av.u rfl au (.slice aD l.length aF) l.length (bC l) rfl ?lA ⟨w'.heap.size,0,none⟩ 1 1 [.string (s.extract k (k+1)),.int .i64 k,.bool true] rfl rfl ?gK ?jX au ?pi ?eZ ?gL (w'.heap.size+1) ?Fo ?jn)))
    case lA=>exact (ak HR).alloc _
    case gK=>exact bu (B:=w'.heap.size) (cs:=#[.string (s.extract k (k+1)),.int .i64 k,.bool true]) (t:=259) (fr:=(0,0)) (aE.new _ _ _)
    case jX=>
     exact rB
    case pi=>unfold maxLen;omega
    case eZ=>omega
    case gL=>have:=HB.u.size;simp;omega
    case Fo=>simp
    case jn=>
     intro g5 aT w5 af ae aK a8;have ad:=(ak HR).alloc (.cells #[.string (s.extract k (k+1)),.int .i64 k,.bool true] 259);have aG:=ai (ct (HB.u.alloc HB.u.size (.cells #[.string (s.extract k (k+1)),.int .i64 k,.bool true] 259)) ae xY (fun k aB=>(ad.lt k aB).1));have aH:=ai (show w5.ownsRow w.heap.size 259 3 (.slice (some ⟨g5,0,none⟩) (l.length+1) aT) (l++[(⟨[c],k,true⟩:Tk)]).length (bC (l++[⟨[c],k,true⟩])) from by
      rw [show (l++[(⟨[c],k,true⟩:Tk)]).length=l.length+1 by simp];have e:bC (l++[⟨[c],k,true⟩])=bC l++[.string (s.extract k (k+1)),.int .i64 k,.bool true]:=by
       unfold bC;rw [cT,HX.u];simp [eW]
      rw [e];exact af)
     clear ad af ae aK;go_wp2;go_roundw
     case rel=>exact ⟨k+1,l++[⟨[c],k,true⟩],true,aj,rfl,by go_num,aG.u,aH.u,aM,ar,ak Fm,UI⟩
     case measure=>simp [intOf];omega
   have hl:letter (bt s k)=false:=by
    cases h:letter (bt s k)
    ·rfl
    rw [h] at hw;simp at hw
   have a7:digit (bt s k)=false:=by
    cases h:digit (bt s k)
    ·rfl
    rw [h] at hw;simp at hw
   clear hw;rw [hl] at UI Fm;go_wp2_with (first|(go_at_call 185;refine (eS _ _).mono ?_;rintro e w' ⟨rfl,rfl⟩)|(go_at_call 186;refine (fB _ _).mono ?_;rintro e w' ⟨rfl,rfl⟩)|(at_builtin;go_must (refine bI _ rfl _ _ 249 rfl w.heap.size 259 i0 _ 3 32 underlying249 ah.u am.u ap.u av.u rfl au (.slice aD l.length aF) l.length (bC l) rfl ?Cp ⟨w'.heap.size,0,none⟩ 1 1 [.string (s.extract k (k+1)),.int .i64 k,.bool false] rfl rfl ?uJ ?uK au ?rD ?fT ?uL (w'.heap.size+1) ?hHC ?kT)))
   case Cp=>exact (ak HR).alloc _
   case uJ=>exact bu (B:=w'.heap.size) (cs:=#[.string (s.extract k (k+1)),.int .i64 k,.bool false]) (t:=259) (fr:=(0,0)) (aE.new _ _ _)
   case uK=>
    exact rB
   case rD=>unfold maxLen;omega
   case fT=>omega
   case uL=>have:=HB.u.size;simp;omega
   case hHC=>simp
   case kT=>
    exact WW
  have a9:k=s.size:=aj;subst a9;have hF:=V.u;have a6:=ai (show iV s=l++[Kt s.size] from by
   rw [ei (by rw [bh];exact bY _)] at hF;simp only [ff] at hF;unfold iV qh;rw [m6,<-hF])
  clear hF V Z al;go_wp2_with (at_builtin;go_must (refine bI _ rfl _ _ 249 rfl w.heap.size 259 i0 _ 3 32 underlying249 ah.u am.u ap.u av.u rfl au (.slice aD l.length aF) l.length (bC l) rfl ?hownE ⟨wr.heap.size,0,none⟩ 1 1 [.string ⟨#[]⟩,.int .i64 s.size,.bool false] rfl rfl ?Yi ?honeE au ?h63E ?UM ?Yj (wr.heap.size+1) ?hHE ?Yk))
  case hownE=>exact (ak HR).alloc _
  case Yi=>exact bu (B:=wr.heap.size) (cs:=#[.string ⟨#[]⟩,.int .i64 s.size,.bool false]) (t:=259) (fr:=(0,0)) (aE.new _ _ _)
  case honeE=>
   exact rB
  case h63E=>unfold maxLen;omega
  case UM=>omega
  case Yj=>have:=HB.u.size;simp;omega
  case hHE=>simp
  case Yk=>
   intro g5 aT w5 af ae aK a8;have ad:=(ak HR).alloc (.cells #[.string ⟨#[]⟩,.int .i64 s.size,.bool false] 259);have aG:=ai (ct (HB.u.alloc HB.u.size (.cells #[.string ⟨#[]⟩,.int .i64 s.size,.bool false] 259)) ae xY (fun k aB=>(ad.lt k aB).1));have aH:=ai (show w5.ownsRow w.heap.size 259 3 (.slice (some ⟨g5,0,none⟩) (l.length+1) aT) (iV s).length (bC (iV s)) from by
    rw [a6.u,show (l++[Kt s.size]).length=l.length+1 by simp];have e:bC (l++[Kt s.size])=bC l++[.string ⟨#[]⟩,.int .i64 s.size,.bool false]:=by
     unfold bC;rw [cT];simp [eW,Kt,mk]
    rw [e];exact af)
   clear ad af ae aK;go_wp2;go_ret;exact ⟨_,rfl,aG.u,aH.u⟩
abbrev br:=@List.getElem?_eq_some_iff
abbrev pA(a0:ae)(a1:Int)(a2:Bool):Array ag:=#[.string a0,.int .i64 a1,.bool a2]
abbrev nu:Obj:=.cells #[.string ⟨#[]⟩,.int .i64 0,.bool false] 259
structure RS(w:af)(b:Nat)(s:ae)(tv:ag)(i d e a:Nat)(kv rv pv:ag):Prop where
 blk:aE w b #[tv,.int .i64 i,.int .i64 d,.int .i64 e,.int .i64 a,kv,rv,pv] 252
 tok:w.ownsRow 0 259 3 tv (iV s).length (bC (iV s))
 gd:Gd s i
 fm:(∃x n c,kv=.slice x n c)/\(∃x n c,rv=.slice x n c)/\(∃x n c,pv=.slice x n c)
 sz:s.size<=500
def aE.eight{x0 x1 x2 x3 x4 x5 x6 x7}(h:aE w g #[x0,x1,x2,x3,x4,x5,x6,x7] T):w.cell? ⟨g,0,none⟩=some x0/\w.cell? ⟨g,1,none⟩=some x1/\w.cell? ⟨g,2,none⟩=some x2/\w.cell? ⟨g,3,none⟩=some x3/\w.cell? ⟨g,4,none⟩=some x4/\w.cell? ⟨g,5,none⟩=some x5/\w.cell? ⟨g,6,none⟩=some x6/\w.cell? ⟨g,7,none⟩=some x7:=
 ⟨h.cell rfl,h.cell rfl,h.cell rfl,h.cell rfl,h.cell rfl,h.cell rfl,h.cell rfl,h.cell rfl⟩
def RS.at{e}(h:RS w b s tv i d e a kv rv pv):
  ∃g c,tv=.slice (some ⟨g,0,none⟩) (iV s).length c/\i<(iV s).length/\w.cell? ⟨g,i*3,none⟩=some (.string (TT s i))/\w.cell? ⟨g,i*3+1,none⟩=some (.int .i64 (PP s i))/\w.cell? ⟨g,i*3+2,none⟩=some (.bool (dw (TT s i))):=by
 have C:=IE s i h.gd;obtain ⟨h0,h1,h2⟩:=NM _ _ _ C;obtain ⟨g,c,e0,c0⟩:=aS h.tok _ _ h0;obtain ⟨D,k1,e1,c1⟩:=aS h.tok _ _ h1;obtain ⟨I,J,A,c2⟩:=aS h.tok _ _ h2;rw [e0] at e1 A;simp only [aI,aL,ce] at e1 A;obtain ⟨⟨rfl,_⟩,_⟩:=e1;obtain ⟨⟨rfl,_⟩,_⟩:=A;refine ⟨g,c,e0,?_,?_,c1,c2⟩
 ·exact (br.1 C).1
 ·rw [dj] at c0;exact c0
def RS.below{e}(h:RS w b s tv i d e a kv rv pv)(k:an w w'):RS w' b s tv i d e a kv rv pv:=⟨h.blk.below k,ay h.tok (fun g cs f _ A=>k.block g (lt_of_some A)),h.gd,h.fm,h.sz⟩
def Below.drewN'(m):an w (w.drewN m):=below_drewN bj m
def RS.drewN{e}(h:RS w b s tv i d e a kv rv pv)(m):RS (w.drewN m) b s tv i d e a kv rv pv:=h.below (Below.drewN' m)
def RS.lt{e}(h:RS w b s tv i d e a kv rv pv):b<w.heap.size:=h.blk.lt
def RS.setI{e}(h:RS w b s tv i d e a kv rv pv)(j)(A:Gd s j):RS (w.setCell ⟨b,1,none⟩ (.int .i64 j)) b s tv j d e a kv rv pv:=⟨h.blk.set 1 _,bN h.tok h.blk au _ _,A,h.fm,h.sz⟩
def RS.setD{e:Nat}(h:RS w b s tv i d e a kv rv pv)(j:Nat):RS (w.setCell ⟨b,2,none⟩ (.int .i64 j)) b s tv i j e a kv rv pv:=⟨h.blk.set 2 _,bN h.tok h.blk au _ _,h.gd,h.fm,h.sz⟩
def RS.setE{e:Nat}(h:RS w b s tv i d e a kv rv pv)(j:Nat):RS (w.setCell ⟨b,3,none⟩ (.int .i64 j)) b s tv i d j a kv rv pv:=⟨h.blk.set 3 _,bN h.tok h.blk au _ _,h.gd,h.fm,h.sz⟩
def RS.setA{e:Nat}(h:RS w b s tv i d e a kv rv pv)(j:Nat):RS (w.setCell ⟨b,4,none⟩ (.int .i64 j)) b s tv i d e j kv rv pv:=⟨h.blk.set 4 _,bN h.tok h.blk au _ _,h.gd,h.fm,h.sz⟩
def RS.but{e}(h:RS w b s tv i d e a kv rv pv)(k:But b w w')(A:∃x,aE w' b x 252/\x=#[tv,.int .i64 i',.int .i64 d',.int .i64 e',.int .i64 a',kv,rv,pv])(D:Gd s i'):RS w' b s tv i' d' e' a' kv rv pv:=by
 obtain ⟨x,A,rfl⟩:=A;exact ⟨A,ay h.tok (fun g cs f _ C=>k.block g (lt_of_some C) (fun e=>by
  subst e;have:=h.blk;unfold aE at this;rw [this] at C;simp at C)),D,h.fm,h.sz⟩
def Gd.succ{s i}(h:Gd s i)(A:0<(TT s i).size):Gd s (i+1):=fun j C=>by
 by_cases e:j=i
 ·subst e;exact A
 exact h j aj
def Gd.le(h:Gd s i):i<=s.size:=by
 have:=(br.1 (IE s i h)).1;have:=Cd s;omega
def Oe(b s tv i d a kv rv pv x w)(h:RS w b s tv i d 0 a kv rv pv):
  Calls prog 187 #[.pointer (some ⟨b,0,none⟩),.string x] w fun e w'=>e=.returned (.bool (eqs (TT s i) x))/\∃m,w'=w.drewN m:=by
 rw [show eqs (TT s i) x=((TT s i).toList==x.toList) by unfold eqs;rw [aO,aO]];obtain ⟨g,c,rfl,hi,t0,t1,t2⟩:=h.at;obtain ⟨A,C,D,r3,I,_⟩:=h.blk.eight;go_enter func187,ntmps187;go_wp2
 go_quiet (fail)
 go_wp2;go_ret;exact ⟨rfl,_,rfl⟩
def Of(b s tv i d e0 a kv rv pv x w)(h:RS w b s tv i d e0 a kv rv pv)(A:e0≠0):
  Calls prog 187 #[.pointer (some ⟨b,0,none⟩),.string x] w fun e w'=>e=.returned (.bool false)/\∃m,w'=w.drewN m:=by
 obtain ⟨g,c,rfl,hi,t0,t1,t2⟩:=h.at;obtain ⟨D,I,J,r3,Q,_⟩:=h.blk.eight;have C:¬((e0:Int)=0):=aj;go_enter func187,ntmps187;go_wp2
 go_quiet (fail)
 go_wp2;go_ret;exact ⟨rfl,_,rfl⟩
def tQ(b:Nat)(s tv)(i d a:Nat)(kv rv pv)(c0:Nat)(w)(h:RS w b s tv i d 0 a kv rv pv):
  Calls prog 189 #[.pointer (some ⟨b,0,none⟩),.int .i64 c0] w fun e w'=>e=.returned (.tuple #[])/\But b w w'/\RS w' b s tv i d c0 (PP s i) kv rv pv:=by
 have H:=ai h;obtain ⟨g,c,e0,hi,t0,t1,t2⟩:=h.at;obtain ⟨C,J,Q,r3,R,_⟩:=h.blk.eight;have I:=h.blk.fz;have hn:=Cd s;have hs:=h.sz;have A:¬(g=b):=fun e=>by
  have:=own_ne h.tok h.blk au;rw [e0,e] at this;exact this rfl
 have D:¬(b=g):=fun e=>A e.symm
 rw [e0] at C;go_enter func189,ntmps189;go_wp2
 go_region
 go_wp2;go_end0;exact ⟨rfl,(((But.refl b w).setCell 3 _).setCell 4 _).drew,(H.u.setE c0 |>.setA (PP s i)).drewN 1⟩
def uS(b s tv i d a kv rv pv x w)(h:RS w b s tv i d 0 a kv rv pv)(A:eqs (TT s i) x=true)(I:0<(bJ x).length):
  Calls prog 188 #[.pointer (some ⟨b,0,none⟩),.string x] w fun e w'=>e=.returned (.tuple #[])/\But b w w'/\RS w' b s tv (i+1) d 0 a kv rv pv:=by
 have H:=ai h;obtain ⟨R,U,V,r3,Y,_⟩:=h.blk.eight;have Q:=h.blk.fz;have D:=h.gd.succ (df A I);have J:=h.gd.le;have hs:=h.sz;have C:=ai (Oe b s tv i d a kv rv pv x w h);rw [A] at C;go_enter func188,ntmps188;go_wp2_with fail;refine (ak C).mono ?_;rintro e w' ⟨rfl,m,rfl⟩;go_wp2;go_end0;exact ⟨rfl,(But.of_below (Below.drewN' m)).setCell 1 _,H.u.drewN m |>.setI (i+1) D⟩
def Ac(b s tv i d a kv rv pv x w)(h:RS w b s tv i d 0 a kv rv pv)(Q:eqs (TT s i) x=false):
  Calls prog 188 #[.pointer (some ⟨b,0,none⟩),.string x] w fun e w'=>e=.returned (.tuple #[])/\But b w w'/\RS w' b s tv i d 2 (PP s i) kv rv pv:=by
 have H:=ai h;obtain ⟨U,V,Y,r3,Z,_⟩:=h.blk.eight;have C:=ai (Oe b s tv i d a kv rv pv x w h);rw [Q] at C;go_enter func188,ntmps188;go_wp2_with fail;refine (ak C).mono ?_;rintro e w' ⟨rfl,m,rfl⟩;have D:=ai (tQ b s tv i d a kv rv pv 2 _ (H.u.drewN m));go_wp2_with fail;refine D.u.mono ?_;rintro e ab ⟨rfl,J,R⟩;have A:=ai ((But.of_below (b:=b) (Below.drewN' m)).trans J);have I:=ai R;go_wp2;go_end0;exact ⟨rfl,A.u,I.u⟩
def Og(b s tv i d e0 a kv rv pv c0 w)(h:RS w b s tv i d e0 a kv rv pv)(C:e0≠0):
  Calls prog 189 #[.pointer (some ⟨b,0,none⟩),.int .i64 c0] w fun e w'=>e=.returned (.tuple #[])/\∃m,w'=w.drewN m:=by
 obtain ⟨I,J,Q,r3,R,_⟩:=h.blk.eight;have A:¬((e0:Int)=0):=aj;have D:((e0:Int)==0)=false:=b6.2 A;go_enter func189,ntmps189;go_wp2;go_end0;exact ⟨rfl,0,rfl⟩
def uT(b s tv i d e0 a kv rv pv x w)(h:RS w b s tv i d e0 a kv rv pv)(A:e0≠0):
  Calls prog 188 #[.pointer (some ⟨b,0,none⟩),.string x] w fun e w'=>e=.returned (.tuple #[])/\an w w':=by
 have H:=ai h;have C:=ai (Of b s tv i d e0 a kv rv pv x w h A);go_enter func188,ntmps188;go_wp2_with fail;refine C.u.mono ?_;rintro e w' ⟨rfl,m,rfl⟩;have D:=ai (Og b s tv i d e0 a kv rv pv 2 _ (H.u.drewN m) A);go_wp2_with fail;refine D.u.mono ?_;rintro e J ⟨rfl,I,rfl⟩;go_wp2;go_end0;exact ⟨rfl,Below.drewN' _⟩
def sX{P fn p ty}(h:fn.results=#[.cell p ty])(tmps w g cs t d)(D:tmps.getD p undef=.pointer (some ⟨g,0,none⟩))(A:∃x,aE w g x t/\x=cs)(I:P.underlying ty=some d)(C:(match d with| .struct _| .array _ _=>true|_=>false)=true)(hi:(P.info? ty).map (·.size)=some cs.size):
  (results fn tmps).run P w=.ok (.agg cs) w:=by
 obtain ⟨x,A,rfl⟩:=A;exact results_cell_row h tmps w g t x (0,0) d D A I C hi
def BO(s:ae)(i:Nat):ag:=.agg #[.string (TT s i),.int .i64 (PP s i),.bool (dw (TT s i))]
def pB(t):dl t=(dw t&& !(t.toList== [116,121,112,101])):=by
 rw [aO];unfold dl dw
 cases bJ t with
 |nil=>rfl
 |cons c r=>rfl
def nv(b s tv i d a kv rv pv w)(h:RS w b s tv i d 0 a kv rv pv)(C:dl (TT s i)=true)(Y:(TT s i).size<=8):
  Calls prog 228 #[.pointer (some ⟨b,0,none⟩),.bool true] w fun e w'=>e=.returned (BO s i)/\But b w w'/\RS w' b s tv (i+1) d 0 a kv rv pv:=by
 have Q:=h.gd.succ (Ca C);rw [pB,bM] at C;obtain ⟨n1,n2⟩:=C;have ag:((TT s i).toList== [116,121,112,101])=false:=by simpa using n2
 have Z:¬((8:Int)<((TT s i).size:Int)):=aj;have I:=ai h;have ab:=h.gd.le;have hs:=h.sz;have ac:=h.lt;have H:=ai (h.below (bj.alloc aD nu));have A:=ai (aE.new w #[.string ⟨#[]⟩,.int .i64 0,.bool false] 259);have D:=ai (But.of_below (b:=b) ((az _ w).alloc aD nu));go_enter func228,ntmps228;go_wp2_with fail;generalize w.alloc nu=W at*;obtain ⟨g,c,e0,hi,t0,t1,t2⟩:=H.u.at;obtain ⟨R,am,an,r3,ap,_⟩:=H.u.blk.eight;obtain ⟨ah,ak,al⟩:=A.u.three;have J:=ai H.u.blk;have ar:=H.u.blk.fz;have zq:=A.u.fz;have U:=H.u.lt;have af:=A.u.lt;rw [e0] at R;have ad:¬(w.heap.size=b):=aj;have ae:¬(b=w.heap.size):=aj
 go_region_held3 (fun w'=>w'.cell? ⟨b,0,none⟩=some (.slice (some ⟨g,0,none⟩) (iV s).length c)/\w'.cell? ⟨b,1,none⟩=some (.int .i64 i)/\w'.cell? ⟨g,i*3,none⟩=some (.string (TT s i))/\w'.cell? ⟨g,i*3+1,none⟩=some (.int .i64 (PP s i))/\w'.cell? ⟨g,i*3+2,none⟩=some (.bool (dw (TT s i)))) (go_keep) (fail)
 rename_i V;go_wp2;refine bq (v:=BO s i) (sX results228 _ _ w.heap.size _ 259 _ rfl ?hB underlying259 rfl aw) rfl ⟨rfl,?but,RS.but (i':=i+1) (d':=d) (e':=0) (a':=a) I.u ?but2 ?hb2 Q⟩
 case hB=>exact ⟨_,(cM A),by rw [n1];rfl⟩
 case but=>exact (ID D)
 case but2=>exact (ID D)
 case hb2=>exact ⟨_,(cM J),bc⟩
def rG(b:Nat)(s:ae)(tv:ag)(i d a:Nat)(kv rv pv:ag)(U:Bool)(w:af)(h:RS w b s tv i d 0 a kv rv pv)(A:Nat)(o D:Bool)(n1:dw (TT s i)=o)(aF:((TT s i).toList== [116,121,112,101])=D)
  (ah:(o=false/\A=2)\/(o=true/\D=true/\A=2)\/(o=true/\D=false/\A=3/\(8:Int)<((TT s i).size:Int))\/(o=true/\D=false/\A=3/\¬((8:Int)<((TT s i).size:Int))/\U=false)):
  Calls prog 228 #[.pointer (some ⟨b,0,none⟩),.bool U] w fun e w'=>e=.returned (BO s i)/\But b w w'/\RS w' b s tv i d A (PP s i) kv rv pv:=by
 have ab:=ai h.gd
 rcases ah with ⟨rfl,rfl⟩|⟨rfl,rfl,rfl⟩|⟨rfl,rfl,rfl,ak⟩|⟨rfl,rfl,rfl,ak,rfl⟩
 all_goals
 have Z:=ai h;have ay:=h.lt;have H:=ai (h.below (bj.alloc aD nu));have C:=ai (aE.new w #[.string ⟨#[]⟩,.int .i64 0,.bool false] 259);have V:=ai (But.of_below (b:=b) ((az _ w).alloc aD nu));go_enter func228,ntmps228;go_wp2_with fail;generalize w.alloc nu=W at*;obtain ⟨g,c,e0,hi,t0,t1,t2⟩:=H.u.at;obtain ⟨ap,ar,aK,r3,aL,_⟩:=H.u.blk.eight;obtain ⟨aH,aI,aJ⟩:=C.u.three;have au:=ai H.u.blk;have aQ:=H.u.blk.fz;have zq:=C.u.fz;have av:=H.u.lt;have aB:=C.u.lt;rw [e0] at ap;have Y:=ai (az W.heap.size W);have aC:=cm W _ ar;have al:¬(w.heap.size=b):=aj;have Q:¬(b=w.heap.size):=aj
 go_region_held3 (fun w'=>w'.cell? ⟨b,0,none⟩=some (.slice (some ⟨g,0,none⟩) (iV s).length c)/\w'.cell? ⟨b,1,none⟩=some (.int .i64 i)/\w'.cell? ⟨g,i*3,none⟩=some (.string (TT s i))/\w'.cell? ⟨g,i*3+1,none⟩=some (.int .i64 (PP s i))/\w'.cell? ⟨g,i*3+2,none⟩=some (.bool (dw (TT s i)))) (go_keep) (fail)
 rename_i ax;go_wp2_with fail;refine (tQ b s tv i d a kv rv pv _ _ ?_).mono ?_
 ·exact H.u.below (cd Y)
 rintro e aP ⟨rfl,J,an⟩;have am:¬(W.heap.size=b):=aj;have I:=ai (aE.but ((cM C)) J al);have ad:=ai (aE.but (aE.new W (pA (TT s i) (PP s i) _) 259).drew J am);have R:=ai (((eu V):But b w _).trans J);have ac:=ai an;obtain ⟨aG,p1,p2⟩:=I.u.three;obtain ⟨aM,aN,aO⟩:=ad.u.three;have aR:=I.u.fz;go_wp2;refine bq (v:=BO s i) (sX results228 _ _ w.heap.size _ 259 _ rfl ?_ underlying259 rfl aw) rfl ⟨rfl,?_,RS.but (i':=i) (d':=d) (a':=PP s i) Z.u ?_ ?_ ab.u⟩
 ·exact ⟨_,(cM I),by rw [n1];rfl⟩
 ·exact (ID R)
 ·exact (ID R)
 ·exact ⟨_,(((ac.u.blk).other Q _).other Q _).other Q _,bc⟩
def mi(b s tv i d a kv rv pv rm w)(h:RS w b s tv i d 0 a kv rv pv)(A:dl (TT s i)=false):
  Calls prog 228 #[.pointer (some ⟨b,0,none⟩),.bool rm] w fun e w'=>e=.returned (BO s i)/\But b w w'/\RS w' b s tv i d 2 (PP s i) kv rv pv:=by
 rw [pB] at A
 cases h1:dw (TT s i)
 ·exact rG b s tv i d a kv rv pv rm w h 2 _ _ h1 rfl (.inl ⟨rfl,rfl⟩)
 ·rw [h1] at A;exact rG b s tv i d a kv rv pv rm w h 2 _ _ h1 (by simpa using A) (.inr (.inl ⟨rfl,rfl,rfl⟩))
def lC(b s tv i d a kv rv pv rm w)(h:RS w b s tv i d 0 a kv rv pv)(A:dl (TT s i)=true)(D:8<(TT s i).size\/rm=false):
  Calls prog 228 #[.pointer (some ⟨b,0,none⟩),.bool rm] w fun e w'=>e=.returned (BO s i)/\But b w w'/\RS w' b s tv i d 3 (PP s i) kv rv pv:=by
 rw [pB,bM] at A;refine rG b s tv i d a kv rv pv rm w h 3 true false A.1 (by simpa using A.2) (.inr (.inr ?_))
 by_cases C:(8:Int)<((TT s i).size:Int)
 ·exact .inl ⟨rfl,rfl,rfl,C⟩
 ·exact .inr ⟨rfl,rfl,rfl,C,D.resolve_left aj⟩
def x9(b:Nat)(s:ae)(tv:ag)(i d a:Nat)(kv rv pv:ag):
  ∃A E Q,(∀w,RS w b s tv i d 0 a kv rv pv->Calls prog 228 #[.pointer (some ⟨b,0,none⟩),.bool true] w fun e w'=>e=.returned (BO s i)/\But b w w'/\RS w' b s tv A d E Q kv rv pv)/\
   ((i+1=A/\0=E/\a=Q/\dh (TT s) i=.ok ((),i+1))\/(i=A/\E≠0/\PP s i=Q/\dh (TT s) i=.error (E,i))):=by
 unfold dh
 cases hn:dl (TT s i)
 ·exact ⟨i,2,_,fun w h=>mi b s tv i d a kv rv pv true w h hn,.inr ⟨rfl,au,rfl,rfl⟩⟩
 ·by_cases hl:8<(TT s i).size
  ·exact ⟨i,3,_,fun w h=>lC b s tv i d a kv rv pv true w h hn (.inl hl),.inr ⟨rfl,au,rfl,by rw [if_pos rfl,if_pos hl]⟩⟩
  exact ⟨i+1,0,a,fun w h=>nv b s tv i d a kv rv pv w h hn aj,.inl ⟨rfl,rfl,rfl,by rw [if_pos rfl,if_neg hl]⟩⟩
abbrev uU:=@Obj.cells.injEq
abbrev bi:=@List.mem_cons
abbrev dK:=@List.not_mem_nil
abbrev dP:=@or_false
abbrev jY:=@step_append_lies
abbrev jZ(a0:Int)(a1:Option Addr)(a2:Nat)(a3:Nat)(a4:ae)(a5:ae)(a6:Int)(a7:Int)(a8:Option Addr)(a9:Nat)(a10:Nat)(a11:Option Addr)(a12:Nat)(a13:Nat):Array ag:=#[.int .i64 a0,.slice a1 a2 a3,.string a4,.string a5,.int .i64 a6,.int .i64 a7,.slice a8 a9 a10,.slice a11 a12 a13]
abbrev dq(a0:Int)(a1:Option Addr)(a2:Nat)(a3:Nat)(a4:ae)(a5:ae)(a6:Int)(a7:Int)(a8:Option Addr)(a9:Nat)(a10:Nat)(a11:Option Addr)(a12:Nat)(a13:Nat):Obj:=.cells #[.int .i64 a0,.slice a1 a2 a3,.string a4,.string a5,.int .i64 a6,.int .i64 a7,.slice a8 a9 a10,.slice a11 a12 a13] 255
def Oh (h:aA:=by
 have:=hB.size;omega):aA:=h
def gW (h:aA:=by
 simp [Act.eval]):aA:=h
def Ft (h:aA:=by
 rw [cT,aZ]
 simpa using this):aA:=h
structure PV where
 kind:Nat
 gs:List Gr
 nb:ae
 nr:ae
 pa:Nat
 pr:Nat
 ps:List Nat
 sg:List Tk
abbrev PX:=PV×ag×ag×ag
def b8(g:Gr):ae:=if g.reach=1 then sg 42 else g.rel
def cf(g:Gr):List ag:=[.string g.ty,.string (b8 g),.int .i64 g.tp,.int .i64 g.rp]
def kU(x:PX):List ag:=[.int .i64 x.1.kind,x.2.1,.string x.1.nb,.string x.1.nr,.int .i64 x.1.pa,.int .i64 x.1.pr,x.2.2.1,x.2.2.2]
structure nw(w:af)(x:PX):Prop where
 g:w.ownsRow 0 257 4 x.2.1 x.1.gs.length (x.1.gs.flatMap cf)
 p:w.ownsRow 0 3 1 x.2.2.1 x.1.ps.length (x.1.ps.map fun n:Nat=> .int .i64 n)
 s:w.ownsRow 0 259 3 x.2.2.2 x.1.sg.length (bC x.1.sg)
structure PT(base:Nat)(w:af)(pv:ag)(pl:List PV)(l:List PX):Prop where
 fst:l.map Prod.fst=pl
 row:w.ownsRow base 255 8 pv pl.length (l.flatMap kU)
 rep:∀x∈l,nw w x
def jC(B:Nat)(x:PX):Prop:=∀g,(x.2.1.ownBlock=some g\/x.2.2.1.ownBlock=some g\/x.2.2.2.ownBlock=some g)->B<=g
def jC.mono{C x}(h:jC B x)(k:C<=B):jC C x:=fun g A=>aP k (h g A)
def ya(B p):jC B (p,.slice none 0 0,.slice none 0 0,.slice none 0 0):=fun g h=>by
 rcases h with h|h|h<;>cases h
structure Fr(base b:Nat)(w w':af)(pv pv':ag):Prop where
 below:Below base w w'
 keep:∀g,g<w.heap.size->g≠b->pv.ownBlock≠some g->w'.heap[g]? =w.heap[g]?
 own:∀g,pv'.ownBlock=some g->pv.ownBlock=some g\/w.heap.size<=g
def Fr.trans{w2 p p1 p2}(h:Fr base b w w1 p p1)(k:Fr base b w1 w2 p1 p2):Fr base b w w2 p p2:=by
 refine ⟨h.below.trans k.below,fun g A C D=> ?_,fun g A=> ?_⟩
 ·refine (k.keep g (cK A h.below.size) C (fun e=> ?_)).trans (h.keep g A C D)
  rcases h.own g e with e|e
  ·exact D e
  omega
 rcases k.own g A with e|e
 ·exact h.own g e
 exact .inr (aP h.below.size e)
def Fr.of_below(h:an w w')(A:base<=w.heap.size):Fr base b w w' pv pv:=⟨h.mono A,fun g C _ _=>h.block g C,fun g e=> .inl e⟩
def Fr.of_but(h:But b w w')(A:base<=b)(I:base<=w.heap.size):Fr base b w w' pv pv:=⟨h.below A I,fun g D C _=>h.block g D C,fun g e=> .inl e⟩
def gB(h:w.ownsRow base T size v n xs){f:Nat×Nat}(A:w.heap[g]? =some (.cells cs T' f))(C:T'≠T):v.ownBlock≠some g:=fun e=>dH h A C e.symm
def Fr.row(h:Fr base b w w' pv pv'){bs}(k:w.ownsRow bs T size v n xs)(C:aE w b cs 252){pb pn px}(D:w.ownsRow pb 255 8 pv pn px)(h1:T≠252)(h2:T≠255):w'.ownsRow bs T size v n xs:=
 ay k (fun g cs f _ A=>h.keep g (lt_of_some A) (fun e=>by
  subst e;unfold aE at C;rw [C] at A;simp only [aL,uU] at A;exact h1 A.2.1.symm) (gB D A h2))
def nw.frame(h:Fr base b w w' pv pv'){x}(k:nw w x)(A:aE w b cs 252){pb pn px}(C:w.ownsRow pb 255 8 pv pn px):nw w' x:=
 ⟨h.row k.g A C au au,h.row k.p A C au au,h.row k.s A C au au⟩
def Fr.blk(h:Fr base b w w' pv pv')(k:aE w g cs T)(A:g≠b)(C:pv.ownBlock≠some g):aE w' g cs T:=(h.keep g k.lt A C).trans k
def bO(h:w.ownsRow base e size v n xs):w.drew.ownsRow base e size v n xs:=h
def Tryz.infoPt:(Tryz.prog.info? 255).map (fun i=>(i.zero,i.size,i.bytes))=some (some (.agg #[.int .i64 0,.slice none 0 0,.string ⟨#[]⟩,.string ⟨#[]⟩,.int .i64 0,.int .i64 0,.slice none 0 0,.slice none 0 0]),8,128):=by kernel_rfl
def Cu(base b:Nat)(s:ae)(tv:ag)(i d e0 a:Nat)(kv rv pv:ag)(pl:List PV)(l:List PX)(x:PX)(w:af)(e:Ending)(w':af):Prop:=
 ∃pv',e=.returned (.int .i64 pl.length)/\Fr base b w w' pv pv'/\RS w' b s tv i d e0 a kv rv pv'/\PT base w' pv' (pl++[x.1]) (l++[x])
variable {pl:List PV}
def Fu{e0 l x va vc}(A:RS w b s tv i d e0 a kv rv (.slice va pl.length vc))(C:PT base w (.slice va pl.length vc) pl l)(Y:nw w x)(ad:base<=b)(U:base<=w.heap.size)(hB:an w W)(Q:(W.alloc o).drew.grownBy w5 (Value.slice va pl.length vc).ownBlock)(Z:w5.ownsRow base 255 8 (.slice (some ⟨g5,0,none⟩) (pl.length+1) aT) (pl.length+1) (l.flatMap kU++kU x))(V:(Value.slice va pl.length vc).ownBlock=some g5\/g5=W.heap.size+1)(R:aE w5 b #[tv,.int .i64 i,.int .i64 d,.int .i64 e0,.int .i64 a,kv,rv,.slice va pl.length vc] 252):
  Cu base b s tv i d e0 a kv rv (.slice va pl.length vc) pl l x w (.returned (.int .i64 pl.length)) (w5.setCell ⟨b,7,none⟩ (.slice (some ⟨g5,0,none⟩) (pl.length+1) aT)):=by
 have D:an w (W.alloc o).drew:=(hB.alloc hB.size o).drew;have ab:(W.alloc o).drew.ownsRow base 255 8 (.slice va pl.length vc) pl.length (l.flatMap kU):=ay C.row (fun g cs f _ ae=>D.block g (lt_of_some ae));have fr:Fr base b w (w5.setCell ⟨b,7,none⟩ (.slice (some ⟨g5,0,none⟩) (pl.length+1) aT)) (.slice va pl.length vc) (.slice (some ⟨g5,0,none⟩) (pl.length+1) aT):=by
  refine ⟨(ct (D.mono U) Q (aP U D.size) (fun k af=>(ab.lt k af).1)).setCell ad _,fun g I ac ag=> ?_,fun g I=> ?_⟩
  ·exact (dN _ _ _ _ ac).trans ((Q.block g (cK I D.size) (fun e=>ag e.symm)).trans (D.block g I))
  simp only [Value.ownBlock,aL] at I
  rcases V with e|e
  ·exact .inl (by rw [e,I])
  exact .inr Oh
 refine ⟨_,rfl,fr,⟨R.set 7 _,fr.row A.tok A.blk C.row au au,A.gd,⟨A.fm.1,A.fm.2.1,_,_,_,rfl⟩,A.sz⟩,⟨by rw [List.map_append,C.fst];rfl,?_,fun y J=> ?_⟩⟩
 ·have:=bN Z R au 7 (.slice (some ⟨g5,0,none⟩) (pl.length+1) aT);exact Ft
 ·rw [aQ,aR] at J
  rcases J with J|rfl
  ·exact (C.rep y J).frame fr A.blk C.row
  exact Y.frame fr A.blk C.row
def j0(base b s tv i d e0 a kv rv pv pl l p ga gc pa pc sa sc w)(h:RS w b s tv i d e0 a kv rv pv)(I:PT base w pv pl l)(af:nw w (p,.slice ga p.gs.length gc,.slice pa p.ps.length pc,.slice sa p.sg.length sc))(aZ:pl.length<=2000)(aQ:base<=w.heap.size)(aP:base<=b):
  Calls prog 252 #[.pointer (some ⟨b,0,none⟩),.agg #[.int .i64 p.kind,.slice ga p.gs.length gc,.string p.nb,.string p.nr,.int .i64 p.pa,.int .i64 p.pr,.slice pa p.ps.length pc,.slice sa p.sg.length sc]] w
   (Cu base b s tv i d e0 a kv rv pv pl l (p,.slice ga p.gs.length gc,.slice pa p.ps.length pc,.slice sa p.sg.length sc) w):=by
 obtain ⟨i0,hi,ag,ah,ak⟩:=bK Tryz.infoPt;have aF:=ai hi;have aL:=ai ag;have aM:=ai ah;have aN:=ai ak;clear hi ag ah ak;have ap:=ai h;have aJ:=ai I;have aK:=ai af;obtain ⟨R,U,rfl⟩:=ax I.row;have b1:=(az _ w).alloc aD (dq p.kind ga p.gs.length gc p.nb p.nr p.pa p.pr pa p.ps.length pc sa p.sg.length sc);have H:=ai (h.below b1);have V:=ai (ay I.row (fun g cs f _ aR=>b1.block g (lt_of_some aR)):(w.alloc (dq p.kind ga p.gs.length gc p.nb p.nr p.pa p.pr pa p.ps.length pc sa p.sg.length sc)).ownsRow base 255 8 (.slice R pl.length U) pl.length (l.flatMap kU));have J:=aE.new w (jZ p.kind ga p.gs.length gc p.nb p.nr p.pa p.pr pa p.ps.length pc sa p.sg.length sc) 255;have am:=ai b1;have ba:=h.lt;have aX:w.heap.size<(w.alloc (dq p.kind ga p.gs.length gc p.nb p.nr p.pa p.pr pa p.ps.length pc sa p.sg.length sc)).heap.size:=ar;clear h I af b1;go_enter func252,ntmps252;go_wp2_with fail;generalize w.alloc (dq p.kind ga p.gs.length gc p.nb p.nr p.pa p.pr pa p.ps.length pc sa p.sg.length sc)=W at*;obtain ⟨br,bs,bt,r3,bv,bw,bx,aS⟩:=H.u.blk.eight;obtain ⟨aV,bz,bA,bB,bC,bD,bE,bF⟩:=J.eight;have C:=H.u.blk;have bc:=C.fz;have aW:=ai J;have bf:=cm W _ aS;have bg:=cm W _ aV;have c7:(W.alloc (dq p.kind ga p.gs.length gc p.nb p.nr p.pa p.pr pa p.ps.length pc sa p.sg.length sc)).cell? ⟨b,7,none⟩=some (.slice R pl.length U):=(C.alloc _).cell rfl;have bb:¬(b=W.heap.size):=by have:=C.lt;omega
 have aw:=ai C;clear J C;have aH:=ai (show ∀u∈kU (p,.slice ga p.gs.length gc,.slice pa p.ps.length pc,.slice sa p.sg.length sc),u.oneCell'=true from by
  intro u ae;simp only [kU,bi,dK,dP] at ae
  rcases ae with rfl|rfl|rfl|rfl|rfl|rfl|rfl|rfl<;>rfl)
 have Z:pl.length+1<=maxLen:=by unfold maxLen;omega
 have ac:(pl.length+1)*128<=140737488355328:=aj;have aI:=ai (show base<=(W.alloc (dq p.kind ga p.gs.length gc p.nb p.nr p.pa p.pr pa p.ps.length pc sa p.sg.length sc)).drew.heap.size from by
  have:=((az _ W).alloc aD (dq p.kind ga p.gs.length gc p.nb p.nr p.pa p.pr pa p.ps.length pc sa p.sg.length sc)).drew.size;omega)
 have aC:=ai (by simp:(W.alloc (dq p.kind ga p.gs.length gc p.nb p.nr p.pa p.pr pa p.ps.length pc sa p.sg.length sc)).drew.heap.size=W.heap.size+1);have av:=ai Z;have aB:=ai ac;clear Z ac
 go_region_law (refine jY _ rfl (.tmp 10) (.tmp 12) 166 rfl base 255 i0 _ 8 128 underlying166 aF.u aL.u aM.u aN.u rfl au (.slice R pl.length U) pl.length (l.flatMap kU) gW (bO (V.u.alloc _)) ⟨W.heap.size,0,none⟩ 1 1 (kU (p,.slice ga p.gs.length gc,.slice pa p.ps.length pc,.slice sa p.sg.length sc)) gW rfl (bu (B:=W.heap.size) (cs:=#[.int .i64 p.kind,.slice ga p.gs.length gc,.string p.nb,.string p.nr,.int .i64 p.pa,.int .i64 p.pr,.slice pa p.ps.length pc,.slice sa p.sg.length sc]) (t:=255) (fr:=(0,0)) (aE.new W _ _).drew) aH.u au av.u aB.u aI.u (W.heap.size+1) aC.u ?_;intro g5 aT w5 ad Q ab aY;have Y:=bO (V.u.alloc (dq p.kind ga p.gs.length gc p.nb p.nr p.pa p.pr pa p.ps.length pc sa p.sg.length sc));have D:=(aw.u.alloc (dq p.kind ga p.gs.length gc p.nb p.nr p.pa p.pr pa p.ps.length pc sa p.sg.length sc)).drew;have A:aE w5 b _ 252:=(Q.block b D.lt (own_ne Y D au)).trans D;obtain ⟨bh,bj,bk,bl,bn,bo,bp,bq⟩:=A.eight;have zq:=A.fz;have aG:=ai A;have an:=ai Q;have aO:=ai ad;have al:=ai ab;have be:=A.lt;clear Y D A Q ad ab)
 all_goals
  go_wp2;go_ret;exact Fu ap.u aJ.u aK.u aP aQ am.u an.u aO.u al.u aG.u
abbrev Ad:=@ownsRow_setCell_other
abbrev mj(a0:ae)(a1:Int)(a2:Bool):Obj:=.cells #[.string a0,.int .i64 a1,.bool a2] 259
def Oi (h:aA:=by
 exact bu (B:=w4.heap.size) (cs:=#[.string (TT s (j+1)),.string ⟨#[]⟩,.int .i64 (PP s (j+1)),.int .i64 0]) (t:=257) (fr:=(0,0)) (aE.new' _ _ _ _ ar)):aA:=h
def Ae (h:aA:=by
 intro u A;simp only [cf,bi,dK,dP] at A
 rcases A with rfl|rfl|rfl|rfl<;>rfl):aA:=h
def Af(q:aU) (h:bF aU->aA:=by
 intro zq;rintro e w3 ⟨rfl,hb3⟩;have Ub:=ai ((aE.new' (w2.alloc (mj (TT s (j+1)) (PP s (j+1)) (dw (TT s (j+1))))) #[.string (TT s (j+1)),.string ⟨#[]⟩,.int .i64 (PP s (j+1)),.int .i64 0] 257 (w2.heap.size+1) ar).below hb3);have L3:=ai ((L2.u.below (cd BP)).below hb3);clear hb3
 revert w3 Ub L3
 exact zq.1):aA:=h ⟨q⟩
def uV(q:aU) (h:bF aU->aA:=by
 intro zq;obtain ⟨p0,p1,p2,p3,p4,p5,p6,p7⟩:=L4.u.box.eight;have zp:=L4.u.box.fz;obtain ⟨g0,g1,g2,g3⟩:=IW.u.four;have zg:=IW.u.fz
 revert p0 p1 p2 p3 p4 p5 p6 p7 zp g0 g1 g2 g3 zg
 exact zq.1):aA:=h ⟨q⟩
def Ag(q:aU) (h:bF aU->aA:=by
 intro zq;rintro e w4 ⟨rfl,hb4⟩;have L4:=ai (L3.u.below hb4);have IW:=ai (Ub.u.below hb4);clear hb4
 revert w4 L4 IW
 exact zq.1):aA:=h ⟨q⟩
def Oj(q:aU) (h:bF aU->aA:=by
 intro zq;intro g5 aT w5 fg bE nx rH;obtain ⟨oP,hr5,Ok⟩:=qm LX.u bE;have L5:=ai (uW (gr:=⟨TT s (j+1),PP s (j+1),0,em,0⟩) LX.u hlt bE fg aj false);obtain ⟨q0,q1,q2,q3,q4,q5,q6,q7⟩:=Ok.eight;have zq:=Ok.fz;clear oP hr5 Ok fg bE nx
 revert g5 aT w5 rH L5 q0 q1 q2 q3 q4 q5 q6 q7 zq
 exact zq.1):aA:=h ⟨q⟩
def Cv(T:Nat->ae)(P:Nat->Nat)(k:Nat)(gs:List Gr)(j:Nat):eI (List Gr):=if eqs (T j) (sg 44) then dZ T P k gs j else if eqs (T j) (sg 93) then .ok (gs,j+1) else .error (2,j)
def uX(T P k gs j):dZ T P (k+1) gs j=match dY T P (j+1) with
  | .error e=> .error e
  | .ok (g,m)=>Cv T P k (gs++[g]) m:=by
 simp only [dZ,Cv]
 rfl
def uY(T P k gs j g m)(h:dY T P (j+1)=.ok (g,m)):dZ T P (k+1) gs j=Cv T P k (gs++[g]) m:=by rw [uX,h]
def yd(T P k gs j)(e:Nat×Nat)(h:dY T P (j+1)=.error e):dZ T P (k+1) gs j=.error e:=by rw [uX,h]
structure uZ(b:Nat)(s:ae)(tv:ag)(d:Nat)(kv rv pv:ag)(i:Nat)(w wr:af)(f:Bool)(j e aa:Nat)(gs:List Gr)(ga:Option Addr)(gc:Nat):Prop where
 but:But b w wr
 rs:RS wr b s tv j d e aa kv rv pv
 box:aE wr w.heap.size #[.int .i64 1,.slice ga gs.length gc,.string ⟨#[]⟩,.string ⟨#[]⟩,.int .i64 (PP s i),.int .i64 0,.slice none 0 0,.slice none 0 0] 255
 row:wr.ownsRow w.heap.size 257 4 (.slice ga gs.length gc) gs.length (gs.flatMap cf)
 len:gs.length<=j
def uZ.below{wr' f e gs}(h:uZ b s tv d kv rv pv i w wr f j e aa gs ga gc)(k:an wr wr'):uZ b s tv d kv rv pv i w wr' f j e aa gs ga gc:=
 ⟨h.but.trans (But.of_below k),h.rs.below k,h.box.below k,ay h.row (fun g cs f _ A=>k.block g (lt_of_some A)),h.len⟩
def uZ.step{b s tv d kv rv pv i w wr wr' f j e aa gs ga gc}(h:uZ b s tv d kv rv pv i w wr f j e aa gs ga gc)(D:b<w.heap.size)(k:But b wr wr'){j' e' aa'}(r:RS wr' b s tv j' d e' aa' kv rv pv)(C:j<=j'):uZ b s tv d kv rv pv i w wr' f j' e' aa' gs ga gc:=
 ⟨h.but.trans k,r,h.box.but k aj,ay h.row (fun g cs f _ A=>k.block g (lt_of_some A) (fun e=>by
  subst e;have:=h.rs.blk;unfold aE at this;rw [this] at A;simp at A)),aP h.len C⟩
def uZ.inc{f e gs}(h:uZ b s tv d kv rv pv i w wr f j e aa gs ga gc)(A:b<w.heap.size)(C:Gd s (j+1)):uZ b s tv d kv rv pv i w (wr.setCell ⟨b,1,none⟩ (.int .i64 ((j:Int)+1))) f (j+1) e aa gs ga gc:=
 h.step A ((But.refl b wr).setCell 1 _) (h.rs.setI (j+1) C) aj
def de(b s tv i d a kv rv pv x w)(h:RS w b s tv i d 0 a kv rv pv)(y)(D:eqs (TT s i) x=y):
  Calls prog 187 #[.pointer (some ⟨b,0,none⟩),.string x] w fun e w'=>e=.returned (.bool y)/\an w w':=
 (Oe b s tv i d a kv rv pv x w h).mono fun e w' ⟨A,m,C⟩=>⟨by rw [A,D],by rw [C];exact Below.drewN' m⟩
def kF(b s tv i d e0 a kv rv pv x w)(h:RS w b s tv i d e0 a kv rv pv)(A:e0≠0):
  Calls prog 187 #[.pointer (some ⟨b,0,none⟩),.string x] w fun e w'=>e=.returned (.bool false)/\an w w':=
 (Of b s tv i d e0 a kv rv pv x w h A).mono fun e w' ⟨A,m,C⟩=>⟨A,by rw [C];exact Below.drewN' m⟩
def aE.four{x y z u}(h:aE w g #[x,y,z,u] T):w.cell? ⟨g,0,none⟩=some x/\w.cell? ⟨g,1,none⟩=some y/\w.cell? ⟨g,2,none⟩=some z/\w.cell? ⟨g,3,none⟩=some u:=⟨h.cell rfl,h.cell rfl,h.cell rfl,h.cell rfl⟩
def qm{w4 f e gs}(D:uZ b s tv d kv rv pv i w w4 f j e aa gs ga gc)(A:(w4.alloc o).grownBy w5 (Value.slice ga gs.length gc).ownBlock):
  But b w w5/\RS w5 b s tv j d e aa kv rv pv/\aE w5 w.heap.size #[.int .i64 1,.slice ga gs.length gc,.string ⟨#[]⟩,.string ⟨#[]⟩,.int .i64 (PP s i),.int .i64 0,.slice none 0 0,.slice none 0 0] 255:=by
 have I:an w4 (w4.alloc o):=bj.alloc aD _;have L:=D.below I;refine ⟨But.grown L.but A (fun k J=>(L.row.lt k J).1),⟨(A.block _ L.rs.blk.lt (own_ne L.row L.rs.blk au)).trans L.rs.blk,ay L.rs.tok (fun g cs f _ C=>A.block g (lt_of_some C) (dH L.row C au)),L.rs.gd,L.rs.fm,L.rs.sz⟩,(A.block _ L.box.lt (own_ne L.row L.box au)).trans L.box⟩
def uW{w4 f e gs}(D:uZ b s tv d kv rv pv i w w4 f j e aa gs ga gc)(Q:b<w.heap.size)(C:(w4.alloc o).grownBy w5 (Value.slice ga gs.length gc).ownBlock){gr}(I:w5.ownsRow w.heap.size 257 4 (.slice (some ⟨g5,0,none⟩) (gs.length+1) aT) (gs.length+1) (gs.flatMap cf++cf gr))(J:gs.length+1<=j)(f'):
  uZ b s tv d kv rv pv i w (w5.setCell ⟨w.heap.size,1,none⟩ (.slice (some ⟨g5,0,none⟩) (gs.length+1) aT)) f' j e aa (gs++[gr]) (some ⟨g5,0,none⟩) aT:=by
 obtain ⟨h1,h2,A⟩:=qm D C;have el:(gs++[gr]).length=gs.length+1:=ar;refine ⟨h1.setNew aD _,⟨h2.blk.other aM _,bN h2.tok A au _ _,h2.gd,h2.fm,h2.sz⟩,?_,?_,by rw [el];exact J⟩
 ·rw [el];exact A.set 1 _
 ·rw [el,cT]
  simpa using bN I A au 1 (.slice (some ⟨g5,0,none⟩) (gs.length+1) aT)
def Tryz.infoGr:(Tryz.prog.info? 257).map (fun i=>(i.zero,i.size,i.bytes))=some (some (.agg #[.string ⟨#[]⟩,.string ⟨#[]⟩,.int .i64 0,.int .i64 0]),4,48):=by kernel_rfl
def uZ.inc'{f e gs}(h:uZ b s tv d kv rv pv i w wr f j e aa gs ga gc)(A:b<w.heap.size)(C:Gd s (j+1))(v)(D:v=(j:Int)+1):uZ b s tv d kv rv pv i w (wr.setCell ⟨b,1,none⟩ (.int .i64 v)) f (j+1) e aa gs ga gc:=by
 subst D;exact h.inc A C
def uZ.far{f e gs}(h:uZ b s tv d kv rv pv i w wr f j e aa gs ga gc){gb}(A:aE wr gb cs 257)(n1:¬(b=gb))(n2:w.heap.size<gb)(C:(Value.slice ga gs.length gc).ownBlock≠some gb)(o u):uZ b s tv d kv rv pv i w (wr.setCell ⟨gb,o,none⟩ u) f j e aa gs ga gc:=
 ⟨h.but.setNew aM _,⟨h.rs.blk.other n1 _,bN h.rs.tok A au _ _,h.rs.gd,h.rs.fm,h.rs.sz⟩,h.box.other aM _,Ad h.row C _,h.len⟩
def KK(h:w.ownsRow B T size v n xs){p}:jC B (p,v,.slice none 0 0,.slice none 0 0):=fun g A=>by
 rcases A with A|A|A
 ·exact (h.lt g A).1
 ·cases A
 cases A
def hT(h:w.ownsRow base e size v n xs):w.ownsRow 0 e size v n xs:=by
 refine ⟨h.1,?_⟩
 rcases h.2 with h|⟨g,cap,A,h1,_,C⟩
 ·exact .inl h
 exact .inr ⟨g,cap,A,h1,gH _,C⟩
def PT.but{l:List PX}(h:PT base w pv pl l)(k:But b w w')(A:aE w b cs 252)(h1:base<=b)(h2:base<=w.heap.size):PT base w' pv pl l:=
 ⟨h.fst,ay h.row (fun g I f _ C=>k.block g (lt_of_some C) (fun e=>by
  subst e;unfold aE at A;rw [A] at C;simp at C)),fun x D=>(h.rep x D).frame (Fr.of_but k h1 h2) A h.row⟩
def Ol(base b:Nat)(s:ae)(tv:ag)(i d a:Nat)(kv rv pv:ag)(pl:List PV)(l:List PX)(w:af)(h:eI (List Gr))(e:Ending)(w':af):Prop:=
 e=.returned (.int .i64 pl.length)/\∃pv' p x,Fr base b w w' pv pv'/\PT base w' pv' (pl++[p]) (l++[x])/\jC w.heap.size x/\match h with
  | .ok (gs,j)=>RS w' b s tv j d 0 a kv rv pv'/\p=⟨1,gs,em,em,PP s i,0,[],[]⟩/\i<j
  | .error (c,jj)=>c≠0/\∃j',i<=j'/\RS w' b s tv j' d c (PP s jj) kv rv pv'
def LsC(T:Nat->ae)(P:Nat->Nat)(i a:Nat)(h:eI (List Gr))(k:Nat)(f:Bool)(j e aa:Nat)(gs:List Gr):Prop:=
 (f=true/\e=0/\a=aa/\i=j/\gs=[]/\dZ T P k gs j=h)\/(f=false/\e=0/\a=aa/\i<j/\Cv T P k gs j=h)\/(f=false/\e≠0/\i<=j/\∃A,P A=aa/\h=.error (e,A))
def LsD(T:Nat->ae)(P:Nat->Nat)(i a:Nat)(h:eI (List Gr))(k:Nat)(c:Bool)(j e aa:Nat)(gs:List Gr):Prop:=
 (c=true/\0=e/\a=aa/\i<=j/\0<(T j).size/\dZ T P k gs j=h)\/(c=false/\0=e/\a=aa/\i<j/\(if eqs (T j) (sg 93) then .ok (gs,j+1) else .error (2,j))=h)\/(c=false/\e≠0/\i<=j/\∃A,P A=aa/\h=.error (e,A))
def Yn{D:eI (List Gr)}{c:Bool}{e:Nat}{gs:List Gr}
  (U:(c=false/\0=e/\a=aa/\i<j/\(if eqs (TT s j) (sg 93) then .ok (gs,j+1) else .error (2,j))=D)\/(c=false/\e≠0/\i<=j/\∃A,PP s A=aa/\D=.error (e,A))):
  c=false/\∃C E Q,(∀w,RS w b s tv j d e aa kv rv pv->Calls prog 188 #[.pointer (some ⟨b,0,none⟩),.string (sg 93)] w fun e' w'=>e'=.returned (.tuple #[])/\But b w w'/\RS w' b s tv C d E Q kv rv pv)/\j<=C/\
   ((D=.ok (gs,C)/\E=0/\Q=a/\i<C)\/(E≠0/\i<=C/\∃A,Q=PP s A/\D=.error (E,A))):=by
 rcases U with ⟨rfl,rfl,rfl,R,rfl⟩|⟨rfl,J,R,A,rfl,rfl⟩
 ·refine ⟨rfl,?_⟩
  cases I:eqs (TT s j) (sg 93)
  ·exact ⟨j,2,_,fun w h=>Ac b s tv j d a kv rv pv _ w h I,bY _,.inr ⟨au,aj,j,rfl,rfl⟩⟩
  exact ⟨j+1,0,a,fun w h=>uS b s tv j d a kv rv pv _ w h I au,aj,.inl ⟨rfl,rfl,rfl,aj⟩⟩
 ·exact ⟨rfl,j,e,_,fun w h=>(uT b s tv j d e _ kv rv pv _ w h J).mono fun e' w' ⟨h1,h2⟩=>⟨h1,But.of_below h2,h.below h2⟩,bY _,.inr ⟨J,R,A,rfl,rfl⟩⟩
def KL(base b s tv i d a kv rv pv pl l w)(h:RS w b s tv i d 0 a kv rv pv)(bl:PT base w pv pl l)(aX:base<=b)(aY:base<=w.heap.size)(b6:pl.length<=1900)(aG:eqs (TT s i) (sg 91)=true):
  Calls prog 274 #[.pointer (some ⟨b,0,none⟩)] w (Ol base b s tv i d a kv rv pv pl l w (dZ (TT s) (PP s) 512 [] i)):=by
 obtain ⟨i0,bh,bo,bp,bq⟩:=bK Tryz.infoGr;have aJ:=ai bh;have aK:=ai bo;have aL:=ai bp;have aM:=ai bq;clear bh bo bp bq;generalize be:dZ (TT s) (PP s) 512 [] i=ad;have a6:=ai be;have bv:=ai aG;have a5:=ai h;have bz:=ai bl;obtain ⟨g,c,e0,hi,t0,t1,t2⟩:=h.at;obtain ⟨C,I,R,r3,U,bT,bU,bV⟩:=h.blk.eight;have a4:=h.blk.fz;have hlt:=h.lt;have bY:=ai e0;rw [e0] at C;have bQ:=cm w _ C;have bR:=cm w _ I;have bS:=cm w _ t1;clear h bl e0 be aG;go_enter func274,ntmps274;go_wp2_with fail
 go_region_held3 (fun w'=>w'.cell? ⟨b,0,none⟩=some (.slice (some ⟨g,0,none⟩) (iV s).length c)/\w'.cell? ⟨b,1,none⟩=some (.int .i64 i)/\w'.cell? ⟨g,i*3+1,none⟩=some (.int .i64 (PP s i))) (go_keep) (fail)
 rename_i bO;clear bO C I R r3 U bT bU bV t0 t1 t2 bQ bR bS a4;have bB:=ai (show uZ b s tv d kv rv pv i w ((w.alloc (.cells #[.int .i64 1,.slice none 0 0,.string ⟨#[]⟩,.string ⟨#[]⟩,.int .i64 (PP s i),.int .i64 0,.slice none 0 0,.slice none 0 0] 255)).drew) true i 0 a [] none 0 from
  ⟨((But.refl b w).alloc _).drew,a5.u.below ((az _ w).alloc aD _).drew,(aE.new w _ _).drew,bL,ar⟩)
 go_wp2_with fail
 go_loopg [4] 512 (fun k bW wr=>∃(f:Bool)(j e aa:Nat)(gs:List Gr)(ga:Option Addr)(gc:Nat),bW=.bool f/\uZ b s tv d kv rv pv i w wr f j e aa gs ga gc/\512<=k+j/\Hid (LsC (TT s) (PP s) i a ad k f j e aa gs))
 case atStart=>exact ⟨true,i,0,a,[],none,0,rfl,bB.u,aj,ai (.inl ⟨rfl,rfl,rfl,rfl,rfl,a6.u⟩)⟩
 case round=>
  obtain ⟨f,j,e,aa,gs,ga,gc,rfl,J,b5,ax⟩:=hrel;have b7:=J.rs.gd.le;have b8:=J.rs.sz;have b4:=J.len;have ag:=ai J;clear J a6
  go_upto_region 3 with fail
  go_cut [26] (fun s' bX=>∃c:Bool,s'=.bool c/\uZ b s tv d kv rv pv i w bX f j e aa gs ga gc/\Hid (LsD (TT s) (PP s) i a ad gk c j e aa gs))
  case first=>
   rcases ak ax with ⟨rfl,rfl,rfl,Z,bN,hc⟩|⟨rfl,rfl,rfl,Z,hc⟩|⟨rfl,aG,Z,aN,rfl,hc⟩
   ·have aC:=ai (show LsD (TT s) (PP s) i a ad gk true j 0 a gs from .inl ⟨rfl,rfl,rfl,aj,df (show eqs (TT s j) (sg 91)=true from Z▸bv.u) au,hc⟩);clear ax hc bN Z;go_wp2
    go_meet
    case rel=>exact ⟨true,rfl,ag.u,aC⟩
   ·have aC:=ai (show LsD (TT s) (PP s) i a ad gk (eqs (TT s j) (sg 44)) j 0 a gs from by
     unfold Cv at hc
     cases bb:eqs (TT s j) (sg 44)<;>rw [bb] at hc
     ·exact .inr (.inl ⟨rfl,rfl,rfl,Z,hc⟩)
     exact .inl ⟨rfl,rfl,rfl,aj,df bb au,hc⟩)
    clear ax hc;go_wp2_with fail;refine (de b s tv j d a kv rv pv (sg 44) _ ag.u.rs _ rfl).mono ?_;rintro e w3 ⟨rfl,hb3⟩;have L3:=ai (ag.u.below hb3);clear hb3 ag;go_wp2
    go_meet
    case rel=>exact ⟨_,rfl,L3.u,aC⟩
   have aC:=ai (show LsD (TT s) (PP s) i a ad gk false j e (PP s aN) gs from .inr (.inr ⟨rfl,aG,Z,aN,rfl,hc⟩));clear ax hc;go_wp2_with fail;refine (kF b s tv j d e (PP s aN) kv rv pv (sg 44) _ ag.u.rs aG).mono ?_;rintro e' w3 ⟨rfl,hb3⟩;have L3:=ai (ag.u.below hb3);clear hb3 ag;go_wp2
   go_meet
   case rel=>exact ⟨_,rfl,L3.u,aC⟩
  case rest=>
   obtain ⟨c,rfl,J,aO⟩:=hcut;clear ag ax
   rcases ak aO with ⟨rfl,rfl,rfl,Z,bk,hc⟩|bc
   ·obtain ⟨ae,rfl⟩:∃f,gk=f+1:=⟨gk-1,aj⟩;have bw:=ai (J.rs.gd.succ bk);have ay:=ai Z;obtain ⟨C,I,R,r3,U,_⟩:=J.rs.blk.eight;have a4:=J.rs.blk.fz;have ap:=ai (J.inc hlt bw.u);have ac:=ai hc;clear J aO hc bk;go_wp2_with fail;clear C I R r3 U a4;generalize wc.setCell ⟨b,1,none⟩ (.int .i64 ((j:Int)+1))=b2 at*;obtain ⟨bZ,aw,b0,bf,bP⟩:=x9 b s tv (j+1) d a kv rv pv;have aR:=ai bf;clear bf
    rcases bP with ⟨rfl,rfl,rfl,V⟩|⟨rfl,am,rfl,V⟩
    case inr=>
     have Y:dY (TT s) (PP s) (j+1)=.error (aw,j+1):=by unfold dY;rw [V]
     rw [yd _ _ _ _ _ _ Y] at ac;clear V Y;refine (aR.u _ ap.u.rs).mono ?_;rintro e w2 ⟨rfl,aF,aH⟩;have L2:=ai (ap.u.step hlt aF aH aD);have BP:=ai (az w2.heap.size w2);clear aF aH ap;unfold BO;go_wp2_with fail;refine (kF b s tv (j+1) d aw (PP s (j+1)) kv rv pv (sg 42) _ ?_ am).mono ?_
     ·exact (L2.u.below (cd BP)).rs
     refine Af ?_;intro w3 Ub L3;clear L2 BP;go_wp2_with fail;refine (kF b s tv (j+1) d aw (PP s (j+1)) kv rv pv (sg 35) _ L3.u.rs am).mono ?_;refine Ag ?_;intro w4 L4 IW;clear Ub L3;refine uV ?_;intro p0 p1 p2 p3 p4 p5 p6 p7 zp g0 g1 g2 g3 zg;obtain ⟨C,I,R,r3,U,_⟩:=L4.u.rs.blk.eight;have af:=L4.u.rs.blk.fz;have LX:=L4;have ah:=ai LX.u.row;have an:=LX.u.but.size;go_wp2_with (at_builtin;go_must (refine bI _ rfl _ _ 253 rfl w.heap.size 257 i0 _ 4 48 underlying253 aJ.u aK.u aL.u aM.u rfl au (.slice ga gs.length gc) gs.length (gs.flatMap cf) rfl ?_ ⟨w4.heap.size,0,none⟩ 1 1 (cf ⟨TT s (j+1),PP s (j+1),0,em,0⟩) rfl rfl ?_ ?_ au ?_ ?_ ?_ (w4.heap.size+1) ?_ ?_))
     ·exact ah.u.alloc _
     ·exact Oi
     ·exact Ae
     ·unfold maxLen;omega
     ·omega
     ·simp at an ⊢;omega
     ·simp
     refine Oj ?_;intro g5 aT w5 rH L5 q0 q1 q2 q3 q4 q5 q6 q7 zq;clear p0 p1 p2 p3 p4 p5 p6 p7 zp g0 g1 g2 g3 zg C I R r3 U af;go_wp2
     go_roundg ae
     case measure=>omega
     case rel=>
      have al:=ai (show LsC (TT s) (PP s) i a ad ae false (j+1) aw (PP s (j+1)) (gs++[⟨TT s (j+1),PP s (j+1),0,em,0⟩]) from .inr (.inr ⟨rfl,am,by have:=ay.u;omega,j+1,rfl,(ak ac).symm⟩));refine ⟨false,j+1,aw,PP s (j+1),gs++[⟨TT s (j+1),PP s (j+1),0,em,0⟩],some ⟨g5,0,none⟩,aT,rfl,?_,aj,al⟩
      with_reducible exact L5.u
    case inl=>
     have V:dh (TT s) (j+1)=.ok ((),j+2):=V;refine (aR.u _ ap.u.rs).mono ?_;rintro e w2 ⟨rfl,aF,aH⟩;have L2:=ai (ap.u.step (j':=j+2) hlt aF aH aj);have BP:=ai (az w2.heap.size w2);have ck:=L2.u.box.lt;have aS:=ai (show (Value.slice ga gs.length gc).ownBlock≠some (w2.heap.size+1) from fun e=>by have:=(L2.u.row.lt _ e).2;omega);clear aF aH ap aR;unfold BO
     cases D:eqs (TT s (j+2)) (sg 42)
     ·cases ab:eqs (TT s (j+2)) (sg 35)
      ·have Y:dY (TT s) (PP s) (j+1)=.ok (⟨TT s (j+1),PP s (j+1),0,em,0⟩,j+2):=by unfold dY;rw [V];simp only [D,ab];rfl
       rw [uY _ _ _ _ _ _ _ Y] at ac;clear V Y;go_wp2_with fail;refine (de b s tv (j+2) d a kv rv pv (sg 42) _ ?_ false D).mono ?_
       ·exact (L2.u.below (cd BP)).rs
       refine Af ?_;intro w3 Ub L3;clear L2 BP;go_wp2_with fail;refine (de b s tv (j+2) d a kv rv pv (sg 35) _ L3.u.rs false ab).mono ?_;refine Ag ?_;intro w4 L4 IW;clear Ub L3;clear D ab;refine uV ?_;intro p0 p1 p2 p3 p4 p5 p6 p7 zp g0 g1 g2 g3 zg;obtain ⟨C,I,R,r3,U,_⟩:=L4.u.rs.blk.eight;have af:=L4.u.rs.blk.fz;have LX:=L4;have ah:=ai LX.u.row;have an:=LX.u.but.size;go_wp2_with (at_builtin;go_must (refine bI _ rfl _ _ 253 rfl w.heap.size 257 i0 _ 4 48 underlying253 aJ.u aK.u aL.u aM.u rfl au (.slice ga gs.length gc) gs.length (gs.flatMap cf) rfl ?_ ⟨w4.heap.size,0,none⟩ 1 1 (cf ⟨TT s (j+1),PP s (j+1),0,em,0⟩) rfl rfl ?_ ?_ au ?_ ?_ ?_ (w4.heap.size+1) ?_ ?_))
       ·exact ah.u.alloc _
       ·exact Oi
       ·exact Ae
       ·unfold maxLen;omega
       ·omega
       ·simp at an ⊢;omega
       ·simp
       refine Oj ?_;intro g5 aT w5 rH L5 q0 q1 q2 q3 q4 q5 q6 q7 zq;clear p0 p1 p2 p3 p4 p5 p6 p7 zp g0 g1 g2 g3 zg C I R r3 U af;go_wp2
       go_roundg ae
       case measure=>omega
       case rel=>
        have al:=ai (show LsC (TT s) (PP s) i a ad ae false (j+2) 0 (a) (gs++[⟨TT s (j+1),PP s (j+1),0,em,0⟩]) from .inr (.inl ⟨rfl,rfl,rfl,by have:=ay.u;omega,ak ac⟩));refine ⟨false,j+2,0,a,gs++[⟨TT s (j+1),PP s (j+1),0,em,0⟩],some ⟨g5,0,none⟩,aT,rfl,?_,aj,al⟩
        with_reducible exact L5.u
      have aQ:=ai (show Gd s (j+2+1) from L2.u.rs.gd.succ (df ab au));go_wp2_with fail;refine (de b s tv (j+2) d a kv rv pv (sg 42) _ ?_ false D).mono ?_
      ·exact (L2.u.below (cd BP)).rs
      refine Af ?_;intro w3 Ub L3;clear L2 BP;go_wp2_with fail;refine (de b s tv (j+2) d a kv rv pv (sg 35) _ L3.u.rs true ab).mono ?_;refine Ag ?_;intro w4 L4 IW;clear Ub L3;refine uV ?_;intro p0 p1 p2 p3 p4 p5 p6 p7 zp g0 g1 g2 g3 zg;obtain ⟨C,I,R,r3,U,_⟩:=L4.u.rs.blk.eight;have af:=L4.u.rs.blk.fz;have n1:¬(w2.heap.size+1=b):=aj;have n2:¬(b=w2.heap.size+1):=aj;have cg:¬(w.heap.size=b):=aj;have ch:¬(b=w.heap.size):=aj;have ci:¬(w.heap.size=w2.heap.size+1):=aj;have cj:¬(w2.heap.size+1=w.heap.size):=aj;go_wp2_with fail;have aV:=ai (show uZ b s tv d kv rv pv i w (w4.setCell ⟨b,1,none⟩ (.int .i64 ((j:Int)+2+1))) _ (j+3) 0 a gs ga gc from L4.u.inc' hlt aQ.u ((j:Int)+2+1) aj);have a9:=ai (show aE (w4.setCell ⟨b,1,none⟩ (.int .i64 ((j:Int)+2+1))) (w2.heap.size+1) #[.string (TT s (j+1)),.string ⟨#[]⟩,.int .i64 (PP s (j+1)),.int .i64 0] 257 from IW.u.other n1 _);generalize w4.setCell ⟨b,1,none⟩ (.int .i64 ((j:Int)+2+1))=b3 at*;clear p0 p1 p2 p3 p4 p5 p6 p7 zp g0 g1 g2 g3 zg C I R r3 U af L4 IW;obtain ⟨aB,E3,aW,bg,a3⟩:=x9 b s tv (j+3) d a kv rv pv;have bx:=ai bg;have bM:j+3<=aB:=by rcases a3 with h|h<;>omega
      have bD:=ai (show LsC (TT s) (PP s) i a ad ae false aB E3 aW (gs++[⟨TT s (j+1),PP s (j+1),2,TT s (j+3),PP s (j+3)⟩]) from by
       rcases a3 with ⟨rfl,rfl,rfl,aZ⟩|⟨rfl,am,rfl,aZ⟩
       ·have Y:dY (TT s) (PP s) (j+1)=.ok (⟨TT s (j+1),PP s (j+1),2,TT s (j+3),PP s (j+3)⟩,j+4):=by unfold dY;rw [V];simp only [D,ab,aZ];rfl
        rw [uY _ _ _ _ _ _ _ Y] at ac;exact .inr (.inl ⟨rfl,rfl,rfl,by have:=ay.u;omega,ak ac⟩)
       have Y:dY (TT s) (PP s) (j+1)=.error (E3,j+3):=by unfold dY;rw [V];simp only [D,ab,aZ];rfl
       rw [yd _ _ _ _ _ _ Y] at ac;exact .inr (.inr ⟨rfl,am,by have:=ay.u;omega,j+3,rfl,(ak ac).symm⟩))
      clear V D ab bg a3;refine (bx.u _ aV.u.rs).mono ?_;rintro e w4 ⟨rfl,av,aI⟩;have L4:=ai (aV.u.step (j':=aB) hlt av aI bM);have IW:=ai (a9.u.but av n1);clear av aI aV a9;unfold BO;refine uV ?_;intro p0 p1 p2 p3 p4 p5 p6 p7 zp g0 g1 g2 g3 zg;obtain ⟨C,I,R,r3,U,_⟩:=L4.u.rs.blk.eight;have af:=L4.u.rs.blk.fz;have n2:¬(b=w2.heap.size+1):=aj;have b9:=IW.u.lt;have ce:=L4.u.box.lt;have LX:=ai (((L4.u.far IW.u n2 aj aS.u 1 (.string (TT s (j+3)))).far (IW.u.set 1 _) n2 aj aS.u 3 (.int .i64 (PP s (j+3)))).below (bj.alloc aD (mj (TT s (j+3)) (PP s (j+3)) (dw (TT s (j+3))))));have cb:=LX.u.len;have ah:=ai LX.u.row;have an:=LX.u.but.size;go_wp2_with (at_builtin;go_must (refine bI _ rfl _ _ 253 rfl w.heap.size 257 i0 _ 4 48 underlying253 aJ.u aK.u aL.u aM.u rfl au (.slice ga gs.length gc) gs.length (gs.flatMap cf) rfl ?_ ⟨w4.heap.size+1,0,none⟩ 1 1 (cf ⟨TT s (j+1),PP s (j+1),2,TT s (j+3),PP s (j+3)⟩) rfl rfl ?_ ?_ au ?_ ?_ ?_ (w4.heap.size+1+1) ?_ ?_))
      ·exact ah.u.alloc _
      ·exact bu (B:=w4.heap.size+1) (cs:=#[.string (TT s (j+1)),.string (TT s (j+3)),.int .i64 (PP s (j+1)),.int .i64 (PP s (j+3))]) (t:=257) (fr:=(0,0)) (aE.new' _ _ _ _ ar)
      ·exact Ae
      ·unfold maxLen;omega
      ·omega
      ·simp at an ⊢;omega
      ·simp
      intro g5 aT w5 fg bE nx rH;obtain ⟨oP,hr5,Ok⟩:=qm LX.u bE;have L5:=ai (uW (gr:=⟨TT s (j+1),PP s (j+1),2,TT s (j+3),PP s (j+3)⟩) LX.u hlt bE fg aj false);obtain ⟨q0,q1,q2,q3,q4,q5,q6,q7⟩:=Ok.eight;have zq:=Ok.fz;clear oP hr5 Ok fg bE nx p0 p1 p2 p3 p4 p5 p6 p7 zp g0 g1 g2 g3 zg C I R r3 U af;go_wp2
      go_roundg ae
      case measure=>omega
      case rel=>
       have al:=ai (show LsC (TT s) (PP s) i a ad ae false (aB) E3 (aW) (gs++[⟨TT s (j+1),PP s (j+1),2,TT s (j+3),PP s (j+3)⟩]) from bD.u);refine ⟨false,aB,E3,aW,gs++[⟨TT s (j+1),PP s (j+1),2,TT s (j+3),PP s (j+3)⟩],some ⟨g5,0,none⟩,aT,rfl,?_,aj,al⟩
       with_reducible exact L5.u
     have ab:eqs (TT s (j+2)) (sg 35)=false:=by
      unfold eqs at D ⊢;rw [dA] at D;rw [D];decide
     have Y:dY (TT s) (PP s) (j+1)=.ok (⟨TT s (j+1),PP s (j+1),1,em,0⟩,j+3):=by unfold dY;rw [V];simp only [D,if_true]
     rw [uY _ _ _ _ _ _ _ Y] at ac;have aQ:=ai (show Gd s (j+2+1) from L2.u.rs.gd.succ (df D au));clear V Y;go_wp2_with fail;refine (de b s tv (j+2) d a kv rv pv (sg 42) _ ?_ true D).mono ?_
     ·exact (L2.u.below (cd BP)).rs
     refine Af ?_;intro w3 Ub L3;clear L2 BP;go_wp2_with fail;refine (de b s tv (j+2) d a kv rv pv (sg 35) _ L3.u.rs false ab).mono ?_;refine Ag ?_;intro w4 L4 IW;clear Ub L3;clear D ab;refine uV ?_;intro p0 p1 p2 p3 p4 p5 p6 p7 zp g0 g1 g2 g3 zg;obtain ⟨C,I,R,r3,U,_⟩:=L4.u.rs.blk.eight;have af:=L4.u.rs.blk.fz;have n1:¬(w2.heap.size+1=b):=aj;have n2:¬(b=w2.heap.size+1):=aj;have LX:=ai ((uZ.inc' L4.u hlt aQ.u ((j:Int)+2+1) aj).far (IW.u.other n1 _) n2 aj aS.u 1 (.string ⟨#[42]⟩));have ah:=ai LX.u.row;have an:=LX.u.but.size;go_wp2_with (at_builtin;go_must (refine bI _ rfl _ _ 253 rfl w.heap.size 257 i0 _ 4 48 underlying253 aJ.u aK.u aL.u aM.u rfl au (.slice ga gs.length gc) gs.length (gs.flatMap cf) rfl ?_ ⟨w4.heap.size,0,none⟩ 1 1 (cf ⟨TT s (j+1),PP s (j+1),1,em,0⟩) rfl rfl ?_ ?_ au ?_ ?_ ?_ (w4.heap.size+1) ?_ ?_))
     ·exact ah.u.alloc _
     ·exact bu (B:=w4.heap.size) (cs:=#[.string (TT s (j+1)),.string ⟨#[42]⟩,.int .i64 (PP s (j+1)),.int .i64 0]) (t:=257) (fr:=(0,0)) (aE.new' _ _ _ _ ar)
     ·exact Ae
     ·unfold maxLen;omega
     ·omega
     ·simp at an ⊢;omega
     ·simp
     intro g5 aT w5 fg bE nx rH;obtain ⟨oP,hr5,Ok⟩:=qm LX.u bE;have L5:=ai (uW (gr:=⟨TT s (j+1),PP s (j+1),1,em,0⟩) LX.u hlt bE fg aj false);obtain ⟨q0,q1,q2,q3,q4,q5,q6,q7⟩:=Ok.eight;have zq:=Ok.fz;clear oP hr5 Ok fg bE nx p0 p1 p2 p3 p4 p5 p6 p7 zp g0 g1 g2 g3 zg C I R r3 U af;go_wp2
     go_roundg ae
     case measure=>omega
     case rel=>
      have al:=ai (show LsC (TT s) (PP s) i a ad ae false (j+3) 0 (a) (gs++[⟨TT s (j+1),PP s (j+1),1,em,0⟩]) from .inr (.inl ⟨rfl,rfl,rfl,by have:=ay.u;omega,ak ac⟩));refine ⟨false,j+3,0,a,gs++[⟨TT s (j+1),PP s (j+1),1,em,0⟩],some ⟨g5,0,none⟩,aT,rfl,?_,aj,al⟩
      with_reducible exact L5.u
   obtain ⟨rfl,a8,E,Q,hs,bJ,bn⟩:=Yn (b:=b) (s:=s) (tv:=tv) (d:=d) (kv:=kv) (rv:=rv) (pv:=pv) bc;have a7:=ai hs;have bA:=ai bn;have L3:=ai J;clear hs bn bc aO J;go_wp2_with fail;refine (a7.u _ L3.u.rs).mono ?_;rintro e' w4 ⟨rfl,av,aI⟩;have L4:=ai (L3.u.step hlt av aI bJ);clear av aI L3 a7;have bG:=ai (bz.u.but L4.u.but a5.u.blk aX aY);have bH:=ai (show nw w4 (⟨1,gs,em,em,PP s i,0,[],[]⟩,.slice ga gs.length gc,.slice none 0 0,.slice none 0 0) from ⟨hT L4.u.row,bL,bL⟩);obtain ⟨p0,p1,p2,p3,p4,p5,p6,p7⟩:=L4.u.box.eight;have hb4:base<=w4.heap.size:=aP aY L4.u.but.size;go_wp2_with fail;refine (j0 base b s tv (a8) d E (Q) kv rv pv pl l ⟨1,gs,em,em,PP s i,0,[],[]⟩ ga gc none 0 none 0 w4 L4.u.rs bG.u bH.u aj hb4 aX).mono ?_;rintro e' cl ⟨pv',rfl,fr,bs,br⟩;have bt:=ai fr;have ba:=ai bs;have bC:=ai br;clear fr bs br p0 p1 p2 p3 p4 p5 p6 p7;go_wp2;go_ret;refine ⟨rfl,pv',_,_,(Fr.of_but L4.u.but aX aY).trans bt.u,bC.u,KK L4.u.row,?_⟩
   rcases bA.u with ⟨rfl,rfl,rfl,Z⟩|⟨am,Z,aN,rfl,rfl⟩
   ·exact ⟨ba.u,rfl,Z⟩
   exact ⟨am,a8,Z,ba.u⟩
abbrev ny:=@List.getElem?_append_left
abbrev u0:=@List.getElem?_concat_length
def Om(q:aU) (h:bF aU->aA:=by
 intro zq;refine (de b s tv i d a kv rv pv (sg 40) w1 H1.u true he).mono ?_;rintro e w2 ⟨rfl,hb2⟩;have H2:=ai (H1.u.below hb2);have B2:=ai (B1.u.trans (But.of_below (b:=b) hb2))
 revert w2 hb2 H2 B2
 exact zq.1):aA:=h ⟨q⟩
def cG(h:Nat->Ex->Prop):List Nat->List Ex->Prop
 | [],[]=>True
 |n::ns,x::xs=>h n x/\cG h ns xs
 |_,_=>False
def ec(x:Ex):List (ae×Nat×Ex)->Ex
 | []=>x
 |(t,p,y)::r=>ec (fU t p x y) r
def Tr(pl:List PV):Nat->Nat->Ex->Prop
 |0,_,_=>False
 |f+1,n,x=>∃p,pl[n]? =some p/\(
   (p.kind=1/\(p.ps=[]/\p.sg=[])/\x=⟨⟨0,p.pa,em,0,em,0,p.gs⟩,none,none⟩)\/
   (p.kind=2/\p.gs=[]/\(p.ps=[]/\p.sg=[])/\x=⟨⟨1,p.pa,p.nr,p.pa,em,0,[]⟩,none,none⟩)\/
   (p.kind=3/\p.gs=[]/\(p.ps=[]/\p.sg=[])/\x=⟨⟨2,p.pa,p.nb,p.pa,p.nr,p.pr,[]⟩,none,none⟩)\/
   (p.kind=4/\p.gs=[]/\∃h ns A rs,p.ps=h::ns/\Tr pl f h A/\cG (Tr pl f) ns (rs.map fun r=>r.2.2)/\p.sg=⟨[],0,false⟩::rs.map (fun r=>⟨bJ r.1,r.2.1,false⟩)/\((∀r∈rs,r.1=sg 38\/r.1=sg 45)/\rs≠ [])/\x=ec A rs)\/
   (p.kind=5/\p.gs=[]/\p.sg=[]/\∃h ns A rs,p.ps=h::ns/\Tr pl f h A/\cG (Tr pl f) ns (rs.map fun r=>r.2.2)/\(∀r∈rs,r.1=sg 124)/\rs≠ []/\x=ec A rs))
def cG.mono{R S}(h:∀n x,R n x->S n x):∀(ns:List Nat)(xs:List Ex),cG R ns xs->cG S ns xs
 | [],[],_=>trivial
 |n::ns,x::xs,k=>⟨h n x k.1,cG.mono h ns xs k.2⟩
 | [],_::_,k=>k.elim
 |_::_,[],k=>k.elim
def Tr.more(pl t):∀(f n:Nat)(x:Ex),Tr pl f n x->Tr (pl++t) f n x
 |0,_,_,h=>h.elim
 |f+1,n,x,⟨p,hp,h⟩=>by
  refine ⟨p,?_,?_⟩
  ·rw [ny (br.1 hp).1];exact hp
  rcases h with h|h|h|⟨h1,h2,R,ns,U,rs,A,C,D,I,J,Q⟩|⟨h1,h2,V,R,ns,U,rs,A,C,D,I,J,Q⟩
  ·exact .inl h
  ·exact .inr (.inl h)
  ·exact .inr (.inr (.inl h))
  ·exact .inr (.inr (.inr (.inl ⟨h1,h2,R,ns,U,rs,A,Tr.more pl t f _ _ C,cG.mono (Tr.more pl t f) _ _ D,I,J,Q⟩)))
  exact .inr (.inr (.inr (.inr ⟨h1,h2,V,R,ns,U,rs,A,Tr.more pl t f _ _ C,cG.mono (Tr.more pl t f) _ _ D,I,J,Q⟩)))
def Tr.up(pl):∀(f n:Nat)(x:Ex),Tr pl f n x->Tr pl (f+1) n x
 |0,_,_,h=>h.elim
 |f+1,n,x,⟨p,hp,h⟩=>by
  refine ⟨p,hp,?_⟩
  rcases h with h|h|h|⟨h1,h2,R,ns,U,rs,A,C,D,I,J,Q⟩|⟨h1,h2,V,R,ns,U,rs,A,C,D,I,J,Q⟩
  ·exact .inl h
  ·exact .inr (.inl h)
  ·exact .inr (.inr (.inl h))
  ·exact .inr (.inr (.inr (.inl ⟨h1,h2,R,ns,U,rs,A,Tr.up pl f _ _ C,cG.mono (Tr.up pl f) _ _ D,I,J,Q⟩)))
  exact .inr (.inr (.inr (.inr ⟨h1,h2,V,R,ns,U,rs,A,Tr.up pl f _ _ C,cG.mono (Tr.up pl f) _ _ D,I,J,Q⟩)))
def Tr.le(pl)(h:f<=g){x}(k:Tr pl f n x):Tr pl g n x:=by
 obtain ⟨m,rfl⟩:=Nat.exists_eq_add_of_le h;clear h
 induction m with
 |zero=>exact k
 |succ m ih=>exact Tr.up pl _ _ _ ih
def qn(base b:Nat)(s:ae)(tv:ag)(i d a:Nat)(kv rv pv:ag)(pl:List PV)(l:List PX)(w:af)(ex:Nat)(A:eI Ex)(e:Ending)(w':af):Prop:=
 ∃m:Nat,e=.returned (.int .i64 m)/\∃pv' kG h t tl,Fr base b w w' pv pv'/\PT base w' pv' kG h/\kG=pl++t/\h=l++tl/\(∀x∈tl,jC w.heap.size x)/\match A with
  | .ok (x,j)=>RS w' b s tv j d 0 a kv rv pv'/\i<j/\kG.length+i<=pl.length+j/\∃f,Tr kG f m x
  | .error (c,jj)=>c≠0/\∃j',i<=j'/\RS w' b s tv j' d c (PP s jj) kv rv pv'/\kG.length+i<=pl.length+j'+ex
def qo(s:ae)(h:Nat->eI Ex)(d ex:Nat):Prop:=∀(base b:Nat)(tv:ag)(i a:Nat)(kv rv pv:ag)(pl:List PV)(l:List PX)(w:af),RS w b s tv i d 0 a kv rv pv->PT base w pv pl l->base<=b->base<=w.heap.size->pl.length<=i->
 Calls prog 229 #[.pointer (some ⟨b,0,none⟩)] w (qn base b s tv i d a kv rv pv pl l w ex (h i))
def KM(base b s tv i d a kv rv pv pl l w)(h:RS w b s tv i d 0 a kv rv pv)(am:PT base w pv pl l)(Q:base<=b)(I:base<=w.heap.size)(an:pl.length<=i)(ex)(R:eqs (TT s i) (sg 91)=true):Calls prog 266 #[.pointer (some ⟨b,0,none⟩)] w (qn base b s tv i d a kv rv pv pl l w (ex+1) (lw (TT s) (PP s) i)):=by
 have ap:=h.gd.le;have ar:=h.sz;have H:=ai h;have ae:=ai am;have C:=ai (de b s tv i d a kv rv pv (sg 91) w h true R);go_enter func266,ntmps266;go_wp2_with fail;refine C.u.mono ?_;rintro e w1 ⟨rfl,D⟩;have al:=D.size;have ab:=ai (Fr.of_below (base:=base) (b:=b) (pv:=pv) D I);have ac:=ai (H.u.below D);have ah:=ai (ae.u.but (But.of_below (b:=b) D) H.u.blk Q I);have Y:=ai (KL base b s tv i d a kv rv pv pl l w1 ac.u ah.u Q (aP I D.size) aj R);go_wp2_with fail;refine Y.u.mono ?_;rintro e av ⟨rfl,pv',p,x,fr,pt,ak,A⟩;have ad:=ai (ak.mono al);have Z:=ai (ab.u.trans fr);have af:=ai pt;have ag:=ai A;go_wp2;go_ret;refine ⟨pl.length,rfl,pv',_,_,[p],[x],Z.u,af.u,rfl,rfl,fun y V=>by rw [aR] at V;subst V;exact ad.u,?_⟩;have A:=ag.u;unfold lw
 cases U:dZ (TT s) (PP s) 512 [] i with
 |error e=>
  obtain ⟨c,au⟩:=e;rw [U] at A;obtain ⟨hc,j',J,rs⟩:=A;exact ⟨hc,j',J,rs,aM⟩
 |ok y=>
  obtain ⟨gs,j⟩:=y;rw [U] at A;obtain ⟨rs,rfl,J⟩:=A;exact ⟨rs,J,aM,1,_,u0,.inl ⟨rfl,⟨rfl,rfl⟩,rfl⟩⟩
def KN(base b s tv i d a kv rv pv pl l w)(h:RS w b s tv i d 0 a kv rv pv)(Y:PT base w pv pl l)(I:base<=b)(J:base<=w.heap.size)(Z:pl.length<=i)(ex)(h1:eqs (TT s i) (sg 91)=false)(he:eqs (TT s i) (sg 40)=true)(V:d=4):Calls prog 266 #[.pointer (some ⟨b,0,none⟩)] w (qn base b s tv i d a kv rv pv pl l w (ex+1) (.error (3,i))):=by
 have H:=ai h;have Q:=ai Y;have C:=ai (de b s tv i d a kv rv pv (sg 91) w h false h1);go_enter func266,ntmps266;go_wp2_with fail;refine C.u.mono ?_;rintro e w1 ⟨rfl,D⟩;have H1:=ai (H.u.below D);have B1:=ai (But.of_below (b:=b) D);go_wp2_with fail;refine Om ?_;intro w2 hb2 H2 B2;obtain ⟨ab,ac,ad,r3,ae,_⟩:=H2.u.blk.eight;subst V;go_wp2_with fail;refine (tQ b s tv i 4 a kv rv pv 3 w2 H2.u).mono ?_;rintro e af ⟨rfl,U,k3⟩;have A:=ai (B2.u.trans U);have R:=ai k3;go_wp2;go_ret;exact ⟨0,rfl,pv,pl,l,[],[],Fr.of_but A.u I J,Q.u.but A.u H.u.blk I J,ar,ar,ar,au,i,bY _,R.u,aj⟩
def KO(T:Nat->ae)(r:eI Ex):eI Ex:=match r with
 | .error e=> .error e
 | .ok (x,j)=>if eqs (T j) (sg 41) then .ok (x,j+1) else .error (2,j)
def UV(base b s tv i d a kv rv pv pl l w)(h:RS w b s tv i d 0 a kv rv pv)(aB:PT base w pv pl l)(A:base<=b)(av:base<=w.heap.size)(aN:pl.length<=i)(inner ex)(aH:qo s inner (d+1) ex)(h1:eqs (TT s i) (sg 91)=false)(he:eqs (TT s i) (sg 40)=true)(aL:d<4):Calls prog 266 #[.pointer (some ⟨b,0,none⟩)] w (qn base b s tv i d a kv rv pv pl l w (ex+1) (KO (TT s) (inner (i+1)))):=by
 have H:=ai h;have aG:=ai aB;have aF:=ai (h.gd.succ (df he au));have C:=ai (de b s tv i d a kv rv pv (sg 91) w h false h1);have aO:=h.gd.le;have aQ:=h.sz;have aI:¬((d:Int)=4):=aj;have aM:((d:Int)==4)=false:=b6.2 aI;clear h aB;go_enter func266,ntmps266;go_wp2_with fail;refine C.u.mono ?_;rintro e w1 ⟨rfl,ap⟩;have H1:=ai (H.u.below ap);have B1:=ai (But.of_below (b:=b) ap);clear ap C;go_wp2_with fail;refine Om ?_;intro w2 hb2 H2 B2;obtain ⟨R,U,V,r3,Y,_⟩:=H2.u.blk.eight;have Z:=H2.u.blk.fz;clear hb2 H1 B1;go_wp2_with fail;have aE:=ai (show RS ((w2.setCell ⟨b,1,none⟩ (.int .i64 ((i:Int)+1))).setCell ⟨b,2,none⟩ (.int .i64 ((d:Int)+1))) b s tv (i+1) (d+1) 0 a kv rv pv from (H2.u.setI (i+1) aF.u).setD (d+1));have af:=ai (show But b w ((w2.setCell ⟨b,1,none⟩ (.int .i64 ((i:Int)+1))).setCell ⟨b,2,none⟩ (.int .i64 ((d:Int)+1))) from (B2.u.setCell 1 _).setCell 2 _);clear R U V r3 Y Z H2 B2;generalize (w2.setCell ⟨b,1,none⟩ (.int .i64 ((i:Int)+1))).setCell ⟨b,2,none⟩ (.int .i64 ((d:Int)+1))=ay at*;have aC:base<=ay.heap.size:=aP av af.u.size;have ax:=ai (aH base b tv (i+1) a kv rv pv pl l ay aE.u (aG.u.but af.u H.u.blk A av) A aC aj);refine ax.u.mono ?_;rintro e ak ⟨m,rfl,pv',kG,aR,t,tl,fr,pt,rfl,rfl,az,ah⟩;have am:=ai (fun x aK=>(az x aK).mono af.u.size);have al:=ai ((Fr.of_but af.u A av).trans fr);have an:=ai pt;have Q:base<=ak.heap.size:=aP aC fr.below.size;clear fr pt az ax
 cases J:inner (i+1) with
 |error e=>
  obtain ⟨c,aD⟩:=e;rw [J] at ah;obtain ⟨hc,j',aJ,rs,hn⟩:=ah;have E:=ai (show KO (TT s) (inner (i+1))=.error (c,aD) by rw [J];rfl);have ac:=ai rs;obtain ⟨R,U,V,r3,Y,_⟩:=rs.blk.eight;have Z:=rs.blk.fz;have I:=ai (uT b s tv j' d c (PP s aD) kv rv pv' (sg 41) _ (rs.setD d) hc);clear rs J;go_wp2_with fail;refine I.u.mono ?_;rintro e w5 ⟨rfl,ar⟩;have ab:=ai ((ac.u.setD d).below ar);have D:=ai (((But.refl b ak).setCell 2 (.int .i64 (d:Nat))).trans (But.of_below ar));clear ar I R U V r3 Y Z;go_wp2;go_ret;rw [E.u];exact ⟨m,rfl,pv',_,_,t,tl,al.u.trans (Fr.of_but D.u A Q),an.u.but D.u ac.u.blk A Q,rfl,rfl,am.u,hc,j',aj,ab.u,aj⟩
 |ok y=>
  obtain ⟨x,j⟩:=y;rw [J] at ah;obtain ⟨rs,aJ,hn,f,aw⟩:=ah;have ac:=ai rs;have TR:=ai aw;obtain ⟨R,U,V,r3,Y,_⟩:=rs.blk.eight;have Z:=rs.blk.fz
  cases ag:eqs (TT s j) (sg 41)
  ·have E:=ai (show KO (TT s) (inner (i+1))=.error (2,j) by rw [J];simp [KO,ag]);have I:=ai (Ac b s tv j d a kv rv pv' (sg 41) _ (rs.setD d) ag);clear rs J aw;go_wp2_with fail;refine I.u.mono ?_;rintro e w5 ⟨rfl,ad,ae⟩;have ab:=ai ae;have D:=ai (((But.refl b ak).setCell 2 (.int .i64 (d:Nat))).trans ad);clear ad ae I R U V r3 Y Z;go_wp2;go_ret;rw [E.u];exact ⟨m,rfl,pv',_,_,t,tl,al.u.trans (Fr.of_but D.u A Q),an.u.but D.u ac.u.blk A Q,rfl,rfl,am.u,au,j,aj,ab.u,aj⟩
  have E:=ai (show KO (TT s) (inner (i+1))=.ok (x,j+1) by rw [J];simp [KO,ag]);have I:=ai (uS b s tv j d a kv rv pv' (sg 41) _ (rs.setD d) ag au);clear rs J aw;go_wp2_with fail;refine I.u.mono ?_;rintro e w5 ⟨rfl,ad,ae⟩;have ab:=ai ae;have D:=ai (((But.refl b ak).setCell 2 (.int .i64 (d:Nat))).trans ad);clear ad ae I R U V r3 Y Z;go_wp2;go_ret;rw [E.u];exact ⟨m,rfl,pv',_,_,t,tl,al.u.trans (Fr.of_but D.u A Q),an.u.but D.u ac.u.blk A Q,rfl,rfl,am.u,ab.u,aj,aj,f,TR.u⟩
