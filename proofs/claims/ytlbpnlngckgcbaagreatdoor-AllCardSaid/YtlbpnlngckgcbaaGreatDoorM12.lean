import Derived.Test.YtlbpnlngckgcbaaGreatDoorM08
import Derived.Lib.IndexMore
import Derived.BigRegion
import Derived.Test.YtlbpnlngckgcbaaGreatDoorM02
set_option linter.all false
set_option maxHeartbeats 4000000
set_option maxRecDepth 100000
namespace Go.Proofs.YtlbpnlngckgcbaaGreatDoor
open Go.RowKit Go.PlainAid Go.Proofs.Tryz
variable {aD bq:Prop} {s:ae} {k B:Nat} {w w':af}
abbrev iO:=@List.length_cons
abbrev vv:=@List.dropWhile_cons
abbrev gY:=@Prod.mk.injEq
abbrev bX:=@true_and
abbrev A3:=@Bool.eq_false_iff
abbrev cJ:=@below_drewN
def ON (h:aD:=by
 rw [bj];omega):aD:=h
def aG(s:ae)(c:UInt8):ae×ae×Bool:=(mk ((bB s).takeWhile (· != c)),mk (((bB s).dropWhile (· != c)).drop 1),(bB s).contains c)
def fR{α:Type}(p:α->Bool):∀(l:List α),l.takeWhile p=l.take (l.takeWhile p).length
 | []=>rfl
 |x::l=>by
  rw [iK]
  split
  ·rw [iO,List.take_succ_cons,<-fR p l]
  rfl
def fS{α:Type}(p:α->Bool):∀(l:List α),l.dropWhile p=l.drop (l.takeWhile p).length
 | []=>rfl
 |x::l=>by
  rw [iK,vv]
  split
  ·rw [iO,rT,<-fS p l]
  rfl
def YH{c}(I:k<(bB s).length)(C:∀j,(h:j<k)->(D:j<(bB s).length)->((bB s)[j] != c)=true)(A:(bB s)[k]=c):aG s c=(s.extract 0 k,s.extract (k+1) s.size,true):=by
 have e:=fB (· != c) (bB s) k C ai (fun h=>by simp [A]);unfold aG;rw [fR,fS,e,extract_mk,extract_mk];simp only [nj,Nat.sub_zero,nk,gY,bX];refine ⟨?_,?_⟩
 ·rw [cX (by simp [bj])]
 rw [List.contains_iff_mem,<-A];exact br _
def OO{c}(C:∀j,(h:j<s.size)->(D:j<(bB s).length)->((bB s)[j] != c)=true):aG s c=(s,em,false):=by
 have e:=fB (· != c) (bB s) s.size C ON (fun h=>by rw [bj] at h;omega);unfold aG;rw [fR,fS,e,cX ON,eC (i:=s.size) (l:=bB s) ON,cW];simp only [List.drop_nil,gY,bX];refine ⟨rfl,?_⟩;rw [A3];intro h;rw [List.contains_iff_mem] at h;obtain ⟨j,A,e⟩:=dB h;have:=C j (by rw [bj] at A;exact A) A;simp [e] at this
def lE(s c ci)(V:ci=(c.toNat:Int))(w)(hs:s.size<=maxLen):
  Calls prog 141 #[an s,.int .u8 ci] w fun e w'=>e=bi (.tuple #[an (aG s c).1,an (aG s c).2.1,.bool (aG s c).2.2])/\am w w':=by
 unfold maxLen at hs;have ab:=get_bt s;generalize J:aG s c=R;obtain ⟨x,y,f⟩:=R;go_enter func141,ntmps141;go_wp2_with fail
 go_loop [7] (fun u=>∃k:Nat,k<=s.size/\u=au k/\(∀j,(h:j<k)->(D:j<(bB s).length)->((bB s)[j] != c)=true)) (fun u=>s.size-(intOf u).toNat)
 ·exact ⟨0,ai,rfl,(fun j h=>ai)⟩
 ·obtain ⟨k,ac,rfl,C⟩:=hrel
  by_cases Z:k<s.size
  ·have Y:(k:Int)<(s.size:Int):=by omega
   have hl:k<(bB s).length:=by rw [bj];exact Z
   have U:=uV s k hl
   by_cases I:(bB s)[k]=c
   ·simp;have A:=YH hl C I;rw [J] at A;simp only [gY] at A;obtain ⟨rfl,rfl,rfl⟩:=A;go_wp2
    go_quiet (fail)
    go_wp2;go_ret3;exact ⟨rfl,cJ bo _⟩
   have ad:(bt s k==ci)=false:=by
    rw [U,V,bR];intro h;exact I (UInt8.toNat_inj.1 ai)
   have Q:=(show ∀j,(h:j<k+1)->(D:j<(bB s).length)->((bB s)[j] != c)=true from fun j h D=>by
    by_cases e:j=k
    ·subst e;simpa using I
    exact C j ai D)
   go_wp2
   go_round
   ·exact ⟨k+1,ai,by go_num,Q⟩
   simp [intOf];omega
  have Y:¬((k:Int)<(s.size:Int)):=ai;obtain rfl:k=s.size:=ai;have A:=OO C;rw [J] at A;simp only [gY] at A;obtain ⟨rfl,rfl,rfl⟩:=A;go_wp2;go_ret3;exact ⟨rfl,az _ _⟩
abbrev fT:=@Bool.true_and
abbrev A6:=@Bool.and_eq_false_iff
abbrev vw:=@Bool.false_or
def Xq (h:aD:=by
 go_wp2_with (first|(go_at_call 185;refine (fd _ _).mono ?_;rintro e w' ⟨rfl,rfl⟩)|(go_at_call 186;refine (fQ _ _).mono ?_;rintro e w' ⟨rfl,rfl⟩));go_ret;exact ⟨rfl,rfl⟩):aD:=h
def OP (h:aD:=by
 rw [e];go_enter func195,ntmps195;go_wp2;go_ret;exact ⟨rfl,rfl⟩):aD:=h
def GL (h:aD:=by
 rw [hR] at hF;subst hF;go_wp2;go_ret;exact ⟨rfl,rfl⟩):aD:=h
def bC(s:ae):Bool:=decide (0<s.size)&&decide (s.size<=8)&&(kL (bB s)==s.size)
def im(s w)(hs:s.size<=maxLen):
  Calls prog 93 #[an s] w fun e w'=>e=bi (.bool (bC s))/\w'=w:=by
 unfold bC;have C:=ng s w hs;unfold maxLen at hs
 by_cases h0:0<s.size
 ·by_cases D:s.size<=8
  ·have A:(0:Int)<(s.size:Int):=by omega
   have I:(s.size:Int)<=8:=ai;rw [kV h0,kV D,fT,fT];generalize J:kL (bB s)=z at*;have e:(z==s.size)=(((z:Int))==((s.size:Int))):=by
    rw [gW,dS,dS];omega
   go_enter func93,ntmps93;go_wp2_with (go_at_call 144;refine C.mono ?_;rintro e w' ⟨rfl,rfl⟩);go_ret;exact ⟨by rw [e];rfl,rfl⟩
  have I:¬((s.size:Int)<=8):=ai;have A:(0:Int)<(s.size:Int):=ai;rw [l6 D,pB,eM];go_enter func93,ntmps93;go_wp2;go_ret;exact ⟨rfl,rfl⟩
 ·have A:¬((0:Int)<(s.size:Int)):=by omega
  rw [l6 h0,eM,eM];go_enter func93,ntmps93;go_wp2;go_ret;exact ⟨rfl,rfl⟩
def OQ(h0:0<s.size)(A:s.size<=8)(h:∀j,j<s.size->(letter (bt s j)||(digit (bt s j)&&decide (0<j)))=true):bC s=true:=by
 have e:=qB s s.size h0 (by have:=h 0 h0;simpa using this) ai ai (fun j h1 h2=>by have:=h j h2;revert this;cases letter (bt s j)<;>cases digit (bt s j)<;>simp) (fun h=>ai);unfold bC;simp [h0,A,e]
def OR(C:k<s.size)(h:∀j,j<k->(letter (bt s j)||(digit (bt s j)&&decide (0<j)))=true)(A:(letter (bt s k)||(digit (bt s k)&&decide (0<k)))=false):bC s=false:=by
 unfold bC
 by_cases h0:k=0
 ·subst h0;rw [uW s C (by simpa using A)];have:(0==s.size)=false:=by rw [bR];omega
  rw [this,pB]
 have e:=qB s k ai (by have:=h 0 ai;simpa using this) ai ai (fun j h1 h2=>by have:=h j h2;revert this;cases letter (bt s j)<;>cases digit (bt s j)<;>simp) (fun _=>by rw [kV ai,Bool.and_true] at A;exact A);have:(k==s.size)=false:=by rw [bR];omega
 rw [e,this,pB]
def iP(s w):Calls prog 195 #[an s] w fun e w'=>e=bi (.bool (bC s))/\w'=w:=by
 by_cases h0:0<s.size
 ·by_cases J:s.size<=8
  ·have I:¬((s.size:Int)<1):=by omega
   have U:¬((8:Int)<(s.size:Int)):=ai;have ac:=get_bt s;generalize hR:bC s=R;go_enter func195,ntmps195;go_wp2_with fail
   go_loop [3] (fun u=>∃k:Nat,k<=s.size/\u=au k/\(∀j,j<k->(letter (bt s j)||(digit (bt s j)&&decide (0<j)))=true)) (fun u=>s.size-(intOf u).toNat)
   ·exact ⟨0,ai,rfl,(fun j h=>ai)⟩
   obtain ⟨k,ad,rfl,A⟩:=hrel
   by_cases ab:k<s.size
   ·have Z:(k:Int)<(s.size:Int):=by omega
    cases hv:(letter (bt s k)||(digit (bt s k)&&decide (0<k)))
    ·have hF:=OR ab A hv;rw [hR] at hF;subst hF;simp only [Bool.or_eq_false_iff,A6,decide_eq_false_iff_not] at hv;obtain ⟨v1,C⟩:=hv
     cases V:digit (bt s k)
     ·exact Xq
     have Q:k=0:=by
      rcases C with v|v
      ·rw [V] at v;cases v
      omega
     have Y:((k:Int)==0)=true:=by rw [Q];rfl
     clear C Q;exact Xq
    have D:=(show ∀j,j<k+1->(letter (bt s j)||(digit (bt s j)&&decide (0<j)))=true from fun j h=>by
     by_cases e:j=k
     ·subst e;exact hv
     exact A j ai)
    cases hl:letter (bt s k)
    ·rw [hl,vw,bO,fE] at hv;obtain ⟨v1,C⟩:=hv;have Y:((k:Int)==0)=false:=by rw [bR];omega
     go_wp2_with (first|(go_at_call 185;refine (fd _ _).mono ?_;rintro e w' ⟨rfl,rfl⟩)|(go_at_call 186;refine (fQ _ _).mono ?_;rintro e w' ⟨rfl,rfl⟩))
     go_round
     ·exact ⟨k+1,ai,by go_num,D⟩
     simp [intOf];omega
    clear hv;go_wp2_with (first|(go_at_call 185;refine (fd _ _).mono ?_;rintro e w' ⟨rfl,rfl⟩)|(go_at_call 186;refine (fQ _ _).mono ?_;rintro e w' ⟨rfl,rfl⟩))
    go_round
    ·exact ⟨k+1,ai,by go_num,D⟩
    simp [intOf];omega
   have Z:¬((k:Int)<(s.size:Int)):=ai;obtain rfl:k=s.size:=ai;have hF:=OQ h0 J A;exact GL
  have U:(8:Int)<(s.size:Int):=ai;have I:¬((s.size:Int)<1):=ai;have e:bC s=false:=by unfold bC;rw [l6 J];simp
  exact OP
 have I:(s.size:Int)<1:=ai;have e:bC s=false:=by unfold bC;rw [l6 h0];simp
 exact OP
def eo(s c):(aG s c).1.size<=s.size/\(aG s c).2.1.size<=s.size:=by
 unfold aG;simp only [JF];have h1:((bB s).takeWhile (· != c)).length<=(bB s).length:=(List.takeWhile_prefix _).length_le;have h2:((bB s).dropWhile (· != c)).length<=(bB s).length:=(List.dropWhile_suffix _).length_le;rw [bj] at h1 h2;simp only [nh];omega
def c9(s:ae):ae×ae×Bool:=((aG s 58).1,(aG s 58).2.1,(aG s 58).2.2&&bC (aG s 58).1&&bC (aG s 58).2.1)
def mm(s w)(hs:s.size<=maxLen):
  Calls prog 136 #[an s] w fun e w'=>e=bi (.tuple #[an (c9 s).1,an (c9 s).2.1,.bool (c9 s).2.2])/\am w w':=by
 unfold c9;have A:=lE s 58 58 rfl w hs;generalize aG s 58=X at*;obtain ⟨a,b,ok⟩:=X;have C:=fun w=>iP a w
 have D:=fun w=>iP b w
 simp only at A C D ⊢;generalize bC a=p at*;generalize bC b=q at*;go_enter func136,ntmps136;go_wp2_with fail;refine A.mono ?_;rintro e w1 ⟨rfl,h⟩;go_wp2_with fail;refine (C _).mono ?_;rintro e I ⟨rfl,rfl⟩;go_wp2_with fail;refine (D _).mono ?_;rintro e J ⟨rfl,rfl⟩
 cases ok
 ·go_wp2;go_ret3;exact ⟨rfl,h⟩
 ·cases p
  ·go_wp2;go_ret3;exact ⟨rfl,h⟩
  go_wp2;go_ret3;exact ⟨rfl,h⟩
structure Tu where
 kind:ae
 id:ae
 rel:ae
 sub:ae
 who:ae
 of:ae
def Tu.cells(t:Tu)(s:ae):Array ag:=#[an t.kind,an t.id,an t.rel,an t.sub,an t.who,an t.of,an s]
def jR:ae:=⟨#[42]⟩
def nA(who:ae)(all:Bool):ae×ae×Bool:=
 if !(c9 who).2.2&& !all then ((aG who 58).1,jR,(aG who 58).2.2&&bC (aG who 58).1&&eqs (aG who 58).2.1 jR) else c9 who
def b7(s:ae):Tu×Bool:=
 (⟨(c9 (aG (aG s 64).1 35).1).1,(c9 (aG (aG s 64).1 35).1).2.1,(aG (aG s 64).1 35).2.1,(nA (aG (aG s 64).2.1 35).1 (aG (aG s 64).2.1 35).2.2).1,(nA (aG (aG s 64).2.1 35).1 (aG (aG s 64).2.1 35).2.2).2.1,(aG (aG s 64).2.1 35).2.1⟩,
  (aG s 64).2.2&&(aG (aG s 64).1 35).2.2&&(c9 (aG (aG s 64).1 35).1).2.2&&bC (aG (aG s 64).1 35).2.1&&(nA (aG (aG s 64).2.1 35).1 (aG (aG s 64).2.1 35).2.2).2.2&&(!(aG (aG s 64).2.1 35).2.2||bC (aG (aG s 64).2.1 35).2.1))
abbrev kk:=@Int.toNat_natCast
def index_one(c):∀l:List UInt8,Lib.index l [c]=if l.contains c then ((l.takeWhile (· != c)).length:Int) else-1
 | []=>rfl
 |b::l=>by
  have C:=index_one c l;rw [Lib.index]
  by_cases h:b=c
  ·subst h;simp
  have h1:(c==b)=false:=by rw [bR];exact fun e=>h e.symm
  have h2:(b != c)=true:=by simpa using h
  have e:((b::l).contains c)=l.contains c:=by rw [List.contains_cons,h1,vw]
  rw [e,iK,if_pos h2,iO,C];have A:([c].isPrefixOf (b::l))=false:=by rw [List.isPrefixOf,h1,eM]
  rw [A]
  cases l.contains c
  ·simp
  simp only [if_true,bJ,aZ];rw [if_neg ar];omega
def km(c):∀l:List UInt8,l.contains c=false->l.takeWhile (· != c)=l/\l.dropWhile (· != c)=[]
 | [],_=>⟨rfl,rfl⟩
 |b::l,h=>by
  rw [List.contains_cons,Bool.or_eq_false_iff] at h;have A:=km c l h.2;have h2:(b != c)=true:=by
   have:=h.1;rw [bR] at this
   simpa using fun e=>this e.symm
  rw [iK,vv,if_pos h2,if_pos h2,A.1];exact ⟨rfl,A.2⟩
def J6(l c):Lib.cut l [c]=(l.takeWhile (· != c),(l.dropWhile (· != c)).drop 1,l.contains c):=by
 unfold Lib.cut;rw [index_one]
 cases h:l.contains c
 ·obtain ⟨h1,h2⟩:=km c l h;simp [h1,h2]
 simp only [if_true];rw [if_pos ai,kk,<-fR,fS,nk]
 rfl
def Xx (h:aD:=by
 go_wp2_with fail;refine (Cq _).mono ?_;rintro e A ⟨rfl,rfl⟩;exact Pt):aD:=h
def Xy (h:aD:=by
 exact Pt):aD:=h
def Pt (h:aD:=by
 go_wp2;refine bE (v:=.tuple #[.agg #[an a,an b],.bool _]) (ce results55 _ _ w.heap.size _ 98 _ _ rfl rfl ?hB2 underlying98 rfl aM) rfl ?Ol
 case hB2=>exact ⟨_,(cY R1),bQ⟩
 case Ol=>exact ⟨rfl,(cq B1)⟩):aD:=h
def ko(w:af):Prop:=∃m,w.cell? (aP 1)=some (au m)
def ko.below(h:ko w)(k:Below B w w')(A:1<B):ko w':=by
 obtain ⟨m,C⟩:=h;exact ⟨m,(jA (w:=w) (k.block 1 A)).trans C⟩
def GZ:Prop:=∀(s:ae)(c:UInt8)(w:af),s.size<=1000->ko w->Calls prog 92 #[an s,an (mk [c])] w fun e w'=>e=bi (.tuple #[an (aG s c).1,an (aG s c).2.1,.bool (aG s c).2.2])/\am w w'
def bT(s:ae):Bool:=bC (aG s 58).1&&bC (aG s 58).2.1
def fC(Q:GZ)(s:ae)(w:af)(hs:s.size<=1000)(U:ko w)(V:1<w.heap.size):
  Calls prog 55 #[an s] w fun e w'=>e=bi (.tuple #[.agg #[an (aG s 58).1,an (aG s 58).2.1],.bool (bT s)])/\am w w':=by
 unfold bT;have z:=eo s 58;have C:am w (w.alloc (.cells #[an ⟨#[]⟩,an ⟨#[]⟩] 98)):=(az _ w).alloc aH _;have D:=Q s 58 _ hs (U.below C V);have R:=aL.new w #[an ⟨#[]⟩,an ⟨#[]⟩] 98;generalize aG s 58=X at*;obtain ⟨a,b,ok⟩:=X;simp only at z D ⊢;have J:=fun w=>im a w fK
 have Cq:=fun w=>im b w fK
 generalize bC a=p at*;generalize bC b=q at*;go_enter func55,ntmps55;go_wp2_with fail;refine D.mono ?_;rintro e w1 ⟨rfl,I⟩;have B1:=C.trans (I.mono C.size);have R1:=R.below I;have ab:=R1.fz;have Y:w1.cell? (aP w.heap.size)=some (an ⟨#[]⟩):=R1.cell rfl;have Z:w1.cell? (aC w.heap.size 1)=some (an ⟨#[]⟩):=R1.cell rfl;go_wp2_with fail;refine (J _).mono ?_;rintro e ac ⟨rfl,rfl⟩
 cases p
 ·skip
  exact Xy
 ·exact Xx
abbrev Bq:Obj:=.cells #[an ⟨#[]⟩,an ⟨#[]⟩,an ⟨#[]⟩] 102
abbrev nH(a0:ae):Obj:=.cells #[an a0,an ⟨#[42]⟩] 98
abbrev vW(a0:ae)(a1:ae):Obj:=.cells #[an a0,an ⟨#[42]⟩,an a1] 102
abbrev dK(a0:ae)(a1:ae):Obj:=.cells #[an a0,an a1] 98
abbrev cf(a0:ae)(a1:ae)(a2:ae):Obj:=.cells #[an a0,an a1,an a2] 102
def Pu (h:aD:=by
 have:=B1.size;omega):aD:=h
def Xz (h:aD:=by
 subst hR;exact Pv):aD:=h
def Pv (h:aD:=by
 go_wp2_with fail
 go_region
 all_goals (
  go_wp2;refine bE (v:=.tuple #[.agg #[an a,an b,an rel],.bool _]) (ce results102 _ _ w.heap.size _ 102 _ _ rfl rfl ?_ underlying102 rfl aM) rfl ?_
  ·exact ⟨_,(cY R2),bQ⟩
  ·exact ⟨rfl,(cq B2)⟩)):aD:=h
def Pw(q:bq) (h:cj bq->aD:=by
 intro zq;have rz:=R3.fz;have r0:W.cell? (aP w.heap.size)=some (an ⟨#[]⟩):=R3.cell rfl;have r1:W.cell? (aC w.heap.size 1)=some (an ⟨#[]⟩):=R3.cell rfl;have r2:W.cell? (aC w.heap.size 2)=some (an ⟨#[]⟩):=R3.cell rfl;have s0:W.cell? (aP (w2.heap.size+1))=some (an a):=S3.cell rfl
 revert rz r0 r1 r2 s0
 exact zq.1):aD:=h ⟨q⟩
def Px(q:bq) (h:cj bq->aD:=by
 intro zq;have s2:W.cell? (aC (w2.heap.size+1) 2)=some (an rel):=S3.cell rfl;have t0:W.cell? (aP w2.heap.size)=some (an a):=T3.cell rfl
 revert s2 t0
 exact zq.1):aD:=h ⟨q⟩
def dL:ae:=⟨#[42]⟩
def kq(h rel:ae)(A:Bool):Bool:=if A then bT h&&bC rel else bT h||(eqs (aG h 58).2.1 dL&&bC (aG h 58).1)
def uu(Z:GZ)(s:ae)(w:af)(hs:s.size<=1000)(J:ko w)(Q:1<w.heap.size):
  Calls prog 102 #[an s] w fun e w'=>e=bi (.tuple #[.agg #[an (aG (aG s 35).1 58).1,an (aG (aG s 35).1 58).2.1,an (aG s 35).2.1],.bool (kq (aG s 35).1 (aG s 35).2.1 (aG s 35).2.2)])/\am w w':=by
 have z:=eo s 35;have I:am w (w.alloc Bq):=(az _ w).alloc aH _;have V:=Z s 35 _ hs (J.below I Q);have ag:=aL.new w #[an ⟨#[]⟩,an ⟨#[]⟩,an ⟨#[]⟩] 102;generalize aG s 35=X at*;obtain ⟨C,rel,al⟩:=X;simp only at z V ⊢;have ap:=eo C 58;have au:=fun w=>im rel w fK
 have Y:=fun w J Q=>fC Z C w ai J Q
 obtain ⟨R,hR⟩:∃R,R=kq C rel al:=⟨_,rfl⟩;rw [<-hR];unfold kq at hR;generalize bT C=ok at*;generalize aG C 58=av at*;obtain ⟨a,b,two⟩:=av;simp only at ap Y hR ⊢;have ar:=fun w=>im a w fK
 generalize bC a=ay at*;generalize bC rel=fr at*;have ak:eqs b dL=(b.toList== [42]):=by unfold eqs dL;rw [aT];rfl
 rw [ak] at hR;have D:=aj hR;clear z ap hs ak hR Z;go_enter func102,ntmps102;go_wp2_with fail;refine V.mono ?_;rintro e w1 ⟨rfl,ab⟩;have B1:=I.trans (ab.mono I.size);have ah:=ag.below ab;have ad:=Y w1 (J.below B1 Q) Pu;clear ab V I ag Y;go_wp2_with fail;refine ad.mono ?_;rintro e w2 ⟨rfl,ac⟩;have B2:=B1.trans (ac.mono B1.size);have R2:=ah.below ac;clear ac ad B1 ah;have rz:=R2.fz;have r0:w2.cell? (aP w.heap.size)=some (an ⟨#[]⟩):=R2.cell rfl;have r1:w2.cell? (aC w.heap.size 1)=some (an ⟨#[]⟩):=R2.cell rfl;have r2:w2.cell? (aC w.heap.size 2)=some (an ⟨#[]⟩):=R2.cell rfl;have rl:=R2.lt;have aA:¬(w.heap.size=w2.heap.size):=ai;have aB:¬(w.heap.size=w2.heap.size+1):=ai
 cases al
 ·have hR:=D.u;simp only [bJ,aZ] at hR
  cases ok
  ·rw [vw] at hR
   cases A:(b.toList== [42])
   ·rw [A,eM] at hR;subst hR;clear D;exact Pv
   rw [A,fT] at hR;subst hR;clear D;obtain rfl:b=⟨#[42]⟩:=by
    rw [aT,dS] at A;rw [<-cW b,A]
    rfl
   clear A;go_wp2_with fail;have S3:=(show aL ((w2.alloc (nH a)).alloc (vW a rel)) (w2.heap.size+1) #[an a,an ⟨#[42]⟩,an rel] 102 from by
    have:=aL.new (w2.alloc (nH a)) #[an a,an ⟨#[42]⟩,an rel] 102;rw [show (w2.alloc (nH a)).heap.size=w2.heap.size+1 by simp] at this;exact this)
   have T3:=(aL.new w2 #[an a,an ⟨#[42]⟩] 98).alloc (vW a rel);have R3:=(R2.alloc (nH a)).alloc (vW a rel);have U:=(B2.alloc B2.size (nH a)).alloc JT (vW a rel);generalize ((w2.alloc (nH a)).alloc (vW a rel))=W at*;refine Pw ?_;intro rz r0 r1 r2 s0;have aw:W.cell? (aC (w2.heap.size+1) 1)=some (an ⟨#[42]⟩):=S3.cell rfl;refine Px ?_;intro s2 t0;have t1:W.cell? (aC w2.heap.size 1)=some (an ⟨#[42]⟩):=T3.cell rfl
   go_region_held3 (fun w'=>w'.cell? (aP (w2.heap.size+1))=some (an a)/\w'.cell? (aC (w2.heap.size+1) 1)=some (an ⟨#[42]⟩)/\w'.cell? (aC (w2.heap.size+1) 2)=some (an rel)/\w'.cell? (aP w2.heap.size)=some (an a)/\w'.cell? (aC w2.heap.size 1)=some (an ⟨#[42]⟩)) (go_keep)
    ((go_at_call 93;refine (ar _).mono ?_;rintro e ax ⟨rfl,rfl⟩))
   go_wp2;refine bE (v:=.tuple #[.agg #[an a,an ⟨#[42]⟩,an rel],.bool _]) (ce results102 _ _ w.heap.size _ 102 _ _ rfl rfl ?_ underlying102 rfl aM) rfl ?_
   ·exact ⟨_,(cY R3),bQ⟩
   exact ⟨rfl,(cq U)⟩
  rw [Bool.true_or] at hR;exact Xz
 ·have hR:=D.u;simp only [if_true] at hR
  cases ok
  ·rw [eM] at hR;exact Xz
  rw [fT] at hR;subst hR;go_wp2_with fail;have S3:=(show aL ((w2.alloc (dK a b)).alloc (cf a b rel)) (w2.heap.size+1) #[an a,an b,an rel] 102 from by
   have:=aL.new (w2.alloc (dK a b)) #[an a,an b,an rel] 102;rw [show (w2.alloc (dK a b)).heap.size=w2.heap.size+1 by simp] at this;exact this)
  have T3:=(aL.new w2 #[an a,an b] 98).alloc (cf a b rel);have R3:=(R2.alloc (dK a b)).alloc (cf a b rel);have U:=(B2.alloc B2.size (dK a b)).alloc JT (cf a b rel);generalize ((w2.alloc (dK a b)).alloc (cf a b rel))=W at*;refine Pw ?_;intro rz r0 r1 r2 s0;have aw:W.cell? (aC (w2.heap.size+1) 1)=some (an b):=S3.cell rfl;refine Px ?_;intro s2 t0;have t1:W.cell? (aC w2.heap.size 1)=some (an b):=T3.cell rfl
  go_region_held3 (fun w'=>w'.cell? (aP (w2.heap.size+1))=some (an a)/\w'.cell? (aC (w2.heap.size+1) 1)=some (an b)/\w'.cell? (aC (w2.heap.size+1) 2)=some (an rel)/\w'.cell? (aP w2.heap.size)=some (an a)/\w'.cell? (aC w2.heap.size 1)=some (an b)) (go_keep)
   ((go_at_call 93;refine (au _).mono ?_;rintro e ax ⟨rfl,rfl⟩))
  go_wp2;refine bE (v:=.tuple #[.agg #[an a,an b,an rel],.bool _]) (ce results102 _ _ w.heap.size _ 102 _ _ rfl rfl ?_ underlying102 rfl aM) rfl ?_
  ·exact ⟨_,(cY R3),bQ⟩
  exact ⟨rfl,(cq U)⟩
def MW:GZ:=by
 intro s c w hs ⟨m,A⟩;refine (Any.strings_Cut Tryz.lays145 s (mk [c]) m w ai A).mono ?_;rintro e w' ⟨rfl,n,rfl⟩;refine ⟨?_,⟨rfl,rfl,rfl,bV _,fun _ _=>rfl⟩⟩;have e:=J6 s.data.toList c;rw [show (mk [c]).data.toList=[c] from by simp [mk],e]
 rfl
