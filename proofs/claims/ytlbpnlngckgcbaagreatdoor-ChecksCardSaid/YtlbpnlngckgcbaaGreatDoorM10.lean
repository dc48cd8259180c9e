import Derived.Test.YtlbpnlngckgcbaaGreatDoorM06
import Derived.Lib.IndexMore
import Derived.BigRegion
import Derived.Test.YtlbpnlngckgcbaaGreatDoorM02
set_option linter.all false
set_option maxHeartbeats 4000000
set_option maxRecDepth 100000
namespace Go.Proofs.YtlbpnlngckgcbaaGreatDoor
open Go.RowKit Go.PlainAid Go.Proofs.Tryz
variable {aF cD:Prop} {s:ae} {k B:Nat} {w w':af}
abbrev lj:=@List.length_cons
abbrev hA:=@Prod.mk.injEq
abbrev cz:=@true_and
abbrev cN:=@below_drewN
def Jj (A:aF:=by
 rw [bf];omega):aF:=A
def aC(s:ae)(c:UInt8):ae×ae×Bool:=(mk ((bW s).takeWhile (· != c)),mk (((bW s).dropWhile (· != c)).drop 1),(bW s).contains c)
theorem hD{α:Type}(p:α->Bool):∀(l:List α),l.takeWhile p=l.take (l.takeWhile p).length
 | []=>rfl
 |x::l=>by
  rw [ig]
  split
  ·rw [lj,List.take_succ_cons,<-hD p l]
  rfl
theorem hI{α:Type}(p:α->Bool):∀(l:List α),l.dropWhile p=l.drop (l.takeWhile p).length
 | []=>rfl
 |x::l=>by
  rw [ig,List.dropWhile_cons]
  split
  ·rw [lj,pS,<-hI p l]
  rfl
theorem Q7{c}(O:k<(bW s).length)(I:∀j,(D:j<k)->(J:j<(bW s).length)->((bW s)[j] != c)=true)(C:(bW s)[k]=c):aC s c=(s.extract 0 k,s.extract (k+1) s.size,true):=by
 have e:=gy (· != c) (bW s) k I aj (fun D=>by simp [C]);unfold aC;rw [hD,hI,e,extract_mk,extract_mk];simp only [mm,Nat.sub_zero,mo,hA,cz];refine ⟨?_,?_⟩
 ·rw [eh (by simp [bf])]
 rw [List.contains_iff_mem,<-C];exact bu _
theorem Jk{c}(I:∀j,(C:j<s.size)->(J:j<(bW s).length)->((bW s)[j] != c)=true):aC s c=(s,em,false):=by
 have e:=gy (· != c) (bW s) s.size I Jj (fun C=>by rw [bf] at C;omega);unfold aC;rw [hD,hI,e,eh Jj,eK (i:=s.size) (l:=bW s) Jj,gh];simp only [List.drop_nil,hA,cz];refine ⟨rfl,?_⟩;rw [Bool.eq_false_iff];intro C;rw [List.contains_iff_mem] at C;obtain ⟨j,D,e⟩:=dn C;have:=I j (by rw [bf] at D;exact D) D;simp [e] at this
theorem my(s c ci)(Y:ci=(c.toNat:Int))(w)(hs:s.size<=maxLen):
  Calls prog 141 #[.string s,.int .u8 ci] w fun e w'=>e=.returned (.tuple #[.string (aC s c).1,.string (aC s c).2.1,.bool (aC s c).2.2])/\Below w.heap.size w w':=by
 unfold maxLen at hs;have af:=get_bt s;generalize V:aC s c=ab;obtain ⟨x,y,f⟩:=ab;have U:=ai V;have R:=ai Y;clear V Y;go_enter func141,ntmps141;go_wp2_with fail
 go_loop [7] (fun u=>∃k:Nat,k<=s.size/\u=.int .i64 k/\Hid (∀j,(I:j<k)->(Q:j<(bW s).length)->((bW s)[j] != c)=true)) (fun u=>s.size-(intOf u).toNat)
 case atStart=>exact ⟨0,aj,rfl,ai (fun j I=>aj)⟩
 case round=>
  obtain ⟨k,ag,rfl,O⟩:=hrel
  by_cases ad:k<s.size
  ·have ac:(k:Int)<(s.size:Int):=by omega
   have hl:k<(bW s).length:=by rw [bf];exact ad
   have J:=sj s k hl
   by_cases D:(bW s)[k]=c
   ·have ae:(bt s k==ci)=true:=by rw [J,D,R.u];simp
    have C:=Q7 hl (ak O) D;rw [U.u] at C;simp only [hA] at C;obtain ⟨rfl,rfl,rfl⟩:=C;clear J D;go_wp2
    go_quiet (fail)
    go_wp2;go_ret3;exact ⟨rfl,cN ba _⟩
   have ae:(bt s k==ci)=false:=by
    rw [J,R.u,bG];intro I;exact D (UInt8.toNat_inj.1 aj)
   have Z:=ai (show ∀j,(I:j<k+1)->(Q:j<(bW s).length)->((bW s)[j] != c)=true from fun j I Q=>by
    by_cases e:j=k
    ·subst e;simpa using D
    exact ak O j aj Q)
   clear J D;go_wp2
   go_round
   case rel=>exact ⟨k+1,aj,by go_num,Z⟩
   case measure=>simp [intOf];omega
  have ac:¬((k:Int)<(s.size:Int)):=aj;obtain rfl:k=s.size:=aj;have C:=Jk (ak O);rw [U.u] at C;simp only [hA] at C;obtain ⟨rfl,rfl,rfl⟩:=C;go_wp2;go_ret3;exact ⟨rfl,aw _ _⟩
abbrev fE:=@Bool.true_and
abbrev mz:=@Bool.eq_iff_iff
abbrev xm:=@Bool.and_eq_false_iff
abbrev sT:=@Bool.false_or
abbrev mA:=@decide_eq_true_eq
def Jl (A:aF:=by
 go_wp2_with (first|(go_at_call 185;refine (eV _ _).mono ?_;rintro e w' ⟨rfl,rfl⟩)|(go_at_call 186;refine (fD _ _).mono ?_;rintro e w' ⟨rfl,rfl⟩));go_ret;exact ⟨rfl,rfl⟩):aF:=A
def Jm (A:aF:=by
 rw [e];go_enter func195,ntmps195;go_wp2;go_ret;exact ⟨rfl,rfl⟩):aF:=A
def bp(s:ae):Bool:=decide (0<s.size)&&decide (s.size<=8)&&(jY (bW s)==s.size)
theorem gB(s w)(hs:s.size<=maxLen):
  Calls prog 93 #[.string s] w fun e w'=>e=.returned (.bool (bp s))/\w'=w:=by
 unfold bp;have C:=ai (mi s w hs);unfold maxLen at hs
 by_cases h0:0<s.size
 ·by_cases I:s.size<=8
  ·have D:(0:Int)<(s.size:Int):=by omega
   have J:(s.size:Int)<=8:=aj;rw [ml h0,ml I,fE,fE];generalize O:jY (bW s)=z at*;have e:(z==s.size)=(((z:Int))==((s.size:Int))):=by
    rw [mz,dL,dL];omega
   have E:=ai e;clear e O;go_enter func93,ntmps93;go_wp2_with (go_at_call 144;refine C.u.mono ?_;rintro e w' ⟨rfl,rfl⟩);go_ret;exact ⟨by rw [E.u];rfl,rfl⟩
  have J:¬((s.size:Int)<=8):=aj;have D:(0:Int)<(s.size:Int):=aj;rw [k5 I,nZ,dR];go_enter func93,ntmps93;go_wp2;go_ret;exact ⟨rfl,rfl⟩
 ·have D:¬((0:Int)<(s.size:Int)):=by omega
  rw [k5 h0,dR,dR];go_enter func93,ntmps93;go_wp2;go_ret;exact ⟨rfl,rfl⟩
theorem Jn(h0:0<s.size)(D:s.size<=8)(C:∀j,j<s.size->(letter (bt s j)||(digit (bt s j)&&decide (0<j)))=true):bp s=true:=by
 have e:=oY s s.size h0 (by have:=C 0 h0;simpa using this) aj aj (fun j h1 h2=>by have:=C j h2;revert this;cases letter (bt s j)<;>cases digit (bt s j)<;>simp) (fun C=>aj);unfold bp;simp [h0,D,e]
theorem Jo(I:k<s.size)(D:∀j,j<k->(letter (bt s j)||(digit (bt s j)&&decide (0<j)))=true)(C:(letter (bt s k)||(digit (bt s k)&&decide (0<k)))=false):bp s=false:=by
 unfold bp
 by_cases h0:k=0
 ·subst h0;rw [sl s I (by simpa using C)];have:(0==s.size)=false:=by rw [bG];omega
  rw [this,nZ]
 have e:=oY s k aj (by have:=D 0 aj;simpa using this) aj aj (fun j h1 h2=>by have:=D j h2;revert this;cases letter (bt s j)<;>cases digit (bt s j)<;>simp) (fun _=>by rw [ml aj,pU] at C;exact C);have:(k==s.size)=false:=by rw [bG];omega
 rw [e,this,nZ]
theorem io(s w):Calls prog 195 #[.string s] w fun e w'=>e=.returned (.bool (bp s))/\w'=w:=by
 by_cases h0:0<s.size
 ·by_cases Q:s.size<=8
  ·have O:¬((s.size:Int)<1):=by omega
   have Y:¬((8:Int)<(s.size:Int)):=aj;have ag:=get_bt s;generalize R:bp s=af;have J:=ai R;clear R;go_enter func195,ntmps195;go_wp2_with fail
   go_loop [3] (fun u=>∃k:Nat,k<=s.size/\u=.int .i64 k/\Hid (∀j,j<k->(letter (bt s j)||(digit (bt s j)&&decide (0<j)))=true)) (fun u=>s.size-(intOf u).toNat)
   case atStart=>exact ⟨0,aj,rfl,ai (fun j V=>aj)⟩
   case round=>
    obtain ⟨k,ah,rfl,D⟩:=hrel
    by_cases ad:k<s.size
    ·have ac:(k:Int)<(s.size:Int):=by omega
     cases hv:(letter (bt s k)||(digit (bt s k)&&decide (0<k)))
     ·have hF:=Jo ad (ak D) hv;rw [J.u] at hF;subst hF;simp only [Bool.or_eq_false_iff,xm,decide_eq_false_iff_not] at hv;obtain ⟨ae,C⟩:=hv
      cases Z:digit (bt s k)
      ·clear C;exact Jl
      have U:k=0:=by
       rcases C with v|v
       ·rw [Z] at v;cases v
       omega
      have ab:((k:Int)==0)=true:=by rw [U];rfl
      clear C U;exact Jl
     have I:=ai (show ∀j,j<k+1->(letter (bt s j)||(digit (bt s j)&&decide (0<j)))=true from fun j V=>by
      by_cases e:j=k
      ·subst e;exact hv
      exact ak D j aj)
     cases hl:letter (bt s k)
     ·rw [hl,sT,bO,mA] at hv;obtain ⟨ae,C⟩:=hv;have ab:((k:Int)==0)=false:=by rw [bG];omega
      go_wp2_with (first|(go_at_call 185;refine (eV _ _).mono ?_;rintro e w' ⟨rfl,rfl⟩)|(go_at_call 186;refine (fD _ _).mono ?_;rintro e w' ⟨rfl,rfl⟩))
      go_round
      case rel=>exact ⟨k+1,aj,by go_num,I⟩
      case measure=>simp [intOf];omega
     clear hv;go_wp2_with (first|(go_at_call 185;refine (eV _ _).mono ?_;rintro e w' ⟨rfl,rfl⟩)|(go_at_call 186;refine (fD _ _).mono ?_;rintro e w' ⟨rfl,rfl⟩))
     go_round
     case rel=>exact ⟨k+1,aj,by go_num,I⟩
     case measure=>simp [intOf];omega
    have ac:¬((k:Int)<(s.size:Int)):=aj;obtain rfl:k=s.size:=aj;have hF:=Jn h0 Q (ak D);rw [J.u] at hF;subst hF;go_wp2;go_ret;exact ⟨rfl,rfl⟩
  have Y:(8:Int)<(s.size:Int):=aj;have O:¬((s.size:Int)<1):=aj;have e:bp s=false:=by unfold bp;rw [k5 Q];simp
  exact Jm
 have O:(s.size:Int)<1:=aj;have e:bp s=false:=by unfold bp;rw [k5 h0];simp
 exact Jm
theorem eb(s c):(aC s c).1.size<=s.size/\(aC s c).2.1.size<=s.size:=by
 unfold aC;simp only [Es];have h1:((bW s).takeWhile (· != c)).length<=(bW s).length:=(List.takeWhile_prefix _).length_le;have h2:((bW s).dropWhile (· != c)).length<=(bW s).length:=(List.dropWhile_suffix _).length_le;rw [bf] at h1 h2;simp only [nY];omega
def cJ(s:ae):ae×ae×Bool:=((aC s 58).1,(aC s 58).2.1,(aC s 58).2.2&&bp (aC s 58).1&&bp (aC s 58).2.1)
theorem lk(s w)(hs:s.size<=maxLen):
  Calls prog 136 #[.string s] w fun e w'=>e=.returned (.tuple #[.string (cJ s).1,.string (cJ s).2.1,.bool (cJ s).2.2])/\Below w.heap.size w w':=by
 unfold cJ;have A:=ai (my s 58 58 rfl w hs);generalize aC s 58=X at*;obtain ⟨a,b,ok⟩:=X;have C:=ai (fun w=>io a w);have D:=ai (fun w=>io b w);simp only at A C D ⊢;generalize bp a=p at*;generalize bp b=q at*;go_enter func136,ntmps136;go_wp2_with fail;refine (ak A).mono ?_;rintro e w1 ⟨rfl,I⟩;have h:=ai I;clear I A;go_wp2_with fail;refine (ak C _).mono ?_;rintro e J ⟨rfl,rfl⟩;go_wp2_with fail;refine (ak D _).mono ?_;rintro e O ⟨rfl,rfl⟩
 cases ok
 ·go_wp2;go_ret3;exact ⟨rfl,h.u⟩
 ·cases p
  ·go_wp2;go_ret3;exact ⟨rfl,h.u⟩
  go_wp2;go_ret3;exact ⟨rfl,h.u⟩
structure Tu where
 kind:ae
 id:ae
 rel:ae
 sub:ae
 who:ae
 of:ae
def Tu.cells(t:Tu)(s:ae):Array ag:=#[.string t.kind,.string t.id,.string t.rel,.string t.sub,.string t.who,.string t.of,.string s]
def jg:ae:=⟨#[42]⟩
def mB(who:ae)(all:Bool):ae×ae×Bool:=
 if !(cJ who).2.2&& !all then ((aC who 58).1,jg,(aC who 58).2.2&&bp (aC who 58).1&&eqs (aC who 58).2.1 jg) else cJ who
def bU(s:ae):Tu×Bool:=
 (⟨(cJ (aC (aC s 64).1 35).1).1,(cJ (aC (aC s 64).1 35).1).2.1,(aC (aC s 64).1 35).2.1,(mB (aC (aC s 64).2.1 35).1 (aC (aC s 64).2.1 35).2.2).1,(mB (aC (aC s 64).2.1 35).1 (aC (aC s 64).2.1 35).2.2).2.1,(aC (aC s 64).2.1 35).2.1⟩,
  (aC s 64).2.2&&(aC (aC s 64).1 35).2.2&&(cJ (aC (aC s 64).1 35).1).2.2&&bp (aC (aC s 64).1 35).2.1&&(mB (aC (aC s 64).2.1 35).1 (aC (aC s 64).2.1 35).2.2).2.2&&(!(aC (aC s 64).2.1 35).2.2||bp (aC (aC s 64).2.1 35).2.1))
abbrev jF:=@Int.toNat_natCast
theorem index_one(c):∀l:List UInt8,Lib.index l [c]=if l.contains c then ((l.takeWhile (· != c)).length:Int) else-1
 | []=>rfl
 |b::l=>by
  have I:=index_one c l;rw [Lib.index]
  by_cases C:b=c
  ·subst C;simp
  have h1:(c==b)=false:=by rw [bG];exact fun e=>C e.symm
  have h2:(b != c)=true:=by simpa using C
  have e:((b::l).contains c)=l.contains c:=by rw [List.contains_cons,h1,sT]
  rw [e,ig,if_pos h2,lj,I];have D:([c].isPrefixOf (b::l))=false:=by rw [List.isPrefixOf,h1,dR]
  rw [D]
  cases l.contains c
  ·simp
  simp only [if_true,bz,aP];rw [if_neg an];omega
theorem jG(c):∀l:List UInt8,l.contains c=false->l.takeWhile (· != c)=l/\l.dropWhile (· != c)=[]
 | [],_=>⟨rfl,rfl⟩
 |b::l,h=>by
  rw [List.contains_cons,Bool.or_eq_false_iff] at h;have A:=jG c l h.2;have h2:(b != c)=true:=by
   have:=h.1;rw [bG] at this
   simpa using fun e=>this e.symm
  rw [ig,List.dropWhile_cons,if_pos h2,if_pos h2,A.1];exact ⟨rfl,A.2⟩
theorem EP(l c):Lib.cut l [c]=(l.takeWhile (· != c),(l.dropWhile (· != c)).drop 1,l.contains c):=by
 unfold Lib.cut;rw [index_one]
 cases C:l.contains c
 ·obtain ⟨h1,h2⟩:=jG c l C;simp [h1,h2]
 simp only [if_true];rw [if_pos aj,jF,<-hD,hI,mo]
 rfl
abbrev Cv:Obj:=.cells #[.string ⟨#[]⟩,.string ⟨#[]⟩] 98
def P7 (D:aF:=by
 go_wp2_with fail;refine (Cq.u _).mono ?_;rintro e I ⟨rfl,rfl⟩;exact JX):aF:=D
def JY (D:aF:=by
 exact JX):aF:=D
def JX (C:aF:=by
 go_wp2;refine bc (v:=.tuple #[.agg #[.string a,.string b],.bool _]) (bC results55 _ _ w.heap.size _ 98 _ _ rfl rfl ?hB2 underlying98 rfl au) rfl ?post2
 case hB2=>exact ⟨_,(b4 R1),aS⟩
 case post2=>exact ⟨rfl,(bB B1)⟩):aF:=C
def kO(w:af):Prop:=∃m,w.cell? ⟨1,0,none⟩=some (.int .i64 m)
theorem kO.below(h:kO w)(k:Below B w w')(A:1<B):kO w':=by
 obtain ⟨m,C⟩:=h;exact ⟨m,(iV (w:=w) (k.block 1 A)).trans C⟩
def Cw:Prop:=∀(s:ae)(c:UInt8)(w:af),s.size<=1000->kO w->Calls prog 92 #[.string s,.string (mk [c])] w fun e w'=>e=.returned (.tuple #[.string (aC s c).1,.string (aC s c).2.1,.bool (aC s c).2.2])/\Below w.heap.size w w'
def bQ(s:ae):Bool:=bp (aC s 58).1&&bp (aC s 58).2.1
theorem et(ab:Cw)(s:ae)(w:af)(hs:s.size<=1000)(V:kO w)(Y:1<w.heap.size):
  Calls prog 55 #[.string s] w fun e w'=>e=.returned (.tuple #[.agg #[.string (aC s 58).1,.string (aC s 58).2.1],.bool (bQ s)])/\Below w.heap.size w w':=by
 unfold bQ;have z:=eb s 58;have Q:Below w.heap.size w (w.alloc Cv):=(aw _ w).alloc az _;have O:=ai (ab s 58 _ hs (V.below Q Y));have J:=ai Q;have U:=ai (aB.new w #[.string ⟨#[]⟩,.string ⟨#[]⟩] 98);generalize aC s 58=X at*;obtain ⟨a,b,ok⟩:=X;simp only at z O ⊢;have Z:=ai (fun w=>gB a w ey);have Cq:=ai (fun w=>gB b w ey);generalize bp a=p at*;generalize bp b=q at*;clear z Q V Y hs;go_enter func55,ntmps55;go_wp2_with fail;refine (ak O).mono ?_;rintro e w1 ⟨rfl,R⟩;have B1:=ai (J.u.trans (R.mono J.u.size));have R1:=ai (U.u.below R);clear R O J U;have ae:=R1.u.fz;have ac:w1.cell? ⟨w.heap.size,0,none⟩=some (.string ⟨#[]⟩):=R1.u.cell rfl;have ad:w1.cell? ⟨w.heap.size,1,none⟩=some (.string ⟨#[]⟩):=R1.u.cell rfl;go_wp2_with fail;refine (Z.u _).mono ?_;rintro e af ⟨rfl,rfl⟩
 cases p
 ·skip
  exact JY
 ·exact P7
abbrev tf:Obj:=.cells #[.string ⟨#[]⟩,.string ⟨#[]⟩,.string ⟨#[]⟩] 102
abbrev qe(a0:ae):Obj:=.cells #[.string a0,.string ⟨#[42]⟩] 98
abbrev tg(a0:ae)(a1:ae):Obj:=.cells #[.string a0,.string ⟨#[42]⟩,.string a1] 102
abbrev df(a0:ae)(a1:ae):Obj:=.cells #[.string a0,.string a1] 98
abbrev b8(a0:ae)(a1:ae)(a2:ae):Obj:=.cells #[.string a0,.string a1,.string a2] 102
def JZ (A:aF:=by
 have:=B1.u.size;omega):aF:=A
def J0 (C:aF:=by
 subst hR;clear HR;go_wp2_with fail
 go_region
 all_goals (
  go_wp2;refine bc (v:=.tuple #[.agg #[.string a,.string b,.string rel],.bool _]) (bC results102 _ _ w.heap.size _ 102 _ _ rfl rfl ?_ underlying102 rfl au) rfl ?_
  ·exact ⟨_,(b4 R2),aS⟩
  ·exact ⟨rfl,(bB B2)⟩)):aF:=C
def dh:ae:=⟨#[42]⟩
def jH(h rel:ae)(A:Bool):Bool:=if A then bQ h&&bp rel else bQ h||(eqs (aC h 58).2.1 dh&&bp (aC h 58).1)
theorem rJ(ah:Cw)(s:ae)(w:af)(hs:s.size<=1000)(O:kO w)(V:1<w.heap.size):
  Calls prog 102 #[.string s] w fun e w'=>e=.returned (.tuple #[.agg #[.string (aC (aC s 35).1 58).1,.string (aC (aC s 35).1 58).2.1,.string (aC s 35).2.1],.bool (jH (aC s 35).1 (aC s 35).2.1 (aC s 35).2.2)])/\Below w.heap.size w w':=by
 have z:=eb s 35;have U:Below w.heap.size w (w.alloc tf):=(aw _ w).alloc az _;have af:=ai (ah s 35 _ hs (O.below U V));have ad:=ai U;have ar:=ai (aB.new w #[.string ⟨#[]⟩,.string ⟨#[]⟩,.string ⟨#[]⟩] 102);have aG:=ai O;have aU:=U.size;generalize aC s 35=X at*;obtain ⟨R,rel,ay⟩:=X;simp only at z af ⊢;have aA:=eb R 58;have aE:=ai (fun w=>gB rel w ey);have ag:=ai (fun w O V=>et ah R w aj O V);obtain ⟨ap,hR⟩:∃ap,ap=jH R rel ay:=⟨_,rfl⟩;rw [<-hR];unfold jH at hR;generalize bQ R=ok at*;generalize aC R 58=aH at*;obtain ⟨a,b,two⟩:=aH;simp only at aA ag hR ⊢;have aD:=ai (fun w=>gB a w ey);generalize bp a=aM at*;generalize bp rel=fr at*;have ax:eqs b dh=(b.toList== [42]):=by unfold eqs dh;rw [aO];rfl
 rw [ax] at hR;have HR:=ai hR;clear z aA U O hs ax hR ah;go_enter func102,ntmps102;go_wp2_with fail;refine (ak af).mono ?_;rintro e w1 ⟨rfl,al⟩;have B1:=ai (ad.u.trans (al.mono ad.u.size));have av:=ai (ar.u.below al);have an:=ai (ak ag w1 (aG.u.below B1.u V) JZ);clear al af ad ar ag;go_wp2_with fail;refine an.u.mono ?_;rintro e D ⟨rfl,am⟩;have B2:=ai (B1.u.trans (am.mono B1.u.size));have R2:=ai (av.u.below am);clear am an B1 av;have ac:=R2.u.fz;have Y:D.cell? ⟨w.heap.size,0,none⟩=some (.string ⟨#[]⟩):=R2.u.cell rfl;have Z:D.cell? ⟨w.heap.size,1,none⟩=some (.string ⟨#[]⟩):=R2.u.cell rfl;have ab:D.cell? ⟨w.heap.size,2,none⟩=some (.string ⟨#[]⟩):=R2.u.cell rfl;have rl:=R2.u.lt;have aN:¬(D.heap.size=w.heap.size):=aj;have aQ:¬(w.heap.size=D.heap.size):=aj;have aR:¬(D.heap.size+1=w.heap.size):=aj;have aT:¬(w.heap.size=D.heap.size+1):=aj
 cases ay
 ·have hR:=HR.u;simp only [bz,aP] at hR
  cases ok
  ·rw [sT] at hR
   cases Q:(b.toList== [42])
   ·rw [Q,dR] at hR;exact J0
   rw [Q,fE] at hR;subst hR;clear HR;obtain rfl:b=⟨#[42]⟩:=by
    rw [aO,dL] at Q;rw [<-gh b,Q]
    rfl
   clear Q;go_wp2_with fail;have I:=ai (show aB ((D.alloc (qe a)).alloc (tg a rel)) (D.heap.size+1) #[.string a,.string ⟨#[42]⟩,.string rel] 102 from by
    have:=aB.new (D.alloc (qe a)) #[.string a,.string ⟨#[42]⟩,.string rel] 102;rw [show (D.alloc (qe a)).heap.size=D.heap.size+1 by simp] at this;exact this)
   have J:=ai ((aB.new D #[.string a,.string ⟨#[42]⟩] 98).alloc (tg a rel));have R3:=ai ((R2.u.alloc (qe a)).alloc (tg a rel));have ae:=ai ((B2.u.alloc B2.u.size (qe a)).alloc ED (tg a rel));generalize ((D.alloc (qe a)).alloc (tg a rel))=W at*;clear ac Y Z ab;have ac:=R3.u.fz;have Y:W.cell? ⟨w.heap.size,0,none⟩=some (.string ⟨#[]⟩):=R3.u.cell rfl;have Z:W.cell? ⟨w.heap.size,1,none⟩=some (.string ⟨#[]⟩):=R3.u.cell rfl;have ab:W.cell? ⟨w.heap.size,2,none⟩=some (.string ⟨#[]⟩):=R3.u.cell rfl;have aI:W.cell? ⟨D.heap.size+1,0,none⟩=some (.string a):=I.u.cell rfl;have aJ:W.cell? ⟨D.heap.size+1,1,none⟩=some (.string ⟨#[42]⟩):=I.u.cell rfl;have aK:W.cell? ⟨D.heap.size+1,2,none⟩=some (.string rel):=I.u.cell rfl;have t0:W.cell? ⟨D.heap.size,0,none⟩=some (.string a):=J.u.cell rfl;have t1:W.cell? ⟨D.heap.size,1,none⟩=some (.string ⟨#[42]⟩):=J.u.cell rfl
   go_region_held3 (fun w'=>w'.cell? ⟨D.heap.size+1,0,none⟩=some (.string a)/\w'.cell? ⟨D.heap.size+1,1,none⟩=some (.string ⟨#[42]⟩)/\w'.cell? ⟨D.heap.size+1,2,none⟩=some (.string rel)/\w'.cell? ⟨D.heap.size,0,none⟩=some (.string a)/\w'.cell? ⟨D.heap.size,1,none⟩=some (.string ⟨#[42]⟩)) (go_keep)
    ((go_at_call 93;refine (aD.u _).mono ?_;rintro e aL ⟨rfl,rfl⟩))
   go_wp2;refine bc (v:=.tuple #[.agg #[.string a,.string ⟨#[42]⟩,.string rel],.bool _]) (bC results102 _ _ w.heap.size _ 102 _ _ rfl rfl ?_ underlying102 rfl au) rfl ?_
   ·exact ⟨_,(b4 R3),aS⟩
   exact ⟨rfl,(bB ae)⟩
  rw [Bool.true_or] at hR;exact J0
 ·have hR:=HR.u;simp only [if_true] at hR
  cases ok
  ·rw [dR] at hR;exact J0
  rw [fE] at hR;subst hR;clear HR;go_wp2_with fail;have I:=ai (show aB ((D.alloc (df a b)).alloc (b8 a b rel)) (D.heap.size+1) #[.string a,.string b,.string rel] 102 from by
   have:=aB.new (D.alloc (df a b)) #[.string a,.string b,.string rel] 102;rw [show (D.alloc (df a b)).heap.size=D.heap.size+1 by simp] at this;exact this)
  have J:=ai ((aB.new D #[.string a,.string b] 98).alloc (b8 a b rel));have R3:=ai ((R2.u.alloc (df a b)).alloc (b8 a b rel));have ae:=ai ((B2.u.alloc B2.u.size (df a b)).alloc ED (b8 a b rel));generalize ((D.alloc (df a b)).alloc (b8 a b rel))=W at*;clear ac Y Z ab;have ac:=R3.u.fz;have Y:W.cell? ⟨w.heap.size,0,none⟩=some (.string ⟨#[]⟩):=R3.u.cell rfl;have Z:W.cell? ⟨w.heap.size,1,none⟩=some (.string ⟨#[]⟩):=R3.u.cell rfl;have ab:W.cell? ⟨w.heap.size,2,none⟩=some (.string ⟨#[]⟩):=R3.u.cell rfl;have aI:W.cell? ⟨D.heap.size+1,0,none⟩=some (.string a):=I.u.cell rfl;have aJ:W.cell? ⟨D.heap.size+1,1,none⟩=some (.string b):=I.u.cell rfl;have aK:W.cell? ⟨D.heap.size+1,2,none⟩=some (.string rel):=I.u.cell rfl;have t0:W.cell? ⟨D.heap.size,0,none⟩=some (.string a):=J.u.cell rfl;have t1:W.cell? ⟨D.heap.size,1,none⟩=some (.string b):=J.u.cell rfl
  go_region_held3 (fun w'=>w'.cell? ⟨D.heap.size+1,0,none⟩=some (.string a)/\w'.cell? ⟨D.heap.size+1,1,none⟩=some (.string b)/\w'.cell? ⟨D.heap.size+1,2,none⟩=some (.string rel)/\w'.cell? ⟨D.heap.size,0,none⟩=some (.string a)/\w'.cell? ⟨D.heap.size,1,none⟩=some (.string b)) (go_keep)
   ((go_at_call 93;refine (aE.u _).mono ?_;rintro e aL ⟨rfl,rfl⟩))
  go_wp2;refine bc (v:=.tuple #[.agg #[.string a,.string b,.string rel],.bool _]) (bC results102 _ _ w.heap.size _ 102 _ _ rfl rfl ?_ underlying102 rfl au) rfl ?_
  ·exact ⟨_,(b4 R3),aS⟩
  exact ⟨rfl,(bB ae)⟩
theorem Dy:Cw:=by
 intro s c w hs ⟨m,C⟩;refine (Any.strings_Cut Tryz.lays145 s (mk [c]) m w aj C).mono ?_;rintro e w' ⟨rfl,n,rfl⟩;refine ⟨?_,⟨rfl,rfl,rfl,cm _,fun _ _=>rfl⟩⟩;have e:=EP s.data.toList c;rw [show (mk [c]).data.toList=[c] from by simp [mk],e]
 rfl
