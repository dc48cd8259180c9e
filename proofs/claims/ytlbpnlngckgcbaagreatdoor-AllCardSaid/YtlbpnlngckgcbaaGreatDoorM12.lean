import Derived.Test.YtlbpnlngckgcbaaGreatDoorM08
import Derived.Lib.IndexMore
import Derived.BigRegion
import Derived.Test.YtlbpnlngckgcbaaGreatDoorM02
set_option linter.all false
set_option maxHeartbeats 4000000
set_option maxRecDepth 100000
namespace Go.Proofs.YtlbpnlngckgcbaaGreatDoor
open Go.RowKit Go.PlainAid Go.Proofs.Tryz
variable {aD br:Prop} {s:ae} {k B:Nat} {w w':af}
abbrev iK:=@List.length_cons
abbrev uR:=@List.dropWhile_cons
abbrev gW:=@Prod.mk.injEq
abbrev bY:=@true_and
abbrev Av:=@Bool.eq_false_iff
abbrev cJ:=@below_drewN
def Of (h:aD:=by
 rw [bk];omega):aD:=h
def aG(s:ae)(c:UInt8):ae×ae×Bool:=(mk ((bB s).takeWhile (· != c)),mk (((bB s).dropWhile (· != c)).drop 1),(bB s).contains c)
def fQ{α:Type}(p:α->Bool):∀(l:List α),l.takeWhile p=l.take (l.takeWhile p).length
 | []=>rfl
 |x::l=>by
  rw [iE]
  split
  ·rw [iK,List.take_succ_cons,<-fQ p l]
  rfl
def fR{α:Type}(p:α->Bool):∀(l:List α),l.dropWhile p=l.drop (l.takeWhile p).length
 | []=>rfl
 |x::l=>by
  rw [iE,uR]
  split
  ·rw [iK,ri,<-fR p l]
  rfl
def Yf{c}(I:k<(bB s).length)(C:∀j,(h:j<k)->(D:j<(bB s).length)->((bB s)[j] != c)=true)(A:(bB s)[k]=c):aG s c=(s.extract 0 k,s.extract (k+1) s.size,true):=by
 have e:=fC (· != c) (bB s) k C ai (fun h=>by simp [A]);unfold aG;rw [fQ,fR,e,extract_mk,extract_mk];simp only [m4,Nat.sub_zero,m5,gW,bY];refine ⟨?_,?_⟩
 ·rw [cY (by simp [bk])]
 rw [List.contains_iff_mem,<-A];exact bu _
def Og{c}(C:∀j,(h:j<s.size)->(D:j<(bB s).length)->((bB s)[j] != c)=true):aG s c=(s,em,false):=by
 have e:=fC (· != c) (bB s) s.size C Of (fun h=>by rw [bk] at h;omega);unfold aG;rw [fQ,fR,e,cY Of,eA (i:=s.size) (l:=bB s) Of,cX];simp only [List.drop_nil,gW,bY];refine ⟨rfl,?_⟩;rw [Av];intro h;rw [List.contains_iff_mem] at h;obtain ⟨j,A,e⟩:=dB h;have:=C j (by rw [bk] at A;exact A) A;simp [e] at this
def lu(s c ci)(V:ci=(c.toNat:Int))(w)(hs:s.size<=maxLen):
  Calls prog 141 #[aj s,.int .u8 ci] w fun e w'=>e=bj (.tuple #[aj (aG s c).1,aj (aG s c).2.1,.bool (aG s c).2.2])/\an w w':=by
 unfold maxLen at hs;have ab:=get_bt s;generalize J:aG s c=R;obtain ⟨x,y,f⟩:=R;go_enter func141,ntmps141;go_wp2_with fail
 go_loop [7] (fun u=>∃k:Nat,k<=s.size/\u=ar k/\(∀j,(h:j<k)->(D:j<(bB s).length)->((bB s)[j] != c)=true)) (fun u=>s.size-(intOf u).toNat)
 ·exact ⟨0,ai,rfl,(fun j h=>ai)⟩
 ·obtain ⟨k,ac,rfl,C⟩:=hrel
  by_cases Z:k<s.size
  ·have Y:(k:Int)<(s.size:Int):=by omega
   have hl:k<(bB s).length:=by rw [bk];exact Z
   have U:=ux s k hl
   by_cases I:(bB s)[k]=c
   ·simp;have A:=Yf hl C I;rw [J] at A;simp only [gW] at A;obtain ⟨rfl,rfl,rfl⟩:=A;go_wp2
    go_quiet (fail)
    go_wp2;go_ret3;exact ⟨rfl,cJ bp _⟩
   have ad:(bt s k==ci)=false:=by
    rw [U,V,bW];intro h;exact I (UInt8.toNat_inj.1 ai)
   have Q:=(show ∀j,(h:j<k+1)->(D:j<(bB s).length)->((bB s)[j] != c)=true from fun j h D=>by
    by_cases e:j=k
    ·subst e;simpa using I
    exact C j ai D)
   go_wp2
   go_round
   ·exact ⟨k+1,ai,by go_num,Q⟩
   simp [intOf];omega
  have Y:¬((k:Int)<(s.size:Int)):=ai;obtain rfl:k=s.size:=ai;have A:=Og C;rw [J] at A;simp only [gW] at A;obtain ⟨rfl,rfl,rfl⟩:=A;go_wp2;go_ret3;exact ⟨rfl,aA _ _⟩
abbrev fS:=@Bool.true_and
abbrev Aw:=@Bool.and_eq_false_iff
abbrev uS:=@Bool.false_or
def WV (h:aD:=by
 go_wp2_with (first|(go_at_call 185;refine (fe _ _).mono ?_;rintro e w' ⟨rfl,rfl⟩)|(go_at_call 186;refine (fP _ _).mono ?_;rintro e w' ⟨rfl,rfl⟩));go_ret;exact ⟨rfl,rfl⟩):aD:=h
def Oh (h:aD:=by
 rw [e];go_enter func195,ntmps195;go_wp2;go_ret;exact ⟨rfl,rfl⟩):aD:=h
def Gb (h:aD:=by
 rw [hR] at hF;subst hF;go_wp2;go_ret;exact ⟨rfl,rfl⟩):aD:=h
def bC(s:ae):Bool:=decide (0<s.size)&&decide (s.size<=8)&&(kH (bB s)==s.size)
def ig(s w)(hs:s.size<=maxLen):
  Calls prog 93 #[aj s] w fun e w'=>e=bj (.bool (bC s))/\w'=w:=by
 unfold bC;have C:=mZ s w hs;unfold maxLen at hs
 by_cases h0:0<s.size
 ·by_cases D:s.size<=8
  ·have A:(0:Int)<(s.size:Int):=by omega
   have I:(s.size:Int)<=8:=ai;rw [kR h0,kR D,fS,fS];generalize J:kH (bB s)=z at*;have e:(z==s.size)=(((z:Int))==((s.size:Int))):=by
    rw [gU,dQ,dQ];omega
   go_enter func93,ntmps93;go_wp2_with (go_at_call 144;refine C.mono ?_;rintro e w' ⟨rfl,rfl⟩);go_ret;exact ⟨by rw [e];rfl,rfl⟩
  have I:¬((s.size:Int)<=8):=ai;have A:(0:Int)<(s.size:Int):=ai;rw [lU D,pe,eK];go_enter func93,ntmps93;go_wp2;go_ret;exact ⟨rfl,rfl⟩
 ·have A:¬((0:Int)<(s.size:Int)):=by omega
  rw [lU h0,eK,eK];go_enter func93,ntmps93;go_wp2;go_ret;exact ⟨rfl,rfl⟩
def Oi(h0:0<s.size)(A:s.size<=8)(h:∀j,j<s.size->(letter (bt s j)||(digit (bt s j)&&decide (0<j)))=true):bC s=true:=by
 have e:=qe s s.size h0 (by have:=h 0 h0;simpa using this) ai ai (fun j h1 h2=>by have:=h j h2;revert this;cases letter (bt s j)<;>cases digit (bt s j)<;>simp) (fun h=>ai);unfold bC;simp [h0,A,e]
def Oj(C:k<s.size)(h:∀j,j<k->(letter (bt s j)||(digit (bt s j)&&decide (0<j)))=true)(A:(letter (bt s k)||(digit (bt s k)&&decide (0<k)))=false):bC s=false:=by
 unfold bC
 by_cases h0:k=0
 ·subst h0;rw [uy s C (by simpa using A)];have:(0==s.size)=false:=by rw [bW];omega
  rw [this,pe]
 have e:=qe s k ai (by have:=h 0 ai;simpa using this) ai ai (fun j h1 h2=>by have:=h j h2;revert this;cases letter (bt s j)<;>cases digit (bt s j)<;>simp) (fun _=>by rw [kR ai,Bool.and_true] at A;exact A);have:(k==s.size)=false:=by rw [bW];omega
 rw [e,this,pe]
def iL(s w):Calls prog 195 #[aj s] w fun e w'=>e=bj (.bool (bC s))/\w'=w:=by
 by_cases h0:0<s.size
 ·by_cases J:s.size<=8
  ·have I:¬((s.size:Int)<1):=by omega
   have U:¬((8:Int)<(s.size:Int)):=ai;have ac:=get_bt s;generalize hR:bC s=R;go_enter func195,ntmps195;go_wp2_with fail
   go_loop [3] (fun u=>∃k:Nat,k<=s.size/\u=ar k/\(∀j,j<k->(letter (bt s j)||(digit (bt s j)&&decide (0<j)))=true)) (fun u=>s.size-(intOf u).toNat)
   ·exact ⟨0,ai,rfl,(fun j h=>ai)⟩
   obtain ⟨k,ad,rfl,A⟩:=hrel
   by_cases ab:k<s.size
   ·have Z:(k:Int)<(s.size:Int):=by omega
    cases hv:(letter (bt s k)||(digit (bt s k)&&decide (0<k)))
    ·have hF:=Oj ab A hv;rw [hR] at hF;subst hF;simp only [Bool.or_eq_false_iff,Aw,decide_eq_false_iff_not] at hv;obtain ⟨v1,C⟩:=hv
     cases V:digit (bt s k)
     ·exact WV
     have Q:k=0:=by
      rcases C with v|v
      ·rw [V] at v;cases v
      omega
     have Y:((k:Int)==0)=true:=by rw [Q];rfl
     clear C Q;exact WV
    have D:=(show ∀j,j<k+1->(letter (bt s j)||(digit (bt s j)&&decide (0<j)))=true from fun j h=>by
     by_cases e:j=k
     ·subst e;exact hv
     exact A j ai)
    cases hl:letter (bt s k)
    ·rw [hl,uS,bP,fF] at hv;obtain ⟨v1,C⟩:=hv;have Y:((k:Int)==0)=false:=by rw [bW];omega
     go_wp2_with (first|(go_at_call 185;refine (fe _ _).mono ?_;rintro e w' ⟨rfl,rfl⟩)|(go_at_call 186;refine (fP _ _).mono ?_;rintro e w' ⟨rfl,rfl⟩))
     go_round
     ·exact ⟨k+1,ai,by go_num,D⟩
     simp [intOf];omega
    clear hv;go_wp2_with (first|(go_at_call 185;refine (fe _ _).mono ?_;rintro e w' ⟨rfl,rfl⟩)|(go_at_call 186;refine (fP _ _).mono ?_;rintro e w' ⟨rfl,rfl⟩))
    go_round
    ·exact ⟨k+1,ai,by go_num,D⟩
    simp [intOf];omega
   have Z:¬((k:Int)<(s.size:Int)):=ai;obtain rfl:k=s.size:=ai;have hF:=Oi h0 J A;exact Gb
  have U:(8:Int)<(s.size:Int):=ai;have I:¬((s.size:Int)<1):=ai;have e:bC s=false:=by unfold bC;rw [lU J];simp
  exact Oh
 have I:(s.size:Int)<1:=ai;have e:bC s=false:=by unfold bC;rw [lU h0];simp
 exact Oh
def ej(s c):(aG s c).1.size<=s.size/\(aG s c).2.1.size<=s.size:=by
 unfold aG;simp only [Jb];have h1:((bB s).takeWhile (· != c)).length<=(bB s).length:=(List.takeWhile_prefix _).length_le;have h2:((bB s).dropWhile (· != c)).length<=(bB s).length:=(List.dropWhile_suffix _).length_le;rw [bk] at h1 h2;simp only [m2];omega
def db(s:ae):ae×ae×Bool:=((aG s 58).1,(aG s 58).2.1,(aG s 58).2.2&&bC (aG s 58).1&&bC (aG s 58).2.1)
def l8(s w)(hs:s.size<=maxLen):
  Calls prog 136 #[aj s] w fun e w'=>e=bj (.tuple #[aj (db s).1,aj (db s).2.1,.bool (db s).2.2])/\an w w':=by
 unfold db;have A:=lu s 58 58 rfl w hs;generalize aG s 58=X at*;obtain ⟨a,b,ok⟩:=X;have C:=fun w=>iL a w
 have D:=fun w=>iL b w
 simp only at A C D ⊢;generalize bC a=p at*;generalize bC b=q at*;go_enter func136,ntmps136;go_wp2_with fail;refine A.mono ?_;rintro e w1 ⟨rfl,h⟩;go_wp2_with fail;refine (C _).mono ?_;rintro e I ⟨rfl,rfl⟩;go_wp2_with fail;refine (D _).mono ?_;rintro e J ⟨rfl,rfl⟩
 cases ok
 ·go_wp2;go_ret3;exact ⟨rfl,h⟩
 ·cases p
  ·go_wp2;go_ret3;exact ⟨rfl,h⟩
  go_wp2;go_ret3;exact ⟨rfl,h⟩
structure Tu where
 kind:ae
 id:ae
 rel:ae
 sub:ae
 who:ae
 of:ae
def Tu.cells(t:Tu)(s:ae):Array ag:=#[aj t.kind,aj t.id,aj t.rel,aj t.sub,aj t.who,aj t.of,aj s]
def jO:ae:=⟨#[42]⟩
def nj(who:ae)(all:Bool):ae×ae×Bool:=
 if !(db who).2.2&& !all then ((aG who 58).1,jO,(aG who 58).2.2&&bC (aG who 58).1&&eqs (aG who 58).2.1 jO) else db who
def b8(s:ae):Tu×Bool:=
 (⟨(db (aG (aG s 64).1 35).1).1,(db (aG (aG s 64).1 35).1).2.1,(aG (aG s 64).1 35).2.1,(nj (aG (aG s 64).2.1 35).1 (aG (aG s 64).2.1 35).2.2).1,(nj (aG (aG s 64).2.1 35).1 (aG (aG s 64).2.1 35).2.2).2.1,(aG (aG s 64).2.1 35).2.1⟩,
  (aG s 64).2.2&&(aG (aG s 64).1 35).2.2&&(db (aG (aG s 64).1 35).1).2.2&&bC (aG (aG s 64).1 35).2.1&&(nj (aG (aG s 64).2.1 35).1 (aG (aG s 64).2.1 35).2.2).2.2&&(!(aG (aG s 64).2.1 35).2.2||bC (aG (aG s 64).2.1 35).2.1))
abbrev kh:=@Int.toNat_natCast
def index_one(c):∀l:List UInt8,Lib.index l [c]=if l.contains c then ((l.takeWhile (· != c)).length:Int) else-1
 | []=>rfl
 |b::l=>by
  have C:=index_one c l;rw [Lib.index]
  by_cases h:b=c
  ·subst h;simp
  have h1:(c==b)=false:=by rw [bW];exact fun e=>h e.symm
  have h2:(b != c)=true:=by simpa using h
  have e:((b::l).contains c)=l.contains c:=by rw [List.contains_cons,h1,uS]
  rw [e,iE,if_pos h2,iK,C];have A:([c].isPrefixOf (b::l))=false:=by rw [List.isPrefixOf,h1,eK]
  rw [A]
  cases l.contains c
  ·simp
  simp only [if_true,bJ,a8];rw [if_neg au];omega
def ki(c):∀l:List UInt8,l.contains c=false->l.takeWhile (· != c)=l/\l.dropWhile (· != c)=[]
 | [],_=>⟨rfl,rfl⟩
 |b::l,h=>by
  rw [List.contains_cons,Bool.or_eq_false_iff] at h;have A:=ki c l h.2;have h2:(b != c)=true:=by
   have:=h.1;rw [bW] at this
   simpa using fun e=>this e.symm
  rw [iE,uR,if_pos h2,if_pos h2,A.1];exact ⟨rfl,A.2⟩
def JB(l c):Lib.cut l [c]=(l.takeWhile (· != c),(l.dropWhile (· != c)).drop 1,l.contains c):=by
 unfold Lib.cut;rw [index_one]
 cases h:l.contains c
 ·obtain ⟨h1,h2⟩:=ki c l h;simp [h1,h2]
 simp only [if_true];rw [if_pos ai,kh,<-fQ,fR,m5]
 rfl
def W4 (h:aD:=by
 go_wp2_with fail;refine (Cq _).mono ?_;rintro e A ⟨rfl,rfl⟩;exact OW):aD:=h
def W5 (h:aD:=by
 exact OW):aD:=h
def OW (h:aD:=by
 go_wp2;refine bF (v:=.tuple #[.agg #[aj a,aj b],.bool _]) (cf results55 _ _ w.heap.size _ 98 _ _ rfl rfl ?hB2 underlying98 rfl aM) rfl ?NP
 case hB2=>exact ⟨_,(cZ R1),bL⟩
 case NP=>exact ⟨rfl,(cq B1)⟩):aD:=h
def kj(w:af):Prop:=∃m,w.cell? (aN 1)=some (ar m)
def kj.below(h:kj w)(k:Below B w w')(A:1<B):kj w':=by
 obtain ⟨m,C⟩:=h;exact ⟨m,(jw (w:=w) (k.block 1 A)).trans C⟩
def Gn:Prop:=∀(s:ae)(c:UInt8)(w:af),s.size<=1000->kj w->Calls prog 92 #[aj s,aj (mk [c])] w fun e w'=>e=bj (.tuple #[aj (aG s c).1,aj (aG s c).2.1,.bool (aG s c).2.2])/\an w w'
def bS(s:ae):Bool:=bC (aG s 58).1&&bC (aG s 58).2.1
def fD(Q:Gn)(s:ae)(w:af)(hs:s.size<=1000)(U:kj w)(V:1<w.heap.size):
  Calls prog 55 #[aj s] w fun e w'=>e=bj (.tuple #[.agg #[aj (aG s 58).1,aj (aG s 58).2.1],.bool (bS s)])/\an w w':=by
 unfold bS;have z:=ej s 58;have C:an w (w.alloc (.cells #[aj ⟨#[]⟩,aj ⟨#[]⟩] 98)):=(aA _ w).alloc aH _;have D:=Q s 58 _ hs (U.below C V);have R:=aL.new w #[aj ⟨#[]⟩,aj ⟨#[]⟩] 98;generalize aG s 58=X at*;obtain ⟨a,b,ok⟩:=X;simp only at z D ⊢;have J:=fun w=>ig a w fI
 have Cq:=fun w=>ig b w fI
 generalize bC a=p at*;generalize bC b=q at*;go_enter func55,ntmps55;go_wp2_with fail;refine D.mono ?_;rintro e w1 ⟨rfl,I⟩;have B1:=C.trans (I.mono C.size);have R1:=R.below I;have ab:=R1.fz;have Y:w1.cell? (aN w.heap.size)=some (aj ⟨#[]⟩):=R1.cell rfl;have Z:w1.cell? (aC w.heap.size 1)=some (aj ⟨#[]⟩):=R1.cell rfl;go_wp2_with fail;refine (J _).mono ?_;rintro e ac ⟨rfl,rfl⟩
 cases p
 ·skip
  exact W5
 ·exact W4
abbrev vu(a0:ag):Array ag:=#[a0,a0,a0]
abbrev AQ(a0:ag):Obj:=.cells #[a0,a0,a0] 102
abbrev cP(a0:ag)(a1:ag):Obj:=.cells #[a0,a1] 98
abbrev bT(a0:ag)(a1:ag)(a2:ag):Obj:=.cells #[a0,a1,a2] 102
def OY (h:aD:=by
 have:=B1.size;omega):aD:=h
def W6 (h:aD:=by
 subst hR;exact OZ):aD:=h
def OZ (h:aD:=by
 go_wp2_with fail
 go_region
 all_goals (
  go_wp2;refine bF (v:=.tuple #[.agg #[aj a,aj b,aj rel],.bool _]) (cf results102 _ _ w.heap.size _ 102 _ _ rfl rfl ?_ underlying102 rfl aM) rfl ?_
  ·exact ⟨_,(cZ R2),bL⟩
  ·exact ⟨rfl,(cq B2)⟩)):aD:=h
def O0(q:br) (h:cj br->aD:=by
 intro zq;have rz:=R3.fz;have r0:W.cell? (aN w.heap.size)=some (aj ⟨#[]⟩):=R3.cell rfl;have r1:W.cell? (aC w.heap.size 1)=some (aj ⟨#[]⟩):=R3.cell rfl;have r2:W.cell? (aC w.heap.size 2)=some (aj ⟨#[]⟩):=R3.cell rfl;have s0:W.cell? (aN (w2.heap.size+1))=some (aj a):=S3.cell rfl
 revert rz r0 r1 r2 s0
 exact zq.1):aD:=h ⟨q⟩
def O1(q:br) (h:cj br->aD:=by
 intro zq;have s2:W.cell? (aC (w2.heap.size+1) 2)=some (aj rel):=S3.cell rfl;have t0:W.cell? (aN w2.heap.size)=some (aj a):=T3.cell rfl
 revert s2 t0
 exact zq.1):aD:=h ⟨q⟩
def dJ:ae:=⟨#[42]⟩
def kk(h rel:ae)(A:Bool):Bool:=if A then bS h&&bC rel else bS h||(eqs (aG h 58).2.1 dJ&&bC (aG h 58).1)
def tN(Z:Gn)(s:ae)(w:af)(hs:s.size<=1000)(J:kj w)(Q:1<w.heap.size):
  Calls prog 102 #[aj s] w fun e w'=>e=bj (.tuple #[.agg #[aj (aG (aG s 35).1 58).1,aj (aG (aG s 35).1 58).2.1,aj (aG s 35).2.1],.bool (kk (aG s 35).1 (aG s 35).2.1 (aG s 35).2.2)])/\an w w':=by
 have z:=ej s 35;have I:an w (w.alloc (AQ aj ⟨#[]⟩)):=(aA _ w).alloc aH _;have V:=Z s 35 _ hs (J.below I Q);have ag:=aL.new w (vu aj ⟨#[]⟩) 102;generalize aG s 35=X at*;obtain ⟨C,rel,am⟩:=X;simp only at z V ⊢;have ap:=ej C 58;have au:=fun w=>ig rel w fI
 have Y:=fun w J Q=>fD Z C w ai J Q
 obtain ⟨R,hR⟩:∃R,R=kk C rel am:=⟨_,rfl⟩;rw [<-hR];unfold kk at hR;generalize bS C=ok at*;generalize aG C 58=av at*;obtain ⟨a,b,two⟩:=av;simp only at ap Y hR ⊢;have ar:=fun w=>ig a w fI
 generalize bC a=ay at*;generalize bC rel=fr at*;have al:eqs b dJ=(b.toList== [42]):=by unfold eqs dJ;rw [aT];rfl
 rw [al] at hR;have D:=ak hR;clear z ap hs al hR Z;go_enter func102,ntmps102;go_wp2_with fail;refine V.mono ?_;rintro e w1 ⟨rfl,ab⟩;have B1:=I.trans (ab.mono I.size);have ah:=ag.below ab;have ad:=Y w1 (J.below B1 Q) OY;clear ab V I ag Y;go_wp2_with fail;refine ad.mono ?_;rintro e w2 ⟨rfl,ac⟩;have B2:=B1.trans (ac.mono B1.size);have R2:=ah.below ac;clear ac ad B1 ah;have rz:=R2.fz;have r0:w2.cell? (aN w.heap.size)=some (aj ⟨#[]⟩):=R2.cell rfl;have r1:w2.cell? (aC w.heap.size 1)=some (aj ⟨#[]⟩):=R2.cell rfl;have r2:w2.cell? (aC w.heap.size 2)=some (aj ⟨#[]⟩):=R2.cell rfl;have rl:=R2.lt;have az:¬(w.heap.size=w2.heap.size):=ai;have aB:¬(w.heap.size=w2.heap.size+1):=ai
 cases am
 ·have hR:=D.u;simp only [bJ,a8] at hR
  cases ok
  ·rw [uS] at hR
   cases A:(b.toList== [42])
   ·rw [A,eK] at hR;subst hR;clear D;exact OZ
   rw [A,fS] at hR;subst hR;clear D;obtain rfl:b=⟨#[42]⟩:=by
    rw [aT,dQ] at A;rw [<-cX b,A]
    rfl
   clear A;go_wp2_with fail;have S3:=(show aL ((w2.alloc (cP aj a aj ⟨#[42]⟩)).alloc (bT aj a aj ⟨#[42]⟩ aj rel)) (w2.heap.size+1) #[aj a,aj ⟨#[42]⟩,aj rel] 102 from by
    have:=aL.new (w2.alloc (cP aj a aj ⟨#[42]⟩)) #[aj a,aj ⟨#[42]⟩,aj rel] 102;rw [show (w2.alloc (cP aj a aj ⟨#[42]⟩)).heap.size=w2.heap.size+1 by simp] at this;exact this)
   have T3:=(aL.new w2 #[aj a,aj ⟨#[42]⟩] 98).alloc (bT aj a aj ⟨#[42]⟩ aj rel);have R3:=(R2.alloc (cP aj a aj ⟨#[42]⟩)).alloc (bT aj a aj ⟨#[42]⟩ aj rel);have U:=(B2.alloc B2.size (cP aj a aj ⟨#[42]⟩)).alloc Jp (bT aj a aj ⟨#[42]⟩ aj rel);generalize ((w2.alloc (cP aj a aj ⟨#[42]⟩)).alloc (bT aj a aj ⟨#[42]⟩ aj rel))=W at*;refine O0 ?_;intro rz r0 r1 r2 s0;have aw:W.cell? (aC (w2.heap.size+1) 1)=some (aj ⟨#[42]⟩):=S3.cell rfl;refine O1 ?_;intro s2 t0;have t1:W.cell? (aC w2.heap.size 1)=some (aj ⟨#[42]⟩):=T3.cell rfl
   go_region_held3 (fun w'=>w'.cell? (aN (w2.heap.size+1))=some (aj a)/\w'.cell? (aC (w2.heap.size+1) 1)=some (aj ⟨#[42]⟩)/\w'.cell? (aC (w2.heap.size+1) 2)=some (aj rel)/\w'.cell? (aN w2.heap.size)=some (aj a)/\w'.cell? (aC w2.heap.size 1)=some (aj ⟨#[42]⟩)) (go_keep)
    ((go_at_call 93;refine (ar _).mono ?_;rintro e ax ⟨rfl,rfl⟩))
   go_wp2;refine bF (v:=.tuple #[.agg #[aj a,aj ⟨#[42]⟩,aj rel],.bool _]) (cf results102 _ _ w.heap.size _ 102 _ _ rfl rfl ?_ underlying102 rfl aM) rfl ?_
   ·exact ⟨_,(cZ R3),bL⟩
   exact ⟨rfl,(cq U)⟩
  rw [Bool.true_or] at hR;exact W6
 ·have hR:=D.u;simp only [if_true] at hR
  cases ok
  ·rw [eK] at hR;exact W6
  rw [fS] at hR;subst hR;go_wp2_with fail;have S3:=(show aL ((w2.alloc (cP aj a aj b)).alloc (bT aj a aj b aj rel)) (w2.heap.size+1) #[aj a,aj b,aj rel] 102 from by
   have:=aL.new (w2.alloc (cP aj a aj b)) #[aj a,aj b,aj rel] 102;rw [show (w2.alloc (cP aj a aj b)).heap.size=w2.heap.size+1 by simp] at this;exact this)
  have T3:=(aL.new w2 #[aj a,aj b] 98).alloc (bT aj a aj b aj rel);have R3:=(R2.alloc (cP aj a aj b)).alloc (bT aj a aj b aj rel);have U:=(B2.alloc B2.size (cP aj a aj b)).alloc Jp (bT aj a aj b aj rel);generalize ((w2.alloc (cP aj a aj b)).alloc (bT aj a aj b aj rel))=W at*;refine O0 ?_;intro rz r0 r1 r2 s0;have aw:W.cell? (aC (w2.heap.size+1) 1)=some (aj b):=S3.cell rfl;refine O1 ?_;intro s2 t0;have t1:W.cell? (aC w2.heap.size 1)=some (aj b):=T3.cell rfl
  go_region_held3 (fun w'=>w'.cell? (aN (w2.heap.size+1))=some (aj a)/\w'.cell? (aC (w2.heap.size+1) 1)=some (aj b)/\w'.cell? (aC (w2.heap.size+1) 2)=some (aj rel)/\w'.cell? (aN w2.heap.size)=some (aj a)/\w'.cell? (aC w2.heap.size 1)=some (aj b)) (go_keep)
   ((go_at_call 93;refine (au _).mono ?_;rintro e ax ⟨rfl,rfl⟩))
  go_wp2;refine bF (v:=.tuple #[.agg #[aj a,aj b,aj rel],.bool _]) (cf results102 _ _ w.heap.size _ 102 _ _ rfl rfl ?_ underlying102 rfl aM) rfl ?_
  ·exact ⟨_,(cZ R3),bL⟩
  exact ⟨rfl,(cq U)⟩
def Mn:Gn:=by
 intro s c w hs ⟨m,A⟩;refine (Any.strings_Cut Tryz.lays145 s (mk [c]) m w ai A).mono ?_;rintro e w' ⟨rfl,n,rfl⟩;refine ⟨?_,⟨rfl,rfl,rfl,bV _,fun _ _=>rfl⟩⟩;have e:=JB s.data.toList c;rw [show (mk [c]).data.toList=[c] from by simp [mk],e]
 rfl
