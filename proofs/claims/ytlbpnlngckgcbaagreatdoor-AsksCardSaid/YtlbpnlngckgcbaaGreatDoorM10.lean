import Derived.Test.YtlbpnlngckgcbaaGreatDoorM06
import Derived.Test.YtlbpnlngckgcbaaGreatDoorM07
set_option linter.all false
set_option maxHeartbeats 4000000
set_option maxRecDepth 100000
namespace Go.Proofs.YtlbpnlngckgcbaaGreatDoor
open Go.RowKit Go.PlainAid Go.Proofs.Tryz
variable {aA aU:Prop} {s:ae} {k B:Nat} {w w':af}
abbrev iC:=@List.length_cons
abbrev uM:=@List.dropWhile_cons
abbrev gM:=@Prod.mk.injEq
abbrev bU:=@true_and
abbrev cF:=@below_drewN
def NN (h:aA:=by
 rw [bh];omega):aA:=h
def aG(s:ae)(c:UInt8):ae×ae×Bool:=(mk ((bJ s).takeWhile (· != c)),mk (((bJ s).dropWhile (· != c)).drop 1),(bJ s).contains c)
def fC{α:Type}(p:α->Bool):∀(l:List α),l.takeWhile p=l.take (l.takeWhile p).length
 | []=>rfl
 |x::l=>by
  rw [iw]
  split
  ·rw [iC,List.take_succ_cons,<-fC p l]
  rfl
def fD{α:Type}(p:α->Bool):∀(l:List α),l.dropWhile p=l.drop (l.takeWhile p).length
 | []=>rfl
 |x::l=>by
  rw [iw,uM]
  split
  ·rw [iC,q8,<-fD p l]
  rfl
def Yl{c}(I:k<(bJ s).length)(C:∀j,(h:j<k)->(D:j<(bJ s).length)->((bJ s)[j] != c)=true)(A:(bJ s)[k]=c):aG s c=(s.extract 0 k,s.extract (k+1) s.size,true):=by
 have e:=fl (· != c) (bJ s) k C aj (fun h=>by simp [A]);unfold aG;rw [fC,fD,e,extract_mk,extract_mk];simp only [m6,Nat.sub_zero,m9,gM,bU];refine ⟨?_,?_⟩
 ·rw [dy (by simp [bh])]
 rw [List.contains_iff_mem,<-A];exact bn _
def NO{c}(C:∀j,(h:j<s.size)->(D:j<(bJ s).length)->((bJ s)[j] != c)=true):aG s c=(s,em,false):=by
 have e:=fl (· != c) (bJ s) s.size C NN (fun h=>by rw [bh] at h;omega);unfold aG;rw [fC,fD,e,dy NN,ei (i:=s.size) (l:=bJ s) NN,dj];simp only [List.drop_nil,gM,bU];refine ⟨rfl,?_⟩;rw [Bool.eq_false_iff];intro h;rw [List.contains_iff_mem] at h;obtain ⟨j,A,e⟩:=dk h;have:=C j (by rw [bh] at A;exact A) A;simp [e] at this
def lB(s c ci)(Z:ci=(c.toNat:Int))(w)(hs:s.size<=maxLen):
  Calls prog 141 #[.string s,.int .u8 ci] w fun e w'=>e=.returned (.tuple #[.string (aG s c).1,.string (aG s c).2.1,.bool (aG s c).2.2])/\an w w':=by
 unfold maxLen at hs;have ad:=get_bt s;generalize V:aG s c=U;obtain ⟨x,y,f⟩:=U;have J:=ai V;have Q:=ai Z;go_enter func141,ntmps141;go_wp2_with fail
 go_loop [7] (fun u=>∃k:Nat,k<=s.size/\u=.int .i64 k/\Hid (∀j,(h:j<k)->(D:j<(bJ s).length)->((bJ s)[j] != c)=true)) (fun u=>s.size-(intOf u).toNat)
 case atStart=>exact ⟨0,aj,rfl,ai (fun j h=>aj)⟩
 case round=>
  obtain ⟨k,ae,rfl,C⟩:=hrel
  by_cases ac:k<s.size
  ·have ab:(k:Int)<(s.size:Int):=by omega
   have hl:k<(bJ s).length:=by rw [bh];exact ac
   have Y:=ui s k hl
   by_cases I:(bJ s)[k]=c
   ·simp;have A:=Yl hl (ak C) I;rw [J.u] at A;simp only [gM] at A;obtain ⟨rfl,rfl,rfl⟩:=A;go_wp2
    go_quiet (fail)
    go_wp2;go_ret3;exact ⟨rfl,cF bj _⟩
   have af:(bt s k==ci)=false:=by
    rw [Y,Q.u,b6];intro h;exact I (UInt8.toNat_inj.1 aj)
   have R:=ai (show ∀j,(h:j<k+1)->(D:j<(bJ s).length)->((bJ s)[j] != c)=true from fun j h D=>by
    by_cases e:j=k
    ·subst e;simpa using I
    exact ak C j aj D)
   go_wp2
   go_round
   case rel=>exact ⟨k+1,aj,by go_num,R⟩
   case measure=>simp [intOf];omega
  have ab:¬((k:Int)<(s.size:Int)):=aj;obtain rfl:k=s.size:=aj;have A:=NO (ak C);rw [J.u] at A;simp only [gM] at A;obtain ⟨rfl,rfl,rfl⟩:=A;go_wp2;go_ret3;exact ⟨rfl,az _ _⟩
abbrev fE:=@Bool.true_and
abbrev z6:=@Bool.and_eq_false_iff
abbrev uN:=@Bool.false_or
abbrev jo:=@decide_eq_true_eq
def NP (h:aA:=by
 go_wp2_with (first|(go_at_call 185;refine (eS _ _).mono ?_;rintro e w' ⟨rfl,rfl⟩)|(go_at_call 186;refine (fB _ _).mono ?_;rintro e w' ⟨rfl,rfl⟩));go_ret;exact ⟨rfl,rfl⟩):aA:=h
def NQ (h:aA:=by
 rw [e];go_enter func195,ntmps195;go_wp2;go_ret;exact ⟨rfl,rfl⟩):aA:=h
def Fp (h:aA:=by
 rw [HR.u] at hF;subst hF;go_wp2;go_ret;exact ⟨rfl,rfl⟩):aA:=h
def bz(s:ae):Bool:=decide (0<s.size)&&decide (s.size<=8)&&(kz (bJ s)==s.size)
def gA(s w)(hs:s.size<=maxLen):
  Calls prog 93 #[.string s] w fun e w'=>e=.returned (.bool (bz s))/\w'=w:=by
 unfold bz;have C:=ai (mZ s w hs);unfold maxLen at hs
 by_cases h0:0<s.size
 ·by_cases D:s.size<=8
  ·have A:(0:Int)<(s.size:Int):=by omega
   have I:(s.size:Int)<=8:=aj;rw [m4 h0,m4 D,fE,fE];generalize J:kz (bJ s)=z at*;have e:(z==s.size)=(((z:Int))==((s.size:Int))):=by
    rw [gJ,dA,dA];omega
   have E:=ai e;go_enter func93,ntmps93;go_wp2_with (go_at_call 144;refine C.u.mono ?_;rintro e w' ⟨rfl,rfl⟩);go_ret;exact ⟨by rw [E.u];rfl,rfl⟩
  have I:¬((s.size:Int)<=8):=aj;have A:(0:Int)<(s.size:Int):=aj;rw [m5 D,oY,eB];go_enter func93,ntmps93;go_wp2;go_ret;exact ⟨rfl,rfl⟩
 ·have A:¬((0:Int)<(s.size:Int)):=by omega
  rw [m5 h0,eB,eB];go_enter func93,ntmps93;go_wp2;go_ret;exact ⟨rfl,rfl⟩
def NR(h0:0<s.size)(A:s.size<=8)(h:∀j,j<s.size->(letter (bt s j)||(digit (bt s j)&&decide (0<j)))=true):bz s=true:=by
 have e:=qf s s.size h0 (by have:=h 0 h0;simpa using this) aj aj (fun j h1 h2=>by have:=h j h2;revert this;cases letter (bt s j)<;>cases digit (bt s j)<;>simp) (fun h=>aj);unfold bz;simp [h0,A,e]
def NT(C:k<s.size)(h:∀j,j<k->(letter (bt s j)||(digit (bt s j)&&decide (0<j)))=true)(A:(letter (bt s k)||(digit (bt s k)&&decide (0<k)))=false):bz s=false:=by
 unfold bz
 by_cases h0:k=0
 ·subst h0;rw [uj s C (by simpa using A)];have:(0==s.size)=false:=by rw [b6];omega
  rw [this,oY]
 have e:=qf s k aj (by have:=h 0 aj;simpa using this) aj aj (fun j h1 h2=>by have:=h j h2;revert this;cases letter (bt s j)<;>cases digit (bt s j)<;>simp) (fun _=>by rw [m4 aj,Bool.and_true] at A;exact A);have:(k==s.size)=false:=by rw [b6];omega
 rw [e,this,oY]
def iD(s w):Calls prog 195 #[.string s] w fun e w'=>e=.returned (.bool (bz s))/\w'=w:=by
 by_cases h0:0<s.size
 ·by_cases J:s.size<=8
  ·have I:¬((s.size:Int)<1):=by omega
   have R:¬((8:Int)<(s.size:Int)):=aj;have ad:=get_bt s;generalize U:bz s=ac;have HR:=ai U;go_enter func195,ntmps195;go_wp2_with fail
   go_loop [3] (fun u=>∃k:Nat,k<=s.size/\u=.int .i64 k/\Hid (∀j,j<k->(letter (bt s j)||(digit (bt s j)&&decide (0<j)))=true)) (fun u=>s.size-(intOf u).toNat)
   case atStart=>exact ⟨0,aj,rfl,ai (fun j h=>aj)⟩
   case round=>
    obtain ⟨k,ae,rfl,A⟩:=hrel
    by_cases ab:k<s.size
    ·have Z:(k:Int)<(s.size:Int):=by omega
     cases hv:(letter (bt s k)||(digit (bt s k)&&decide (0<k)))
     ·have hF:=NT ab (ak A) hv;rw [HR.u] at hF;subst hF;simp only [Bool.or_eq_false_iff,z6,decide_eq_false_iff_not] at hv;obtain ⟨v1,C⟩:=hv
      cases V:digit (bt s k)
      ·exact NP
      have Q:k=0:=by
       rcases C with v|v
       ·rw [V] at v;cases v
       omega
      have Y:((k:Int)==0)=true:=by rw [Q];rfl
      clear C Q;exact NP
     have D:=ai (show ∀j,j<k+1->(letter (bt s j)||(digit (bt s j)&&decide (0<j)))=true from fun j h=>by
      by_cases e:j=k
      ·subst e;exact hv
      exact ak A j aj)
     cases hl:letter (bt s k)
     ·rw [hl,uN,bM,jo] at hv;obtain ⟨v1,C⟩:=hv;have Y:((k:Int)==0)=false:=by rw [b6];omega
      go_wp2_with (first|(go_at_call 185;refine (eS _ _).mono ?_;rintro e w' ⟨rfl,rfl⟩)|(go_at_call 186;refine (fB _ _).mono ?_;rintro e w' ⟨rfl,rfl⟩))
      go_round
      case rel=>exact ⟨k+1,aj,by go_num,D⟩
      case measure=>simp [intOf];omega
     clear hv;go_wp2_with (first|(go_at_call 185;refine (eS _ _).mono ?_;rintro e w' ⟨rfl,rfl⟩)|(go_at_call 186;refine (fB _ _).mono ?_;rintro e w' ⟨rfl,rfl⟩))
     go_round
     case rel=>exact ⟨k+1,aj,by go_num,D⟩
     case measure=>simp [intOf];omega
    have Z:¬((k:Int)<(s.size:Int)):=aj;obtain rfl:k=s.size:=aj;have hF:=NR h0 J (ak A);exact Fp
  have R:(8:Int)<(s.size:Int):=aj;have I:¬((s.size:Int)<1):=aj;have e:bz s=false:=by unfold bz;rw [m5 J];simp
  exact NQ
 have I:(s.size:Int)<1:=aj;have e:bz s=false:=by unfold bz;rw [m5 h0];simp
 exact NQ
def eM(s c):(aG s c).1.size<=s.size/\(aG s c).2.1.size<=s.size:=by
 unfold aG;simp only [Iz];have h1:((bJ s).takeWhile (· != c)).length<=(bJ s).length:=(List.takeWhile_prefix _).length_le;have h2:((bJ s).dropWhile (· != c)).length<=(bJ s).length:=(List.dropWhile_suffix _).length_le;rw [bh] at h1 h2;simp only [m2];omega
def ej(s:ae):ae×ae×Bool:=((aG s 58).1,(aG s 58).2.1,(aG s 58).2.2&&bz (aG s 58).1&&bz (aG s 58).2.1)
def pj(s w)(hs:s.size<=maxLen):
  Calls prog 136 #[.string s] w fun e w'=>e=.returned (.tuple #[.string (ej s).1,.string (ej s).2.1,.bool (ej s).2.2])/\an w w':=by
 unfold ej;have A:=ai (lB s 58 58 rfl w hs);generalize aG s 58=X at*;obtain ⟨a,b,ok⟩:=X;have C:=ai (fun w=>iD a w);have D:=ai (fun w=>iD b w);simp only at A C D ⊢;generalize bz a=p at*;generalize bz b=q at*;go_enter func136,ntmps136;go_wp2_with fail;refine (ak A).mono ?_;rintro e w1 ⟨rfl,I⟩;have h:=ai I;go_wp2_with fail;refine (ak C _).mono ?_;rintro e J ⟨rfl,rfl⟩;go_wp2_with fail;refine (ak D _).mono ?_;rintro e Q ⟨rfl,rfl⟩
 cases ok
 ·go_wp2;go_ret3;exact ⟨rfl,h.u⟩
 ·cases p
  ·go_wp2;go_ret3;exact ⟨rfl,h.u⟩
  go_wp2;go_ret3;exact ⟨rfl,h.u⟩
structure Tu where
 kind:ae
 id:ae
 rel:ae
 sub:ae
 who:ae
 of:ae
def Tu.cells(t:Tu)(s:ae):Array ag:=#[.string t.kind,.string t.id,.string t.rel,.string t.sub,.string t.who,.string t.of,.string s]
def jB:ae:=⟨#[42]⟩
def np(who:ae)(all:Bool):ae×ae×Bool:=
 if !(ej who).2.2&& !all then ((aG who 58).1,jB,(aG who 58).2.2&&bz (aG who 58).1&&eqs (aG who 58).2.1 jB) else ej who
def bQ(s:ae):Tu×Bool:=
 (⟨(ej (aG (aG s 64).1 35).1).1,(ej (aG (aG s 64).1 35).1).2.1,(aG (aG s 64).1 35).2.1,(np (aG (aG s 64).2.1 35).1 (aG (aG s 64).2.1 35).2.2).1,(np (aG (aG s 64).2.1 35).1 (aG (aG s 64).2.1 35).2.2).2.1,(aG (aG s 64).2.1 35).2.1⟩,
  (aG s 64).2.2&&(aG (aG s 64).1 35).2.2&&(ej (aG (aG s 64).1 35).1).2.2&&bz (aG (aG s 64).1 35).2.1&&(np (aG (aG s 64).2.1 35).1 (aG (aG s 64).2.1 35).2.2).2.2&&(!(aG (aG s 64).2.1 35).2.2||bz (aG (aG s 64).2.1 35).2.1))
abbrev j4:=@Int.toNat_natCast
def index_one(c):∀l:List UInt8,Lib.index l [c]=if l.contains c then ((l.takeWhile (· != c)).length:Int) else-1
 | []=>rfl
 |b::l=>by
  have C:=index_one c l;rw [Lib.index]
  by_cases h:b=c
  ·subst h;simp
  have h1:(c==b)=false:=by rw [b6];exact fun e=>h e.symm
  have h2:(b != c)=true:=by simpa using h
  have e:((b::l).contains c)=l.contains c:=by rw [List.contains_cons,h1,uN]
  rw [e,iw,if_pos h2,iC,C];have A:([c].isPrefixOf (b::l))=false:=by rw [List.isPrefixOf,h1,eB]
  rw [A]
  cases l.contains c
  ·simp
  simp only [if_true,bH,aV];rw [if_neg ar];omega
def j5(c):∀l:List UInt8,l.contains c=false->l.takeWhile (· != c)=l/\l.dropWhile (· != c)=[]
 | [],_=>⟨rfl,rfl⟩
 |b::l,h=>by
  rw [List.contains_cons,Bool.or_eq_false_iff] at h;have A:=j5 c l h.2;have h2:(b != c)=true:=by
   have:=h.1;rw [b6] at this
   simpa using fun e=>this e.symm
  rw [iw,uM,if_pos h2,if_pos h2,A.1];exact ⟨rfl,A.2⟩
def I4(l c):Lib.cut l [c]=(l.takeWhile (· != c),(l.dropWhile (· != c)).drop 1,l.contains c):=by
 unfold Lib.cut;rw [index_one]
 cases h:l.contains c
 ·obtain ⟨h1,h2⟩:=j5 c l h;simp [h1,h2]
 simp only [if_true];rw [if_pos aj,j4,<-fC,fD,m9]
 rfl
abbrev FE:Obj:=.cells #[.string ⟨#[]⟩,.string ⟨#[]⟩] 98
def Xd (h:aA:=by
 go_wp2_with fail;refine (Cq.u _).mono ?_;rintro e A ⟨rfl,rfl⟩;exact OT):aA:=h
def Xe (h:aA:=by
 exact OT):aA:=h
def OT (h:aA:=by
 go_wp2;refine bq (v:=.tuple #[.agg #[.string a,.string b],.bool _]) (bR results55 _ _ w.heap.size _ 98 _ _ rfl rfl ?hB2 underlying98 rfl aw) rfl ?Nj
 case hB2=>exact ⟨_,(cM R1),bc⟩
 case Nj=>exact ⟨rfl,(cd B1)⟩):aA:=h
def mT(w:af):Prop:=∃m,w.cell? ⟨1,0,none⟩=some (.int .i64 m)
def mT.below(h:mT w)(k:Below B w w')(A:1<B):mT w':=by
 obtain ⟨m,C⟩:=h;exact ⟨m,(ji (w:=w) (k.block 1 A)).trans C⟩
def FF:Prop:=∀(s:ae)(c:UInt8)(w:af),s.size<=1000->mT w->Calls prog 92 #[.string s,.string (mk [c])] w fun e w'=>e=.returned (.tuple #[.string (aG s c).1,.string (aG s c).2.1,.bool (aG s c).2.2])/\an w w'
def cg(s:ae):Bool:=bz (aG s 58).1&&bz (aG s 58).2.1
def iR(R:FF)(s:ae)(w:af)(hs:s.size<=1000)(V:mT w)(Y:1<w.heap.size):
  Calls prog 55 #[.string s] w fun e w'=>e=.returned (.tuple #[.agg #[.string (aG s 58).1,.string (aG s 58).2.1],.bool (cg s)])/\an w w':=by
 unfold cg;have z:=eM s 58;have I:an w (w.alloc FE):=(az _ w).alloc aD _;have D:=ai (R s 58 _ hs (V.below I Y));have C:=ai I;have U:=ai (aE.new w #[.string ⟨#[]⟩,.string ⟨#[]⟩] 98);generalize aG s 58=X at*;obtain ⟨a,b,ok⟩:=X;simp only at z D ⊢;have Q:=ai (fun w=>gA a w gz);have Cq:=ai (fun w=>gA b w gz);generalize bz a=p at*;generalize bz b=q at*;go_enter func55,ntmps55;go_wp2_with fail;refine (ak D).mono ?_;rintro e w1 ⟨rfl,J⟩;have B1:=ai (C.u.trans (J.mono C.u.size));have R1:=ai (U.u.below J);have ac:=R1.u.fz;have Z:w1.cell? ⟨w.heap.size,0,none⟩=some (.string ⟨#[]⟩):=R1.u.cell rfl;have ab:w1.cell? ⟨w.heap.size,1,none⟩=some (.string ⟨#[]⟩):=R1.u.cell rfl;go_wp2_with fail;refine (Q.u _).mono ?_;rintro e ad ⟨rfl,rfl⟩
 cases p
 ·skip
  exact Xe
 ·exact Xd
abbrev Am:Array ag:=#[.string ⟨#[]⟩,.string ⟨#[]⟩,.string ⟨#[]⟩]
abbrev rK(a0:ae)(a1:ae)(a2:ae):Array ag:=#[.string a0,.string a1,.string a2]
abbrev ve:Obj:=.cells #[.string ⟨#[]⟩,.string ⟨#[]⟩,.string ⟨#[]⟩] 102
abbrev nA(a0:ae):Obj:=.cells #[.string a0,.string ⟨#[42]⟩] 98
abbrev vg(a0:ae)(a1:ae):Obj:=.cells #[.string a0,.string ⟨#[42]⟩,.string a1] 102
abbrev en(a0:ae)(a1:ae):Obj:=.cells #[.string a0,.string a1] 98
abbrev cB(a0:ae)(a1:ae)(a2:ae):Obj:=.cells #[.string a0,.string a1,.string a2] 102
def OU (h:aA:=by
 have:=B1.u.size;omega):aA:=h
def Xf (h:aA:=by
 subst hR;exact OV):aA:=h
def OV (h:aA:=by
 go_wp2_with fail
 go_region
 all_goals (
  go_wp2;refine bq (v:=.tuple #[.agg #[.string a,.string b,.string rel],.bool _]) (bR results102 _ _ w.heap.size _ 102 _ _ rfl rfl ?_ underlying102 rfl aw) rfl ?_
  ·exact ⟨_,(cM R2),bc⟩
  ·exact ⟨rfl,(cd B2)⟩)):aA:=h
def OW(q:aU) (h:bF aU->aA:=by
 intro zq;have rz:=R3.u.fz;have r0:W.cell? ⟨w.heap.size,0,none⟩=some (.string ⟨#[]⟩):=R3.u.cell rfl;have r1:W.cell? ⟨w.heap.size,1,none⟩=some (.string ⟨#[]⟩):=R3.u.cell rfl;have r2:W.cell? ⟨w.heap.size,2,none⟩=some (.string ⟨#[]⟩):=R3.u.cell rfl;have s0:W.cell? ⟨w2.heap.size+1,0,none⟩=some (.string a):=S3.u.cell rfl
 revert rz r0 r1 r2 s0
 exact zq.1):aA:=h ⟨q⟩
def OY(q:aU) (h:bF aU->aA:=by
 intro zq;have s2:W.cell? ⟨w2.heap.size+1,2,none⟩=some (.string rel):=S3.u.cell rfl;have t0:W.cell? ⟨w2.heap.size,0,none⟩=some (.string a):=T3.u.cell rfl
 revert s2 t0
 exact zq.1):aA:=h ⟨q⟩
def dB:ae:=⟨#[42]⟩
def j6(h rel:ae)(A:Bool):Bool:=if A then cg h&&bz rel else cg h||(eqs (aG h 58).2.1 dB&&bz (aG h 58).1)
def tG(Y:FF)(s:ae)(w:af)(hs:s.size<=1000)(A:mT w)(J:1<w.heap.size):
  Calls prog 102 #[.string s] w fun e w'=>e=.returned (.tuple #[.agg #[.string (aG (aG s 35).1 58).1,.string (aG (aG s 35).1 58).2.1,.string (aG s 35).2.1],.bool (j6 (aG s 35).1 (aG s 35).2.1 (aG s 35).2.2)])/\an w w':=by
 have z:=eM s 35;have Z:an w (w.alloc ve):=(az _ w).alloc aD _;have U:=ai (Y s 35 _ hs (A.below Z J));have Q:=ai Z;have ah:=ai (aE.new w Am 102);have ax:=ai A;generalize aG s 35=X at*;obtain ⟨D,rel,ap⟩:=X;simp only at z U ⊢;have ar:=eM D 58;have av:=ai (fun w=>gA rel w gz);have V:=ai (fun w A J=>iR Y D w aj A J);obtain ⟨ag,hR⟩:∃ag,ag=j6 D rel ap:=⟨_,rfl⟩;rw [<-hR];unfold j6 at hR;generalize cg D=ok at*;generalize aG D 58=ay at*;obtain ⟨a,b,two⟩:=ay;simp only at ar V hR ⊢;have au:=ai (fun w=>gA a w gz);generalize bz a=aF at*;generalize bz rel=fr at*;have am:eqs b dB=(b.toList== [42]):=by unfold eqs dB;rw [aO];rfl
 rw [am] at hR;have I:=ai hR;clear z ar Z A hs am hR Y;go_enter func102,ntmps102;go_wp2_with fail;refine (ak U).mono ?_;rintro e w1 ⟨rfl,ab⟩;have B1:=ai (Q.u.trans (ab.mono Q.u.size));have al:=ai (ah.u.below ab);have ad:=ai (ak V w1 (ax.u.below B1.u J) OU);clear ab U Q ah V;go_wp2_with fail;refine ad.u.mono ?_;rintro e w2 ⟨rfl,ac⟩;have B2:=ai (B1.u.trans (ac.mono B1.u.size));have R2:=ai (al.u.below ac);clear ac ad B1 al;have rz:=R2.u.fz;have r0:w2.cell? ⟨w.heap.size,0,none⟩=some (.string ⟨#[]⟩):=R2.u.cell rfl;have r1:w2.cell? ⟨w.heap.size,1,none⟩=some (.string ⟨#[]⟩):=R2.u.cell rfl;have r2:w2.cell? ⟨w.heap.size,2,none⟩=some (.string ⟨#[]⟩):=R2.u.cell rfl;have rl:=R2.u.lt;have aH:¬(w.heap.size=w2.heap.size):=aj;have aI:¬(w.heap.size=w2.heap.size+1):=aj
 cases ap
 ·have hR:=I.u;simp only [bH,aV] at hR
  cases ok
  ·rw [uN] at hR
   cases C:(b.toList== [42])
   ·rw [C,eB] at hR;subst hR;clear I;exact OV
   rw [C,fE] at hR;subst hR;clear I;obtain rfl:b=⟨#[42]⟩:=by
    rw [aO,dA] at C;rw [<-dj b,C]
    rfl
   clear C;go_wp2_with fail;have S3:=ai (show aE ((w2.alloc (nA a)).alloc (vg a rel)) (w2.heap.size+1) #[.string a,.string ⟨#[42]⟩,.string rel] 102 from by
    have:=aE.new (w2.alloc (nA a)) #[.string a,.string ⟨#[42]⟩,.string rel] 102;rw [show (w2.alloc (nA a)).heap.size=w2.heap.size+1 by simp] at this;exact this)
   have T3:=ai ((aE.new w2 #[.string a,.string ⟨#[42]⟩] 98).alloc (vg a rel));have R3:=ai ((R2.u.alloc (nA a)).alloc (vg a rel));have R:=ai ((B2.u.alloc B2.u.size (nA a)).alloc IP (vg a rel));generalize ((w2.alloc (nA a)).alloc (vg a rel))=W at*;refine OW ?_;intro rz r0 r1 r2 s0;have aB:W.cell? ⟨w2.heap.size+1,1,none⟩=some (.string ⟨#[42]⟩):=S3.u.cell rfl;refine OY ?_;intro s2 t0;have t1:W.cell? ⟨w2.heap.size,1,none⟩=some (.string ⟨#[42]⟩):=T3.u.cell rfl
   go_region_held3 (fun w'=>w'.cell? ⟨w2.heap.size+1,0,none⟩=some (.string a)/\w'.cell? ⟨w2.heap.size+1,1,none⟩=some (.string ⟨#[42]⟩)/\w'.cell? ⟨w2.heap.size+1,2,none⟩=some (.string rel)/\w'.cell? ⟨w2.heap.size,0,none⟩=some (.string a)/\w'.cell? ⟨w2.heap.size,1,none⟩=some (.string ⟨#[42]⟩)) (go_keep)
    ((go_at_call 93;refine (au.u _).mono ?_;rintro e aC ⟨rfl,rfl⟩))
   go_wp2;refine bq (v:=.tuple #[.agg #[.string a,.string ⟨#[42]⟩,.string rel],.bool _]) (bR results102 _ _ w.heap.size _ 102 _ _ rfl rfl ?_ underlying102 rfl aw) rfl ?_
   ·exact ⟨_,(cM R3),bc⟩
   exact ⟨rfl,(cd R)⟩
  rw [Bool.true_or] at hR;exact Xf
 ·have hR:=I.u;simp only [if_true] at hR
  cases ok
  ·rw [eB] at hR;exact Xf
  rw [fE] at hR;subst hR;go_wp2_with fail;have S3:=ai (show aE ((w2.alloc (en a b)).alloc (cB a b rel)) (w2.heap.size+1) (rK a b rel) 102 from by
   have:=aE.new (w2.alloc (en a b)) (rK a b rel) 102;rw [show (w2.alloc (en a b)).heap.size=w2.heap.size+1 by simp] at this;exact this)
  have T3:=ai ((aE.new w2 #[.string a,.string b] 98).alloc (cB a b rel));have R3:=ai ((R2.u.alloc (en a b)).alloc (cB a b rel));have R:=ai ((B2.u.alloc B2.u.size (en a b)).alloc IP (cB a b rel));generalize ((w2.alloc (en a b)).alloc (cB a b rel))=W at*;refine OW ?_;intro rz r0 r1 r2 s0;have aB:W.cell? ⟨w2.heap.size+1,1,none⟩=some (.string b):=S3.u.cell rfl;refine OY ?_;intro s2 t0;have t1:W.cell? ⟨w2.heap.size,1,none⟩=some (.string b):=T3.u.cell rfl
  go_region_held3 (fun w'=>w'.cell? ⟨w2.heap.size+1,0,none⟩=some (.string a)/\w'.cell? ⟨w2.heap.size+1,1,none⟩=some (.string b)/\w'.cell? ⟨w2.heap.size+1,2,none⟩=some (.string rel)/\w'.cell? ⟨w2.heap.size,0,none⟩=some (.string a)/\w'.cell? ⟨w2.heap.size,1,none⟩=some (.string b)) (go_keep)
   ((go_at_call 93;refine (av.u _).mono ?_;rintro e aC ⟨rfl,rfl⟩))
  go_wp2;refine bq (v:=.tuple #[.agg #[.string a,.string b,.string rel],.bool _]) (bR results102 _ _ w.heap.size _ 102 _ _ rfl rfl ?_ underlying102 rfl aw) rfl ?_
  ·exact ⟨_,(cM R3),bc⟩
  exact ⟨rfl,(cd R)⟩
abbrev Pm:Array ag:=#[.string ⟨#[]⟩,.string ⟨#[]⟩,.string ⟨#[]⟩,.string ⟨#[]⟩,.string ⟨#[]⟩,.string ⟨#[]⟩]
abbrev Pn:Obj:=.cells #[.string ⟨#[]⟩,.string ⟨#[]⟩,.string ⟨#[]⟩,.string ⟨#[]⟩,.string ⟨#[]⟩,.string ⟨#[]⟩] 123
def Xl (h:aA:=by
 go_region
 all_goals (
  go_wp2;refine bq (v:=.tuple #[.agg #[.string kind,.string id,.string rel,.string sub,.string who,.string BR],.bool _]) (bR results60 _ _ w.heap.size _ 123 _ _ rfl rfl ?_ underlying123 rfl aw) rfl ?_
  ·exact ⟨_,(cM R6),bc⟩
  ·exact ⟨rfl,(cd B6)⟩)):aA:=h
def nE(s:ae):Array ag×Bool:=
 if 53<s.size then (#[.string ⟨#[]⟩,.string ⟨#[]⟩,.string ⟨#[]⟩,.string ⟨#[]⟩,.string ⟨#[]⟩,.string ⟨#[]⟩],false) else
 (#[.string (aG (aG (aG s 64).1 35).1 58).1,.string (aG (aG (aG s 64).1 35).1 58).2.1,.string (aG (aG s 64).1 35).2.1,.string (aG (aG (aG s 64).2.1 35).1 58).1,.string (aG (aG (aG s 64).2.1 35).1 58).2.1,.string (aG (aG s 64).2.1 35).2.1],
  cg (aG (aG s 64).1 35).1&&j6 (aG (aG s 64).2.1 35).1 (aG (aG s 64).2.1 35).2.1 (aG (aG s 64).2.1 35).2.2&&bz (aG (aG s 64).1 35).2.1)
def FW(s w)(hs:53<s.size):
  Calls prog 60 #[.string s] w fun e w'=>e=.returned (.tuple #[.agg (nE s).1,.bool (nE s).2])/\an w w':=by
 unfold nE;rw [if_pos hs];have D:(53:Int)<(s.size:Int):=aj;have C:=ai (aE.new w Pm 123);have A:=ai (az w.heap.size w);go_enter func60,ntmps60;go_wp2;refine bq (v:=.tuple #[.agg #[.string ⟨#[]⟩,.string ⟨#[]⟩,.string ⟨#[]⟩,.string ⟨#[]⟩,.string ⟨#[]⟩,.string ⟨#[]⟩],.bool false]) (bR results60 _ _ w.heap.size _ 123 _ _ rfl rfl ?hB underlying123 rfl aw) rfl ?post
 case hB=>exact ⟨_,(cM C),bc⟩
 case post=>exact ⟨rfl,(cd A)⟩
def CO(R:FF)(s:ae)(w:af)(hs:s.size<=53)(A:mT w)(C:1<w.heap.size):
  Calls prog 60 #[.string s] w fun e w'=>e=.returned (.tuple #[.agg (nE s).1,.bool (nE s).2])/\an w w':=by
 unfold nE;rw [if_neg aj];have a7:¬((53:Int)<(s.size:Int)):=aj;have aX:an w (w.alloc Pn):=(az _ w).alloc aD _;have ag:=ai aX;have aJ:=ai (aE.new w Pm 123);have Q:=ai A;have ay:=ai (yx s (w.alloc Pn) aj);have a4:=eM s 64;have al:=ai (fun w A=>R s 64 w aj A);generalize aG s 64=aP at*;obtain ⟨l,r,ok⟩:=aP;simp only at a4 al ⊢;have a5:=eM l 35;have am:=ai (fun w A=>R l 35 w aj A);generalize aG l 35=aQ at*;obtain ⟨what,rel,a6⟩:=aQ;simp only at a5 am ⊢;have Z:=ai (fun w A C=>iR R what w aj A C);have ab:=ai (fun w A C=>tG R r w aj A C);have aB:=ai (fun w=>gA rel w gz);generalize cg what=th at*;generalize aG what 58=aR at*;obtain ⟨kind,id,two⟩:=aR;generalize aG r 35=aS at*;obtain ⟨x,BR,aW⟩:=aS;simp only at Z ab ⊢;generalize j6 x BR aW=aY at*;generalize aG x 58=aV at*;obtain ⟨sub,who,bn⟩:=aV;simp only at Z ab ⊢;generalize bz rel=fr at*;go_enter func60,ntmps60;go_wp2_with fail;refine ay.u.mono ?_;rintro e w1 ⟨rfl,au⟩;have V:=ai (ag.u.trans (au.mono ag.u.size));have aK:=ai (aJ.u.below au);have aC:=ai (ak al w1 (Q.u.below V.u C));go_wp2_with fail;refine aC.u.mono ?_;rintro e aZ ⟨rfl,av⟩;have Y:=ai (V.u.trans (av.mono V.u.size));have aL:=ai (aK.u.below av);have aF:=ai (ak am aZ (Q.u.below Y.u C));go_wp2_with fail;refine aF.u.mono ?_;rintro e a3 ⟨rfl,ax⟩;have I:=ai (Y.u.trans (ax.mono Y.u.size));have R3:=ai (aL.u.below ax);have aH:=ai (ak Z a3 (Q.u.below I.u C) (by have:=I.u.size;omega));go_wp2_with fail;refine aH.u.mono ?_;rintro e D ⟨rfl,U⟩;have J:=ai ((I.u.trans (U.mono I.u.size)).alloc (I.u.trans (U.mono I.u.size)).size (en kind id));have aM:=ai ((R3.u.below U).alloc (en kind id));have aN:=ai (aE.new D (py kind id) 98);have aI:=ai (ak ab (D.alloc (en kind id)) (Q.u.below J.u C) (by have:=J.u.size;omega));have ba:=(R3.u.below U).lt;go_wp2_with fail;refine aI.u.mono ?_;rintro e w5 ⟨rfl,ad⟩;have ah:=ai (J.u.trans (ad.mono J.u.size));have ap:=ai (aM.u.below ad);have aO:=ai (aN.u.below ad);go_wp2_with fail;have ac:=ai (aE.new w5 (rK sub who BR) 102);have ar:=ai (aO.u.alloc (cB sub who BR));have R6:=ai (ap.u.alloc (cB sub who BR));have B6:=ai (ah.u.alloc ah.u.size (cB sub who BR));have a8:=ap.u.lt;generalize (w5.alloc (cB sub who BR))=W at*;have n1:¬(w.heap.size=D.heap.size):=aj;have a9:¬(w.heap.size=w5.heap.size):=aj;have bi:=R6.u.fz;have bb:W.cell? ⟨w.heap.size,0,none⟩=some (.string ⟨#[]⟩):=R6.u.cell rfl;have be:W.cell? ⟨w.heap.size,1,none⟩=some (.string ⟨#[]⟩):=R6.u.cell rfl;have bf:W.cell? ⟨w.heap.size,2,none⟩=some (.string ⟨#[]⟩):=R6.u.cell rfl;have r3:W.cell? ⟨w.heap.size,3,none⟩=some (.string ⟨#[]⟩):=R6.u.cell rfl;have bg:W.cell? ⟨w.heap.size,4,none⟩=some (.string ⟨#[]⟩):=R6.u.cell rfl;have bh:W.cell? ⟨w.heap.size,5,none⟩=some (.string ⟨#[]⟩):=R6.u.cell rfl;have t0:W.cell? ⟨D.heap.size,0,none⟩=some (.string kind):=ar.u.cell rfl;have t1:W.cell? ⟨D.heap.size,1,none⟩=some (.string id):=ar.u.cell rfl;have bj:W.cell? ⟨w5.heap.size,0,none⟩=some (.string sub):=ac.u.cell rfl;have bk:W.cell? ⟨w5.heap.size,1,none⟩=some (.string who):=ac.u.cell rfl;have bl:W.cell? ⟨w5.heap.size,2,none⟩=some (.string BR):=ac.u.cell rfl
 cases th
 ·exact Xl
 ·cases aY
  ·exact Xl
  go_region_held3 (fun w'=>w'.cell? ⟨D.heap.size,0,none⟩=some (.string kind)/\w'.cell? ⟨D.heap.size,1,none⟩=some (.string id)/\w'.cell? ⟨w5.heap.size,0,none⟩=some (.string sub)/\w'.cell? ⟨w5.heap.size,1,none⟩=some (.string who)/\w'.cell? ⟨w5.heap.size,2,none⟩=some (.string BR)) (go_keep)
   ((go_at_call 93;refine (aB.u _).mono ?_;rintro e bo ⟨rfl,rfl⟩))
  go_wp2;refine bq (v:=.tuple #[.agg #[.string kind,.string id,.string rel,.string sub,.string who,.string BR],.bool _]) (bR results60 _ _ w.heap.size _ 123 _ _ rfl rfl ?_ underlying123 rfl aw) rfl ?_
  ·exact ⟨_,(cM R6),bc⟩
  exact ⟨rfl,(cd B6)⟩
abbrev kZ:=@Bool.or_eq_true
abbrev pK:=@Bool.not_false
abbrev rR:=@Bool.and_assoc
abbrev pL:=@Bool.not_true
def Vi:bz (mk [])=false:=by decide
def di(h:bz s=true):0<s.size/\s.size<=8:=by
 unfold bz at h;simp only [bM,jo] at h;exact h.1
def fH{c}(h:(aG s c).2.2=false):(aG s c).1=s/\(aG s c).2.1=mk []:=by
 obtain ⟨h1,h2⟩:=j5 c (bJ s) h;unfold aG;simp only [h1,h2,dj,List.drop_nil,and_self]
def iJ{c}(h:bz (aG s c).2.1=true):(aG s c).2.2=true:=by
 cases A:(aG s c).2.2
 ·rw [(fH A).2,Vi] at h
  cases h
 rfl
def iZ{c}(h:(aG s c).2.2=true):bJ s=bJ (aG s c).1++c::bJ (aG s c).2.1:=by
 have hc:(bJ s).contains c=true:=h;have key:∀l:List UInt8,l.contains c=true->l=l.takeWhile (· != c)++c::(l.dropWhile (· != c)).drop 1:=by
  intro l
  induction l with
  |nil=>intro h;simp at h
  |cons b l ih=>
   intro h
   by_cases e:b=c
   ·subst e;simp
   have h2:(b != c)=true:=by simpa using e
   rw [iw,uM,if_pos h2,if_pos h2,List.cons_append,<-ih (by
    rw [List.contains_cons,kZ] at h
    rcases h with h|h
    ·exact absurd (dA.1 h).symm e
    exact h)]
 exact key _ hc
def hW(s):(ej s).2.2=cg s:=by
 unfold ej cg;simp only
 cases h:bz (aG s 58).2.1
 ·simp
 rw [iJ h];simp
def YA(x BR al):((np x al).2.2&&(!al||bz BR))=j6 x BR al:=by
 unfold np j6;rw [hW];have hs:eqs (aG x 58).2.1 jB=eqs (aG x 58).2.1 dB:=rfl
 cases al
 ·cases D:cg x
  ·simp only [pK,Bool.and_self,if_true,Bool.true_or,Bool.and_true,bH,aV,uN,hs]
   cases C:eqs (aG x 58).2.1 dB
   ·simp
   have A:(aG x 58).2.2=true:=by
    cases A:(aG x 58).2.2
    ·rw [(fH A).2] at C;exact absurd C au
    rfl
   rw [A];simp
  simp [hW,D]
 simp [hW]
def Ps:j6 (mk []) (mk []) false=false:=by decide
def Pt(c):aG (mk []) c=(mk [],mk [],false):=rfl
def dC(s:ae):Bool:=cg (aG (aG s 64).1 35).1&&j6 (aG (aG s 64).2.1 35).1 (aG (aG s 64).2.1 35).2.1 (aG (aG s 64).2.1 35).2.2&&bz (aG (aG s 64).1 35).2.1
def Pu(s):(bQ s).2=dC s:=by
 unfold bQ dC;simp only;rw [hW];have e:=YA (aG (aG s 64).2.1 35).1 (aG (aG s 64).2.1 35).2.1 (aG (aG s 64).2.1 35).2.2;rw [rR,e]
 cases h1:(aG s 64).2.2
 ·rw [(fH h1).2,Pt];simp [Ps]
 cases h2:bz (aG (aG s 64).1 35).2.1
 ·simp
 rw [iJ h2]
 cases cg (aG (aG s 64).1 35).1<;>simp
def gY{c}(h:(aG s c).2.2=true):s.size=(aG s c).1.size+1+(aG s c).2.1.size:=by
 have:=congrArg List.length (iZ h);rw [aZ,iC,bh,bh,bh] at this;omega
def Je{b}(h:eqs b dB=true):b=dB:=by
 unfold eqs at h;rw [dA] at h;rw [<-dj b,h]
 rfl
def lG(h:dC s=true):s.size<=53/\(nE s)=(#[.string (bQ s).1.kind,.string (bQ s).1.id,.string (bQ s).1.rel,.string (bQ s).1.sub,.string (bQ s).1.who,.string (bQ s).1.of],true)/\
  bJ s=bJ (bQ s).1.kind++58::bJ (bQ s).1.id++35::bJ (bQ s).1.rel++64::(bJ (bQ s).1.sub++58::bJ (bQ s).1.who++(if (bQ s).1.of.size=0 then [] else 35::bJ (bQ s).1.of)):=by
 have h0:=h;unfold dC at h;simp only [bM] at h;obtain ⟨⟨h1,h2⟩,J⟩:=h;have f1:(aG s 64).2.2=true:=by
  cases f:(aG s 64).2.2
  ·rw [(fH f).2,Pt] at h2;exact absurd h2 (by rw [Ps];simp)
  rfl
 have f2:=iJ J;have ah:=h1;unfold cg at h1;simp only [bM] at h1;have f3:=iJ h1.2;have ar:=di h1.1;have av:=di h1.2;have aw:=di J;have ak:=gY f1;have al:=gY f2;have am:=gY f3;have l1:=iZ f1;have l2:=iZ f2;have ad:=iZ f3;have tk:(bQ s).1.kind=(aG (aG (aG s 64).1 35).1 58).1:=rfl;have ae:(bQ s).1.id=(aG (aG (aG s 64).1 35).1 58).2.1:=rfl;have tr:(bQ s).1.rel=(aG (aG s 64).1 35).2.1:=rfl;have ts:(bQ s).1.sub=(np (aG (aG s 64).2.1 35).1 (aG (aG s 64).2.1 35).2.2).1:=rfl;have af:(bQ s).1.who=(np (aG (aG s 64).2.1 35).1 (aG (aG s 64).2.1 35).2.2).2.1:=rfl;have tzo:(bQ s).1.of=(aG (aG s 64).2.1 35).2.1:=rfl;have ab:s.size<=53->nE s=(#[.string (aG (aG (aG s 64).1 35).1 58).1,.string (aG (aG (aG s 64).1 35).1 58).2.1,.string (aG (aG s 64).1 35).2.1,.string (aG (aG (aG s 64).2.1 35).1 58).1,.string (aG (aG (aG s 64).2.1 35).1 58).2.1,.string (aG (aG s 64).2.1 35).2.1],true):=fun ai=>by
  unfold nE;rw [if_neg aj];unfold dC at h0;rw [h0]
 rw [tk,ae,tr,ts,af,tzo];have hs:(aG s 64).2.1.size<=26/\(np (aG (aG s 64).2.1 35).1 (aG (aG s 64).2.1 35).2.2).1=(aG (aG (aG s 64).2.1 35).1 58).1/\(np (aG (aG s 64).2.1 35).1 (aG (aG s 64).2.1 35).2.2).2.1=(aG (aG (aG s 64).2.1 35).1 58).2.1/\
   bJ (aG s 64).2.1=bJ (aG (aG (aG s 64).2.1 35).1 58).1++58::bJ (aG (aG (aG s 64).2.1 35).1 58).2.1++(if (aG (aG s 64).2.1 35).2.1.size=0 then [] else 35::bJ (aG (aG s 64).2.1 35).2.1):=by
  generalize (aG s 64).2.1=r at*;unfold j6 at h2;unfold np;rw [hW]
  cases C:(aG r 35).2.2
  ·rw [C] at h2;simp only [bH,aV,kZ,bM] at h2;obtain ⟨R,ag⟩:=fH C;rw [R] at h2;rw [R,ag];simp only [pK,Bool.and_true]
   rcases h2 with h2|⟨h2,A⟩
   ·have I:=h2;unfold cg at h2;simp only [bM] at h2;have f:=iJ h2.2;have U:=di h2.1;have V:=di h2.2;have Y:=gY f;rw [I];refine ⟨aj,rfl,rfl,?_⟩;rw [if_pos bc,eh];exact iZ f
   have f:(aG r 58).2.2=true:=by
    cases f:(aG r 58).2.2
    ·rw [(fH f).2] at h2;exact absurd h2 au
    rfl
   have U:=di A;have Y:=gY f;have D:=Je h2;have V:(aG r 58).2.1.size=1:=by rw [D];rfl
   have I:cg r=false:=by unfold cg;rw [D];simp [show bz dB=false by decide]
   rw [I];refine ⟨aj,rfl,D.symm,?_⟩;rw [if_pos bc,eh];exact iZ f
  ·rw [C] at h2;simp only [if_true,bM] at h2;obtain ⟨A,Z⟩:=h2;unfold cg at A;simp only [bM] at A;have f:=iJ A.2;have U:=di A.1;have V:=di A.2;have Y:=gY f;have an:=gY C;have ap:=di Z;simp only [pL,oY,bH,aV];refine ⟨aj,rfl,rfl,?_⟩;rw [if_neg aj,<-iZ f];exact iZ C
 obtain ⟨k1,Q,k3,ac⟩:=hs;refine ⟨aj,by rw [ab aj,Q,k3],?_⟩;rw [Q,k3,<-ac,<-ad,<-l2];exact l1
def Pv(h:53<s.size):dC s=false:=by
 cases A:dC s
 ·rfl
 have:=(lG A).1;omega
def Jf(s):(nE s).2=dC s:=by
 by_cases h:53<s.size
 ·rw [Pv h];unfold nE;rw [if_pos h]
 unfold nE dC;rw [if_neg h]
def VQ:FF:=by
 intro s c w hs ⟨m,A⟩;refine (Any.strings_Cut Tryz.lays145 s (mk [c]) m w aj A).mono ?_;rintro e w' ⟨rfl,n,rfl⟩;refine ⟨?_,⟨rfl,rfl,rfl,bY _,fun _ _=>rfl⟩⟩;have e:=I4 s.data.toList c;rw [show (mk [c]).data.toList=[c] from by simp [mk],e]
 rfl
