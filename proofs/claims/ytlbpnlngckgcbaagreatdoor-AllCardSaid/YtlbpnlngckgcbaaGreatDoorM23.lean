import Derived.Test.YtlbpnlngckgcbaaGreatDoorM16
import Derived.Test.YtlbpnlngckgcbaaGreatDoorM18
set_option linter.all false
set_option maxHeartbeats 4000000
set_option maxRecDepth 100000
namespace Go.Proofs.YtlbpnlngckgcbaaGreatDoor
open Go.RowKit Go.PlainAid Go.Proofs.Tryz
variable {aD bq:Prop} {w w':af} {b k g:Nat} {mp tv:ag} {ss l:List ae} {x:ae} {T:TypeId}
def Qf (h:aD:=by
 go_wp2;go_roundw
 ·exact ⟨k+1,ai,by go_num,hb,VM⟩
 simp [intOf];omega):aD:=h
def Kj(s:ae):List ag:=[an (b7 s).1.kind,an (b7 s).1.id,an (b7 s).1.rel,an (b7 s).1.sub,an (b7 s).1.who,an (b7 s).1.of,an s]
structure DU(w:af)(b:Nat)(mp tv:ag)(ss:List ae):Prop where
 blk:aL w b #[mp,tv] 262
 row:w.ownsRow 0 264 7 tv ss.length (ss.flatMap Kj)
 apart:∀g n c,tv=aA (some (aP g)) n c->g≠b
 most:ss.length<=1000
def DU.below(h:DU w b mp tv ss)(k:am w w'):DU w' b mp tv ss:=⟨h.blk.below k,aB h.row k,h.apart,h.most⟩
def kz(l:List ae)(x:ae):Int:=match l.findIdx? (fun y=>eqs y x) with
 |some i=>(i:Int)
 |none=> -1
def VN(D:k<l.length)(I:∀j,(h:j<l.length)->j<k->eqs l[j] x=false)(A:eqs l[k] x=true):kz l x=k:=by
 unfold kz;have:l.findIdx? (fun y=>eqs y x)=some k:=by
  rw [kZ];exact ⟨D,A,fun j C=>by rw [I j ai C];simp⟩
 rw [this]
def Ma(C:∀j,(h:j<l.length)->eqs l[j] x=false):kz l x= -1:=by
 unfold kz;have:l.findIdx? (fun y=>eqs y x)=none:=by
  rw [pI];intro y D;obtain ⟨j,A,rfl⟩:=dB D;exact C j A
 rw [this]
def gh{a b}(h:aL w g #[a,b] T):w.cell? (aP g)=some a/\w.cell? (aC g 1)=some b:=⟨h.cell rfl,h.cell rfl⟩
def zO(b s w mp tv ss)(h:DU w b mp tv ss):
  Calls prog 134 #[bu b,an s] w fun e w'=>e=bi (au (kz ss s))/\am w w':=by
 obtain ⟨ta,tc,rfl⟩:=aw h.row;have ab:=h.most;obtain ⟨R,D⟩:∃R,R=kz ss s:=⟨_,rfl⟩;rw [<-D];have I:=aj D;clear D;go_enter func134,ntmps134;go_wp2_with fail
 go_loopw [5] (fun u wr=>∃k:Nat,k<=ss.length/\u=au k/\am w wr/\Hid (∀j,(h:j<ss.length)->j<k->eqs ss[j] s=false)) (fun u _=>ss.length-(intOf u).toNat)
 ·exact ⟨0,ai,rfl,az _ _,aj (fun j h Q=>ai)⟩
 ·obtain ⟨k,Z,rfl,hb,C⟩:=hrel;obtain ⟨c0,c1⟩:=gh (h.below hb).blk
  by_cases J:k<ss.length
  ·have Y:(k:Int)<(ss.length:Int):=by omega
   obtain ⟨g,c,e1,hc⟩:=bn Kj 7 (fun _=>rfl) (h.below hb).row k ss[k] (aI J);simp only [aK,bX] at e1;obtain ⟨rfl,rfl⟩:=e1;have ac:=hc 6 _ ai rfl
   cases A:eqs ss[k] s
   ·have U:(ss[k].toList==s.toList)=false:=by rw [<-aQ];exact A
    have VM:=aj (show ∀j,(h:j<ss.length)->j<k+1->eqs ss[j] s=false from fun j h Q=>by
     by_cases e:j=k
     ·subst e;exact A
     exact aE C j h ai)
    generalize ss[k]=y at*;clear hc A;exact Qf
   have U:(ss[k].toList==s.toList)=true:=by rw [<-aQ];exact A
   have hF:=VN J (aE C) A;rw [<-I.u] at hF;subst hF;generalize ss[k]=y at*;clear hc A;go_wp2;go_ret;exact ⟨rfl,hb⟩
  have Y:¬((k:Int)<(ss.length:Int)):=ai;have hF:=Ma (fun j V=>aE C j V ai);rw [<-I.u] at hF;subst hF;go_wp2;go_ret;exact ⟨rfl,hb⟩
abbrev oa(a0:ae)(a1:ae)(a2:ae)(a3:ae)(a4:ae)(a5:ae)(a6:ae):Obj:=.cells #[an a0,an a1,an a2,an a3,an a4,an a5,an a6] 264
def Kz (h:aD:=by
 rw [RE,N2,fT];exact UI):aD:=h
def Cj (h:aD:=by
 go_wp2;go_roundw
 ·exact ⟨k+1,ai,by go_num,cJ X3 _,VM⟩
 simp [intOf];omega):aD:=h
def RF(q:bq) (h:cj bq->aD:=by
 intro zq;have RE:=aj X4;have g0:wr.cell? (aC g (k*4))=some (an y.ty):=hc 0 _ ai rfl;have g1:wr.cell? (aC g (k*4+1))=some (an (bH y)):=hc 1 _ ai rfl
 revert RE g0 g1
 exact zq.1):aD:=h ⟨q⟩
def RG(q:bq) (h:cj bq->aD:=by
 intro zq;have RH:(y.ty.toList==T.sub.toList)=false:=by rw [<-aQ];exact N2
 have VM:=aj (V5 (by rw [RE,N2,eM]))
 revert RH VM
 exact zq.1):aD:=h ⟨q⟩
def jo(T:Tu)(g:Gr):Bool:=eqs g.ty T.sub&&eqs (bH g) (if eqs T.who jR then jR else T.of)
def MK(b bm:Nat)(s T w kv rv pv tv kl rl pl l ss)(h:DU w b (.pointer (some (aC bm 5))) tv ss)(ap:DM w bm kv rv pv kl rl pl l)(r:Nat)(A)(aS:bh T.kind T.rel rl 0=(r:Int))(aO:GrC rl pl r A)(bj:A.length<=1000000):
  Calls prog 133 #[bu b,.agg #[an T.kind,an T.id,an T.rel,an T.sub,an T.who,an T.of,an s]] w fun e w'=>e=bi (.bool (A.any (jo T)))/\am w w':=by
 have ac:=aj (fun w' (k:am w w')=>eh bm kv rv pv kl rl pl l T.kind T.rel w' (ap.below k));rw [aS] at ac;have aE:=aj (fun w' (k:am w w')=>aO bm kv rv pv kl l w' (ap.below k));have H:=aj h;obtain ⟨R,ah⟩:∃R,R=A.any (jo T):=⟨_,rfl⟩;rw [<-ah];have ae:=aj ah;have U:=aj ((az w.heap.size w).alloc aH (oa T.kind T.id T.rel T.sub T.who T.of s));have ab:=aj (aL.new w #[an T.kind,an T.id,an T.rel,an T.sub,an T.who,an T.of,an s] 264);have bf:=h.blk.lt;have bk:¬(b=w.heap.size):=ai;obtain ⟨Q,Y⟩:=gh h.blk;clear ah h ap aO aS;go_enter func133,ntmps133;go_wp2_with fail;have bb:=U.size;have ag:=aj (H.below U).blk;generalize (w.alloc (oa T.kind T.id T.rel T.sub T.who T.of s))=W at*;clear Q Y;obtain ⟨Q,Y⟩:=gh ag;have aW:W.cell? (aP w.heap.size)=some (an T.kind):=ab.cell rfl;have aX:W.cell? (aC w.heap.size 2)=some (an T.rel):=ab.cell rfl;have aF:=aj (ac W.drew U.drew);clear ac
 go_region_held3 (fun w'=>w'.cell? (aP b)=some (.pointer (some (aC bm 5)))/\w'.cell? (aP w.heap.size)=some (an T.kind)/\w'.cell? (aC w.heap.size 2)=some (an T.rel)) (go_keep)
  ((go_at_call 132;refine aF.mono ?_;rintro e w1 ⟨rfl,aR⟩;have J:=aj ((az _ W).drew.trans aR:am W w1);have d0:=ak Q J;have d1:=ak aW J;have d2:=ak aX J;clear aR))
 have Z:=aj (U.trans (J.mono bb));have aM:=aj (ab.below J);have aN:=aj (ag.below J);clear d0 d1 d2 Q Y aW aX aF J ab ag U;obtain ⟨Q,Y⟩:=gh aN;have l1:=Z.size;have aG:=aj (aE w1 Z);clear aE;go_wp2_with fail;refine aG.mono ?_;rintro e bc ⟨sv,rfl,al,ax⟩;obtain ⟨ga,gc,rfl⟩:=aw ax;have aA:=aj (Z.trans (al.mono l1));have af:=aj (aM.below al);have aY:=aj ax;have l2:=aA.size;clear al ax aG aM aN Z Q Y;go_wp2_with fail
 go_loopw [7] (fun u wr=>∃k:Nat,k<=A.length/\u=au k/\am bc wr/\Hid (∀j,(h:j<A.length)->j<k->jo T A[j]=false)) (fun u _=>A.length-(intOf u).toNat)
 ·exact ⟨0,ai,rfl,az _ _,aj (fun j h a7=>ai)⟩
 ·obtain ⟨k,bg,rfl,C,aJ⟩:=hrel;have ad:=aj (aA.trans (C.mono l2));have X3:=aj C;have bl:wr.cell? (aC w.heap.size 3)=some (an T.sub):=(af.below C).cell rfl;have bo:wr.cell? (aC w.heap.size 4)=some (an T.who):=(af.below C).cell rfl;have bp:wr.cell? (aC w.heap.size 5)=some (an T.of):=(af.below C).cell rfl
  by_cases aU:k<A.length
  ·have a9:(k:Int)<(A.length:Int):=by omega
   obtain ⟨g,c,e1,hc⟩:=bn cO 4 (fun _=>rfl) (aB aY C) k A[k] (aI aU);simp only [aK,bX] at e1;obtain ⟨rfl,rfl⟩:=e1;have I:=aj (fun (ar:jo T A[k]=true)=>(dg.2 ⟨A[k],br aU,ar⟩:A.any (jo T)=true));have V5:=aj (fun (ar:jo T A[k]=false)=>(show ∀j,(h:j<A.length)->j<k+1->jo T A[j]=false from fun j h a7=>by
    by_cases e:j=k
    ·subst e;exact ar
    exact aJ j h ai))
   generalize A[k]=y at*;have X4:jo T y=(eqs y.ty T.sub&&eqs (bH y) (if eqs T.who jR then jR else T.of)):=rfl;have ay:eqs T.who jR=(T.who.toList== [42]):=by unfold eqs jR;rw [aT];rfl
   rw [ay] at X4
   cases aV:(T.who.toList== [42])
   ·rw [aV] at X4;simp only [bJ,aZ] at X4;refine RF ?_;intro RE g0 g1;clear ay X4;generalize bH y=yr at*;have D:eqs yr T.of=(yr.toList==T.of.toList):=aQ _ _
    cases N2:eqs y.ty T.sub
    ·refine RG ?_;intro RH VM;clear C hc N2 V5 I D RE;go_wp2
     go_quiet (fail)
     exact Cj
    have RH:(y.ty.toList==T.sub.toList)=true:=by rw [<-aQ];exact N2
    cases UI:eqs yr T.of
    ·have av:(yr.toList==T.of.toList)=false:=by rw [<-D];exact UI
     have VM:=aj (V5 Kz);clear C hc N2 UI V5 I D RE;go_wp2
     go_quiet (fail)
     exact Cj
    have av:(yr.toList==T.of.toList)=true:=by rw [<-D];exact UI
    have V:=aj (I Kz);clear C hc N2 UI V5 I D RE;go_wp2
    go_quiet (fail)
    go_wp2;go_ret;exact ⟨by rw [ae,V];rfl,cJ ad _⟩
   rw [aV] at X4;simp only [if_true] at X4;refine RF ?_;intro RE g0 g1;clear ay X4;generalize bH y=yr at*;have D:eqs yr jR=(yr.toList== [42]):=by unfold eqs jR;rw [aT];rfl
   cases N2:eqs y.ty T.sub
   ·refine RG ?_;intro RH VM;clear C hc N2 V5 I D RE;go_wp2
    go_quiet (fail)
    exact Cj
   have RH:(y.ty.toList==T.sub.toList)=true:=by rw [<-aQ];exact N2
   cases UI:eqs yr jR
   ·have av:(yr.toList== [42])=false:=by rw [<-D];exact UI
    have VM:=aj (V5 Kz);clear C hc N2 UI V5 I D RE;go_wp2
    go_quiet (fail)
    exact Cj
   have av:(yr.toList== [42])=true:=by rw [<-D];exact UI
   have V:=aj (I Kz);clear C hc N2 UI V5 I D RE;go_wp2
   go_quiet (fail)
   go_wp2;go_ret;exact ⟨by rw [ae,V];rfl,cJ ad _⟩
  have a9:¬((k:Int)<(A.length:Int)):=ai;have V:=aj (show A.any (jo T)=false from by
   rw [jB];intro y ba;obtain ⟨j,a8,rfl⟩:=dB ba;rw [aJ j a8 ai];simp)
  clear C;go_wp2;go_ret;exact ⟨by rw [ae,V];rfl,ad⟩
