import Derived.Test.YtlbpnlngckgcbaaGreatDoorM16
import Derived.Test.YtlbpnlngckgcbaaGreatDoorM18
set_option linter.all false
set_option maxHeartbeats 4000000
set_option maxRecDepth 100000
namespace Go.Proofs.YtlbpnlngckgcbaaGreatDoor
open Go.RowKit Go.PlainAid Go.Proofs.Tryz
variable {aD br:Prop} {w w':af} {b k g:Nat} {mp tv:ag} {ss l:List ae} {x:ae} {T:TypeId}
def PG (h:aD:=by
 go_wp2;go_roundw
 ·exact ⟨k+1,ai,by go_num,hb,Vk⟩
 simp [intOf];omega):aD:=h
def JN(s:ae):List ag:=[aj (b8 s).1.kind,aj (b8 s).1.id,aj (b8 s).1.rel,aj (b8 s).1.sub,aj (b8 s).1.who,aj (b8 s).1.of,aj s]
structure DU(w:af)(b:Nat)(mp tv:ag)(ss:List ae):Prop where
 blk:aL w b #[mp,tv] 262
 row:w.ownsRow 0 264 7 tv ss.length (ss.flatMap JN)
 apart:∀g n c,tv=aw (some (aN g)) n c->g≠b
 most:ss.length<=1000
def DU.below(h:DU w b mp tv ss)(k:an w w'):DU w' b mp tv ss:=⟨h.blk.below k,aB h.row k,h.apart,h.most⟩
def ku(l:List ae)(x:ae):Int:=match l.findIdx? (fun y=>eqs y x) with
 |some i=>(i:Int)
 |none=> -1
def Vl(D:k<l.length)(I:∀j,(h:j<l.length)->j<k->eqs l[j] x=false)(A:eqs l[k] x=true):ku l x=k:=by
 unfold ku;have:l.findIdx? (fun y=>eqs y x)=some k:=by
  rw [kV];exact ⟨D,A,fun j C=>by rw [I j ai C];simp⟩
 rw [this]
def Ly(C:∀j,(h:j<l.length)->eqs l[j] x=false):ku l x= -1:=by
 unfold ku;have:l.findIdx? (fun y=>eqs y x)=none:=by
  rw [pj];intro y D;obtain ⟨j,A,rfl⟩:=dB D;exact C j A
 rw [this]
def fZ{a b}(h:aL w g #[a,b] T):w.cell? (aN g)=some a/\w.cell? (aC g 1)=some b:=⟨h.cell rfl,h.cell rfl⟩
def zc(b s w mp tv ss)(h:DU w b mp tv ss):
  Calls prog 134 #[bc b,aj s] w fun e w'=>e=bj (ar (ku ss s))/\an w w':=by
 obtain ⟨ta,tc,rfl⟩:=ax h.row;have ab:=h.most;obtain ⟨R,D⟩:∃R,R=ku ss s:=⟨_,rfl⟩;rw [<-D];have I:=ak D;clear D;go_enter func134,ntmps134;go_wp2_with fail
 go_loopw [5] (fun u wr=>∃k:Nat,k<=ss.length/\u=ar k/\an w wr/\Hid (∀j,(h:j<ss.length)->j<k->eqs ss[j] s=false)) (fun u _=>ss.length-(intOf u).toNat)
 ·exact ⟨0,ai,rfl,aA _ _,ak (fun j h Q=>ai)⟩
 ·obtain ⟨k,Z,rfl,hb,C⟩:=hrel;obtain ⟨c0,c1⟩:=fZ (h.below hb).blk
  by_cases J:k<ss.length
  ·have Y:(k:Int)<(ss.length:Int):=by omega
   obtain ⟨g,c,e1,hc⟩:=bo JN 7 (fun _=>rfl) (h.below hb).row k ss[k] (aI J);simp only [aK,bY] at e1;obtain ⟨rfl,rfl⟩:=e1;have ac:=hc 6 _ ai rfl
   cases A:eqs ss[k] s
   ·have U:(ss[k].toList==s.toList)=false:=by rw [<-aQ];exact A
    have Vk:=ak (show ∀j,(h:j<ss.length)->j<k+1->eqs ss[j] s=false from fun j h Q=>by
     by_cases e:j=k
     ·subst e;exact A
     exact aE C j h ai)
    generalize ss[k]=y at*;clear hc A;exact PG
   have U:(ss[k].toList==s.toList)=true:=by rw [<-aQ];exact A
   have hF:=Vl J (aE C) A;rw [<-I.u] at hF;subst hF;generalize ss[k]=y at*;clear hc A;go_wp2;go_ret;exact ⟨rfl,hb⟩
  have Y:¬((k:Int)<(ss.length:Int)):=ai;have hF:=Ly (fun j V=>aE C j V ai);rw [<-I.u] at hF;subst hF;go_wp2;go_ret;exact ⟨rfl,hb⟩
def J2 (h:aD:=by
 rw [Q9,Nv,fS];exact Ug):aD:=h
def BF (h:aD:=by
 go_wp2;go_roundw
 ·exact ⟨k+1,ai,by go_num,cJ Xy _,Vk⟩
 simp [intOf];omega):aD:=h
def Ra(q:br) (h:cj br->aD:=by
 intro zq;have Q9:=ak Xz;have g0:wr.cell? (aC g (k*4))=some (aj y.ty):=hc 0 _ ai rfl;have g1:wr.cell? (aC g (k*4+1))=some (aj (bH y)):=hc 1 _ ai rfl
 revert Q9 g0 g1
 exact zq.1):aD:=h ⟨q⟩
def Rb(q:br) (h:cj br->aD:=by
 intro zq;have Rc:(y.ty.toList==T.sub.toList)=false:=by rw [<-aQ];exact Nv
 have Vk:=ak (VD (by rw [Q9,Nv,eK]))
 revert Rc Vk
 exact zq.1):aD:=h ⟨q⟩
def jl(T:Tu)(g:Gr):Bool:=eqs g.ty T.sub&&eqs (bH g) (if eqs T.who jO then jO else T.of)
def Md(b bm:Nat)(s T w kv rv pv tv kl rl pl l ss)(h:DU w b (.pointer (some (aC bm 5))) tv ss)(ap:DM w bm kv rv pv kl rl pl l)(r:Nat)(A)(aS:bi T.kind T.rel rl 0=(r:Int))(aP:GrC rl pl r A)(a7:A.length<=1000000):
  Calls prog 133 #[bc b,.agg #[aj T.kind,aj T.id,aj T.rel,aj T.sub,aj T.who,aj T.of,aj s]] w fun e w'=>e=bj (.bool (A.any (jl T)))/\an w w':=by
 have ac:=ak (fun w' (k:an w w')=>ef bm kv rv pv kl rl pl l T.kind T.rel w' (ap.below k));rw [aS] at ac;have aE:=ak (fun w' (k:an w w')=>aP bm kv rv pv kl l w' (ap.below k));have H:=ak h;obtain ⟨R,ah⟩:∃R,R=A.any (jl T):=⟨_,rfl⟩;rw [<-ah];have ae:=ak ah;have U:=ak ((aA w.heap.size w).alloc aH (.cells #[aj T.kind,aj T.id,aj T.rel,aj T.sub,aj T.who,aj T.of,aj s] 264));have ab:=ak (aL.new w #[aj T.kind,aj T.id,aj T.rel,aj T.sub,aj T.who,aj T.of,aj s] 264);have a5:=h.blk.lt;have a9:¬(b=w.heap.size):=ai;obtain ⟨Q,Y⟩:=fZ h.blk;clear ah h ap aP aS;go_enter func133,ntmps133;go_wp2_with fail;have a3:=U.size;have ag:=ak (H.below U).blk;generalize (w.alloc (.cells #[aj T.kind,aj T.id,aj T.rel,aj T.sub,aj T.who,aj T.of,aj s] 264))=W at*;clear Q Y;obtain ⟨Q,Y⟩:=fZ ag;have aW:W.cell? (aN w.heap.size)=some (aj T.kind):=ab.cell rfl;have aX:W.cell? (aC w.heap.size 2)=some (aj T.rel):=ab.cell rfl;have aF:=ak (ac W.drew U.drew);clear ac
 go_region_held3 (fun w'=>w'.cell? (aN b)=some (.pointer (some (aC bm 5)))/\w'.cell? (aN w.heap.size)=some (aj T.kind)/\w'.cell? (aC w.heap.size 2)=some (aj T.rel)) (go_keep)
  ((go_at_call 132;refine aF.mono ?_;rintro e w1 ⟨rfl,aR⟩;have J:=ak ((aA _ W).drew.trans aR:an W w1);have d0:=am Q J;have d1:=am aW J;have d2:=am aX J;clear aR))
 have Z:=ak (U.trans (J.mono a3));have aM:=ak (ab.below J);have aO:=ak (ag.below J);clear d0 d1 d2 Q Y aW aX aF J ab ag U;obtain ⟨Q,Y⟩:=fZ aO;have l1:=Z.size;have aG:=ak (aE w1 Z);clear aE;go_wp2_with fail;refine aG.mono ?_;rintro e a4 ⟨sv,rfl,al,aw⟩;obtain ⟨ga,gc,rfl⟩:=ax aw;have az:=ak (Z.trans (al.mono l1));have af:=ak (aM.below al);have aY:=ak aw;have l2:=az.size;clear al aw aG aM aO Z Q Y;go_wp2_with fail
 go_loopw [7] (fun u wr=>∃k:Nat,k<=A.length/\u=ar k/\an a4 wr/\Hid (∀j,(h:j<A.length)->j<k->jl T A[j]=false)) (fun u _=>A.length-(intOf u).toNat)
 ·exact ⟨0,ai,rfl,aA _ _,ak (fun j h aZ=>ai)⟩
 ·obtain ⟨k,a6,rfl,C,aJ⟩:=hrel;have ad:=ak (az.trans (C.mono l2));have Xy:=ak C;have ba:wr.cell? (aC w.heap.size 3)=some (aj T.sub):=(af.below C).cell rfl;have bb:wr.cell? (aC w.heap.size 4)=some (aj T.who):=(af.below C).cell rfl;have be:wr.cell? (aC w.heap.size 5)=some (aj T.of):=(af.below C).cell rfl
  by_cases aU:k<A.length
  ·have a1:(k:Int)<(A.length:Int):=by omega
   obtain ⟨g,c,e1,hc⟩:=bo cO 4 (fun _=>rfl) (aB aY C) k A[k] (aI aU);simp only [aK,bY] at e1;obtain ⟨rfl,rfl⟩:=e1;have I:=ak (fun (au:jl T A[k]=true)=>(dh.2 ⟨A[k],bu aU,au⟩:A.any (jl T)=true));have VD:=ak (fun (au:jl T A[k]=false)=>(show ∀j,(h:j<A.length)->j<k+1->jl T A[j]=false from fun j h aZ=>by
    by_cases e:j=k
    ·subst e;exact au
    exact aJ j h ai))
   generalize A[k]=y at*;have Xz:jl T y=(eqs y.ty T.sub&&eqs (bH y) (if eqs T.who jO then jO else T.of)):=rfl;have ay:eqs T.who jO=(T.who.toList== [42]):=by unfold eqs jO;rw [aT];rfl
   rw [ay] at Xz
   cases aV:(T.who.toList== [42])
   ·rw [aV] at Xz;simp only [bJ,a8] at Xz;refine Ra ?_;intro Q9 g0 g1;clear ay Xz;generalize bH y=yr at*;have D:eqs yr T.of=(yr.toList==T.of.toList):=aQ _ _
    cases Nv:eqs y.ty T.sub
    ·refine Rb ?_;intro Rc Vk;clear C hc Nv VD I D Q9;go_wp2
     go_quiet (fail)
     exact BF
    have Rc:(y.ty.toList==T.sub.toList)=true:=by rw [<-aQ];exact Nv
    cases Ug:eqs yr T.of
    ·have av:(yr.toList==T.of.toList)=false:=by rw [<-D];exact Ug
     have Vk:=ak (VD J2);clear C hc Nv Ug VD I D Q9;go_wp2
     go_quiet (fail)
     exact BF
    have av:(yr.toList==T.of.toList)=true:=by rw [<-D];exact Ug
    have V:=ak (I J2);clear C hc Nv Ug VD I D Q9;go_wp2
    go_quiet (fail)
    go_wp2;go_ret;exact ⟨by rw [ae,V];rfl,cJ ad _⟩
   rw [aV] at Xz;simp only [if_true] at Xz;refine Ra ?_;intro Q9 g0 g1;clear ay Xz;generalize bH y=yr at*;have D:eqs yr jO=(yr.toList== [42]):=by unfold eqs jO;rw [aT];rfl
   cases Nv:eqs y.ty T.sub
   ·refine Rb ?_;intro Rc Vk;clear C hc Nv VD I D Q9;go_wp2
    go_quiet (fail)
    exact BF
   have Rc:(y.ty.toList==T.sub.toList)=true:=by rw [<-aQ];exact Nv
   cases Ug:eqs yr jO
   ·have av:(yr.toList== [42])=false:=by rw [<-D];exact Ug
    have Vk:=ak (VD J2);clear C hc Nv Ug VD I D Q9;go_wp2
    go_quiet (fail)
    exact BF
   have av:(yr.toList== [42])=true:=by rw [<-D];exact Ug
   have V:=ak (I J2);clear C hc Nv Ug VD I D Q9;go_wp2
   go_quiet (fail)
   go_wp2;go_ret;exact ⟨by rw [ae,V];rfl,cJ ad _⟩
  have a1:¬((k:Int)<(A.length:Int)):=ai;have V:=ak (show A.any (jl T)=false from by
   rw [jy];intro y a2;obtain ⟨j,a0,rfl⟩:=dB a2;rw [aJ j a0 ai];simp)
  clear C;go_wp2;go_ret;exact ⟨by rw [ae,V];rfl,ad⟩
