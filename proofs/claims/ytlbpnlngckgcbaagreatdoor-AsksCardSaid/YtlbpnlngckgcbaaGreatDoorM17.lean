import Derived.Test.YtlbpnlngckgcbaaGreatDoorM12
set_option linter.all false
set_option maxHeartbeats 4000000
set_option maxRecDepth 100000
namespace Go.Proofs.YtlbpnlngckgcbaaGreatDoor
open Go.RowKit Go.PlainAid Go.Proofs.Tryz
section
variable {aA aU:Prop} {w w':af} {b k g:Nat} {mp tv:ag} {ss l:List ae} {x:ae} {T:TypeId}
def PF (h:aA:=by
 go_wp2;go_roundw
 case rel=>exact ⟨k+1,aj,by go_num,HB.u,Vq⟩
 case measure=>simp [intOf];omega):aA:=h
def EV(s:ae):List ag:=[.string (bQ s).1.kind,.string (bQ s).1.id,.string (bQ s).1.rel,.string (bQ s).1.sub,.string (bQ s).1.who,.string (bQ s).1.of,.string s]
structure DU(w:af)(b:Nat)(mp tv:ag)(ss:List ae):Prop where
 blk:aE w b #[mp,tv] 262
 row:w.ownsRow 0 264 7 tv ss.length (ss.flatMap EV)
 apart:∀g n c,tv=.slice (some ⟨g,0,none⟩) n c->g≠b
 most:ss.length<=1000
def DU.below(h:DU w b mp tv ss)(k:an w w'):DU w' b mp tv ss:=⟨h.blk.below k,aB h.row k,h.apart,h.most⟩
def j9(l:List ae)(x:ae):Int:=match l.findIdx? (fun y=>eqs y x) with
 |some i=>(i:Int)
 |none=> -1
def Vr(D:k<l.length)(I:∀j,(h:j<l.length)->j<k->eqs l[j] x=false)(A:eqs l[k] x=true):j9 l x=k:=by
 unfold j9;have:l.findIdx? (fun y=>eqs y x)=some k:=by
  rw [kS];exact ⟨D,A,fun j C=>by rw [I j aj C];simp⟩
 rw [this]
def K9(C:∀j,(h:j<l.length)->eqs l[j] x=false):j9 l x= -1:=by
 unfold j9;have:l.findIdx? (fun y=>eqs y x)=none:=by
  rw [o6];intro y D;obtain ⟨j,A,rfl⟩:=dk D;exact C j A
 rw [this]
def hY{a b}(h:aE w g #[a,b] T):w.cell? ⟨g,0,none⟩=some a/\w.cell? ⟨g,1,none⟩=some b:=⟨h.cell rfl,h.cell rfl⟩
def yL(b s w mp tv ss)(h:DU w b mp tv ss):
  Calls prog 134 #[.pointer (some ⟨b,0,none⟩),.string s] w fun e w'=>e=.returned (.int .i64 (j9 ss s))/\an w w':=by
 obtain ⟨ta,tc,rfl⟩:=ax h.row;have H:=ai h;have ac:=h.most;obtain ⟨Q,I⟩:∃Q,Q=j9 ss s:=⟨_,rfl⟩;rw [<-I];have J:=ai I;clear h I;go_enter func134,ntmps134;go_wp2_with fail
 go_loopw [5] (fun u wr=>∃k:Nat,k<=ss.length/\u=.int .i64 k/\an w wr/\Hid (∀j,(h:j<ss.length)->j<k->eqs ss[j] s=false)) (fun u _=>ss.length-(intOf u).toNat)
 case atStart=>exact ⟨0,aj,rfl,az _ _,ai (fun j h U=>aj)⟩
 case round=>
  obtain ⟨k,ab,rfl,A,D⟩:=hrel;have HB:=ai A;obtain ⟨c0,c1⟩:=hY (H.u.below A).blk
  by_cases R:k<ss.length
  ·have Z:(k:Int)<(ss.length:Int):=by omega
   obtain ⟨g,c,e1,hc⟩:=bf EV 7 (fun _=>rfl) (H.u.below A).row k ss[k] (aH R);simp only [aI,bU] at e1;obtain ⟨rfl,rfl⟩:=e1;have ad:=hc 6 _ aj rfl
   cases C:eqs ss[k] s
   ·have V:(ss[k].toList==s.toList)=false:=by rw [<-aK];exact C
    have Vq:=ai (show ∀j,(h:j<ss.length)->j<k+1->eqs ss[j] s=false from fun j h U=>by
     by_cases e:j=k
     ·subst e;exact C
     exact ak D j h aj)
    generalize ss[k]=y at*;clear A hc C;exact PF
   have V:(ss[k].toList==s.toList)=true:=by rw [<-aK];exact C
   have hF:=Vr R (ak D) C;rw [<-J.u] at hF;subst hF;generalize ss[k]=y at*;clear A hc C;go_wp2;go_ret;exact ⟨rfl,HB.u⟩
  have Z:¬((k:Int)<(ss.length:Int)):=aj;have hF:=K9 (fun j Y=>ak D j Y aj);rw [<-J.u] at hF;subst hF;clear A;go_wp2;go_ret;exact ⟨rfl,HB.u⟩
abbrev kk(a0:ae)(a1:ae)(a2:ae)(a3:ae)(a4:ae)(a5:ae)(a6:ae):Obj:=.cells #[.string a0,.string a1,.string a2,.string a3,.string a4,.string a5,.string a6] 264
def Jq (h:aA:=by
 rw [Q2.u,MX,fE];exact Uh):aA:=h
def Bb (h:aA:=by
 go_wp2;go_roundw
 case rel=>exact ⟨k+1,aj,by go_num,cF XJ.u _,Vq⟩
 case measure=>simp [intOf];omega):aA:=h
def Q3(q:aU) (h:bF aU->aA:=by
 intro zq;have Q2:=ai XK;have g0:wr.cell? ⟨g,k*4,none⟩=some (.string y.ty):=hc 0 _ aj rfl;have g1:wr.cell? ⟨g,k*4+1,none⟩=some (.string (b8 y)):=hc 1 _ aj rfl
 revert Q2 g0 g1
 exact zq.1):aA:=h ⟨q⟩
def Q4(q:aU) (h:bF aU->aA:=by
 intro zq;have Q5:(y.ty.toList==T.sub.toList)=false:=by rw [<-aK];exact MX
 have Vq:=ai (MR.u (by rw [Q2.u,MX,eB]))
 revert Q5 Vq
 exact zq.1):aA:=h ⟨q⟩
def i8(T:Tu)(g:Gr):Bool:=eqs g.ty T.sub&&eqs (b8 g) (if eqs T.who jB then jB else T.of)
def LH(b bm:Nat)(s T w kv rv pv tv kl rl pl l ss)(h:DU w b (.pointer (some ⟨bm,5,none⟩)) tv ss)(al:DM w bm kv rv pv kl rl pl l)(r:Nat)(A)(aR:aY T.kind T.rel rl 0=(r:Int))(aP:GrC rl pl r A)(bi:A.length<=1000000):
  Calls prog 133 #[.pointer (some ⟨b,0,none⟩),.agg #[.string T.kind,.string T.id,.string T.rel,.string T.sub,.string T.who,.string T.of,.string s]] w fun e w'=>e=.returned (.bool (A.any (i8 T)))/\an w w':=by
 have ab:=ai (fun w' (k:an w w')=>dV bm kv rv pv kl rl pl l T.kind T.rel w' (al.below k));rw [aR] at ab;have ay:=ai (fun w' (k:an w w')=>aP bm kv rv pv kl l w' (al.below k));have H:=ai h;obtain ⟨aJ,ag⟩:∃aJ,aJ=A.any (i8 T):=⟨_,rfl⟩;rw [<-ag];have ad:=ai ag;have aN:=(az w.heap.size w).alloc aD (kk T.kind T.id T.rel T.sub T.who T.of s);have R:=ai aN;have Z:=ai (aE.new w #[.string T.kind,.string T.id,.string T.rel,.string T.sub,.string T.who,.string T.of,.string s] 264);have bg:=h.blk.lt;have bj:¬(b=w.heap.size):=aj;obtain ⟨Q,V⟩:=hY h.blk;clear ag aN h al aP aR;go_enter func133,ntmps133;go_wp2_with fail;have bc:=R.u.size;have af:=ai (H.u.below R.u).blk;generalize (w.alloc (kk T.kind T.id T.rel T.sub T.who T.of s))=W at*;clear Q V;obtain ⟨Q,V⟩:=hY af.u;have aX:W.cell? ⟨w.heap.size,0,none⟩=some (.string T.kind):=Z.u.cell rfl;have aZ:W.cell? ⟨w.heap.size,2,none⟩=some (.string T.rel):=Z.u.cell rfl;have aC:=ai (ak ab W.drew R.u.drew);clear ab
 go_region_held3 (fun w'=>w'.cell? ⟨b,0,none⟩=some (.pointer (some ⟨bm,5,none⟩))/\w'.cell? ⟨w.heap.size,0,none⟩=some (.string T.kind)/\w'.cell? ⟨w.heap.size,2,none⟩=some (.string T.rel)) (go_keep)
  ((go_at_call 132;refine aC.u.mono ?_;rintro e w1 ⟨rfl,aQ⟩;have J:=ai ((az _ W).drew.trans aQ:an W w1);have d0:=am Q J.u;have d1:=am aX J.u;have d2:=am aZ J.u;clear aQ))
 have Y:=ai (R.u.trans (J.u.mono bc));have aL:=ai (Z.u.below J.u);have aM:=ai (af.u.below J.u);clear d0 d1 d2 Q V aX aZ aC J Z af R;obtain ⟨Q,V⟩:=hY aM.u;have l1:=Y.u.size;have aF:=ai (ay.u w1 Y.u);clear ay;go_wp2_with fail;refine aF.u.mono ?_;rintro e be ⟨sv,rfl,ah,au⟩;obtain ⟨ga,gc,rfl⟩:=ax au;have aw:=ai (Y.u.trans (ah.mono l1));have ae:=ai (aL.u.below ah);have a7:=ai au;have l2:=aw.u.size;clear ah au aF aL aM Y Q V;go_wp2_with fail
 go_loopw [7] (fun u wr=>∃k:Nat,k<=A.length/\u=.int .i64 k/\an be wr/\Hid (∀j,(h:j<A.length)->j<k->i8 T A[j]=false)) (fun u _=>A.length-(intOf u).toNat)
 case atStart=>exact ⟨0,aj,rfl,az _ _,ai (fun j h a8=>aj)⟩
 case round=>
  obtain ⟨k,bh,rfl,C,aG⟩:=hrel;have ac:=ai (aw.u.trans (C.mono l2));have XJ:=ai C;have bk:wr.cell? ⟨w.heap.size,3,none⟩=some (.string T.sub):=(ae.u.below C).cell rfl;have bl:wr.cell? ⟨w.heap.size,4,none⟩=some (.string T.who):=(ae.u.below C).cell rfl;have bo:wr.cell? ⟨w.heap.size,5,none⟩=some (.string T.of):=(ae.u.below C).cell rfl
  by_cases aS:k<A.length
  ·have ba:(k:Int)<(A.length:Int):=by omega
   obtain ⟨g,c,e1,hc⟩:=bf cf 4 (fun _=>rfl) (aB a7.u C) k A[k] (aH aS);simp only [aI,bU] at e1;obtain ⟨rfl,rfl⟩:=e1;have I:=ai (fun (ap:i8 T A[k]=true)=>(cX.2 ⟨A[k],bn aS,ap⟩:A.any (i8 T)=true));have MR:=ai (fun (ap:i8 T A[k]=false)=>(show ∀j,(h:j<A.length)->j<k+1->i8 T A[j]=false from fun j h a8=>by
    by_cases e:j=k
    ·subst e;exact ap
    exact ak aG j h aj))
   generalize A[k]=y at*;have XK:i8 T y=(eqs y.ty T.sub&&eqs (b8 y) (if eqs T.who jB then jB else T.of)):=rfl;have av:eqs T.who jB=(T.who.toList== [42]):=by unfold eqs jB;rw [aO];rfl
   rw [av] at XK
   cases aW:(T.who.toList== [42])
   ·rw [aW] at XK;simp only [bH,aV] at XK;refine Q3 ?_;intro Q2 g0 g1;clear av XK;generalize b8 y=yr at*;have D:eqs yr T.of=(yr.toList==T.of.toList):=aK _ _
    cases MX:eqs y.ty T.sub
    ·refine Q4 ?_;intro Q5 Vq;clear C hc MX MR I D Q2;go_wp2
     go_quiet (fail)
     exact Bb
    have Q5:(y.ty.toList==T.sub.toList)=true:=by rw [<-aK];exact MX
    cases Uh:eqs yr T.of
    ·have ar:(yr.toList==T.of.toList)=false:=by rw [<-D];exact Uh
     have Vq:=ai (MR.u Jq);clear C hc MX Uh MR I D Q2;go_wp2
     go_quiet (fail)
     exact Bb
    have ar:(yr.toList==T.of.toList)=true:=by rw [<-D];exact Uh
    have U:=ai (I.u Jq);clear C hc MX Uh MR I D Q2;go_wp2
    go_quiet (fail)
    go_wp2;go_ret;exact ⟨by rw [ad.u,U.u];rfl,cF ac.u _⟩
   rw [aW] at XK;simp only [if_true] at XK;refine Q3 ?_;intro Q2 g0 g1;clear av XK;generalize b8 y=yr at*;have D:eqs yr jB=(yr.toList== [42]):=by unfold eqs jB;rw [aO];rfl
   cases MX:eqs y.ty T.sub
   ·refine Q4 ?_;intro Q5 Vq;clear C hc MX MR I D Q2;go_wp2
    go_quiet (fail)
    exact Bb
   have Q5:(y.ty.toList==T.sub.toList)=true:=by rw [<-aK];exact MX
   cases Uh:eqs yr jB
   ·have ar:(yr.toList== [42])=false:=by rw [<-D];exact Uh
    have Vq:=ai (MR.u Jq);clear C hc MX Uh MR I D Q2;go_wp2
    go_quiet (fail)
    exact Bb
   have ar:(yr.toList== [42])=true:=by rw [<-D];exact Uh
   have U:=ai (I.u Jq);clear C hc MX Uh MR I D Q2;go_wp2
   go_quiet (fail)
   go_wp2;go_ret;exact ⟨by rw [ad.u,U.u];rfl,cF ac.u _⟩
  have ba:¬((k:Int)<(A.length:Int)):=aj;have U:=ai (show A.any (i8 T)=false from by
   rw [jk];intro y bb;obtain ⟨j,a9,rfl⟩:=dk bb;rw [ak aG j a9 aj];simp)
  clear C;go_wp2;go_ret;exact ⟨by rw [ad.u,U.u];rfl,ac.u⟩
end
variable {s:ae}
def zb(a c:ae):(a++c).size=a.size+c.size:=ByteArray.size_append
def GX(k i:ae)(w:af)(A:k.size+i.size<=1000):
  Calls prog 66 #[.agg #[.string k,.string i]] w fun e w'=>e=.returned (.string ((k++sg 58)++i))/\an w w':=by
 have h:=ai (az w.heap.size w);go_enter func66,ntmps66;go_wp2;go_ret;exact ⟨rfl,(cd h)⟩
def VJ(k i r:ae):ae:=if r.size=0 then (k++sg 58)++i else (((k++sg 58)++i)++sg 35)++r
def wj(h:dC s=true):((((((bQ s).1.kind++sg 58)++(bQ s).1.id)++sg 35)++(bQ s).1.rel)++sg 64++VJ (bQ s).1.sub (bQ s).1.who (bQ s).1.of)=s:=by
 obtain ⟨_,_,hl⟩:=lG h;have e:∀a b:ae,bJ (a++b)=bJ a++bJ b:=fun a b=>by simp [bJ,ByteArray.data_append]
 have A:∀c:UInt8,bJ (sg c)=[c]:=fun c=>rfl
 generalize (bQ s).1=t at*;have key:bJ ((((((t.kind++sg 58)++t.id)++sg 35)++t.rel)++sg 64++VJ t.sub t.who t.of))=bJ s:=by
  rw [hl];unfold VJ
  split<;>simp [e,A]
 rw [<-dj s,<-key,dj]
