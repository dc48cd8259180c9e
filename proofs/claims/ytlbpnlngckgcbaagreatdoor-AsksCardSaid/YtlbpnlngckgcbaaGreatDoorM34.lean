import Derived.Test.YtlbpnlngckgcbaaGreatDoorM33
set_option linter.all false
set_option maxHeartbeats 4000000
set_option maxRecDepth 100000
namespace Go.Proofs.YtlbpnlngckgcbaaGreatDoor
open Go.RowKit Go.PlainAid Go.Proofs.Tryz
variable {aA aU:Prop} {X:RV} {id:ae} {j i k a b n:Nat} {α:Type} {more:Bool}
def zc1q (h:aA:=by
 rw [eo,aH (by rw [Um.u.bl];exact hnl)];rfl):aA:=h
def X5 (h:aA:=by
 rw [Um.u.bl];exact hnl):aA:=h
def S8 (h:aA:=by
 rw [jk];intro s hs;obtain ⟨j,A,rfl⟩:=dk hs;rw [h j A];simp):aA:=h
def S9(q:aU) (h:bF aU->aA:=by
 intro zq;have CT:=ai (fun (w':af) (hb:an W7 w')=>show Calls prog 200 #[.pointer (some ⟨g.b,0,none⟩),.string T.sub,.string T.who] w' (fun e w''=>e=.returned (.int .i64 (m1:Int))/\w''=w') from by
  have I:=Um.u.below hb;have:=wS g.b _ _ _ _ _ g.th T.sub T.who w' I.blk I.th I.few;rw [hm1] at this;exact this)
 have ZN:(n1:Int)<(g.rl.length:Int):=aj;have ZO:(m1:Int)<(g.th.length:Int):=aj
 revert CT ZN ZO
 exact zq.1):aA:=h ⟨q⟩
def Ta(q:aU) (h:bF aU->aA:=by
 intro zq;have b5:=(az wr.heap.size wr).alloc aD (kk T.kind T.id T.rel T.sub T.who T.of S);have X6:=ai (hb.trans (b5.mono hb.size));have GF:=ai (I1.below b5)
 revert b5 X6 GF
 exact zq.1):aA:=h ⟨q⟩
def Tb(q:aU) (h:bF aU->aA:=by
 intro zq;obtain ⟨yg,yc,hyv,yn⟩:=aS Um.u.yr n1 (.slice (some ⟨g.bs[n1]'X5,0,none⟩) g.th.length g.th.length) zc1q;have ym:=(Um.u.yb n1 _ (aH X5)).cell hml
 revert yg yc hyv yn ym
 exact zq.1):aA:=h ⟨q⟩
def Tc(q:aU) (h:bF aU->aA:=by
 intro zq;have c3:W7.cell? ⟨bt,3,none⟩=some (.string T.sub):=HT7.u.cell rfl;have c4:W7.cell? ⟨bt,4,none⟩=some (.string T.who):=HT7.u.cell rfl
 revert c3 c4
 exact zq.1):aA:=h ⟨q⟩
def Td(q:aU) (h:bF aU->aA:=by
 intro zq;have hin:(i:Int)<(g.ss.length:Int):=by omega
 obtain ⟨tg,tc2,e1,hc⟩:=bf EV 7 (fun _=>rfl) I1.du.row i g.ss[i] (aH hlt)
 revert hin tg tc2 e1 hc
 exact zq.1):aA:=h ⟨q⟩
def Te(q:aU) (h:bF aU->aA:=by
 intro zq;have Wq:=ai (aE.new wr #[.string T.kind,.string T.id,.string T.rel,.string T.sub,.string T.who,.string T.of,.string S] 264)
 revert Wq
 exact zq.1):aA:=h ⟨q⟩
def zE:ae:=⟨#[42]⟩
def My:ae:=⟨#[]⟩
def oE:My.toList=[]:=by rw [aO];rfl
def n9:zE.toList=[42]:=by rw [aO];rfl
def X7(X:RV)(id:ae)(t:Tu):Bool:=eqs t.kind X.kd&&(eqs t.id id&&eqs t.rel X.nm)
def Un(g:GP)(t:Tu):Bool:=eqs t.of My&&(eqs t.sub g.kd&&(eqs t.who g.who||eqs t.who zE))
def ofQ(g:GP)(K:Nat->Nat->Bool)(t:Tu):Bool:= !eqs t.of My&&K (aY t.sub t.of g.rl 0).toNat (wR g.th t.sub t.who).toNat
def Mz(g:GP)(K:Nat->Nat->Bool)(X:RV)(id:ae)(t:Tu):Bool:=X7 X id t&&(Un g t||ofQ g K t)
def tD(g:GP)(K:Nat->Nat->Bool)(X:RV)(id:ae):Bool:=g.ss.any fun s=>Mz g K X id (tt s)
def Tf(g:GP)(t:Tu):Prop:=eqs t.of My=false->∃(n m:Nat),aY t.sub t.of g.rl 0=n/\n<g.rl.length/\wR g.th t.sub t.who=m/\m<g.th.length
def Wr{g K}(h:∀j,(h:j<g.ss.length)->Mz g K X id (tt g.ss[j])=false):tD g K X id=false:=by
 unfold tD;exact S8
def Ws{g K}(A:j<g.ss.length)(h:Mz g K X id (tt g.ss[j])=true):tD g K X id=true:=cX.2 ⟨_,bn A,h⟩
def Bz(g K)(r k:Nat)(X)(p:ae×ae)(w)(h:GI w g K)(aX:g.rl[r]? =some X)(aV:g.th[k]? =some p)(bk:∀s∈g.ss,Tf g (tt s)):
  Calls prog 255 #[.pointer (some ⟨g.b,0,none⟩),.int .i64 r,.int .i64 k] w fun e w'=>e=.returned (.bool (tD g K X p.2))/\an w w':=by
 obtain ⟨bT,rc,bz,bP,bR,bS,r3⟩:=h.dm.rat r X aX;have bL:=(br.1 aX).1;have bJ:=(br.1 aV).1;have bM:(r:Int)<(g.rl.length:Int):=aj;have bK:(k:Int)<(g.th.length:Int):=aj;have bN:=h.du.most;obtain ⟨bD,b1,bE,bG,bH⟩:=h.five;have bY:w.cell? ⟨g.y,0,none⟩=some (.pointer (some ⟨g.bm,5,none⟩)):=h.du.blk.cell rfl;have bA:=h.dm.c6;rw [bz] at bA;have H:=ai h;have bc:=ai bk;have ba:=ai ((az w.heap.size w).alloc aD (ke X.kd X.nm X.pl X.ex));have be:=ai (aE.new w (AW X.kd X.nm X.pl X.ex) 172);generalize bj:tD g K X p.2=bC;have aM:=ai bj;go_enter func255,ntmps255;go_wp2_with fail
 go_loopw [8] (fun u wr=>∃i:Nat,i<=g.ss.length/\u=.int .i64 i/\an w wr/\aE wr w.heap.size (AW X.kd X.nm X.pl X.ex) 172/\Hid (∀j,(h:j<g.ss.length)->j<i->Mz g K X p.2 (tt g.ss[j])=false)) (fun u _=>g.ss.length-(intOf u).toNat)
 case atStart=>exact ⟨0,aj,rfl,ba.u,be.u,ai (fun j h bh=>aj)⟩
 case round=>
  obtain ⟨i,hi,rfl,hb,aR,aJ⟩:=hrel;have I1:=H.u.below hb;obtain ⟨aZ,ay,aB,ad,a7⟩:=I1.five;have bZ:wr.cell? ⟨g.y,0,none⟩=some (.pointer (some ⟨g.bm,5,none⟩)):=I1.du.blk.cell rfl;have bB:wr.cell? ⟨g.y,1,none⟩=some g.tv:=I1.du.blk.cell rfl;obtain ⟨ta,tc,aY⟩:=ax I1.du.row;rw [aY] at bB
  by_cases hlt:i<g.ss.length
  ·refine Td ?_;intro hin tg tc2 e1 hc;rw [aY] at e1;simp only [aI,bU] at e1;obtain ⟨rfl,rfl⟩:=e1;have t0:=hc 0 _ aj rfl;refine Aj ?_;intro t1 t2 t3 t4 t5;have t6:=hc 6 _ aj rfl;rw [n8] at t0;have Y:=ai (fun (av:Mz g K X p.2 (tt g.ss[i])=false)=>show ∀j,(h:j<g.ss.length)->j<i+1->Mz g K X p.2 (tt g.ss[j])=false from fun j h bh=>by
    by_cases e:j=i
    ·subst e;exact av
    exact ak aJ j h aj)
   have ap:=ai (fun (av:Mz g K X p.2 (tt g.ss[i])=true)=>(Ws hlt av).symm.trans aM.u);have aN:=ai (bc.u _ (bn hlt));unfold tt at Y ap aN;generalize (bQ g.ss[i]).1=T at*;generalize g.ss[i]=S at*;refine Ta ?_;intro b5 X6 GF;have al:=ai (aR.below b5);refine Te ?_;intro Wq;have bO:¬(w.heap.size=wr.heap.size):=by have:=aR.lt;omega
   go_wp2_with fail;generalize wr.alloc (kk T.kind T.id T.rel T.sub T.who T.of S)=W at*;generalize wr.heap.size=bt at*;obtain ⟨aZ,ay,aB,ad,a7⟩:=GF.u.five;obtain ⟨bu,bI,bv,bx⟩:=bf Mx 2 (fun _=>rfl) GF.u.th k p aV;have k1:W.cell? ⟨bu,k*2+1,none⟩=some (.string p.2):=bx 1 _ aj rfl;rw [bv] at ad;have bW:W.cell? ⟨w.heap.size,0,none⟩=some (.string X.kd):=al.u.cell rfl;have bX:W.cell? ⟨w.heap.size,1,none⟩=some (.string X.nm):=al.u.cell rfl;have t0:W.cell? ⟨bt,0,none⟩=some (.string T.kind):=Wq.u.cell rfl;have t1:W.cell? ⟨bt,1,none⟩=some (.string T.id):=Wq.u.cell rfl;have t2:W.cell? ⟨bt,2,none⟩=some (.string T.rel):=Wq.u.cell rfl;have C:=ai (az W.heap.size W)
   go_cut [69] (fun s aC=>s=.bool (!X7 X p.2 T)/\an W aC)
   case first=>
    cases h1:eqs T.kind X.kd
    ·have U:(T.kind.toList==X.kd.toList)=false:=by rw [<-aK];exact h1
     go_quiet (fail)
     go_wp2
     go_meet
     case rel=>exact ⟨by simp [X7,h1],cF C.u _⟩
    have U:(T.kind.toList==X.kd.toList)=true:=by rw [<-aK];exact h1
    cases h2:eqs T.id p.2
    ·have ar:(T.id.toList==p.2.toList)=false:=by rw [<-aK];exact h2
     go_quiet (fail)
     go_wp2
     go_meet
     case rel=>exact ⟨by simp [X7,h1,h2],cF C.u _⟩
    have ar:(T.id.toList==p.2.toList)=true:=by rw [<-aK];exact h2
    cases D:eqs T.rel X.nm
    ·have au:(T.rel.toList==X.nm.toList)=false:=by rw [<-aK];exact D
     go_quiet (fail)
     go_wp2
     go_meet
     case rel=>exact ⟨by simp [X7,h1,h2,D],cF C.u _⟩
    have au:(T.rel.toList==X.nm.toList)=true:=by rw [<-aK];exact D
    go_quiet (fail)
    go_wp2
    go_meet
    case rel=>exact ⟨by simp [X7,h1,h2,D],cF C.u _⟩
   case rest=>
    obtain ⟨rfl,J⟩:=hcut;have ah:=ai (X6.u.trans (J.mono X6.u.size));have aG:=ai (GF.u.below J);have aO:=ai (al.u.below J);have Z:=ai (Wq.u.below J)
    cases ac:X7 X p.2 T
    ·have R:=ai (ak Y (by unfold Mz;rw [ac];rfl));go_wp2_with fail;exact ⟨⟨i+1,aj,by go_num,ah.u,aO.u,R⟩,by simp [intOf];omega⟩
    obtain ⟨Q,bo⟩:∃z,z=wc:=⟨_,rfl⟩;subst bo;obtain ⟨aZ,ay,aB,ad,a7⟩:=aG.u.five;have t3:Q.cell? ⟨bt,3,none⟩=some (.string T.sub):=Z.u.cell rfl;have t4:Q.cell? ⟨bt,4,none⟩=some (.string T.who):=Z.u.cell rfl;have t5:Q.cell? ⟨bt,5,none⟩=some (.string T.of):=Z.u.cell rfl;have C:=ai (az Q.heap.size Q)
    go_upto_region 7 with fail
    go_cut [95] (fun s aC=>s=.bool (Un g T)/\an Q aC)
    case first=>
     cases h1:eqs T.of My
     ·have U:(T.of.toList== [])=false:=by rw [<-h1,aK,oE]
      go_quiet (fail)
      go_wp2
      go_meet
      case rel=>exact ⟨by simp [Un,h1],cF C.u _⟩
     have U:(T.of.toList== [])=true:=by rw [<-h1,aK,oE]
     cases h2:eqs T.sub g.kd
     ·have ar:(T.sub.toList==g.kd.toList)=false:=by rw [<-aK];exact h2
      go_quiet (fail)
      go_wp2
      go_meet
      case rel=>exact ⟨by simp [Un,h1,h2],cF C.u _⟩
     have ar:(T.sub.toList==g.kd.toList)=true:=by rw [<-aK];exact h2
     cases D:eqs T.who g.who
     ·have au:(T.who.toList==g.who.toList)=false:=by rw [<-aK];exact D
      cases ab:eqs T.who zE
      ·have bi:(T.who.toList== [42])=false:=by rw [<-ab,aK,n9]
       go_quiet (fail)
       go_wp2
       go_meet
       case rel=>exact ⟨by simp [Un,h1,h2,D,ab],cF C.u _⟩
      have bi:(T.who.toList== [42])=true:=by rw [<-ab,aK,n9]
      go_quiet (fail)
      go_wp2
      go_meet
      case rel=>exact ⟨by simp [Un,h1,h2,D,ab],cF C.u _⟩
     have au:(T.who.toList==g.who.toList)=true:=by rw [<-aK];exact D
     go_quiet (fail)
     go_wp2
     go_meet
     case rel=>exact ⟨by simp [Un,h1,h2,D],cF C.u _⟩
    case rest=>
     obtain ⟨rfl,J⟩:=hcut;have V:=ai (ah.u.trans (J.mono ah.u.size));have Um:=ai (aG.u.below J);have aP:=ai (aO.u.below J);have HT7:=ai (Z.u.below J)
     cases aw:Un g T
     ·obtain ⟨W7,bp⟩:∃z,z=wc:=⟨_,rfl⟩;subst bp;have t5:W7.cell? ⟨bt,5,none⟩=some (.string T.of):=HT7.u.cell rfl
      cases h1:eqs T.of My
      ·have U:(T.of.toList== [])=false:=by rw [<-h1,aK,oE]
       obtain ⟨n1,m1,aW,hnl,hm1,hml⟩:=ak aN h1;refine Tb ?_;intro yg yc hyv yn ym;generalize g.bs[n1]'_=a8 at yn ym;have aL:=ai (show Mz g K X p.2 T=K n1 m1 from by
        unfold Mz ofQ;rw [ac,aw,h1,aW,hm1];simp)
       generalize K n1 m1=aQ at*;obtain ⟨c0,ay,aB,ad,c1⟩:=Um.u.five;rw [hyv] at c1;have c2:W7.cell? ⟨g.y,0,none⟩=some (.pointer (some ⟨g.bm,5,none⟩)):=Um.u.du.blk.cell rfl;refine Tc ?_;intro c3 c4;have c5:=t5;have c6:=yn;have c7:=ym;have a9:=ai (fun (w':af) (hb:an W7 w')=>show Calls prog 132 #[.pointer (some ⟨g.bm,5,none⟩),.string T.sub,.string T.of] w' (fun e w''=>e=.returned (.int .i64 (n1:Int))/\an w' w'') from by
        have:=dV g.bm g.kv g.rv g.pv g.kl g.rl g.pl g.l T.sub T.of w' (Um.u.dm.below hb);rw [aW] at this;exact this)
       refine S9 ?_;intro CT ZN ZO;have ag:=ai (az W7.heap.size W7)
       go_upto_region 9 with fail
       go_region_held3 (fun w'=>w'.cell? ⟨g.b,0,none⟩=some (.pointer (some ⟨g.y,0,none⟩))/\w'.cell? ⟨g.b,4,none⟩=some (.slice (some ⟨yg,0,none⟩) g.rl.length yc)/\w'.cell? ⟨g.y,0,none⟩=some (.pointer (some ⟨g.bm,5,none⟩))/\w'.cell? ⟨bt,3,none⟩=some (.string T.sub)/\w'.cell? ⟨bt,4,none⟩=some (.string T.who)/\w'.cell? ⟨bt,5,none⟩=some (.string T.of)/\w'.cell? ⟨yg,n1,none⟩=some (.slice (some ⟨a8,0,none⟩) g.th.length g.th.length)/\w'.cell? ⟨a8,m1,none⟩=some (.bool aQ)) (go_keep)
        ((first|(go_at_call 132;refine (a9.u _ ((by first|exact A.u|exact (cd ag)):an W7 _)).mono ?_;rintro e w5 ⟨rfl,bq⟩;have A:=ai (lh (a:=W7) (B:=W7.heap.size) ((by first|exact A.u|exact (cd ag)):an W7 _) (bq.mono zw));have d0:=am c0 A.u;have d1:=am c1 A.u;have d2:=am c2 A.u;have d3:=am c3 A.u;have d4:=am c4 A.u;have d5:=am c5 A.u;have d6:=am c6 A.u;have d7:=am c7 A.u)|(go_at_call 200;refine (CT.u _ ((by first|exact (cd A)|exact (cd ag)):an W7 _)).mono ?_;rintro e bV ⟨rfl,rfl⟩)))
       have aF:=ai (V.u.trans (A.u.mono V.u.size));have bg:=ai (aP.u.below A.u)
       cases aQ
       ·have R:=ai (ak Y aL.u);go_wp2_with fail;exact ⟨⟨i+1,aj,by go_num,aF.u,bg.u,R⟩,by simp [intOf];omega⟩
       have hF:=ak ap aL.u;subst hF;go_wp2;go_ret;exact ⟨rfl,aF.u⟩
      have U:(T.of.toList== [])=true:=by rw [<-h1,aK,oE]
      have R:=ai (ak Y (by unfold Mz ofQ;rw [ac,aw,h1];rfl))
      go_upto_region 9 with fail
      go_quiet (fail)
      go_wp2_with fail;exact ⟨⟨i+1,aj,by go_num,cF V.u _,aP.u.drewN _,R⟩,by simp [intOf];omega⟩
     have hF:=ak ap (by unfold Mz;rw [ac,aw];rfl);subst hF;go_wp2;go_ret;exact ⟨rfl,V.u⟩
  have hin:¬((i:Int)<(g.ss.length:Int)):=aj;have hF:=Wr (fun j bw=>ak aJ j bw aj);rw [aM.u] at hF;subst hF;have bb:=ai hb;go_wp2;go_ret;exact ⟨rfl,bb.u⟩
def abu (h:aA:=by
 first|exact cF bj _|exact az _ _):aA:=h
def M4(g:GP)(X:RV)(Q:PV)(id:ae)(t:Tu):Bool:=eqs t.kind X.kd&&(eqs t.id id&&(eqs t.rel Q.nb&&(eqs t.of My&&(!eqs t.who zE&&decide (0<=aY t.sub Q.nr g.rl 0)))))
def Th(g:GP)(K:Nat->Nat->Bool)(X:RV)(Q:PV)(id:ae)(t:Tu):Bool:=M4 g X Q id t&&K (aY t.sub Q.nr g.rl 0).toNat (wR g.th t.sub t.who).toNat
def wT(g:GP)(K:Nat->Nat->Bool)(X:RV)(Q:PV)(id:ae):Bool:=g.ss.any fun s=>Th g K X Q id (tt s)
def ThK(g:GP)(t:Tu):Prop:=∃m:Nat,wR g.th t.sub t.who=m/\m<g.th.length
def Wt{g K Q}(h:∀j,(h:j<g.ss.length)->Th g K X Q id (tt g.ss[j])=false):wT g K X Q id=false:=by
 unfold wT;exact S8
def Wu{g K Q}(A:j<g.ss.length)(h:Th g K X Q id (tt g.ss[j])=true):wT g K X Q id=true:=cX.2 ⟨_,bn A,h⟩
def wU(k n):∀(rl:List RV)(i:Nat),aY k n rl i= -1\/∃j:Nat,aY k n rl i=j/\i<=j/\j<i+rl.length
 | [],i=> .inl rfl
 |x::xs,i=>by
  rw [aY]
  split
  ·exact .inr ⟨i,rfl,aj,ar⟩
  rcases wU k n xs (i+1) with h|⟨j,h1,h2,A⟩
  ·exact .inl h
  exact .inr ⟨j,h1,aj,by simp only [List.length_cons];omega⟩
def MA(g K)(r k:Nat)(X)(p:ae×ae)(Q ga pa sa)(U R pn Y ab Z:Nat)(w)(h:GI w g K)(be:g.rl[r]? =some X)(bb:g.th[k]? =some p)(bI:∀s∈g.ss,ThK g (tt s)):
  Calls prog 256 #[.pointer (some ⟨g.b,0,none⟩),.int .i64 r,.int .i64 k,.agg #[.int .i64 Q.kind,.slice ga U R,.string Q.nb,.string Q.nr,.int .i64 Q.pa,.int .i64 Q.pr,.slice pa pn Y,.slice sa ab Z]] w fun e w'=>e=.returned (.bool (wT g K X Q p.2))/\an w w':=by
 have aZ:=(az w.heap.size w).alloc aD (dq Q.kind ga U R Q.nb Q.nr Q.pa Q.pr pa pn Y sa ab Z);have ac:=h.below aZ;obtain ⟨cf,rc,bT,b9,cb,ce,r3⟩:=ac.dm.rat r X be;have b6:=(br.1 be).1;have b2:=(br.1 bb).1;have b7:(r:Int)<(g.rl.length:Int):=aj;have b3:(k:Int)<(g.th.length:Int):=aj;have b8:=h.du.most;obtain ⟨a0,a1,a2,a3,a4⟩:=ac.five;have ch:(w.alloc (dq Q.kind ga U R Q.nb Q.nr Q.pa Q.pr pa pn Y sa ab Z)).cell? ⟨g.y,0,none⟩=some (.pointer (some ⟨g.bm,5,none⟩)):=ac.du.blk.cell rfl;have bV:=ac.dm.c6;rw [bT] at bV;have H:=ai ac;have bq:=ai bI;have aQ:=ai (aE.new w (jZ Q.kind ga U R Q.nb Q.nr Q.pa Q.pr pa pn Y sa ab Z) 255);have b4:w.heap.size<(w.alloc (dq Q.kind ga U R Q.nb Q.nr Q.pa Q.pr pa pn Y sa ab Z)).heap.size:=aQ.u.lt;generalize bH:wT g K X Q p.2=bY;have aV:=ai bH;have aN:=ai aZ;go_enter func256,ntmps256
 go_upto_region 1 with fail
 generalize w.alloc (dq Q.kind ga U R Q.nb Q.nr Q.pa Q.pr pa pn Y sa ab Z)=ad at*;have b1:=(az ad.heap.size ad).alloc aD (ke X.kd X.nm X.pl X.ex);have al:=ai (aN.u.trans (b1.mono aN.u.size));have bo:=ai (H.u.below b1);have aR:=ai (aQ.u.below b1);have bu:=ai (aE.new ad (AW X.kd X.nm X.pl X.ex) 172);go_wp2_with fail;generalize ad.alloc (ke X.kd X.nm X.pl X.ex)=bw at*;generalize ad.heap.size=bx at*
 go_loopw [10] (fun u wr=>∃i:Nat,i<=g.ss.length/\u=.int .i64 i/\an bw wr/\Hid (∀j,(h:j<g.ss.length)->j<i->Th g K X Q p.2 (tt g.ss[j])=false)) (fun u _=>g.ss.length-(intOf u).toNat)
 case atStart=>exact ⟨0,aj,rfl,az _ _,ai (fun j h bz=>aj)⟩
 case round=>
  obtain ⟨i,hi,rfl,hb,aO⟩:=hrel;have I1:=bo.u.below hb;obtain ⟨bh,aJ,aL,au,bi⟩:=I1.five;have bX:wr.cell? ⟨g.y,1,none⟩=some g.tv:=I1.du.blk.cell rfl;obtain ⟨ta,tc,bg⟩:=ax I1.du.row;rw [bg] at bX
  by_cases hlt:i<g.ss.length
  ·refine Td ?_;intro hin tg tc2 e1 hc;rw [bg] at e1;simp only [aI,bU] at e1;obtain ⟨rfl,rfl⟩:=e1;have t0:=hc 0 _ aj rfl;refine Aj ?_;intro t1 t2 t3 t4 t5;have t6:=hc 6 _ aj rfl;rw [n8] at t0;have aB:=ai (fun (aG:Th g K X Q p.2 (tt g.ss[i])=false)=>show ∀j,(h:j<g.ss.length)->j<i+1->Th g K X Q p.2 (tt g.ss[j])=false from fun j h bz=>by
    by_cases e:j=i
    ·subst e;exact aG
    exact ak aO j h aj)
   have aX:=ai (fun (aG:Th g K X Q p.2 (tt g.ss[i])=true)=>(Wu hlt aG).symm.trans aV.u);have aW:=ai (bq.u _ (bn hlt));unfold tt at aB aX aW;generalize (bQ g.ss[i]).1=T at*;generalize g.ss[i]=S at*;refine Ta ?_;intro b5 X6 GF;refine Te ?_;intro Wq
   go_upto_region 6 with fail
   generalize wr.alloc (kk T.kind T.id T.rel T.sub T.who T.of S)=W at*;generalize wr.heap.size=bt at*;obtain ⟨c0,aJ,aL,au,bi⟩:=GF.u.five;have c1:W.cell? ⟨g.y,0,none⟩=some (.pointer (some ⟨g.bm,5,none⟩)):=GF.u.du.blk.cell rfl;have c2:W.cell? ⟨bt,3,none⟩=some (.string T.sub):=Wq.u.cell rfl;have c3:W.cell? ⟨w.heap.size,3,none⟩=some (.string Q.nr):=(aR.u.below X6.u).cell rfl;have bk:=ai (fun (w':af) (hb:an W w')=>dV g.bm g.kv g.rv g.pv g.kl g.rl g.pl g.l T.sub Q.nr w' (GF.u.dm.below hb));have aM:=ai (az W.heap.size W);have bL:=wU T.sub Q.nr g.rl 0;generalize bN:aY T.sub Q.nr g.rl 0=fn at*;have ar:=ai bN;have bp:=ai bL
   go_region_held3 (fun w'=>w'.cell? ⟨g.b,0,none⟩=some (.pointer (some ⟨g.y,0,none⟩))/\w'.cell? ⟨g.y,0,none⟩=some (.pointer (some ⟨g.bm,5,none⟩))/\w'.cell? ⟨bt,3,none⟩=some (.string T.sub)/\w'.cell? ⟨w.heap.size,3,none⟩=some (.string Q.nr)) (go_keep)
    ((go_at_call 132;refine (bk.u _ ((cd aM):an W _)).mono ?_;rintro e w5 ⟨rfl,bK⟩;have A:=ai (lh (a:=W) (B:=W.heap.size) ((cd aM):an W _) (bK.mono zw));have d0:=am c0 A.u;have d1:=am c1 A.u;have d2:=am c2 A.u;have d3:=am c3 A.u))
   have ap:=ai (X6.u.trans (A.u.mono X6.u.size));have ay:=ai (GF.u.below A.u);have J:=ai (Wq.u.below A.u);obtain ⟨bh,aJ,aL,au,bi⟩:=ay.u.five;obtain ⟨bO,b0,bP,bS⟩:=bf Mx 2 (fun _=>rfl) ay.u.th k p bb;have k1:w5.cell? ⟨bO,k*2+1,none⟩=some (.string p.2):=bS 1 _ aj rfl;rw [bP] at au;have cg:w5.cell? ⟨bx,0,none⟩=some (.string X.kd):=(bu.u.below ap.u).cell rfl;have p2:w5.cell? ⟨w.heap.size,2,none⟩=some (.string Q.nb):=(aR.u.below ap.u).cell rfl;have t0:w5.cell? ⟨bt,0,none⟩=some (.string T.kind):=J.u.cell rfl;have t1:w5.cell? ⟨bt,1,none⟩=some (.string T.id):=J.u.cell rfl;have t2:w5.cell? ⟨bt,2,none⟩=some (.string T.rel):=J.u.cell rfl;have t4:w5.cell? ⟨bt,4,none⟩=some (.string T.who):=J.u.cell rfl;have t5:w5.cell? ⟨bt,5,none⟩=some (.string T.of):=J.u.cell rfl;have C:=ai (az w5.heap.size w5)
   go_upto_region 7 with fail
   go_cut [98] (fun s bW=>s=.bool (!M4 g X Q p.2 T)/\an w5 bW)
   case first=>
    cases h1:eqs T.kind X.kd
    ·have bA:(T.kind.toList==X.kd.toList)=false:=by rw [<-aK];exact h1
     go_quiet (fail)
     go_wp2
     go_meet
     case rel=>exact ⟨by simp [M4,h1],cF C.u _⟩
    have bA:(T.kind.toList==X.kd.toList)=true:=by rw [<-aK];exact h1
    cases h2:eqs T.id p.2
    ·have bB:(T.id.toList==p.2.toList)=false:=by rw [<-aK];exact h2
     go_quiet (fail)
     go_wp2
     go_meet
     case rel=>exact ⟨by simp [M4,h1,h2],cF C.u _⟩
    have bB:(T.id.toList==p.2.toList)=true:=by rw [<-aK];exact h2
    cases D:eqs T.rel Q.nb
    ·have bC:(T.rel.toList==Q.nb.toList)=false:=by rw [<-aK];exact D
     go_quiet (fail)
     go_wp2
     go_meet
     case rel=>exact ⟨by simp [M4,h1,h2,D],cF C.u _⟩
    have bC:(T.rel.toList==Q.nb.toList)=true:=by rw [<-aK];exact D
    cases V:eqs T.of My
    ·have bD:(T.of.toList== [])=false:=by rw [<-V,aK,oE]
     go_quiet (fail)
     go_wp2
     go_meet
     case rel=>exact ⟨by simp [M4,h1,h2,D,V],cF C.u _⟩
    have bD:(T.of.toList== [])=true:=by rw [<-V,aK,oE]
    cases ag:eqs T.who zE
    ·have bE:(T.who.toList== [42])=false:=by rw [<-ag,aK,n9]
     by_cases bG:fn<0
     ·have ba:¬(0<=fn):=by omega
      go_quiet (fail)
      go_wp2
      go_meet
      case rel=>exact ⟨by simp [M4,h1,h2,D,V,ag,ar.u,bG],cF C.u _⟩
     have ba:0<=fn:=aj
     go_quiet (fail)
     go_wp2
     go_meet
     case rel=>exact ⟨by simp [M4,h1,h2,D,V,ag,ar.u,ba],cF C.u _⟩
    have bE:(T.who.toList== [42])=true:=by rw [<-ag,aK,n9]
    go_quiet (fail)
    go_wp2
    go_meet
    case rel=>exact ⟨by simp [M4,h1,h2,D,V,ag],cF C.u _⟩
   case rest=>
    obtain ⟨rfl,aF⟩:=hcut;have av:=ai (ap.u.trans (aF.mono ap.u.size));have Um:=ai (ay.u.below aF);have HT7:=ai (J.u.below aF)
    cases ah:M4 g X Q p.2 T
    ·have aC:=ai (ak aB (by unfold Th;rw [ah];rfl));go_wp2_with fail;exact ⟨⟨i+1,aj,by go_num,av.u,aC⟩,by simp [intOf];omega⟩
    obtain ⟨W7,bJ⟩:∃z,z=wc:=⟨_,rfl⟩;subst bJ;obtain ⟨n1,bc,hnl⟩:∃n1:Nat,fn=n1/\n1<g.rl.length:=by
     have h0:0<=aY T.sub Q.nr g.rl 0:=by
      unfold M4 at ah;simp only [bM,jo] at ah;exact ah.2.2.2.2.2
     rw [ar.u] at h0
     rcases bp.u with e|⟨j,e1,_,bZ⟩
     ·omega
     exact ⟨j,e1,aj⟩
    obtain ⟨m1,hm1,hml⟩:=ak aW;refine Tb ?_;intro yg yc hyv yn ym;generalize g.bs[n1]'_=ci at yn ym;have aP:=ai (show Th g K X Q p.2 T=K n1 m1 from by
     unfold Th;rw [ah,ar.u,bc,hm1];simp)
    generalize K n1 m1=bv at*;obtain ⟨bh,aJ,aL,au,c0⟩:=Um.u.five;rw [hyv] at c0;refine Tc ?_;intro c1 c2;have c4:=ym;refine S9 ?_;intro CT ZN ZO;have aw:=ai (al.u.trans (av.u.mono al.u.size));subst bc
    go_upto_region 8 with fail
    go_quiet ((go_at_call 200;exact Calls.quiet_of_same (CT.u _ abu)))
    cases bv
    ·have aC:=ai (ak aB aP.u);go_wp2_with fail;exact ⟨⟨i+1,aj,by go_num,cF av.u _,aC⟩,by simp [intOf];omega⟩
    have hF:=ak aX aP.u;subst hF;go_wp2;go_ret;exact ⟨rfl,cF aw.u _⟩
  have hin:¬((i:Int)<(g.ss.length:Int)):=aj;have hF:=Wt (fun j bR=>ak aO j bR aj);rw [aV.u] at hF;subst hF;have aw:=ai (al.u.trans (hb.mono al.u.size));go_wp2;go_ret;exact ⟨rfl,aw.u⟩
def Ti (h:aA:=by
 go_enter func234,ntmps234;rw [hk] at*;go_wp2_with fail;refine C.u.mono ?_;rintro e w1 ⟨rfl,D⟩;have A:=ai (HB.u.trans (D.mono HB.u.size));go_wp2;go_ret;exact ⟨rfl,A.u⟩):aA:=h
def wV(q:aU) (h:bF aU->aA:=by
 intro zq;have b0:=(az w.heap.size w).alloc aD (dq p.kind ga p.gs.length gc p.nb p.nr p.pa p.pr pa p.ps.length pc sa p.sg.length sc);have HB:=ai b0;have HI:=ai (h.below b0);have HP:=ai (aE.new w (jZ p.kind ga p.gs.length gc p.nb p.nr p.pa p.pr pa p.ps.length pc sa p.sg.length sc) 255)
 revert b0 HB HI HP
 exact zq.1):aA:=h ⟨q⟩
def wW(q:aU) (h:bF aU->aA:=by
 intro zq;obtain ⟨pg,pc0,ga,gc,pa,pc,sa,sc,hpv,iF,e0,e1,e2,e3,e4,e5,e6,e7⟩:=h.dm.pat n p hp;have hnl:(n:Int)<(g.pl.length:Int):=by have:=(br.1 hp).1;omega
 have hpm:=h.dm.pn;have a0:=h.five.1;have y0:w.cell? ⟨g.y,0,none⟩=some (.pointer (some ⟨g.bm,5,none⟩)):=h.du.blk.cell rfl;have m7:=h.dm.c7
 revert pg pc0 ga gc pa pc sa sc hpv iF e0 e1 e2 e3 e4 e5 e6 e7 hnl hpm a0 y0 m7
 exact zq.1):aA:=h ⟨q⟩
def tiN(g:GP)(K:Nat->Nat->Bool)(X:RV)(x y id:ae):Bool:=wT g K X ⟨3,[],x,y,0,0,[],[]⟩ id
def lu(g:GP)(K:Nat->Nat->Bool)(X:RV)(k:Nat)(id:ae):Ex->Bool
 |⟨n,some x,some y⟩=>if n.kind=3 then lu g K X k id x||lu g K X k id y else if n.kind=4 then lu g K X k id x&&lu g K X k id y else lu g K X k id x&& !lu g K X k id y
 |⟨n,none,_⟩=>if n.kind=0 then tD g K X id else if n.kind=1 then K (aY X.kd n.n1 g.rl 0).toNat k else tiN g K X n.n1 n.n2 id
 |⟨_,some _,none⟩=>false
def Tj(g:GP)(K:Nat->Nat->Bool)(r k n:Nat)(v:Bool):Prop:=∀w,GI w g K->Calls prog 234 #[.pointer (some ⟨g.b,0,none⟩),.int .i64 r,.int .i64 k,.int .i64 n] w fun e w'=>e=.returned (.bool v)/\an w w'
def EF(g K X k id):∀(rs:List (ae×Nat×Ex)) (x:Ex),(∀r∈rs,r.1=sg 38\/r.1=sg 45)->lu g K X k id (ec x rs)=(lu g K X k id x&&rs.all fun r=>lu g K X k id r.2.2 != minus ⟨bJ r.1,r.2.1,false⟩)
 | [],x,_=>by simp [ec]
 |(t,q,y)::rs,x,h=>by
  rw [ec,EF g K X k id rs _ (fun r A=>h r (eO _ A)),List.all_cons,<-rR]
  congr 1
  simp only [qJ]
  rcases h (t,q,y) eb with e|e
  ·have e':t=sg 38:=e;subst e';have h1:eqs (sg 38) (sg 45)=false:=au;simp [fU,lu,h1,show kindOf (sg 38)=4 from by decide]
  have e':t=sg 45:=e;subst e';have h1:eqs (sg 45) (sg 45)=true:=au;simp [fU,lu,h1,show kindOf (sg 45)=5 from by decide]
def Ka(g K X k id):∀(rs:List (ae×Nat×Ex)) (x:Ex),(∀r∈rs,r.1=sg 124)->lu g K X k id (ec x rs)=(lu g K X k id x||rs.any fun r=>lu g K X k id r.2.2)
 | [],x,_=>by simp [ec]
 |(t,q,y)::rs,x,h=>by
  rw [ec,Ka g K X k id rs _ (fun r A=>h r (eO _ A)),j2,<-Bool.or_assoc]
  congr 1
  have e':t=sg 124:=h (t,q,y) eb;subst e';simp [fU,lu,show kindOf (sg 124)=3 from by decide]
def ME(g K r k n X)(q:ae×ae)(p)(hp:g.pl[n]? =some p)(hk:p.kind=1)(Q:g.rl[r]? =some X)(J:g.th[k]? =some q)(I:∀s∈g.ss,Tf g (tt s)):Tj g K r k n (tD g K X q.2):=fun w h=>by
 refine wW ?_;intro pg pc0 ga gc pa pc sa sc hpv iF e0 e1 e2 e3 e4 e5 e6 e7 hnl hpm a0 y0 m7;rw [hpv] at m7;refine wV ?_;intro b0 HB HI HP;have C:=ai (Bz g K r k X q _ HI.u Q J I);exact Ti
def Tl(g K r k n X)(q:ae×ae)(p)(hp:g.pl[n]? =some p)(hk:p.kind=3)(Q:g.rl[r]? =some X)(J:g.th[k]? =some q)(I:∀s∈g.ss,ThK g (tt s)):Tj g K r k n (tiN g K X p.nb p.nr q.2):=fun w h=>by
 refine wW ?_;intro pg pc0 ga gc pa pc sa sc hpv iF e0 e1 e2 e3 e4 e5 e6 e7 hnl hpm a0 y0 m7;rw [hpv] at m7;refine wV ?_;intro b0 HB HI HP;have C:=ai (MA g K r k X q p ga pa sa p.gs.length gc p.ps.length pc p.sg.length sc _ HI.u Q J I);exact Ti
def Wv (h:aA:=by
 rw [eo,aH hlt];rfl):aA:=h
def Tm(q:aU) (h:bF aU->aA:=by
 intro zq;have x6:wr.cell? ⟨w.heap.size,6,none⟩=some (.slice pa p.ps.length pc):=(HP.u.below hb).cell rfl;have x7:wr.cell? ⟨w.heap.size,7,none⟩=some (.slice sa p.sg.length sc):=(HP.u.below hb).cell rfl;have Ww:=ai (HB.u.trans (hb.mono HB.u.size))
 revert x6 x7 Ww
 exact zq.1):aA:=h ⟨q⟩
def Tn(q:aU) (h:bF aU->aA:=by
 intro zq;refine CT.u.mono ?_;rintro e w1 ⟨rfl,hb1⟩;have V8:=ai (HBL.u.trans (hb1.mono HBL.u.size));have HE1:=ai (Ww.u.trans (hb1.mono Ww.u.size))
 revert w1 hb1 V8 HE1
 exact zq.1):aA:=h ⟨q⟩
def To(g K)(r k n n1:Nat)(X p)(hp:g.pl[n]? =some p)(ak:p.kind=2)(U:g.rl[r]? =some X)(al:k<g.th.length)(ah:aY X.kd p.nr g.rl 0=n1)(D:n1<g.rl.length):Tj g K r k n (K n1 k):=fun w h=>by
 refine wW ?_;intro pg pc0 ga gc pa pc sa sc hpv iF e0 e1 e2 e3 e4 e5 e6 e7 hnl hpm a0 y0 m7;rw [hpv] at m7;refine wV ?_;intro b0 HB HI HP;generalize Q:K n1 k=ae;have ad:=ai Q;clear h b0 iF Q;go_enter func234,ntmps234;rw [ak] at*
 go_upto_region 6 with fail
 clear e0 e1 e2 e3 e4 e5 e6 e7 a0 y0 m7;generalize w.alloc (dq (2:Nat) ga p.gs.length gc p.nb p.nr p.pa p.pr pa p.ps.length pc sa p.sg.length sc)=W at*;obtain ⟨Y,aB,ar,Z⟩:=aS HI.u.yr n1 (.slice (some ⟨g.bs[n1]'(by rw [HI.u.bl];exact D),0,none⟩) g.th.length g.th.length) (by rw [eo,aH (by rw [HI.u.bl];exact D)];rfl);have c7:=(HI.u.yb n1 _ (aH (by rw [HI.u.bl];exact D))).cell al;have c6:=Z;generalize g.bs[n1]'_=ab at c6 c7;rw [ad.u] at c7;obtain ⟨V,rc,ap,J,ax,ay,r3⟩:=HI.u.dm.rat r X U;have c3:=HI.u.dm.c6;rw [ap] at c3;obtain ⟨c0,au,av,aw,c1⟩:=HI.u.five;rw [ar] at c1;have c2:W.cell? ⟨g.y,0,none⟩=some (.pointer (some ⟨g.bm,5,none⟩)):=HI.u.du.blk.cell rfl;have c5:W.cell? ⟨w.heap.size,3,none⟩=some (.string p.nr):=HP.u.cell rfl;have aG:(r:Int)<(g.rl.length:Int):=by have:=(br.1 U).1;omega
 have aC:(k:Int)<(g.th.length:Int):=aj;have aF:(n1:Int)<(g.rl.length:Int):=aj;have I:=ai (fun (w':af) (ag:an W w')=>show Calls prog 132 #[.pointer (some ⟨g.bm,5,none⟩),.string X.kd,.string p.nr] w' (fun e w''=>e=.returned (.int .i64 (n1:Int))/\an w' w'') from by
  have:=dV g.bm g.kv g.rv g.pv g.kl g.rl g.pl g.l X.kd p.nr w' (HI.u.dm.below ag);rw [ah] at this;exact this)
 have C:=ai (az W.heap.size W);clear Z au av aw ax ay r3
 go_region_held3 (fun w'=>w'.cell? ⟨g.b,0,none⟩=some (.pointer (some ⟨g.y,0,none⟩))/\w'.cell? ⟨g.b,4,none⟩=some (.slice (some ⟨Y,0,none⟩) g.rl.length aB)/\w'.cell? ⟨g.y,0,none⟩=some (.pointer (some ⟨g.bm,5,none⟩))/\w'.cell? ⟨g.bm,6,none⟩=some (.slice (some ⟨V,0,none⟩) g.rl.length rc)/\w'.cell? ⟨V,r*4,none⟩=some (.string X.kd)/\w'.cell? ⟨w.heap.size,3,none⟩=some (.string p.nr)/\w'.cell? ⟨Y,n1,none⟩=some (.slice (some ⟨ab,0,none⟩) g.th.length g.th.length)/\w'.cell? ⟨ab,k,none⟩=some (.bool ae)) (go_keep)
  ((go_at_call 132;refine (I.u _ ((cd C):an W _)).mono ?_;rintro e w5 ⟨rfl,R⟩;have A:=ai (lh (a:=W) (B:=W.heap.size) ((cd C):an W _) (R.mono zw));have d0:=am c0 A.u;have d1:=am c1 A.u;have d2:=am c2 A.u;have d3:=am c3 A.u;have d4:=am J A.u;have d5:=am c5 A.u;have d6:=am c6 A.u;have d7:=am c7 A.u;clear R))
 have ac:=ai (HB.u.trans (A.u.mono HB.u.size));clear c0 c1 c2 c3 J c5 c6 c7 d0 d1 d2 d3 d4 d5 d6 d7 I C;go_wp2;go_ret;exact ⟨rfl,ac.u⟩
def MF(g K r k n p vf)(hp:g.pl[n]? =some p)(ab:p.kind=5)(ad:p.ps.length<=1000)(ac:∀i m,p.ps[i]? =some m->Tj g K r k m (vf i)):Tj g K r k n (mI p.ps.length vf):=fun w h=>by
 refine wW ?_;intro pg pc0 ga gc pa pc sa sc hpv iF e0 e1 e2 e3 e4 e5 e6 e7 hnl hpm a0 y0 m7;rw [hpv] at m7;refine wV ?_;intro b0 HB HI HP;have R:=ai (aB iF.p b0);have U:=ai ac;generalize Y:mI p.ps.length vf=I;have D:=ai Y;go_enter func234,ntmps234;rw [ab] at*
 go_upto_region 10 with fail
 generalize w.alloc (dq (5:Nat) ga p.gs.length gc p.nb p.nr p.pa p.pr pa p.ps.length pc sa p.sg.length sc)=W at*;go_wp2_with fail
 go_loopw [10] (fun u wr=>∃i:Nat,i<=p.ps.length/\u=.int .i64 i/\an W wr/\Hid (mI i vf=false)) (fun u _=>p.ps.length-(intOf u).toNat)
 case atStart=>exact ⟨0,aj,rfl,az _ _,ai rfl⟩
 case round=>
  obtain ⟨i,hi,rfl,A,C⟩:=hrel;have ag:wr.cell? ⟨w.heap.size,6,none⟩=some (.slice pa p.ps.length pc):=(HP.u.below A).cell rfl;have Ww:=ai (HB.u.trans (A.mono HB.u.size))
  by_cases hlt:i<p.ps.length
  ·have Z:(i:Int)<(p.ps.length:Int):=by omega
   obtain ⟨af,ae,e1,hc⟩:=aS (aB R.u A) i (.int .i64 (p.ps[i]:Nat)) Wv;simp only [aI,bU] at e1;obtain ⟨rfl,rfl⟩:=e1;have CT:=ai (U.u i _ (aH hlt) wr (HI.u.below A));generalize p.ps[i]=m at*;have V:=ai (fun e=>by rw [<-D.u,n7];exact ⟨i,hlt,e⟩:vf i=true->I=true);have J:=ai (fun e=>by rw [mI,ak C,e];rfl:vf i=false->mI (i+1) vf=false);have HBL:=ai A;generalize vf i=v at*;go_wp2_with fail;refine Tn ?_;intro w1 hb1 V8 HE1
   cases v
   ·have Q:=ai (J.u rfl);go_wp2_with fail;exact ⟨⟨i+1,aj,by go_num,V8.u,Q⟩,by simp [intOf];omega⟩
   have hF:=V.u rfl;subst hF;go_wp2;go_ret;exact ⟨rfl,HE1.u⟩
  obtain rfl:i=p.ps.length:=aj;have Z:¬((p.ps.length:Int)<(p.ps.length:Int)):=aj;have hF:I=false:=by rw [<-D.u];exact ak C
  subst hF;go_wp2;go_ret;exact ⟨rfl,Ww.u⟩
def Ig(g)(K:Nat->Nat->Bool)(r k n p)(C A:Nat->Bool)(hp:g.pl[n]? =some p)(ar:p.kind=4)(aw:p.ps.length<=1000)(ab:p.sg.length=p.ps.length)(hs:∀i t,p.sg[i]? =some t->minus t=A i)(ac:∀i m,p.ps[i]? =some m->Tj g K r k m (C i)):Tj g K r k n (!mI p.ps.length (fun i=>C i==A i)):=fun w h=>by
 refine wW ?_;intro pg pc0 ga gc pa pc sa sc hpv iF e0 e1 e2 e3 e4 e5 e6 e7 hnl hpm a0 y0 m7;rw [hpv] at m7;refine wV ?_;intro b0 HB HI HP;have af:=ai (aB iF.p b0);have ag:=ai (aB iF.s b0);have am:=ai ac;have al:=ai hs;generalize V:(!mI p.ps.length (fun i=>C i==A i))=U;have R:=ai V;have ah:=ai ab;clear h b0 iF ac V hs ab;go_enter func234,ntmps234;rw [ar] at*
 go_upto_region 17 with fail
 clear e0 e1 e2 e3 e4 e5 e6 e7 a0 y0 m7;generalize w.alloc (dq (4:Nat) ga p.gs.length gc p.nb p.nr p.pa p.pr pa p.ps.length pc sa p.sg.length sc)=W at*;go_wp2_with fail
 go_loopw [12] (fun u wr=>∃i:Nat,i<=p.ps.length/\u=.int .i64 i/\an W wr/\Hid (mI i (fun i=>C i==A i)=false)) (fun u _=>p.ps.length-(intOf u).toNat)
 case atStart=>exact ⟨0,aj,rfl,az _ _,ai rfl⟩
 case round=>
  obtain ⟨i,hi,rfl,hb,I⟩:=hrel;refine Tm ?_;intro x6 x7 Ww
  by_cases hlt:i<p.ps.length
  ·have ap:(i:Int)<(p.ps.length:Int):=by omega
   have Z:i<p.sg.length:=by rw [ah.u];exact hlt
   have ax:(i:Int)<(p.sg.length:Int):=aj;obtain ⟨aC,ay,e1,hc⟩:=aS (aB af.u hb) i (.int .i64 (p.ps[i]:Nat)) Wv;simp only [aI,bU] at e1;obtain ⟨rfl,rfl⟩:=e1;obtain ⟨aG,aF,e2,Y⟩:=bf eW 3 (fun _=>rfl) (aB ag.u hb) i p.sg[i] (aH Z);simp only [aI,bU] at e2;obtain ⟨rfl,rfl⟩:=e2;have ad:=Y 0 _ aj rfl;rw [n8] at ad;have CT:=ai (am.u i _ (aH hlt) wr (HI.u.below hb));have av:=al.u i _ (aH Z);generalize p.ps[i]=m at*;generalize p.sg[i]=t at*;have Q:=ai (show (C i==A i)=true->U=false from fun e=>by
    rw [<-R.u];have:mI p.ps.length (fun i=>C i==A i)=true:=n7.2 ⟨i,hlt,e⟩;rw [this];rfl)
   have J:=ai (fun e=>by rw [mI,ak I,e];rfl:(C i==A i)=false->mI (i+1) (fun i=>C i==A i)=false);have HBL:=ai hb;generalize C i=v at*;generalize A i=l at*;unfold minus at av;clear hb I Y;go_wp2_with fail;refine Tn ?_;intro w1 hb1 V8 HE1;clear hb1 CT x6 x7 hc ad
   cases D:(v==l)
   ·have ae:=ai (J.u D);clear J Q
    cases v<;>cases l<;>first|(exact absurd D au)|(
     clear D;go_wp2_with fail;exact ⟨⟨i+1,aj,by go_num,V8.u,ae⟩,by simp [intOf];omega⟩)
   have hF:=Q.u D;subst hF;clear J Q
   cases v<;>cases l<;>first|(exact absurd D au)|(
    clear D;go_wp2;go_ret;exact ⟨rfl,HE1.u⟩)
  obtain rfl:i=p.ps.length:=aj;have ap:¬((p.ps.length:Int)<(p.ps.length:Int)):=aj;have hF:U=true:=by rw [<-R.u,ak I];rfl
  subst hF;clear hb;go_wp2;go_ret;exact ⟨rfl,Ww.u⟩
def Wx (h:aA:=by
 rw [eo,aH hi];rfl):aA:=h
def zc99q (h:aA:=by
 rw [dR,aZ]
 rcases bi.1 hy with rfl|hy
 ·omega
 obtain ⟨a,b,e⟩:=uP hy;rw [e];exact Qd):aA:=h
def ZP (h:aA:=by
 rw [hpl];refine aP (wX _ (fun y C=> ?_)) ?_
 ·obtain ⟨m,_,A⟩:=cG.memr _ _ Uo y C;exact BC g.pl f m y A
 rw [dR] at hl
 simpa using hl):aA:=h
def ZQ (h:aA:=by
 rw [dR,aQ]
 rcases bi.1 hy with rfl|hy
 ·exact .inl he
 exact .inr (bS.2 ⟨y,hy,he⟩)):aA:=h
def Tq(q:aU) (h:bF aU->aA:=by
 intro zq;have hpl:p.ps.length=(x0::rs.map fun r=>r.2.2).length:=cG.len _ _ Uo
 revert hpl
 exact zq.1):aA:=h ⟨q⟩
def ue{R}:∀{ns:List Nat} {xs:List Ex},cG R ns xs->∀{i m:Nat},ns[i]? =some m->∃y,xs[i]? =some y/\R m y
 | [],[],_,i,m,h=>by simp at h
 |n::ns,x::xs,h,0,m,e=>by
  simp only [List.getElem?_cons_zero,aL] at e;subst e;exact ⟨x,rfl,h.1⟩
 |n::ns,x::xs,h,i+1,m,e=>by
  simp only [List.getElem?_cons_succ] at e ⊢;exact ue h.2 e
 | [],_::_,h,_,_,_=>h.elim
 |_::_,[],h,_,_,_=>h.elim
def BC(pl):∀(f n:Nat)(x:Ex),Tr pl f n x->0<(aJ x).length
 |0,_,_,h=>h.elim
 |f+1,n,x,⟨p,hp,h⟩=>by
  rcases h with ⟨_,_,rfl⟩|⟨_,_,_,rfl⟩|⟨_,_,_,rfl⟩|⟨_,_,C,ns,D,rs,_,A,_,_,_,rfl⟩|⟨_,_,_,C,ns,D,rs,_,A,_,_,_,rfl⟩
  ·simp [aJ]
  ·simp [aJ]
  ·simp [aJ]
  ·have:=BC pl f _ _ A;rw [dR,aZ];omega
  have:=BC pl f _ _ A;rw [dR,aZ];omega
def wX:∀(A:List Ex),(∀y∈A,0<(aJ y).length)->A.length<=(A.flatMap aJ).length
 | [],_=>ar
 |y::A,h=>by
  have:=wX A (fun z C=>h z (eO _ C));have:=h y eb;exact AP
def Up{α:Type}(f:α->Bool)(l:List α)(i:Nat):Bool:=match l[i]? with
 |some y=>f y
 |none=>false
def ip{f:α->Bool}{l:List α}{y:α}(h:l[i]? =some y):Up f l i=f y:=by unfold Up;rw [h]
def MG(f:α->Bool):∀(l:List α),mI l.length (Up f l)=l.any f:=fun l=>by
 rw [gJ,n7,cX]
 constructor
 ·rintro ⟨i,hi,h⟩;rw [ip (aH hi)] at h;exact ⟨_,bn hi,h⟩
 rintro ⟨y,A,h⟩;obtain ⟨i,hi,rfl⟩:=dk A;exact ⟨i,hi,by rw [ip (aH hi)];exact h⟩
def zF:minus ⟨[],0,false⟩=false:=by
 unfold minus;rw [aO]
 rfl
section
variable (g:GP)(K:Nat->Nat->Bool)(r k:Nat)(X:RV)(q:ae×ae)
def zG(R:g.rl[r]? =some X)(Q:g.th[k]? =some q)(Z:∀s∈g.ss,Tf g (tt s))(ab:∀s∈g.ss,ThK g (tt s)):∀(f n:Nat)(x:Ex),Tr g.pl f n x->(aJ x).length<=1000->(∀e∈aJ x,e.nd.kind=1->∃j:Nat,aY X.kd e.nd.n1 g.rl 0=j/\j<g.rl.length)->Tj g K r k n (lu g K X k q.2 x)
 |0,_,_,h,_,_=>h.elim
 |f+1,n,x,⟨p,hp,h⟩,hl,ho=>by
  have ad:=zG R Q Z ab f
  rcases h with ⟨h1,_,rfl⟩|⟨h1,_,_,rfl⟩|⟨h1,_,_,rfl⟩|⟨h1,_,ah,ns,x0,rs,h3,h4,h5,J,⟨Y,ai⟩,rfl⟩|⟨h1,_,_,ah,ns,x0,rs,h3,h4,h5,J,Y,rfl⟩
  ·exact ME g K r k n X q p hp h1 R Q Z
  ·obtain ⟨j,ac,ag⟩:=ho ⟨⟨1,p.pa,p.nr,p.pa,em,0,[]⟩,none,none⟩ (aR.2 rfl) rfl;have:=To g K r k n j X p hp h1 R (br.1 Q).1 ac ag;have e:lu g K X k q.2 ⟨⟨1,p.pa,p.nr,p.pa,em,0,[]⟩,none,none⟩=K j k:=by
    show K (aY X.kd p.nr g.rl 0).toNat k=K j k
    rw [show aY X.kd p.nr g.rl 0=j from ac]
    rfl
   rw [e];exact this
  ·exact Tl g K r k n X q p hp h1 R Q ab
  ·have Uo:cG (Tr g.pl f) p.ps (x0::rs.map fun r=>r.2.2):=by rw [h3];exact ⟨h4,h5⟩
   have hys:∀y∈x0::rs.map (fun r=>r.2.2),∀e∈aJ y,e∈aJ (ec x0 rs):=fun y hy e he=>by
    exact ZQ
   have hlen:∀y∈x0::rs.map (fun r=>r.2.2),(aJ y).length<=(aJ (ec x0 rs)).length:=fun y hy=>by
    exact zc99q
   have hpl:p.ps.length=(x0::rs.map fun r=>r.2.2).length:=cG.len _ _ Uo
   have hpn:p.ps.length<=1000:=by
    exact ZP
   have ae:p.sg=((x0,(⟨[],0,false⟩:Tk))::rs.map fun r=>(r.2.2,(⟨bJ r.1,r.2.1,false⟩:Tk))).map Prod.snd:=by rw [J];simp
   have af:(x0::rs.map fun r=>r.2.2)=((x0,(⟨[],0,false⟩:Tk))::rs.map fun r=>(r.2.2,(⟨bJ r.1,r.2.1,false⟩:Tk))).map Prod.fst:=ar;have:=Ig g K r k n p (Up (lu g K X k q.2) (x0::rs.map fun r=>r.2.2)) (Up minus p.sg) hp h1 hpn (by rw [hpl,J];simp) (fun i t D=>(ip D).symm) (fun i m U=>by
    obtain ⟨y,hy,D⟩:=ue Uo U;rw [ip hy];have I:=bA hy;exact ad m y D (aP (hlen y I) hl) (fun e he=>ho e (hys y I e he)))
   have e:(!mI p.ps.length (fun i=>Up (lu g K X k q.2) (x0::rs.map fun r=>r.2.2) i==Up minus p.sg i))=lu g K X k q.2 (ec x0 rs):=by
    rw [EF g K X k q.2 rs x0 Y];have V:∀(L:List (Ex×Tk)),mI L.length (fun i=>Up (lu g K X k q.2) (L.map Prod.fst) i==Up minus (L.map Prod.snd) i)=L.any (fun z=>lu g K X k q.2 z.1==minus z.2):=fun L=>by
     rw [gJ,n7,cX]
     constructor
     ·rintro ⟨i,hi,h⟩;rw [ip (y:=L[i].1) Wx,ip (y:=L[i].2) Wx] at h;exact ⟨_,bn hi,h⟩
     rintro ⟨z,V,h⟩;obtain ⟨i,hi,rfl⟩:=dk V;exact ⟨i,hi,by rw [ip (y:=L[i].1) Wx,ip (y:=L[i].2) Wx];exact h⟩
    rw [hpl,ae,af,bX,V];simp only [List.any_cons,pH,zF];rw [Bool.not_or,List.not_any_eq_all_not]
    congr 1
    ·cases lu g K X k q.2 x0<;>rfl
   rw [e] at this;exact this
  have Uo:cG (Tr g.pl f) p.ps (x0::rs.map fun r=>r.2.2):=by rw [h3];exact ⟨h4,h5⟩
  have hys:∀y∈x0::rs.map (fun r=>r.2.2),∀e∈aJ y,e∈aJ (ec x0 rs):=fun y hy e he=>by
   exact ZQ
  have hlen:∀y∈x0::rs.map (fun r=>r.2.2),(aJ y).length<=(aJ (ec x0 rs)).length:=fun y hy=>by
   exact zc99q
  have hpl:p.ps.length=(x0::rs.map fun r=>r.2.2).length:=cG.len _ _ Uo
  have hpn:p.ps.length<=1000:=by
   exact ZP
  have:=MF g K r k n p (Up (lu g K X k q.2) (x0::rs.map fun r=>r.2.2)) hp h1 hpn (fun i m U=>by
   obtain ⟨y,hy,D⟩:=ue Uo U;rw [ip hy];have I:=bA hy;exact ad m y D (aP (hlen y I) hl) (fun e he=>ho e (hys y I e he)))
  rw [hpl,MG] at this;rw [Ka g K X k q.2 rs x0 J];rw [j2,pH] at this;exact this
end
def Tt (h:aA:=by
 go_wp2_with fail;exact ⟨⟨r+1,K2,EG,aj,by go_num,rfl,LM.u,XJ.u,HW2.u,E9⟩,by simp [intOf];omega⟩):aA:=h
def prs(g:GP):List (Nat×Nat):=(List.range g.rl.length).flatMap fun r=>(List.range g.th.length).map fun k=>(r,k)
def BD(g:GP)(K:Nat->Nat->Bool):Nat:=(prs g).countP fun p=> !K p.1 p.2
def Wy{g r}(A:r<g.rl.length)(h:k<g.th.length):(r,k)∈prs g:=bS.2 ⟨r,List.mem_range.2 A,aN.2 ⟨k,List.mem_range.2 h,rfl⟩⟩
def ZR{g K r}(D:r<g.rl.length)(C:k<g.th.length)(h:K r k=false):BD g (Bx K r k)<BD g K:=by
 refine sE (fun p A=> ?_) _ (r,k) (Wy D C) DH (by simp [Bx]);unfold Bx at A
 split at A
 ·cases A
 exact A
def Kb{K r}(h:K a b=true):Bx K r k a b=true:=by
 unfold Bx
 split
 ·rfl
 exact h
def ZS(g:GP)(lv:List Nat)(bd:Nat->Ex)(n:Nat)(K:Nat->Nat->Bool):Prop:=∀r k X q,g.rl[r]? =some X->g.th[k]? =some q->lv[r]? =some n->q.1=X.kd->lu g K X k q.2 (bd r)=true->K r k=true
def StD(g:GP)(lv:List Nat)(bd:Nat->Ex)(n:Nat)(h:(Nat->Nat->Bool)->Prop):Prop:=∀K r k X q,h K->g.rl[r]? =some X->g.th[k]? =some q->lv[r]? =some n->q.1=X.kd->lu g K X k q.2 (bd r)=true->h (Bx K r k)
structure MH(g:GP)(lv:List Nat)(bd:Nat->Ex)(n:Nat)(J:(Nat->Nat->Bool)->Prop)(K K':Nat->Nat->Bool)(more:Bool)(r0 k0:Nat):Prop where
 j:J K'
 le:∀r k,K r k=true->K' r k=true
 no:more=false->K'=K/\∀r k X q,(r<r0\/(r=r0/\k<k0))->g.rl[r]? =some X->g.th[k]? =some q->lv[r]? =some n->q.1=X.kd->lu g K X k q.2 (bd r)=true->K r k=true
 yes:more=true->BD g K'<BD g K
def Tv(g:GP)(lv:List Nat)(bd:Nat->Ex)(n:Nat)(A:(Nat->Nat->Bool)->Prop)(K:Nat->Nat->Bool)(w:af)(e:Ending)(w':af):Prop:=∃h more,e=.returned (.bool more)/\GI w' g h/\A h/\bG (fun k=>k∈g.bs) w w'/\(∀r k,K r k=true->h r k=true)/\(more=false->h=K/\ZS g lv bd n K)/\(more=true->BD g h<BD g K)
def MH.skip{g lv bd}{Q:(Nat->Nat->Bool)->Prop}{K K' r}(h:MH g lv bd n Q K K' more r k)(hs:more=false->∀X q,g.rl[r]? =some X->g.th[k]? =some q->lv[r]? =some n->q.1=X.kd->lu g K X k q.2 (bd r)=true->K r k=true):MH g lv bd n Q K K' more r (k+1):=
 ⟨h.j,h.le,fun A=>⟨(h.no A).1,fun a b X q D C J hl I hv=>by
  rcases D with D|⟨rfl,R⟩
  ·exact (h.no A).2 a b X q (.inl D) C J hl I hv
  by_cases e:b=k
  ·subst e;exact hs A X q C J hl I hv
  exact (h.no A).2 a b X q (.inr ⟨rfl,aj⟩) C J hl I hv⟩,h.yes⟩
def MH.row{g lv bd}{I:(Nat->Nat->Bool)->Prop}{K K' r}(h:MH g lv bd n I K K' more r k)(hs:∀U X q,k<=U->g.rl[r]? =some X->g.th[U]? =some q->lv[r]? =some n->False):MH g lv bd n I K K' more (r+1) 0:=
 ⟨h.j,h.le,fun C=>⟨(h.no C).1,fun a b X q J A D hl R hv=>by
  rcases J with J|⟨_,Q⟩
  ·by_cases e:a=r
   ·subst e
    by_cases Q:b<k
    ·exact (h.no C).2 a b X q (.inr ⟨rfl,Q⟩) A D hl R hv
    exact (hs b X q aj A D hl).elim
   exact (h.no C).2 a b X q (.inl aj) A D hl R hv
  omega⟩,h.yes⟩
def MH.up{g lv bd n}{D:(Nat->Nat->Bool)->Prop}{K K' more r k}(h:MH g lv bd n D K K' more r k)(Q:StD g lv bd n D){X}{C:ae×ae}(I:g.rl[r]? =some X)(J:g.th[k]? =some C)(Y:lv[r]? =some n)(U:C.1=X.kd)(Z:lu g K' X k C.2 (bd r)=true)(V:K' r k=false):MH g lv bd n D K (Bx K' r k) true r (k+1):=
 ⟨Q K' r k X C h.j I J Y U Z,fun a b R=>Kb (h.le a b R),fun A=>Bool.noConfusion A,fun _=>by
  have h1:=ZR (g:=g) (br.1 I).1 (br.1 J).1 V
  cases A:more
  ·rw [(h.no A).1] at h1 ⊢;exact h1
  exact Nat.lt_trans h1 (h.yes A)⟩
def EH(g:GP)(K:Nat->Nat->Bool)(bL:ag)(lv:List Nat)(C:Nat->Ex)(n:Nat)(Q:(Nat->Nat->Bool)->Prop)(w:af)(h:GI w g K)(a2:w.ownsRow 0 3 1 bL lv.length (lv.map fun n:Nat=> .int .i64 n))(bD:lv.length=g.rl.length)(bw:∀R r k X q,g.rl[r]? =some X->g.th[k]? =some q->Tj g R r k X.ex (lu g R X k q.2 (C r)))(bv:StD g lv C n Q)(h0:Q K):
  Calls prog 199 #[.pointer (some ⟨g.b,0,none⟩),bL,.int .i64 n] w (Tv g lv C n Q K w):=by
 obtain ⟨bJ,bK,rfl⟩:=ax a2;have bR:=ai bw;have bO:=ai bv;have bp:=ai a2;have bi:=ai h;have bP:=ai h0;have cd:=h.few;have ci:=h.dm.rn;have bQ:=ai bD;clear h a2 bw bv h0 bD;go_enter func199,ntmps199;go_wp2_with fail
 go_loopw [7,8] (fun be ur wr=>∃(r:Nat)(R:Nat->Nat->Bool)(more:Bool),r<=lv.length/\ur=.int .i64 r/\be=.bool more/\GI wr g R/\bG (fun k=>k∈g.bs) w wr/\wr.ownsRow 0 3 1 (.slice bJ lv.length bK) lv.length (lv.map fun n:Nat=> .int .i64 n)/\Hid (MH g lv C n Q K R more r 0)) (fun _ ur _=>lv.length-(intOf ur).toNat)
 case atStart=>exact ⟨0,K,false,aj,rfl,rfl,bi.u,bG.refl _ _,bp.u,ai ⟨bP.u,fun _ _ h=>h,fun _=>⟨rfl,fun r k X q b2=>aj⟩,fun h=>by cases h⟩⟩
 case round=>
  obtain ⟨r,K1,more,b2,rfl,rfl,V,ah,ac,U⟩:=hrel;have aR:=ai V;have aP:=ai ah;have bq:=ai ac;clear V ah ac bi bp
  by_cases bE:r<lv.length
  ·have bF:r<g.rl.length:=by rw [<-bQ.u];exact bE
   have b3:(r:Int)<(lv.length:Int):=aj;have ch:(r:Int)<(g.rl.length:Int):=aj;obtain ⟨X,aG⟩:∃X,g.rl[r]? =some X:=⟨_,aH bF⟩;obtain ⟨v,hv⟩:∃v,lv[r]? =some v:=⟨_,aH bE⟩;have Z:=ai aG;have aX:=ai hv;clear aG hv;go_wp2_with fail
   go_loopw [7,9] (fun be bc wr=>∃(k:Nat)(R:Nat->Nat->Bool)(more:Bool),k<=g.th.length/\bc=.int .i64 k/\be=.bool more/\GI wr g R/\bG (fun k=>k∈g.bs) w wr/\wr.ownsRow 0 3 1 (.slice bJ lv.length bK) lv.length (lv.map fun n:Nat=> .int .i64 n)/\Hid (MH g lv C n Q K R more r k)) (fun _ bc _=>g.th.length-(intOf bc).toNat)
   case atStart=>exact ⟨0,K1,more,aj,rfl,rfl,aR.u,aP.u,bq.u,U⟩
   case round=>
    obtain ⟨k,K2,EG,cf,rfl,rfl,V,ah,ac,A⟩:=hrel;obtain ⟨aD,b1,bu,aZ,aF⟩:=V.five;obtain ⟨ga,gc,bz⟩:=ax V.th;rw [bz] at aZ;obtain ⟨cm,cl,e1,b5⟩:=aS ac r (.int .i64 v) (by rw [eo,aX.u];rfl);simp only [aI,bU] at e1;obtain ⟨rfl,rfl⟩:=e1;have LM:=ai V;have XJ:=ai ah;have HW2:=ai ac;clear V ah ac aR aP bq U
    by_cases a1:k<g.th.length
    ·have bZ:(k:Int)<(g.th.length:Int):=by omega
     by_cases a6:v=n
     ·subst a6;obtain ⟨P,a0⟩:∃P,g.th[k]? =some P:=⟨_,aH a1⟩;obtain ⟨ad,bW⟩:∃z,z=wr:=⟨_,rfl⟩;subst bW;obtain ⟨D,aN⟩:∃D,g.bs[r]? =some D:=⟨_,aH (by rw [LM.u.bl];exact bF)⟩;obtain ⟨cu,cr,a7,bM⟩:=aS LM.u.yr r (.slice (some ⟨D,0,none⟩) g.th.length g.th.length) (by rw [eo,aN];rfl);have aO:=(LM.u.yb r D aN).cell a1;rw [a7] at aF;obtain ⟨b8,tc,a5,bH⟩:=bf Mx 2 (fun _=>rfl) LM.u.th k P a0;have t0:ad.cell? ⟨b8,k*2,none⟩=some (.string P.1):=bH 0 _ aj rfl;rw [bz] at a5;simp only [aI,bU] at a5;obtain ⟨rfl,rfl⟩:=a5;obtain ⟨co,rc,a3,a9,ba,bb,r3⟩:=LM.u.dm.rat r X Z.u;have ap:=LM.u.dm.c6;rw [a3] at ap;have bg:ad.cell? ⟨g.y,0,none⟩=some (.pointer (some ⟨g.bm,5,none⟩)):=LM.u.du.blk.cell rfl;have aC:=ai (az ad.heap.size ad);have aw:=ai a0;have Y:=ai aN;generalize bC:K2 r k=am at aO;have bn:=ai bC;clear bH a0 aN bC ba bb
      go_upto_region 8 with fail
      go_cut [68] (fun s cb=>s=.bool (am|| !eqs P.1 X.kd)/\an ad cb)
      case first=>
       cases am
       ·cases h1:eqs P.1 X.kd
        ·have bV:(P.1.toList==X.kd.toList)=false:=by rw [<-aK];exact h1
         go_quiet (fail)
         go_wp2
         go_meet
         case rel=>exact ⟨by simp [h1],cF aC.u _⟩
        have bV:(P.1.toList==X.kd.toList)=true:=by rw [<-aK];exact h1
        go_quiet (fail)
        go_wp2
        go_meet
        case rel=>exact ⟨by simp [h1],cF aC.u _⟩
       go_quiet (fail)
       go_wp2
       go_meet
       case rel=>exact ⟨ar,cF aC.u _⟩
      case rest=>
       obtain ⟨rfl,aM⟩:=hcut;clear aD b1 bu aZ aF b5 bM aO t0 a9 r3 ap bg;have J:=ai (LM.u.below aM);have aQ:=ai (XJ.u.trans (bG.of_below aM));have aY:=ai (aB HW2.u aM);clear aM LM XJ HW2 aC
       cases hs:(am|| !eqs P.1 X.kd)
       ·have bB:K2 r k=false:=by
         rw [bn.u]
         cases am
         ·rfl
         simp at hs
        have bx:P.1=X.kd:=by
         rw [<-bo]
         cases am
         ·simpa using hs
         simp at hs
        have bh:=ai (bR.u K2 r k X P Z.u aw.u wc J.u);obtain ⟨cp,cq,a4,a9,ba,bb,r3⟩:=J.u.dm.rat r X Z.u;rw [a3] at a4;simp only [aI,aL,ce,fI,bU] at a4;obtain ⟨rfl,rfl⟩:=a4;have ap:=J.u.dm.c6;rw [a3] at ap;have bg:wc.cell? ⟨g.y,0,none⟩=some (.pointer (some ⟨g.bm,5,none⟩)):=J.u.du.blk.cell rfl;have aD:=J.u.five.1;have aV:=ai (show lu g K2 X k P.2 (C r)=false->MH g lv C v Q K K2 EG r (k+1) from fun e=>(ak A).skip (fun ab bS b7 ae al _ _ bI=>by
         rw [Z.u] at ae;rw [aw.u] at al
         cases ae
         cases al
         rw [<-((ak A).no ab).1,e] at bI
         cases bI))
        have aW:=ai (fun e=>(ak A).up bO.u Z.u aw.u aX.u bx e bB:lu g K2 X k P.2 (C r)=true->MH g lv C v Q K (Bx K2 r k) true r (k+1));generalize lu g K2 X k P.2 (C r)=bT at*;clear a9 ba bb hs bx bB;go_wp2_with fail;refine bh.u.mono ?_;rintro e b9 ⟨rfl,aJ⟩;have I:=ai (J.u.below aJ);have av:=ai (aQ.u.trans (bG.of_below aJ));have ay:=ai (aB aY.u aJ);clear aJ J aQ aY bh ap bg aD r3
        cases bT
        ·have E9:=ai (aV.u rfl);clear aV aW A;go_wp2_with fail;go_roundw
         case rel=>first|exact ⟨k+1,K2,EG,aj,by go_num,rfl,I.u,av.u,ay.u,E9⟩|((repeat apply Exists.intro);exact ⟨⟨k+1,K2,EG,aj,by go_num,rfl,I.u,av.u,ay.u,E9⟩,rfl⟩)
         case measure=>simp [intOf];omega
        have E9:=ai (aW.u rfl);obtain ⟨aD,b1,bu,aZ,aF⟩:=I.u.five;rw [a7] at aF;obtain ⟨cw,ct,a8,bM⟩:=aS I.u.yr r (.slice (some ⟨D,0,none⟩) g.th.length g.th.length) (by rw [eo,Y.u];rfl);rw [a7] at a8;simp only [aI,aL,ce,fI,bU] at a8;obtain ⟨rfl,rfl⟩:=a8;have aO:=(I.u.yb r D Y.u).cell a1;generalize K2 r k=ck at aO;have fz:=(I.u.yb r D Y.u).fz;have bk:=ai (I.u.set (k:=k) Y.u);have bj:=ai (av.u.set (a:=⟨D,k,none⟩) (bA Y.u) (.bool true));have bt:=ai (mJ ay.u (I.u.yb r D Y.u:aE b9 D _ 4) au k (.bool true));clear aV aW A I av ay;go_wp2_with fail;go_roundw
        case rel=>first|exact ⟨k+1,Bx K2 r k,true,aj,by go_num,rfl,bk.u,bj.u,bt.u,E9⟩|((repeat apply Exists.intro);exact ⟨⟨k+1,Bx K2 r k,true,aj,by go_num,rfl,bk.u,bj.u,bt.u,E9⟩,rfl⟩)
        case measure=>simp [intOf];omega
       have E9:=ai ((ak A).skip (fun ab bS b7 ae al _ bY _=>by
        rw [Z.u] at ae;rw [aw.u] at al
        cases ae
        cases al
        rw [<-((ak A).no ab).1,bn.u];rw [(bo _ _).2 bY] at hs
        simpa using hs))
       clear A hs;go_wp2_with fail;exact ⟨⟨k+1,K2,EG,aj,by go_num,rfl,J.u,aQ.u,aY.u,E9⟩,by simp [intOf];omega⟩
     have cj:((v:Int)==(n:Int))=false:=by rw [b6];omega
     have E9:=ai ((ak A).row (fun b4 X q _ _ _ e=>by rw [aX.u] at e;exact a6 (gu e)));clear A a6;exact Tt
    have bZ:¬((k:Int)<(g.th.length:Int)):=aj;have E9:=ai ((ak A).row (fun b4 X q cg _ e _=>by have:=(br.1 e).1;omega));clear A;exact Tt
  obtain rfl:r=lv.length:=aj;have b3:¬((lv.length:Int)<(lv.length:Int)):=aj;have bN:=ai (⟨K1,more,rfl,aR.u,(ak U).j,aP.u,(ak U).le,fun ab=>⟨((ak U).no ab).1,fun r k X q aG b0 hl bX hv=>((ak U).no ab).2 r k X q (.inl (br.1 hl).1) aG b0 hl bX hv⟩,(ak U).yes⟩:Tv g lv C n Q K w (.returned (.bool more)) wr);go_wp2;go_ret;exact bN.u
def X8 (h:aA:=by
 rw [hkl] at CT;unfold minus at hmi;clear hb hcs hkf hkl ht h4;exact Tw):aA:=h
def Tw (h:aA:=by
 go_wp2_with fail;refine (ak CT _ bj).mono ?_;rintro e w1 ⟨rfl,C⟩;have A:=ai (HBL.u.trans (C.mono HBL.u.size));clear C CT x0 x6 x7 hc;go_wp2_with fail;go_roundw
 case rel=>first|exact ⟨j+1,aj,by go_num,by rw [HMX.u];first|done|(congr 1;omega),A.u⟩|((repeat apply Exists.intro);exact ⟨⟨j+1,aj,by go_num,by rw [HMX.u];first|done|(congr 1;omega),A.u⟩,rfl⟩)
 case measure=>simp [intOf];omega):aA:=h
def Tx(q:aU) (h:bF aU->aA:=by
 intro zq;have b0:=(az w.heap.size w).alloc aD (dq p.kind ga p.gs.length gc p.nb p.nr p.pa p.pr pa p.ps.length pc sa p.sg.length sc);have HB:=ai b0
 revert b0 HB
 exact zq.1):aA:=h ⟨q⟩
def zH(l:List Nat):Nat:=l.foldl max 0
def qU:Nat->(Nat->Nat)->Nat
 |0,_=>0
 |k+1,f=>max (qU k f) (f k)
def zI(l):∀a,l.foldl max a=max a (zH l):=by
 unfold zH
 induction l with
 |nil=>intro a;simp
 |cons x l ih=>
  intro a;rw [nJ,nJ,ih,ih (max 0 x)];omega
def Wz(a b):zH (a++b)=max (zH a) (zH b):=by
 unfold zH;rw [List.foldl_append,zI]
 rfl
def ZT{l}:zH l<=b↔∀x∈l,x<=b:=by
 induction l with
 |nil=>simp [zH]
 |cons x l ih=>
  have:zH (x::l)=max x (zH l):=by
   unfold zH;rw [nJ,zI];unfold zH;omega
  rw [this];simp only [bi,forall_eq_or_imp];rw [<-ih];omega
def Tz:∀(l:List Nat)(f:Nat->Nat),(∀i (h:i<l.length),f i=l[i])->qU l.length f=zH l:=by
 intro l f h;have key:∀k,k<=l.length->qU k f=zH (l.take k):=by
  intro k
  induction k with
  |zero=>intro _;simp [qU,zH]
  |succ k ih=>
   intro A;rw [qU,ih aj,cJ aj,Wz,h k aj];have:zH [l[k]]=l[k]:=by simp [zH]
   rw [this]
 rw [key _ aD,kY]
def Uq(bm:Nat)(kv rv pv:ag)(kl:List (ae×Nat))(rl:List RV)(pl:List PV)(l:List PX)(tO:ag)(lv:List Nat)(i n less h:Nat):Prop:=∀w,DM w bm kv rv pv kl rl pl l->w.ownsRow 0 3 1 tO lv.length (lv.map fun n:Nat=> .int .i64 n)->Calls prog 233 #[.pointer (some ⟨bm,5,none⟩),tO,.int .i64 i,.int .i64 n,.int .i64 less] w fun e w'=>e=.returned (.int .i64 h)/\an w w'
section
variable (bm:Nat)(kv rv pv:ag)(kl:List (ae×Nat))(rl:List RV)(pl:List PV)(l:List PX)(tO:ag)(lv:List Nat)
def EI(i n less:Nat)(p:PV)(D:Nat->Nat)(I:Nat->Nat)(ae:pl[n]? =some p)(ab:p.kind=4\/p.kind=5)(aZ:p.ps.length<=1000)(bc:0<p.ps.length)(ag:p.kind=4->p.sg.length=p.ps.length)(hs:∀j,I j=if p.kind=4/\(∃t,p.sg[j]? =some t/\minus t=true) then 1 else less)(al:∀j m,p.ps[j]? =some m->Uq bm kv rv pv kl rl pl l tO lv i m (I j) (D j))(U:∀j,D j<=100000)(ba:less<=1):Uq bm kv rv pv kl rl pl l tO lv i n less (qU p.ps.length D):=fun w h Q=>by
 obtain ⟨bo,bl,ga,gc,pa,pc,sa,sc,aV,R,e0,e1,J,aM,aN,aO,aP,aQ⟩:=h.pat n p ae;have be:(n:Int)<(pl.length:Int):=by have:=(br.1 ae).1;omega
 have am:=h.c7;rw [aV] at am;obtain ⟨bi,bk,rfl⟩:=ax Q;refine Tx ?_;intro b0 HB;refine AL ?_;intro HP;have ap:=ai (h.below b0);have av:=ai (aB Q b0);have ay:=ai (aB R.p b0);have aF:=ai (aB R.s b0);have aJ:=ai al;have au:=ai hs;have aK:=ai U;have aG:=ai ag;have ar:=ai ab;have ad:∀k,qU k D<=100000:=by
  intro k
  induction k with
  |zero=>simp [qU]
  |succ k ih=>rw [qU];have:=U k;omega
 have aw:=ai ad;generalize Y:qU p.ps.length D=aL;have aC:=ai Y;clear h b0 R al Y hs ag Q U ab ad;go_enter func233,ntmps233
 go_upto_region 2 with fail
 clear e0 e1 J aM aN aO aP aQ am;generalize w.alloc (dq p.kind ga p.gs.length gc p.nb p.nr p.pa p.pr pa p.ps.length pc sa p.sg.length sc)=W at*;go_wp2_with fail
 go_loopw [12,13] (fun aX u wr=>∃j:Nat,j<=p.ps.length/\u=.int .i64 j/\aX=.int .i64 (qU j D)/\an W wr) (fun _ u _=>p.ps.length-(intOf u).toNat)
 case atStart=>exact ⟨0,aj,rfl,rfl,az _ _⟩
 case round=>
  obtain ⟨j,aY,rfl,rfl,hb⟩:=hrel;have x0:wr.cell? ⟨w.heap.size,0,none⟩=some (.int .i64 p.kind):=(HP.u.below hb).cell rfl;refine Tm ?_;intro x6 x7 Ww;have bb:=aw.u j
  by_cases hlt:j<p.ps.length
  ·have aR:(j:Int)<(p.ps.length:Int):=by omega
   obtain ⟨bp,bn,e1,hc⟩:=aS (aB ay.u hb) j (.int .i64 (p.ps[j]:Nat)) Wv;simp only [aI,bU] at e1;obtain ⟨rfl,rfl⟩:=e1;have CT:=ai (fun (w':af) (Z:an wr w')=>aJ.u j _ (aH hlt) w' (ap.u.below (hb.trans (Z.mono hb.size))) (aB av.u (hb.trans (Z.mono hb.size))));have hkf:=au.u j;have bh:=aK.u j;have HMX:=ai (show qU (j+1) D=max (qU j D) (D j) from rfl);have HBL:=ai hb;generalize p.ps[j]=m at*;generalize D j=v at*;generalize qU j D=o at*
   rcases ar.u with h4|V
   ·obtain ⟨t,ht⟩:∃t,p.sg[j]? =some t:=⟨_,aH (by rw [aG.u h4];exact hlt)⟩;obtain ⟨bs,bq,J,hcs⟩:=bf eW 3 (fun _=>rfl) (aB aF.u hb) j t ht;simp only [aI,bU] at J;obtain ⟨rfl,rfl⟩:=J;have aW:=hcs 0 _ aj rfl;rw [n8] at aW;have bg:(j:Int)<(p.sg.length:Int):=by have:=(br.1 ht).1;omega
    rw [h4] at x0
    cases hmi:minus t
    ·have hkl:I j=less:=by
      rw [hkf,if_neg];rintro ⟨_,bt,ah,ac⟩;rw [ht] at ah
      cases ah
      rw [hmi] at ac
      cases ac
     exact X8
    have hkl:I j=1:=by rw [hkf,if_pos ⟨h4,t,ht,hmi⟩]
    exact X8
   have hkl:I j=less:=by rw [hkf,if_neg (fun e=>by have:=e.1;omega)]
   rw [hkl] at CT;rw [V] at x0;clear hb hkf hkl V;exact Tw
  obtain rfl:j=p.ps.length:=aj;have aR:¬((p.ps.length:Int)<(p.ps.length:Int)):=aj;have hF:aL=qU p.ps.length D:=aC.u.symm;subst hF;clear hb;go_wp2;go_ret;exact ⟨rfl,Ww.u⟩
def Ih(i n less:Nat)(X:RV)(p:PV)(nd:List Nat)(au:pl[n]? =some p)(ah:rl[i]? =some X)(ap:p.ps=[])(bw:nd.length<=2000000)(I:∀d∈nd,d<lv.length)(U:∀x∈lv,x<=10000)(bu:less<=1)(ag:∀w,DM w bm kv rv pv kl rl pl l->Calls prog 231 #[.pointer (some ⟨bm,5,none⟩),.string X.kd,.int .i64 n,.int .i64 X.ex] w fun e w'=>∃sv,e=.returned sv/\an w w'/\w'.ownsRow w.heap.size 3 1 sv nd.length (nd.map fun n:Nat=> .int .i64 n)):Uq bm kv rv pv kl rl pl l tO lv i n less (zH (nd.map fun d=>lv.getD d 0+less)):=fun w h V=>by
 obtain ⟨bJ,bI,ga,gc,pa,pc,sa,sc,bf,bh,e0,e1,D,aW,aX,aY,aZ,ba⟩:=h.pat n p au;have bx:(n:Int)<(pl.length:Int):=by have:=(br.1 au).1;omega
 have ay:=h.c7;rw [bf] at ay;obtain ⟨bD,bE,rfl⟩:=ax V;refine Tx ?_;intro b0 HB;refine AL ?_;intro aQ;have R:=ai (h.below b0);have aN:=ai (aB V b0);have aJ:=ai ag;have aK:=ai I;have aM:=ai U;have C:p.ps.length=0:=by rw [ap];rfl
 have aw:∀d,lv.getD d 0+less<=10001:=fun d=>by
  rw [ef]
  cases bg:lv[d]? with
  |none=>simp;omega
  |some x=>have:=U x (bA bg);simp;omega
 have ar:∀k,qU k (fun j=>(nd.map fun d=>lv.getD d 0+less).getD j 0)<=10001:=by
  intro k
  induction k with
  |zero=>simp [qU]
  |succ k ih=>
   rw [qU];have:(nd.map fun d=>lv.getD d 0+less).getD k 0<=10001:=by
    rw [ef,eo]
    cases nd[k]? with
    |none=>simp
    |some d=>exact aw d
   omega
 have aO:=ai ar;have aV:=ai (show qU nd.length (fun j=>(nd.map fun d=>lv.getD d 0+less).getD j 0)=zH (nd.map fun d=>lv.getD d 0+less) from by
  have:=Tz (nd.map fun d=>lv.getD d 0+less) (fun j=>(nd.map fun d=>lv.getD d 0+less).getD j 0) (fun j al=>by rw [ef,aH al];rfl);rw [bX] at this;exact this)
 generalize zH (nd.map fun d=>lv.getD d 0+less)=bo at*;have aR:=ai C;clear h b0 bh V ag I U aw ar ap C;go_enter func233,ntmps233
 go_upto_region 2 with fail
 clear e0 e1 D aW aX aY aZ ba ay;generalize w.alloc (dq p.kind ga p.gs.length gc p.nb p.nr p.pa p.pr pa p.ps.length pc sa p.sg.length sc)=W at*;go_wp2_with fail
 go_loopw [12,13] (fun ac u wr=>u=.int .i64 0/\ac=.int .i64 0/\wr=W) (fun _ u _=>0)
 case atStart=>exact ⟨rfl,rfl,rfl⟩
 case round=>
  obtain ⟨rfl,rfl,Y⟩:=hrel;subst Y;have aF:wr.cell? ⟨w.heap.size,6,none⟩=some (.slice pa p.ps.length pc):=aQ.u.cell rfl;have C:=aR.u;have be:¬((0:Int)<(p.ps.length:Int)):=aj;rw [C] at aF be;obtain ⟨ab,rc,bi,aC,bj,bk,r3⟩:=R.u.rat i X ah;have Z:=R.u.c6;rw [bi] at Z;have bz:(i:Int)<(rl.length:Int):=by have:=(br.1 ah).1;omega
  clear C bj bk
  go_upto_region 12 with fail
  have ad:=ai (fun (w':af) (bb:an wr w')=>aJ.u w' (R.u.below bb));have Q:=ai (az wr.heap.size wr);have c0:=Z;have c1:=aC;have c2:=r3;clear aF Z aC r3
  go_region_held3 (fun w'=>w'.cell? ⟨bm,6,none⟩=some (.slice (some ⟨ab,0,none⟩) rl.length rc)/\w'.cell? ⟨ab,i*4,none⟩=some (.string X.kd)/\w'.cell? ⟨ab,i*4+3,none⟩=some (.int .i64 X.ex)) (go_keep)
   ((go_at_call 231;refine (ad.u _ ((cd Q):an wr _)).mono ?_;rintro e w5 ⟨sv,rfl,ak,av⟩;have A:=ai (lh (a:=wr) (B:=wr.heap.size) ((cd Q):an wr _) (ak.mono zw));have ae:=ai av;have d0:=am c0 A.u;have d1:=am c1 A.u;have d2:=am c2 A.u;clear ak av))
  obtain ⟨da,bp,rfl⟩:=ax ae.u;have aG:=ai (HB.u.trans (A.u.mono HB.u.size));have aL:=ai (aB aN.u A.u);clear c0 c1 c2 d0 d1 d2 ad Q A;go_wp2_with fail
  go_loopw [12,16] (fun ac u bl=>∃j:Nat,j<=nd.length/\u=.int .i64 j/\ac=.int .i64 (qU j (fun j=>(nd.map fun d=>lv.getD d 0+less).getD j 0))/\bl=w5) (fun _ u _=>nd.length-(intOf u).toNat)
  case atStart=>exact ⟨0,aj,rfl,rfl,rfl⟩
  case round=>
   obtain ⟨j,al,rfl,rfl,Y⟩:=hrel;subst Y;have bv:=aO.u j
   by_cases hlt:j<nd.length
   ·have bc:(j:Int)<(nd.length:Int):=by omega
    obtain ⟨bs,bq,e1,d0⟩:=aS ae.u j (.int .i64 (nd[j]:Nat)) Wv;simp only [aI,bU] at e1;obtain ⟨rfl,rfl⟩:=e1;have I:=aK.u _ (bn hlt);obtain ⟨x,J⟩:∃x,lv[nd[j]]? =some x:=⟨_,aH I⟩;obtain ⟨bH,bG,D,bC⟩:=aS aL.u nd[j] (.int .i64 (x:Nat)) (by rw [eo,J];rfl);simp only [aI,bU] at D;obtain ⟨rfl,rfl⟩:=D;have bB:=aM.u x (bA J);have aP:=ai (show qU (j+1) (fun j=>(nd.map fun d=>lv.getD d 0+less).getD j 0)=max (qU j (fun j=>(nd.map fun d=>lv.getD d 0+less).getD j 0)) (x+less) from by
     have e:(nd.map fun d=>lv.getD d 0+less).getD j 0=x+less:=by
      rw [ef,eo,aH hlt];simp [J]
     rw [qU,e])
    have bt:((nd[j]:Nat):Int)<(lv.length:Int):=aj;generalize nd[j]=d at*;generalize qU j (fun j=>(nd.map fun d=>lv.getD d 0+less).getD j 0)=o at*;clear J;go_wp2_with fail;exact ⟨⟨j+1,aj,by go_num,by rw [aP.u];first|done|(congr 1;omega),by first|rfl|trivial⟩,by simp [intOf];omega⟩
   obtain rfl:j=nd.length:=aj;have bc:¬((nd.length:Int)<(nd.length:Int)):=aj;have hF:=aV.u;rw [hF] at*;go_wp2;go_ret;exact ⟨rfl,aG.u⟩
end
