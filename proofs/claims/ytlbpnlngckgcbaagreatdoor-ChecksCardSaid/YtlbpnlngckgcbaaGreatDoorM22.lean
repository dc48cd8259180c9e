import Derived.Test.YtlbpnlngckgcbaaGreatDoorM15
import Derived.Test.YtlbpnlngckgcbaaGreatDoorM14
set_option linter.all false
set_option maxHeartbeats 4000000
set_option maxRecDepth 100000
namespace Go.Proofs.YtlbpnlngckgcbaaGreatDoor
open Go.RowKit Go.PlainAid Go.Proofs.Tryz
variable {aF cD:Prop} {rl:List RV} {pl:List PV} {n m base size b1 n1:Nat} {w w' W:af} {e E:TypeId} {v:ag} {xs:List ag}
def G9(rl:List RV)(p:PV):List Nat:=p.gs.flatMap (fg rl)
theorem xW(b kv rv pv kl rl pl l n lv T w)(aQ:DM w b kv rv pv kl rl pl l)(bs:gF pl n lv)(cd:lv.length<=1000)(bz:∀m∈lv,∃p,pl[m]? =some p/\p.gs.length<=1000)(bt:lv.flatMap (qA (G9 rl) pl)=T)(b6:T.length<=1000000000):
  Calls prog 254 #[.pointer (some ⟨b,5,none⟩),.int .i64 n] w fun e w'=>∃sv,e=.returned sv/\Below w.heap.size w w'/\w'.ownsRow w.heap.size 3 1 sv T.length (T.map fun n:Nat=> .int .i64 n):=by
 obtain ⟨iI,bb,bI,bJ,bL⟩:=bH Tryz.infoInt;have II:=ai bb;have Rz:=ai bI;have RA:=ai bJ;have RB:=ai bL;clear bb bI bJ bL;have HD:=ai aQ;have bQ:=ai bz;have HT:=ai bt;have cj:=aQ.rn;have ci:=aQ.pn;have C:=ai (bs b kv rv pv kl rl l w aQ);clear aQ bs bz bt;go_enter func254,ntmps254;go_wp2_with fail;refine (ak C).mono ?_;rintro e w1 ⟨sv,rfl,aU,bc⟩;obtain ⟨ck,cl,rfl⟩:=ay bc;have B1:=ai aU;have Ua:=aU.size;have bR:=ai bc;clear aU bc C;go_wp2_with fail
 go_loopw [5,7] (fun bg bh wr=>∃(i:Nat)(fv:List Nat)(fa:Option Addr)(fc:Nat),i<=lv.length/\bh=.int .i64 i/\bg=.slice fa fv.length fc/\Below w.heap.size w wr/\Below w1.heap.size w1 wr/\wr.ownsRow w1.heap.size 3 1 (.slice fa fv.length fc) fv.length (fv.map fun n:Nat=> .int .i64 n)/\Hid (fv=(lv.take i).flatMap (qA (G9 rl) pl))) (fun _ bh _=>lv.length-(intOf bh).toNat)
 case atStart=>exact ⟨0,[],none,0,aj,rfl,rfl,B1.u,aw _ _,bN,ai an⟩
 case round=>
  obtain ⟨i,fv,fa,fc,bb,rfl,rfl,hb,mE,hrow,HF⟩:=hrel;have HB:=ai hb;have BF:=ai mE;have Ak:=ai hrow;have bF:=hb.size;have bG:=mE.size
  by_cases hlt:i<lv.length
  ·obtain ⟨q,b5,e1,bM⟩:=aZ (aE bR.u mE) i (.int .i64 (lv[i]:Nat)) tI;simp only [aI,true_and] at e1;obtain ⟨rfl,rfl⟩:=e1;obtain ⟨p,aS,ch⟩:=bQ.u _ (bu hlt);have aT:=ai (jt (qA (G9 rl) pl) lv i _ (aG hlt));have bx:=nx (qA (G9 rl) pl) lv (i+1);rw [ak aT,<-ak HF,bo,HT.u] at bx;have b8:(i:Int)<(lv.length:Int):=aj;generalize lv[i]=m at*;have aW:=HD.u.below hb;obtain ⟨aO,bS,ga,gc,pa,pc,sa,sc,bB,bC,bO,bW,bX,bY,bZ,b0,b2,b3⟩:=aW.pat m p aS;have ce:=(be.1 aS).1;have cf:(m:Int)<(pl.length:Int):=aj;have bv:qA (G9 rl) pl m=G9 rl p:=by unfold qA;rw [aS]
   rw [bv] at aT bx;have c7:=aW.c7;rw [bB] at c7;have bn:=ai bC.g;have bU:=bj wr _ c7;have mk:=bj wr _ bM;have bV:=bj wr _ bO;clear hb mE hrow aW bC aS bB bv;go_wp2_with fail
   go_region_held3 (fun w'=>w'.cell? ⟨b,7,none⟩=some (.slice (some ⟨aO,0,none⟩) pl.length bS)/\w'.cell? ⟨q,i,none⟩=some (.int .i64 m)/\w'.cell? ⟨aO,m*8,none⟩=some (.int .i64 p.kind)/\w'.cell? ⟨aO,m*8+1,none⟩=some (.slice ga p.gs.length gc)/\w'.cell? ⟨aO,m*8+2,none⟩=some (.string p.nb)/\w'.cell? ⟨aO,m*8+3,none⟩=some (.string p.nr)/\w'.cell? ⟨aO,m*8+4,none⟩=some (.int .i64 p.pa)/\w'.cell? ⟨aO,m*8+5,none⟩=some (.int .i64 p.pr)/\w'.cell? ⟨aO,m*8+6,none⟩=some (.slice pa p.ps.length pc)/\w'.cell? ⟨aO,m*8+7,none⟩=some (.slice sa p.sg.length sc)) (go_keep) (fail)
   rename_i bT;clear bT bO bW bX bY bZ b0 b2 b3 c7 bM bU mk bV;have aP:Below wr.heap.size wr ((wr.alloc (ct p.kind ga p.gs.length gc p.nb p.nr p.pa p.pr pa p.ps.length pc sa p.sg.length sc)).drew):=((aw _ wr).alloc az _).drew;have bp:=ai (aB.new wr #[.int .i64 p.kind,.slice ga p.gs.length gc,.string p.nb,.string p.nr,.int .i64 p.pa,.int .i64 p.pr,.slice pa p.ps.length pc,.slice sa p.sg.length sc] 255).drew;have bk:=ai (HB.u.trans (aP.mono bF));have bl:=ai (BF.u.trans (aP.mono bG));have bq:=ai (aE Ak.u aP);have br:=ai (aE bn.u aP);clear aP HB BF Ak bn;go_wp2_with fail;generalize (wr.alloc (ct p.kind ga p.gs.length gc p.nb p.nr p.pa p.pr pa p.ps.length pc sa p.sg.length sc)).drew=b4 at*;generalize wr.heap.size=pb at*;have Ur:=ai (show (G9 rl p).length=(p.gs.flatMap (fg rl)).length from rfl)
   go_loopw [5,9] (fun bg bf aR=>∃(k:Nat)(f2:List Nat)(fa:Option Addr)(fc:Nat),k<=p.gs.length/\bf=.int .i64 k/\bg=.slice fa f2.length fc/\Below w.heap.size w aR/\Below w1.heap.size w1 aR/\aB aR pb #[.int .i64 p.kind,.slice ga p.gs.length gc,.string p.nb,.string p.nr,.int .i64 p.pa,.int .i64 p.pr,.slice pa p.ps.length pc,.slice sa p.sg.length sc] 255/\aR.ownsRow 0 257 4 (.slice ga p.gs.length gc) p.gs.length (p.gs.flatMap bK)/\aR.ownsRow w1.heap.size 3 1 (.slice fa f2.length fc) f2.length (f2.map fun n:Nat=> .int .i64 n)/\Hid (f2=fv++(p.gs.take k).flatMap (fg rl))) (fun _ bf _=>p.gs.length-(intOf bf).toNat)
   case atStart=>exact ⟨0,fv,fa,fc,aj,rfl,rfl,bk.u,bl.u,bp.u,br.u,bq.u,ai an⟩
   case round=>
    clear bk bl bp br bq bF bG;obtain ⟨k,f2,fa,fc,b7,rfl,rfl,hb,mE,hpb,hgr,hrow,La⟩:=hrel;have HB:=ai hb;have BF:=ai mE;have OH:=ai hpb;have RG:=ai hgr;have Ak:=ai hrow;have SY:=hb.size;have Lj:=mE.size;obtain ⟨p0,p1,p2,p3,p4,p5,p6,p7⟩:=hpb.eight;have cm:=hpb.lt
    by_cases Uq:k<p.gs.length
    ·exact Qs
    have cb:¬((k:Int)<(p.gs.length:Int)):=aj;have aY:f2=fv++p.gs.flatMap (fg rl):=by rw [ak La,eh aj]
    have bP:=ai aY;have bw:=congrArg List.length aY;rw [bo] at bw;clear hb mE hpb hgr hrow aY bw;have SZ:=ai (show f2=(lv.take (i+1)).flatMap (qA (G9 rl) pl) from by rw [ak aT,<-ak HF,bP.u];rfl);exact Ll
  exact Lk
theorem Dg(b kv rv pv kl rl pl l n lv w)(R:DM w b kv rv pv kl rl pl l)(ah:gF pl n lv)(aM:lv.length<=1000)(am:∀m∈lv,∃p,pl[m]? =some p/\p.gs.length<=1000):
  Calls prog 253 #[.pointer (some ⟨b,5,none⟩),.int .i64 n] w fun e w'=>e=.returned (.bool (lv.any fun m=>decide (0<(jc pl m).length)))/\Below w.heap.size w w':=by
 have av:=ai R;have ax:=ai am;have aQ:=R.pn;have C:=ai (ah b kv rv pv kl rl l w R);generalize al:(lv.any fun m=>decide (0<(jc pl m).length))=ag;have af:=ai (show ((lv.drop 0).any fun m=>decide (0<(jc pl m).length))=ag from al);clear R ah am al;go_enter func253,ntmps253;go_wp2_with fail;refine C.u.mono ?_;rintro e w1 ⟨sv,rfl,Z,ac⟩;obtain ⟨aS,aT,rfl⟩:=ay ac;have ar:=ai Z;have aD:=Z.size;have aA:=ai ac;clear Z ac C;go_wp2_with fail
 go_loopw [6] (fun ad wr=>∃(i:Nat),i<=lv.length/\ad=.int .i64 i/\Below w1.heap.size w1 wr/\Hid (((lv.drop i).any fun m=>decide (0<(jc pl m).length))=ag)) (fun ad _=>lv.length-(intOf ad).toNat)
 case atStart=>exact ⟨0,aj,rfl,aw _ _,af⟩
 case round=>
  clear af;obtain ⟨i,aL,rfl,I,J⟩:=hrel;have O:=ar.u.trans (I.mono aD);have au:=ai I;have ae:=ai O
  by_cases hlt:i<lv.length
  ·obtain ⟨q,aJ,e1,aR⟩:=aZ (aE aA.u I) i (.int .i64 (lv[i]:Nat)) tI;simp only [aI,true_and] at e1;obtain ⟨rfl,rfl⟩:=e1;obtain ⟨p,Q,aP⟩:=ax.u _ (bu hlt);have D:=ak J;rw [dw hlt,jD] at D;have aB:(i:Int)<(lv.length:Int):=aj;generalize lv[i]=m at*;have U:=av.u.below O;obtain ⟨aK,aH,ga,gc,pa,pc,sa,sc,ab,an,aU,aW,aX,aY,a0,a1,a2,a3⟩:=U.pat m p Q;have aN:=(be.1 Q).1;have aO:(m:Int)<(pl.length:Int):=aj;have Y:jc pl m=p.gs:=by unfold jc;rw [Q]
   rw [Y] at D;have c7:=U.c7;rw [ab] at c7
   by_cases ap:0<p.gs.length
   ·rw [ml ap,Bool.true_or] at D;have V:=ai D;have aC:(0:Int)<(p.gs.length:Int):=aj;clear I O U an Q ab Y J D;go_wp2
    go_quiet (fail)
    go_wp2;go_ret;exact ⟨by rw [<-V.u];rfl,below_drewN ae.u _⟩
   rw [k5 ap,Bool.false_or] at D;have az:=ai D;have aC:¬((0:Int)<(p.gs.length:Int)):=aj;clear I O U an Q ab Y J D;go_wp2
   go_quiet (fail)
   go_wp2;go_roundw
   case rel=>exact ⟨i+1,aj,by go_num,below_drewN au.u _,az⟩
   case measure=>simp [intOf];omega
  have aB:¬((i:Int)<(lv.length:Int)):=aj;have D:=ak J;rw [eK aj,List.any_nil] at D;have V:=ai D;clear I O J D;go_wp2;go_ret;exact ⟨by rw [<-V.u];rfl,ae.u⟩
abbrev xX:=@List.nodup_append
def lL(rl:List RV)(pl:List PV)(kd:ae)(n:Nat)(lv:List Nat):Prop:=gF pl n lv/\lv.length<=1000/\∀m∈lv,∃p,pl[m]? =some p/\p.gs.length<=1000/\(p.kind=2->0<=aU kd p.nr rl 0)/\(p.kind=3->0<=aU kd p.nb rl 0)
def hW(rl:List RV)(pl:List PV)(h:Nat->List Gr)(kd:ae)(lv:List Nat):List Nat:=lv.flatMap (qA (gg rl h kd) pl)
def ID(rl:List RV)(pl:List PV)(lv:List Nat):List Nat:=lv.flatMap (qA (G9 rl) pl)
def fp(rl:List RV)(pl:List PV)(h:Nat->List Gr)(kd:ae)(lv A:List Nat):List Nat:=hW rl pl h kd lv++(if (lv.any fun m=>decide (0<(jc pl m).length))=true then ID rl pl A else [])
theorem lL.gs{kd lv}(h:lL rl pl kd n lv):∀m∈lv,∃p,pl[m]? =some p/\p.gs.length<=1000:=fun m A=>by
 obtain ⟨p,h1,h2,_⟩:=h.2.2 m A;exact ⟨p,h1,h2⟩
theorem tQ(b kv rv pv kl rl pl l dk kd n ex lv yL w)(ab:DM w b kv rv pv kl rl pl l)(av:mR rl pl dk)(I:lL rl pl kd n lv)(au:lL rl pl kd ex yL)(h1:(hW rl pl dk kd lv).length<=1000000000)(h2:(ID rl pl yL).length<=1000000000):
  Calls prog 231 #[.pointer (some ⟨b,5,none⟩),.string kd,.int .i64 n,.int .i64 ex] w fun e w'=>∃sv,e=.returned sv/\Below w.heap.size w w'/\w'.ownsRow w.heap.size 3 1 sv (fp rl pl dk kd lv yL).length ((fp rl pl dk kd lv yL).map fun n:Nat=> .int .i64 n):=by
 obtain ⟨aS,aB,aD,aG,aH⟩:=bH Tryz.infoInt;have aL:=ai aB;have aM:=ai aD;have aN:=ai aG;have aO:=ai aH;clear aB aD aG aH;have ah:=ai ab;have V:=ai I;have U:=ai au;have C:=ai (tP b kv rv pv kl rl pl l dk kd n lv _ w ab av I.1 I.2.1 I.2.2 rfl h1);generalize aw:fp rl pl dk kd lv yL=an;have aj:=ai aw;clear aw;change Hid (Calls _ _ _ _ fun e w'=>∃sv,e=.returned sv/\Below w.heap.size w w'/\w'.ownsRow w.heap.size 3 1 sv (hW rl pl dk kd lv).length ((hW rl pl dk kd lv).map fun n:Nat=> .int .i64 n)) at C;generalize ax:hW rl pl dk kd lv=T at*;have am:=ai ax;clear ax;clear ab av I au;go_enter func231,ntmps231;go_wp2_with fail;refine (ak C).mono ?_;rintro e w1 ⟨sv,rfl,ac,af⟩;obtain ⟨aT,aU,rfl⟩:=ay af;have Q:=ai ac;have aW:=ac.size;have al:=ai af;clear ac af C;have C:=ai (Dg b kv rv pv kl rl pl l n lv w1 (ah.u.below Q.u) V.u.1 V.u.2.1 V.u.gs);go_wp2_with fail;refine (ak C).mono ?_;rintro e O ⟨rfl,ad⟩;have D:=ai (Q.u.trans (ad.mono aW));have aX:=D.u.size;have Y:=ai (aE al.u ad);clear ad C Q al
 cases hl:(lv.any fun m=>decide (0<(jc pl m).length))
 ·have aJ:=ai (show T=an from by rw [<-aj.u,fp,am.u,hl];simp);clear hl;go_wp2;go_ret;rw [<-aJ.u];exact ⟨_,rfl,D.u,Y.u⟩
 ·have C:=ai (xW b kv rv pv kl rl pl l ex yL _ O (ah.u.below D.u) U.u.1 U.u.2.1 U.u.gs rfl h2);change Hid (Calls _ _ _ _ fun e w'=>∃sv,e=.returned sv/\Below O.heap.size O w'/\w'.ownsRow O.heap.size 3 1 sv (ID rl pl yL).length ((ID rl pl yL).map fun n:Nat=> .int .i64 n)) at C;generalize az:ID rl pl yL=J at*;have aK:=ai az;clear az;go_wp2_with fail;refine (ak C).mono ?_;rintro e a1 ⟨sv,rfl,ae,ag⟩;obtain ⟨ta,tc,rfl⟩:=ay ag;have R:=ai (D.u.trans (ae.mono aX));have aZ:=R.u.size;have Z:=ai (aE Y.u ae);have ap:=ai ag;clear ae ag C D Y;go_wp2_with (at_builtin;go_must (refine gN rfl _ _ 29 rfl w.heap.size 3 aS _ 1 8 underlying29 aL.u aM.u aN.u aO.u rfl ar (.slice aT T.length aU) T.length (T.map fun n:Nat=> .int .i64 n) rfl Z.u (.slice ta J.length tc) J.length (J.map fun n:Nat=> .int .i64 n) rfl _ ap.u ?hone ?h63 ?hbytes aZ ?hrest))
  case hone=>
   exact Df
  case h63=>unfold maxLen;omega
  case hbytes=>omega
  intro a0 cv a2 aC aA aR;have aI:=ai (eX R.u Z.u aA);have aP:=ai aC;clear aC aA aR R Z ap;go_wp2;go_ret;have aQ:T++J=an:=by rw [<-aj.u,fp,am.u,hl,aK.u];simp
  rw [<-aQ];exact ⟨_,rfl,aI.u,by simpa using aP.u⟩
def iM(o:List Nat)(x:Nat):List Nat:=if (o.any fun k=>k==x) then o else o++[x]
def kR(o l:List Nat):List Nat:=l.foldl iM o
def tR(H:Nat->List Nat):Nat->List Nat->Nat->List Nat
 |0,o,_=>o
 |f+1,o,i=>match o[i]? with
  |none=>o
  |some r=>tR H f (kR o (H r)) (i+1)
def gO(s:List Nat)(m:Nat)(o:List Nat):Prop:=∃ex,o=s++ex/\ex.Nodup/\∀x∈ex,x<m
theorem Al:∀(m:Nat)(l:List Nat),l.Nodup->(∀x∈l,x<m)->l.length<=m
 |0,l,_,h=>by
  cases l with
  |nil=>simp
  |cons a l=>have:=h a an;omega
 |m+1,l,hn,h=>by
  have h1:(l.erase m).Nodup:=hn.erase m;have h2:∀x∈l.erase m,x<m:=fun x D=>by
   have:=(List.Nodup.mem_erase_iff hn).1 D;have:=h x this.2;omega
  have I:=Al m _ h1 h2;have C:=List.length_erase (a:=m) (l:=l)
  split at C<;>omega
theorem gO.le{s o}(h:gO s m o):o.length<=s.length+m:=by
 obtain ⟨ex,rfl,h1,h2⟩:=h;have:=Al m ex h1 h2;simp;omega
theorem gO.add{s o}(D:gO s m o){x}(O:x<m):gO s m (iM o x):=by
 obtain ⟨ex,rfl,h1,h2⟩:=D;unfold iM
 cases ha:(s++ex).any (fun k=>k==x)
 ·refine ⟨ex++[x],an,?_,?_⟩
  ·rw [xX];refine ⟨h1,an,?_⟩;intro a I c hc J;simp at hc;subst hc;subst J;rw [iW] at ha;exact ha a (by simp [I]) an
  intro y C;rw [aT,aR] at C
  rcases C with C|rfl
  ·exact h2 y C
  exact O
 exact ⟨ex,rfl,h1,h2⟩
theorem Am:∀(o l:List Nat),o.length<=(kR o l).length
 |o,[]=>cm _
 |o,y::l=>by
  have h1:=Am (iM o y) l;have h2:o.length<=(iM o y).length:=by unfold iM;split<;>simp
  exact aL h2 h1
theorem Dh(o l:List Nat)(j:Nat)(h:j<l.length):kR o (l.take (j+1))=iM (kR o (l.take j)) l[j]:=by
 unfold kR;rw [dS h,List.foldl_append]
 rfl
theorem gO.lt{s o}(A:gO s m o)(hs:∀x∈s,x<m):∀x∈o,x<m:=by
 obtain ⟨ex,rfl,h1,h2⟩:=A;intro x h
 rcases aT.1 h with h|h
 ·exact hs x h
 exact h2 x h
def mS(rl:List RV)(pl:List PV)(h:Nat->List Gr)(A:Nat->List Nat)(r:Nat):List Nat:=match rl[r]? with
 |some x=>hW rl pl h x.kd (A x.ex)
 |none=>[]
def ku(rl:List RV)(pl:List PV)(A:Nat->List Gr)(h:Nat->List Nat):Prop:=∀x∈rl,lL rl pl x.kd x.ex (h x.ex)/\(hW rl pl A x.kd (h x.ex)).length<=1000000000/\∀r∈hW rl pl A x.kd (h x.ex),r<rl.length
def xY(rl:List RV)(pl:List PV)(h:Nat->List Gr)(A:Nat->List Nat)(S:List Nat):List Nat:=tR (mS rl pl h A) (S.length+rl.length+1) S 0
theorem ve(C:w.ownsRow base e size v n xs)
  (k:∀g cs f,v.ownBlock=some g->w.heap[g]? =some (.cells cs e f)->w'.heap[g]? =w.heap[g]?):w'.ownsRow base e size v n xs:=by
 obtain ⟨h1,h2⟩:=C;refine ⟨h1,?_⟩
 rcases h2 with h2|⟨g,cap,h,hv,D,A,r⟩
 ·exact Or.inl h2
 ·exact Or.inr ⟨g,cap,h,hv,D,(k g h (0,0) (by rw [hv];rfl) A).trans A,r⟩
theorem Ha{w6 s1 v1 TC}(h1:W.ownsRow b1 E s1 v1 n1 TC)(h:W.grownBy w6 v.ownBlock)(D:∀q,v1.ownBlock=some q->v.ownBlock≠some q):w6.ownsRow b1 E s1 v1 n1 TC:=
 ve h1 (fun g cs f A C=>h.block g (lt_of_some C) (fun e=>D g A e.symm))
theorem Ln(b kv rv pv kl rl pl l dk ff kd n ex lv yL w)(ag:DM w b kv rv pv kl rl pl l)(aY:mR rl pl dk)(bj:lL rl pl kd n lv)(bi:lL rl pl kd ex yL)(h1:(hW rl pl dk kd lv).length<=1000000000)(h2:(ID rl pl yL).length<=1000000000)(bk:ku rl pl dk ff)(bl:∀r∈fp rl pl dk kd lv yL,r<rl.length)(cp:(fp rl pl dk kd lv yL).length<=900000000):
  Calls prog 193 #[.pointer (some ⟨b,5,none⟩),.string kd,.int .i64 n,.int .i64 ex] w fun e w'=>∃sv,e=.returned sv/\Below w.heap.size w w'/\w'.ownsRow w.heap.size 3 1 sv (xY rl pl dk ff (fp rl pl dk kd lv yL)).length ((xY rl pl dk ff (fp rl pl dk kd lv yL)).map fun n:Nat=> .int .i64 n):=by
 obtain ⟨b8,bt,bx,bB,bC⟩:=bH Tryz.infoInt;have bU:=ai bt;have bV:=ai bx;have bW:=ai bB;have bX:=ai bC;clear bt bx bB bC;obtain ⟨cE,rc,rfl⟩:=ay ag.rt;have bJ:=ai ag;have bK:=ai aY;have bS:=ai bk;have cA:=ag.rn;have C:=ai (tQ b kv _ pv kl rl pl l dk kd n ex lv yL w ag aY bj bi h1 h2);generalize fp rl pl dk kd lv yL=S at*;have bT:=ai bl;generalize bh:xY rl pl dk ff S=bb;have a6:=ai (show tR (mS rl pl dk ff) (S.length+rl.length+1) S 0=bb from bh);clear ag aY bj bi h1 h2 bk bl bh;go_enter func193,ntmps193;go_wp2_with fail;refine (ak C).mono ?_;rintro e w1 ⟨sv,rfl,bp,a1⟩;obtain ⟨cb,cd,rfl⟩:=ay a1;have a4:=ai bp;have a9:=ai a1;clear bp a1 C;go_wp2_with fail
 go_loopg [9,10] (S.length+rl.length+1) (fun k a3 cg wr=>∃(i:Nat)(o:List Nat)(Q:Option Addr)(O:Nat),cg=.int .i64 i/\a3=.slice Q o.length O/\i<=o.length/\k=S.length+rl.length+1-i/\Below w.heap.size w wr/\wr.ownsRow w.heap.size 3 1 (.slice Q o.length O) o.length (o.map fun n:Nat=> .int .i64 n)/\Hid (gO S rl.length o/\tR (mS rl pl dk ff) k o i=bb))
 case atStart=>exact ⟨0,S,cb,cd,rfl,rfl,aj,aj,a4.u,a9.u,ai ⟨⟨[],an,an,an⟩,a6.u⟩⟩
 case round=>
  clear a4 a9 a6;obtain ⟨i,o,Q,O,rfl,rfl,cq,rfl,U,Z,af⟩:=hrel;have cu:=(ak af).1.le;have ad:=ai U;have ac:=ai Z;have b6:=U.size
  by_cases hlt:i<o.length
  ·have b4:(i:Int)<(o.length:Int):=by omega
   have a0:=(ak af).1.lt bT.u _ (bu hlt);obtain ⟨q,cl,e1,au⟩:=aZ Z i (.int .i64 (o[i]:Nat)) tI;simp only [aI,true_and] at e1;obtain ⟨rfl,rfl⟩:=e1;obtain ⟨aM,V⟩:=ak af;rw [show S.length+rl.length+1-i=(S.length+rl.length-i)+1 by omega,tR,aG hlt] at V;simp only at V;generalize o[i]=r at*;have aA:=bJ.u.below U;obtain ⟨gr,cr,e1,bF,ci,cj,bG⟩:=aA.rat r rl[r] (aG a0);simp only [aI,true_and] at e1;obtain ⟨rfl,rfl⟩:=e1;obtain ⟨aL,b2,br⟩:=bS.u _ (bu a0);have bs:mS rl pl dk ff r=hW rl pl dk rl[r].kd (ff rl[r].ex):=by unfold mS;rw [aG a0]
   rw [bs] at V;have cz:(r:Int)<(rl.length:Int):=aj;have c6:=aA.c6;generalize rl[r]=x at*;have C:=ai (tP b kv _ pv kl rl pl l dk x.kd x.ex (ff x.ex) _ wr.drew (aA.below ba.drew) bK.u aL.1 aL.2.1 aL.2.2 rfl b2);change Hid (Calls _ _ _ _ fun e w'=>∃sv,e=.returned sv/\Below wr.drew.heap.size wr.drew w'/\w'.ownsRow wr.drew.heap.size 3 1 sv (hW rl pl dk x.kd (ff x.ex)).length ((hW rl pl dk x.kd (ff x.ex)).map fun n:Nat=> .int .i64 n)) at C;generalize hW rl pl dk x.kd (ff x.ex)=hl at*;have bM:=ai br;have bP:=ai aM;have bQ:=ai V;clear U Z aA aL bs br aM V af;go_wp2_with fail
   go_region_held3 (fun w'=>w'.cell? ⟨b,6,none⟩=some (.slice (some ⟨gr,0,none⟩) rl.length rc)/\w'.cell? ⟨q,i,none⟩=some (.int .i64 r)/\w'.cell? ⟨gr,r*4,none⟩=some (.string x.kd)/\w'.cell? ⟨gr,r*4+3,none⟩=some (.int .i64 x.ex)) (go_keep)
    ((go_at_call 232;refine (ak C).mono ?_;rintro e w5 ⟨sv,rfl,bq,bw⟩;have ab:=ai (show Below wr.heap.size wr w5 from (aw _ wr).drew.trans bq);have d0:=am c6 ab.u;have d1:=am au ab.u;have d2:=am bF ab.u;have d3:=am bG ab.u;have aR:=ai bw;obtain ⟨ha,al,rfl⟩:=ay aR.u;clear bq bw))
   clear c6 au bF ci cj bG d0 d1 d2 d3 C;have a5:=ai (ad.u.trans (ab.u.mono b6));have bc:=ai (aE ac.u ab.u);have aT:=ai (show w5.ownsRow wr.heap.size 3 1 (.slice ha hl.length al) hl.length (hl.map fun n:Nat=> .int .i64 n) from aR.u);have a8:=ai (show ∀J,(Value.slice ha hl.length al).ownBlock=some J->(Value.slice (some ⟨q,0,none⟩) o.length O).ownBlock≠some J/\J<w5.heap.size from fun J ap=>by
    have e1:=aT.u.lt J ap;refine ⟨fun aW=> ?_,e1.2⟩;have aX:=(ac.u.lt J aW).2;omega)
   have cC:=ab.u.size;clear ad ac ab aR;go_wp2_with fail
   go_loopw [9,12] (fun a3 a2 aO=>∃(j:Nat)(I:List Nat)(Q:Option Addr)(O:Nat),a2=.int .i64 j/\a3=.slice Q I.length O/\j<=hl.length/\Below w.heap.size w aO/\w5.heap.size<=aO.heap.size/\aO.ownsRow w.heap.size 3 1 (.slice Q I.length O) I.length (I.map fun n:Nat=> .int .i64 n)/\aO.ownsRow wr.heap.size 3 1 (.slice ha hl.length al) hl.length (hl.map fun n:Nat=> .int .i64 n)/\
    Hid (kR o (hl.take j)=I/\gO S rl.length I/\∀J,(Value.slice ha hl.length al).ownBlock=some J->(Value.slice Q I.length O).ownBlock≠some J/\J<w5.heap.size)) (fun _ a2 _=>hl.length-(intOf a2).toNat)
   case atStart=>exact ⟨0,o,_,O,rfl,rfl,aj,a5.u,cm _,bc.u,aT.u,ai ⟨rfl,bP.u,a8.u⟩⟩
   case round=>
    clear a5 bc aT a8;obtain ⟨j,I,Q,O,rfl,rfl,ct,U,cB,Z,aJ,R⟩:=hrel;have cw:=(ak R).2.1.le;have ad:=ai U;have ac:=ai Z;have a7:=ai aJ;have b5:=U.size
    by_cases aH:j<hl.length
    ·have b3:(j:Int)<(hl.length:Int):=by omega
     obtain ⟨ce,co,e1,au⟩:=aZ aJ j (.int .i64 (hl[j]:Nat)) (by simp [aG aH]);simp only [aI,true_and] at e1;obtain ⟨rfl,rfl⟩:=e1;have ax:=ai (Dh o hl j aH);have b7:=bM.u _ (bu aH);have ck:=ai (aG aH);generalize hl[j]=y at*;rw [(ak R).1] at ax;have C:=ai (Ae w.heap.size _ I y wr Z aj);clear U Z aJ;go_wp2_with fail;refine (ak C).mono ?_;rintro e aN ⟨rfl,ae⟩;have av:=ai (ad.u.trans (ae.mono b5));have az:=ai (aE ac.u ae);have aU:=ai (aE a7.u ae);have cF:=ae.size;have cf:=av.u.size;have b9:=am au ae;clear ae C ad ac a7 au;have Y:=ak ax;unfold iM at Y
     cases ah:(I.any fun k=>k==y)
     ·rw [ah] at Y;simp only [bz,aP] at Y;have bn:iM I y=I++[y]:=by unfold iM;rw [ah];simp
      have aQ:=(ak R).2.1.add b7;rw [bn] at aQ;have bL:=ai aQ;have aS:=ai Y;clear ah Y ax bn aQ;go_wp2_with (at_builtin;go_must (refine bD _ rfl _ _ 29 rfl w.heap.size 3 b8 _ 1 8 underlying29 bU.u bV.u bW.u bX.u rfl ar (.slice Q I.length O) I.length (I.map fun n:Nat=> .int .i64 n) rfl (az.u.alloc _) ⟨aN.heap.size,0,none⟩ 1 1 [.int .i64 y] rfl rfl ?hnews ?hone ar ?h63 ?hbytes ?hbase (aN.heap.size+1) ?hH ?hrest))
      case hnews=>exact bE (B:=aN.heap.size) (cs:=#[.int .i64 y]) (t:=3) (fr:=(0,0)) (aB.new' _ _ _ _ rfl)
      case hone=>
       exact ow
      case h63=>unfold maxLen;omega
      case hbytes=>omega
      case hbase=>simp;omega
      case hH=>simp
      intro bg be ch bv aC bo b0;have bI:=ai (eX (av.u.alloc cf _) (az.u.alloc _) aC);have bY:=ai (Ha (aU.u.alloc _) aC (fun J ap=>((ak R).2.2 J ap).1));have bZ:=ai bv;have cG:aN.heap.size<=ch.heap.size:=by have:=aC.size;simp at this;omega
      have bO:=ai (show ∀J,(Value.slice (some ⟨ce,0,none⟩) hl.length al).ownBlock=some J->(Value.slice (some ⟨bg,0,none⟩) (I++[y]).length be).ownBlock≠some J/\J<w5.heap.size from fun J ap=>by
       obtain ⟨e1,aW⟩:=(ak R).2.2 J ap;refine ⟨fun aX=> ?_,aW⟩;simp only [Value.ownBlock,aK] at aX
       rcases bo with bf|bf
       ·exact e1 (by rw [bf,aX])
       omega)
      clear bv aC bo b0 av az aU b9;go_wp2;go_roundw
      case rel=>exact ⟨j+1,I++[y],some ⟨bg,0,none⟩,be,by go_num,an,aj,bI.u,aj,by simpa using bZ.u,bY.u,ai ⟨aS.u,bL.u,bO.u⟩⟩
      case measure=>simp [intOf];omega
     rw [ah] at Y;simp only [if_true] at Y;have aS:=ai Y;clear ah Y ax;go_wp2;go_roundw
     case rel=>exact ⟨j+1,I,Q,O,by go_num,rfl,aj,av.u,aj,az.u,aU.u,ai ⟨aS.u,(ak R).2.1,(ak R).2.2⟩⟩
     case measure=>simp [intOf];omega
    have b3:¬((j:Int)<(hl.length:Int)):=aj;have aD:=(ak R).1;rw [eh aj] at aD;have bN:=ai aD;have cx:=(ak R).2.1.le;have cy:o.length<=I.length:=by
     have:=Am o hl;rw [aD] at this;exact this
    clear U Z aJ aD;go_wp2
    go_roundg (S.length+rl.length-i)
    case measure=>omega
    case rel=>exact ⟨i+1,I,Q,O,by go_num,rfl,aj,aj,ad.u,ac.u,ai ⟨(ak R).2.1,by rw [<-bN.u];exact bQ.u⟩⟩
  have b4:¬((i:Int)<(o.length:Int)):=aj;obtain ⟨aM,V⟩:=ak af;rw [show S.length+rl.length+1-i=(S.length+rl.length-i)+1 by omega,tR,k7 aj] at V;simp only at V;have bR:=ai V;clear U Z aM V;go_wp2;go_ret;rw [<-bR.u];exact ⟨_,rfl,ad.u,ac.u⟩
abbrev Di:=@List.drop_append_of_le_length
def tS (D:aF:=by
 have C:=ai BG;clear BG Ub;go_wp2;go_roundw
 case rel=>exact ⟨j+1,_,aj,aj,by go_num,rfl,B7.u,C7.u,C⟩
 case measure=>simp [intOf];omega):aF:=D
def minus(t:Tk):Bool:=(mk t.text).toList== [45]
def Ns(bad:Nat->Bool):List Nat->List Tk->Int->Int
 |m::ms,t::ts,c=>Ns bad ms ts (if minus t&&bad m then ed c t.place else c)
 |_,_,c=>c
def nT(bad:Nat->Bool)(pl:List PV):Nat->List Nat->Int->Int
 |0,_,c=>c
 |_+1,[],c=>c
 |f+1,n::q,c=>match pl[n]? with
  |none=>nT bad pl f q c
  |some p=>nT bad pl f (q++p.ps) (Ns bad (p.ps.drop 1) (p.sg.drop 1) c)
def tT(rl:List RV)(pl:List PV)(A:Nat->List Gr)(h:Nat->List Nat)(i:Nat)(x:RV)(m:Nat):Bool:=(xY rl pl A h (fp rl pl A x.kd (h m) (h x.ex))).any fun k=>k==i
structure Dj(rl:List RV)(pl:List PV)(dk:Nat->List Gr)(ff:Nat->List Nat)(x:RV)(Q:Nat->Prop)(sz:Nat->Nat):Prop where
 root:Q x.ex
 szr:sz x.ex<=1000
 step:∀n,Q n->∃p,pl[n]? =some p/\p.sg.length<=p.ps.length/\(p.ps.map sz).sum<sz n/\∀m∈p.ps,Q m/\lL rl pl x.kd m (ff m)/\(hW rl pl dk x.kd (ff m)).length<=1000000000/\(∀r∈fp rl pl dk x.kd (ff m) (ff x.ex),r<rl.length)/\(fp rl pl dk x.kd (ff m) (ff x.ex)).length<=900000000
 ex:lL rl pl x.kd x.ex (ff x.ex)/\(ID rl pl (ff x.ex)).length<=1000000000
theorem Dk(sz):∀(l:List Nat),(∀m∈l,0<sz m)->l.length<=(l.map sz).sum
 | [],_=>an
 |a::l,h=>by
  have h1:=h a an;have h2:=Dk sz l (fun m hm=>h m E5);simp only [List.length_cons,List.map_cons,List.sum_cons];omega
def loopsR(rl:List RV)(pl:List PV)(h:Nat->List Gr)(A:Nat->List Nat)(C:RV->Nat->Nat):List RV->Nat->Int->Int
 | [],_,c=>c
 |x::xs,i,c=>loopsR rl pl h A C xs (i+1) (nT (tT rl pl h A i x) pl (C x x.ex+1) [x.ex] c)
theorem mT{s m}:∀(l o:List Nat),gO s m o->(∀x∈l,x<m)->gO s m (kR o l)
 | [],o,h,_=>h
 |y::l,o,h,hl=>mT l (iM o y) (h.add (hl y an)) (fun x C=>hl x (by simp [C]))
theorem tU{s m}(H)(A:∀r,∀x∈H r,x<m):∀(f:Nat)(o:List Nat)(i:Nat),gO s m o->gO s m (tR H f o i)
 |0,o,i,h=>h
 |f+1,o,i,h=>by
  rw [tR]
  split
  ·exact h
  exact tU H A f _ _ (mT _ _ h (A _))
theorem Lo(rl pl dk ff)(I:ku rl pl dk ff)(S):(xY rl pl dk ff S).length<=S.length+rl.length:=by
 refine gO.le (tU _ (fun r x C=> ?_) _ _ _ ⟨[],an,an,an⟩);unfold mS at C
 cases D:rl[r]? with
 |none=>rw [D] at C;simp at C
 |some y=>
  rw [D] at C;exact (I y (bx D)).2.2 x C
theorem Dl(b kv rv pv kl rl pl l)(O:Nat->List Gr)(I:Nat->List Nat)(aX:RV->Nat->Prop)(J:RV->Nat->Nat)(w)(ah:DM w b kv rv pv kl rl pl l)(bQ:mR rl pl O)(bT:ku rl pl O I)(bU:∀x∈rl,Dj rl pl O I x (aX x) (J x)):
  Calls prog 130 #[.pointer (some ⟨b,5,none⟩)] w fun e w'=>e=.returned (.int .i64 (loopsR rl pl O I J rl 0 (-1)))/\Below w.heap.size w w':=by
 obtain ⟨df,bZ,b9,cb,cd⟩:=bH Tryz.infoInt;have cK:=ai bZ;have cL:=ai b9;have cM:=ai cb;have cN:=ai cd;clear bZ b9 cb cd;obtain ⟨dP,rc,rfl⟩:=ay ah.rt;have ab:=ai ah;have cB:=ai bQ;have bI:=ai bT;have cH:=ai bU;have dJ:=ah.rn;have dH:=ah.pn;generalize bP:loopsR rl pl O I J rl 0 (-1)=bK;have bC:=ai (show loopsR rl pl O I J (rl.drop 0) 0 (-1)=bK from bP);clear ah bQ bT bU bP;go_enter func130,ntmps130;go_wp2_with fail
 go_loopw [3,4] (fun ap bv wr=>∃(i:Nat)(c:Int),i<=rl.length/\bv=.int .i64 i/\ap=.int .i64 c/\Below w.heap.size w wr/\Hid (loopsR rl pl O I J (rl.drop i) i c=bK)) (fun _ bv _=>rl.length-(intOf bv).toNat)
 case atStart=>exact ⟨0,-1,aj,rfl,rfl,aw _ _,bC⟩
 case round=>
  clear bC;obtain ⟨i,c,hi,rfl,rfl,hb,HQ⟩:=hrel;have c6:=(ab.u.below hb).c6;have HB:=ai hb;have b8:=hb.size
  by_cases bk:i<rl.length
  ·have c5:(i:Int)<(rl.length:Int):=by omega
   obtain ⟨gr,cr,e1,bN,cT,cU,bb⟩:=ab.u.rat i rl[i] (aG bk);simp only [aI,true_and] at e1;obtain ⟨rfl,rfl⟩:=e1;have hq:=ak HQ;rw [dw bk,loopsR] at hq;have bo:=cH.u _ (bu bk);generalize rl[i]=x at*;have aQ:=am bb hb;have cI:=ai bN;have cJ:=ai bb;have ad:=ai bo;have dK:=bo.szr;generalize bX:nT (tT rl pl O I i x) pl (J x x.ex+1) [x.ex] c=cS at hq;have bD:=ai bX;have cE:=ai hq;have bO:Below wr.heap.size wr (wr.alloc (.cells #[.int .i64 x.ex] 3)):=ba.alloc az _;have bw:=ai (HB.u.trans (bO.mono b8));have bL:=ai (show (wr.alloc (.cells #[.int .i64 x.ex] 3)).ownsRow w.heap.size 3 1 (.slice (some ⟨wr.heap.size,0,none⟩) 1 1) 1 ([x.ex].map fun n:Nat=> .int .i64 n) from ⟨rfl,.inr ⟨wr.heap.size,1,#[.int .i64 x.ex],rfl,b8,aB.new wr _ _,aj,by unfold maxLen;omega,rfl,rfl⟩⟩);clear hb HQ hq bo bN cT cU bb bX bO;go_wp2_with fail
   go_loopg [3,5,6] (J x x.ex+1) (fun gk ap dl dm au=>∃(k:Nat)(inn:List Nat)(bp:Option Addr)(aL:Nat)(c:Int),dm=.int .i64 k/\dl=.slice bp inn.length aL/\ap=.int .i64 c/\k<=inn.length/\gk=J x x.ex+1-k/\Below w.heap.size w au/\au.ownsRow w.heap.size 3 1 (.slice bp inn.length aL) inn.length (inn.map fun n:Nat=> .int .i64 n)/\Hid (k+((inn.drop k).map (J x)).sum<=J x x.ex/\(∀m∈inn.drop k,aX x m)/\nT (tT rl pl O I i x) pl gk (inn.drop k) c=cS))
   case atStart=>exact ⟨0,[x.ex],_,1,c,rfl,rfl,rfl,aj,aj,bw.u,bL.u,ai ⟨an,fun m Q=>by simp at Q;subst Q;exact ad.u.root,bD.u⟩⟩
   case round=>
    clear bw bL bD aQ c6;obtain ⟨k,inn,bp,aL,c,rfl,rfl,rfl,dE,rfl,hb,aK,ac⟩:=hrel;have HB:=ai hb;have bJ:=ai aK;have dd:=hb.size;have bl:∀m∈inn.drop k,0<J x m:=fun m Q=>by
     obtain ⟨p,_,_,cX,_⟩:=ad.u.step m ((ak ac).2.1 m Q);omega
    have c9:=Dk (J x) (inn.drop k) bl;have dM:=(ak ac).1;rw [nY] at c9
    by_cases b2:k<inn.length
    ·have c8:(k:Int)<(inn.length:Int):=by omega
     obtain ⟨q,dx,e1,ce⟩:=aZ aK k (.int .i64 (inn[k]:Nat)) (by simp [aG b2]);simp only [aI,true_and] at e1;obtain ⟨rfl,rfl⟩:=e1;obtain ⟨al,ae,Y⟩:=ak ac;rw [dw b2] at al ae Y;obtain ⟨p,aH,dI,dN,aC⟩:=ad.u.step inn[k] (ae inn[k] List.mem_cons_self);rw [show J x x.ex+1-k=(J x x.ex-k)+1 by omega,nT,aH] at Y;simp only [List.map_cons,List.sum_cons] at al;generalize inn[k]=m at*;obtain ⟨V,cW,ga,gc,pa,pc,sa,sc,b6,bn,cf,cg,ch,ci,cj,ck,cl,cm⟩:=ab.u.pat m p aH;have Q:=(be.1 aH).1;have dF:(m:Int)<(pl.length:Int):=aj;have c7:=(ab.u.below hb).c7;rw [b6] at c7;have bF:=ai bn.p;have cG:=ai bn.s;have cA:=ai aC;have cC:=ai Y;have dG:p.ps.length<=1000:=by
      have db:∀m∈p.ps,0<J x m:=fun m Q=>by
       obtain ⟨p,_,_,cX,_⟩:=ad.u.step m (aC m Q).1;omega
      have:=Dk (J x) p.ps db;omega
     have bR:(k+1)+(((inn++p.ps).drop (k+1)).map (J x)).sum<=J x x.ex:=by
      rw [Di aj,List.map_append,List.sum_append];omega
     have bS:∀m∈(inn++p.ps).drop (k+1),aX x m:=fun m Q=>by
      rw [Di aj] at Q
      rcases aT.1 Q with Q|Q
      ·exact ae m (List.mem_cons_of_mem _ Q)
      exact (aC m Q).1
     have bG:=ai (And.intro bR bS);have cy:=am cf hb;have dn:=am cg hb;have dp:=am ch hb;have dq:=am ci hb;have dr:=am cj hb;have ds:=am ck hb;have dt:=am cl hb;have du:=am cm hb;have dg:=bj wr _ c7;have mk:=bj wr _ ce;have dh:=bj wr _ cy;clear hb aK bn aH b6 aC al ae Y ac bR bS cf cg ch ci cj ck cl cm bl;go_wp2_with fail
     go_region_held3 (fun w'=>w'.cell? ⟨b,7,none⟩=some (.slice (some ⟨V,0,none⟩) pl.length cW)/\w'.cell? ⟨q,k,none⟩=some (.int .i64 m)/\w'.cell? ⟨V,m*8,none⟩=some (.int .i64 p.kind)/\w'.cell? ⟨V,m*8+1,none⟩=some (.slice ga p.gs.length gc)/\w'.cell? ⟨V,m*8+2,none⟩=some (.string p.nb)/\w'.cell? ⟨V,m*8+3,none⟩=some (.string p.nr)/\w'.cell? ⟨V,m*8+4,none⟩=some (.int .i64 p.pa)/\w'.cell? ⟨V,m*8+5,none⟩=some (.int .i64 p.pr)/\w'.cell? ⟨V,m*8+6,none⟩=some (.slice pa p.ps.length pc)/\w'.cell? ⟨V,m*8+7,none⟩=some (.slice sa p.sg.length sc)) (go_keep) (fail)
     rename_i c3;clear c3 cy dn dp dq dr ds dt du c7 ce dg mk dh;have bc:Below wr.heap.size wr ((wr.alloc (ct p.kind ga p.gs.length gc p.nb p.nr p.pa p.pr pa p.ps.length pc sa p.sg.length sc)).drew):=((aw _ wr).alloc az _).drew;have ax:=ai (aB.new wr #[.int .i64 p.kind,.slice ga p.gs.length gc,.string p.nb,.string p.nr,.int .i64 p.pa,.int .i64 p.pr,.slice pa p.ps.length pc,.slice sa p.sg.length sc] 255).drew;have av:=ai (HB.u.trans (bc.mono dd));have aA:=ai (aE bJ.u bc);have dk:=av.u.size;obtain ⟨bq,p1,p2,br,bs,bt,aN,aO⟩:=ax.u.eight;have dj:=ax.u.lt;have bM:=ai (aE bF.u av.u);clear bc HB bJ;generalize (wr.alloc (ct p.kind ga p.gs.length gc p.nb p.nr p.pa p.pr pa p.ps.length pc sa p.sg.length sc)).drew=dv at*;generalize wr.heap.size=di at*;go_wp2_with (at_builtin;go_must (refine gN rfl _ _ 29 rfl w.heap.size 3 df _ 1 8 underlying29 cK.u cL.u cM.u cN.u rfl ar (.slice (some ⟨q,0,none⟩) inn.length aL) inn.length (inn.map fun n:Nat=> .int .i64 n) rfl aA.u (.slice pa p.ps.length pc) p.ps.length (p.ps.map fun n:Nat=> .int .i64 n) rfl _ bM.u ?mx ?sO ?hu dk ?pY))
     case mx=>
      exact Df
     case sO=>unfold maxLen;omega
     case hu=>omega
     intro cV cv cw b4 bg c2;have bx:=ai (eX av.u aA.u bg);have cQ:=ai (qz ax.u aA.u bg ar);have cP:=ai b4;clear b4 bg c2 av aA ax bM bq p1 p2 br bs bt aN aO dj;go_wp2_with fail;have dQ:=bx.u.size;have dL:p.sg.length<=1000:=aj
     go_loopw [3,8] (fun ap u8 au=>∃(j:Nat)(U:Int),1<=j/\j<=p.sg.length+1/\u8=.int .i64 j/\ap=.int .i64 U/\Below w.heap.size w au/\Below cw.heap.size cw au/\Hid (Ns (tT rl pl O I i x) (p.ps.drop j) (p.sg.drop j) U=Ns (tT rl pl O I i x) (p.ps.drop 1) (p.sg.drop 1) c)) (fun _ u8 _=>p.sg.length+1-(intOf u8).toNat)
     case atStart=>exact ⟨1,c,aj,aj,rfl,rfl,bx.u,aw _ _,ai rfl⟩
     case round=>
      obtain ⟨j,U,dB,dC,rfl,rfl,hb,ag,Ub⟩:=hrel;have HB:=ai hb;have bE:=ai ag;have de:=hb.size;have dc:=ag.size;have aJ:=cQ.u.below ag;obtain ⟨bq,p1,p2,br,bs,bt,aN,aO⟩:=aJ.eight;have dO:=aJ.lt
      by_cases b0:j<p.sg.length
      ·have c4:(j:Int)<(p.sg.length:Int):=by omega
       have bh:j<p.ps.length:=aj;have dD:(j:Int)<(p.ps.length:Int):=aj;obtain ⟨co,dy,e1,kp⟩:=aZ (aE bF.u hb) j (.int .i64 (p.ps[j]:Nat)) (by simp [aG bh]);simp only [aI,true_and] at e1;obtain ⟨rfl,rfl⟩:=e1;obtain ⟨qs,dz,e1,bf⟩:=bi eZ 3 (fun _=>rfl) (aE cG.u hb) j p.sg[j] (aG b0);simp only [aI,true_and] at e1;obtain ⟨rfl,rfl⟩:=e1;have BG:=ak Ub;rw [dw bh,dw b0,Ns] at BG;obtain ⟨_,b5,bY,b3,da⟩:=cA.u _ (bu bh);generalize p.ps[j]=Z at*;generalize p.sg[j]=t at*;have cp:wr.cell? ⟨qs,j*3,none⟩=some (.string (mk t.text)):=bf 0 _ aj rfl;have cq:wr.cell? ⟨qs,j*3+1,none⟩=some (.int .i64 t.place):=bf 1 _ aj rfl;have c6:=(ab.u.below hb).c6;have cx:=am cI.u hb;have aQ:=am cJ.u hb;have cZ:=Lo rl pl O I bI.u (fp rl pl O x.kd (I Z) (I x.ex));have bA:=ai (Ln b kv _ pv kl rl pl l O I x.kd Z x.ex (I Z) (I x.ex) wr.drew (ab.u.below (hb.drew)) cB.u b5 ad.u.ex.1 bY ad.u.ex.2 bI.u b3 da);have bW:tT rl pl O I i x Z=(xY rl pl O I (fp rl pl O x.kd (I Z) (I x.ex))).any fun k=>k==i:=rfl
       rw [bW] at BG;generalize cY:fp rl pl O x.kd (I Z) (I x.ex)=cO at*;generalize xY rl pl O I cO=aR at*;have c1:aR.length<=1000000000:=aj;clear hb ag b5 bY b3 bf bW cZ cY aJ;go_wp2_with fail
       go_region_held3 (fun w'=>w'.cell? ⟨b,6,none⟩=some (.slice (some ⟨gr,0,none⟩) rl.length rc)/\w'.cell? ⟨gr,i*4,none⟩=some (.string x.kd)/\w'.cell? ⟨gr,i*4+3,none⟩=some (.int .i64 x.ex)/\w'.cell? ⟨di,6,none⟩=some (.slice (some ⟨co,0,none⟩) p.ps.length pc)/\w'.cell? ⟨co,j,none⟩=some (.int .i64 Z)) (go_keep)
        ((go_at_call 193;refine bA.u.mono ?_;rintro e w5 ⟨sv,rfl,bV,b7⟩;have R:=ai (show Below wr.heap.size wr w5 from (aw _ wr).drew.trans bV);have d0:=am c6 R.u;have d1:=am cx R.u;have d2:=am aQ R.u;have d3:=am aN R.u;have d4:=am kp R.u;have aW:=ai b7;obtain ⟨ha,dA,rfl⟩:=ay aW.u;clear bV b7))
       have aS:=ai (HB.u.trans (R.u.mono de));have aU:=ai (bE.u.trans (R.u.mono dc));have bB:=ai (Ae _ _ aR i w5 aW.u c1);have t0:=am cp R.u;have t1:=am cq R.u;have cu:=am aO R.u;have dS:=R.u.size;clear c6 cx aQ bq p1 p2 br bs bt aN aO kp cp cq d0 d1 d2 d3 d4 bA HB bE R aW;go_wp2_with fail;refine bB.u.mono ?_;rintro e dT ⟨rfl,af⟩;have B7:=ai (aS.u.trans (af.mono aS.u.size));have C7:=ai (aU.u.trans (af.mono aU.u.size));have f0:=am t0 af;have f1:=am t1 af;have f7:=am cu af;clear af bB aS aU t0 t1 cu;generalize (aR.any fun k=>k==i)=bd at*
       cases aD:minus t
       ·rw [aD,dR] at BG;simp only [bz,aP] at BG;unfold minus at aD;exact tS
       rw [aD,Bool.true_and] at BG;unfold minus at aD
       cases bd
       ·simp only [bz,aP] at BG;exact tS
       simp only [if_true] at BG
       by_cases h0:U<0
       ·rw [show ed U t.place=t.place from by simp [ed,h0]] at BG;exact tS
       by_cases h1:(t.place:Int)<U
       ·rw [show ed U t.place=t.place from by simp [ed,h1]] at BG;exact tS
       rw [show ed U t.place=U from by simp [ed,h0,h1]] at BG;exact tS
      have c4:¬((j:Int)<(p.sg.length:Int)):=aj;have BG:=ak Ub;rw [show Ns (tT rl pl O I i x) (p.ps.drop j) (p.sg.drop j) U=U from by rw [eK (show p.sg.length<=j by omega)];cases p.ps.drop j<;>rfl] at BG;have cF:=ai BG;have cR:=ai (aE cP.u ag);clear hb ag BG Ub aJ;go_wp2
      go_roundg (J x x.ex-k)
      case measure=>omega
      case rel=>exact ⟨k+1,inn++p.ps,cV,cv,U,by go_num,an,rfl,aM,aj,HB.u,by simpa using cR.u,ai ⟨bG.u.1,bG.u.2,by rw [Di aj,cF.u];exact cC.u⟩⟩
    have c8:¬((k:Int)<(inn.length:Int)):=aj;obtain ⟨al,ae,Y⟩:=ak ac;rw [eK aj,show J x x.ex+1-k=(J x x.ex-k)+1 by omega,nT] at Y;have cz:=ai Y;clear hb aK al ae Y ac bl;go_wp2;go_roundw
    case rel=>exact ⟨i+1,c,aj,by go_num,rfl,HB.u,ai (by rw [cz.u];exact cE.u)⟩
    case measure=>simp [intOf];omega
  have c5:¬((i:Int)<(rl.length:Int)):=aj;have hq:=ak HQ;rw [eK aj,loopsR] at hq;exact K6
