import Derived.Test.YtlbpnlngckgcbaaGreatDoorM16
import Derived.Lib.SliceRun
import Derived.Test.YtlbpnlngckgcbaaGreatDoorM18
import Derived.Test.YtlbpnlngckgcbaaGreatDoorM17
set_option linter.all false
set_option maxHeartbeats 4000000
set_option maxRecDepth 100000
namespace Go.Proofs.YtlbpnlngckgcbaaGreatDoor
open Go.RowKit Go.PlainAid Go.Proofs.Tryz
variable {aD bq:Prop} {k g b B:Nat} {w w':af} {T:TypeId} {P:Program} {cs:Array ag} {mv lv gv:ag} {gs:List Tu}
abbrev k8(a0:ae)(a1:ae)(a2:ae)(a3:ae)(a4:ae)(a5:ae):Array ag:=#[an a0,an a1,an a2,an a3,an a4,an a5]
abbrev cB(a0:ae)(a1:ae)(a2:ae)(a3:ae)(a4:ae)(a5:ae):Obj:=.cells #[an a0,an a1,an a2,an a3,an a4,an a5] 123
def GV (h:aD:=by
 rw [pI];intro y C;obtain ⟨j,A,rfl⟩:=dB C;exact hn j A):aD:=h
def GW (h:aD:=by
 rw [kZ];exact ⟨hk,he,fun j A=>by rw [hn j ai A];simp⟩):aD:=h
def vS(q:bq) (h:cj bq->aD:=by
 intro zq;have k1:=hc 1 _ ai rfl;have k2:=hc 2 _ ai rfl;have k3:=hc 3 _ ai rfl;have k4:=hc 4 _ ai rfl;have k5:=hc 5 _ ai rfl
 revert k1 k2 k3 k4 k5
 exact zq.1):aD:=h ⟨q⟩
def Pr(q:bq) (h:cj bq->aD:=by
 intro zq;have e:∀p q:ae,eqs p q=decide (p.toList=q.toList):=fun p q=>by
  unfold eqs;rw [aT,aT,Bool.beq_eq_decide_eq]
 revert e
 exact zq.1):aD:=h ⟨q⟩
def k9(t:Tu):List ag:=[an t.kind,an t.id,an t.rel,an t.sub,an t.who,an t.of]
def oZ(a c:Tu):Bool:=eqs a.kind c.kind&&(eqs a.id c.id&&(eqs a.rel c.rel&&(eqs a.sub c.sub&&(eqs a.who c.who&&eqs a.of c.of))))
def DJ(a c):oZ a c=true↔a=c:=by
 unfold oZ;simp only [bO,bz]
 cases a
 cases c
 simp
def Vp(a c w):(Op.equalIn 10000 123 (.agg #[an a.kind,an a.id,an a.rel,an a.sub,an a.who,an a.of]) (.agg #[an c.kind,an c.id,an c.rel,an c.sub,an c.who,an c.of])).run prog w=.ok (oZ a c) w:=by
 have D:=underlying9;have A:=underlying98;have C:=underlying102;rw [show (10000:Nat)=9999+1 from rfl,run_equalIn_agg w 9999 123 _ _ aM aM];simp only [Program.fieldsOf,underlying123]
 go_simp
 refine Pr ?_;intro e;simp only [oZ,e]
 (repeat' split)<;>simp_all
def guardTu(x y xs ys w):(eqGuard .eql 123 x y (.agg xs) (.agg ys)).run prog w=.ok () w:=run_eqGuard_agg w .eql 123 x y xs ys aM
def ld(l:List Tu)(x:Tu):Int:=match l.findIdx? (oZ x) with
 |some i=>(i:Int)
 |none=> -1
def Vq{l x}(hk:k<l.length)(hn:∀j,(h:j<l.length)->j<k->oZ x l[j]=false)(he:oZ x l[k]=true):ld l x=k:=by
 unfold ld;have:l.findIdx? (oZ x)=some k:=by
  exact GW
 rw [this]
def LY{l x}(hn:∀j,(h:j<l.length)->oZ x l[j]=false):ld l x= -1:=by
 unfold ld;have:l.findIdx? (oZ x)=none:=by
  exact GV
 rw [this]
def aL.six{a b c d e f}(h:aL w g #[a,b,c,d,e,f] T):w.cell? (aP g)=some a/\w.cell? (aC g 1)=some b/\w.cell? (aC g 2)=some c/\w.cell? (aC g 3)=some d/\w.cell? (aC g 4)=some e/\w.cell? (aC g 5)=some f:=
 ⟨h.cell rfl,h.cell rfl,h.cell rfl,h.cell rfl,h.cell rfl,h.cell rfl⟩
def J4(base v l x w)(ax:l.length<=10000000000000)(h:w.ownsRow base 123 6 v l.length (l.flatMap k9)):
  Calls prog 68 #[v,.agg #[an x.kind,an x.id,an x.rel,an x.sub,an x.who,an x.of]] w fun e w'=>e=bi (au (ld l x))/\am w w':=by
 obtain ⟨sa,sc,rfl⟩:=aw h;have H:=aj h;have al:=Vp;obtain ⟨R,D⟩:∃R,R=ld l x:=⟨_,rfl⟩;rw [<-D];have Q:=aj D;clear h D;go_enter func68,ntmps68;go_wp2
 go_loopw [5,8] (fun u i wr=>∃k:Nat,k<=l.length/\i=au k/\am w wr/\aL wr w.heap.size (k8 x.kind x.id x.rel x.sub x.who x.of) 123/\Hid (∀j,(h:j<l.length)->j<k->oZ x l[j]=false)) (fun _ i _=>l.length-(intOf i).toNat)
 ·exact Pb
 ·obtain ⟨k,ar,rfl,I,J,C⟩:=hrel;have A:=aj I;have Y:=aj J
  by_cases V:k<l.length
  ·obtain ⟨g,c,e1,hc⟩:=bn k9 6 (fun _=>rfl) (ay (w':=wr) H.u (fun g cs f _ ab=>I.block g (lt_of_some ab))) k l[k] (aI V);simp only [aK] at e1;obtain ⟨rfl,_,rfl⟩:=e1;have k0:wr.cell? (aC g (k*6))=some (an l[k].kind):=hc 0 _ ai rfl;refine vS ?_;intro k1 k2 k3 k4 k5;obtain ⟨ae,b1,af,ag,ah,ak⟩:=J.six;have ad:(k:Int)<(l.length:Int):=ai;have av:(0:Int)<=(k:Int):=ai;clear I J hc
   cases U:oZ x l[k]
   ·have Z:=aj (show ∀j,(h:j<l.length)->j<k+1->oZ x l[j]=false from fun j h ap=>by
     by_cases e:j=k
     ·subst e;exact U
     exact aE C j h ai)
    go_wp2
    go_quiet (fail)
    go_wp2;go_roundw
    ·exact ⟨k+1,ai,by go_num,cJ A.u _,Y.u.drewN _,Z⟩
    simp [intOf];omega
   have hF:=Vq V (aE C) U;rw [<-Q.u] at hF;subst hF;go_wp2
   go_quiet (fail)
   go_wp2;go_ret;exact ⟨rfl,cJ A.u _⟩
  have hF:=LY (fun j ac=>aE C j ac ai);rw [<-Q.u] at hF;subst hF;have ad:¬((k:Int)<(l.length:Int)):=ai;go_wp2;go_ret;exact ⟨rfl,A.u⟩
def GX(base v l x w)(Q:l.length<=10000000000000)(h:w.ownsRow base 123 6 v l.length (l.flatMap k9)):
  Calls prog 62 #[v,.agg #[an x.kind,an x.id,an x.rel,an x.sub,an x.who,an x.of]] w fun e w'=>e=bi (.bool (decide (0<=ld l x)))/\am w w':=by
 have C:=fun w' (D:am w w')=>J4 base v l x w' Q (ay h (fun g cs f _ J=>D.block g (lt_of_some J)))
 obtain ⟨sa,sc,rfl⟩:=aw h;generalize ld l x=n at*;go_enter func62,ntmps62;go_wp2_with fail;refine (C _ (bo.alloc aH _)).mono ?_;rintro e w1 ⟨rfl,I⟩;have A:=((az _ w).alloc aH (cB x.kind x.id x.rel x.sub x.who x.of)).trans (I.mono ar);go_wp2;go_ret;exact ⟨rfl,A⟩
abbrev fV:=@List.length_set
abbrev jF:=@List.getElem_set_self
abbrev vT:=@Nat.add_assoc
abbrev cG:=@List.mem_cons
abbrev iT:=@List.not_mem_nil
abbrev jG:=@or_false
abbrev vU:=@List.getElem?_take
abbrev Bo:=@Array.getElem?_eq_getElem
abbrev GY:=@List.eq_of_mem_replicate
abbrev vV:=@List.length_replicate
abbrev sq:=@List.take_left'
abbrev Bp:=@List.eraseIdx_eq_take_drop_succ
def J5 (h:aD:=by
 simp [Act.eval,Act.put]):aD:=h
def jW{g:Nat}{T:TypeId}:∀(C:List ag)(o:Nat)(w:af)(A:Array ag),aL w g A T->o+C.length<=A.size->∃D,aL (w.setCells g o C) g D T/\D.size=A.size/\D.toList=A.toList.take o++C++A.toList.drop (o+C.length)
 | [],o,w,A,h,_=>⟨A,h,rfl,ar⟩
 |v::C,o,w,A,h,hz=>by
  rw [iO] at hz;obtain ⟨D,h1,h2,I⟩:=jW C (o+1) _ _ (h.set o v) (by rw [Array.size_setIfInBounds];omega);refine ⟨D,h1,by rw [h2,Array.size_setIfInBounds],?_⟩;rw [I,Array.toList_setIfInBounds];have hl:o<A.toList.length:=by rw [rS];omega
  rw [cD (by rw [fV];exact hl),List.take_set_of_le (bV o),jF,List.drop_set_of_lt ai,iO];simp [vT,rU 1]
def But.setCells{b x}:∀(A:List ag)(o:Nat)(y:af),But b x y->But b x (y.setCells b o A)
 | [],_,_,h=>h
 |v::A,o,y,h=>But.setCells A (o+1) _ (h.setCell o v)
def yG(w t e ty z)(D:P.underlying t=some (.slice e))(I:∀w,(zeroValue e).run P w=.ok z w)(zs)(J:(Builtin.zeroCells z.cells 1).toList=zs)(h1:∀u∈zs,u.oneCell'=true)(b o c)(A:∀j,j<zs.length->(w.cell? ⟨b,o+j,none⟩).isSome=true)(C:∀j,j<zs.length->w.frozen? ⟨b,o+j,none⟩=false):
  (Builtin.clear_ #[t] ty #[.slice (some ⟨b,o,none⟩) 1 c]).run P w=.ok (.tuple #[]) (w.setCells b o zs):=by
 have h:=run_storeCells_cells (P:=P) b o zs 0 w (by simpa using A) (by simpa using C) h1;simp only [Nat.add_zero] at h;simp [Builtin.clear_,run_underlying D,I,J,h]
def uI(l:List Tu):(l.flatMap k9).length=l.length*6:=by
 induction l with
 |nil=>rfl
 |cons x l ih=>rw [bM,bf,ih,iO,show (k9 x).length=6 from rfl];omega
def Vr(l:List Tu):∀u∈l.flatMap k9,u.oneCell'=true:=by
 intro u A;obtain ⟨x,_,h⟩:=bZ.1 A;simp only [k9,cG,iT,jG] at h
 rcases h with rfl|rfl|rfl|rfl|rfl|rfl<;>rfl
def Ps(base g c:Nat)(l:List Tu)(i:Nat)(w:af)(hi:i<l.length)(a3:l.length<=100000)(h:w.ownsRow base 123 6 (aA (some (aP g)) l.length c) l.length (l.flatMap k9)):
  Calls prog 69 #[aA (some (aP g)) l.length c,au i,au (i+1:Nat)] w fun e w'=>e=bi (aA (some (aP g)) (l.length-1) c)/\w'.ownsRow base 123 6 (aA (some (aP g)) (l.length-1) c) (l.length-1) ((l.eraseIdx i).flatMap k9)/\But g w w':=by
 obtain ⟨I,V,hbase,a4,aH,Q,ad⟩:∃I,aL w g I 123/\base<=g/\l.length<=c/\c<=maxLen/\I.size=c*6/\I.toList.take (l.length*6)=l.flatMap k9:=by
  rcases h.2 with ⟨h,_⟩|⟨g',aZ,I,e1,aG,Y,h1,h2,aB,aE⟩
  ·cases h
  simp only [aK,aR,cg] at e1;obtain ⟨⟨rfl,_,_⟩,_,rfl⟩:=e1;exact ⟨I,Y,aG,h1,h2,aB,aE⟩
 unfold maxLen at aH;obtain ⟨D,ab⟩:∃D,D=(l.drop (i+1)).flatMap k9:=⟨_,rfl⟩;have Z:D.length=(l.length-(i+1))*6:=by rw [ab,uI,nh]
 have ak:∀k u,(l.flatMap k9)[k]? =some u->w.cell? (aC g k)=some u:=fun k u C=>by
  rw [<-ad] at C;refine V.cell ?_;rw [vU] at C
  split at C
  ·simpa using C
  cases C
 have ap:∀k,k<c*6->(w.cell? (aC g k)).isSome=true/\w.frozen? (aC g k)=false:=fun k a2=>⟨by rw [V.cell (o:=k) (Bo ai)];rfl,V.fz k⟩
 have ar:(l.flatMap k9).drop ((i+1)*6)=D:=by
  have e:l.flatMap k9=(l.take (i+1)).flatMap k9++(l.drop (i+1)).flatMap k9:=by rw [<-cN,pL]
  rw [e,List.drop_left' (by rw [uI,eb];omega),ab]
 obtain ⟨A,a0,aN⟩:∃A:Addr,(if c=i+1 then some (⟨g,0,none⟩:Addr) else some (aC g ((i+1)*6)))=some A/\Hid (∀t u,D[t]? =some u->w.drew.cell? (A.add t)=some u):=by
  by_cases Y:c=i+1
  ·refine ⟨⟨g,0,none⟩,by simp [Y],fun t u C=> ?_⟩;have h0:D.length=0:=by rw [Z];omega
   rw [List.length_eq_zero_iff.1 h0] at C;simp at C
  refine ⟨⟨g,(i+1)*6,none⟩,by simp [Y],fun t u C=> ?_⟩;rw [Addr.add_lit];refine ak _ _ ?_;rw [<-ar,rV] at C;exact C
 have aX:Hid (∀u∈D,u.oneCell'=true):=by rw [ab];exact Vr _
 have aY:Hid (∀t,t<D.length->(w.drew.cell? (aC g (0+i*6+t))).isSome=true/\w.drew.frozen? (aC g (0+i*6+t))=false):=by
  intro t aO;rw [Z] at aO;exact ap _ ai
 obtain ⟨i0,al,aQ,aS,a5⟩:=eN (show (Tryz.prog.info? 123).map (fun i=>(i.zero,i.size,i.bytes))=some (some (.agg #[an ⟨#[]⟩,an ⟨#[]⟩,an ⟨#[]⟩,an ⟨#[]⟩,an ⟨#[]⟩,an ⟨#[]⟩]),6,96) by kernel_rfl);have ae:Hid (D.length=(l.length-(i+1))*6):=Z;obtain ⟨J,U⟩:∃J,J=w.drew.setCells g (0+i*6) D:=⟨_,rfl⟩;have aF:Hid (J=w.drew.setCells g (0+i*6) D):=U;have a6:i+1<=l.length:=hi;have a7:i+1<=c:=ai;have a8:i<=c:=ai;have aT:¬((i:Int)=((i+1:Nat):Int)):=ai;have a9:((i:Int)==((i+1:Nat):Int))=false:=by rw [bR];exact aT
 generalize hn:l.length=n at*;have aU:(0:Int)<=(i:Int)+1:=ai;have aV:(i:Int)+1<=(n:Int):=ai;have ba:(0:Int)<=(i:Int)+1/\(i:Int)+1<=(n:Int):=⟨aU,aV⟩;have av:∀w,(zeroValue 123).run prog w=.ok (.agg #[an ⟨#[]⟩,an ⟨#[]⟩,an ⟨#[]⟩,an ⟨#[]⟩,an ⟨#[]⟩,an ⟨#[]⟩]) w:=fun w=>by first|rfl|kernel_rfl|simp [zeroValue,al,aQ]
 obtain ⟨ay,b1,R,e1⟩:=jW D (0+i*6) w.drew I V (by rw [ae,Q];omega);rw [<-U] at b1;have am:n-(i+(n-(i+1)))=1:=ai;have a1:∀ty,(Builtin.clear_ #[115] ty #[aA (some (aC g ((i+(n-(i+1)))*6))) (n-(i+(n-(i+1)))) (c-(i+(n-(i+1))))]).run prog J=.ok (.tuple #[]) (J.setCells g ((i+(n-(i+1)))*6) (List.replicate 6 (an ⟨#[]⟩))):=fun ty=>by
  rw [am];exact yG J _ _ ty _ underlying115 av _ aM (fun u C=>by rw [GY C];rfl) g _ _ (fun j aI=>by rw [vV] at aI;rw [b1.cell (o:=(i+(n-(i+1)))*6+j) (Bo (by rw [R,Q];omega))];rfl) (fun j _=>b1.fz _)
 obtain ⟨az,ag,aw,ah⟩:=jW (List.replicate 6 (an ⟨#[]⟩)) ((i+(n-(i+1)))*6) J ay b1 (by rw [vV,R,Q];omega);have bt:But g w (J.setCells g ((i+(n-(i+1)))*6) (List.replicate 6 (an ⟨#[]⟩))):=by
  refine But.setCells _ _ _ ?_;rw [U];exact But.setCells _ _ _ (But.refl g w).drew
 have ac:i+(n-(i+1))=n-1:=ai;have aJ:(J.setCells g ((i+(n-(i+1)))*6) (List.replicate 6 (an ⟨#[]⟩))).ownsRow base 123 6 (aA (some (aP g)) (n-1) c) (n-1) ((l.eraseIdx i).flatMap k9):=by
  have el:(l.eraseIdx i).length=n-1:=by rw [List.length_eraseIdx_of_lt ai,hn]
  refine ⟨by rw [uI,el],.inr ⟨g,c,az,rfl,hbase,ag,ai,by unfold maxLen;omega,by rw [aw,R,Q],?_⟩⟩;rw [ah,ac,ct,sq (by rw [eb,rS,R,Q];omega),e1];have k1:(List.take (0+i*6) I.toList).length=i*6:=by rw [eb,rS,Q];omega
  rw [sq (by rw [bf,k1,ae];omega)];have aW:List.take (0+i*6) I.toList=(l.take i).flatMap k9:=by
   have:List.take (0+i*6) I.toList=List.take (i*6) (l.flatMap k9):=by rw [<-ad,List.take_take,pZ,Nat.min_eq_left ai]
   rw [this];have e:l.flatMap k9=(l.take i).flatMap k9++(l.drop i).flatMap k9:=by rw [<-cN,pL]
   rw [e,sq (by rw [uI,eb];omega)]
  rw [aW,ab,<-cN,Bp]
 have ax:=aj ac;clear U ak ap ar Z ad h hi b1 R e1 ag aw ah ac av am;go_enter func69,ntmps69;go_wp2_with fail
 go_region_law (refine step_append_room rfl (.tmp 22) (.tmp 25) 115 rfl 123 i0 6 underlying115 al aS g 0 i c J5 A (n-(i+1)) (c-(i+1)) D J5 ae aN aX ai aY ?_;rw [<-aF])
 go_wp2;go_ret;exact ⟨by rw [<-ax.u];rfl,aJ,bt⟩
structure bK(S:Nat->Prop)(w w':af):Prop where
 os:w'.os=w.os
 tape:w'.tape=w.tape
 output:w'.output=w.output
 size:w.heap.size<=w'.heap.size
 block:∀k,k<w.heap.size->¬S k->w'.heap[k]? =w.heap[k]?
section
variable {S:Nat->Prop}{x y z:af}
def bK.refl(S w):bK S w w:=⟨rfl,rfl,rfl,bV _,fun _ _ _=>rfl⟩
def bK.trans(h:bK S x y)(k:bK S y z):bK S x z:=
 ⟨k.os.trans h.os,k.tape.trans h.tape,k.output.trans h.output,aV h.size k.size,fun i hi hs=>(k.block i (cM hi h.size) hs).trans (h.block i hi hs)⟩
def bK.of_below(h:am x y):bK S x y:=⟨h.os,h.tape,h.output,h.size,fun k A _=>h.block k A⟩
def bK.of_but(h:But b x y)(A:S b):bK S x y:=⟨h.os,h.tape,h.output,h.size,fun k C hs=>h.block k C (fun e=>hs (e▸A))⟩
def bK.mono{S'}(h:bK S x y)(hs:∀k,S k->S' k):bK S' x y:=⟨h.os,h.tape,h.output,h.size,fun k A hn=>h.block k A (fun e=>hn (hs k e))⟩
def bK.set(h:bK S x y){a}(ha:S a.block)(u):bK S x (y.setCell a u):=
 ⟨h.os,h.tape,h.output,by simpa using h.size,fun k A hs=>(ea _ _ _ _ (fun (e:k=a.block)=>hs (by rw [e];exact ha))).trans (h.block k A hs)⟩
def bK.drew(h:bK S x y):bK S x y.drew:=⟨h.os,h.tape,h.output,h.size,h.block⟩
def bK.drewN(h:bK S x y)(n):bK S x (y.drewN n):=h.trans (.of_below (cJ bo n))
def bK.blk(k:bK S x y)(h:aL x g cs T)(A:¬S g):aL y g cs T:=(k.block g h.lt A).trans h
def bK.below(k:bK S x y)(C:B<=x.heap.size)(A:∀g,S g->B<=g):Below B x y:=⟨k.os,k.tape,k.output,k.size,fun g D=>k.block g ai (fun e=>by have:=A g e;omega)⟩
end
structure PU(w:af)(b:Nat)(mv lv gv:ag)(gs:List Tu):Prop where
 blk:aL w b #[mv,lv,gv] 117
 row:w.ownsRow 0 123 6 gv gs.length (gs.flatMap k9)
 apart:∀g n c,gv=aA (some (aP g)) n c->g≠b
 most:gs.length<=1000
def BG(b:Nat)(gv:ag)(k:Nat):Prop:=k=b\/∃n c,gv=aA (some (aP k)) n c
def PU.below(h:PU w b mv lv gv gs)(k:am w w'):PU w' b mv lv gv gs:=⟨h.blk.below k,aB h.row k,h.apart,h.most⟩
def three{a b c}(h:aL w g #[a,b,c] T):w.cell? (aP g)=some a/\w.cell? (aC g 1)=some b/\w.cell? (aC g 2)=some c:=⟨h.cell rfl,h.cell rfl,h.cell rfl⟩
def zM(A:GZ)(s:ae)(w:af)(C:ko w)(D:1<w.heap.size):
  Calls prog 60 #[an s] w fun e w'=>e=bi (.tuple #[.agg (nL s).1,.bool (nL s).2])/\am w w':=by
 by_cases h:53<s.size
 ·exact Hl s w h
 ·exact DS A s w ai C D
abbrev fZ:=@and_true
def XJ (h:aD:=by
 go_wp2_with fail;refine C1.mono ?_;rintro e w1 ⟨rfl,A⟩;have C:=A.alloc A.size (cB t.kind t.id t.rel t.sub t.who t.of);clear A C1;go_wp2;go_ret;exact ky.same h C 2):aD:=h
def Hv(q:bq) (h:cj bq->aD:=by
 intro zq;refine C1.mono ?_;rintro e w1 ⟨rfl,hb1⟩;have B1:=hb1.alloc hb1.size (cB t.kind t.id t.rel t.sub t.who t.of);have U1:=h.below B1;have T1:=aL.new w1 (k8 t.kind t.id t.rel t.sub t.who t.of) 123;have hne:¬(w1.heap.size=b):=by have:=hb1.size;omega
 have D5:¬(b=w1.heap.size):=by have:=hb1.size;omega
 clear hb1
 revert w1 B1 U1 T1 hne D5
 exact zq.1):aD:=h ⟨q⟩
attribute [local go_sem ↓] Go.wp_at_zero Go.wp_at_succ
def VI{l x}(h:ld l x=k):k<l.length:=by
 unfold ld at h
 split at h
 ·rename_i i hi;rw [kZ] at hi;obtain ⟨hl,_⟩:=hi;omega
 omega
def BH(gs:List Tu)(s:ae):Nat×List Tu:=if dM s=false then (2,gs) else if ld gs (b7 s).1<0 then (9,gs) else (0,gs.eraseIdx (ld gs (b7 s).1).toNat)
def ky(b:Nat)(mv lv gv:ag)(w:af)(r:Nat×List Tu)(e:Ending)(w':af):Prop:=∃h,e=bi (au r.1)/\PU w' b mv lv h r.2/\bK (BG b gv) w w'/\(∀k,BG b h k->BG b gv k\/w.heap.size<=k)
def ky.same(h:PU w b mv lv gv gs)(k:am w w')(c):ky b mv lv gv w (c,gs) (bi (au c)) w':=⟨gv,rfl,h.below k,.of_below k,fun _ h=> .inl h⟩
def zN(s):∃t:Tu,(nL s).1=#[an t.kind,an t.id,an t.rel,an t.sub,an t.who,an t.of]/\(dM s=true->t=(b7 s).1):=by
 cases h:dM s
 ·by_cases A:53<s.size
  ·refine ⟨⟨⟨#[]⟩,⟨#[]⟩,⟨#[]⟩,⟨#[]⟩,⟨#[]⟩,⟨#[]⟩⟩,?_,ar⟩;unfold nL;rw [if_pos A]
  refine ⟨⟨(aG (aG (aG s 64).1 35).1 58).1,(aG (aG (aG s 64).1 35).1 58).2.1,(aG (aG s 64).1 35).2.1,(aG (aG (aG s 64).2.1 35).1 58).1,(aG (aG (aG s 64).2.1 35).1 58).2.1,(aG (aG s 64).2.1 35).2.1⟩,?_,ar⟩;unfold nL;rw [if_neg A]
 refine ⟨(b7 s).1,?_,fun _=>rfl⟩;rw [(lJ h).2.1]
def D6(Z:GZ)(b:Nat)(s:ae)(w:af)(mv lv gv:ag)(gs:List Tu)(h:PU w b mv lv gv gs)(ad:ko w)(ah:1<w.heap.size):
  Calls prog 35 #[bu b,an s] w (ky b mv lv gv w (BH gs s)):=by
 have C1:=zM Z s w ad ah;rw [Ki s] at C1;obtain ⟨t,av,ab⟩:=zN s;rw [av] at C1;unfold BH;clear av
 cases ho:dM s
 ·rw [ho] at C1;rw [if_pos rfl];clear ad ah Z ho ab;go_enter func35,ntmps35;exact XJ
 ·rw [if_neg ar,<-ab ho];rw [ho] at C1;clear ho ab;obtain ⟨ga,gc,rfl⟩:=aw h.row;have aQ:=h.most;have J:=fun w' (k:am w w')=>J4 0 _ gs t w' ai (aB h.row k)
  have aN:=h.blk.lt;clear ad ah Z
  by_cases hi:ld gs t<0
  ·rw [if_pos hi];generalize ld gs t=n at*;go_enter func35,ntmps35;go_wp2_with fail;refine Hv ?_;intro w1 B1 U1 T1 hne D5;clear C1;go_wp2_with fail;have l1:=B1.size;generalize (w1.alloc (cB t.kind t.id t.rel t.sub t.who t.of))=W at*;obtain ⟨c0,c1,c2⟩:=three U1.blk;obtain ⟨t0,t1,t2,t3,t4,t5⟩:=T1.six;have Q:=J W.drew B1.drew;clear J
   go_region_held3 (fun w'=>w'.cell? (aC b 2)=some (aA ga gs.length gc)/\w'.cell? (aP w1.heap.size)=some (an t.kind)/\w'.cell? (aC w1.heap.size 1)=some (an t.id)/\w'.cell? (aC w1.heap.size 2)=some (an t.rel)/\w'.cell? (aC w1.heap.size 3)=some (an t.sub)/\w'.cell? (aC w1.heap.size 4)=some (an t.who)/\w'.cell? (aC w1.heap.size 5)=some (an t.of)) (go_keep)
    ((go_at_call 68;refine Q.mono ?_;rintro e Y ⟨rfl,R⟩;have D:=((az _ W).drew.trans R:am W Y);have d0:=ak c2 D;have d1:=ak t0 D;have d2:=ak t1 D;have d3:=ak t2 D;have d4:=ak t3 D;have d5:=ak t4 D;have d6:=ak t5 D;clear R))
   have U:=B1.trans (D.mono l1);clear Q d0 d1 d2 d3 d4 d5 d6 t0 t1 t2 t3 t4 t5 c0 c1 c2 U1 T1 B1 D;go_wp2;go_ret;exact ky.same h U 9
  rw [if_neg hi];obtain ⟨k,ac⟩:∃k:Nat,ld gs t=k:=⟨(ld gs t).toNat,ai⟩;have au:=VI ac;rw [ac] at J ⊢;clear hi ac;obtain ⟨g,c,e1,_⟩:=h.row.form (n:=gs.length) ai;simp only [aK,bX] at e1;obtain ⟨rfl,rfl⟩:=e1;have ap:=h.apart g _ _ rfl;rw [kk];have aO:¬((k:Int)<0):=ai;go_enter func35,ntmps35;go_wp2_with fail;refine Hv ?_;intro w1 B1 U1 T1 hne D5;clear C1;go_wp2_with fail;have l1:=B1.size;generalize (w1.alloc (cB t.kind t.id t.rel t.sub t.who t.of))=W at*;obtain ⟨c0,c1,c2⟩:=three U1.blk;obtain ⟨t0,t1,t2,t3,t4,t5⟩:=T1.six;have Q:=J W.drew B1.drew;clear J
  go_region_held3 (fun w'=>w'.cell? (aC b 2)=some (aA (some (aP g)) gs.length gc)/\w'.cell? (aP w1.heap.size)=some (an t.kind)/\w'.cell? (aC w1.heap.size 1)=some (an t.id)/\w'.cell? (aC w1.heap.size 2)=some (an t.rel)/\w'.cell? (aC w1.heap.size 3)=some (an t.sub)/\w'.cell? (aC w1.heap.size 4)=some (an t.who)/\w'.cell? (aC w1.heap.size 5)=some (an t.of)) (go_keep)
   ((go_at_call 68;refine Q.mono ?_;rintro e Y ⟨rfl,R⟩;have D:=((az _ W).drew.trans R:am W Y);have d0:=ak c2 D;have d1:=ak t0 D;have d2:=ak t1 D;have d3:=ak t2 D;have d4:=ak t3 D;have d5:=ak t4 D;have d6:=ak t5 D;clear R))
  have U:=B1.trans (D.mono l1);clear Q d0 d1 d2 d3 d4 d5 d6 t0 t1 t2 t3 t4 t5 c0 c1 c2 U1 T1 B1 D;have I:=h.below U;have aj:=Ps 0 g gc gs k Y au ai I.row;obtain ⟨c0,c1,c2⟩:=three I.blk;have aE:=I.blk.fz;have ax:=I.blk;have l2:=I.blk.lt;have aH:¬(b=g):=fun e=>ap e.symm
  clear I;go_wp2_with fail;refine aj.mono ?_;rintro e aT ⟨rfl,aM,al⟩;have V:=ax.but al aH;obtain ⟨aU,aV,aW⟩:=three V;have aX:=V.fz;clear c0 c1 c2 aE aj;go_wp2;go_ret;have aJ:(gs.eraseIdx k).length=gs.length-1:=List.length_eraseIdx_of_lt au;have aF:BG b (aA (some (aP g)) gs.length gc) g:=.inr ⟨_,_,rfl⟩;have aG:BG b (aA (some (aP g)) gs.length gc) b:=.inl rfl;refine ⟨aA (some (aP g)) (gs.length-1) gc,rfl,⟨V.set 2 _,?_,?_,by show (gs.eraseIdx k).length<=1000;omega⟩,((bK.of_below U).trans (.of_but al aF)).set aG _,?_⟩
  ·show World.ownsRow _ 0 123 6 _ (gs.eraseIdx k).length _
   rw [aJ];refine ay aM (fun g' cs f _ aI=>ea _ _ _ _ (fun (e':g'=b)=> ?_));subst e';have:=V;unfold aL at this;rw [aI] at this;simp at this
  ·intro g' n c e;simp only [aK,aR,cg,fZ] at e;exact fun e'=>ap (e.1.trans e')
  rintro aS (rfl|⟨n,c,e⟩)
  ·exact .inl (.inl rfl)
  simp only [aK,aR,cg,fZ] at e;exact .inl (.inr ⟨_,_,by rw [e.1]⟩)
