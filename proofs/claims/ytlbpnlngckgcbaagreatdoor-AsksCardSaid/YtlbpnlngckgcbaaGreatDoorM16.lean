import Derived.Test.YtlbpnlngckgcbaaGreatDoorM12
import Derived.Test.YtlbpnlngckgcbaaGreatDoorM11
set_option linter.all false
set_option maxHeartbeats 4000000
set_option maxRecDepth 100000
namespace Go.Proofs.YtlbpnlngckgcbaaGreatDoor
open Go.RowKit Go.PlainAid Go.Proofs.Tryz
variable {aA aU:Prop} {k g b B gc g5 aT:Nat} {w w' y W w5:af} {T:TypeId} {P:Program} {cs:Array ag} {mv lv gv:ag} {gs:List Tu} {row:Option Nat} {ga:Option Addr} {o:Obj}
abbrev kW(a0:ae)(a1:ae)(a2:ae)(a3:ae)(a4:ae)(a5:ae):Array ag:=#[.string a0,.string a1,.string a2,.string a3,.string a4,.string a5]
abbrev cw(a0:ae)(a1:ae)(a2:ae)(a3:ae)(a4:ae)(a5:ae):Obj:=.cells #[.string a0,.string a1,.string a2,.string a3,.string a4,.string a5] 123
def FA (h:aA:=by
 rw [o6];intro y C;obtain ⟨j,A,rfl⟩:=dk C;exact hn j A):aA:=h
def FB (h:aA:=by
 rw [kS];exact ⟨hk,he,fun j A=>by rw [hn j aj A];simp⟩):aA:=h
def OP (h:aA:=by
 have A:¬((k:Int)<(l.length:Int)):=aj;go_wp2;go_ret;exact ⟨rfl,HB.u⟩):aA:=h
def Aj(q:aU) (h:bF aU->aA:=by
 intro zq;have k1:=hc 1 _ aj rfl;have k2:=hc 2 _ aj rfl;have k3:=hc 3 _ aj rfl;have k4:=hc 4 _ aj rfl;have k5:=hc 5 _ aj rfl
 revert k1 k2 k3 k4 k5
 exact zq.1):aA:=h ⟨q⟩
def OQ(q:aU) (h:bF aU->aA:=by
 intro zq;have e:∀p q:ae,eqs p q=decide (p.toList=q.toList):=fun p q=>by
  unfold eqs;rw [aO,aO,Bool.beq_eq_decide_eq]
 revert e
 exact zq.1):aA:=h ⟨q⟩
def jD(t:Tu):List ag:=[.string t.kind,.string t.id,.string t.rel,.string t.sub,.string t.who,.string t.of]
def oF(a c:Tu):Bool:=eqs a.kind c.kind&&(eqs a.id c.id&&(eqs a.rel c.rel&&(eqs a.sub c.sub&&(eqs a.who c.who&&eqs a.of c.of))))
def CB(a c):oF a c=true↔a=c:=by
 unfold oF;simp only [bM,bo]
 cases a
 cases c
 simp
def UY(a c w):(Op.equalIn 10000 123 (.agg #[.string a.kind,.string a.id,.string a.rel,.string a.sub,.string a.who,.string a.of]) (.agg #[.string c.kind,.string c.id,.string c.rel,.string c.sub,.string c.who,.string c.of])).run prog w=.ok (oF a c) w:=by
 have D:=underlying9;have A:=underlying98;have C:=underlying102;rw [show (10000:Nat)=9999+1 from rfl,run_equalIn_agg w 9999 123 _ _ aw aw];simp only [Program.fieldsOf,underlying123]
 go_simp
 refine OQ ?_;intro e;simp only [oF,e]
 (repeat' split)<;>simp_all
def UZ(x y xs ys w):(eqGuard .eql 123 x y (.agg xs) (.agg ys)).run prog w=.ok () w:=run_eqGuard_agg w .eql 123 x y xs ys aw
def kX(l:List Tu)(x:Tu):Int:=match l.findIdx? (oF x) with
 |some i=>(i:Int)
 |none=> -1
def U0{l x}(hk:k<l.length)(hn:∀j,(h:j<l.length)->j<k->oF x l[j]=false)(he:oF x l[k]=true):kX l x=k:=by
 unfold kX;have:l.findIdx? (oF x)=some k:=by
  exact FB
 rw [this]
def KW{l x}(hn:∀j,(h:j<l.length)->oF x l[j]=false):kX l x= -1:=by
 unfold kX;have:l.findIdx? (oF x)=none:=by
  exact FA
 rw [this]
def aE.six{a b c d e f}(h:aE w g #[a,b,c,d,e,f] T):w.cell? ⟨g,0,none⟩=some a/\w.cell? ⟨g,1,none⟩=some b/\w.cell? ⟨g,2,none⟩=some c/\w.cell? ⟨g,3,none⟩=some d/\w.cell? ⟨g,4,none⟩=some e/\w.cell? ⟨g,5,none⟩=some f:=
 ⟨h.cell rfl,h.cell rfl,h.cell rfl,h.cell rfl,h.cell rfl,h.cell rfl⟩
def I0(base v l x w)(au:l.length<=10000000000000)(h:w.ownsRow base 123 6 v l.length (l.flatMap jD)):
  Calls prog 68 #[v,.agg #[.string x.kind,.string x.id,.string x.rel,.string x.sub,.string x.who,.string x.of]] w fun e w'=>e=.returned (.int .i64 (kX l x))/\an w w':=by
 obtain ⟨sa,sc,rfl⟩:=ax h;have H:=ai h;have ag:=UY;have ah:=UZ;obtain ⟨R,D⟩:∃R,R=kX l x:=⟨_,rfl⟩;rw [<-D];have Q:=ai D;clear h D;go_enter func68,ntmps68;go_wp2
 go_loopw [5,8] (fun u i wr=>∃k:Nat,k<=l.length/\i=.int .i64 k/\an w wr/\aE wr w.heap.size (kW x.kind x.id x.rel x.sub x.who x.of) 123/\Hid (∀j,(h:j<l.length)->j<k->oF x l[j]=false)) (fun _ i _=>l.length-(intOf i).toNat)
 case atStart=>exact ⟨0,aj,rfl,bj.alloc aD _,aE.new _ _ _,ai (fun j e h=>aj)⟩
 case round=>
  obtain ⟨k,am,rfl,I,J,C⟩:=hrel;have HB:=ai I;have xh:=ai J
  by_cases V:k<l.length
  ·obtain ⟨g,c,e1,hc⟩:=bf jD 6 (fun _=>rfl) (ay (w':=wr) H.u (fun g cs f _ Y=>I.block g (lt_of_some Y))) k l[k] (aH V);simp only [aI] at e1;obtain ⟨rfl,_,rfl⟩:=e1;have k0:wr.cell? ⟨g,k*6,none⟩=some (.string l[k].kind):=hc 0 _ aj rfl;refine Aj ?_;intro k1 k2 k3 k4 k5;obtain ⟨ab,b1,ac,ad,ae,af⟩:=J.six;have ar:(k:Int)<(l.length:Int):=aj;have ap:(0:Int)<=(k:Int):=aj;clear I J hc
   cases U:oF x l[k]
   ·have Hn:=ai (show ∀j,(h:j<l.length)->j<k+1->oF x l[j]=false from fun j h al=>by
     by_cases e:j=k
     ·subst e;exact U
     exact ak C j h aj)
    go_wp2
    go_quiet (fail)
    exact Oc
   have hF:=U0 V (ak C) U;rw [<-Q.u] at hF;subst hF;go_wp2
   go_quiet (fail)
   go_wp2;go_ret;exact ⟨rfl,cF HB.u _⟩
  have hF:=KW (fun j Z=>ak C j Z aj);rw [<-Q.u] at hF;subst hF;exact OP
def FC(base v l x w)(Q:l.length<=10000000000000)(h:w.ownsRow base 123 6 v l.length (l.flatMap jD)):
  Calls prog 62 #[v,.agg #[.string x.kind,.string x.id,.string x.rel,.string x.sub,.string x.who,.string x.of]] w fun e w'=>e=.returned (.bool (decide (0<=kX l x)))/\an w w':=by
 have C:=ai (fun w' (D:an w w')=>I0 base v l x w' Q (ay h (fun g cs f _ J=>D.block g (lt_of_some J))));obtain ⟨sa,sc,rfl⟩:=ax h;generalize kX l x=n at*;go_enter func62,ntmps62;go_wp2_with fail;refine (C.u _ (bj.alloc aD _)).mono ?_;rintro e w1 ⟨rfl,I⟩;have A:=ai (((az _ w).alloc aD (cw x.kind x.id x.rel x.sub x.who x.of)).trans (I.mono ar));go_wp2;go_ret;exact ⟨rfl,A.u⟩
abbrev fF:=@List.length_set
abbrev jq:=@List.getElem_set_self
abbrev Uzc:=@Nat.add_assoc
abbrev vb:=@List.getElem?_take
abbrev Ak:=@Array.getElem?_eq_getElem
abbrev FD:=@List.eq_of_mem_replicate
abbrev vd:=@List.length_replicate
abbrev rJ:=@List.take_left'
abbrev Al:=@List.eraseIdx_eq_take_drop_succ
def I3 (h:aA:=by
 simp [Act.eval,Act.put]):aA:=h
def jH{g:Nat}{T:TypeId}:∀(C:List ag)(o:Nat)(w:af)(A:Array ag),aE w g A T->o+C.length<=A.size->∃D,aE (w.setCells g o C) g D T/\D.size=A.size/\D.toList=A.toList.take o++C++A.toList.drop (o+C.length)
 | [],o,w,A,h,_=>⟨A,h,rfl,ar⟩
 |v::C,o,w,A,h,hz=>by
  rw [iC] at hz;obtain ⟨D,h1,h2,I⟩:=jH C (o+1) _ _ (h.set o v) (by rw [Array.size_setIfInBounds];omega);refine ⟨D,h1,by rw [h2,Array.size_setIfInBounds],?_⟩;rw [I,Array.toList_setIfInBounds];have hl:o<A.toList.length:=by rw [qZ];omega
  rw [cJ (by rw [fF];exact hl),List.take_set_of_le (bY o),jq,List.drop_set_of_lt aj,iC];simp [Uzc,q9 1]
def But.setCells{b x}:∀(A:List ag)(o:Nat)(y:af),But b x y->But b x (y.setCells b o A)
 | [],_,_,h=>h
 |v::A,o,y,h=>But.setCells A (o+1) _ (h.setCell o v)
def xy(w t e ty z)(D:P.underlying t=some (.slice e))(I:∀w,(zeroValue e).run P w=.ok z w)(zs)(J:(Builtin.zeroCells z.cells 1).toList=zs)(h1:∀u∈zs,u.oneCell'=true)(b o c)(A:∀j,j<zs.length->(w.cell? ⟨b,o+j,none⟩).isSome=true)(C:∀j,j<zs.length->w.frozen? ⟨b,o+j,none⟩=false):
  (Builtin.clear_ #[t] ty #[.slice (some ⟨b,o,none⟩) 1 c]).run P w=.ok (.tuple #[]) (w.setCells b o zs):=by
 have h:=run_storeCells_cells (P:=P) b o zs 0 w (by simpa using A) (by simpa using C) h1;simp only [Nat.add_zero] at h;simp [Builtin.clear_,run_underlying D,I,J,h]
def tU(l:List Tu):(l.flatMap jD).length=l.length*6:=by
 induction l with
 |nil=>rfl
 |cons x l ih=>rw [cq,aZ,ih,iC,show (jD x).length=6 from rfl];omega
def U2(l:List Tu):∀u∈l.flatMap jD,u.oneCell'=true:=by
 intro u A;obtain ⟨x,_,h⟩:=bS.1 A;simp only [jD,bi,dK,dP] at h
 rcases h with rfl|rfl|rfl|rfl|rfl|rfl<;>rfl
def OR(base g c:Nat)(l:List Tu)(i:Nat)(w:af)(hi:i<l.length)(a5:l.length<=100000)(h:w.ownsRow base 123 6 (.slice (some ⟨g,0,none⟩) l.length c) l.length (l.flatMap jD)):
  Calls prog 69 #[.slice (some ⟨g,0,none⟩) l.length c,.int .i64 i,.int .i64 (i+1:Nat)] w fun e w'=>e=.returned (.slice (some ⟨g,0,none⟩) (l.length-1) c)/\w'.ownsRow base 123 6 (.slice (some ⟨g,0,none⟩) (l.length-1) c) (l.length-1) ((l.eraseIdx i).flatMap jD)/\But g w w':=by
 obtain ⟨I,V,aJ,a6,aK,Q,ad⟩:∃I,aE w g I 123/\base<=g/\l.length<=c/\c<=maxLen/\I.size=c*6/\I.toList.take (l.length*6)=l.flatMap jD:=by
  rcases h.2 with ⟨h,_⟩|⟨g',a1,I,e1,aH,Y,h1,h2,aD,aF⟩
  ·cases h
  simp only [aI,aL,ce] at e1;obtain ⟨⟨rfl,_,_⟩,_,rfl⟩:=e1;exact ⟨I,Y,aH,h1,h2,aD,aF⟩
 unfold maxLen at aK;obtain ⟨D,ab⟩:∃D,D=(l.drop (i+1)).flatMap jD:=⟨_,rfl⟩;have Z:D.length=(l.length-(i+1))*6:=by rw [ab,tU,m2]
 have ak:∀k u,(l.flatMap jD)[k]? =some u->w.cell? ⟨g,k,none⟩=some u:=fun k u C=>by
  rw [<-ad] at C;refine V.cell ?_;rw [vb] at C
  split at C
  ·simpa using C
  cases C
 have ap:∀k,k<c*6->(w.cell? ⟨g,k,none⟩).isSome=true/\w.frozen? ⟨g,k,none⟩=false:=fun k a4=>⟨by rw [V.cell (o:=k) (Ak aj)];rfl,V.fz k⟩
 have ar:(l.flatMap jD).drop ((i+1)*6)=D:=by
  have e:l.flatMap jD=(l.take (i+1)).flatMap jD++(l.drop (i+1)).flatMap jD:=by rw [<-cT,o9]
  rw [e,List.drop_left' (by rw [tU,dO];omega),ab]
 obtain ⟨A,a2,aN⟩:∃A:Addr,(if c=i+1 then some (⟨g,0,none⟩:Addr) else some ⟨g,(i+1)*6,none⟩)=some A/\Hid (∀t u,D[t]? =some u->w.drew.cell? (A.add t)=some u):=by
  by_cases Y:c=i+1
  ·refine ⟨⟨g,0,none⟩,by simp [Y],fun t u C=> ?_⟩;have h0:D.length=0:=by rw [Z];omega
   rw [List.length_eq_zero_iff.1 h0] at C;simp at C
  refine ⟨⟨g,(i+1)*6,none⟩,by simp [Y],fun t u C=> ?_⟩;rw [Addr.add_lit];refine ak _ _ ?_;rw [<-ar,rb] at C;exact C
 have aX:Hid (∀u∈D,u.oneCell'=true):=by rw [ab];exact U2 _
 have aY:Hid (∀t,t<D.length->(w.drew.cell? ⟨g,0+i*6+t,none⟩).isSome=true/\w.drew.frozen? ⟨g,0+i*6+t,none⟩=false):=by
  intro t aO;rw [Z] at aO;exact ap _ aj
 obtain ⟨i0,al,aP,aQ,a7⟩:=bK (show (Tryz.prog.info? 123).map (fun i=>(i.zero,i.size,i.bytes))=some (some (.agg #[.string ⟨#[]⟩,.string ⟨#[]⟩,.string ⟨#[]⟩,.string ⟨#[]⟩,.string ⟨#[]⟩,.string ⟨#[]⟩]),6,96) by kernel_rfl);have ae:Hid (D.length=(l.length-(i+1))*6):=Z;obtain ⟨J,U⟩:∃J,J=w.drew.setCells g (0+i*6) D:=⟨_,rfl⟩;have aG:Hid (J=w.drew.setCells g (0+i*6) D):=U;have a8:i+1<=l.length:=hi;have a9:i+1<=c:=aj;have ba:i<=c:=aj;have aR:¬((i:Int)=((i+1:Nat):Int)):=aj;have bb:((i:Int)==((i+1:Nat):Int))=false:=by rw [b6];exact aR
 generalize hn:l.length=n at*;have aS:(0:Int)<=(i:Int)+1:=aj;have aV:(i:Int)+1<=(n:Int):=aj;have bc:(0:Int)<=(i:Int)+1/\(i:Int)+1<=(n:Int):=⟨aS,aV⟩;have a0:=ai hn;have au:∀w,(zeroValue 123).run prog w=.ok (.agg #[.string ⟨#[]⟩,.string ⟨#[]⟩,.string ⟨#[]⟩,.string ⟨#[]⟩,.string ⟨#[]⟩,.string ⟨#[]⟩]) w:=fun w=>by first|rfl|kernel_rfl|simp [zeroValue,al,aP]
 obtain ⟨aB,b1,R,e1⟩:=jH D (0+i*6) w.drew I V (by rw [ae,Q];omega);rw [<-U] at b1;have am:n-(i+(n-(i+1)))=1:=aj;have a3:∀ty,(Builtin.clear_ #[115] ty #[.slice (some ⟨g,(i+(n-(i+1)))*6,none⟩) (n-(i+(n-(i+1)))) (c-(i+(n-(i+1))))]).run prog J=.ok (.tuple #[]) (J.setCells g ((i+(n-(i+1)))*6) (List.replicate 6 (.string ⟨#[]⟩))):=fun ty=>by
  rw [am];exact xy J _ _ ty _ underlying115 au _ aw (fun u C=>by rw [FD C];rfl) g _ _ (fun j aM=>by rw [vd] at aM;rw [b1.cell (o:=(i+(n-(i+1)))*6+j) (Ak (by rw [R,Q];omega))];rfl) (fun j _=>b1.fz _)
 obtain ⟨aC,ag,av,ah⟩:=jH (List.replicate 6 (.string ⟨#[]⟩)) ((i+(n-(i+1)))*6) J aB b1 (by rw [vd,R,Q];omega);have bt:But g w (J.setCells g ((i+(n-(i+1)))*6) (List.replicate 6 (.string ⟨#[]⟩))):=by
  refine But.setCells _ _ _ ?_;rw [U];exact But.setCells _ _ _ (But.refl g w).drew
 have ac:i+(n-(i+1))=n-1:=aj;have an:(J.setCells g ((i+(n-(i+1)))*6) (List.replicate 6 (.string ⟨#[]⟩))).ownsRow base 123 6 (.slice (some ⟨g,0,none⟩) (n-1) c) (n-1) ((l.eraseIdx i).flatMap jD):=by
  have el:(l.eraseIdx i).length=n-1:=by rw [List.length_eraseIdx_of_lt aj,hn]
  refine ⟨by rw [tU,el],.inr ⟨g,c,aC,rfl,aJ,ag,aj,by unfold maxLen;omega,by rw [av,R,Q],?_⟩⟩;rw [ah,ac,dc,rJ (by rw [dO,qZ,R,Q];omega),e1];have k1:(List.take (0+i*6) I.toList).length=i*6:=by rw [dO,qZ,Q];omega
  rw [rJ (by rw [aZ,k1,ae];omega)];have aW:List.take (0+i*6) I.toList=(l.take i).flatMap jD:=by
   have:List.take (0+i*6) I.toList=List.take (i*6) (l.flatMap jD):=by rw [<-ad,List.take_take,pE,Nat.min_eq_left aj]
   rw [this];have e:l.flatMap jD=(l.take i).flatMap jD++(l.drop i).flatMap jD:=by rw [<-cT,o9]
   rw [e,rJ (by rw [tU,dO];omega)]
  rw [aW,ab,<-cT,Al]
 have az:=ai an;have ax:=ai bt;have ay:=ai ac;clear U hn ak ap ar Z ad h hi b1 R e1 ag av ah bt an ac au am;go_enter func69,ntmps69;go_wp2_with fail
 go_region_law (refine step_append_room rfl (.tmp 22) (.tmp 25) 115 rfl 123 i0 6 underlying115 al aQ g 0 i c I3 A (n-(i+1)) (c-(i+1)) D I3 ae aN aX aj aY ?_;rw [<-aG])
 go_wp2;go_ret;exact ⟨by rw [<-ay.u];rfl,az.u,ax.u⟩
structure bG(S:Nat->Prop)(w w':af):Prop where
 os:w'.os=w.os
 tape:w'.tape=w.tape
 output:w'.output=w.output
 size:w.heap.size<=w'.heap.size
 block:∀k,k<w.heap.size->¬S k->w'.heap[k]? =w.heap[k]?
section
variable {S:Nat->Prop}{x y z:af}
def bG.refl(S w):bG S w w:=⟨rfl,rfl,rfl,bY _,fun _ _ _=>rfl⟩
def bG.trans(h:bG S x y)(k:bG S y z):bG S x z:=
 ⟨k.os.trans h.os,k.tape.trans h.tape,k.output.trans h.output,aP h.size k.size,fun i hi hs=>(k.block i (cK hi h.size) hs).trans (h.block i hi hs)⟩
def bG.of_below(h:an x y):bG S x y:=⟨h.os,h.tape,h.output,h.size,fun k A _=>h.block k A⟩
def bG.of_but(h:But b x y)(A:S b):bG S x y:=⟨h.os,h.tape,h.output,h.size,fun k C hs=>h.block k C (fun e=>hs (e▸A))⟩
def bG.mono{S'}(h:bG S x y)(hs:∀k,S k->S' k):bG S' x y:=⟨h.os,h.tape,h.output,h.size,fun k A hn=>h.block k A (fun e=>hn (hs k e))⟩
def bG.set(h:bG S x y){a}(ha:S a.block)(u):bG S x (y.setCell a u):=
 ⟨h.os,h.tape,h.output,by simpa using h.size,fun k A hs=>(dN _ _ _ _ (fun (e:k=a.block)=>hs (by rw [e];exact ha))).trans (h.block k A hs)⟩
def bG.drew(h:bG S x y):bG S x y.drew:=⟨h.os,h.tape,h.output,h.size,h.block⟩
def bG.drewN(h:bG S x y)(n):bG S x (y.drewN n):=h.trans (.of_below (cF bj n))
def bG.blk(k:bG S x y)(h:aE x g cs T)(A:¬S g):aE y g cs T:=(k.block g h.lt A).trans h
def bG.below(k:bG S x y)(C:B<=x.heap.size)(A:∀g,S g->B<=g):Below B x y:=⟨k.os,k.tape,k.output,k.size,fun g D=>k.block g aj (fun e=>by have:=A g e;omega)⟩
end
structure PU(w:af)(b:Nat)(mv lv gv:ag)(gs:List Tu):Prop where
 blk:aE w b #[mv,lv,gv] 117
 row:w.ownsRow 0 123 6 gv gs.length (gs.flatMap jD)
 apart:∀g n c,gv=.slice (some ⟨g,0,none⟩) n c->g≠b
 most:gs.length<=1000
def AC(b:Nat)(gv:ag)(k:Nat):Prop:=k=b\/∃n c,gv=.slice (some ⟨k,0,none⟩) n c
def PU.below(h:PU w b mv lv gv gs)(k:an w w'):PU w' b mv lv gv gs:=⟨h.blk.below k,aB h.row k,h.apart,h.most⟩
def three{a b c}(h:aE w g #[a,b,c] T):w.cell? ⟨g,0,none⟩=some a/\w.cell? ⟨g,1,none⟩=some b/\w.cell? ⟨g,2,none⟩=some c:=⟨h.cell rfl,h.cell rfl,h.cell rfl⟩
def yJ(A:FF)(s:ae)(w:af)(C:mT w)(D:1<w.heap.size):
  Calls prog 60 #[.string s] w fun e w'=>e=.returned (.tuple #[.agg (nE s).1,.bool (nE s).2])/\an w w':=by
 by_cases h:53<s.size
 ·exact FW s w h
 ·exact CO A s w aj C D
abbrev fI:=@and_true
def Xp (h:aA:=by
 go_wp2_with fail;refine (ak C1).mono ?_;rintro e w1 ⟨rfl,A⟩;have C:=ai (A.alloc A.size (cw t.kind t.id t.rel t.sub t.who t.of));clear A C1;go_wp2;go_ret;exact j8.same H.u C.u 2):aA:=h
def F5(q:aU) (h:bF aU->aA:=by
 intro zq;refine (ak C1).mono ?_;rintro e w1 ⟨rfl,hb1⟩;have B1:=ai (hb1.alloc hb1.size (cw t.kind t.id t.rel t.sub t.who t.of));have U1:=ai (H.u.below B1.u);have T1:=ai (aE.new w1 (kW t.kind t.id t.rel t.sub t.who t.of) 123);have hne:¬(w1.heap.size=b):=by have:=hb1.size;omega
 have C8:¬(b=w1.heap.size):=by have:=hb1.size;omega
 clear hb1
 revert w1 B1 U1 T1 hne C8
 exact zq.1):aA:=h ⟨q⟩
attribute [local go_sem ↓] Go.wp_at_zero Go.wp_at_succ
def Vj{l x}(h:kX l x=k):k<l.length:=by
 unfold kX at h
 split at h
 ·rename_i i hi;rw [kS] at hi;obtain ⟨hl,_⟩:=hi;omega
 omega
def AD(gs:List Tu)(s:ae):Nat×List Tu:=if dC s=false then (2,gs) else if kX gs (bQ s).1<0 then (9,gs) else (0,gs.eraseIdx (kX gs (bQ s).1).toNat)
def j8(b:Nat)(mv lv gv:ag)(w:af)(r:Nat×List Tu)(e:Ending)(w':af):Prop:=∃h,e=.returned (.int .i64 r.1)/\PU w' b mv lv h r.2/\bG (AC b gv) w w'/\(∀k,AC b h k->AC b gv k\/w.heap.size<=k)
def j8.same(h:PU w b mv lv gv gs)(k:an w w')(c):j8 b mv lv gv w (c,gs) (.returned (.int .i64 c)) w':=⟨gv,rfl,h.below k,.of_below k,fun _ h=> .inl h⟩
def yK(s):∃t:Tu,(nE s).1=#[.string t.kind,.string t.id,.string t.rel,.string t.sub,.string t.who,.string t.of]/\(dC s=true->t=(bQ s).1):=by
 cases h:dC s
 ·by_cases A:53<s.size
  ·refine ⟨⟨⟨#[]⟩,⟨#[]⟩,⟨#[]⟩,⟨#[]⟩,⟨#[]⟩,⟨#[]⟩⟩,?_,ar⟩;unfold nE;rw [if_pos A]
  refine ⟨⟨(aG (aG (aG s 64).1 35).1 58).1,(aG (aG (aG s 64).1 35).1 58).2.1,(aG (aG s 64).1 35).2.1,(aG (aG (aG s 64).2.1 35).1 58).1,(aG (aG (aG s 64).2.1 35).1 58).2.1,(aG (aG s 64).2.1 35).2.1⟩,?_,ar⟩;unfold nE;rw [if_neg A]
 refine ⟨(bQ s).1,?_,fun _=>rfl⟩;rw [(lG h).2.1]
def Da(Z:FF)(b:Nat)(s:ae)(w:af)(mv lv gv:ag)(gs:List Tu)(h:PU w b mv lv gv gs)(ah:mT w)(al:1<w.heap.size):
  Calls prog 35 #[.pointer (some ⟨b,0,none⟩),.string s] w (j8 b mv lv gv w (AD gs s)):=by
 have C1:=ai (yJ Z s w ah al);have H:=ai h;rw [Jf s] at C1;obtain ⟨t,aC,ac⟩:=yK s;rw [aC] at C1;unfold AD;clear aC
 cases ho:dC s
 ·rw [ho] at C1;rw [if_pos rfl];clear h ah al Z ho ac;go_enter func35,ntmps35;exact Xp
 ·rw [if_neg ar,<-ac ho];rw [ho] at C1;clear ho ac;obtain ⟨ga,gc,rfl⟩:=ax h.row;have aR:=h.most;have J:=ai (fun w' (k:an w w')=>I0 0 _ gs t w' aj (aB h.row k));have aP:=h.blk.lt;clear h ah al Z
  by_cases hi:kX gs t<0
  ·rw [if_pos hi];generalize kX gs t=n at*;go_enter func35,ntmps35;go_wp2_with fail;refine F5 ?_;intro w1 B1 U1 T1 hne C8;clear C1;go_wp2_with fail;have l1:=B1.u.size;generalize (w1.alloc (cw t.kind t.id t.rel t.sub t.who t.of))=W at*;obtain ⟨c0,c1,c2⟩:=three U1.u.blk;obtain ⟨t0,t1,t2,t3,t4,t5⟩:=T1.u.six;have Q:=ai (ak J W.drew B1.u.drew);clear J
   go_region_held3 (fun w'=>w'.cell? ⟨b,2,none⟩=some (.slice ga gs.length gc)/\w'.cell? ⟨w1.heap.size,0,none⟩=some (.string t.kind)/\w'.cell? ⟨w1.heap.size,1,none⟩=some (.string t.id)/\w'.cell? ⟨w1.heap.size,2,none⟩=some (.string t.rel)/\w'.cell? ⟨w1.heap.size,3,none⟩=some (.string t.sub)/\w'.cell? ⟨w1.heap.size,4,none⟩=some (.string t.who)/\w'.cell? ⟨w1.heap.size,5,none⟩=some (.string t.of)) (go_keep)
    ((go_at_call 68;refine Q.u.mono ?_;rintro e Y ⟨rfl,R⟩;have D:=ai ((az _ W).drew.trans R:an W Y);have d0:=am c2 D.u;have d1:=am t0 D.u;have d2:=am t1 D.u;have d3:=am t2 D.u;have d4:=am t3 D.u;have d5:=am t4 D.u;have d6:=am t5 D.u;clear R))
   have U:=ai (B1.u.trans (D.u.mono l1));clear Q d0 d1 d2 d3 d4 d5 d6 t0 t1 t2 t3 t4 t5 c0 c1 c2 U1 T1 B1 D;go_wp2;go_ret;exact j8.same H.u U.u 9
  rw [if_neg hi];obtain ⟨k,ad⟩:∃k:Nat,kX gs t=k:=⟨(kX gs t).toNat,aj⟩;have av:=Vj ad;rw [ad] at J ⊢;clear hi ad;obtain ⟨g,c,e1,_⟩:=H.u.row.form (n:=gs.length) aj;simp only [aI,bU] at e1;obtain ⟨rfl,rfl⟩:=e1;have au:=H.u.apart g _ _ rfl;rw [j4];have aQ:¬((k:Int)<0):=aj;go_enter func35,ntmps35;go_wp2_with fail;refine F5 ?_;intro w1 B1 U1 T1 hne C8;clear C1;go_wp2_with fail;have l1:=B1.u.size;generalize (w1.alloc (cw t.kind t.id t.rel t.sub t.who t.of))=W at*;obtain ⟨c0,c1,c2⟩:=three U1.u.blk;obtain ⟨t0,t1,t2,t3,t4,t5⟩:=T1.u.six;have Q:=ai (ak J W.drew B1.u.drew);clear J
  go_region_held3 (fun w'=>w'.cell? ⟨b,2,none⟩=some (.slice (some ⟨g,0,none⟩) gs.length gc)/\w'.cell? ⟨w1.heap.size,0,none⟩=some (.string t.kind)/\w'.cell? ⟨w1.heap.size,1,none⟩=some (.string t.id)/\w'.cell? ⟨w1.heap.size,2,none⟩=some (.string t.rel)/\w'.cell? ⟨w1.heap.size,3,none⟩=some (.string t.sub)/\w'.cell? ⟨w1.heap.size,4,none⟩=some (.string t.who)/\w'.cell? ⟨w1.heap.size,5,none⟩=some (.string t.of)) (go_keep)
   ((go_at_call 68;refine Q.u.mono ?_;rintro e Y ⟨rfl,R⟩;have D:=ai ((az _ W).drew.trans R:an W Y);have d0:=am c2 D.u;have d1:=am t0 D.u;have d2:=am t1 D.u;have d3:=am t2 D.u;have d4:=am t3 D.u;have d5:=am t4 D.u;have d6:=am t5 D.u;clear R))
  have U:=ai (B1.u.trans (D.u.mono l1));clear Q d0 d1 d2 d3 d4 d5 d6 t0 t1 t2 t3 t4 t5 c0 c1 c2 U1 T1 B1 D;have I:=H.u.below U.u;have ap:=ai (OR 0 g gc gs k Y av aj I.row);obtain ⟨c0,c1,c2⟩:=three I.blk;have aH:=I.blk.fz;have aG:=ai I.blk;have l2:=I.blk.lt;have aM:¬(b=g):=fun e=>au e.symm
  clear I;go_wp2_with fail;refine ap.u.mono ?_;rintro e aV ⟨rfl,aw,ab⟩;have V:=ai (aG.u.but ab aM);obtain ⟨aW,aX,aY⟩:=three V.u;have aZ:=V.u.fz;have aF:=ai aw;have aD:=ai ab;clear aw ab c0 c1 c2 aH ap;go_wp2;go_ret;have aO:(gs.eraseIdx k).length=gs.length-1:=List.length_eraseIdx_of_lt av;have aJ:AC b (.slice (some ⟨g,0,none⟩) gs.length gc) g:=.inr ⟨_,_,rfl⟩;have aK:AC b (.slice (some ⟨g,0,none⟩) gs.length gc) b:=.inl rfl;refine ⟨.slice (some ⟨g,0,none⟩) (gs.length-1) gc,rfl,⟨V.u.set 2 _,?_,?_,by show (gs.eraseIdx k).length<=1000;omega⟩,((bG.of_below U.u).trans (.of_but aD.u aJ)).set aK _,?_⟩
  ·show World.ownsRow _ 0 123 6 _ (gs.eraseIdx k).length _
   rw [aO];refine ay aF.u (fun g' cs f _ aN=>dN _ _ _ _ (fun (e':g'=b)=> ?_));subst e';have:=V.u;unfold aE at this;rw [aN] at this;simp at this
  ·intro g' n c e;simp only [aI,aL,ce,fI] at e;exact fun e'=>au (e.1.trans e')
  rintro aS (rfl|⟨n,c,e⟩)
  ·exact .inl (.inl rfl)
  simp only [aI,aL,ce,fI] at e;exact .inl (.inr ⟨_,_,by rw [e.1]⟩)
def Xq (h:aA:=by
 rw [he] at C;have Hn:=ai (MR.u he);go_wp2_with fail;refine (ak C).mono ?_;rintro e D ⟨rfl,hb2⟩;exact Nv):aA:=h
def YB(g t q w)(D:aE w q (kW t.kind t.id t.rel t.sub t.who t.of) 123):
  Calls prog 103 #[E7 g,.pointer (some ⟨q,0,none⟩)] w fun e w'=>e=.returned (.bool (fX g t))/\an w w':=by
 have C:=ai (fun w=>K7 g t w);have hl:=D.lt;unfold E7 cR at C ⊢;have J:an w (w.alloc (hQ g.tp g.ty g.reach g.rp g.rel)):=(az _ w).alloc aD _;have A:=ai J;have R:¬(w.heap.size=q):=aj;obtain ⟨U,V,Y,Z,ab,ac⟩:=D.six;go_enter func103,ntmps103;go_wp2_with fail;refine (ak C _).mono ?_;rintro e w1 ⟨rfl,Q⟩;have I:=ai (A.u.trans (Q.mono A.u.size));go_wp2;go_ret;exact ⟨rfl,I.u⟩
def YC{l:List Gr}{t:Tu}(A:k<l.length)(h:fX l[k] t=true):l.any (fun g=>fX g t)=true:=cX.2 ⟨l[k],bn A,h⟩
def YD{l:List Gr}{t:Tu}(C:∀j,(h:j<l.length)->fX l[j] t=false):l.any (fun g=>fX g t)=false:=by
 rw [jk];intro y D;obtain ⟨j,A,rfl⟩:=dk D;rw [C j A];simp
def F8(base v l t q w)(af:l.length<=1000)(h:w.ownsRow base 207 5 v l.length (cz l))(ab:aE w q (kW t.kind t.id t.rel t.sub t.who t.of) 123):
  Calls prog 155 #[v,.func (.func 103) #[] #[.pointer (some ⟨q,0,none⟩)]] w fun e w'=>∃n:Int,e=.returned (.int .i64 n)/\decide (0<=n)=l.any (fun g=>fX g t)/\an w w':=by
 obtain ⟨sa,sc,rfl⟩:=ax h;have H:=ai h;have U:=ai ab;go_enter func155,ntmps155;go_wp2
 go_loopw [5,8] (fun u i wr=>∃k:Nat,k<=l.length/\i=.int .i64 k/\an w wr/\Hid (∀j,(h:j<l.length)->j<k->fX l[j] t=false)) (fun _ i _=>l.length-(intOf i).toNat)
 case atStart=>exact ⟨0,aj,rfl,az _ _,ai (fun j e h=>aj)⟩
 case round=>
  obtain ⟨k,ad,rfl,I,J⟩:=hrel;have HB:=ai I
  by_cases Q:k<l.length
  ·obtain ⟨g,c,e1,hc⟩:=bf (fun g=>(cR g).toList) 5 (fun _=>rfl) (aB H.u I) k l[k] (aH Q);simp only [aI] at e1;obtain ⟨rfl,_,rfl⟩:=e1;have V:=ai (U.u.below I);have Y:=ai (fun (he:fX l[k] t=true)=>YC Q he);have MR:=ai (fun (he:fX l[k] t=false)=>(show ∀j,(h:j<l.length)->j<k+1->fX l[j] t=false from fun j h ac=>by
     by_cases e:j=k
     ·subst e;exact he
     exact ak J j h aj))
   have C:=ai (YB l[k] t q wr V.u);unfold E7 cR at C;generalize l[k]=y at*;have k0:wr.cell? ⟨g,k*5,none⟩=some (.int .i64 y.tp):=hc 0 _ aj rfl;have k1:wr.cell? ⟨g,k*5+1,none⟩=some (.string y.ty):=hc 1 _ aj rfl;have ag:wr.cell? ⟨g,k*5+2,none⟩=some (.int .i64 y.reach):=hc 2 _ aj rfl;have k3:wr.cell? ⟨g,k*5+3,none⟩=some (.int .i64 y.rp):=hc 3 _ aj rfl;have ah:wr.cell? ⟨g,k*5+4,none⟩=some (.string y.rel):=hc 4 _ aj rfl;have ae:(k:Int)<(l.length:Int):=aj
   cases he:fX y t
   ·exact Xq
   rw [he] at C;have qe:=ai (Y.u he);go_wp2_with fail;refine (ak C).mono ?_;rintro e al ⟨rfl,hb2⟩;have R:=ai (HB.u.trans (hb2.mono HB.u.size));go_wp2;go_ret;exact ⟨k,rfl,by rw [qe.u];simp,R.u⟩
  have qe:=ai (YD (t:=t) (fun j Z=>ak J j Z aj));exact Od
def xz(base v l t q w)(J:l.length<=1000)(h:w.ownsRow base 207 5 v l.length (cz l))(R:aE w q (kW t.kind t.id t.rel t.sub t.who t.of) 123):
  Calls prog 105 #[v,.func (.func 103) #[] #[.pointer (some ⟨q,0,none⟩)]] w fun e w'=>e=.returned (.bool (l.any (fun g=>fX g t)))/\an w w':=by
 have C:=ai (F8 base v l t q w J h R);obtain ⟨sa,sc,rfl⟩:=ax h;go_enter func105,ntmps105;go_wp2_with fail;refine C.u.mono ?_;rintro e w1 ⟨n,rfl,Q,I⟩;have A:=ai I;have D:=ai Q;go_wp2;go_ret;exact ⟨by rw [<-D.u];rfl,A.u⟩
def mQ(ts:List Ty)(t:Tu):Nat:=match bW ts t.kind with
 |none=>5
 |some y=>match bT y t.rel with
  |none=>5
  |some r=>if (b9 r.body).any (fun g=>fX g t) then 0 else 7
def Vk(n:Nat):ag:=if n=0 then .nilIface else cj n
def Db(A:Option Addr)(I D:Nat)(t:Tu)(w:af)(Y:Nat)(V:ae)(Q:Option Addr)(U R:Nat)
  (ab:Calls prog 94 #[.agg #[.slice A I D],.string t.kind,.string t.rel] ((w.alloc (aW A I D)).alloc (cw t.kind t.id t.rel t.sub t.who t.of)) fun e w''=>e=.returned (.tuple #[.agg #[.int .i64 Y,.string V,.slice Q U R],.agg #[.int .i64 0,.string ⟨#[]⟩,.nilIface],cj 5])/\Below ((w.alloc (aW A I D)).alloc (cw t.kind t.id t.rel t.sub t.who t.of)).heap.size ((w.alloc (aW A I D)).alloc (cw t.kind t.id t.rel t.sub t.who t.of)) w''):
  Calls prog 61 #[.agg #[.slice A I D],.agg #[.string t.kind,.string t.id,.string t.rel,.string t.sub,.string t.who,.string t.of]] w fun e w'=>e=.returned (cj 5)/\an w w':=by
 have J:=ai (((az w.heap.size w).alloc aD (aW A I D)).alloc ar (cw t.kind t.id t.rel t.sub t.who t.of));have C:=ai ab;unfold cj at C ⊢;go_enter func61,ntmps61;go_wp2_with fail;refine (ak C).mono ?_;rintro e w1 ⟨rfl,ac⟩;have b1:=J.u.trans (ac.mono J.u.size);have Z:=ai ((b1.alloc b1.size (bD Y V Q U R)).alloc (by have:=b1.size;simp;omega) cI);go_wp2;go_ret;exact ⟨rfl,Z.u⟩
def Py(b:Nat)(A)(I D:Nat)(t w)(U:Nat)(yn va)(R Q rp:Nat)(rn ra rv e)(aH:b<w.heap.size)(h:bB b ((w.alloc (aW A I D)).alloc (cw t.kind t.id t.rel t.sub t.who t.of)) e (.iface ra rv))(aF:(aC e).length<=1000)(ae:(b9 e).length<=1000)(aG:WF e)(al:Calls prog 94 #[.agg #[.slice A I D],.string t.kind,.string t.rel] ((w.alloc (aW A I D)).alloc (cw t.kind t.id t.rel t.sub t.who t.of)) fun e w''=>e=.returned (.tuple #[.agg #[.int .i64 U,.string yn,.slice va R Q],.agg #[.int .i64 rp,.string rn,.iface ra rv],.nilIface])/\Below ((w.alloc (aW A I D)).alloc (cw t.kind t.id t.rel t.sub t.who t.of)).heap.size ((w.alloc (aW A I D)).alloc (cw t.kind t.id t.rel t.sub t.who t.of)) w''):
  Calls prog 61 #[.agg #[.slice A I D],.agg #[.string t.kind,.string t.id,.string t.rel,.string t.sub,.string t.who,.string t.of]] w fun e' w'=>e'=.returned (Vk (if (b9 e).any (fun g=>fX g t) then 0 else 7))/\an w w':=by
 have V:=ai (((az w.heap.size w).alloc aD (aW A I D)).alloc ar (cw t.kind t.id t.rel t.sub t.who t.of));have au:=ai (aE.new' (w.alloc (aW A I D)) (kW t.kind t.id t.rel t.sub t.who t.of) 123 (w.heap.size+1) ar);have C:=ai al;have am:=ai (fun w' (k:Below ((w.alloc (aW A I D)).alloc (cw t.kind t.id t.rel t.sub t.who t.of)).heap.size ((w.alloc (aW A I D)).alloc (cw t.kind t.id t.rel t.sub t.who t.of)) w')=>pe rp rn b e (.iface ra rv) w' (by have:=k.size;simp at this;omega) (h.but (But.of_below k)) aF ae aG);have ab:=ai (fun (base:Nat) (v:ag) (w':af) (aJ:w'.ownsRow base 207 5 v (b9 e).length (cz (b9 e))) (aK:aE w' (w.heap.size+1) (kW t.kind t.id t.rel t.sub t.who t.of) 123)=>xz base v (b9 e) t (w.heap.size+1) w' ae aJ aK);obtain ⟨ac,ay⟩:∃ac,ac=(b9 e).any (fun g=>fX g t):=⟨_,rfl⟩;rw [<-ay] at ab ⊢;clear al h aH aF ae aG ay;go_enter func61,ntmps61;go_wp2_with fail;refine C.u.mono ?_;rintro e w1 ⟨rfl,J⟩;have b1:=V.u.trans (J.mono V.u.size);have aw:=(b1.alloc b1.size (bD U yn va R Q)).alloc (by have:=b1.size;simp;omega) (cE rp rn ra rv);have Y:=ai aw;have av:=ai (((au.u.below J).alloc (bD U yn va R Q)).alloc (cE rp rn ra rv));have ap:=ai (am.u _ ((J.alloc J.size (bD U yn va R Q)).alloc (by have:=J.size;simp at this ⊢;omega) (cE rp rn ra rv)));clear J C V au b1 aw am;go_wp2_with fail;refine ap.u.mono ?_;rintro e aL ⟨gv,rfl,ad,ah⟩;obtain ⟨ga,gc,rfl⟩:=ax ah;have Z:=ai (Y.u.trans (ad.mono Y.u.size));have E:=ai (ak ab _ _ aL ah (av.u.below ad));clear ad ah ap Y av ab;go_wp2_with fail;refine E.u.mono ?_;rintro e aM ⟨rfl,aB⟩;have aj:=ai (Z.u.trans (aB.mono Z.u.size));clear aB E Z
 cases ac
 ·go_wp2;go_ret;exact ⟨rfl,aj.u⟩
 ·go_wp2;go_ret;exact ⟨rfl,aj.u⟩
def Pz(b sv ts tl t w)(h:MC b w sv ts tl):
  Calls prog 61 #[.agg #[sv],.agg #[.string t.kind,.string t.id,.string t.rel,.string t.sub,.string t.who,.string t.of]] w fun e w'=>e=.returned (Vk (mQ ts t))/\an w w':=by
 obtain ⟨sa,A,sc,rfl⟩:=h.form;have k:an w ((w.alloc (aW sa A sc)).alloc (cw t.kind t.id t.rel t.sub t.who t.of)):=((az w.heap.size w).alloc aD (aW sa A sc)).alloc ar (cw t.kind t.id t.rel t.sub t.who t.of);unfold mQ
 cases h1:bW ts t.kind with
 |none=>exact Db sa A sc t w 0 ⟨#[]⟩ none 0 0 (pu b _ ts tl t.kind t.rel _ (h.below k) h1)
 |some y=>
  cases h2:bT y t.rel with
  |none=>
   simp only [h2];obtain ⟨I,Q,J,hc⟩:=pw b _ ts tl t.kind t.rel _ (h.below k) y h1 h2;exact Db sa A sc t w _ _ I Q J hc
  |some r=>
   simp only [h2];obtain ⟨I,Q,J,rl,U,rv,C,D,R,hc⟩:=rF b _ ts tl t.kind t.rel _ (h.below k) y h1 r h2;exact Py b sa A sc t w _ _ I Q J _ _ U rv r.body h.blt R (D.okp r C) (D.okg r C) (D.wf r C) hc
def Xr (h:aA:=by
 rintro k (rfl|⟨n,c,e⟩)
 ·exact .inl (.inl rfl)
 simp only [aI,aL,ce,fI] at e;obtain ⟨rfl,_,_⟩:=e
 rcases A5 with h|h
 ·exact .inl (Vl _ h)
 exact .inr Oh):aA:=h
def Xs (h:aA:=by
 intro g n c e e';simp only [aI,aL,ce,fI] at e;obtain ⟨rfl,_,_⟩:=e;obtain ⟨A,hc,_⟩:=dx O5;subst e';unfold aE at hc K5;rw [K5] at hc;simp at hc):aA:=h
def PA (h:aA:=by
 rcases H.row.2 with ⟨e,_⟩|⟨g',cap,A,e,_,_,_⟩
 ·rw [e] at hk;simp [Value.ownBlock] at hk
 rw [e] at hk ⊢;simp only [Value.ownBlock,aL] at hk;exact .inr ⟨_,_,by rw [hk]⟩):aA:=h
def PD (h:aA:=by
 rw [cT,List.flatMap_singleton,aZ];exact this):aA:=h
def AE(q:aU) (h:bF aU->aA:=by
 intro zq;have HI:=ai hi0;have Vm:=ai hz0;have Vn:=ai hz1;have Vo:=ai hz2
 revert HI Vm Vn Vo
 exact zq.1):aA:=h ⟨q⟩
def Vp(ts:List Ty)(gs:List Tu)(s:ae):Nat×List Tu:=if dC s=false then (2,gs) else if mQ ts (bQ s).1≠0 then (mQ ts (bQ s).1,gs) else if 0<=kX gs (bQ s).1 then (4,gs) else if gs.length=24 then (8,gs) else (0,gs++[(bQ s).1])
def K8(n w)(A:Laid w):Calls prog 41 #[Vk n] w fun e w'=>e=.returned (.tuple #[.int .i64 n,.int .i64 0])/\an w w':=by
 unfold Vk
 by_cases h:n=0
 ·subst h;rw [if_pos rfl];exact vw w
 rw [if_neg h];exact pJ n w A
def Tryz.infoTu:(Tryz.prog.info? 123).map (fun i=>(i.zero,i.size,i.bytes))=some (some (.agg #[.string ⟨#[]⟩,.string ⟨#[]⟩,.string ⟨#[]⟩,.string ⟨#[]⟩,.string ⟨#[]⟩,.string ⟨#[]⟩]),6,96):=by kernel_rfl
def dr{S x}(h:x.grownBy y row)(A:∀k,row=some k->S k):bG S x y:=⟨h.os,h.tape,h.output,h.size,fun k C hs=>h.block k C (fun e=>hs (A k e.symm))⟩
def PE{t}(H:PU w b mv lv (.slice ga gs.length gc) gs)(hB:an w W)(I:gs.length<1000)(C:(W.alloc o).drew.grownBy w5 (Value.slice ga gs.length gc).ownBlock)(O5:w5.ownsRow 0 123 6 (.slice (some ⟨g5,0,none⟩) (gs.length+1) aT) (gs.length+1) (gs.flatMap jD++jD t))(A5:(Value.slice ga gs.length gc).ownBlock=some g5\/g5=W.heap.size+1)(K5:aE w5 b #[mv,lv,.slice ga gs.length gc] 117):
  j8 b mv lv (.slice ga gs.length gc) w (0,gs++[t]) (.returned (.int .i64 0)) (w5.setCell ⟨b,2,none⟩ (.slice (some ⟨g5,0,none⟩) (gs.length+1) aT)):=by
 have Vl:∀k,(Value.slice ga gs.length gc).ownBlock=some k->AC b (.slice ga gs.length gc) k:=fun k hk=>by
  exact PA
 have D:=(hB.alloc hB.size o).drew;have J:=H.blk.lt;refine ⟨_,rfl,⟨K5.set 2 _,?_,?_,by show (gs++[t]).length<=1000;simp;omega⟩,((bG.of_below D).trans (dr C Vl)).set (.inl rfl) _,?_⟩
 ·show World.ownsRow _ 0 123 6 _ (gs++[t]).length ((gs++[t]).flatMap jD)
  have:=bN O5 K5 au 2 (.slice (some ⟨g5,0,none⟩) (gs.length+1) aT);exact PD
 ·exact Xs
 ·exact Xr
def F9(av:FF)(b bm:Nat)(s:ae)(w:af)(mv lv gv:ag)(gs:List Tu)(ts:List Ty)(tl:List (Ty×ag))(h:PU w b mv lv gv gs)(ap:MC bm w mv ts tl)(R:mT w)(aG:1<w.heap.size)(aC:Laid w)(br:gs.length<1000):
  Calls prog 28 #[.pointer (some ⟨b,0,none⟩),.string s] w (j8 b mv lv gv w (Vp ts gs s)):=by
 have C1:=ai (yJ av s w R aG);have H:=ai h;rw [Jf s] at C1;obtain ⟨t,aX,aF⟩:=yK s;rw [aX] at C1;unfold Vp;clear aX
 cases ho:dC s
 ·rw [ho] at C1;rw [if_pos rfl];clear h R aG av ho aF ap aC;go_enter func28,ntmps28;exact Xp
 ·rw [if_neg ar,<-aF ho];rw [ho] at C1;clear ho aF;obtain ⟨ga,gc,rfl⟩:=ax h.row;obtain ⟨sa,bo,sc,rfl⟩:=ap.form;have bv:=h.most;have aJ:=ai (fun w' (k:an w w')=>Pz bm _ ts tl t w' (ap.below k));have bs:=h.blk.lt;have aL:=ai aC;have aI:=ai (fun w' (k:an w w')=>FC 0 _ gs t w' aj (aB h.row k));clear h R aG av ap aC;generalize mQ ts t=n at*;obtain ⟨r,I⟩:∃r,r=(if n≠0 then (n,gs) else if 0<=kX gs t then (4,gs) else if gs.length=24 then (8,gs) else (0,gs++[t])):=⟨_,rfl⟩;rw [<-I];have ah:=ai I;clear I;generalize kX gs t=m at*;go_enter func28,ntmps28;go_wp2_with fail;refine F5 ?_;intro w1 B1 U1 T1 hne C8;clear C1;go_wp2_with fail;have l1:=B1.u.size;generalize (w1.alloc (cw t.kind t.id t.rel t.sub t.who t.of))=W at*;obtain ⟨c0,c1,c2⟩:=three U1.u.blk;obtain ⟨t0,t1,t2,t3,t4,t5⟩:=T1.u.six;have aK:=ai (aJ.u W.drew B1.u.drew);have bj:=aL.u.lt;have aN:=ai (fun w' (k:an w w')=>K8 n w' (aL.u.below k bj));clear aJ
  go_region_held3 (fun w'=>w'.cell? ⟨b,0,none⟩=some (.slice sa bo sc)/\w'.cell? ⟨w1.heap.size,0,none⟩=some (.string t.kind)/\w'.cell? ⟨w1.heap.size,1,none⟩=some (.string t.id)/\w'.cell? ⟨w1.heap.size,2,none⟩=some (.string t.rel)/\w'.cell? ⟨w1.heap.size,3,none⟩=some (.string t.sub)/\w'.cell? ⟨w1.heap.size,4,none⟩=some (.string t.who)/\w'.cell? ⟨w1.heap.size,5,none⟩=some (.string t.of)) (go_keep)
   (first
   |(have bq:=D;go_at_call 41;refine (aN.u _ (B1.u.trans (D.u.mono l1))).mono ?_;rintro e aH ⟨rfl,aS⟩;have Q:=ai (D.u.trans (aS.mono D.u.size));have f0:=am c0 Q.u;have f1:=am t0 Q.u;have f2:=am t1 Q.u;have f3:=am t2 Q.u;have f4:=am t3 Q.u;have f5:=am t4 Q.u;have f6:=am t5 Q.u;clear aS bq)
   |(go_at_call 61;refine aK.u.mono ?_;rintro e bp ⟨rfl,aR⟩;have D:=ai ((az _ W).drew.trans aR:an W bp);have d0:=am c0 D.u;have d1:=am t0 D.u;have d2:=am t1 D.u;have d3:=am t2 D.u;have d4:=am t3 D.u;have d5:=am t4 D.u;have d6:=am t5 D.u;clear aR))
  have U:=ai (B1.u.trans (Q.u.mono l1));have aP:=ai (H.u.below U.u);have aw:=ai (T1.u.below Q.u);have bn:=U.u.size;clear d0 d1 d2 d3 d4 d5 d6 f0 f1 f2 f3 f4 f5 f6 c0 c1 c2 t0 t1 t2 t3 t4 t5 D Q aK aN U1 T1 B1
  by_cases hn:n=0
  ·have bk:((n:Int) != 0)=false:=by rw [hn];rfl
   have bl:((n:Int)==0)=true:=by rw [hn];rfl
   have I:=ah.u;rw [if_neg (by simpa using hn)] at I;have ac:=ai I;obtain ⟨c0,c1,c2⟩:=three aP.u.blk;obtain ⟨t0,t1,t2,t3,t4,t5⟩:=aw.u.six;have E:=ai (aI.u aH.drew U.u.drew);clear I ah hn aI;go_wp2_with fail
   go_region_held3 (fun w'=>w'.cell? ⟨b,2,none⟩=some (.slice ga gs.length gc)/\w'.cell? ⟨w1.heap.size,0,none⟩=some (.string t.kind)/\w'.cell? ⟨w1.heap.size,1,none⟩=some (.string t.id)/\w'.cell? ⟨w1.heap.size,2,none⟩=some (.string t.rel)/\w'.cell? ⟨w1.heap.size,3,none⟩=some (.string t.sub)/\w'.cell? ⟨w1.heap.size,4,none⟩=some (.string t.who)/\w'.cell? ⟨w1.heap.size,5,none⟩=some (.string t.of)) (go_keep)
    ((go_at_call 62;refine E.u.mono ?_;rintro e J ⟨rfl,aV⟩;have D:=ai ((az _ aH).drew.trans aV:an aH J);have d0:=am c2 D.u;have d1:=am t0 D.u;have d2:=am t1 D.u;have d3:=am t2 D.u;have d4:=am t3 D.u;have d5:=am t4 D.u;have d6:=am t5 D.u;clear aV))
   have V:=ai (U.u.trans (D.u.mono bn));have ay:=ai (H.u.below V.u);have bg:=ai (aw.u.below D.u);have bz:=V.u.size;clear d0 d1 d2 d3 d4 d5 d6 c0 c1 c2 t0 t1 t2 t3 t4 t5 D E aP aw U
   by_cases R:0<=m
   ·have I:=ac.u;rw [if_pos R] at I;subst I;rw [m4 R];clear ac;go_wp2;go_ret;exact j8.same H.u V.u 4
   have I:=ac.u;rw [if_neg R] at I;rw [m5 R];have ad:=ai I;obtain ⟨c0,c1,c2⟩:=three ay.u.blk;obtain ⟨t0,t1,t2,t3,t4,t5⟩:=bg.u.six;clear I ac R
   by_cases Z:gs.length=24
   ·have I:=ad.u;rw [if_pos Z] at I;subst I;have bh:((gs.length:Int)==24)=true:=by rw [Z];rfl
    clear ad Z;go_wp2;go_ret;exact j8.same H.u V.u 8
   have I:=ad.u;rw [if_neg Z] at I;subst I;have bh:((gs.length:Int)==24)=false:=by rw [b6];omega
   clear ad Z;go_wp2_with fail;obtain ⟨i0,hi0,hz0,hz1,hz2⟩:=bK Tryz.infoTu;refine AE ?_;intro HI Vm Vn Vo;clear hi0 hz0 hz1 hz2;have ab:=ay.u.blk;have bx:=ab.fz;have aM:=ai ay.u.row;have bB:=cm J _ c2;have bC:=cm J _ t0;have c7:(J.alloc (cw t.kind t.id t.rel t.sub t.who t.of)).cell? ⟨b,2,none⟩=some (.slice ga gs.length gc):=(ab.alloc _).cell rfl;have bw:¬(b=J.heap.size):=by have:=ab.lt;omega
   have a8:=ai ab;clear ab;have bc:=ai (show ∀u∈jD t,u.oneCell'=true from by
    intro u aY;simp only [jD,bi,dK,dP] at aY
    rcases aY with rfl|rfl|rfl|rfl|rfl|rfl<;>rfl)
   have a7:=ai (by unfold maxLen;omega:gs.length+1<=maxLen);have a9:=ai (by omega:(gs.length+1)*96<=140737488355328);have be:=ai (gH _:0<=(J.alloc (cw t.kind t.id t.rel t.sub t.who t.of)).drew.heap.size);have ba:=ai (by simp:(J.alloc (cw t.kind t.id t.rel t.sub t.who t.of)).drew.heap.size=J.heap.size+1)
   go_region_law (refine jY _ rfl (.tmp 45) (.tmp 47) 115 rfl 0 123 i0 _ 6 96 underlying115 HI.u Vm.u Vn.u Vo.u rfl au (.slice ga gs.length gc) gs.length (gs.flatMap jD) gW (bO (aM.u.alloc _)) ⟨J.heap.size,0,none⟩ 1 1 (jD t) gW rfl (bu (B:=J.heap.size) (cs:=#[.string t.kind,.string t.id,.string t.rel,.string t.sub,.string t.who,.string t.of]) (t:=123) (fr:=(0,0)) (aE.new J _ _).drew) bc.u au a7.u a9.u be.u (J.heap.size+1) ba.u ?_;intro g5 aT w5 aW aD aQ bt;have aO:=bO (aM.u.alloc (cw t.kind t.id t.rel t.sub t.who t.of));have al:=(a8.u.alloc (cw t.kind t.id t.rel t.sub t.who t.of)).drew;have Y:aE w5 b _ 117:=(aD.block b al.lt (own_ne aO al au)).trans al;obtain ⟨bD,bE,bG⟩:=three Y;have zq:=Y.fz;have bb:=ai Y;have a6:=ai aD;have bf:=ai aW;have aZ:=ai aQ;have bA:=Y.lt;clear aO al Y aD aW aQ)
   all_goals
    go_wp2;go_ret;exact PE H.u V.u aj a6.u bf.u aZ.u bb.u
  have bk:((n:Int) != 0)=true:=by rw [hP];omega
  have bl:((n:Int)==0)=false:=by rw [b6];omega
  have I:=ah.u;rw [if_pos hn] at I;subst I;clear hn ah;go_wp2;go_ret;exact j8.same H.u U.u n
def OfC(C:List Ty->ag->af->Prop):Prop:=∀(bm:Nat) (sv:ag) (ts:List Ty) (tl:List (Ty×ag)) (w:af),MC bm w sv ts tl->Calls prog 59 #[.agg #[sv]] w fun e w'=>∃h ln A,e=.returned (.agg #[.slice h ln A])/\an w w'/\C ts (.slice h ln A) w'
structure YK(LX:List Ty->ag->af->Prop):Prop where
 below:∀ts lv w w',LX ts lv w->an w w'->LX ts lv w'
 set:∀ts lv w g cs o u,LX ts lv w->aE w g cs 117->LX ts lv (w.setCell ⟨g,o,none⟩ u)
def Lk(o c w)(h:Laid w):∃p:Nat,Calls prog 41 #[Yy (o,c)] w fun e w'=>e=.returned (.tuple #[.int .i64 c,.int .i64 p])/\an w w':=by
 cases o with
 |none=>exact ⟨0,pJ c w h⟩
 |some p=>exact ⟨p,C6 p c w h⟩
def yN(b s w o c)(Z:fq s=.error (o,c))(ah:c≠0)(Q:Laid w):
  Calls prog 27 #[.pointer (some ⟨b,0,none⟩),.string s] w fun e w'=>e=.returned (.int .i64 c)/\an w w':=by
 have C:=ai (CN s w);rw [Z] at C;have ad:=ai Q;have hl:=Q.lt;have al:((c:Int)==0)=false:=by rw [b6];omega
 have am:((c:Int) != 0)=true:=hP.2 aj;have V:=ai (fun w' (k:an w w')=>Lk o c w' (ad.u.below k hl));obtain ⟨D,J⟩:∃D,D=Yy (o,c):=⟨_,rfl⟩;have ae:∃ty v,D=.iface ty v:=by
  rw [J]
  cases o with
  |none=>exact ⟨_,_,rfl⟩
  |some p=>exact ⟨_,_,rfl⟩
 obtain ⟨af,ag,rfl⟩:=ae;have U:=ai J;clear Z Q J;go_enter func27,ntmps27;go_wp2_with fail;refine (ak C).mono ?_;rintro e ap ⟨I,rfl⟩;rw [<-U.u];have A:=ai (I.alloc I.size (.cells #[.slice none 0 0] 75));obtain ⟨p,R⟩:=V.u _ A.u;rw [<-U.u] at R;have ac:=ai R;clear I C R V;go_wp2_with fail;refine ac.u.mono ?_;rintro e ar ⟨rfl,Y⟩;have ab:=ai (A.u.trans (Y.mono A.u.size));clear Y;go_wp2;go_ret;exact ⟨rfl,ab.u⟩
def YL(h:List Ty->ag->af->Prop)(b:Nat)(ts:List Ty)(w:af)(e:Ending)(w':af):Prop:=∃mv lv bm tl,e=.returned (.int .i64 0)/\PU w' b mv lv (.slice none 0 0) []/\MC bm w' mv ts tl/\h ts lv w'/\bG (fun k=>k=b) w w'
def Dl(ab:List Ty->ag->af->Prop)(aF:OfC ab)(aC:YK ab)(b:Nat)(s:ae)(w:af)(mv lv gv:ag)(ac:aE w b #[mv,lv,gv] 117)(ts:List Ty)(aH:fq s=.ok ts)(aP:Laid w):
  Calls prog 27 #[.pointer (some ⟨b,0,none⟩),.string s] w (YL ab b ts w):=by
 have C:=ai (CN s w);rw [aH] at C;have aL:=ai ac;have aw:=ai aF;have Z:=ai aC;have aV:=ac.lt;clear aH aP ac aF aC;go_enter func27,ntmps27;go_wp2_with fail;refine (ak C).mono ?_;rintro e J ⟨I,sv,tl,bm,rfl,ad⟩;obtain ⟨A,mn,mc,rfl⟩:=ad.form;have V:=ai (I.alloc I.size (aW A mn mc));have aB:=ai (aE.new J #[.slice A mn mc] 75);have ax:=ai (ad.below (bj.alloc aD (aW A mn mc)));have aX:¬(J.heap.size=b):=by have:=I.size;omega
 have aY:¬(b=J.heap.size):=by have:=I.size;omega
 clear I ad C;go_wp2_with fail;refine (vw _).mono ?_;rintro e Q ⟨rfl,U⟩;have Y:=ai (V.u.trans (U.mono V.u.size));have k0:Q.cell? ⟨J.heap.size,0,none⟩=some (.slice A mn mc):=(aB.u.below U).cell rfl;have ay:=ai (ax.u.below U);have aN:=ai (aL.u.below Y.u);clear U V ax aB;go_wp2_with fail;have aK:=ai (aw.u bm _ ts tl Q.drew (ay.u.below (az _ Q).drew));have aQ:=Y.u.size;clear aw
 go_region_held3 (fun w'=>w'.cell? ⟨J.heap.size,0,none⟩=some (.slice A mn mc)) (go_keep)
  ((go_at_call 59;refine aK.u.mono ?_;rintro e aS ⟨ah,ln,aj,rfl,aG,aI⟩;have R:=ai (show an Q aS from (az _ Q).drew.trans aG);have d0:=am k0 R.u;have D:=ai (aN.u.below R.u);obtain ⟨aZ,a3,a4⟩:=three D.u;have a5:=D.u.fz;have aM:=ai (ay.u.below R.u);have aO:=ai aI;clear aG aI))
 have aJ:=ai (Y.u.trans (R.u.mono aQ));go_wp2;go_ret;have ap:=D.u.set 0 (.slice A mn mc);have av:=ap.set 1 (.slice ah ln aj);have aR:=av.set 2 (.slice none 0 0);have al:¬(117=207\/117=159\/117=110):=au;have kt:=((KT.set D.u al 0 (.slice A mn mc)).trans (KT.set ap al 1 (.slice ah ln aj))).trans (KT.set av al 2 (.slice none 0 0));refine ⟨.slice A mn mc,.slice ah ln aj,bm,tl,rfl,⟨aR,bL,fun g n c e=>by simp at e,ar⟩,aM.u.kt kt ar,Z.u.set _ _ _ _ _ _ _ (Z.u.set _ _ _ _ _ _ _ (Z.u.set _ _ _ _ _ _ _ aO.u D.u) ap) av,(((bG.of_below aJ.u).set (show (fun k=>k=b) (⟨b,0,none⟩:Addr).block from rfl) _).set (show (fun k=>k=b) (⟨b,1,none⟩:Addr).block from rfl) _).set (show (fun k=>k=b) (⟨b,2,none⟩:Addr).block from rfl) _⟩
def Rm(s w o c)(R:fq s=.error (o,c))(Q:c≠0)(D:Laid w):
  Calls prog 50 #[.string s] w fun e w'=>e=.returned (.tuple #[.pointer none,.int .i64 c])/\an w w':=by
 have hl:=D.lt;have A:=ai ((az w.heap.size w).alloc aD (.cells #[.slice none 0 0,.slice none 0 0,.slice none 0 0] 117));have C:=ai (yN w.heap.size s _ o c R Q (D.below A.u hl));have U:((c:Int)==0)=false:=by rw [b6];omega
 have V:((c:Int) != 0)=true:=hP.2 aj;go_enter func50,ntmps50;go_wp2_with fail;refine C.u.mono ?_;rintro e Y ⟨rfl,J⟩;have I:=ai (A.u.trans (J.mono A.u.size));go_wp2;go_ret2;exact ⟨rfl,I.u⟩
def Y0(h:List Ty->ag->af->Prop)(ts:List Ty)(w:af)(e:Ending)(w':af):Prop:=∃mv lv bm tl b,e=.returned (.tuple #[.pointer (some ⟨b,0,none⟩),.int .i64 0])/\PU w' b mv lv (.slice none 0 0) []/\MC bm w' mv ts tl/\h ts lv w'/\an w w'/\w.heap.size<=b
def VO(A:List Ty->ag->af->Prop)(Y:OfC A)(V:YK A)(s:ae)(w:af)(ts:List Ty)(ac:fq s=.ok ts)(I:Laid w):
  Calls prog 50 #[.string s] w (Y0 A ts w):=by
 have hl:=I.lt;have D:=ai ((az w.heap.size w).alloc aD (.cells #[.slice none 0 0,.slice none 0 0,.slice none 0 0] 117));have C:=ai (Dl A Y V w.heap.size s _ _ _ _ (aE.new w #[.slice none 0 0,.slice none 0 0,.slice none 0 0] 117) ts ac (I.below D.u hl));go_enter func50,ntmps50;go_wp2_with fail;refine C.u.mono ?_;rintro e ak ⟨mv,lv,bm,tl,rfl,ad,ab,ah,Z⟩;have R:=ai ad;have Q:=ai ab;have U:=ai ah;have J:=ai Z;go_wp2;go_ret2;exact ⟨mv,lv,bm,tl,w.heap.size,rfl,R.u,Q.u,U.u,D.u.trans (J.u.below D.u.size (fun g e=>aj)),bY _⟩
