import Derived.Test.YtlbpnlngckgcbaaGreatDoorM10
import Derived.Test.YtlbpnlngckgcbaaGreatDoorM11
import Derived.Test.YtlbpnlngckgcbaaGreatDoorM09
import Derived.Lib.SliceRun
set_option linter.all false
set_option maxHeartbeats 4000000
set_option maxRecDepth 100000
namespace Go.Proofs.YtlbpnlngckgcbaaGreatDoor
open Go.RowKit Go.PlainAid Go.Proofs.Tryz
variable {aF cD:Prop} {k g:Nat} {w:af} {T:TypeId} {P:Program}
abbrev bV(a0:ae)(a1:ae)(a2:ae)(a3:ae)(a4:ae)(a5:ae):Obj:=.cells #[.string a0,.string a1,.string a2,.string a3,.string a4,.string a5] 123
def Cr (A:aF:=by
 rw [n9];intro y D;obtain ⟨j,C,rfl⟩:=dn D;exact hn j C):aF:=A
def Cs (C:aF:=by
 rw [kg];exact ⟨hk,he,fun j D=>by rw [hn j aj D];simp⟩):aF:=C
def jp(t:Tu):List ag:=[.string t.kind,.string t.id,.string t.rel,.string t.sub,.string t.who,.string t.of]
def ox(a c:Tu):Bool:=eqs a.kind c.kind&&(eqs a.id c.id&&(eqs a.rel c.rel&&(eqs a.sub c.sub&&(eqs a.who c.who&&eqs a.of c.of))))
theorem JV(a c):ox a c=true↔a=c:=by
 unfold ox;simp only [bO,bn]
 cases a
 cases c
 simp
theorem Ob(a c w):(Op.equalIn 10000 123 (.agg #[.string a.kind,.string a.id,.string a.rel,.string a.sub,.string a.who,.string a.of]) (.agg #[.string c.kind,.string c.id,.string c.rel,.string c.sub,.string c.who,.string c.of])).run prog w=.ok (ox a c) w:=by
 have I:=underlying9;have C:=underlying98;have D:=underlying102;rw [show (10000:Nat)=9999+1 from rfl,run_equalIn_agg w 9999 123 _ _ au au];simp only [Program.fieldsOf,underlying123]
 go_simp
 have e:∀p q:ae,eqs p q=decide (p.toList=q.toList):=fun p q=>by
  unfold eqs;rw [aO,aO,Bool.beq_eq_decide_eq]
 simp only [ox,e]
 (repeat' split)<;>simp_all
theorem Oc(x y xs ys w):(eqGuard .eql 123 x y (.agg xs) (.agg ys)).run prog w=.ok () w:=run_eqGuard_agg w .eql 123 x y xs ys au
def kk(l:List Tu)(x:Tu):Int:=match l.findIdx? (ox x) with
 |some i=>(i:Int)
 |none=> -1
theorem Od{l x}(hk:k<l.length)(hn:∀j,(I:j<l.length)->j<k->ox x l[j]=false)(he:ox x l[k]=true):kk l x=k:=by
 unfold kk;have:l.findIdx? (ox x)=some k:=by
  exact Cs
 rw [this]
theorem Gy{l x}(hn:∀j,(I:j<l.length)->ox x l[j]=false):kk l x= -1:=by
 unfold kk;have:l.findIdx? (ox x)=none:=by
  exact Cr
 rw [this]
theorem aB.six{a b c d e f}(h:aB w g #[a,b,c,d,e,f] T):w.cell? ⟨g,0,none⟩=some a/\w.cell? ⟨g,1,none⟩=some b/\w.cell? ⟨g,2,none⟩=some c/\w.cell? ⟨g,3,none⟩=some d/\w.cell? ⟨g,4,none⟩=some e/\w.cell? ⟨g,5,none⟩=some f:=
 ⟨h.cell rfl,h.cell rfl,h.cell rfl,h.cell rfl,h.cell rfl,h.cell rfl⟩
theorem EO(base v l x w)(au:l.length<=10000000000000)(D:w.ownsRow base 123 6 v l.length (l.flatMap jp)):
  Calls prog 68 #[v,.agg #[.string x.kind,.string x.id,.string x.rel,.string x.sub,.string x.who,.string x.of]] w fun e w'=>e=.returned (.int .i64 (kk l x))/\Below w.heap.size w w':=by
 obtain ⟨sa,sc,rfl⟩:=ay D;have H:=ai D;have al:=Ob;have am:=Oc;obtain ⟨U,Q⟩:∃U,U=kk l x:=⟨_,rfl⟩;rw [<-Q];have R:=ai Q;clear D Q;go_enter func68,ntmps68;go_wp2
 go_loopw [5,8] (fun u i wr=>∃k:Nat,k<=l.length/\i=.int .i64 k/\Below w.heap.size w wr/\aB wr w.heap.size #[.string x.kind,.string x.id,.string x.rel,.string x.sub,.string x.who,.string x.of] 123/\Hid (∀j,(D:j<l.length)->j<k->ox x l[j]=false)) (fun _ i _=>l.length-(intOf i).toNat)
 case atStart=>exact ⟨0,aj,rfl,ba.alloc az _,aB.new _ _ _,ai (fun j e D=>aj)⟩
 case round=>
  obtain ⟨k,ap,rfl,I,J,O⟩:=hrel;have HB:=ai I;have Gk:=ai J
  by_cases Y:k<l.length
  ·obtain ⟨g,c,e1,hc⟩:=bi jp 6 (fun _=>rfl) (ax (w':=wr) H.u (fun g cs f _ Z=>I.block g (lt_of_some Z))) k l[k] (aG Y);simp only [aI] at e1;obtain ⟨rfl,_,rfl⟩:=e1;have k0:wr.cell? ⟨g,k*6,none⟩=some (.string l[k].kind):=hc 0 _ aj rfl;have k1:=hc 1 _ aj rfl;have av:=hc 2 _ aj rfl;have k3:=hc 3 _ aj rfl;have aw:=hc 4 _ aj rfl;have aA:=hc 5 _ aj rfl;obtain ⟨ad,b1,ae,af,ag,ah⟩:=J.six;have ac:(k:Int)<(l.length:Int):=aj;have ar:(0:Int)<=(k:Int):=aj;clear I J hc
   cases V:ox x l[k]
   ·have Hn:=ai (show ∀j,(D:j<l.length)->j<k+1->ox x l[j]=false from fun j D an=>by
     by_cases e:j=k
     ·subst e;exact V
     exact ak O j D aj)
    go_wp2
    go_quiet (fail)
    exact JA
   have hF:=Od Y (ak O) V;rw [<-R.u] at hF;subst hF;go_wp2
   go_quiet (fail)
   go_wp2;go_ret;exact ⟨rfl,cN HB.u _⟩
  have hF:=Gy (fun j ab=>ak O j ab aj);rw [<-R.u] at hF;subst hF;have ac:¬((k:Int)<(l.length:Int)):=aj;clear I J;go_wp2;go_ret;exact ⟨rfl,HB.u⟩
theorem Ct(base v l x w)(R:l.length<=10000000000000)(D:w.ownsRow base 123 6 v l.length (l.flatMap jp)):
  Calls prog 62 #[v,.agg #[.string x.kind,.string x.id,.string x.rel,.string x.sub,.string x.who,.string x.of]] w fun e w'=>e=.returned (.bool (decide (0<=kk l x)))/\Below w.heap.size w w':=by
 have C:=ai (fun w' (O:Below w.heap.size w w')=>EO base v l x w' R (ax D (fun g cs f _ Q=>O.block g (lt_of_some Q))));obtain ⟨sa,sc,rfl⟩:=ay D;generalize kk l x=n at*;clear D;go_enter func62,ntmps62;go_wp2_with fail;refine (C.u _ (ba.alloc az _)).mono ?_;rintro e w1 ⟨rfl,I⟩;have J:=ai (((aw _ w).alloc az (bV x.kind x.id x.rel x.sub x.who x.of)).trans (I.mono an));clear I;go_wp2;go_ret;exact ⟨rfl,J.u⟩
abbrev gK:=@List.length_set
abbrev jE:=@List.getElem_set_self
abbrev te:=@Nat.add_assoc
abbrev Cu:=@List.eq_of_mem_replicate
abbrev xx:=@List.eraseIdx_eq_take_drop_succ
theorem ly{g:Nat}{T:TypeId}:∀(D:List ag)(o:Nat)(w:af)(C:Array ag),aB w g C T->o+D.length<=C.size->∃I,aB (w.setCells g o D) g I T/\I.size=C.size/\I.toList=C.toList.take o++D++C.toList.drop (o+D.length)
 | [],o,w,C,h,_=>⟨C,h,rfl,an⟩
 |v::D,o,w,C,h,hz=>by
  rw [lj] at hz;obtain ⟨I,h1,h2,J⟩:=ly D (o+1) _ _ (h.set o v) (by rw [Array.size_setIfInBounds];omega);refine ⟨I,h1,by rw [h2,Array.size_setIfInBounds],?_⟩;rw [J,Array.toList_setIfInBounds];have hl:o<C.toList.length:=by rw [wS];omega
  rw [dS (by rw [gK];exact hl),List.take_set_of_le (cm o),jE,List.drop_set_of_lt aj,lj];simp [te,Nat.add_comm 1]
theorem But.setCells{b x}:∀(A:List ag)(o:Nat)(y:af),But b x y->But b x (y.setCells b o A)
 | [],_,_,h=>h
 |v::A,o,y,h=>But.setCells A (o+1) _ (h.setCell o v)
theorem u6(w t e ty z)(D:P.underlying t=some (.slice e))(I:∀w,(zeroValue e).run P w=.ok z w)(zs)(J:(Builtin.zeroCells z.cells 1).toList=zs)(h1:∀u∈zs,u.oneCell'=true)(b o c)(A:∀j,j<zs.length->(w.cell? ⟨b,o+j,none⟩).isSome=true)(C:∀j,j<zs.length->w.frozen? ⟨b,o+j,none⟩=false):
  (Builtin.clear_ #[t] ty #[.slice (some ⟨b,o,none⟩) 1 c]).run P w=.ok (.tuple #[]) (w.setCells b o zs):=by
 have h:=run_storeCells_cells (P:=P) b o zs 0 w (by simpa using A) (by simpa using C) h1;simp only [Nat.add_zero] at h;simp [Builtin.clear_,run_underlying D,I,J,h]
theorem rT(l:List Tu):(l.flatMap jp).length=l.length*6:=by
 induction l with
 |nil=>rfl
 |cons x l ih=>rw [cq,bo,ih,lj,show (jp x).length=6 from rfl];omega
theorem Oe(l:List Tu):∀u∈l.flatMap jp,u.oneCell'=true:=by
 intro u A;obtain ⟨x,_,h⟩:=cb.1 A;simp only [jp,bA,fG,fH] at h
 rcases h with rfl|rfl|rfl|rfl|rfl|rfl<;>rfl
theorem JW(base g c:Nat)(l:List Tu)(i:Nat)(w:af)(hi:i<l.length)(a3:l.length<=100000)(R:w.ownsRow base 123 6 (.slice (some ⟨g,0,none⟩) l.length c) l.length (l.flatMap jp)):
  Calls prog 69 #[.slice (some ⟨g,0,none⟩) l.length c,.int .i64 i,.int .i64 (i+1:Nat)] w fun e w'=>e=.returned (.slice (some ⟨g,0,none⟩) (l.length-1) c)/\w'.ownsRow base 123 6 (.slice (some ⟨g,0,none⟩) (l.length-1) c) (l.length-1) ((l.eraseIdx i).flatMap jp)/\But g w w':=by
 obtain ⟨I,V,aJ,a4,aL,O,ad⟩:∃I,aB w g I 123/\base<=g/\l.length<=c/\c<=maxLen/\I.size=c*6/\I.toList.take (l.length*6)=l.flatMap jp:=by
  rcases R.2 with ⟨R,_⟩|⟨g',aZ,I,e1,aH,Y,h1,h2,aD,aE⟩
  ·cases R
  simp only [aI,aK,cw] at e1;obtain ⟨⟨rfl,_,_⟩,_,rfl⟩:=e1;exact ⟨I,Y,aH,h1,h2,aD,aE⟩
 unfold maxLen at aL;obtain ⟨D,ab⟩:∃D,D=(l.drop (i+1)).flatMap jp:=⟨_,rfl⟩;have Z:D.length=(l.length-(i+1))*6:=by rw [ab,rT,nY]
 have ak:∀k u,(l.flatMap jp)[k]? =some u->w.cell? ⟨g,k,none⟩=some u:=fun k u C=>by
  rw [<-ad] at C;refine V.cell ?_;rw [List.getElem?_take] at C
  split at C
  ·simpa using C
  cases C
 have ap:∀k,k<c*6->(w.cell? ⟨g,k,none⟩).isSome=true/\w.frozen? ⟨g,k,none⟩=false:=fun k a2=>⟨by rw [V.cell (o:=k) (Array.getElem?_eq_getElem aj)];rfl,V.fz k⟩
 have ar:(l.flatMap jp).drop ((i+1)*6)=D:=by
  have e:l.flatMap jp=(l.take (i+1)).flatMap jp++(l.drop (i+1)).flatMap jp:=by rw [<-cX,og]
  rw [e,List.drop_left' (by rw [rT,gj];omega),ab]
 obtain ⟨A,a0,aN⟩:∃A:Addr,(if c=i+1 then some (⟨g,0,none⟩:Addr) else some ⟨g,(i+1)*6,none⟩)=some A/\Hid (∀t u,D[t]? =some u->w.drew.cell? (A.add t)=some u):=by
  by_cases Y:c=i+1
  ·refine ⟨⟨g,0,none⟩,by simp [Y],fun t u C=> ?_⟩;have h0:D.length=0:=by rw [Z];omega
   rw [List.length_eq_zero_iff.1 h0] at C;simp at C
  refine ⟨⟨g,(i+1)*6,none⟩,by simp [Y],fun t u C=> ?_⟩;rw [Addr.add_lit];refine ak _ _ ?_;rw [<-ar,wV] at C;exact C
 have aW:Hid (∀u∈D,u.oneCell'=true):=by rw [ab];exact Oe _
 have aX:Hid (∀t,t<D.length->(w.drew.cell? ⟨g,0+i*6+t,none⟩).isSome=true/\w.drew.frozen? ⟨g,0+i*6+t,none⟩=false):=by
  intro t aO;rw [Z] at aO;exact ap _ aj
 obtain ⟨i0,al,aP,aQ,a5⟩:=bH (show (Tryz.prog.info? 123).map (fun i=>(i.zero,i.size,i.bytes))=some (some (.agg #[.string ⟨#[]⟩,.string ⟨#[]⟩,.string ⟨#[]⟩,.string ⟨#[]⟩,.string ⟨#[]⟩,.string ⟨#[]⟩]),6,96) by kernel_rfl);have ae:Hid (D.length=(l.length-(i+1))*6):=Z;obtain ⟨J,U⟩:∃J,J=w.drew.setCells g (0+i*6) D:=⟨_,rfl⟩;have aG:Hid (J=w.drew.setCells g (0+i*6) D):=U;have a6:i+1<=l.length:=hi;have a7:i+1<=c:=aj;have a8:i<=c:=aj;have aR:¬((i:Int)=((i+1:Nat):Int)):=aj;have a9:((i:Int)==((i+1:Nat):Int))=false:=by rw [bG];exact aR
 generalize hn:l.length=n at*;have aS:(0:Int)<=(i:Int)+1:=aj;have aT:(i:Int)+1<=(n:Int):=aj;have ba:(0:Int)<=(i:Int)+1/\(i:Int)+1<=(n:Int):=⟨aS,aT⟩;have aY:=ai hn;have av:∀w,(zeroValue 123).run prog w=.ok (.agg #[.string ⟨#[]⟩,.string ⟨#[]⟩,.string ⟨#[]⟩,.string ⟨#[]⟩,.string ⟨#[]⟩,.string ⟨#[]⟩]) w:=fun w=>by first|rfl|kernel_rfl|simp [zeroValue,al,aP]
 obtain ⟨aA,b1,Q,e1⟩:=ly D (0+i*6) w.drew I V (by rw [ae,O];omega);rw [<-U] at b1;have am:n-(i+(n-(i+1)))=1:=aj;have a1:∀ty,(Builtin.clear_ #[115] ty #[.slice (some ⟨g,(i+(n-(i+1)))*6,none⟩) (n-(i+(n-(i+1)))) (c-(i+(n-(i+1))))]).run prog J=.ok (.tuple #[]) (J.setCells g ((i+(n-(i+1)))*6) (List.replicate 6 (.string ⟨#[]⟩))):=fun ty=>by
  rw [am];exact u6 J _ _ ty _ underlying115 av _ au (fun u C=>by rw [Cu C];rfl) g _ _ (fun j aM=>by rw [List.length_replicate] at aM;rw [b1.cell (o:=(i+(n-(i+1)))*6+j) (Array.getElem?_eq_getElem (by rw [Q,O];omega))];rfl) (fun j _=>b1.fz _)
 obtain ⟨aC,ag,aw,ah⟩:=ly (List.replicate 6 (.string ⟨#[]⟩)) ((i+(n-(i+1)))*6) J aA b1 (by rw [List.length_replicate,Q,O];omega);have bt:But g w (J.setCells g ((i+(n-(i+1)))*6) (List.replicate 6 (.string ⟨#[]⟩))):=by
  refine But.setCells _ _ _ ?_;rw [U];exact But.setCells _ _ _ (But.refl g w).drew
 have ac:i+(n-(i+1))=n-1:=aj;have an:(J.setCells g ((i+(n-(i+1)))*6) (List.replicate 6 (.string ⟨#[]⟩))).ownsRow base 123 6 (.slice (some ⟨g,0,none⟩) (n-1) c) (n-1) ((l.eraseIdx i).flatMap jp):=by
  have el:(l.eraseIdx i).length=n-1:=by rw [List.length_eraseIdx_of_lt aj,hn]
  refine ⟨by rw [rT,el],.inr ⟨g,c,aC,rfl,aJ,ag,aj,by unfold maxLen;omega,by rw [aw,Q,O],?_⟩⟩;rw [ah,ac,eI,List.take_left' (by rw [gj,wS,Q,O];omega),e1];have k1:(List.take (0+i*6) I.toList).length=i*6:=by rw [gj,wS,O];omega
  rw [List.take_left' (by rw [bo,k1,ae];omega)];have aU:List.take (0+i*6) I.toList=(l.take i).flatMap jp:=by
   have:List.take (0+i*6) I.toList=List.take (i*6) (l.flatMap jp):=by rw [<-ad,List.take_take,Nat.zero_add,Nat.min_eq_left aj]
   rw [this];have e:l.flatMap jp=(l.take i).flatMap jp++(l.drop i).flatMap jp:=by rw [<-cX,og]
   rw [e,List.take_left' (by rw [rT,gj];omega)]
  rw [aU,ab,<-cX,xx]
 have az:=ai an;have ax:=ai bt;have ay:=ai ac;clear U hn ak ap ar Z ad R hi b1 Q e1 ag aw ah bt an ac av am;go_enter func69,ntmps69;go_wp2_with fail
 go_region_law (refine step_append_room rfl (.tmp 22) (.tmp 25) 115 rfl 123 i0 6 underlying115 al aQ g 0 i c eW A (n-(i+1)) (c-(i+1)) D eW ae aN aW aj aX ?_;rw [<-aG])
 go_wp2;go_ret;exact ⟨by rw [<-ay.u];rfl,az.u,ax.u⟩
