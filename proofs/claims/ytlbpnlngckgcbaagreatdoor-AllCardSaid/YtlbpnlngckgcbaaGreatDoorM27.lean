import Derived.Test.YtlbpnlngckgcbaaGreatDoorM22
import Derived.Test.YtlbpnlngckgcbaaGreatDoorM23
set_option linter.all false
set_option maxHeartbeats 4000000
set_option maxRecDepth 100000
namespace Go.Proofs.YtlbpnlngckgcbaaGreatDoor
open Go.RowKit Go.PlainAid Go.Proofs.Tryz
variable {aD bq:Prop} {w w' y z:af} {base size n b g:Nat} {e T:TypeId} {v kv rv pv:ag} {xs:List ag} {rl:List RV} {pl:List PV} {cs:Array ag}
def Et (h:aD:=by
 unfold RT;decide):aD:=h
def RT(T:TypeId):Prop:=T=252\/T=170\/T=172\/T=255\/T=257\/T=3\/T=259
def KD(w w':af):Prop:=∀(g:Nat)(cs:Array ag)(T:TypeId)(f:Nat×Nat),w.heap[g]? =some (Obj.cells cs T f)->RT T->w'.heap[g]? =w.heap[g]?
def KD.of_butS{S}(h:bK S w w')(C:∀g cs T f,S g->w.heap[g]? =some (Obj.cells cs T f)->¬RT T):KD w w':=fun g cs T f A D=>h.block g (lt_of_some A) (fun hs=>C g cs T f hs A D)
def KD.below(h:am w w'):KD w w':=fun g cs T f A _=>h.block g (lt_of_some A)
def KD.row(k:KD w w')(h:w.ownsRow base e size v n xs)(A:RT e):w'.ownsRow base e size v n xs:=ay h (fun g cs f _ C=>k g cs _ f C A)
structure Y3(w:af)(b:Nat)(kv rv pv:ag)(kl:List (ae×Nat))(rl:List RV)(pl:List PV)(l:List PX):Prop where
 dm:DM w b kv rv pv kl rl pl l
 blk:∃cs,aL w b cs 252
def Y3.kd{kl l}(h:Y3 w b kv rv pv kl rl pl l)(k:KD w w'):Y3 w' b kv rv pv kl rl pl l:=by
 obtain ⟨cs,D⟩:=h.blk;have e:=k b cs _ _ D (.inl rfl);have hc:∀o v,w.cell? (aC b o)=some v->w'.cell? (aC b o)=some v:=fun o v hv=>(jA (w:=w) e).trans hv
 have A:=h.dm;refine ⟨⟨hc _ _ A.c5,hc _ _ A.c6,hc _ _ A.c7,k.row A.kt (.inr (.inl rfl)),k.row A.rt (.inr (.inr (.inl rfl))),⟨A.pt.fst,k.row A.pt.row (.inr (.inr (.inr (.inl rfl)))),fun x I=> ?_⟩,A.kn,A.rn,A.pn⟩,cs,e.trans D⟩;have C:=A.pt.rep x I;exact ⟨k.row C.g (.inr (.inr (.inr (.inr (.inl rfl))))),k.row C.p (.inr (.inr (.inr (.inr (.inr (.inl rfl)))))),k.row C.s (.inr (.inr (.inr (.inr (.inr (.inr rfl))))))⟩
def KD.set(h:aL w g cs T)(C:¬RT T)(o u):KD w (w.setCell (aC g o) u):=fun g' I T' f A D=>ea _ _ _ _ (fun (e':g'=g)=>by
 subst e';unfold aL at h;rw [h] at A;simp only [aR,vD] at A;exact C (by rw [A.2.1];exact D))
def KD.trans{x}(h:KD x y)(k:KD y z):KD x z:=fun g cs T f A C=>(k g cs T f ((h g cs T f A C).trans A) C).trans (h g cs T f A C)
def Mv(b:Nat)(s w mp tv ss)(h:DU w b mp tv ss)(c p:Nat)(D:c≠0)(C:Calls prog 80 #[an s] w fun e w'=>e=bi (.tuple #[.pointer none,au c,au p])/\am w w'):
  Calls prog 83 #[bu b,an s] w fun e w'=>e=bi (au c)/\am w w':=by
 have I:((c:Int)==0)=false:=by rw [bR];omega
 go_enter func83,ntmps83;go_wp2_with fail;refine C.mono ?_;rintro e w1 ⟨rfl,A⟩;go_wp2;go_ret;exact ⟨rfl,A⟩
def Y4(b:Nat)(X:Nat->af->Prop)(w:af)(e:Ending)(w':af):Prop:=∃bm,e=bi (au 0)/\DU w' b (.pointer (some (aC bm 5))) (aA none 0 0) []/\X bm w'/\bK (fun k=>k=b) w w'
def QD(b s w mp tv ss)(h:DU w b mp tv ss)(X)(I:∀bm w w',X bm w->KD w w'->X bm w')(C:Calls prog 80 #[an s] w fun e w'=>∃bm,e=bi (.tuple #[.pointer (some (aC bm 5)),au 0,au 0])/\am w w'/\X bm w'):
  Calls prog 83 #[bu b,an s] w (Y4 b X w):=by
 obtain ⟨ta,tc,rfl⟩:=aw h.row;go_enter func83,ntmps83;go_wp2_with fail;refine C.mono ?_;rintro e w1 ⟨bm,rfl,D,J⟩;have A:=(h.below D).blk;obtain ⟨R,U⟩:=gh A;have V:=A.fz;clear C;go_wp2;go_ret;have k1:=A.set 0 (.pointer (some (aC bm 5)));have Q:=k1.set 1 (aA none 0 0);exact ⟨bm,rfl,⟨Q,bP,fun g n c e=>by simp at e,ar⟩,I bm w1 _ J ((KD.set A Et 0 _).trans (KD.set k1 Et 1 _)),((bK.of_below D).set (show (fun k=>k=b) (⟨b,0,none⟩:Addr).block from rfl) _).set (show (fun k=>k=b) (⟨b,1,none⟩:Addr).block from rfl) _⟩
def QE(s w)(c p:Nat)(D:c≠0)(C:Calls prog 80 #[an s] w fun e w'=>e=bi (.tuple #[.pointer none,au c,au p])/\am w w'):
  Calls prog 82 #[an s] w fun e w'=>e=bi (.tuple #[.pointer none,au c])/\am w w':=by
 have I:((c:Int)==0)=false:=by rw [bR];omega
 have J:((c:Int) != 0)=true:=gX.2 ai;go_enter func82,ntmps82;go_wp2_with fail;refine C.mono ?_;rintro e w1 ⟨rfl,A⟩;go_wp2;go_ret2;exact ⟨rfl,A⟩
def Y5(X:Nat->af->Prop)(w:af)(e:Ending)(w':af):Prop:=∃bm b,e=bi (.tuple #[bu b,au 0])/\DU w' b (.pointer (some (aC bm 5))) (aA none 0 0) []/\X bm w'/\am w w'/\w.heap.size<=b
def VR(s w X)(D:∀bm w w',X bm w->KD w w'->X bm w')(C:Calls prog 80 #[an s] w fun e w'=>∃bm,e=bi (.tuple #[.pointer (some (aC bm 5)),au 0,au 0])/\am w w'/\X bm w'):
  Calls prog 82 #[an s] w (Y5 X w):=by
 go_enter func82,ntmps82;go_wp2_with fail;refine C.mono ?_;rintro e w1 ⟨bm,rfl,A,I⟩;have l1:=A.size;go_wp2;go_ret2;have k1:=aL.new w1 #[.pointer (some (aC bm 5)),aA none 0 0] 262;exact ⟨bm,w1.heap.size,rfl,⟨k1,bP,fun g n c e=>by simp at e,ar⟩,D bm w1 _ I (KD.below ((az _ w1).alloc aH _)),A.alloc l1 _,l1⟩
