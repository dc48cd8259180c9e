import Derived.Test.YtlbpnlngckgcbaaGreatDoorM16
import Derived.Test.YtlbpnlngckgcbaaGreatDoorM17
set_option linter.all false
set_option maxHeartbeats 4000000
set_option maxRecDepth 100000
namespace Go.Proofs.YtlbpnlngckgcbaaGreatDoor
open Go.RowKit Go.PlainAid Go.Proofs.Tryz
variable {aA aU:Prop} {w w' y z:af} {base size n b g:Nat} {e T:TypeId} {v kv rv pv:ag} {xs:List ag} {rl:List RV} {pl:List PV} {cs:Array ag}
def Do (h:aA:=by
 unfold RT;decide):aA:=h
def RT(T:TypeId):Prop:=T=252\/T=170\/T=172\/T=255\/T=257\/T=3\/T=259
def KD(w w':af):Prop:=∀(g:Nat)(cs:Array ag)(T:TypeId)(f:Nat×Nat),w.heap[g]? =some (Obj.cells cs T f)->RT T->w'.heap[g]? =w.heap[g]?
def KD.of_butS{S}(h:bG S w w')(C:∀g cs T f,S g->w.heap[g]? =some (Obj.cells cs T f)->¬RT T):KD w w':=fun g cs T f A D=>h.block g (lt_of_some A) (fun hs=>C g cs T f hs A D)
def KD.below(h:an w w'):KD w w':=fun g cs T f A _=>h.block g (lt_of_some A)
def KD.row(k:KD w w')(h:w.ownsRow base e size v n xs)(A:RT e):w'.ownsRow base e size v n xs:=ay h (fun g cs f _ C=>k g cs _ f C A)
structure YP(w:af)(b:Nat)(kv rv pv:ag)(kl:List (ae×Nat))(rl:List RV)(pl:List PV)(l:List PX):Prop where
 dm:DM w b kv rv pv kl rl pl l
 blk:∃cs,aE w b cs 252
def YP.kd{kl l}(h:YP w b kv rv pv kl rl pl l)(k:KD w w'):YP w' b kv rv pv kl rl pl l:=by
 obtain ⟨cs,D⟩:=h.blk;have e:=k b cs _ _ D (.inl rfl);have hc:∀o v,w.cell? ⟨b,o,none⟩=some v->w'.cell? ⟨b,o,none⟩=some v:=fun o v hv=>(ji (w:=w) e).trans hv
 have A:=h.dm;refine ⟨⟨hc _ _ A.c5,hc _ _ A.c6,hc _ _ A.c7,k.row A.kt (.inr (.inl rfl)),k.row A.rt (.inr (.inr (.inl rfl))),⟨A.pt.fst,k.row A.pt.row (.inr (.inr (.inr (.inl rfl)))),fun x I=> ?_⟩,A.kn,A.rn,A.pn⟩,cs,e.trans D⟩;have C:=A.pt.rep x I;exact ⟨k.row C.g (.inr (.inr (.inr (.inr (.inl rfl))))),k.row C.p (.inr (.inr (.inr (.inr (.inr (.inl rfl)))))),k.row C.s (.inr (.inr (.inr (.inr (.inr (.inr rfl))))))⟩
def KD.set(h:aE w g cs T)(C:¬RT T)(o u):KD w (w.setCell ⟨g,o,none⟩ u):=fun g' I T' f A D=>dN _ _ _ _ (fun (e':g'=g)=>by
 subst e';unfold aE at h;rw [h] at A;simp only [aL,uU] at A;exact C (by rw [A.2.1];exact D))
def KD.trans{x}(h:KD x y)(k:KD y z):KD x z:=fun g cs T f A C=>(k g cs T f ((h g cs T f A C).trans A) C).trans (h g cs T f A C)
def Lq(b:Nat)(s w mp tv ss)(h:DU w b mp tv ss)(c p:Nat)(J:c≠0)(C:Calls prog 80 #[.string s] w fun e w'=>e=.returned (.tuple #[.pointer none,.int .i64 c,.int .i64 p])/\an w w'):
  Calls prog 83 #[.pointer (some ⟨b,0,none⟩),.string s] w fun e w'=>e=.returned (.int .i64 c)/\an w w':=by
 have Q:((c:Int)==0)=false:=by rw [b6];omega
 have D:=ai C;go_enter func83,ntmps83;go_wp2_with fail;refine D.u.mono ?_;rintro e w1 ⟨rfl,I⟩;have A:=ai I;go_wp2;go_ret;exact ⟨rfl,A.u⟩
def YQ(b:Nat)(X:Nat->af->Prop)(w:af)(e:Ending)(w':af):Prop:=∃bm,e=.returned (.int .i64 0)/\DU w' b (.pointer (some ⟨bm,5,none⟩)) (.slice none 0 0) []/\X bm w'/\bG (fun k=>k=b) w w'
def P5(b s w mp tv ss)(h:DU w b mp tv ss)(X)(Q:∀bm w w',X bm w->KD w w'->X bm w')(C:Calls prog 80 #[.string s] w fun e w'=>∃bm,e=.returned (.tuple #[.pointer (some ⟨bm,5,none⟩),.int .i64 0,.int .i64 0])/\an w w'/\X bm w'):
  Calls prog 83 #[.pointer (some ⟨b,0,none⟩),.string s] w (YQ b X w):=by
 have I:=ai C;have H:=ai h;have V:=ai Q;obtain ⟨ta,tc,rfl⟩:=ax h.row;clear C h Q;go_enter func83,ntmps83;go_wp2_with fail;refine I.u.mono ?_;rintro e w1 ⟨bm,rfl,D,R⟩;have A:=(H.u.below D).blk;obtain ⟨ab,ac⟩:=hY A;have ad:=A.fz;have J:=ai A;have U:=ai D;have Y:=ai R;clear D I A R;go_wp2;go_ret;have k1:=J.u.set 0 (.pointer (some ⟨bm,5,none⟩));have Z:=k1.set 1 (.slice none 0 0);exact ⟨bm,rfl,⟨Z,bL,fun g n c e=>by simp at e,ar⟩,V.u bm w1 _ Y.u ((KD.set J.u Do 0 _).trans (KD.set k1 Do 1 _)),((bG.of_below U.u).set (show (fun k=>k=b) (⟨b,0,none⟩:Addr).block from rfl) _).set (show (fun k=>k=b) (⟨b,1,none⟩:Addr).block from rfl) _⟩
def P7(s w)(c p:Nat)(J:c≠0)(C:Calls prog 80 #[.string s] w fun e w'=>e=.returned (.tuple #[.pointer none,.int .i64 c,.int .i64 p])/\an w w'):
  Calls prog 82 #[.string s] w fun e w'=>e=.returned (.tuple #[.pointer none,.int .i64 c])/\an w w':=by
 have Q:((c:Int)==0)=false:=by rw [b6];omega
 have R:((c:Int) != 0)=true:=hP.2 aj;have D:=ai C;go_enter func82,ntmps82;go_wp2_with fail;refine D.u.mono ?_;rintro e w1 ⟨rfl,I⟩;have A:=ai I;go_wp2;go_ret2;exact ⟨rfl,A.u⟩
def YR(X:Nat->af->Prop)(w:af)(e:Ending)(w':af):Prop:=∃bm b,e=.returned (.tuple #[.pointer (some ⟨b,0,none⟩),.int .i64 0])/\DU w' b (.pointer (some ⟨bm,5,none⟩)) (.slice none 0 0) []/\X bm w'/\an w w'/\w.heap.size<=b
def Vu(s w X)(R:∀bm w w',X bm w->KD w w'->X bm w')(C:Calls prog 80 #[.string s] w fun e w'=>∃bm,e=.returned (.tuple #[.pointer (some ⟨bm,5,none⟩),.int .i64 0,.int .i64 0])/\an w w'/\X bm w'):
  Calls prog 82 #[.string s] w (YR X w):=by
 have I:=ai C;have J:=ai R;go_enter func82,ntmps82;go_wp2_with fail;refine I.u.mono ?_;rintro e w1 ⟨bm,rfl,A,U⟩;have D:=ai A;have Q:=ai U;have l1:=A.size;go_wp2;go_ret2;have k1:=aE.new w1 #[.pointer (some ⟨bm,5,none⟩),.slice none 0 0] 262;exact ⟨bm,w1.heap.size,rfl,⟨k1,bL,fun g n c e=>by simp at e,ar⟩,J.u bm w1 _ Q.u (KD.below ((az _ w1).alloc aD _)),D.u.alloc l1 _,l1⟩
