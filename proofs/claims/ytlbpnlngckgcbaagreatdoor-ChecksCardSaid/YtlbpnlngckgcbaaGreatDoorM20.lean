import Derived.Test.YtlbpnlngckgcbaaGreatDoorM10
import Derived.Test.YtlbpnlngckgcbaaGreatDoorM09
import Derived.Test.YtlbpnlngckgcbaaGreatDoorM11
set_option linter.all false
set_option maxHeartbeats 4000000
set_option maxRecDepth 100000
namespace Go.Proofs.YtlbpnlngckgcbaaGreatDoor
open Go.RowKit Go.PlainAid Go.Proofs.Tryz
variable {aF cD:Prop}
abbrev bS:=@wpAnyH_take
abbrev mL:=@wpAnyH_ready
abbrev lF:=@AllReadyH.cons
abbrev mM:=@AllReadyH.nil
abbrev fL:=@List.setIfInBounds_toArray
def fX (A:aF:=by
 assumption):aF:=A
def Kq (C:aF:=by
 have A:=ai ((ak B0).trans (BB.u.mono (ak B0).size));go_wp2;go_ret;exact ⟨rfl,A.u⟩):aF:=C
def CS (A:aF:=by
 go_enter func154,ntmps154;go_wp2;go_ret;exact ⟨rfl,B0.u⟩):aF:=A
def dT(q:cD) (h:QW cD->aF:=by
 intro zq;simp only [Act.put,fL,List.set_cons_zero,List.set_cons_succ,List.getElem_toArray,List.getElem_cons_zero,List.getElem_cons_succ];exact zq.1):aF:=h ⟨q⟩
def hQ(i r:ae):Nat:=if r.size=0 then (if eqs i dh then 1 else 0) else 2
theorem GC(k i r w):
  Calls prog 154 #[.agg #[.string k,.string i,.string r]] w fun e w'=>e=.returned (.int .i64 (hQ i r))/\Below w.heap.size w w':=by
 have B0:=ai ((aw w.heap.size w).alloc az (b8 k i r));unfold hQ
 by_cases h0:r.size=0
 ·rw [if_pos h0];have J:(r.toList== [])=true:=by rw [aO,dL];exact mq (by rw [bf];exact h0)
  have C:r.toList.isEmpty=true:=by rw [aO,List.isEmpty_iff];exact mq (by rw [bf];exact h0)
  have I:eqs i dh=(i.toList== [42]):=by unfold eqs dh;rw [aO];rfl
  rw [I];clear h0 I
  cases O:(i.toList== [42])
  ·rw [if_neg an];exact CS
  rw [if_pos rfl];exact CS
 ·rw [if_neg h0];have C:r.toList.isEmpty=false:=by
   rw [aO,Bool.eq_false_iff];intro D;rw [List.isEmpty_iff] at D;exact h0 (by rw [<-bf,D];rfl)
  have J:(r.toList== [])=false:=by rw [aO] at C ⊢;revert C;cases bW r<;>simp
  clear h0;exact CS
def fY(g:Gr)(t:Tu):Bool:=eqs g.ty t.sub&&((g.reach==hQ t.who t.of)&&eqs g.rel t.of)
theorem GD(g t w):
  Calls prog 104 #[wZ g,.agg #[.string t.sub,.string t.who,.string t.of]] w fun e w'=>e=.returned (.bool (fY g t))/\Below w.heap.size w w':=by
 obtain ⟨ad,O⟩:∃ad,ad=fY g t:=⟨_,rfl⟩;rw [<-O];unfold fY at O;unfold wZ cu;have C:=ai (fun w=>GC t.sub t.who t.of w);generalize hQ t.who t.of=n at*;have B0:=ai (((aw w.heap.size w).alloc az (g9 g.tp g.ty g.reach g.rp g.rel)).alloc an (b8 t.sub t.who t.of));have I:=ai ((aB.new w #[.int .i64 g.tp,.string g.ty,.int .i64 g.reach,.int .i64 g.rp,.string g.rel] 207).alloc (b8 t.sub t.who t.of));have J:=ai (aB.new' (w.alloc (g9 g.tp g.ty g.reach g.rp g.rel)) #[.string t.sub,.string t.who,.string t.of] 102 (w.heap.size+1) an)
 cases h1:eqs g.ty t.sub
 ·rw [h1,dR] at O;subst O;have ar:(g.ty.toList==t.sub.toList)=false:=by rw [<-aJ];exact h1
  clear h1;go_enter func104,ntmps104;go_wp2_with fail;generalize ((w.alloc (g9 g.tp g.ty g.reach g.rp g.rel)).alloc (b8 t.sub t.who t.of))=W at*;have R:W.cell? ⟨w.heap.size,1,none⟩=some (.string g.ty):=(ak I).cell rfl;have U:W.cell? ⟨w.heap.size+1,0,none⟩=some (.string t.sub):=(ak J).cell rfl
  go_quiet (fail)
  go_wp2;go_ret;exact ⟨rfl,cN (ak B0) _⟩
 ·have e1:g.ty=t.sub:=(bn _ _).1 h1;rw [h1,fE] at O;rw [e1] at I J B0 ⊢;clear h1
  cases h2:(g.reach==n)
  ·rw [h2,dR] at O;subst O;have aj:((g.reach:Int)==(n:Int))=false:=by rw [bG] at h2 ⊢;omega
   clear h2;go_enter func104,ntmps104;go_wp2_with fail;generalize ((w.alloc (g9 g.tp t.sub g.reach g.rp g.rel)).alloc (b8 t.sub t.who t.of))=W at*;have R:W.cell? ⟨w.heap.size,1,none⟩=some (.string t.sub):=(ak I).cell rfl;have Y:W.cell? ⟨w.heap.size,2,none⟩=some (.int .i64 g.reach):=(ak I).cell rfl;have Z:W.cell? ⟨w.heap.size,4,none⟩=some (.string g.rel):=(ak I).cell rfl;have U:W.cell? ⟨w.heap.size+1,0,none⟩=some (.string t.sub):=(ak J).cell rfl;have ab:W.cell? ⟨w.heap.size+1,1,none⟩=some (.string t.who):=(ak J).cell rfl;have ac:W.cell? ⟨w.heap.size+1,2,none⟩=some (.string t.of):=(ak J).cell rfl;have V:=ai (C.u W.drew);clear C I J e1;refine wp_region_held_drew (S:=fun w'=>w'.cell? ⟨w.heap.size,1,none⟩=some (.string t.sub)/\w'.cell? ⟨w.heap.size,2,none⟩=some (.int .i64 g.reach)/\w'.cell? ⟨w.heap.size,4,none⟩=some (.string g.rel)/\w'.cell? ⟨w.heap.size+1,0,none⟩=some (.string t.sub)/\w'.cell? ⟨w.heap.size+1,1,none⟩=some (.string t.who)/\w'.cell? ⟨w.heap.size+1,2,none⟩=some (.string t.of)) au (by go_keep) (fun al=> ?_);refine bS (i:=0) (v:= ?v0) rfl au au au (fun _ _ _ h=>h) (Or.inl ⟨aS,?hy0⟩) fX ?_
   case hy0=>(intro w' D;(try dsimp only at D);go_simp)<;>with_reducible rfl
   refine dT ?_;refine bS (i:=1) (v:= ?v1) rfl au au au (fun _ _ _ h=>h) (Or.inl ⟨aS,?hy1⟩) fX ?_
   case hy1=>(intro w' D;(try dsimp only at D);go_simp)<;>with_reducible rfl
   refine dT ?_;refine bS (i:=2) (v:= ?v2) rfl au au au (fun _ _ _ h=>h) (Or.inl ⟨aS,?hy2⟩) fX ?_
   case hy2=>(intro w' D;(try dsimp only at D);go_simp)<;>with_reducible rfl
   refine dT ?_;refine bS (i:=3) (v:= ?v3) rfl au au au (fun _ _ _ h=>h) (Or.inl ⟨aS,?hy3⟩) fX ?_
   case hy3=>(intro w' D;(try dsimp only at D);go_simp)<;>with_reducible rfl
   refine dT ?_;refine bS (i:=4) (v:= ?v4) rfl au au au (fun _ _ _ h=>h) (Or.inl ⟨aS,?hy4⟩) fX ?_
   case hy4=>(intro w' D;(try dsimp only at D);go_simp)<;>with_reducible rfl
   refine dT ?_;refine bS (i:=5) (v:= ?v5) rfl au au au (fun _ _ _ h=>h) (Or.inl ⟨aS,?hy5⟩) fX ?_
   case hy5=>(intro w' D;(try dsimp only at D);go_simp)<;>with_reducible rfl
   refine dT ?_;refine bS (i:=6) (v:= ?v6) rfl au au au (fun _ _ _ h=>h) (Or.inl ⟨aS,?hy6⟩) fX ?_
   case hy6=>(intro w' D;(try dsimp only at D);go_simp)<;>with_reducible rfl
   refine dT ?_;refine bS (i:=7) (v:= ?v7) rfl au au au (fun _ _ _ h=>h) (Or.inl ⟨aS,?hy7⟩) fX ?_
   case hy7=>(intro w' D;(try dsimp only at D);go_simp)<;>with_reducible rfl
   refine dT ?_;refine bS (i:=8) (v:= ?v8) rfl au au au (fun _ _ _ h=>h) (Or.inl ⟨aS,?hy8⟩) fX ?_
   case hy8=>(intro w' D;(try dsimp only at D);go_simp)<;>with_reducible rfl
   refine dT ?_;refine bS (i:=9) (v:= ?v9) rfl au au au (fun _ _ _ h=>h) (Or.inl ⟨aS,?hy9⟩) fX ?_
   case hy9=>(intro w' D;(try dsimp only at D);go_simp)<;>with_reducible rfl
   refine dT ?_;refine bS (i:=10) (v:= ?v10) rfl au au au (fun _ _ _ h=>h) (Or.inl ⟨aS,?hy10⟩) fX ?_
   case hy10=>(intro w' D;(try dsimp only at D);go_simp)<;>with_reducible rfl
   refine dT ?_;refine mL (rs:=[11]) au an ?_;refine lF rfl (fun K ae=> ?_) mM
   go_simp
   refine V.u.mono ?_;rintro e w1 ⟨rfl,Q⟩;have BB:=ai (show Below W.heap.size W w1 from (aw _ W).drew.trans Q);have d1:=am R BB.u;have d2:=am Y BB.u;have d4:=am Z BB.u;have af:=am U BB.u;have ag:=am ab BB.u;have ah:=am ac BB.u;clear Q;refine ae.out _ _ ⟨d1,d2,d4,af,ag,ah⟩ (fun ap=> ?_);clear ae K al
   try simp only [Act.put,fL,List.set_cons_zero,List.set_cons_succ,List.getElem_toArray,List.getElem_cons_zero,List.getElem_cons_succ]
   refine bS (i:=12) (v:= ?v12) rfl au au au (fun _ _ _ h=>h) (Or.inl ⟨aS,?hy12⟩) fX ?_
   case hy12=>(intro w' D;(try dsimp only at D);go_simp)<;>with_reducible rfl
   refine dT ?_;refine bS (i:=13) (v:= ?v13) rfl au au au (fun _ _ _ h=>h) (Or.inl ⟨aS,?hy13⟩) fX ?_
   case hy13=>(intro w' D;(try dsimp only at D);go_simp)<;>with_reducible rfl
   refine dT ?_;refine bS (i:=14) (v:= ?v14) rfl au au au (fun _ _ _ h=>h) (Or.inl ⟨aS,?hy14⟩) fX ?_
   case hy14=>(intro w' D;(try dsimp only at D);go_simp)<;>with_reducible rfl
   refine dT ?_;refine bS (i:=15) (v:=undef) rfl au au au (fun _ _ _ h=>h) (Or.inr ⟨aS,rfl⟩) fX ?_;refine dT ?_;refine bS (i:=16) (v:=undef) rfl au au au (fun _ _ _ h=>h) (Or.inr ⟨aS,rfl⟩) fX ?_;refine dT ?_;refine bS (i:=17) (v:=undef) rfl au au au (fun _ _ _ h=>h) (Or.inr ⟨aS,rfl⟩) fX ?_;refine dT ?_;refine bS (i:=18) (v:=undef) rfl au au au (fun _ _ _ h=>h) (Or.inr ⟨aS,rfl⟩) fX ?_;refine dT ?_;refine bS (i:=19) (v:=undef) rfl au au au (fun _ _ _ h=>h) (Or.inr ⟨aS,rfl⟩) fX ?_;refine dT ?_;refine bS (i:=20) (v:=undef) rfl au au au (fun _ _ _ h=>h) (Or.inr ⟨aS,rfl⟩) fX ?_;refine dT ?_;refine bS (i:=21) (v:= ?v21) rfl au au au (fun _ _ _ h=>h) (Or.inl ⟨aS,?hy21⟩) fX ?_
   case hy21=>(intro w' D;(try dsimp only at D);go_simp)<;>with_reducible rfl
   refine dT ?_;refine bS (i:=22) (v:= ?v22) rfl au au au (fun _ _ _ h=>h) (Or.inl ⟨aS,?hy22⟩) fX ?_
   case hy22=>(intro w' D;(try dsimp only at D);go_simp)<;>with_reducible rfl
   refine dT ?_;refine wpAnyH_done au ?_ _;clear ap;exact Kq
  rw [h2,fE,aJ] at O;subst O;have aj:((g.reach:Int)==(n:Int))=true:=by rw [dL] at h2 ⊢;omega
  clear h2;go_enter func104,ntmps104;go_wp2_with fail;generalize ((w.alloc (g9 g.tp t.sub g.reach g.rp g.rel)).alloc (b8 t.sub t.who t.of))=W at*;have R:W.cell? ⟨w.heap.size,1,none⟩=some (.string t.sub):=(ak I).cell rfl;have Y:W.cell? ⟨w.heap.size,2,none⟩=some (.int .i64 g.reach):=(ak I).cell rfl;have Z:W.cell? ⟨w.heap.size,4,none⟩=some (.string g.rel):=(ak I).cell rfl;have U:W.cell? ⟨w.heap.size+1,0,none⟩=some (.string t.sub):=(ak J).cell rfl;have ab:W.cell? ⟨w.heap.size+1,1,none⟩=some (.string t.who):=(ak J).cell rfl;have ac:W.cell? ⟨w.heap.size+1,2,none⟩=some (.string t.of):=(ak J).cell rfl;have V:=ai (C.u W.drew);clear C I J e1
  go_region_held3 (fun w'=>w'.cell? ⟨w.heap.size,1,none⟩=some (.string t.sub)/\w'.cell? ⟨w.heap.size,2,none⟩=some (.int .i64 g.reach)/\w'.cell? ⟨w.heap.size,4,none⟩=some (.string g.rel)/\w'.cell? ⟨w.heap.size+1,0,none⟩=some (.string t.sub)/\w'.cell? ⟨w.heap.size+1,1,none⟩=some (.string t.who)/\w'.cell? ⟨w.heap.size+1,2,none⟩=some (.string t.of)) (go_keep)
   ((go_at_call 154;refine V.u.mono ?_;rintro e w1 ⟨rfl,Q⟩;have BB:=ai (show Below W.heap.size W w1 from (aw _ W).drew.trans Q);have d1:=am R BB.u;have d2:=am Y BB.u;have d4:=am Z BB.u;have af:=am U BB.u;have ag:=am ab BB.u;have ah:=am ac BB.u;clear Q))
  exact Kq
