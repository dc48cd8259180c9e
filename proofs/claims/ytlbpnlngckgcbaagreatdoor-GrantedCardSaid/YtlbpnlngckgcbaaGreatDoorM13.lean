import Derived.Test.YtlbpnlngckgcbaaGreatDoorM12
import Derived.Test.YtlbpnlngckgcbaaGreatDoorM08
import Derived.Lib.SliceRun
import Derived.Lib.IndexMore
import Derived.BigRegion
set_option linter.all false
set_option maxHeartbeats 4000000
set_option maxRecDepth 100000
namespace Go.Proofs.YtlbpnlngckgcbaaGreatDoor
open Go.RowKit Go.PlainAid
structure DM (w:World) (b:Nat) (kv rv pv:Value) (kl:List (aei×Nat)) (rl:List RV) (pl:List PV) (l:List PX):Prop where
 c5:w.cell? ⟨b,5,none⟩=some kv
 c6:w.cell? ⟨b,6,none⟩=some rv
 c7:w.cell? ⟨b,7,none⟩=some pv
 kt:w.ownsRow 0 170 2 kv kl.length (kl.flatMap kC)
 rt:w.ownsRow 0 172 4 rv rl.length (rl.flatMap rC)
 pt:PT 0 w pv pl l
 kn:kl.length≤5
 rn:rl.length≤500
 pn:pl.length≤500
theorem ay {w w':World} {base:Nat} {e:TypeId} {size:Nat} {v:Value} {n:Nat} {xs:List Value} (h:w.ownsRow base e size v n xs) (k:Below w.heap.size w w'):w'.ownsRow base e size v n xs:=ak h (fun g cs f _ hh=>k.block g (lt_of_some hh))
theorem ag {w w':World} {a:Addr} {v:Value} (h:w.cell? a=some v) (k:Below w.heap.size w w'):w'.cell? a=some v:=(World.cell?_of_block (k.block a.block (World.block_lt_of_cell? w a h))).trans h
theorem PT.below {base:Nat} {w w':World} {pv:Value} {pl:List PV} {l:List PX} (h:PT base w pv pl l) (k:Below w.heap.size w w'):PT base w' pv pl l:=
 ⟨h.fst,ay h.row k,fun x hx=>⟨ay (h.rep x hx).g k,ay (h.rep x hx).p k,ay (h.rep x hx).s k⟩⟩
section
variable {w w':World} {b:Nat} {kv rv pv:Value} {kl:List (aei×Nat)} {rl:List RV} {pl:List PV} {l:List PX}
theorem DM.below (h:DM w b kv rv pv kl rl pl l) (k:Below w.heap.size w w'):DM w' b kv rv pv kl rl pl l:=
 ⟨ag h.c5 k,ag h.c6 k,ag h.c7 k,ay h.kt k,ay h.rt k,h.pt.below k,h.kn,h.rn,h.pn⟩
theorem Fs {α:Type} (f:α→List Value) (k:Nat) (hf:∀a,(f a).length=k) (a:α) (j:Nat) (hj:j<k):∀(l:List α) (i:Nat),l[i]? =some a→(l.flatMap f)[i*k+j]? =(f a)[j]?
 | [],i,h=>by simp at h
 |x::l,0,h=>by
  simp only [List.getElem?_cons_zero,Option.some.injEq] at h;subst h;rw [List.flatMap_cons,Nat.zero_mul,Nat.zero_add,List.getElem?_append_left (by rw [hf];exact hj)]
 |x::l,i+1,h=>by
  rw [List.getElem?_cons_succ] at h;rw [List.flatMap_cons,List.getElem?_append_right (by rw [hf,Nat.add_mul];omega),hf,show (i+1)*k+j-k=i*k+j by rw [Nat.add_mul];omega];exact Fs f k hf a j hj l i h
theorem bP {T:TypeId} {α:Type} (f:α→List Value) (k:Nat) (hf:∀a,(f a).length=k) {v:Value} {l:List α} {base:Nat} (h:w.ownsRow base T k v l.length (l.flatMap f)) (i:Nat) (a:α) (hi:l[i]? =some a):
  ∃g c,v=.slice (some ⟨g,0,none⟩) l.length c∧∀j u,j<k→(f a)[j]? =some u→w.cell? ⟨g,i*k+j,none⟩=some u:=by
 obtain ⟨g,c,e,_⟩:=h.form (n:=l.length) (by have:=(List.getElem?_eq_some_iff.1 hi).1;omega);refine ⟨g,c,e,fun j u hj hu=> ?_⟩;obtain ⟨g',c',e',hc⟩:=aK h (i*k+j) u (by rw [Fs f k hf a j hj l i hi];exact hu);rw [e] at e';simp only [Value.slice.injEq,Option.some.injEq,Addr.mk.injEq] at e';rw [e'.1.1];exact hc
theorem DM.kat (h:DM w b kv rv pv kl rl pl l) (i:Nat) (x:aei×Nat) (hi:kl[i]? =some x):∃g c,kv=.slice (some ⟨g,0,none⟩) kl.length c∧w.cell? ⟨g,i*2,none⟩=some (.string x.1)∧w.cell? ⟨g,i*2+1,none⟩=some (.int .i64 x.2):=by
 obtain ⟨g,c,e,hc⟩:=bP kC 2 (fun _=>rfl) h.kt i x hi;exact ⟨g,c,e,hc 0 _ (by omega) rfl,hc 1 _ (by omega) rfl⟩
theorem DM.rat (h:DM w b kv rv pv kl rl pl l) (i:Nat) (x:RV) (hi:rl[i]? =some x):∃g c,rv=.slice (some ⟨g,0,none⟩) rl.length c∧w.cell? ⟨g,i*4,none⟩=some (.string x.kd)∧w.cell? ⟨g,i*4+1,none⟩=some (.string x.nm)∧w.cell? ⟨g,i*4+2,none⟩=some (.int .i64 x.pl)∧w.cell? ⟨g,i*4+3,none⟩=some (.int .i64 x.ex):=by
 obtain ⟨g,c,e,hc⟩:=bP rC 4 (fun _=>rfl) h.rt i x hi;exact ⟨g,c,e,hc 0 _ (by omega) rfl,hc 1 _ (by omega) rfl,hc 2 _ (by omega) rfl,hc 3 _ (by omega) rfl⟩
end
theorem aV (a c:aei):eqs a c=(a.toList==c.toList):=by unfold eqs;rw [aF,aF]
theorem Fu (b:Nat) (kv rv pv:Value) (kl:List (aei×Nat)) (rl:List RV) (pl:List PV) (l:List PX) (x:aei) (w:World) (h:DM w b kv rv pv kl rl pl l):
  Calls Tryz.prog 137 #[.pointer (some ⟨b,5,none⟩),.string x] w fun e w'=>e=.returned (.bool (kl.any fun k=>eqs k.1 x))∧Below w.heap.size w w':=by
 obtain ⟨ka,kc,rfl⟩:=au h.kt;have H:=af h;have hkn:=h.kn;generalize hR:(kl.any fun k=>eqs k.1 x)=R;have HR:=af (show ((kl.drop 0).any fun k=>eqs k.1 x)=R from hR);clear h hR;go_enter Tryz.func137,Tryz.ntmps137;go_wp2_with fail
 go_loopw [5] (fun u wr=>∃k:Nat,k≤kl.length∧u=.int .i64 k∧Below w.heap.size w wr∧Hid (((kl.drop k).any fun q=>eqs q.1 x)=R)) (fun u _=>kl.length-(intOf u).toNat)
 case atStart=>exact ⟨0,by omega,rfl,Below.refl _ _,HR⟩
 case round=>
  obtain ⟨k,hk,rfl,hb,HQ⟩:=hrel;have c5:=((ae H).below hb).c5;have HB:=af hb
  by_cases hlt:k<kl.length
  ·obtain ⟨g,c,e1,k0,k1⟩:=((ae H).below hb).kat k kl[k] (aeh hlt);simp only [Value.slice.injEq,true_and] at e1;obtain ⟨rfl,rfl⟩:=e1;have hR:=ae HQ;rw [List.drop_eq_getElem_cons hlt,List.any_cons] at hR;generalize kl[k]=q at*;have DI:(k:Int)<(kl.length:Int):=by omega
   cases he:eqs q.1 x
   ·rw [he,Bool.false_or] at hR;rw [aV] at he;have dS:=af hR;clear hb HQ hR;go_wp2;go_roundw
    case rel=>exact ⟨k+1,by omega,by go_num,ae HB,dS⟩
    case measure=>simp [intOf];omega
   ·rw [he,Bool.true_or] at hR;rw [aV] at he;have og:=af hR;clear hb HQ hR;go_wp2;go_ret;exact ⟨by rw [←ae og];rfl,ae HB⟩
  ·have DI:¬((k:Int)<(kl.length:Int)):=by omega
   have hR:=ae HQ;rw [List.drop_of_length_le (by omega),List.any_nil] at hR;have og:=af hR;clear hb HQ hR;go_wp2;go_ret;exact ⟨by rw [←ae og];rfl,ae HB⟩
def aQ (k n:aei):List RV→Nat→Int
 | [],_=> -1
 |x::xs,i=>if eqs x.kd k&&eqs x.nm n then i else aQ k n xs (i+1)
theorem gT (b:Nat) (kv rv pv:Value) (kl:List (aei×Nat)) (rl:List RV) (pl:List PV) (l:List PX) (x y:aei) (w:World) (h:DM w b kv rv pv kl rl pl l):
  Calls Tryz.prog 132 #[.pointer (some ⟨b,5,none⟩),.string x,.string y] w fun e w'=>e=.returned (.int .i64 (aQ x y rl 0))∧Below w.heap.size w w':=by
 obtain ⟨ra,rc,rfl⟩:=au h.rt;have H:=af h;have IM:=h.rn;generalize hR:aQ x y rl 0=R;have HR:=af (show aQ x y (rl.drop 0) 0=R from hR);clear h hR;go_enter Tryz.func132,Tryz.ntmps132;go_wp2_with fail
 go_loopw [7] (fun u wr=>∃k:Nat,k≤rl.length∧u=.int .i64 k∧Below w.heap.size w wr∧Hid (aQ x y (rl.drop k) k=R)) (fun u _=>rl.length-(intOf u).toNat)
 case atStart=>exact ⟨0,by omega,rfl,Below.refl _ _,HR⟩
 case round=>
  obtain ⟨k,hk,rfl,hb,HQ⟩:=hrel;have c6:=((ae H).below hb).c6;have HB:=af hb
  by_cases hlt:k<rl.length
  ·obtain ⟨g,c,e1,k0,k1,k2,k3⟩:=((ae H).below hb).rat k rl[k] (aeh hlt);simp only [Value.slice.injEq,true_and] at e1;obtain ⟨rfl,rfl⟩:=e1;have hR:=ae HQ;rw [List.drop_eq_getElem_cons hlt,aQ] at hR;generalize rl[k]=q at*;have DI:(k:Int)<(rl.length:Int):=by omega
   cases he:eqs q.kd x
   ·rw [he,Bool.false_and] at hR;simp only [Bool.false_eq_true,if_false] at hR;rw [aV] at he;have dS:=af hR;clear hb HQ hR;go_wp2;go_roundw
    case rel=>exact ⟨k+1,by omega,by go_num,ae HB,dS⟩
    case measure=>simp [intOf];omega
   ·rw [he,Bool.true_and] at hR;rw [aV] at he
    cases sV:eqs q.nm y
    ·rw [sV] at hR;simp only [Bool.false_eq_true,if_false] at hR;rw [aV] at sV;have dS:=af hR;clear hb HQ hR;go_wp2;go_roundw
     case rel=>exact ⟨k+1,by omega,by go_num,ae HB,dS⟩
     case measure=>simp [intOf];omega
    ·rw [sV] at hR;simp only [if_true] at hR;rw [aV] at sV;have og:=af hR;clear hb HQ hR;go_wp2;go_ret;exact ⟨by rw [←ae og];rfl,ae HB⟩
  ·have DI:¬((k:Int)<(rl.length:Int)):=by omega
   have hR:=ae HQ;rw [List.drop_of_length_le (by omega),aQ] at hR;have og:=af hR;clear hb HQ hR;go_wp2;go_ret;exact ⟨by rw [←ae og];rfl,ae HB⟩
def tF (t:Tu):List Value:=[.string t.kind,.string t.id,.string t.rel,.string t.sub,.string t.who,.string t.of]
def tH (a c:Tu):Bool:=eqs a.kind c.kind&&(eqs a.id c.id&&(eqs a.rel c.rel&&(eqs a.sub c.sub&&(eqs a.who c.who&&eqs a.of c.of))))
theorem Qf (a c:Tu):tH a c=true↔a=c:=by
 unfold tH;simp only [Bool.and_eq_true,bq]
 cases a
 cases c
 simp
theorem Us (a c:Tu) (w:World):(Op.equalIn 10000 123 (.agg #[.string a.kind,.string a.id,.string a.rel,.string a.sub,.string a.who,.string a.of]) (.agg #[.string c.kind,.string c.id,.string c.rel,.string c.sub,.string c.who,.string c.of])).run Tryz.prog w=.ok (tH a c) w:=by
 have u9:=Tryz.underlying9;have u1:=Tryz.underlying98;have u2:=Tryz.underlying102;rw [show (10000:Nat)=9999+1 from rfl,run_equalIn_agg w 9999 123 _ _ (by kernel_rfl) (by kernel_rfl)];simp only [Program.fieldsOf,Tryz.underlying123]
 go_simp
 have e:∀p q:aei,eqs p q=decide (p.toList=q.toList):=fun p q=>by
  unfold eqs;rw [aF,aF,Bool.beq_eq_decide_eq]
 simp only [tH,e]
 (repeat' split)<;>simp_all
theorem Ut (x y:Operand) (xs ys:Array Value) (w:World):(eqGuard .eql 123 x y (.agg xs) (.agg ys)).run Tryz.prog w=.ok () w:=run_eqGuard_agg w .eql 123 x y xs ys (by kernel_rfl)
def nE (l:List Tu) (x:Tu):Int:=match l.findIdx? (tH x) with
 |some i=>(i:Int)
 |none=> -1
theorem Uu {l:List Tu} {x:Tu} {k:Nat} (hk:k<l.length) (hn:∀j,(h:j<l.length)→j<k→tH x l[j]=false) (he:tH x l[k]=true):nE l x=k:=by
 unfold nE;have:l.findIdx? (tH x)=some k:=by
  rw [List.findIdx?_eq_some_iff_getElem];exact ⟨hk,he,fun j hj=>by rw [hn j (by omega) hj];simp⟩
 rw [this]
theorem MR {l:List Tu} {x:Tu} (hn:∀j,(h:j<l.length)→tH x l[j]=false):nE l x= -1:=by
 unfold nE;have:l.findIdx? (tH x)=none:=by
  rw [List.findIdx?_eq_none_iff];intro y hy;obtain ⟨j,hj,rfl⟩:=List.getElem_of_mem hy;exact hn j hj
 rw [this]
theorem ai.six {w:World} {g:Nat} {a b c d e f:Value} {T:TypeId} (h:ai w g #[a,b,c,d,e,f] T):w.cell? ⟨g,0,none⟩=some a∧w.cell? ⟨g,1,none⟩=some b∧w.cell? ⟨g,2,none⟩=some c∧w.cell? ⟨g,3,none⟩=some d∧w.cell? ⟨g,4,none⟩=some e∧w.cell? ⟨g,5,none⟩=some f:=
 ⟨h.cell rfl,h.cell rfl,h.cell rfl,h.cell rfl,h.cell rfl,h.cell rfl⟩
theorem Li (base:Nat) (v:Value) (l:List Tu) (x:Tu) (w:World) (hl:l.length≤10000000000000) (h:w.ownsRow base 123 6 v l.length (l.flatMap tF)):
  Calls Tryz.prog 68 #[v,.agg #[.string x.kind,.string x.id,.string x.rel,.string x.sub,.string x.who,.string x.of]] w fun e w'=>e=.returned (.int .i64 (nE l x))∧Below w.heap.size w w':=by
 obtain ⟨sa,sc,rfl⟩:=au h;have H:=af h;have eqs0:=Us;have gds0:=Ut;obtain ⟨R,hR⟩:∃R,R=nE l x:=⟨_,rfl⟩;rw [←hR];have HR:=af hR;clear h hR;go_enter Tryz.func68,Tryz.ntmps68;go_wp2
 go_loopw [5,8] (fun u i wr=>∃k:Nat,k≤l.length∧i=.int .i64 k∧Below w.heap.size w wr∧ai wr w.heap.size #[.string x.kind,.string x.id,.string x.rel,.string x.sub,.string x.who,.string x.of] 123∧Hid (∀j,(h:j<l.length)→j<k→tH x l[j]=false)) (fun _ i _=>l.length-(intOf i).toNat)
 case atStart=>exact ⟨0,by omega,rfl,(Below.refl _ _).alloc aeg _,ai.new _ _ _,af (fun j e h=>by omega)⟩
 case round=>
  obtain ⟨k,hk,rfl,hb,EC,jX⟩:=hrel;have HB:=af hb;have ny:=af EC
  by_cases hlt:k<l.length
  ·obtain ⟨g,c,e1,hc⟩:=bP tF 6 (fun _=>rfl) (ak (w':=wr) (ae H) (fun g cs f _ hh=>hb.block g (lt_of_some hh))) k l[k] (aeh hlt);simp only [Value.slice.injEq] at e1;obtain ⟨rfl,_,rfl⟩:=e1;have k0:wr.cell? ⟨g,k*6,none⟩=some (.string l[k].kind):=hc 0 _ (by omega) rfl;have k1:=hc 1 _ (by omega) rfl;have k2:=hc 2 _ (by omega) rfl;have k3:=hc 3 _ (by omega) rfl;have k4:=hc 4 _ (by omega) rfl;have k5:=hc 5 _ (by omega) rfl;obtain ⟨b0,b1,b2,b3,b4,b5⟩:=EC.six;have hkn:(k:Int)<(l.length:Int):=by omega
   have WY:(0:Int)≤(k:Int):=by omega
   clear hb EC hc
   cases he:tH x l[k]
   ·have Hn:=af (show ∀j,(h:j<l.length)→j<k+1→tH x l[j]=false from fun j h h'=>by
     by_cases e:j=k
     ·subst e;exact he
     ·exact ae jX j h (by omega))
    go_wp2
    go_quiet (fail)
    go_wp2;go_roundw
    case rel=>exact ⟨k+1,by omega,by go_num,below_drewN (ae HB) _,(ae ny).drewN _,Hn⟩
    case measure=>simp [intOf];omega
   ·have hF:=Uu hlt (ae jX) he;rw [←ae HR] at hF;subst hF;go_wp2
    go_quiet (fail)
    go_wp2;go_ret;exact ⟨rfl,below_drewN (ae HB) _⟩
  ·have hF:=MR (fun j hj=>ae jX j hj (by omega));rw [←ae HR] at hF;subst hF;have hkn:¬((k:Int)<(l.length:Int)):=by omega
   clear hb EC;go_wp2;go_ret;exact ⟨rfl,ae HB⟩
theorem Jt (base:Nat) (v:Value) (l:List Tu) (x:Tu) (w:World) (hl:l.length≤10000000000000) (h:w.ownsRow base 123 6 v l.length (l.flatMap tF)):
  Calls Tryz.prog 62 #[v,.agg #[.string x.kind,.string x.id,.string x.rel,.string x.sub,.string x.who,.string x.of]] w fun e w'=>e=.returned (.bool (decide (0≤nE l x)))∧Below w.heap.size w w':=by
 have C:=af (fun w' (hb:Below w.heap.size w w')=>Li base v l x w' hl (ak h (fun g cs f _ hh=>hb.block g (lt_of_some hh))));obtain ⟨sa,sc,rfl⟩:=au h;generalize nE l x=n at*;clear h;go_enter Tryz.func62,Tryz.ntmps62;go_wp2_with fail;refine (ae C _ ((Below.refl _ _).alloc aeg _)).mono ?_;rintro e w1 ⟨rfl,hb1⟩;have B1:=af (((Below.refl _ w).alloc aeg (.cells #[.string x.kind,.string x.id,.string x.rel,.string x.sub,.string x.who,.string x.of] 123)).trans (hb1.mono (by simp)));clear hb1;go_wp2;go_ret;exact ⟨rfl,ae B1⟩
theorem oK {g:Nat} {T:TypeId}:∀(vs:List Value) (o:Nat) (w:World) (cur:Array Value),ai w g cur T→o+vs.length≤cur.size→∃cur',ai (w.setCells g o vs) g cur' T∧cur'.size=cur.size∧cur'.toList=cur.toList.take o++vs++cur.toList.drop (o+vs.length)
 | [],o,w,cur,h,_=>⟨cur,h,rfl,by simp⟩
 |v::vs,o,w,cur,h,hz=>by
  rw [List.length_cons] at hz;obtain ⟨cur',h1,h2,h3⟩:=oK vs (o+1) _ _ (h.set o v) (by rw [Array.size_setIfInBounds];omega);refine ⟨cur',h1,by rw [h2,Array.size_setIfInBounds],?_⟩;rw [h3,Array.toList_setIfInBounds];have hl:o<cur.toList.length:=by rw [Array.length_toList];omega
  rw [List.take_succ_eq_append_getElem (by rw [List.length_set];exact hl),List.take_set_of_le (Nat.le_refl o),List.getElem_set_self,List.drop_set_of_lt (by omega),List.length_cons];simp [Nat.add_assoc,Nat.add_comm 1]
theorem But.setCells {b:Nat} {x:World}:∀(vs:List Value) (o:Nat) (y:World),But b x y→But b x (y.setCells b o vs)
 | [],_,_,h=>h
 |v::vs,o,y,h=>But.setCells vs (o+1) _ (h.setCell o v)
theorem AO {P:Program} (w:World) (t e ty:TypeId) (z:Value) (ht:P.underlying t=some (.slice e)) (hv:∀w,(zeroValue e).run P w=.ok z w) (zs:List Value) (hz:(Builtin.zeroCells z.cells 1).toList=zs) (h1:∀u∈zs,u.oneCell'=true) (b o c:Nat)
  (hc:∀j,j<zs.length→(w.cell? ⟨b,o+j,none⟩).isSome=true) (hf:∀j,j<zs.length→w.frozen? ⟨b,o+j,none⟩=false):
  (Builtin.clear_ #[t] ty #[.slice (some ⟨b,o,none⟩) 1 c]).run P w=.ok (.tuple #[]) (w.setCells b o zs):=by
 have hst:=run_storeCells_cells (P:=P) b o zs 0 w (by simpa using hc) (by simpa using hf) h1;simp only [Nat.add_zero] at hst;simp [Builtin.clear_,run_underlying ht,hv,hz,hst]
theorem xR (l:List Tu):(l.flatMap tF).length=l.length*6:=by
 induction l with
 |nil=>rfl
 |cons x l ih=>rw [List.flatMap_cons,List.length_append,ih,List.length_cons,show (tF x).length=6 from rfl];omega
theorem Uv (l:List Tu):∀u∈l.flatMap tF,u.oneCell'=true:=by
 intro u hu;obtain ⟨x,_,hx⟩:=List.mem_flatMap.1 hu;simp only [tF,List.mem_cons,List.not_mem_nil,or_false] at hx
 rcases hx with rfl|rfl|rfl|rfl|rfl|rfl<;>rfl
theorem Qg (base g c:Nat) (l:List Tu) (i:Nat) (w:World) (hi:i<l.length) (hl:l.length≤100000) (h:w.ownsRow base 123 6 (.slice (some ⟨g,0,none⟩) l.length c) l.length (l.flatMap tF)):
  Calls Tryz.prog 69 #[.slice (some ⟨g,0,none⟩) l.length c,.int .i64 i,.int .i64 (i+1:Nat)] w fun e w'=>e=.returned (.slice (some ⟨g,0,none⟩) (l.length-1) c)∧w'.ownsRow base 123 6 (.slice (some ⟨g,0,none⟩) (l.length-1) c) (l.length-1) ((l.eraseIdx i).flatMap tF)∧But g w w':=by
 obtain ⟨cur,hbk,hbase,hnc,hcm,hcs,htk⟩:∃cur,ai w g cur 123∧base≤g∧l.length≤c∧c≤maxLen∧cur.size=c*6∧cur.toList.take (l.length*6)=l.flatMap tF:=by
  rcases h.2 with ⟨h,_⟩|⟨g',cap',cur,e1,hb,hh,h1,h2,h3,h4⟩
  ·cases h
  ·simp only [Value.slice.injEq,Option.some.injEq,Addr.mk.injEq] at e1;obtain ⟨⟨rfl,_,_⟩,_,rfl⟩:=e1;exact ⟨cur,hh,hb,h1,h2,h3,h4⟩
 unfold maxLen at hcm;obtain ⟨news,hnews⟩:∃news,news=(l.drop (i+1)).flatMap tF:=⟨_,rfl⟩;have hlen:news.length=(l.length-(i+1))*6:=by rw [hnews,xR,List.length_drop]
 have hcell:∀k u,(l.flatMap tF)[k]? =some u→w.cell? ⟨g,k,none⟩=some u:=fun k u hu=>by
  rw [←htk] at hu;refine hbk.cell ?_;rw [List.getElem?_take] at hu
  split at hu
  ·simpa using hu
  ·cases hu
 have hsome:∀k,k<c*6→(w.cell? ⟨g,k,none⟩).isSome=true∧w.frozen? ⟨g,k,none⟩=false:=fun k hk=>⟨by rw [hbk.cell (o:=k) (Array.getElem?_eq_getElem (by omega))];rfl,hbk.fz k⟩
 have Qh:(l.flatMap tF).drop ((i+1)*6)=news:=by
  have e:l.flatMap tF=(l.take (i+1)).flatMap tF++(l.drop (i+1)).flatMap tF:=by rw [←List.flatMap_append,List.take_append_drop]
  rw [e,List.drop_left' (by rw [xR,List.length_take];omega),hnews]
 obtain ⟨A,hA,hsrc⟩:∃A:Addr,(if c=i+1 then some (⟨g,0,none⟩:Addr) else some ⟨g,(i+1)*6,none⟩)=some A∧Hid (∀t u,news[t]? =some u→w.drew.cell? (A.add t)=some u):=by
  by_cases hh:c=i+1
  ·refine ⟨⟨g,0,none⟩,by simp [hh],fun t u hu=> ?_⟩;have h0:news.length=0:=by rw [hlen];omega
   rw [List.length_eq_zero_iff.1 h0] at hu;simp at hu
  ·refine ⟨⟨g,(i+1)*6,none⟩,by simp [hh],fun t u hu=> ?_⟩;rw [Addr.add_lit];refine hcell _ _ ?_;rw [←Qh,List.getElem?_drop] at hu;exact hu
 have s2:Hid (∀u∈news,u.oneCell'=true):=by rw [hnews];exact Uv _
 have s3:Hid (∀t,t<news.length→(w.drew.cell? ⟨g,0+i*6+t,none⟩).isSome=true∧w.drew.frozen? ⟨g,0+i*6+t,none⟩=false):=by
  intro t ht;rw [hlen] at ht;exact hsome _ (by omega)
 obtain ⟨i0,hi0,hz0,hz1,hz2⟩:=info_parts (show (Tryz.prog.info? 123).map (fun i=>(i.zero,i.size,i.bytes))=some (some (.agg #[.string ⟨#[]⟩,.string ⟨#[]⟩,.string ⟨#[]⟩,.string ⟨#[]⟩,.string ⟨#[]⟩,.string ⟨#[]⟩]),6,96) by kernel_rfl);have s1:Hid (news.length=(l.length-(i+1))*6):=hlen;obtain ⟨W1,hW1⟩:∃W1,W1=w.drew.setCells g (0+i*6) news:=⟨_,rfl⟩;have hW:Hid (W1=w.drew.setCells g (0+i*6) news):=hW1;have j1:i+1≤l.length:=hi;have j2:i+1≤c:=by omega
 have j3:i≤c:=by omega
 have j4:¬((i:Int)=((i+1:Nat):Int)):=by omega
 have j5:((i:Int)==((i+1:Nat):Int))=false:=by rw [beq_eq_false_iff_ne];exact j4
 generalize hn:l.length=n at*;have j6:(0:Int)≤(i:Int)+1:=by omega
 have j7:(i:Int)+1≤(n:Int):=by omega
 have j8:(0:Int)≤(i:Int)+1∧(i:Int)+1≤(n:Int):=⟨j6,j7⟩;have HN:=af hn;have hzv:∀w,(zeroValue 123).run Tryz.prog w=.ok (.agg #[.string ⟨#[]⟩,.string ⟨#[]⟩,.string ⟨#[]⟩,.string ⟨#[]⟩,.string ⟨#[]⟩,.string ⟨#[]⟩]) w:=fun w=>by first|rfl|kernel_rfl|simp [zeroValue,hi0,hz0]
 obtain ⟨cur1,b1,z1,e1⟩:=oK news (0+i*6) w.drew cur hbk (by rw [s1,hcs];omega);rw [←hW1] at b1;have RZ:n-(i+(n-(i+1)))=1:=by omega
 have hcl:∀ty,(Builtin.clear_ #[115] ty #[.slice (some ⟨g,(i+(n-(i+1)))*6,none⟩) (n-(i+(n-(i+1)))) (c-(i+(n-(i+1))))]).run Tryz.prog W1=.ok (.tuple #[]) (W1.setCells g ((i+(n-(i+1)))*6) (List.replicate 6 (.string ⟨#[]⟩))):=fun ty=>by
  rw [RZ];exact AO W1 _ _ ty _ Tryz.underlying115 hzv _ (by kernel_rfl) (fun u hu=>by rw [List.eq_of_mem_replicate hu];rfl) g _ _ (fun j hj=>by rw [List.length_replicate] at hj;rw [b1.cell (o:=(i+(n-(i+1)))*6+j) (Array.getElem?_eq_getElem (by rw [z1,hcs];omega))];rfl) (fun j _=>b1.fz _)
 obtain ⟨cur2,b2,z2,e2⟩:=oK (List.replicate 6 (.string ⟨#[]⟩)) ((i+(n-(i+1)))*6) W1 cur1 b1 (by rw [List.length_replicate,z1,hcs];omega);have bt:But g w (W1.setCells g ((i+(n-(i+1)))*6) (List.replicate 6 (.string ⟨#[]⟩))):=by
  refine But.setCells _ _ _ ?_;rw [hW1];exact But.setCells _ _ _ (But.refl g w).drew
 have he:i+(n-(i+1))=n-1:=by omega
 have hrow:(W1.setCells g ((i+(n-(i+1)))*6) (List.replicate 6 (.string ⟨#[]⟩))).ownsRow base 123 6 (.slice (some ⟨g,0,none⟩) (n-1) c) (n-1) ((l.eraseIdx i).flatMap tF):=by
  have el:(l.eraseIdx i).length=n-1:=by rw [List.length_eraseIdx_of_lt (by omega),hn]
  refine ⟨by rw [xR,el],.inr ⟨g,c,cur2,rfl,hbase,b2,by omega,by unfold maxLen;omega,by rw [z2,z1,hcs],?_⟩⟩;rw [e2,he,List.append_assoc,List.take_left' (by rw [List.length_take,Array.length_toList,z1,hcs];omega),e1];have k1:(List.take (0+i*6) cur.toList).length=i*6:=by rw [List.length_take,Array.length_toList,hcs];omega
  rw [List.take_left' (by rw [List.length_append,k1,s1];omega)];have k2:List.take (0+i*6) cur.toList=(l.take i).flatMap tF:=by
   have:List.take (0+i*6) cur.toList=List.take (i*6) (l.flatMap tF):=by rw [←htk,List.take_take,Nat.zero_add,Nat.min_eq_left (by omega)]
   rw [this];have e:l.flatMap tF=(l.take i).flatMap tF++(l.drop i).flatMap tF:=by rw [←List.flatMap_append,List.take_append_drop]
   rw [e,List.take_left' (by rw [xR,List.length_take];omega)]
  rw [k2,hnews,←List.flatMap_append,List.eraseIdx_eq_take_drop_succ]
 have Pk:=af hrow;have Uw:=af bt;have HE:=af he;clear hW1 hn hcell hsome Qh hlen htk h hi b1 z1 e1 b2 z2 e2 bt hrow he hzv RZ;go_enter Tryz.func69,Tryz.ntmps69;go_wp2_with fail
 go_region_law (refine step_append_room rfl (.tmp 22) (.tmp 25) 115 rfl 123 i0 6 Tryz.underlying115 hi0 hz1 g 0 i c (by simp [Act.eval,Act.put]) A (n-(i+1)) (c-(i+1)) news (by simp [Act.eval,Act.put]) s1 hsrc s2 (by omega) s3 ?_;rw [←hW])
 go_wp2;go_ret;exact ⟨by rw [←ae HE];rfl,ae Pk,ae Uw⟩
theorem index_one (c:UInt8):∀l:List UInt8,Lib.index l [c]=if l.contains c then ((l.takeWhile (· != c)).length:Int) else-1
 | []=>rfl
 |b::l=>by
  have ih:=index_one c l;rw [Lib.index]
  by_cases h:b=c
  ·subst h;simp
  ·have h1:(c==b)=false:=by rw [beq_eq_false_iff_ne];exact fun e=>h e.symm
   have h2:(b != c)=true:=by simpa using h
   have e:((b::l).contains c)=l.contains c:=by rw [List.contains_cons,h1,Bool.false_or]
   rw [e,List.takeWhile_cons,if_pos h2,List.length_cons,ih];have h3:([c].isPrefixOf (b::l))=false:=by rw [List.isPrefixOf,h1,Bool.false_and]
   rw [h3]
   cases l.contains c
   ·simp
   ·simp only [if_true,Bool.false_eq_true,if_false];rw [if_neg (by simp)];omega
theorem mi (c:UInt8):∀l:List UInt8,l.contains c=false→l.takeWhile (· != c)=l∧l.dropWhile (· != c)=[]
 | [],_=>⟨rfl,rfl⟩
 |b::l,h=>by
  rw [List.contains_cons,Bool.or_eq_false_iff] at h;have ih:=mi c l h.2;have h2:(b != c)=true:=by
   have:=h.1;rw [beq_eq_false_iff_ne] at this
   simpa using fun e=>this e.symm
  rw [List.takeWhile_cons,List.dropWhile_cons,if_pos h2,if_pos h2,ih.1];exact ⟨rfl,ih.2⟩
theorem Ux (l:List UInt8) (c:UInt8):Lib.cut l [c]=(l.takeWhile (· != c),(l.dropWhile (· != c)).drop 1,l.contains c):=by
 unfold Lib.cut;rw [index_one]
 cases h:l.contains c
 ·obtain ⟨h1,h2⟩:=mi c l h;simp [h1,h2]
 ·simp only [if_true];rw [if_pos (by omega),Int.toNat_natCast,←iD,dropWhile_drop,List.drop_drop]
  rfl
def uW (w:World):Prop:=∃m,w.cell? ⟨1,0,none⟩=some (.int .i64 m)
theorem uW.below {w w':World} {B:Nat} (h:uW w) (k:Below B w w') (hB:1<B):uW w':=by
 obtain ⟨m,hm⟩:=h;exact ⟨m,(World.cell?_of_block (w:=w) (k.block 1 hB)).trans hm⟩
def Ju:Prop:=∀(s:aei) (c:UInt8) (w:World),s.size≤1000→uW w→Calls Tryz.prog 92 #[.string s,.string (mk [c])] w fun e w'=>e=.returned (.tuple #[.string (aB s c).1,.string (aB s c).2.1,.bool (aB s c).2.2])∧Below w.heap.size w w'
def fK (s:aei):Bool:=bJ (aB s 58).1&&bJ (aB s 58).2.1
theorem rV (PC:Ju) (s:aei) (w:World) (hs:s.size≤1000) (hm:uW w) (hw:1<w.heap.size):
  Calls Tryz.prog 55 #[.string s] w fun e w'=>e=.returned (.tuple #[.agg #[.string (aB s 58).1,.string (aB s 58).2.1],.bool (fK s)])∧Below w.heap.size w w':=by
 unfold fK;have z:=kT s 58;have b0:Below w.heap.size w (w.alloc (.cells #[.string ⟨#[]⟩,.string ⟨#[]⟩] 98)):=(Below.refl _ w).alloc aeg _;have C1:=af (PC s 58 _ hs (hm.below b0 hw));have B0:=af b0;have R0:=af (ai.new w #[.string ⟨#[]⟩,.string ⟨#[]⟩] 98);generalize aB s 58=X at*;obtain ⟨a,b,ok⟩:=X;simp only at z C1 ⊢;have Cp:=af (fun w=>p8 a w (by unfold maxLen;omega));have Cq:=af (fun w=>p8 b w (by unfold maxLen;omega));generalize bJ a=p at*;generalize bJ b=q at*;clear z b0 hm hw hs;go_enter Tryz.func55,Tryz.ntmps55;go_wp2_with fail;refine (ae C1).mono ?_;rintro e w1 ⟨rfl,hb1⟩;have B1:=af ((ae B0).trans (hb1.mono (ae B0).size));have R1:=af ((ae R0).below hb1);clear hb1 C1 B0 R0;have rz:=(ae R1).fz;have r0:w1.cell? ⟨w.heap.size,0,none⟩=some (.string ⟨#[]⟩):=(ae R1).cell rfl;have r1:w1.cell? ⟨w.heap.size,1,none⟩=some (.string ⟨#[]⟩):=(ae R1).cell rfl;go_wp2_with fail;refine (ae Cp _).mono ?_;rintro e w2 ⟨rfl,rfl⟩
 cases p
 ·skip
  go_wp2;refine bodyPost_ret (v:=.tuple #[.agg #[.string a,.string b],.bool _]) (aS Tryz.results55 _ _ w.heap.size _ 98 _ _ rfl rfl ?oL Tryz.underlying98 rfl (by kernel_rfl)) rfl ?post1
  case oL=>exact ⟨_,(by with_reducible repeat (first|exact ae R1|apply ai.alloc|apply ai.drew|apply ai.set|(apply ai.other;case ha=>exact (by first|omega|(simp;omega)|simp)))),by rfl⟩
  case post1=>exact ⟨rfl,(by with_reducible repeat (first|exact ae B1|refine Below.drew ?_|(refine Below.setCell ?_ ?_ _;rotate_left;exact (by first|omega|(simp;omega)|simp))|(refine Below.alloc ?_ ?_ _;rotate_left;exact (by first|omega|(simp;omega)|simp))))⟩
 ·go_wp2_with fail;refine (ae Cq _).mono ?_;rintro e w3 ⟨rfl,rfl⟩;go_wp2;refine bodyPost_ret (v:=.tuple #[.agg #[.string a,.string b],.bool _]) (aS Tryz.results55 _ _ w.heap.size _ 98 _ _ rfl rfl ?Xf Tryz.underlying98 rfl (by kernel_rfl)) rfl ?post2
  case Xf=>exact ⟨_,(by with_reducible repeat (first|exact ae R1|apply ai.alloc|apply ai.drew|apply ai.set|(apply ai.other;case ha=>exact (by first|omega|(simp;omega)|simp)))),by rfl⟩
  case post2=>exact ⟨rfl,(by with_reducible repeat (first|exact ae B1|refine Below.drew ?_|(refine Below.setCell ?_ ?_ _;rotate_left;exact (by first|omega|(simp;omega)|simp))|(refine Below.alloc ?_ ?_ _;rotate_left;exact (by first|omega|(simp;omega)|simp))))⟩
def dN:aei:=⟨#[42]⟩
def mo (txt rel:aei) (xU:Bool):Bool:=if xU then fK txt&&bJ rel else fK txt||(eqs (aB txt 58).2.1 dN&&bJ (aB txt 58).1)
theorem xu (PC:Ju) (s:aei) (w:World) (hs:s.size≤1000) (hm:uW w) (hw:1<w.heap.size):
  Calls Tryz.prog 102 #[.string s] w fun e w'=>e=.returned (.tuple #[.agg #[.string (aB (aB s 35).1 58).1,.string (aB (aB s 35).1 58).2.1,.string (aB s 35).2.1],.bool (mo (aB s 35).1 (aB s 35).2.1 (aB s 35).2.2)])∧Below w.heap.size w w':=by
 have z:=kT s 35;have b0:Below w.heap.size w (w.alloc (.cells #[.string ⟨#[]⟩,.string ⟨#[]⟩,.string ⟨#[]⟩] 102)):=(Below.refl _ w).alloc aeg _;have C1:=af (PC s 35 _ hs (hm.below b0 hw));have B0:=af b0;have R0:=af (ai.new w #[.string ⟨#[]⟩,.string ⟨#[]⟩,.string ⟨#[]⟩] 102);have HM:=af hm;have Zi:=b0.size;generalize aB s 35=X at*;obtain ⟨txt,rel,xU⟩:=X;simp only at z C1 ⊢;have z2:=kT txt 58;have Cr:=af (fun w=>p8 rel w (by unfold maxLen;omega));have CT:=af (fun w hm hw=>rV PC txt w (by omega) hm hw);obtain ⟨R,hR⟩:∃R,R=mo txt rel xU:=⟨_,rfl⟩;rw [←hR];unfold mo at hR;generalize fK txt=ok at*;generalize aB txt 58=Y at*;obtain ⟨a,b,two⟩:=Y;simp only at z2 CT hR ⊢;have Ca:=af (fun w=>p8 a w (by unfold maxLen;omega));generalize bJ a=fa at*;generalize bJ rel=fr at*;have hbs:eqs b dN=(b.toList== [42]):=by unfold eqs dN;rw [aF];rfl
 rw [hbs] at hR;have HR:=af hR;clear z z2 b0 hm hs hbs hR PC;go_enter Tryz.func102,Tryz.ntmps102;go_wp2_with fail;refine (ae C1).mono ?_;rintro e w1 ⟨rfl,hb1⟩;have B1:=af ((ae B0).trans (hb1.mono (ae B0).size));have R1:=af ((ae R0).below hb1);have C2:=af (ae CT w1 ((ae HM).below (ae B1) hw) (by have:=(ae B1).size;omega));clear hb1 C1 B0 R0 CT;go_wp2_with fail;refine (ae C2).mono ?_;rintro e w2 ⟨rfl,hb2⟩;have B2:=af ((ae B1).trans (hb2.mono (ae B1).size));have R2:=af ((ae R1).below hb2);clear hb2 C2 B1 R1;have rz:=(ae R2).fz;have r0:w2.cell? ⟨w.heap.size,0,none⟩=some (.string ⟨#[]⟩):=(ae R2).cell rfl;have r1:w2.cell? ⟨w.heap.size,1,none⟩=some (.string ⟨#[]⟩):=(ae R2).cell rfl;have r2:w2.cell? ⟨w.heap.size,2,none⟩=some (.string ⟨#[]⟩):=(ae R2).cell rfl;have rl:=(ae R2).lt;have hne:¬(w2.heap.size=w.heap.size):=by omega
 have fT:¬(w.heap.size=w2.heap.size):=by omega
 have hnf:¬(w2.heap.size+1=w.heap.size):=by omega
 have hnf':¬(w.heap.size=w2.heap.size+1):=by omega
 cases xU
 ·have hR:=ae HR;simp only [Bool.false_eq_true,if_false] at hR
  cases ok
  ·rw [Bool.false_or] at hR
   cases hst:(b.toList== [42])
   ·rw [hst,Bool.false_and] at hR;subst hR;clear HR;go_wp2_with fail
    go_region
    all_goals (
     go_wp2;refine bodyPost_ret (v:=.tuple #[.agg #[.string a,.string b,.string rel],.bool _]) (aS Tryz.results102 _ _ w.heap.size _ 102 _ _ rfl rfl ?_ Tryz.underlying102 rfl (by kernel_rfl)) rfl ?_
     ·exact ⟨_,(by with_reducible repeat (first|exact ae R2|apply ai.alloc|apply ai.drew|apply ai.set|(apply ai.other;case ha=>exact (by first|omega|(simp;omega)|simp)))),by rfl⟩
     ·exact ⟨rfl,(by with_reducible repeat (first|exact ae B2|refine Below.drew ?_|(refine Below.setCell ?_ ?_ _;rotate_left;exact (by first|omega|(simp;omega)|simp))|(refine Below.alloc ?_ ?_ _;rotate_left;exact (by first|omega|(simp;omega)|simp))))⟩)
   ·rw [hst,Bool.true_and] at hR;subst hR;clear HR;obtain rfl:b=⟨#[42]⟩:=by
     rw [aF,beq_iff_eq] at hst;rw [←gV b,hst]
     rfl
    clear hst;go_wp2_with fail;have S3:=af (show ai ((w2.alloc (.cells #[.string a,.string ⟨#[42]⟩] 98)).alloc (.cells #[.string a,.string ⟨#[42]⟩,.string rel] 102)) (w2.heap.size+1) #[.string a,.string ⟨#[42]⟩,.string rel] 102 from by
     have:=ai.new (w2.alloc (.cells #[.string a,.string ⟨#[42]⟩] 98)) #[.string a,.string ⟨#[42]⟩,.string rel] 102;rw [show (w2.alloc (.cells #[.string a,.string ⟨#[42]⟩] 98)).heap.size=w2.heap.size+1 by simp] at this;exact this)
    have T3:=af ((ai.new w2 #[.string a,.string ⟨#[42]⟩] 98).alloc (.cells #[.string a,.string ⟨#[42]⟩,.string rel] 102));have R3:=af (((ae R2).alloc (.cells #[.string a,.string ⟨#[42]⟩] 98)).alloc (.cells #[.string a,.string ⟨#[42]⟩,.string rel] 102));have B3:=af (((ae B2).alloc (ae B2).size (.cells #[.string a,.string ⟨#[42]⟩] 98)).alloc (by have:=(ae B2).size;simp;omega) (.cells #[.string a,.string ⟨#[42]⟩,.string rel] 102));generalize ((w2.alloc (.cells #[.string a,.string ⟨#[42]⟩] 98)).alloc (.cells #[.string a,.string ⟨#[42]⟩,.string rel] 102))=W at*;clear rz r0 r1 r2;have rz:=(ae R3).fz;have r0:W.cell? ⟨w.heap.size,0,none⟩=some (.string ⟨#[]⟩):=(ae R3).cell rfl;have r1:W.cell? ⟨w.heap.size,1,none⟩=some (.string ⟨#[]⟩):=(ae R3).cell rfl;have r2:W.cell? ⟨w.heap.size,2,none⟩=some (.string ⟨#[]⟩):=(ae R3).cell rfl;have s0:W.cell? ⟨w2.heap.size+1,0,none⟩=some (.string a):=(ae S3).cell rfl;have s1:W.cell? ⟨w2.heap.size+1,1,none⟩=some (.string ⟨#[42]⟩):=(ae S3).cell rfl;have s2:W.cell? ⟨w2.heap.size+1,2,none⟩=some (.string rel):=(ae S3).cell rfl;have t0:W.cell? ⟨w2.heap.size,0,none⟩=some (.string a):=(ae T3).cell rfl;have t1:W.cell? ⟨w2.heap.size,1,none⟩=some (.string ⟨#[42]⟩):=(ae T3).cell rfl
    go_region_held3 (fun w'=>w'.cell? ⟨w2.heap.size+1,0,none⟩=some (.string a)∧w'.cell? ⟨w2.heap.size+1,1,none⟩=some (.string ⟨#[42]⟩)∧w'.cell? ⟨w2.heap.size+1,2,none⟩=some (.string rel)∧w'.cell? ⟨w2.heap.size,0,none⟩=some (.string a)∧w'.cell? ⟨w2.heap.size,1,none⟩=some (.string ⟨#[42]⟩)) (go_keep)
     ((go_at_call 93;refine (ae Ca _).mono ?_;rintro e w3 ⟨rfl,rfl⟩))
    go_wp2;refine bodyPost_ret (v:=.tuple #[.agg #[.string a,.string ⟨#[42]⟩,.string rel],.bool _]) (aS Tryz.results102 _ _ w.heap.size _ 102 _ _ rfl rfl ?_ Tryz.underlying102 rfl (by kernel_rfl)) rfl ?_
    ·exact ⟨_,(by with_reducible repeat (first|exact ae R3|apply ai.alloc|apply ai.drew|apply ai.set|(apply ai.other;case ha=>exact (by first|omega|(simp;omega)|simp)))),by rfl⟩
    ·exact ⟨rfl,(by with_reducible repeat (first|exact ae B3|refine Below.drew ?_|(refine Below.setCell ?_ ?_ _;rotate_left;exact (by first|omega|(simp;omega)|simp))|(refine Below.alloc ?_ ?_ _;rotate_left;exact (by first|omega|(simp;omega)|simp))))⟩
  ·rw [Bool.true_or] at hR;subst hR;clear HR;go_wp2_with fail
   go_region
   all_goals (
    go_wp2;refine bodyPost_ret (v:=.tuple #[.agg #[.string a,.string b,.string rel],.bool _]) (aS Tryz.results102 _ _ w.heap.size _ 102 _ _ rfl rfl ?_ Tryz.underlying102 rfl (by kernel_rfl)) rfl ?_
    ·exact ⟨_,(by with_reducible repeat (first|exact ae R2|apply ai.alloc|apply ai.drew|apply ai.set|(apply ai.other;case ha=>exact (by first|omega|(simp;omega)|simp)))),by rfl⟩
    ·exact ⟨rfl,(by with_reducible repeat (first|exact ae B2|refine Below.drew ?_|(refine Below.setCell ?_ ?_ _;rotate_left;exact (by first|omega|(simp;omega)|simp))|(refine Below.alloc ?_ ?_ _;rotate_left;exact (by first|omega|(simp;omega)|simp))))⟩)
 ·have hR:=ae HR;simp only [if_true] at hR
  cases ok
  ·rw [Bool.false_and] at hR;subst hR;clear HR;go_wp2_with fail
   go_region
   all_goals (
    go_wp2;refine bodyPost_ret (v:=.tuple #[.agg #[.string a,.string b,.string rel],.bool _]) (aS Tryz.results102 _ _ w.heap.size _ 102 _ _ rfl rfl ?_ Tryz.underlying102 rfl (by kernel_rfl)) rfl ?_
    ·exact ⟨_,(by with_reducible repeat (first|exact ae R2|apply ai.alloc|apply ai.drew|apply ai.set|(apply ai.other;case ha=>exact (by first|omega|(simp;omega)|simp)))),by rfl⟩
    ·exact ⟨rfl,(by with_reducible repeat (first|exact ae B2|refine Below.drew ?_|(refine Below.setCell ?_ ?_ _;rotate_left;exact (by first|omega|(simp;omega)|simp))|(refine Below.alloc ?_ ?_ _;rotate_left;exact (by first|omega|(simp;omega)|simp))))⟩)
  ·rw [Bool.true_and] at hR;subst hR;clear HR;go_wp2_with fail;have S3:=af (show ai ((w2.alloc (.cells #[.string a,.string b] 98)).alloc (.cells #[.string a,.string b,.string rel] 102)) (w2.heap.size+1) #[.string a,.string b,.string rel] 102 from by
    have:=ai.new (w2.alloc (.cells #[.string a,.string b] 98)) #[.string a,.string b,.string rel] 102;rw [show (w2.alloc (.cells #[.string a,.string b] 98)).heap.size=w2.heap.size+1 by simp] at this;exact this)
   have T3:=af ((ai.new w2 #[.string a,.string b] 98).alloc (.cells #[.string a,.string b,.string rel] 102));have R3:=af (((ae R2).alloc (.cells #[.string a,.string b] 98)).alloc (.cells #[.string a,.string b,.string rel] 102));have B3:=af (((ae B2).alloc (ae B2).size (.cells #[.string a,.string b] 98)).alloc (by have:=(ae B2).size;simp;omega) (.cells #[.string a,.string b,.string rel] 102));generalize ((w2.alloc (.cells #[.string a,.string b] 98)).alloc (.cells #[.string a,.string b,.string rel] 102))=W at*;clear rz r0 r1 r2;have rz:=(ae R3).fz;have r0:W.cell? ⟨w.heap.size,0,none⟩=some (.string ⟨#[]⟩):=(ae R3).cell rfl;have r1:W.cell? ⟨w.heap.size,1,none⟩=some (.string ⟨#[]⟩):=(ae R3).cell rfl;have r2:W.cell? ⟨w.heap.size,2,none⟩=some (.string ⟨#[]⟩):=(ae R3).cell rfl;have s0:W.cell? ⟨w2.heap.size+1,0,none⟩=some (.string a):=(ae S3).cell rfl;have s1:W.cell? ⟨w2.heap.size+1,1,none⟩=some (.string b):=(ae S3).cell rfl;have s2:W.cell? ⟨w2.heap.size+1,2,none⟩=some (.string rel):=(ae S3).cell rfl;have t0:W.cell? ⟨w2.heap.size,0,none⟩=some (.string a):=(ae T3).cell rfl;have t1:W.cell? ⟨w2.heap.size,1,none⟩=some (.string b):=(ae T3).cell rfl
   go_region_held3 (fun w'=>w'.cell? ⟨w2.heap.size+1,0,none⟩=some (.string a)∧w'.cell? ⟨w2.heap.size+1,1,none⟩=some (.string b)∧w'.cell? ⟨w2.heap.size+1,2,none⟩=some (.string rel)∧w'.cell? ⟨w2.heap.size,0,none⟩=some (.string a)∧w'.cell? ⟨w2.heap.size,1,none⟩=some (.string b)) (go_keep)
    ((go_at_call 93;refine (ae Cr _).mono ?_;rintro e w3 ⟨rfl,rfl⟩))
   go_wp2;refine bodyPost_ret (v:=.tuple #[.agg #[.string a,.string b,.string rel],.bool _]) (aS Tryz.results102 _ _ w.heap.size _ 102 _ _ rfl rfl ?_ Tryz.underlying102 rfl (by kernel_rfl)) rfl ?_
   ·exact ⟨_,(by with_reducible repeat (first|exact ae R3|apply ai.alloc|apply ai.drew|apply ai.set|(apply ai.other;case ha=>exact (by first|omega|(simp;omega)|simp)))),by rfl⟩
   ·exact ⟨rfl,(by with_reducible repeat (first|exact ae B3|refine Below.drew ?_|(refine Below.setCell ?_ ?_ _;rotate_left;exact (by first|omega|(simp;omega)|simp))|(refine Below.alloc ?_ ?_ _;rotate_left;exact (by first|omega|(simp;omega)|simp))))⟩
