import Derived.Test.YtlbpnlngckgcbaaGreatDoorM21
set_option linter.all false
set_option maxHeartbeats 4000000
set_option maxRecDepth 100000
namespace Go.Proofs.YtlbpnlngckgcbaaGreatDoor
open Go.RowKit Go.PlainAid
def rO (kl:List (aei×Nat)) (rl:List RV) (g:Gr):Option Nat:=
 if (kl.any fun k=>eqs k.1 g.ty)=false then some g.tp
 else if eqs (bB g) em=false∧eqs (bB g) (sg 42)=false∧aQ g.ty (bB g) rl 0<0 then some g.rp else none
def J7 (kl:List (aei×Nat)) (rl:List RV) (bz:Nat→List Gr) (kd:aei) (p:PV):Option Nat:=match p.gs.findSome? (rO kl rl) with
 |some a=>some a
 |none=>if p.kind=2 then (if aQ kd p.nr rl 0<0 then some p.pa else none)
  else if p.kind=3 then (if aQ kd p.nb rl 0<0 then some p.pa else if gM rl p.nr (bz (aQ kd p.nb rl 0).toNat)=[] then some p.pr else none)
  else none
def nI:Option Nat→Int
 |some a=>a
 |none=> -1
theorem Gs (b:Nat) (kv rv pv:Value) (kl:List (aei×Nat)) (rl:List RV) (pl:List PV) (l:List PX) (bz:Nat→List Gr) (kd:aei) (p:PV) (ga:Option Addr) (gc:Nat) (pa:Option Addr) (pc:Nat) (sa:Option Addr) (sc:Nat) (w:World) (h:DM w b kv rv pv kl rl pl l) (hG:∀r,r<rl.length→GrC rl pl r (bz r)∧(bz r).length≤1000000) (hr:nD w (p,.slice ga p.gs.length gc,.slice pa p.ps.length pc,.slice sa p.sg.length sc)) (hgl:p.gs.length≤1000000):
  Calls Tryz.prog 192 #[.pointer (some ⟨b,5,none⟩),.string kd,.agg #[.int .i64 p.kind,.slice ga p.gs.length gc,.string p.nb,.string p.nr,.int .i64 p.pa,.int .i64 p.pr,.slice pa p.ps.length pc,.slice sa p.sg.length sc]] w fun e w'=>e=.returned (.int .i64 (nI (J7 kl rl bz kd p)))∧Below w.heap.size w w':=by
 have HD:=af h;have HG:=af hG;have RG:=af hr.g;generalize hR:J7 kl rl bz kd p=R;have HR:=af hR;have b1:=(Below.refl _ w).alloc aeg (.cells #[.int .i64 p.kind,.slice ga p.gs.length gc,.string p.nb,.string p.nr,.int .i64 p.pa,.int .i64 p.pr,.slice pa p.ps.length pc,.slice sa p.sg.length sc] 255);have B1:=af b1;have LC:=af (ai.new w #[.int .i64 p.kind,.slice ga p.gs.length gc,.string p.nb,.string p.nr,.int .i64 p.pa,.int .i64 p.pr,.slice pa p.ps.length pc,.slice sa p.sg.length sc] 255);have HQ0:=af (show (match (p.gs.drop 0).findSome? (rO kl rl) with
  |some a=>some a
  |none=>if p.kind=2 then (if aQ kd p.nr rl 0<0 then some p.pa else none)
   else if p.kind=3 then (if aQ kd p.nb rl 0<0 then some p.pa else if gM rl p.nr (bz (aQ kd p.nb rl 0).toNat)=[] then some p.pr else none)
   else none)=R from hR)
 clear h hG hr hR b1;go_enter Tryz.func192,Tryz.ntmps192;go_wp2_with fail
 go_loopw [7] (fun u7 wr=>∃(k:Nat),k≤p.gs.length∧u7=.int .i64 k∧Below w.heap.size w wr∧ai wr w.heap.size #[.int .i64 p.kind,.slice ga p.gs.length gc,.string p.nb,.string p.nr,.int .i64 p.pa,.int .i64 p.pr,.slice pa p.ps.length pc,.slice sa p.sg.length sc] 255∧Hid ((match (p.gs.drop k).findSome? (rO kl rl) with
  |some a=>some a
  |none=>if p.kind=2 then (if aQ kd p.nr rl 0<0 then some p.pa else none)
   else if p.kind=3 then (if aQ kd p.nb rl 0<0 then some p.pa else if gM rl p.nr (bz (aQ kd p.nb rl 0).toNat)=[] then some p.pr else none)
   else none)=R)) (fun u7 _=>p.gs.length-(intOf u7).toNat)
 case atStart=>exact ⟨0,by omega,rfl,ae B1,ae LC,HQ0⟩
 case round=>
  clear B1 LC HQ0 HR;obtain ⟨k,hk1,rfl,hb,hpb,HQ⟩:=hrel;have HB:=af hb;have wM:=af hpb;have hwr:=hb.size;obtain ⟨p0,p1,p2,p3,p4,p5,p6,p7⟩:=hpb.eight;have pl0:=hpb.lt
  by_cases hlt:k<p.gs.length
  ·obtain ⟨gg,cg,e1,hc⟩:=bP aJ 4 (fun _=>rfl) (ay (ae RG) hb) k p.gs[k] (aeh hlt);simp only [Value.slice.injEq,true_and] at e1;obtain ⟨rfl,rfl⟩:=e1;have hq:=ae HQ;rw [List.drop_eq_getElem_cons hlt,List.findSome?_cons] at hq;generalize p.gs[k]=x at*;have k0:wr.cell? ⟨gg,k*4,none⟩=some (.string x.ty):=hc 0 _ (by omega) rfl;have k1:wr.cell? ⟨gg,k*4+1,none⟩=some (.string (bB x)):=hc 1 _ (by omega) rfl;have k2:wr.cell? ⟨gg,k*4+2,none⟩=some (.int .i64 x.tp):=hc 2 _ (by omega) rfl;have k3:wr.cell? ⟨gg,k*4+3,none⟩=some (.int .i64 x.rp):=hc 3 _ (by omega) rfl;have hkn:(k:Int)<(p.gs.length:Int):=by omega
   have b2:=(Below.refl _ wr).alloc aeg (.cells #[.string x.ty,.string (bB x),.int .i64 x.tp,.int .i64 x.rp] 257);have B2:=af ((ae HB).trans (b2.mono hwr));have NE:=af ((ae wM).below b2);have GB2:=af (ai.new wr #[.string x.ty,.string (bB x),.int .i64 x.tp,.int .i64 x.rp] 257);have C:=af (Fu b kv rv pv kl rl pl l x.ty _ ((ae HD).below (ae B2)));have qN:=af hq;clear hb hpb hc HQ hq b2;go_wp2_with fail;refine (ae C).mono ?_;rintro e w3 ⟨rfl,hb3⟩;have B3:=af ((ae B2).trans (hb3.mono (ae B2).size));have PB3:=af ((ae NE).below hb3);have qV:=af ((ae GB2).below hb3);obtain ⟨g0,g1,g2,g3⟩:=(ae qV).four;have gl3:=(ae qV).lt;have C2:=af (gT b kv rv pv kl rl pl l x.ty (bB x) _ ((ae HD).below (ae B3)));clear hb3 C B2 NE GB2 k0 k1 k2 k3 p0 p1 p2 p3 p4 p5 p6 p7;go_wp2_with fail;refine (ae C2).mono ?_;rintro e w4 ⟨rfl,hb4⟩;have B4:=af ((ae B3).trans (hb4.mono (ae B3).size));have Si:=af ((ae PB3).below hb4);have ig:=af ((ae qV).below hb4);clear g0 g1 g2 g3;obtain ⟨g0,g1,g2,g3⟩:=(ae ig).four;have gl4:=(ae ig).lt;clear hb4 C2 B3 PB3 qV
   cases hk:(kl.any fun k=>eqs k.1 x.ty)
   ·have hu:rO kl rl x=some x.tp:=by unfold rO;rw [hk];simp
    have og:=af (show some x.tp=R from by rw [←ae qN,hu]);clear hk hu;go_wp2;go_ret;exact ⟨by rw [←ae og];rfl,ae B4⟩
   ·cases h1:eqs (bB x) em
    ·have h1':((bB x).toList== [])=false:=by rw [←h1,Ea]
     cases h2:eqs (bB x) (sg 42)
     ·have h2':((bB x).toList== [42])=false:=by rw [←h2,aV];rw [show (sg 42).toList=[42] from by rw [aF];rfl]
      rcases cK x.ty (bB x) rl 0 with hfi|⟨j,hfi,Oz,OE⟩
      ·have hu:rO kl rl x=some x.rp:=by unfold rO;rw [hk];simp [h1,h2,hfi]
       have og:=af (show some x.rp=R from by rw [←ae qN,hu]);rw [hfi];clear hk hu h1 h2 hfi;go_wp2;go_ret;exact ⟨by rw [←ae og];rfl,ae B4⟩
      ·have hu:rO kl rl x=none:=by
        unfold rO;rw [hk];have:¬((j:Int)<0):=by omega
        simp [h1,h2,hfi,this]
       have lw:=af (ae qN);rw [hu] at lw;rw [hfi];have YC:¬((j:Int)<0):=by omega
       clear hk hu h1 h2 hfi;go_wp2;go_roundw
       case rel=>exact ⟨k+1,by omega,by go_num,ae B4,ae Si,lw⟩
       case measure=>simp [intOf];omega
     ·have h2':((bB x).toList== [42])=true:=by rw [←h2,aV];rw [show (sg 42).toList=[42] from by rw [aF];rfl]
      have hu:rO kl rl x=none:=by unfold rO;rw [hk];simp [h1,h2]
      have lw:=af (ae qN);rw [hu] at lw;clear hk hu h1 h2;go_wp2;go_roundw
      case rel=>exact ⟨k+1,by omega,by go_num,ae B4,ae Si,lw⟩
      case measure=>simp [intOf];omega
    ·have h1':((bB x).toList== [])=true:=by rw [←h1,Ea]
     have hu:rO kl rl x=none:=by unfold rO;rw [hk];simp [h1]
     have lw:=af (ae qN);rw [hu] at lw;clear hk hu h1;go_wp2;go_roundw
     case rel=>exact ⟨k+1,by omega,by go_num,ae B4,ae Si,lw⟩
     case measure=>simp [intOf];omega
  ·have hkn:¬((k:Int)<(p.gs.length:Int)):=by omega
   have hq:=ae HQ;rw [List.drop_of_length_le (by omega),List.findSome?_nil] at hq;simp only at hq;clear hb hpb HQ
   by_cases hk2:p.kind=2
   ·have e2:((p.kind:Int)==2)=true:=by rw [hk2];rfl
    have e3:((p.kind:Int)==3)=false:=by rw [hk2];rfl
    rw [if_pos hk2] at hq;have qN:=af hq;have C:=af (gT b kv rv pv kl rl pl l kd p.nr wr ((ae HD).below (ae HB)));clear hk2 hq;go_wp2_with fail;refine (ae C).mono ?_;rintro e w4 ⟨rfl,hb4⟩;have B4:=af ((ae HB).trans (hb4.mono hwr));have Si:=af ((ae wM).below hb4);clear p0 p1 p2 p3 p4 p5 p6 p7;obtain ⟨p0,p1,p2,p3,p4,p5,p6,p7⟩:=(ae Si).eight;have pl4:=(ae Si).lt;clear hb4 C
    rcases cK kd p.nr rl 0 with hfi|⟨j,hfi,Oz,OE⟩
    ·have og:=af (show some p.pa=R from by rw [←ae qN,hfi];simp);rw [hfi];clear hfi;go_wp2;go_ret;exact ⟨by rw [←ae og];rfl,ae B4⟩
    ·have YC:¬((j:Int)<0):=by omega
     have og:=af (show none=R from by rw [←ae qN,hfi];simp [YC]);rw [hfi];clear hfi;go_wp2;go_ret;exact ⟨by rw [←ae og];rfl,ae B4⟩
   ·by_cases hk3:p.kind=3
    ·have e2:((p.kind:Int)==2)=false:=by rw [hk3];rfl
     have e3:((p.kind:Int)==3)=true:=by rw [hk3];rfl
     rw [if_neg hk2,if_pos hk3] at hq;have qN:=af hq;have C:=af (gT b kv rv pv kl rl pl l kd p.nb wr ((ae HD).below (ae HB)));clear hk2 hk3 hq;go_wp2_with fail;refine (ae C).mono ?_;rintro e w4 ⟨rfl,hb4⟩;have B4:=af ((ae HB).trans (hb4.mono hwr));have Si:=af ((ae wM).below hb4);clear p0 p1 p2 p3 p4 p5 p6 p7;obtain ⟨p0,p1,p2,p3,p4,p5,p6,p7⟩:=(ae Si).eight;have pl4:=(ae Si).lt;clear hb4 C
     rcases cK kd p.nb rl 0 with hfi|⟨j,hfi,Oz,OE⟩
     ·have og:=af (show some p.pa=R from by rw [←ae qN,hfi];simp);rw [hfi];clear hfi;go_wp2;go_ret;exact ⟨by rw [←ae og];rfl,ae B4⟩
     ·have YC:¬((j:Int)<0):=by omega
      have hq:=ae qN;rw [hfi,if_neg YC,Int.toNat_natCast] at hq;have lw:=af hq;obtain ⟨hg1,hg2⟩:=ae HG j (by omega);have C2:=af (Cj b kv rv pv kl rl pl l j (bz j) p.nr w4 ((ae HD).below (ae B4)) hg1 hg2);rw [hfi];clear hfi hq qN hg1 hg2;go_wp2_with fail;refine (ae C2).mono ?_;rintro e w5 ⟨sv,rfl,bV,hs5⟩;obtain ⟨ta,tc,rfl⟩:=au hs5;have B5:=af ((ae B4).trans (bV.mono (ae B4).size));have Zt:=af ((ae Si).below bV);clear p0 p1 p2 p3 p4 p5 p6 p7;obtain ⟨p0,p1,p2,p3,p4,p5,p6,p7⟩:=(ae Zt).eight;have pl5:=(ae Zt).lt;clear bV hs5 C2
      by_cases ht:gM rl p.nr (bz j)=[]
      ·have og:=af (show some p.pr=R from by rw [←ae lw,ht];simp);rw [ht];clear ht;simp only [List.length_nil];go_wp2;go_ret;exact ⟨by rw [←ae og];rfl,ae B5⟩
      ·have og:=af (show none=R from by rw [←ae lw,if_neg ht]);have hl:0<(gM rl p.nr (bz j)).length:=List.length_pos_iff.2 ht;have hl':¬(((gM rl p.nr (bz j)).length:Int)=0):=by omega
       have hl2:(((gM rl p.nr (bz j)).length:Int)==0)=false:=beq_eq_false_iff_ne.2 hl';clear ht;generalize (gM rl p.nr (bz j)).length=tn at*;go_wp2;go_ret;exact ⟨by rw [←ae og];rfl,ae B5⟩
    ·have e2:((p.kind:Int)==2)=false:=beq_eq_false_iff_ne.2 (by omega);have e3:((p.kind:Int)==3)=false:=beq_eq_false_iff_ne.2 (by omega);rw [if_neg hk2,if_neg hk3] at hq;have og:=af hq;clear hk2 hk3 hq;go_wp2;go_ret;exact ⟨by rw [←ae og];rfl,ae HB⟩
def dG (c:Int) (S:Nat→Prop):Prop:=(c= -1∧∀q,¬S q)∨∃p:Nat,c=p∧S p∧∀q,S q→p≤q
theorem dG.unique {c d:Int} {S:Nat→Prop} (h:dG c S) (k:dG d S):c=d:=by
 rcases h with ⟨rfl,h⟩|⟨p,rfl,hp,h⟩
 ·rcases k with ⟨rfl,_⟩|⟨q,rfl,hq,_⟩
  ·rfl
  ·exact absurd hq (h q)
 ·rcases k with ⟨rfl,k⟩|⟨q,rfl,hq,k⟩
  ·exact absurd hp (k p)
  ·have:=h q hq;have:=k p hp;omega
theorem dG.congr {c:Int} {S T:Nat→Prop} (h:dG c S) (e:∀q,S q↔T q):dG c T:=by
 rcases h with ⟨h1,h2⟩|⟨p,h1,h2,h3⟩
 ·exact .inl ⟨h1,fun q hq=>h2 q ((e q).2 hq)⟩
 ·exact .inr ⟨p,h1,(e p).1 h2,fun q hq=>h3 q ((e q).2 hq)⟩
theorem dG.step {c:Int} {S:Nat→Prop} (h:dG c S) (p:Nat):dG (fF c p) (fun q=>S q∨q=p):=by
 unfold fF
 rcases h with ⟨rfl,h⟩|⟨q,rfl,hq,h⟩
 ·rw [if_pos (.inl (by omega))];exact .inr ⟨p,rfl,.inr rfl,fun q hq=>by
   rcases hq with hq|rfl
   ·exact absurd hq (h q)
   ·exact Nat.le_refl _⟩
 ·split
  ·rename_i hlt;refine .inr ⟨p,rfl,.inr rfl,fun r hr=> ?_⟩
   rcases hr with hr|rfl
   ·have:=h r hr;omega
   ·exact Nat.le_refl _
  ·rename_i hlt;refine .inr ⟨q,rfl,.inl hq,fun r hr=> ?_⟩
   rcases hr with hr|rfl
   ·exact h r hr
   ·omega
theorem zB (c:Int) (p:Nat):fF (fF c p) p=fF c p:=by
 unfold fF
 by_cases h:c<0∨(p:Int)<c
 ·rw [if_pos h]
  split<;>rfl
 ·rw [if_neg h,if_neg h]
theorem Gt (x:aei×Nat):∀(acc:List (aei×Nat)) (c:Int),wR x acc c=if (acc.any fun y=>eqs y.1 x.1) then fF c x.2 else c
 | [],c=>rfl
 |y::ys,c=>by
  rw [wR,Gt x ys]
  cases h:eqs y.1 x.1<;>cases h2:(ys.any fun y=>eqs y.1 x.1)<;>simp [h,h2,zB]
theorem Gu (x:RV):∀(acc:List RV) (c:Int),wS x acc c=if (acc.any fun y=>eqs y.kd x.kd&&eqs y.nm x.nm) then fF c x.pl else c
 | [],c=>rfl
 |y::ys,c=>by
  rw [wS,Gu x ys]
  cases h:(eqs y.kd x.kd&&eqs y.nm x.nm)<;>cases h2:(ys.any fun y=>eqs y.kd x.kd&&eqs y.nm x.nm)<;>simp [h,h2,zB]
def ik {α:Type} (like:α→α→Prop) (pl:α→Nat) (acc l:List α) (q:Nat):Prop:=∃A x B,l=A++x::B∧(∃y∈acc++A,like y x)∧q=pl x
theorem ik.cons {α:Type} {like:α→α→Prop} {pl:α→Nat} {acc l:List α} {x:α} {q:Nat}:ik like pl acc (x::l) q↔((∃y∈acc,like y x)∧q=pl x)∨ik like pl (acc++[x]) l q:=by
 constructor
 ·rintro ⟨A,z,B,e,hl,hq⟩
  cases A with
  |nil=>
   simp only [List.nil_append,List.cons.injEq] at e;obtain ⟨rfl,rfl⟩:=e;exact .inl ⟨by simpa using hl,hq⟩
  |cons a A=>
   simp only [List.cons_append,List.cons.injEq] at e;obtain ⟨rfl,rfl⟩:=e;exact .inr ⟨A,z,B,rfl,by simpa using hl,hq⟩
 ·rintro (⟨h,hq⟩|⟨A,z,B,rfl,hl,hq⟩)
  ·exact ⟨[],x,l,rfl,by simpa using h,hq⟩
  ·exact ⟨x::A,z,B,rfl,by simpa using hl,hq⟩
theorem ik.nil {α:Type} {like:α→α→Prop} {pl:α→Nat} {acc:List α} {q:Nat}:¬ik like pl acc [] q:=by
 rintro ⟨A,x,B,e,_⟩
 cases A<;>simp at e
def rZ (y x:aei×Nat):Prop:=y.1=x.1
def Gv (y x:RV):Prop:=y.kd=x.kd∧y.nm=x.nm
theorem oO:∀(l acc:List (aei×Nat)) (c:Int) (S:Nat→Prop),dG c S→dG (qF acc l c) (fun q=>S q∨ik rZ Prod.snd acc l q)
 | [],acc,c,S,h=>h.congr (fun q=>⟨.inl,fun h=>h.elim id (fun h=>absurd h ik.nil)⟩)
 |x::l,acc,c,S,h=>by
  rw [qF,Gt]
  cases hd:(acc.any fun y=>eqs y.1 x.1)
  ·simp only [Bool.false_eq_true,if_false];refine (oO l (acc++[x]) c S h).congr (fun q=> ?_);rw [ik.cons]
   constructor
   ·rintro (h|h)
    ·exact .inl h
    ·exact .inr (.inr h)
   ·rintro (h|⟨⟨y,hy,hl⟩,_⟩|h)
    ·exact .inl h
    ·rw [List.any_eq_false] at hd;exact absurd ((bq _ _).2 hl) (hd y hy)
    ·exact .inr h
  ·simp only [if_true];refine (oO l (acc++[x]) _ _ (h.step x.2)).congr (fun q=> ?_);rw [ik.cons];rw [List.any_eq_true] at hd;obtain ⟨y,hy,hl⟩:=hd;have hl':rZ y x:=(bq _ _).1 hl
   constructor
   ·rintro ((h|h)|h)
    ·exact .inl h
    ·exact .inr (.inl ⟨⟨y,hy,hl'⟩,h⟩)
    ·exact .inr (.inr h)
   ·rintro (h|⟨_,h⟩|h)
    ·exact .inl (.inl h)
    ·exact .inl (.inr h)
    ·exact .inr h
theorem oP:∀(l acc:List RV) (c:Int) (S:Nat→Prop),dG c S→dG (tT acc l c) (fun q=>S q∨ik Gv RV.pl acc l q)
 | [],acc,c,S,h=>h.congr (fun q=>⟨.inl,fun h=>h.elim id (fun h=>absurd h ik.nil)⟩)
 |x::l,acc,c,S,h=>by
  rw [tT,Gu];have hq:∀y:RV,(eqs y.kd x.kd&&eqs y.nm x.nm)=true↔Gv y x:=fun y=>by rw [Bool.and_eq_true,bq,bq];rfl
  cases hd:(acc.any fun y=>eqs y.kd x.kd&&eqs y.nm x.nm)
  ·simp only [Bool.false_eq_true,if_false];refine (oP l (acc++[x]) c S h).congr (fun q=> ?_);rw [ik.cons]
   constructor
   ·rintro (h|h)
    ·exact .inl h
    ·exact .inr (.inr h)
   ·rintro (h|⟨⟨y,hy,hl⟩,_⟩|h)
    ·exact .inl h
    ·rw [List.any_eq_false] at hd;exact absurd ((hq y).2 hl) (hd y hy)
    ·exact .inr h
  ·simp only [if_true];refine (oP l (acc++[x]) _ _ (h.step x.pl)).congr (fun q=> ?_);rw [ik.cons];rw [List.any_eq_true] at hd;obtain ⟨y,hy,hl⟩:=hd;have hl':Gv y x:=(hq y).1 hl
   constructor
   ·rintro ((h|h)|h)
    ·exact .inl h
    ·exact .inr (.inl ⟨⟨y,hy,hl'⟩,h⟩)
    ·exact .inr (.inr h)
   ·rintro (h|⟨_,h⟩|h)
    ·exact .inl (.inl h)
    ·exact .inl (.inr h)
    ·exact .inr h
theorem Ec (kl:List (aei×Nat)) (rl:List RV):dG (zu kl rl) (fun q=>ik rZ Prod.snd [] kl q∨ik Gv RV.pl [] rl q):=by
 have h:=oP rl [] _ _ (oO kl [] (-1) (fun _=>False) (.inl ⟨rfl,fun _ h=>h⟩));exact h.congr (fun q=>by simp)
theorem ik.mem {α:Type} {like:α→α→Prop} {pl:α→Nat} {acc l:List α} {q:Nat} (h:ik like pl acc l q):q∈l.map pl:=by
 obtain ⟨A,x,B,rfl,_,rfl⟩:=h;simp
theorem ik.append {α:Type} {like:α→α→Prop} {pl:α→Nat} {q:Nat}:∀(l1 acc l2:List α),ik like pl acc (l1++l2) q↔ik like pl acc l1 q∨ik like pl (acc++l1) l2 q
 | [],acc,l2=>by
  rw [List.nil_append,List.append_nil];exact ⟨.inr,fun h=>h.elim (fun h=>absurd h ik.nil) id⟩
 |x::l1,acc,l2=>by
  rw [List.cons_append,ik.cons,ik.cons,ik.append l1 (acc++[x]) l2,List.append_assoc,List.singleton_append,or_assoc]
theorem Ck:∀(l acc:List (aei×Nat)),(l.map Prod.snd).Pairwise (· < ·)→dG (nI (Sc (acc.map Prod.fst) l)) (fun q=>ik rZ Prod.snd acc l q)
 | [],acc,_=> .inl ⟨rfl,fun q h=>absurd h ik.nil⟩
 |(n,p)::l,acc,ho=>by
  rw [Sc];simp only [List.map_cons,List.pairwise_cons] at ho;rw [List.any_map]
  cases hd:(acc.any ((fun m=>eqs m n) ∘ Prod.fst))
  ·simp only [Bool.false_eq_true,if_false];have ih:=Ck l (acc++[(n,p)]) ho.2;rw [List.map_append] at ih;refine ih.congr (fun q=> ?_);rw [ik.cons]
   constructor
   ·exact .inr
   ·rintro (⟨⟨y,hy,hl⟩,_⟩|h)
    ·rw [List.any_eq_false] at hd;exact absurd ((bq _ _).2 hl) (hd y hy)
    ·exact h
  ·simp only [if_true];rw [List.any_eq_true] at hd;obtain ⟨y,hy,hl⟩:=hd;refine .inr ⟨p,rfl,?_,fun q hq=> ?_⟩
   ·show ik rZ Prod.snd acc ((n,p)::l) p
    rw [ik.cons];exact .inl ⟨⟨y,hy,(bq _ _).1 hl⟩,rfl⟩
   ·have hm:=ik.mem hq;rw [List.map_cons,List.mem_cons] at hm
    rcases hm with rfl|hm
    ·exact Nat.le_refl _
    ·exact Nat.le_of_lt (ho.1 q hm)
def zC (y x:Ty):Prop:=y.name=x.name
def vC (y x:aei×Rl):Prop:=y.1=x.1∧y.2.name=x.2.name
def Sj (p:aei×Rl):Nat:=p.2.place
def jk (ts:List Ty):List Nat:=ts.flatMap fun t=>t.place::t.rels.map fun r=>r.place
theorem QT (ts:List Ty) (p:aei×Rl) (h:p∈aR ts):∃t∈ts,t.name=p.1:=by
 unfold aR at h;obtain ⟨t,ht,h⟩:=List.mem_flatMap.1 h;obtain ⟨r,_,rfl⟩:=List.mem_map.1 h;exact ⟨t,ht,rfl⟩
theorem zD (ts:List Ty) (q:Nat) (h:q∈(aR ts).map Sj):q∈jk ts:=by
 obtain ⟨p,hp,rfl⟩:=List.mem_map.1 h;unfold aR at hp;obtain ⟨t,ht,hp⟩:=List.mem_flatMap.1 hp;obtain ⟨r,hr,rfl⟩:=List.mem_map.1 hp;exact List.mem_flatMap.2 ⟨t,ht,by simp [Sj];exact .inr ⟨r,hr,rfl⟩⟩
theorem Gw (ts:List Ty) (q:Nat) (h:q∈ts.map Ty.place):q∈jk ts:=by
 obtain ⟨t,ht,rfl⟩:=List.mem_map.1 h;exact List.mem_flatMap.2 ⟨t,ht,by simp⟩
theorem Gx (xB:List Ty) (t:Ty) (hn:¬∃y∈xB,y.name=t.name) (q:Nat):∀(l acc:List Rl),ik vC Sj (aR xB++acc.map fun r=>(t.name,r)) (l.map fun r=>(t.name,r)) q↔ik rZ Prod.snd (acc.map fun r=>(r.name,r.place)) (l.map fun r=>(r.name,r.place)) q
 | [],acc=>⟨fun h=>absurd h ik.nil,fun h=>absurd h ik.nil⟩
 |r::l,acc=>by
  have ih:=Gx xB t hn q l (acc++[r]);rw [List.map_append,List.map_append,List.map_cons,List.map_nil,List.map_cons,List.map_nil,←List.append_assoc] at ih;rw [List.map_cons,List.map_cons,ik.cons,ik.cons,ih];have key:(∃y∈aR xB++acc.map (fun r=>(t.name,r)),vC y (t.name,r))↔∃y∈acc.map (fun r=>(r.name,r.place)),rZ y (r.name,r.place):=by
   constructor
   ·rintro ⟨y,hy,h1,h2⟩
    rcases List.mem_append.1 hy with hy|hy
    ·obtain ⟨t',ht',e⟩:=QT xB y hy;exact absurd ⟨t',ht',e.trans h1⟩ hn
    ·obtain ⟨r',hr',rfl⟩:=List.mem_map.1 hy;exact ⟨_,List.mem_map.2 ⟨r',hr',rfl⟩,h2⟩
   ·rintro ⟨y,hy,h⟩;obtain ⟨r',hr',rfl⟩:=List.mem_map.1 hy;exact ⟨(t.name,r'),List.mem_append.2 (.inr (List.mem_map.2 ⟨r',hr',rfl⟩)),rfl,h⟩
  rw [key]
  rfl
theorem Cm:∀(bs xB:List Ty),(jk bs).Pairwise (· < ·)→dG (nI (IP (xB.map Ty.name) bs)) (fun q=>ik zC Ty.place xB bs q∨ik vC Sj (aR xB) (aR bs) q)
 | [],xB,_=> .inl ⟨rfl,fun q h=>h.elim (fun h=>ik.nil h) (fun h=>ik.nil h)⟩
 |t::bs,xB,ho=>by
  have eF:aR (t::bs)=(t.rels.map fun r=>(t.name,r))++aR bs:=by simp [aR]
  have eP:jk (t::bs)=(t.place::t.rels.map fun r=>r.place)++jk bs:=by simp [jk]
  have eA:aR (xB++[t])=aR xB++t.rels.map fun r=>(t.name,r):=by simp [aR]
  rw [eP,List.pairwise_append] at ho;obtain ⟨Lf,ho2,ho3⟩:=ho;rw [List.pairwise_cons] at Lf;have hall:∀q,(ik zC Ty.place xB (t::bs) q∨ik vC Sj (aR xB) (aR (t::bs)) q)→t.place≤q:=fun q hq=>by
   have hm:q∈jk (t::bs):=by
    rcases hq with hq|hq
    ·exact Gw _ _ (ik.mem hq)
    ·exact zD _ _ (ik.mem hq)
   rw [eP,List.mem_append,List.mem_cons] at hm
   rcases hm with (rfl|hm)|hm
   ·exact Nat.le_refl _
   ·exact Nat.le_of_lt (Lf.1 q hm)
   ·exact Nat.le_of_lt (ho3 t.place (by simp) q hm)
  rw [IP,List.any_map]
  cases hd:(xB.any ((fun m=>eqs m t.name) ∘ Ty.name))
  ·have hn:¬∃y∈xB,y.name=t.name:=fun ⟨y,hy,e⟩=>by
    rw [List.any_eq_false] at hd;exact hd y hy ((bq _ _).2 e)
   simp only [Bool.false_eq_true,if_false];have hr:=Ck (t.rels.map fun r=>(r.name,r.place)) [] (by rw [List.map_map];exact Lf.2);have hfl:∀q,(ik zC Ty.place xB (t::bs) q∨ik vC Sj (aR xB) (aR (t::bs)) q)↔ik rZ Prod.snd [] (t.rels.map fun r=>(r.name,r.place)) q∨(ik zC Ty.place (xB++[t]) bs q∨ik vC Sj (aR (xB++[t])) (aR bs) q):=fun q=>by
    rw [ik.cons,eF,ik.append,eA];have hk:=Gx xB t hn q t.rels [];simp only [List.map_nil,List.append_nil] at hk;rw [hk]
    constructor
    ·rintro ((⟨⟨y,hy,e⟩,_⟩|h)|h|h)
     ·exact absurd ⟨y,hy,e⟩ hn
     ·exact .inr (.inl h)
     ·exact .inl h
     ·exact .inr (.inr h)
    ·rintro (h|h|h)
     ·exact .inr (.inl h)
     ·exact .inl (.inr h)
     ·exact .inr (.inr h)
   have hlate:∀q,(ik zC Ty.place (xB++[t]) bs q∨ik vC Sj (aR (xB++[t])) (aR bs) q)→q∈jk bs:=fun q hq=>by
    rcases hq with hq|hq
    ·exact Gw _ _ (ik.mem hq)
    ·exact zD _ _ (ik.mem hq)
   unfold twR
   cases hw:Sc [] (t.rels.map fun r=>(r.name,r.place)) with
   |some p=>
    rw [show ([]:List (aei×Nat)).map Prod.fst=[] from rfl,hw] at hr;simp only
    rcases hr with ⟨h1,_⟩|⟨p',h1,h2,h3⟩
    ·simp only [nI] at h1;omega
    ·simp only [nI] at h1;obtain rfl:p=p':=by omega
     refine .inr ⟨p,rfl,(hfl p).2 (.inl h2),fun q hq=> ?_⟩
     rcases (hfl q).1 hq with hq|hq
     ·exact h3 q hq
     ·have hp:=ik.mem h2;rw [List.map_map] at hp;exact Nat.le_of_lt (ho3 p (by simp only [List.mem_cons];exact .inr hp) q (hlate q hq))
   |none=>
    rw [show ([]:List (aei×Nat)).map Prod.fst=[] from rfl,hw] at hr;simp only;have hnone:∀q,¬ik rZ Prod.snd [] (t.rels.map fun r=>(r.name,r.place)) q:=by
     rcases hr with ⟨_,h⟩|⟨p',h1,_⟩
     ·exact h
     ·simp only [nI] at h1;omega
    have ih:=Cm bs (xB++[t]) ho2;rw [List.map_append] at ih;refine ih.congr (fun q=> ?_);rw [hfl q];exact ⟨.inr,fun h=>h.elim (fun h=>absurd h (hnone q)) id⟩
  ·simp only [if_true];rw [List.any_eq_true] at hd;obtain ⟨y,hy,hl⟩:=hd;exact .inr ⟨t.place,rfl,.inl (ik.cons.2 (.inl ⟨⟨y,hy,(bq _ _).1 hl⟩,rfl⟩)),hall⟩
theorem ik.map {α β:Type} {like:α→α→Prop} {Co:β→β→Prop} {pl:α→Nat} {mX:β→Nat} (f:α→β) (h1:∀y x,like y x↔Co (f y) (f x)) (h2:∀x,pl x=mX (f x)) (q:Nat):∀(l acc:List α),ik like pl acc l q↔ik Co mX (acc.map f) (l.map f) q
 | [],acc=>⟨fun h=>absurd h ik.nil,fun h=>absurd h ik.nil⟩
 |x::l,acc=>by
  have ih:=ik.map f h1 h2 q l (acc++[x]);rw [List.map_append] at ih;rw [List.map_cons,ik.cons,ik.cons,ih,h2 x];have key:(∃y∈acc,like y x)↔∃y∈acc.map f,Co y (f x):=by
   constructor
   ·rintro ⟨y,hy,h⟩;exact ⟨f y,List.mem_map.2 ⟨y,hy,rfl⟩,(h1 y x).1 h⟩
   ·rintro ⟨y,hy,h⟩;obtain ⟨z,hz,rfl⟩:=List.mem_map.1 hy;exact ⟨z,hz,(h1 z x).2 h⟩
  rw [key]
  rfl
def tri (x:RV):aei×aei×Nat:=(x.kd,x.nm,x.pl)
def YD (p:aei×Rl):aei×aei×Nat:=(p.1,p.2.name,p.2.place)
theorem dE.tri {pl:List PV}:∀(rl:List RV) (ps:List (aei×Rl)),dE pl rl ps→rl.map tri=ps.map YD
 | [],[],_=>rfl
 |x::xs,p::ps,h=>by
  obtain ⟨⟨h1,h2,h3,_⟩,h4⟩:=h;rw [List.map_cons,List.map_cons,dE.tri xs ps h4];unfold Go.Proofs.YtlbpnlngckgcbaaGreatDoor.tri YD;rw [h1,h2,h3]
 | [],_::_,h=>h.elim
 |_::_,[],h=>h.elim
theorem J8 {pl:List PV} {kl:List (aei×Nat)} {rl:List RV} {ts:List Ty} (h:D9 pl kl rl ts) (ho:(jk ts).Pairwise (· < ·)):zu kl rl=nI (IP [] ts):=by
 refine (Ec kl rl).unique ((Cm ts [] ho).congr (fun q=> ?_));have e1:=ik.map (like:=zC) (Co:=rZ) (pl:=Ty.place) (mX:=Prod.snd) (fun t:Ty=>(t.name,t.place)) (fun y x=>Iff.rfl) (fun x=>rfl) q ts [];have e2:=ik.map (like:=Gv) (Co:=fun (y x:aei×aei×Nat)=>y.1=x.1∧y.2.1=x.2.1) (pl:=RV.pl) (mX:=fun x=>x.2.2) tri (fun y x=>Iff.rfl) (fun x=>rfl) q rl [];have e3:=ik.map (like:=vC) (Co:=fun (y x:aei×aei×Nat)=>y.1=x.1∧y.2.1=x.2.1) (pl:=Sj) (mX:=fun x=>x.2.2) YD (fun y x=>Iff.rfl) (fun x=>rfl) q (aR ts) [];rw [dE.tri rl _ h.2] at e2;rw [h.1];simp only [List.map_nil] at e1 e2 e3
 show ik zC Ty.place [] ts q∨ik vC Sj (aR []) (aR ts) q↔_
 rw [show aR []=[] from rfl,e1,e3,e2]
def jv (P:Nat→Nat) (lo hi:Nat) (l:List Nat):Prop:=∃ks:List Nat,l=ks.map P∧ks.Pairwise (· < ·)∧∀k∈ks,lo≤k∧k<hi
theorem jv.nil (P:Nat→Nat) (lo hi:Nat):jv P lo hi []:=⟨[],rfl,by simp,by simp⟩
theorem jv.one (P:Nat→Nat) {lo hi k:Nat} (h1:lo≤k) (h2:k<hi):jv P lo hi [P k]:=⟨[k],rfl,by simp,by simp;omega⟩
theorem jv.app {P:Nat→Nat} {lo mid hi:Nat} {l1 l2:List Nat} (h:jv P lo mid l1) (k:jv P mid hi l2) (h1:lo≤mid) (h2:mid≤hi):jv P lo hi (l1++l2):=by
 obtain ⟨a,rfl,a1,a2⟩:=h;obtain ⟨c,rfl,c1,c2⟩:=k;refine ⟨a++c,by rw [List.map_append],?_,?_⟩
 ·rw [List.pairwise_append];exact ⟨a1,c1,fun x hx y hy=>by have:=(a2 x hx).2;have:=(c2 y hy).1;omega⟩
 ·intro x hx
  rcases List.mem_append.1 hx with hx|hx
  ·have:=a2 x hx;omega
  ·have:=c2 x hx;omega
theorem jv.wide {P:Nat→Nat} {lo hi lo' hi':Nat} {l:List Nat} (h:jv P lo hi l) (h1:lo'≤lo) (h2:hi≤hi'):jv P lo' hi' l:=by
 obtain ⟨a,rfl,a1,a2⟩:=h;exact ⟨a,rfl,a1,fun x hx=>by have:=a2 x hx;omega⟩
theorem jv.sorted {P:Nat→Nat} {lo hi:Nat} {l:List Nat} (h:jv P lo hi l) (hP:∀i j,i<j→j<hi→P i<P j):l.Pairwise (· < ·):=by
 obtain ⟨a,rfl,a1,a2⟩:=h;rw [List.pairwise_map];refine List.Pairwise.imp_of_mem (fun {x y} hx hy hxy=>hP x y hxy (a2 y hy).2) a1
section
variable (T:Nat→aei) (P:Nat→Nat)
theorem zF (i:Nat) (r:Rl) (j:Nat) (h:pJ T P i=.ok (r,j)):r.place=P i∧i<j:=by
 refine ⟨?_,nP T P _ _ _ h⟩;unfold pJ at h
 split at h
 ·simp at h
 ·split at h
  ·simp at h
  ·split at h
   ·simp only [Except.ok.injEq,Prod.mk.injEq] at h;rw [←h.1]
   ·simp at h
theorem Cs:∀(f:Nat) (acc:List Rl) (i:Nat) (rs:List Rl) (m:Nat),dP T P f acc i=.ok (rs,m)→∃new,rs=acc++new∧i<m∧jv P i m (new.map fun r=>r.place)
 |0,acc,i,rs,m,h=>by simp [dP] at h
 |f+1,acc,i,rs,m,h=>by
  unfold dP at h
  split at h
  ·simp only [Except.ok.injEq,Prod.mk.injEq] at h;obtain ⟨rfl,rfl⟩:=h;exact ⟨[],by simp,by omega,jv.nil _ _ _⟩
  ·split at h
   ·simp at h
   ·split at h
    ·simp at h
    ·rename_i r j hr;obtain ⟨h1,h2⟩:=zF T P i r j hr;obtain ⟨new,rfl,h3,h4⟩:=Cs f _ _ _ _ h;refine ⟨r::new,by simp,by omega,?_⟩;have:=(jv.one P (lo:=i) (hi:=j) (Nat.le_refl i) h2).app h4 (by omega) (by omega);rw [List.map_cons,h1];exact this
theorem tV:∀(f:Nat) (acc:List Ty) (i:Nat) (ts:List Ty) (m:Nat),dR T P f acc i=.ok (ts,m)→∃new,ts=acc++new∧i≤m∧jv P i m (jk new)
 |0,acc,i,ts,m,h=>by simp [dR] at h
 |f+1,acc,i,ts,m,h=>by
  unfold dR at h
  split at h
  ·simp only [Except.ok.injEq,Prod.mk.injEq] at h;obtain ⟨rfl,rfl⟩:=h;exact ⟨[],by simp,by omega,jv.nil _ _ _⟩
  ·split at h
   ·simp at h
   ·split at h
    ·simp at h
    ·rename_i t j ht;obtain ⟨new,rfl,h3,h4⟩:=tV f _ _ _ _ h;rw [mF] at ht
     split at ht
     ·unfold pG at ht
      split at ht
      ·simp at ht
      ·rename_i u j1 hn;have hm:=iq T _ _ _ _ hn
       split at ht
       ·simp at ht
       ·rename_i rs j2 hrs;simp only [Except.ok.injEq,Prod.mk.injEq] at ht;obtain ⟨rfl,rfl⟩:=ht;obtain ⟨rn,e,h5,h6⟩:=Cs T P _ _ _ _ _ hrs;rw [List.nil_append] at e;subst e;refine ⟨⟨T (i+1),P (i+1),rs⟩::new,by simp,by omega,?_⟩;have a1:=jv.one P (lo:=i) (hi:=j1) (k:=i+1) (by omega) (by omega);have a2:=(a1.app h6 (by omega) (by omega)).app h4 (by omega) (by omega)
        simpa [jk] using a2
     ·simp at ht
def nJ:Ex→List Nat
 |⟨n,some x,some y⟩=>nJ x++n.place::nJ y
 |⟨_,none,_⟩=>[]
 |⟨_,some _,none⟩=>[]
def NF (r:Nat→dM Ex):Prop:=∀i x j,r i=.ok (x,j)→jv P i j (nJ x)
theorem Ct (l:List aei) (part:Nat→dM Ex) (hm:lM part) (hp:NF P part):∀f y i0 i x j,joinL T P l part f y i=.ok (x,j)→i0≤i→jv P i0 i (nJ y)→jv P i0 j (nJ x)
 |0,y,i0,i,x,j,h,_,_=>by simp [joinL] at h
 |f+1,y,i0,i,x,j,h,h0,ha=>by
  unfold joinL at h
  split at h
  ·split at h
   ·simp at h
   ·rename_i z j1 hz;have h1:=hm _ _ _ hz;refine Ct l part hm hp f _ i0 j1 x j h (by omega) ?_;simp only [jZ,nJ];have a1:=ha.app (jv.one P (lo:=i) (hi:=i+1) (Nat.le_refl i) (by omega)) h0 (by omega);have a2:=a1.app (hp _ _ _ hz) (by omega) (by omega)
    simpa using a2
  ·simp only [Except.ok.injEq,Prod.mk.injEq] at h;obtain ⟨rfl,rfl⟩:=h;exact ha
theorem ru (l:List aei) (part:Nat→dM Ex) (hm:lM part) (hp:NF P part):NF P (gJ T P l part):=by
 intro i x j h;unfold gJ at h
 split at h
 ·simp at h
 ·rename_i y j1 hy;have h1:=hm _ _ _ hy;exact Ct T P l part hm hp _ _ i j1 x j h (by omega) (hp _ _ _ hy)
theorem Cu (room:Bool) (inner:Nat→dM Ex) (hm:lM inner) (hp:NF P inner):NF P (gY T P room inner):=by
 intro i x j h;unfold gY at h
 split at h
 ·unfold pR at h
  split at h
  ·simp at h
  ·simp only [Except.ok.injEq,Prod.mk.injEq] at h;rw [←h.1];exact jv.nil _ _ _
 ·split at h
  ·split at h
   ·split at h
    ·simp at h
    ·rename_i y j1 hy;have h1:=hm _ _ _ hy
     split at h
     ·simp only [Except.ok.injEq,Prod.mk.injEq] at h;obtain ⟨rfl,rfl⟩:=h;exact (hp _ _ _ hy).wide (by omega) (by omega)
     ·simp at h
   ·simp at h
  ·unfold lW at h
   split at h
   ·simp at h
   ·split at h
    ·split at h
     ·simp at h
     ·simp only [Except.ok.injEq,Prod.mk.injEq] at h;rw [←h.1];exact jv.nil _ _ _
    ·simp only [Except.ok.injEq,Prod.mk.injEq] at h;rw [←h.1];exact jv.nil _ _ _
theorem Cv:∀n,NF P (gZ T P n)
 |0=>ru T P _ _ (jA T P false _ (fun i x j h=>by simp at h)) (ru T P _ _ (lZ T P false _ (fun i x j h=>by simp at h)) (Cu T P false _ (fun i x j h=>by simp at h) (fun i x j h=>by simp at h)))
 |n+1=>ru T P _ _ (jA T P true _ (jm T P n)) (ru T P _ _ (lZ T P true _ (jm T P n)) (Cu T P true _ (jm T P n) (Cv n)))
end
def YE (rl:List RV) (pl:List PV) (aW:Nat→List Nat):Prop:=∀x∈rl,ji pl x.ex (aW x.ex)∧(aW x.ex).length≤1000∧∀n∈aW x.ex,∃p,pl[n]? =some p∧p.gs.length≤1000
def vD (rl:List RV) (pl:List PV) (bz:Nat→List Gr):Prop:=∀r,r<rl.length→GrC rl pl r (bz r)∧(bz r).length≤1000000
def vE (kl:List (aei×Nat)) (rl:List RV) (pl:List PV) (bz:Nat→List Gr) (kd:aei) (n:Nat):Option Nat:=match pl[n]? with
 |some p=>J7 kl rl bz kd p
 |none=>none
def nK (kl:List (aei×Nat)) (rl:List RV) (pl:List PV) (bz:Nat→List Gr) (aW:Nat→List Nat):Option Nat:=rl.findSome? fun x=>(aW x.ex).findSome? (vE kl rl pl bz x.kd)
theorem Ka (b:Nat) (kv rv pv:Value) (kl:List (aei×Nat)) (rl:List RV) (pl:List PV) (l:List PX) (bz:Nat→List Gr) (aW:Nat→List Nat) (w:World) (h:DM w b kv rv pv kl rl pl l) (hG:vD rl pl bz) (hL:YE rl pl aW):
  Calls Tryz.prog 129 #[.pointer (some ⟨b,5,none⟩)] w fun e w'=>e=.returned (.int .i64 (nI (nK kl rl pl bz aW)))∧Below w.heap.size w w':=by
 obtain ⟨ra,rc,rfl⟩:=au h.rt;have HD:=af h;have HG:=af hG;have HL:=af hL;have IM:=h.rn;have V9:=h.pn;generalize hR:nK kl rl pl bz aW=R;have HR:=af (show ((rl.drop 0).findSome? fun x=>(aW x.ex).findSome? (vE kl rl pl bz x.kd))=R from hR);clear h hG hL hR;go_enter Tryz.func129,Tryz.ntmps129;go_wp2_with fail
 go_loopw [3] (fun u3 wr=>∃(i:Nat),i≤rl.length∧u3=.int .i64 i∧Below w.heap.size w wr∧Hid (((rl.drop i).findSome? fun x=>(aW x.ex).findSome? (vE kl rl pl bz x.kd))=R)) (fun u3 _=>rl.length-(intOf u3).toNat)
 case atStart=>exact ⟨0,by omega,rfl,Below.refl _ _,HR⟩
 case round=>
  clear HR;obtain ⟨i,hi,rfl,hb,HQ⟩:=hrel;have c6:=((ae HD).below hb).c6;have HB:=af hb;have hwr:=hb.size
  by_cases hlt:i<rl.length
  ·have hkn:(i:Int)<(rl.length:Int):=by omega
   obtain ⟨gr,cr,e1,x0,x1,x2,x3⟩:=((ae HD).below hb).rat i rl[i] (aeh hlt);simp only [Value.slice.injEq,true_and] at e1;obtain ⟨rfl,rfl⟩:=e1;have hq:=ae HQ;rw [List.drop_eq_getElem_cons hlt,List.findSome?_cons] at hq;obtain ⟨hlc,hll,IL⟩:=ae HL _ (List.getElem_mem hlt);have HX:=af (aeh hlt);generalize rl[i]=x at*;have C:=af (hlc b kv _ pv kl rl l wr ((ae HD).below hb));generalize hlv:aW x.ex=lv at*;clear hlv;have Pp:=af IL;generalize hN:lv.findSome? (vE kl rl pl bz x.kd)=R1 at hq;have HN:=af (show (lv.drop 0).findSome? (vE kl rl pl bz x.kd)=R1 from hN);have qN:=af hq;clear hb HQ hq hlc IL hN;go_wp2_with fail;refine (ae C).mono ?_;rintro e w1 ⟨sv,rfl,hb1,hs1⟩;obtain ⟨la,lc,rfl⟩:=au hs1;have B1:=af ((ae HB).trans (hb1.mono hwr));have AU:=af hs1;have hw1:=hb1.size;clear hb1 hs1 C x0 x1 x2 x3 c6;go_wp2_with fail
   go_loopw [5] (fun u5 wi=>∃(k:Nat),k≤lv.length∧u5=.int .i64 k∧Below w1.heap.size w1 wi∧Hid ((lv.drop k).findSome? (vE kl rl pl bz x.kd)=R1)) (fun u5 _=>lv.length-(intOf u5).toNat)
   case atStart=>exact ⟨0,by omega,rfl,Below.refl _ _,HN⟩
   case round=>
    clear HN;obtain ⟨k,hk,rfl,hb,HI⟩:=hrel;have hB:=(ae B1).trans (hb.mono (ae B1).size);have uM:=af hb;have pK:=af hB;have IQ:=hB.size
    by_cases vB:k<lv.length
    ·have zw:(k:Int)<(lv.length:Int):=by omega
     have hd:=(ae HD).below hB;have c6:=hd.c6;have c7:=hd.c7;obtain ⟨gr',cr',e1,x0,x1,x2,x3⟩:=hd.rat i x (ae HX);simp only [Value.slice.injEq,true_and,Option.some.injEq,Addr.mk.injEq,and_true] at e1;obtain ⟨rfl,rfl⟩:=e1;obtain ⟨q,cq,e1,kc⟩:=aK (ay (ae AU) hb) k (.int .i64 (lv[k]:Nat)) (by simp [aeh vB]);simp only [Value.slice.injEq,true_and] at e1;obtain ⟨rfl,rfl⟩:=e1;have hq:=ae HI;rw [List.drop_eq_getElem_cons vB,List.findSome?_cons] at hq;obtain ⟨p,hp,hpg⟩:=ae Pp _ (List.getElem_mem vB);generalize lv[k]=m at*;obtain ⟨gp,cp,ga,gc,pa,pc,sa,sc,hpv,hr,q0,q1,q2,q3,q4,q5,q6,q7⟩:=hd.pat m p hp;have hm:=(List.getElem?_eq_some_iff.1 hp).1;have hm':(m:Int)<(pl.length:Int):=by omega
     have hu:vE kl rl pl bz x.kd m=J7 kl rl bz x.kd p:=by unfold vE;rw [hp]
     rw [hu] at hq;have lw:=af hq;have HRP:=af hr;have HDD:=af hd;rw [hpv] at c7;have HPV:=af hpv;clear hb hB hd hr HI hq hp hu hpv;have CU:=af (Gs b kv _ pv kl rl pl l bz x.kd p ga gc pa pc sa sc wr.drew ((ae HDD).below (Below.refl _ _).drew) (ae HG) ⟨bK (ae HRP).g,bK (ae HRP).p,bK (ae HRP).s⟩ (by omega));generalize J7 kl rl bz x.kd p=U at*;go_wp2_with fail
     cases U with
     |some at_=>
      unfold nI at CU;simp only at CU
      go_region_held3 (fun w'=>w'.cell? ⟨b,6,none⟩=some (.slice (some ⟨gr,0,none⟩) rl.length rc)∧w'.cell? ⟨gr,i*4,none⟩=some (.string x.kd)∧w'.cell? ⟨b,7,none⟩=some (.slice (some ⟨gp,0,none⟩) pl.length cp)∧w'.cell? ⟨q,k,none⟩=some (.int .i64 m)∧w'.cell? ⟨gp,m*8,none⟩=some (.int .i64 p.kind)∧w'.cell? ⟨gp,m*8+1,none⟩=some (.slice ga p.gs.length gc)∧w'.cell? ⟨gp,m*8+2,none⟩=some (.string p.nb)∧w'.cell? ⟨gp,m*8+3,none⟩=some (.string p.nr)∧w'.cell? ⟨gp,m*8+4,none⟩=some (.int .i64 p.pa)∧w'.cell? ⟨gp,m*8+5,none⟩=some (.int .i64 p.pr)∧w'.cell? ⟨gp,m*8+6,none⟩=some (.slice pa p.ps.length pc)∧w'.cell? ⟨gp,m*8+7,none⟩=some (.slice sa p.sg.length sc)) (go_keep)
       ((go_at_call 192;refine (ae CU).mono ?_;rintro e w5 ⟨rfl,bV⟩;have BB:Below wr.heap.size wr w5:=(Below.refl _ wr).drew.trans bV;have d0:=ag c6 BB;have d1:=ag x0 BB;have d2:=ag c7 BB;have d3:=ag kc BB;have d4:=ag q0 BB;have d5:=ag q1 BB;have d6:=ag q2 BB;have d7:=ag q3 BB;have d8:=ag q4 BB;have d9:=ag q5 BB;have d10:=ag q6 BB;have d11:=ag q7 BB;have B5:=af ((ae pK).trans (BB.mono IQ));have B6:=af ((ae uM).trans (BB.mono (ae uM).size));clear bV BB))
      have og:=af (show some at_=R from by
       have h2:=ae qN;rw [←ae lw] at h2;exact h2)
      have h0:(0:Int)≤(at_:Int):=by omega
      go_wp2;go_ret;exact ⟨by rw [←ae og];rfl,ae B5⟩
     |none=>
      unfold nI at CU;simp only at CU
      go_region_held3 (fun w'=>w'.cell? ⟨b,6,none⟩=some (.slice (some ⟨gr,0,none⟩) rl.length rc)∧w'.cell? ⟨gr,i*4,none⟩=some (.string x.kd)∧w'.cell? ⟨b,7,none⟩=some (.slice (some ⟨gp,0,none⟩) pl.length cp)∧w'.cell? ⟨q,k,none⟩=some (.int .i64 m)∧w'.cell? ⟨gp,m*8,none⟩=some (.int .i64 p.kind)∧w'.cell? ⟨gp,m*8+1,none⟩=some (.slice ga p.gs.length gc)∧w'.cell? ⟨gp,m*8+2,none⟩=some (.string p.nb)∧w'.cell? ⟨gp,m*8+3,none⟩=some (.string p.nr)∧w'.cell? ⟨gp,m*8+4,none⟩=some (.int .i64 p.pa)∧w'.cell? ⟨gp,m*8+5,none⟩=some (.int .i64 p.pr)∧w'.cell? ⟨gp,m*8+6,none⟩=some (.slice pa p.ps.length pc)∧w'.cell? ⟨gp,m*8+7,none⟩=some (.slice sa p.sg.length sc)) (go_keep)
       ((go_at_call 192;refine (ae CU).mono ?_;rintro e w5 ⟨rfl,bV⟩;have BB:Below wr.heap.size wr w5:=(Below.refl _ wr).drew.trans bV;have d0:=ag c6 BB;have d1:=ag x0 BB;have d2:=ag c7 BB;have d3:=ag kc BB;have d4:=ag q0 BB;have d5:=ag q1 BB;have d6:=ag q2 BB;have d7:=ag q3 BB;have d8:=ag q4 BB;have d9:=ag q5 BB;have d10:=ag q6 BB;have d11:=ag q7 BB;have B5:=af ((ae pK).trans (BB.mono IQ));have B6:=af ((ae uM).trans (BB.mono (ae uM).size));clear bV BB))
      go_wp2;go_roundw
      case rel=>exact ⟨k+1,by omega,by go_num,ae B6,af (ae lw)⟩
      case measure=>simp [intOf];omega
    ·have zw:¬((k:Int)<(lv.length:Int)):=by omega
     have hq:=ae HI;rw [List.drop_of_length_le (by omega),List.findSome?_nil] at hq;have lJ:=ae qN;rw [←hq] at lJ;simp only at lJ;have HQ4:=af lJ;clear hb hB HI hq lJ;go_wp2;go_roundw
     case rel=>exact ⟨i+1,by omega,by go_num,ae pK,HQ4⟩
     case measure=>simp [intOf];omega
  ·have hkn:¬((i:Int)<(rl.length:Int)):=by omega
   have hq:=ae HQ;rw [List.drop_of_length_le (by omega),List.findSome?_nil] at hq;have og:=af hq;clear hb HQ hq;go_wp2;go_ret;exact ⟨by rw [←ae og];rfl,ae HB⟩
def dL (rl:List RV) (g:Gr):List Nat:=if 0≤aQ g.ty (bB g) rl 0 then [(aQ g.ty (bB g) rl 0).toNat] else []
def iT (rl:List RV) (bz:Nat→List Gr) (kd:aei) (p:PV):List Nat:=p.gs.flatMap (dL rl)++(if p.kind=2 then [(aQ kd p.nr rl 0).toNat] else if p.kind=3 then gM rl p.nr (bz (aQ kd p.nb rl 0).toNat) else [])
def wo (F:PV→List Nat) (pl:List PV) (m:Nat):List Nat:=match pl[m]? with
 |some p=>F p
 |none=>[]
theorem QU (rl:List RV) (g:Gr):(dL rl g).length≤1:=by unfold dL;split<;>simp
theorem lN {w W w5:World} {B size n:Nat} {E:TypeId} {v:Value} {xs:List Value} (hB:Below w.heap.size w W) (hb:w.heap.size≤B) (k:W.ownsRow B E size v n xs) (hg:W.grownBy w5 v.ownBlock):Below w.heap.size w w5:=Below.grown hB hg hB.size (fun j hj=>Nat.le_trans hb (k.lt j hj).1)
theorem rA {W w5:World} {g:Nat} {cs:Array Value} {T E:TypeId} {base size n:Nat} {v:Value} {xs:List Value} (h:ai W g cs T) (k:W.ownsRow base E size v n xs) (hg:W.grownBy w5 v.ownBlock) (hne:T≠E):ai w5 g cs T:=(hg.block g h.lt (own_ne k h hne)).trans h
theorem zG (b:Nat) (kv rv pv:Value) (kl:List (aei×Nat)) (rl:List RV) (pl:List PV) (l:List PX) (bz:Nat→List Gr) (kd:aei) (n:Nat) (lv:List Nat) (T:List Nat) (w:World) (h:DM w b kv rv pv kl rl pl l) (hG:vD rl pl bz) (hL:ji pl n lv) (hll:lv.length≤1000)
  (IL:∀m∈lv,∃p,pl[m]? =some p∧p.gs.length≤1000∧(p.kind=2→0≤aQ kd p.nr rl 0)∧(p.kind=3→0≤aQ kd p.nb rl 0)) (hT:lv.flatMap (wo (iT rl bz kd) pl)=T) (hTl:T.length≤1000000000):
  Calls Tryz.prog 232 #[.pointer (some ⟨b,5,none⟩),.string kd,.int .i64 n] w fun e w'=>∃sv,e=.returned sv∧Below w.heap.size w w'∧w'.ownsRow w.heap.size 3 1 sv T.length (T.map fun n:Nat=> .int .i64 n):=by
 obtain ⟨iI,hi1,hy0,hy1,hy2⟩:=info_parts Tryz.infoInt;have II:=af hi1;have xe:=af hy0;have xg:=af hy1;have xh:=af hy2;clear hi1 hy0 hy1 hy2;have HD:=af h;have HG:=af hG;have Pp:=af IL;have HT:=af hT;have IM:=h.rn;have V9:=h.pn;have C:=af (hL b kv rv pv kl rl l w h);clear h hG hL IL hT;go_enter Tryz.func232,Tryz.ntmps232;go_wp2_with fail;refine (ae C).mono ?_;rintro e w1 ⟨sv,rfl,hb1,hs1⟩;obtain ⟨la,lc,rfl⟩:=au hs1;have B1:=af hb1;have Ap:=hb1.size;have AU:=af hs1;clear hb1 hs1 C;go_wp2_with fail
 go_loopw [7,9] (fun u7 u9 wr=>∃(i:Nat) (fv:List Nat) (fa:Option Addr) (fc:Nat),i≤lv.length∧u9=.int .i64 i∧u7=.slice fa fv.length fc∧Below w.heap.size w wr∧Below w1.heap.size w1 wr∧wr.ownsRow w1.heap.size 3 1 (.slice fa fv.length fc) fv.length (fv.map fun n:Nat=> .int .i64 n)∧Hid (fv=(lv.take i).flatMap (wo (iT rl bz kd) pl))) (fun _ u9 _=>lv.length-(intOf u9).toNat)
 case atStart=>exact ⟨0,[],none,0,by omega,rfl,rfl,ae B1,Below.refl _ _,World.ownsRow_nil _ _ _ _,af (by simp)⟩
 case round=>
  obtain ⟨i,fv,fa,fc,hi1,rfl,rfl,hb,bF,hrow,HF⟩:=hrel;have HB:=af hb;have pK:=af bF;have iL:=af hrow;have hwr:=hb.size;have QV:=bF.size
  by_cases hlt:i<lv.length
  ·obtain ⟨q,cq,e1,kc⟩:=aK (ay (ae AU) bF) i (.int .i64 (lv[i]:Nat)) (by simp [aeh hlt]);simp only [Value.slice.injEq,true_and] at e1;obtain ⟨rfl,rfl⟩:=e1;obtain ⟨p,hp,hpg,hp2,hp3⟩:=ae Pp _ (List.getElem_mem hlt);have rR:=af (jG (wo (iT rl bz kd) pl) lv i _ (aeh hlt));have hle:=mZ (wo (iT rl bz kd) pl) lv (i+1);rw [ae rR,←ae HF,List.length_append,ae HT] at hle;have hkn:(i:Int)<(lv.length:Int):=by omega
   generalize lv[i]=m at*;have hd:=(ae HD).below hb;obtain ⟨gp,cp,ga,gc,pa,pc,sa,sc,hpv,hr,q0,q1,q2,q3,q4,q5,q6,q7⟩:=hd.pat m p hp;have hm:=(List.getElem?_eq_some_iff.1 hp).1;have hm':(m:Int)<(pl.length:Int):=by omega
   have hat:wo (iT rl bz kd) pl m=iT rl bz kd p:=by unfold wo;rw [hp]
   rw [hat] at rR hle;have c7:=hd.c7;rw [hpv] at c7;have HRG:=af hr.g;have HP2:=af hp2;have HP3:=af hp3;have m7:=World.new_ne wr _ c7;have mk:=World.new_ne wr _ kc;have mq:=World.new_ne wr _ q0;clear hb bF hrow hd hr hp hpv hat hp2 hp3;go_wp2_with fail
   go_region_held3 (fun w'=>w'.cell? ⟨b,7,none⟩=some (.slice (some ⟨gp,0,none⟩) pl.length cp)∧w'.cell? ⟨q,i,none⟩=some (.int .i64 m)∧w'.cell? ⟨gp,m*8,none⟩=some (.int .i64 p.kind)∧w'.cell? ⟨gp,m*8+1,none⟩=some (.slice ga p.gs.length gc)∧w'.cell? ⟨gp,m*8+2,none⟩=some (.string p.nb)∧w'.cell? ⟨gp,m*8+3,none⟩=some (.string p.nr)∧w'.cell? ⟨gp,m*8+4,none⟩=some (.int .i64 p.pa)∧w'.cell? ⟨gp,m*8+5,none⟩=some (.int .i64 p.pr)∧w'.cell? ⟨gp,m*8+6,none⟩=some (.slice pa p.ps.length pc)∧w'.cell? ⟨gp,m*8+7,none⟩=some (.slice sa p.sg.length sc)) (go_keep) (fail)
   rename_i hh;clear hh q0 q1 q2 q3 q4 q5 q6 q7 c7 kc m7 mk mq;have b2:Below wr.heap.size wr ((wr.alloc (.cells #[.int .i64 p.kind,.slice ga p.gs.length gc,.string p.nb,.string p.nr,.int .i64 p.pa,.int .i64 p.pr,.slice pa p.ps.length pc,.slice sa p.sg.length sc] 255)).drew):=((Below.refl _ wr).alloc aeg _).drew;have NE:=af (ai.new wr #[.int .i64 p.kind,.slice ga p.gs.length gc,.string p.nb,.string p.nr,.int .i64 p.pa,.int .i64 p.pr,.slice pa p.ps.length pc,.slice sa p.sg.length sc] 255).drew;have B2:=af ((ae HB).trans (b2.mono hwr));have nX:=af ((ae pK).trans (b2.mono QV));have R2:=af (ay (ae iL) b2);have RG2:=af (ay (ae HRG) b2);clear b2 HB pK iL HRG;go_wp2_with fail;generalize (wr.alloc (.cells #[.int .i64 p.kind,.slice ga p.gs.length gc,.string p.nb,.string p.nr,.int .i64 p.pa,.int .i64 p.pr,.slice pa p.ps.length pc,.slice sa p.sg.length sc] 255)).drew=W2 at*;generalize wr.heap.size=pb at*;have hhl:(iT rl bz kd p).length=(p.gs.flatMap (dL rl)).length+(if p.kind=2 then [(aQ kd p.nr rl 0).toNat] else if p.kind=3 then gM rl p.nr (bz (aQ kd p.nb rl 0).toNat) else []).length:=by unfold iT;rw [List.length_append]
   have HHL:=af hhl;clear hhl
   go_loopw [7,11] (fun u7 u11 wi=>∃(k:Nat) (f2:List Nat) (fa:Option Addr) (fc:Nat),k≤p.gs.length∧u11=.int .i64 k∧u7=.slice fa f2.length fc∧Below w.heap.size w wi∧Below w1.heap.size w1 wi∧ai wi pb #[.int .i64 p.kind,.slice ga p.gs.length gc,.string p.nb,.string p.nr,.int .i64 p.pa,.int .i64 p.pr,.slice pa p.ps.length pc,.slice sa p.sg.length sc] 255∧wi.ownsRow 0 257 4 (.slice ga p.gs.length gc) p.gs.length (p.gs.flatMap aJ)∧wi.ownsRow w1.heap.size 3 1 (.slice fa f2.length fc) f2.length (f2.map fun n:Nat=> .int .i64 n)∧Hid (f2=fv++(p.gs.take k).flatMap (dL rl))) (fun _ u11 _=>p.gs.length-(intOf u11).toNat)
   case atStart=>exact ⟨0,fv,fa,fc,by omega,rfl,rfl,ae B2,ae nX,ae NE,ae RG2,ae R2,af (by simp)⟩
   case round=>
    clear B2 nX NE RG2 R2 hwr QV;obtain ⟨k,f2,fa,fc,hk1,rfl,rfl,hb,bF,hpb,hgr,hrow,J6⟩:=hrel;have HB:=af hb;have pK:=af bF;have wM:=af hpb;have Au:=af hgr;have iL:=af hrow;have IQ:=hb.size;have Kb:=bF.size;obtain ⟨p0,p1,p2,p3,p4,p5,p6,p7⟩:=hpb.eight;have pl0:=hpb.lt
    by_cases vB:k<p.gs.length
    ·obtain ⟨gg,cg,e1,hc⟩:=bP aJ 4 (fun _=>rfl) hgr k p.gs[k] (aeh vB);simp only [Value.slice.injEq,true_and] at e1;obtain ⟨rfl,rfl⟩:=e1;have YF:=af (jG (dL rl) p.gs k _ (aeh vB));have NG:=mZ (dL rl) p.gs (k+1);have hf2:=congrArg List.length (ae J6);rw [ae YF,List.length_append] at NG;rw [List.length_append] at hf2;have zw:(k:Int)<(p.gs.length:Int):=by omega
     generalize p.gs[k]=x at*;have k0:wr.cell? ⟨gg,k*4,none⟩=some (.string x.ty):=hc 0 _ (by omega) rfl;have k1:wr.cell? ⟨gg,k*4+1,none⟩=some (.string (bB x)):=hc 1 _ (by omega) rfl;have C:=af (gT b kv rv pv kl rl pl l x.ty (bB x) wr.drew ((ae HD).below ((ae HB).trans ((Below.refl _ _).drew.mono IQ))));have AV:f2.length+(dL rl x).length≤1000000000:=by have:=ae HHL;omega
     clear hb bF hpb hgr hrow hc hf2 NG
     rcases cK x.ty (bB x) rl 0 with hfi|⟨j,hfi,Oz,OE⟩
     ·rw [hfi] at C;have IR:dL rl x=[]:=by unfold dL;rw [hfi];simp
      have NH:=af (show f2=fv++(p.gs.take (k+1)).flatMap (dL rl) from by rw [ae YF,IR,List.append_nil];exact ae J6);clear IR hfi;go_wp2_with fail
      go_region_held3 (fun w'=>w'.cell? ⟨pb,1,none⟩=some (.slice (some ⟨gg,0,none⟩) p.gs.length gc)∧w'.cell? ⟨gg,k*4,none⟩=some (.string x.ty)∧w'.cell? ⟨gg,k*4+1,none⟩=some (.string (bB x))) (go_keep)
       ((go_at_call 132;refine (ae C).mono ?_;rintro e w5 ⟨rfl,bV⟩;have BB:=af (show Below wr.heap.size wr w5 from (Below.refl _ wr).drew.trans bV);have d0:=ag p1 (ae BB);have d1:=ag k0 (ae BB);have d2:=ag k1 (ae BB);clear bV))
      clear p0 p1 p2 p3 p4 p5 p6 p7 k0 k1 d0 d1 d2 C;have B6:=af ((ae HB).trans ((ae BB).mono IQ));have wZ:=af ((ae pK).trans ((ae BB).mono Kb));have IU:=af ((ae wM).below (ae BB));have G6:=af (ay (ae Au) (ae BB));have R6:=af (ay (ae iL) (ae BB));clear HB pK wM Au iL;go_wp2;go_roundw
      case rel=>exact ⟨k+1,f2,fa,fc,by omega,by go_num,rfl,ae B6,ae wZ,ae IU,ae G6,ae R6,NH⟩
      case measure=>simp [intOf];omega
     ·rw [hfi] at C;have IR:dL rl x=[j]:=by unfold dL;rw [hfi];simp
      rw [IR] at AV;simp only [List.length_cons,List.length_nil] at AV;have NH:=af (show f2++[j]=fv++(p.gs.take (k+1)).flatMap (dL rl) from by rw [ae YF,IR,←List.append_assoc,←ae J6]);have YC:(0:Int)≤(j:Int):=by omega
      clear IR hfi;go_wp2_with fail
      go_region_held3 (fun w'=>w'.cell? ⟨pb,1,none⟩=some (.slice (some ⟨gg,0,none⟩) p.gs.length gc)∧w'.cell? ⟨gg,k*4,none⟩=some (.string x.ty)∧w'.cell? ⟨gg,k*4+1,none⟩=some (.string (bB x))) (go_keep)
       ((go_at_call 132;refine (ae C).mono ?_;rintro e w5 ⟨rfl,bV⟩;have BB:=af (show Below wr.heap.size wr w5 from (Below.refl _ wr).drew.trans bV);have d0:=ag p1 (ae BB);have d1:=ag k0 (ae BB);have d2:=ag k1 (ae BB);clear bV))
      clear p0 p1 p2 p3 p4 p5 p6 p7 k0 k1 d0 d1 d2 C;have B6:=af ((ae HB).trans ((ae BB).mono IQ));have wZ:=af ((ae pK).trans ((ae BB).mono Kb));have IU:=af ((ae wM).below (ae BB));have G6:=af (ay (ae Au) (ae BB));have R6:=af (ay (ae iL) (ae BB));have ML:=(ae B6).size;have Kc:=(ae wZ).size;clear HB pK wM Au iL;go_wp2_with (at_builtin;go_must (refine wpList_append_lies _ rfl _ _ 29 rfl w1.heap.size 3 iI _ 1 8 Tryz.underlying29 (ae II) (ae xe) (ae xg) (ae xh) rfl (by decide) (.slice fa f2.length fc) f2.length (f2.map fun n:Nat=> .int .i64 n) rfl ((ae R6).alloc _) ⟨w5.heap.size,0,none⟩ 1 1 [.int .i64 j] rfl rfl ?mf ?nS (by decide) ?oC ?dX ?mg (w5.heap.size+1) ?Pg ?kw))
      case mf=>exact World.news_of_block (B:=w5.heap.size) (cs:=#[.int .i64 j]) (t:=3) (fr:=(0,0)) (ai.new' _ _ _ _ rfl)
      case nS=>
       intro u hu;simp only [List.mem_cons,List.not_mem_nil,or_false] at hu
       rcases hu with rfl
       rfl
      case oC=>unfold maxLen;omega
      case dX=>omega
      case mg=>simp;omega
      case Pg=>simp
      intro g5 aD w6 aC aj aP di;have B7:=af (lN ((ae B6).alloc ML _) Ap ((ae R6).alloc _) aj);have BW7:=af (fE ((ae wZ).alloc Kc _) ((ae R6).alloc _) aj);have YG:=af (rA ((ae IU).alloc _) ((ae R6).alloc _) aj (by decide));have G7:=af (rf ((ae G6).alloc _) ((ae R6).alloc _) aj (by decide));have O7:=af aC;clear aC aj aP di B6 wZ IU G6 R6;go_wp2;go_roundw
      case rel=>exact ⟨k+1,f2++[j],some ⟨g5,0,none⟩,aD,by omega,by go_num,by simp,ae B7,ae BW7,ae YG,ae G7,by simpa using ae O7,NH⟩
      case measure=>simp [intOf];omega
    ·have zw:¬((k:Int)<(p.gs.length:Int)):=by omega
     have hf2:f2=fv++p.gs.flatMap (dL rl):=by rw [ae J6,List.take_of_length_le (by omega)]
     have NH:=af hf2;have QW:=congrArg List.length hf2;rw [List.length_append] at QW;have AV:f2.length+(if p.kind=2 then [(aQ kd p.nr rl 0).toNat] else if p.kind=3 then gM rl p.nr (bz (aQ kd p.nb rl 0).toNat) else []).length≤1000000000:=by have:=ae HHL;omega
     clear hb bF hpb hgr hrow hf2 QW
     by_cases hk2:p.kind=2
     ·have e2:((p.kind:Int)==2)=true:=by rw [hk2];rfl
      have e3:((p.kind:Int)==3)=false:=by rw [hk2];rfl
      have h0:=ae HP2 hk2;obtain ⟨j,hfi,Oz,OE⟩:∃j:Nat,aQ kd p.nr rl 0=j∧0≤j∧j<0+rl.length:=by
       rcases cK kd p.nr rl 0 with hfi|h
       ·omega
       ·exact h
      rw [if_pos hk2] at AV;simp only [List.length_cons,List.length_nil] at AV;have YH:=af (show f2++[j]=(lv.take (i+1)).flatMap (wo (iT rl bz kd) pl) from by rw [ae rR,←ae HF,ae NH];unfold iT;simp [hk2,hfi]);have C:=af (gT b kv rv pv kl rl pl l kd p.nr wr ((ae HD).below (ae HB)));rw [hfi] at C;clear hk2 h0 hfi;go_wp2_with fail;refine (ae C).mono ?_;rintro e w5 ⟨rfl,bV⟩;have B6:=af ((ae HB).trans (bV.mono IQ));have wZ:=af ((ae pK).trans (bV.mono Kb));have IU:=af ((ae wM).below bV);have R6:=af (ay (ae iL) bV);have ML:=(ae B6).size;have Kc:=(ae wZ).size;clear bV C HB pK wM Au iL p0 p1 p2 p3 p4 p5 p6 p7;go_wp2_with (at_builtin;go_must (refine wpList_append_lies _ rfl _ _ 29 rfl w1.heap.size 3 iI _ 1 8 Tryz.underlying29 (ae II) (ae xe) (ae xg) (ae xh) rfl (by decide) (.slice fa f2.length fc) f2.length (f2.map fun n:Nat=> .int .i64 n) rfl ((ae R6).alloc _) ⟨w5.heap.size,0,none⟩ 1 1 [.int .i64 j] rfl rfl ?ky ?nU (by decide) ?vP ?iO ?kD (w5.heap.size+1) ?Mv ?nz))
      case ky=>exact World.news_of_block (B:=w5.heap.size) (cs:=#[.int .i64 j]) (t:=3) (fr:=(0,0)) (ai.new' _ _ _ _ rfl)
      case nU=>
       intro u hu;simp only [List.mem_cons,List.not_mem_nil,or_false] at hu
       rcases hu with rfl
       rfl
      case vP=>unfold maxLen;omega
      case iO=>omega
      case kD=>simp;omega
      case Mv=>simp
      intro g5 aD w6 aC aj aP di;have B7:=af (lN ((ae B6).alloc ML _) Ap ((ae R6).alloc _) aj);have BW7:=af (fE ((ae wZ).alloc Kc _) ((ae R6).alloc _) aj);have YG:=rA ((ae IU).alloc _) ((ae R6).alloc _) aj (by decide);obtain ⟨p0,p1,p2,p3,p4,p5,p6,p7⟩:=YG.eight;have pl7:=YG.lt;have O7:=af aC;clear aC aj aP di B6 wZ IU R6 YG;go_wp2;go_roundw
      case rel=>exact ⟨i+1,f2++[j],some ⟨g5,0,none⟩,aD,by omega,by go_num,by simp,ae B7,ae BW7,by simpa using ae O7,YH⟩
      case measure=>simp [intOf];omega
     ·by_cases hk3:p.kind=3
      ·have e2:((p.kind:Int)==2)=false:=by rw [hk3];rfl
       have e3:((p.kind:Int)==3)=true:=by rw [hk3];rfl
       have h0:=ae HP3 hk3;obtain ⟨j,hfi,Oz,OE⟩:∃j:Nat,aQ kd p.nb rl 0=j∧0≤j∧j<0+rl.length:=by
        rcases cK kd p.nb rl 0 with hfi|h
        ·omega
        ·exact h
       rw [if_neg hk2,if_pos hk3,hfi,Int.toNat_natCast] at AV;have YH:=af (show f2++gM rl p.nr (bz j)=(lv.take (i+1)).flatMap (wo (iT rl bz kd) pl) from by rw [ae rR,←ae HF,ae NH];unfold iT;simp [hk3,hfi]);have C:=af (gT b kv rv pv kl rl pl l kd p.nb wr ((ae HD).below (ae HB)));rw [hfi] at C;obtain ⟨hg1,hg2⟩:=ae HG j (by omega);have WP:=af hg1;clear hk2 hk3 h0 hfi hg1;generalize hTJ:gM rl p.nr (bz j)=TJ at*;go_wp2_with fail;refine (ae C).mono ?_;rintro e w5 ⟨rfl,bV⟩;have B6:=af ((ae HB).trans (bV.mono IQ));have wZ:=af ((ae pK).trans (bV.mono Kb));have IU:=af ((ae wM).below bV);have R6:=af (ay (ae iL) bV);have ML:=(ae B6).size;have Kc:=(ae wZ).size;clear bV C HB pK wM Au iL p0 p1 p2 p3 p4 p5 p6 p7;obtain ⟨p0,p1,p2,p3,p4,p5,p6,p7⟩:=(ae IU).eight;have pl6:=(ae IU).lt;have C2:=af (Cj b kv rv pv kl rl pl l j (bz j) p.nr w5 ((ae HD).below (ae B6)) (ae WP) hg2);rw [hTJ] at C2;clear hTJ;go_wp2_with fail;refine (ae C2).mono ?_;rintro e w8 ⟨sv,rfl,uU,Sb⟩;obtain ⟨ta,tc,rfl⟩:=au Sb;have B8:=af ((ae B6).trans (uU.mono ML));have BW8:=af ((ae wZ).trans (uU.mono Kc));have R8:=af (ay (ae R6) uU);have S8:=af Sb;have sz8:=(ae BW8).size;clear uU Sb C2 B6 wZ IU R6 p0 p1 p2 p3 p4 p5 p6 p7;go_wp2_with (at_builtin;go_must (refine jr rfl _ _ 29 rfl w1.heap.size 3 iI _ 1 8 Tryz.underlying29 (ae II) (ae xe) (ae xg) (ae xh) rfl (by decide) (.slice fa f2.length fc) f2.length (f2.map fun n:Nat=> .int .i64 n) rfl (ae R8) (.slice ta TJ.length tc) TJ.length (TJ.map fun n:Nat=> .int .i64 n) rfl _ (ae S8) ?yJ ?vQ ?iP sz8 ?nA))
       case yJ=>
        intro u hu;obtain ⟨n,_,rfl⟩:=List.mem_map.1 hu
        rfl
       case vQ=>unfold maxLen;omega
       case iP=>omega
       intro av cv w9 Gy wu YI;have B9:=af (lN (ae B8) Ap (ae R8) wu);have BW9:=af (fE (ae BW8) (ae R8) wu);have O9:=af Gy;clear Gy wu YI B8 BW8 R8 S8;go_wp2;go_roundw
       case rel=>exact ⟨i+1,f2++TJ,av,cv,by omega,by go_num,by simp,ae B9,ae BW9,by simpa using ae O9,YH⟩
       case measure=>simp [intOf];omega
      ·have e2:((p.kind:Int)==2)=false:=beq_eq_false_iff_ne.2 (by omega);have e3:((p.kind:Int)==3)=false:=beq_eq_false_iff_ne.2 (by omega);have YH:=af (show f2=(lv.take (i+1)).flatMap (wo (iT rl bz kd) pl) from by rw [ae rR,←ae HF,ae NH];unfold iT;simp [hk2,hk3]);clear hk2 hk3 AV;go_wp2;go_roundw
       case rel=>exact ⟨i+1,f2,fa,fc,by omega,by go_num,rfl,ae HB,ae pK,ae iL,YH⟩
       case measure=>simp [intOf];omega
  ·have hkn:¬((i:Int)<(lv.length:Int)):=by omega
   have Gl:fv=T:=by rw [ae HF,List.take_of_length_le (by omega),ae HT]
   have QI:=af Gl;have hw1:=(ae B1).size;clear hb bF hrow Gl;go_wp2;go_ret;rw [←ae QI];exact ⟨_,rfl,ae HB,aO (ae iL) hw1⟩
