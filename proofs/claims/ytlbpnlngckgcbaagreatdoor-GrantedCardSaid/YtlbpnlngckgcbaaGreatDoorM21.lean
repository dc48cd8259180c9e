import Derived.Test.YtlbpnlngckgcbaaGreatDoorM20
set_option linter.all false
set_option maxHeartbeats 4000000
set_option maxRecDepth 100000
namespace Go.Proofs.YtlbpnlngckgcbaaGreatDoor
open Go.RowKit Go.PlainAid
theorem Gn (base:Nat) (v:Value) (l:List Nat) (n:Nat) (w:World) (h:w.ownsRow base 3 1 v l.length (l.map fun n:Nat=> .int .i64 n)) (hl:l.length≤1000000000):
  Calls Tryz.prog 194 #[v,.int .i64 n] w fun e w'=>e=.returned (.bool (l.any fun k=>k==n))∧Below w.heap.size w w':=by
 obtain ⟨la,lc,rfl⟩:=au h;have H:=af h;generalize hR:(l.any fun k=>k==n)=R;have HR:=af (show ((l.drop 0).any fun k=>k==n)=R from hR);clear h hR;go_enter Tryz.func194,Tryz.ntmps194;go_wp2_with fail
 go_loopw [5] (fun u wr=>∃k:Nat,k≤l.length∧u=.int .i64 k∧Below w.heap.size w wr∧Hid (((l.drop k).any fun k=>k==n)=R)) (fun u _=>l.length-(intOf u).toNat)
 case atStart=>exact ⟨0,by omega,rfl,Below.refl _ _,HR⟩
 case round=>
  obtain ⟨k,hk,rfl,hb,HQ⟩:=hrel;have HB:=af hb
  by_cases hlt:k<l.length
  ·obtain ⟨q,cq,e1,kc⟩:=aK (ay (ae H) hb) k (.int .i64 (l[k]:Nat)) (by simp [aeh hlt]);simp only [Value.slice.injEq,true_and] at e1;obtain ⟨rfl,rfl⟩:=e1;have hR:=ae HQ;rw [List.drop_eq_getElem_cons hlt,List.any_cons] at hR;generalize l[k]=m at*;have DI:(k:Int)<(l.length:Int):=by omega
   by_cases he:m=n
   ·have sV:((m:Int)==(n:Int))=true:=by rw [beq_iff_eq];omega
    rw [beq_iff_eq.2 he,Bool.true_or] at hR;have og:=af hR;clear hb HQ hR he;go_wp2;go_ret;exact ⟨by rw [←ae og];rfl,ae HB⟩
   ·have sV:((m:Int)==(n:Int))=false:=by rw [beq_eq_false_iff_ne];omega
    rw [beq_eq_false_iff_ne.2 he,Bool.false_or] at hR;have dS:=af hR;clear hb HQ hR he;go_wp2;go_roundw
    case rel=>exact ⟨k+1,by omega,by go_num,ae HB,dS⟩
    case measure=>simp [intOf];omega
  ·have DI:¬((k:Int)<(l.length:Int)):=by omega
   have hR:=ae HQ;rw [List.drop_of_length_le (by omega),List.any_nil] at hR;have og:=af hR;clear hb HQ hR;go_wp2;go_ret;exact ⟨by rw [←ae og];rfl,ae HB⟩
def fF (best:Int) (p:Nat):Int:=if best<0∨(p:Int)<best then p else best
def wR (x:aei×Nat):List (aei×Nat)→Int→Int
 | [],c=>c
 |y::ys,c=>wR x ys (if eqs y.1 x.1 then fF c x.2 else c)
def qF:List (aei×Nat)→List (aei×Nat)→Int→Int
 |_,[],c=>c
 |acc,x::xs,c=>qF (acc++[x]) xs (wR x acc c)
def wS (x:RV):List RV→Int→Int
 | [],c=>c
 |y::ys,c=>wS x ys (if eqs y.kd x.kd&&eqs y.nm x.nm then fF c x.pl else c)
def tT:List RV→List RV→Int→Int
 |_,[],c=>c
 |acc,x::xs,c=>tT (acc++[x]) xs (wS x acc c)
def zu (kl:List (aei×Nat)) (rl:List RV):Int:=tT [] rl (qF [] kl (-1))
theorem J2 (b:Nat) (kv rv pv:Value) (kl:List (aei×Nat)) (rl:List RV) (pl:List PV) (l:List PX) (w:World) (h:DM w b kv rv pv kl rl pl l):
  Calls Tryz.prog 128 #[.pointer (some ⟨b,5,none⟩)] w fun e w'=>e=.returned (.int .i64 (zu kl rl))∧Below w.heap.size w w':=by
 obtain ⟨ka,kc,rfl⟩:=au h.kt;obtain ⟨ra,rc,rfl⟩:=au h.rt;have H:=af h;have hkn:=h.kn;have IM:=h.rn;clear h;go_enter Tryz.func128,Tryz.ntmps128;go_wp2_with fail
 go_loopw [3,4] (fun u3 u4 wr=>∃(i:Nat) (c:Int),i≤kl.length∧u4=.int .i64 i∧u3=.int .i64 c∧Below w.heap.size w wr∧Hid (qF (kl.take i) (kl.drop i) c=qF [] kl (-1))) (fun _ u4 _=>kl.length-(intOf u4).toNat)
 case atStart=>exact ⟨0,-1,by omega,rfl,rfl,Below.refl _ _,af (by simp)⟩
 case round=>
  obtain ⟨i,c,hi,rfl,rfl,hb,HQ⟩:=hrel;have c5:=((ae H).below hb).c5;have HB:=af hb
  by_cases hlt:i<kl.length
  ·have DI:(i:Int)<(kl.length:Int):=by omega
   have hq:=ae HQ;rw [List.drop_eq_getElem_cons hlt,qF,←List.take_succ_eq_append_getElem hlt] at hq;have qN:=af hq;obtain ⟨gg,gc,e1,x0,x1⟩:=((ae H).below hb).kat i kl[i] (aeh hlt);simp only [Value.slice.injEq,true_and] at e1;obtain ⟨rfl,rfl⟩:=e1;have HX:=af (aeh hlt);generalize kl[i]=x at*;clear hb HQ hq;go_wp2_with fail
   go_loopw [3,5] (fun u3 u5 wi=>∃(k:Nat) (c':Int),k≤i∧u5=.int .i64 k∧u3=.int .i64 c'∧Below w.heap.size w wi∧Hid (wR x ((kl.take i).drop k) c'=wR x (kl.take i) c)) (fun _ u5 _=>i-(intOf u5).toNat)
   case atStart=>exact ⟨0,c,by omega,rfl,rfl,ae HB,af (by simp)⟩
   case round=>
    clear x0 x1 c5;obtain ⟨k,c',hk,rfl,rfl,hb,HI⟩:=hrel;have c5:=((ae H).below hb).c5;obtain ⟨gg,gc,e1,x0,x1⟩:=((ae H).below hb).kat i x (ae HX);simp only [Value.slice.injEq,true_and,Option.some.injEq,Addr.mk.injEq,and_true] at e1;obtain ⟨rfl,rfl⟩:=e1;have uM:=af hb
    by_cases vB:k<i
    ·have hki:(k:Int)<(i:Int):=by omega
     have hkl:k<kl.length:=by omega
     have zw:(k:Int)<(kl.length:Int):=by omega
     obtain ⟨gy,cy,e1,y0,y1⟩:=((ae H).below hb).kat k kl[k] (aeh hkl);simp only [Value.slice.injEq,true_and,Option.some.injEq,Addr.mk.injEq,and_true] at e1;obtain ⟨rfl,rfl⟩:=e1;have hq:=ae HI;rw [List.drop_eq_getElem_cons (by rw [List.length_take];omega),List.getElem_take,wR] at hq;generalize kl[k]=y at*
     cases he:eqs y.1 x.1
     ·rw [he] at hq;simp only [Bool.false_eq_true,if_false] at hq;rw [aV] at he;have lw:=af hq;clear hb HI hq;go_wp2
      go_quiet (fail)
      go_wp2;go_roundw
      case rel=>exact ⟨k+1,_,by omega,by go_num,rfl,below_drewN (ae uM) _,lw⟩
      case measure=>simp [intOf];omega
     ·rw [he] at hq;simp only [if_true] at hq;rw [aV] at he
      by_cases h0:c'<0
      ·rw [show fF c' x.2=x.2 from by simp [fF,h0]] at hq;have lw:=af hq;clear hb HI hq;go_wp2
       go_quiet (fail)
       go_wp2;go_roundw
       case rel=>exact ⟨k+1,_,by omega,by go_num,rfl,below_drewN (ae uM) _,lw⟩
       case measure=>simp [intOf];omega
      ·by_cases h1:(x.2:Int)<c'
       ·rw [show fF c' x.2=x.2 from by simp [fF,h1]] at hq;have lw:=af hq;clear hb HI hq;go_wp2
        go_quiet (fail)
        go_wp2;go_roundw
        case rel=>exact ⟨k+1,_,by omega,by go_num,rfl,below_drewN (ae uM) _,lw⟩
        case measure=>simp [intOf];omega
       ·rw [show fF c' x.2=c' from by simp [fF,h0,h1]] at hq;have lw:=af hq;clear hb HI hq;go_wp2
        go_quiet (fail)
        go_wp2;go_roundw
        case rel=>exact ⟨k+1,_,by omega,by go_num,rfl,below_drewN (ae uM) _,lw⟩
        case measure=>simp [intOf];omega
    ·have hki:¬((k:Int)<(i:Int)):=by omega
     have hq:=ae HI;rw [List.drop_of_length_le (by rw [List.length_take];omega),wR] at hq;have lw:=af hq;clear hb HI hq;go_wp2;go_roundw
     case rel=>exact ⟨i+1,c',by omega,by go_num,rfl,ae uM,af (by rw [ae lw];exact ae qN)⟩
     case measure=>simp [intOf];omega
  ·have DI:¬((i:Int)<(kl.length:Int)):=by omega
   have hq:=ae HQ;rw [List.drop_of_length_le (by omega),qF] at hq;have HC:=af hq;clear hb HQ hq;go_wp2_with fail;clear c5
   go_loopw [3,6] (fun u3 u6 wr=>∃(i:Nat) (c:Int),i≤rl.length∧u6=.int .i64 i∧u3=.int .i64 c∧Below w.heap.size w wr∧Hid (tT (rl.take i) (rl.drop i) c=zu kl rl)) (fun _ u6 _=>rl.length-(intOf u6).toNat)
   case atStart=>exact ⟨0,c,by omega,rfl,rfl,ae HB,af (by rw [ae HC];rfl)⟩
   case round=>
    clear HB HC;obtain ⟨i,c,hi,rfl,rfl,hb,HQ⟩:=hrel;have c6:=((ae H).below hb).c6;have HB:=af hb
    by_cases hlt:i<rl.length
    ·have DI:(i:Int)<(rl.length:Int):=by omega
     have hq:=ae HQ;rw [List.drop_eq_getElem_cons hlt,tT,←List.take_succ_eq_append_getElem hlt] at hq;have qN:=af hq;have HX:=af (aeh hlt);generalize rl[i]=x at*;clear hb HQ hq;go_wp2_with fail
     go_loopw [3,7] (fun u3 u7 wi=>∃(k:Nat) (c':Int),k≤i∧u7=.int .i64 k∧u3=.int .i64 c'∧Below w.heap.size w wi∧Hid (wS x ((rl.take i).drop k) c'=wS x (rl.take i) c)) (fun _ u7 _=>i-(intOf u7).toNat)
     case atStart=>exact ⟨0,c,by omega,rfl,rfl,ae HB,af (by simp)⟩
     case round=>
      clear c6;obtain ⟨k,c',hk,rfl,rfl,hb,HI⟩:=hrel;have c6:=((ae H).below hb).c6;have uM:=af hb
      by_cases vB:k<i
      ·have hki:(k:Int)<(i:Int):=by omega
       obtain ⟨gg,gc,e1,x0,x1,x2,x3⟩:=((ae H).below hb).rat i x (ae HX);simp only [Value.slice.injEq,true_and,Option.some.injEq,Addr.mk.injEq,and_true] at e1;obtain ⟨rfl,rfl⟩:=e1;have hkl:k<rl.length:=by omega
       have zw:(k:Int)<(rl.length:Int):=by omega
       obtain ⟨gy,cy,e1,y0,y1,y2,y3⟩:=((ae H).below hb).rat k rl[k] (aeh hkl);simp only [Value.slice.injEq,true_and,Option.some.injEq,Addr.mk.injEq,and_true] at e1;obtain ⟨rfl,rfl⟩:=e1;have hq:=ae HI;rw [List.drop_eq_getElem_cons (by rw [List.length_take];omega),List.getElem_take,wS] at hq;generalize rl[k]=y at*
       cases he:eqs y.kd x.kd
       ·rw [he,Bool.false_and] at hq;simp only [Bool.false_eq_true,if_false] at hq;rw [aV] at he;have lw:=af hq;clear hb HI hq;go_wp2
        go_quiet (fail)
        go_wp2;go_roundw
        case rel=>exact ⟨k+1,_,by omega,by go_num,rfl,below_drewN (ae uM) _,lw⟩
        case measure=>simp [intOf];omega
       ·rw [he,Bool.true_and] at hq;rw [aV] at he
        cases sV:eqs y.nm x.nm
        ·rw [sV] at hq;simp only [Bool.false_eq_true,if_false] at hq;rw [aV] at sV;have lw:=af hq;clear hb HI hq;go_wp2
         go_quiet (fail)
         go_wp2;go_roundw
         case rel=>exact ⟨k+1,_,by omega,by go_num,rfl,below_drewN (ae uM) _,lw⟩
         case measure=>simp [intOf];omega
        ·rw [sV] at hq;simp only [if_true] at hq;rw [aV] at sV
         by_cases h0:c'<0
         ·rw [show fF c' x.pl=x.pl from by simp [fF,h0]] at hq;have lw:=af hq;clear hb HI hq;go_wp2
          go_quiet (fail)
          go_wp2;go_roundw
          case rel=>exact ⟨k+1,_,by omega,by go_num,rfl,below_drewN (ae uM) _,lw⟩
          case measure=>simp [intOf];omega
         ·by_cases h1:(x.pl:Int)<c'
          ·rw [show fF c' x.pl=x.pl from by simp [fF,h1]] at hq;have lw:=af hq;clear hb HI hq;go_wp2
           go_quiet (fail)
           go_wp2;go_roundw
           case rel=>exact ⟨k+1,_,by omega,by go_num,rfl,below_drewN (ae uM) _,lw⟩
           case measure=>simp [intOf];omega
          ·rw [show fF c' x.pl=c' from by simp [fF,h0,h1]] at hq;have lw:=af hq;clear hb HI hq;go_wp2
           go_quiet (fail)
           go_wp2;go_roundw
           case rel=>exact ⟨k+1,_,by omega,by go_num,rfl,below_drewN (ae uM) _,lw⟩
           case measure=>simp [intOf];omega
      ·have hki:¬((k:Int)<(i:Int)):=by omega
       have hq:=ae HI;rw [List.drop_of_length_le (by rw [List.length_take];omega),wS] at hq;have lw:=af hq;clear hb HI hq;go_wp2;go_roundw
       case rel=>exact ⟨i+1,c',by omega,by go_num,rfl,ae uM,af (by rw [ae lw];exact ae qN)⟩
       case measure=>simp [intOf];omega
    ·have DI:¬((i:Int)<(rl.length:Int)):=by omega
     have hq:=ae HQ;rw [List.drop_of_length_le (by omega),tT] at hq;have og:=af hq;clear hb HQ hq;go_wp2;go_ret;exact ⟨by rw [←ae og];rfl,ae HB⟩
def NA (pl:List PV) (tn:aei) (x:RV) (r:Rl):Prop:=x.kd=tn∧x.nm=r.name∧x.pl=r.place∧∃f,Tr pl f x.ex r.body
def lK (pl:List PV) (tn:aei):List RV→List Rl→Prop
 | [],[]=>True
 |x::xs,r::rs=>NA pl tn x r∧lK pl tn xs rs
 |_,_=>False
theorem NA.more {pl:List PV} {tn:aei} {x:RV} {r:Rl} (h:NA pl tn x r) (t:List PV):NA (pl++t) tn x r:=⟨h.1,h.2.1,h.2.2.1,by obtain ⟨f,hf⟩:=h.2.2.2;exact ⟨f,Tr.more pl t f _ _ hf⟩⟩
theorem lK.more {pl:List PV} {tn:aei} (t:List PV):∀(xs:List RV) (rs:List Rl),lK pl tn xs rs→lK (pl++t) tn xs rs
 | [],[],_=>trivial
 |x::xs,r::rs,h=>⟨h.1.more t,lK.more t xs rs h.2⟩
 | [],_::_,h=>h.elim
 |_::_,[],h=>h.elim
theorem lK.snoc {pl:List PV} {tn:aei} {y:RV} {q:Rl} (k:NA pl tn y q):∀(xs:List RV) (rs:List Rl),lK pl tn xs rs→lK pl tn (xs++[y]) (rs++[q])
 | [],[],_=>⟨k,trivial⟩
 |x::xs,r::rs,h=>⟨h.1,lK.snoc k xs rs h.2⟩
 | [],_::_,h=>h.elim
 |_::_,[],h=>h.elim
def pG (T:Nat→aei) (P:Nat→Nat) (i:Nat):dM Ty:=match bO T (sg 123) i with
 | .error e=> .error e
 | .ok (_,j)=>match dP T P 512 [] j with
  | .error e=> .error e
  | .ok (rs,m)=> .ok (⟨T i,P i,rs⟩,m)
theorem mF (T:Nat→aei) (P:Nat→Nat) (i:Nat):rQ T P i=if eqs (T i) lG then pG T P (i+1) else .error (2,i):=rfl
def QL (n:aei) (p:Nat) (r:dM (List Rl)):dM Ty:=match r with
 | .error e=> .error e
 | .ok (rs,m)=> .ok (⟨n,p,rs⟩,m)
theorem Ci (s x:aei) (rm:Bool) (i a i1 e1 a1 i2 e2 a2:Nat) (h1:(i1,e1,a1)=Zn s rm i a) (h2:(i2,e2,a2)=Lh s x i1 e1 a1):
  (e2=0∧a2=a∧i2=i+2∧dh (TT s i)=true∧rm=true∧bO (TT s) x i=.ok ((),i2))∨(e2≠0∧((rm=true→∃jj,a2=PP s jj∧bO (TT s) x i=.error (e2,jj))∧(dh (TT s i)=false→∃jj,a2=PP s jj∧bO (TT s) x i=.error (e2,jj))∧(dh (TT s i)=true→rm=false→a2=PP s i∧e2=3))):=by
 unfold Zn at h1;unfold bO bN
 cases hn:dh (TT s i)
 ·simp only [hn,Bool.false_eq_true,if_false,Prod.mk.injEq] at h1;obtain ⟨rfl,rfl,rfl⟩:=h1;simp only [Lh,Nat.reduceEqDiff,if_false,Prod.mk.injEq] at h2;obtain ⟨rfl,rfl,rfl⟩:=h2;exact .inr ⟨by omega,fun _=>⟨_,rfl,by simp⟩,fun _=>⟨_,rfl,by simp⟩,(fun h=>by cases h)⟩
 ·simp only [hn,if_true] at h1
  by_cases hl:(TT s i).size≤8
  ·cases hr:rm
   ·simp only [hl,hr,Bool.false_eq_true,and_false,if_false,Prod.mk.injEq] at h1;obtain ⟨rfl,rfl,rfl⟩:=h1;simp only [Lh,Nat.reduceEqDiff,if_false,Prod.mk.injEq] at h2;obtain ⟨rfl,rfl,rfl⟩:=h2;exact .inr ⟨by omega,(fun h=>by cases h),(fun h=>by cases h),fun _ _=>⟨rfl,rfl⟩⟩
   ·simp only [hl,hr,and_self,if_true,Prod.mk.injEq] at h1;obtain ⟨rfl,rfl,rfl⟩:=h1;have hl':¬(8<(TT s i).size):=by omega
    simp only [Lh,if_true] at h2
    cases he:eqs (TT s (i+1)) x
    ·simp only [he,Bool.false_eq_true,if_false,Prod.mk.injEq] at h2;obtain ⟨rfl,rfl,rfl⟩:=h2;exact .inr ⟨by omega,fun _=>⟨_,rfl,by simp [hl',he]⟩,(fun h=>by cases h),(fun _ h=>by cases h)⟩
    ·simp only [he,if_true,Prod.mk.injEq] at h2;obtain ⟨rfl,rfl,rfl⟩:=h2;exact .inl ⟨rfl,rfl,rfl,rfl,rfl,by simp [hl',he]⟩
  ·have hl':8<(TT s i).size:=by omega
   simp only [hl,false_and,if_false,Prod.mk.injEq] at h1;obtain ⟨rfl,rfl,rfl⟩:=h1;simp only [Lh,Nat.reduceEqDiff,if_false,Prod.mk.injEq] at h2;obtain ⟨rfl,rfl,rfl⟩:=h2;exact .inr ⟨by omega,fun _=>⟨_,rfl,by simp [hl']⟩,(fun h=>by cases h),fun _ _=>⟨rfl,rfl⟩⟩
theorem J3 (s:aei) (i a i1 e1 a1 i2 e2 a2:Nat) (h1:(i1,e1,a1)=Zn s true i a) (h2:(i2,e2,a2)=Lh s (sg 123) i1 e1 a1):
  (e2=0∧a2=a∧i2=i+2∧QL (TT s i) (PP s i) (dP (TT s) (PP s) 512 [] i2)=pG (TT s) (PP s) i)∨(e2≠0∧∃jj,a2=PP s jj∧pG (TT s) (PP s) i=.error (e2,jj)):=by
 unfold pG
 rcases Ci s (sg 123) true i a i1 e1 a1 i2 e2 a2 h1 h2 with ⟨h3,h4,h5,_,_,h6⟩|⟨h3,h4,_⟩
 ·refine .inl ⟨h3,h4,h5,?_⟩;rw [h6]
  rfl
 ·obtain ⟨jj,h5,h6⟩:=h4 rfl;refine .inr ⟨h3,jj,h5,?_⟩;rw [h6]
theorem NB (s:aei) (k n:Nat) (acc:List Rl) (j a i1 e1 a1 i2 e2 a2:Nat) (hn:n=acc.length) (Zu:n≤6) (h0:eqs (TT s j) (sg 125)=false) (h1:(i1,e1,a1)=Zn s (decide ((n:Int)<6)) j a) (h2:(i2,e2,a2)=Lh s (sg 58) i1 e1 a1):
  (e2=0∧a2=a∧i2=j+2∧n<6∧dP (TT s) (PP s) (k+1) acc j=(match gZ (TT s) (PP s) 4 i2 with
   | .error e=> .error e
   | .ok (x,m)=>if eqs (TT s m) (sg 59) then dP (TT s) (PP s) k (acc++[⟨TT s j,PP s j,x⟩]) (m+1) else .error (2,m)))∨(e2≠0∧∃jj,a2=PP s jj∧dP (TT s) (PP s) (k+1) acc j=.error (e2,jj)):=by
 rcases Ci s (sg 58) _ j a i1 e1 a1 i2 e2 a2 h1 h2 with ⟨h3,h4,h5,h6,h7,h8⟩|⟨h3,h4,h5,h6⟩
 ·have hlt:n<6:=by have:=of_decide_eq_true h7;omega
  have hne:¬(acc.length=6):=by omega
  refine .inl ⟨h3,h4,h5,hlt,?_⟩;have hb:(dh (TT s j)&&acc.length==6)=false:=by simp [hne]
  rw [dP,h0];simp only [hb,Bool.false_eq_true,if_false];unfold pJ;rw [h8];simp only
  cases gZ (TT s) (PP s) 4 i2 with
  |error e=>rfl
  |ok y=>
   obtain ⟨x,m⟩:=y;simp only
   cases eqs (TT s m) (sg 59)<;>rfl
 ·refine .inr ⟨h3,?_⟩;rw [dP,h0];simp only [Bool.false_eq_true,if_false]
  by_cases hlt:n<6
  ·obtain ⟨jj,h7,h8⟩:=h4 (by simp;omega);have hne:¬(acc.length=6):=by omega
   have hb:(dh (TT s j)&&acc.length==6)=false:=by simp [hne]
   refine ⟨jj,h7,?_⟩;simp only [hb,Bool.false_eq_true,if_false];unfold pJ;rw [h8]
  ·have he:acc.length=6:=by omega
   cases hm:dh (TT s j)
   ·obtain ⟨jj,h7,h8⟩:=h5 hm;refine ⟨jj,h7,?_⟩;simp only [Bool.false_and,Bool.false_eq_true,if_false];unfold pJ;rw [h8]
   ·obtain ⟨h7,h8⟩:=h6 hm (by simp;omega);refine ⟨j,h7,?_⟩;simp [he,h8]
theorem via {Goal:Prop} {P:Nat→Nat→World→Prop} {A:Nat→Nat→World→Act} {Wf:Nat→Nat→World→World} {K:Act→World→Prop} (main:(∀g c w,P g c w→K (A g c w) (Wf g c w))→Goal) (key:∀g c w,P g c w→K (A g c w) (Wf g c w)):Goal:=main key
def KPost (base b:Nat) (s:aei) (tv:Value) (i a:Nat) (kl:List (aei×Nat)) (rl:List RV) (pl:List PV) (w:World) (R:dM Ty) (e:Ending) (w':World):Prop:=
 e=.returned (.tuple #[])∧Below base w w'∧∃kv rv pv kl' rl' mX l' j e' a',RM base w' b s tv j 0 e' a' kv rv pv kl' rl' mX l'∧(match R with
  | .ok (t,m)=>e'=0∧a'=a∧m=j∧i<j∧mX.length≤j∧rl'.length≤j∧kl'=kl++[(t.name,t.place)]∧∃rn tt,rl'=rl++rn∧mX=pl++tt∧lK mX t.name rn t.rels
  | .error (c,jj)=>c≠0∧e'=c∧a'=PP s jj)
def KdC (s:aei) (i a:Nat) (rl:List RV) (pl:List PV) (R:dM Ty) (k n j e aa:Nat) (rl':List RV) (mX:List PV):Prop:=
 (e=0∧aa=a∧i<j∧mX.length≤j∧rl'.length≤j∧512≤k+j∧n≤6∧∃acc rn tt,n=acc.length∧rl'=rl++rn∧mX=pl++tt∧lK mX (TT s i) rn acc∧QL (TT s i) (PP s i) (dP (TT s) (PP s) k acc j)=R)∨
 (e≠0∧∃jj,aa=PP s jj∧R=.error (e,jj))
def ExS (s:aei) (a i2:Nat) (pl t:List PV) (m j3 e3 a3:Nat):Prop:=match gZ (TT s) (PP s) 4 i2 with
 | .ok (x,jx)=>j3=jx∧e3=0∧a3=a∧i2<jx∧(pl++t).length+i2≤pl.length+jx∧∃f,Tr (pl++t) f m x
 | .error (c,jj)=>c≠0∧e3=c∧a3=PP s jj
theorem UY (s:aei) (i a:Nat) (rl:List RV) (pl:List PV) (R:dM Ty) (fu n j:Nat) (acc:List Rl) (rn:List RV) (tt:List PV) (rl':List RV) (mX:List PV) (i2 j3 e3 a3 i4 e4 a4 m:Nat) (t:List PV) (hij:i<j) (hpl:mX.length≤j) (hrl:rl'.length≤j) (hkj:512≤fu+1+j) (Zu:n<6) (hi2:i2=j+2) (hna:n=acc.length) (IM:rl'=rl++rn) (wY:mX=pl++tt) (hrb:lK mX (TT s i) rn acc)
  (hres:QL (TT s i) (PP s i) (dP (TT s) (PP s) (fu+1) acc j)=R) (Zv:dP (TT s) (PP s) (fu+1) acc j=(match gZ (TT s) (PP s) 4 i2 with
   | .error e=> .error e
   | .ok (x,m)=>if eqs (TT s m) (sg 59) then dP (TT s) (PP s) fu (acc++[⟨TT s j,PP s j,x⟩]) (m+1) else .error (2,m)))
  (hex:ExS s a i2 mX t m j3 e3 a3) (hs4:(i4,e4,a4)=Lh s (sg 59) j3 e3 a3):KdC s i a rl pl R fu (n+1) i4 e4 a4 (rl'++[⟨TT s i,TT s j,PP s j,m⟩]) (mX++t):=by
 unfold ExS at hex;rw [Zv] at hres
 cases hx:gZ (TT s) (PP s) 4 i2 with
 |error er=>
  obtain ⟨c,jj⟩:=er;rw [hx] at hex hres;obtain ⟨hc,rfl,rfl⟩:=hex;simp only [Lh,hc,if_false,Prod.mk.injEq] at hs4;obtain ⟨rfl,rfl,rfl⟩:=hs4;exact .inr ⟨hc,jj,rfl,by rw [←hres];rfl⟩
 |ok y=>
  obtain ⟨x,jx⟩:=y;rw [hx] at hex hres;obtain ⟨rfl,rfl,rfl,hlt,hle,f,htr⟩:=hex;simp only [Lh,if_true] at hs4;simp only at hres
  cases he:eqs (TT s j3) (sg 59)
  ·simp only [he,Bool.false_eq_true,if_false,Prod.mk.injEq] at hs4 hres;obtain ⟨rfl,rfl,rfl⟩:=hs4;exact .inr ⟨by omega,_,rfl,by rw [←hres];rfl⟩
  ·simp only [he,if_true,Prod.mk.injEq] at hs4 hres;obtain ⟨rfl,rfl,rfl⟩:=hs4;refine .inl ⟨rfl,rfl,by omega,by omega,by simp;omega,by omega,by omega,acc++[⟨TT s j,PP s j,x⟩],rn++[⟨TT s i,TT s j,PP s j,m⟩],tt++t,by simp;omega,by rw [IM];simp,by rw [wY];simp,?_,hres⟩;exact lK.snoc (tn:=TT s i) ⟨rfl,rfl,rfl,f,htr⟩ _ _ (lK.more t _ _ hrb)
theorem QM (base b:Nat) (s:aei) (tv:Value) (i a:Nat) (kv rv pv:Value) (kl:List (aei×Nat)) (rl:List RV) (pl:List PV) (l:List PX) (w:World) (h:RM base w b s tv i 0 0 a kv rv pv kl rl pl l) (hbb:base≤b) (bF:base≤w.heap.size) (hl:pl.length≤i) (hk:kl.length≤1000) (hr:rl.length≤i):
  Calls Tryz.prog 190 #[.pointer (some ⟨b,0,none⟩)] w (KPost base b s tv i a kl rl pl w (pG (TT s) (PP s) i)):=by
 obtain ⟨ka,kc,rfl⟩:=au h.kt;obtain ⟨iK,hi1,hy0,hy1,hy2⟩:=info_parts Tryz.infoKd;have KI:=af hi1;have KZ0:=af hy0;have KZ1:=af hy1;have KZ2:=af hy2;clear hi1 hy0 hy1 hy2;obtain ⟨iR,hi1,hy0,hy1,hy2⟩:=info_parts Tryz.infoRl;have LI:=af hi1;have LZ0:=af hy0;have LZ1:=af hy1;have LZ2:=af hy2;clear hi1 hy0 hy1 hy2;generalize hR:pG (TT s) (PP s) i=R;have HR:=af hR;have H0:=af h;have hlt:=h.rs.lt;have C:=af (Bw b s tv i 0 a _ rv pv true w h.rs);clear h hR;go_enter Tryz.func190,Tryz.ntmps190;go_wp2_with fail;refine (ae C).mono ?_;rintro e w1 ⟨rfl,hb1,i1,e1,a1,hs1,rs1⟩;have H1:=af ((ae H0).but hb1 hbb bF rs1);have hw1:=hb1.size;have B1:=af (hb1.below hbb bF);have AU:=af hs1;clear hb1 rs1 hs1 C;unfold qb;have b2:=(Below.refl _ w1).alloc aeg (.cells #[.string (TT s i),.int .i64 (PP s i),.bool (aT (TT s i))] 259);have Fj:base≤w1.heap.size:=Nat.le_trans bF (ae B1).size;have H2:=af ((ae H1).below b2 hbb Fj);have TB:=af (ai.new w1 #[.string (TT s i),.int .i64 (PP s i),.bool (aT (TT s i))] 259);have B2:=af ((ae B1).trans (b2.mono Fj));clear b2;go_wp2_with fail;have ltb:=(ae TB).lt;generalize htb:w1.heap.size=tb at*;generalize w1.alloc (.cells #[.string (TT s i),.int .i64 (PP s i),.bool (aT (TT s i))] 259)=W at*;have hbwW:base≤W.heap.size:=by omega
 obtain ⟨r0,r1,r2,r3,r4,r5,r6,r7⟩:=(ae H2).rs.blk.eight;obtain ⟨x0,x1,x2⟩:=(ae TB).three;have hbk:=(ae H2).rs.blk;have hz:=hbk.fz;have m5:=World.new_ne W _ r5;have m0:=World.new_ne W _ x0;have m1:=World.new_ne W _ x1;have c5:(W.alloc (.cells #[.string (TT s i),.int .i64 (PP s i)] 170)).cell? ⟨b,5,none⟩=some (.slice ka kl.length kc):=(hbk.alloc _).cell rfl;have hne:¬(b=W.heap.size):=by have:=hbk.lt;omega
 have uO:=af hbk;have HO:=af (ae H2).kt;clear hbk;have rM:=af (show ∀u∈kC (TT s i,PP s i),u.oneCell'=true from by
  intro u hu;simp only [kC,List.mem_cons,List.not_mem_nil,or_false] at hu
  rcases hu with rfl|rfl<;>rfl)
 have Dy:=af (show kl.length+1≤maxLen from by unfold maxLen;omega);have AC:=af (show (kl.length+1)*24≤140737488355328 from by omega);have HS:=af (show base≤(W.alloc (.cells #[.string (TT s i),.int .i64 (PP s i)] 170)).drew.heap.size from by
  have:=((Below.refl _ W).alloc aeg (.cells #[.string (TT s i),.int .i64 (PP s i)] 170)).drew.size;omega)
 have HH:=af (show (W.alloc (.cells #[.string (TT s i),.int .i64 (PP s i)] 170)).drew.heap.size=W.heap.size+1 from by simp);rename_i K hK;apply via (K:=K) (P:=fun g5 aD w5=>(W.alloc (.cells #[.string (TT s i),.int .i64 (PP s i)] 170)).drew.grownBy w5 (Value.slice ka kl.length kc).ownBlock∧w5.ownsRow base 170 2 (.slice (some ⟨g5,0,none⟩) (kl.length+1) aD) (kl.length+1) (kl.flatMap kC++kC (TT s i,PP s i)))
 case main=>
  intro key;have KEY:=af key;clear key
  go_region_law (refine step_append_lies _ rfl (.tmp 14) (.tmp 20) 164 rfl base 170 iK _ 2 24 Tryz.underlying164 (ae KI) (ae KZ0) (ae KZ1) (ae KZ2) rfl (by decide) (.slice ka kl.length kc) kl.length (kl.flatMap kC) (by simp [Act.eval,Act.put]) (bK ((ae HO).alloc _)) ⟨W.heap.size,0,none⟩ 1 1 (kC (TT s i,PP s i)) (by simp [Act.eval,Act.put]) rfl (World.news_of_block (B:=W.heap.size) (cs:=#[.string (TT s i),.int .i64 (PP s i)]) (t:=170) (fr:=(0,0)) (ai.new W _ _).drew) (ae rM) (by decide) (ae Dy) (ae AC) (ae HS) (W.heap.size+1) (ae HH) ?_;intro g5 aD w5 aC aj aP di;have fU:=bK ((ae HO).alloc (.cells #[.string (TT s i),.int .i64 (PP s i)] 170));have uP:=((ae uO).alloc (.cells #[.string (TT s i),.int .i64 (PP s i)] 170)).drew;have K5:ai w5 b _ 252:=(aj.block b uP.lt (own_ne fU uP (by decide))).trans uP;obtain ⟨q0,q1,q2,q3,q4,q5,q6,q7⟩:=K5.eight;have zq:=K5.fz;have G5:=af aj;have O5:=af aC;have lq:=K5.lt;clear fU uP K5 aj aC aP)
  all_goals exact ae KEY g5 aD w5 ⟨ae G5,ae O5⟩
 case key=>
  rintro g5 aD w5 ⟨G5,O5⟩;obtain ⟨Wd,b3,nx3⟩:=(ae H2).kinds hbb hbwW (((Below.refl _ W).alloc aeg (.cells #[.string (TT s i),.int .i64 (PP s i)] 170)).drew) G5 O5;have tb3:=nx3.blk (ae TB) (by decide) (by decide);have hwW:=(ae B2).size;have B3:=af ((ae B2).trans b3);have NC:tb≠b:=by omega
  clear G5 O5 nx3 b3 rM Dy AC HS HH HO uO c5 m0 m1 m5 hz r0 r1 r2 r3 r4 r5 r6 r7 x0 x1 x2 H2 KI KZ0 KZ1 KZ2 H1 B1 TB hne;refine hK _ _ ?_;clear hK K;generalize w5.setCell ⟨b,5,none⟩ (.slice (some ⟨g5,0,none⟩) (kl.length+1) aD)=W3 at*;have aa3:base≤W3.heap.size:=Nat.le_trans bF (ae B3).size;have C:=af (nZ b s tv i1 0 e1 a1 _ rv pv (sg 123) W3 Wd.rs (by decide));have H3:=af Wd;have TB3:=af tb3;clear Wd tb3;go_wp2_with fail;refine (ae C).mono ?_;rintro e w4 ⟨rfl,hb4,i2,e2,a2,hs2,rs2⟩;have H4:=af ((ae H3).but hb4 hbb aa3 rs2);have oD:=af ((ae TB3).but hb4 NC);have B4:=af ((ae B3).trans (hb4.below hbb aa3));have KC:=af (show KdC s i a rl pl R 512 0 i2 e2 a2 rl pl from by
   rcases J3 s i a i1 e1 a1 i2 e2 a2 (ae AU) hs2 with ⟨h1,h2,h3,h4⟩|⟨h1,jj,h2,h3⟩
   ·exact .inl ⟨h1,h2,by omega,by omega,by omega,by omega,by omega,[],[],[],rfl,by simp,by simp,trivial,by rw [h4];exact ae HR⟩
   ·exact .inr ⟨h1,jj,h2,by rw [←h3];exact (ae HR).symm⟩)
  clear hb4 rs2 hs2 C H3 TB3 B3;go_wp2_with fail
  go_loopg [3] 512 (fun k vn wr=>∃(n j e aa:Nat) (We pv':Value) (rl':List RV) (mX:List PV) (l':List PX),vn=.int .i64 n∧RM base wr b s tv j 0 e aa (.slice (some ⟨g5,0,none⟩) (kl.length+1) aD) We pv' (kl++[(TT s i,PP s i)]) rl' mX l'∧ai wr tb #[.string (TT s i),.int .i64 (PP s i),.bool (aT (TT s i))] 259∧Below base w wr∧n+k≤512∧Hid (KdC s i a rl pl R k n j e aa rl' mX))
  case atStart=>exact ⟨0,i2,e2,a2,rv,pv,rl,pl,l,rfl,ae H4,ae oD,ae B4,by omega,KC⟩
  case round=>
   clear H4 oD B4 KC;obtain ⟨n,j,e,aa,We,pv',rl',mX,l',rfl,hI,hT,hB,hnk,HC⟩:=hrel;have oJ:base≤wr.heap.size:=Nat.le_trans bF hB.size;have HI:=af hI;have HB:=af hB;have HT:=af hT
   rcases ae HC with ⟨rfl,rfl,hij,hpl,hrl,hkj,Zu,acc,rn,tt,hna,IM,wY,hrb,hres⟩|⟨he,jj,haa,hres⟩
   ·have hle:=hI.rs.gd.le;have hsz:=hI.rs.sz;obtain ⟨fu,rfl⟩:∃f,gk=f+1:=⟨gk-1,by omega⟩;obtain ⟨r0,r1,r2,r3,r4,r5,r6,r7⟩:=hI.rs.blk.eight;have HNA:=af hna;have HRB:=af hrb;have zA:=af hres;clear hna;have HRN:=af IM;have HTT:=af wY
    cases QO:eqs (TT s j) (sg 125)
    ·have C:=af (aZ b s tv j 0 aa _ We pv' (sg 125) wr hI.rs false QO);obtain ⟨ra,rc,rfl⟩:=au hI.rt;have hfm:=hI.rs.fm.2.2;clear hI hT hB HC hrb hres IM wY;go_wp2_with fail;refine (ae C).mono ?_;rintro e' w6 ⟨rfl,tL⟩;have H6:=af ((ae HI).below tL hbb oJ);have B6:=af ((ae HB).trans (tL.mono oJ));have T6:=af ((ae HT).below tL);have J4:base≤w6.heap.size:=Nat.le_trans bF (ae B6).size;have C2:=af (Bw b s tv j 0 aa _ _ pv' (decide ((n:Int)<6)) w6 (ae H6).rs);clear tL C r0 r1 r2 r3 r4 r5 r6 r7 HI HB HT;go_wp2_with fail;refine (ae C2).mono ?_;rintro e' w7 ⟨rfl,qg,i1',e1',a1',aa5,rs7⟩;have H7:=af ((ae H6).but qg hbb J4 rs7);have T7:=af ((ae T6).but qg NC);have B7:=af ((ae B6).trans (qg.below hbb J4));have vU:base≤w7.heap.size:=Nat.le_trans bF (ae B7).size;have Sa:=af aa5;clear qg rs7 aa5 C2 H6 T6 B6;unfold qb;have b8:=(Below.refl _ w7).alloc aeg (.cells #[.string (TT s j),.int .i64 (PP s j),.bool (aT (TT s j))] 259);have H8:=af ((ae H7).below b8 hbb vU);have T8:=af ((ae T7).below b8);have X8:=af (ai.new w7 #[.string (TT s j),.int .i64 (PP s j),.bool (aT (TT s j))] 259);have B8:=af ((ae B7).trans (b8.mono vU));have hxb:w7.heap.size≠b:=by have:=(ae H7).rs.lt;omega
     have htx:tb≠w7.heap.size:=by have:=(ae T7).lt;omega
     have uV:base≤(w7.alloc (.cells #[.string (TT s j),.int .i64 (PP s j),.bool (aT (TT s j))] 259)).heap.size:=Nat.le_trans bF (ae B8).size;have C3:=af (nZ b s tv i1' 0 e1' a1' _ _ pv' (sg 58) _ (ae H8).rs (by decide));clear b8 H7 T7 B7;go_wp2_with fail;refine (ae C3).mono ?_;rintro e' w9 ⟨rfl,qX,Zw,e2',Zx,aa7,rs9⟩;have H9:=af ((ae H8).but qX hbb uV rs9);have T9:=af ((ae T8).but qX NC);have X9:=af ((ae X8).but qX hxb);have B9:=af ((ae B8).trans (qX.below hbb uV));have UZ:base≤w9.heap.size:=Nat.le_trans bF (ae B9).size;obtain ⟨r0,r1,r2,r3,r4,r5,r6,r7⟩:=(ae H9).rs.blk.eight;have RR:=NB s fu n acc j aa i1' e1' a1' Zw e2' Zx (ae HNA) Zu QO (ae Sa) aa7;clear qX rs9 aa7 C3 H8 T8 X8 B8 Sa
     rcases RR with ⟨rfl,rfl,hi2,hn6',Zv⟩|⟨sV,jj,haa,Zv⟩
     ·have Ev:=af Zv;have C4:=af (wN s 4 0 rfl base b tv Zw Zx _ _ pv' mX l' w9 (ae H9).rs (ae H9).pt hbb UZ (by omega));clear Zv;go_wp2_with fail;refine (ae C4).mono ?_;rintro e' Gp ⟨m,rfl,sZ,Uo,l1,t,tl,fr,pt,rfl,rfl,EE,hres⟩;obtain ⟨j3,e3,a3,aa9,hex⟩:∃j3 e3 a3,RS Gp b s tv j3 0 e3 a3 (.slice (some ⟨g5,0,none⟩) (kl.length+1) aD) (.slice ra rl'.length rc) sZ∧ExS s Zx Zw mX t m j3 e3 a3:=by
       unfold ExS
       cases hx:gZ (TT s) (PP s) 4 Zw with
       |error er=>
        obtain ⟨c,jj⟩:=er;rw [hx] at hres;obtain ⟨hc,j',hj',rs',_⟩:=hres;exact ⟨j',c,PP s jj,rs',hc,rfl,rfl⟩
       |ok y=>
        obtain ⟨x,jx⟩:=y;rw [hx] at hres;obtain ⟨rs',h1,h2,h3⟩:=hres;exact ⟨jx,0,Zx,rs',rfl,rfl,rfl,h1,h2,h3⟩
      have Zy:=af ((ae H9).fr fr pt aa9 (fun x hx=>(List.mem_append.1 hx).elim ((ae H9).fh x) (fun h=>(EE x h).mono UZ)));have T10:=af (fr.blk (ae T9) NC (iY (ae H9).pt.row (ae T9) (by decide)));have X10:=af (fr.blk (ae X9) hxb (iY (ae H9).pt.row (ae X9) (by decide)));have B10:=af ((ae B9).trans fr.below);have HEX:=af hex;clear fr pt aa9 EE hres hex C4 H9 T9 X9 B9 r0 r1 r2 r3 r4 r5 r6 r7;go_wp2_with fail;generalize hxbe:w7.heap.size=xb at*;have hbw10:base≤Gp.heap.size:=Nat.le_trans bF (ae B10).size;have rl10:=(ae Zy).rs.lt;obtain ⟨r0,r1,r2,r3,r4,r5,r6,r7⟩:=(ae Zy).rs.blk.eight;obtain ⟨x0,x1,x2⟩:=(ae T10).three;obtain ⟨y0,y1,y2⟩:=(ae X10).three;have hbk:=(ae Zy).rs.blk;have hz:=hbk.fz;have m6:=World.new_ne Gp _ r6;have m0:=World.new_ne Gp _ x0;have m1:=World.new_ne Gp _ y0;have c6:(Gp.alloc (.cells #[.string (TT s i),.string (TT s j),.int .i64 (PP s j),.int .i64 m] 172)).cell? ⟨b,6,none⟩=some (.slice ra rl'.length rc):=(hbk.alloc _).cell rfl;have hne:¬(b=Gp.heap.size):=by omega
      have uO:=af hbk;have HO:=af (ae Zy).rt;clear hbk;have rM:=af (show ∀u∈rC ⟨TT s i,TT s j,PP s j,m⟩,u.oneCell'=true from by
       intro u hu;simp only [rC,List.mem_cons,List.not_mem_nil,or_false] at hu
       rcases hu with rfl|rfl|rfl|rfl<;>rfl)
      have Dy:=af (show rl'.length+1≤maxLen from by unfold maxLen;omega);have AC:=af (show (rl'.length+1)*48≤140737488355328 from by omega);have HS:=af (show base≤(Gp.alloc (.cells #[.string (TT s i),.string (TT s j),.int .i64 (PP s j),.int .i64 m] 172)).drew.heap.size from by
       have:=((Below.refl _ Gp).alloc aeg (.cells #[.string (TT s i),.string (TT s j),.int .i64 (PP s j),.int .i64 m] 172)).drew.size;omega)
      have HH:=af (show (Gp.alloc (.cells #[.string (TT s i),.string (TT s j),.int .i64 (PP s j),.int .i64 m] 172)).drew.heap.size=Gp.heap.size+1 from by simp);rename_i K hK;apply via (K:=K) (P:=fun g6 jY Yz=>(Gp.alloc (.cells #[.string (TT s i),.string (TT s j),.int .i64 (PP s j),.int .i64 m] 172)).drew.grownBy Yz (Value.slice ra rl'.length rc).ownBlock∧Yz.ownsRow base 172 4 (.slice (some ⟨g6,0,none⟩) (rl'.length+1) jY) (rl'.length+1) (rl'.flatMap rC++rC ⟨TT s i,TT s j,PP s j,m⟩))
      case main=>
       intro key;have KEY:=af key;clear key
       go_region_law (refine step_append_lies _ rfl (.tmp 60) (.tmp 69) 165 rfl base 172 iR _ 4 48 Tryz.underlying165 (ae LI) (ae LZ0) (ae LZ1) (ae LZ2) rfl (by decide) (.slice ra rl'.length rc) rl'.length (rl'.flatMap rC) (by simp [Act.eval,Act.put]) (bK ((ae HO).alloc _)) ⟨Gp.heap.size,0,none⟩ 1 1 (rC ⟨TT s i,TT s j,PP s j,m⟩) (by simp [Act.eval,Act.put]) rfl (World.news_of_block (B:=Gp.heap.size) (cs:=#[.string (TT s i),.string (TT s j),.int .i64 (PP s j),.int .i64 m]) (t:=172) (fr:=(0,0)) (ai.new Gp _ _).drew) (ae rM) (by decide) (ae Dy) (ae AC) (ae HS) (Gp.heap.size+1) (ae HH) ?_;intro g6 jY Yz iE dw nV Dq;have fU:=bK ((ae HO).alloc (.cells #[.string (TT s i),.string (TT s j),.int .i64 (PP s j),.int .i64 m] 172));have uP:=((ae uO).alloc (.cells #[.string (TT s i),.string (TT s j),.int .i64 (PP s j),.int .i64 m] 172)).drew;have K5:ai Yz b _ 252:=(dw.block b uP.lt (own_ne fU uP (by decide))).trans uP;obtain ⟨q0,q1,q2,q3,q4,q5,q6,q7⟩:=K5.eight;have zq:=K5.fz;have G6:=af dw;have O6:=af iE;have lq:=K5.lt;clear fU uP K5 dw iE nV)
       all_goals exact ae KEY g6 jY Yz ⟨ae G6,ae O6⟩
      case key=>
       rintro g6 jY Yz ⟨G6,O6⟩;obtain ⟨YA,b11,aba⟩:=(ae Zy).rels hbb hbw10 (((Below.refl _ Gp).alloc aeg (.cells #[.string (TT s i),.string (TT s j),.int .i64 (PP s j),.int .i64 m] 172)).drew) G6 O6;have T11:=af (aba.blk (ae T10) (by decide) (by decide));have B11:=af ((ae B10).trans b11);clear G6 O6 aba b11 rM Dy AC HS HH HO uO c6 m0 m1 m6 hz r0 r1 r2 r3 r4 r5 r6 r7 x0 x1 x2 y0 y1 y2 Zy T10 X10 B10 hne;refine hK _ _ ?_;clear hK K;generalize Yz.setCell ⟨b,6,none⟩ (.slice (some ⟨g6,0,none⟩) (rl'.length+1) jY)=W11 at*;have Wh:base≤W11.heap.size:=Nat.le_trans bF (ae B11).size;have C5:=af (nZ b s tv j3 0 e3 a3 _ _ sZ (sg 59) W11 YA.rs (by decide));have H11:=af YA;clear YA;go_wp2_with fail;refine (ae C5).mono ?_;rintro e' w12 ⟨rfl,D8,i4,e4,a4,hs4,QP⟩;have H12:=af ((ae H11).but D8 hbb Wh QP);have T12:=af ((ae T11).but D8 NC);have B12:=af ((ae B11).trans (D8.below hbb Wh));have KC:=af (UY s i Zx rl pl R fu n j acc rn tt rl' mX Zw j3 e3 a3 i4 e4 a4 m t hij hpl hrl hkj hn6' hi2 (ae HNA) (ae HRN) (ae HTT) (ae HRB) (ae zA) (ae Ev) (ae HEX) hs4);clear D8 QP hs4 C5 H11 T11 B11;go_wp2
       go_roundg fu
       case measure=>omega
       case rel=>exact ⟨n+1,i4,e4,a4,_,sZ,rl'++[⟨TT s i,TT s j,PP s j,m⟩],mX++t,l'++tl,by go_num,by simpa using ae H12,ae T12,ae B12,by omega,KC⟩
     ·have he':¬((e2':Int)=0):=by omega
      have U6:((e2':Int)==0)=false:=beq_eq_false_iff_ne.2 he';have C5:=af (nZ b s tv Zw 0 e2' Zx _ _ pv' (sg 59) w9 (ae H9).rs (by decide));go_wp2_with fail;refine (ae C5).mono ?_;rintro e' w12 ⟨rfl,D8,i4,e4,a4,hs4,QP⟩;simp only [Lh,sV,if_false,Prod.mk.injEq] at hs4;obtain ⟨rfl,rfl,rfl⟩:=hs4;have H12:=af ((ae H9).but D8 hbb UZ QP);have T12:=af ((ae T9).but D8 NC);have B12:=af ((ae B9).trans (D8.below hbb UZ));have KC:=af (show KdC s i aa rl pl R fu (n+1) i4 e4 a4 rl' mX from .inr ⟨sV,jj,haa,by rw [←ae zA,Zv];rfl⟩);clear D8 QP C5 H9 T9 X9 B9 r0 r1 r2 r3 r4 r5 r6 r7;go_wp2
      go_roundg fu
      case measure=>omega
      case rel=>exact ⟨n+1,i4,e4,a4,_,pv',rl',mX,l',by go_num,ae H12,ae T12,ae B12,by omega,KC⟩
    ·have C:=af (aZ b s tv j 0 aa _ We pv' (sg 125) wr hI.rs true QO);have hj:=hI.rs.gd.succ (bZ QO (by decide));clear hI hT hB HC hrb hres IM wY;go_wp2_with fail;refine (ae C).mono ?_;rintro e' w6 ⟨rfl,tL⟩;have H6:=af ((ae HI).below tL hbb oJ);have B6:=af ((ae HB).trans (tL.mono oJ));obtain ⟨q0,q1,q2,q3,q4,q5,q6,q7⟩:=(ae H6).rs.blk.eight;have zq:=(ae H6).rs.blk.fz;have J4:base≤w6.heap.size:=Nat.le_trans bF (ae B6).size;have H7:=af ((ae H6).but ((But.refl b w6).setCell 1 (.int .i64 ((j:Int)+1))) hbb J4 ((ae H6).rs.setI (j+1) hj));have B7:=af ((ae B6).setCell (p:=⟨b,1,none⟩) hbb (.int .i64 ((j:Int)+1)));clear tL C r0 r1 r2 r3 r4 r5 r6 r7;go_wp2;refine bodyPost_ret (results_none rfl _ _ _) rfl ⟨rfl,ae B7,_,We,pv',_,rl',mX,l',j+1,0,aa,ae H7,?_⟩;rw [←ae zA,dP,QO];exact ⟨rfl,rfl,rfl,by omega,by omega,by omega,rfl,rn,tt,ae HRN,ae HTT,ae HRB⟩
   ·have he':¬((e:Int)=0):=by omega
    have sV:((e:Int)==0)=false:=beq_eq_false_iff_ne.2 he';obtain ⟨r0,r1,r2,r3,r4,r5,r6,r7⟩:=hI.rs.blk.eight;clear hI hT hB HC;go_wp2;go_end0;refine ⟨rfl,ae HB,_,We,pv',_,rl',mX,l',j,e,aa,ae HI,?_⟩;rw [hres];exact ⟨he,rfl,haa⟩
def aR (ts:List Ty):List (aei×Rl):=ts.flatMap fun t=>t.rels.map fun r=>(t.name,r)
def dE (pl:List PV):List RV→List (aei×Rl)→Prop
 | [],[]=>True
 |x::xs,p::ps=>NA pl p.1 x p.2∧dE pl xs ps
 |_,_=>False
theorem dE.more {pl:List PV} (t:List PV):∀(xs:List RV) (ps:List (aei×Rl)),dE pl xs ps→dE (pl++t) xs ps
 | [],[],_=>trivial
 |x::xs,r::rs,h=>⟨h.1.more t,dE.more t xs rs h.2⟩
 | [],_::_,h=>h.elim
 |_::_,[],h=>h.elim
theorem dE.app {pl:List PV} {c:List RV} {cs:List (aei×Rl)} (k:dE pl c cs):∀(xs:List RV) (ps:List (aei×Rl)),dE pl xs ps→dE pl (xs++c) (ps++cs)
 | [],[],_=>k
 |x::xs,r::rs,h=>⟨h.1,dE.app k xs rs h.2⟩
 | [],_::_,h=>h.elim
 |_::_,[],h=>h.elim
theorem dE.of {pl:List PV} {tn:aei}:∀(xs:List RV) (rs:List Rl),lK pl tn xs rs→dE pl xs (rs.map fun r=>(tn,r))
 | [],[],_=>trivial
 |x::xs,r::rs,h=>⟨h.1,dE.of xs rs h.2⟩
 | [],_::_,h=>h.elim
 |_::_,[],h=>h.elim
def D9 (pl:List PV) (kl:List (aei×Nat)) (rl:List RV) (ts:List Ty):Prop:=kl=ts.map (fun t=>(t.name,t.place))∧dE pl rl (aR ts)
theorem D9.snoc {pl:List PV} {kl:List (aei×Nat)} {rl:List RV} {ts:List Ty} (h:D9 pl kl rl ts) {tt:List PV} {rn:List RV} {t:Ty} (k:lK (pl++tt) t.name rn t.rels):D9 (pl++tt) (kl++[(t.name,t.place)]) (rl++rn) (ts++[t]):=by
 refine ⟨by rw [h.1];simp,?_⟩;have e:aR (ts++[t])=aR ts++t.rels.map fun r=>(t.name,r):=by simp [aR]
 rw [e];exact dE.app (dE.of _ _ k) _ _ (dE.more tt _ _ h.2)
def MdC (s:aei) (R:dM (List Ty)) (k j e aa:Nat) (kl:List (aei×Nat)) (rl:List RV) (pl:List PV):Prop:=
 (e=0∧pl.length≤j∧rl.length≤j∧512≤k+j∧kl.length≤5∧∃ts,D9 pl kl rl ts∧dR (TT s) (PP s) k ts j=R)∨
 (e≠0∧∃jj,aa=PP s jj∧R=.error (e,jj))
def MPost (base b:Nat) (s:aei) (tv:Value) (w:World) (R:dM (List Ty)) (e:Ending) (w':World):Prop:=
 e=.returned (.tuple #[])∧Below base w w'∧∃kv rv pv kl rl pl l j e' a',RM base w' b s tv j 0 e' a' kv rv pv kl rl pl l∧(match R with
  | .ok (ts,m)=>e'=0∧m=j∧kl.length≤5∧rl.length≤500∧pl.length≤500∧D9 pl kl rl ts
  | .error (c,jj)=>c≠0∧e'=c∧a'=PP s jj)
theorem J5 (base b:Nat) (s:aei) (tv:Value) (kv rv pv:Value) (l:List PX) (w:World) (h:RM base w b s tv 0 0 0 0 kv rv pv [] [] [] l) (hbb:base≤b) (bF:base≤w.heap.size):
  Calls Tryz.prog 127 #[.pointer (some ⟨b,0,none⟩)] w (MPost base b s tv w (gF (TT s) (PP s))):=by
 generalize hR:gF (TT s) (PP s)=R;have HC0:=af (show MdC s R 512 0 0 0 [] [] [] from .inl ⟨rfl,by simp,by simp,by omega,by simp,[],⟨rfl,trivial⟩,hR⟩);have H0:=af h;have B0:=af (Below.refl base w);clear h hR;go_enter Tryz.func127,Tryz.ntmps127;go_wp2_with fail
 go_loopg [2] 512 (fun k u2 wr=>∃(j e aa:Nat) (kv rv pv:Value) (kl:List (aei×Nat)) (rl:List RV) (pl:List PV) (l:List PX),RM base wr b s tv j 0 e aa kv rv pv kl rl pl l∧Below base w wr∧Hid (MdC s R k j e aa kl rl pl))
 case atStart=>exact ⟨0,0,0,kv,rv,pv,[],[],[],l,ae H0,ae B0,HC0⟩
 case round=>
  clear H0 B0 HC0;obtain ⟨j,e,aa,kv,rv,pv,kl,rl,pl,l,hI,hB,HC⟩:=hrel;have oJ:base≤wr.heap.size:=Nat.le_trans bF hB.size;have HI:=af hI;have HB:=af hB
  rcases ae HC with ⟨rfl,hpl,hrl,hkj,hk5,ts,hmb,hres⟩|⟨he,jj,haa,hres⟩
  ·have hle:=hI.rs.gd.le;have hsz:=hI.rs.sz;obtain ⟨fu,rfl⟩:∃f,gk=f+1:=⟨gk-1,by omega⟩;obtain ⟨r0,r1,r2,r3,r4,r5,r6,r7⟩:=hI.rs.blk.eight;have zA:=af hres;have QQ:=af hmb
   cases Zz:eqs (TT s j) em
   ·have C:=af (aZ b s tv j 0 aa kv rv pv em wr hI.rs false Zz);obtain ⟨ka,kc,rfl⟩:=au hI.kt;clear hI hB HC hmb hres;go_wp2_with fail;refine (ae C).mono ?_;rintro e' w6 ⟨rfl,tL⟩;have H6:=af ((ae HI).below tL hbb oJ);have B6:=af ((ae HB).trans (tL.mono oJ));have J4:base≤w6.heap.size:=Nat.le_trans bF (ae B6).size;have C2:=af (nZ b s tv j 0 0 aa _ rv pv lG w6 (ae H6).rs (by decide));obtain ⟨q0,q1,q2,q3,q4,q5,q6,q7⟩:=(ae H6).rs.blk.eight;clear tL C HI HB r0 r1 r2 r3 r4 r5 r6 r7;go_wp2_with fail;refine (ae C2).mono ?_;rintro e' w7 ⟨rfl,qg,i1,e1,a1,hs1,rs7⟩;have H7:=af ((ae H6).but qg hbb J4 rs7);have B7:=af ((ae B6).trans (qg.below hbb J4));have vU:base≤w7.heap.size:=Nat.le_trans bF (ae B7).size;obtain ⟨r0,r1,r2,r3,r4,r5,r6,r7⟩:=(ae H7).rs.blk.eight;clear qg rs7 C2 H6 B6 q0 q1 q2 q3 q4 q5 q6 q7;simp only [Lh,if_true] at hs1
    cases hty:eqs (TT s j) lG
    ·simp only [hty,Bool.false_eq_true,if_false,Prod.mk.injEq] at hs1;obtain ⟨rfl,rfl,rfl⟩:=hs1;have KC:=af (show MdC s R fu i1 2 (PP s i1) kl rl pl from .inr ⟨by omega,i1,rfl,by
      rw [←ae zA,dR,Zz];simp [hty,mF]⟩)
     clear zA QQ;go_wp2
     go_roundg fu
     case measure=>omega
     case rel=>exact ⟨i1,2,_,_,rv,pv,kl,rl,pl,l,ae H7,ae B7,KC⟩
    ·simp only [hty,if_true,Prod.mk.injEq] at hs1;obtain ⟨rfl,rfl,rfl⟩:=hs1
     by_cases h5:kl.length=5
     ·have hkn:((kl.length:Int)==5)=true:=by rw [beq_iff_eq];omega
      have hj:=(ae H7).rs.gd;have hjj:Gd s j:=fun q hq=>hj q (by omega)
      have zq:=(ae H7).rs.blk.fz;have H8:=af ((ae H7).but ((But.refl b w7).setCell 1 (.int .i64 (j:Int))) hbb vU ((ae H7).rs.setI j hjj));have B8:=af ((ae B7).setCell (p:=⟨b,1,none⟩) hbb (.int .i64 (j:Int)));have uV:base≤(w7.setCell ⟨b,1,none⟩ (.int .i64 (j:Int))).heap.size:=Nat.le_trans bF (ae B8).size;have C3:=af (oG b s tv j 0 a1 _ rv pv 3 _ (ae H8).rs);have KC:=af (show MdC s R fu j 3 (PP s j) kl rl pl from .inr ⟨by omega,j,rfl,by
       have hl:ts.length=5:=by have:=congrArg List.length (ae QQ).1;rw [List.length_map] at this;omega
       rw [←ae zA,dR,Zz];simp [hty,hl]⟩)
      clear zA QQ hj hjj;go_wp2_with fail;refine (ae C3).mono ?_;rintro e' w9 ⟨rfl,qX,rs9⟩;have H9:=af ((ae H8).but qX hbb uV rs9);have B9:=af ((ae B8).trans (qX.below hbb uV));obtain ⟨q0,q1,q2,q3,q4,q5,q6,q7⟩:=(ae H9).rs.blk.eight;clear qX rs9 C3 H8 B8 H7 B7 r0 r1 r2 r3 r4 r5 r6 r7 zq;go_wp2
      go_roundg fu
      case measure=>omega
      case rel=>exact ⟨j,3,_,_,rv,pv,kl,rl,pl,l,ae H9,ae B9,KC⟩
     ·have hkn:((kl.length:Int)==5)=false:=by rw [beq_eq_false_iff_ne];omega
      have C3:=af (QM base b s tv (j+1) a1 _ rv pv kl rl pl l w7 (ae H7) hbb vU (by omega) (by omega) (by omega));go_wp2_with fail;refine (ae C3).mono ?_;rintro e' w9 ⟨rfl,qX,kv9,rv9,pv9,kl9,rl9,pl9,l9,j9,e9,a9,rm9,Gq⟩;have H9:=af rm9;have B9:=af ((ae B7).trans qX);have KC:=af (show MdC s R fu j9 e9 a9 kl9 rl9 pl9 from by
       have hl:ts.length≠5:=by have:=congrArg List.length (ae QQ).1;rw [List.length_map] at this;omega
       have hm:dR (TT s) (PP s) (fu+1) ts j=(match pG (TT s) (PP s) (j+1) with
        | .error e=> .error e
        | .ok (t,j)=>dR (TT s) (PP s) fu (ts++[t]) j):=by
        rw [dR,Zz,mF,hty];simp only [Bool.false_eq_true,if_false,Bool.true_and,beq_eq_false_iff_ne.2 hl,if_true]
        cases pG (TT s) (PP s) (j+1)<;>rfl
       have hr:=ae zA;rw [hm] at hr
       cases hk:pG (TT s) (PP s) (j+1) with
       |error er=>
        obtain ⟨c,jj⟩:=er;rw [hk] at Gq hr;obtain ⟨hc,rfl,rfl⟩:=Gq;exact .inr ⟨hc,jj,rfl,hr.symm⟩
       |ok y=>
        obtain ⟨t,m⟩:=y;rw [hk] at Gq hr;obtain ⟨rfl,rfl,rfl,h1,h2,h3,rfl,rn,tt,rfl,rfl,h4⟩:=Gq;exact .inl ⟨rfl,h2,h3,by omega,by simp;omega,ts++[t],(ae QQ).snoc h4,hr⟩)
      clear qX rm9 Gq C3 H7 B7 zA QQ r0 r1 r2 r3 r4 r5 r6 r7;go_wp2
      go_roundg fu
      case measure=>omega
      case rel=>exact ⟨j9,e9,a9,kv9,rv9,pv9,kl9,rl9,pl9,l9,ae H9,ae B9,KC⟩
   ·have C:=af (aZ b s tv j 0 aa kv rv pv em wr hI.rs true Zz);clear hI hB HC hmb hres;go_wp2_with fail;refine (ae C).mono ?_;rintro e' w6 ⟨rfl,tL⟩;have H6:=af ((ae HI).below tL hbb oJ);have B6:=af ((ae HB).trans (tL.mono oJ));clear tL C r0 r1 r2 r3 r4 r5 r6 r7;go_wp2;refine bodyPost_ret (results_none rfl _ _ _) rfl ⟨rfl,ae B6,_,rv,pv,_,rl,pl,l,j,0,aa,ae H6,?_⟩;rw [←ae zA,dR,Zz];exact ⟨rfl,rfl,hk5,by omega,by omega,ae QQ⟩
  ·have he':¬((e:Int)=0):=by omega
   have sV:((e:Int)==0)=false:=beq_eq_false_iff_ne.2 he';obtain ⟨r0,r1,r2,r3,r4,r5,r6,r7⟩:=hI.rs.blk.eight;clear hI hB HC;go_wp2;go_end0;refine ⟨rfl,ae HB,kv,rv,pv,_,rl,pl,l,j,e,aa,ae HI,?_⟩;rw [hres];exact ⟨he,rfl,haa⟩
theorem Ea (a:aei):eqs a em=(a.toList== []):=by rw [aV,show em.toList=[] from by rw [aF];rfl]
def GrC (rl:List RV) (pl:List PV) (r:Nat) (G:List Gr):Prop:=∀(b:Nat) (kv rv pv:Value) (kl:List (aei×Nat)) (l:List PX) (w:World),DM w b kv rv pv kl rl pl l→
 Calls Tryz.prog 196 #[.pointer (some ⟨b,5,none⟩),.int .i64 r] w fun e w'=>∃sv,e=.returned sv∧Below w.heap.size w w'∧w'.ownsRow w.heap.size 257 4 sv G.length (G.flatMap aJ)
theorem cK (k n:aei):∀(l:List RV) (i:Nat),aQ k n l i= -1∨∃j:Nat,aQ k n l i=j∧i≤j∧j<i+l.length
 | [],i=> .inl rfl
 |x::l,i=>by
  rw [aQ]
  split
  ·exact .inr ⟨i,rfl,by omega,by simp⟩
  ·rcases cK k n l (i+1) with h|⟨j,h1,h2,h3⟩
   ·exact .inl h
   ·exact .inr ⟨j,h1,by omega,by simp;omega⟩
def jH (rl:List RV) (rel:aei) (g:Gr):List Nat:=if eqs (bB g) em&&decide (0≤aQ g.ty rel rl 0) then [(aQ g.ty rel rl 0).toNat] else []
def gM (rl:List RV) (rel:aei) (G:List Gr):List Nat:=G.flatMap (jH rl rel)
theorem QS (rl:List RV) (rel:aei) (g:Gr):(jH rl rel g).length≤1:=by unfold jH;split<;>simp
theorem Eb (rl:List RV) (rel:aei):∀(G:List Gr),(gM rl rel G).length≤G.length
 | []=>by simp [gM]
 |g::G=>by
  have h1:=QS rl rel g;have h2:=Eb rl rel G;unfold gM at*;simp only [List.flatMap_cons,List.length_append,List.length_cons];omega
theorem Cj (b:Nat) (kv rv pv:Value) (kl:List (aei×Nat)) (rl:List RV) (pl:List PV) (l:List PX) (r:Nat) (G:List Gr) (y:aei) (w:World) (h:DM w b kv rv pv kl rl pl l) (hG:GrC rl pl r G) (hGl:G.length≤1000000):
  Calls Tryz.prog 230 #[.pointer (some ⟨b,5,none⟩),.int .i64 r,.string y] w fun e w'=>∃sv,e=.returned sv∧Below w.heap.size w w'∧w'.ownsRow w.heap.size 3 1 sv (gM rl y G).length ((gM rl y G).map fun n:Nat=> .int .i64 n):=by
 obtain ⟨iI,hi1,hy0,hy1,hy2⟩:=info_parts Tryz.infoInt;have II:=af hi1;have xe:=af hy0;have xg:=af hy1;have xh:=af hy2;clear hi1 hy0 hy1 hy2;have HD:=af h;have IM:=h.rn;have C:=af (hG b kv rv pv kl l w h);generalize hT:gM rl y G=T;have HT:=af (show G.flatMap (jH rl y)=T from hT);have hTl:T.length≤1000000:=by rw [←hT];exact Nat.le_trans (Eb rl y G) hGl
 clear h hG hT;go_enter Tryz.func230,Tryz.ntmps230;go_wp2_with fail;refine (ae C).mono ?_;rintro e w1 ⟨sv,rfl,hb1,hs1⟩;obtain ⟨la,lc,rfl⟩:=au hs1;have B1:=af hb1;have AU:=af hs1;clear hb1 hs1 C;go_wp2_with fail
 go_loopw [7,9] (fun u7 u9 wr=>∃(k:Nat) (fv:List Nat) (fa:Option Addr) (fc:Nat),k≤G.length∧u9=.int .i64 k∧u7=.slice fa fv.length fc∧Below w.heap.size w wr∧wr.ownsRow w.heap.size 257 4 (.slice la G.length lc) G.length (G.flatMap aJ)∧wr.ownsRow w.heap.size 3 1 (.slice fa fv.length fc) fv.length (fv.map fun n:Nat=> .int .i64 n)∧Hid (fv=(G.take k).flatMap (jH rl y))) (fun _ u9 _=>G.length-(intOf u9).toNat)
 case atStart=>exact ⟨0,[],none,0,by omega,rfl,rfl,ae B1,ae AU,World.ownsRow_nil _ _ _ _,af (by simp)⟩
 case round=>
  clear B1 AU;obtain ⟨k,fv,fa,fc,hk1,rfl,rfl,hb,hgr,hrow,HF⟩:=hrel;have HB:=af hb;have iL:=af hrow;have Au:=af hgr;have hwr:=hb.size
  by_cases hlt:k<G.length
  ·obtain ⟨gg,cg,e1,hc⟩:=bP aJ 4 (fun _=>rfl) hgr k G[k] (aeh hlt);simp only [Value.slice.injEq,true_and] at e1;obtain ⟨rfl,rfl⟩:=e1;have rR:=af (jG (jH rl y) G k _ (aeh hlt));have hle:=mZ (jH rl y) G (k+1);rw [ae rR,←ae HF,List.length_append,ae HT] at hle;have hkn:(k:Int)<(G.length:Int):=by omega
   have HX:=af (aeh hlt);generalize G[k]=x at*;have k0:wr.cell? ⟨gg,k*4,none⟩=some (.string x.ty):=hc 0 _ (by omega) rfl;have C:=af (gT b kv rv pv kl rl pl l x.ty y wr ((ae HD).below hb));clear hb hgr hrow hc;go_wp2_with fail;refine (ae C).mono ?_;rintro e w2 ⟨rfl,hb2⟩;have B2:=af ((ae HB).trans (hb2.mono hwr));have G2:=af (ay (ae Au) hb2);have R2:=af (ay (ae iL) hb2);obtain ⟨gg',cg',e1,hc⟩:=bP aJ 4 (fun _=>rfl) (ae G2) k x (ae HX);simp only [Value.slice.injEq,true_and,Option.some.injEq,Addr.mk.injEq,and_true] at e1;obtain ⟨rfl,rfl⟩:=e1;have k1:w2.cell? ⟨gg,k*4+1,none⟩=some (.string (bB x)):=hc 1 _ (by omega) rfl;have nQ:=(ae B2).size;clear hb2 C HB Au iL hc k0
   cases hre:eqs (bB x) em
   ·have hre':((bB x).toList== [])=false:=by rw [←hre,Ea]
    have J6:=af (show (G.take (k+1)).flatMap (jH rl y)=fv from by rw [ae rR,←ae HF];simp [jH,hre]);clear hre;go_wp2;go_roundw
    case rel=>exact ⟨k+1,fv,fa,fc,by omega,by go_num,rfl,ae B2,ae G2,ae R2,af (ae J6).symm⟩
    case measure=>simp [intOf];omega
   ·have hre':((bB x).toList== [])=true:=by rw [←hre,Ea]
    rcases cK x.ty y rl 0 with hfi|⟨j,hfi,Oz,OE⟩
    ·have J6:=af (show (G.take (k+1)).flatMap (jH rl y)=fv from by rw [ae rR,←ae HF];simp [jH,hfi]);clear hre;rw [hfi];go_wp2;go_roundw
     case rel=>exact ⟨k+1,fv,fa,fc,by omega,by go_num,rfl,ae B2,ae G2,ae R2,af (ae J6).symm⟩
     case measure=>simp [intOf];omega
    ·have ht1:jH rl y x=[j]:=by simp [jH,hre,hfi]
     have J6:=af (show (G.take (k+1)).flatMap (jH rl y)=fv++[j] from by rw [ae rR,←ae HF,ht1]);rw [ht1] at hle;simp only [List.length_cons,List.length_nil] at hle;clear hre ht1;rw [hfi];have YC:(0:Int)≤(j:Int):=by omega
     clear hfi;go_wp2_with (at_builtin;go_must (refine wpList_append_lies _ rfl _ _ 29 rfl w.heap.size 3 iI _ 1 8 Tryz.underlying29 (ae II) (ae xe) (ae xg) (ae xh) rfl (by decide) (.slice fa fv.length fc) fv.length (fv.map fun n:Nat=> .int .i64 n) rfl ((ae R2).alloc _) ⟨w2.heap.size,0,none⟩ 1 1 [.int .i64 j] rfl rfl ?hnews ?hone (by decide) ?h63 ?hbytes ?hbase (w2.heap.size+1) ?hH ?hrest))
     case hnews=>exact World.news_of_block (B:=w2.heap.size) (cs:=#[.int .i64 j]) (t:=3) (fr:=(0,0)) (ai.new' _ _ _ _ rfl)
     case hone=>
      intro u hu;simp only [List.mem_cons,List.not_mem_nil,or_false] at hu
      rcases hu with rfl
      rfl
     case h63=>unfold maxLen;omega
     case hbytes=>omega
     case hbase=>simp;omega
     case hH=>simp
     intro g5 aD w5 aC aj aP di;have B5:=af (fE ((ae B2).alloc nQ _) ((ae R2).alloc _) aj);have G5:=af (rf ((ae G2).alloc _) ((ae R2).alloc _) aj (by decide));have O5:=af aC;clear aC aj aP di B2 G2 R2 k1;go_wp2;go_roundw
     case rel=>exact ⟨k+1,fv++[j],some ⟨g5,0,none⟩,aD,by omega,by go_num,by simp,ae B5,ae G5,by simpa using ae O5,af (ae J6).symm⟩
     case measure=>simp [intOf];omega
  ·have hkn:¬((k:Int)<(G.length:Int)):=by omega
   have Gl:fv=T:=by rw [ae HF,List.take_of_length_le (by omega),ae HT]
   have QI:=af Gl;clear hb hgr hrow Gl;go_wp2;go_ret;rw [←ae QI];exact ⟨_,rfl,ae HB,ae iL⟩
