import Derived.Test.YtlbpnlngckgcbaaGreatDoorM20
set_option linter.all false
set_option maxHeartbeats 4000000
set_option maxRecDepth 100000
namespace Go.Proofs.YtlbpnlngckgcbaaGreatDoor
open Go.RowKit Go.PlainAid Go.Proofs.Tryz
def yp(pl:List PV)(n:Nat)(p:PV)(hp:pl[n]? =some p)(hk:p.kind=4)(A:Nat->Bool->Bool->ae)(aZ:∀m∈p.ps,UK pl m (A m))(hs:(Dc A p.ps p.sg 0 em).size<=100000)(aJ:p.sg.length=p.ps.length)(bu:p.ps.length<=1000):UK pl n (fun _ d=>UY d (Dc A p.ps p.sg 0 em)):=by
 intro u d b kv rv pv kl rl l w h;obtain ⟨g,c,ga,gc,pa,pc,sa,sc,rfl,ac,k0,k1,bh,k3,bi,bj,bk,bl⟩:=h.pat n p hp;refine Up ?_;intro c7 hn hpn hn' h1b h2b h3b;have aW:((p.kind:Int)==4)=true:=by rw [hk];rfl
 have aX:((p.kind:Int)==5)=false:=by rw [hk];rfl
 have bt:=en k0;have al:=aj (show (p.kind:Int)=4 from by rw [hk];rfl);generalize aw:Dc A p.ps p.sg 0 em=R at*;have aU:=ac.p;have RS:=ac.s;have ar:=aj aJ;have ap:=aj (show Dc A (p.ps.drop 0) (p.sg.drop 0) 0 em=R from aw);refine Uo ?_;intro B0;refine qe ?_;intro NZ;clear ac hp hk aw aJ;go_enter func81,ntmps81;go_wp2_with fail;clear k0 k1 bh k3 bi bj bk bl c7 h1b h2b h3b aW aX
 go_loopw [10,12] (fun bo ah wr=>∃(k:Nat)(s:ae),k<=p.ps.length/\ah=au k/\bo=an s/\am w wr/\aL wr w.heap.size (gL p.kind ga p.gs.length gc p.nb p.nr p.pa p.pr pa p.ps.length pc sa p.sg.length sc) 255/\Hid (Dc A (p.ps.drop k) (p.sg.drop k) k s=R)) (fun _ ah _=>p.ps.length-(intOf ah).toNat)
 ·exact ⟨0,em,ai,rfl,rfl,B0,NZ,ap⟩
 clear B0 NZ ap;obtain ⟨k,s,bv,rfl,rfl,D,Z,Q⟩:=hrel;obtain ⟨Y,p1,p2,aO,aQ,aR,ag,aS⟩:=Z.eight;rw [al.u] at Y;have bg:=D.size;have bz:=Z.lt;have aM:=JA A (p.ps.drop k) (p.sg.drop k) k s;rw [aE Q] at aM
 by_cases hlt:k<p.ps.length
 ·obtain ⟨q,bp,e1,aN⟩:=aY (aB aU D) k (au (p.ps[k]:Nat)) qX;simp only [aK,true_and] at e1;obtain ⟨rfl,rfl⟩:=e1;have aG:k<p.sg.length:=by have:=ar.u;omega
  obtain ⟨qs,bs,e1,aF⟩:=bn fI 3 (fun _=>rfl) (aB RS D) k p.sg[k] (aI aG);simp only [aK,true_and] at e1;obtain ⟨rfl,rfl⟩:=e1;have U:=aE Q;rw [c8 hlt,c8 aG,Dc] at U;have ay:=aZ _ (br hlt);generalize p.ps[k]=m at*;generalize p.sg[k]=t at*;have bA:wr.cell? (aC qs (k*3))=some (an (mk t.text)):=aF 0 _ ai rfl;have bw:(k:Int)<(p.sg.length:Int):=ai;have bf:(k:Int)<(p.ps.length:Int):=ai;have V:=JA A (p.ps.drop (k+1)) (p.sg.drop (k+1)) (k+1) (ov s k t++A m true (decide (0<k)));rw [U] at V;have ad:=Ga s k t;clear Q aF;obtain ⟨J,ab⟩:∃J,decide (0<k)=J:=⟨_,rfl⟩;rw [ab] at U V;rw [bc] at V;have C:=ay true J b kv rv _ kl rl l wr.drew (h.below D.drew);generalize A m true J=x at*;have ba:(((0:Int)<(k:Int))/\J=true/\ov s k t=((s++sg 32)++mk t.text)++sg 32/\s.size+(mk t.text).size+2<=(ov s k t).size)\/(¬((0:Int)<(k:Int))/\J=false/\ov s k t=s/\s.size<=(ov s k t).size):=by
   subst ab
   by_cases h:0<k
   ·exact .inl ⟨ai,kV h,if_pos h,ad.2 h⟩
   exact .inr ⟨ai,l6 h,if_neg h,ad.1⟩
  clear ab ad ay
  rcases ba with ⟨bb,rfl,e,af⟩|⟨bb,rfl,e,af⟩
  all_goals
   rw [e] at U;have bx:=aV (Nat.add_le_add_right af x.size) V;clear e V af;go_wp2_with fail
   go_region_held3 (fun w'=>w'.cell? (aP w.heap.size)=some (au 4)/\w'.cell? (aC w.heap.size 6)=some (aA (some (aP q)) p.ps.length pc)/\w'.cell? (aC q k)=some (au m)) (go_keep)
    ((go_at_call 81;refine C.mono ?_;rintro e w1 ⟨rfl,ax⟩;have I:=(show am wr w1 from (az _ wr).drew.trans ax);have d0:=ak Y I;have d1:=ak ag I;have d2:=ak aN I;clear ax))
   have aT:=D.trans (I.mono bg);have av:=Z.below I;clear C D Z Y p1 p2 aO aQ aR ag aS aN d0 d1 d2 I;obtain ⟨Y,p1,p2,aO,aQ,aR,ag,aS⟩:=av.eight;rw [al.u] at Y;go_wp2;go_roundw
   ·exact ⟨k+1,_,ai,by go_num,rfl,aT,av,U⟩
   ·simp [intOf];omega
 have bf:¬((k:Int)<(p.ps.length:Int)):=ai;have e:s=R:=by
  have:=aE Q;rw [sV ai,sV (by have:=ar.u;omega)] at this;exact this
 subst e;clear Q aM
 cases d
 ·go_wp2;go_ret;exact ⟨rfl,D⟩
 go_wp2;go_ret;exact ⟨rfl,D⟩
