import Derived.Test.YtlbpnlngckgcbaaGreatDoorM20
set_option linter.all false
set_option maxHeartbeats 4000000
set_option maxRecDepth 100000
namespace Go.Proofs.YtlbpnlngckgcbaaGreatDoor
open Go.RowKit Go.PlainAid Go.Proofs.Tryz
def xH(pl:List PV)(n:Nat)(p:PV)(hp:pl[n]? =some p)(hk:p.kind=4)(A:Nat->Bool->Bool->ae)(aY:∀m∈p.ps,Ui pl m (A m))(hs:(Cy A p.ps p.sg 0 em).size<=100000)(aJ:p.sg.length=p.ps.length)(bq:p.ps.length<=1000):Ui pl n (fun _ d=>Ut d (Cy A p.ps p.sg 0 em)):=by
 intro u d b kv rv pv kl rl l w h;obtain ⟨g,c,ga,gc,pa,pc,sa,sc,rfl,ac,k0,k1,bc,k3,bg,bh,bi,bj⟩:=h.pat n p hp;refine TV ?_;intro c7 hn hpn hn' h1b ZR h3b;have aW:((p.kind:Int)==4)=true:=by rw [hk];rfl
 have aX:((p.kind:Int)==5)=false:=by rw [hk];rfl
 have bp:=ei k0;have al:=ak (show (p.kind:Int)=4 from by rw [hk];rfl);generalize ax:Cy A p.ps p.sg 0 em=R at*;have aU:=ac.p;have RS:=ac.s;have au:=ak aJ;have ap:=ak (show Cy A (p.ps.drop 0) (p.sg.drop 0) 0 em=R from ax);refine TU ?_;intro B0;refine pN ?_;intro Ns;clear ac hp hk ax aJ;go_enter func81,ntmps81;go_wp2_with fail;clear k0 k1 bc k3 bg bh bi bj c7 h1b ZR h3b aW aX
 go_loopw [10,12] (fun bk ah wr=>∃(k:Nat)(s:ae),k<=p.ps.length/\ah=ar k/\bk=aj s/\an w wr/\aL wr w.heap.size #[ar p.kind,aw ga p.gs.length gc,aj p.nb,aj p.nr,ar p.pa,ar p.pr,aw pa p.ps.length pc,aw sa p.sg.length sc] 255/\Hid (Cy A (p.ps.drop k) (p.sg.drop k) k s=R)) (fun _ ah _=>p.ps.length-(intOf ah).toNat)
 ·exact ⟨0,em,ai,rfl,rfl,B0,Ns,ap⟩
 clear B0 Ns ap;obtain ⟨k,s,bs,rfl,rfl,D,Z,Q⟩:=hrel;obtain ⟨Y,p1,p2,aP,aQ,aR,ag,aS⟩:=Z.eight;rw [al.u] at Y;have bb:=D.size;have bw:=Z.lt;have aM:=I6 A (p.ps.drop k) (p.sg.drop k) k s;rw [aE Q] at aM
 by_cases hlt:k<p.ps.length
 ·obtain ⟨q,bl,e1,aO⟩:=aZ (aB aU D) k (ar (p.ps[k]:Nat)) qC;simp only [aK,true_and] at e1;obtain ⟨rfl,rfl⟩:=e1;have aG:k<p.sg.length:=by have:=au.u;omega
  obtain ⟨qs,bn,e1,aF⟩:=bo fH 3 (fun _=>rfl) (aB RS D) k p.sg[k] (aI aG);simp only [aK,true_and] at e1;obtain ⟨rfl,rfl⟩:=e1;have U:=aE Q;rw [c9 hlt,c9 aG,Cy] at U;have az:=aY _ (bu hlt);generalize p.ps[k]=m at*;generalize p.sg[k]=t at*;have bx:wr.cell? (aC qs (k*3))=some (aj (mk t.text)):=aF 0 _ ai rfl;have bt:(k:Int)<(p.sg.length:Int):=ai;have ba:(k:Int)<(p.ps.length:Int):=ai;have V:=I6 A (p.ps.drop (k+1)) (p.sg.drop (k+1)) (k+1) (oa s k t++A m true (decide (0<k)));rw [U] at V;have ad:=FF s k t;clear Q aF;obtain ⟨J,ab⟩:∃J,decide (0<k)=J:=⟨_,rfl⟩;rw [ab] at U V;rw [be] at V;have C:=az true J b kv rv _ kl rl l wr.drew (h.below D.drew);generalize A m true J=x at*;have a8:(((0:Int)<(k:Int))/\J=true/\oa s k t=((s++sg 32)++mk t.text)++sg 32/\s.size+(mk t.text).size+2<=(oa s k t).size)\/(¬((0:Int)<(k:Int))/\J=false/\oa s k t=s/\s.size<=(oa s k t).size):=by
   subst ab
   by_cases h:0<k
   ·exact .inl ⟨ai,kR h,if_pos h,ad.2 h⟩
   exact .inr ⟨ai,lU h,if_neg h,ad.1⟩
  clear ab ad az
  rcases a8 with ⟨a9,rfl,e,af⟩|⟨a9,rfl,e,af⟩
  all_goals
   rw [e] at U;have bv:=aV (Nat.add_le_add_right af x.size) V;clear e V af;go_wp2_with fail
   go_region_held3 (fun w'=>w'.cell? (aN w.heap.size)=some (ar 4)/\w'.cell? (aC w.heap.size 6)=some (aw (some (aN q)) p.ps.length pc)/\w'.cell? (aC q k)=some (ar m)) (go_keep)
    ((go_at_call 81;refine C.mono ?_;rintro e w1 ⟨rfl,ay⟩;have I:=(show an wr w1 from (aA _ wr).drew.trans ay);have d0:=am Y I;have d1:=am ag I;have d2:=am aO I;clear ay))
   have aT:=D.trans (I.mono bb);have av:=Z.below I;clear C D Z Y p1 p2 aP aQ aR ag aS aO d0 d1 d2 I;obtain ⟨Y,p1,p2,aP,aQ,aR,ag,aS⟩:=av.eight;rw [al.u] at Y;go_wp2;go_roundw
   ·exact ⟨k+1,_,ai,by go_num,rfl,aT,av,U⟩
   ·simp [intOf];omega
 have ba:¬((k:Int)<(p.ps.length:Int)):=ai;have e:s=R:=by
  have:=aE Q;rw [sx ai,sx (by have:=au.u;omega)] at this;exact this
 subst e;clear Q aM
 cases d
 ·go_wp2;go_ret;exact ⟨rfl,D⟩
 go_wp2;go_ret;exact ⟨rfl,D⟩
