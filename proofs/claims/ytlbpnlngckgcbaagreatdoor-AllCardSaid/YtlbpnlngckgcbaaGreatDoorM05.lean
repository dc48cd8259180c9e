import Derived.Test.YtlbpnlngckgcbaaGreatDoorM01
import Derived.Deep.RegionLaw
set_option linter.all false
set_option maxHeartbeats 4000000
set_option maxRecDepth 100000
namespace Go.Proofs.YtlbpnlngckgcbaaGreatDoor
open Go.RowKit Go.PlainAid Go.Proofs.Tryz
variable {P:Program} {w:af} {e T:TypeId} {v:ag} {size n b:Nat} {xs:List ag} {cs:Array ag}
def Bc{al:Array Oper}{o:Oper}{a:Act}{K:Act->af->Prop}{Q:Exit->Act->af->Prop}{R:Prop}{s x:Operand}{t:TypeId}{z:ag}{bytes:Nat}(ho:o.op=.call {callee:=.builtin .append,args:=#[s,x],argTypes:=#[t,t]})(ai:P.underlying t=some (.slice e))(ab:(P.info? e).map (fun i=>(i.zero,i.size,i.bytes))=some (some z,size,bytes))(base:Nat)(I:w.ownsRow base e size v n xs)(D:aL w b cs T)(g m:Nat)(C:List ag)(H:Nat)(h:∀g' cap w',w'.ownsRow base e size (.slice (some ⟨g',0,none⟩) (n+m) cap) (n+m) (xs++C)->w.grownBy w' v.ownBlock->(v.ownBlock=some g'\/g'=H)->g'<w'.heap.size->aL w' b cs T->K (a.put o.dst (.slice (some ⟨g',0,none⟩) (n+m) cap)) w')(hs:a.eval s=v:=by simp [Act.eval,Act.put])(aj:a.eval x=.slice (some ⟨g,0,none⟩) m m:=by simp [Act.eval,Act.put])(ae:o.guard=none:=by rfl)(A:(C.length==m*size&&(z.cells.size==size&&(decide (0<size)&&(decide (0<m)&&C.all fun u=>u.oneCell'))))=true:=by rfl)(ac:aL w g C.toArray e:=by first|exact (aL.new _ _ _).drew|exact (aaF _ _ _ _ ar).drew)(ah:T≠e:=by decide)(Y:n+m<=maxLen:=by unfold maxLen;omega)(ad:(n+m)*bytes<=140737488355328:=by omega)(hbase:base<=w.heap.size:=by first|omega|(simp;omega)|simp)(Z:w.heap.size=H:=by first|rfl|simp):if Region.wanted o (yielded al a.tmps)=true then Oper.wp P o a w K Q else R:=by
 obtain ⟨i,h1,h2,U,V⟩:=eN ab;simp only [Bool.and_eq_true,dS,fE,l8] at A;exact step_append_lies w ae s x t ho base e i z size bytes ai h1 h2 U V A.2.1 A.2.2.1 v n xs hs I ⟨g,0,none⟩ m m C aj A.1 (j9 (cs:=C.toArray) (fr:=(0,0)) ac) A.2.2.2.2 A.2.2.2.1 Y ad hbase H Z (fun g' cap w' k1 J k3 ak=>h g' cap w' k1 J k3 ak ((J.block b D.lt (own_ne I D ah)).trans D))
