import Derived.Test.YtlbpnlngckgcbaaGreatDoorM01
import Derived.Test.YtlbpnlngckgcbaaGreatDoorRows
set_option linter.all false
set_option maxHeartbeats 4000000
set_option maxRecDepth 100000
namespace Go.Proofs.YtlbpnlngckgcbaaGreatDoor
def T6:(Rows.asksRow.inPlace==Tryz.prog.inPlace 6)=true:=by kernel_rfl
def T7:(Rows.asksRow.unfollowed==Tryz.prog.unfollowed 6)=true:=by kernel_rfl
def T8:(Rows.asksRow.recurses==Tryz.prog.recurses 6)=true:=by kernel_rfl
def T9:(Rows.asksRow.named==Tryz.prog.varsNamed 6)=true:=by kernel_rfl
