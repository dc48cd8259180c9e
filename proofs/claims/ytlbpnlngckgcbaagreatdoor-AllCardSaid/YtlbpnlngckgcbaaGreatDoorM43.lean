import Derived.Test.YtlbpnlngckgcbaaGreatDoorM01
import Derived.Test.YtlbpnlngckgcbaaGreatDoorRows
set_option linter.all false
set_option maxHeartbeats 4000000
set_option maxRecDepth 100000
namespace Go.Proofs.YtlbpnlngckgcbaaGreatDoor
def WG:(Rows.allRow.inPlace==Tryz.prog.inPlace 7)=true:=by kernel_rfl
def WH:(Rows.allRow.unfollowed==Tryz.prog.unfollowed 7)=true:=by kernel_rfl
def WJ:(Rows.allRow.recurses==Tryz.prog.recurses 7)=true:=by kernel_rfl
def WK:(Rows.allRow.named==Tryz.prog.varsNamed 7)=true:=by kernel_rfl
