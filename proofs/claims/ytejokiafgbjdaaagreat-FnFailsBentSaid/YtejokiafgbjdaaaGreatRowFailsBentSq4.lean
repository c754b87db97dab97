/-
 The walk of the laws' look whether there are too many bytes to draw from; bytes are 0 to 255. No condition.
-/
import Derived.Test.YtejokiafgbjdaaaGreatRowFailsBentSq1

set_option maxRecDepth 100000
set_option maxHeartbeats 8000000
set_option linter.unusedSimpArgs false

namespace Go.Proofs.YtejokiafgbjdaaaGreat
open Go.RowKit

theorem pP {zs:List Int} (h:∀n∈zs,(Lit.int .u8 n).wf=true):∀n∈zs,0<=n/\n<=255:=by
 intro n hn;have:=h n hn;simp [Lit.wf,IntKind.min,IntKind.max,IntKind.signed,IntKind.bits] at this
 omega
theorem rK (a:Option Addr) (len cap:Nat) (w:World):Calls Tryz.prog 6 #[.slice a len cap] w fun e w'=>e=.returned (.bool (decide (1048576<(len:Int))))/\w=w':=by
 go_enter Tryz.func6,Tryz.ntmps6
 go_wp2
 go_ret
 exact ⟨rfl,rfl⟩
end Go.Proofs.YtejokiafgbjdaaaGreat
