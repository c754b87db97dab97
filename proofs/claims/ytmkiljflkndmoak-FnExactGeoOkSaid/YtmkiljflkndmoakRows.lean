/-
  No cell of these rows narrows 'for every input' (looked for: loops, veiled, ifaces, maps, wideKeys, modest, calm, conditions, laid).
  DERIVED. THE GIVEN ROWS OF THIS SEAT. 6 by the template 'for every input the law returns true; each argument reads behind the call as it read before'; 0 by the template 'total and deterministic' (their statements: YtmkiljflkndmoakTotals.lean).
  GIVEN WITH THE SEED: the statements are not yours to turn. If you find one false, say at which input.
  Laid BY PROGRAM, IN A SANDBOX (cutbox-rows.mjs): the forced cells as the released guide's own fill.sh prints them over the translation 40360c1205666692… (all of the seat's roots in one cut). By AI agents, Wed Nov 11 2026. No macro, syntax, notation, axiom, sorry.
-/
import Derived.Test.YtmkiljflkndmoakChecked
import GoSem.Claim
import GoSem.ClaimJoined
import GoSem.ClaimMapViews
import Derived.JoinedTies
import Derived.KernelRfl
namespace Go.Proofs.Ytmkiljflkndmoak
/- THE CELL 'sum', in the pinned program and in every row, IS THE sha256 OF THE DUMP (.gsa) THAT YtmkiljflkndmoakProg.lean LOADS. Nothing in Lean hashes anything: it is a label: what it is worth is what the hold of that sum in a sandbox is worth. -/
noncomputable def Try.pinned : Pinned := { name := "ytmkiljflkndmoak", sum := "40360c120566669217422e3fcb7efb7832f3e8e959c38110708be74b7e395e6e", checked := Try.checked }
namespace Rows
def none {H : Type} : Left H := { results := [], args := [] }

/-- 'laws.FnExactWriteSec': WHATEVER THE INPUT: true; the input reads as it did. -/
def fnExactWriteSecSpec : ChangeSpec := { name := "fnExactWriteSec", fn := fun _ => fun
  | [d1, d2, d3] => { results := [.lit (.bool true)], args := [d1, d2, d3] }
  | _ => none }
def fnExactWriteSecRow : OpenClaim := { program := "ytmkiljflkndmoak", sum := "40360c120566669217422e3fcb7efb7832f3e8e959c38110708be74b7e395e6e", func := "loop.example/g00398/laws.FnExactWriteSec", spec := "fnExactWriteSec", unfollowed := true, recurses := true, apart := false }
def FnExactWriteSecSaid : Prop := fnExactWriteSecRow.holds Try.pinned (OpenSpec.ofChange fnExactWriteSecSpec)

/-- ITS FALSE NEIGHBOUR: 'it returns false'. Refute it at one input. -/
def fnExactWriteSecWrong : ChangeSpec := { name := "fnExactWriteSec", fn := fun _ => fun
  | [d1, d2, d3] => { results := [.lit (.bool false)], args := [d1, d2, d3] }
  | _ => none }
def FnExactWriteSecWrongFalsely : Prop := fnExactWriteSecRow.holds Try.pinned (OpenSpec.ofChange fnExactWriteSecWrong)

/-- 'laws.FnExactFlushMem': WHATEVER THE INPUT: true; the input reads as it did. -/
def fnExactFlushMemSpec : ChangeSpec := { name := "fnExactFlushMem", fn := fun _ => fun
  | [d] => { results := [.lit (.bool true)], args := [d] }
  | _ => none }
def fnExactFlushMemRow : OpenClaim := { program := "ytmkiljflkndmoak", sum := "40360c120566669217422e3fcb7efb7832f3e8e959c38110708be74b7e395e6e", func := "loop.example/g00398/laws.FnExactFlushMem", spec := "fnExactFlushMem", apart := false }
def FnExactFlushMemSaid : Prop := fnExactFlushMemRow.holds Try.pinned (OpenSpec.ofChange fnExactFlushMemSpec)

/-- ITS FALSE NEIGHBOUR: 'it returns false'. Refute it at one input. -/
def fnExactFlushMemWrong : ChangeSpec := { name := "fnExactFlushMem", fn := fun _ => fun
  | [d] => { results := [.lit (.bool false)], args := [d] }
  | _ => none }
def FnExactFlushMemWrongFalsely : Prop := fnExactFlushMemRow.holds Try.pinned (OpenSpec.ofChange fnExactFlushMemWrong)

/-- 'laws.FnExactFallMem': WHATEVER THE INPUT: true; the input reads as it did. -/
def fnExactFallMemSpec : ChangeSpec := { name := "fnExactFallMem", fn := fun _ => fun
  | [d1, d2] => { results := [.lit (.bool true)], args := [d1, d2] }
  | _ => none }
def fnExactFallMemRow : OpenClaim := { program := "ytmkiljflkndmoak", sum := "40360c120566669217422e3fcb7efb7832f3e8e959c38110708be74b7e395e6e", func := "loop.example/g00398/laws.FnExactFallMem", spec := "fnExactFallMem", apart := false }
def FnExactFallMemSaid : Prop := fnExactFallMemRow.holds Try.pinned (OpenSpec.ofChange fnExactFallMemSpec)

/-- ITS FALSE NEIGHBOUR: 'it returns false'. Refute it at one input. -/
def fnExactFallMemWrong : ChangeSpec := { name := "fnExactFallMem", fn := fun _ => fun
  | [d1, d2] => { results := [.lit (.bool false)], args := [d1, d2] }
  | _ => none }
def FnExactFallMemWrongFalsely : Prop := fnExactFallMemRow.holds Try.pinned (OpenSpec.ofChange fnExactFallMemWrong)

/-- 'laws.FnExactFailMem': WHATEVER THE INPUT: true; the input reads as it did. -/
def fnExactFailMemSpec : ChangeSpec := { name := "fnExactFailMem", fn := fun _ => fun
  | [d] => { results := [.lit (.bool true)], args := [d] }
  | _ => none }
def fnExactFailMemRow : OpenClaim := { program := "ytmkiljflkndmoak", sum := "40360c120566669217422e3fcb7efb7832f3e8e959c38110708be74b7e395e6e", func := "loop.example/g00398/laws.FnExactFailMem", spec := "fnExactFailMem", apart := false }
def FnExactFailMemSaid : Prop := fnExactFailMemRow.holds Try.pinned (OpenSpec.ofChange fnExactFailMemSpec)

/-- ITS FALSE NEIGHBOUR: 'it returns false'. Refute it at one input. -/
def fnExactFailMemWrong : ChangeSpec := { name := "fnExactFailMem", fn := fun _ => fun
  | [d] => { results := [.lit (.bool false)], args := [d] }
  | _ => none }
def FnExactFailMemWrongFalsely : Prop := fnExactFailMemRow.holds Try.pinned (OpenSpec.ofChange fnExactFailMemWrong)

/-- 'laws.FnExactSpoilSec': WHATEVER THE INPUT: true; the input reads as it did. -/
def fnExactSpoilSecSpec : ChangeSpec := { name := "fnExactSpoilSec", fn := fun _ => fun
  | [d1, d2] => { results := [.lit (.bool true)], args := [d1, d2] }
  | _ => none }
def fnExactSpoilSecRow : OpenClaim := { program := "ytmkiljflkndmoak", sum := "40360c120566669217422e3fcb7efb7832f3e8e959c38110708be74b7e395e6e", func := "loop.example/g00398/laws.FnExactSpoilSec", spec := "fnExactSpoilSec", inPlace := ["slices.overlaps[int]"], apart := false }
def FnExactSpoilSecSaid : Prop := fnExactSpoilSecRow.holds Try.pinned (OpenSpec.ofChange fnExactSpoilSecSpec)

/-- ITS FALSE NEIGHBOUR: 'it returns false'. Refute it at one input. -/
def fnExactSpoilSecWrong : ChangeSpec := { name := "fnExactSpoilSec", fn := fun _ => fun
  | [d1, d2] => { results := [.lit (.bool false)], args := [d1, d2] }
  | _ => none }
def FnExactSpoilSecWrongFalsely : Prop := fnExactSpoilSecRow.holds Try.pinned (OpenSpec.ofChange fnExactSpoilSecWrong)

/-- 'laws.FnExactGeoOk': WHATEVER THE INPUT: true; the input reads as it did. -/
def fnExactGeoOkSpec : ChangeSpec := { name := "fnExactGeoOk", fn := fun _ => fun
  | [d] => { results := [.lit (.bool true)], args := [d] }
  | _ => none }
def fnExactGeoOkRow : OpenClaim := { program := "ytmkiljflkndmoak", sum := "40360c120566669217422e3fcb7efb7832f3e8e959c38110708be74b7e395e6e", func := "loop.example/g00398/laws.FnExactGeoOk", spec := "fnExactGeoOk", apart := false }
def FnExactGeoOkSaid : Prop := fnExactGeoOkRow.holds Try.pinned (OpenSpec.ofChange fnExactGeoOkSpec)

/-- ITS FALSE NEIGHBOUR: 'it returns false'. Refute it at one input. -/
def fnExactGeoOkWrong : ChangeSpec := { name := "fnExactGeoOk", fn := fun _ => fun
  | [d] => { results := [.lit (.bool false)], args := [d] }
  | _ => none }
def FnExactGeoOkWrongFalsely : Prop := fnExactGeoOkRow.holds Try.pinned (OpenSpec.ofChange fnExactGeoOkWrong)

/- THE SECOND FORM. 'bulk': how many values and letters a reading holds, each counted each time it is reached (what is shared counts as often as it is met; a slice's spare places count too). A statement '..UptoSaid' is the law's where the arguments, and the package variables that the reading takes, are together of bulk at most 1048576: NARROWER than '..Said'. Prove '..Said' where nothing that the law and all that it calls make is longer than what came in: it says more and counts as full. Else prove '..UptoSaid'. A law counts once. -/
mutual
def uptoBulk {H : Type} : DataW H → Nat
  | .lit (.string bytes) => bytes.length + 1
  | .lit _ => 1
  | .nil => 1
  | .ptr d => uptoBulk d + 1
  | .slice elems spare => uptoBulkAll elems + uptoBulkAll spare + 1
  | .agg parts => uptoBulkAll parts + 1
  | .iface _ d => uptoBulk d + 1
  | .map entries => uptoBulkEntries entries + 1
  | .held _ => 1
def uptoBulkAll {H : Type} : List (DataW H) → Nat
  | [] => 0
  | d :: r => uptoBulk d + uptoBulkAll r
def uptoBulkEntries {H : Type} : List (Lit × DataW H) → Nat
  | [] => 0
  | x :: r => uptoBulkEntry x + uptoBulkEntries r
def uptoBulkEntry {H : Type} : Lit × DataW H → Nat
  | (.string bytes, d) => bytes.length + uptoBulk d + 1
  | (_, d) => uptoBulk d + 1
 end
def uptoSmall : (H : Type) → List (DataW H) → Bool := fun _ ds => decide (uptoBulkAll ds ≤ 1048576)
def OpenSpec.upto (s : _root_.Go.ChangeSpec) : _root_.Go.OpenSpec := { _root_.Go.OpenSpec.ofChange s with cond := some uptoSmall }

/-- 'laws.FnExactWriteSec', WHERE WHAT IT READS IS OF BULK AT MOST 1048576: true; the input reads as it did. -/
def fnExactWriteSecUptoRow : OpenClaim := { program := "ytmkiljflkndmoak", sum := "40360c120566669217422e3fcb7efb7832f3e8e959c38110708be74b7e395e6e", func := "loop.example/g00398/laws.FnExactWriteSec", spec := "fnExactWriteSec", unfollowed := true, recurses := true, apart := false, narrowed := true }
def FnExactWriteSecUptoSaid : Prop := fnExactWriteSecUptoRow.holds Try.pinned (OpenSpec.upto fnExactWriteSecSpec)

/-- 'laws.FnExactFlushMem', WHERE WHAT IT READS IS OF BULK AT MOST 1048576: true; the input reads as it did. -/
def fnExactFlushMemUptoRow : OpenClaim := { program := "ytmkiljflkndmoak", sum := "40360c120566669217422e3fcb7efb7832f3e8e959c38110708be74b7e395e6e", func := "loop.example/g00398/laws.FnExactFlushMem", spec := "fnExactFlushMem", apart := false, narrowed := true }
def FnExactFlushMemUptoSaid : Prop := fnExactFlushMemUptoRow.holds Try.pinned (OpenSpec.upto fnExactFlushMemSpec)

/-- 'laws.FnExactFallMem', WHERE WHAT IT READS IS OF BULK AT MOST 1048576: true; the input reads as it did. -/
def fnExactFallMemUptoRow : OpenClaim := { program := "ytmkiljflkndmoak", sum := "40360c120566669217422e3fcb7efb7832f3e8e959c38110708be74b7e395e6e", func := "loop.example/g00398/laws.FnExactFallMem", spec := "fnExactFallMem", apart := false, narrowed := true }
def FnExactFallMemUptoSaid : Prop := fnExactFallMemUptoRow.holds Try.pinned (OpenSpec.upto fnExactFallMemSpec)

/-- 'laws.FnExactFailMem', WHERE WHAT IT READS IS OF BULK AT MOST 1048576: true; the input reads as it did. -/
def fnExactFailMemUptoRow : OpenClaim := { program := "ytmkiljflkndmoak", sum := "40360c120566669217422e3fcb7efb7832f3e8e959c38110708be74b7e395e6e", func := "loop.example/g00398/laws.FnExactFailMem", spec := "fnExactFailMem", apart := false, narrowed := true }
def FnExactFailMemUptoSaid : Prop := fnExactFailMemUptoRow.holds Try.pinned (OpenSpec.upto fnExactFailMemSpec)

/-- 'laws.FnExactSpoilSec', WHERE WHAT IT READS IS OF BULK AT MOST 1048576: true; the input reads as it did. -/
def fnExactSpoilSecUptoRow : OpenClaim := { program := "ytmkiljflkndmoak", sum := "40360c120566669217422e3fcb7efb7832f3e8e959c38110708be74b7e395e6e", func := "loop.example/g00398/laws.FnExactSpoilSec", spec := "fnExactSpoilSec", inPlace := ["slices.overlaps[int]"], apart := false, narrowed := true }
def FnExactSpoilSecUptoSaid : Prop := fnExactSpoilSecUptoRow.holds Try.pinned (OpenSpec.upto fnExactSpoilSecSpec)

/-- 'laws.FnExactGeoOk', WHERE WHAT IT READS IS OF BULK AT MOST 1048576: true; the input reads as it did. -/
def fnExactGeoOkUptoRow : OpenClaim := { program := "ytmkiljflkndmoak", sum := "40360c120566669217422e3fcb7efb7832f3e8e959c38110708be74b7e395e6e", func := "loop.example/g00398/laws.FnExactGeoOk", spec := "fnExactGeoOk", apart := false, narrowed := true }
def FnExactGeoOkUptoSaid : Prop := fnExactGeoOkUptoRow.holds Try.pinned (OpenSpec.upto fnExactGeoOkSpec)

end Rows
end Go.Proofs.Ytmkiljflkndmoak
