/-
  No cell of these rows narrows 'for every input' (looked for: loops, veiled, ifaces, maps, wideKeys, modest, calm, conditions, laid).
  DERIVED. THE GIVEN ROWS OF THIS SEAT. 6 by the template 'for every input the law returns true; each argument reads behind the call as it read before'; 0 by the template 'total and deterministic' (their statements: YtljkjbfkekihjaaTotals.lean).
  GIVEN WITH THE SEED: the statements are not yours to turn. If you find one false, say at which input.
  Laid BY PROGRAM, IN A SANDBOX (cutbox-rows.mjs): the forced cells as the released guide's own fill.sh prints them over the translation dbd9ee93e61171f9… (all of the seat's roots in one cut). By AI agents, Wed Nov 11 2026. No macro, syntax, notation, axiom, sorry.
-/
import Derived.Test.YtljkjbfkekihjaaChecked
import GoSem.Claim
import GoSem.ClaimJoined
import GoSem.ClaimMapViews
import Derived.JoinedTies
import Derived.KernelRfl
namespace Go.Proofs.Ytljkjbfkekihjaa
/- THE CELL 'sum', in the pinned program and in every row, IS THE sha256 OF THE DUMP (.gsa) THAT YtljkjbfkekihjaaProg.lean LOADS. Nothing in Lean hashes anything: it is a label: what it is worth is what the hold of that sum in a sandbox is worth. -/
noncomputable def Try.pinned : Pinned := { name := "ytljkjbfkekihjaa", sum := "dbd9ee93e61171f9a3a0039f78d10109e4db5665bb86568a3156e74bee436d91", checked := Try.checked }
namespace Rows
def none {H : Type} : Left H := { results := [], args := [] }

/-- 'laws.FnSupers': WHATEVER THE INPUT: true; the input reads as it did. -/
def fnSupersSpec : ChangeSpec := { name := "fnSupers", fn := fun _ => fun
  | [d] => { results := [.lit (.bool true)], args := [d] }
  | _ => none }
def fnSupersRow : OpenClaim := { program := "ytljkjbfkekihjaa", sum := "dbd9ee93e61171f9a3a0039f78d10109e4db5665bb86568a3156e74bee436d91", func := "loop.example/g00398/laws.FnSupers", spec := "fnSupers", apart := false }
def FnSupersSaid : Prop := fnSupersRow.holds Try.pinned (OpenSpec.ofChange fnSupersSpec)

/-- ITS FALSE NEIGHBOUR: 'it returns false'. Refute it at one input. -/
def fnSupersWrong : ChangeSpec := { name := "fnSupers", fn := fun _ => fun
  | [d] => { results := [.lit (.bool false)], args := [d] }
  | _ => none }
def FnSupersWrongFalsely : Prop := fnSupersRow.holds Try.pinned (OpenSpec.ofChange fnSupersWrong)

/-- 'laws.FnNewer': WHATEVER THE INPUT: true; the input reads as it did. -/
def fnNewerSpec : ChangeSpec := { name := "fnNewer", fn := fun _ => fun
  | [d] => { results := [.lit (.bool true)], args := [d] }
  | _ => none }
def fnNewerRow : OpenClaim := { program := "ytljkjbfkekihjaa", sum := "dbd9ee93e61171f9a3a0039f78d10109e4db5665bb86568a3156e74bee436d91", func := "loop.example/g00398/laws.FnNewer", spec := "fnNewer", unfollowed := true, recurses := true, apart := false }
def FnNewerSaid : Prop := fnNewerRow.holds Try.pinned (OpenSpec.ofChange fnNewerSpec)

/-- ITS FALSE NEIGHBOUR: 'it returns false'. Refute it at one input. -/
def fnNewerWrong : ChangeSpec := { name := "fnNewer", fn := fun _ => fun
  | [d] => { results := [.lit (.bool false)], args := [d] }
  | _ => none }
def FnNewerWrongFalsely : Prop := fnNewerRow.holds Try.pinned (OpenSpec.ofChange fnNewerWrong)

/-- 'laws.FnExactSuperOk': WHATEVER THE INPUT: true; the input reads as it did. -/
def fnExactSuperOkSpec : ChangeSpec := { name := "fnExactSuperOk", fn := fun _ => fun
  | [d] => { results := [.lit (.bool true)], args := [d] }
  | _ => none }
def fnExactSuperOkRow : OpenClaim := { program := "ytljkjbfkekihjaa", sum := "dbd9ee93e61171f9a3a0039f78d10109e4db5665bb86568a3156e74bee436d91", func := "loop.example/g00398/laws.FnExactSuperOk", spec := "fnExactSuperOk", apart := false }
def FnExactSuperOkSaid : Prop := fnExactSuperOkRow.holds Try.pinned (OpenSpec.ofChange fnExactSuperOkSpec)

/-- ITS FALSE NEIGHBOUR: 'it returns false'. Refute it at one input. -/
def fnExactSuperOkWrong : ChangeSpec := { name := "fnExactSuperOk", fn := fun _ => fun
  | [d] => { results := [.lit (.bool false)], args := [d] }
  | _ => none }
def FnExactSuperOkWrongFalsely : Prop := fnExactSuperOkRow.holds Try.pinned (OpenSpec.ofChange fnExactSuperOkWrong)

/-- 'laws.FnExactPutSuper': WHATEVER THE INPUT: true; the input reads as it did. -/
def fnExactPutSuperSpec : ChangeSpec := { name := "fnExactPutSuper", fn := fun _ => fun
  | [d] => { results := [.lit (.bool true)], args := [d] }
  | _ => none }
def fnExactPutSuperRow : OpenClaim := { program := "ytljkjbfkekihjaa", sum := "dbd9ee93e61171f9a3a0039f78d10109e4db5665bb86568a3156e74bee436d91", func := "loop.example/g00398/laws.FnExactPutSuper", spec := "fnExactPutSuper", apart := false }
def FnExactPutSuperSaid : Prop := fnExactPutSuperRow.holds Try.pinned (OpenSpec.ofChange fnExactPutSuperSpec)

/-- ITS FALSE NEIGHBOUR: 'it returns false'. Refute it at one input. -/
def fnExactPutSuperWrong : ChangeSpec := { name := "fnExactPutSuper", fn := fun _ => fun
  | [d] => { results := [.lit (.bool false)], args := [d] }
  | _ => none }
def FnExactPutSuperWrongFalsely : Prop := fnExactPutSuperRow.holds Try.pinned (OpenSpec.ofChange fnExactPutSuperWrong)

/-- 'laws.FnExactGetSuper': WHATEVER THE INPUT: true; the input reads as it did. -/
def fnExactGetSuperSpec : ChangeSpec := { name := "fnExactGetSuper", fn := fun _ => fun
  | [d] => { results := [.lit (.bool true)], args := [d] }
  | _ => none }
def fnExactGetSuperRow : OpenClaim := { program := "ytljkjbfkekihjaa", sum := "dbd9ee93e61171f9a3a0039f78d10109e4db5665bb86568a3156e74bee436d91", func := "loop.example/g00398/laws.FnExactGetSuper", spec := "fnExactGetSuper", apart := false }
def FnExactGetSuperSaid : Prop := fnExactGetSuperRow.holds Try.pinned (OpenSpec.ofChange fnExactGetSuperSpec)

/-- ITS FALSE NEIGHBOUR: 'it returns false'. Refute it at one input. -/
def fnExactGetSuperWrong : ChangeSpec := { name := "fnExactGetSuper", fn := fun _ => fun
  | [d] => { results := [.lit (.bool false)], args := [d] }
  | _ => none }
def FnExactGetSuperWrongFalsely : Prop := fnExactGetSuperRow.holds Try.pinned (OpenSpec.ofChange fnExactGetSuperWrong)

/-- 'laws.FnExactBestSuper': WHATEVER THE INPUT: true; the input reads as it did. -/
def fnExactBestSuperSpec : ChangeSpec := { name := "fnExactBestSuper", fn := fun _ => fun
  | [d1, d2] => { results := [.lit (.bool true)], args := [d1, d2] }
  | _ => none }
def fnExactBestSuperRow : OpenClaim := { program := "ytljkjbfkekihjaa", sum := "dbd9ee93e61171f9a3a0039f78d10109e4db5665bb86568a3156e74bee436d91", func := "loop.example/g00398/laws.FnExactBestSuper", spec := "fnExactBestSuper", apart := false }
def FnExactBestSuperSaid : Prop := fnExactBestSuperRow.holds Try.pinned (OpenSpec.ofChange fnExactBestSuperSpec)

/-- ITS FALSE NEIGHBOUR: 'it returns false'. Refute it at one input. -/
def fnExactBestSuperWrong : ChangeSpec := { name := "fnExactBestSuper", fn := fun _ => fun
  | [d1, d2] => { results := [.lit (.bool false)], args := [d1, d2] }
  | _ => none }
def FnExactBestSuperWrongFalsely : Prop := fnExactBestSuperRow.holds Try.pinned (OpenSpec.ofChange fnExactBestSuperWrong)

/- THE SECOND FORM. 'bulk': how many values and letters a reading holds, each counted each time it is reached (what is shared counts as often as it is met; a slice's spare places count too). A statement '..UptoSaid' is the law's where the arguments, and the package variables that the reading takes, are together of bulk at most 1048576: NARROWER than '..Said'. Prove '..Said' where nothing that the law and all that it calls make is longer than what came in: it says more and counts as full. Else prove '..UptoSaid'. A law counts once. -/
mutual
def uptoBulk {H : Type} : DataW H → Nat
  | .lit (.string bytes) => bytes.length + 1
  | .lit _ => 1
  | .nil => 1
  | .ptr d => uptoBulk d + 1
  | .slice elems spare => uptoBulkAll elems + uptoBulkAll spare + 1
  | .agg parts => uptoBulkAll parts + 1
  | .iface _ d => uptoBulk d + 1
  | .map entries => uptoBulkEntries entries + 1
  | .held _ => 1
def uptoBulkAll {H : Type} : List (DataW H) → Nat
  | [] => 0
  | d :: r => uptoBulk d + uptoBulkAll r
def uptoBulkEntries {H : Type} : List (Lit × DataW H) → Nat
  | [] => 0
  | x :: r => uptoBulkEntry x + uptoBulkEntries r
def uptoBulkEntry {H : Type} : Lit × DataW H → Nat
  | (.string bytes, d) => bytes.length + uptoBulk d + 1
  | (_, d) => uptoBulk d + 1
 end
def uptoSmall : (H : Type) → List (DataW H) → Bool := fun _ ds => decide (uptoBulkAll ds ≤ 1048576)
def OpenSpec.upto (s : _root_.Go.ChangeSpec) : _root_.Go.OpenSpec := { _root_.Go.OpenSpec.ofChange s with cond := some uptoSmall }

/-- 'laws.FnSupers', WHERE WHAT IT READS IS OF BULK AT MOST 1048576: true; the input reads as it did. -/
def fnSupersUptoRow : OpenClaim := { program := "ytljkjbfkekihjaa", sum := "dbd9ee93e61171f9a3a0039f78d10109e4db5665bb86568a3156e74bee436d91", func := "loop.example/g00398/laws.FnSupers", spec := "fnSupers", apart := false, narrowed := true }
def FnSupersUptoSaid : Prop := fnSupersUptoRow.holds Try.pinned (OpenSpec.upto fnSupersSpec)

/-- 'laws.FnNewer', WHERE WHAT IT READS IS OF BULK AT MOST 1048576: true; the input reads as it did. -/
def fnNewerUptoRow : OpenClaim := { program := "ytljkjbfkekihjaa", sum := "dbd9ee93e61171f9a3a0039f78d10109e4db5665bb86568a3156e74bee436d91", func := "loop.example/g00398/laws.FnNewer", spec := "fnNewer", unfollowed := true, recurses := true, apart := false, narrowed := true }
def FnNewerUptoSaid : Prop := fnNewerUptoRow.holds Try.pinned (OpenSpec.upto fnNewerSpec)

/-- 'laws.FnExactSuperOk', WHERE WHAT IT READS IS OF BULK AT MOST 1048576: true; the input reads as it did. -/
def fnExactSuperOkUptoRow : OpenClaim := { program := "ytljkjbfkekihjaa", sum := "dbd9ee93e61171f9a3a0039f78d10109e4db5665bb86568a3156e74bee436d91", func := "loop.example/g00398/laws.FnExactSuperOk", spec := "fnExactSuperOk", apart := false, narrowed := true }
def FnExactSuperOkUptoSaid : Prop := fnExactSuperOkUptoRow.holds Try.pinned (OpenSpec.upto fnExactSuperOkSpec)

/-- 'laws.FnExactPutSuper', WHERE WHAT IT READS IS OF BULK AT MOST 1048576: true; the input reads as it did. -/
def fnExactPutSuperUptoRow : OpenClaim := { program := "ytljkjbfkekihjaa", sum := "dbd9ee93e61171f9a3a0039f78d10109e4db5665bb86568a3156e74bee436d91", func := "loop.example/g00398/laws.FnExactPutSuper", spec := "fnExactPutSuper", apart := false, narrowed := true }
def FnExactPutSuperUptoSaid : Prop := fnExactPutSuperUptoRow.holds Try.pinned (OpenSpec.upto fnExactPutSuperSpec)

/-- 'laws.FnExactGetSuper', WHERE WHAT IT READS IS OF BULK AT MOST 1048576: true; the input reads as it did. -/
def fnExactGetSuperUptoRow : OpenClaim := { program := "ytljkjbfkekihjaa", sum := "dbd9ee93e61171f9a3a0039f78d10109e4db5665bb86568a3156e74bee436d91", func := "loop.example/g00398/laws.FnExactGetSuper", spec := "fnExactGetSuper", apart := false, narrowed := true }
def FnExactGetSuperUptoSaid : Prop := fnExactGetSuperUptoRow.holds Try.pinned (OpenSpec.upto fnExactGetSuperSpec)

/-- 'laws.FnExactBestSuper', WHERE WHAT IT READS IS OF BULK AT MOST 1048576: true; the input reads as it did. -/
def fnExactBestSuperUptoRow : OpenClaim := { program := "ytljkjbfkekihjaa", sum := "dbd9ee93e61171f9a3a0039f78d10109e4db5665bb86568a3156e74bee436d91", func := "loop.example/g00398/laws.FnExactBestSuper", spec := "fnExactBestSuper", apart := false, narrowed := true }
def FnExactBestSuperUptoSaid : Prop := fnExactBestSuperUptoRow.holds Try.pinned (OpenSpec.upto fnExactBestSuperSpec)

end Rows
end Go.Proofs.Ytljkjbfkekihjaa
