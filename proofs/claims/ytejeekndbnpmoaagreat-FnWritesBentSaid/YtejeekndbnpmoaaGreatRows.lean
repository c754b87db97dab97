/-
  No cell of these rows narrows 'for every input' (looked for: loops, veiled, ifaces, maps, wideKeys, modest, calm, conditions, laid).
  DERIVED. THE GIVEN ROWS OF THIS SEAT. 6 by the template 'for every input the law returns true; each argument reads behind the call as it read before'; 0 by the template 'total and deterministic' (their statements: YtejeekndbnpmoaaGreatTotals.lean).
  GIVEN WITH THE SEED: the statements are not yours to turn. If you find one false, say at which input.
  Laid BY PROGRAM, IN A SANDBOX (cutbox-rows.mjs): the forced cells as the released guide's own fill.sh prints them over the translation 0a26b107a5e24fd4… (all of the seat's roots in one cut). By AI agents, Wed Nov 11 2026. No macro, syntax, notation, axiom, sorry.
-/
import Derived.Test.YtejeekndbnpmoaaGreatChecked
import GoSem.Claim
import GoSem.ClaimJoined
import GoSem.ClaimMapViews
import Derived.JoinedTies
import Derived.KernelRfl
namespace Go.Proofs.YtejeekndbnpmoaaGreat
/- THE CELL 'sum', in the pinned program and in every row, IS THE sha256 OF THE DUMP (.gsa) THAT YtejeekndbnpmoaaGreatProg.lean LOADS. Nothing in Lean hashes anything: it is a label: what it is worth is what the hold of that sum in a sandbox is worth. -/
noncomputable def Tryz.pinned : Pinned := { name := "ytejeekndbnpmoaagreat", sum := "0a26b107a5e24fd490c927570e9fd34d074e0bdb8eb753d8a2af237a865c7d8e", checked := Tryz.checked }
namespace Rows
def none {H : Type} : Left H := { results := [], args := [] }

/-- 'laws.FnWords': WHATEVER THE INPUT: true; the input reads as it did. -/
def fnWordsSpec : ChangeSpec := { name := "fnWords", fn := fun _ => fun
  | [d] => { results := [.lit (.bool true)], args := [d] }
  | _ => none }
def fnWordsRow : OpenClaim := { program := "ytejeekndbnpmoaagreat", sum := "0a26b107a5e24fd490c927570e9fd34d074e0bdb8eb753d8a2af237a865c7d8e", func := "loop.example/g00398/laws.FnWords", spec := "fnWords", unfollowed := true, recurses := true, apart := false }
def FnWordsSaid : Prop := fnWordsRow.holds Tryz.pinned (OpenSpec.ofChange fnWordsSpec)

/-- ITS FALSE NEIGHBOUR: 'it returns false'. Refute it at one input. -/
def fnWordsWrong : ChangeSpec := { name := "fnWords", fn := fun _ => fun
  | [d] => { results := [.lit (.bool false)], args := [d] }
  | _ => none }
def FnWordsWrongFalsely : Prop := fnWordsRow.holds Tryz.pinned (OpenSpec.ofChange fnWordsWrong)

/-- 'laws.FnWritesBent': WHATEVER THE INPUT: true; the input reads as it did. -/
def fnWritesBentSpec : ChangeSpec := { name := "fnWritesBent", fn := fun _ => fun
  | [d] => { results := [.lit (.bool true)], args := [d] }
  | _ => none }
def fnWritesBentRow : OpenClaim := { program := "ytejeekndbnpmoaagreat", sum := "0a26b107a5e24fd490c927570e9fd34d074e0bdb8eb753d8a2af237a865c7d8e", func := "loop.example/g00398/laws.FnWritesBent", spec := "fnWritesBent", unfollowed := true, recurses := true, apart := false }
def FnWritesBentSaid : Prop := fnWritesBentRow.holds Tryz.pinned (OpenSpec.ofChange fnWritesBentSpec)

/-- ITS FALSE NEIGHBOUR: 'it returns false'. Refute it at one input. -/
def fnWritesBentWrong : ChangeSpec := { name := "fnWritesBent", fn := fun _ => fun
  | [d] => { results := [.lit (.bool false)], args := [d] }
  | _ => none }
def FnWritesBentWrongFalsely : Prop := fnWritesBentRow.holds Tryz.pinned (OpenSpec.ofChange fnWritesBentWrong)

/-- 'laws.FnBlocksBent': WHATEVER THE INPUT: true; the input reads as it did. -/
def fnBlocksBentSpec : ChangeSpec := { name := "fnBlocksBent", fn := fun _ => fun
  | [d] => { results := [.lit (.bool true)], args := [d] }
  | _ => none }
def fnBlocksBentRow : OpenClaim := { program := "ytejeekndbnpmoaagreat", sum := "0a26b107a5e24fd490c927570e9fd34d074e0bdb8eb753d8a2af237a865c7d8e", func := "loop.example/g00398/laws.FnBlocksBent", spec := "fnBlocksBent", unfollowed := true, recurses := true, apart := false }
def FnBlocksBentSaid : Prop := fnBlocksBentRow.holds Tryz.pinned (OpenSpec.ofChange fnBlocksBentSpec)

/-- ITS FALSE NEIGHBOUR: 'it returns false'. Refute it at one input. -/
def fnBlocksBentWrong : ChangeSpec := { name := "fnBlocksBent", fn := fun _ => fun
  | [d] => { results := [.lit (.bool false)], args := [d] }
  | _ => none }
def FnBlocksBentWrongFalsely : Prop := fnBlocksBentRow.holds Tryz.pinned (OpenSpec.ofChange fnBlocksBentWrong)

/-- 'laws.FnSpoilt': WHATEVER THE INPUT: true; the input reads as it did. -/
def fnSpoiltSpec : ChangeSpec := { name := "fnSpoilt", fn := fun _ => fun
  | [d] => { results := [.lit (.bool true)], args := [d] }
  | _ => none }
def fnSpoiltRow : OpenClaim := { program := "ytejeekndbnpmoaagreat", sum := "0a26b107a5e24fd490c927570e9fd34d074e0bdb8eb753d8a2af237a865c7d8e", func := "loop.example/g00398/laws.FnSpoilt", spec := "fnSpoilt", inPlace := ["slices.overlaps[int]"], unfollowed := true, recurses := true, apart := false }
def FnSpoiltSaid : Prop := fnSpoiltRow.holds Tryz.pinned (OpenSpec.ofChange fnSpoiltSpec)

/-- ITS FALSE NEIGHBOUR: 'it returns false'. Refute it at one input. -/
def fnSpoiltWrong : ChangeSpec := { name := "fnSpoilt", fn := fun _ => fun
  | [d] => { results := [.lit (.bool false)], args := [d] }
  | _ => none }
def FnSpoiltWrongFalsely : Prop := fnSpoiltRow.holds Tryz.pinned (OpenSpec.ofChange fnSpoiltWrong)

/-- 'laws.FnFailsBent': WHATEVER THE INPUT: true; the input reads as it did. -/
def fnFailsBentSpec : ChangeSpec := { name := "fnFailsBent", fn := fun _ => fun
  | [d] => { results := [.lit (.bool true)], args := [d] }
  | _ => none }
def fnFailsBentRow : OpenClaim := { program := "ytejeekndbnpmoaagreat", sum := "0a26b107a5e24fd490c927570e9fd34d074e0bdb8eb753d8a2af237a865c7d8e", func := "loop.example/g00398/laws.FnFailsBent", spec := "fnFailsBent", inPlace := ["slices.overlaps[int]"], unfollowed := true, recurses := true, apart := false }
def FnFailsBentSaid : Prop := fnFailsBentRow.holds Tryz.pinned (OpenSpec.ofChange fnFailsBentSpec)

/-- ITS FALSE NEIGHBOUR: 'it returns false'. Refute it at one input. -/
def fnFailsBentWrong : ChangeSpec := { name := "fnFailsBent", fn := fun _ => fun
  | [d] => { results := [.lit (.bool false)], args := [d] }
  | _ => none }
def FnFailsBentWrongFalsely : Prop := fnFailsBentRow.holds Tryz.pinned (OpenSpec.ofChange fnFailsBentWrong)

/-- 'laws.FnBuiltBent': WHATEVER THE INPUT: true; the input reads as it did. -/
def fnBuiltBentSpec : ChangeSpec := { name := "fnBuiltBent", fn := fun _ => fun
  | [d] => { results := [.lit (.bool true)], args := [d] }
  | _ => none }
def fnBuiltBentRow : OpenClaim := { program := "ytejeekndbnpmoaagreat", sum := "0a26b107a5e24fd490c927570e9fd34d074e0bdb8eb753d8a2af237a865c7d8e", func := "loop.example/g00398/laws.FnBuiltBent", spec := "fnBuiltBent", unfollowed := true, recurses := true, apart := false }
def FnBuiltBentSaid : Prop := fnBuiltBentRow.holds Tryz.pinned (OpenSpec.ofChange fnBuiltBentSpec)

/-- ITS FALSE NEIGHBOUR: 'it returns false'. Refute it at one input. -/
def fnBuiltBentWrong : ChangeSpec := { name := "fnBuiltBent", fn := fun _ => fun
  | [d] => { results := [.lit (.bool false)], args := [d] }
  | _ => none }
def FnBuiltBentWrongFalsely : Prop := fnBuiltBentRow.holds Tryz.pinned (OpenSpec.ofChange fnBuiltBentWrong)

/- THE SECOND FORM. 'bulk': how many values and letters a reading holds, each counted each time it is reached (what is shared counts as often as it is met; a slice's spare places count too). A statement '..UptoSaid' is the law's where the arguments, and the package variables that the reading takes, are together of bulk at most 1048576: NARROWER than '..Said'. Prove '..Said' where nothing that the law and all that it calls make is longer than what came in: it says more and counts as full. Else prove '..UptoSaid'. A law counts once. -/
mutual
def uptoBulk {H : Type} : DataW H → Nat
  | .lit (.string bytes) => bytes.length + 1
  | .lit _ => 1
  | .nil => 1
  | .ptr d => uptoBulk d + 1
  | .slice elems spare => uptoBulkAll elems + uptoBulkAll spare + 1
  | .agg parts => uptoBulkAll parts + 1
  | .iface _ d => uptoBulk d + 1
  | .map entries => uptoBulkEntries entries + 1
  | .held _ => 1
def uptoBulkAll {H : Type} : List (DataW H) → Nat
  | [] => 0
  | d :: r => uptoBulk d + uptoBulkAll r
def uptoBulkEntries {H : Type} : List (Lit × DataW H) → Nat
  | [] => 0
  | x :: r => uptoBulkEntry x + uptoBulkEntries r
def uptoBulkEntry {H : Type} : Lit × DataW H → Nat
  | (.string bytes, d) => bytes.length + uptoBulk d + 1
  | (_, d) => uptoBulk d + 1
 end
def uptoSmall : (H : Type) → List (DataW H) → Bool := fun _ ds => decide (uptoBulkAll ds ≤ 1048576)
def OpenSpec.upto (s : _root_.Go.ChangeSpec) : _root_.Go.OpenSpec := { _root_.Go.OpenSpec.ofChange s with cond := some uptoSmall }

/-- 'laws.FnWords', WHERE WHAT IT READS IS OF BULK AT MOST 1048576: true; the input reads as it did. -/
def fnWordsUptoRow : OpenClaim := { program := "ytejeekndbnpmoaagreat", sum := "0a26b107a5e24fd490c927570e9fd34d074e0bdb8eb753d8a2af237a865c7d8e", func := "loop.example/g00398/laws.FnWords", spec := "fnWords", unfollowed := true, recurses := true, apart := false, narrowed := true }
def FnWordsUptoSaid : Prop := fnWordsUptoRow.holds Tryz.pinned (OpenSpec.upto fnWordsSpec)

/-- 'laws.FnWritesBent', WHERE WHAT IT READS IS OF BULK AT MOST 1048576: true; the input reads as it did. -/
def fnWritesBentUptoRow : OpenClaim := { program := "ytejeekndbnpmoaagreat", sum := "0a26b107a5e24fd490c927570e9fd34d074e0bdb8eb753d8a2af237a865c7d8e", func := "loop.example/g00398/laws.FnWritesBent", spec := "fnWritesBent", unfollowed := true, recurses := true, apart := false, narrowed := true }
def FnWritesBentUptoSaid : Prop := fnWritesBentUptoRow.holds Tryz.pinned (OpenSpec.upto fnWritesBentSpec)

/-- 'laws.FnBlocksBent', WHERE WHAT IT READS IS OF BULK AT MOST 1048576: true; the input reads as it did. -/
def fnBlocksBentUptoRow : OpenClaim := { program := "ytejeekndbnpmoaagreat", sum := "0a26b107a5e24fd490c927570e9fd34d074e0bdb8eb753d8a2af237a865c7d8e", func := "loop.example/g00398/laws.FnBlocksBent", spec := "fnBlocksBent", unfollowed := true, recurses := true, apart := false, narrowed := true }
def FnBlocksBentUptoSaid : Prop := fnBlocksBentUptoRow.holds Tryz.pinned (OpenSpec.upto fnBlocksBentSpec)

/-- 'laws.FnSpoilt', WHERE WHAT IT READS IS OF BULK AT MOST 1048576: true; the input reads as it did. -/
def fnSpoiltUptoRow : OpenClaim := { program := "ytejeekndbnpmoaagreat", sum := "0a26b107a5e24fd490c927570e9fd34d074e0bdb8eb753d8a2af237a865c7d8e", func := "loop.example/g00398/laws.FnSpoilt", spec := "fnSpoilt", inPlace := ["slices.overlaps[int]"], unfollowed := true, recurses := true, apart := false, narrowed := true }
def FnSpoiltUptoSaid : Prop := fnSpoiltUptoRow.holds Tryz.pinned (OpenSpec.upto fnSpoiltSpec)

/-- 'laws.FnFailsBent', WHERE WHAT IT READS IS OF BULK AT MOST 1048576: true; the input reads as it did. -/
def fnFailsBentUptoRow : OpenClaim := { program := "ytejeekndbnpmoaagreat", sum := "0a26b107a5e24fd490c927570e9fd34d074e0bdb8eb753d8a2af237a865c7d8e", func := "loop.example/g00398/laws.FnFailsBent", spec := "fnFailsBent", inPlace := ["slices.overlaps[int]"], unfollowed := true, recurses := true, apart := false, narrowed := true }
def FnFailsBentUptoSaid : Prop := fnFailsBentUptoRow.holds Tryz.pinned (OpenSpec.upto fnFailsBentSpec)

/-- 'laws.FnBuiltBent', WHERE WHAT IT READS IS OF BULK AT MOST 1048576: true; the input reads as it did. -/
def fnBuiltBentUptoRow : OpenClaim := { program := "ytejeekndbnpmoaagreat", sum := "0a26b107a5e24fd490c927570e9fd34d074e0bdb8eb753d8a2af237a865c7d8e", func := "loop.example/g00398/laws.FnBuiltBent", spec := "fnBuiltBent", unfollowed := true, recurses := true, apart := false, narrowed := true }
def FnBuiltBentUptoSaid : Prop := fnBuiltBentUptoRow.holds Tryz.pinned (OpenSpec.upto fnBuiltBentSpec)

end Rows
end Go.Proofs.YtejeekndbnpmoaaGreat
