/-
  No cell of these rows narrows 'for every input' (looked for: loops, veiled, ifaces, maps, wideKeys, modest, calm, conditions, laid).
  DERIVED. THE GIVEN ROWS OF THIS SEAT. 9 by the template 'for every input the law returns true; each argument reads behind the call as it read before'; 0 by the template 'total and deterministic' (their statements: YtddkhnclmeikfaaGreatTotals.lean).
  GIVEN WITH THE SEED: the statements are not yours to turn. If you find one false, say at which input.
  Laid BY PROGRAM, IN A SANDBOX (cutbox-rows.mjs): the forced cells as the released guide's own fill.sh prints them over the translation 802108dd16b8b99b… (all of the seat's roots in one cut). By AI agents, Wed Nov 11 2026. No macro, syntax, notation, axiom, sorry.
-/
import Derived.Test.YtddkhnclmeikfaaGreatChecked
import GoSem.Claim
import GoSem.ClaimJoined
import GoSem.ClaimMapViews
import Derived.JoinedTies
import Derived.KernelRfl
namespace Go.Proofs.YtddkhnclmeikfaaGreat
/- THE CELL 'sum', in the pinned program and in every row, IS THE sha256 OF THE DUMP (.gsa) THAT YtddkhnclmeikfaaGreatProg.lean LOADS. Nothing in Lean hashes anything: it is a label: what it is worth is what the hold of that sum in a sandbox is worth. -/
noncomputable def Tryz.pinned : Pinned := { name := "ytddkhnclmeikfaagreat", sum := "802108dd16b8b99b5a069739b9a4f7ce501b2228876d1c019e706ab2bfdd6160", checked := Tryz.checked }
namespace Rows
def none {H : Type} : Left H := { results := [], args := [] }

/-- 'laws.FnPace': WHATEVER THE INPUT: true; the input reads as it did. -/
def fnPaceSpec : ChangeSpec := { name := "fnPace", fn := fun _ => fun
  | [d1, d2] => { results := [.lit (.bool true)], args := [d1, d2] }
  | _ => none }
def fnPaceRow : OpenClaim := { program := "ytddkhnclmeikfaagreat", sum := "802108dd16b8b99b5a069739b9a4f7ce501b2228876d1c019e706ab2bfdd6160", func := "loop.example/spool/laws.FnPace", spec := "fnPace", unfollowed := true, recurses := true, apart := false }
def FnPaceSaid : Prop := fnPaceRow.holds Tryz.pinned (OpenSpec.ofChange fnPaceSpec)

/-- ITS FALSE NEIGHBOUR: 'it returns false'. Refute it at one input. -/
def fnPaceWrong : ChangeSpec := { name := "fnPace", fn := fun _ => fun
  | [d1, d2] => { results := [.lit (.bool false)], args := [d1, d2] }
  | _ => none }
def FnPaceWrongFalsely : Prop := fnPaceRow.holds Tryz.pinned (OpenSpec.ofChange fnPaceWrong)

/-- 'laws.FnUnseen': WHATEVER THE INPUT: true; the input reads as it did. -/
def fnUnseenSpec : ChangeSpec := { name := "fnUnseen", fn := fun _ => fun
  | [d1, d2] => { results := [.lit (.bool true)], args := [d1, d2] }
  | _ => none }
def fnUnseenRow : OpenClaim := { program := "ytddkhnclmeikfaagreat", sum := "802108dd16b8b99b5a069739b9a4f7ce501b2228876d1c019e706ab2bfdd6160", func := "loop.example/spool/laws.FnUnseen", spec := "fnUnseen", unfollowed := true, recurses := true, apart := false }
def FnUnseenSaid : Prop := fnUnseenRow.holds Tryz.pinned (OpenSpec.ofChange fnUnseenSpec)

/-- ITS FALSE NEIGHBOUR: 'it returns false'. Refute it at one input. -/
def fnUnseenWrong : ChangeSpec := { name := "fnUnseen", fn := fun _ => fun
  | [d1, d2] => { results := [.lit (.bool false)], args := [d1, d2] }
  | _ => none }
def FnUnseenWrongFalsely : Prop := fnUnseenRow.holds Tryz.pinned (OpenSpec.ofChange fnUnseenWrong)

/-- 'laws.FnSteps': WHATEVER THE INPUT: true; the input reads as it did. -/
def fnStepsSpec : ChangeSpec := { name := "fnSteps", fn := fun _ => fun
  | [d1, d2] => { results := [.lit (.bool true)], args := [d1, d2] }
  | _ => none }
def fnStepsRow : OpenClaim := { program := "ytddkhnclmeikfaagreat", sum := "802108dd16b8b99b5a069739b9a4f7ce501b2228876d1c019e706ab2bfdd6160", func := "loop.example/spool/laws.FnSteps", spec := "fnSteps", unfollowed := true, recurses := true, apart := false }
def FnStepsSaid : Prop := fnStepsRow.holds Tryz.pinned (OpenSpec.ofChange fnStepsSpec)

/-- ITS FALSE NEIGHBOUR: 'it returns false'. Refute it at one input. -/
def fnStepsWrong : ChangeSpec := { name := "fnSteps", fn := fun _ => fun
  | [d1, d2] => { results := [.lit (.bool false)], args := [d1, d2] }
  | _ => none }
def FnStepsWrongFalsely : Prop := fnStepsRow.holds Tryz.pinned (OpenSpec.ofChange fnStepsWrong)

/-- 'laws.FnClean': WHATEVER THE INPUT: true; the input reads as it did. -/
def fnCleanSpec : ChangeSpec := { name := "fnClean", fn := fun _ => fun
  | [d] => { results := [.lit (.bool true)], args := [d] }
  | _ => none }
def fnCleanRow : OpenClaim := { program := "ytddkhnclmeikfaagreat", sum := "802108dd16b8b99b5a069739b9a4f7ce501b2228876d1c019e706ab2bfdd6160", func := "loop.example/spool/laws.FnClean", spec := "fnClean", unfollowed := true, recurses := true, apart := false }
def FnCleanSaid : Prop := fnCleanRow.holds Tryz.pinned (OpenSpec.ofChange fnCleanSpec)

/-- ITS FALSE NEIGHBOUR: 'it returns false'. Refute it at one input. -/
def fnCleanWrong : ChangeSpec := { name := "fnClean", fn := fun _ => fun
  | [d] => { results := [.lit (.bool false)], args := [d] }
  | _ => none }
def FnCleanWrongFalsely : Prop := fnCleanRow.holds Tryz.pinned (OpenSpec.ofChange fnCleanWrong)

/-- 'laws.FnSettles': WHATEVER THE INPUT: true; the input reads as it did. -/
def fnSettlesSpec : ChangeSpec := { name := "fnSettles", fn := fun _ => fun
  | [d] => { results := [.lit (.bool true)], args := [d] }
  | _ => none }
def fnSettlesRow : OpenClaim := { program := "ytddkhnclmeikfaagreat", sum := "802108dd16b8b99b5a069739b9a4f7ce501b2228876d1c019e706ab2bfdd6160", func := "loop.example/spool/laws.FnSettles", spec := "fnSettles", unfollowed := true, recurses := true, apart := false }
def FnSettlesSaid : Prop := fnSettlesRow.holds Tryz.pinned (OpenSpec.ofChange fnSettlesSpec)

/-- ITS FALSE NEIGHBOUR: 'it returns false'. Refute it at one input. -/
def fnSettlesWrong : ChangeSpec := { name := "fnSettles", fn := fun _ => fun
  | [d] => { results := [.lit (.bool false)], args := [d] }
  | _ => none }
def FnSettlesWrongFalsely : Prop := fnSettlesRow.holds Tryz.pinned (OpenSpec.ofChange fnSettlesWrong)

/-- 'laws.FnChain': WHATEVER THE INPUT: true; the input reads as it did. -/
def fnChainSpec : ChangeSpec := { name := "fnChain", fn := fun _ => fun
  | [d] => { results := [.lit (.bool true)], args := [d] }
  | _ => none }
def fnChainRow : OpenClaim := { program := "ytddkhnclmeikfaagreat", sum := "802108dd16b8b99b5a069739b9a4f7ce501b2228876d1c019e706ab2bfdd6160", func := "loop.example/spool/laws.FnChain", spec := "fnChain", unfollowed := true, recurses := true, apart := false }
def FnChainSaid : Prop := fnChainRow.holds Tryz.pinned (OpenSpec.ofChange fnChainSpec)

/-- ITS FALSE NEIGHBOUR: 'it returns false'. Refute it at one input. -/
def fnChainWrong : ChangeSpec := { name := "fnChain", fn := fun _ => fun
  | [d] => { results := [.lit (.bool false)], args := [d] }
  | _ => none }
def FnChainWrongFalsely : Prop := fnChainRow.holds Tryz.pinned (OpenSpec.ofChange fnChainWrong)

/-- 'laws.FnLasts': WHATEVER THE INPUT: true; the input reads as it did. -/
def fnLastsSpec : ChangeSpec := { name := "fnLasts", fn := fun _ => fun
  | [d] => { results := [.lit (.bool true)], args := [d] }
  | _ => none }
def fnLastsRow : OpenClaim := { program := "ytddkhnclmeikfaagreat", sum := "802108dd16b8b99b5a069739b9a4f7ce501b2228876d1c019e706ab2bfdd6160", func := "loop.example/spool/laws.FnLasts", spec := "fnLasts", unfollowed := true, recurses := true, apart := false }
def FnLastsSaid : Prop := fnLastsRow.holds Tryz.pinned (OpenSpec.ofChange fnLastsSpec)

/-- ITS FALSE NEIGHBOUR: 'it returns false'. Refute it at one input. -/
def fnLastsWrong : ChangeSpec := { name := "fnLasts", fn := fun _ => fun
  | [d] => { results := [.lit (.bool false)], args := [d] }
  | _ => none }
def FnLastsWrongFalsely : Prop := fnLastsRow.holds Tryz.pinned (OpenSpec.ofChange fnLastsWrong)

/-- 'laws.FnFull': WHATEVER THE INPUT: true; the input reads as it did. -/
def fnFullSpec : ChangeSpec := { name := "fnFull", fn := fun _ => fun
  | [d] => { results := [.lit (.bool true)], args := [d] }
  | _ => none }
def fnFullRow : OpenClaim := { program := "ytddkhnclmeikfaagreat", sum := "802108dd16b8b99b5a069739b9a4f7ce501b2228876d1c019e706ab2bfdd6160", func := "loop.example/spool/laws.FnFull", spec := "fnFull", unfollowed := true, recurses := true, apart := false }
def FnFullSaid : Prop := fnFullRow.holds Tryz.pinned (OpenSpec.ofChange fnFullSpec)

/-- ITS FALSE NEIGHBOUR: 'it returns false'. Refute it at one input. -/
def fnFullWrong : ChangeSpec := { name := "fnFull", fn := fun _ => fun
  | [d] => { results := [.lit (.bool false)], args := [d] }
  | _ => none }
def FnFullWrongFalsely : Prop := fnFullRow.holds Tryz.pinned (OpenSpec.ofChange fnFullWrong)

/-- 'laws.FnForced': WHATEVER THE INPUT: true; the input reads as it did. -/
def fnForcedSpec : ChangeSpec := { name := "fnForced", fn := fun _ => fun
  | [d] => { results := [.lit (.bool true)], args := [d] }
  | _ => none }
def fnForcedRow : OpenClaim := { program := "ytddkhnclmeikfaagreat", sum := "802108dd16b8b99b5a069739b9a4f7ce501b2228876d1c019e706ab2bfdd6160", func := "loop.example/spool/laws.FnForced", spec := "fnForced", unfollowed := true, recurses := true, apart := false }
def FnForcedSaid : Prop := fnForcedRow.holds Tryz.pinned (OpenSpec.ofChange fnForcedSpec)

/-- ITS FALSE NEIGHBOUR: 'it returns false'. Refute it at one input. -/
def fnForcedWrong : ChangeSpec := { name := "fnForced", fn := fun _ => fun
  | [d] => { results := [.lit (.bool false)], args := [d] }
  | _ => none }
def FnForcedWrongFalsely : Prop := fnForcedRow.holds Tryz.pinned (OpenSpec.ofChange fnForcedWrong)

/- THE SECOND FORM. 'bulk': how many values and letters a reading holds, each counted each time it is reached (what is shared counts as often as it is met; a slice's spare places count too). A statement '..UptoSaid' is the law's where the arguments, and the package variables that the reading takes, are together of bulk at most 1048576: NARROWER than '..Said'. Prove '..Said' where nothing that the law and all that it calls make is longer than what came in: it says more and counts as full. Else prove '..UptoSaid'. A law counts once. -/
mutual
def uptoBulk {H : Type} : DataW H → Nat
  | .lit (.string bytes) => bytes.length + 1
  | .lit _ => 1
  | .nil => 1
  | .ptr d => uptoBulk d + 1
  | .slice elems spare => uptoBulkAll elems + uptoBulkAll spare + 1
  | .agg parts => uptoBulkAll parts + 1
  | .iface _ d => uptoBulk d + 1
  | .map entries => uptoBulkEntries entries + 1
  | .held _ => 1
def uptoBulkAll {H : Type} : List (DataW H) → Nat
  | [] => 0
  | d :: r => uptoBulk d + uptoBulkAll r
def uptoBulkEntries {H : Type} : List (Lit × DataW H) → Nat
  | [] => 0
  | x :: r => uptoBulkEntry x + uptoBulkEntries r
def uptoBulkEntry {H : Type} : Lit × DataW H → Nat
  | (.string bytes, d) => bytes.length + uptoBulk d + 1
  | (_, d) => uptoBulk d + 1
 end
def uptoSmall : (H : Type) → List (DataW H) → Bool := fun _ ds => decide (uptoBulkAll ds ≤ 1048576)
def OpenSpec.upto (s : _root_.Go.ChangeSpec) : _root_.Go.OpenSpec := { _root_.Go.OpenSpec.ofChange s with cond := some uptoSmall }

/-- 'laws.FnPace', WHERE WHAT IT READS IS OF BULK AT MOST 1048576: true; the input reads as it did. -/
def fnPaceUptoRow : OpenClaim := { program := "ytddkhnclmeikfaagreat", sum := "802108dd16b8b99b5a069739b9a4f7ce501b2228876d1c019e706ab2bfdd6160", func := "loop.example/spool/laws.FnPace", spec := "fnPace", unfollowed := true, recurses := true, apart := false, narrowed := true }
def FnPaceUptoSaid : Prop := fnPaceUptoRow.holds Tryz.pinned (OpenSpec.upto fnPaceSpec)

/-- 'laws.FnUnseen', WHERE WHAT IT READS IS OF BULK AT MOST 1048576: true; the input reads as it did. -/
def fnUnseenUptoRow : OpenClaim := { program := "ytddkhnclmeikfaagreat", sum := "802108dd16b8b99b5a069739b9a4f7ce501b2228876d1c019e706ab2bfdd6160", func := "loop.example/spool/laws.FnUnseen", spec := "fnUnseen", unfollowed := true, recurses := true, apart := false, narrowed := true }
def FnUnseenUptoSaid : Prop := fnUnseenUptoRow.holds Tryz.pinned (OpenSpec.upto fnUnseenSpec)

/-- 'laws.FnSteps', WHERE WHAT IT READS IS OF BULK AT MOST 1048576: true; the input reads as it did. -/
def fnStepsUptoRow : OpenClaim := { program := "ytddkhnclmeikfaagreat", sum := "802108dd16b8b99b5a069739b9a4f7ce501b2228876d1c019e706ab2bfdd6160", func := "loop.example/spool/laws.FnSteps", spec := "fnSteps", unfollowed := true, recurses := true, apart := false, narrowed := true }
def FnStepsUptoSaid : Prop := fnStepsUptoRow.holds Tryz.pinned (OpenSpec.upto fnStepsSpec)

/-- 'laws.FnClean', WHERE WHAT IT READS IS OF BULK AT MOST 1048576: true; the input reads as it did. -/
def fnCleanUptoRow : OpenClaim := { program := "ytddkhnclmeikfaagreat", sum := "802108dd16b8b99b5a069739b9a4f7ce501b2228876d1c019e706ab2bfdd6160", func := "loop.example/spool/laws.FnClean", spec := "fnClean", unfollowed := true, recurses := true, apart := false, narrowed := true }
def FnCleanUptoSaid : Prop := fnCleanUptoRow.holds Tryz.pinned (OpenSpec.upto fnCleanSpec)

/-- 'laws.FnSettles', WHERE WHAT IT READS IS OF BULK AT MOST 1048576: true; the input reads as it did. -/
def fnSettlesUptoRow : OpenClaim := { program := "ytddkhnclmeikfaagreat", sum := "802108dd16b8b99b5a069739b9a4f7ce501b2228876d1c019e706ab2bfdd6160", func := "loop.example/spool/laws.FnSettles", spec := "fnSettles", unfollowed := true, recurses := true, apart := false, narrowed := true }
def FnSettlesUptoSaid : Prop := fnSettlesUptoRow.holds Tryz.pinned (OpenSpec.upto fnSettlesSpec)

/-- 'laws.FnChain', WHERE WHAT IT READS IS OF BULK AT MOST 1048576: true; the input reads as it did. -/
def fnChainUptoRow : OpenClaim := { program := "ytddkhnclmeikfaagreat", sum := "802108dd16b8b99b5a069739b9a4f7ce501b2228876d1c019e706ab2bfdd6160", func := "loop.example/spool/laws.FnChain", spec := "fnChain", unfollowed := true, recurses := true, apart := false, narrowed := true }
def FnChainUptoSaid : Prop := fnChainUptoRow.holds Tryz.pinned (OpenSpec.upto fnChainSpec)

/-- 'laws.FnLasts', WHERE WHAT IT READS IS OF BULK AT MOST 1048576: true; the input reads as it did. -/
def fnLastsUptoRow : OpenClaim := { program := "ytddkhnclmeikfaagreat", sum := "802108dd16b8b99b5a069739b9a4f7ce501b2228876d1c019e706ab2bfdd6160", func := "loop.example/spool/laws.FnLasts", spec := "fnLasts", unfollowed := true, recurses := true, apart := false, narrowed := true }
def FnLastsUptoSaid : Prop := fnLastsUptoRow.holds Tryz.pinned (OpenSpec.upto fnLastsSpec)

/-- 'laws.FnFull', WHERE WHAT IT READS IS OF BULK AT MOST 1048576: true; the input reads as it did. -/
def fnFullUptoRow : OpenClaim := { program := "ytddkhnclmeikfaagreat", sum := "802108dd16b8b99b5a069739b9a4f7ce501b2228876d1c019e706ab2bfdd6160", func := "loop.example/spool/laws.FnFull", spec := "fnFull", unfollowed := true, recurses := true, apart := false, narrowed := true }
def FnFullUptoSaid : Prop := fnFullUptoRow.holds Tryz.pinned (OpenSpec.upto fnFullSpec)

/-- 'laws.FnForced', WHERE WHAT IT READS IS OF BULK AT MOST 1048576: true; the input reads as it did. -/
def fnForcedUptoRow : OpenClaim := { program := "ytddkhnclmeikfaagreat", sum := "802108dd16b8b99b5a069739b9a4f7ce501b2228876d1c019e706ab2bfdd6160", func := "loop.example/spool/laws.FnForced", spec := "fnForced", unfollowed := true, recurses := true, apart := false, narrowed := true }
def FnForcedUptoSaid : Prop := fnForcedUptoRow.holds Tryz.pinned (OpenSpec.upto fnForcedSpec)

end Rows
end Go.Proofs.YtddkhnclmeikfaaGreat
