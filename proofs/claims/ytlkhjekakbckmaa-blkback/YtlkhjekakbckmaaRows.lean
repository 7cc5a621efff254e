/-
  No cell of these rows narrows 'for every input' (looked for: loops, veiled, ifaces, maps, wideKeys, modest, calm, conditions, laid).
  DERIVED. THE GIVEN ROWS OF THIS SEAT. 6 by the template 'for every input the law returns true; each argument reads behind the call as it read before'; 0 by the template 'total and deterministic' (their statements: YtlkhjekakbckmaaTotals.lean).
  GIVEN WITH THE SEED: the statements are not yours to turn. If you find one false, say at which input.
  Laid BY PROGRAM, IN A SANDBOX (cutbox-rows.mjs): the forced cells as the released guide's own fill.sh prints them over the translation a722b6367254e1d9… (all of the seat's roots in one cut). By AI agents, Wed Nov 11 2026. No macro, syntax, notation, axiom, sorry.
-/
import Derived.Test.YtlkhjekakbckmaaChecked
import GoSem.Claim
import GoSem.ClaimJoined
import GoSem.ClaimMapViews
import Derived.JoinedTies
import Derived.KernelRfl
namespace Go.Proofs.Ytlkhjekakbckmaa
/- THE CELL 'sum', in the pinned program and in every row, IS THE sha256 OF THE DUMP (.gsa) THAT YtlkhjekakbckmaaProg.lean LOADS. Nothing in Lean hashes anything: it is a label: what it is worth is what the hold of that sum in a sandbox is worth. -/
noncomputable def Try.pinned : Pinned := { name := "ytlkhjekakbckmaa", sum := "a722b6367254e1d980a3bdd43b1251e0878205ceefd6503416f9b8f3300a32c3", checked := Try.checked }
namespace Rows
def none {H : Type} : Left H := { results := [], args := [] }

/-- 'vireolaw19.BlkRefuses': WHATEVER THE INPUT: true; the input reads as it did. -/
def blkRefusesSpec : ChangeSpec := { name := "blkRefuses", fn := fun _ => fun
  | [d1, d2, d3] => { results := [.lit (.bool true)], args := [d1, d2, d3] }
  | _ => none }
def blkRefusesRow : OpenClaim := { program := "ytlkhjekakbckmaa", sum := "a722b6367254e1d980a3bdd43b1251e0878205ceefd6503416f9b8f3300a32c3", func := "vireo/vireolaw19.BlkRefuses", spec := "blkRefuses", inPlace := ["maps.clone"], apart := false }
def BlkRefusesSaid : Prop := blkRefusesRow.holds Try.pinned (OpenSpec.ofChange blkRefusesSpec)

/-- ITS FALSE NEIGHBOUR: 'it returns false'. Refute it at one input. -/
def blkRefusesWrong : ChangeSpec := { name := "blkRefuses", fn := fun _ => fun
  | [d1, d2, d3] => { results := [.lit (.bool false)], args := [d1, d2, d3] }
  | _ => none }
def BlkRefusesWrongFalsely : Prop := blkRefusesRow.holds Try.pinned (OpenSpec.ofChange blkRefusesWrong)

/-- 'vireolaw19.BlkBack': WHATEVER THE INPUT: true; the input reads as it did. -/
def blkBackSpec : ChangeSpec := { name := "blkBack", fn := fun _ => fun
  | [d1, d2, d3] => { results := [.lit (.bool true)], args := [d1, d2, d3] }
  | _ => none }
def blkBackRow : OpenClaim := { program := "ytlkhjekakbckmaa", sum := "a722b6367254e1d980a3bdd43b1251e0878205ceefd6503416f9b8f3300a32c3", func := "vireo/vireolaw19.BlkBack", spec := "blkBack", apart := false }
def BlkBackSaid : Prop := blkBackRow.holds Try.pinned (OpenSpec.ofChange blkBackSpec)

/-- ITS FALSE NEIGHBOUR: 'it returns false'. Refute it at one input. -/
def blkBackWrong : ChangeSpec := { name := "blkBack", fn := fun _ => fun
  | [d1, d2, d3] => { results := [.lit (.bool false)], args := [d1, d2, d3] }
  | _ => none }
def BlkBackWrongFalsely : Prop := blkBackRow.holds Try.pinned (OpenSpec.ofChange blkBackWrong)

/-- 'vireolaw19.BlkTells': WHATEVER THE INPUT: true; the input reads as it did. -/
def blkTellsSpec : ChangeSpec := { name := "blkTells", fn := fun _ => fun
  | [d1, d2] => { results := [.lit (.bool true)], args := [d1, d2] }
  | _ => none }
def blkTellsRow : OpenClaim := { program := "ytlkhjekakbckmaa", sum := "a722b6367254e1d980a3bdd43b1251e0878205ceefd6503416f9b8f3300a32c3", func := "vireo/vireolaw19.BlkTells", spec := "blkTells", apart := false }
def BlkTellsSaid : Prop := blkTellsRow.holds Try.pinned (OpenSpec.ofChange blkTellsSpec)

/-- ITS FALSE NEIGHBOUR: 'it returns false'. Refute it at one input. -/
def blkTellsWrong : ChangeSpec := { name := "blkTells", fn := fun _ => fun
  | [d1, d2] => { results := [.lit (.bool false)], args := [d1, d2] }
  | _ => none }
def BlkTellsWrongFalsely : Prop := blkTellsRow.holds Try.pinned (OpenSpec.ofChange blkTellsWrong)

/-- 'vireolaw19.BlkParses': WHATEVER THE INPUT: true; the input reads as it did. -/
def blkParsesSpec : ChangeSpec := { name := "blkParses", fn := fun _ => fun
  | [d] => { results := [.lit (.bool true)], args := [d] }
  | _ => none }
def blkParsesRow : OpenClaim := { program := "ytlkhjekakbckmaa", sum := "a722b6367254e1d980a3bdd43b1251e0878205ceefd6503416f9b8f3300a32c3", func := "vireo/vireolaw19.BlkParses", spec := "blkParses", apart := false }
def BlkParsesSaid : Prop := blkParsesRow.holds Try.pinned (OpenSpec.ofChange blkParsesSpec)

/-- ITS FALSE NEIGHBOUR: 'it returns false'. Refute it at one input. -/
def blkParsesWrong : ChangeSpec := { name := "blkParses", fn := fun _ => fun
  | [d] => { results := [.lit (.bool false)], args := [d] }
  | _ => none }
def BlkParsesWrongFalsely : Prop := blkParsesRow.holds Try.pinned (OpenSpec.ofChange blkParsesWrong)

/-- 'vireolaw20.TtyOrder': WHATEVER THE INPUT: true; the input reads as it did. -/
def ttyOrderSpec : ChangeSpec := { name := "ttyOrder", fn := fun _ => fun
  | [d1, d2] => { results := [.lit (.bool true)], args := [d1, d2] }
  | _ => none }
def ttyOrderRow : OpenClaim := { program := "ytlkhjekakbckmaa", sum := "a722b6367254e1d980a3bdd43b1251e0878205ceefd6503416f9b8f3300a32c3", func := "vireo/vireolaw20.TtyOrder", spec := "ttyOrder", unfollowed := true, recurses := true, apart := false }
def TtyOrderSaid : Prop := ttyOrderRow.holds Try.pinned (OpenSpec.ofChange ttyOrderSpec)

/-- ITS FALSE NEIGHBOUR: 'it returns false'. Refute it at one input. -/
def ttyOrderWrong : ChangeSpec := { name := "ttyOrder", fn := fun _ => fun
  | [d1, d2] => { results := [.lit (.bool false)], args := [d1, d2] }
  | _ => none }
def TtyOrderWrongFalsely : Prop := ttyOrderRow.holds Try.pinned (OpenSpec.ofChange ttyOrderWrong)

/-- 'vireolaw20.TtyTells': WHATEVER THE INPUT: true; the input reads as it did. -/
def ttyTellsSpec : ChangeSpec := { name := "ttyTells", fn := fun _ => fun
  | [d] => { results := [.lit (.bool true)], args := [d] }
  | _ => none }
def ttyTellsRow : OpenClaim := { program := "ytlkhjekakbckmaa", sum := "a722b6367254e1d980a3bdd43b1251e0878205ceefd6503416f9b8f3300a32c3", func := "vireo/vireolaw20.TtyTells", spec := "ttyTells", unfollowed := true, recurses := true, apart := false }
def TtyTellsSaid : Prop := ttyTellsRow.holds Try.pinned (OpenSpec.ofChange ttyTellsSpec)

/-- ITS FALSE NEIGHBOUR: 'it returns false'. Refute it at one input. -/
def ttyTellsWrong : ChangeSpec := { name := "ttyTells", fn := fun _ => fun
  | [d] => { results := [.lit (.bool false)], args := [d] }
  | _ => none }
def TtyTellsWrongFalsely : Prop := ttyTellsRow.holds Try.pinned (OpenSpec.ofChange ttyTellsWrong)

/- THE SECOND FORM. 'bulk': how many values and letters a reading holds, each counted each time it is reached (what is shared counts as often as it is met; a slice's spare places count too). A statement '..UptoSaid' is the law's where the arguments, and the package variables that the reading takes, are together of bulk at most 1048576: NARROWER than '..Said'. Prove '..Said' where nothing that the law and all that it calls make is longer than what came in: it says more and counts as full. Else prove '..UptoSaid'. A law counts once. -/
mutual
def uptoBulk {H : Type} : DataW H → Nat
  | .lit (.string bytes) => bytes.length + 1
  | .lit _ => 1
  | .nil => 1
  | .ptr d => uptoBulk d + 1
  | .slice elems spare => uptoBulkAll elems + uptoBulkAll spare + 1
  | .agg parts => uptoBulkAll parts + 1
  | .iface _ d => uptoBulk d + 1
  | .map entries => uptoBulkEntries entries + 1
  | .held _ => 1
def uptoBulkAll {H : Type} : List (DataW H) → Nat
  | [] => 0
  | d :: r => uptoBulk d + uptoBulkAll r
def uptoBulkEntries {H : Type} : List (Lit × DataW H) → Nat
  | [] => 0
  | x :: r => uptoBulkEntry x + uptoBulkEntries r
def uptoBulkEntry {H : Type} : Lit × DataW H → Nat
  | (.string bytes, d) => bytes.length + uptoBulk d + 1
  | (_, d) => uptoBulk d + 1
 end
def uptoSmall : (H : Type) → List (DataW H) → Bool := fun _ ds => decide (uptoBulkAll ds ≤ 1048576)
def OpenSpec.upto (s : _root_.Go.ChangeSpec) : _root_.Go.OpenSpec := { _root_.Go.OpenSpec.ofChange s with cond := some uptoSmall }

/-- 'vireolaw19.BlkRefuses', WHERE WHAT IT READS IS OF BULK AT MOST 1048576: true; the input reads as it did. -/
def blkRefusesUptoRow : OpenClaim := { program := "ytlkhjekakbckmaa", sum := "a722b6367254e1d980a3bdd43b1251e0878205ceefd6503416f9b8f3300a32c3", func := "vireo/vireolaw19.BlkRefuses", spec := "blkRefuses", inPlace := ["maps.clone"], apart := false, narrowed := true }
def BlkRefusesUptoSaid : Prop := blkRefusesUptoRow.holds Try.pinned (OpenSpec.upto blkRefusesSpec)

/-- 'vireolaw19.BlkBack', WHERE WHAT IT READS IS OF BULK AT MOST 1048576: true; the input reads as it did. -/
def blkBackUptoRow : OpenClaim := { program := "ytlkhjekakbckmaa", sum := "a722b6367254e1d980a3bdd43b1251e0878205ceefd6503416f9b8f3300a32c3", func := "vireo/vireolaw19.BlkBack", spec := "blkBack", apart := false, narrowed := true }
def BlkBackUptoSaid : Prop := blkBackUptoRow.holds Try.pinned (OpenSpec.upto blkBackSpec)

/-- 'vireolaw19.BlkTells', WHERE WHAT IT READS IS OF BULK AT MOST 1048576: true; the input reads as it did. -/
def blkTellsUptoRow : OpenClaim := { program := "ytlkhjekakbckmaa", sum := "a722b6367254e1d980a3bdd43b1251e0878205ceefd6503416f9b8f3300a32c3", func := "vireo/vireolaw19.BlkTells", spec := "blkTells", apart := false, narrowed := true }
def BlkTellsUptoSaid : Prop := blkTellsUptoRow.holds Try.pinned (OpenSpec.upto blkTellsSpec)

/-- 'vireolaw19.BlkParses', WHERE WHAT IT READS IS OF BULK AT MOST 1048576: true; the input reads as it did. -/
def blkParsesUptoRow : OpenClaim := { program := "ytlkhjekakbckmaa", sum := "a722b6367254e1d980a3bdd43b1251e0878205ceefd6503416f9b8f3300a32c3", func := "vireo/vireolaw19.BlkParses", spec := "blkParses", apart := false, narrowed := true }
def BlkParsesUptoSaid : Prop := blkParsesUptoRow.holds Try.pinned (OpenSpec.upto blkParsesSpec)

/-- 'vireolaw20.TtyOrder', WHERE WHAT IT READS IS OF BULK AT MOST 1048576: true; the input reads as it did. -/
def ttyOrderUptoRow : OpenClaim := { program := "ytlkhjekakbckmaa", sum := "a722b6367254e1d980a3bdd43b1251e0878205ceefd6503416f9b8f3300a32c3", func := "vireo/vireolaw20.TtyOrder", spec := "ttyOrder", unfollowed := true, recurses := true, apart := false, narrowed := true }
def TtyOrderUptoSaid : Prop := ttyOrderUptoRow.holds Try.pinned (OpenSpec.upto ttyOrderSpec)

/-- 'vireolaw20.TtyTells', WHERE WHAT IT READS IS OF BULK AT MOST 1048576: true; the input reads as it did. -/
def ttyTellsUptoRow : OpenClaim := { program := "ytlkhjekakbckmaa", sum := "a722b6367254e1d980a3bdd43b1251e0878205ceefd6503416f9b8f3300a32c3", func := "vireo/vireolaw20.TtyTells", spec := "ttyTells", unfollowed := true, recurses := true, apart := false, narrowed := true }
def TtyTellsUptoSaid : Prop := ttyTellsUptoRow.holds Try.pinned (OpenSpec.upto ttyTellsSpec)

end Rows
end Go.Proofs.Ytlkhjekakbckmaa
