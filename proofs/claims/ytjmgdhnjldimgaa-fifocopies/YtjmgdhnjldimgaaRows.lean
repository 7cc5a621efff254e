/-
  No cell of these rows narrows 'for every input' (looked for: loops, veiled, ifaces, maps, wideKeys, modest, calm, conditions, laid).
  DERIVED. THE GIVEN ROWS OF THIS SEAT. 4 by the template 'for every input the law returns true; each argument reads behind the call as it read before'; 0 by the template 'total and deterministic' (their statements: YtjmgdhnjldimgaaTotals.lean).
  GIVEN WITH THE SEED: the statements are not yours to turn. If you find one false, say at which input.
  Laid BY PROGRAM, IN A SANDBOX (cutbox-rows.mjs): the forced cells as the released guide's own fill.sh prints them over the translation 30201c81b355aa88… (all of the seat's roots in one cut). By AI agents, Wed Nov 11 2026. No macro, syntax, notation, axiom, sorry.
-/
import Derived.Test.YtjmgdhnjldimgaaChecked
import GoSem.Claim
import GoSem.ClaimJoined
import GoSem.ClaimMapViews
import Derived.JoinedTies
import Derived.KernelRfl
namespace Go.Proofs.Ytjmgdhnjldimgaa
/- THE CELL 'sum', in the pinned program and in every row, IS THE sha256 OF THE DUMP (.gsa) THAT YtjmgdhnjldimgaaProg.lean LOADS. Nothing in Lean hashes anything: it is a label: what it is worth is what the hold of that sum in a sandbox is worth. -/
noncomputable def Try.pinned : Pinned := { name := "ytjmgdhnjldimgaa", sum := "30201c81b355aa88f86e99316fccc8711359c9eafad6d5eda31c19f6e24d5593", checked := Try.checked }
namespace Rows
def none {H : Type} : Left H := { results := [], args := [] }

/-- 'vireolaw14.FifoPlays': WHATEVER THE INPUT: true; the input reads as it did. -/
def fifoPlaysSpec : ChangeSpec := { name := "fifoPlays", fn := fun _ => fun
  | [d1, d2] => { results := [.lit (.bool true)], args := [d1, d2] }
  | _ => none }
def fifoPlaysRow : OpenClaim := { program := "ytjmgdhnjldimgaa", sum := "30201c81b355aa88f86e99316fccc8711359c9eafad6d5eda31c19f6e24d5593", func := "vireo/vireolaw14.FifoPlays", spec := "fifoPlays", apart := false }
def FifoPlaysSaid : Prop := fifoPlaysRow.holds Try.pinned (OpenSpec.ofChange fifoPlaysSpec)

/-- ITS FALSE NEIGHBOUR: 'it returns false'. Refute it at one input. -/
def fifoPlaysWrong : ChangeSpec := { name := "fifoPlays", fn := fun _ => fun
  | [d1, d2] => { results := [.lit (.bool false)], args := [d1, d2] }
  | _ => none }
def FifoPlaysWrongFalsely : Prop := fifoPlaysRow.holds Try.pinned (OpenSpec.ofChange fifoPlaysWrong)

/-- 'vireolaw14.FifoRooms': WHATEVER THE INPUT: true; the input reads as it did. -/
def fifoRoomsSpec : ChangeSpec := { name := "fifoRooms", fn := fun _ => fun
  | [d] => { results := [.lit (.bool true)], args := [d] }
  | _ => none }
def fifoRoomsRow : OpenClaim := { program := "ytjmgdhnjldimgaa", sum := "30201c81b355aa88f86e99316fccc8711359c9eafad6d5eda31c19f6e24d5593", func := "vireo/vireolaw14.FifoRooms", spec := "fifoRooms", apart := false }
def FifoRoomsSaid : Prop := fifoRoomsRow.holds Try.pinned (OpenSpec.ofChange fifoRoomsSpec)

/-- ITS FALSE NEIGHBOUR: 'it returns false'. Refute it at one input. -/
def fifoRoomsWrong : ChangeSpec := { name := "fifoRooms", fn := fun _ => fun
  | [d] => { results := [.lit (.bool false)], args := [d] }
  | _ => none }
def FifoRoomsWrongFalsely : Prop := fifoRoomsRow.holds Try.pinned (OpenSpec.ofChange fifoRoomsWrong)

/-- 'vireolaw14.FifoOrder': WHATEVER THE INPUT: true; the input reads as it did. -/
def fifoOrderSpec : ChangeSpec := { name := "fifoOrder", fn := fun _ => fun
  | [d1, d2, d3] => { results := [.lit (.bool true)], args := [d1, d2, d3] }
  | _ => none }
def fifoOrderRow : OpenClaim := { program := "ytjmgdhnjldimgaa", sum := "30201c81b355aa88f86e99316fccc8711359c9eafad6d5eda31c19f6e24d5593", func := "vireo/vireolaw14.FifoOrder", spec := "fifoOrder", apart := false }
def FifoOrderSaid : Prop := fifoOrderRow.holds Try.pinned (OpenSpec.ofChange fifoOrderSpec)

/-- ITS FALSE NEIGHBOUR: 'it returns false'. Refute it at one input. -/
def fifoOrderWrong : ChangeSpec := { name := "fifoOrder", fn := fun _ => fun
  | [d1, d2, d3] => { results := [.lit (.bool false)], args := [d1, d2, d3] }
  | _ => none }
def FifoOrderWrongFalsely : Prop := fifoOrderRow.holds Try.pinned (OpenSpec.ofChange fifoOrderWrong)

/-- 'vireolaw14.FifoCopies': WHATEVER THE INPUT: true; the input reads as it did. -/
def fifoCopiesSpec : ChangeSpec := { name := "fifoCopies", fn := fun _ => fun
  | [d1, d2, d3] => { results := [.lit (.bool true)], args := [d1, d2, d3] }
  | _ => none }
def fifoCopiesRow : OpenClaim := { program := "ytjmgdhnjldimgaa", sum := "30201c81b355aa88f86e99316fccc8711359c9eafad6d5eda31c19f6e24d5593", func := "vireo/vireolaw14.FifoCopies", spec := "fifoCopies", apart := false }
def FifoCopiesSaid : Prop := fifoCopiesRow.holds Try.pinned (OpenSpec.ofChange fifoCopiesSpec)

/-- ITS FALSE NEIGHBOUR: 'it returns false'. Refute it at one input. -/
def fifoCopiesWrong : ChangeSpec := { name := "fifoCopies", fn := fun _ => fun
  | [d1, d2, d3] => { results := [.lit (.bool false)], args := [d1, d2, d3] }
  | _ => none }
def FifoCopiesWrongFalsely : Prop := fifoCopiesRow.holds Try.pinned (OpenSpec.ofChange fifoCopiesWrong)

/- THE SECOND FORM. 'bulk': how many values and letters a reading holds, each counted each time it is reached (what is shared counts as often as it is met; a slice's spare places count too). A statement '..UptoSaid' is the law's where the arguments, and the package variables that the reading takes, are together of bulk at most 1048576: NARROWER than '..Said'. Prove '..Said' where nothing that the law and all that it calls make is longer than what came in: it says more and counts as full. Else prove '..UptoSaid'. A law counts once. -/
mutual
def uptoBulk {H : Type} : DataW H → Nat
  | .lit (.string bytes) => bytes.length + 1
  | .lit _ => 1
  | .nil => 1
  | .ptr d => uptoBulk d + 1
  | .slice elems spare => uptoBulkAll elems + uptoBulkAll spare + 1
  | .agg parts => uptoBulkAll parts + 1
  | .iface _ d => uptoBulk d + 1
  | .map entries => uptoBulkEntries entries + 1
  | .held _ => 1
def uptoBulkAll {H : Type} : List (DataW H) → Nat
  | [] => 0
  | d :: r => uptoBulk d + uptoBulkAll r
def uptoBulkEntries {H : Type} : List (Lit × DataW H) → Nat
  | [] => 0
  | x :: r => uptoBulkEntry x + uptoBulkEntries r
def uptoBulkEntry {H : Type} : Lit × DataW H → Nat
  | (.string bytes, d) => bytes.length + uptoBulk d + 1
  | (_, d) => uptoBulk d + 1
 end
def uptoSmall : (H : Type) → List (DataW H) → Bool := fun _ ds => decide (uptoBulkAll ds ≤ 1048576)
def OpenSpec.upto (s : _root_.Go.ChangeSpec) : _root_.Go.OpenSpec := { _root_.Go.OpenSpec.ofChange s with cond := some uptoSmall }

/-- 'vireolaw14.FifoPlays', WHERE WHAT IT READS IS OF BULK AT MOST 1048576: true; the input reads as it did. -/
def fifoPlaysUptoRow : OpenClaim := { program := "ytjmgdhnjldimgaa", sum := "30201c81b355aa88f86e99316fccc8711359c9eafad6d5eda31c19f6e24d5593", func := "vireo/vireolaw14.FifoPlays", spec := "fifoPlays", apart := false, narrowed := true }
def FifoPlaysUptoSaid : Prop := fifoPlaysUptoRow.holds Try.pinned (OpenSpec.upto fifoPlaysSpec)

/-- 'vireolaw14.FifoRooms', WHERE WHAT IT READS IS OF BULK AT MOST 1048576: true; the input reads as it did. -/
def fifoRoomsUptoRow : OpenClaim := { program := "ytjmgdhnjldimgaa", sum := "30201c81b355aa88f86e99316fccc8711359c9eafad6d5eda31c19f6e24d5593", func := "vireo/vireolaw14.FifoRooms", spec := "fifoRooms", apart := false, narrowed := true }
def FifoRoomsUptoSaid : Prop := fifoRoomsUptoRow.holds Try.pinned (OpenSpec.upto fifoRoomsSpec)

/-- 'vireolaw14.FifoOrder', WHERE WHAT IT READS IS OF BULK AT MOST 1048576: true; the input reads as it did. -/
def fifoOrderUptoRow : OpenClaim := { program := "ytjmgdhnjldimgaa", sum := "30201c81b355aa88f86e99316fccc8711359c9eafad6d5eda31c19f6e24d5593", func := "vireo/vireolaw14.FifoOrder", spec := "fifoOrder", apart := false, narrowed := true }
def FifoOrderUptoSaid : Prop := fifoOrderUptoRow.holds Try.pinned (OpenSpec.upto fifoOrderSpec)

/-- 'vireolaw14.FifoCopies', WHERE WHAT IT READS IS OF BULK AT MOST 1048576: true; the input reads as it did. -/
def fifoCopiesUptoRow : OpenClaim := { program := "ytjmgdhnjldimgaa", sum := "30201c81b355aa88f86e99316fccc8711359c9eafad6d5eda31c19f6e24d5593", func := "vireo/vireolaw14.FifoCopies", spec := "fifoCopies", apart := false, narrowed := true }
def FifoCopiesUptoSaid : Prop := fifoCopiesUptoRow.holds Try.pinned (OpenSpec.upto fifoCopiesSpec)

end Rows
end Go.Proofs.Ytjmgdhnjldimgaa
