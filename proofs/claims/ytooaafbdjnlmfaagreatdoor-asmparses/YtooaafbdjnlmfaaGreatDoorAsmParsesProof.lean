/- For every text the Go function AsmParses returns true and leaves its argument as it was: any text is read as the instruction whose text it is, or refused. -/
import Derived.Test.YtooaafbdjnlmfaaGreatDoorRows
import Derived.Test.YtooaafbdjnlmfaaGreatDoorTie
import Derived.Test.YtooaafbdjnlmfaaGreatDoorCards
import Derived.WalkKit
import Derived.ProofKit
import Derived.OpenShut
import Derived.ShutString
import Derived.LaidMore
import Derived.Lay
import Derived.Stop.Joined
import Derived.Stop.LaidErr
import Derived.Lib.LaidTab
import Derived.Lib.TrailingZeros
import Derived.SevenTiedAt
import Derived.Test.YtooaafbdjnlmfaaGreatDoorQOpen
import Derived.Test.YtooaafbdjnlmfaaGreatDoorQDWithA
namespace Go.Proofs.YtooaafbdjnlmfaaGreatDoor.asmParses
open Go.ChangeShapes Go.WideShapes Go.ChangeAt Go.RowKit
open Go.ChangeMaps (open_string shut_string)
set_option linter.unusedVariables false
set_option maxRecDepth 100000
theorem own : ownKnob Tryz.prog.godebug = none := by kernel_rfl
theorem laidOut : laidOutB Tryz.prog = true := by kernel_rfl
theorem g64 : Tryz.prog.globalNamed "math/bits.deBruijn64tab" = some 10 := by kernel_rfl
theorem t64 : (Tryz.prog.globals[10]?).map (·.type) = some 175 := by kernel_rfl
theorem tPow : (Tryz.prog.globals[5]?).map (·.type) = some 161 := by kernel_rfl
theorem cells5 : Tryz.prog.cellsOf 5 = 1 := by kernel_rfl
theorem cells64 : Tryz.prog.cellsOf 43 = 1 := by kernel_rfl
theorem cells175 : Tryz.prog.cellsOf 175 = 64 := by kernel_rfl
theorem cells161 : Tryz.prog.cellsOf 161 = 20 := by kernel_rfl
def tabZ : List Int := Lib.deBruijn64tab.map fun (n : Nat) => (n : Int)
theorem tab_datum : Rows.asmParsesRow.laid = [("math/bits.deBruijn32tab", Rows.laid_math_bits_deBruijn32tab), ("math/bits.deBruijn64tab", Lib.tabData .u8 tabZ), ("internal/strconv.uint64pow10", Lib.tabData .u64 Lib.pow10Tab), ("unicode/utf8.acceptRanges", Rows.laid_unicode_utf8_acceptRanges), ("vireo/inst.parts", Lib.tabData .u8 (intsOf partsT)), ("vireo/inst.names", strData ([] :: dNames)), ("vireo/inst.forms", Lib.tabData .u8 (intsOf formsT)), ("unicode/utf8.first", Rows.laid_unicode_utf8_first)] := by kernel_rfl
theorem of_laid {W : World} (h : laidMetH Tryz.prog Rows.asmParsesRow.laid W) : Laid W := by
  rw [MakeChecks.laidMetH_plain _ _ _ (by kernel_rfl), tab_datum] at h
  have hT := Lib.tabIs_of_head g64 t64 Tryz.underlying175 Tryz.underlying5 cells5 cells175 h.tail
  have hP := Lib.tabIs_of_head gPow tPow Tryz.underlying161 Tryz.underlying43 cells64 cells161 h.tail.tail
  have h1 := Lib.tabIs_of_head gParts tParts Tryz.underlying126 Tryz.underlying5 cellsOf5 cellsOf126 h.tail.tail.tail.tail
  have h5 := strs_of_head gNames tNames Tryz.underlying95 Tryz.underlying9 cellsOf9 cellsOf95 h.tail.tail.tail.tail.tail
  have h3 := Lib.tabIs_of_head gForms tForms Tryz.underlying85 Tryz.underlying84 cellsOf84 cellsOf85 h.tail.tail.tail.tail.tail.tail
  have hc := hT.cell g64 15 (by rw [show tabZ.length = 64 from by kernel_rfl]; omega)
  rw [show tabZ.getD 15 0 = 4 from by kernel_rfl] at hc
  have ht := tabs_of h1 h3
  have hl : Laid W := ⟨ht, names_at h5, ⟨hc, hP⟩, ht.2.2.2.2⟩
  exact hl
theorem lifted (os : Os) (started : os.Started) (H : Type) (enc : TypeId × Value → H) :
    ReturnsInHanded {} Tryz.checked os 4 .any (fun w args => (Rows.asmParsesSpec.pre enc Tryz.prog Tryz.f4 [] false w args ∧ laidMetH Tryz.prog Rows.asmParsesRow.laid w) ∧ sizedMet enc Tryz.prog Tryz.f4 (OpenSpec.ofChange Rows.asmParsesSpec) false w args)
      (Rows.asmParsesSpec.post enc Tryz.prog Tryz.f4 false true false false) := by
  refine returnsInHanded_of_change_and (C := Tryz.checked) (X := fun w _ => laidMetH Tryz.prog Rows.asmParsesRow.laid w) (fun _ _ _ hh h => h.of_heap hh) own started (by kernel_rfl) Tryz.func4
    (ChangeSpec.witness_shaped (enc := enc) (C := Tryz.checked) (os := os) (X := fun w _ => laidMetH Tryz.prog Rows.asmParsesRow.laid w) false (World.laidAll Tryz.prog os Rows.asmParsesRow.laid) #[.string ByteArray.empty] 8 (World.laidAll_os _ _ _)
      (World.shaped_of_ZipB (by kernel_rfl) (by kernel_rfl)) (by kernel_rfl) (by kernel_rfl) (by kernel_rfl)
      (by rw [MakeChecks.laidMetH_plain _ _ _ (by kernel_rfl)]; exact laidMet_laidAll _ (by kernel_rfl) (by kernel_rfl))) ?_
  intro W base args ds gs before hval0 hW _ _ hL _
  have hval : ∀ (j : Nat) t v, Tryz.f4.params[j]? = some t → args[j]? = some v → Value.okWide Tryz.prog W .any base t v := hval0
  have hW' := hW
  obtain ⟨p, q, hA0, hV, rfl, hfz, hnd⟩ := hW
  have hA : DataW.TrodAll enc Tryz.prog W 0 (fun _ => true) true Tryz.f4.params.toList args.toList ds p := hA0
  rw [Tryz.params4] at hA hval
  obtain ⟨v0, vs0, d0, ds0, p0, q0, hargs, rfl, rfl, h0, r0⟩ := trodAll_cons hA
  obtain ⟨rfl, rfl, rfl⟩ := trodAll_nil r0
  obtain rfl : args = #[v0] := by cases args; simp_all
  obtain ⟨rfl, rfl⟩ := trodVars_none hV
  have k0 := h0
  have lt0 : ∀ x ∈ p0, x.block < W.heap.size := by obtain ⟨m, hm⟩ := k0; exact DataW.trod_lt m _ _ _ hm
  obtain ⟨a0, rfl, rfl, rfl, w0⟩ := open_string Tryz.underlying9 (hval 0 9 v0 rfl rfl) h0
  clear hA0 hval0
  refine (parses_core a0 w0 W (of_laid hL)).mono fun e W' ⟨he, bel⟩ => ?_
  subst he
  exact ⟨_, rfl, _, _, _, [], _, [], hW', trodAll_mk1 (shut_bool Tryz.underlying4 _), (trodAll_cons_mk (Below.trod laidOut (by kernel_rfl) (of_decide_eq_true (by kernel_rfl)) k0 bel lt0) trodAll_mk0), rfl, bel.frame _, fun h => by cases h⟩
theorem over : Rows.asmParsesRow.holds Tryz.pinned (OpenSpec.ofChange Rows.asmParsesSpec) :=
  OpenClaim.holds_of_wide 4 Tryz.f4 rfl rfl rfl rfl rfl rfl rfl ⟨rfl, rfl, rfl, rfl, rfl⟩ rfl rfl rfl rfl rfl (by kernel_rfl) Tryz.func4 (by kernel_rfl)
    (of_decide_eq_true (by kernel_rfl)) (by unfold Func.isWrapper; first | (rw [if_pos (by decide +kernel)]; kernel_rfl) | (rw [if_neg (by decide +kernel)]; exact ⟨rfl, rfl⟩))
    (fun os started H enc _ => lifted os started H enc)
end Go.Proofs.YtooaafbdjnlmfaaGreatDoor.asmParses

namespace Go.Proofs.YtooaafbdjnlmfaaGreatDoor
open Go
set_option maxRecDepth 100000
/-- For every text the Go function AsmParses returns true and leaves its argument as it was: any text is read as the instruction whose text it is, or refused. -/
theorem asmParses_proved : Rows.AsmParsesCardSaid :=
  Claim7.holds_tied_plain_at .later [] [.data, .data, .data, .data, .data, .data, .data, .pinned] true Rows.asmParsesCard.stood.harness false
    asmParses.over (fun _ h => by cases h) (by kernel_rfl) (fun _ h => by cases h) asmParses_row_tie rfl ⟨rfl, rfl⟩ (by kernel_rfl) rfl
    (fun f fn hf hfn => by
      obtain rfl : f = 4 := Option.some.inj ((show Tryz.prog.funcNamed Tryz.f4.name = some 4 by kernel_rfl).symm.trans hf) |>.symm
      obtain rfl : fn = Tryz.f4 := (Option.some.inj (Tryz.func4.symm.trans hfn)).symm
      exact ⟨by kernel_rfl, fun j t ht => by
        rw [Tryz.params4] at ht
        have hm : t ∈ [9] := by simpa using Array.mem_of_getElem? ht
        have hall : ([9].all fun u => !Tryz.prog.wantsStandIn u) = true := by kernel_rfl
        exact (show Tryz.prog.wantsStandIn t = false by simpa using List.all_eq_true.1 hall t hm)⟩)
    (by kernel_rfl)
#print axioms asmParses_proved
end Go.Proofs.YtooaafbdjnlmfaaGreatDoor
