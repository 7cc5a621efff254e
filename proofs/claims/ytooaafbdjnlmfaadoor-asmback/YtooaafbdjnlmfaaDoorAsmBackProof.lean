/- For every instruction the Go function AsmBack returns true and leaves its argument as it was: each instruction that is right is read from its own text, and one that is not right has none. The program's and the library's tables are laid as the texts lay them (the card ties them). -/
import Derived.Test.YtooaafbdjnlmfaaDoorRows
import Derived.Test.YtooaafbdjnlmfaaDoorTie
import Derived.Test.YtooaafbdjnlmfaaDoorCards
import Derived.WalkKit
import Derived.ProofKit
import Derived.OpenShut
import Derived.ShutString
import Derived.LaidMore
import Derived.Lay
import Derived.Stop.Joined
import Derived.Stop.LaidErr
import Derived.Lib.LaidTab
import Derived.Lib.TrailingZeros
import Derived.SevenTiedAt
import Derived.Test.YtooaafbdjnlmfaaDoorOpen
import Derived.Test.YtooaafbdjnlmfaaDoorBackW
namespace Go.Proofs.YtooaafbdjnlmfaaDoor.asmBack
open Go.ChangeShapes Go.WideShapes Go.ChangeAt Go.RowKit
open Go.ChangeMaps (open_string shut_string)
set_option linter.unusedVariables false
set_option maxRecDepth 100000
theorem own : ownKnob Tryd.prog.godebug = none := by kernel_rfl
theorem laidOut : laidOutB Tryd.prog = true := by kernel_rfl
theorem g64 : Tryd.prog.globalNamed "math/bits.deBruijn64tab" = some 8 := by kernel_rfl
theorem t64 : (Tryd.prog.globals[8]?).map (·.type) = some 129 := by kernel_rfl
theorem tPow : (Tryd.prog.globals[6]?).map (·.type) = some 123 := by kernel_rfl
theorem cells5 : Tryd.prog.cellsOf 5 = 1 := by kernel_rfl
theorem cells64 : Tryd.prog.cellsOf 86 = 1 := by kernel_rfl
theorem cells129 : Tryd.prog.cellsOf 129 = 64 := by kernel_rfl
theorem cells123 : Tryd.prog.cellsOf 123 = 20 := by kernel_rfl
theorem cell_lt8 {W : World} {i : Nat} {v : Value} (h : W.cell? ⟨8, i, none⟩ = some v) : 8 < W.heap.size := block_lt_of_cell h
def tabZ : List Int := Lib.deBruijn64tab.map fun (n : Nat) => (n : Int)
theorem tab_datum : Rows.asmBackRow.laid = [("math/bits.deBruijn32tab", Rows.laid_math_bits_deBruijn32tab), ("math/bits.deBruijn64tab", Lib.tabData .u8 tabZ), ("internal/strconv.uint64pow10", Lib.tabData .u64 Lib.pow10Tab), ("unicode/utf8.acceptRanges", Rows.laid_unicode_utf8_acceptRanges), ("vireo/inst.parts", Lib.tabData .u8 (intsOf partsT)), ("vireo/inst.names", strData ([] :: dNames)), ("vireo/inst.forms", Lib.tabData .u8 (intsOf formsT)), ("unicode/utf8.first", Rows.laid_unicode_utf8_first)] := by kernel_rfl
theorem of_laid {W : World} (h : laidMetH Tryd.prog Rows.asmBackRow.laid W) : Laid W := by
  rw [MakeChecks.laidMetH_plain _ _ _ (by kernel_rfl), tab_datum] at h
  have hT := Lib.tabIs_of_head g64 t64 Tryd.underlying129 Tryd.underlying5 cells5 cells129 h.tail
  have hP := Lib.tabIs_of_head gPow tPow Tryd.underlying123 Tryd.underlying86 cells64 cells123 h.tail.tail
  have h1 := Lib.tabIs_of_head gParts tParts Tryd.underlying81 Tryd.underlying5 cellsOf5 cellsOf81 h.tail.tail.tail.tail
  have h5 := strs_of_head gNames tNames Tryd.underlying50 Tryd.underlying9 cellsOf9 cellsOf50 h.tail.tail.tail.tail.tail
  have h3 := Lib.tabIs_of_head gForms tForms Tryd.underlying78 Tryd.underlying46 cellsOf46 cellsOf78 h.tail.tail.tail.tail.tail.tail
  have hc := hT.cell g64 15 (by rw [show tabZ.length = 64 from by kernel_rfl]; omega)
  rw [show tabZ.getD 15 0 = 4 from by kernel_rfl] at hc
  have ht := tabs_of h1 h3 (by have := cell_lt8 hc; omega)
  have hl : Laid W := ⟨ht, names_at h5, ⟨hc, hP⟩, ht.2.2.2.2⟩
  exact hl
theorem lifted (os : Os) (started : os.Started) (H : Type) (enc : TypeId × Value → H) :
    ReturnsInHanded {} Tryd.checked os 3 .any (fun w args => (Rows.asmBackSpec.pre enc Tryd.prog Tryd.f3 [] false w args ∧ laidMetH Tryd.prog Rows.asmBackRow.laid w) ∧ sizedMet enc Tryd.prog Tryd.f3 (OpenSpec.ofChange Rows.asmBackSpec) false w args)
      (Rows.asmBackSpec.post enc Tryd.prog Tryd.f3 false true false false) := by
  refine returnsInHanded_of_change_and (C := Tryd.checked) (X := fun w _ => laidMetH Tryd.prog Rows.asmBackRow.laid w) (fun _ _ _ hh h => h.of_heap hh) own started (by kernel_rfl) Tryd.func3
    (ChangeSpec.witness_shaped (enc := enc) (C := Tryd.checked) (os := os) (X := fun w _ => laidMetH Tryd.prog Rows.asmBackRow.laid w) false (World.laidAll Tryd.prog os Rows.asmBackRow.laid) #[.agg (instrC 0 0 0 0 0 0 false false)] 8 (World.laidAll_os _ _ _)
      (World.shaped_of_ZipB (by kernel_rfl) (by kernel_rfl)) (by kernel_rfl) (by kernel_rfl) (by kernel_rfl)
      (by rw [MakeChecks.laidMetH_plain _ _ _ (by kernel_rfl)]; exact laidMet_laidAll _ (by kernel_rfl) (by kernel_rfl))) ?_
  intro W base args ds gs before hval0 hW _ _ hL _
  have hval : ∀ (j : Nat) t v, Tryd.f3.params[j]? = some t → args[j]? = some v → Value.okWide Tryd.prog W .any base t v := hval0
  have hW' := hW
  obtain ⟨p, q, hA0, hV, rfl, hfz, hnd⟩ := hW
  have hA : DataW.TrodAll enc Tryd.prog W 0 (fun _ => true) true Tryd.f3.params.toList args.toList ds p := hA0
  rw [Tryd.params3] at hA hval
  obtain ⟨v0, vs0, d0, ds0, p0, q0, hargs, rfl, rfl, h0, r0⟩ := trodAll_cons hA
  obtain ⟨rfl, rfl, rfl⟩ := trodAll_nil r0
  obtain rfl : args = #[v0] := by cases args; simp_all
  obtain ⟨rfl, rfl⟩ := trodVars_none hV
  have k0 := h0
  have lt0 : ∀ x ∈ p0, x.block < W.heap.size := by obtain ⟨m, hm⟩ := k0; exact DataW.trod_lt m _ _ _ hm
  obtain ⟨op0, rd0, ra0, rb0, im0, cs0, aq0, rl0, rfl, lo0, hi0⟩ := open_instr (hval 0 23 v0 rfl rfl) h0
  clear hA0 hval0
  refine (back_core op0 rd0 ra0 rb0 im0 cs0 aq0 rl0 W (of_laid hL)).mono fun e W' ⟨he, bel⟩ => ?_
  subst he
  exact ⟨_, rfl, _, _, _, [], _, [], hW', trodAll_mk1 (shut_bool Tryd.underlying4 _), (trodAll_cons_mk (Below.trod laidOut (by kernel_rfl) (of_decide_eq_true (by kernel_rfl)) k0 bel lt0) trodAll_mk0), rfl, bel.frame _, fun h => by cases h⟩
theorem over : Rows.asmBackRow.holds Tryd.pinned (OpenSpec.ofChange Rows.asmBackSpec) :=
  OpenClaim.holds_of_wide 3 Tryd.f3 rfl rfl rfl rfl rfl rfl rfl ⟨rfl, rfl, rfl, rfl, rfl⟩ rfl rfl rfl rfl rfl (by kernel_rfl) Tryd.func3 (by kernel_rfl)
    (of_decide_eq_true (by kernel_rfl)) (by unfold Func.isWrapper; first | (rw [if_pos (by decide +kernel)]; kernel_rfl) | (rw [if_neg (by decide +kernel)]; exact ⟨rfl, rfl⟩))
    (fun os started H enc _ => lifted os started H enc)
end Go.Proofs.YtooaafbdjnlmfaaDoor.asmBack

namespace Go.Proofs.YtooaafbdjnlmfaaDoor
open Go
set_option maxRecDepth 100000
/-- For every instruction the Go function AsmBack returns true and leaves its argument as it was: each instruction that is right is read from its own text, and one that is not right has none. -/
theorem asmBack_proved : Rows.AsmBackCardSaid :=
  Claim7.holds_tied_plain_at .later [] [.data, .data, .data, .data, .data, .data, .data, .pinned] true Rows.asmBackCard.stood.harness false
    asmBack.over (fun _ h => by cases h) (by kernel_rfl) (fun _ h => by cases h) asmBack_row_tie rfl ⟨rfl, rfl⟩ (by kernel_rfl) rfl
    (fun f fn hf hfn => by
      obtain rfl : f = 3 := Option.some.inj ((show Tryd.prog.funcNamed Tryd.f3.name = some 3 by kernel_rfl).symm.trans hf) |>.symm
      obtain rfl : fn = Tryd.f3 := (Option.some.inj (Tryd.func3.symm.trans hfn)).symm
      exact ⟨by kernel_rfl, fun j t ht => by
        rw [Tryd.params3] at ht
        have hm : t ∈ [23] := by simpa using Array.mem_of_getElem? ht
        have hall : ([23].all fun u => !Tryd.prog.wantsStandIn u) = true := by kernel_rfl
        exact (show Tryd.prog.wantsStandIn t = false by simpa using List.all_eq_true.1 hall t hm)⟩)
    (by kernel_rfl)
#print axioms asmBack_proved
end Go.Proofs.YtooaafbdjnlmfaaDoor
