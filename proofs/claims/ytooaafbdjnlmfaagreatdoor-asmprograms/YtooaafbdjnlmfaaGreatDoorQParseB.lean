/- The call Parse of layer 4 on ASCII texts tells parseR; the document's examples of layer 4. -/
import Derived.Test.YtooaafbdjnlmfaaGreatDoorQParseA
import Derived.Test.YtooaafbdjnlmfaaGreatDoorQPart
import Derived.Laws.StructEq
namespace Go.Proofs.YtooaafbdjnlmfaaGreatDoor
open Go.RowKit
set_option linter.unusedVariables false
set_option linter.unusedSimpArgs false
theorem ret_bool {a b : Bool} (h : a = b) : Ending.returned (.bool a) = .returned (.bool b) := by rw [h]
/-- all that the program's own tables and the library's hold, in a world -/
structure Laid (w : World) : Prop where
  tabs : Tabs w
  names : NamesAt w
  lie : TabsLie w
  size : 5 ≤ w.heap.size
theorem Laid.below {w w' : World} (h : Laid w) (hb : Below w.heap.size w w') : Laid w' := ⟨h.tabs.below hb, h.names.below h.size hb, tabs_below h.lie hb, Nat.le_trans h.size hb.size⟩
def parseE (l : List UInt8) : Int := if (parseR l).2 then 0 else 40
theorem parseT_any (l : List UInt8) (hl : l.length ≤ 1000) (ha : Ascii l) (w : World) (hL : Laid w) :
    Calls Tryz.prog 13 #[.string (mk l)] w fun e w' => e = .returned (.tuple #[.agg (parseR l).1.c, .int .i64 (parseE l)]) ∧ Below w.heap.size w w' := by
  have nm : ∀ V, Below w.heap.size w V → NamesAt V := fun V hV => hL.names.below hL.size hV
  obtain ⟨y, ok, hn⟩ : ∃ y ok, nameR (headW [32, 9] (Lib.trimS l [32, 9])) = (y, ok) := ⟨_, _, rfl⟩
  cases ok
  · have h := parse_unknown l _ _ _ y hl ha rfl rfl rfl hn w nm
    have e : parseR l = (Ins.zero, false) := by unfold parseR; rw [hn, if_neg (by simp)]
    have e2 : parseE l = 40 := by unfold parseE; rw [e]; rfl
    rw [e, e2]
    exact h
  · obtain ⟨z, ok, hp⟩ : ∃ z ok, partsR (shapesT.getD y.op.toNat []) (tailW [32, 9] (Lib.trimS l [32, 9])) y = (z, ok) := ⟨_, _, rfl⟩
    have hpo : partsO l = (z, ok) := by unfold partsO; rw [hn]; exact hp
    have h := parse_known l _ _ _ y z ok _ rfl hl ha rfl rfl rfl hn hp w hL.tabs hL.lie nm _ _ rfl
    have e : (if ok = true ∧ rightE z.op z.rd z.rs1 z.rs2 z.imm z.csr z.aq z.rl = 0 then (z, (0 : Int)) else (Ins.zero, 40)) = ((parseR l).1, parseE l) := by
      unfold parseE parseR
      rw [hpo, hn]
      cases hr : z.right
      · rw [if_neg (fun h => by have := h.2; rw [rightE_no hr] at this; exact absurd this (by decide)), if_neg (by simp [hr])]
        rfl
      · cases ok
        · rw [if_neg (by simp), if_neg (by simp)]; rfl
        · rw [if_pos ⟨rfl, rightE_yes hr⟩, if_pos (by simp [hr])]; rfl
    rw [Prod.mk.inj e |>.1, Prod.mk.inj e |>.2] at h
    exact h
def txt1 : List UInt8 := [32, 97, 109, 111, 97, 100, 100, 46, 119, 46, 97, 113, 32, 120, 49, 32, 44, 32, 120, 50, 32, 44, 32, 40, 120, 51, 41]
def txt2 : List UInt8 := [97, 100, 100, 105, 32, 120, 49, 44, 120, 50]
def txt3 : List UInt8 := [108, 119, 32, 120, 49, 44, 56, 40, 120, 50, 41]
theorem parse1 : parseR txt1 = (⟨76, 1, 3, 2, 0, 0, true, false⟩, true) := by decide +kernel
theorem parse2 : parseR txt2 = (Ins.zero, false) := by decide +kernel
theorem print3 : printL 13 1 2 0 8 0 false false = txt3 := by decide +kernel
theorem right3 : rightB 13 1 2 0 8 0 false false = true := by decide +kernel
theorem ascii_of {l : List UInt8} (h : (l.all fun b => decide (b.toNat < 128)) = true) : Ascii l := fun b hb => of_decide_eq_true (List.all_eq_true.1 h b hb)
set_option maxRecDepth 100000 in
set_option maxHeartbeats 1000000 in
theorem awake_any (w : World) (hL : Laid w) : Calls Tryz.prog 8 #[] w fun e w' => e = .returned (.bool true) ∧ Below w.heap.size w w' := by
  have H1 : Hid (∀ V, Laid V → Calls Tryz.prog 13 #[.string ⟨#[32, 97, 109, 111, 97, 100, 100, 46, 119, 46, 97, 113, 32, 120, 49, 32, 44, 32, 120, 50, 32, 44, 32, 40, 120, 51, 41]⟩] V fun e w' => e = .returned (.tuple #[.agg #[.int .i64 76, .int .i64 1, .int .i64 3, .int .i64 2, .int .i64 0, .int .i64 0, .bool true, .bool false], .int .i64 0]) ∧ Below V.heap.size V w') := fun V hV => by
    have h := parseT_any txt1 (by decide) (ascii_of (by decide)) V hV
    have e2 : parseE txt1 = 0 := by unfold parseE; rw [parse1]; rfl
    rw [parse1, e2] at h
    exact h
  have H2 : Hid (∀ V, Laid V → Calls Tryz.prog 13 #[.string ⟨#[97, 100, 100, 105, 32, 120, 49, 44, 120, 50]⟩] V fun e w' => e = .returned (.tuple #[.agg #[.int .i64 0, .int .i64 0, .int .i64 0, .int .i64 0, .int .i64 0, .int .i64 0, .bool false, .bool false], .int .i64 40]) ∧ Below V.heap.size V w') := fun V hV => by
    have h := parseT_any txt2 (by decide) (ascii_of (by decide)) V hV
    have e2 : parseE txt2 = 40 := by unfold parseE; rw [parse2]; rfl
    rw [parse2, e2] at h
    exact h
  have H3 : Hid (∀ V, Laid V → Calls Tryz.prog 9 #[.agg #[.int .i64 13, .int .i64 1, .int .i64 2, .int .i64 0, .int .i64 8, .int .i64 0, .bool false, .bool false]] V fun e w' => e = .returned (.string ⟨#[108, 119, 32, 120, 49, 44, 56, 40, 120, 50, 41]⟩) ∧ Below V.heap.size V w') := fun V hV => by
    have h := print_yes 13 1 2 0 8 0 false false right3 V hV.tabs hV.names hV.lie
    rw [print3] at h
    exact h
  have HL : Hid (Laid w) := hL
  clear hL
  go_enter Tryz.func8, Tryz.ntmps8
  go_wp2_with fail
  refine (H1.out _ HL.out).mono ?_
  rintro e w1 ⟨rfl, hb1⟩
  have B1 : Hid (Below w.heap.size w w1) := hb1
  have L1 : Hid (Laid w1) := HL.out.below hb1
  clear hb1
  go_upto_region 2 with fail
  have B2 : Hid (Below w.heap.size w (w1.alloc (.cells #[.int .i64 76, .int .i64 1, .int .i64 3, .int .i64 2, .int .i64 0, .int .i64 0, .bool true, .bool false] 23))) := B1.out.alloc B1.out.size _
  have X2 : Hid ((w1.alloc (.cells #[.int .i64 76, .int .i64 1, .int .i64 3, .int .i64 2, .int .i64 0, .int .i64 0, .bool true, .bool false] 23)).heap[w1.heap.size]? = some (.cells #[.int .i64 76, .int .i64 1, .int .i64 3, .int .i64 2, .int .i64 0, .int .i64 0, .bool true, .bool false] 23 (0, 0))) := heap_alloc_new w1 _
  have L2 : Hid (Laid (w1.alloc (.cells #[.int .i64 76, .int .i64 1, .int .i64 3, .int .i64 2, .int .i64 0, .int .i64 0, .bool true, .bool false] 23))) := L1.out.below ((Below.refl _ _).alloc (Nat.le_refl _) _)
  generalize w1.alloc (.cells #[.int .i64 76, .int .i64 1, .int .i64 3, .int .i64 2, .int .i64 0, .int .i64 0, .bool true, .bool false] 23) = V2 at *
  generalize w1.heap.size = g1 at *
  clear B1 L1
  go_wp2_with fail
  refine (H2.out _ L2.out).mono ?_
  rintro e w3 ⟨rfl, hb3⟩
  have B3 : Hid (Below w.heap.size w w3) := below_call B2.out hb3
  have X3 : Hid _ := below_box8 X2.out hb3
  have L3 : Hid (Laid w3) := L2.out.below hb3
  clear hb3 B2 X2 L2
  go_upto_region 3 with fail
  have B4 : Hid (Below w.heap.size w (w3.alloc (.cells #[.int .i64 0, .int .i64 0, .int .i64 0, .int .i64 0, .int .i64 0, .int .i64 0, .bool false, .bool false] 23))) := B3.out.alloc B3.out.size _
  have X4 : Hid _ := below_box8 X3.out ((Below.refl _ _).alloc (Nat.le_refl _) (.cells #[.int .i64 0, .int .i64 0, .int .i64 0, .int .i64 0, .int .i64 0, .int .i64 0, .bool false, .bool false] 23))
  have L4 : Hid (Laid (w3.alloc (.cells #[.int .i64 0, .int .i64 0, .int .i64 0, .int .i64 0, .int .i64 0, .int .i64 0, .bool false, .bool false] 23))) := L3.out.below ((Below.refl _ _).alloc (Nat.le_refl _) _)
  generalize w3.alloc (.cells #[.int .i64 0, .int .i64 0, .int .i64 0, .int .i64 0, .int .i64 0, .int .i64 0, .bool false, .bool false] 23) = V4 at *
  generalize w3.heap.size = g3 at *
  clear B3 L3 X3
  obtain ⟨q0, q1, q2, q3, q4, q5, q6, q7⟩ := box8_facts X4.out
  go_wp2_with fail
  refine (H3.out _ L4.out).mono ?_
  rintro e w5 ⟨rfl, hb5⟩
  have B5 : Hid (Below w.heap.size w w5) := below_call B4.out hb5
  clear hb5
  go_wp2_with fail
  go_ret
  exact ⟨ret_bool (by first | rfl | decide | simp), B5.out⟩
end Go.Proofs.YtooaafbdjnlmfaaGreatDoor
