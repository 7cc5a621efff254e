/- The call Parse of layer 4. -/
import Derived.Test.YtooaafbdjnlmfaaGreatDoorQRName
import Derived.Deep.DeepCutAuto
import Derived.Deep.CutBlock
namespace Go.Proofs.YtooaafbdjnlmfaaGreatDoor
open Go.RowKit
set_option linter.unusedVariables false
set_option linter.unusedSimpArgs false
def Ins.right (x : Ins) : Bool := rightB x.op x.rd x.rs1 x.rs2 x.imm x.csr x.aq x.rl
def partsO (l : List UInt8) : Ins × Bool := partsR (shapesT.getD (nameR (headW [32, 9] (Lib.trimS l [32, 9]))).1.op.toNat []) (tailW [32, 9] (Lib.trimS l [32, 9])) (nameR (headW [32, 9] (Lib.trimS l [32, 9]))).1
/-- what Parse tells: the instruction, and whether there is one -/
def parseR (l : List UInt8) : Ins × Bool := if (nameR (headW [32, 9] (Lib.trimS l [32, 9]))).2 = true ∧ (partsO l).2 = true ∧ (partsO l).1.right = true then ((partsO l).1, true) else (Ins.zero, false)
theorem find_range (l : List UInt8) (h : findI l ≠ 0) : 1 ≤ findI l ∧ findI l ≤ 98 := by
  unfold findI at *
  have hlen : dNames.length = 98 := dNames_len
  split
  · next m hm =>
    obtain ⟨h1, _⟩ := List.findIdx?_eq_some_iff_getElem.1 hm
    omega
  · next hm => rw [hm] at h; simp at h
theorem step_range (l : List UInt8) : ∀ t, (nameStep l t).2 = true → 1 ≤ (nameStep l t).1.op ∧ (nameStep l t).1.op ≤ 98
  | [], h => by simp [nameStep] at h
  | (a, r) :: t, h => by
    unfold nameStep at *
    split
    · next hc => exact find_range _ hc.2
    · next hc => rw [if_neg hc] at h; exact step_range l t h
theorem name_range (l : List UInt8) (h : (nameR l).2 = true) : 1 ≤ (nameR l).1.op ∧ (nameR l).1.op ≤ 98 := step_range l _ h
theorem trim_ok (l : List UInt8) (hl : l.length ≤ 1000) (ha : Ascii l) : (Lib.trimS l [32, 9]).length ≤ 1000 ∧ Ascii (Lib.trimS l [32, 9]) := by
  have h1 : (Lib.trimS l [32, 9]).Sublist (Lib.trimRightS l [32, 9]) := List.dropWhile_sublist _
  have h2 : (Lib.trimRightS l [32, 9]).Sublist l := by
    have := (List.dropWhile_sublist (fun b => ([32, 9] : List UInt8).contains b) (l := l.reverse)).reverse
    rw [List.reverse_reverse] at this
    exact this
  have hs := h1.trans h2
  exact ⟨Nat.le_trans hs.length_le hl, fun b hb => ha b (hs.subset hb)⟩
theorem head_ok (cs l : List UInt8) (hl : l.length ≤ 1000) (ha : Ascii l) : ((headW cs l).length ≤ 1000 ∧ Ascii (headW cs l)) ∧ (tailW cs l).length ≤ 1000 ∧ Ascii (tailW cs l) := by
  have h1 : (headW cs l).Sublist l := List.takeWhile_sublist _
  have h2 : (tailW cs l).Sublist l := List.dropWhile_sublist _
  exact ⟨⟨Nat.le_trans h1.length_le hl, fun b hb => ha b (h1.subset hb)⟩, Nat.le_trans h2.length_le hl, fun b hb => ha b (h2.subset hb)⟩
theorem name_row (l : List UInt8) (hl : l.length ≤ 1000) (y : Ins) (ok : Bool) (h : nameR l = (y, ok)) (w : World) (nm : ∀ V, Below w.heap.size w V → NamesAt V) : Calls Tryz.prog 37 #[.string (mk l)] w fun e w' => e = .returned (.tuple #[.agg #[.int .i64 y.op, .int .i64 y.rd, .int .i64 y.rs1, .int .i64 y.rs2, .int .i64 y.imm, .int .i64 y.csr, .bool y.aq, .bool y.rl], .bool ok]) ∧ Below w.heap.size w w' := by
  have h2 := name_read l hl w nm
  rw [h] at h2
  exact h2
theorem box8_put {V : World} {b : Nat} {a0 a1 a2 a3 a4 a5 a6 a7 : Value} (h : V.heap[b]? = some (.cells #[a0, a1, a2, a3, a4, a5, a6, a7] 23 (0, 0))) (x0 x1 x2 x3 x4 x5 x6 x7 : Value) :
    ((((((((V.setCell ⟨b, 0, none⟩ x0).setCell ⟨b, 1, none⟩ x1).setCell ⟨b, 2, none⟩ x2).setCell ⟨b, 3, none⟩ x3).setCell ⟨b, 4, none⟩ x4).setCell ⟨b, 5, none⟩ x5).setCell ⟨b, 6, none⟩ x6).setCell ⟨b, 7, none⟩ x7).heap[b]? = some (.cells #[x0, x1, x2, x3, x4, x5, x6, x7] 23 (0, 0)) := by
  have h0 : (V.setCell ⟨b, 0, none⟩ x0).heap[b]? = some (.cells #[x0, a1, a2, a3, a4, a5, a6, a7] 23 (0, 0)) := heap_setCell_same V b 0 _ 23 x0 h
  have h1 : ((V.setCell ⟨b, 0, none⟩ x0).setCell ⟨b, 1, none⟩ x1).heap[b]? = some (.cells #[x0, x1, a2, a3, a4, a5, a6, a7] 23 (0, 0)) := heap_setCell_same (V.setCell ⟨b, 0, none⟩ x0) b 1 _ 23 x1 h0
  have h2 : (((V.setCell ⟨b, 0, none⟩ x0).setCell ⟨b, 1, none⟩ x1).setCell ⟨b, 2, none⟩ x2).heap[b]? = some (.cells #[x0, x1, x2, a3, a4, a5, a6, a7] 23 (0, 0)) := heap_setCell_same ((V.setCell ⟨b, 0, none⟩ x0).setCell ⟨b, 1, none⟩ x1) b 2 _ 23 x2 h1
  have h3 : ((((V.setCell ⟨b, 0, none⟩ x0).setCell ⟨b, 1, none⟩ x1).setCell ⟨b, 2, none⟩ x2).setCell ⟨b, 3, none⟩ x3).heap[b]? = some (.cells #[x0, x1, x2, x3, a4, a5, a6, a7] 23 (0, 0)) := heap_setCell_same (((V.setCell ⟨b, 0, none⟩ x0).setCell ⟨b, 1, none⟩ x1).setCell ⟨b, 2, none⟩ x2) b 3 _ 23 x3 h2
  have h4 : (((((V.setCell ⟨b, 0, none⟩ x0).setCell ⟨b, 1, none⟩ x1).setCell ⟨b, 2, none⟩ x2).setCell ⟨b, 3, none⟩ x3).setCell ⟨b, 4, none⟩ x4).heap[b]? = some (.cells #[x0, x1, x2, x3, x4, a5, a6, a7] 23 (0, 0)) := heap_setCell_same ((((V.setCell ⟨b, 0, none⟩ x0).setCell ⟨b, 1, none⟩ x1).setCell ⟨b, 2, none⟩ x2).setCell ⟨b, 3, none⟩ x3) b 4 _ 23 x4 h3
  have h5 : ((((((V.setCell ⟨b, 0, none⟩ x0).setCell ⟨b, 1, none⟩ x1).setCell ⟨b, 2, none⟩ x2).setCell ⟨b, 3, none⟩ x3).setCell ⟨b, 4, none⟩ x4).setCell ⟨b, 5, none⟩ x5).heap[b]? = some (.cells #[x0, x1, x2, x3, x4, x5, a6, a7] 23 (0, 0)) := heap_setCell_same (((((V.setCell ⟨b, 0, none⟩ x0).setCell ⟨b, 1, none⟩ x1).setCell ⟨b, 2, none⟩ x2).setCell ⟨b, 3, none⟩ x3).setCell ⟨b, 4, none⟩ x4) b 5 _ 23 x5 h4
  have h6 : (((((((V.setCell ⟨b, 0, none⟩ x0).setCell ⟨b, 1, none⟩ x1).setCell ⟨b, 2, none⟩ x2).setCell ⟨b, 3, none⟩ x3).setCell ⟨b, 4, none⟩ x4).setCell ⟨b, 5, none⟩ x5).setCell ⟨b, 6, none⟩ x6).heap[b]? = some (.cells #[x0, x1, x2, x3, x4, x5, x6, a7] 23 (0, 0)) := heap_setCell_same ((((((V.setCell ⟨b, 0, none⟩ x0).setCell ⟨b, 1, none⟩ x1).setCell ⟨b, 2, none⟩ x2).setCell ⟨b, 3, none⟩ x3).setCell ⟨b, 4, none⟩ x4).setCell ⟨b, 5, none⟩ x5) b 6 _ 23 x6 h5
  have h7 : ((((((((V.setCell ⟨b, 0, none⟩ x0).setCell ⟨b, 1, none⟩ x1).setCell ⟨b, 2, none⟩ x2).setCell ⟨b, 3, none⟩ x3).setCell ⟨b, 4, none⟩ x4).setCell ⟨b, 5, none⟩ x5).setCell ⟨b, 6, none⟩ x6).setCell ⟨b, 7, none⟩ x7).heap[b]? = some (.cells #[x0, x1, x2, x3, x4, x5, x6, x7] 23 (0, 0)) := heap_setCell_same (((((((V.setCell ⟨b, 0, none⟩ x0).setCell ⟨b, 1, none⟩ x1).setCell ⟨b, 2, none⟩ x2).setCell ⟨b, 3, none⟩ x3).setCell ⟨b, 4, none⟩ x4).setCell ⟨b, 5, none⟩ x5).setCell ⟨b, 6, none⟩ x6) b 7 _ 23 x7 h6
  exact h7
theorem box8_stay {V : World} {b c : Nat} (hc : c ≠ b) (x0 x1 x2 x3 x4 x5 x6 x7 : Value) : ((((((((V.setCell ⟨b, 0, none⟩ x0).setCell ⟨b, 1, none⟩ x1).setCell ⟨b, 2, none⟩ x2).setCell ⟨b, 3, none⟩ x3).setCell ⟨b, 4, none⟩ x4).setCell ⟨b, 5, none⟩ x5).setCell ⟨b, 6, none⟩ x6).setCell ⟨b, 7, none⟩ x7).heap[c]? = V.heap[c]? :=
  (heap_setCell_other _ ⟨b, 7, none⟩ c x7 hc).trans ((heap_setCell_other _ ⟨b, 6, none⟩ c x6 hc).trans ((heap_setCell_other _ ⟨b, 5, none⟩ c x5 hc).trans ((heap_setCell_other _ ⟨b, 4, none⟩ c x4 hc).trans ((heap_setCell_other _ ⟨b, 3, none⟩ c x3 hc).trans ((heap_setCell_other _ ⟨b, 2, none⟩ c x2 hc).trans ((heap_setCell_other _ ⟨b, 1, none⟩ c x1 hc).trans (heap_setCell_other _ ⟨b, 0, none⟩ c x0 hc)))))))
theorem set8_below {w V : World} {b : Nat} (h : Below w.heap.size w V) (hb : w.heap.size ≤ b) (x0 x1 x2 x3 x4 x5 x6 x7 : Value) : Below w.heap.size w ((((((((V.setCell ⟨b, 0, none⟩ x0).setCell ⟨b, 1, none⟩ x1).setCell ⟨b, 2, none⟩ x2).setCell ⟨b, 3, none⟩ x3).setCell ⟨b, 4, none⟩ x4).setCell ⟨b, 5, none⟩ x5).setCell ⟨b, 6, none⟩ x6).setCell ⟨b, 7, none⟩ x7) := by
  iterate 8 (refine Below.setCell ?_ (by exact hb) _)
  exact h
set_option maxRecDepth 100000 in
set_option maxHeartbeats 1000000 in
theorem parse_unknown (l t hd tl : List UInt8) (y : Ins) (hl : l.length ≤ 1000) (ha : Ascii l) (ht : Lib.trimS l [32, 9] = t) (hh : headW [32, 9] t = hd) (htl : tailW [32, 9] t = tl) (hn : nameR hd = (y, false)) (w : World) (nm : ∀ V, Below w.heap.size w V → NamesAt V) :
    Calls Tryz.prog 13 #[.string (mk l)] w fun e w' => e = .returned (.tuple #[.agg Ins.zero.c, .int .i64 40]) ∧ Below w.heap.size w w' := by
  have B0 : Hid (Below w.heap.size w (w.alloc (.cells #[.int .i64 0, .int .i64 0, .int .i64 0, .int .i64 0, .int .i64 0, .int .i64 0, .bool false, .bool false] 23))) := (Below.refl _ _).alloc (Nat.le_refl _) _
  have X0 : Hid ((w.alloc (.cells #[.int .i64 0, .int .i64 0, .int .i64 0, .int .i64 0, .int .i64 0, .int .i64 0, .bool false, .bool false] 23)).heap[w.heap.size]? = some (.cells #[.int .i64 0, .int .i64 0, .int .i64 0, .int .i64 0, .int .i64 0, .int .i64 0, .bool false, .bool false] 23 (0, 0))) := heap_alloc_new w _
  obtain ⟨t1, t2⟩ := trim_ok l hl ha
  rw [ht] at t1 t2
  have hk := head_ok [32, 9] _ t1 t2
  rw [hh, htl] at hk
  have HTR : Hid (∀ V, Calls Tryz.prog 36 #[.string (mk l), .string ⟨#[32, 9]⟩] V fun e w' => e = .returned (.string (mk t)) ∧ Below V.heap.size V w') := fun V => by
    have h := Tryz.strings_Trim_blanks (mk l) V (by rw [mk_size]; omega)
    rw [show (mk l).data.toList = l from rfl, ht] at h
    exact h
  have HCN : Hid (∀ V, Calls Tryz.prog 35 #[.string (mk t)] V fun e w' => e = .returned (.tuple #[.string (mk hd), .string (mk tl)]) ∧ Below V.heap.size V w') := fun V => by
    have h := cutname_any _ t1 t2 V
    rw [hh, htl] at h
    exact h
  have HRN : Hid (∀ V, Below w.heap.size w V → Calls Tryz.prog 37 #[.string (mk hd)] V fun e w' => e = .returned (.tuple #[.agg #[.int .i64 y.op, .int .i64 y.rd, .int .i64 y.rs1, .int .i64 y.rs2, .int .i64 y.imm, .int .i64 y.csr, .bool y.aq, .bool y.rl], .bool false]) ∧ Below V.heap.size V w') := fun V hV => name_row hd hk.1.1 y false hn V (fun V2 h2 => nm V2 (below_call hV h2))
  clear nm ha hl t1 t2 hk ht hh htl hn
  generalize mk tl = st at *
  generalize mk hd = sh at *
  generalize mk t = sl at *
  generalize mk l = s0 at *
  go_enter Tryz.func13, Tryz.ntmps13
  go_wp2_with fail
  refine (HTR.out _).mono ?_
  rintro e w3 ⟨rfl, hb3⟩
  have Z3 : Hid (Below (w.alloc (.cells #[.int .i64 0, .int .i64 0, .int .i64 0, .int .i64 0, .int .i64 0, .int .i64 0, .bool false, .bool false] 23)).heap.size (w.alloc (.cells #[.int .i64 0, .int .i64 0, .int .i64 0, .int .i64 0, .int .i64 0, .int .i64 0, .bool false, .bool false] 23)) w3) := hb3
  clear hb3
  go_wp2_with fail
  refine (HCN.out _).mono ?_
  rintro e w4 ⟨rfl, hb4⟩
  have Z4 : Hid (Below (w.alloc (.cells #[.int .i64 0, .int .i64 0, .int .i64 0, .int .i64 0, .int .i64 0, .int .i64 0, .bool false, .bool false] 23)).heap.size (w.alloc (.cells #[.int .i64 0, .int .i64 0, .int .i64 0, .int .i64 0, .int .i64 0, .int .i64 0, .bool false, .bool false] 23)) w4) := below_call Z3.out hb4
  have B4 : Hid (Below w.heap.size w w4) := below_call B0.out Z4.out
  clear hb4
  go_wp2_with fail
  refine (HRN.out _ B4.out).mono ?_
  rintro e w5 ⟨rfl, hb5⟩
  have B5 : Hid (Below w.heap.size w w5) := below_call B4.out hb5
  have X5 : Hid (w5.heap[w.heap.size]? = some (.cells #[.int .i64 0, .int .i64 0, .int .i64 0, .int .i64 0, .int .i64 0, .int .i64 0, .bool false, .bool false] 23 (0, 0))) := below_box8 X0.out (below_call Z4.out hb5)
  have l5 : w.heap.size < w5.heap.size := (Array.getElem?_eq_some_iff.1 X5.out).1
  clear hb5
  go_upto_region 3 with fail
  have X6 : Hid ((w5.alloc (.cells #[.int .i64 y.op, .int .i64 y.rd, .int .i64 y.rs1, .int .i64 y.rs2, .int .i64 y.imm, .int .i64 y.csr, .bool y.aq, .bool y.rl] 23)).heap[w.heap.size]? = some (.cells #[.int .i64 0, .int .i64 0, .int .i64 0, .int .i64 0, .int .i64 0, .int .i64 0, .bool false, .bool false] 23 (0, 0))) := below_box8 X5.out ((Below.refl _ _).alloc (Nat.le_refl _) _)
  have Y6 : Hid ((w5.alloc (.cells #[.int .i64 y.op, .int .i64 y.rd, .int .i64 y.rs1, .int .i64 y.rs2, .int .i64 y.imm, .int .i64 y.csr, .bool y.aq, .bool y.rl] 23)).heap[w5.heap.size]? = some (.cells #[.int .i64 y.op, .int .i64 y.rd, .int .i64 y.rs1, .int .i64 y.rs2, .int .i64 y.imm, .int .i64 y.csr, .bool y.aq, .bool y.rl] 23 (0, 0))) := heap_alloc_new w5 _
  have B6 : Hid (Below w.heap.size w (w5.alloc (.cells #[.int .i64 y.op, .int .i64 y.rd, .int .i64 y.rs1, .int .i64 y.rs2, .int .i64 y.imm, .int .i64 y.csr, .bool y.aq, .bool y.rl] 23))) := B5.out.alloc B5.out.size _
  generalize w5.alloc (.cells #[.int .i64 y.op, .int .i64 y.rd, .int .i64 y.rs1, .int .i64 y.rs2, .int .i64 y.imm, .int .i64 y.csr, .bool y.aq, .bool y.rl] 23) = V at *
  generalize w5.heap.size = g6 at *
  clear X0 Z3 Z4 B4 B5 X5 HTR HCN HRN B0
  obtain ⟨r0, r1, r2, r3, r4, r5, r6, r7⟩ := box8_facts X6.out
  have z0 := box8_frozen X6.out 0; have z1 := box8_frozen X6.out 1; have z2 := box8_frozen X6.out 2; have z3 := box8_frozen X6.out 3; have z4 := box8_frozen X6.out 4; have z5 := box8_frozen X6.out 5; have z6 := box8_frozen X6.out 6; have z7 := box8_frozen X6.out 7
  go_wp2_with fail
  have X7 : Hid _ := box8_put X6.out (.int .i64 0) (.int .i64 0) (.int .i64 0) (.int .i64 0) (.int .i64 0) (.int .i64 0) (.bool false) (.bool false)
  clear r0 r1 r2 r3 r4 r5 r6 r7 z0 z1 z2 z3 z4 z5 z6 z7
  obtain ⟨r0, r1, r2, r3, r4, r5, r6, r7⟩ := box8_facts X7.out
  exact bodyPost_ret (v := .tuple #[.agg #[.int .i64 0, .int .i64 0, .int .i64 0, .int .i64 0, .int .i64 0, .int .i64 0, .bool false, .bool false], .int .i64 40]) (by simp [results, Tryz.results13, go_sem, r0, r1, r2, r3, r4, r5, r6, r7]) rfl ⟨rfl, set8_below B6.out (Nat.le_refl _) (.int .i64 0) (.int .i64 0) (.int .i64 0) (.int .i64 0) (.int .i64 0) (.int .i64 0) (.bool false) (.bool false)⟩
theorem right_row (z : Ins) (E : Int) (hE : rightE z.op z.rd z.rs1 z.rs2 z.imm z.csr z.aq z.rl = E) (w : World) (ht : Tabs w) : Calls Tryz.prog 24 #[.agg #[.int .i64 z.op, .int .i64 z.rd, .int .i64 z.rs1, .int .i64 z.rs2, .int .i64 z.imm, .int .i64 z.csr, .bool z.aq, .bool z.rl]] w fun e w' => e = .returned (.int .i64 E) ∧ Below w.heap.size w w' := by
  rw [← hE]; exact right_any z.op z.rd z.rs1 z.rs2 z.imm z.csr z.aq z.rl w ht
set_option maxRecDepth 100000 in
set_option maxHeartbeats 2000000 in
theorem parse_known (l t hd tl : List UInt8) (y z : Ins) (ok : Bool) (E : Int) (hE : rightE z.op z.rd z.rs1 z.rs2 z.imm z.csr z.aq z.rl = E) (hl : l.length ≤ 1000) (ha : Ascii l) (ht : Lib.trimS l [32, 9] = t) (hh : headW [32, 9] t = hd) (htl : tailW [32, 9] t = tl) (hn : nameR hd = (y, true)) (hp : partsR (shapesT.getD y.op.toNat []) tl y = (z, ok)) (w : World) (tb : Tabs w) (tl0 : TabsLie w) (nm : ∀ V, Below w.heap.size w V → NamesAt V) (zz : Ins) (ee : Int) (hz : (if ok = true ∧ E = 0 then (z, 0) else (Ins.zero, 40)) = (zz, ee)) :
    Calls Tryz.prog 13 #[.string (mk l)] w fun e w' => e = .returned (.tuple #[.agg zz.c, .int .i64 ee]) ∧ Below w.heap.size w w' := by
  have B0 : Hid (Below w.heap.size w (w.alloc (.cells #[.int .i64 0, .int .i64 0, .int .i64 0, .int .i64 0, .int .i64 0, .int .i64 0, .bool false, .bool false] 23))) := (Below.refl _ _).alloc (Nat.le_refl _) _
  have X0 : Hid ((w.alloc (.cells #[.int .i64 0, .int .i64 0, .int .i64 0, .int .i64 0, .int .i64 0, .int .i64 0, .bool false, .bool false] 23)).heap[w.heap.size]? = some (.cells #[.int .i64 0, .int .i64 0, .int .i64 0, .int .i64 0, .int .i64 0, .int .i64 0, .bool false, .bool false] 23 (0, 0))) := heap_alloc_new w _
  obtain ⟨t1, t2⟩ := trim_ok l hl ha
  rw [ht] at t1 t2
  have hk := head_ok [32, 9] _ t1 t2
  rw [hh, htl] at hk
  have HTR : Hid (∀ V, Calls Tryz.prog 36 #[.string (mk l), .string ⟨#[32, 9]⟩] V fun e w' => e = .returned (.string (mk t)) ∧ Below V.heap.size V w') := fun V => by
    have h := Tryz.strings_Trim_blanks (mk l) V (by rw [mk_size]; omega)
    rw [show (mk l).data.toList = l from rfl, ht] at h
    exact h
  have HCN : Hid (∀ V, Calls Tryz.prog 35 #[.string (mk t)] V fun e w' => e = .returned (.tuple #[.string (mk hd), .string (mk tl)]) ∧ Below V.heap.size V w') := fun V => by
    have h := cutname_any _ t1 t2 V
    rw [hh, htl] at h
    exact h
  have HRN : Hid (∀ V, Below w.heap.size w V → Calls Tryz.prog 37 #[.string (mk hd)] V fun e w' => e = .returned (.tuple #[.agg #[.int .i64 y.op, .int .i64 y.rd, .int .i64 y.rs1, .int .i64 y.rs2, .int .i64 y.imm, .int .i64 y.csr, .bool y.aq, .bool y.rl], .bool true]) ∧ Below V.heap.size V w') := fun V hV => name_row hd hk.1.1 y true hn V (fun V2 h2 => nm V2 (below_call hV h2))
  have hr := name_range hd (by rw [hn])
  rw [hn] at hr
  have ho : y.op = ((y.op.toNat : Nat) : Int) := by have := hr.1; simp at this; omega
  have so := shape_ok y.op.toNat (by have := hr.2; simp at this; omega)
  have HSH : Hid (∀ V, Below w.heap.size w V → Calls Tryz.prog 28 #[.int .i64 y.op] V fun e w' => e = .returned (.string (mk (shapesT.getD y.op.toNat []))) ∧ w' = V) := fun V hV => by
    have h := shape_any y.op.toNat (by have := hr.1; simp at this; omega) (by have := hr.2; simp at this; omega) V (tb.below hV)
    rw [← ho] at h
    exact h
  have HPT : Hid (∀ V, Below w.heap.size w V → Calls Tryz.prog 38 #[.string (mk (shapesT.getD y.op.toNat [])), .string (mk tl), .agg #[.int .i64 y.op, .int .i64 y.rd, .int .i64 y.rs1, .int .i64 y.rs2, .int .i64 y.imm, .int .i64 y.csr, .bool y.aq, .bool y.rl]] V fun e w' => e = .returned (.tuple #[.agg #[.int .i64 z.op, .int .i64 z.rd, .int .i64 z.rs1, .int .i64 z.rs2, .int .i64 z.imm, .int .i64 z.csr, .bool z.aq, .bool z.rl], .bool ok]) ∧ Below V.heap.size V w') := fun V hV => by
    have h := parts_any (shapesT.getD y.op.toNat []) tl so.1 so.2 hk.2.1 hk.2.2 y V (tabs_below tl0 hV)
    rw [hp] at h
    exact h
  have HRG : Hid (∀ V, Below w.heap.size w V → Calls Tryz.prog 24 #[.agg #[.int .i64 z.op, .int .i64 z.rd, .int .i64 z.rs1, .int .i64 z.rs2, .int .i64 z.imm, .int .i64 z.csr, .bool z.aq, .bool z.rl]] V fun e w' => e = .returned (.int .i64 E) ∧ Below V.heap.size V w') := fun V hV => right_row z E hE V (tb.below hV)
  have HZ : Hid _ := hz
  clear nm ha hl t1 t2 hk ht hh htl hn hp tb tl0 hr ho so hE hz
  generalize mk (shapesT.getD y.op.toNat []) = sp at *
  generalize mk tl = st at *
  generalize mk hd = sh at *
  generalize mk t = sl at *
  generalize mk l = s0 at *
  go_enter Tryz.func13, Tryz.ntmps13
  go_wp2_with fail
  refine (HTR.out _).mono ?_
  rintro e w3 ⟨rfl, hb3⟩
  have Z3 : Hid (Below (w.alloc (.cells #[.int .i64 0, .int .i64 0, .int .i64 0, .int .i64 0, .int .i64 0, .int .i64 0, .bool false, .bool false] 23)).heap.size (w.alloc (.cells #[.int .i64 0, .int .i64 0, .int .i64 0, .int .i64 0, .int .i64 0, .int .i64 0, .bool false, .bool false] 23)) w3) := hb3
  clear hb3
  go_wp2_with fail
  refine (HCN.out _).mono ?_
  rintro e w4 ⟨rfl, hb4⟩
  have Z4 : Hid (Below (w.alloc (.cells #[.int .i64 0, .int .i64 0, .int .i64 0, .int .i64 0, .int .i64 0, .int .i64 0, .bool false, .bool false] 23)).heap.size (w.alloc (.cells #[.int .i64 0, .int .i64 0, .int .i64 0, .int .i64 0, .int .i64 0, .int .i64 0, .bool false, .bool false] 23)) w4) := below_call Z3.out hb4
  have B4 : Hid (Below w.heap.size w w4) := below_call B0.out Z4.out
  clear hb4
  go_wp2_with fail
  refine (HRN.out _ B4.out).mono ?_
  rintro e w5 ⟨rfl, hb5⟩
  have B5 : Hid (Below w.heap.size w w5) := below_call B4.out hb5
  have X5 : Hid (w5.heap[w.heap.size]? = some (.cells #[.int .i64 0, .int .i64 0, .int .i64 0, .int .i64 0, .int .i64 0, .int .i64 0, .bool false, .bool false] 23 (0, 0))) := below_box8 X0.out (below_call Z4.out hb5)
  have l5 : w.heap.size < w5.heap.size := (Array.getElem?_eq_some_iff.1 X5.out).1
  clear hb5
  go_upto_region 3 with fail
  have X6 : Hid ((w5.alloc (.cells #[.int .i64 y.op, .int .i64 y.rd, .int .i64 y.rs1, .int .i64 y.rs2, .int .i64 y.imm, .int .i64 y.csr, .bool y.aq, .bool y.rl] 23)).heap[w.heap.size]? = some (.cells #[.int .i64 0, .int .i64 0, .int .i64 0, .int .i64 0, .int .i64 0, .int .i64 0, .bool false, .bool false] 23 (0, 0))) := below_box8 X5.out ((Below.refl _ _).alloc (Nat.le_refl _) _)
  have Y6 : Hid ((w5.alloc (.cells #[.int .i64 y.op, .int .i64 y.rd, .int .i64 y.rs1, .int .i64 y.rs2, .int .i64 y.imm, .int .i64 y.csr, .bool y.aq, .bool y.rl] 23)).heap[w5.heap.size]? = some (.cells #[.int .i64 y.op, .int .i64 y.rd, .int .i64 y.rs1, .int .i64 y.rs2, .int .i64 y.imm, .int .i64 y.csr, .bool y.aq, .bool y.rl] 23 (0, 0))) := heap_alloc_new w5 _
  have B6 : Hid (Below w.heap.size w (w5.alloc (.cells #[.int .i64 y.op, .int .i64 y.rd, .int .i64 y.rs1, .int .i64 y.rs2, .int .i64 y.imm, .int .i64 y.csr, .bool y.aq, .bool y.rl] 23))) := B5.out.alloc B5.out.size _
  generalize w5.alloc (.cells #[.int .i64 y.op, .int .i64 y.rd, .int .i64 y.rs1, .int .i64 y.rs2, .int .i64 y.imm, .int .i64 y.csr, .bool y.aq, .bool y.rl] 23) = V at *
  generalize w5.heap.size = g6 at *
  clear X0 Z3 Z4 B4 B5 X5 HTR HCN HRN B0
  have n6 : g6 ≠ w.heap.size := Nat.ne_of_gt l5
  have n7 : w.heap.size ≠ g6 := Nat.ne_of_lt l5
  obtain ⟨q0, q1, q2, q3, q4, q5, q6, q7⟩ := box8_facts Y6.out
  go_upto_region 5 with fail
  go_cut [8] (fun c wx => c = .bool ok ∧ wx.heap[w.heap.size]? = some (.cells #[.int .i64 0, .int .i64 0, .int .i64 0, .int .i64 0, .int .i64 0, .int .i64 0, .bool false, .bool false] 23 (0, 0)) ∧ wx.heap[g6]? = some (.cells #[.int .i64 z.op, .int .i64 z.rd, .int .i64 z.rs1, .int .i64 z.rs2, .int .i64 z.imm, .int .i64 z.csr, .bool z.aq, .bool z.rl] 23 (0, 0)) ∧ Below w.heap.size w wx)
  case first =>
    go_region_with (first | (go_at_call 28; (with_reducible refine Calls.mono (HSH.out _ (by repeat (first | exact B6.out | with_reducible refine Below.drew ?_))) ?_); rintro e w7 ⟨rfl, hw7⟩; rw [hw7]; clear hw7) | (go_at_call 38; (with_reducible refine Calls.mono (HPT.out _ (by repeat (first | exact B6.out | with_reducible refine Below.drew ?_))) ?_); rintro e w8 ⟨rfl, hb8⟩; have X8 : Hid (w8.heap[w.heap.size]? = some (.cells #[.int .i64 0, .int .i64 0, .int .i64 0, .int .i64 0, .int .i64 0, .int .i64 0, .bool false, .bool false] 23 (0, 0))) := below_box8 X6.out (below_call (by repeat (first | exact Below.refl _ _ | with_reducible refine Below.drew ?_)) hb8); have Y8 : Hid (w8.heap[g6]? = some (.cells #[.int .i64 y.op, .int .i64 y.rd, .int .i64 y.rs1, .int .i64 y.rs2, .int .i64 y.imm, .int .i64 y.csr, .bool y.aq, .bool y.rl] 23 (0, 0))) := below_box8 Y6.out (below_call (by repeat (first | exact Below.refl _ _ | with_reducible refine Below.drew ?_)) hb8); have B8 : Hid (Below w.heap.size w w8) := below_call B6.out (below_call (by repeat (first | exact Below.refl _ _ | with_reducible refine Below.drew ?_)) hb8); obtain ⟨p0, p1, p2, p3, p4, p5, p6, p7⟩ := box8_facts Y8.out; have y0 := box8_frozen Y8.out 0; have y1 := box8_frozen Y8.out 1; have y2 := box8_frozen Y8.out 2; have y3 := box8_frozen Y8.out 3; have y4 := box8_frozen Y8.out 4; have y5 := box8_frozen Y8.out 5; have y6 := box8_frozen Y8.out 6; have y7 := box8_frozen Y8.out 7; clear hb8))
    all_goals go_wp2_with fail
    all_goals go_meet
    all_goals exact ⟨rfl, (box8_stay n7 (.int .i64 z.op) (.int .i64 z.rd) (.int .i64 z.rs1) (.int .i64 z.rs2) (.int .i64 z.imm) (.int .i64 z.csr) (.bool z.aq) (.bool z.rl)).trans X8.out, box8_put Y8.out (.int .i64 z.op) (.int .i64 z.rd) (.int .i64 z.rs1) (.int .i64 z.rs2) (.int .i64 z.imm) (.int .i64 z.csr) (.bool z.aq) (.bool z.rl), set8_below B8.out (Nat.le_of_lt l5) (.int .i64 z.op) (.int .i64 z.rd) (.int .i64 z.rs1) (.int .i64 z.rs2) (.int .i64 z.imm) (.int .i64 z.csr) (.bool z.aq) (.bool z.rl)⟩
  case rest =>
    obtain ⟨rfl, hX, hY, hB⟩ := hcut
    have XC : Hid (wc.heap[w.heap.size]? = some (.cells #[.int .i64 0, .int .i64 0, .int .i64 0, .int .i64 0, .int .i64 0, .int .i64 0, .bool false, .bool false] 23 (0, 0))) := hX
    have YC : Hid (wc.heap[g6]? = some (.cells #[.int .i64 z.op, .int .i64 z.rd, .int .i64 z.rs1, .int .i64 z.rs2, .int .i64 z.imm, .int .i64 z.csr, .bool z.aq, .bool z.rl] 23 (0, 0))) := hY
    have BC : Hid (Below w.heap.size w wc) := hB
    clear hX hY hB X6 Y6 B6 HSH HPT q0 q1 q2 q3 q4 q5 q6 q7
    cases ok
    · obtain ⟨r0, r1, r2, r3, r4, r5, r6, r7⟩ := box8_facts XC.out
      have z0 := box8_frozen XC.out 0; have z1 := box8_frozen XC.out 1; have z2 := box8_frozen XC.out 2; have z3 := box8_frozen XC.out 3; have z4 := box8_frozen XC.out 4; have z5 := box8_frozen XC.out 5; have z6 := box8_frozen XC.out 6; have z7 := box8_frozen XC.out 7
      go_wp2_with fail
      have X9 : Hid _ := box8_put XC.out (.int .i64 0) (.int .i64 0) (.int .i64 0) (.int .i64 0) (.int .i64 0) (.int .i64 0) (.bool false) (.bool false)
      clear r0 r1 r2 r3 r4 r5 r6 r7 z0 z1 z2 z3 z4 z5 z6 z7
      obtain ⟨r0, r1, r2, r3, r4, r5, r6, r7⟩ := box8_facts X9.out
      have hz := HZ.out
      rw [if_neg (by simp)] at hz
      obtain ⟨rfl, rfl⟩ := Prod.mk.inj hz
      exact bodyPost_ret (v := .tuple #[.agg #[.int .i64 0, .int .i64 0, .int .i64 0, .int .i64 0, .int .i64 0, .int .i64 0, .bool false, .bool false], .int .i64 40]) (by simp [results, Tryz.results13, go_sem, r0, r1, r2, r3, r4, r5, r6, r7]) rfl ⟨rfl, set8_below BC.out (Nat.le_refl _) (.int .i64 0) (.int .i64 0) (.int .i64 0) (.int .i64 0) (.int .i64 0) (.int .i64 0) (.bool false) (.bool false)⟩
    · obtain ⟨q0, q1, q2, q3, q4, q5, q6, q7⟩ := box8_facts YC.out
      go_wp2_with fail
      refine (HRG.out _ BC.out).mono ?_
      rintro e w9 ⟨rfl, hb9⟩
      have XD : Hid (w9.heap[w.heap.size]? = some (.cells #[.int .i64 0, .int .i64 0, .int .i64 0, .int .i64 0, .int .i64 0, .int .i64 0, .bool false, .bool false] 23 (0, 0))) := below_box8 XC.out hb9
      have YD : Hid (w9.heap[g6]? = some (.cells #[.int .i64 z.op, .int .i64 z.rd, .int .i64 z.rs1, .int .i64 z.rs2, .int .i64 z.imm, .int .i64 z.csr, .bool z.aq, .bool z.rl] 23 (0, 0))) := below_box8 YC.out hb9
      have BD : Hid (Below w.heap.size w w9) := below_call BC.out hb9
      clear hb9 q0 q1 q2 q3 q4 q5 q6 q7 XC YC BC
      obtain ⟨q0, q1, q2, q3, q4, q5, q6, q7⟩ := box8_facts YD.out
      obtain ⟨r0, r1, r2, r3, r4, r5, r6, r7⟩ := box8_facts XD.out
      have z0 := box8_frozen XD.out 0; have z1 := box8_frozen XD.out 1; have z2 := box8_frozen XD.out 2; have z3 := box8_frozen XD.out 3; have z4 := box8_frozen XD.out 4; have z5 := box8_frozen XD.out 5; have z6 := box8_frozen XD.out 6; have z7 := box8_frozen XD.out 7
      by_cases hE0 : E = 0
      · subst hE0
        go_wp2_with fail
        have X9 : Hid _ := box8_put XD.out (.int .i64 z.op) (.int .i64 z.rd) (.int .i64 z.rs1) (.int .i64 z.rs2) (.int .i64 z.imm) (.int .i64 z.csr) (.bool z.aq) (.bool z.rl)
        clear r0 r1 r2 r3 r4 r5 r6 r7 z0 z1 z2 z3 z4 z5 z6 z7
        obtain ⟨r0, r1, r2, r3, r4, r5, r6, r7⟩ := box8_facts X9.out
        have hz := HZ.out
        rw [if_pos (by simp)] at hz
        obtain ⟨rfl, rfl⟩ := Prod.mk.inj hz
        exact bodyPost_ret (v := .tuple #[.agg #[.int .i64 z.op, .int .i64 z.rd, .int .i64 z.rs1, .int .i64 z.rs2, .int .i64 z.imm, .int .i64 z.csr, .bool z.aq, .bool z.rl], .int .i64 0]) (by simp [results, Tryz.results13, go_sem, r0, r1, r2, r3, r4, r5, r6, r7]) rfl ⟨rfl, set8_below BD.out (Nat.le_refl _) (.int .i64 z.op) (.int .i64 z.rd) (.int .i64 z.rs1) (.int .i64 z.rs2) (.int .i64 z.imm) (.int .i64 z.csr) (.bool z.aq) (.bool z.rl)⟩
      · have hE1 : (E != 0) = true := by simp [hE0]
        go_wp2_with fail
        have X9 : Hid _ := box8_put XD.out (.int .i64 0) (.int .i64 0) (.int .i64 0) (.int .i64 0) (.int .i64 0) (.int .i64 0) (.bool false) (.bool false)
        clear r0 r1 r2 r3 r4 r5 r6 r7 z0 z1 z2 z3 z4 z5 z6 z7
        obtain ⟨r0, r1, r2, r3, r4, r5, r6, r7⟩ := box8_facts X9.out
        have hz := HZ.out
        rw [if_neg (fun h => hE0 h.2)] at hz
        obtain ⟨rfl, rfl⟩ := Prod.mk.inj hz
        exact bodyPost_ret (v := .tuple #[.agg #[.int .i64 0, .int .i64 0, .int .i64 0, .int .i64 0, .int .i64 0, .int .i64 0, .bool false, .bool false], .int .i64 40]) (by simp [results, Tryz.results13, go_sem, r0, r1, r2, r3, r4, r5, r6, r7]) rfl ⟨rfl, set8_below BD.out (Nat.le_refl _) (.int .i64 0) (.int .i64 0) (.int .i64 0) (.int .i64 0) (.int .i64 0) (.int .i64 0) (.bool false) (.bool false)⟩
end Go.Proofs.YtooaafbdjnlmfaaGreatDoor
