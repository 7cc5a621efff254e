/- The call readName of layer 4. -/
import Derived.Test.YtooaafbdjnlmfaaGreatDoorQParts
namespace Go.Proofs.YtooaafbdjnlmfaaGreatDoor
open Go.RowKit
set_option linter.unusedVariables false
set_option linter.unusedSimpArgs false
/-- the operation that a text names; 0: none -/
def findI (l : List UInt8) : Int := match dNames.findIdx? (fun d => d == l) with | some m => (m : Int) + 1 | none => 0
theorem dname_get (j : Nat) (h : j < dNames.length) : dName j = mk dNames[j] := by
  unfold dName mk
  rw [List.getD_eq_getElem?_getD, List.getElem?_eq_getElem h]
  rfl
theorem mk_inj {a b : List UInt8} (h : mk a = mk b) : a = b := by
  have := congrArg (fun s => s.data.toList) h
  simpa [mk] using this
theorem find_any (l : List UInt8) (w : World) (nm : NamesAt w) : Calls Tryz.prog 82 #[.string (mk l)] w fun e w' => e = .returned (.int .i64 (findI l)) ∧ w' = w := by
  unfold findI
  have hlen : dNames.length = 98 := dNames_len
  split
  · next m hm =>
    obtain ⟨h1, h2, h3⟩ := List.findIdx?_eq_some_iff_getElem.1 hm
    refine find_yes (mk l) m (by omega) ?_ ?_ w nm
    · rw [dname_get m h1]; exact congrArg mk (by simpa using h2)
    · intro j hj
      rw [dname_get j (by omega)]
      intro he
      exact h3 j hj (by simpa using mk_inj he)
  · next hm =>
    refine find_no (mk l) ?_ w nm
    intro j hj
    rw [dname_get j (by omega)]
    intro he
    have h := List.findIdx?_eq_none_iff.1 hm _ (List.getElem_mem (show j < dNames.length by omega))
    rw [mk_inj he] at h
    simp at h
/-- what readName tells -/
def nameStep (l : List UInt8) : List (Bool × Bool) → Ins × Bool
  | [] => (Ins.zero, false)
  | (a, r) :: t => if Lib.hasSuffix l (markL a r) = true ∧ findI (Lib.trimSuffix l (markL a r)) ≠ 0 then (⟨findI (Lib.trimSuffix l (markL a r)), 0, 0, 0, 0, 0, a, r⟩, true) else nameStep l t
def nameR (l : List UInt8) : Ins × Bool := nameStep l [(false, false), (true, false), (false, true), (true, true)]
/-- readName's own blocks -/
def Own (w w' : World) : Prop := Two w w' #[.int .i64 0, .int .i64 0, .int .i64 0, .int .i64 0, .int .i64 0, .int .i64 0, .bool false, .bool false] #[.int .i64 0, .int .i64 0, .int .i64 0, .int .i64 0, .int .i64 0, .int .i64 0, .bool false, .bool false, .int .i64 0, .int .i64 0, .int .i64 0, .int .i64 0, .int .i64 0, .int .i64 0, .bool true, .bool false, .int .i64 0, .int .i64 0, .int .i64 0, .int .i64 0, .int .i64 0, .int .i64 0, .bool false, .bool true, .int .i64 0, .int .i64 0, .int .i64 0, .int .i64 0, .int .i64 0, .int .i64 0, .bool true, .bool true]
set_option maxRecDepth 100000 in
set_option maxHeartbeats 2000000 in
theorem name_read (l : List UInt8) (hl : l.length ≤ 1000) (w : World) (nm : ∀ V, Below w.heap.size w V → NamesAt V) : Calls Tryz.prog 37 #[.string (mk l)] w fun e w' => e = .returned (.tuple #[.agg (nameR l).1.c, .bool (nameR l).2]) ∧ Below w.heap.size w w' := by
  have S : Hid (Own w ((w.alloc (.cells #[.int .i64 0, .int .i64 0, .int .i64 0, .int .i64 0, .int .i64 0, .int .i64 0, .bool false, .bool false] 23)).alloc (.cells #[.int .i64 0, .int .i64 0, .int .i64 0, .int .i64 0, .int .i64 0, .int .i64 0, .bool false, .bool false, .int .i64 0, .int .i64 0, .int .i64 0, .int .i64 0, .int .i64 0, .int .i64 0, .bool true, .bool false, .int .i64 0, .int .i64 0, .int .i64 0, .int .i64 0, .int .i64 0, .int .i64 0, .bool false, .bool true, .int .i64 0, .int .i64 0, .int .i64 0, .int .i64 0, .int .i64 0, .int .i64 0, .bool true, .bool true] 23))) := Two.new w _ _
  have NM : Hid (∀ V, Below w.heap.size w V → NamesAt V) := nm
  have hsz : (mk l).size ≤ 1000 := by rw [mk_size]; exact hl
  have HCS : Hid (∀ a r V, Calls Tryz.prog 81 #[.string (mk l), .string (mk (markL a r))] V fun e w' => e = .returned (.tuple #[.string (mk (Lib.trimSuffix l (markL a r))), .bool (Lib.hasSuffix l (markL a r))]) ∧ w' = V) := fun a r V => Tryz.strings_CutSuffix (mk l) (mk (markL a r)) V (by omega)
  have HF : Hid (∀ t V, Below w.heap.size w V → Calls Tryz.prog 82 #[.string (mk t)] V fun e w' => e = .returned (.int .i64 (findI t)) ∧ w' = V) := fun t V hV => find_any t V (NM.out V hV)
  have ST : Hid (∀ a r t, nameStep l ((a, r) :: t) = if Lib.hasSuffix l (markL a r) = true ∧ findI (Lib.trimSuffix l (markL a r)) ≠ 0 then (⟨findI (Lib.trimSuffix l (markL a r)), 0, 0, 0, 0, 0, a, r⟩, true) else nameStep l t) := fun a r t => rfl
  clear nm
  have RD : Hid (nameStep l [(false, false), (true, false), (false, true), (true, true)] = nameR l) := (rfl : _ = nameR l)
  go_enter Tryz.func37, Tryz.ntmps37
  go_wp2_with fail
  go_loopw [14] (fun iv wr => ∃ j : Nat, j ≤ 4 ∧ iv = .int .i64 j ∧ Own w wr ∧ nameStep l (([(false, false), (true, false), (false, true), (true, true)] : List (Bool × Bool)).drop j) = nameR l) (fun iv _ => 20 - (intOf iv).toNat)
  case atStart => exact ⟨0, by omega, rfl, S.out, RD.out⟩
  case round =>
    obtain ⟨j, hj, rfl, how, hst⟩ := hrel
    clear S RD
    have X : Hid (Own w wr) := how
    have SZ : w.heap.size + 1 < wr.heap.size := (Array.getElem?_eq_some_iff.1 how.2.1).1
    have PR : Hid (nameStep l (([(false, false), (true, false), (false, true), (true, true)] : List (Bool × Bool)).drop j) = nameR l) := hst
    clear how hst
    have n1 : w.heap.size ≠ wr.heap.size := by omega
    have n2 : wr.heap.size ≠ w.heap.size := by omega
    have n3 : w.heap.size + 1 ≠ wr.heap.size := by omega
    have n4 : wr.heap.size ≠ w.heap.size + 1 := by omega
    match j, hj with
    | 0, _ =>
      have PR1 := PR.out
      have HC : Hid (∀ V, Calls Tryz.prog 81 #[.string (mk l), .string (mk (markL false false))] V fun e w' => e = .returned (.tuple #[.string (mk (Lib.trimSuffix l (markL false false))), .bool (Lib.hasSuffix l (markL false false))]) ∧ w' = V) := HCS.out false false
      have HF1 : Hid (∀ V, Below w.heap.size w V → Calls Tryz.prog 82 #[.string (mk (Lib.trimSuffix l (markL false false)))] V fun e w' => e = .returned (.int .i64 (findI (Lib.trimSuffix l (markL false false)))) ∧ w' = V) := HF.out _
      have HMK : Hid (∀ V, Calls Tryz.prog 27 #[.agg #[.int .i64 0, .int .i64 0, .int .i64 0, .int .i64 0, .int .i64 0, .int .i64 0, .bool false, .bool false]] V fun e w' => e = .returned (.string (mk (markL false false))) ∧ Below V.heap.size V w') := fun V => mark_any 0 0 0 0 0 0 false false V
      have X1 : Hid (Own w (wr.alloc (.cells #[.int .i64 0, .int .i64 0, .int .i64 0, .int .i64 0, .int .i64 0, .int .i64 0, .bool false, .bool false] 23))) := X.out.step ((Below.refl _ _).alloc (Nat.le_refl _) _)
      have XN : Hid ((wr.alloc (.cells #[.int .i64 0, .int .i64 0, .int .i64 0, .int .i64 0, .int .i64 0, .int .i64 0, .bool false, .bool false] 23)).heap[wr.heap.size]? = some (.cells #[.int .i64 0, .int .i64 0, .int .i64 0, .int .i64 0, .int .i64 0, .int .i64 0, .bool false, .bool false] 23 (0, 0))) := heap_alloc_new wr _
      have c0 : wr.cell? ⟨w.heap.size + 1, 0, none⟩ = some (.int .i64 0) := by
        have h := X.out.2.1
        simp only [World.cell?, h]
        rfl
      have c1 : wr.cell? ⟨w.heap.size + 1, 1, none⟩ = some (.int .i64 0) := by
        have h := X.out.2.1
        simp only [World.cell?, h]
        rfl
      have c2 : wr.cell? ⟨w.heap.size + 1, 2, none⟩ = some (.int .i64 0) := by
        have h := X.out.2.1
        simp only [World.cell?, h]
        rfl
      have c3 : wr.cell? ⟨w.heap.size + 1, 3, none⟩ = some (.int .i64 0) := by
        have h := X.out.2.1
        simp only [World.cell?, h]
        rfl
      have c4 : wr.cell? ⟨w.heap.size + 1, 4, none⟩ = some (.int .i64 0) := by
        have h := X.out.2.1
        simp only [World.cell?, h]
        rfl
      have c5 : wr.cell? ⟨w.heap.size + 1, 5, none⟩ = some (.int .i64 0) := by
        have h := X.out.2.1
        simp only [World.cell?, h]
        rfl
      have c6 : wr.cell? ⟨w.heap.size + 1, 6, none⟩ = some (.bool false) := by
        have h := X.out.2.1
        simp only [World.cell?, h]
        rfl
      have c7 : wr.cell? ⟨w.heap.size + 1, 7, none⟩ = some (.bool false) := by
        have h := X.out.2.1
        simp only [World.cell?, h]
        rfl
      have PR2 : Hid ((if Lib.hasSuffix l (markL false false) = true ∧ findI (Lib.trimSuffix l (markL false false)) ≠ 0 then (⟨findI (Lib.trimSuffix l (markL false false)), 0, 0, 0, 0, 0, false, false⟩, true) else nameStep l (([(false, false), (true, false), (false, true), (true, true)] : List (Bool × Bool)).drop 1)) = nameR l) := PR1
      clear PR1 PR
      generalize mk (Lib.trimSuffix l (markL false false)) = tx at *
      generalize findI (Lib.trimSuffix l (markL false false)) = fi at *
      generalize hsu : Lib.hasSuffix l (markL false false) = su at *
      generalize mk (markL false false) = mt at *
      cases su
      · go_wp2_with (first | (go_at_call 27; (with_reducible refine Calls.mono (HMK.out _) ?_); rintro e w3 ⟨rfl, hb3⟩; have X3 : Hid (Own w w3) := X1.out.step hb3; have BB : Hid (Below w.heap.size w w3) := X3.out.2.2; have XB : Hid (w3.heap[wr.heap.size]? = some (.cells #[.int .i64 0, .int .i64 0, .int .i64 0, .int .i64 0, .int .i64 0, .int .i64 0, .bool false, .bool false] 23 (0, 0))) := below_box8 XN.out hb3; obtain ⟨q0, q1, q2, q3, q4, q5, q6, q7⟩ := box8_facts XB.out; obtain ⟨r0, r1, r2, r3, r4, r5, r6, r7⟩ := box8_facts X3.out.1; have z0 := box8_frozen X3.out.1 0; have z1 := box8_frozen X3.out.1 1; have z2 := box8_frozen X3.out.1 2; have z3 := box8_frozen X3.out.1 3; have z4 := box8_frozen X3.out.1 4; have z5 := box8_frozen X3.out.1 5; have z6 := box8_frozen X3.out.1 6; have z7 := box8_frozen X3.out.1 7; have y0 := box8_frozen XB.out 0; clear hb3) | (go_at_call 81; (with_reducible refine Calls.mono (HC.out _) ?_); rintro e w9 ⟨rfl, rfl⟩) | (go_at_call 82; (with_reducible refine Calls.mono (HF1.out _ BB.out) ?_); rintro e w9 ⟨rfl, rfl⟩))
        go_roundw
        case rel => exact ⟨1, by omega, by go_num, X3.out, by rw [← PR2.out, if_neg (by simp)]⟩
        case measure => simp [intOf]
      · by_cases hfi : fi = 0
        · subst hfi
          go_wp2_with (first | (go_at_call 27; (with_reducible refine Calls.mono (HMK.out _) ?_); rintro e w3 ⟨rfl, hb3⟩; have X3 : Hid (Own w w3) := X1.out.step hb3; have BB : Hid (Below w.heap.size w w3) := X3.out.2.2; have XB : Hid (w3.heap[wr.heap.size]? = some (.cells #[.int .i64 0, .int .i64 0, .int .i64 0, .int .i64 0, .int .i64 0, .int .i64 0, .bool false, .bool false] 23 (0, 0))) := below_box8 XN.out hb3; obtain ⟨q0, q1, q2, q3, q4, q5, q6, q7⟩ := box8_facts XB.out; obtain ⟨r0, r1, r2, r3, r4, r5, r6, r7⟩ := box8_facts X3.out.1; have z0 := box8_frozen X3.out.1 0; have z1 := box8_frozen X3.out.1 1; have z2 := box8_frozen X3.out.1 2; have z3 := box8_frozen X3.out.1 3; have z4 := box8_frozen X3.out.1 4; have z5 := box8_frozen X3.out.1 5; have z6 := box8_frozen X3.out.1 6; have z7 := box8_frozen X3.out.1 7; have y0 := box8_frozen XB.out 0; clear hb3) | (go_at_call 81; (with_reducible refine Calls.mono (HC.out _) ?_); rintro e w9 ⟨rfl, rfl⟩) | (go_at_call 82; (with_reducible refine Calls.mono (HF1.out _ BB.out) ?_); rintro e w9 ⟨rfl, rfl⟩))
          go_roundw
          case rel => exact ⟨1, by omega, by go_num, ⟨(heap_setCell_other _ _ _ _ n1).trans X3.out.1, (heap_setCell_other _ _ _ _ n3).trans X3.out.2.1, X3.out.2.2.setCell (Nat.le_of_lt (by show w.heap.size < wr.heap.size; omega)) _⟩, by rw [← PR2.out, if_neg (by simp)]⟩
          case measure => simp [intOf]
        · have hfb : (fi == 0) = false := by simpa using hfi
          have HFIN : Hid (nameR l = (⟨fi, 0, 0, 0, 0, 0, false, false⟩, true)) := by
            show _ = _
            rw [← PR2.out, if_pos ⟨rfl, hfi⟩]
          clear PR2
          go_wp2_with (first | (go_at_call 27; (with_reducible refine Calls.mono (HMK.out _) ?_); rintro e w3 ⟨rfl, hb3⟩; have X3 : Hid (Own w w3) := X1.out.step hb3; have BB : Hid (Below w.heap.size w w3) := X3.out.2.2; have XB : Hid (w3.heap[wr.heap.size]? = some (.cells #[.int .i64 0, .int .i64 0, .int .i64 0, .int .i64 0, .int .i64 0, .int .i64 0, .bool false, .bool false] 23 (0, 0))) := below_box8 XN.out hb3; obtain ⟨q0, q1, q2, q3, q4, q5, q6, q7⟩ := box8_facts XB.out; obtain ⟨r0, r1, r2, r3, r4, r5, r6, r7⟩ := box8_facts X3.out.1; have z0 := box8_frozen X3.out.1 0; have z1 := box8_frozen X3.out.1 1; have z2 := box8_frozen X3.out.1 2; have z3 := box8_frozen X3.out.1 3; have z4 := box8_frozen X3.out.1 4; have z5 := box8_frozen X3.out.1 5; have z6 := box8_frozen X3.out.1 6; have z7 := box8_frozen X3.out.1 7; have y0 := box8_frozen XB.out 0; clear hb3) | (go_at_call 81; (with_reducible refine Calls.mono (HC.out _) ?_); rintro e w9 ⟨rfl, rfl⟩) | (go_at_call 82; (with_reducible refine Calls.mono (HF1.out _ BB.out) ?_); rintro e w9 ⟨rfl, rfl⟩))
          refine bodyPost_ret (v := .tuple #[.agg #[.int .i64 fi, .int .i64 0, .int .i64 0, .int .i64 0, .int .i64 0, .int .i64 0, .bool false, .bool false], .bool true]) (by simp [results, Tryz.results37, go_sem, q0, q1, q2, q3, q4, q5, q6, q7, r0, r1, r2, r3, r4, r5, r6, r7, n1, n2]) rfl ⟨by rw [HFIN.out]; rfl, ?_⟩
          iterate 8 (refine Below.setCell ?_ (by exact Nat.le_refl _) _)
          exact BB.out.setCell (Nat.le_of_lt (by show w.heap.size < wr.heap.size; omega)) _
    | 1, _ =>
      have PR1 := PR.out
      have HC : Hid (∀ V, Calls Tryz.prog 81 #[.string (mk l), .string (mk (markL true false))] V fun e w' => e = .returned (.tuple #[.string (mk (Lib.trimSuffix l (markL true false))), .bool (Lib.hasSuffix l (markL true false))]) ∧ w' = V) := HCS.out true false
      have HF1 : Hid (∀ V, Below w.heap.size w V → Calls Tryz.prog 82 #[.string (mk (Lib.trimSuffix l (markL true false)))] V fun e w' => e = .returned (.int .i64 (findI (Lib.trimSuffix l (markL true false)))) ∧ w' = V) := HF.out _
      have HMK : Hid (∀ V, Calls Tryz.prog 27 #[.agg #[.int .i64 0, .int .i64 0, .int .i64 0, .int .i64 0, .int .i64 0, .int .i64 0, .bool true, .bool false]] V fun e w' => e = .returned (.string (mk (markL true false))) ∧ Below V.heap.size V w') := fun V => mark_any 0 0 0 0 0 0 true false V
      have X1 : Hid (Own w (wr.alloc (.cells #[.int .i64 0, .int .i64 0, .int .i64 0, .int .i64 0, .int .i64 0, .int .i64 0, .bool true, .bool false] 23))) := X.out.step ((Below.refl _ _).alloc (Nat.le_refl _) _)
      have XN : Hid ((wr.alloc (.cells #[.int .i64 0, .int .i64 0, .int .i64 0, .int .i64 0, .int .i64 0, .int .i64 0, .bool true, .bool false] 23)).heap[wr.heap.size]? = some (.cells #[.int .i64 0, .int .i64 0, .int .i64 0, .int .i64 0, .int .i64 0, .int .i64 0, .bool true, .bool false] 23 (0, 0))) := heap_alloc_new wr _
      have c0 : wr.cell? ⟨w.heap.size + 1, 8, none⟩ = some (.int .i64 0) := by
        have h := X.out.2.1
        simp only [World.cell?, h]
        rfl
      have c1 : wr.cell? ⟨w.heap.size + 1, 9, none⟩ = some (.int .i64 0) := by
        have h := X.out.2.1
        simp only [World.cell?, h]
        rfl
      have c2 : wr.cell? ⟨w.heap.size + 1, 10, none⟩ = some (.int .i64 0) := by
        have h := X.out.2.1
        simp only [World.cell?, h]
        rfl
      have c3 : wr.cell? ⟨w.heap.size + 1, 11, none⟩ = some (.int .i64 0) := by
        have h := X.out.2.1
        simp only [World.cell?, h]
        rfl
      have c4 : wr.cell? ⟨w.heap.size + 1, 12, none⟩ = some (.int .i64 0) := by
        have h := X.out.2.1
        simp only [World.cell?, h]
        rfl
      have c5 : wr.cell? ⟨w.heap.size + 1, 13, none⟩ = some (.int .i64 0) := by
        have h := X.out.2.1
        simp only [World.cell?, h]
        rfl
      have c6 : wr.cell? ⟨w.heap.size + 1, 14, none⟩ = some (.bool true) := by
        have h := X.out.2.1
        simp only [World.cell?, h]
        rfl
      have c7 : wr.cell? ⟨w.heap.size + 1, 15, none⟩ = some (.bool false) := by
        have h := X.out.2.1
        simp only [World.cell?, h]
        rfl
      have PR2 : Hid ((if Lib.hasSuffix l (markL true false) = true ∧ findI (Lib.trimSuffix l (markL true false)) ≠ 0 then (⟨findI (Lib.trimSuffix l (markL true false)), 0, 0, 0, 0, 0, true, false⟩, true) else nameStep l (([(false, false), (true, false), (false, true), (true, true)] : List (Bool × Bool)).drop 2)) = nameR l) := PR1
      clear PR1 PR
      generalize mk (Lib.trimSuffix l (markL true false)) = tx at *
      generalize findI (Lib.trimSuffix l (markL true false)) = fi at *
      generalize hsu : Lib.hasSuffix l (markL true false) = su at *
      generalize mk (markL true false) = mt at *
      cases su
      · go_wp2_with (first | (go_at_call 27; (with_reducible refine Calls.mono (HMK.out _) ?_); rintro e w3 ⟨rfl, hb3⟩; have X3 : Hid (Own w w3) := X1.out.step hb3; have BB : Hid (Below w.heap.size w w3) := X3.out.2.2; have XB : Hid (w3.heap[wr.heap.size]? = some (.cells #[.int .i64 0, .int .i64 0, .int .i64 0, .int .i64 0, .int .i64 0, .int .i64 0, .bool true, .bool false] 23 (0, 0))) := below_box8 XN.out hb3; obtain ⟨q0, q1, q2, q3, q4, q5, q6, q7⟩ := box8_facts XB.out; obtain ⟨r0, r1, r2, r3, r4, r5, r6, r7⟩ := box8_facts X3.out.1; have z0 := box8_frozen X3.out.1 0; have z1 := box8_frozen X3.out.1 1; have z2 := box8_frozen X3.out.1 2; have z3 := box8_frozen X3.out.1 3; have z4 := box8_frozen X3.out.1 4; have z5 := box8_frozen X3.out.1 5; have z6 := box8_frozen X3.out.1 6; have z7 := box8_frozen X3.out.1 7; have y0 := box8_frozen XB.out 0; clear hb3) | (go_at_call 81; (with_reducible refine Calls.mono (HC.out _) ?_); rintro e w9 ⟨rfl, rfl⟩) | (go_at_call 82; (with_reducible refine Calls.mono (HF1.out _ BB.out) ?_); rintro e w9 ⟨rfl, rfl⟩))
        go_roundw
        case rel => exact ⟨2, by omega, by go_num, X3.out, by rw [← PR2.out, if_neg (by simp)]⟩
        case measure => simp [intOf]
      · by_cases hfi : fi = 0
        · subst hfi
          go_wp2_with (first | (go_at_call 27; (with_reducible refine Calls.mono (HMK.out _) ?_); rintro e w3 ⟨rfl, hb3⟩; have X3 : Hid (Own w w3) := X1.out.step hb3; have BB : Hid (Below w.heap.size w w3) := X3.out.2.2; have XB : Hid (w3.heap[wr.heap.size]? = some (.cells #[.int .i64 0, .int .i64 0, .int .i64 0, .int .i64 0, .int .i64 0, .int .i64 0, .bool true, .bool false] 23 (0, 0))) := below_box8 XN.out hb3; obtain ⟨q0, q1, q2, q3, q4, q5, q6, q7⟩ := box8_facts XB.out; obtain ⟨r0, r1, r2, r3, r4, r5, r6, r7⟩ := box8_facts X3.out.1; have z0 := box8_frozen X3.out.1 0; have z1 := box8_frozen X3.out.1 1; have z2 := box8_frozen X3.out.1 2; have z3 := box8_frozen X3.out.1 3; have z4 := box8_frozen X3.out.1 4; have z5 := box8_frozen X3.out.1 5; have z6 := box8_frozen X3.out.1 6; have z7 := box8_frozen X3.out.1 7; have y0 := box8_frozen XB.out 0; clear hb3) | (go_at_call 81; (with_reducible refine Calls.mono (HC.out _) ?_); rintro e w9 ⟨rfl, rfl⟩) | (go_at_call 82; (with_reducible refine Calls.mono (HF1.out _ BB.out) ?_); rintro e w9 ⟨rfl, rfl⟩))
          go_roundw
          case rel => exact ⟨2, by omega, by go_num, ⟨(heap_setCell_other _ _ _ _ n1).trans X3.out.1, (heap_setCell_other _ _ _ _ n3).trans X3.out.2.1, X3.out.2.2.setCell (Nat.le_of_lt (by show w.heap.size < wr.heap.size; omega)) _⟩, by rw [← PR2.out, if_neg (by simp)]⟩
          case measure => simp [intOf]
        · have hfb : (fi == 0) = false := by simpa using hfi
          have HFIN : Hid (nameR l = (⟨fi, 0, 0, 0, 0, 0, true, false⟩, true)) := by
            show _ = _
            rw [← PR2.out, if_pos ⟨rfl, hfi⟩]
          clear PR2
          go_wp2_with (first | (go_at_call 27; (with_reducible refine Calls.mono (HMK.out _) ?_); rintro e w3 ⟨rfl, hb3⟩; have X3 : Hid (Own w w3) := X1.out.step hb3; have BB : Hid (Below w.heap.size w w3) := X3.out.2.2; have XB : Hid (w3.heap[wr.heap.size]? = some (.cells #[.int .i64 0, .int .i64 0, .int .i64 0, .int .i64 0, .int .i64 0, .int .i64 0, .bool true, .bool false] 23 (0, 0))) := below_box8 XN.out hb3; obtain ⟨q0, q1, q2, q3, q4, q5, q6, q7⟩ := box8_facts XB.out; obtain ⟨r0, r1, r2, r3, r4, r5, r6, r7⟩ := box8_facts X3.out.1; have z0 := box8_frozen X3.out.1 0; have z1 := box8_frozen X3.out.1 1; have z2 := box8_frozen X3.out.1 2; have z3 := box8_frozen X3.out.1 3; have z4 := box8_frozen X3.out.1 4; have z5 := box8_frozen X3.out.1 5; have z6 := box8_frozen X3.out.1 6; have z7 := box8_frozen X3.out.1 7; have y0 := box8_frozen XB.out 0; clear hb3) | (go_at_call 81; (with_reducible refine Calls.mono (HC.out _) ?_); rintro e w9 ⟨rfl, rfl⟩) | (go_at_call 82; (with_reducible refine Calls.mono (HF1.out _ BB.out) ?_); rintro e w9 ⟨rfl, rfl⟩))
          refine bodyPost_ret (v := .tuple #[.agg #[.int .i64 fi, .int .i64 0, .int .i64 0, .int .i64 0, .int .i64 0, .int .i64 0, .bool true, .bool false], .bool true]) (by simp [results, Tryz.results37, go_sem, q0, q1, q2, q3, q4, q5, q6, q7, r0, r1, r2, r3, r4, r5, r6, r7, n1, n2]) rfl ⟨by rw [HFIN.out]; rfl, ?_⟩
          iterate 8 (refine Below.setCell ?_ (by exact Nat.le_refl _) _)
          exact BB.out.setCell (Nat.le_of_lt (by show w.heap.size < wr.heap.size; omega)) _
    | 2, _ =>
      have PR1 := PR.out
      have HC : Hid (∀ V, Calls Tryz.prog 81 #[.string (mk l), .string (mk (markL false true))] V fun e w' => e = .returned (.tuple #[.string (mk (Lib.trimSuffix l (markL false true))), .bool (Lib.hasSuffix l (markL false true))]) ∧ w' = V) := HCS.out false true
      have HF1 : Hid (∀ V, Below w.heap.size w V → Calls Tryz.prog 82 #[.string (mk (Lib.trimSuffix l (markL false true)))] V fun e w' => e = .returned (.int .i64 (findI (Lib.trimSuffix l (markL false true)))) ∧ w' = V) := HF.out _
      have HMK : Hid (∀ V, Calls Tryz.prog 27 #[.agg #[.int .i64 0, .int .i64 0, .int .i64 0, .int .i64 0, .int .i64 0, .int .i64 0, .bool false, .bool true]] V fun e w' => e = .returned (.string (mk (markL false true))) ∧ Below V.heap.size V w') := fun V => mark_any 0 0 0 0 0 0 false true V
      have X1 : Hid (Own w (wr.alloc (.cells #[.int .i64 0, .int .i64 0, .int .i64 0, .int .i64 0, .int .i64 0, .int .i64 0, .bool false, .bool true] 23))) := X.out.step ((Below.refl _ _).alloc (Nat.le_refl _) _)
      have XN : Hid ((wr.alloc (.cells #[.int .i64 0, .int .i64 0, .int .i64 0, .int .i64 0, .int .i64 0, .int .i64 0, .bool false, .bool true] 23)).heap[wr.heap.size]? = some (.cells #[.int .i64 0, .int .i64 0, .int .i64 0, .int .i64 0, .int .i64 0, .int .i64 0, .bool false, .bool true] 23 (0, 0))) := heap_alloc_new wr _
      have c0 : wr.cell? ⟨w.heap.size + 1, 16, none⟩ = some (.int .i64 0) := by
        have h := X.out.2.1
        simp only [World.cell?, h]
        rfl
      have c1 : wr.cell? ⟨w.heap.size + 1, 17, none⟩ = some (.int .i64 0) := by
        have h := X.out.2.1
        simp only [World.cell?, h]
        rfl
      have c2 : wr.cell? ⟨w.heap.size + 1, 18, none⟩ = some (.int .i64 0) := by
        have h := X.out.2.1
        simp only [World.cell?, h]
        rfl
      have c3 : wr.cell? ⟨w.heap.size + 1, 19, none⟩ = some (.int .i64 0) := by
        have h := X.out.2.1
        simp only [World.cell?, h]
        rfl
      have c4 : wr.cell? ⟨w.heap.size + 1, 20, none⟩ = some (.int .i64 0) := by
        have h := X.out.2.1
        simp only [World.cell?, h]
        rfl
      have c5 : wr.cell? ⟨w.heap.size + 1, 21, none⟩ = some (.int .i64 0) := by
        have h := X.out.2.1
        simp only [World.cell?, h]
        rfl
      have c6 : wr.cell? ⟨w.heap.size + 1, 22, none⟩ = some (.bool false) := by
        have h := X.out.2.1
        simp only [World.cell?, h]
        rfl
      have c7 : wr.cell? ⟨w.heap.size + 1, 23, none⟩ = some (.bool true) := by
        have h := X.out.2.1
        simp only [World.cell?, h]
        rfl
      have PR2 : Hid ((if Lib.hasSuffix l (markL false true) = true ∧ findI (Lib.trimSuffix l (markL false true)) ≠ 0 then (⟨findI (Lib.trimSuffix l (markL false true)), 0, 0, 0, 0, 0, false, true⟩, true) else nameStep l (([(false, false), (true, false), (false, true), (true, true)] : List (Bool × Bool)).drop 3)) = nameR l) := PR1
      clear PR1 PR
      generalize mk (Lib.trimSuffix l (markL false true)) = tx at *
      generalize findI (Lib.trimSuffix l (markL false true)) = fi at *
      generalize hsu : Lib.hasSuffix l (markL false true) = su at *
      generalize mk (markL false true) = mt at *
      cases su
      · go_wp2_with (first | (go_at_call 27; (with_reducible refine Calls.mono (HMK.out _) ?_); rintro e w3 ⟨rfl, hb3⟩; have X3 : Hid (Own w w3) := X1.out.step hb3; have BB : Hid (Below w.heap.size w w3) := X3.out.2.2; have XB : Hid (w3.heap[wr.heap.size]? = some (.cells #[.int .i64 0, .int .i64 0, .int .i64 0, .int .i64 0, .int .i64 0, .int .i64 0, .bool false, .bool true] 23 (0, 0))) := below_box8 XN.out hb3; obtain ⟨q0, q1, q2, q3, q4, q5, q6, q7⟩ := box8_facts XB.out; obtain ⟨r0, r1, r2, r3, r4, r5, r6, r7⟩ := box8_facts X3.out.1; have z0 := box8_frozen X3.out.1 0; have z1 := box8_frozen X3.out.1 1; have z2 := box8_frozen X3.out.1 2; have z3 := box8_frozen X3.out.1 3; have z4 := box8_frozen X3.out.1 4; have z5 := box8_frozen X3.out.1 5; have z6 := box8_frozen X3.out.1 6; have z7 := box8_frozen X3.out.1 7; have y0 := box8_frozen XB.out 0; clear hb3) | (go_at_call 81; (with_reducible refine Calls.mono (HC.out _) ?_); rintro e w9 ⟨rfl, rfl⟩) | (go_at_call 82; (with_reducible refine Calls.mono (HF1.out _ BB.out) ?_); rintro e w9 ⟨rfl, rfl⟩))
        go_roundw
        case rel => exact ⟨3, by omega, by go_num, X3.out, by rw [← PR2.out, if_neg (by simp)]⟩
        case measure => simp [intOf]
      · by_cases hfi : fi = 0
        · subst hfi
          go_wp2_with (first | (go_at_call 27; (with_reducible refine Calls.mono (HMK.out _) ?_); rintro e w3 ⟨rfl, hb3⟩; have X3 : Hid (Own w w3) := X1.out.step hb3; have BB : Hid (Below w.heap.size w w3) := X3.out.2.2; have XB : Hid (w3.heap[wr.heap.size]? = some (.cells #[.int .i64 0, .int .i64 0, .int .i64 0, .int .i64 0, .int .i64 0, .int .i64 0, .bool false, .bool true] 23 (0, 0))) := below_box8 XN.out hb3; obtain ⟨q0, q1, q2, q3, q4, q5, q6, q7⟩ := box8_facts XB.out; obtain ⟨r0, r1, r2, r3, r4, r5, r6, r7⟩ := box8_facts X3.out.1; have z0 := box8_frozen X3.out.1 0; have z1 := box8_frozen X3.out.1 1; have z2 := box8_frozen X3.out.1 2; have z3 := box8_frozen X3.out.1 3; have z4 := box8_frozen X3.out.1 4; have z5 := box8_frozen X3.out.1 5; have z6 := box8_frozen X3.out.1 6; have z7 := box8_frozen X3.out.1 7; have y0 := box8_frozen XB.out 0; clear hb3) | (go_at_call 81; (with_reducible refine Calls.mono (HC.out _) ?_); rintro e w9 ⟨rfl, rfl⟩) | (go_at_call 82; (with_reducible refine Calls.mono (HF1.out _ BB.out) ?_); rintro e w9 ⟨rfl, rfl⟩))
          go_roundw
          case rel => exact ⟨3, by omega, by go_num, ⟨(heap_setCell_other _ _ _ _ n1).trans X3.out.1, (heap_setCell_other _ _ _ _ n3).trans X3.out.2.1, X3.out.2.2.setCell (Nat.le_of_lt (by show w.heap.size < wr.heap.size; omega)) _⟩, by rw [← PR2.out, if_neg (by simp)]⟩
          case measure => simp [intOf]
        · have hfb : (fi == 0) = false := by simpa using hfi
          have HFIN : Hid (nameR l = (⟨fi, 0, 0, 0, 0, 0, false, true⟩, true)) := by
            show _ = _
            rw [← PR2.out, if_pos ⟨rfl, hfi⟩]
          clear PR2
          go_wp2_with (first | (go_at_call 27; (with_reducible refine Calls.mono (HMK.out _) ?_); rintro e w3 ⟨rfl, hb3⟩; have X3 : Hid (Own w w3) := X1.out.step hb3; have BB : Hid (Below w.heap.size w w3) := X3.out.2.2; have XB : Hid (w3.heap[wr.heap.size]? = some (.cells #[.int .i64 0, .int .i64 0, .int .i64 0, .int .i64 0, .int .i64 0, .int .i64 0, .bool false, .bool true] 23 (0, 0))) := below_box8 XN.out hb3; obtain ⟨q0, q1, q2, q3, q4, q5, q6, q7⟩ := box8_facts XB.out; obtain ⟨r0, r1, r2, r3, r4, r5, r6, r7⟩ := box8_facts X3.out.1; have z0 := box8_frozen X3.out.1 0; have z1 := box8_frozen X3.out.1 1; have z2 := box8_frozen X3.out.1 2; have z3 := box8_frozen X3.out.1 3; have z4 := box8_frozen X3.out.1 4; have z5 := box8_frozen X3.out.1 5; have z6 := box8_frozen X3.out.1 6; have z7 := box8_frozen X3.out.1 7; have y0 := box8_frozen XB.out 0; clear hb3) | (go_at_call 81; (with_reducible refine Calls.mono (HC.out _) ?_); rintro e w9 ⟨rfl, rfl⟩) | (go_at_call 82; (with_reducible refine Calls.mono (HF1.out _ BB.out) ?_); rintro e w9 ⟨rfl, rfl⟩))
          refine bodyPost_ret (v := .tuple #[.agg #[.int .i64 fi, .int .i64 0, .int .i64 0, .int .i64 0, .int .i64 0, .int .i64 0, .bool false, .bool true], .bool true]) (by simp [results, Tryz.results37, go_sem, q0, q1, q2, q3, q4, q5, q6, q7, r0, r1, r2, r3, r4, r5, r6, r7, n1, n2]) rfl ⟨by rw [HFIN.out]; rfl, ?_⟩
          iterate 8 (refine Below.setCell ?_ (by exact Nat.le_refl _) _)
          exact BB.out.setCell (Nat.le_of_lt (by show w.heap.size < wr.heap.size; omega)) _
    | 3, _ =>
      have PR1 := PR.out
      have HC : Hid (∀ V, Calls Tryz.prog 81 #[.string (mk l), .string (mk (markL true true))] V fun e w' => e = .returned (.tuple #[.string (mk (Lib.trimSuffix l (markL true true))), .bool (Lib.hasSuffix l (markL true true))]) ∧ w' = V) := HCS.out true true
      have HF1 : Hid (∀ V, Below w.heap.size w V → Calls Tryz.prog 82 #[.string (mk (Lib.trimSuffix l (markL true true)))] V fun e w' => e = .returned (.int .i64 (findI (Lib.trimSuffix l (markL true true)))) ∧ w' = V) := HF.out _
      have HMK : Hid (∀ V, Calls Tryz.prog 27 #[.agg #[.int .i64 0, .int .i64 0, .int .i64 0, .int .i64 0, .int .i64 0, .int .i64 0, .bool true, .bool true]] V fun e w' => e = .returned (.string (mk (markL true true))) ∧ Below V.heap.size V w') := fun V => mark_any 0 0 0 0 0 0 true true V
      have X1 : Hid (Own w (wr.alloc (.cells #[.int .i64 0, .int .i64 0, .int .i64 0, .int .i64 0, .int .i64 0, .int .i64 0, .bool true, .bool true] 23))) := X.out.step ((Below.refl _ _).alloc (Nat.le_refl _) _)
      have XN : Hid ((wr.alloc (.cells #[.int .i64 0, .int .i64 0, .int .i64 0, .int .i64 0, .int .i64 0, .int .i64 0, .bool true, .bool true] 23)).heap[wr.heap.size]? = some (.cells #[.int .i64 0, .int .i64 0, .int .i64 0, .int .i64 0, .int .i64 0, .int .i64 0, .bool true, .bool true] 23 (0, 0))) := heap_alloc_new wr _
      have c0 : wr.cell? ⟨w.heap.size + 1, 24, none⟩ = some (.int .i64 0) := by
        have h := X.out.2.1
        simp only [World.cell?, h]
        rfl
      have c1 : wr.cell? ⟨w.heap.size + 1, 25, none⟩ = some (.int .i64 0) := by
        have h := X.out.2.1
        simp only [World.cell?, h]
        rfl
      have c2 : wr.cell? ⟨w.heap.size + 1, 26, none⟩ = some (.int .i64 0) := by
        have h := X.out.2.1
        simp only [World.cell?, h]
        rfl
      have c3 : wr.cell? ⟨w.heap.size + 1, 27, none⟩ = some (.int .i64 0) := by
        have h := X.out.2.1
        simp only [World.cell?, h]
        rfl
      have c4 : wr.cell? ⟨w.heap.size + 1, 28, none⟩ = some (.int .i64 0) := by
        have h := X.out.2.1
        simp only [World.cell?, h]
        rfl
      have c5 : wr.cell? ⟨w.heap.size + 1, 29, none⟩ = some (.int .i64 0) := by
        have h := X.out.2.1
        simp only [World.cell?, h]
        rfl
      have c6 : wr.cell? ⟨w.heap.size + 1, 30, none⟩ = some (.bool true) := by
        have h := X.out.2.1
        simp only [World.cell?, h]
        rfl
      have c7 : wr.cell? ⟨w.heap.size + 1, 31, none⟩ = some (.bool true) := by
        have h := X.out.2.1
        simp only [World.cell?, h]
        rfl
      have PR2 : Hid ((if Lib.hasSuffix l (markL true true) = true ∧ findI (Lib.trimSuffix l (markL true true)) ≠ 0 then (⟨findI (Lib.trimSuffix l (markL true true)), 0, 0, 0, 0, 0, true, true⟩, true) else nameStep l (([(false, false), (true, false), (false, true), (true, true)] : List (Bool × Bool)).drop 4)) = nameR l) := PR1
      clear PR1 PR
      generalize mk (Lib.trimSuffix l (markL true true)) = tx at *
      generalize findI (Lib.trimSuffix l (markL true true)) = fi at *
      generalize hsu : Lib.hasSuffix l (markL true true) = su at *
      generalize mk (markL true true) = mt at *
      cases su
      · go_wp2_with (first | (go_at_call 27; (with_reducible refine Calls.mono (HMK.out _) ?_); rintro e w3 ⟨rfl, hb3⟩; have X3 : Hid (Own w w3) := X1.out.step hb3; have BB : Hid (Below w.heap.size w w3) := X3.out.2.2; have XB : Hid (w3.heap[wr.heap.size]? = some (.cells #[.int .i64 0, .int .i64 0, .int .i64 0, .int .i64 0, .int .i64 0, .int .i64 0, .bool true, .bool true] 23 (0, 0))) := below_box8 XN.out hb3; obtain ⟨q0, q1, q2, q3, q4, q5, q6, q7⟩ := box8_facts XB.out; obtain ⟨r0, r1, r2, r3, r4, r5, r6, r7⟩ := box8_facts X3.out.1; have z0 := box8_frozen X3.out.1 0; have z1 := box8_frozen X3.out.1 1; have z2 := box8_frozen X3.out.1 2; have z3 := box8_frozen X3.out.1 3; have z4 := box8_frozen X3.out.1 4; have z5 := box8_frozen X3.out.1 5; have z6 := box8_frozen X3.out.1 6; have z7 := box8_frozen X3.out.1 7; have y0 := box8_frozen XB.out 0; clear hb3) | (go_at_call 81; (with_reducible refine Calls.mono (HC.out _) ?_); rintro e w9 ⟨rfl, rfl⟩) | (go_at_call 82; (with_reducible refine Calls.mono (HF1.out _ BB.out) ?_); rintro e w9 ⟨rfl, rfl⟩))
        go_roundw
        case rel => exact ⟨4, by omega, by go_num, X3.out, by rw [← PR2.out, if_neg (by simp)]⟩
        case measure => simp [intOf]
      · by_cases hfi : fi = 0
        · subst hfi
          go_wp2_with (first | (go_at_call 27; (with_reducible refine Calls.mono (HMK.out _) ?_); rintro e w3 ⟨rfl, hb3⟩; have X3 : Hid (Own w w3) := X1.out.step hb3; have BB : Hid (Below w.heap.size w w3) := X3.out.2.2; have XB : Hid (w3.heap[wr.heap.size]? = some (.cells #[.int .i64 0, .int .i64 0, .int .i64 0, .int .i64 0, .int .i64 0, .int .i64 0, .bool true, .bool true] 23 (0, 0))) := below_box8 XN.out hb3; obtain ⟨q0, q1, q2, q3, q4, q5, q6, q7⟩ := box8_facts XB.out; obtain ⟨r0, r1, r2, r3, r4, r5, r6, r7⟩ := box8_facts X3.out.1; have z0 := box8_frozen X3.out.1 0; have z1 := box8_frozen X3.out.1 1; have z2 := box8_frozen X3.out.1 2; have z3 := box8_frozen X3.out.1 3; have z4 := box8_frozen X3.out.1 4; have z5 := box8_frozen X3.out.1 5; have z6 := box8_frozen X3.out.1 6; have z7 := box8_frozen X3.out.1 7; have y0 := box8_frozen XB.out 0; clear hb3) | (go_at_call 81; (with_reducible refine Calls.mono (HC.out _) ?_); rintro e w9 ⟨rfl, rfl⟩) | (go_at_call 82; (with_reducible refine Calls.mono (HF1.out _ BB.out) ?_); rintro e w9 ⟨rfl, rfl⟩))
          go_roundw
          case rel => exact ⟨4, by omega, by go_num, ⟨(heap_setCell_other _ _ _ _ n1).trans X3.out.1, (heap_setCell_other _ _ _ _ n3).trans X3.out.2.1, X3.out.2.2.setCell (Nat.le_of_lt (by show w.heap.size < wr.heap.size; omega)) _⟩, by rw [← PR2.out, if_neg (by simp)]⟩
          case measure => simp [intOf]
        · have hfb : (fi == 0) = false := by simpa using hfi
          have HFIN : Hid (nameR l = (⟨fi, 0, 0, 0, 0, 0, true, true⟩, true)) := by
            show _ = _
            rw [← PR2.out, if_pos ⟨rfl, hfi⟩]
          clear PR2
          go_wp2_with (first | (go_at_call 27; (with_reducible refine Calls.mono (HMK.out _) ?_); rintro e w3 ⟨rfl, hb3⟩; have X3 : Hid (Own w w3) := X1.out.step hb3; have BB : Hid (Below w.heap.size w w3) := X3.out.2.2; have XB : Hid (w3.heap[wr.heap.size]? = some (.cells #[.int .i64 0, .int .i64 0, .int .i64 0, .int .i64 0, .int .i64 0, .int .i64 0, .bool true, .bool true] 23 (0, 0))) := below_box8 XN.out hb3; obtain ⟨q0, q1, q2, q3, q4, q5, q6, q7⟩ := box8_facts XB.out; obtain ⟨r0, r1, r2, r3, r4, r5, r6, r7⟩ := box8_facts X3.out.1; have z0 := box8_frozen X3.out.1 0; have z1 := box8_frozen X3.out.1 1; have z2 := box8_frozen X3.out.1 2; have z3 := box8_frozen X3.out.1 3; have z4 := box8_frozen X3.out.1 4; have z5 := box8_frozen X3.out.1 5; have z6 := box8_frozen X3.out.1 6; have z7 := box8_frozen X3.out.1 7; have y0 := box8_frozen XB.out 0; clear hb3) | (go_at_call 81; (with_reducible refine Calls.mono (HC.out _) ?_); rintro e w9 ⟨rfl, rfl⟩) | (go_at_call 82; (with_reducible refine Calls.mono (HF1.out _ BB.out) ?_); rintro e w9 ⟨rfl, rfl⟩))
          refine bodyPost_ret (v := .tuple #[.agg #[.int .i64 fi, .int .i64 0, .int .i64 0, .int .i64 0, .int .i64 0, .int .i64 0, .bool true, .bool true], .bool true]) (by simp [results, Tryz.results37, go_sem, q0, q1, q2, q3, q4, q5, q6, q7, r0, r1, r2, r3, r4, r5, r6, r7, n1, n2]) rfl ⟨by rw [HFIN.out]; rfl, ?_⟩
          iterate 8 (refine Below.setCell ?_ (by exact Nat.le_refl _) _)
          exact BB.out.setCell (Nat.le_of_lt (by show w.heap.size < wr.heap.size; omega)) _
    | 4, _ =>
      have HFIN : Hid (nameR l = (Ins.zero, false)) := PR.out.symm
      have BB : Hid (Below w.heap.size w wr) := X.out.2.2
      obtain ⟨r0, r1, r2, r3, r4, r5, r6, r7⟩ := box8_facts X.out.1
      have z0 := box8_frozen X.out.1 0; have z1 := box8_frozen X.out.1 1; have z2 := box8_frozen X.out.1 2; have z3 := box8_frozen X.out.1 3; have z4 := box8_frozen X.out.1 4; have z5 := box8_frozen X.out.1 5; have z6 := box8_frozen X.out.1 6; have z7 := box8_frozen X.out.1 7
      go_wp2_with fail
      refine bodyPost_ret (v := .tuple #[.agg #[.int .i64 0, .int .i64 0, .int .i64 0, .int .i64 0, .int .i64 0, .int .i64 0, .bool false, .bool false], .bool false]) (by simp [results, Tryz.results37, go_sem, r0, r1, r2, r3, r4, r5, r6, r7]) rfl ⟨by rw [HFIN.out]; rfl, ?_⟩
      iterate 8 (refine Below.setCell ?_ (by exact Nat.le_refl _) _)
      exact BB.out
end Go.Proofs.YtooaafbdjnlmfaaGreatDoor
