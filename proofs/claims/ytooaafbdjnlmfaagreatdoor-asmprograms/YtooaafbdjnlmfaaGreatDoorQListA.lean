/- The calls wordText and List of layer 4. -/
import Derived.Test.YtooaafbdjnlmfaaGreatDoorQTopA
import Derived.Deep.DeepCutAuto
import Derived.Deep.CutBlock
namespace Go.Proofs.YtooaafbdjnlmfaaGreatDoor
open Go.RowKit
set_option linter.unusedVariables false
set_option linter.unusedSimpArgs false
/-- a word's line -/
def lineL (x : Nat) (y : Ins) (e : Int) : List UInt8 := if e = 0 then printL y.op y.rd y.rs1 y.rs2 y.imm y.csr y.aq y.rl else hexL x
set_option maxRecDepth 100000 in
set_option maxHeartbeats 1000000 in
theorem wtext_any (x : Nat) (hx : x < 4294967296) (y : Ins) (ee : Int) (hd : Dec x y ee) (w : World) (hcall : Calls Tryz.prog 23 #[.int .u32 (x : Nat)] w fun r w' => r = .returned (.tuple #[.agg #[.int .i64 y.op, .int .i64 y.rd, .int .i64 y.rs1, .int .i64 y.rs2, .int .i64 y.imm, .int .i64 y.csr, .bool y.aq, .bool y.rl], .int .i64 ee]) ∧ Below w.heap.size w w') (hL : Laid w) : Calls Tryz.prog 50 #[.int .u32 (x : Nat)] w fun r w' => r = .returned (.string (mk (lineL x y ee))) ∧ Below w.heap.size w w' := by
  have HL : Hid (∀ V, Below w.heap.size w V → Laid V) := fun V hV => hL.below hV
  have HC : Hid _ := hcall
  clear hcall hL
  go_enter Tryz.func50, Tryz.ntmps50
  go_wp2_with fail
  refine Calls.mono HC.out ?_
  rintro e w1 ⟨rfl, hb1⟩
  have B1 : Hid (Below w.heap.size w w1) := hb1
  clear hb1 HC
  go_upto_region 2 with fail
  have B2 : Hid (Below w.heap.size w (w1.alloc (.cells #[.int .i64 y.op, .int .i64 y.rd, .int .i64 y.rs1, .int .i64 y.rs2, .int .i64 y.imm, .int .i64 y.csr, .bool y.aq, .bool y.rl] 23))) := B1.out.alloc B1.out.size _
  have X2 : Hid ((w1.alloc (.cells #[.int .i64 y.op, .int .i64 y.rd, .int .i64 y.rs1, .int .i64 y.rs2, .int .i64 y.imm, .int .i64 y.csr, .bool y.aq, .bool y.rl] 23)).heap[w1.heap.size]? = some (.cells #[.int .i64 y.op, .int .i64 y.rd, .int .i64 y.rs1, .int .i64 y.rs2, .int .i64 y.imm, .int .i64 y.csr, .bool y.aq, .bool y.rl] 23 (0, 0))) := heap_alloc_new w1 _
  generalize w1.alloc (.cells #[.int .i64 y.op, .int .i64 y.rd, .int .i64 y.rs1, .int .i64 y.rs2, .int .i64 y.imm, .int .i64 y.csr, .bool y.aq, .bool y.rl] 23) = V2 at *
  generalize w1.heap.size = g1 at *
  clear B1
  obtain ⟨q0, q1, q2, q3, q4, q5, q6, q7⟩ := box8_facts X2.out
  cases hd with
  | no =>
    have HX : Hid (∀ V, Below w.heap.size w V → Calls Tryz.prog 89 #[.int .u64 (x : Int)] V fun e w' => e = .returned (.string (mk (hexL x))) ∧ Below V.heap.size V w') := fun V hV => by rw [← hexS_mk]; exact hex_any x (by omega) V (HL.out V hV).lie.low
    have HV : Hid (lineL x Ins.zero 31 = hexL x) := (rfl : lineL x Ins.zero 31 = hexL x)
    go_wp2_with fail
    refine (HX.out _ B2.out).mono ?_
    rintro e w3 ⟨rfl, hb3⟩
    have B3 : Hid (Below w.heap.size w w3) := below_call B2.out hb3
    clear hb3
    go_wp2_with fail
    go_ret
    exact ⟨by rw [HV.out]; rfl, B3.out⟩
  | yes _ hr hb he =>
    have HP : Hid (∀ V, Below w.heap.size w V → Calls Tryz.prog 9 #[.agg #[.int .i64 y.op, .int .i64 y.rd, .int .i64 y.rs1, .int .i64 y.rs2, .int .i64 y.imm, .int .i64 y.csr, .bool y.aq, .bool y.rl]] V fun r w' => r = .returned (.string (mk (printL y.op y.rd y.rs1 y.rs2 y.imm y.csr y.aq y.rl))) ∧ Below V.heap.size V w') := fun V hV => print_row y hr V (HL.out V hV)
    have HV : Hid (lineL x y 0 = printL y.op y.rd y.rs1 y.rs2 y.imm y.csr y.aq y.rl) := (rfl : lineL x y 0 = _)
    go_wp2_with fail
    refine (HP.out _ B2.out).mono ?_
    rintro e w3 ⟨rfl, hb3⟩
    have B3 : Hid (Below w.heap.size w w3) := below_call B2.out hb3
    clear hb3
    go_wp2_with fail
    go_ret
    exact ⟨by rw [HV.out]; rfl, B3.out⟩
/-- the first k strings of a function, as cells -/
def strRow (t : Nat → ByteArray) (k : Nat) : List Value := (List.range k).map fun i => Value.string (t i)
theorem strRow_succ (t : Nat → ByteArray) (k : Nat) : strRow t (k + 1) = strRow t k ++ [Value.string (t k)] := by simp [strRow, List.range_succ]
theorem strRow_get (t : Nat → ByteArray) (k i : Nat) (h : i < k) : (strRow t k)[i]? = some (Value.string (t i)) := by simp [strRow, h]
set_option maxRecDepth 100000 in
theorem Tryz.info9 : (Tryz.prog.info? 9).map (fun i => (i.zero, i.size, i.bytes)) = some (some (.string ⟨#[]⟩), 1, 16) := by kernel_rfl
set_option maxRecDepth 100000 in
set_option maxHeartbeats 1000000 in
theorem list_any (W : World) (a : Option Addr) (len cap : Nat) (hlen : len ≤ 30) (f : Nat → Nat) (tx : Nat → ByteArray) (hrow : len = 0 ∨ ∃ b off, a = some ⟨b, off, none⟩ ∧ ∀ i, i < len → W.cell? ⟨b, off + i, none⟩ = some (.int .u32 (f i : Nat)))
    (hwt : ∀ i, i < len → ∀ V, Below W.heap.size W V → Calls Tryz.prog 50 #[.int .u32 (f i : Nat)] V fun r w' => r = .returned (.string (tx i)) ∧ Below V.heap.size V w') (w : World) (hw : Below W.heap.size W w) :
    Calls Tryz.prog 20 #[.slice a len cap] w fun e w' => ∃ v, e = .returned v ∧ w'.ownsRow w.heap.size 9 1 v len (strRow tx len) ∧ Below w.heap.size w w' := by
  obtain ⟨i0, hi, hz0, hz1, hz2⟩ := info_parts Tryz.info9
  have HWT : Hid _ := hwt
  have HR : Hid _ := hrow
  have HW : Hid _ := hw
  clear hwt hrow hw
  go_enter Tryz.func20, Tryz.ntmps20
  go_wp2_with (first | (at_make; refine wpList_make_own _ rfl _ _ 34 rfl w.heap.size 9 i0 (.string ⟨#[]⟩) 1 Tryz.underlying34 hi hz0 hz1 _ _ _ len rfl rfl ?m1 ?m2 ?m3 ?m4 ?_))
  case m1 => rfl
  case m2 => rw [hz2]; omega
  case m3 => unfold maxLen; omega
  case m4 => exact Nat.le_refl _
  intro w1 hown hgrow
  have hb1 : Below w.heap.size w w1 := Below.grown (Below.refl _ _) hgrow (Nat.le_refl _) (fun _ h => by simp at h)
  clear hgrow
  go_wp2_with fail
  go_loopw [3, 5, 11] (fun v s5 i wr => ∃ k : Nat, k ≤ len ∧ i = .int .i64 k ∧ wr.ownsRow w.heap.size 9 1 v k (strRow tx k) ∧ Below w.heap.size w wr) (fun _ _ i _ => len - (intOf i).toNat)
  case atStart => exact ⟨0, by omega, rfl, hown, hb1⟩
  case round =>
    obtain ⟨k, hk, rfl, hownk, hb⟩ := hrel
    clear hb1 hown
    by_cases hlt : k < len
    · have hlt1 : (k : Int) < len := by omega
      obtain ⟨b, off, rfl, hcell⟩ : ∃ b off, a = some ⟨b, off, none⟩ ∧ ∀ i, i < len → W.cell? ⟨b, off + i, none⟩ = some (.int .u32 (f i : Nat)) := by
        rcases HR.out with h | h
        · omega
        · exact h
      have BWR : Hid (Below W.heap.size W wr) := below_call HW.out hb
      have hc : wr.cell? ⟨b, off + k, none⟩ = some (.int .u32 (f k : Nat)) := by
        rw [BWR.out.cell (p := ⟨b, off + k, none⟩) (block_lt_of_cell (hcell k hlt))]; exact hcell k hlt
      have HT : Hid _ := HWT.out k hlt wr BWR.out
      have HRS : Hid (strRow tx (k + 1) = strRow tx k ++ [Value.string (tx k)]) := strRow_succ tx k
      have HO : Hid (_ ∧ _) := ⟨hownk, hb⟩
      clear hcell hownk hb
      generalize hX : tx k = tk at *
      go_wp2_with fail
      refine Calls.mono HT.out ?_
      rintro e w3 ⟨rfl, hb3⟩
      have hown3 := HO.out.1.kept (below_grownBy hb3 none) (Classical.em _)
      have hb4 : Below w.heap.size w w3 := below_call HO.out.2 hb3
      clear hb3 hc HT
      go_wp2_with (first | (at_builtin; refine wpList_append_own _ rfl _ _ 34 rfl w.heap.size 9 i0 (.string ⟨#[]⟩) 1 16 Tryz.underlying34 hi hz0 hz1 hz2 rfl (by decide) _ _ _ rfl (hown3.alloc _) ⟨w3.heap.size, 0, none⟩ 1 1 _ rfl rfl (cell_one_new _ _ _) ?c2 ?c3 ?c4 ?c5 ?_))
      case c2 => intro u hu; simp at hu; subst hu; rfl
      case c3 => unfold maxLen; omega
      case c4 => omega
      case c5 => have := hb4.size; simp; omega
      · intro v' w5 hown' hgrow _
        have hb5 := grow_step hb4 hb4.size hown3 hgrow
        have hown5 : w5.ownsRow w.heap.size 9 1 v' (k + 1) (strRow tx (k + 1)) := by rw [HRS.out]; exact hown'
        clear hown' hgrow hown3 hb4
        go_wp2_with fail
        go_roundw
        case rel => exact ⟨k + 1, by omega, by go_num, hown5, hb5⟩
        case measure => simp [intOf]; omega
    · obtain rfl : k = len := by omega
      go_wp2_with fail
      go_ret
      exact ⟨_, rfl, hownk, hb⟩
end Go.Proofs.YtooaafbdjnlmfaaGreatDoor

namespace Go.Proofs.YtooaafbdjnlmfaaGreatDoor
open Go.RowKit
set_option linter.unusedVariables false
set_option linter.unusedSimpArgs false
/-- the first k words of a function, as cells -/
def wordRow (f : Nat → Nat) (k : Nat) : List Value := (List.range k).map fun i => Value.int .u32 ((f i : Nat) : Int)
theorem wordRow_succ (f : Nat → Nat) (k : Nat) : wordRow f (k + 1) = wordRow f k ++ [Value.int .u32 ((f k : Nat) : Int)] := by simp [wordRow, List.range_succ]
theorem wordRow_get (f : Nat → Nat) (k i : Nat) (h : i < k) : (wordRow f k)[i]? = some (Value.int .u32 ((f i : Nat) : Int)) := by simp [wordRow, h]
set_option maxRecDepth 100000 in
theorem Tryz.info37 : (Tryz.prog.info? 37).map (fun i => (i.zero, i.size, i.bytes)) = some (some (.int .u32 0), 1, 4) := by kernel_rfl
set_option maxRecDepth 100000 in
set_option maxHeartbeats 2000000 in
theorem program_any (W : World) (a : Option Addr) (n cap : Nat) (hn : n ≤ 30) (f : Nat → Nat) (tx tr : Nat → ByteArray) (Y : Nat → Ins) (E : Nat → Int)
    (hrow : n = 0 ∨ ∃ g, a = some ⟨g, 0, none⟩ ∧ ∀ i, i < n → W.cell? ⟨g, i, none⟩ = some (.string (tx i)))
    (htr : ∀ i, i < n → (∀ V, Calls Tryz.prog 36 #[.string (tx i), .string ⟨#[32, 9]⟩] V fun e w' => e = .returned (.string (tr i)) ∧ Below V.heap.size V w') ∧ (tr i).toList.isEmpty = false)
    (hpa : ∀ i, i < n → ∀ V, Below W.heap.size W V → Calls Tryz.prog 13 #[.string (tx i)] V fun e w' => e = .returned (.tuple #[.agg #[.int .i64 (Y i).op, .int .i64 (Y i).rd, .int .i64 (Y i).rs1, .int .i64 (Y i).rs2, .int .i64 (Y i).imm, .int .i64 (Y i).csr, .bool (Y i).aq, .bool (Y i).rl], .int .i64 (E i)]) ∧ Below V.heap.size V w')
    (hen : ∀ i, i < n → E i = 0 → ∀ V, Below W.heap.size W V → Calls Tryz.prog 25 #[.agg #[.int .i64 (Y i).op, .int .i64 (Y i).rd, .int .i64 (Y i).rs1, .int .i64 (Y i).rs2, .int .i64 (Y i).imm, .int .i64 (Y i).csr, .bool (Y i).aq, .bool (Y i).rl]] V fun e w' => e = .returned (.tuple #[.int .u32 (f i : Nat), .int .i64 0]) ∧ Below V.heap.size V w')
    (w : World) (hw : Below W.heap.size W w) :
    Calls Tryz.prog 17 #[.slice a n cap] w fun e w' => (((∀ i, i < n → E i = 0) ∧ ∃ v, e = .returned (.tuple #[v, .int .i64 0, .int .i64 0]) ∧ w'.ownsRow w.heap.size 37 1 v n (wordRow f n)) ∨ ∃ j : Nat, j < n ∧ ¬ E j = 0 ∧ e = .returned (.tuple #[.slice none 0 0, .int .i64 40, .int .i64 j])) ∧ Below w.heap.size w w' := by
  obtain ⟨i0, hi, hz0, hz1, hz2⟩ := info_parts Tryz.info37
  have HR : Hid _ := hrow
  have HT : Hid _ := htr
  have HP : Hid _ := hpa
  have HN : Hid _ := hen
  have HW : Hid _ := hw
  clear hrow htr hpa hen hw
  go_enter Tryz.func17, Tryz.ntmps17
  go_wp2_with fail
  go_loopw [5, 6, 7, 8, 9, 10, 11, 14] (fun v s6 s7 s8 s9 s10 s11 i wr => ∃ k : Nat, k ≤ n ∧ i = .int .i64 k ∧ (∀ i, i < k → E i = 0) ∧ wr.ownsRow w.heap.size 37 1 v k (wordRow f k) ∧ Below w.heap.size w wr) (fun _ _ _ _ _ _ _ i _ => n - (intOf i).toNat)
  case atStart => exact ⟨0, by omega, rfl, fun i h => by omega, World.ownsRow_nil _ _ _ _, Below.refl _ _⟩
  case round =>
    obtain ⟨k, hk, rfl, hall, hownk, hb⟩ := hrel
    by_cases hlt : k < n
    · have hlt1 : (k : Int) < n := by omega
      obtain ⟨g, rfl, hcell⟩ : ∃ g, a = some ⟨g, 0, none⟩ ∧ ∀ i, i < n → W.cell? ⟨g, i, none⟩ = some (.string (tx i)) := by
        rcases HR.out with h | h
        · omega
        · exact h
      have BWR : Hid (Below W.heap.size W wr) := below_call HW.out hb
      have hc : wr.cell? ⟨g, k, none⟩ = some (.string (tx k)) := by
        rw [BWR.out.cell (p := ⟨g, k, none⟩) (block_lt_of_cell (hcell k hlt))]; exact hcell k hlt
      have T1 : Hid _ := (HT.out k hlt).1
      have hne := (HT.out k hlt).2
      have P1 : Hid _ := HP.out k hlt
      have N1 : Hid _ := HN.out k hlt
      have HRS : Hid (wordRow f (k + 1) = wordRow f k ++ [Value.int .u32 ((f k : Nat) : Int)]) := wordRow_succ f k
      have HAL : Hid (∀ i, i < k → E i = 0) := hall
      have HO : Hid (_ ∧ _) := ⟨hownk, hb⟩
      clear hcell hownk hb hall
      generalize hEk : E k = ek at *
      have HEK : Hid (E k = ek) := hEk
      clear hEk
      generalize f k = xk at *
      generalize Y k = y at *
      generalize tr k = tk at *
      generalize tx k = lk at *
      go_wp2_with fail
      refine (T1.out _).mono ?_
      rintro e w3 ⟨rfl, hb3⟩
      have C3 : Hid (Below wr.heap.size wr w3) := hb3
      have B3 : Hid (Below W.heap.size W w3) := below_call BWR.out hb3
      clear hb3 hc
      go_wp2_with fail
      refine (P1.out _ B3.out).mono ?_
      rintro e w4 ⟨rfl, hb4⟩
      have C4 : Hid (Below wr.heap.size wr w4) := below_call C3.out hb4
      have B4 : Hid (Below W.heap.size W w4) := below_call B3.out hb4
      clear hb4
      go_upto_region 7 with fail
      have C5 : Hid (Below wr.heap.size wr (w4.alloc (.cells #[.int .i64 y.op, .int .i64 y.rd, .int .i64 y.rs1, .int .i64 y.rs2, .int .i64 y.imm, .int .i64 y.csr, .bool y.aq, .bool y.rl] 23))) := C4.out.alloc C4.out.size _
      have B5 : Hid (Below W.heap.size W (w4.alloc (.cells #[.int .i64 y.op, .int .i64 y.rd, .int .i64 y.rs1, .int .i64 y.rs2, .int .i64 y.imm, .int .i64 y.csr, .bool y.aq, .bool y.rl] 23))) := B4.out.alloc B4.out.size _
      have X5 : Hid ((w4.alloc (.cells #[.int .i64 y.op, .int .i64 y.rd, .int .i64 y.rs1, .int .i64 y.rs2, .int .i64 y.imm, .int .i64 y.csr, .bool y.aq, .bool y.rl] 23)).heap[w4.heap.size]? = some (.cells #[.int .i64 y.op, .int .i64 y.rd, .int .i64 y.rs1, .int .i64 y.rs2, .int .i64 y.imm, .int .i64 y.csr, .bool y.aq, .bool y.rl] 23 (0, 0))) := heap_alloc_new w4 _
      generalize w4.alloc (.cells #[.int .i64 y.op, .int .i64 y.rd, .int .i64 y.rs1, .int .i64 y.rs2, .int .i64 y.imm, .int .i64 y.csr, .bool y.aq, .bool y.rl] 23) = V5 at *
      generalize w4.heap.size = g4 at *
      clear C4 B4 C3 B3
      by_cases he : ek = 0
      · subst he
        obtain ⟨q0, q1, q2, q3, q4, q5, q6, q7⟩ := box8_facts X5.out
        go_wp2_with fail
        refine (N1.out (by first | rfl | trivial) _ B5.out).mono ?_
        rintro e w6 ⟨rfl, hb6⟩
        have hown6 := HO.out.1.kept (below_grownBy (below_call C5.out hb6) none) (Classical.em _)
        have hb7 : Below w.heap.size w w6 := below_call HO.out.2 (below_call C5.out hb6)
        clear hb6 q0 q1 q2 q3 q4 q5 q6 q7
        go_wp2_with (first | (at_builtin; refine wpList_append_own _ rfl _ _ 35 rfl w.heap.size 37 i0 (.int .u32 0) 1 4 Tryz.underlying35 hi hz0 hz1 hz2 rfl (by decide) _ _ _ rfl (hown6.alloc _) ⟨w6.heap.size, 0, none⟩ 1 1 _ rfl rfl (cell_one_new _ _ _) ?c2 ?c3 ?c4 ?c5 ?_))
        case c2 => intro u hu; simp at hu; subst hu; rfl
        case c3 => unfold maxLen; omega
        case c4 => omega
        case c5 => have := hb7.size; simp; omega
        · intro v' w8 hown' hgrow _
          have hb8 := grow_step hb7 hb7.size hown6 hgrow
          have hown8 : w8.ownsRow w.heap.size 37 1 v' (k + 1) (wordRow f (k + 1)) := by rw [HRS.out]; exact hown'
          clear hown' hgrow hown6 hb7
          go_wp2_with fail
          go_roundw
          case rel => exact ⟨k + 1, by omega, by go_num, fun i h => by
            by_cases e : i = k
            · rw [e]; exact HEK.out
            · exact HAL.out i (by omega), hown8, hb8⟩
          case measure => simp [intOf]; omega
      · have he1 : (ek != 0) = true := by simp [he]
        have B9 : Hid (Below w.heap.size w V5) := below_call HO.out.2 C5.out
        go_wp2_with fail
        go_ret3
        exact ⟨.inr ⟨k, hlt, fun h => he (HEK.out.symm.trans h), rfl⟩, B9.out⟩
    · obtain rfl : k = n := by omega
      go_wp2_with fail
      go_ret3
      exact ⟨.inl ⟨hall, _, rfl, hownk⟩, hb⟩
end Go.Proofs.YtooaafbdjnlmfaaGreatDoor
