/- The call Program of layer 4, on lines of which some are blank. -/
import Derived.Test.YtooaafbdjnlmfaaGreatDoorQListA
import Derived.WalkKit
import Derived.WalkSpells
import Derived.WalkLawsBesides
import Derived.OpenShut
import Derived.Deep.QuietTactic
import Derived.BigQuiet
import Derived.Outline
import Derived.Laws.Shifts
import Derived.Laws.BitsAllLaws
import Derived.Laws.Bits64b
import Derived.OwnWalk
namespace Go.Proofs.YtooaafbdjnlmfaaGreatDoor
open Go.RowKit
set_option linter.unusedVariables false
set_option linter.unusedSimpArgs false
/-- the words of the lines that are not blank -/
def wordsTo (f : Nat → Nat) (bl : Nat → Bool) (k : Nat) : List Nat := ((List.range k).filter fun i => !bl i).map f
theorem wordsTo_succ (f : Nat → Nat) (bl : Nat → Bool) (k : Nat) : wordsTo f bl (k + 1) = wordsTo f bl k ++ (if bl k then [] else [f k]) := by
  unfold wordsTo
  rw [List.range_succ, List.filter_append, List.map_append]
  cases h : bl k <;> simp [h]
theorem wordsTo_len (f : Nat → Nat) (bl : Nat → Bool) (k : Nat) : (wordsTo f bl k).length ≤ k := by
  unfold wordsTo
  rw [List.length_map]
  have := List.length_filter_le (fun i => !bl i) (List.range k)
  simpa using this
def u32Row (L : List Nat) : List Value := L.map fun (n : Nat) => Value.int .u32 ((n : Nat) : Int)
theorem u32Row_app (A B : List Nat) : u32Row (A ++ B) = u32Row A ++ u32Row B := by simp [u32Row]
set_option maxRecDepth 100000 in
set_option maxHeartbeats 2000000 in
theorem program_all (W : World) (a : Option Addr) (n b cap : Nat) (hn : n ≤ 30) (hbn : b ≤ n) (f : Nat → Nat) (bl : Nat → Bool) (tx tr : Nat → ByteArray) (Y : Nat → Ins) (E : Nat → Int)
    (hrow : n = 0 ∨ ∃ g off, a = some ⟨g, off, none⟩ ∧ ∀ i, i < b → W.cell? ⟨g, off + i, none⟩ = some (.string (tx i)))
    (htr : ∀ i, i < b → (∀ V, Calls Tryz.prog 36 #[.string (tx i), .string ⟨#[32, 9]⟩] V fun e w' => e = .returned (.string (tr i)) ∧ Below V.heap.size V w') ∧ (tr i).toList.isEmpty = bl i)
    (hpa : ∀ i, i < b → bl i = false → ∀ V, Below W.heap.size W V → Calls Tryz.prog 13 #[.string (tx i)] V fun e w' => e = .returned (.tuple #[.agg #[.int .i64 (Y i).op, .int .i64 (Y i).rd, .int .i64 (Y i).rs1, .int .i64 (Y i).rs2, .int .i64 (Y i).imm, .int .i64 (Y i).csr, .bool (Y i).aq, .bool (Y i).rl], .int .i64 (E i)]) ∧ Below V.heap.size V w')
    (hen : ∀ i, i < b → bl i = false → E i = 0 → ∀ V, Below W.heap.size W V → Calls Tryz.prog 25 #[.agg #[.int .i64 (Y i).op, .int .i64 (Y i).rd, .int .i64 (Y i).rs1, .int .i64 (Y i).rs2, .int .i64 (Y i).imm, .int .i64 (Y i).csr, .bool (Y i).aq, .bool (Y i).rl]] V fun e w' => e = .returned (.tuple #[.int .u32 (f i : Nat), .int .i64 0]) ∧ Below V.heap.size V w')
    (hstop : b < n → ∃ j, j < b ∧ bl j = false ∧ ¬ E j = 0)
    (w : World) (hw : Below W.heap.size W w) :
    Calls Tryz.prog 17 #[.slice a n cap] w fun e w' => (((∀ i, i < n → bl i = false → E i = 0) ∧ ∃ v, e = .returned (.tuple #[v, .int .i64 0, .int .i64 0]) ∧ w'.ownsRow w.heap.size 37 1 v (wordsTo f bl n).length (u32Row (wordsTo f bl n))) ∨ ∃ j : Nat, j < b ∧ bl j = false ∧ ¬ E j = 0 ∧ (∀ i, i < j → bl i = false → E i = 0) ∧ e = .returned (.tuple #[.slice none 0 0, .int .i64 40, .int .i64 j])) ∧ Below w.heap.size w w' := by
  obtain ⟨i0, hi, hz0, hz1, hz2⟩ := info_parts Tryz.info37
  have HR : Hid _ := hrow
  have HT : Hid _ := htr
  have HP : Hid _ := hpa
  have HN : Hid _ := hen
  have HW : Hid _ := hw
  have HS : Hid _ := hstop
  clear hrow htr hpa hen hw hstop
  go_enter Tryz.func17, Tryz.ntmps17
  go_wp2_with fail
  go_loopw [5, 6, 7, 8, 9, 10, 11, 14] (fun v s6 s7 s8 s9 s10 s11 i wr => ∃ k : Nat, k ≤ b ∧ i = .int .i64 k ∧ (∀ i, i < k → bl i = false → E i = 0) ∧ wr.ownsRow w.heap.size 37 1 v (wordsTo f bl k).length (u32Row (wordsTo f bl k)) ∧ Below w.heap.size w wr) (fun _ _ _ _ _ _ _ i _ => n - (intOf i).toNat)
  case atStart => exact ⟨0, by omega, rfl, fun i h => absurd h (Nat.not_lt_zero _), World.ownsRow_nil _ _ _ _, Below.refl _ _⟩
  case round =>
    obtain ⟨k, hk, rfl, hall, hownk, hb⟩ := hrel
    by_cases hlt : k < b
    · have hlt1 : (k : Int) < n := by omega
      obtain ⟨g, off, rfl, hcell⟩ : ∃ g off, a = some ⟨g, off, none⟩ ∧ ∀ i, i < b → W.cell? ⟨g, off + i, none⟩ = some (.string (tx i)) := by
        rcases HR.out with h | h
        · omega
        · exact h
      have BWR : Hid (Below W.heap.size W wr) := below_call HW.out hb
      have hc : wr.cell? ⟨g, off + k, none⟩ = some (.string (tx k)) := by
        rw [BWR.out.cell (p := ⟨g, off + k, none⟩) (block_lt_of_cell (hcell k hlt))]; exact hcell k hlt
      have T1 : Hid _ := (HT.out k hlt).1
      have hne := (HT.out k hlt).2
      have P1 : Hid _ := HP.out k hlt
      have N1 : Hid _ := HN.out k hlt
      have HRS : Hid (wordsTo f bl (k + 1) = wordsTo f bl k ++ (if bl k then [] else [f k])) := wordsTo_succ f bl k
      have hwl : (wordsTo f bl k).length ≤ k := wordsTo_len f bl k
      have HAL : Hid (∀ i, i < k → bl i = false → E i = 0) := hall
      have HO : Hid (_ ∧ _) := ⟨hownk, hb⟩
      clear hcell hownk hb hall
      generalize hEk : E k = ek at *
      generalize hbk : bl k = bk at *
      have HBK : Hid (bl k = bk) := hbk
      clear hbk
      have HEK : Hid (E k = ek) := hEk
      clear hEk
      generalize f k = xk at *
      generalize Y k = y at *
      generalize tr k = tk at *
      generalize tx k = lk at *
      go_wp2_with fail
      refine (T1.out _).mono ?_
      rintro e w3 ⟨rfl, hb3⟩
      have C3 : Hid (Below wr.heap.size wr w3) := hb3
      have B3 : Hid (Below W.heap.size W w3) := below_call BWR.out hb3
      clear hb3 hc
      cases bk
      · go_wp2_with fail
        refine (P1.out (by first | rfl | trivial) _ B3.out).mono ?_
        rintro e w4 ⟨rfl, hb4⟩
        have C4 : Hid (Below wr.heap.size wr w4) := below_call C3.out hb4
        have B4 : Hid (Below W.heap.size W w4) := below_call B3.out hb4
        clear hb4
        go_upto_region 7 with fail
        have C5 : Hid (Below wr.heap.size wr (w4.alloc (.cells #[.int .i64 y.op, .int .i64 y.rd, .int .i64 y.rs1, .int .i64 y.rs2, .int .i64 y.imm, .int .i64 y.csr, .bool y.aq, .bool y.rl] 23))) := C4.out.alloc C4.out.size _
        have B5 : Hid (Below W.heap.size W (w4.alloc (.cells #[.int .i64 y.op, .int .i64 y.rd, .int .i64 y.rs1, .int .i64 y.rs2, .int .i64 y.imm, .int .i64 y.csr, .bool y.aq, .bool y.rl] 23))) := B4.out.alloc B4.out.size _
        have X5 : Hid ((w4.alloc (.cells #[.int .i64 y.op, .int .i64 y.rd, .int .i64 y.rs1, .int .i64 y.rs2, .int .i64 y.imm, .int .i64 y.csr, .bool y.aq, .bool y.rl] 23)).heap[w4.heap.size]? = some (.cells #[.int .i64 y.op, .int .i64 y.rd, .int .i64 y.rs1, .int .i64 y.rs2, .int .i64 y.imm, .int .i64 y.csr, .bool y.aq, .bool y.rl] 23 (0, 0))) := heap_alloc_new w4 _
        generalize w4.alloc (.cells #[.int .i64 y.op, .int .i64 y.rd, .int .i64 y.rs1, .int .i64 y.rs2, .int .i64 y.imm, .int .i64 y.csr, .bool y.aq, .bool y.rl] 23) = V5 at *
        generalize w4.heap.size = g4 at *
        clear C4 B4 C3 B3
        by_cases he : ek = 0
        · subst he
          obtain ⟨q0, q1, q2, q3, q4, q5, q6, q7⟩ := box8_facts X5.out
          go_wp2_with fail
          refine (N1.out (by first | rfl | trivial) (by first | rfl | trivial) _ B5.out).mono ?_
          rintro e w6 ⟨rfl, hb6⟩
          have hown6 := HO.out.1.kept (below_grownBy (below_call C5.out hb6) none) (Classical.em _)
          have hb7 : Below w.heap.size w w6 := below_call HO.out.2 (below_call C5.out hb6)
          clear hb6 q0 q1 q2 q3 q4 q5 q6 q7
          go_wp2_with (first | (at_builtin; refine wpList_append_own _ rfl _ _ 35 rfl w.heap.size 37 i0 (.int .u32 0) 1 4 Tryz.underlying35 hi hz0 hz1 hz2 rfl (by decide) _ _ _ rfl (hown6.alloc _) ⟨w6.heap.size, 0, none⟩ 1 1 _ rfl rfl (cell_one_new _ _ _) ?c2 ?c3 ?c4 ?c5 ?_))
          case c2 => intro u hu; simp at hu; subst hu; rfl
          case c3 => unfold maxLen; omega
          case c4 => omega
          case c5 => have := hb7.size; simp; omega
          · intro v' w8 hown' hgrow _
            have hb8 := grow_step hb7 hb7.size hown6 hgrow
            have hown8 : w8.ownsRow w.heap.size 37 1 v' (wordsTo f bl (k + 1)).length (u32Row (wordsTo f bl (k + 1))) := by
              rw [HRS.out, if_neg (by first | decide | simp), u32Row_app, List.length_append]; exact hown'
            clear hown' hgrow hown6 hb7
            go_wp2_with fail
            go_roundw
            case rel => exact ⟨k + 1, by omega, by go_num, fun i h hb9 => by
              by_cases e : i = k
              · rw [e]; exact HEK.out
              · exact HAL.out i (by omega) hb9, hown8, hb8⟩
            case measure => simp [intOf]; omega
        · have he1 : (ek != 0) = true := by simp [he]
          have B9 : Hid (Below w.heap.size w V5) := below_call HO.out.2 C5.out
          go_wp2_with fail
          go_ret3
          exact ⟨.inr ⟨k, hlt, HBK.out, fun h => he (HEK.out.symm.trans h), HAL.out, rfl⟩, B9.out⟩
      · go_wp2_with fail
        go_roundw
        case rel => exact ⟨k + 1, by omega, by go_num, fun i h hb9 => by
          by_cases e : i = k
          · rw [e, HBK.out] at hb9; cases hb9
          · exact HAL.out i (by omega) hb9, by
            rw [HRS.out, if_pos (by first | rfl | trivial), List.append_nil]
            exact HO.out.1.kept (below_grownBy C3.out none) (Classical.em _), below_call HO.out.2 C3.out⟩
        case measure => (simp [intOf]) <;> omega
    · obtain rfl : k = b := by omega
      have hkn : k = n := by
        by_cases e : k < n
        · obtain ⟨j, h1, h2, h3⟩ := HS.out e
          exact absurd (hall j h1 h2) h3
        · omega
      subst hkn
      go_wp2_with fail
      go_ret3
      exact ⟨.inl ⟨hall, _, rfl, hownk⟩, hb⟩
end Go.Proofs.YtooaafbdjnlmfaaGreatDoor

namespace Go.Proofs.YtooaafbdjnlmfaaGreatDoor
open Go.RowKit
set_option linter.unusedVariables false
set_option linter.unusedSimpArgs false
theorem Tryz.info5 : (Tryz.prog.info? 5).map (fun i => (i.zero, i.size, i.bytes)) = some (some (.int .u8 0), 1, 1) := by kernel_rfl
/-- the first n numbers of a function, as cells of a kind -/
def rowK (k : IntKind) (f : Nat → Nat) (n : Nat) : List Value := (List.range n).map fun i => Value.int k ((f i : Nat) : Int)
theorem rowK_succ (k : IntKind) (f : Nat → Nat) (n : Nat) : rowK k f (n + 1) = rowK k f n ++ [Value.int k ((f n : Nat) : Int)] := by
  simp [rowK, List.range_succ]
theorem rowK_get (k : IntKind) (f : Nat → Nat) (n i : Nat) (h : i < n) : (rowK k f n)[i]? = some (Value.int k ((f i : Nat) : Int)) := by
  simp [rowK, h]
theorem rowK_congr (k : IntKind) (f g : Nat → Nat) (n : Nat) (h : ∀ i, i < n → f i = g i) : rowK k f n = rowK k g n := by
  unfold rowK
  apply List.map_congr_left
  intro i hi
  rw [h i (by simpa using hi)]
theorem rowK_zero (k : IntKind) (n : Nat) : List.replicate n (Value.int k 0) = rowK k (fun _ => 0) n := by
  apply List.ext_getElem?
  intro i
  by_cases h : i < n
  · simp [rowK, h]
  · simp [rowK, h]
theorem rowK_set (k : IntKind) (f : Nat → Nat) (n j b : Nat) : (rowK k f n).set j (Value.int k (b : Int)) = rowK k (fun i => if i = j then b else f i) n := by
  apply List.ext_getElem?
  intro i
  simp only [rowK, List.getElem?_set, List.getElem?_map, List.length_map, List.length_range]
  by_cases h : i < n
  · by_cases e : j = i
    · subst e; simp [h]
    · simp [h, e]; rw [if_neg (fun h' => e h'.symm)]
  · by_cases e : j = i
    · subst e; simp [h]
    · simp [h, e]
/-- byte i of a word -/
def byteAt (x i : Nat) : Nat := x / 256 ^ i % 256
theorem byteAt_le (x i : Nat) : byteAt x i ≤ 255 := by unfold byteAt; omega
theorem byteAt_high (x i : Nat) (hx : x < 18446744073709551616) (h : 8 ≤ i) : byteAt x i = 0 := by
  unfold byteAt
  have : 256 ^ 8 ≤ 256 ^ i := Nat.pow_le_pow_right (by omega) h
  rw [Nat.div_eq_of_lt (by omega)]
theorem pow_256 (i : Nat) : 256 ^ i = 2 ^ (8 * i) := by rw [Nat.pow_mul]
theorem byte_num (x k : Nat) : IntKind.u8.wrap ((x : Int) / 2 ^ (8 * k)) = ((byteAt x k : Nat) : Int) := by
  have : (x : Int) / 2 ^ (8 * k) = ((x / 2 ^ (8 * k) : Nat) : Int) := by simp
  rw [this]
  unfold byteAt
  rw [pow_256]
  simp [IntKind.wrap, IntKind.signed, IntKind.bits]
/-- a word's bytes, those below k -/
def upF (x k : Nat) (i : Nat) : Nat := if i < k then byteAt x i else 0
theorem upF_succ (x k : Nat) : upF x (k + 1) = fun i => if i = k then byteAt x k else upF x k i := by
  funext i
  unfold upF
  by_cases e : i = k
  · subst e; simp
  · simp only [e, if_false]
    by_cases h : i < k
    · rw [if_pos h, if_pos (by omega)]
    · rw [if_neg h, if_neg (by omega)]
theorem upF_done (x L : Nat) (hx : x < 18446744073709551616) : rowK .u8 (upF x (min L 8)) L = rowK .u8 (byteAt x) L := by
  apply rowK_congr
  intro i hi
  unfold upF
  by_cases h : i < min L 8
  · rw [if_pos h]
  · rw [if_neg h, byteAt_high x i hx (by omega)]
set_option maxHeartbeats 400000 in
theorem bytes_any (x : Nat) (n : Int) (L : Nat) (hx : x < 18446744073709551616) (hL : L = (min n 4096).toNat) (w : World) :
    Calls Tryz.prog 49 #[.int .u64 (x : Int), .int .i64 n] w fun e w' => ∃ v, e = .returned v ∧ w'.ownsRow w.heap.size 5 1 v L (rowK .u8 (byteAt x) L) ∧ Below w.heap.size w w' := by
  obtain ⟨i0, hi, hz0, hz1, hz2⟩ := info_parts Tryz.info5
  have hL1 : L ≤ 4096 := by omega
  obtain ⟨mm, hmin⟩ : ∃ mm, (if 4096 < n then (4096 : Int) else n) = mm := ⟨_, rfl⟩
  have hmax : (if 0 < mm then mm else 0) = (L : Int) := by rw [hL, ← hmin]; split <;> split <;> omega
  have hmax2 : max 0 (min n 4096) = (L : Int) := by omega
  clear hL
  obtain ⟨m, hm⟩ : ∃ m, m = min L 8 := ⟨_, rfl⟩
  have hm82 : min (L : Int) 8 = (m : Int) := by omega
  have hm8 : (if (8 : Int) < (L : Int) then (8 : Int) else (L : Int)) = (m : Int) := by rw [hm]; split <;> omega
  have HM : Hid (m = min L 8) := hm
  clear hm
  go_enter Tryz.func49, Tryz.ntmps49
  go_wp2_with (first | (at_make; refine wpList_make_full _ rfl _ _ 41 rfl w.heap.size 5 i0 (.int .u8 0) 1 Tryz.underlying41 hi hz0 hz1 _ _ _ _ L rfl rfl ?m1 ?m2 ?m3 ?m4 ?m5 ?_))
  case m1 => rfl
  case m2 => rfl
  case m3 => rw [hz2]; omega
  case m4 => unfold maxLen; omega
  case m5 => omega
  · intro w1 hown0 hgrow0
    have hb0 : Below w.heap.size w w1 := Below.grown (Below.refl _ _) hgrow0 (Nat.le_refl _) (by simp)
    rw [toList_madeCells_one, rowK_zero, show (fun _ => 0) = upF x 0 from by funext i; simp [upF]] at hown0
    have X : Hid (_ ∧ _) := ⟨hown0, hb0⟩
    clear hown0 hgrow0 hb0
    go_wp2
    go_loopw [6, 14] (fun _ i wr => ∃ k : Nat, k ≤ m ∧ i = .int .i64 k ∧ wr.ownsRow w.heap.size 5 1 (.slice (some ⟨w.heap.size, 0, none⟩) L L) L (rowK .u8 (upF x k) L) ∧ Below w.heap.size w wr)
      (fun _ i _ => 8 - (intOf i).toNat)
    case atStart => exact ⟨0, by omega, rfl, X.out.1, X.out.2⟩
    case round =>
      obtain ⟨k, hk, rfl, hown, hb⟩ := hrel
      by_cases hlt : k < m
      · have hk8 : k < 8 ∧ k < L := by have := HM.out; omega
        have hc2 : wr.cell? ⟨w.heap.size, k, none⟩ = some (.int .u8 (upF x k k : Nat)) := by rw [hown.cellAt k (by omega), rowK_get _ _ _ _ (by omega)]
        have hfz := hown.frozenAt k
        have hown2 := hown.stored k (.int .u8 (byteAt x k : Nat))
        rw [rowK_set, ← upF_succ x k] at hown2
        have hb2 := hb.setCell (p := ⟨w.heap.size, k, none⟩) (Nat.le_refl _) (.int .u8 (byteAt x k : Nat))
        have et : (8 * (k : Int)).toNat = 8 * k := by omega
        have hnum := byte_num x k
        have hA : Hid (_ ∧ _) := ⟨hown2.1, hb2⟩
        clear hown2 hb2 hown hb
        go_wp2
        go_roundw
        case rel => exact ⟨k + 1, by omega, by go_num, hA.out.1, hA.out.2⟩
        case measure => simp [intOf]; omega
      · obtain rfl : k = m := by omega
        have hown3 := hown
        rw [HM.out, upF_done x L hx] at hown3
        go_wp2
        go_ret
        exact ⟨_, rfl, hown3, hb⟩
/-- what is known of a slice of n numbers that is read -/
def Reads (k : IntKind) (w : World) (v : Value) (n : Nat) (f : Nat → Nat) : Prop :=
  (n = 0 ∧ ∃ a cap, v = .slice a 0 cap) ∨ ∃ b off cap, v = .slice (some ⟨b, off, none⟩) n cap ∧ ∀ i, i < n → w.cell? ⟨b, off + i, none⟩ = some (.int k (f i : Nat))
theorem reads_own {k : IntKind} {w : World} {base : Nat} {e : TypeId} {v : Value} {n : Nat} {f : Nat → Nat} (h : w.ownsRow base e 1 v n (rowK k f n)) : Reads k w v n f := by
  rcases h.2 with ⟨rfl, rfl⟩ | ⟨g, cap, cur, rfl, _⟩
  · exact .inl ⟨rfl, _, _, rfl⟩
  · exact .inr ⟨g, 0, cap, rfl, fun i hi => by rw [Nat.zero_add, h.cellAt i (by omega)]; exact rowK_get _ _ _ _ hi⟩
/-- the number whose digits in base 256 are m numbers of a function, from the one at i on -/
def h256 (f : Nat → Nat) : Nat → Nat → Nat
  | 0, _ => 0
  | m + 1, i => h256 f m (i + 1) * 256 + f i
theorem h256_lt (f : Nat → Nat) : ∀ (m i : Nat), (∀ j, j < m → f (i + j) ≤ 255) → h256 f m i < 256 ^ m
  | 0, _, _ => by simp [h256]
  | m + 1, i, h => by
    have h1 := h256_lt f m (i + 1) (fun j hj => by have := h (j + 1) (by omega); rwa [show i + 1 + j = i + (j + 1) from by omega])
    have h0 := h 0 (by omega)
    simp only [h256, Nat.pow_succ] at *
    simp at h0
    omega
theorem h256_snoc (f : Nat → Nat) : ∀ (m i : Nat), h256 f (m + 1) i = h256 f m i + f (i + m) * 256 ^ m
  | 0, i => by simp [h256]
  | m + 1, i => by
    have h1 := h256_snoc f m (i + 1)
    rw [h256, h1, h256, show i + 1 + m = i + (m + 1) from by omega, Nat.pow_succ]
    rw [Nat.add_mul, Nat.mul_assoc]
    omega
theorem h256_byteAt (x : Nat) : ∀ m, h256 (byteAt x) m 0 = x % 256 ^ m
  | 0 => by simp [h256, Nat.mod_one]
  | m + 1 => by
    rw [h256_snoc, h256_byteAt x m, Nat.zero_add, Nat.pow_succ, Nat.mod_mul]
    unfold byteAt
    rw [Nat.mul_comm (256 ^ m)]
set_option maxHeartbeats 400000 in
theorem rof_any (f : Nat → Nat) (n m : Nat) (v : Value) (hn : n ≤ 4096) (hm : m = min n 8) (hf : ∀ i, i < n → f i ≤ 255) (w : World) (hr : Reads .u8 w v n f) :
    Calls Tryz.prog 19 #[v] w fun e w' => e = .returned (.int .u64 (h256 f m 0 : Nat)) ∧ w' = w := by
  have hm8 : (if (8 : Int) < (n : Int) then (8 : Int) else (n : Int)) = (m : Int) := by rw [hm]; split <;> omega
  have hmn : m ≤ 8 ∧ m ≤ n := by omega
  have hm82 : min (n : Int) 8 = (m : Int) := by omega
  clear hm
  rcases hr with ⟨rfl, a, cap, rfl⟩ | ⟨b, off, cap, rfl, hcell⟩
  · obtain rfl : m = 0 := by omega
    go_enter Tryz.func19, Tryz.ntmps19
    go_wp2
    go_loop [3, 4] (fun x i => x = .int .u64 0 ∧ i = .int .i64 (-1)) (fun _ _ => 0)
    case atStart => exact ⟨rfl, rfl⟩
    case round =>
      obtain ⟨rfl, rfl⟩ := hrel
      go_wp2
      go_ret
      exact ⟨by simp [h256], rfl⟩
  · go_enter Tryz.func19, Tryz.ntmps19
    go_wp2
    go_loop [3, 4] (fun x i => ∃ k : Nat, k ≤ m ∧ i = .int .i64 ((k : Int) - 1) ∧ x = .int .u64 (h256 f (m - k) k : Nat)) (fun _ i => (intOf i + 1).toNat)
    case atStart => exact ⟨m, Nat.le_refl _, rfl, by simp [h256]⟩
    case round =>
      obtain ⟨k, hk, rfl, rfl⟩ := hrel
      by_cases hlt : 0 < k
      · obtain ⟨j, rfl⟩ : ∃ j, k = j + 1 := ⟨k - 1, by omega⟩
        have e : ((j + 1 : Nat) : Int) - 1 = (j : Int) := by omega
        rw [e]
        have hl := h256_lt f (m - (j + 1)) (j + 1) (fun i hi => hf _ (by omega))
        have hl2 : 256 ^ (m - (j + 1)) ≤ 256 ^ 7 := Nat.pow_le_pow_right (by omega) (by omega)
        have HE : Hid (h256 f (m - j) j = h256 f (m - (j + 1)) (j + 1) * 256 + f j) := by
          show h256 f (m - j) j = _
          rw [show m - j = m - (j + 1) + 1 from by omega]; rfl
        have hfj := hf j (by omega)
        have hc := hcell j (by omega)
        clear hcell hf e
        generalize hH : h256 f (m - (j + 1)) (j + 1) = h at *
        have hlt2 : h < 72057594037927936 := by simp at hl2; omega
        clear hl hl2 hH
        generalize hF : f j = b at *
        have HF : Hid (f j = b) := hF
        clear hF
        have hjn : (j : Int) < n := by omega
        go_wp2
        go_round
        case rel => exact ⟨j, by omega, by go_num, by rw [HE.out]; go_num⟩
        case measure => simp [intOf]
      · obtain rfl : k = 0 := by omega
        go_wp2
        go_ret
        exact ⟨rfl, rfl⟩
end Go.Proofs.YtooaafbdjnlmfaaGreatDoor

namespace Go.Proofs.YtooaafbdjnlmfaaGreatDoor
open Go.RowKit
set_option linter.unusedVariables false
set_option linter.unusedSimpArgs false
def bytesRow (L : List Nat) : List Value := L.flatMap fun x => rowK .u8 (byteAt x) 4
theorem bytesRow_app (A : List Nat) (x : Nat) : bytesRow (A ++ [x]) = bytesRow A ++ rowK .u8 (byteAt x) 4 := by simp [bytesRow]
theorem rowK_len (k : IntKind) (f : Nat → Nat) (n : Nat) : (rowK k f n).length = n := by simp [rowK]
theorem bytesRow_len (L : List Nat) : (bytesRow L).length = 4 * L.length := by
  induction L with
  | nil => rfl
  | cons x L ih => rw [show x :: L = [x] ++ L from rfl]; simp [bytesRow, rowK_len] at ih ⊢; omega
theorem rowK_cell (k : IntKind) (f : Nat → Nat) (n : Nat) : ∀ u ∈ rowK k f n, u.oneCell' = true := by
  intro u hu
  unfold rowK at hu
  obtain ⟨i, _, rfl⟩ := List.mem_map.1 hu
  rfl
set_option maxRecDepth 100000 in
set_option maxHeartbeats 2000000 in
theorem abytes_any (L : List Nat) (hL : ∀ x ∈ L, x < 4294967296) (hn : L.length ≤ 12) (a : Option Addr) (cap : Nat) (w : World) (hrow : L.length = 0 ∨ ∃ g, a = some ⟨g, 0, none⟩ ∧ ∀ i (h : i < L.length), w.cell? ⟨g, i, none⟩ = some (.int .u32 ((L[i] : Nat) : Int))) :
    Calls Tryz.prog 18 #[.slice a L.length cap] w fun e w' => ∃ v, e = .returned v ∧ w'.ownsRow w.heap.size 5 1 v (4 * L.length) (bytesRow L) ∧ Below w.heap.size w w' := by
  obtain ⟨i0, hi, hz0, hz1, hz2⟩ := info_parts Tryz.info5
  have HR : Hid _ := hrow
  have HL : Hid _ := hL
  clear hrow hL
  have h4 : IntKind.i64.wrap (4 * (L.length : Int)) = 4 * (L.length : Int) := by simp [IntKind.wrap, IntKind.signed, IntKind.bits]; omega
  go_enter Tryz.func18, Tryz.ntmps18
  go_wp2_with (first | (at_make; refine wpList_make_own _ rfl _ _ 41 rfl w.heap.size 5 i0 (.int .u8 0) 1 Tryz.underlying41 hi hz0 hz1 _ _ _ (4 * L.length) rfl rfl ?m1 ?m2 ?m3 ?m4 ?_))
  case m1 => first | rfl | simp | omega
  case m2 => rw [hz2]; omega
  case m3 => unfold maxLen; omega
  case m4 => exact Nat.le_refl _
  intro w1 hown1 hgrow1
  have hb1 : Below w.heap.size w w1 := ⟨hgrow1.1, hgrow1.2, hgrow1.3, hgrow1.4, fun k hk => hgrow1.5 k hk (by simp)⟩
  have HO1 : Hid (_ ∧ _) := ⟨hown1, hb1⟩
  clear hown1 hgrow1 hb1
  go_wp2_with fail
  go_loopw [3, 5, 12] (fun v xv iv wr => ∃ k : Nat, k ≤ L.length ∧ iv = .int .i64 k ∧ wr.ownsRow w.heap.size 5 1 v (4 * k) (bytesRow (L.take k)) ∧ Below w.heap.size w wr) (fun _ _ iv _ => L.length - (intOf iv).toNat)
  case atStart => exact ⟨0, by omega, rfl, HO1.out.1, HO1.out.2⟩
  case round =>
    obtain ⟨k, hk, rfl, hown, hb⟩ := hrel
    by_cases hlt : k < L.length
    · have hlt1 : (k : Int) < L.length := by omega
      obtain ⟨g, rfl, hc⟩ : ∃ g, a = some ⟨g, 0, none⟩ ∧ ∀ i (h : i < L.length), w.cell? ⟨g, i, none⟩ = some (.int .u32 ((L[i] : Nat) : Int)) := by
        rcases HR.out with h | h
        · omega
        · exact h
      have q1 : wr.cell? ⟨g, k, none⟩ = some (.int .u32 ((L[k] : Nat) : Int)) := (hb.cell (p := ⟨g, k, none⟩) (block_lt_of_cell (hc k hlt))).trans (hc k hlt)
      have hx := HL.out L[k] (List.getElem_mem hlt)
      have HT : Hid (bytesRow (L.take (k + 1)) = bytesRow (L.take k) ++ rowK .u8 (byteAt L[k]) 4) := by
        show _ = _
        rw [List.take_succ_eq_append_getElem hlt, bytesRow_app]
      clear hc
      generalize L[k] = x at *
      have HB : Hid (∀ V, Calls Tryz.prog 49 #[.int .u64 (x : Int), .int .i64 4] V fun e w' => ∃ v, e = .returned v ∧ w'.ownsRow V.heap.size 5 1 v 4 (rowK .u8 (byteAt x) 4) ∧ Below V.heap.size V w') := fun V => bytes_any x 4 4 (by omega) (by decide) V
      have hconv : IntKind.u64.wrap (x : Int) = x := by rw [wrap_u64]; omega
      have HO : Hid (_ ∧ _) := ⟨hown, hb⟩
      clear hown hb
      go_wp2_with fail
      refine Calls.mono (HB.out _) ?_
      rintro e w2 ⟨v2, rfl, hown2, hb2⟩
      have h2 := hown2.2
      rcases h2 with ⟨_, h0⟩ | ⟨g2, cap2, cur2, rfl, hg2, hbl2, hnc2, hcm2, _, _⟩
      · omega
      have hcs : ∀ j u, (rowK .u8 (byteAt x) 4)[j]? = some u → w2.cell? ((⟨g2, 0, none⟩ : Addr).add j) = some u := hown2.cells rfl
      have hownk := HO.out.1.kept (below_grownBy hb2 none) (Classical.em _)
      have hbk := below_call HO.out.2 hb2
      have hsz : w.heap.size ≤ w2.heap.size := hbk.size
      clear hown2 hbl2 q1 hb2 HO
      go_wp2_with (first | (at_builtin; refine wpList_append_own _ rfl _ _ 41 rfl w.heap.size 5 i0 (.int .u8 0) 1 1 Tryz.underlying41 hi hz0 hz1 hz2 rfl (by decide) _ _ _ rfl hownk ⟨g2, 0, none⟩ 4 _ _ rfl ?c1 hcs (rowK_cell _ _ _) ?c3 ?c4 ?c5 ?_))
      case c1 => rw [rowK_len]
      case c3 => unfold maxLen; omega
      case c4 => omega
      case c5 => exact hsz
      · intro v3 w3 hown3 hgrow _
        have hb3 : Below w.heap.size w w3 := Below.grown hbk hgrow hbk.size (fun j hj => (hownk.lt j hj).1)
        have hown4 : w3.ownsRow w.heap.size 5 1 v3 (4 * (k + 1)) (bytesRow (L.take (k + 1))) := by rw [HT.out, Nat.mul_add]; exact hown3
        have H4 : Hid (_ ∧ _) := ⟨hown4, hb3⟩
        clear hown3 hgrow hown4 hb3 hownk hbk hcs
        go_wp2_with fail
        go_roundw
        case rel => exact ⟨k + 1, by omega, by go_num, H4.out.1, H4.out.2⟩
        case measure => (simp [intOf]) <;> omega
    · obtain rfl : k = L.length := by omega
      rw [List.take_length] at hown
      have HO : Hid (_ ∧ _) := ⟨hown, hb⟩
      clear hown hb
      go_wp2_with fail
      go_ret
      exact ⟨_, rfl, HO.out.1, HO.out.2⟩
end Go.Proofs.YtooaafbdjnlmfaaGreatDoor
