/- The law Sv39Keeps: a walk changes nothing; where it comes to has the lowest twelve bits of the address. -/
import Derived.Test.YtalgidnmmghejaaLb
import Derived.Test.YtalgidnmmghejaaSameW
namespace Go.Proofs.Ytalgidnmmghejaa
open Go.RowKit Go.Maps
set_option linter.unusedVariables false
set_option linter.unusedSimpArgs false
set_option maxRecDepth 100000
theorem low12 (p va l : Nat) : (p * 4096 + va % 2 ^ (12 + 9 * l)) % 4096 = va % 4096 := by
  rw [Nat.pow_add, show (2 : Nat) ^ 12 = 4096 from rfl]
  have h : va % (4096 * 2 ^ (9 * l)) % 4096 = va % 4096 := Nat.mod_mul_right_mod va 4096 (2 ^ (9 * l))
  omega
/-- what holds of every result: how many were read, no page without a fault, no address with one, the lowest bits -/
def Fine (va : Nat) (r : Res) : Prop := r.2.2.2 ≤ 3 ∧ (r.2.2.1 = true → r.2.1 = true) ∧ (r.2.1 = true → r.1 = 0) ∧ (r.2.1 = false → r.1 % 4096 = va % 4096)
theorem fine_bad (va k : Nat) (hk : k ≤ 3) : Fine va (badR k) := ⟨hk, fun _ => rfl, fun _ => rfl, fun h => (by cases h)⟩
theorem fine_arr (kind mode : Int) (sum mxr : Bool) (e va l : Nat) (hl : l ≤ 2) : Fine va (arrR kind mode sum mxr e va l) := by
  unfold arrR
  split
  · refine ⟨(by show 3 - l ≤ 3; omega), fun h => (by cases h), fun h => (by cases h), fun _ => ?_⟩
    show (numN e * 4096 + E.getN va 0 (12 + 9 * l : Nat)) % 4096 = va % 4096
    rw [getN0 va _ (by omega)]
    exact low12 _ _ _
  · exact fine_bad va _ (by omega)
theorem fine_down (M : Nat → Nat) (s : Nat) (kind mode : Int) (sum mxr : Bool) (va : Nat) : ∀ (l t : Nat), l ≤ 2 → Fine va (downR M s kind mode sum mxr va t l) := by
  intro l
  induction l with
  | zero =>
    intro t hl
    rw [downR]
    split
    · split
      · exact fine_bad va _ (by omega)
      · split
        · exact fine_arr kind mode sum mxr _ va 0 (by omega)
        · exact fine_bad va _ (by omega)
    · exact ⟨(by show 2 ≤ 3; omega), fun h => (by cases h), fun _ => rfl, fun h => (by cases h)⟩
  | succ l ih =>
    intro t hl
    rw [downR]
    split
    · split
      · exact fine_bad va _ (by omega)
      · split
        · exact fine_arr kind mode sum mxr _ va (l + 1) hl
        · exact ih _ (by omega)
    · exact ⟨(by show 2 - (l + 1) ≤ 3; omega), fun h => (by cases h), fun _ => rfl, fun h => (by cases h)⟩
theorem fine_walk (M : Nat → Nat) (s satp : Nat) (kind mode : Int) (sum mxr : Bool) (va : Nat) : Fine va (walkR M s satp kind mode sum mxr va) := by
  unfold walkR
  split
  · exact ⟨(by show 0 ≤ 3; omega), fun h => (by cases h), fun h => (by cases h), fun _ => rfl⟩
  · split
    · exact fine_bad va 0 (by omega)
    · exact fine_down M s kind mode sum mxr va 2 _ (by omega)
set_option maxHeartbeats 4000000 in
theorem keeps_long (av : Option Addr) (len cap : Nat) (ws : Nat → Nat × Nat) (satp : Nat) (kind mode : Int) (sum mxr : Bool) (hsat : satp < 18446744073709551616) (va : Nat) (hva : va < 18446744073709551616) (w : World) (hlen : 60 < len) : Calls Try.prog 5 #[.slice av len cap, .agg #[.int .u64 (satp : Nat), .int .i64 kind, .int .i64 mode, .bool sum, .bool mxr], .int .u64 (va : Int)] w fun e w' => e = .returned (.bool true) ∧ Below w.heap.size w w' := by
  have X0 : Hid (At 25 w (w.alloc (.cells #[.int .u64 (satp : Nat), .int .i64 kind, .int .i64 mode, .bool sum, .bool mxr] 25)) #[.int .u64 (satp : Nat), .int .i64 kind, .int .i64 mode, .bool sum, .bool mxr]) := At.new _ _ _
  go_enter Try.func5, Try.ntmps5
  go_upto_region 1 with fail
  generalize (w.alloc (.cells #[.int .u64 (satp : Nat), .int .i64 kind, .int .i64 mode, .bool sum, .bool mxr] 25)) = V0 at *
  go_wp2_with fail
  refine (awake_any _).mono ?_
  rintro e w1 ⟨rfl, hb⟩
  have X1 : Hid (At 25 w w1 #[.int .u64 (satp : Nat), .int .i64 kind, .int .i64 mode, .bool sum, .bool mxr]) := X0.out.step hb
  clear hb X0
  go_wp2_with fail
  refine (memory_long av len cap hlen _).mono ?_
  rintro e w2 ⟨rfl, hb⟩
  have X2 : Hid (At 25 w w2 #[.int .u64 (satp : Nat), .int .i64 kind, .int .i64 mode, .bool sum, .bool mxr]) := X1.out.step hb
  clear hb X1
  go_wp2_with fail
  go_ret
  exact ⟨rfl, X2.out.2.alloc X2.out.2.size _⟩
set_option maxHeartbeats 4000000 in
theorem keeps_core (av : Option Addr) (len cap : Nat) (ws : Nat → Nat × Nat) (satp : Nat) (kind mode : Int) (sum mxr : Bool) (hsat : satp < 18446744073709551616) (va : Nat) (hva : va < 18446744073709551616) (w : World) (hws : PutsIn w (.slice av len cap) len ws) : Calls Try.prog 5 #[.slice av len cap, .agg #[.int .u64 (satp : Nat), .int .i64 kind, .int .i64 mode, .bool sum, .bool mxr], .int .u64 (va : Int)] w fun e w' => e = .returned (.bool true) ∧ Below w.heap.size w w' := by
  by_cases hlen : 60 < len
  · exact keeps_long av len cap ws satp kind mode sum mxr hsat va hva w hlen
  have HW : Hid (PutsIn w (.slice av len cap) len ws ∧ len ≤ 60 ∧ satp < 18446744073709551616 ∧ va < 18446744073709551616) := ⟨hws, by omega, hsat, hva⟩
  clear hws hlen hsat hva
  have X0 : Hid (At 25 w (w.alloc (.cells #[.int .u64 (satp : Nat), .int .i64 kind, .int .i64 mode, .bool sum, .bool mxr] 25)) #[.int .u64 (satp : Nat), .int .i64 kind, .int .i64 mode, .bool sum, .bool mxr]) := At.new _ _ _
  go_enter Try.func5, Try.ntmps5
  go_upto_region 1 with fail
  generalize (w.alloc (.cells #[.int .u64 (satp : Nat), .int .i64 kind, .int .i64 mode, .bool sum, .bool mxr] 25)) = V0 at *
  go_wp2_with fail
  refine (awake_any _).mono ?_
  rintro e w1 ⟨rfl, hb⟩
  have X1 : Hid (At 25 w w1 #[.int .u64 (satp : Nat), .int .i64 kind, .int .i64 mode, .bool sum, .bool mxr]) := X0.out.step hb
  clear hb X0
  go_wp2_with fail
  refine (memory_any av len cap ws HW.out.2.1 _ (HW.out.1.below X1.out.2)).mono ?_
  rintro e w2 ⟨rb, F, a, n, c, M, rfl, hB, -, hb⟩
  have X2 : Hid (At 25 w w2 #[.int .u64 (satp : Nat), .int .i64 kind, .int .i64 mode, .bool sum, .bool mxr] ∧ Both F w2 rb 32768 (.slice a n c) 480 M) := ⟨X1.out.step hb, hB⟩
  clear hb hB X1
  go_upto_region 4 with fail
  have X3 : Hid (Sta w (w2.alloc (.cells #[.int .u64 32768, .slice a n c] 30)) w2.heap.size rb satp kind mode sum mxr a n c F M) := by
    have hn : Below w2.heap.size w2 (w2.alloc (.cells #[.int .u64 32768, .slice a n c] 30)) := (Below.refl _ _).alloc (Nat.le_refl _) _
    exact ⟨X2.out.1.step hn, heap_alloc_new w2 _, X2.out.2.below hn⟩
  clear X2
  generalize w2.heap.size = bb at *
  generalize w2.alloc (.cells #[.int .u64 32768, .slice a n c] 30) = V3 at *
  have f0 := cellOf X3.out.1.1 0 _ rfl
  have f1 := cellOf X3.out.1.1 1 _ rfl
  have f2 := cellOf X3.out.1.1 2 _ rfl
  have f3 := cellOf X3.out.1.1 3 _ rfl
  have f4 := cellOf X3.out.1.1 4 _ rfl
  have cr : ∀ V, Calls Try.prog 10 #[.agg #[.int .u64 (satp : Nat), .int .i64 kind, .int .i64 mode, .bool sum, .bool mxr]] V fun e w' => e = .returned (.bool (rightM mode)) ∧ Below V.heap.size V w' := fun V => right_any satp kind mode sum mxr V V (Below.refl _ _)
  cases hr : rightM mode with
  | false =>
    rw [hr] at cr
    go_wp2_with fail
    refine (cr _).mono ?_
    rintro e w4 ⟨rfl, hb⟩
    have X4 : Hid (Sta w w4 bb rb satp kind mode sum mxr a n c F M) := X3.out.step hb
    clear hb X3
    go_wp2_with fail
    go_ret
    exact ⟨rfl, X4.out.1.2⟩
  | true =>
    rw [hr] at cr
    go_wp2_with fail
    refine (cr _).mono ?_
    rintro e w4 ⟨rfl, hb⟩
    have X4 : Hid (Sta w w4 bb rb satp kind mode sum mxr a n c F M) := X3.out.step hb
    have HM : Hid (rightM mode = true) := hr
    clear hb X3 cr f0 f1 f2 f3 f4 hr
    have ccp : ∀ V, Sta w V bb rb satp kind mode sum mxr a n c F M → Calls Try.prog 24 #[.pointer (some ⟨rb, 0, none⟩)] V fun e w' => ∃ rb2 F2, e = .returned (.pointer (some ⟨rb2, 0, none⟩)) ∧ RamAt w' F2 rb2 32768 480 (.pointer none) M ∧ (∀ k, F2 k → V.heap.size ≤ k) ∧ Below V.heap.size V w' := fun V h => C.copy_any h.2.2.1 (by omega)
    have cw : ∀ V, Calls Try.prog 13 #[.agg #[.int .u64 (satp : Nat), .int .i64 kind, .int .i64 mode, .bool sum, .bool mxr]] V fun e w' => e = .returned (.agg #[.int .u64 (satp : Nat), .int .i64 kind, .int .i64 mode, .bool sum, .bool mxr]) ∧ Below V.heap.size V w' := fun V => way_any satp kind mode sum mxr V V (Below.refl _ _)
    have cp : ∀ V, Sta w V bb rb satp kind mode sum mxr a n c F M → Calls Try.prog 12 #[.pointer (some ⟨rb, 0, none⟩), .agg #[.int .u64 (satp : Nat), .int .i64 kind, .int .i64 mode, .bool sum, .bool mxr], .int .u64 (va : Int)] V fun e w' => e = .returned (.agg (resC (walkR M 32768 satp kind mode sum mxr va))) ∧ Below V.heap.size V w' := fun V h => walk_any satp kind mode sum mxr va HW.out.2.2.1 HW.out.2.2.2 h.2.2.1 (by omega)
    have HF : Hid (Fine va (walkR M 32768 satp kind mode sum mxr va)) := fine_walk M 32768 satp kind mode sum mxr va
    generalize walkR M 32768 satp kind mode sum mxr va = R at *
    obtain ⟨r0, r1, r2, r3⟩ := R
    rw [show resC (r0, r1, r2, r3) = #[.int .u64 (r0 : Nat), .bool r1, .bool r2, .int .i64 (r3 : Nat)] from rfl] at cp
    have HF2 : Hid (r3 ≤ 3 ∧ (r2 = true → r1 = true) ∧ (r1 = true → r0 = 0) ∧ (r1 = false → r0 % 4096 = va % 4096)) := HF.out
    clear HF
    go_wp2_with fail
    refine (ccp _ X4.out).mono ?_
    rintro e w5 ⟨rb2, F2, rfl, hr5, -, hb⟩
    have X5 : Hid (Sta w w5 bb rb satp kind mode sum mxr a n c F M ∧ RamAt w5 F2 rb2 32768 480 (.pointer none) M) := ⟨X4.out.step hb, hr5⟩
    clear hb hr5 X4 ccp
    have f0 := cellOf X5.out.1.1.1 0 _ rfl
    have f1 := cellOf X5.out.1.1.1 1 _ rfl
    have f2 := cellOf X5.out.1.1.1 2 _ rfl
    have f3 := cellOf X5.out.1.1.1 3 _ rfl
    have f4 := cellOf X5.out.1.1.1 4 _ rfl
    go_wp2_with fail
    refine (cw _).mono ?_
    rintro e w6 ⟨rfl, hb⟩
    have X6 : Hid (Sta w w6 bb rb satp kind mode sum mxr a n c F M ∧ RamAt w6 F2 rb2 32768 480 (.pointer none) M) := ⟨X5.out.1.step hb, X5.out.2.below hb⟩
    clear hb
    go_wp2_with fail
    refine (cp _ X6.out.1).mono ?_
    rintro e w7 ⟨rfl, hb⟩
    have X7 : Hid (Sta w w7 bb rb satp kind mode sum mxr a n c F M ∧ RamAt w7 F2 rb2 32768 480 (.pointer none) M) := ⟨X6.out.1.step hb, X6.out.2.below hb⟩
    clear hb
    go_upto_region 8 with fail
    have X8 : Hid ((Sta w (w7.alloc (.cells #[.int .u64 (r0 : Nat), .bool r1, .bool r2, .int .i64 (r3 : Nat)] 36)) bb rb satp kind mode sum mxr a n c F M ∧ RamAt (w7.alloc (.cells #[.int .u64 (r0 : Nat), .bool r1, .bool r2, .int .i64 (r3 : Nat)] 36)) F2 rb2 32768 480 (.pointer none) M) ∧ (w7.alloc (.cells #[.int .u64 (r0 : Nat), .bool r1, .bool r2, .int .i64 (r3 : Nat)] 36)).heap[w7.heap.size]? = some (.cells #[.int .u64 (r0 : Nat), .bool r1, .bool r2, .int .i64 (r3 : Nat)] 36 (0, 0))) := by
      have hn : Below w7.heap.size w7 (w7.alloc (.cells #[.int .u64 (r0 : Nat), .bool r1, .bool r2, .int .i64 (r3 : Nat)] 36)) := (Below.refl _ _).alloc (Nat.le_refl _) _
      exact ⟨⟨X7.out.1.step hn, X7.out.2.below hn⟩, heap_alloc_new w7 _⟩
    clear X7 X6 X5 f0 f1 f2 f3 f4 cw cp
    generalize w7.heap.size = b7 at *
    generalize w7.alloc (.cells #[.int .u64 (r0 : Nat), .bool r1, .bool r2, .int .i64 (r3 : Nat)] 36) = V8 at *
    have csm : ∀ V, (Sta w V bb rb satp kind mode sum mxr a n c F M ∧ RamAt V F2 rb2 32768 480 (.pointer none) M) → Calls Try.prog 25 #[.pointer (some ⟨rb, 0, none⟩), .pointer (some ⟨rb2, 0, none⟩)] V fun e w' => e = .returned (.bool true) ∧ Below V.heap.size V w' := fun V h => C.same_any h.1.2.2.1 h.2 (by omega) (by omega) (by omega) 0 0 (fun k hk => by obtain ⟨i, hi, hne⟩ := hk; exact absurd rfl hne) true (by simp)
    go_wp2_with fail
    refine (csm _ X8.out.1).mono ?_
    rintro e w9 ⟨rfl, hb⟩
    have X9 : Hid ((Sta w w9 bb rb satp kind mode sum mxr a n c F M ∧ RamAt w9 F2 rb2 32768 480 (.pointer none) M) ∧ w9.heap[b7]? = some (.cells #[.int .u64 (r0 : Nat), .bool r1, .bool r2, .int .i64 (r3 : Nat)] 36 (0, 0))) := ⟨⟨X8.out.1.1.step hb, X8.out.1.2.below hb⟩, below_box X8.out.2 hb⟩
    clear hb X8 csm
    have d0 := cellOf X9.out.2 0 _ rfl
    have d1 := cellOf X9.out.2 1 _ rfl
    have d2 := cellOf X9.out.2 2 _ rfl
    have d3 := cellOf X9.out.2 3 _ rfl
    have g1 : ¬ (r3 : Int) < 0 := by omega
    have g2 : ¬ (3 : Int) < (r3 : Int) := by have := HF2.out.1; omega
    cases r1
    · have r2f : r2 = false := by cases r2; rfl; exact absurd (HF2.out.2.1 rfl) (by simp)
      subst r2f
      have g3 : (r0 : Int) % 4096 = (va : Int) % 4096 := by have := HF2.out.2.2.2 rfl; omega
      have g4 : (r0 : Int).tmod 4096 = (va : Int).tmod 4096 := by rw [Int.tmod_eq_emod_of_nonneg (by omega), Int.tmod_eq_emod_of_nonneg (by omega)]; exact g3
      go_wp2_with fail
      go_ret
      exact ⟨by simp [g3], X9.out.1.1.1.2⟩
    · have r00 : r0 = 0 := HF2.out.2.2.1 rfl
      subst r00
      cases r2
      · go_wp2_with fail
        go_ret
        exact ⟨by simp, X9.out.1.1.1.2⟩
      · go_wp2_with fail
        go_ret
        exact ⟨by simp, X9.out.1.1.1.2⟩
end Go.Proofs.Ytalgidnmmghejaa
