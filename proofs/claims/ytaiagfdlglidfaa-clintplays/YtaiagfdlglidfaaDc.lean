/- The document's Load, byte by byte. -/
import Derived.Test.YtaiagfdlglidfaaDb
namespace Go.Proofs.Ytaiagfdlglidfaa
open Go.RowKit
set_option linter.unusedVariables false
set_option linter.unusedSimpArgs false
set_option maxRecDepth 100000
theorem own_step {w w1 : World} {base : Nat} {e : TypeId} {size n : Nat} {v : Value} {xs : List Value} (h : w.ownsRow base e size v n xs) (hb : Below w.heap.size w w1) : w1.ownsRow base e size v n xs :=
  h.kept (E.below_grownBy hb none) (by cases hv : v.ownBlock <;> simp)
theorem dload_no (s : Bool) (c t a : Nat) (n : Int) (ha : a < 18446744073709551616) (h : mayB a n = false) (w : World) : Calls Try.prog 12 #[.agg #[.bool s, .int .u64 (c : Int), .int .u64 (t : Int)], .int .u64 (a : Int), .int .i64 n] w fun e w' => e = .returned (.tuple #[.int .u64 0, .bool false]) ∧ Below w.heap.size w w' := by
  have ca : ∀ w, Calls Try.prog 19 #[.int .u64 (a : Int), .int .i64 n] w fun e w' => e = .returned (.bool false) ∧ w' = w := fun w => by
    have h1 := dmay_any a n ha w
    rw [h] at h1
    exact h1
  clear h
  go_enter Try.func12, Try.ntmps12
  go_wp2_with fail
  refine (ca _).mono ?_
  rintro e w' ⟨rfl, hw⟩
  rw [hw]
  clear hw w'
  go_wp2_with fail
  go_ret2
  exact ⟨rfl, (Below.refl _ _).alloc (Nat.le_refl _) _⟩
set_option maxHeartbeats 1000000 in
theorem dload_yes (s : Bool) (c t a k : Nat) (hc : c < 18446744073709551616) (ht : t < 18446744073709551616) (h : mayB a k = true) (w : World) : Calls Try.prog 12 #[.agg #[.bool s, .int .u64 (c : Int), .int .u64 (t : Int)], .int .u64 (a : Int), .int .i64 (k : Int)] w fun e w' => e = .returned (.tuple #[.int .u64 (loadR s c t a k : Nat), .bool true]) ∧ Below w.heap.size w w' := by
  obtain ⟨i0, hi, hz0, hz1, hz2⟩ := info_parts Try.info5
  obtain ⟨k', hk1, hk2, hk3, hk4, hk5⟩ := mayB_k h
  obtain rfl : k' = k := by omega
  have ca : ∀ w, Calls Try.prog 19 #[.int .u64 (a : Int), .int .i64 (k' : Int)] w fun e w' => e = .returned (.bool true) ∧ w' = w := fun w => by
    have h1 := dmay_any a k' (by omega) w
    rw [h] at h1
    exact h1
  have cg : ∀ j V, Calls Try.prog 29 #[.agg #[.bool s, .int .u64 (c : Int), .int .u64 (t : Int)], .int .u64 ((a : Int) + (j : Nat))] V fun e w' => e = .returned (.int .u8 (byteR s c t (a + j) : Nat)) ∧ Below V.heap.size V w' := fun j V => by
    have h1 := get_any s c t (a + j) hc ht V
    rw [show (((a + j : Nat)) : Int) = (a : Int) + (j : Nat) from by omega] at h1
    exact h1
  have co : ∀ v V, Reads .u8 V v k' (fun i => byteR s c t (a + i)) → Calls Try.prog 30 #[v] V fun e w' => e = .returned (.int .u64 (loadR s c t a k' : Nat)) ∧ w' = V := fun v V hr => by
    have h1 := rof_any (fun i => byteR s c t (a + i)) k' k' v (by omega) (by omega) (fun i _ => byteR_le _ _ _ _) V hr
    rw [load_bytes s c t a k' h] at h1
    exact h1
  have HK : Hid (k' ≤ 8 ∧ a + k' ≤ 65536) := ⟨by omega, hk5⟩
  have HC : Hid (∀ j V, Calls Try.prog 29 #[.agg #[.bool s, .int .u64 (c : Int), .int .u64 (t : Int)], .int .u64 ((a : Int) + (j : Nat))] V fun e w' => e = .returned (.int .u8 (byteR s c t (a + j) : Nat)) ∧ Below V.heap.size V w') := cg
  have HO : Hid (∀ v V, Reads .u8 V v k' (fun i => byteR s c t (a + i)) → Calls Try.prog 30 #[v] V fun e w' => e = .returned (.int .u64 (loadR s c t a k' : Nat)) ∧ w' = V) := co
  have hx0 : Box 28 (w.alloc (.cells #[.bool s, .int .u64 (c : Int), .int .u64 (t : Int)] 28)) w.heap.size #[.bool s, .int .u64 (c : Int), .int .u64 (t : Int)] := Box.new 28 w _
  have hb0 : Below w.heap.size w (w.alloc (.cells #[.bool s, .int .u64 (c : Int), .int .u64 (t : Int)] 28)) := (Below.refl _ _).alloc (Nat.le_refl _) _
  clear h hk1 hk2 hk3 hk4 hk5 cg co
  generalize loadR s c t a k' = R at *
  go_enter Try.func12, Try.ntmps12
  go_upto_region 1 with fail
  generalize w.alloc (.cells #[.bool s, .int .u64 (c : Int), .int .u64 (t : Int)] 28) = w0 at *
  have HX : Hid (Box 28 w0 w.heap.size #[.bool s, .int .u64 (c : Int), .int .u64 (t : Int)]) := hx0
  have HB : Hid (Below w.heap.size w w0) := hb0
  clear hx0 hb0
  go_wp2_with fail
  refine (ca _).mono ?_
  rintro e w' ⟨rfl, hw⟩
  rw [hw]
  clear hw w' ca
  go_wp2_with fail
  go_loopw [8, 9] (fun v i wr => ∃ j : Nat, j ≤ k' ∧ i = .int .i64 j ∧ wr.ownsRow w0.heap.size 5 1 v j (rowK .u8 (fun i => byteR s c t (a + i)) j) ∧ Below w0.heap.size w0 wr)
    (fun _ i _ => 8 - (intOf i).toNat)
  case atStart => exact ⟨0, by omega, rfl, World.ownsRow_nil _ _ _ _, Below.refl _ _⟩
  case round =>
    obtain ⟨j, hj, rfl, hown, hb⟩ := hrel
    by_cases hlt : j < k'
    · have hl1 : (j : Int) < (k' : Int) := by omega
      have hb8 : j < 8 ∧ a + j < 65536 := by have := HK.out; omega
      have hwa : IntKind.u64.wrap ((a : Int) + (j : Int)) = (a : Int) + (j : Int) := by rw [wrap_u64]; omega
      have HR : Hid _ := rowK_succ .u8 (fun i => byteR s c t (a + i)) j
      have hxr := HX.out.step hb
      have f0 := hxr.cell 0 _ rfl
      have f1 := hxr.cell 1 _ rfl
      have f2 := hxr.cell 2 _ rfl
      have hcj := HC.out j
      have hle := byteR_le s c t (a + j)
      have HN : Hid (byteR s c t (a + j) = byteR s c t (a + j)) := rfl
      have HOW : Hid (_ ∧ _) := ⟨hown, hb⟩
      clear hxr hown hb
      go_wp2_with fail
      refine (hcj _).mono ?_
      rintro e w1 ⟨rfl, hb1⟩
      have hown1 := own_step HOW.out.1 hb1
      have hbb : Below w0.heap.size w0 w1 := HOW.out.2.trans (hb1.mono HOW.out.2.size)
      clear hb1 HOW f0 f1 f2 hcj
      go_wp2_with (first | (at_builtin; refine wpList_append_own _ rfl _ _ 51 rfl w0.heap.size 5 i0 (.int .u8 0) 1 1 Try.underlying51 hi hz0 hz1 hz2 rfl (by decide) _ _ _ rfl (hown1.alloc _) ⟨w1.heap.size, 0, none⟩ 1 1 _ rfl rfl (cell_one_new _ _ _) ?c2 ?c3 ?c4 ?c5 ?_))
      case c2 => intro u hu; simp at hu; subst hu; rfl
      case c3 => unfold maxLen; omega
      case c4 => omega
      case c5 => have := hbb.size; simp; omega
      · intro v' w2 hown' hgrow _
        have hb2 := grow_step hbb hbb.size hown1 hgrow
        have hown2 : w2.ownsRow w0.heap.size 5 1 v' (j + 1) (rowK .u8 (fun i => byteR s c t (a + i)) (j + 1)) := by rw [HR.out]; exact hown'
        clear hown' hgrow hown1 hbb
        go_wp2
        go_roundw
        case rel => exact ⟨j + 1, by omega, by go_num, hown2, hb2⟩
        case measure => simp [intOf]; omega
    · obtain rfl : j = k' := by omega
      have hco := HO.out _ _ (reads_own hown)
      have HBB : Hid (Below w.heap.size w wr) := HB.out.trans (hb.mono HB.out.size)
      clear hown hb HO HC
      go_wp2_with fail
      refine hco.mono ?_
      rintro e w' ⟨rfl, hw⟩
      rw [hw]
      clear hw w'
      go_wp2_with fail
      go_ret2
      exact ⟨rfl, HBB.out⟩
theorem dload_any (s : Bool) (c t a : Nat) (n : Int) (hc : c < 18446744073709551616) (ht : t < 18446744073709551616) (ha : a < 18446744073709551616) (w : World) : Calls Try.prog 12 #[.agg #[.bool s, .int .u64 (c : Int), .int .u64 (t : Int)], .int .u64 (a : Int), .int .i64 n] w fun e w' => e = .returned (.tuple #[.int .u64 (loadR s c t a n : Nat), .bool (mayB a n)]) ∧ Below w.heap.size w w' := by
  cases h : mayB a n
  · rw [show loadR s c t a n = 0 from by unfold loadR; rw [if_pos h]]
    exact dload_no s c t a n ha h w
  · obtain ⟨k, rfl, _⟩ := mayB_k h
    exact dload_yes s c t a k hc ht h w
end Go.Proofs.Ytaiagfdlglidfaa
