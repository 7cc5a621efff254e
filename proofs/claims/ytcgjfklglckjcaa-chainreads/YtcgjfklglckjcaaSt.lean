/- Store of a memory that is not watched. -/
import Derived.Test.YtcgjfklglckjcaaRam
import Derived.Test.YtcgjfklglckjcaaRead
namespace Go.Proofs.Ytcgjfklglckjcaa
open Go.RowKit Go.Maps
set_option linter.unusedVariables false
set_option linter.unusedSimpArgs false
set_option maxRecDepth 100000
theorem width_any (n : Int) (w : World) : Calls Try.prog 53 #[.int .i64 n] w fun e w' => e = .returned (.bool (widB n)) ∧ w' = w := by
  go_enter Try.func53, Try.ntmps53
  go_wp2
  all_goals (go_ret; exact ⟨ret_bool (by rw [Bool.eq_iff_iff]; simp [widB, *]; try omega), rfl⟩)
set_option maxHeartbeats 400000 in
theorem store_any {w : World} {F : Nat → Prop} {rb size n : Nat} {M : Nat → Nat} (h : RamAt w F rb size n (.pointer none) M) (hs : size ≤ 268435456) (x : Nat) (k : Int) (y : Nat) (hx : x < 18446744073709551616) (hy : y < 18446744073709551616) (hn : n + 8 ≤ 1000000) :
    Calls Try.prog 31 #[.pointer (some ⟨rb, 0, none⟩), .int .u64 (x : Nat), .int .i64 k, .int .u64 (y : Nat)] w fun e w' => e = .returned (.bool (widB k && inB x k 2147483648 size)) ∧ ∃ F', RamAt w' F' rb size (n + 8) (.pointer none) (if (widB k && inB x k 2147483648 size) = true then over M x k.toNat (byteAt y) else M) ∧ Step F w F' w' := by
  cases hw : widB k with
  | false =>
    rw [Bool.false_and, if_neg (by simp)]
    have H : Hid (widB k = false) := hw
    clear hw
    go_enter Try.func31, Try.ntmps31
    go_wp2_with (first | (go_at_call 53; refine (width_any k _).mono ?_; rintro e w' ⟨rfl, rfl⟩; rw [H.out]))
    go_ret
    exact ⟨rfl, F, h.mono (by omega), Step.refl _ _⟩
  | true =>
    rw [Bool.true_and]
    have hk : k = 1 ∨ k = 2 ∨ k = 4 ∨ k = 8 := by simpa [widB] using hw
    obtain ⟨L, rfl⟩ : ∃ L : Nat, k = L := ⟨k.toNat, by omega⟩
    have hL : L ≤ 8 := by omega
    have H : Hid (widB L = true) := hw
    clear hw hk
    rw [Int.toNat_natCast]
    obtain ⟨Q, hQ⟩ : ∃ Q, Q = (if inB x L 2147483648 size = true then over M x L (byteAt y) else M) := ⟨_, rfl⟩
    rw [← hQ]
    have HQ : Hid (Q = (if inB x L 2147483648 size = true then over M x L (byteAt y) else M)) := hQ
    clear hQ
    go_enter Try.func31, Try.ntmps31
    go_wp2_with (first | (go_at_call 53; refine (width_any _ _).mono ?_; rintro e w' ⟨rfl, rfl⟩; rw [H.out]) | (go_at_call 54; refine (bytes_any y L L hy (by omega) _).mono ?_; rintro e w1 ⟨v, rfl, hown, hb⟩) | (go_at_call 32; refine (write_any (h.below hb) hs x L (byteAt y) _ hx (reads_ownF hown h.lt) (fun i _ => byteAt_le y i) (by omega)).mono ?_; rintro e w2 ⟨rfl, F2, h2, hs2⟩))
    go_ret
    exact ⟨rfl, F2, by rw [HQ.out]; exact h2.mono (by omega), (Step.of_below hb).trans hs2⟩
end Go.Proofs.Ytcgjfklglckjcaa
