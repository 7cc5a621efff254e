/- Any script, with any room: FifoPlays. -/
import Derived.Test.YtjmgdhnjldimgaaPl
namespace Go.Proofs.Ytjmgdhnjldimgaa
open Go.RowKit
set_option linter.unusedVariables false
set_option linter.unusedSimpArgs false
set_option maxRecDepth 100000
theorem ScriptIn.form {W : World} {v : Value} {len : Nat} {ops : Nat → OpD} (h : ScriptIn W v len ops) : ∃ a c, v = .slice a len c := by
  rcases h with ⟨rfl, a, c, rfl⟩ | ⟨b, off, cap, rfl, _⟩
  · exact ⟨a, c, rfl⟩
  · exact ⟨_, cap, rfl⟩
theorem played_any (z : Int) (v : Value) (len : Nat) (ops : Nat → OpD) (w : World) (hsc : ScriptIn w v len ops) :
    Calls Try.prog 8 #[.int .i64 z, v] w fun e w' => ∃ pv cs, e = .returned (.tuple #[pv, .agg cs, .bool true]) ∧ Left w w' pv cs := by
  by_cases h1 : z < 1
  · exact played_low z v w h1
  by_cases h2 : 100 < z
  · exact played_high z v w h2
  obtain ⟨r, rfl⟩ : ∃ r : Nat, z = r := ⟨z.toNat, by omega⟩
  obtain ⟨a, c, rfl⟩ := hsc.form
  exact played_in r (by omega) (by omega) a len c ops w hsc
set_option maxHeartbeats 2000000 in
theorem plays_core (W : World) (z : Int) (hz : (Lit.int .i64 z).wf = true) (v : Value) (len : Nat) (ops : Nat → OpD) (hsc : ScriptIn W v len ops) : Calls Try.prog 3 #[.int .i64 z, v] W fun e w' => e = .returned (.bool true) ∧ Below W.heap.size W w' := by
  have HS : Hid (ScriptIn W v len ops) := hsc
  obtain ⟨a, c, rfl⟩ := hsc.form
  clear hsc hz
  go_enter Try.func3, Try.ntmps3
  go_wp2_with fail
  refine (awake_any _).mono ?_
  rintro e w1 ⟨rfl, b1⟩
  have B1 : Hid (Below W.heap.size W w1) := b1
  clear b1
  go_upto_region 3 with fail
  refine wp_region_list ?_
  (refine wpList_step (fun KK hKK => ?_); go_simp; refine hKK _ _ ?_; clear hKK KK)
  (refine wpList_step (fun KK hKK => ?_); go_simp; refine hKK _ _ ?_; clear hKK KK)
  refine wpList_step (fun KK hKK => ?_)
  go_simp
  refine (played_any z _ len ops _ (HS.out.up B1.out)).mono ?_
  rintro e w2 ⟨pv, cs, rfl, hs, h1, hb, hor⟩
  have X : Hid (cs.size = 4 ∧ cs.all (·.oneCell') = true ∧ Below W.heap.size W w2) := ⟨hs, h1, B1.out.trans (hb.mono B1.out.size)⟩
  clear hs h1 hb
  have hp : ∃ ad, pv = .pointer ad := by
    rcases hor with h | ⟨fb, g, d, K, va, vc, h, _⟩
    · exact ⟨_, h⟩
    · exact ⟨_, h⟩
  obtain ⟨ad, hv⟩ := hp
  subst hv
  clear hor B1 HS
  refine hKK _ _ ?_
  clear hKK KK
  (refine wpList_step (fun KK hKK => ?_); go_simp; refine hKK _ _ ?_; clear hKK KK)
  refine wpList_extract_at rfl _ _ _ _ rfl rfl rfl ?_
  refine wpList_extract_at rfl _ _ _ _ rfl rfl rfl ?_
  refine wpList_extract_at rfl _ _ _ _ rfl rfl rfl ?_
  refine wpList_alloc_zero 28 zeroC 4 zinfo28 rfl rfl ?_
  (refine wpList_step (fun KK hKK => ?_); go_simp; refine hKK _ _ ?_; clear hKK KK)
  refine wpList_store28c rfl _ _ rfl w2.heap.size cs zeroC X.out.1 X.out.2.1 rfl rfl (Box.new 28 w2 _) rfl ?_
  intro W3 B3 U3
  have Y : Hid (Below W.heap.size W W3) := (X.out.2.2.alloc X.out.2.2.size _).trans (U3.below X.out.2.2.size (by have := X.out.2.2.size; simp; omega))
  clear B3 U3 X
  go_wp2
  go_ret
  exact ⟨rfl, Y.out⟩
end Go.Proofs.Ytjmgdhnjldimgaa
