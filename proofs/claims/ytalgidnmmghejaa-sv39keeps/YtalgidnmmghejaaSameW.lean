/- The call Same of layer 2: have two memories the same bytes? -/
import Derived.Test.YtalgidnmmghejaaHuntA
namespace Go.Proofs.Ytalgidnmmghejaa.C
open Go.RowKit Go.Maps
set_option linter.unusedVariables false
theorem not_apart {Ma Mb : Nat → Nat} (h : ∀ k, ¬ Apart Ma Mb k) (a : Nat) : Ma a = Mb a := by
  refine Classical.byContradiction fun hc => h (a / 4096) ⟨a % 4096, Nat.mod_lt _ (by decide), ?_⟩
  rw [show a / 4096 * 4096 + a % 4096 = a from by omega]
  exact hc
/-- are two lists of no numbers? -/
theorem nums_empty {B : Nat} {w : World} {v : Value} {ks : List Nat} (h : Nums B w v ks) : ∃ a c, v = .slice a ks.length c := h.form
set_option maxRecDepth 100000 in
set_option maxHeartbeats 1000000 in
theorem same_any {w : World} {Fa Fb : Nat → Prop} {ra rb size na nb : Nat} {lga lgb : Value} {Ma Mb : Nat → Nat} (ha : RamAt w Fa ra size na lga Ma) (hb : RamAt w Fb rb size nb lgb Mb) (hs : 0 < size) (hna : na ≤ 1000000) (hnb : nb ≤ 1000000) (p1 p2 : Nat) (hS : ∀ k, Apart Ma Mb k → k = p1 ∨ k = p2) (r : Bool) (hr : r = true ↔ ∀ a, Ma a = Mb a) :
    Calls Try.prog 25 #[.pointer (some ⟨ra, 0, none⟩), .pointer (some ⟨rb, 0, none⟩)] w fun e w' => e = .returned (.bool r) ∧ Below w.heap.size w w' := by
  have A0 : Hid (RamAt w Fa ra size na lga Ma) := ha
  have B0 : Hid (RamAt w Fb rb size nb lgb Mb) := hb
  have U : Hid _ := unlike_any ha hb hs hna hnb p1 p2 hS
  have HR : Hid _ := hr
  clear ha hb hS hr
  go_enter Try.func25, Try.ntmps25
  go_wp2_with fail
  refine (size_any A0.out).mono ?_
  rintro e w' ⟨rfl, hw⟩
  rw [hw]
  clear hw
  go_wp2_with fail
  refine (size_any B0.out).mono ?_
  rintro e w' ⟨rfl, hw⟩
  rw [hw]
  clear hw
  go_wp2_with fail
  refine Calls.mono (by exact U.out) ?_
  rintro e w1 ⟨v, ks, rfl, hn, hp, hk, hl, hb⟩
  obtain ⟨av, cv, rfl⟩ := hn.form
  have E : Hid (_ ∧ _) := ⟨hk, hb⟩
  clear hn hp hk hl hb
  go_wp2
  go_ret
  refine ⟨?_, E.out.2⟩
  have : r = ((ks.length : Int) == 0) := by
    rw [Bool.eq_iff_iff, HR.out]
    simp
    constructor
    · intro h
      match ks, E.out.1 with
      | [], _ => rfl
      | k :: r, hk =>
        obtain ⟨i, hi, hne⟩ := (hk k).1 (by simp)
        exact absurd (h _) hne
    · intro h a
      refine not_apart (fun k hk => ?_) a
      have := (E.out.1 k).2 hk
      rw [h] at this
      simp at this
  rw [this]
  rfl
end Go.Proofs.Ytalgidnmmghejaa.C
