/- The statement on Decode: it answers as the document's Decode. -/
import Derived.Test.YtnedhfdejfjfiaaDoorDocDec
namespace Go.Proofs.YtnedhfdejfjfiaaDoor
open Go.RowKit
set_option linter.unusedVariables false
set_option linter.unusedSimpArgs false
set_option maxHeartbeats 1000000 in
theorem decodes_walk (x : Nat) (op rd ra rb im cs : Int) (aq rl : Bool) (en : Int) (ok : Bool) (hen : en = 0 ∧ ok = true ∨ en = 31 ∧ ok = false) (W : World) (ht : Tabs W)
    (hD : ∀ w, Tabs w → Calls Tryd.prog 14 #[.int .u32 (x : Nat)] w fun e w' => e = .returned (.tuple #[.agg (instrC op rd ra rb im cs aq rl), .int .i64 en]) ∧ Below w.heap.size w w')
    (hE : ∀ w, Calls Tryd.prog 15 #[.int .u32 (x : Nat)] w fun e w' => e = .returned (.tuple #[.agg (instrC op rd ra rb im cs aq rl), .bool ok]) ∧ Below w.heap.size w w') :
    Calls Tryd.prog 4 #[.int .u32 (x : Nat)] W fun e w' => e = .returned (.bool true) ∧ Below W.heap.size W w' := by
  have T : Hid (Tabs W) := ht
  have HD : Hid _ := hD
  have HE : Hid _ := hE
  clear ht hD hE
  rcases hen with ⟨rfl, rfl⟩ | ⟨rfl, rfl⟩ <;>
  (go_enter Tryd.func4, Tryd.ntmps4
   go_wp2_with fail
   refine (awake_any _ T.out).mono ?_
   rintro e w1 ⟨rfl, hb⟩
   have B1 : Hid (Below W.heap.size W w1) := hb
   clear hb
   go_wp2_with fail
   refine (HD.out _ (T.out.below B1.out)).mono ?_
   rintro e w2 ⟨rfl, hb⟩
   have B2 : Hid (Below W.heap.size W w2) := B1.out.trans (hb.mono B1.out.size)
   have B3 : Hid (Below W.heap.size W (w2.alloc (.cells (instrC op rd ra rb im cs aq rl) 23))) := B2.out.alloc B2.out.size _
   have X3 : Hid (Box8 (w2.alloc (.cells (instrC op rd ra rb im cs aq rl) 23)) w2.heap.size (instrC op rd ra rb im cs aq rl)) := Box8.new w2 _
   clear hb
   go_wp2_with fail
   refine (HE.out _).mono ?_
   rintro e w4 ⟨rfl, hb⟩
   have B4 : Hid (Below W.heap.size W w4) := B3.out.trans (hb.mono B3.out.size)
   have X4 : Hid (Box8 w4 w2.heap.size (instrC op rd ra rb im cs aq rl)) := X3.out.step hb
   obtain ⟨q0, q1, q2, q3, q4, q5, q6, q7⟩ := box8_facts X4.out
   have l4 : w2.heap.size < w4.heap.size := X4.out.lt
   have ne1 : w2.heap.size ≠ w4.heap.size := Nat.ne_of_lt l4
   have ne2 : w4.heap.size ≠ w2.heap.size := ne1.symm
   clear hb
   go_wp2
   go_ret
   exact ⟨by first | rfl | simp, B4.out.alloc B4.out.size _⟩)
theorem tryno_of (x i : Nat) (hx : x < 4294967296) (hi : i < 98) (hh : hit x (i + 1) = false) : TryNo x i := by
  have hg := fun w => guess_any (i + 1) x hx (by omega) (by omega) w
  rw [show ((i + 1 : Nat) : Int) = (i : Int) + 1 from by omega] at hg
  exact ⟨_, _, _, _, _, _, _, _, hg, try_no x (i + 1) hx (by omega) (by omega) hh⟩
/-- the statement on Decode -/
theorem decodes_core (a : Int) (wf : (Lit.int .u32 a).wf = true) (W : World) (ht : Tabs W) :
    Calls Tryd.prog 4 #[.int .u32 a] W fun e w' => e = .returned (.bool true) ∧ Below W.heap.size W w' := by
  have b := bounds_u32 wf
  obtain ⟨x, rfl⟩ : ∃ x : Nat, a = x := ⟨a.toNat, by omega⟩
  have hx : x < 4294967296 := by omega
  by_cases h : ∃ o, 1 ≤ o ∧ o < 99 ∧ hit x o = true
  · obtain ⟨o, h1, h2, hh⟩ := h
    obtain ⟨m, rfl⟩ : ∃ m, o = m + 1 := ⟨o - 1, by omega⟩
    have hfew : ∀ j, 1 ≤ j → j < m + 1 → hit x j = false := fun j j1 j2 => by
      cases hj : hit x j
      · rfl
      · have := hit_one _ j (m + 1) (by omega) h2 j1 h1 hj hh; omega
    have hg := fun w => guess_any (m + 1) x hx h1 h2 w
    rw [show ((m + 1 : Nat) : Int) = (m : Int) + 1 from by omega] at hg
    obtain ⟨t1, t2⟩ := try_hit x (m + 1) hx h1 h2 hh
    exact decodes_walk x _ _ _ _ _ _ _ _ 0 true (.inl ⟨rfl, rfl⟩) W ht (fun w t => decode_hit x (m + 1) hx h1 h2 hh hfew w t) (fun w => ddecode_hit x m hx (by omega) (fun i hi => tryno_of x i hx (by omega) (hfew (i + 1) (by omega) (by omega))) (hit_code x (m + 1) h1 h2 hh) _ _ _ _ _ _ _ _ hg t1 t2 w)
  · have hnone : ∀ j, 1 ≤ j → j < 99 → hit x j = false := fun j j1 j2 => by
      cases hj : hit x j
      · rfl
      · exact absurd ⟨j, j1, j2, hj⟩ h
    exact decodes_walk x 0 0 0 0 0 0 false false 31 false (.inr ⟨rfl, rfl⟩) W ht (fun w t => decode_none x hx hnone w t) (fun w => ddecode_none x hx (fun i hi => tryno_of x i hx hi (hnone (i + 1) (by omega) (by omega))) w)
end Go.Proofs.YtnedhfdejfjfiaaDoor
