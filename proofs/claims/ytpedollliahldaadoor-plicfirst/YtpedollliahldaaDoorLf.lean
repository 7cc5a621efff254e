/- The law PlicFirst. -/
import Derived.Test.YtpedollliahldaaDoorLe
namespace Go.Proofs.YtpedollliahldaaDoor
open Go.RowKit
set_option linter.unusedVariables false
set_option linter.unusedSimpArgs false
set_option maxRecDepth 100000
theorem shr_bit2 (x n : Nat) (hx : x < 4294967296) (hn : n < 32) : bits .and .u32 ((x : Int) / 2 ^ n) 1 = ((if x.testBit n = true then 1 else 0 : Nat) : Int) := by
  have h := shr_bit x n hx hn
  rw [show min n 32 = n from by omega] at h
  exact h
/-- the state, and the one that was -/
def Bf (w V : World) (fb r : Nat) (S1 S : St) : Prop := Bg w V fb S1 ∧ Box 28 V r (progC S) ∧ r ≠ fb ∧ w.heap.size ≤ r
theorem Bf.step {w V V' : World} {fb r : Nat} {S1 S : St} (h : Bf w V fb r S1 S) (hb : Below V.heap.size V V') : Bf w V' fb r S1 S := ⟨h.1.step hb, h.2.1.step hb, h.2.2⟩
theorem Bf.upon {w V V' : World} {fb r : Nat} {S1 S S2 : St} (h : Bf w V fb r S1 S) (hx : Box 28 V' fb (progC S2)) (hu : Upon fb V V') : Bf w V' fb r S2 S := ⟨h.1.upon hx hu, hu.box h.2.1 h.2.2.1, h.2.2⟩
theorem Bf.new {w V W' : World} {fb : Nat} {S : St} (h : Bg w V fb S) (B : Box 28 W' V.heap.size (progC S)) (U : Upon V.heap.size (V.alloc (.cells (progC zeroS) 28)) W') : Bf w W' fb V.heap.size S S := by
  have h1 := h.1.lt
  have h2 := h.step ((Below.refl V.heap.size V).alloc (Nat.le_refl _) (.cells (progC zeroS) 28))
  have h3 := h.2.2.2
  have h4 := h.2.1.size
  exact ⟨⟨U.box h2.1 (by omega), h2.2.1.trans (U.below h4 h2.2.1.size), h2.2.2.1.upon U (by omega), h3⟩, B, by omega, h4⟩
theorem first_facts (S : St) (c k : Nat) (h1 : 1 ≤ k) (hk : k < 32) : (letB S c k = (S.waits.testBit k && (S.lets c).testBit k)) ∧ (letB S c k = false ∨ S.prio k = 0 → firstN S c ≠ k) ∧ (letB S c k = true → S.prio k ≠ 0 → firstN S c ≠ 0 ∧ (S.prio k < S.prio (firstN S c) ∨ (S.prio k = S.prio (firstN S c) ∧ firstN S c ≤ k))) := by
  refine ⟨by simp [letB, h1], fun h e => ?_, fun h hp => ?_⟩
  · rcases firstN_is S c with ⟨hh, _⟩ | ⟨_, _, _, h3, h4, _⟩
    · omega
    · rw [e] at h3 h4
      rcases h with h | h
      · rw [h] at h3; cases h3
      · omega
  · rcases firstN_is S c with ⟨hh, h2⟩ | ⟨h0, _, _, h3, h4, h5⟩
    · exact absurd (h2 k h1 hk h) hp
    · exact ⟨h0, h5 k h1 hk h⟩
set_option maxHeartbeats 8000000 in
theorem first_core (av : Option Addr) (len cap : Nat) (os : Nat → Int × Int × Int × Bool × Nat × Nat) (c : Int) (w : World) (ht : TabLies w) (hos : OpsIn w (.slice av len cap) len os) : Calls Tryd.prog 5 #[.slice av len cap, .int .i64 c] w fun e w' => e = .returned (.bool true) ∧ Below w.heap.size w w' := by
  have HO : Hid (OpsIn w (.slice av len cap) len os) := hos
  have HT : Hid (TabLies w) := ht
  clear hos ht
  by_cases hc : c < 0 ∨ 1 < c
  · rcases hc with hc | hc
    · have hc1 : decide (c < 0) = true := by simp; omega
      go_enter Tryd.func5, Tryd.ntmps5
      go_wp2_with fail
      refine (awake_any _ HT.out).mono ?_
      rintro e w0 ⟨rfl, hb0⟩
      have Z0 : Hid (Below w.heap.size w w0) := hb0
      clear hb0
      go_upto_region 3 with fail
      refine wp_region_list ?_
      (refine wpList_step (fun KK hKK => ?_); go_simp; refine hKK _ _ ?_; clear hKK KK)
      refine wpList_step (fun KK hKK => ?_)
      go_simp
      refine (played_any av len cap os w0 (HT.out.step Z0.out) (HO.out.step Z0.out)).mono ?_
      rintro e w2 ⟨S, hS, rfl, hb2⟩
      have Z2 : Hid (Below w.heap.size w w2) := below2 Z0.out hb2
      have HK : Hid S.Ok := hS
      clear hb2 hS Z0
      refine hKK _ _ ?_
      clear hKK KK
      (refine wpList_step (fun KK hKK => ?_); go_simp; refine hKK _ _ ?_; clear hKK KK)
      refine wpList_extract_at rfl _ _ _ _ rfl rfl rfl ?_
      refine wpList_extract_at rfl _ _ _ _ rfl rfl rfl ?_
      refine wpList_extract_at rfl _ _ _ _ rfl rfl rfl ?_
      refine wpList_alloc_zero 28 (progC zeroS) 39 infoz28 rfl rfl ?_
      refine wpList_alloc_zero 34 (docC zeroS) 194 infoz34 rfl rfl ?_
      rw [show (w2.alloc (.cells (progC zeroS) 28)).heap.size = w2.heap.size + 1 from by simp]
      refine wpList_store_prog rfl _ _ rfl w2.heap.size S (progC zeroS) rfl rfl ((Box.new 28 w2 _).alloc _) (by rw [progC_size, progC_size]) ?_
      intro W3 B3 U3
      refine wpList_store_doc rfl _ _ rfl (w2.heap.size + 1) S (docC zeroS) rfl rfl (U3.box (bg_doc w2) (by omega)) (by rw [docC_size, docC_size]) ?_
      intro W4 B4 U4
      have Y0 : Hid (Bg w W4 w2.heap.size S) := bg_new Z2.out HT.out B3 U3 U4
      clear B3 U3 B4 U4 Z2
      generalize w2.heap.size = fb at *
      go_wp2_with fail
      go_ret
      exact ⟨rfl, Y0.out.2.1⟩
    · have hc1 : decide (c < 0) = false := by simp; omega
      have hc2 : decide (1 < c) = true := by simp; omega
      go_enter Tryd.func5, Tryd.ntmps5
      go_wp2_with fail
      refine (awake_any _ HT.out).mono ?_
      rintro e w0 ⟨rfl, hb0⟩
      have Z0 : Hid (Below w.heap.size w w0) := hb0
      clear hb0
      go_upto_region 3 with fail
      refine wp_region_list ?_
      (refine wpList_step (fun KK hKK => ?_); go_simp; refine hKK _ _ ?_; clear hKK KK)
      refine wpList_step (fun KK hKK => ?_)
      go_simp
      refine (played_any av len cap os w0 (HT.out.step Z0.out) (HO.out.step Z0.out)).mono ?_
      rintro e w2 ⟨S, hS, rfl, hb2⟩
      have Z2 : Hid (Below w.heap.size w w2) := below2 Z0.out hb2
      have HK : Hid S.Ok := hS
      clear hb2 hS Z0
      refine hKK _ _ ?_
      clear hKK KK
      (refine wpList_step (fun KK hKK => ?_); go_simp; refine hKK _ _ ?_; clear hKK KK)
      refine wpList_extract_at rfl _ _ _ _ rfl rfl rfl ?_
      refine wpList_extract_at rfl _ _ _ _ rfl rfl rfl ?_
      refine wpList_extract_at rfl _ _ _ _ rfl rfl rfl ?_
      refine wpList_alloc_zero 28 (progC zeroS) 39 infoz28 rfl rfl ?_
      refine wpList_alloc_zero 34 (docC zeroS) 194 infoz34 rfl rfl ?_
      rw [show (w2.alloc (.cells (progC zeroS) 28)).heap.size = w2.heap.size + 1 from by simp]
      refine wpList_store_prog rfl _ _ rfl w2.heap.size S (progC zeroS) rfl rfl ((Box.new 28 w2 _).alloc _) (by rw [progC_size, progC_size]) ?_
      intro W3 B3 U3
      refine wpList_store_doc rfl _ _ rfl (w2.heap.size + 1) S (docC zeroS) rfl rfl (U3.box (bg_doc w2) (by omega)) (by rw [docC_size, docC_size]) ?_
      intro W4 B4 U4
      have Y0 : Hid (Bg w W4 w2.heap.size S) := bg_new Z2.out HT.out B3 U3 U4
      clear B3 U3 B4 U4 Z2
      generalize w2.heap.size = fb at *
      go_wp2_with fail
      go_ret
      exact ⟨rfl, Y0.out.2.1⟩
  obtain ⟨c, rfl⟩ := nat_of (show 0 ≤ c from by omega)
  have HC : Hid (c < 2) := by show c < 2; omega
  have hc1 : ¬ (c : Int) < 0 := by omega
  have hc2 : ¬ 1 < (c : Int) := by omega
  have hc3 : (c : Int) < 2 := by omega
  clear hc
  go_enter Tryd.func5, Tryd.ntmps5
  go_wp2_with fail
  refine (awake_any _ HT.out).mono ?_
  rintro e w0 ⟨rfl, hb0⟩
  have Z0 : Hid (Below w.heap.size w w0) := hb0
  clear hb0
  go_upto_region 3 with fail
  refine wp_region_list ?_
  (refine wpList_step (fun KK hKK => ?_); go_simp; refine hKK _ _ ?_; clear hKK KK)
  refine wpList_step (fun KK hKK => ?_)
  go_simp
  refine (played_any av len cap os w0 (HT.out.step Z0.out) (HO.out.step Z0.out)).mono ?_
  rintro e w2 ⟨S, hS, rfl, hb2⟩
  have Z2 : Hid (Below w.heap.size w w2) := below2 Z0.out hb2
  have HK : Hid S.Ok := hS
  clear hb2 hS Z0
  refine hKK _ _ ?_
  clear hKK KK
  (refine wpList_step (fun KK hKK => ?_); go_simp; refine hKK _ _ ?_; clear hKK KK)
  refine wpList_extract_at rfl _ _ _ _ rfl rfl rfl ?_
  refine wpList_extract_at rfl _ _ _ _ rfl rfl rfl ?_
  refine wpList_extract_at rfl _ _ _ _ rfl rfl rfl ?_
  refine wpList_alloc_zero 28 (progC zeroS) 39 infoz28 rfl rfl ?_
  refine wpList_alloc_zero 34 (docC zeroS) 194 infoz34 rfl rfl ?_
  rw [show (w2.alloc (.cells (progC zeroS) 28)).heap.size = w2.heap.size + 1 from by simp]
  refine wpList_store_prog rfl _ _ rfl w2.heap.size S (progC zeroS) rfl rfl ((Box.new 28 w2 _).alloc _) (by rw [progC_size, progC_size]) ?_
  intro W3 B3 U3
  refine wpList_store_doc rfl _ _ rfl (w2.heap.size + 1) S (docC zeroS) rfl rfl (U3.box (bg_doc w2) (by omega)) (by rw [docC_size, docC_size]) ?_
  intro W4 B4 U4
  have Y0 : Hid (Bg w W4 w2.heap.size S) := bg_new Z2.out HT.out B3 U3 U4
  clear B3 U3 B4 U4 Z2
  generalize w2.heap.size = fb at *
  go_upto_region 6 with fail
  refine wp_region_list ?_
  refine wpList_load_prog rfl _ rfl fb S rfl Y0.out.1 ?_
  refine wpList_alloc_zero 28 (progC zeroS) 39 infoz28 rfl rfl ?_
  refine wpList_store_prog rfl _ _ rfl W4.heap.size S (progC zeroS) rfl rfl (Box.new 28 W4 _) (by rw [progC_size, progC_size]) ?_
  intro W5 B5 U5
  have Y1 : Hid (Bf w W5 fb W4.heap.size S S) := Bf.new Y0.out B5 U5
  clear B5 U5 Y0
  generalize W4.heap.size = r at *
  go_wp2_with fail
  refine (take_any fb c HC.out S HK.out _ Y1.out.1.1 Y1.out.1.2.2.1).mono ?_
  rintro e w6 ⟨rfl, hB, hU⟩
  have Y2 : Hid (Bf w w6 fb r (takeS S c) S) := Y1.out.upon hB hU
  clear hB hU Y1
  have HF : Hid (∀ k, 1 ≤ k → k < 32 → (letB S c k = (S.waits.testBit k && (S.lets c).testBit k)) ∧ (letB S c k = false ∨ S.prio k = 0 → firstN S c ≠ k) ∧ (letB S c k = true → S.prio k ≠ 0 → firstN S c ≠ 0 ∧ (S.prio k < S.prio (firstN S c) ∨ (S.prio k = S.prio (firstN S c) ∧ firstN S c ≤ k)))) := fun k h1 h2 => first_facts S c k h1 h2
  have HL : Hid (firstN S c < 32) := firstN_lt S c
  have HZ : Hid (firstN S c = 0 → takeS S c = S) := fun h => by unfold takeS; rw [if_pos h]
  generalize firstN S c = n at *
  generalize takeS S c = S1 at *
  have hn1 : ¬ (n : Int) < 0 := by omega
  have hn2 : ¬ 31 < (n : Int) := by have := HL.out; have : n < 32 := this; omega
  have hn3 : (n : Int) < 32 := by have := HL.out; have : n < 32 := this; omega
  go_wp2_with fail
  go_loopw [10] (fun i wr => ∃ k : Nat, 1 ≤ k ∧ k ≤ 32 ∧ i = .int .i64 k ∧ Bf w wr fb r S1 S) (fun i _ => 32 - (intOf i).toNat)
  case atStart => exact ⟨1, by omega, by omega, rfl, Y2.out⟩
  case round =>
    obtain ⟨k, hk1, hk, rfl, hX⟩ := hrel
    have Y : Hid (Bf w wr fb r S1 S) := hX
    clear hX Y2
    by_cases hlt : k < 32
    case neg =>
      obtain rfl : k = 32 := by omega
      clear hlt hk hk1
      by_cases h0 : n = 0
      · have hs : S1 = S := HZ.out h0
        subst h0
        have Y9 : Hid (Bf w wr fb r S S) := by
          have h := Y.out
          rw [hs] at h
          exact h
        clear Y hs HZ HF
        go_upto_region 18 with fail
        refine wp_region_list ?_
        (refine wpList_step (fun KK hKK => ?_); go_simp; refine hKK _ _ ?_; clear hKK KK)
        (refine wpList_step (fun KK hKK => ?_); go_simp; refine hKK _ _ ?_; clear hKK KK)
        (refine wpList_step (fun KK hKK => ?_); go_simp; refine hKK _ _ ?_; clear hKK KK)
        refine wpList_load_progG (by first | rfl | kernel_rfl) _ rfl fb S rfl Y9.out.1.1 ?_
        refine wpList_load_progG (by first | rfl | kernel_rfl) _ rfl r S rfl Y9.out.2.1 ?_
        refine wpList_eq_progG (by first | rfl | kernel_rfl) _ _ _ rfl S rfl rfl ?_
        go_wp2_with fail
        go_ret
        exact ⟨rfl, Y9.out.1.2.1⟩
      · have hp : 0 < (n : Int) := by omega
        have hp2 : decide (0 < n) = true := by simp; omega
        clear h0 HZ HF
        go_wp2_with fail
        go_ret
        exact ⟨rfl, Y.out.1.2.1⟩
    obtain ⟨hlet, hno, hyes⟩ := HF.out k hk1 hlt
    have HB : Hid (1 ≤ k ∧ k < 32) := ⟨hk1, hlt⟩
    have f2 : wr.cell? ⟨r, 33, none⟩ = some (.int .u32 (S.waits : Nat)) := Y.out.2.1.prog 33 (by omega)
    have f4 := Y.out.2.1.lets c HC.out
    have f0 := Y.out.2.1.prio k hlt
    have fn := Y.out.2.1.prio n HL.out
    have hki : (k : Int) < 32 := by omega
    have q1 := shr_bit2 S.waits k HK.out.2.2.1 hlt
    have q2 := shr_bit2 (S.lets c) k (HK.out.2.2.2.2.1 c) hlt
    cases e1 : S.waits.testBit k
    · rw [e1] at q1 hlet
      have hne : ((n : Int) == (k : Int)) = false := by have := hno (.inl (by rw [hlet]; rfl)); simp; omega
      have hne2 : (n == k) = false := by have := hno (.inl (by rw [hlet]; rfl)); simp; omega
      simp only [Bool.false_eq_true, if_false, if_true] at q1
      clear hlet hno hyes e1 hk hk1 hlt q2 f4 f0 fn HF HZ
      go_wp2_with fail
      go_roundw
      case rel => exact ⟨k + 1, by omega, HB.out.2, by go_num, Y.out⟩
      case measure => simp [intOf]; have := HB.out.2; omega
    rw [e1] at q1 hlet
    simp only [Bool.false_eq_true, if_false, if_true] at q1
    clear e1
    cases e2 : (S.lets c).testBit k
    · rw [e2] at q2 hlet
      have hne : ((n : Int) == (k : Int)) = false := by have := hno (.inl (by rw [hlet]; rfl)); simp; omega
      have hne2 : (n == k) = false := by have := hno (.inl (by rw [hlet]; rfl)); simp; omega
      simp only [Bool.false_eq_true, if_false, if_true] at q2
      clear hlet hno hyes e2 hk hk1 hlt f0 fn HF HZ
      go_wp2_with fail
      go_roundw
      case rel => exact ⟨k + 1, by omega, HB.out.2, by go_num, Y.out⟩
      case measure => simp [intOf]; have := HB.out.2; omega
    rw [e2] at q2 hlet
    simp only [Bool.false_eq_true, if_false, if_true] at q2
    clear e2
    by_cases e3 : S.prio k = 0
    · have hne : ((n : Int) == (k : Int)) = false := by have := hno (.inr e3); simp; omega
      have hne2 : (n == k) = false := by have := hno (.inr e3); simp; omega
      rw [e3] at f0
      clear hlet hno hyes e3 hk hk1 hlt fn HF HZ
      go_wp2_with fail
      go_roundw
      case rel => exact ⟨k + 1, by omega, HB.out.2, by go_num, Y.out⟩
      case measure => simp [intOf]; have := HB.out.2; omega
    obtain ⟨hn0, hcmp⟩ := hyes (by rw [hlet]; rfl) e3
    have hp0 : ((S.prio k : Nat) : Int) ≠ 0 := by omega
    have hp1 : (((S.prio k : Nat) : Int) == 0) = false := by simp; omega
    have hp2 : (S.prio k == 0) = false := by simp; omega
    have hz1 : ((n : Int) == 0) = false := by simp; omega
    have hz2 : (n == 0) = false := by simp; omega
    have hg1 : ¬ (S.prio n : Int) < (S.prio k : Nat) := by omega
    have hg2 : decide (S.prio n < S.prio k) = false := by simp; omega
    by_cases e5 : S.prio k = S.prio n
    · have hle : n ≤ k := by omega
      have hs1 : ¬ (k : Int) < (n : Int) := by omega
      have hs2 : decide (k < n) = false := by simp; omega
      have heq : (((S.prio k : Nat) : Int) == ((S.prio n : Nat) : Int)) = true := by simp; omega
      have heq2 : (S.prio k == S.prio n) = true := by simp; omega
      clear hlet hno hyes hcmp e3 e5 hn0 hle hk hk1 hlt HF HZ
      go_wp2_with fail
      go_quiet (fail)
      go_wp2_with fail
      go_roundw
      case rel => exact ⟨k + 1, by omega, HB.out.2, by go_num, Y.out.step (below_drewN' (Below.refl _ _) _)⟩
      case measure => simp [intOf]; have := HB.out.2; omega
    · have heq : (((S.prio k : Nat) : Int) == ((S.prio n : Nat) : Int)) = false := by simp; omega
      have heq2 : (S.prio k == S.prio n) = false := by simp; omega
      clear hlet hno hyes hcmp e3 e5 hn0 hk hk1 hlt HF HZ
      go_wp2_with fail
      go_quiet (fail)
      go_wp2_with fail
      go_roundw
      case rel => exact ⟨k + 1, by omega, HB.out.2, by go_num, Y.out.step (below_drewN' (Below.refl _ _) _)⟩
      case measure => simp [intOf]; have := HB.out.2; omega
end Go.Proofs.YtpedollliahldaaDoor
