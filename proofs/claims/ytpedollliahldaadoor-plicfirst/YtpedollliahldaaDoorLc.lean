/- The statements' common beginning; the laws PlicPlays and PlicAgain. -/
import Derived.Test.YtpedollliahldaaDoorPl
namespace Go.Proofs.YtpedollliahldaaDoor
open Go.RowKit
set_option linter.unusedVariables false
set_option linter.unusedSimpArgs false
set_option maxRecDepth 100000
theorem OpsIn.step {W W' : World} {v : Value} {len : Nat} {os : Nat → Int × Int × Int × Bool × Nat × Nat} (h : OpsIn W v len os) (hb : Below W.heap.size W W') : OpsIn W' v len os := by
  rcases h with h | ⟨b, off, cap, h1, h2, h3⟩
  · exact .inl h
  · exact .inr ⟨b, off, cap, h1, Nat.lt_of_lt_of_le h2 hb.size, fun i hi => ⟨fun j hj => by rw [hb.cell (p := ⟨b, off + (i * 6 + j), none⟩) h2]; exact (h3 i hi).1 j hj, (h3 i hi).2⟩⟩
/-- a state of its own -/
def Bg (w V : World) (fb : Nat) (S : St) : Prop := Box 28 V fb (progC S) ∧ Below w.heap.size w V ∧ TabLies V ∧ w.heap.size ≤ fb ∧ fb ≠ 0
section
variable {w V V' : World} {fb : Nat} {S S2 : St}
theorem Bg.step (h : Bg w V fb S) (hb : Below V.heap.size V V') : Bg w V' fb S := ⟨h.1.step hb, below2 h.2.1 hb, h.2.2.1.step hb, h.2.2.2⟩
theorem Bg.upon (h : Bg w V fb S) (hx : Box 28 V' fb (progC S2)) (hu : Upon fb V V') : Bg w V' fb S2 := ⟨hx, h.2.1.trans (hu.below h.2.2.2.1 h.2.1.size), h.2.2.1.upon hu h.2.2.2.2, h.2.2.2⟩
end
theorem bg_doc (w2 : World) : Box 34 ((w2.alloc (.cells (progC zeroS) 28)).alloc (.cells (docC zeroS) 34)) (w2.heap.size + 1) (docC zeroS) := by
  have h := Box.new 34 (w2.alloc (.cells (progC zeroS) 28)) (docC zeroS)
  rw [show (w2.alloc (.cells (progC zeroS) 28)).heap.size = w2.heap.size + 1 from by simp] at h
  exact h
theorem bg_new {w w2 W3 W4 : World} {S : St} (hb : Below w.heap.size w w2) (ht : TabLies w) (B3 : Box 28 W3 w2.heap.size (progC S)) (U3 : Upon w2.heap.size ((w2.alloc (.cells (progC zeroS) 28)).alloc (.cells (docC zeroS) 34)) W3) (U4 : Upon (w2.heap.size + 1) W3 W4) : Bg w W4 w2.heap.size S := by
  have b1 := hb.alloc hb.size (.cells (progC zeroS) 28)
  have b2 := b1.alloc b1.size (.cells (docC zeroS) 34)
  have b3 := b2.trans (U3.below hb.size b2.size)
  have b4 := b3.trans (U4.below (Nat.le_succ_of_le hb.size) b3.size)
  have h0 := ht.lt
  have h1 := hb.size
  exact ⟨U4.box B3 (by omega), b4, ht.step b4, h1, by omega⟩
set_option maxHeartbeats 2000000 in
theorem plays_core (av : Option Addr) (len cap : Nat) (os : Nat → Int × Int × Int × Bool × Nat × Nat)  (w : World) (ht : TabLies w) (hos : OpsIn w (.slice av len cap) len os) : Calls Tryd.prog 3 #[.slice av len cap] w fun e w' => e = .returned (.bool true) ∧ Below w.heap.size w w' := by
  have HO : Hid (OpsIn w (.slice av len cap) len os) := hos
  have HT : Hid (TabLies w) := ht
  clear hos ht
  go_enter Tryd.func3, Tryd.ntmps3
  go_wp2_with fail
  refine (awake_any _ HT.out).mono ?_
  rintro e w0 ⟨rfl, hb0⟩
  have Z0 : Hid (Below w.heap.size w w0) := hb0
  clear hb0
  go_upto_region 3 with fail
  refine wp_region_list ?_
  (refine wpList_step (fun KK hKK => ?_); go_simp; refine hKK _ _ ?_; clear hKK KK)
  refine wpList_step (fun KK hKK => ?_)
  go_simp
  refine (played_any av len cap os w0 (HT.out.step Z0.out) (HO.out.step Z0.out)).mono ?_
  rintro e w2 ⟨S, hS, rfl, hb2⟩
  have Z2 : Hid (Below w.heap.size w w2) := below2 Z0.out hb2
  have HK : Hid S.Ok := hS
  clear hb2 hS Z0
  refine hKK _ _ ?_
  clear hKK KK
  (refine wpList_step (fun KK hKK => ?_); go_simp; refine hKK _ _ ?_; clear hKK KK)
  refine wpList_extract_at rfl _ _ _ _ rfl rfl rfl ?_
  refine wpList_extract_at rfl _ _ _ _ rfl rfl rfl ?_
  refine wpList_extract_at rfl _ _ _ _ rfl rfl rfl ?_
  refine wpList_alloc_zero 28 (progC zeroS) 39 infoz28 rfl rfl ?_
  refine wpList_alloc_zero 34 (docC zeroS) 194 infoz34 rfl rfl ?_
  rw [show (w2.alloc (.cells (progC zeroS) 28)).heap.size = w2.heap.size + 1 from by simp]
  refine wpList_store_prog rfl _ _ rfl w2.heap.size S (progC zeroS) rfl rfl ((Box.new 28 w2 _).alloc _) (by rw [progC_size, progC_size]) ?_
  intro W3 B3 U3
  refine wpList_store_doc rfl _ _ rfl (w2.heap.size + 1) S (docC zeroS) rfl rfl (U3.box (bg_doc w2) (by omega)) (by rw [docC_size, docC_size]) ?_
  intro W4 B4 U4
  have Y0 : Hid (Bg w W4 w2.heap.size S) := bg_new Z2.out HT.out B3 U3 U4
  clear B3 U3 B4 U4 Z2
  generalize w2.heap.size = fb at *
  go_wp2_with fail
  go_ret
  exact ⟨rfl, Y0.out.2.1⟩
theorem shr_bit (x n : Nat) (hx : x < 4294967296) (hn : n < 32) : bits .and .u32 ((x : Int) / 2 ^ (min n 32)) 1 = ((if x.testBit n = true then 1 else 0 : Nat) : Int) := by
  rw [show min n 32 = n from by omega]
  have h1 : x / 2 ^ n < 4294967296 := Nat.lt_of_le_of_lt (Nat.div_le_self _ _) hx
  have h2 : (x : Int) / 2 ^ n = ((x / 2 ^ n : Nat) : Int) := by simp
  have h3 := u32_and_nat (x / 2 ^ n) 1 h1 (by decide)
  rw [h2]
  refine h3.trans ?_
  rw [Nat.and_one_is_mod]
  congr 1
  rw [Nat.testBit_eq_decide_div_mod_eq]
  have : x / 2 ^ n % 2 < 2 := Nat.mod_lt _ (by omega)
  by_cases e : x / 2 ^ n % 2 = 1
  · simp [e]
  · simp [e]; omega
theorem takeS_taken (S : St) (c n : Nat) (hn : firstN S c = n) (h0 : n ≠ 0) : takeS S c = takenS S n := by
  unfold takeS
  rw [hn, if_neg h0]
theorem again_any (S : St) (hS : S.Ok) (c n : Nat) (hn : firstN S c = n) (h0 : n ≠ 0) : (takeS S c).high = S.high ∧ (doneS (takeS S c) c n).waits.testBit n = S.high.testBit n ∧ (doneS (takeS S c) c n).serv.testBit n = false := by
  have hlt := firstN_lt S c
  have hi := firstN_is S c
  rw [hn] at hlt hi
  rcases hi with ⟨hh, _⟩ | ⟨_, h1, h2, h3, _⟩
  · exact absurd hh h0
  have hl : (S.lets c).testBit n = true := by
    unfold letB at h3
    simp at h3
    exact h3.2
  rw [takeS_taken S c n hn h0]
  have hd : doneS (takenS S n) c n = gateS { takenS S n with serv := setB (takenS S n).serv n false } := by
    unfold doneS
    rw [show (takenS S n).lets c = S.lets c from rfl, hl]
    rfl
  rw [hd]
  refine ⟨rfl, ?_, ?_⟩
  · show (gateW { takenS S n with serv := setB (takenS S n).serv n false }).testBit n = _
    rw [testBit_gateW _ (serv_ok (takenS_ok hS n hlt) n false hlt)]
    show ((setB S.waits n false).testBit n || (decide (1 ≤ n) && decide (n < 32) && S.high.testBit n && !(setB (setB S.serv n true) n false).testBit n)) = _
    rw [testBit_setB, if_pos rfl, testBit_setB, if_pos rfl]
    simp [show 1 ≤ n from by omega, hlt]
  · show (setB (takenS S n).serv n false).testBit n = false
    rw [testBit_setB, if_pos rfl]
set_option maxHeartbeats 4000000 in
theorem again_core (av : Option Addr) (len cap : Nat) (os : Nat → Int × Int × Int × Bool × Nat × Nat) (c : Int) (w : World) (ht : TabLies w) (hos : OpsIn w (.slice av len cap) len os) : Calls Tryd.prog 6 #[.slice av len cap, .int .i64 c] w fun e w' => e = .returned (.bool true) ∧ Below w.heap.size w w' := by
  have HO : Hid (OpsIn w (.slice av len cap) len os) := hos
  have HT : Hid (TabLies w) := ht
  clear hos ht
  by_cases hc : c < 0 ∨ 1 < c
  · rcases hc with hc | hc
    · have hc1 : decide (c < 0) = true := by simp; omega
      go_enter Tryd.func6, Tryd.ntmps6
      go_wp2_with fail
      refine (awake_any _ HT.out).mono ?_
      rintro e w0 ⟨rfl, hb0⟩
      have Z0 : Hid (Below w.heap.size w w0) := hb0
      clear hb0
      go_upto_region 3 with fail
      refine wp_region_list ?_
      (refine wpList_step (fun KK hKK => ?_); go_simp; refine hKK _ _ ?_; clear hKK KK)
      refine wpList_step (fun KK hKK => ?_)
      go_simp
      refine (played_any av len cap os w0 (HT.out.step Z0.out) (HO.out.step Z0.out)).mono ?_
      rintro e w2 ⟨S, hS, rfl, hb2⟩
      have Z2 : Hid (Below w.heap.size w w2) := below2 Z0.out hb2
      have HK : Hid S.Ok := hS
      clear hb2 hS Z0
      refine hKK _ _ ?_
      clear hKK KK
      (refine wpList_step (fun KK hKK => ?_); go_simp; refine hKK _ _ ?_; clear hKK KK)
      refine wpList_extract_at rfl _ _ _ _ rfl rfl rfl ?_
      refine wpList_extract_at rfl _ _ _ _ rfl rfl rfl ?_
      refine wpList_extract_at rfl _ _ _ _ rfl rfl rfl ?_
      refine wpList_alloc_zero 28 (progC zeroS) 39 infoz28 rfl rfl ?_
      refine wpList_alloc_zero 34 (docC zeroS) 194 infoz34 rfl rfl ?_
      rw [show (w2.alloc (.cells (progC zeroS) 28)).heap.size = w2.heap.size + 1 from by simp]
      refine wpList_store_prog rfl _ _ rfl w2.heap.size S (progC zeroS) rfl rfl ((Box.new 28 w2 _).alloc _) (by rw [progC_size, progC_size]) ?_
      intro W3 B3 U3
      refine wpList_store_doc rfl _ _ rfl (w2.heap.size + 1) S (docC zeroS) rfl rfl (U3.box (bg_doc w2) (by omega)) (by rw [docC_size, docC_size]) ?_
      intro W4 B4 U4
      have Y0 : Hid (Bg w W4 w2.heap.size S) := bg_new Z2.out HT.out B3 U3 U4
      clear B3 U3 B4 U4 Z2
      generalize w2.heap.size = fb at *
      go_wp2_with fail
      go_ret
      exact ⟨rfl, Y0.out.2.1⟩
    · have hc1 : decide (c < 0) = false := by simp; omega
      have hc2 : decide (1 < c) = true := by simp; omega
      go_enter Tryd.func6, Tryd.ntmps6
      go_wp2_with fail
      refine (awake_any _ HT.out).mono ?_
      rintro e w0 ⟨rfl, hb0⟩
      have Z0 : Hid (Below w.heap.size w w0) := hb0
      clear hb0
      go_upto_region 3 with fail
      refine wp_region_list ?_
      (refine wpList_step (fun KK hKK => ?_); go_simp; refine hKK _ _ ?_; clear hKK KK)
      refine wpList_step (fun KK hKK => ?_)
      go_simp
      refine (played_any av len cap os w0 (HT.out.step Z0.out) (HO.out.step Z0.out)).mono ?_
      rintro e w2 ⟨S, hS, rfl, hb2⟩
      have Z2 : Hid (Below w.heap.size w w2) := below2 Z0.out hb2
      have HK : Hid S.Ok := hS
      clear hb2 hS Z0
      refine hKK _ _ ?_
      clear hKK KK
      (refine wpList_step (fun KK hKK => ?_); go_simp; refine hKK _ _ ?_; clear hKK KK)
      refine wpList_extract_at rfl _ _ _ _ rfl rfl rfl ?_
      refine wpList_extract_at rfl _ _ _ _ rfl rfl rfl ?_
      refine wpList_extract_at rfl _ _ _ _ rfl rfl rfl ?_
      refine wpList_alloc_zero 28 (progC zeroS) 39 infoz28 rfl rfl ?_
      refine wpList_alloc_zero 34 (docC zeroS) 194 infoz34 rfl rfl ?_
      rw [show (w2.alloc (.cells (progC zeroS) 28)).heap.size = w2.heap.size + 1 from by simp]
      refine wpList_store_prog rfl _ _ rfl w2.heap.size S (progC zeroS) rfl rfl ((Box.new 28 w2 _).alloc _) (by rw [progC_size, progC_size]) ?_
      intro W3 B3 U3
      refine wpList_store_doc rfl _ _ rfl (w2.heap.size + 1) S (docC zeroS) rfl rfl (U3.box (bg_doc w2) (by omega)) (by rw [docC_size, docC_size]) ?_
      intro W4 B4 U4
      have Y0 : Hid (Bg w W4 w2.heap.size S) := bg_new Z2.out HT.out B3 U3 U4
      clear B3 U3 B4 U4 Z2
      generalize w2.heap.size = fb at *
      go_wp2_with fail
      go_ret
      exact ⟨rfl, Y0.out.2.1⟩
  obtain ⟨k, rfl⟩ := nat_of (show 0 ≤ c from by omega)
  have HC : Hid (k < 2) := by show k < 2; omega
  have hc1 : ¬ (k : Int) < 0 := by omega
  have hc2 : ¬ 1 < (k : Int) := by omega
  clear hc
  go_enter Tryd.func6, Tryd.ntmps6
  go_wp2_with fail
  refine (awake_any _ HT.out).mono ?_
  rintro e w0 ⟨rfl, hb0⟩
  have Z0 : Hid (Below w.heap.size w w0) := hb0
  clear hb0
  go_upto_region 3 with fail
  refine wp_region_list ?_
  (refine wpList_step (fun KK hKK => ?_); go_simp; refine hKK _ _ ?_; clear hKK KK)
  refine wpList_step (fun KK hKK => ?_)
  go_simp
  refine (played_any av len cap os w0 (HT.out.step Z0.out) (HO.out.step Z0.out)).mono ?_
  rintro e w2 ⟨S, hS, rfl, hb2⟩
  have Z2 : Hid (Below w.heap.size w w2) := below2 Z0.out hb2
  have HK : Hid S.Ok := hS
  clear hb2 hS Z0
  refine hKK _ _ ?_
  clear hKK KK
  (refine wpList_step (fun KK hKK => ?_); go_simp; refine hKK _ _ ?_; clear hKK KK)
  refine wpList_extract_at rfl _ _ _ _ rfl rfl rfl ?_
  refine wpList_extract_at rfl _ _ _ _ rfl rfl rfl ?_
  refine wpList_extract_at rfl _ _ _ _ rfl rfl rfl ?_
  refine wpList_alloc_zero 28 (progC zeroS) 39 infoz28 rfl rfl ?_
  refine wpList_alloc_zero 34 (docC zeroS) 194 infoz34 rfl rfl ?_
  rw [show (w2.alloc (.cells (progC zeroS) 28)).heap.size = w2.heap.size + 1 from by simp]
  refine wpList_store_prog rfl _ _ rfl w2.heap.size S (progC zeroS) rfl rfl ((Box.new 28 w2 _).alloc _) (by rw [progC_size, progC_size]) ?_
  intro W3 B3 U3
  refine wpList_store_doc rfl _ _ rfl (w2.heap.size + 1) S (docC zeroS) rfl rfl (U3.box (bg_doc w2) (by omega)) (by rw [docC_size, docC_size]) ?_
  intro W4 B4 U4
  have Y0 : Hid (Bg w W4 w2.heap.size S) := bg_new Z2.out HT.out B3 U3 U4
  clear B3 U3 B4 U4 Z2
  generalize w2.heap.size = fb at *
  go_wp2_with fail
  refine (take_any fb k HC.out S HK.out _ Y0.out.1 Y0.out.2.2.1).mono ?_
  rintro e w5 ⟨rfl, hB, hU⟩
  have Y1 : Hid (Bg w w5 fb (takeS S k)) := Y0.out.upon hB hU
  clear hB hU Y0
  have HLT : Hid (firstN S k < 32) := firstN_lt S k
  generalize hn : firstN S k = n at *
  by_cases h0 : n = 0
  · subst h0
    clear hn
    go_wp2_with fail
    go_ret
    exact ⟨rfl, Y1.out.2.1⟩
  obtain ⟨r1, r2, r3⟩ := again_any S HK.out k n hn h0
  have hn0 : ((n : Int) == 0) = false := by simp; omega
  have hK1 : (takeS S k).Ok := takeS_ok HK.out k
  have HD : Hid (∀ V, Box 28 V fb (progC (takeS S k)) → Calls Tryd.prog 11 #[.pointer (some ⟨fb, 0, none⟩), .int .i64 (k : Int), .int .i64 (n : Int)] V fun e w' => e = .returned (.tuple #[]) ∧ Box 28 w' fb (progC (doneS (takeS S k) k n)) ∧ Upon fb V w') := fun V h => done_any fb k n HC.out (by omega) HLT.out (takeS S k) hK1 V h
  have hK2 : (doneS (takeS S k) k n).Ok := doneS_ok hK1 k n HLT.out
  have f1 : w5.cell? ⟨fb, 32, none⟩ = some (.int .u32 ((takeS S k).high : Nat)) := Y1.out.1.prog 32 (by omega)
  rw [r1] at f1
  have q1 := shr_bit S.high n HK.out.2.1 HLT.out
  have q2 := shr_bit (doneS (takeS S k) k n).waits n hK2.2.2.1 HLT.out
  have q3 := shr_bit (doneS (takeS S k) k n).serv n hK2.2.2.2.1 HLT.out
  rw [r2] at q2
  rw [r3] at q3
  simp only [Bool.false_eq_true, if_false] at q3
  clear hn r1 r2 r3 hK1 hK2 h0
  generalize doneS (takeS S k) k n = S3 at *
  have GS : Hid (∀ V, Box 28 V fb (progC S3) → V.cell? ⟨fb, 33, none⟩ = some (.int .u32 (S3.waits : Nat)) ∧ V.cell? ⟨fb, 34, none⟩ = some (.int .u32 (S3.serv : Nat))) := fun V h => ⟨h.prog 33 (by omega), h.prog 34 (by omega)⟩
  cases hh : S.high.testBit n
  · rw [hh] at q1 q2
    simp only [Bool.false_eq_true, if_false, if_true] at q1 q2
    clear hh
    go_wp2_with fail
    refine (HD.out _ Y1.out.1).mono ?_
    rintro e w6 ⟨rfl, hB, hU⟩
    have Y2 : Hid (Bg w w6 fb S3) := Y1.out.upon hB hU
    clear hB hU Y1 f1
    obtain ⟨g1, g2⟩ := GS.out _ Y2.out.1
    go_wp2_with fail
    go_ret
    exact ⟨rfl, Y2.out.2.1⟩
  · rw [hh] at q1 q2
    simp only [Bool.false_eq_true, if_false, if_true] at q1 q2
    clear hh
    go_wp2_with fail
    refine (HD.out _ Y1.out.1).mono ?_
    rintro e w6 ⟨rfl, hB, hU⟩
    have Y2 : Hid (Bg w w6 fb S3) := Y1.out.upon hB hU
    clear hB hU Y1 f1
    obtain ⟨g1, g2⟩ := GS.out _ Y2.out.1
    go_wp2_with fail
    go_ret
    exact ⟨rfl, Y2.out.2.1⟩
end Go.Proofs.YtpedollliahldaaDoor
