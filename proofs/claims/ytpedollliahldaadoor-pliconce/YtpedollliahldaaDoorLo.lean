/- The law PlicOnce. -/
import Derived.Test.YtpedollliahldaaDoorLc
namespace Go.Proofs.YtpedollliahldaaDoor
open Go.RowKit
set_option linter.unusedVariables false
set_option linter.unusedSimpArgs false
set_option maxRecDepth 100000
/-- a source that is being served, and doesn't wait -/
def Servd (S : St) (n : Nat) : Prop := S.waits.testBit n = false ∧ S.serv.testBit n = true
theorem servd_new (S : St) (c n : Nat) (hn : firstN S c = n) (h0 : n ≠ 0) : Servd (takeS S c) n := by
  rw [takeS_taken S c n hn h0]
  exact ⟨by show (setB S.waits n false).testBit n = false; rw [testBit_setB, if_pos rfl], by show (setB S.serv n true).testBit n = true; rw [testBit_setB, if_pos rfl]⟩
theorem servd_not {S : St} {n : Nat} (h : Servd S n) (h0 : n ≠ 0) (c : Nat) : firstN S c ≠ n := by
  intro e
  rcases firstN_is S c with ⟨hh, _⟩ | ⟨_, _, _, h3, _⟩
  · omega
  · rw [e] at h3
    unfold letB at h3
    rw [h.1] at h3
    simp at h3
theorem servd_take {S : St} {n : Nat} (h : Servd S n) (h0 : n ≠ 0) (c : Nat) : Servd (takeS S c) n := by
  have hne := servd_not h h0 c
  unfold takeS
  split
  · exact h
  · exact ⟨by show (setB S.waits (firstN S c) false).testBit n = false; rw [testBit_setB, if_neg (Ne.symm hne)]; exact h.1, by show (setB S.serv (firstN S c) true).testBit n = true; rw [testBit_setB, if_neg (Ne.symm hne)]; exact h.2⟩
theorem servd_line {S : St} {n : Nat} (hS : S.Ok) (h : Servd S n) (k : Nat) (hk : k < 32) (v : Bool) : Servd (lineS S k v) n := by
  unfold lineS
  split
  · refine ⟨?_, h.2⟩
    show (gateW { S with high := setB S.high k true }).testBit n = false
    rw [testBit_gateW _ (high_ok hS k true hk)]
    show (S.waits.testBit n || (decide (1 ≤ n) && decide (n < 32) && (setB S.high k true).testBit n && !S.serv.testBit n)) = false
    rw [h.1, h.2]
    simp
  · exact h
/-- Take of any number: what it tells isn't a source that is being served -/
theorem take_other (S : St) (hS : S.Ok) (n : Nat) (h : Servd S n) (h0 : n ≠ 0) (fb : Nat) (c : Int) : ∃ (S2 : St) (x : Nat), S2.Ok ∧ Servd S2 n ∧ x ≠ n ∧ ∀ V, Box 28 V fb (progC S) → TabLies V → Calls Tryd.prog 9 #[.pointer (some ⟨fb, 0, none⟩), .int .i64 c] V fun e w' => e = .returned (.int .i64 (x : Nat)) ∧ Box 28 w' fb (progC S2) ∧ Upon fb V w' := by
  cases hc : (decide (0 ≤ c) && decide (c < 2))
  · exact ⟨S, 0, hS, h, Ne.symm h0, fun V hx _ => same_in hx (take_no fb c hc V)⟩
  · simp at hc
    obtain ⟨k, rfl⟩ := nat_of hc.1
    exact ⟨takeS S k, firstN S k, takeS_ok hS k, servd_take h h0 k, servd_not h h0 k, fun V hx ht => take_any fb k (by omega) S hS V hx ht⟩
theorem line_other (S : St) (hS : S.Ok) (n : Nat) (h : Servd S n) (fb : Nat) (k : Int) (v : Bool) : ∃ S2 : St, S2.Ok ∧ Servd S2 n ∧ ∀ V, Box 28 V fb (progC S) → Calls Tryd.prog 10 #[.pointer (some ⟨fb, 0, none⟩), .int .i64 k, .bool v] V fun e w' => e = .returned (.tuple #[]) ∧ Box 28 w' fb (progC S2) ∧ Upon fb V w' := by
  cases hc : (decide (1 ≤ k) && decide (k < 32))
  · exact ⟨S, hS, h, fun V hx => same_in hx (line_no fb k v hc V)⟩
  · simp at hc
    obtain ⟨j, rfl⟩ := nat_of (show 0 ≤ k from by omega)
    exact ⟨lineS S j v, lineS_ok hS j v (by omega), servd_line hS h j (by omega) v, fun V hx => line_any fb j v (by omega) (by omega) S hS V hx⟩
/-- .. and a call in a block of its own -/
def Bo (w V : World) (fb r : Nat) (S : St) (O : Array Value) : Prop := Bg w V fb S ∧ Box 41 V r O ∧ r ≠ fb ∧ w.heap.size ≤ r
theorem Bo.new {w V : World} {fb : Nat} {S : St} (h : Bg w V fb S) (O : Array Value) : Bo w (V.alloc (.cells O 41)) fb V.heap.size S O := by
  have := h.1.lt
  exact ⟨h.step ((Below.refl _ _).alloc (Nat.le_refl _) _), Box.new 41 V O, by omega, h.2.1.size⟩
theorem Bo.upon {w V V' : World} {fb r : Nat} {S S2 : St} {O : Array Value} (h : Bo w V fb r S O) (hx : Box 28 V' fb (progC S2)) (hu : Upon fb V V') : Bo w V' fb r S2 O := ⟨h.1.upon hx hu, hu.box h.2.1 h.2.2.1, h.2.2⟩
set_option maxHeartbeats 8000000 in
theorem once_core (av : Option Addr) (len cap : Nat) (os : Nat → Int × Int × Int × Bool × Nat × Nat) (av2 : Option Addr) (len2 cap2 : Nat) (os2 : Nat → Int × Int × Int × Bool × Nat × Nat) (w : World) (ht : TabLies w) (hos : OpsIn w (.slice av len cap) len os) (HO2 : OpsIn w (.slice av2 len2 cap2) len2 os2) : Calls Tryd.prog 4 #[.slice av len cap, .slice av2 len2 cap2] w fun e w' => e = .returned (.bool true) ∧ Below w.heap.size w w' := by
  have HO : Hid (OpsIn w (.slice av len cap) len os) := hos
  have HT : Hid (TabLies w) := ht
  clear hos ht
  have HOx : Hid (OpsIn w (.slice av2 len2 cap2) len2 os2) := HO2
  clear HO2
  go_enter Tryd.func4, Tryd.ntmps4
  go_wp2_with fail
  refine (awake_any _ HT.out).mono ?_
  rintro e w0 ⟨rfl, hb0⟩
  have Z0 : Hid (Below w.heap.size w w0) := hb0
  clear hb0
  go_upto_region 3 with fail
  refine wp_region_list ?_
  (refine wpList_step (fun KK hKK => ?_); go_simp; refine hKK _ _ ?_; clear hKK KK)
  refine wpList_step (fun KK hKK => ?_)
  go_simp
  refine (played_any av len cap os w0 (HT.out.step Z0.out) (HO.out.step Z0.out)).mono ?_
  rintro e w2 ⟨S, hS, rfl, hb2⟩
  have Z2 : Hid (Below w.heap.size w w2) := below2 Z0.out hb2
  have HK : Hid S.Ok := hS
  clear hb2 hS Z0
  refine hKK _ _ ?_
  clear hKK KK
  (refine wpList_step (fun KK hKK => ?_); go_simp; refine hKK _ _ ?_; clear hKK KK)
  refine wpList_extract_at rfl _ _ _ _ rfl rfl rfl ?_
  refine wpList_extract_at rfl _ _ _ _ rfl rfl rfl ?_
  refine wpList_extract_at rfl _ _ _ _ rfl rfl rfl ?_
  refine wpList_alloc_zero 28 (progC zeroS) 39 infoz28 rfl rfl ?_
  refine wpList_alloc_zero 34 (docC zeroS) 194 infoz34 rfl rfl ?_
  rw [show (w2.alloc (.cells (progC zeroS) 28)).heap.size = w2.heap.size + 1 from by simp]
  refine wpList_store_prog rfl _ _ rfl w2.heap.size S (progC zeroS) rfl rfl ((Box.new 28 w2 _).alloc _) (by rw [progC_size, progC_size]) ?_
  intro W3 B3 U3
  refine wpList_store_doc rfl _ _ rfl (w2.heap.size + 1) S (docC zeroS) rfl rfl (U3.box (bg_doc w2) (by omega)) (by rw [docC_size, docC_size]) ?_
  intro W4 B4 U4
  have Y0 : Hid (Bg w W4 w2.heap.size S) := bg_new Z2.out HT.out B3 U3 U4
  clear B3 U3 B4 U4 Z2
  generalize w2.heap.size = fb at *
  go_wp2_with fail
  refine (take_any fb 0 (by decide) S HK.out _ Y0.out.1 Y0.out.2.2.1).mono ?_
  rintro e w5 ⟨rfl, hB, hU⟩
  have Y1 : Hid (Bg w w5 fb (takeS S 0)) := Y0.out.upon hB hU
  clear hB hU Y0
  have HO2' : Hid (OpsIn w (.slice av2 len2 cap2) len2 os2) := HOx.out
  have HS1 : Hid (firstN S 0 ≠ 0 → Servd (takeS S 0) (firstN S 0)) := fun h => servd_new S 0 _ rfl h
  have HK1 : Hid (takeS S 0).Ok := takeS_ok HK.out 0
  generalize takeS S 0 = S1 at *
  generalize firstN S 0 = n at *
  by_cases h0 : n = 0
  · subst h0
    go_wp2_with fail
    go_ret
    exact ⟨rfl, Y1.out.2.1⟩
  have hn0 : ((n : Int) == 0) = false := by simp; omega
  have HN : Hid (n ≠ 0) := h0
  have HSv : Hid (Servd S1 n) := HS1.out h0
  clear h0 HS1 HK
  go_wp2_with fail
  go_loopw [9] (fun i wr => ∃ (j : Nat) (S : St), j ≤ len2 ∧ j ≤ 30 ∧ i = .int .i64 j ∧ (S.Ok ∧ Servd S n) ∧ Bg w wr fb S) (fun i _ => 30 - (intOf i).toNat)
  case atStart => exact ⟨0, S1, by omega, by omega, rfl, ⟨HK1.out, HSv.out⟩, Y1.out⟩
  case round =>
    clear Y1 HK1 HSv
    obtain ⟨j, S, hj, hj6, rfl, hS, hX⟩ := hrel
    have X : Hid (Bg w wr fb S) := hX
    have HS : Hid (S.Ok ∧ Servd S n) := hS
    clear hX hS
    have FIN : Hid (∀ V, Bg w V fb S → ∃ S2 x, x ≠ n ∧ (S2.Ok ∧ Servd S2 n) ∧ Calls Tryd.prog 9 #[.pointer (some ⟨fb, 0, none⟩), .int .i64 0] V fun e w' => e = .returned (.int .i64 ((x : Nat) : Int)) ∧ Bg w w' fb S2) := fun V hV => by
      obtain ⟨S2, x, q1, q2, q3, q4⟩ := take_other S HS.out.1 n HS.out.2 HN.out fb 0
      refine ⟨S2, x, q3, ⟨q1, q2⟩, (q4 V hV.1 hV.2.2.1).mono ?_⟩
      rintro e w' ⟨rfl, hB, hU⟩
      exact ⟨rfl, hV.upon hB hU⟩
    by_cases hlt : j < len2
    case neg =>
      have hl1 : ¬ (j : Int) < (len2 : Int) := by omega
      obtain ⟨S2, x, q1, q2, q3⟩ := FIN.out wr X.out
      obtain ⟨S3, y, r1, r2, r3, r4⟩ := take_other S2 q2.1 n q2.2 HN.out fb 1
      have hx1 : ((x : Int) != (n : Int)) = true := by simp; omega
      have hx2 : (x != n) = true := by simp; omega
      have hy1 : ((y : Int) != (n : Int)) = true := by simp; omega
      have hy2 : (y != n) = true := by simp; omega
      have HR : Hid (∀ V, Box 28 V fb (progC S2) → TabLies V → Calls Tryd.prog 9 #[.pointer (some ⟨fb, 0, none⟩), .int .i64 1] V fun e w' => e = .returned (.int .i64 (y : Nat)) ∧ Box 28 w' fb (progC S3) ∧ Upon fb V w') := r4
      clear r1 r2 r3 r4 q1 q2 hj hj6 FIN
      go_wp2_with fail
      refine q3.mono ?_
      clear q3
      rintro e w7 ⟨rfl, hY⟩
      have Y2 : Hid (Bg w w7 fb S2) := hY
      clear hY X
      go_wp2_with fail
      refine (HR.out _ Y2.out.1 Y2.out.2.2.1).mono ?_
      rintro e w8 ⟨rfl, hB, hU⟩
      have Y3 : Hid (Bg w w8 fb S3) := Y2.out.upon hB hU
      clear hB hU
      go_wp2_with fail
      go_ret
      exact ⟨rfl, Y3.out.2.1⟩
    have hl1 : (j : Int) < (len2 : Int) := by omega
    by_cases h60 : j < 30
    case neg =>
      have hl2 : ¬ (j : Int) < 30 := by omega
      obtain ⟨S2, x, q1, q2, q3⟩ := FIN.out wr X.out
      obtain ⟨S3, y, r1, r2, r3, r4⟩ := take_other S2 q2.1 n q2.2 HN.out fb 1
      have hx1 : ((x : Int) != (n : Int)) = true := by simp; omega
      have hx2 : (x != n) = true := by simp; omega
      have hy1 : ((y : Int) != (n : Int)) = true := by simp; omega
      have hy2 : (y != n) = true := by simp; omega
      have HR : Hid (∀ V, Box 28 V fb (progC S2) → TabLies V → Calls Tryd.prog 9 #[.pointer (some ⟨fb, 0, none⟩), .int .i64 1] V fun e w' => e = .returned (.int .i64 (y : Nat)) ∧ Box 28 w' fb (progC S3) ∧ Upon fb V w') := r4
      clear r1 r2 r3 r4 q1 q2 hj hj6 FIN
      go_wp2_with fail
      refine q3.mono ?_
      clear q3
      rintro e w7 ⟨rfl, hY⟩
      have Y2 : Hid (Bg w w7 fb S2) := hY
      clear hY X
      go_wp2_with fail
      refine (HR.out _ Y2.out.1 Y2.out.2.2.1).mono ?_
      rintro e w8 ⟨rfl, hB, hU⟩
      have Y3 : Hid (Bg w w8 fb S3) := Y2.out.upon hB hU
      clear hB hU
      go_wp2_with fail
      go_ret
      exact ⟨rfl, Y3.out.2.1⟩
    have hl2 : (j : Int) < 30 := by omega
    clear FIN
    rcases HO2'.out with ⟨h0, _⟩ | ⟨sb, off, cp, hv, hbW, hcs⟩
    · omega
    simp only [Value.slice.injEq] at hv
    obtain ⟨rfl, -, rfl⟩ := hv
    obtain ⟨hce, ha, hv⟩ := hcs j hlt
    have e0 := hce 0 (by omega)
    have e1 := hce 1 (by omega)
    have e2 := hce 2 (by omega)
    have e3 := hce 3 (by omega)
    have e4 := hce 4 (by omega)
    have e5 := hce 5 (by omega)
    clear hce hcs
    generalize hq1 : (os2 j).1 = kd at *
    generalize hq2 : (os2 j).2.1 = k at *
    generalize hq3 : (os2 j).2.2.1 = m at *
    generalize hq4 : (os2 j).2.2.2.1 = hi at *
    generalize hq5 : (os2 j).2.2.2.2.1 = a at *
    generalize hq6 : (os2 j).2.2.2.2.2 = v at *
    clear hq1 hq2 hq3 hq4 hq5 hq6
    simp only [List.getElem?_cons_zero, List.getElem?_cons_succ] at e0 e1 e2 e3 e4 e5
    have f0 : wr.cell? ⟨sb, off + j * 6, none⟩ = some (.int .i64 kd) := (X.out.2.1.cell (p := ⟨sb, off + j * 6, none⟩) hbW).trans e0
    have f1 : wr.cell? ⟨sb, off + j * 6 + 1, none⟩ = some (.int .i64 k) := (X.out.2.1.cell (p := ⟨sb, off + j * 6 + 1, none⟩) hbW).trans e1
    have f2 : wr.cell? ⟨sb, off + j * 6 + 2, none⟩ = some (.int .i64 m) := (X.out.2.1.cell (p := ⟨sb, off + j * 6 + 2, none⟩) hbW).trans e2
    have f3 : wr.cell? ⟨sb, off + j * 6 + 3, none⟩ = some (.bool hi) := (X.out.2.1.cell (p := ⟨sb, off + j * 6 + 3, none⟩) hbW).trans e3
    have f4 : wr.cell? ⟨sb, off + j * 6 + 4, none⟩ = some (.int .u64 (a : Int)) := (X.out.2.1.cell (p := ⟨sb, off + j * 6 + 4, none⟩) hbW).trans e4
    have f5 : wr.cell? ⟨sb, off + j * 6 + 5, none⟩ = some (.int .u64 (v : Int)) := (X.out.2.1.cell (p := ⟨sb, off + j * 6 + 5, none⟩) hbW).trans e5
    clear e0 e1 e2 e3 e4 e5 ha hv
    have HJ : Hid (j + 1 ≤ len2 ∧ j + 1 ≤ 30) := ⟨hlt, h60⟩
    have Y : Hid (Bo w (wr.alloc (.cells #[.int .i64 kd, .int .i64 k, .int .i64 m, .bool hi, .int .u64 (a : Int), .int .u64 (v : Int)] 41)) fb wr.heap.size S #[.int .i64 kd, .int .i64 k, .int .i64 m, .bool hi, .int .u64 (a : Int), .int .u64 (v : Int)]) := Bo.new X.out _
    clear hlt h60 hj hj6 hbW HO2' HO
    go_upto_region 13 with fail
    clear f0 f1 f2 f3 f4 f5 X
    generalize wr.alloc (.cells #[.int .i64 kd, .int .i64 k, .int .i64 m, .bool hi, .int .u64 (a : Int), .int .u64 (v : Int)] 41) = w6 at *
    generalize wr.heap.size = r at *
    have c0 := Y.out.2.1.cell 0 _ rfl
    have c1 := Y.out.2.1.cell 1 _ rfl
    have c3 := Y.out.2.1.cell 3 _ rfl
    by_cases k2 : kd = 2
    · subst k2
      go_wp2_with fail
      go_roundw
      case rel => exact ⟨j + 1, S, HJ.out.1, HJ.out.2, by go_num, HS.out, Y.out.1⟩
      case measure => simp [intOf]; have := HJ.out.2; omega
    have k2e : (kd == 2) = false := by simp; omega
    by_cases k4 : kd = 4
    · subst k4
      go_wp2_with fail
      go_roundw
      case rel => exact ⟨j + 1, S, HJ.out.1, HJ.out.2, by go_num, HS.out, Y.out.1⟩
      case measure => simp [intOf]; have := HJ.out.2; omega
    have k4e : (kd == 4) = false := by simp; omega
    by_cases k1 : kd = 1
    · subst k1
      obtain ⟨S2, x, q1, q2, q3, q4⟩ := take_other S HS.out.1 n HS.out.2 HN.out fb k
      have HQ : Hid (∀ V, Box 28 V fb (progC S) → TabLies V → Calls Tryd.prog 9 #[.pointer (some ⟨fb, 0, none⟩), .int .i64 k] V fun e w' => e = .returned (.int .i64 (x : Nat)) ∧ Box 28 w' fb (progC S2) ∧ Upon fb V w') := q4
      have HS2 : Hid (S2.Ok ∧ Servd S2 n) := ⟨q1, q2⟩
      have hxn : ((x : Int) == (n : Int)) = false := by simp; omega
      have hxn2 : (x == n) = false := by simp; omega
      clear q1 q2 q3 q4 k2 k4 k2e k4e HS c3
      go_wp2_with fail
      refine (HQ.out _ Y.out.1.1 Y.out.1.2.2.1).mono ?_
      rintro e w7 ⟨rfl, hB, hU⟩
      have Y2 : Hid (Bo w w7 fb r S2 #[.int .i64 1, .int .i64 k, .int .i64 m, .bool hi, .int .u64 (a : Int), .int .u64 (v : Int)]) := Y.out.upon hB hU
      clear hB hU Y c0 c1
      have d0 := Y2.out.2.1.cell 0 _ rfl
      go_wp2_with fail
      go_roundw
      case rel => exact ⟨j + 1, S2, HJ.out.1, HJ.out.2, by go_num, HS2.out, Y2.out.1⟩
      case measure => simp [intOf]; have := HJ.out.2; omega
    have k1e : (kd == 1) = false := by simp; omega
    by_cases k0 : kd = 0
    · subst k0
      obtain ⟨S2, q1, q2, q4⟩ := line_other S HS.out.1 n HS.out.2 fb k hi
      have HQ : Hid (∀ V, Box 28 V fb (progC S) → Calls Tryd.prog 10 #[.pointer (some ⟨fb, 0, none⟩), .int .i64 k, .bool hi] V fun e w' => e = .returned (.tuple #[]) ∧ Box 28 w' fb (progC S2) ∧ Upon fb V w') := q4
      have HS2 : Hid (S2.Ok ∧ Servd S2 n) := ⟨q1, q2⟩
      clear q1 q2 q4 k2 k4 k1 k2e k4e k1e HS
      go_wp2_with fail
      refine (HQ.out _ Y.out.1.1).mono ?_
      rintro e w7 ⟨rfl, hB, hU⟩
      have Y2 : Hid (Bg w w7 fb S2) := Y.out.1.upon hB hU
      clear hB hU Y c0 c1 c3
      go_wp2_with fail
      go_roundw
      case rel => exact ⟨j + 1, S2, HJ.out.1, HJ.out.2, by go_num, HS2.out, Y2.out⟩
      case measure => simp [intOf]; have := HJ.out.2; omega
    have k0e : (kd == 0) = false := by simp; omega
    clear k0 k1 k2 k4
    go_wp2_with fail
    go_roundw
    case rel => exact ⟨j + 1, S, HJ.out.1, HJ.out.2, by go_num, HS.out, Y.out.1⟩
    case measure => simp [intOf]; have := HJ.out.2; omega
end Go.Proofs.YtpedollliahldaaDoor
