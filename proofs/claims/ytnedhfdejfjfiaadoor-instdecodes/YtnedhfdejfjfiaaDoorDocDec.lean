/- The document's call Decode of layer 3. -/
import Derived.Test.YtnedhfdejfjfiaaDoorDocGuess
namespace Go.Proofs.YtnedhfdejfjfiaaDoor
open Go.RowKit
set_option linter.unusedVariables false
set_option linter.unusedSimpArgs false
/-- the trial at an operation comes out false -/
def TryNo (x i : Nat) : Prop := ∃ (op rd ra rb im cs : Int) (aq rl : Bool), (∀ w, Calls Tryd.prog 41 #[.int .i64 ((i : Int) + 1), .int .u64 (x : Int)] w fun e w' => e = .returned (.agg (instrC op rd ra rb im cs aq rl)) ∧ Below w.heap.size w w') ∧ ((∀ w, Calls Tryd.prog 11 #[.agg (instrC op rd ra rb im cs aq rl)] w fun e w' => e = .returned (.bool false) ∧ Below w.heap.size w w') ∨ (∀ w, Calls Tryd.prog 11 #[.agg (instrC op rd ra rb im cs aq rl)] w fun e w' => e = .returned (.bool true) ∧ Below w.heap.size w w') ∧ ∃ y : Nat, y ≠ x ∧ y < 4294967296 ∧ ∀ w, Calls Tryd.prog 13 #[.agg (instrC op rd ra rb im cs aq rl)] w fun e w' => e = .returned (.int .i64 (y : Nat)) ∧ Below w.heap.size w w')
/-- what lies in the world as the document decodes -/
structure DecIn (w wr : World) : Prop where
  below : Below w.heap.size w wr
  box : Box8 wr w.heap.size (instrC 0 0 0 0 0 0 false false)
  rows : RowsAt wr (w.heap.size + 1)
  lt : w.heap.size + 1 < wr.heap.size
theorem DecIn.step {w w1 w2 : World} (h : DecIn w w1) (hb : Below w1.heap.size w1 w2) : DecIn w w2 := ⟨h.below.trans (hb.mono h.below.size), h.box.step hb, h.rows.below hb h.lt, Nat.lt_of_lt_of_le h.lt hb.size⟩
theorem DecIn.alloc {w w1 : World} (h : DecIn w w1) (o : Obj) : DecIn w (w1.alloc o) := h.step ((Below.refl _ _).alloc (Nat.le_refl _) o)
set_option maxRecDepth 100000 in
set_option maxHeartbeats 2000000 in
theorem ddecode_none (x : Nat) (hx : x < 4294967296) (hno : ∀ i, i < 98 → TryNo x i) (w : World) :
    Calls Tryd.prog 15 #[.int .u32 (x : Nat)] w fun e w' => e = .returned (.tuple #[.agg (instrC 0 0 0 0 0 0 false false), .bool false]) ∧ Below w.heap.size w w' := by
  have hxi : decide (4294967296 ≤ (x : Int)) = false := by simp; omega
  have HN : Hid _ := hno
  clear hno
  go_enter Tryd.func15, Tryd.ntmps15
  go_wp2_with fail
  refine (rows_at _).mono ?_
  rintro e w1 ⟨rfl, hb, hl, hr⟩
  have S : Hid (DecIn w w1) := ⟨((Below.refl _ _).alloc (Nat.le_refl _) _).trans (hb.mono (by simp)), (Box8.new w _).step hb, by simpa using hr, by simpa using hl⟩
  clear hb hl hr
  go_wp2
  go_loopw [5] (fun v wr => ∃ i : Nat, i ≤ 98 ∧ v = .int .i64 ((i : Int) + 1) ∧ DecIn w wr) (fun v _ => 100 - (intOf v).toNat)
  case atStart => exact ⟨0, by omega, rfl, S.out⟩
  case round =>
    obtain ⟨i, hi, rfl, hinv⟩ := hrel
    have I : Hid (DecIn w wr) := hinv
    clear hinv S
    by_cases him : i < 98
    · have c2 := (I.out.rows.at5 i (by omega)).2.2.1
      have hki : (i : Int) < 98 := by omega
      by_cases hc : dCode (i + 1) = x % 128
      · have hcb : (((dCode (i + 1) : Nat) : Int) != (x : Int) % 128) = false := by rw [hc]; simp
        have HC : Hid _ := hc
        clear hc
        generalize ((dCode (i + 1) : Nat) : Int) = code at *
        obtain ⟨op, rd, ra, rb, im, cs, aq, rl, hG, hR⟩ := HN.out i (by omega)
        have G : Hid _ := hG
        have R : Hid _ := hR
        clear hG hR
        go_wp2_with fail
        refine (G.out _).mono ?_
        rintro e w2 ⟨rfl, hb⟩
        have I2 : Hid (DecIn w w2) := I.out.step hb
        have X2 : Hid (Box8 (w2.alloc (.cells (instrC op rd ra rb im cs aq rl) 23)) w2.heap.size (instrC op rd ra rb im cs aq rl)) := Box8.new w2 _
        have I3 : Hid (DecIn w (w2.alloc (.cells (instrC op rd ra rb im cs aq rl) 23))) := I2.out.alloc _
        clear hb
        rcases R.out with r | ⟨r, y, hy, hyl, hw⟩
        · have RR : Hid _ := r
          clear r
          go_wp2_with fail
          refine (RR.out _).mono ?_
          rintro e w4 ⟨rfl, hb⟩
          have I4 : Hid (DecIn w w4) := I3.out.step hb
          clear hb
          go_wp2
          go_roundw
          case rel => exact ⟨i + 1, by omega, by go_num, I4.out⟩
          case measure => simp [intOf]; omega
        · have RR : Hid _ := r
          have RW : Hid _ := hw
          have hyb : ((y : Int) == (x : Int)) = false := by simp; omega
          have hyi : (y : Int) < 4294967296 := by omega
          clear r hw hy hyl
          go_wp2_with fail
          refine (RR.out _).mono ?_
          rintro e w4 ⟨rfl, hb⟩
          have I4 : Hid (DecIn w w4) := I3.out.step hb
          have X4 : Hid (Box8 w4 w2.heap.size (instrC op rd ra rb im cs aq rl)) := X2.out.step hb
          obtain ⟨q0, q1, q2, q3, q4, q5, q6, q7⟩ := box8_facts X4.out
          clear hb
          go_wp2_with fail
          refine (RW.out _).mono ?_
          rintro e w5 ⟨rfl, hb⟩
          have I5 : Hid (DecIn w w5) := I4.out.step hb
          clear hb
          go_wp2
          go_roundw
          case rel => exact ⟨i + 1, by omega, by go_num, I5.out⟩
          case measure => simp [intOf]; omega
      · have hcb : (((dCode (i + 1) : Nat) : Int) != (x : Int) % 128) = true := by simp; omega
        have HC : Hid _ := hc
        clear hc
        generalize ((dCode (i + 1) : Nat) : Int) = code at *
        go_wp2
        go_roundw
        case rel => exact ⟨i + 1, by omega, by go_num, I.out⟩
        case measure => simp [intOf]; omega
    · have hki : ¬ ((i : Int) < 98) := by omega
      obtain ⟨y0, y1, y2, y3, y4, y5, y6, y7⟩ := box8_facts I.out.box
      have v0 := box8_frozen I.out.box 0
      have v1 := box8_frozen I.out.box 1
      have v2 := box8_frozen I.out.box 2
      have v3 := box8_frozen I.out.box 3
      have v4 := box8_frozen I.out.box 4
      have v5 := box8_frozen I.out.box 5
      have v6 := box8_frozen I.out.box 6
      have v7 := box8_frozen I.out.box 7
      go_wp2
      refine bodyPost_ret (v := .tuple #[.agg (instrC 0 0 0 0 0 0 false false), .bool false]) (by simp [results, Tryd.results15, go_sem, y0, y1, y2, y3, y4, y5, y6, y7]) rfl ⟨rfl, ?_⟩
      iterate 8 (refine Below.setCell ?_ (by exact Nat.le_refl _) _)
      exact I.out.below
set_option maxRecDepth 100000 in
set_option maxHeartbeats 2000000 in
theorem ddecode_hit (x m : Nat) (hx : x < 4294967296) (hm : m < 98) (hno : ∀ i, i < m → TryNo x i) (hcm : dCode (m + 1) = x % 128) (op rd ra rb im cs : Int) (aq rl : Bool)
    (hG : ∀ w, Calls Tryd.prog 41 #[.int .i64 ((m : Int) + 1), .int .u64 (x : Int)] w fun e w' => e = .returned (.agg (instrC op rd ra rb im cs aq rl)) ∧ Below w.heap.size w w')
    (hR : ∀ w, Calls Tryd.prog 11 #[.agg (instrC op rd ra rb im cs aq rl)] w fun e w' => e = .returned (.bool true) ∧ Below w.heap.size w w')
    (hW : ∀ w, Calls Tryd.prog 13 #[.agg (instrC op rd ra rb im cs aq rl)] w fun e w' => e = .returned (.int .i64 (x : Nat)) ∧ Below w.heap.size w w') (w : World) :
    Calls Tryd.prog 15 #[.int .u32 (x : Nat)] w fun e w' => e = .returned (.tuple #[.agg (instrC op rd ra rb im cs aq rl), .bool true]) ∧ Below w.heap.size w w' := by
  have HG : Hid _ := hG
  have HR : Hid _ := hR
  have HW : Hid _ := hW
  have HCM : Hid _ := hcm
  clear hG hR hW hcm
  have hxi : decide (4294967296 ≤ (x : Int)) = false := by simp; omega
  have HN : Hid _ := hno
  clear hno
  go_enter Tryd.func15, Tryd.ntmps15
  go_wp2_with fail
  refine (rows_at _).mono ?_
  rintro e w1 ⟨rfl, hb, hl, hr⟩
  have S : Hid (DecIn w w1) := ⟨((Below.refl _ _).alloc (Nat.le_refl _) _).trans (hb.mono (by simp)), (Box8.new w _).step hb, by simpa using hr, by simpa using hl⟩
  clear hb hl hr
  go_wp2
  go_loopw [5] (fun v wr => ∃ i : Nat, i ≤ m ∧ v = .int .i64 ((i : Int) + 1) ∧ DecIn w wr) (fun v _ => 100 - (intOf v).toNat)
  case atStart => exact ⟨0, by omega, rfl, S.out⟩
  case round =>
    obtain ⟨i, hi, rfl, hinv⟩ := hrel
    have I : Hid (DecIn w wr) := hinv
    clear hinv S
    by_cases him : i < m
    · have c2 := (I.out.rows.at5 i (by omega)).2.2.1
      have hki : (i : Int) < 98 := by omega
      by_cases hc : dCode (i + 1) = x % 128
      · have hcb : (((dCode (i + 1) : Nat) : Int) != (x : Int) % 128) = false := by rw [hc]; simp
        have HC : Hid _ := hc
        clear hc
        generalize ((dCode (i + 1) : Nat) : Int) = code at *
        obtain ⟨op1, rd1, ra1, rb1, im1, cs1, aq1, rl1, hG, hR⟩ := HN.out i (by omega)
        have G : Hid _ := hG
        have R : Hid _ := hR
        clear hG hR
        go_wp2_with fail
        refine (G.out _).mono ?_
        rintro e w2 ⟨rfl, hb⟩
        have I2 : Hid (DecIn w w2) := I.out.step hb
        have X2 : Hid (Box8 (w2.alloc (.cells (instrC op1 rd1 ra1 rb1 im1 cs1 aq1 rl1) 23)) w2.heap.size (instrC op1 rd1 ra1 rb1 im1 cs1 aq1 rl1)) := Box8.new w2 _
        have I3 : Hid (DecIn w (w2.alloc (.cells (instrC op1 rd1 ra1 rb1 im1 cs1 aq1 rl1) 23))) := I2.out.alloc _
        clear hb
        rcases R.out with r | ⟨r, y, hy, hyl, hw⟩
        · have RR : Hid _ := r
          clear r
          go_wp2_with fail
          refine (RR.out _).mono ?_
          rintro e w4 ⟨rfl, hb⟩
          have I4 : Hid (DecIn w w4) := I3.out.step hb
          clear hb
          go_wp2
          go_roundw
          case rel => exact ⟨i + 1, by omega, by go_num, I4.out⟩
          case measure => simp [intOf]; omega
        · have RR : Hid _ := r
          have RW : Hid _ := hw
          have hyb : ((y : Int) == (x : Int)) = false := by simp; omega
          have hyi : (y : Int) < 4294967296 := by omega
          clear r hw hy hyl
          go_wp2_with fail
          refine (RR.out _).mono ?_
          rintro e w4 ⟨rfl, hb⟩
          have I4 : Hid (DecIn w w4) := I3.out.step hb
          have X4 : Hid (Box8 w4 w2.heap.size (instrC op1 rd1 ra1 rb1 im1 cs1 aq1 rl1)) := X2.out.step hb
          obtain ⟨q0, q1, q2, q3, q4, q5, q6, q7⟩ := box8_facts X4.out
          clear hb
          go_wp2_with fail
          refine (RW.out _).mono ?_
          rintro e w5 ⟨rfl, hb⟩
          have I5 : Hid (DecIn w w5) := I4.out.step hb
          clear hb
          go_wp2
          go_roundw
          case rel => exact ⟨i + 1, by omega, by go_num, I5.out⟩
          case measure => simp [intOf]; omega
      · have hcb : (((dCode (i + 1) : Nat) : Int) != (x : Int) % 128) = true := by simp; omega
        have HC : Hid _ := hc
        clear hc
        generalize ((dCode (i + 1) : Nat) : Int) = code at *
        go_wp2
        go_roundw
        case rel => exact ⟨i + 1, by omega, by go_num, I.out⟩
        case measure => simp [intOf]; omega
    · obtain rfl : i = m := by omega
      have c2 := (I.out.rows.at5 i (by omega)).2.2.1
      have hki : (i : Int) < 98 := by omega
      have hcb : (((dCode (i + 1) : Nat) : Int) != (x : Int) % 128) = false := by rw [HCM.out]; simp
      generalize ((dCode (i + 1) : Nat) : Int) = code at *
      go_wp2_with fail
      refine (HG.out _).mono ?_
      rintro e w2 ⟨rfl, hb⟩
      have I2 : Hid (DecIn w w2) := I.out.step hb
      have X2 : Hid (Box8 (w2.alloc (.cells (instrC op rd ra rb im cs aq rl) 23)) w2.heap.size (instrC op rd ra rb im cs aq rl)) := Box8.new w2 _
      have I3 : Hid (DecIn w (w2.alloc (.cells (instrC op rd ra rb im cs aq rl) 23))) := I2.out.alloc _
      clear hb
      go_wp2_with fail
      refine (HR.out _).mono ?_
      rintro e w4 ⟨rfl, hb⟩
      have I4 : Hid (DecIn w w4) := I3.out.step hb
      have X4 : Hid (Box8 w4 w2.heap.size (instrC op rd ra rb im cs aq rl)) := X2.out.step hb
      obtain ⟨q0, q1, q2, q3, q4, q5, q6, q7⟩ := box8_facts X4.out
      clear hb
      go_wp2_with fail
      refine (HW.out _).mono ?_
      rintro e w5 ⟨rfl, hb⟩
      have I5 : Hid (DecIn w w5) := I4.out.step hb
      have X5 : Hid (Box8 w5 w2.heap.size (instrC op rd ra rb im cs aq rl)) := X4.out.step hb
      obtain ⟨q0, q1, q2, q3, q4, q5, q6, q7⟩ := box8_facts X5.out
      obtain ⟨y0, y1, y2, y3, y4, y5, y6, y7⟩ := box8_facts I5.out.box
      have v0 := box8_frozen I5.out.box 0
      have v1 := box8_frozen I5.out.box 1
      have v2 := box8_frozen I5.out.box 2
      have v3 := box8_frozen I5.out.box 3
      have v4 := box8_frozen I5.out.box 4
      have v5 := box8_frozen I5.out.box 5
      have v6 := box8_frozen I5.out.box 6
      have v7 := box8_frozen I5.out.box 7
      have ne1 : w.heap.size ≠ w2.heap.size := Nat.ne_of_lt (Nat.lt_trans (Nat.lt_succ_self _) I2.out.lt)
      have ne2 : w2.heap.size ≠ w.heap.size := ne1.symm
      clear hb
      go_wp2
      refine bodyPost_ret (v := .tuple #[.agg (instrC op rd ra rb im cs aq rl), .bool true]) (by simp [results, Tryd.results15, go_sem, y0, y1, y2, y3, y4, y5, y6, y7]) rfl ⟨rfl, ?_⟩
      iterate 8 (refine Below.setCell ?_ (by exact Nat.le_refl _) _)
      exact I5.out.below
end Go.Proofs.YtnedhfdejfjfiaaDoor
