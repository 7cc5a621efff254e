/- The program's calls Mret and Sret of layer 9. -/
import Derived.Test.YtdljceeoofhfnaaTe
namespace Go.Proofs.Ytdljceeoofhfnaa
open Go.RowKit Go.Maps
set_option linter.unusedVariables false
set_option linter.unusedSimpArgs false
set_option maxRecDepth 100000
/-- a file of the caller's -/
def Uf (w W : World) (b : Nat) (m : Int) (K : Nat → Nat) : Prop := Box 31 W b (fileC m K) ∧ Upon b w W
section
variable {w W W' : World} {b : Nat} {m : Int} {K : Nat → Nat}
theorem Uf.step (h : Uf w W b m K) (hb : Below W.heap.size W W') : Uf w W' b m K := ⟨h.1.step hb, h.2.trans (Upon.of_below hb)⟩
theorem Uf.file (h : Uf w W b m K) {m2 : Int} {K2 : Nat → Nat} (hb : Box 31 W' b (fileC m2 K2)) (hu : Upon b W W') : Uf w W' b m2 K2 := ⟨hb, h.2.trans hu⟩
theorem Uf.mode (h : Uf w W b m K) (x : Int) : Uf w (W.setCell ⟨b, 0, none⟩ (.int .i64 x)) b x K := h.file (by rw [← mode_fileC m x K]; exact h.1.set 0 _) ((Upon.refl _ _).set 0 _)
end
theorem supIf_any (bb : Bool) (w : World) : Calls Try.prog 39 #[.bool bb] w fun e w' => e = .returned (.int .i64 (flN bb : Nat)) ∧ w' = w := by
  cases bb
  · go_enter Try.func39, Try.ntmps39
    go_wp2
    go_ret
    exact ⟨rfl, rfl⟩
  · go_enter Try.func39, Try.ntmps39
    go_wp2
    go_ret
    exact ⟨rfl, rfl⟩
/-- what is kept behind the way back from the machine's mode; from the supervisor's -/
def backK (K : Nat → Nat) : Nat → Nat := keepK (setK (setK K 3 (isB K 7)) 7 true) 0
def backM (K : Nat → Nat) : Nat → Nat := if getN (K 0) 11 2 = 3 then backK K else setK (backK K) 17 false
def backS (K : Nat → Nat) : Nat → Nat := setK (setK (setK (setK K 1 (isB K 5)) 5 true) 8 false) 17 false
theorem backK_ok {K : Nat → Nat} (h : Ok K) : Ok (backK K) := keepK_ok (setK_ok (setK_ok h _ _) _ _) _
theorem backM_ok {K : Nat → Nat} (h : Ok K) : Ok (backM K) := by unfold backM; split; exact backK_ok h; exact setK_ok (backK_ok h) _ _
theorem backS_ok {K : Nat → Nat} (h : Ok K) : Ok (backS K) := setK_ok (setK_ok (setK_ok (setK_ok h _ _) _ _) _ _) _ _
theorem mret_no (m : Int) (hm : m ≠ 3) (K : Nat → Nat) (b : Nat) (w : World) (hB : Box 31 w b (fileC m K)) : Calls Try.prog 17 #[.pointer (some ⟨b, 0, none⟩)] w fun e w' => e = .returned (.tuple #[.int .u64 0, .bool false]) ∧ Below w.heap.size w w' := by
  have c0 : w.cell? ⟨b, 0, none⟩ = some (.int .i64 m) := hB.cell 0 _ rfl
  have h1 : (m != 3) = true := by simp [hm]
  clear hB
  go_enter Try.func17, Try.ntmps17
  go_wp2
  go_ret2
  exact ⟨rfl, Below.refl _ _⟩
set_option maxHeartbeats 1000000 in
theorem mret_yes (K : Nat → Nat) (b : Nat) (hK : Ok K) (w : World) (hB : Box 31 w b (fileC 3 K)) : Calls Try.prog 17 #[.pointer (some ⟨b, 0, none⟩)] w fun e w' => e = .returned (.tuple #[.int .u64 (K 9 : Nat), .bool true]) ∧ Box 31 w' b (fileC (getN (K 0) 11 2 : Nat) (backM K)) ∧ Upon b w w' := by
  have X0 : Hid (Uf w w b 3 K) := ⟨hB, Upon.refl _ _⟩
  have c0 : w.cell? ⟨b, 0, none⟩ = some (.int .i64 3) := hB.cell 0 _ rfl
  have HK : Hid (Ok K) := hK
  have HP : Hid (∀ V, Box 31 V b (fileC 3 K) → Calls Try.prog 41 #[.pointer (some ⟨b, 0, none⟩)] V fun e w' => e = .returned (.int .i64 (getN (K 0) 11 2 : Nat)) ∧ Below V.heap.size V w') := fun V hV => prev_any 3 K _ b (get2_le _) rfl hK V hV
  unfold backM
  generalize getN (K 0) 11 2 = p at *
  clear hB hK
  go_enter Try.func17, Try.ntmps17
  go_wp2_with fail
  refine (HP.out _ X0.out.1).mono ?_
  rintro e w1 ⟨rfl, hb1⟩
  have X1 : Hid (Uf w w1 b 3 K) := X0.out.step hb1
  clear hb1 c0
  have d0 : w1.cell? ⟨b, 0, none⟩ = some (.int .i64 3) := X1.out.1.cell 0 _ rfl
  have d1 := X1.out.1.frozen 0
  go_upto_region 4 with fail
  have X2 : Hid (Uf w (w1.setCell ⟨b, 0, none⟩ (.int .i64 (p : Nat))) b (p : Nat) K) := X1.out.mode _
  generalize w1.setCell ⟨b, 0, none⟩ (.int .i64 (p : Nat)) = w2 at *
  clear d0 d1 X1 X0 HP
  go_wp2_with fail
  refine (isb_any _ K 7 b HK.out _ X2.out.1).mono ?_
  rintro e w3 ⟨rfl, hb3⟩
  have X3 : Hid (Uf w w3 b (p : Nat) K) := X2.out.step hb3
  clear hb3
  go_wp2_with fail
  refine (set_any _ K 3 (isB K 7) b HK.out _ X3.out.1).mono ?_
  rintro e w4 ⟨rfl, hB4, hU4⟩
  have X4 : Hid (Uf w w4 b (p : Nat) (setK K 3 (isB K 7))) := X3.out.file hB4 hU4
  have HK4 : Hid (Ok (setK K 3 (isB K 7))) := setK_ok HK.out _ _
  clear hB4 hU4
  go_wp2_with fail
  refine (set_any _ _ 7 true b HK4.out _ X4.out.1).mono ?_
  rintro e w5 ⟨rfl, hB5, hU5⟩
  have X5 : Hid (Uf w w5 b (p : Nat) (setK (setK K 3 (isB K 7)) 7 true)) := X4.out.file hB5 hU5
  have HK5 : Hid (Ok (setK (setK K 3 (isB K 7)) 7 true)) := setK_ok HK4.out _ _
  clear hB5 hU5
  go_wp2_with fail
  refine (keepk_any _ _ 0 b (by omega) HK5.out _ X5.out.1).mono ?_
  rintro e w6 ⟨rfl, hB6, hU6⟩
  have X6 : Hid (Uf w w6 b (p : Nat) (backK K)) := X5.out.file hB6 hU6
  clear hB6 hU6
  have e0 : w6.cell? ⟨b, 0, none⟩ = some (.int .i64 (p : Nat)) := X6.out.1.cell 0 _ rfl
  by_cases hp : p = 3
  · subst hp
    have e9 : w6.cell? ⟨b, 10, none⟩ = some (.int .u64 (K 9 : Nat)) := X6.out.1.cell 10 _ rfl
    go_wp2_with fail
    go_ret2
    exact ⟨rfl, X6.out.1, X6.out.2⟩
  · have h1 : ((p : Int) != 3) = true := by simp; omega
    have h2 : ((p : Int) == 3) = false := by simp; omega
    have h3 : ¬ (p : Int) = 3 := by omega
    go_wp2_with fail
    refine (set_any _ _ 17 false b (backK_ok HK.out) _ X6.out.1).mono ?_
    rintro e w7 ⟨rfl, hB7, hU7⟩
    have X7 : Hid (Uf w w7 b (p : Nat) (setK (backK K) 17 false)) := X6.out.file hB7 hU7
    clear hB7 hU7
    have e9 : w7.cell? ⟨b, 10, none⟩ = some (.int .u64 (K 9 : Nat)) := X7.out.1.cell 10 _ rfl
    go_wp2_with fail
    go_ret2
    exact ⟨rfl, X7.out.1, X7.out.2⟩
theorem sret_no0 (K : Nat → Nat) (b : Nat) (w : World) (hB : Box 31 w b (fileC 0 K)) : Calls Try.prog 15 #[.pointer (some ⟨b, 0, none⟩)] w fun e w' => e = .returned (.tuple #[.int .u64 0, .bool false]) ∧ Below w.heap.size w w' := by
  have c0 : w.cell? ⟨b, 0, none⟩ = some (.int .i64 0) := hB.cell 0 _ rfl
  clear hB
  go_enter Try.func15, Try.ntmps15
  go_wp2
  go_ret2
  exact ⟨rfl, Below.refl _ _⟩
theorem sret_no1 (K : Nat → Nat) (b : Nat) (hK : Ok K) (ht : isB K 22 = true) (w : World) (hB : Box 31 w b (fileC 1 K)) : Calls Try.prog 15 #[.pointer (some ⟨b, 0, none⟩)] w fun e w' => e = .returned (.tuple #[.int .u64 0, .bool false]) ∧ Below w.heap.size w w' := by
  have c0 : w.cell? ⟨b, 0, none⟩ = some (.int .i64 1) := hB.cell 0 _ rfl
  have HI : Hid (∀ V, Box 31 V b (fileC 1 K) → Calls Try.prog 19 #[.pointer (some ⟨b, 0, none⟩), .int .i64 22] V fun e w' => e = .returned (.bool true) ∧ Below V.heap.size V w') := fun V hV => by rw [← ht]; exact isb_any 1 K 22 b hK V hV
  have HB : Hid (Box 31 w b (fileC 1 K)) := hB
  clear hB hK ht
  go_enter Try.func15, Try.ntmps15
  go_wp2_with fail
  refine (HI.out _ HB.out).mono ?_
  rintro e w1 ⟨rfl, hb1⟩
  go_wp2_with fail
  go_ret2
  exact ⟨rfl, hb1⟩
set_option maxHeartbeats 1000000 in
theorem sret_yes3 (K : Nat → Nat) (b : Nat) (hK : Ok K) (w : World) (hB : Box 31 w b (fileC 3 K)) : Calls Try.prog 15 #[.pointer (some ⟨b, 0, none⟩)] w fun e w' => e = .returned (.tuple #[.int .u64 (K 15 : Nat), .bool true]) ∧ Box 31 w' b (fileC (flN (isB K 8) : Nat) (backS K)) ∧ Upon b w w' := by
  have X0 : Hid (Uf w w b 3 K) := ⟨hB, Upon.refl _ _⟩
  have c0 : w.cell? ⟨b, 0, none⟩ = some (.int .i64 3) := hB.cell 0 _ rfl
  have HK : Hid (Ok K) := hK
  clear hB hK
  go_enter Try.func15, Try.ntmps15
  go_wp2_with fail
  refine (isb_any _ K 8 b HK.out _ X0.out.1).mono ?_
  rintro e w1 ⟨rfl, hb1⟩
  have X1 : Hid (Uf w w1 b 3 K) := X0.out.step hb1
  clear hb1 c0
  have d0 : w1.cell? ⟨b, 0, none⟩ = some (.int .i64 3) := X1.out.1.cell 0 _ rfl
  have d1 := X1.out.1.frozen 0
  generalize hp : isB K 8 = p at *
  have HPP : Hid (isB K 8 = p) := hp
  clear hp
  go_wp2_with fail
  refine (supIf_any p _).mono ?_
  rintro e w2 ⟨rfl, hw2⟩
  rw [hw2]
  clear hw2
  go_upto_region 4 with fail
  have X2 : Hid (Uf w (w1.setCell ⟨b, 0, none⟩ (.int .i64 (flN p : Nat))) b (flN p : Nat) K) := X1.out.mode _
  generalize w1.setCell ⟨b, 0, none⟩ (.int .i64 (flN p : Nat)) = w3 at *
  clear d0 d1 X1
  go_wp2_with fail
  refine (isb_any _ K 5 b HK.out _ X2.out.1).mono ?_
  rintro e w4 ⟨rfl, hb4⟩
  have X4 : Hid (Uf w w4 b (flN p : Nat) K) := X2.out.step hb4
  clear hb4
  go_wp2_with fail
  refine (set_any _ K 1 (isB K 5) b HK.out _ X4.out.1).mono ?_
  rintro e w5 ⟨rfl, hB5, hU5⟩
  have X5 : Hid (Uf w w5 b (flN p : Nat) (setK K 1 (isB K 5))) := X4.out.file hB5 hU5
  have HK5 : Hid (Ok (setK K 1 (isB K 5))) := setK_ok HK.out _ _
  clear hB5 hU5
  go_wp2_with fail
  refine (set_any _ _ 5 true b HK5.out _ X5.out.1).mono ?_
  rintro e w6 ⟨rfl, hB6, hU6⟩
  have X6 : Hid (Uf w w6 b (flN p : Nat) (setK (setK K 1 (isB K 5)) 5 true)) := X5.out.file hB6 hU6
  have HK6 : Hid (Ok (setK (setK K 1 (isB K 5)) 5 true)) := setK_ok HK5.out _ _
  clear hB6 hU6
  go_wp2_with fail
  refine (set_any _ _ 8 false b HK6.out _ X6.out.1).mono ?_
  rintro e w7 ⟨rfl, hB7, hU7⟩
  have X7 : Hid (Uf w w7 b (flN p : Nat) (setK (setK (setK K 1 (isB K 5)) 5 true) 8 false)) := X6.out.file hB7 hU7
  have HK7 : Hid (Ok (setK (setK (setK K 1 (isB K 5)) 5 true) 8 false)) := setK_ok HK6.out _ _
  clear hB7 hU7
  go_wp2_with fail
  refine (set_any _ _ 17 false b HK7.out _ X7.out.1).mono ?_
  rintro e w8 ⟨rfl, hB8, hU8⟩
  have X8 : Hid (Uf w w8 b (flN p : Nat) (backS K)) := X7.out.file hB8 hU8
  clear hB8 hU8
  have e9 : w8.cell? ⟨b, 16, none⟩ = some (.int .u64 (K 15 : Nat)) := X8.out.1.cell 16 _ rfl
  go_wp2_with fail
  go_ret2
  exact ⟨rfl, (by rw [HPP.out]; exact X8.out.1), X8.out.2⟩
set_option maxHeartbeats 1000000 in
theorem sret_yes1 (K : Nat → Nat) (b : Nat) (hK : Ok K) (ht : isB K 22 = false) (w : World) (hB : Box 31 w b (fileC 1 K)) : Calls Try.prog 15 #[.pointer (some ⟨b, 0, none⟩)] w fun e w' => e = .returned (.tuple #[.int .u64 (K 15 : Nat), .bool true]) ∧ Box 31 w' b (fileC (flN (isB K 8) : Nat) (backS K)) ∧ Upon b w w' := by
  have X0 : Hid (Uf w w b 1 K) := ⟨hB, Upon.refl _ _⟩
  have c0 : w.cell? ⟨b, 0, none⟩ = some (.int .i64 1) := hB.cell 0 _ rfl
  have HK : Hid (Ok K) := hK
  have HI : Hid (∀ V, Box 31 V b (fileC 1 K) → Calls Try.prog 19 #[.pointer (some ⟨b, 0, none⟩), .int .i64 22] V fun e w' => e = .returned (.bool false) ∧ Below V.heap.size V w') := fun V hV => by rw [← ht]; exact isb_any 1 K 22 b hK V hV
  clear ht
  clear hB hK
  go_enter Try.func15, Try.ntmps15
  go_wp2_with fail
  refine (HI.out _ X0.out.1).mono ?_
  rintro e w0 ⟨rfl, hb0⟩
  have Y0 : Hid (Uf w w0 b 1 K) := X0.out.step hb0
  clear hb0
  go_wp2_with fail
  refine (isb_any _ K 8 b HK.out _ Y0.out.1).mono ?_
  rintro e w1 ⟨rfl, hb1⟩
  have X1 : Hid (Uf w w1 b 1 K) := Y0.out.step hb1
  clear hb1 c0
  have d0 : w1.cell? ⟨b, 0, none⟩ = some (.int .i64 1) := X1.out.1.cell 0 _ rfl
  have d1 := X1.out.1.frozen 0
  generalize hp : isB K 8 = p at *
  have HPP : Hid (isB K 8 = p) := hp
  clear hp
  go_wp2_with fail
  refine (supIf_any p _).mono ?_
  rintro e w2 ⟨rfl, hw2⟩
  rw [hw2]
  clear hw2
  go_upto_region 4 with fail
  have X2 : Hid (Uf w (w1.setCell ⟨b, 0, none⟩ (.int .i64 (flN p : Nat))) b (flN p : Nat) K) := X1.out.mode _
  generalize w1.setCell ⟨b, 0, none⟩ (.int .i64 (flN p : Nat)) = w3 at *
  clear d0 d1 X1
  go_wp2_with fail
  refine (isb_any _ K 5 b HK.out _ X2.out.1).mono ?_
  rintro e w4 ⟨rfl, hb4⟩
  have X4 : Hid (Uf w w4 b (flN p : Nat) K) := X2.out.step hb4
  clear hb4
  go_wp2_with fail
  refine (set_any _ K 1 (isB K 5) b HK.out _ X4.out.1).mono ?_
  rintro e w5 ⟨rfl, hB5, hU5⟩
  have X5 : Hid (Uf w w5 b (flN p : Nat) (setK K 1 (isB K 5))) := X4.out.file hB5 hU5
  have HK5 : Hid (Ok (setK K 1 (isB K 5))) := setK_ok HK.out _ _
  clear hB5 hU5
  go_wp2_with fail
  refine (set_any _ _ 5 true b HK5.out _ X5.out.1).mono ?_
  rintro e w6 ⟨rfl, hB6, hU6⟩
  have X6 : Hid (Uf w w6 b (flN p : Nat) (setK (setK K 1 (isB K 5)) 5 true)) := X5.out.file hB6 hU6
  have HK6 : Hid (Ok (setK (setK K 1 (isB K 5)) 5 true)) := setK_ok HK5.out _ _
  clear hB6 hU6
  go_wp2_with fail
  refine (set_any _ _ 8 false b HK6.out _ X6.out.1).mono ?_
  rintro e w7 ⟨rfl, hB7, hU7⟩
  have X7 : Hid (Uf w w7 b (flN p : Nat) (setK (setK (setK K 1 (isB K 5)) 5 true) 8 false)) := X6.out.file hB7 hU7
  have HK7 : Hid (Ok (setK (setK (setK K 1 (isB K 5)) 5 true) 8 false)) := setK_ok HK6.out _ _
  clear hB7 hU7
  go_wp2_with fail
  refine (set_any _ _ 17 false b HK7.out _ X7.out.1).mono ?_
  rintro e w8 ⟨rfl, hB8, hU8⟩
  have X8 : Hid (Uf w w8 b (flN p : Nat) (backS K)) := X7.out.file hB8 hU8
  clear hB8 hU8
  have e9 : w8.cell? ⟨b, 16, none⟩ = some (.int .u64 (K 15 : Nat)) := X8.out.1.cell 16 _ rfl
  go_wp2_with fail
  go_ret2
  exact ⟨rfl, (by rw [HPP.out]; exact X8.out.1), X8.out.2⟩
end Go.Proofs.Ytdljceeoofhfnaa
