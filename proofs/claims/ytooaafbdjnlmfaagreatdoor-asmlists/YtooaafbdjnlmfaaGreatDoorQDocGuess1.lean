/- The document's call Guess of layer 3, form by form. -/
import Derived.Test.YtooaafbdjnlmfaaGreatDoorQDocBackAll
namespace Go.Proofs.YtooaafbdjnlmfaaGreatDoor
open Go.RowKit
set_option linter.unusedVariables false
set_option linter.unusedSimpArgs false
set_option maxRecDepth 100000 in
set_option maxHeartbeats 2000000 in
theorem guess_1 (o x : Nat) (hx32 : x < 4294967296) (v : Int) (s : ByteArray) (cc f3 f7 : Int) (pr pa pb pc pd pq pl : Nat) (hr : getI x 7 5 = pr) (ha : getI x 15 5 = pa) (hb' : getI x 20 5 = pb) (hc : getI x 20 12 = pc) (hd : getI x 12 20 = pd) (hq : getI x 26 1 = pq) (hl : getI x 25 1 = pl) (w : World)
    (hO : ∀ w, Calls Tryz.prog 45 #[.int .i64 (o : Nat)] w fun e w' => e = .returned (.agg #[.string s, .int .i64 1, .int .i64 cc, .int .i64 f3, .int .i64 f7]) ∧ Below w.heap.size w w')
    (hB : ∀ w, Calls Tryz.prog 91 #[.int .i64 1, .int .u64 (x : Int)] w fun e w' => e = .returned (.int .i64 v) ∧ Below w.heap.size w w') :
    Calls Tryz.prog 51 #[.int .i64 (o : Nat), .int .u64 (x : Int)] w fun e w' => e = .returned (.agg (instrC (o : Nat) (pr : Nat) 0 0 v 0 false false)) ∧ Below w.heap.size w w' := by
  have hx : x < 18446744073709551616 := by omega
  have ipr : (pr : Int) < 32 := by have := getI_lt x 7 5; rw [hr] at this; have t : pr < 32 := this; omega
  have ipa : (pa : Int) < 32 := by have := getI_lt x 15 5; rw [ha] at this; have t : pa < 32 := this; omega
  have ipb : (pb : Int) < 32 := by have := getI_lt x 20 5; rw [hb'] at this; have t : pb < 32 := this; omega
  have ipc : (pc : Int) < 4096 := by have := getI_lt x 20 12; rw [hc] at this; have t : pc < 4096 := this; omega
  have ipq : (pq : Int) < 2 := by have := getI_lt x 26 1; rw [hq] at this; have t : pq < 2 := this; omega
  have ipl : (pl : Int) < 2 := by have := getI_lt x 25 1; rw [hl] at this; have t : pl < 2 := this; omega
  have Hpr : Hid _ := hr
  have Hpa : Hid _ := ha
  have Hpb : Hid _ := hb'
  have Hpc : Hid _ := hc
  have Hpd : Hid _ := hd
  have Hpq : Hid _ := hq
  have Hpl : Hid _ := hl
  have HO : Hid _ := hO
  have HB : Hid _ := hB
  clear hr ha hb' hc hd hq hl hO hB
  have B0 : Hid (Below w.heap.size w (w.alloc (.cells (instrC 0 0 0 0 0 0 false false) 23))) := (Below.refl _ _).alloc (Nat.le_refl _) _
  have R0 : Hid (Box8 (w.alloc (.cells (instrC 0 0 0 0 0 0 false false) 23)) w.heap.size (instrC 0 0 0 0 0 0 false false)) := Box8.new w (instrC 0 0 0 0 0 0 false false)
  go_enter Tryz.func51, Tryz.ntmps51
  go_wp2_with fail
  refine (HO.out _).mono ?_
  rintro e w1 ⟨rfl, hb⟩
  have hfl := (field72 s 1 cc f3 f7 w1).1
  have B1 : Hid (Below w.heap.size w w1) := B0.out.trans (hb.mono B0.out.size)
  have R1 : Hid (Box8 w1 w.heap.size (instrC 0 0 0 0 0 0 false false)) := R0.out.step hb
  clear hb
  go_wp2_with fail
  refine (usual_any x hx pa pb pc pd Hpa.out Hpb.out Hpc.out Hpd.out _).mono ?_
  rintro e w2 ⟨b, rfl, hb, hlb, hu⟩
  have B2 : Hid (Below w.heap.size w w2) := B1.out.trans (hb.mono B1.out.size)
  have R2 : Hid (Box8 w2 w.heap.size (instrC 0 0 0 0 0 0 false false)) := R1.out.step hb
  have U2 : Hid (Box4 w2 b (usualC pa pb pc pd)) := hu
  clear hb hlb hu hfl
  go_wp2_with fail
  refine (HB.out _).mono ?_
  rintro e w3 ⟨rfl, hb⟩
  have B3 : Hid (Below w.heap.size w w3) := B2.out.trans (hb.mono B2.out.size)
  have R3 : Hid (Box8 w3 w.heap.size (instrC 0 0 0 0 0 0 false false)) := R2.out.step hb
  have U3 : Hid (Box4 w3 b (usualC pa pb pc pd)) := U2.out.step hb
  have lR : w.heap.size < w3.heap.size := R3.out.lt
  have lU : b < w3.heap.size := U3.out.lt
  have neR : w.heap.size ≠ w3.heap.size := Nat.ne_of_lt lR
  have neR' : w3.heap.size ≠ w.heap.size := Nat.ne_of_gt lR
  have neU : b ≠ w3.heap.size := Nat.ne_of_lt lU
  have neU' : w3.heap.size ≠ b := Nat.ne_of_gt lU
  clear hb
  have B4 : Hid (Below w.heap.size w (w3.alloc (.cells (instrC (o : Nat) 0 0 0 v 0 false false) 23))) := B3.out.alloc B3.out.size _
  have R4 : Hid (Box8 (w3.alloc (.cells (instrC (o : Nat) 0 0 0 v 0 false false) 23)) w.heap.size (instrC 0 0 0 0 0 0 false false)) := R3.out.alloc _
  have U4 : Hid (Box4 (w3.alloc (.cells (instrC (o : Nat) 0 0 0 v 0 false false) 23)) b (usualC pa pb pc pd)) := U3.out.alloc _
  have X4 : Hid (Box8 (w3.alloc (.cells (instrC (o : Nat) 0 0 0 v 0 false false) 23)) w3.heap.size (instrC (o : Nat) 0 0 0 v 0 false false)) := Box8.new w3 (instrC (o : Nat) 0 0 0 v 0 false false)
  go_wp2_with fail
  refine (drd_b 1 true (by decide) _).mono ?_
  rintro e w5 ⟨rfl, hb⟩
  have B5 : Hid (Below w.heap.size w w5) := B4.out.trans (hb.mono B4.out.size)
  have R5 : Hid (Box8 w5 w.heap.size (instrC 0 0 0 0 0 0 false false)) := R4.out.step hb
  have U5 : Hid (Box4 w5 b (usualC pa pb pc pd)) := U4.out.step hb
  have X5 : Hid (Box8 w5 w3.heap.size (instrC (o : Nat) 0 0 0 v 0 false false)) := X4.out.step hb
  clear hb
  obtain ⟨q0, q1, q2, q3, q4, q5, q6, q7⟩ := box8_facts X5.out
  obtain ⟨u0, u1, u2, u3⟩ := box4_facts U5.out
  obtain ⟨y0, y1, y2, y3, y4, y5, y6, y7⟩ := box8_facts R5.out
  have z0 := box8_frozen X5.out 0
  have z1 := box8_frozen X5.out 1
  have z2 := box8_frozen X5.out 2
  have z3 := box8_frozen X5.out 3
  have z4 := box8_frozen X5.out 4
  have z5 := box8_frozen X5.out 5
  have z6 := box8_frozen X5.out 6
  have z7 := box8_frozen X5.out 7
  have v0 := box8_frozen R5.out 0
  have v1 := box8_frozen R5.out 1
  have v2 := box8_frozen R5.out 2
  have v3 := box8_frozen R5.out 3
  have v4 := box8_frozen R5.out 4
  have v5 := box8_frozen R5.out 5
  have v6 := box8_frozen R5.out 6
  have v7 := box8_frozen R5.out 7
  go_wp2_with fail
  refine (dget_p x 7 5 pr Hpr.out hx (by decide) (by decide) (by decide) (by decide) _).mono ?_
  rintro e w6 ⟨rfl, hb⟩
  have B6 : Hid (Below w.heap.size w w6) := B5.out.trans (hb.mono B5.out.size)
  have R6 : Hid (Box8 w6 w.heap.size (instrC 0 0 0 0 0 0 false false)) := R5.out.step hb
  have U6 : Hid (Box4 w6 b (usualC pa pb pc pd)) := U5.out.step hb
  have X6 : Hid (Box8 w6 w3.heap.size (instrC (o : Nat) 0 0 0 v 0 false false)) := X5.out.step hb
  clear hb
  obtain ⟨q0, q1, q2, q3, q4, q5, q6, q7⟩ := box8_facts X6.out
  obtain ⟨u0, u1, u2, u3⟩ := box4_facts U6.out
  obtain ⟨y0, y1, y2, y3, y4, y5, y6, y7⟩ := box8_facts R6.out
  have z0 := box8_frozen X6.out 0
  have z1 := box8_frozen X6.out 1
  have z2 := box8_frozen X6.out 2
  have z3 := box8_frozen X6.out 3
  have z4 := box8_frozen X6.out 4
  have z5 := box8_frozen X6.out 5
  have z6 := box8_frozen X6.out 6
  have z7 := box8_frozen X6.out 7
  have v0 := box8_frozen R6.out 0
  have v1 := box8_frozen R6.out 1
  have v2 := box8_frozen R6.out 2
  have v3 := box8_frozen R6.out 3
  have v4 := box8_frozen R6.out 4
  have v5 := box8_frozen R6.out 5
  have v6 := box8_frozen R6.out 6
  have v7 := box8_frozen R6.out 7
  have B7 : Hid (Below w.heap.size w (w6.setCell ⟨w3.heap.size, 1, none⟩ (.int .i64 (pr : Nat)))) := B6.out.setCell (Nat.le_of_lt lR) _
  have R7 : Hid (Box8 (w6.setCell ⟨w3.heap.size, 1, none⟩ (.int .i64 (pr : Nat))) w.heap.size (instrC 0 0 0 0 0 0 false false)) := R6.out.other _ _ neR
  have U7 : Hid (Box4 (w6.setCell ⟨w3.heap.size, 1, none⟩ (.int .i64 (pr : Nat))) b (usualC pa pb pc pd)) := U6.out.other _ _ neU
  have X7 : Hid (Box8 (w6.setCell ⟨w3.heap.size, 1, none⟩ (.int .i64 (pr : Nat))) w3.heap.size (instrC (o : Nat) (pr : Nat) 0 0 v 0 false false)) := X6.out.set 1 _
  go_wp2_with fail
  refine (drs1_b 1 false (by decide) _).mono ?_
  rintro e w8 ⟨rfl, hb⟩
  have B8 : Hid (Below w.heap.size w w8) := B7.out.trans (hb.mono B7.out.size)
  have R8 : Hid (Box8 w8 w.heap.size (instrC 0 0 0 0 0 0 false false)) := R7.out.step hb
  have U8 : Hid (Box4 w8 b (usualC pa pb pc pd)) := U7.out.step hb
  have X8 : Hid (Box8 w8 w3.heap.size (instrC (o : Nat) (pr : Nat) 0 0 v 0 false false)) := X7.out.step hb
  clear hb
  obtain ⟨q0, q1, q2, q3, q4, q5, q6, q7⟩ := box8_facts X8.out
  obtain ⟨u0, u1, u2, u3⟩ := box4_facts U8.out
  obtain ⟨y0, y1, y2, y3, y4, y5, y6, y7⟩ := box8_facts R8.out
  have z0 := box8_frozen X8.out 0
  have z1 := box8_frozen X8.out 1
  have z2 := box8_frozen X8.out 2
  have z3 := box8_frozen X8.out 3
  have z4 := box8_frozen X8.out 4
  have z5 := box8_frozen X8.out 5
  have z6 := box8_frozen X8.out 6
  have z7 := box8_frozen X8.out 7
  have v0 := box8_frozen R8.out 0
  have v1 := box8_frozen R8.out 1
  have v2 := box8_frozen R8.out 2
  have v3 := box8_frozen R8.out 3
  have v4 := box8_frozen R8.out 4
  have v5 := box8_frozen R8.out 5
  have v6 := box8_frozen R8.out 6
  have v7 := box8_frozen R8.out 7
  go_wp2_with fail
  refine (drs2_b 1 false (by decide) _).mono ?_
  rintro e w9 ⟨rfl, hb⟩
  have B9 : Hid (Below w.heap.size w w9) := B8.out.trans (hb.mono B8.out.size)
  have R9 : Hid (Box8 w9 w.heap.size (instrC 0 0 0 0 0 0 false false)) := R8.out.step hb
  have U9 : Hid (Box4 w9 b (usualC pa pb pc pd)) := U8.out.step hb
  have X9 : Hid (Box8 w9 w3.heap.size (instrC (o : Nat) (pr : Nat) 0 0 v 0 false false)) := X8.out.step hb
  clear hb
  obtain ⟨q0, q1, q2, q3, q4, q5, q6, q7⟩ := box8_facts X9.out
  obtain ⟨u0, u1, u2, u3⟩ := box4_facts U9.out
  obtain ⟨y0, y1, y2, y3, y4, y5, y6, y7⟩ := box8_facts R9.out
  have z0 := box8_frozen X9.out 0
  have z1 := box8_frozen X9.out 1
  have z2 := box8_frozen X9.out 2
  have z3 := box8_frozen X9.out 3
  have z4 := box8_frozen X9.out 4
  have z5 := box8_frozen X9.out 5
  have z6 := box8_frozen X9.out 6
  have z7 := box8_frozen X9.out 7
  have v0 := box8_frozen R9.out 0
  have v1 := box8_frozen R9.out 1
  have v2 := box8_frozen R9.out 2
  have v3 := box8_frozen R9.out 3
  have v4 := box8_frozen R9.out 4
  have v5 := box8_frozen R9.out 5
  have v6 := box8_frozen R9.out 6
  have v7 := box8_frozen R9.out 7
  go_wp2_with fail
  refine (in2b 1 12 13 _ _ (by simp) false (by decide)).mono ?_
  rintro e w10 ⟨rfl, hb⟩
  have B10 : Hid (Below w.heap.size w w10) := B9.out.trans (hb.mono B9.out.size)
  have R10 : Hid (Box8 w10 w.heap.size (instrC 0 0 0 0 0 0 false false)) := R9.out.step hb
  have U10 : Hid (Box4 w10 b (usualC pa pb pc pd)) := U9.out.step hb
  have X10 : Hid (Box8 w10 w3.heap.size (instrC (o : Nat) (pr : Nat) 0 0 v 0 false false)) := X9.out.step hb
  clear hb
  obtain ⟨q0, q1, q2, q3, q4, q5, q6, q7⟩ := box8_facts X10.out
  obtain ⟨u0, u1, u2, u3⟩ := box4_facts U10.out
  obtain ⟨y0, y1, y2, y3, y4, y5, y6, y7⟩ := box8_facts R10.out
  have z0 := box8_frozen X10.out 0
  have z1 := box8_frozen X10.out 1
  have z2 := box8_frozen X10.out 2
  have z3 := box8_frozen X10.out 3
  have z4 := box8_frozen X10.out 4
  have z5 := box8_frozen X10.out 5
  have z6 := box8_frozen X10.out 6
  have z7 := box8_frozen X10.out 7
  have v0 := box8_frozen R10.out 0
  have v1 := box8_frozen R10.out 1
  have v2 := box8_frozen R10.out 2
  have v3 := box8_frozen R10.out 3
  have v4 := box8_frozen R10.out 4
  have v5 := box8_frozen R10.out 5
  have v6 := box8_frozen R10.out 6
  have v7 := box8_frozen R10.out 7
  go_wp2_with fail
  refine (in2b 1 14 15 _ _ (by simp) false (by decide)).mono ?_
  rintro e w11 ⟨rfl, hb⟩
  have B11 : Hid (Below w.heap.size w w11) := B10.out.trans (hb.mono B10.out.size)
  have R11 : Hid (Box8 w11 w.heap.size (instrC 0 0 0 0 0 0 false false)) := R10.out.step hb
  have U11 : Hid (Box4 w11 b (usualC pa pb pc pd)) := U10.out.step hb
  have X11 : Hid (Box8 w11 w3.heap.size (instrC (o : Nat) (pr : Nat) 0 0 v 0 false false)) := X10.out.step hb
  clear hb
  obtain ⟨q0, q1, q2, q3, q4, q5, q6, q7⟩ := box8_facts X11.out
  obtain ⟨u0, u1, u2, u3⟩ := box4_facts U11.out
  obtain ⟨y0, y1, y2, y3, y4, y5, y6, y7⟩ := box8_facts R11.out
  have z0 := box8_frozen X11.out 0
  have z1 := box8_frozen X11.out 1
  have z2 := box8_frozen X11.out 2
  have z3 := box8_frozen X11.out 3
  have z4 := box8_frozen X11.out 4
  have z5 := box8_frozen X11.out 5
  have z6 := box8_frozen X11.out 6
  have z7 := box8_frozen X11.out 7
  have v0 := box8_frozen R11.out 0
  have v1 := box8_frozen R11.out 1
  have v2 := box8_frozen R11.out 2
  have v3 := box8_frozen R11.out 3
  have v4 := box8_frozen R11.out 4
  have v5 := box8_frozen R11.out 5
  have v6 := box8_frozen R11.out 6
  have v7 := box8_frozen R11.out 7
  go_wp2
  refine bodyPost_ret (v := .agg (instrC (o : Nat) (pr : Nat) 0 0 v 0 false false)) (by simp [results, Tryz.results51, go_sem, q0, q1, q2, q3, q4, q5, q6, q7, y0, y1, y2, y3, y4, y5, y6, y7, neR, neR']) rfl ⟨rfl, ?_⟩
  iterate 8 (refine Below.setCell ?_ (by first | exact Nat.le_refl _ | exact Nat.le_of_lt lR) _)
  exact B11.out
set_option maxRecDepth 100000 in
set_option maxHeartbeats 2000000 in
theorem guess_2 (o x : Nat) (hx32 : x < 4294967296) (v : Int) (s : ByteArray) (cc f3 f7 : Int) (pr pa pb pc pd pq pl : Nat) (hr : getI x 7 5 = pr) (ha : getI x 15 5 = pa) (hb' : getI x 20 5 = pb) (hc : getI x 20 12 = pc) (hd : getI x 12 20 = pd) (hq : getI x 26 1 = pq) (hl : getI x 25 1 = pl) (w : World)
    (hO : ∀ w, Calls Tryz.prog 45 #[.int .i64 (o : Nat)] w fun e w' => e = .returned (.agg #[.string s, .int .i64 2, .int .i64 cc, .int .i64 f3, .int .i64 f7]) ∧ Below w.heap.size w w')
    (hB : ∀ w, Calls Tryz.prog 91 #[.int .i64 2, .int .u64 (x : Int)] w fun e w' => e = .returned (.int .i64 v) ∧ Below w.heap.size w w') :
    Calls Tryz.prog 51 #[.int .i64 (o : Nat), .int .u64 (x : Int)] w fun e w' => e = .returned (.agg (instrC (o : Nat) (pr : Nat) 0 0 v 0 false false)) ∧ Below w.heap.size w w' := by
  have hx : x < 18446744073709551616 := by omega
  have ipr : (pr : Int) < 32 := by have := getI_lt x 7 5; rw [hr] at this; have t : pr < 32 := this; omega
  have ipa : (pa : Int) < 32 := by have := getI_lt x 15 5; rw [ha] at this; have t : pa < 32 := this; omega
  have ipb : (pb : Int) < 32 := by have := getI_lt x 20 5; rw [hb'] at this; have t : pb < 32 := this; omega
  have ipc : (pc : Int) < 4096 := by have := getI_lt x 20 12; rw [hc] at this; have t : pc < 4096 := this; omega
  have ipq : (pq : Int) < 2 := by have := getI_lt x 26 1; rw [hq] at this; have t : pq < 2 := this; omega
  have ipl : (pl : Int) < 2 := by have := getI_lt x 25 1; rw [hl] at this; have t : pl < 2 := this; omega
  have Hpr : Hid _ := hr
  have Hpa : Hid _ := ha
  have Hpb : Hid _ := hb'
  have Hpc : Hid _ := hc
  have Hpd : Hid _ := hd
  have Hpq : Hid _ := hq
  have Hpl : Hid _ := hl
  have HO : Hid _ := hO
  have HB : Hid _ := hB
  clear hr ha hb' hc hd hq hl hO hB
  have B0 : Hid (Below w.heap.size w (w.alloc (.cells (instrC 0 0 0 0 0 0 false false) 23))) := (Below.refl _ _).alloc (Nat.le_refl _) _
  have R0 : Hid (Box8 (w.alloc (.cells (instrC 0 0 0 0 0 0 false false) 23)) w.heap.size (instrC 0 0 0 0 0 0 false false)) := Box8.new w (instrC 0 0 0 0 0 0 false false)
  go_enter Tryz.func51, Tryz.ntmps51
  go_wp2_with fail
  refine (HO.out _).mono ?_
  rintro e w1 ⟨rfl, hb⟩
  have hfl := (field72 s 2 cc f3 f7 w1).1
  have B1 : Hid (Below w.heap.size w w1) := B0.out.trans (hb.mono B0.out.size)
  have R1 : Hid (Box8 w1 w.heap.size (instrC 0 0 0 0 0 0 false false)) := R0.out.step hb
  clear hb
  go_wp2_with fail
  refine (usual_any x hx pa pb pc pd Hpa.out Hpb.out Hpc.out Hpd.out _).mono ?_
  rintro e w2 ⟨b, rfl, hb, hlb, hu⟩
  have B2 : Hid (Below w.heap.size w w2) := B1.out.trans (hb.mono B1.out.size)
  have R2 : Hid (Box8 w2 w.heap.size (instrC 0 0 0 0 0 0 false false)) := R1.out.step hb
  have U2 : Hid (Box4 w2 b (usualC pa pb pc pd)) := hu
  clear hb hlb hu hfl
  go_wp2_with fail
  refine (HB.out _).mono ?_
  rintro e w3 ⟨rfl, hb⟩
  have B3 : Hid (Below w.heap.size w w3) := B2.out.trans (hb.mono B2.out.size)
  have R3 : Hid (Box8 w3 w.heap.size (instrC 0 0 0 0 0 0 false false)) := R2.out.step hb
  have U3 : Hid (Box4 w3 b (usualC pa pb pc pd)) := U2.out.step hb
  have lR : w.heap.size < w3.heap.size := R3.out.lt
  have lU : b < w3.heap.size := U3.out.lt
  have neR : w.heap.size ≠ w3.heap.size := Nat.ne_of_lt lR
  have neR' : w3.heap.size ≠ w.heap.size := Nat.ne_of_gt lR
  have neU : b ≠ w3.heap.size := Nat.ne_of_lt lU
  have neU' : w3.heap.size ≠ b := Nat.ne_of_gt lU
  clear hb
  have B4 : Hid (Below w.heap.size w (w3.alloc (.cells (instrC (o : Nat) 0 0 0 v 0 false false) 23))) := B3.out.alloc B3.out.size _
  have R4 : Hid (Box8 (w3.alloc (.cells (instrC (o : Nat) 0 0 0 v 0 false false) 23)) w.heap.size (instrC 0 0 0 0 0 0 false false)) := R3.out.alloc _
  have U4 : Hid (Box4 (w3.alloc (.cells (instrC (o : Nat) 0 0 0 v 0 false false) 23)) b (usualC pa pb pc pd)) := U3.out.alloc _
  have X4 : Hid (Box8 (w3.alloc (.cells (instrC (o : Nat) 0 0 0 v 0 false false) 23)) w3.heap.size (instrC (o : Nat) 0 0 0 v 0 false false)) := Box8.new w3 (instrC (o : Nat) 0 0 0 v 0 false false)
  go_wp2_with fail
  refine (drd_b 2 true (by decide) _).mono ?_
  rintro e w5 ⟨rfl, hb⟩
  have B5 : Hid (Below w.heap.size w w5) := B4.out.trans (hb.mono B4.out.size)
  have R5 : Hid (Box8 w5 w.heap.size (instrC 0 0 0 0 0 0 false false)) := R4.out.step hb
  have U5 : Hid (Box4 w5 b (usualC pa pb pc pd)) := U4.out.step hb
  have X5 : Hid (Box8 w5 w3.heap.size (instrC (o : Nat) 0 0 0 v 0 false false)) := X4.out.step hb
  clear hb
  obtain ⟨q0, q1, q2, q3, q4, q5, q6, q7⟩ := box8_facts X5.out
  obtain ⟨u0, u1, u2, u3⟩ := box4_facts U5.out
  obtain ⟨y0, y1, y2, y3, y4, y5, y6, y7⟩ := box8_facts R5.out
  have z0 := box8_frozen X5.out 0
  have z1 := box8_frozen X5.out 1
  have z2 := box8_frozen X5.out 2
  have z3 := box8_frozen X5.out 3
  have z4 := box8_frozen X5.out 4
  have z5 := box8_frozen X5.out 5
  have z6 := box8_frozen X5.out 6
  have z7 := box8_frozen X5.out 7
  have v0 := box8_frozen R5.out 0
  have v1 := box8_frozen R5.out 1
  have v2 := box8_frozen R5.out 2
  have v3 := box8_frozen R5.out 3
  have v4 := box8_frozen R5.out 4
  have v5 := box8_frozen R5.out 5
  have v6 := box8_frozen R5.out 6
  have v7 := box8_frozen R5.out 7
  go_wp2_with fail
  refine (dget_p x 7 5 pr Hpr.out hx (by decide) (by decide) (by decide) (by decide) _).mono ?_
  rintro e w6 ⟨rfl, hb⟩
  have B6 : Hid (Below w.heap.size w w6) := B5.out.trans (hb.mono B5.out.size)
  have R6 : Hid (Box8 w6 w.heap.size (instrC 0 0 0 0 0 0 false false)) := R5.out.step hb
  have U6 : Hid (Box4 w6 b (usualC pa pb pc pd)) := U5.out.step hb
  have X6 : Hid (Box8 w6 w3.heap.size (instrC (o : Nat) 0 0 0 v 0 false false)) := X5.out.step hb
  clear hb
  obtain ⟨q0, q1, q2, q3, q4, q5, q6, q7⟩ := box8_facts X6.out
  obtain ⟨u0, u1, u2, u3⟩ := box4_facts U6.out
  obtain ⟨y0, y1, y2, y3, y4, y5, y6, y7⟩ := box8_facts R6.out
  have z0 := box8_frozen X6.out 0
  have z1 := box8_frozen X6.out 1
  have z2 := box8_frozen X6.out 2
  have z3 := box8_frozen X6.out 3
  have z4 := box8_frozen X6.out 4
  have z5 := box8_frozen X6.out 5
  have z6 := box8_frozen X6.out 6
  have z7 := box8_frozen X6.out 7
  have v0 := box8_frozen R6.out 0
  have v1 := box8_frozen R6.out 1
  have v2 := box8_frozen R6.out 2
  have v3 := box8_frozen R6.out 3
  have v4 := box8_frozen R6.out 4
  have v5 := box8_frozen R6.out 5
  have v6 := box8_frozen R6.out 6
  have v7 := box8_frozen R6.out 7
  have B7 : Hid (Below w.heap.size w (w6.setCell ⟨w3.heap.size, 1, none⟩ (.int .i64 (pr : Nat)))) := B6.out.setCell (Nat.le_of_lt lR) _
  have R7 : Hid (Box8 (w6.setCell ⟨w3.heap.size, 1, none⟩ (.int .i64 (pr : Nat))) w.heap.size (instrC 0 0 0 0 0 0 false false)) := R6.out.other _ _ neR
  have U7 : Hid (Box4 (w6.setCell ⟨w3.heap.size, 1, none⟩ (.int .i64 (pr : Nat))) b (usualC pa pb pc pd)) := U6.out.other _ _ neU
  have X7 : Hid (Box8 (w6.setCell ⟨w3.heap.size, 1, none⟩ (.int .i64 (pr : Nat))) w3.heap.size (instrC (o : Nat) (pr : Nat) 0 0 v 0 false false)) := X6.out.set 1 _
  go_wp2_with fail
  refine (drs1_b 2 false (by decide) _).mono ?_
  rintro e w8 ⟨rfl, hb⟩
  have B8 : Hid (Below w.heap.size w w8) := B7.out.trans (hb.mono B7.out.size)
  have R8 : Hid (Box8 w8 w.heap.size (instrC 0 0 0 0 0 0 false false)) := R7.out.step hb
  have U8 : Hid (Box4 w8 b (usualC pa pb pc pd)) := U7.out.step hb
  have X8 : Hid (Box8 w8 w3.heap.size (instrC (o : Nat) (pr : Nat) 0 0 v 0 false false)) := X7.out.step hb
  clear hb
  obtain ⟨q0, q1, q2, q3, q4, q5, q6, q7⟩ := box8_facts X8.out
  obtain ⟨u0, u1, u2, u3⟩ := box4_facts U8.out
  obtain ⟨y0, y1, y2, y3, y4, y5, y6, y7⟩ := box8_facts R8.out
  have z0 := box8_frozen X8.out 0
  have z1 := box8_frozen X8.out 1
  have z2 := box8_frozen X8.out 2
  have z3 := box8_frozen X8.out 3
  have z4 := box8_frozen X8.out 4
  have z5 := box8_frozen X8.out 5
  have z6 := box8_frozen X8.out 6
  have z7 := box8_frozen X8.out 7
  have v0 := box8_frozen R8.out 0
  have v1 := box8_frozen R8.out 1
  have v2 := box8_frozen R8.out 2
  have v3 := box8_frozen R8.out 3
  have v4 := box8_frozen R8.out 4
  have v5 := box8_frozen R8.out 5
  have v6 := box8_frozen R8.out 6
  have v7 := box8_frozen R8.out 7
  go_wp2_with fail
  refine (drs2_b 2 false (by decide) _).mono ?_
  rintro e w9 ⟨rfl, hb⟩
  have B9 : Hid (Below w.heap.size w w9) := B8.out.trans (hb.mono B8.out.size)
  have R9 : Hid (Box8 w9 w.heap.size (instrC 0 0 0 0 0 0 false false)) := R8.out.step hb
  have U9 : Hid (Box4 w9 b (usualC pa pb pc pd)) := U8.out.step hb
  have X9 : Hid (Box8 w9 w3.heap.size (instrC (o : Nat) (pr : Nat) 0 0 v 0 false false)) := X8.out.step hb
  clear hb
  obtain ⟨q0, q1, q2, q3, q4, q5, q6, q7⟩ := box8_facts X9.out
  obtain ⟨u0, u1, u2, u3⟩ := box4_facts U9.out
  obtain ⟨y0, y1, y2, y3, y4, y5, y6, y7⟩ := box8_facts R9.out
  have z0 := box8_frozen X9.out 0
  have z1 := box8_frozen X9.out 1
  have z2 := box8_frozen X9.out 2
  have z3 := box8_frozen X9.out 3
  have z4 := box8_frozen X9.out 4
  have z5 := box8_frozen X9.out 5
  have z6 := box8_frozen X9.out 6
  have z7 := box8_frozen X9.out 7
  have v0 := box8_frozen R9.out 0
  have v1 := box8_frozen R9.out 1
  have v2 := box8_frozen R9.out 2
  have v3 := box8_frozen R9.out 3
  have v4 := box8_frozen R9.out 4
  have v5 := box8_frozen R9.out 5
  have v6 := box8_frozen R9.out 6
  have v7 := box8_frozen R9.out 7
  go_wp2_with fail
  refine (in2b 2 12 13 _ _ (by simp) false (by decide)).mono ?_
  rintro e w10 ⟨rfl, hb⟩
  have B10 : Hid (Below w.heap.size w w10) := B9.out.trans (hb.mono B9.out.size)
  have R10 : Hid (Box8 w10 w.heap.size (instrC 0 0 0 0 0 0 false false)) := R9.out.step hb
  have U10 : Hid (Box4 w10 b (usualC pa pb pc pd)) := U9.out.step hb
  have X10 : Hid (Box8 w10 w3.heap.size (instrC (o : Nat) (pr : Nat) 0 0 v 0 false false)) := X9.out.step hb
  clear hb
  obtain ⟨q0, q1, q2, q3, q4, q5, q6, q7⟩ := box8_facts X10.out
  obtain ⟨u0, u1, u2, u3⟩ := box4_facts U10.out
  obtain ⟨y0, y1, y2, y3, y4, y5, y6, y7⟩ := box8_facts R10.out
  have z0 := box8_frozen X10.out 0
  have z1 := box8_frozen X10.out 1
  have z2 := box8_frozen X10.out 2
  have z3 := box8_frozen X10.out 3
  have z4 := box8_frozen X10.out 4
  have z5 := box8_frozen X10.out 5
  have z6 := box8_frozen X10.out 6
  have z7 := box8_frozen X10.out 7
  have v0 := box8_frozen R10.out 0
  have v1 := box8_frozen R10.out 1
  have v2 := box8_frozen R10.out 2
  have v3 := box8_frozen R10.out 3
  have v4 := box8_frozen R10.out 4
  have v5 := box8_frozen R10.out 5
  have v6 := box8_frozen R10.out 6
  have v7 := box8_frozen R10.out 7
  go_wp2_with fail
  refine (in2b 2 14 15 _ _ (by simp) false (by decide)).mono ?_
  rintro e w11 ⟨rfl, hb⟩
  have B11 : Hid (Below w.heap.size w w11) := B10.out.trans (hb.mono B10.out.size)
  have R11 : Hid (Box8 w11 w.heap.size (instrC 0 0 0 0 0 0 false false)) := R10.out.step hb
  have U11 : Hid (Box4 w11 b (usualC pa pb pc pd)) := U10.out.step hb
  have X11 : Hid (Box8 w11 w3.heap.size (instrC (o : Nat) (pr : Nat) 0 0 v 0 false false)) := X10.out.step hb
  clear hb
  obtain ⟨q0, q1, q2, q3, q4, q5, q6, q7⟩ := box8_facts X11.out
  obtain ⟨u0, u1, u2, u3⟩ := box4_facts U11.out
  obtain ⟨y0, y1, y2, y3, y4, y5, y6, y7⟩ := box8_facts R11.out
  have z0 := box8_frozen X11.out 0
  have z1 := box8_frozen X11.out 1
  have z2 := box8_frozen X11.out 2
  have z3 := box8_frozen X11.out 3
  have z4 := box8_frozen X11.out 4
  have z5 := box8_frozen X11.out 5
  have z6 := box8_frozen X11.out 6
  have z7 := box8_frozen X11.out 7
  have v0 := box8_frozen R11.out 0
  have v1 := box8_frozen R11.out 1
  have v2 := box8_frozen R11.out 2
  have v3 := box8_frozen R11.out 3
  have v4 := box8_frozen R11.out 4
  have v5 := box8_frozen R11.out 5
  have v6 := box8_frozen R11.out 6
  have v7 := box8_frozen R11.out 7
  go_wp2
  refine bodyPost_ret (v := .agg (instrC (o : Nat) (pr : Nat) 0 0 v 0 false false)) (by simp [results, Tryz.results51, go_sem, q0, q1, q2, q3, q4, q5, q6, q7, y0, y1, y2, y3, y4, y5, y6, y7, neR, neR']) rfl ⟨rfl, ?_⟩
  iterate 8 (refine Below.setCell ?_ (by first | exact Nat.le_refl _ | exact Nat.le_of_lt lR) _)
  exact B11.out
set_option maxRecDepth 100000 in
set_option maxHeartbeats 2000000 in
theorem guess_3 (o x : Nat) (hx32 : x < 4294967296) (v : Int) (s : ByteArray) (cc f3 f7 : Int) (pr pa pb pc pd pq pl : Nat) (hr : getI x 7 5 = pr) (ha : getI x 15 5 = pa) (hb' : getI x 20 5 = pb) (hc : getI x 20 12 = pc) (hd : getI x 12 20 = pd) (hq : getI x 26 1 = pq) (hl : getI x 25 1 = pl) (w : World)
    (hO : ∀ w, Calls Tryz.prog 45 #[.int .i64 (o : Nat)] w fun e w' => e = .returned (.agg #[.string s, .int .i64 3, .int .i64 cc, .int .i64 f3, .int .i64 f7]) ∧ Below w.heap.size w w')
    (hB : ∀ w, Calls Tryz.prog 91 #[.int .i64 3, .int .u64 (x : Int)] w fun e w' => e = .returned (.int .i64 v) ∧ Below w.heap.size w w') :
    Calls Tryz.prog 51 #[.int .i64 (o : Nat), .int .u64 (x : Int)] w fun e w' => e = .returned (.agg (instrC (o : Nat) (pr : Nat) (pa : Nat) 0 v 0 false false)) ∧ Below w.heap.size w w' := by
  have hx : x < 18446744073709551616 := by omega
  have ipr : (pr : Int) < 32 := by have := getI_lt x 7 5; rw [hr] at this; have t : pr < 32 := this; omega
  have ipa : (pa : Int) < 32 := by have := getI_lt x 15 5; rw [ha] at this; have t : pa < 32 := this; omega
  have ipb : (pb : Int) < 32 := by have := getI_lt x 20 5; rw [hb'] at this; have t : pb < 32 := this; omega
  have ipc : (pc : Int) < 4096 := by have := getI_lt x 20 12; rw [hc] at this; have t : pc < 4096 := this; omega
  have ipq : (pq : Int) < 2 := by have := getI_lt x 26 1; rw [hq] at this; have t : pq < 2 := this; omega
  have ipl : (pl : Int) < 2 := by have := getI_lt x 25 1; rw [hl] at this; have t : pl < 2 := this; omega
  have Hpr : Hid _ := hr
  have Hpa : Hid _ := ha
  have Hpb : Hid _ := hb'
  have Hpc : Hid _ := hc
  have Hpd : Hid _ := hd
  have Hpq : Hid _ := hq
  have Hpl : Hid _ := hl
  have HO : Hid _ := hO
  have HB : Hid _ := hB
  clear hr ha hb' hc hd hq hl hO hB
  have B0 : Hid (Below w.heap.size w (w.alloc (.cells (instrC 0 0 0 0 0 0 false false) 23))) := (Below.refl _ _).alloc (Nat.le_refl _) _
  have R0 : Hid (Box8 (w.alloc (.cells (instrC 0 0 0 0 0 0 false false) 23)) w.heap.size (instrC 0 0 0 0 0 0 false false)) := Box8.new w (instrC 0 0 0 0 0 0 false false)
  go_enter Tryz.func51, Tryz.ntmps51
  go_wp2_with fail
  refine (HO.out _).mono ?_
  rintro e w1 ⟨rfl, hb⟩
  have hfl := (field72 s 3 cc f3 f7 w1).1
  have B1 : Hid (Below w.heap.size w w1) := B0.out.trans (hb.mono B0.out.size)
  have R1 : Hid (Box8 w1 w.heap.size (instrC 0 0 0 0 0 0 false false)) := R0.out.step hb
  clear hb
  go_wp2_with fail
  refine (usual_any x hx pa pb pc pd Hpa.out Hpb.out Hpc.out Hpd.out _).mono ?_
  rintro e w2 ⟨b, rfl, hb, hlb, hu⟩
  have B2 : Hid (Below w.heap.size w w2) := B1.out.trans (hb.mono B1.out.size)
  have R2 : Hid (Box8 w2 w.heap.size (instrC 0 0 0 0 0 0 false false)) := R1.out.step hb
  have U2 : Hid (Box4 w2 b (usualC pa pb pc pd)) := hu
  clear hb hlb hu hfl
  go_wp2_with fail
  refine (HB.out _).mono ?_
  rintro e w3 ⟨rfl, hb⟩
  have B3 : Hid (Below w.heap.size w w3) := B2.out.trans (hb.mono B2.out.size)
  have R3 : Hid (Box8 w3 w.heap.size (instrC 0 0 0 0 0 0 false false)) := R2.out.step hb
  have U3 : Hid (Box4 w3 b (usualC pa pb pc pd)) := U2.out.step hb
  have lR : w.heap.size < w3.heap.size := R3.out.lt
  have lU : b < w3.heap.size := U3.out.lt
  have neR : w.heap.size ≠ w3.heap.size := Nat.ne_of_lt lR
  have neR' : w3.heap.size ≠ w.heap.size := Nat.ne_of_gt lR
  have neU : b ≠ w3.heap.size := Nat.ne_of_lt lU
  have neU' : w3.heap.size ≠ b := Nat.ne_of_gt lU
  clear hb
  have B4 : Hid (Below w.heap.size w (w3.alloc (.cells (instrC (o : Nat) 0 0 0 v 0 false false) 23))) := B3.out.alloc B3.out.size _
  have R4 : Hid (Box8 (w3.alloc (.cells (instrC (o : Nat) 0 0 0 v 0 false false) 23)) w.heap.size (instrC 0 0 0 0 0 0 false false)) := R3.out.alloc _
  have U4 : Hid (Box4 (w3.alloc (.cells (instrC (o : Nat) 0 0 0 v 0 false false) 23)) b (usualC pa pb pc pd)) := U3.out.alloc _
  have X4 : Hid (Box8 (w3.alloc (.cells (instrC (o : Nat) 0 0 0 v 0 false false) 23)) w3.heap.size (instrC (o : Nat) 0 0 0 v 0 false false)) := Box8.new w3 (instrC (o : Nat) 0 0 0 v 0 false false)
  go_wp2_with fail
  refine (drd_b 3 true (by decide) _).mono ?_
  rintro e w5 ⟨rfl, hb⟩
  have B5 : Hid (Below w.heap.size w w5) := B4.out.trans (hb.mono B4.out.size)
  have R5 : Hid (Box8 w5 w.heap.size (instrC 0 0 0 0 0 0 false false)) := R4.out.step hb
  have U5 : Hid (Box4 w5 b (usualC pa pb pc pd)) := U4.out.step hb
  have X5 : Hid (Box8 w5 w3.heap.size (instrC (o : Nat) 0 0 0 v 0 false false)) := X4.out.step hb
  clear hb
  obtain ⟨q0, q1, q2, q3, q4, q5, q6, q7⟩ := box8_facts X5.out
  obtain ⟨u0, u1, u2, u3⟩ := box4_facts U5.out
  obtain ⟨y0, y1, y2, y3, y4, y5, y6, y7⟩ := box8_facts R5.out
  have z0 := box8_frozen X5.out 0
  have z1 := box8_frozen X5.out 1
  have z2 := box8_frozen X5.out 2
  have z3 := box8_frozen X5.out 3
  have z4 := box8_frozen X5.out 4
  have z5 := box8_frozen X5.out 5
  have z6 := box8_frozen X5.out 6
  have z7 := box8_frozen X5.out 7
  have v0 := box8_frozen R5.out 0
  have v1 := box8_frozen R5.out 1
  have v2 := box8_frozen R5.out 2
  have v3 := box8_frozen R5.out 3
  have v4 := box8_frozen R5.out 4
  have v5 := box8_frozen R5.out 5
  have v6 := box8_frozen R5.out 6
  have v7 := box8_frozen R5.out 7
  go_wp2_with fail
  refine (dget_p x 7 5 pr Hpr.out hx (by decide) (by decide) (by decide) (by decide) _).mono ?_
  rintro e w6 ⟨rfl, hb⟩
  have B6 : Hid (Below w.heap.size w w6) := B5.out.trans (hb.mono B5.out.size)
  have R6 : Hid (Box8 w6 w.heap.size (instrC 0 0 0 0 0 0 false false)) := R5.out.step hb
  have U6 : Hid (Box4 w6 b (usualC pa pb pc pd)) := U5.out.step hb
  have X6 : Hid (Box8 w6 w3.heap.size (instrC (o : Nat) 0 0 0 v 0 false false)) := X5.out.step hb
  clear hb
  obtain ⟨q0, q1, q2, q3, q4, q5, q6, q7⟩ := box8_facts X6.out
  obtain ⟨u0, u1, u2, u3⟩ := box4_facts U6.out
  obtain ⟨y0, y1, y2, y3, y4, y5, y6, y7⟩ := box8_facts R6.out
  have z0 := box8_frozen X6.out 0
  have z1 := box8_frozen X6.out 1
  have z2 := box8_frozen X6.out 2
  have z3 := box8_frozen X6.out 3
  have z4 := box8_frozen X6.out 4
  have z5 := box8_frozen X6.out 5
  have z6 := box8_frozen X6.out 6
  have z7 := box8_frozen X6.out 7
  have v0 := box8_frozen R6.out 0
  have v1 := box8_frozen R6.out 1
  have v2 := box8_frozen R6.out 2
  have v3 := box8_frozen R6.out 3
  have v4 := box8_frozen R6.out 4
  have v5 := box8_frozen R6.out 5
  have v6 := box8_frozen R6.out 6
  have v7 := box8_frozen R6.out 7
  have B7 : Hid (Below w.heap.size w (w6.setCell ⟨w3.heap.size, 1, none⟩ (.int .i64 (pr : Nat)))) := B6.out.setCell (Nat.le_of_lt lR) _
  have R7 : Hid (Box8 (w6.setCell ⟨w3.heap.size, 1, none⟩ (.int .i64 (pr : Nat))) w.heap.size (instrC 0 0 0 0 0 0 false false)) := R6.out.other _ _ neR
  have U7 : Hid (Box4 (w6.setCell ⟨w3.heap.size, 1, none⟩ (.int .i64 (pr : Nat))) b (usualC pa pb pc pd)) := U6.out.other _ _ neU
  have X7 : Hid (Box8 (w6.setCell ⟨w3.heap.size, 1, none⟩ (.int .i64 (pr : Nat))) w3.heap.size (instrC (o : Nat) (pr : Nat) 0 0 v 0 false false)) := X6.out.set 1 _
  go_wp2_with fail
  refine (drs1_b 3 true (by decide) _).mono ?_
  rintro e w8 ⟨rfl, hb⟩
  have B8 : Hid (Below w.heap.size w w8) := B7.out.trans (hb.mono B7.out.size)
  have R8 : Hid (Box8 w8 w.heap.size (instrC 0 0 0 0 0 0 false false)) := R7.out.step hb
  have U8 : Hid (Box4 w8 b (usualC pa pb pc pd)) := U7.out.step hb
  have X8 : Hid (Box8 w8 w3.heap.size (instrC (o : Nat) (pr : Nat) 0 0 v 0 false false)) := X7.out.step hb
  clear hb
  obtain ⟨q0, q1, q2, q3, q4, q5, q6, q7⟩ := box8_facts X8.out
  obtain ⟨u0, u1, u2, u3⟩ := box4_facts U8.out
  obtain ⟨y0, y1, y2, y3, y4, y5, y6, y7⟩ := box8_facts R8.out
  have z0 := box8_frozen X8.out 0
  have z1 := box8_frozen X8.out 1
  have z2 := box8_frozen X8.out 2
  have z3 := box8_frozen X8.out 3
  have z4 := box8_frozen X8.out 4
  have z5 := box8_frozen X8.out 5
  have z6 := box8_frozen X8.out 6
  have z7 := box8_frozen X8.out 7
  have v0 := box8_frozen R8.out 0
  have v1 := box8_frozen R8.out 1
  have v2 := box8_frozen R8.out 2
  have v3 := box8_frozen R8.out 3
  have v4 := box8_frozen R8.out 4
  have v5 := box8_frozen R8.out 5
  have v6 := box8_frozen R8.out 6
  have v7 := box8_frozen R8.out 7
  have B9 : Hid (Below w.heap.size w (w8.setCell ⟨w3.heap.size, 2, none⟩ (.int .i64 (pa : Nat)))) := B8.out.setCell (Nat.le_of_lt lR) _
  have R9 : Hid (Box8 (w8.setCell ⟨w3.heap.size, 2, none⟩ (.int .i64 (pa : Nat))) w.heap.size (instrC 0 0 0 0 0 0 false false)) := R8.out.other _ _ neR
  have U9 : Hid (Box4 (w8.setCell ⟨w3.heap.size, 2, none⟩ (.int .i64 (pa : Nat))) b (usualC pa pb pc pd)) := U8.out.other _ _ neU
  have X9 : Hid (Box8 (w8.setCell ⟨w3.heap.size, 2, none⟩ (.int .i64 (pa : Nat))) w3.heap.size (instrC (o : Nat) (pr : Nat) (pa : Nat) 0 v 0 false false)) := X8.out.set 2 _
  go_wp2_with fail
  refine (drs2_b 3 false (by decide) _).mono ?_
  rintro e w10 ⟨rfl, hb⟩
  have B10 : Hid (Below w.heap.size w w10) := B9.out.trans (hb.mono B9.out.size)
  have R10 : Hid (Box8 w10 w.heap.size (instrC 0 0 0 0 0 0 false false)) := R9.out.step hb
  have U10 : Hid (Box4 w10 b (usualC pa pb pc pd)) := U9.out.step hb
  have X10 : Hid (Box8 w10 w3.heap.size (instrC (o : Nat) (pr : Nat) (pa : Nat) 0 v 0 false false)) := X9.out.step hb
  clear hb
  obtain ⟨q0, q1, q2, q3, q4, q5, q6, q7⟩ := box8_facts X10.out
  obtain ⟨u0, u1, u2, u3⟩ := box4_facts U10.out
  obtain ⟨y0, y1, y2, y3, y4, y5, y6, y7⟩ := box8_facts R10.out
  have z0 := box8_frozen X10.out 0
  have z1 := box8_frozen X10.out 1
  have z2 := box8_frozen X10.out 2
  have z3 := box8_frozen X10.out 3
  have z4 := box8_frozen X10.out 4
  have z5 := box8_frozen X10.out 5
  have z6 := box8_frozen X10.out 6
  have z7 := box8_frozen X10.out 7
  have v0 := box8_frozen R10.out 0
  have v1 := box8_frozen R10.out 1
  have v2 := box8_frozen R10.out 2
  have v3 := box8_frozen R10.out 3
  have v4 := box8_frozen R10.out 4
  have v5 := box8_frozen R10.out 5
  have v6 := box8_frozen R10.out 6
  have v7 := box8_frozen R10.out 7
  go_wp2_with fail
  refine (in2b 3 12 13 _ _ (by simp) false (by decide)).mono ?_
  rintro e w11 ⟨rfl, hb⟩
  have B11 : Hid (Below w.heap.size w w11) := B10.out.trans (hb.mono B10.out.size)
  have R11 : Hid (Box8 w11 w.heap.size (instrC 0 0 0 0 0 0 false false)) := R10.out.step hb
  have U11 : Hid (Box4 w11 b (usualC pa pb pc pd)) := U10.out.step hb
  have X11 : Hid (Box8 w11 w3.heap.size (instrC (o : Nat) (pr : Nat) (pa : Nat) 0 v 0 false false)) := X10.out.step hb
  clear hb
  obtain ⟨q0, q1, q2, q3, q4, q5, q6, q7⟩ := box8_facts X11.out
  obtain ⟨u0, u1, u2, u3⟩ := box4_facts U11.out
  obtain ⟨y0, y1, y2, y3, y4, y5, y6, y7⟩ := box8_facts R11.out
  have z0 := box8_frozen X11.out 0
  have z1 := box8_frozen X11.out 1
  have z2 := box8_frozen X11.out 2
  have z3 := box8_frozen X11.out 3
  have z4 := box8_frozen X11.out 4
  have z5 := box8_frozen X11.out 5
  have z6 := box8_frozen X11.out 6
  have z7 := box8_frozen X11.out 7
  have v0 := box8_frozen R11.out 0
  have v1 := box8_frozen R11.out 1
  have v2 := box8_frozen R11.out 2
  have v3 := box8_frozen R11.out 3
  have v4 := box8_frozen R11.out 4
  have v5 := box8_frozen R11.out 5
  have v6 := box8_frozen R11.out 6
  have v7 := box8_frozen R11.out 7
  go_wp2_with fail
  refine (in2b 3 14 15 _ _ (by simp) false (by decide)).mono ?_
  rintro e w12 ⟨rfl, hb⟩
  have B12 : Hid (Below w.heap.size w w12) := B11.out.trans (hb.mono B11.out.size)
  have R12 : Hid (Box8 w12 w.heap.size (instrC 0 0 0 0 0 0 false false)) := R11.out.step hb
  have U12 : Hid (Box4 w12 b (usualC pa pb pc pd)) := U11.out.step hb
  have X12 : Hid (Box8 w12 w3.heap.size (instrC (o : Nat) (pr : Nat) (pa : Nat) 0 v 0 false false)) := X11.out.step hb
  clear hb
  obtain ⟨q0, q1, q2, q3, q4, q5, q6, q7⟩ := box8_facts X12.out
  obtain ⟨u0, u1, u2, u3⟩ := box4_facts U12.out
  obtain ⟨y0, y1, y2, y3, y4, y5, y6, y7⟩ := box8_facts R12.out
  have z0 := box8_frozen X12.out 0
  have z1 := box8_frozen X12.out 1
  have z2 := box8_frozen X12.out 2
  have z3 := box8_frozen X12.out 3
  have z4 := box8_frozen X12.out 4
  have z5 := box8_frozen X12.out 5
  have z6 := box8_frozen X12.out 6
  have z7 := box8_frozen X12.out 7
  have v0 := box8_frozen R12.out 0
  have v1 := box8_frozen R12.out 1
  have v2 := box8_frozen R12.out 2
  have v3 := box8_frozen R12.out 3
  have v4 := box8_frozen R12.out 4
  have v5 := box8_frozen R12.out 5
  have v6 := box8_frozen R12.out 6
  have v7 := box8_frozen R12.out 7
  go_wp2
  refine bodyPost_ret (v := .agg (instrC (o : Nat) (pr : Nat) (pa : Nat) 0 v 0 false false)) (by simp [results, Tryz.results51, go_sem, q0, q1, q2, q3, q4, q5, q6, q7, y0, y1, y2, y3, y4, y5, y6, y7, neR, neR']) rfl ⟨rfl, ?_⟩
  iterate 8 (refine Below.setCell ?_ (by first | exact Nat.le_refl _ | exact Nat.le_of_lt lR) _)
  exact B12.out
set_option maxRecDepth 100000 in
set_option maxHeartbeats 2000000 in
theorem guess_4 (o x : Nat) (hx32 : x < 4294967296) (v : Int) (s : ByteArray) (cc f3 f7 : Int) (pr pa pb pc pd pq pl : Nat) (hr : getI x 7 5 = pr) (ha : getI x 15 5 = pa) (hb' : getI x 20 5 = pb) (hc : getI x 20 12 = pc) (hd : getI x 12 20 = pd) (hq : getI x 26 1 = pq) (hl : getI x 25 1 = pl) (w : World)
    (hO : ∀ w, Calls Tryz.prog 45 #[.int .i64 (o : Nat)] w fun e w' => e = .returned (.agg #[.string s, .int .i64 4, .int .i64 cc, .int .i64 f3, .int .i64 f7]) ∧ Below w.heap.size w w')
    (hB : ∀ w, Calls Tryz.prog 91 #[.int .i64 4, .int .u64 (x : Int)] w fun e w' => e = .returned (.int .i64 v) ∧ Below w.heap.size w w') :
    Calls Tryz.prog 51 #[.int .i64 (o : Nat), .int .u64 (x : Int)] w fun e w' => e = .returned (.agg (instrC (o : Nat) 0 (pa : Nat) (pb : Nat) v 0 false false)) ∧ Below w.heap.size w w' := by
  have hx : x < 18446744073709551616 := by omega
  have ipr : (pr : Int) < 32 := by have := getI_lt x 7 5; rw [hr] at this; have t : pr < 32 := this; omega
  have ipa : (pa : Int) < 32 := by have := getI_lt x 15 5; rw [ha] at this; have t : pa < 32 := this; omega
  have ipb : (pb : Int) < 32 := by have := getI_lt x 20 5; rw [hb'] at this; have t : pb < 32 := this; omega
  have ipc : (pc : Int) < 4096 := by have := getI_lt x 20 12; rw [hc] at this; have t : pc < 4096 := this; omega
  have ipq : (pq : Int) < 2 := by have := getI_lt x 26 1; rw [hq] at this; have t : pq < 2 := this; omega
  have ipl : (pl : Int) < 2 := by have := getI_lt x 25 1; rw [hl] at this; have t : pl < 2 := this; omega
  have Hpr : Hid _ := hr
  have Hpa : Hid _ := ha
  have Hpb : Hid _ := hb'
  have Hpc : Hid _ := hc
  have Hpd : Hid _ := hd
  have Hpq : Hid _ := hq
  have Hpl : Hid _ := hl
  have HO : Hid _ := hO
  have HB : Hid _ := hB
  clear hr ha hb' hc hd hq hl hO hB
  have B0 : Hid (Below w.heap.size w (w.alloc (.cells (instrC 0 0 0 0 0 0 false false) 23))) := (Below.refl _ _).alloc (Nat.le_refl _) _
  have R0 : Hid (Box8 (w.alloc (.cells (instrC 0 0 0 0 0 0 false false) 23)) w.heap.size (instrC 0 0 0 0 0 0 false false)) := Box8.new w (instrC 0 0 0 0 0 0 false false)
  go_enter Tryz.func51, Tryz.ntmps51
  go_wp2_with fail
  refine (HO.out _).mono ?_
  rintro e w1 ⟨rfl, hb⟩
  have hfl := (field72 s 4 cc f3 f7 w1).1
  have B1 : Hid (Below w.heap.size w w1) := B0.out.trans (hb.mono B0.out.size)
  have R1 : Hid (Box8 w1 w.heap.size (instrC 0 0 0 0 0 0 false false)) := R0.out.step hb
  clear hb
  go_wp2_with fail
  refine (usual_any x hx pa pb pc pd Hpa.out Hpb.out Hpc.out Hpd.out _).mono ?_
  rintro e w2 ⟨b, rfl, hb, hlb, hu⟩
  have B2 : Hid (Below w.heap.size w w2) := B1.out.trans (hb.mono B1.out.size)
  have R2 : Hid (Box8 w2 w.heap.size (instrC 0 0 0 0 0 0 false false)) := R1.out.step hb
  have U2 : Hid (Box4 w2 b (usualC pa pb pc pd)) := hu
  clear hb hlb hu hfl
  go_wp2_with fail
  refine (HB.out _).mono ?_
  rintro e w3 ⟨rfl, hb⟩
  have B3 : Hid (Below w.heap.size w w3) := B2.out.trans (hb.mono B2.out.size)
  have R3 : Hid (Box8 w3 w.heap.size (instrC 0 0 0 0 0 0 false false)) := R2.out.step hb
  have U3 : Hid (Box4 w3 b (usualC pa pb pc pd)) := U2.out.step hb
  have lR : w.heap.size < w3.heap.size := R3.out.lt
  have lU : b < w3.heap.size := U3.out.lt
  have neR : w.heap.size ≠ w3.heap.size := Nat.ne_of_lt lR
  have neR' : w3.heap.size ≠ w.heap.size := Nat.ne_of_gt lR
  have neU : b ≠ w3.heap.size := Nat.ne_of_lt lU
  have neU' : w3.heap.size ≠ b := Nat.ne_of_gt lU
  clear hb
  have B4 : Hid (Below w.heap.size w (w3.alloc (.cells (instrC (o : Nat) 0 0 0 v 0 false false) 23))) := B3.out.alloc B3.out.size _
  have R4 : Hid (Box8 (w3.alloc (.cells (instrC (o : Nat) 0 0 0 v 0 false false) 23)) w.heap.size (instrC 0 0 0 0 0 0 false false)) := R3.out.alloc _
  have U4 : Hid (Box4 (w3.alloc (.cells (instrC (o : Nat) 0 0 0 v 0 false false) 23)) b (usualC pa pb pc pd)) := U3.out.alloc _
  have X4 : Hid (Box8 (w3.alloc (.cells (instrC (o : Nat) 0 0 0 v 0 false false) 23)) w3.heap.size (instrC (o : Nat) 0 0 0 v 0 false false)) := Box8.new w3 (instrC (o : Nat) 0 0 0 v 0 false false)
  go_wp2_with fail
  refine (drd_b 4 false (by decide) _).mono ?_
  rintro e w5 ⟨rfl, hb⟩
  have B5 : Hid (Below w.heap.size w w5) := B4.out.trans (hb.mono B4.out.size)
  have R5 : Hid (Box8 w5 w.heap.size (instrC 0 0 0 0 0 0 false false)) := R4.out.step hb
  have U5 : Hid (Box4 w5 b (usualC pa pb pc pd)) := U4.out.step hb
  have X5 : Hid (Box8 w5 w3.heap.size (instrC (o : Nat) 0 0 0 v 0 false false)) := X4.out.step hb
  clear hb
  obtain ⟨q0, q1, q2, q3, q4, q5, q6, q7⟩ := box8_facts X5.out
  obtain ⟨u0, u1, u2, u3⟩ := box4_facts U5.out
  obtain ⟨y0, y1, y2, y3, y4, y5, y6, y7⟩ := box8_facts R5.out
  have z0 := box8_frozen X5.out 0
  have z1 := box8_frozen X5.out 1
  have z2 := box8_frozen X5.out 2
  have z3 := box8_frozen X5.out 3
  have z4 := box8_frozen X5.out 4
  have z5 := box8_frozen X5.out 5
  have z6 := box8_frozen X5.out 6
  have z7 := box8_frozen X5.out 7
  have v0 := box8_frozen R5.out 0
  have v1 := box8_frozen R5.out 1
  have v2 := box8_frozen R5.out 2
  have v3 := box8_frozen R5.out 3
  have v4 := box8_frozen R5.out 4
  have v5 := box8_frozen R5.out 5
  have v6 := box8_frozen R5.out 6
  have v7 := box8_frozen R5.out 7
  go_wp2_with fail
  refine (drs1_b 4 true (by decide) _).mono ?_
  rintro e w6 ⟨rfl, hb⟩
  have B6 : Hid (Below w.heap.size w w6) := B5.out.trans (hb.mono B5.out.size)
  have R6 : Hid (Box8 w6 w.heap.size (instrC 0 0 0 0 0 0 false false)) := R5.out.step hb
  have U6 : Hid (Box4 w6 b (usualC pa pb pc pd)) := U5.out.step hb
  have X6 : Hid (Box8 w6 w3.heap.size (instrC (o : Nat) 0 0 0 v 0 false false)) := X5.out.step hb
  clear hb
  obtain ⟨q0, q1, q2, q3, q4, q5, q6, q7⟩ := box8_facts X6.out
  obtain ⟨u0, u1, u2, u3⟩ := box4_facts U6.out
  obtain ⟨y0, y1, y2, y3, y4, y5, y6, y7⟩ := box8_facts R6.out
  have z0 := box8_frozen X6.out 0
  have z1 := box8_frozen X6.out 1
  have z2 := box8_frozen X6.out 2
  have z3 := box8_frozen X6.out 3
  have z4 := box8_frozen X6.out 4
  have z5 := box8_frozen X6.out 5
  have z6 := box8_frozen X6.out 6
  have z7 := box8_frozen X6.out 7
  have v0 := box8_frozen R6.out 0
  have v1 := box8_frozen R6.out 1
  have v2 := box8_frozen R6.out 2
  have v3 := box8_frozen R6.out 3
  have v4 := box8_frozen R6.out 4
  have v5 := box8_frozen R6.out 5
  have v6 := box8_frozen R6.out 6
  have v7 := box8_frozen R6.out 7
  have B7 : Hid (Below w.heap.size w (w6.setCell ⟨w3.heap.size, 2, none⟩ (.int .i64 (pa : Nat)))) := B6.out.setCell (Nat.le_of_lt lR) _
  have R7 : Hid (Box8 (w6.setCell ⟨w3.heap.size, 2, none⟩ (.int .i64 (pa : Nat))) w.heap.size (instrC 0 0 0 0 0 0 false false)) := R6.out.other _ _ neR
  have U7 : Hid (Box4 (w6.setCell ⟨w3.heap.size, 2, none⟩ (.int .i64 (pa : Nat))) b (usualC pa pb pc pd)) := U6.out.other _ _ neU
  have X7 : Hid (Box8 (w6.setCell ⟨w3.heap.size, 2, none⟩ (.int .i64 (pa : Nat))) w3.heap.size (instrC (o : Nat) 0 (pa : Nat) 0 v 0 false false)) := X6.out.set 2 _
  go_wp2_with fail
  refine (drs2_b 4 true (by decide) _).mono ?_
  rintro e w8 ⟨rfl, hb⟩
  have B8 : Hid (Below w.heap.size w w8) := B7.out.trans (hb.mono B7.out.size)
  have R8 : Hid (Box8 w8 w.heap.size (instrC 0 0 0 0 0 0 false false)) := R7.out.step hb
  have U8 : Hid (Box4 w8 b (usualC pa pb pc pd)) := U7.out.step hb
  have X8 : Hid (Box8 w8 w3.heap.size (instrC (o : Nat) 0 (pa : Nat) 0 v 0 false false)) := X7.out.step hb
  clear hb
  obtain ⟨q0, q1, q2, q3, q4, q5, q6, q7⟩ := box8_facts X8.out
  obtain ⟨u0, u1, u2, u3⟩ := box4_facts U8.out
  obtain ⟨y0, y1, y2, y3, y4, y5, y6, y7⟩ := box8_facts R8.out
  have z0 := box8_frozen X8.out 0
  have z1 := box8_frozen X8.out 1
  have z2 := box8_frozen X8.out 2
  have z3 := box8_frozen X8.out 3
  have z4 := box8_frozen X8.out 4
  have z5 := box8_frozen X8.out 5
  have z6 := box8_frozen X8.out 6
  have z7 := box8_frozen X8.out 7
  have v0 := box8_frozen R8.out 0
  have v1 := box8_frozen R8.out 1
  have v2 := box8_frozen R8.out 2
  have v3 := box8_frozen R8.out 3
  have v4 := box8_frozen R8.out 4
  have v5 := box8_frozen R8.out 5
  have v6 := box8_frozen R8.out 6
  have v7 := box8_frozen R8.out 7
  have B9 : Hid (Below w.heap.size w (w8.setCell ⟨w3.heap.size, 3, none⟩ (.int .i64 (pb : Nat)))) := B8.out.setCell (Nat.le_of_lt lR) _
  have R9 : Hid (Box8 (w8.setCell ⟨w3.heap.size, 3, none⟩ (.int .i64 (pb : Nat))) w.heap.size (instrC 0 0 0 0 0 0 false false)) := R8.out.other _ _ neR
  have U9 : Hid (Box4 (w8.setCell ⟨w3.heap.size, 3, none⟩ (.int .i64 (pb : Nat))) b (usualC pa pb pc pd)) := U8.out.other _ _ neU
  have X9 : Hid (Box8 (w8.setCell ⟨w3.heap.size, 3, none⟩ (.int .i64 (pb : Nat))) w3.heap.size (instrC (o : Nat) 0 (pa : Nat) (pb : Nat) v 0 false false)) := X8.out.set 3 _
  go_wp2_with fail
  refine (in2b 4 12 13 _ _ (by simp) false (by decide)).mono ?_
  rintro e w10 ⟨rfl, hb⟩
  have B10 : Hid (Below w.heap.size w w10) := B9.out.trans (hb.mono B9.out.size)
  have R10 : Hid (Box8 w10 w.heap.size (instrC 0 0 0 0 0 0 false false)) := R9.out.step hb
  have U10 : Hid (Box4 w10 b (usualC pa pb pc pd)) := U9.out.step hb
  have X10 : Hid (Box8 w10 w3.heap.size (instrC (o : Nat) 0 (pa : Nat) (pb : Nat) v 0 false false)) := X9.out.step hb
  clear hb
  obtain ⟨q0, q1, q2, q3, q4, q5, q6, q7⟩ := box8_facts X10.out
  obtain ⟨u0, u1, u2, u3⟩ := box4_facts U10.out
  obtain ⟨y0, y1, y2, y3, y4, y5, y6, y7⟩ := box8_facts R10.out
  have z0 := box8_frozen X10.out 0
  have z1 := box8_frozen X10.out 1
  have z2 := box8_frozen X10.out 2
  have z3 := box8_frozen X10.out 3
  have z4 := box8_frozen X10.out 4
  have z5 := box8_frozen X10.out 5
  have z6 := box8_frozen X10.out 6
  have z7 := box8_frozen X10.out 7
  have v0 := box8_frozen R10.out 0
  have v1 := box8_frozen R10.out 1
  have v2 := box8_frozen R10.out 2
  have v3 := box8_frozen R10.out 3
  have v4 := box8_frozen R10.out 4
  have v5 := box8_frozen R10.out 5
  have v6 := box8_frozen R10.out 6
  have v7 := box8_frozen R10.out 7
  go_wp2_with fail
  refine (in2b 4 14 15 _ _ (by simp) false (by decide)).mono ?_
  rintro e w11 ⟨rfl, hb⟩
  have B11 : Hid (Below w.heap.size w w11) := B10.out.trans (hb.mono B10.out.size)
  have R11 : Hid (Box8 w11 w.heap.size (instrC 0 0 0 0 0 0 false false)) := R10.out.step hb
  have U11 : Hid (Box4 w11 b (usualC pa pb pc pd)) := U10.out.step hb
  have X11 : Hid (Box8 w11 w3.heap.size (instrC (o : Nat) 0 (pa : Nat) (pb : Nat) v 0 false false)) := X10.out.step hb
  clear hb
  obtain ⟨q0, q1, q2, q3, q4, q5, q6, q7⟩ := box8_facts X11.out
  obtain ⟨u0, u1, u2, u3⟩ := box4_facts U11.out
  obtain ⟨y0, y1, y2, y3, y4, y5, y6, y7⟩ := box8_facts R11.out
  have z0 := box8_frozen X11.out 0
  have z1 := box8_frozen X11.out 1
  have z2 := box8_frozen X11.out 2
  have z3 := box8_frozen X11.out 3
  have z4 := box8_frozen X11.out 4
  have z5 := box8_frozen X11.out 5
  have z6 := box8_frozen X11.out 6
  have z7 := box8_frozen X11.out 7
  have v0 := box8_frozen R11.out 0
  have v1 := box8_frozen R11.out 1
  have v2 := box8_frozen R11.out 2
  have v3 := box8_frozen R11.out 3
  have v4 := box8_frozen R11.out 4
  have v5 := box8_frozen R11.out 5
  have v6 := box8_frozen R11.out 6
  have v7 := box8_frozen R11.out 7
  go_wp2
  refine bodyPost_ret (v := .agg (instrC (o : Nat) 0 (pa : Nat) (pb : Nat) v 0 false false)) (by simp [results, Tryz.results51, go_sem, q0, q1, q2, q3, q4, q5, q6, q7, y0, y1, y2, y3, y4, y5, y6, y7, neR, neR']) rfl ⟨rfl, ?_⟩
  iterate 8 (refine Below.setCell ?_ (by first | exact Nat.le_refl _ | exact Nat.le_of_lt lR) _)
  exact B11.out
end Go.Proofs.YtooaafbdjnlmfaaGreatDoor
