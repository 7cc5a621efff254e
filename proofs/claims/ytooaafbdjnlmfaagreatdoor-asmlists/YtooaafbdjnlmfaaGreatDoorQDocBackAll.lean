/- The document's calls usual and back of layer 3: the number that stands in a word. -/
import Derived.Test.YtooaafbdjnlmfaaGreatDoorQDocRight
import Derived.Test.YtooaafbdjnlmfaaGreatDoorQOut
namespace Go.Proofs.YtooaafbdjnlmfaaGreatDoor
open Go.RowKit
set_option linter.unusedVariables false
set_option linter.unusedSimpArgs false
theorem dget_p (x : Nat) (a n : Int) (p : Nat) (hp : getI x a n = p) (hx : x < 18446744073709551616) (h0 : 0 ≤ a) (h1 : a ≤ 63) (h2 : 0 ≤ n) (h3 : n ≤ 64) (w : World) :
    Calls Tryz.prog 92 #[.int .u64 (x : Int), .int .i64 a, .int .i64 n] w fun e w' => e = .returned (.int .u64 (p : Nat)) ∧ Below w.heap.size w w' := by
  subst hp
  exact dget_int x a n hx h0 h1 h2 h3 w
theorem rsext_i (v : Int) (y : Nat) (hv : v = (y : Nat)) (n : Int) (hy : y < 18446744073709551616) (w : World) :
    Calls Tryz.prog 115 #[.int .u64 v, .int .i64 n] w fun e w' => e = .returned (.int .u64 (sextA y n : Nat)) ∧ Below w.heap.size w w' := by
  subst hv
  exact rsext_all y n hy w w (Below.refl _ _)
/-- a word's usual parts -/
abbrev usualC (a b c d : Nat) : Array Value := #[.int .u64 (a : Nat), .int .u64 (b : Nat), .int .u64 (c : Nat), .int .u64 (d : Nat)]
theorem box4_facts {w : World} {b : Nat} {x0 x1 x2 x3 : Value} {t : TypeId} (h : w.heap[b]? = some (.cells #[x0, x1, x2, x3] t (0, 0))) :
    w.cell? ⟨b, 0, none⟩ = some x0 ∧ w.cell? ⟨b, 1, none⟩ = some x1 ∧ w.cell? ⟨b, 2, none⟩ = some x2 ∧ w.cell? ⟨b, 3, none⟩ = some x3 := by
  refine ⟨?_, ?_, ?_, ?_⟩ <;> (simp only [World.cell?, h]; rfl)
set_option maxRecDepth 100000 in
set_option maxHeartbeats 400000 in
theorem usual_any (x : Nat) (hx : x < 18446744073709551616) (pa pb pc pd : Nat) (ha : getI x 15 5 = pa) (hb' : getI x 20 5 = pb) (hc : getI x 20 12 = pc) (hd : getI x 12 20 = pd) (w : World) :
    Calls Tryz.prog 90 #[.int .u64 (x : Int)] w fun e w' => ∃ b, e = .returned (.slice (some ⟨b, 0, none⟩) 4 4) ∧ Below w.heap.size w w' ∧ w.heap.size ≤ b ∧ w'.heap[b]? = some (.cells (usualC pa pb pc pd) 43 (0, 0)) := by
  have B0 : Hid (Below w.heap.size w w) := Below.refl _ _
  have Hpa : Hid _ := ha
  have Hpb : Hid _ := hb'
  have Hpc : Hid _ := hc
  have Hpd : Hid _ := hd
  clear ha hb' hc hd
  go_enter Tryz.func90, Tryz.ntmps90
  go_wp2_with fail
  refine (dget_p x 15 5 pa Hpa.out hx (by decide) (by decide) (by decide) (by decide) _).mono ?_
  rintro e w1 ⟨rfl, hb⟩
  have B1 : Hid (Below w.heap.size w w1) := B0.out.trans (hb.mono B0.out.size)
  clear hb
  go_wp2_with fail
  refine (dget_p x 20 5 pb Hpb.out hx (by decide) (by decide) (by decide) (by decide) _).mono ?_
  rintro e w2 ⟨rfl, hb⟩
  have B2 : Hid (Below w.heap.size w w2) := B1.out.trans (hb.mono B1.out.size)
  clear hb
  go_wp2_with fail
  refine (dget_p x 20 12 pc Hpc.out hx (by decide) (by decide) (by decide) (by decide) _).mono ?_
  rintro e w3 ⟨rfl, hb⟩
  have B3 : Hid (Below w.heap.size w w3) := B2.out.trans (hb.mono B2.out.size)
  clear hb
  go_wp2_with fail
  refine (dget_p x 12 20 pd Hpd.out hx (by decide) (by decide) (by decide) (by decide) _).mono ?_
  rintro e w4 ⟨rfl, hb⟩
  have B4 : Hid (Below w.heap.size w w4) := B3.out.trans (hb.mono B3.out.size)
  clear hb
  go_wp2
  go_ret
  exact ⟨w4.heap.size, rfl, B4.out.alloc B4.out.size _, B4.out.size, heap_alloc_new w4 (.cells (usualC pa pb pc pd) 43)⟩
theorem same_mul2 {a b : Nat} (k : Nat) (h : a = b) : a * k = b * k := by rw [h]
theorem top20 (x : Nat) (h : x < 4294967296) : x / 4096 = getI x 12 20 := by
  show x / 4096 = x / 4096 % 1048576
  omega
set_option maxRecDepth 100000 in
set_option maxHeartbeats 400000 in
theorem back_1 (x : Nat) (hx32 : x < 4294967296) (w : World) : Calls Tryz.prog 91 #[.int .i64 1, .int .u64 (x : Int)] w fun e w' => e = .returned (.int .i64 (immD 1 x)) ∧ Below w.heap.size w w' := by
  have hx : x < 18446744073709551616 := by omega
  have B0 : Hid (Below w.heap.size w w) := Below.refl _ _
  obtain ⟨pa, hpa, lpa⟩ : ∃ p : Nat, getI x 15 5 = p ∧ p < 32 := ⟨_, rfl, getI_lt x 15 5⟩
  have Hpa : Hid _ := hpa
  clear hpa
  have ipa : (pa : Int) < 32 := by omega
  obtain ⟨pb, hpb, lpb⟩ : ∃ p : Nat, getI x 20 5 = p ∧ p < 32 := ⟨_, rfl, getI_lt x 20 5⟩
  have Hpb : Hid _ := hpb
  clear hpb
  have ipb : (pb : Int) < 32 := by omega
  obtain ⟨pc, hpc, lpc⟩ : ∃ p : Nat, getI x 20 12 = p ∧ p < 4096 := ⟨_, rfl, getI_lt x 20 12⟩
  have Hpc : Hid _ := hpc
  clear hpc
  have ipc : (pc : Int) < 4096 := by omega
  obtain ⟨pd, hpd, lpd⟩ : ∃ p : Nat, getI x 12 20 = p ∧ p < 1048576 := ⟨_, rfl, getI_lt x 12 20⟩
  have Hpd : Hid _ := hpd
  clear hpd
  have ipd : (pd : Int) < 1048576 := by omega
  go_enter Tryz.func91, Tryz.ntmps91
  go_wp2_with fail
  refine (usual_any x hx pa pb pc pd Hpa.out Hpb.out Hpc.out Hpd.out _).mono ?_
  rintro e w1 ⟨b, rfl, hb, hlb, hu⟩
  obtain ⟨u0, u1, u2, u3⟩ := box4_facts hu
  have B1 : Hid (Below w.heap.size w w1) := hb
  clear hb hu hlb
  go_wp2_with fail
  refine (rsext_i _ (pd * 4096) (by omega) 32 (by omega) _).mono ?_
  rintro e w9 ⟨rfl, hb⟩
  have B9 : Hid (Below w.heap.size w w9) := B1.out.trans (hb.mono B1.out.size)
  clear hb
  go_wp2
  go_ret
  exact ⟨ret64 (by rw [immD_1, show x / 4096 * 4096 = pd * 4096 from same_mul2 4096 (by rw [← Hpd.out]; exact top20 x hx32)]; first | done | rfl), B9.out⟩
set_option maxRecDepth 100000 in
set_option maxHeartbeats 400000 in
theorem back_2 (x : Nat) (hx32 : x < 4294967296) (w : World) : Calls Tryz.prog 91 #[.int .i64 2, .int .u64 (x : Int)] w fun e w' => e = .returned (.int .i64 (immD 2 x)) ∧ Below w.heap.size w w' := by
  have hx : x < 18446744073709551616 := by omega
  have B0 : Hid (Below w.heap.size w w) := Below.refl _ _
  obtain ⟨pa, hpa, lpa⟩ : ∃ p : Nat, getI x 15 5 = p ∧ p < 32 := ⟨_, rfl, getI_lt x 15 5⟩
  have Hpa : Hid _ := hpa
  clear hpa
  have ipa : (pa : Int) < 32 := by omega
  obtain ⟨pb, hpb, lpb⟩ : ∃ p : Nat, getI x 20 5 = p ∧ p < 32 := ⟨_, rfl, getI_lt x 20 5⟩
  have Hpb : Hid _ := hpb
  clear hpb
  have ipb : (pb : Int) < 32 := by omega
  obtain ⟨pc, hpc, lpc⟩ : ∃ p : Nat, getI x 20 12 = p ∧ p < 4096 := ⟨_, rfl, getI_lt x 20 12⟩
  have Hpc : Hid _ := hpc
  clear hpc
  have ipc : (pc : Int) < 4096 := by omega
  obtain ⟨pd, hpd, lpd⟩ : ∃ p : Nat, getI x 12 20 = p ∧ p < 1048576 := ⟨_, rfl, getI_lt x 12 20⟩
  have Hpd : Hid _ := hpd
  clear hpd
  have ipd : (pd : Int) < 1048576 := by omega
  obtain ⟨p0, hp0, lp0⟩ : ∃ p : Nat, getI x 31 1 = p ∧ p < 2 := ⟨_, rfl, getI_lt x 31 1⟩
  have Hp0 : Hid _ := hp0
  clear hp0
  have ip0 : (p0 : Int) < 2 := by omega
  obtain ⟨p1, hp1, lp1⟩ : ∃ p : Nat, getI x 21 10 = p ∧ p < 1024 := ⟨_, rfl, getI_lt x 21 10⟩
  have Hp1 : Hid _ := hp1
  clear hp1
  have ip1 : (p1 : Int) < 1024 := by omega
  obtain ⟨p2, hp2, lp2⟩ : ∃ p : Nat, getI x 20 1 = p ∧ p < 2 := ⟨_, rfl, getI_lt x 20 1⟩
  have Hp2 : Hid _ := hp2
  clear hp2
  have ip2 : (p2 : Int) < 2 := by omega
  obtain ⟨p3, hp3, lp3⟩ : ∃ p : Nat, getI x 12 8 = p ∧ p < 256 := ⟨_, rfl, getI_lt x 12 8⟩
  have Hp3 : Hid _ := hp3
  clear hp3
  have ip3 : (p3 : Int) < 256 := by omega
  go_enter Tryz.func91, Tryz.ntmps91
  go_wp2_with fail
  refine (usual_any x hx pa pb pc pd Hpa.out Hpb.out Hpc.out Hpd.out _).mono ?_
  rintro e w1 ⟨b, rfl, hb, hlb, hu⟩
  obtain ⟨u0, u1, u2, u3⟩ := box4_facts hu
  have B1 : Hid (Below w.heap.size w w1) := hb
  clear hb hu hlb
  go_wp2_with fail
  refine (dget_p x 31 1 p0 Hp0.out hx (by decide) (by decide) (by decide) (by decide) _).mono ?_
  rintro e w2 ⟨rfl, hb⟩
  have B2 : Hid (Below w.heap.size w w2) := B1.out.trans (hb.mono B1.out.size)
  clear hb
  go_wp2_with fail
  refine (dget_p x 21 10 p1 Hp1.out hx (by decide) (by decide) (by decide) (by decide) _).mono ?_
  rintro e w3 ⟨rfl, hb⟩
  have B3 : Hid (Below w.heap.size w w3) := B2.out.trans (hb.mono B2.out.size)
  clear hb
  go_wp2_with fail
  refine (dget_p x 20 1 p2 Hp2.out hx (by decide) (by decide) (by decide) (by decide) _).mono ?_
  rintro e w4 ⟨rfl, hb⟩
  have B4 : Hid (Below w.heap.size w w4) := B3.out.trans (hb.mono B3.out.size)
  clear hb
  go_wp2_with fail
  refine (dget_p x 12 8 p3 Hp3.out hx (by decide) (by decide) (by decide) (by decide) _).mono ?_
  rintro e w5 ⟨rfl, hb⟩
  have B5 : Hid (Below w.heap.size w w5) := B4.out.trans (hb.mono B4.out.size)
  clear hb
  go_wp2_with fail
  refine (rsext_i _ (p0 * 1048576 + p1 * 2 + p2 * 2048 + p3 * 4096) (by omega) 21 (by omega) _).mono ?_
  rintro e w9 ⟨rfl, hb⟩
  have B9 : Hid (Below w.heap.size w w9) := B5.out.trans (hb.mono B5.out.size)
  clear hb
  go_wp2
  go_ret
  exact ⟨ret64 (by rw [immD_2, Hp0.out, Hp1.out, Hp2.out, Hp3.out]; first | done | rfl), B9.out⟩
set_option maxRecDepth 100000 in
set_option maxHeartbeats 400000 in
theorem back_3 (x : Nat) (hx32 : x < 4294967296) (w : World) : Calls Tryz.prog 91 #[.int .i64 3, .int .u64 (x : Int)] w fun e w' => e = .returned (.int .i64 (immD 3 x)) ∧ Below w.heap.size w w' := by
  have hx : x < 18446744073709551616 := by omega
  have B0 : Hid (Below w.heap.size w w) := Below.refl _ _
  obtain ⟨pa, hpa, lpa⟩ : ∃ p : Nat, getI x 15 5 = p ∧ p < 32 := ⟨_, rfl, getI_lt x 15 5⟩
  have Hpa : Hid _ := hpa
  clear hpa
  have ipa : (pa : Int) < 32 := by omega
  obtain ⟨pb, hpb, lpb⟩ : ∃ p : Nat, getI x 20 5 = p ∧ p < 32 := ⟨_, rfl, getI_lt x 20 5⟩
  have Hpb : Hid _ := hpb
  clear hpb
  have ipb : (pb : Int) < 32 := by omega
  obtain ⟨pc, hpc, lpc⟩ : ∃ p : Nat, getI x 20 12 = p ∧ p < 4096 := ⟨_, rfl, getI_lt x 20 12⟩
  have Hpc : Hid _ := hpc
  clear hpc
  have ipc : (pc : Int) < 4096 := by omega
  obtain ⟨pd, hpd, lpd⟩ : ∃ p : Nat, getI x 12 20 = p ∧ p < 1048576 := ⟨_, rfl, getI_lt x 12 20⟩
  have Hpd : Hid _ := hpd
  clear hpd
  have ipd : (pd : Int) < 1048576 := by omega
  go_enter Tryz.func91, Tryz.ntmps91
  go_wp2_with fail
  refine (usual_any x hx pa pb pc pd Hpa.out Hpb.out Hpc.out Hpd.out _).mono ?_
  rintro e w1 ⟨b, rfl, hb, hlb, hu⟩
  obtain ⟨u0, u1, u2, u3⟩ := box4_facts hu
  have B1 : Hid (Below w.heap.size w w1) := hb
  clear hb hu hlb
  go_wp2_with fail
  refine (rsext_i _ (pc) (by omega) 12 (by omega) _).mono ?_
  rintro e w9 ⟨rfl, hb⟩
  have B9 : Hid (Below w.heap.size w w9) := B1.out.trans (hb.mono B1.out.size)
  clear hb
  go_wp2
  go_ret
  exact ⟨ret64 (by rw [immD_3, Hpc.out]; first | done | rfl), B9.out⟩
set_option maxRecDepth 100000 in
set_option maxHeartbeats 400000 in
theorem back_4 (x : Nat) (hx32 : x < 4294967296) (w : World) : Calls Tryz.prog 91 #[.int .i64 4, .int .u64 (x : Int)] w fun e w' => e = .returned (.int .i64 (immD 5 x)) ∧ Below w.heap.size w w' := by
  have hx : x < 18446744073709551616 := by omega
  have B0 : Hid (Below w.heap.size w w) := Below.refl _ _
  obtain ⟨pa, hpa, lpa⟩ : ∃ p : Nat, getI x 15 5 = p ∧ p < 32 := ⟨_, rfl, getI_lt x 15 5⟩
  have Hpa : Hid _ := hpa
  clear hpa
  have ipa : (pa : Int) < 32 := by omega
  obtain ⟨pb, hpb, lpb⟩ : ∃ p : Nat, getI x 20 5 = p ∧ p < 32 := ⟨_, rfl, getI_lt x 20 5⟩
  have Hpb : Hid _ := hpb
  clear hpb
  have ipb : (pb : Int) < 32 := by omega
  obtain ⟨pc, hpc, lpc⟩ : ∃ p : Nat, getI x 20 12 = p ∧ p < 4096 := ⟨_, rfl, getI_lt x 20 12⟩
  have Hpc : Hid _ := hpc
  clear hpc
  have ipc : (pc : Int) < 4096 := by omega
  obtain ⟨pd, hpd, lpd⟩ : ∃ p : Nat, getI x 12 20 = p ∧ p < 1048576 := ⟨_, rfl, getI_lt x 12 20⟩
  have Hpd : Hid _ := hpd
  clear hpd
  have ipd : (pd : Int) < 1048576 := by omega
  obtain ⟨p0, hp0, lp0⟩ : ∃ p : Nat, getI x 31 1 = p ∧ p < 2 := ⟨_, rfl, getI_lt x 31 1⟩
  have Hp0 : Hid _ := hp0
  clear hp0
  have ip0 : (p0 : Int) < 2 := by omega
  obtain ⟨p1, hp1, lp1⟩ : ∃ p : Nat, getI x 25 6 = p ∧ p < 64 := ⟨_, rfl, getI_lt x 25 6⟩
  have Hp1 : Hid _ := hp1
  clear hp1
  have ip1 : (p1 : Int) < 64 := by omega
  obtain ⟨p2, hp2, lp2⟩ : ∃ p : Nat, getI x 8 4 = p ∧ p < 16 := ⟨_, rfl, getI_lt x 8 4⟩
  have Hp2 : Hid _ := hp2
  clear hp2
  have ip2 : (p2 : Int) < 16 := by omega
  obtain ⟨p3, hp3, lp3⟩ : ∃ p : Nat, getI x 7 1 = p ∧ p < 2 := ⟨_, rfl, getI_lt x 7 1⟩
  have Hp3 : Hid _ := hp3
  clear hp3
  have ip3 : (p3 : Int) < 2 := by omega
  go_enter Tryz.func91, Tryz.ntmps91
  go_wp2_with fail
  refine (usual_any x hx pa pb pc pd Hpa.out Hpb.out Hpc.out Hpd.out _).mono ?_
  rintro e w1 ⟨b, rfl, hb, hlb, hu⟩
  obtain ⟨u0, u1, u2, u3⟩ := box4_facts hu
  have B1 : Hid (Below w.heap.size w w1) := hb
  clear hb hu hlb
  go_wp2_with fail
  refine (dget_p x 31 1 p0 Hp0.out hx (by decide) (by decide) (by decide) (by decide) _).mono ?_
  rintro e w2 ⟨rfl, hb⟩
  have B2 : Hid (Below w.heap.size w w2) := B1.out.trans (hb.mono B1.out.size)
  clear hb
  go_wp2_with fail
  refine (dget_p x 25 6 p1 Hp1.out hx (by decide) (by decide) (by decide) (by decide) _).mono ?_
  rintro e w3 ⟨rfl, hb⟩
  have B3 : Hid (Below w.heap.size w w3) := B2.out.trans (hb.mono B2.out.size)
  clear hb
  go_wp2_with fail
  refine (dget_p x 8 4 p2 Hp2.out hx (by decide) (by decide) (by decide) (by decide) _).mono ?_
  rintro e w4 ⟨rfl, hb⟩
  have B4 : Hid (Below w.heap.size w w4) := B3.out.trans (hb.mono B3.out.size)
  clear hb
  go_wp2_with fail
  refine (dget_p x 7 1 p3 Hp3.out hx (by decide) (by decide) (by decide) (by decide) _).mono ?_
  rintro e w5 ⟨rfl, hb⟩
  have B5 : Hid (Below w.heap.size w w5) := B4.out.trans (hb.mono B4.out.size)
  clear hb
  go_wp2_with fail
  refine (rsext_i _ (p0 * 4096 + p1 * 32 + p2 * 2 + p3 * 2048) (by omega) 13 (by omega) _).mono ?_
  rintro e w9 ⟨rfl, hb⟩
  have B9 : Hid (Below w.heap.size w w9) := B5.out.trans (hb.mono B5.out.size)
  clear hb
  go_wp2
  go_ret
  exact ⟨ret64 (by rw [immD_5, Hp0.out, Hp1.out, Hp2.out, Hp3.out]; first | done | rfl), B9.out⟩
set_option maxRecDepth 100000 in
set_option maxHeartbeats 400000 in
theorem back_5 (x : Nat) (hx32 : x < 4294967296) (w : World) : Calls Tryz.prog 91 #[.int .i64 5, .int .u64 (x : Int)] w fun e w' => e = .returned (.int .i64 (immD 4 x)) ∧ Below w.heap.size w w' := by
  have hx : x < 18446744073709551616 := by omega
  have B0 : Hid (Below w.heap.size w w) := Below.refl _ _
  obtain ⟨pa, hpa, lpa⟩ : ∃ p : Nat, getI x 15 5 = p ∧ p < 32 := ⟨_, rfl, getI_lt x 15 5⟩
  have Hpa : Hid _ := hpa
  clear hpa
  have ipa : (pa : Int) < 32 := by omega
  obtain ⟨pb, hpb, lpb⟩ : ∃ p : Nat, getI x 20 5 = p ∧ p < 32 := ⟨_, rfl, getI_lt x 20 5⟩
  have Hpb : Hid _ := hpb
  clear hpb
  have ipb : (pb : Int) < 32 := by omega
  obtain ⟨pc, hpc, lpc⟩ : ∃ p : Nat, getI x 20 12 = p ∧ p < 4096 := ⟨_, rfl, getI_lt x 20 12⟩
  have Hpc : Hid _ := hpc
  clear hpc
  have ipc : (pc : Int) < 4096 := by omega
  obtain ⟨pd, hpd, lpd⟩ : ∃ p : Nat, getI x 12 20 = p ∧ p < 1048576 := ⟨_, rfl, getI_lt x 12 20⟩
  have Hpd : Hid _ := hpd
  clear hpd
  have ipd : (pd : Int) < 1048576 := by omega
  go_enter Tryz.func91, Tryz.ntmps91
  go_wp2_with fail
  refine (usual_any x hx pa pb pc pd Hpa.out Hpb.out Hpc.out Hpd.out _).mono ?_
  rintro e w1 ⟨b, rfl, hb, hlb, hu⟩
  obtain ⟨u0, u1, u2, u3⟩ := box4_facts hu
  have B1 : Hid (Below w.heap.size w w1) := hb
  clear hb hu hlb
  go_wp2_with fail
  refine (rsext_i _ (pc) (by omega) 12 (by omega) _).mono ?_
  rintro e w9 ⟨rfl, hb⟩
  have B9 : Hid (Below w.heap.size w w9) := B1.out.trans (hb.mono B1.out.size)
  clear hb
  go_wp2
  go_ret
  exact ⟨ret64 (by rw [immD_4, Hpc.out]; first | done | rfl), B9.out⟩
set_option maxRecDepth 100000 in
set_option maxHeartbeats 400000 in
theorem back_6 (x : Nat) (hx32 : x < 4294967296) (w : World) : Calls Tryz.prog 91 #[.int .i64 6, .int .u64 (x : Int)] w fun e w' => e = .returned (.int .i64 (immD 6 x)) ∧ Below w.heap.size w w' := by
  have hx : x < 18446744073709551616 := by omega
  have B0 : Hid (Below w.heap.size w w) := Below.refl _ _
  obtain ⟨pa, hpa, lpa⟩ : ∃ p : Nat, getI x 15 5 = p ∧ p < 32 := ⟨_, rfl, getI_lt x 15 5⟩
  have Hpa : Hid _ := hpa
  clear hpa
  have ipa : (pa : Int) < 32 := by omega
  obtain ⟨pb, hpb, lpb⟩ : ∃ p : Nat, getI x 20 5 = p ∧ p < 32 := ⟨_, rfl, getI_lt x 20 5⟩
  have Hpb : Hid _ := hpb
  clear hpb
  have ipb : (pb : Int) < 32 := by omega
  obtain ⟨pc, hpc, lpc⟩ : ∃ p : Nat, getI x 20 12 = p ∧ p < 4096 := ⟨_, rfl, getI_lt x 20 12⟩
  have Hpc : Hid _ := hpc
  clear hpc
  have ipc : (pc : Int) < 4096 := by omega
  obtain ⟨pd, hpd, lpd⟩ : ∃ p : Nat, getI x 12 20 = p ∧ p < 1048576 := ⟨_, rfl, getI_lt x 12 20⟩
  have Hpd : Hid _ := hpd
  clear hpd
  have ipd : (pd : Int) < 1048576 := by omega
  obtain ⟨p0, hp0, lp0⟩ : ∃ p : Nat, getI x 25 7 = p ∧ p < 128 := ⟨_, rfl, getI_lt x 25 7⟩
  have Hp0 : Hid _ := hp0
  clear hp0
  have ip0 : (p0 : Int) < 128 := by omega
  obtain ⟨p1, hp1, lp1⟩ : ∃ p : Nat, getI x 7 5 = p ∧ p < 32 := ⟨_, rfl, getI_lt x 7 5⟩
  have Hp1 : Hid _ := hp1
  clear hp1
  have ip1 : (p1 : Int) < 32 := by omega
  go_enter Tryz.func91, Tryz.ntmps91
  go_wp2_with fail
  refine (usual_any x hx pa pb pc pd Hpa.out Hpb.out Hpc.out Hpd.out _).mono ?_
  rintro e w1 ⟨b, rfl, hb, hlb, hu⟩
  obtain ⟨u0, u1, u2, u3⟩ := box4_facts hu
  have B1 : Hid (Below w.heap.size w w1) := hb
  clear hb hu hlb
  go_wp2_with fail
  refine (dget_p x 25 7 p0 Hp0.out hx (by decide) (by decide) (by decide) (by decide) _).mono ?_
  rintro e w2 ⟨rfl, hb⟩
  have B2 : Hid (Below w.heap.size w w2) := B1.out.trans (hb.mono B1.out.size)
  clear hb
  go_wp2_with fail
  refine (dget_p x 7 5 p1 Hp1.out hx (by decide) (by decide) (by decide) (by decide) _).mono ?_
  rintro e w3 ⟨rfl, hb⟩
  have B3 : Hid (Below w.heap.size w w3) := B2.out.trans (hb.mono B2.out.size)
  clear hb
  go_wp2_with fail
  refine (rsext_i _ (p0 * 32 + p1) (by omega) 12 (by omega) _).mono ?_
  rintro e w9 ⟨rfl, hb⟩
  have B9 : Hid (Below w.heap.size w w9) := B3.out.trans (hb.mono B3.out.size)
  clear hb
  go_wp2
  go_ret
  exact ⟨ret64 (by rw [immD_6, Hp0.out, Hp1.out]; first | done | rfl), B9.out⟩
set_option maxRecDepth 100000 in
set_option maxHeartbeats 400000 in
theorem back_7 (x : Nat) (hx32 : x < 4294967296) (w : World) : Calls Tryz.prog 91 #[.int .i64 7, .int .u64 (x : Int)] w fun e w' => e = .returned (.int .i64 (immD 7 x)) ∧ Below w.heap.size w w' := by
  have hx : x < 18446744073709551616 := by omega
  have B0 : Hid (Below w.heap.size w w) := Below.refl _ _
  obtain ⟨pa, hpa, lpa⟩ : ∃ p : Nat, getI x 15 5 = p ∧ p < 32 := ⟨_, rfl, getI_lt x 15 5⟩
  have Hpa : Hid _ := hpa
  clear hpa
  have ipa : (pa : Int) < 32 := by omega
  obtain ⟨pb, hpb, lpb⟩ : ∃ p : Nat, getI x 20 5 = p ∧ p < 32 := ⟨_, rfl, getI_lt x 20 5⟩
  have Hpb : Hid _ := hpb
  clear hpb
  have ipb : (pb : Int) < 32 := by omega
  obtain ⟨pc, hpc, lpc⟩ : ∃ p : Nat, getI x 20 12 = p ∧ p < 4096 := ⟨_, rfl, getI_lt x 20 12⟩
  have Hpc : Hid _ := hpc
  clear hpc
  have ipc : (pc : Int) < 4096 := by omega
  obtain ⟨pd, hpd, lpd⟩ : ∃ p : Nat, getI x 12 20 = p ∧ p < 1048576 := ⟨_, rfl, getI_lt x 12 20⟩
  have Hpd : Hid _ := hpd
  clear hpd
  have ipd : (pd : Int) < 1048576 := by omega
  obtain ⟨p0, hp0, lp0⟩ : ∃ p : Nat, getI x 20 6 = p ∧ p < 64 := ⟨_, rfl, getI_lt x 20 6⟩
  have Hp0 : Hid _ := hp0
  clear hp0
  have ip0 : (p0 : Int) < 64 := by omega
  go_enter Tryz.func91, Tryz.ntmps91
  go_wp2_with fail
  refine (usual_any x hx pa pb pc pd Hpa.out Hpb.out Hpc.out Hpd.out _).mono ?_
  rintro e w1 ⟨b, rfl, hb, hlb, hu⟩
  obtain ⟨u0, u1, u2, u3⟩ := box4_facts hu
  have B1 : Hid (Below w.heap.size w w1) := hb
  clear hb hu hlb
  go_wp2_with fail
  refine (dget_p x 20 6 p0 Hp0.out hx (by decide) (by decide) (by decide) (by decide) _).mono ?_
  rintro e w2 ⟨rfl, hb⟩
  have B2 : Hid (Below w.heap.size w w2) := B1.out.trans (hb.mono B1.out.size)
  clear hb
  go_wp2
  go_ret
  exact ⟨ret64 (by rw [immD_7, Hp0.out]; first | done | rfl), B2.out⟩
set_option maxRecDepth 100000 in
set_option maxHeartbeats 400000 in
theorem back_8 (x : Nat) (hx32 : x < 4294967296) (w : World) : Calls Tryz.prog 91 #[.int .i64 8, .int .u64 (x : Int)] w fun e w' => e = .returned (.int .i64 (immD 8 x)) ∧ Below w.heap.size w w' := by
  have hx : x < 18446744073709551616 := by omega
  have B0 : Hid (Below w.heap.size w w) := Below.refl _ _
  obtain ⟨pa, hpa, lpa⟩ : ∃ p : Nat, getI x 15 5 = p ∧ p < 32 := ⟨_, rfl, getI_lt x 15 5⟩
  have Hpa : Hid _ := hpa
  clear hpa
  have ipa : (pa : Int) < 32 := by omega
  obtain ⟨pb, hpb, lpb⟩ : ∃ p : Nat, getI x 20 5 = p ∧ p < 32 := ⟨_, rfl, getI_lt x 20 5⟩
  have Hpb : Hid _ := hpb
  clear hpb
  have ipb : (pb : Int) < 32 := by omega
  obtain ⟨pc, hpc, lpc⟩ : ∃ p : Nat, getI x 20 12 = p ∧ p < 4096 := ⟨_, rfl, getI_lt x 20 12⟩
  have Hpc : Hid _ := hpc
  clear hpc
  have ipc : (pc : Int) < 4096 := by omega
  obtain ⟨pd, hpd, lpd⟩ : ∃ p : Nat, getI x 12 20 = p ∧ p < 1048576 := ⟨_, rfl, getI_lt x 12 20⟩
  have Hpd : Hid _ := hpd
  clear hpd
  have ipd : (pd : Int) < 1048576 := by omega
  go_enter Tryz.func91, Tryz.ntmps91
  go_wp2_with fail
  refine (usual_any x hx pa pb pc pd Hpa.out Hpb.out Hpc.out Hpd.out _).mono ?_
  rintro e w1 ⟨b, rfl, hb, hlb, hu⟩
  obtain ⟨u0, u1, u2, u3⟩ := box4_facts hu
  have B1 : Hid (Below w.heap.size w w1) := hb
  clear hb hu hlb
  go_wp2
  go_ret
  exact ⟨ret64 (by rw [immD_8, Hpb.out]; first | done | rfl), B1.out⟩
set_option maxRecDepth 100000 in
set_option maxHeartbeats 400000 in
theorem back_9 (x : Nat) (hx32 : x < 4294967296) (w : World) : Calls Tryz.prog 91 #[.int .i64 9, .int .u64 (x : Int)] w fun e w' => e = .returned (.int .i64 (immD 9 x)) ∧ Below w.heap.size w w' := by
  have hx : x < 18446744073709551616 := by omega
  have B0 : Hid (Below w.heap.size w w) := Below.refl _ _
  obtain ⟨pa, hpa, lpa⟩ : ∃ p : Nat, getI x 15 5 = p ∧ p < 32 := ⟨_, rfl, getI_lt x 15 5⟩
  have Hpa : Hid _ := hpa
  clear hpa
  have ipa : (pa : Int) < 32 := by omega
  obtain ⟨pb, hpb, lpb⟩ : ∃ p : Nat, getI x 20 5 = p ∧ p < 32 := ⟨_, rfl, getI_lt x 20 5⟩
  have Hpb : Hid _ := hpb
  clear hpb
  have ipb : (pb : Int) < 32 := by omega
  obtain ⟨pc, hpc, lpc⟩ : ∃ p : Nat, getI x 20 12 = p ∧ p < 4096 := ⟨_, rfl, getI_lt x 20 12⟩
  have Hpc : Hid _ := hpc
  clear hpc
  have ipc : (pc : Int) < 4096 := by omega
  obtain ⟨pd, hpd, lpd⟩ : ∃ p : Nat, getI x 12 20 = p ∧ p < 1048576 := ⟨_, rfl, getI_lt x 12 20⟩
  have Hpd : Hid _ := hpd
  clear hpd
  have ipd : (pd : Int) < 1048576 := by omega
  go_enter Tryz.func91, Tryz.ntmps91
  go_wp2_with fail
  refine (usual_any x hx pa pb pc pd Hpa.out Hpb.out Hpc.out Hpd.out _).mono ?_
  rintro e w1 ⟨b, rfl, hb, hlb, hu⟩
  obtain ⟨u0, u1, u2, u3⟩ := box4_facts hu
  have B1 : Hid (Below w.heap.size w w1) := hb
  clear hb hu hlb
  go_wp2
  go_ret
  exact ⟨ret64 (by rw [immD_none 9 x (by decide)]), B1.out⟩
set_option maxRecDepth 100000 in
set_option maxHeartbeats 400000 in
theorem back_10 (x : Nat) (hx32 : x < 4294967296) (w : World) : Calls Tryz.prog 91 #[.int .i64 10, .int .u64 (x : Int)] w fun e w' => e = .returned (.int .i64 (immD 10 x)) ∧ Below w.heap.size w w' := by
  have hx : x < 18446744073709551616 := by omega
  have B0 : Hid (Below w.heap.size w w) := Below.refl _ _
  obtain ⟨pa, hpa, lpa⟩ : ∃ p : Nat, getI x 15 5 = p ∧ p < 32 := ⟨_, rfl, getI_lt x 15 5⟩
  have Hpa : Hid _ := hpa
  clear hpa
  have ipa : (pa : Int) < 32 := by omega
  obtain ⟨pb, hpb, lpb⟩ : ∃ p : Nat, getI x 20 5 = p ∧ p < 32 := ⟨_, rfl, getI_lt x 20 5⟩
  have Hpb : Hid _ := hpb
  clear hpb
  have ipb : (pb : Int) < 32 := by omega
  obtain ⟨pc, hpc, lpc⟩ : ∃ p : Nat, getI x 20 12 = p ∧ p < 4096 := ⟨_, rfl, getI_lt x 20 12⟩
  have Hpc : Hid _ := hpc
  clear hpc
  have ipc : (pc : Int) < 4096 := by omega
  obtain ⟨pd, hpd, lpd⟩ : ∃ p : Nat, getI x 12 20 = p ∧ p < 1048576 := ⟨_, rfl, getI_lt x 12 20⟩
  have Hpd : Hid _ := hpd
  clear hpd
  have ipd : (pd : Int) < 1048576 := by omega
  go_enter Tryz.func91, Tryz.ntmps91
  go_wp2_with fail
  refine (usual_any x hx pa pb pc pd Hpa.out Hpb.out Hpc.out Hpd.out _).mono ?_
  rintro e w1 ⟨b, rfl, hb, hlb, hu⟩
  obtain ⟨u0, u1, u2, u3⟩ := box4_facts hu
  have B1 : Hid (Below w.heap.size w w1) := hb
  clear hb hu hlb
  go_wp2
  go_ret
  exact ⟨ret64 (by rw [immD_10, Hpc.out]; first | done | rfl), B1.out⟩
set_option maxRecDepth 100000 in
set_option maxHeartbeats 400000 in
theorem back_11 (x : Nat) (hx32 : x < 4294967296) (w : World) : Calls Tryz.prog 91 #[.int .i64 11, .int .u64 (x : Int)] w fun e w' => e = .returned (.int .i64 (immD 11 x)) ∧ Below w.heap.size w w' := by
  have hx : x < 18446744073709551616 := by omega
  have B0 : Hid (Below w.heap.size w w) := Below.refl _ _
  obtain ⟨pa, hpa, lpa⟩ : ∃ p : Nat, getI x 15 5 = p ∧ p < 32 := ⟨_, rfl, getI_lt x 15 5⟩
  have Hpa : Hid _ := hpa
  clear hpa
  have ipa : (pa : Int) < 32 := by omega
  obtain ⟨pb, hpb, lpb⟩ : ∃ p : Nat, getI x 20 5 = p ∧ p < 32 := ⟨_, rfl, getI_lt x 20 5⟩
  have Hpb : Hid _ := hpb
  clear hpb
  have ipb : (pb : Int) < 32 := by omega
  obtain ⟨pc, hpc, lpc⟩ : ∃ p : Nat, getI x 20 12 = p ∧ p < 4096 := ⟨_, rfl, getI_lt x 20 12⟩
  have Hpc : Hid _ := hpc
  clear hpc
  have ipc : (pc : Int) < 4096 := by omega
  obtain ⟨pd, hpd, lpd⟩ : ∃ p : Nat, getI x 12 20 = p ∧ p < 1048576 := ⟨_, rfl, getI_lt x 12 20⟩
  have Hpd : Hid _ := hpd
  clear hpd
  have ipd : (pd : Int) < 1048576 := by omega
  go_enter Tryz.func91, Tryz.ntmps91
  go_wp2_with fail
  refine (usual_any x hx pa pb pc pd Hpa.out Hpb.out Hpc.out Hpd.out _).mono ?_
  rintro e w1 ⟨b, rfl, hb, hlb, hu⟩
  obtain ⟨u0, u1, u2, u3⟩ := box4_facts hu
  have B1 : Hid (Below w.heap.size w w1) := hb
  clear hb hu hlb
  go_wp2
  go_ret
  exact ⟨ret64 (by rw [immD_none 11 x (by decide)]), B1.out⟩
set_option maxRecDepth 100000 in
set_option maxHeartbeats 400000 in
theorem back_12 (x : Nat) (hx32 : x < 4294967296) (w : World) : Calls Tryz.prog 91 #[.int .i64 12, .int .u64 (x : Int)] w fun e w' => e = .returned (.int .i64 (immD 12 x)) ∧ Below w.heap.size w w' := by
  have hx : x < 18446744073709551616 := by omega
  have B0 : Hid (Below w.heap.size w w) := Below.refl _ _
  obtain ⟨pa, hpa, lpa⟩ : ∃ p : Nat, getI x 15 5 = p ∧ p < 32 := ⟨_, rfl, getI_lt x 15 5⟩
  have Hpa : Hid _ := hpa
  clear hpa
  have ipa : (pa : Int) < 32 := by omega
  obtain ⟨pb, hpb, lpb⟩ : ∃ p : Nat, getI x 20 5 = p ∧ p < 32 := ⟨_, rfl, getI_lt x 20 5⟩
  have Hpb : Hid _ := hpb
  clear hpb
  have ipb : (pb : Int) < 32 := by omega
  obtain ⟨pc, hpc, lpc⟩ : ∃ p : Nat, getI x 20 12 = p ∧ p < 4096 := ⟨_, rfl, getI_lt x 20 12⟩
  have Hpc : Hid _ := hpc
  clear hpc
  have ipc : (pc : Int) < 4096 := by omega
  obtain ⟨pd, hpd, lpd⟩ : ∃ p : Nat, getI x 12 20 = p ∧ p < 1048576 := ⟨_, rfl, getI_lt x 12 20⟩
  have Hpd : Hid _ := hpd
  clear hpd
  have ipd : (pd : Int) < 1048576 := by omega
  go_enter Tryz.func91, Tryz.ntmps91
  go_wp2_with fail
  refine (usual_any x hx pa pb pc pd Hpa.out Hpb.out Hpc.out Hpd.out _).mono ?_
  rintro e w1 ⟨b, rfl, hb, hlb, hu⟩
  obtain ⟨u0, u1, u2, u3⟩ := box4_facts hu
  have B1 : Hid (Below w.heap.size w w1) := hb
  clear hb hu hlb
  go_wp2
  go_ret
  exact ⟨ret64 (by rw [immD_none 12 x (by decide)]), B1.out⟩
set_option maxRecDepth 100000 in
set_option maxHeartbeats 400000 in
theorem back_13 (x : Nat) (hx32 : x < 4294967296) (w : World) : Calls Tryz.prog 91 #[.int .i64 13, .int .u64 (x : Int)] w fun e w' => e = .returned (.int .i64 (immD 13 x)) ∧ Below w.heap.size w w' := by
  have hx : x < 18446744073709551616 := by omega
  have B0 : Hid (Below w.heap.size w w) := Below.refl _ _
  obtain ⟨pa, hpa, lpa⟩ : ∃ p : Nat, getI x 15 5 = p ∧ p < 32 := ⟨_, rfl, getI_lt x 15 5⟩
  have Hpa : Hid _ := hpa
  clear hpa
  have ipa : (pa : Int) < 32 := by omega
  obtain ⟨pb, hpb, lpb⟩ : ∃ p : Nat, getI x 20 5 = p ∧ p < 32 := ⟨_, rfl, getI_lt x 20 5⟩
  have Hpb : Hid _ := hpb
  clear hpb
  have ipb : (pb : Int) < 32 := by omega
  obtain ⟨pc, hpc, lpc⟩ : ∃ p : Nat, getI x 20 12 = p ∧ p < 4096 := ⟨_, rfl, getI_lt x 20 12⟩
  have Hpc : Hid _ := hpc
  clear hpc
  have ipc : (pc : Int) < 4096 := by omega
  obtain ⟨pd, hpd, lpd⟩ : ∃ p : Nat, getI x 12 20 = p ∧ p < 1048576 := ⟨_, rfl, getI_lt x 12 20⟩
  have Hpd : Hid _ := hpd
  clear hpd
  have ipd : (pd : Int) < 1048576 := by omega
  go_enter Tryz.func91, Tryz.ntmps91
  go_wp2_with fail
  refine (usual_any x hx pa pb pc pd Hpa.out Hpb.out Hpc.out Hpd.out _).mono ?_
  rintro e w1 ⟨b, rfl, hb, hlb, hu⟩
  obtain ⟨u0, u1, u2, u3⟩ := box4_facts hu
  have B1 : Hid (Below w.heap.size w w1) := hb
  clear hb hu hlb
  go_wp2
  go_ret
  exact ⟨ret64 (by rw [immD_13, Hpa.out]; first | done | rfl), B1.out⟩
set_option maxRecDepth 100000 in
set_option maxHeartbeats 400000 in
theorem back_14 (x : Nat) (hx32 : x < 4294967296) (w : World) : Calls Tryz.prog 91 #[.int .i64 14, .int .u64 (x : Int)] w fun e w' => e = .returned (.int .i64 (immD 14 x)) ∧ Below w.heap.size w w' := by
  have hx : x < 18446744073709551616 := by omega
  have B0 : Hid (Below w.heap.size w w) := Below.refl _ _
  obtain ⟨pa, hpa, lpa⟩ : ∃ p : Nat, getI x 15 5 = p ∧ p < 32 := ⟨_, rfl, getI_lt x 15 5⟩
  have Hpa : Hid _ := hpa
  clear hpa
  have ipa : (pa : Int) < 32 := by omega
  obtain ⟨pb, hpb, lpb⟩ : ∃ p : Nat, getI x 20 5 = p ∧ p < 32 := ⟨_, rfl, getI_lt x 20 5⟩
  have Hpb : Hid _ := hpb
  clear hpb
  have ipb : (pb : Int) < 32 := by omega
  obtain ⟨pc, hpc, lpc⟩ : ∃ p : Nat, getI x 20 12 = p ∧ p < 4096 := ⟨_, rfl, getI_lt x 20 12⟩
  have Hpc : Hid _ := hpc
  clear hpc
  have ipc : (pc : Int) < 4096 := by omega
  obtain ⟨pd, hpd, lpd⟩ : ∃ p : Nat, getI x 12 20 = p ∧ p < 1048576 := ⟨_, rfl, getI_lt x 12 20⟩
  have Hpd : Hid _ := hpd
  clear hpd
  have ipd : (pd : Int) < 1048576 := by omega
  go_enter Tryz.func91, Tryz.ntmps91
  go_wp2_with fail
  refine (usual_any x hx pa pb pc pd Hpa.out Hpb.out Hpc.out Hpd.out _).mono ?_
  rintro e w1 ⟨b, rfl, hb, hlb, hu⟩
  obtain ⟨u0, u1, u2, u3⟩ := box4_facts hu
  have B1 : Hid (Below w.heap.size w w1) := hb
  clear hb hu hlb
  go_wp2
  go_ret
  exact ⟨ret64 (by rw [immD_none 14 x (by decide)]), B1.out⟩
set_option maxRecDepth 100000 in
set_option maxHeartbeats 400000 in
theorem back_15 (x : Nat) (hx32 : x < 4294967296) (w : World) : Calls Tryz.prog 91 #[.int .i64 15, .int .u64 (x : Int)] w fun e w' => e = .returned (.int .i64 (immD 15 x)) ∧ Below w.heap.size w w' := by
  have hx : x < 18446744073709551616 := by omega
  have B0 : Hid (Below w.heap.size w w) := Below.refl _ _
  obtain ⟨pa, hpa, lpa⟩ : ∃ p : Nat, getI x 15 5 = p ∧ p < 32 := ⟨_, rfl, getI_lt x 15 5⟩
  have Hpa : Hid _ := hpa
  clear hpa
  have ipa : (pa : Int) < 32 := by omega
  obtain ⟨pb, hpb, lpb⟩ : ∃ p : Nat, getI x 20 5 = p ∧ p < 32 := ⟨_, rfl, getI_lt x 20 5⟩
  have Hpb : Hid _ := hpb
  clear hpb
  have ipb : (pb : Int) < 32 := by omega
  obtain ⟨pc, hpc, lpc⟩ : ∃ p : Nat, getI x 20 12 = p ∧ p < 4096 := ⟨_, rfl, getI_lt x 20 12⟩
  have Hpc : Hid _ := hpc
  clear hpc
  have ipc : (pc : Int) < 4096 := by omega
  obtain ⟨pd, hpd, lpd⟩ : ∃ p : Nat, getI x 12 20 = p ∧ p < 1048576 := ⟨_, rfl, getI_lt x 12 20⟩
  have Hpd : Hid _ := hpd
  clear hpd
  have ipd : (pd : Int) < 1048576 := by omega
  go_enter Tryz.func91, Tryz.ntmps91
  go_wp2_with fail
  refine (usual_any x hx pa pb pc pd Hpa.out Hpb.out Hpc.out Hpd.out _).mono ?_
  rintro e w1 ⟨b, rfl, hb, hlb, hu⟩
  obtain ⟨u0, u1, u2, u3⟩ := box4_facts hu
  have B1 : Hid (Below w.heap.size w w1) := hb
  clear hb hu hlb
  go_wp2
  go_ret
  exact ⟨ret64 (by rw [immD_none 15 x (by decide)]), B1.out⟩
set_option maxRecDepth 100000 in
set_option maxHeartbeats 400000 in
theorem back_16 (x : Nat) (hx32 : x < 4294967296) (w : World) : Calls Tryz.prog 91 #[.int .i64 16, .int .u64 (x : Int)] w fun e w' => e = .returned (.int .i64 (immD 16 x)) ∧ Below w.heap.size w w' := by
  have hx : x < 18446744073709551616 := by omega
  have B0 : Hid (Below w.heap.size w w) := Below.refl _ _
  obtain ⟨pa, hpa, lpa⟩ : ∃ p : Nat, getI x 15 5 = p ∧ p < 32 := ⟨_, rfl, getI_lt x 15 5⟩
  have Hpa : Hid _ := hpa
  clear hpa
  have ipa : (pa : Int) < 32 := by omega
  obtain ⟨pb, hpb, lpb⟩ : ∃ p : Nat, getI x 20 5 = p ∧ p < 32 := ⟨_, rfl, getI_lt x 20 5⟩
  have Hpb : Hid _ := hpb
  clear hpb
  have ipb : (pb : Int) < 32 := by omega
  obtain ⟨pc, hpc, lpc⟩ : ∃ p : Nat, getI x 20 12 = p ∧ p < 4096 := ⟨_, rfl, getI_lt x 20 12⟩
  have Hpc : Hid _ := hpc
  clear hpc
  have ipc : (pc : Int) < 4096 := by omega
  obtain ⟨pd, hpd, lpd⟩ : ∃ p : Nat, getI x 12 20 = p ∧ p < 1048576 := ⟨_, rfl, getI_lt x 12 20⟩
  have Hpd : Hid _ := hpd
  clear hpd
  have ipd : (pd : Int) < 1048576 := by omega
  go_enter Tryz.func91, Tryz.ntmps91
  go_wp2_with fail
  refine (usual_any x hx pa pb pc pd Hpa.out Hpb.out Hpc.out Hpd.out _).mono ?_
  rintro e w1 ⟨b, rfl, hb, hlb, hu⟩
  obtain ⟨u0, u1, u2, u3⟩ := box4_facts hu
  have B1 : Hid (Below w.heap.size w w1) := hb
  clear hb hu hlb
  go_wp2
  go_ret
  exact ⟨ret64 (by rw [immD_none 16 x (by decide)]), B1.out⟩
end Go.Proofs.YtooaafbdjnlmfaaGreatDoor

namespace Go.Proofs.YtooaafbdjnlmfaaGreatDoor
open Go.RowKit
set_option linter.unusedVariables false
set_option linter.unusedSimpArgs false
/-- a box of eight cells in a world -/
def Box8 (w : World) (b : Nat) (c : Array Value) : Prop := w.heap[b]? = some (.cells c 23 (0, 0))
theorem Box8.step {w w' : World} {b : Nat} {c : Array Value} (h : Box8 w b c) (hb : Below w.heap.size w w') : Box8 w' b c := below_box h hb
theorem Box8.lt {w : World} {b : Nat} {c : Array Value} (h : Box8 w b c) : b < w.heap.size := (Array.getElem?_eq_some_iff.1 h).1
theorem Box8.set {w : World} {b : Nat} {c : Array Value} (h : Box8 w b c) (i : Nat) (v : Value) : Box8 (w.setCell ⟨b, i, none⟩ v) b (c.setIfInBounds i v) := heap_setCell_same w b i c 23 v h
theorem Box8.other {w : World} {b k : Nat} {c : Array Value} (h : Box8 w b c) (i : Nat) (v : Value) (hk : b ≠ k) : Box8 (w.setCell ⟨k, i, none⟩ v) b c := (heap_setCell_other w ⟨k, i, none⟩ b v hk).trans h
def Box4 (w : World) (b : Nat) (c : Array Value) : Prop := w.heap[b]? = some (.cells c 43 (0, 0))
theorem Box4.step {w w' : World} {b : Nat} {c : Array Value} (h : Box4 w b c) (hb : Below w.heap.size w w') : Box4 w' b c := below_box h hb
theorem Box4.lt {w : World} {b : Nat} {c : Array Value} (h : Box4 w b c) : b < w.heap.size := (Array.getElem?_eq_some_iff.1 h).1
theorem Box4.other {w : World} {b k : Nat} {c : Array Value} (h : Box4 w b c) (i : Nat) (v : Value) (hk : b ≠ k) : Box4 (w.setCell ⟨k, i, none⟩ v) b c := (heap_setCell_other w ⟨k, i, none⟩ b v hk).trans h
theorem Box4.alloc {w : World} {b : Nat} {c : Array Value} (h : Box4 w b c) (o : Obj) : Box4 (w.alloc o) b c := h.step ((Below.refl _ _).alloc (Nat.le_refl _) o)
theorem Box8.alloc {w : World} {b : Nat} {c : Array Value} (h : Box8 w b c) (o : Obj) : Box8 (w.alloc o) b c := h.step ((Below.refl _ _).alloc (Nat.le_refl _) o)
theorem Box8.new (w : World) (c : Array Value) : Box8 (w.alloc (.cells c 23)) w.heap.size c := heap_alloc_new w (.cells c 23)
end Go.Proofs.YtooaafbdjnlmfaaGreatDoor
