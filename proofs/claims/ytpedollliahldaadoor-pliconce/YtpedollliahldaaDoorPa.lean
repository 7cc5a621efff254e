/- Package plic's small calls: bit, isSource, isContext, rouse. -/
import Derived.Test.YtpedollliahldaaDoorPn
namespace Go.Proofs.YtpedollliahldaaDoor
open Go.RowKit
set_option linter.unusedVariables false
set_option linter.unusedSimpArgs false
set_option maxRecDepth 100000
theorem Box.prog {w : World} {b : Nat} {S : St} (h : Box 28 w b (progC S)) (j : Nat) (hj : j < 39) : w.cell? ⟨b, j, none⟩ = some (progF S j) := h.cell j _ (rowC_get _ _ _ hj)
theorem Box.doc {w : World} {b : Nat} {S : St} (h : Box 34 w b (docC S)) (j : Nat) (hj : j < 194) : w.cell? ⟨b, j, none⟩ = some (docF S j) := h.cell j _ (rowC_get _ _ _ hj)
theorem TabLies.lt {w : World} (h : TabLies w) : 0 < w.heap.size := block_lt_of_cell (h 0 (by omega))
theorem TabLies.step {w w' : World} (h : TabLies w) (hb : Below w.heap.size w w') : TabLies w' := fun i hi => (hb.cell (p := ⟨0, i, none⟩) h.lt).trans (h i hi)
theorem TabLies.below {w w' : World} {B : Nat} (h : TabLies w) (hb : Below B w w') (hB : 0 < B) : TabLies w' := fun i hi => (hb.cell (p := ⟨0, i, none⟩) hB).trans (h i hi)
theorem TabLies.upon {w w' : World} {b : Nat} (h : TabLies w) (hu : Upon b w w') (hb : b ≠ 0) : TabLies w' := fun i hi => hu.cell (h i hi) (Ne.symm hb)
theorem setF_pow (n : Nat) (hn : n < 64) : hiOf (setF (fun _ => (n : Int)) 1) 64 0 = 2 ^ n := by
  apply hiOf_eq
  · intro j _; exact setF_le _ _ _
  · intro j
    rw [Nat.testBit_two_pow]
    by_cases h : n = j
    · subst h; simp [setF, hn]
    · have : ¬ ((n : Int) = (j : Int)) := by omega
      simp [setF, h, this]
theorem reads_one (w : World) (v : Value) : ReadsV (w.alloc (.cells #[v] 3)) (.slice (some ⟨w.heap.size, 0, none⟩) 1 1) 1 (fun _ => v) := by
  refine .inr ⟨w.heap.size, 0, 1, rfl, fun i hi => ?_⟩
  obtain rfl : i = 0 := by omega
  have := Box.new 3 w #[v]
  exact this.cell 0 _ rfl
theorem pow_wrap (n : Nat) (hn : n < 32) : IntKind.u32.wrap ((2 ^ n : Nat) : Int) = ((2 ^ n : Nat) : Int) := by
  have := pow_lt hn
  simp only [IntKind.wrap, IntKind.signed, IntKind.bits]
  generalize 2 ^ n = q at *
  simp
  omega
theorem bit_any (n : Nat) (hn : n < 32) (w : World) : Calls Tryd.prog 18 #[.int .i64 (n : Int)] w fun e w' => e = .returned (.int .u32 ((2 ^ n : Nat) : Int)) ∧ Below w.heap.size w w' := by
  have hr := reads_one w (.int .i64 (n : Int))
  have hB : Below w.heap.size w (w.alloc (.cells #[.int .i64 (n : Int)] 3)) := (Below.refl _ _).alloc (Nat.le_refl _) _
  have hc := fun V h => wbits_any (fun _ => (n : Int)) 1 (.slice (some ⟨w.heap.size, 0, none⟩) 1 1) (by omega) V h
  rw [setF_pow n (by omega)] at hc
  have hw := pow_wrap n hn
  clear hn
  generalize ((2 ^ n : Nat) : Int) = q at *
  go_enter Tryd.func18, Tryd.ntmps18
  go_wp2_with (go_at_call 34; refine (hc _ hr).mono ?_; rintro e w' ⟨rfl, rfl⟩)
  go_ret
  exact ⟨rfl, hB⟩
theorem source_any (n : Int) (w : World) : Calls Tryd.prog 19 #[.int .i64 n] w fun e w' => e = .returned (.bool (decide (1 ≤ n) && decide (n < 32))) ∧ w' = w := by
  by_cases h : 1 ≤ n
  · go_enter Tryd.func19, Tryd.ntmps19
    go_wp2_with fail
    go_ret
    exact ⟨by simp [h], rfl⟩
  · go_enter Tryd.func19, Tryd.ntmps19
    go_wp2_with fail
    go_ret
    exact ⟨by simp; omega, rfl⟩
theorem context_any (n : Int) (w : World) : Calls Tryd.prog 16 #[.int .i64 n] w fun e w' => e = .returned (.bool (decide (0 ≤ n) && decide (n < 2))) ∧ w' = w := by
  by_cases h : 0 ≤ n
  · go_enter Tryd.func16, Tryd.ntmps16
    go_wp2_with fail
    go_ret
    exact ⟨by simp [h], rfl⟩
  · go_enter Tryd.func16, Tryd.ntmps16
    go_wp2_with fail
    go_ret
    exact ⟨by simp; omega, rfl⟩
theorem gate_num (S : St) (h : S.Ok) : bits .or .u32 (S.waits : Int) (bits .and .u32 (bits .andNot .u32 (S.high : Int) (S.serv : Int)) 4294967294) = ((gateW S : Nat) : Int) := by
  have h1 : S.high &&& (4294967295 - S.serv) < 4294967296 := Nat.lt_of_le_of_lt Nat.and_le_left h.2.1
  have h2 : S.high &&& (4294967295 - S.serv) &&& 4294967294 < 4294967296 := Nat.lt_of_le_of_lt Nat.and_le_left h1
  rw [u32_andNot_nat _ _ h.2.1 h.2.2.2.1]
  have := u32_and_nat (S.high &&& (4294967295 - S.serv)) 4294967294 h1 (by decide)
  rw [show ((4294967294 : Nat) : Int) = 4294967294 from rfl] at this
  rw [this, u32_or_nat _ _ h.2.2.1 h2]
  rfl
set_option maxHeartbeats 1000000 in
theorem rouse_any (b : Nat) (S : St) (hS : S.Ok) (w : World) (hx : Box 28 w b (progC S)) : Calls Tryd.prog 20 #[.pointer (some ⟨b, 0, none⟩)] w fun e w' => e = .returned (.tuple #[]) ∧ Box 28 w' b (progC (gateS S)) ∧ Upon b w w' := by
  have f1 : w.cell? ⟨b, 32, none⟩ = some (.int .u32 (S.high : Nat)) := hx.prog 32 (by omega)
  have f2 : w.cell? ⟨b, 33, none⟩ = some (.int .u32 (S.waits : Nat)) := hx.prog 33 (by omega)
  have f3 : w.cell? ⟨b, 34, none⟩ = some (.int .u32 (S.serv : Nat)) := hx.prog 34 (by omega)
  have z2 := hx.frozen 33
  have hn := gate_num S hS
  have HE : Hid (Box 28 (w.drew.setCell ⟨b, 33, none⟩ (.int .u32 (gateW S : Nat))) b (progC (gateS S)) ∧ Upon b w (w.drew.setCell ⟨b, 33, none⟩ (.int .u32 (gateW S : Nat)))) := by
    have h := hx.drew.set 33 (.int .u32 (gateW S : Nat))
    rw [progC_waits] at h
    exact ⟨h, (Upon.of_below (Below.drew (Below.refl _ _))).set 33 _⟩
  clear hx hS
  generalize ((gateW S : Nat) : Int) = g at *
  go_enter Tryd.func20, Tryd.ntmps20
  go_wp2_with fail
  go_region
  go_wp2_with fail
  go_end0
  exact ⟨rfl, HE.out⟩
end Go.Proofs.YtpedollliahldaaDoor
