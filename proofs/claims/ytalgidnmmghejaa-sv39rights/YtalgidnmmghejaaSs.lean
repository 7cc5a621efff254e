/- Package sv39: Walk comes to what the plain numbers say. -/
import Derived.Test.YtalgidnmmghejaaSr
namespace Go.Proofs.Ytalgidnmmghejaa
open Go.RowKit
set_option linter.unusedVariables false
set_option linter.unusedSimpArgs false
set_option maxRecDepth 100000
theorem down_out (M : Nat → Nat) (s : Nat) (kind mode : Int) (sum mxr : Bool) (va t l : Nat) (h : putB (plcN t va l) 8 s = false) : downR M s kind mode sum mxr va t l = (0, true, false, 2 - l) := by
  cases l <;> (rw [downR]; rw [if_neg (by simp [h])])
theorem down_odd (M : Nat → Nat) (s : Nat) (kind mode : Int) (sum mxr : Bool) (va t l : Nat) (hl : l ≤ 2) (h : putB (plcN t va l) 8 s = true) (h1 : oddB (loadV M (plcN t va l) 8 s) = true) : downR M s kind mode sum mxr va t l = badR (3 - l) := by
  cases l <;> (rw [downR]; rw [if_pos h, if_pos h1])
theorem down_leads (M : Nat → Nat) (s : Nat) (kind mode : Int) (sum mxr : Bool) (va t l : Nat) (h : putB (plcN t va l) 8 s = true) (h1 : oddB (loadV M (plcN t va l) 8 s) = false) (h2 : leadsB (loadV M (plcN t va l) 8 s) = true) : downR M s kind mode sum mxr va t l = arrR kind mode sum mxr (loadV M (plcN t va l) 8 s) va l := by
  cases l <;> (rw [downR]; rw [if_pos h, if_neg (by simp [h1]), if_pos h2])
theorem down_zero (M : Nat → Nat) (s : Nat) (kind mode : Int) (sum mxr : Bool) (va t : Nat) (h : putB (plcN t va 0) 8 s = true) (h1 : oddB (loadV M (plcN t va 0) 8 s) = false) (h2 : leadsB (loadV M (plcN t va 0) 8 s) = false) : downR M s kind mode sum mxr va t 0 = badR 3 := by
  rw [downR, if_pos h, if_neg (by simp [h1]), if_neg (by simp [h2])]
theorem down_next (M : Nat → Nat) (s : Nat) (kind mode : Int) (sum mxr : Bool) (va t l : Nat) (h : putB (plcN t va (l + 1)) 8 s = true) (h1 : oddB (loadV M (plcN t va (l + 1)) 8 s) = false) (h2 : leadsB (loadV M (plcN t va (l + 1)) 8 s) = false) : downR M s kind mode sum mxr va t (l + 1) = downR M s kind mode sum mxr va (numN (loadV M (plcN t va (l + 1)) 8 s)) l := by
  rw [downR, if_pos h, if_neg (by simp [h1]), if_neg (by simp [h2])]
/-- what is left of a walk when k entries were read -/
def stR (M : Nat → Nat) (s : Nat) (kind mode : Int) (sum mxr : Bool) (va t k : Nat) : Res := if k = 3 then badR 3 else downR M s kind mode sum mxr va t (2 - k)
theorem st_next (M : Nat → Nat) (s : Nat) (kind mode : Int) (sum mxr : Bool) (va t k l : Nat) (hk : k + l = 2) (h : putB (plcN t va l) 8 s = true) (h1 : oddB (loadV M (plcN t va l) 8 s) = false) (h2 : leadsB (loadV M (plcN t va l) 8 s) = false) : downR M s kind mode sum mxr va t l = stR M s kind mode sum mxr va (numN (loadV M (plcN t va l) 8 s)) (k + 1) := by
  unfold stR
  cases l with
  | zero => rw [if_pos (by omega)]; exact down_zero M s kind mode sum mxr va t h h1 h2
  | succ l => rw [if_neg (by omega), show 2 - (k + 1) = l from by omega]; exact down_next M s kind mode sum mxr va t l h h1 h2
theorem loadV_lt (M : Nat → Nat) (x s : Nat) (hM : ∀ a, M a ≤ 255) : loadV M x 8 s < 18446744073709551616 := by
  unfold loadV
  split
  · exact h256_lt _ 8 0 (fun j _ => hM _)
  · omega
set_option maxHeartbeats 4000000 in
theorem walk_any (satp : Nat) (kind mode : Int) (sum mxr : Bool) (va : Nat) (hs : satp < 18446744073709551616) (hva : va < 18446744073709551616) {w : World} {F : Nat → Prop} {rb s n : Nat} {lg : Value} {M : Nat → Nat} (h : RamAt w F rb s n lg M) (hsz : s ≤ 268435456) :
    Calls Try.prog 12 #[.pointer (some ⟨rb, 0, none⟩), .agg #[.int .u64 (satp : Nat), .int .i64 kind, .int .i64 mode, .bool sum, .bool mxr], .int .u64 (va : Int)] w fun e w' => e = .returned (.agg (resC (walkR M s satp kind mode sum mxr va))) ∧ Below w.heap.size w w' := by
  have cb : ∀ V, Calls Try.prog 19 #[.agg #[.int .u64 (satp : Nat), .int .i64 kind, .int .i64 mode, .bool sum, .bool mxr]] V fun e w' => e = .returned (.bool (bareB satp mode)) ∧ Below V.heap.size V w' := fun V => bare_any satp kind mode sum mxr hs V V (Below.refl _ _)
  have cpr : ∀ V, Calls Try.prog 21 #[.int .u64 (va : Int)] V fun e w' => e = .returned (.bool (propB va)) ∧ Below V.heap.size V w' := fun V => proper_any va hva V V (Below.refl _ _)
  have cs : ∀ V, Calls Try.prog 33 #[.int .u64 (satp : Int), .int .i64 0, .int .i64 44] V fun e w' => e = .returned (.int .u64 (E.getN satp 0 44 : Nat)) ∧ Below V.heap.size V w' := fun V => E.get_all satp 0 44 hs V V (Below.refl _ _)
  have hT := satp_lt satp
  have cf : ∀ (k : Nat) V, Calls Try.prog 32 #[.int .i64 (k : Int)] V fun e w' => e = .returned (.agg #[.int .u64 0, .bool true, .bool true, .int .i64 (k : Int)]) ∧ Below V.heap.size V w' := fun k V => pageFault_any k V V (Below.refl _ _)
  have HR : Hid (RamAt w F rb s n lg M ∧ s ≤ 268435456) := ⟨h, hsz⟩
  unfold walkR
  generalize E.getN satp 0 44 = T at *
  generalize bareB satp mode = B at *
  generalize propB va = P at *
  have HM : Hid (∀ a, M a ≤ 255) := h.le
  clear h hsz hs
  cases B
  case true =>
    rw [if_pos rfl]
    clear cpr cs cf
    have X0 : Hid (Two 40 36 w ((w.alloc (.cells #[.int .u64 (satp : Nat), .int .i64 kind, .int .i64 mode, .bool sum, .bool mxr] 40)).alloc (.cells #[.int .u64 0, .bool false, .bool false, .int .i64 0] 36)) #[.int .u64 (satp : Nat), .int .i64 kind, .int .i64 mode, .bool sum, .bool mxr] #[.int .u64 0, .bool false, .bool false, .int .i64 0]) := Two.new _ _ _ _ _
    go_enter Try.func12, Try.ntmps12
    go_upto_region 1 with fail
    generalize ((w.alloc (.cells #[.int .u64 (satp : Nat), .int .i64 kind, .int .i64 mode, .bool sum, .bool mxr] 40)).alloc (.cells #[.int .u64 0, .bool false, .bool false, .int .i64 0] 36)) = V0 at *
    have f0 := cellOf X0.out.1 0 _ rfl
    have f1 := cellOf X0.out.1 1 _ rfl
    have f2 := cellOf X0.out.1 2 _ rfl
    have f3 := cellOf X0.out.1 3 _ rfl
    have f4 := cellOf X0.out.1 4 _ rfl
    go_wp2_with fail
    refine (cb _).mono ?_
    rintro e w1 ⟨rfl, hb⟩
    have X1 : Hid (Two 40 36 w w1 #[.int .u64 (satp : Nat), .int .i64 kind, .int .i64 mode, .bool sum, .bool mxr] #[.int .u64 0, .bool false, .bool false, .int .i64 0]) := X0.out.step hb
    clear hb
    have d0 := cellOf X1.out.2.1 0 _ rfl
    have z0 := frozenOf X1.out.2.1 0
    have d1 := cellOf X1.out.2.1 1 _ rfl
    have z1 := frozenOf X1.out.2.1 1
    have d2 := cellOf X1.out.2.1 2 _ rfl
    have z2 := frozenOf X1.out.2.1 2
    have d3 := cellOf X1.out.2.1 3 _ rfl
    have z3 := frozenOf X1.out.2.1 3
    go_wp2_with fail
    refine bodyPost_ret (v := .agg #[.int .u64 (va : Int), .bool false, .bool false, .int .i64 0]) (by simp [results, Try.results12, go_sem, d0, d1, d2, d3]) rfl ⟨rfl, ?_⟩
    exact set_four X1.out.2.2 (by omega) _ _ _ _
  rw [if_neg (by simp)]
  cases P
  case false =>
    rw [if_pos rfl]
    clear cs
    have cf0 := cf 0
    clear cf
    rw [show ((0 : Nat) : Int) = 0 from rfl] at cf0
    have X0 : Hid (Two 40 36 w ((w.alloc (.cells #[.int .u64 (satp : Nat), .int .i64 kind, .int .i64 mode, .bool sum, .bool mxr] 40)).alloc (.cells #[.int .u64 0, .bool false, .bool false, .int .i64 0] 36)) #[.int .u64 (satp : Nat), .int .i64 kind, .int .i64 mode, .bool sum, .bool mxr] #[.int .u64 0, .bool false, .bool false, .int .i64 0]) := Two.new _ _ _ _ _
    go_enter Try.func12, Try.ntmps12
    go_upto_region 1 with fail
    generalize ((w.alloc (.cells #[.int .u64 (satp : Nat), .int .i64 kind, .int .i64 mode, .bool sum, .bool mxr] 40)).alloc (.cells #[.int .u64 0, .bool false, .bool false, .int .i64 0] 36)) = V0 at *
    have f0 := cellOf X0.out.1 0 _ rfl
    have f1 := cellOf X0.out.1 1 _ rfl
    have f2 := cellOf X0.out.1 2 _ rfl
    have f3 := cellOf X0.out.1 3 _ rfl
    have f4 := cellOf X0.out.1 4 _ rfl
    go_wp2_with fail
    refine (cb _).mono ?_
    rintro e w1 ⟨rfl, hb⟩
    have X1 : Hid (Two 40 36 w w1 #[.int .u64 (satp : Nat), .int .i64 kind, .int .i64 mode, .bool sum, .bool mxr] #[.int .u64 0, .bool false, .bool false, .int .i64 0]) := X0.out.step hb
    clear hb
    go_wp2_with fail
    refine (cpr _).mono ?_
    rintro e w2 ⟨rfl, hb⟩
    have X2 : Hid (Two 40 36 w w2 #[.int .u64 (satp : Nat), .int .i64 kind, .int .i64 mode, .bool sum, .bool mxr] #[.int .u64 0, .bool false, .bool false, .int .i64 0]) := X1.out.step hb
    clear hb
    go_wp2_with fail
    refine (cf0 _).mono ?_
    rintro e w3 ⟨rfl, hb⟩
    have X3 : Hid (Two 40 36 w w3 #[.int .u64 (satp : Nat), .int .i64 kind, .int .i64 mode, .bool sum, .bool mxr] #[.int .u64 0, .bool false, .bool false, .int .i64 0]) := X2.out.step hb
    clear hb
    have d0 := cellOf X3.out.2.1 0 _ rfl
    have z0 := frozenOf X3.out.2.1 0
    have d1 := cellOf X3.out.2.1 1 _ rfl
    have z1 := frozenOf X3.out.2.1 1
    have d2 := cellOf X3.out.2.1 2 _ rfl
    have z2 := frozenOf X3.out.2.1 2
    have d3 := cellOf X3.out.2.1 3 _ rfl
    have z3 := frozenOf X3.out.2.1 3
    go_wp2_with fail
    refine bodyPost_ret (v := .agg #[.int .u64 0, .bool true, .bool true, .int .i64 0]) (by simp [results, Try.results12, go_sem, d0, d1, d2, d3]) rfl ⟨rfl, ?_⟩
    exact set_four X3.out.2.2 (by omega) _ _ _ _
  rw [if_neg (by simp)]
  obtain ⟨R, hR⟩ : ∃ R : Res, R = downR M s kind mode sum mxr va T 2 := ⟨_, rfl⟩
  rw [← hR]
  have HV : Hid (va < 18446744073709551616) := hva
  clear hva
  have X0 : Hid (Two 40 36 w ((w.alloc (.cells #[.int .u64 (satp : Nat), .int .i64 kind, .int .i64 mode, .bool sum, .bool mxr] 40)).alloc (.cells #[.int .u64 0, .bool false, .bool false, .int .i64 0] 36)) #[.int .u64 (satp : Nat), .int .i64 kind, .int .i64 mode, .bool sum, .bool mxr] #[.int .u64 0, .bool false, .bool false, .int .i64 0]) := Two.new _ _ _ _ _
  go_enter Try.func12, Try.ntmps12
  go_upto_region 1 with fail
  generalize ((w.alloc (.cells #[.int .u64 (satp : Nat), .int .i64 kind, .int .i64 mode, .bool sum, .bool mxr] 40)).alloc (.cells #[.int .u64 0, .bool false, .bool false, .int .i64 0] 36)) = V0 at *
  have f0 := cellOf X0.out.1 0 _ rfl
  have f1 := cellOf X0.out.1 1 _ rfl
  have f2 := cellOf X0.out.1 2 _ rfl
  have f3 := cellOf X0.out.1 3 _ rfl
  have f4 := cellOf X0.out.1 4 _ rfl
  go_wp2_with fail
  refine (cb _).mono ?_
  rintro e w1 ⟨rfl, hb⟩
  have X1 : Hid (Two 40 36 w w1 #[.int .u64 (satp : Nat), .int .i64 kind, .int .i64 mode, .bool sum, .bool mxr] #[.int .u64 0, .bool false, .bool false, .int .i64 0]) := X0.out.step hb
  clear hb
  go_wp2_with fail
  refine (cpr _).mono ?_
  rintro e w2 ⟨rfl, hb⟩
  have X2 : Hid (Two 40 36 w w2 #[.int .u64 (satp : Nat), .int .i64 kind, .int .i64 mode, .bool sum, .bool mxr] #[.int .u64 0, .bool false, .bool false, .int .i64 0]) := X1.out.step hb
  clear hb
  have f0 := cellOf X2.out.1 0 _ rfl
  go_wp2_with fail
  refine (cs _).mono ?_
  rintro e w3 ⟨rfl, hb⟩
  have X3 : Hid (Two 40 36 w w3 #[.int .u64 (satp : Nat), .int .i64 kind, .int .i64 mode, .bool sum, .bool mxr] #[.int .u64 0, .bool false, .bool false, .int .i64 0]) := X2.out.step hb
  clear hb
  go_wp2_with fail
  go_loopw [24, 7] (fun i tv wr => ∃ k t : Nat, k ≤ 3 ∧ i = .int .i64 k ∧ tv = .int .u64 t ∧ t < 17592186044416 ∧ R = stR M s kind mode sum mxr va t k ∧ Two 40 36 w wr #[.int .u64 (satp : Nat), .int .i64 kind, .int .i64 mode, .bool sum, .bool mxr] #[.int .u64 0, .bool false, .bool false, .int .i64 0]) (fun i _ _ => 3 - (intOf i).toNat)
  case atStart => exact ⟨0, T, by omega, rfl, rfl, hT, by rw [hR]; rfl, X3.out⟩
  case round =>
    obtain ⟨k, t, hk, rfl, rfl, ht, hst, hX⟩ := hrel
    have Xr : Hid (Two 40 36 w wr #[.int .u64 (satp : Nat), .int .i64 kind, .int .i64 mode, .bool sum, .bool mxr] #[.int .u64 0, .bool false, .bool false, .int .i64 0]) := hX
    clear hX X0 X1 X2 X3 f0 f1 f2 f3 f4 cb cpr cs hR
    by_cases hlt : k < 3
    case neg =>
      obtain rfl : k = 3 := by omega
      have cf3 := cf 3
      clear cf hlt
      rw [show ((3 : Nat) : Int) = 3 from rfl] at cf3
      have HS : Hid (R = badR 3) := hst
      clear hst
      go_wp2_with fail
      refine (cf3 _).mono ?_
      rintro e w4 ⟨rfl, hb⟩
      have X4 : Hid (Two 40 36 w w4 #[.int .u64 (satp : Nat), .int .i64 kind, .int .i64 mode, .bool sum, .bool mxr] #[.int .u64 0, .bool false, .bool false, .int .i64 0]) := Xr.out.step hb
      clear hb
      have d0 := cellOf X4.out.2.1 0 _ rfl
      have z0 := frozenOf X4.out.2.1 0
      have d1 := cellOf X4.out.2.1 1 _ rfl
      have z1 := frozenOf X4.out.2.1 1
      have d2 := cellOf X4.out.2.1 2 _ rfl
      have z2 := frozenOf X4.out.2.1 2
      have d3 := cellOf X4.out.2.1 3 _ rfl
      have z3 := frozenOf X4.out.2.1 3
      go_wp2_with fail
      refine bodyPost_ret (v := .agg #[.int .u64 0, .bool true, .bool true, .int .i64 3]) (by simp [results, Try.results12, go_sem, d0, d1, d2, d3]) rfl ⟨by rw [HS.out]; rfl, ?_⟩
      exact set_four X4.out.2.2 (by omega) _ _ _ _
    case pos =>
      obtain ⟨l, hkl⟩ : ∃ l, k + l = 2 := ⟨2 - k, by omega⟩
      have hl : (2 : Int) - (k : Int) = (l : Nat) := by omega
      have hst2 : R = downR M s kind mode sum mxr va t l := by rw [hst]; unfold stR; rw [if_neg (by omega), show 2 - k = l from by omega]
      have hki : (k : Int) < 3 := by omega
      have hrr : RamAt wr F rb s n lg M := HR.out.1.below Xr.out.2.2
      have ce : ∀ V, Calls Try.prog 35 #[.int .u64 (t : Int), .int .u64 (va : Int), .int .i64 (l : Int)] V fun e w' => e = .returned (.int .u64 (plcN t va l : Nat)) ∧ Below V.heap.size V w' := fun V => entryPlace_any t va l ht HV.out (by omega) V V (Below.refl _ _)
      have cld : ∀ V, Below w.heap.size w V → Calls Try.prog 34 #[.pointer (some ⟨rb, 0, none⟩), .int .u64 (plcN t va l : Nat), .int .i64 8] V fun e w' => e = .returned (.tuple #[.int .u64 (loadV M (plcN t va l) 8 s : Nat), .bool (putB (plcN t va l) 8 s)]) ∧ Below V.heap.size V w' := fun V hV => load_any (HR.out.1.below hV) HR.out.2 (plcN t va l) 8 (plcN_lt t va l (by omega) ht)
      have hlvl := loadV_lt M (plcN t va l) s HM.out
      have co : ∀ V, Calls Try.prog 36 #[.int .u64 (loadV M (plcN t va l) 8 s : Nat)] V fun e w' => e = .returned (.bool (oddB (loadV M (plcN t va l) 8 s))) ∧ Below V.heap.size V w' := fun V => odd_any _ hlvl V V (Below.refl _ _)
      have cle : ∀ V, Calls Try.prog 37 #[.int .u64 (loadV M (plcN t va l) 8 s : Nat)] V fun e w' => e = .returned (.bool (leadsB (loadV M (plcN t va l) 8 s))) ∧ Below V.heap.size V w' := fun V => leads_any _ hlvl V V (Below.refl _ _)
      have cn : ∀ V, Calls Try.prog 39 #[.int .u64 (loadV M (plcN t va l) 8 s : Nat)] V fun e w' => e = .returned (.int .u64 (numN (loadV M (plcN t va l) 8 s) : Nat)) ∧ Below V.heap.size V w' := fun V => number_any _ hlvl V V (Below.refl _ _)
      have hnl := numN_lt (loadV M (plcN t va l) 8 s)
      have ca : ∀ V, Calls Try.prog 38 #[.agg #[.int .u64 (satp : Nat), .int .i64 kind, .int .i64 mode, .bool sum, .bool mxr], .int .u64 (loadV M (plcN t va l) 8 s : Nat), .int .u64 (va : Nat), .int .i64 (l : Int)] V fun e w' => e = .returned (.agg (resC (arrR kind mode sum mxr (loadV M (plcN t va l) 8 s) va l))) ∧ Below V.heap.size V w' := fun V => arrive_any satp kind mode sum mxr _ va l hlvl HV.out (by omega) V V (Below.refl _ _)
      have D1 := down_out M s kind mode sum mxr va t l
      have D2 := down_odd M s kind mode sum mxr va t l (by omega)
      have D3 := down_leads M s kind mode sum mxr va t l
      have D4 := st_next M s kind mode sum mxr va t k l hkl
      have HKL : Hid (k + l = 2) := hkl
      have HS : Hid (R = downR M s kind mode sum mxr va t l) := hst2
      clear hst hst2 hrr hkl
      generalize hLV : (loadV M (plcN t va l) 8 s) = lv at *
      generalize hPL : plcN t va l = pl at *
      generalize hPB : putB pl 8 s = pb at *
      generalize hOB : oddB lv = ob at *
      generalize hLB : leadsB lv = lb at *
      generalize hNN : numN lv = nn at *
      clear hLV hPL hPB hOB hLB hNN
      have DD : Hid ((pb = false → downR M s kind mode sum mxr va t l = (0, true, false, 2 - l)) ∧ (pb = true → ob = true → downR M s kind mode sum mxr va t l = badR (3 - l)) ∧ (pb = true → ob = false → lb = true → downR M s kind mode sum mxr va t l = arrR kind mode sum mxr lv va l) ∧ (pb = true → ob = false → lb = false → downR M s kind mode sum mxr va t l = stR M s kind mode sum mxr va nn (k + 1))) := ⟨D1, D2, D3, D4⟩
      clear D1 D2 D3 D4
      cases pb
      case false =>
        have HA : Hid (R = (0, true, false, k)) := by
          show R = _
          rw [HS.out, DD.out.1 rfl, show 2 - l = k from by have := HKL.out; omega]
        clear co cle cn ca cf DD HS
        go_wp2_with fail
        refine (ce _).mono ?_
        rintro e w4 ⟨rfl, hb⟩
        have X4 : Hid (Two 40 36 w w4 #[.int .u64 (satp : Nat), .int .i64 kind, .int .i64 mode, .bool sum, .bool mxr] #[.int .u64 0, .bool false, .bool false, .int .i64 0]) := Xr.out.step hb
        clear hb
        go_wp2_with fail
        refine (cld _ X4.out.2.2).mono ?_
        rintro e w5 ⟨rfl, hb⟩
        have X5 : Hid (Two 40 36 w w5 #[.int .u64 (satp : Nat), .int .i64 kind, .int .i64 mode, .bool sum, .bool mxr] #[.int .u64 0, .bool false, .bool false, .int .i64 0]) := X4.out.step hb
        clear hb
        have d0 := cellOf X5.out.2.1 0 _ rfl
        have z0 := frozenOf X5.out.2.1 0
        have d1 := cellOf X5.out.2.1 1 _ rfl
        have z1 := frozenOf X5.out.2.1 1
        have d2 := cellOf X5.out.2.1 2 _ rfl
        have z2 := frozenOf X5.out.2.1 2
        have d3 := cellOf X5.out.2.1 3 _ rfl
        have z3 := frozenOf X5.out.2.1 3
        go_wp2_with fail
        refine bodyPost_ret (v := .agg #[.int .u64 0, .bool true, .bool false, .int .i64 (k : Int)]) (by simp [results, Try.results12, go_sem, d0, d1, d2, d3]) rfl ⟨by rw [HA.out]; rfl, ?_⟩
        exact set_four X5.out.2.2 (by omega) _ _ _ _
      cases ob
      case true =>
        have HA : Hid (R = badR (k + 1)) := by
          show R = _
          rw [HS.out, DD.out.2.1 rfl rfl, show 3 - l = k + 1 from by have := HKL.out; omega]
        clear cle cn ca DD HS
        have cf1 := cf (k + 1)
        clear cf
        rw [show ((k + 1 : Nat) : Int) = (k : Int) + 1 from by omega] at cf1
        go_wp2_with fail
        refine (ce _).mono ?_
        rintro e w4 ⟨rfl, hb⟩
        have X4 : Hid (Two 40 36 w w4 #[.int .u64 (satp : Nat), .int .i64 kind, .int .i64 mode, .bool sum, .bool mxr] #[.int .u64 0, .bool false, .bool false, .int .i64 0]) := Xr.out.step hb
        clear hb
        go_wp2_with fail
        refine (cld _ X4.out.2.2).mono ?_
        rintro e w5 ⟨rfl, hb⟩
        have X5 : Hid (Two 40 36 w w5 #[.int .u64 (satp : Nat), .int .i64 kind, .int .i64 mode, .bool sum, .bool mxr] #[.int .u64 0, .bool false, .bool false, .int .i64 0]) := X4.out.step hb
        clear hb
        go_wp2_with fail
        refine (co _).mono ?_
        rintro e w6 ⟨rfl, hb⟩
        have X6 : Hid (Two 40 36 w w6 #[.int .u64 (satp : Nat), .int .i64 kind, .int .i64 mode, .bool sum, .bool mxr] #[.int .u64 0, .bool false, .bool false, .int .i64 0]) := X5.out.step hb
        clear hb
        go_wp2_with fail
        refine (cf1 _).mono ?_
        rintro e w7 ⟨rfl, hb⟩
        have X7 : Hid (Two 40 36 w w7 #[.int .u64 (satp : Nat), .int .i64 kind, .int .i64 mode, .bool sum, .bool mxr] #[.int .u64 0, .bool false, .bool false, .int .i64 0]) := X6.out.step hb
        clear hb
        have d0 := cellOf X7.out.2.1 0 _ rfl
        have z0 := frozenOf X7.out.2.1 0
        have d1 := cellOf X7.out.2.1 1 _ rfl
        have z1 := frozenOf X7.out.2.1 1
        have d2 := cellOf X7.out.2.1 2 _ rfl
        have z2 := frozenOf X7.out.2.1 2
        have d3 := cellOf X7.out.2.1 3 _ rfl
        have z3 := frozenOf X7.out.2.1 3
        go_wp2_with fail
        refine bodyPost_ret (v := .agg #[.int .u64 0, .bool true, .bool true, .int .i64 ((k : Int) + 1)]) (by simp [results, Try.results12, go_sem, d0, d1, d2, d3]) rfl ⟨by rw [HA.out]; rfl, ?_⟩
        exact set_four X7.out.2.2 (by omega) _ _ _ _
      cases lb
      case true =>
        clear cn cf
        have HA : Hid (R = arrR kind mode sum mxr lv va l) := by rw [← DD.out.2.2.1 rfl rfl rfl]; exact HS.out
        generalize arrR kind mode sum mxr lv va l = r at *
        obtain ⟨r0, r1, r2, r3⟩ := r
        rw [show resC (r0, r1, r2, r3) = #[.int .u64 (r0 : Nat), .bool r1, .bool r2, .int .i64 (r3 : Nat)] from rfl] at ca
        go_wp2_with fail
        refine (ce _).mono ?_
        rintro e w4 ⟨rfl, hb⟩
        have X4 : Hid (Two 40 36 w w4 #[.int .u64 (satp : Nat), .int .i64 kind, .int .i64 mode, .bool sum, .bool mxr] #[.int .u64 0, .bool false, .bool false, .int .i64 0]) := Xr.out.step hb
        clear hb
        go_wp2_with fail
        refine (cld _ X4.out.2.2).mono ?_
        rintro e w5 ⟨rfl, hb⟩
        have X5 : Hid (Two 40 36 w w5 #[.int .u64 (satp : Nat), .int .i64 kind, .int .i64 mode, .bool sum, .bool mxr] #[.int .u64 0, .bool false, .bool false, .int .i64 0]) := X4.out.step hb
        clear hb
        go_wp2_with fail
        refine (co _).mono ?_
        rintro e w6 ⟨rfl, hb⟩
        have X6 : Hid (Two 40 36 w w6 #[.int .u64 (satp : Nat), .int .i64 kind, .int .i64 mode, .bool sum, .bool mxr] #[.int .u64 0, .bool false, .bool false, .int .i64 0]) := X5.out.step hb
        clear hb
        go_wp2_with fail
        refine (cle _).mono ?_
        rintro e w7 ⟨rfl, hb⟩
        have X7 : Hid (Two 40 36 w w7 #[.int .u64 (satp : Nat), .int .i64 kind, .int .i64 mode, .bool sum, .bool mxr] #[.int .u64 0, .bool false, .bool false, .int .i64 0]) := X6.out.step hb
        clear hb
        have f0 := cellOf X7.out.1 0 _ rfl
        have f1 := cellOf X7.out.1 1 _ rfl
        have f2 := cellOf X7.out.1 2 _ rfl
        have f3 := cellOf X7.out.1 3 _ rfl
        have f4 := cellOf X7.out.1 4 _ rfl
        go_wp2_with fail
        refine (ca _).mono ?_
        rintro e w8 ⟨rfl, hb⟩
        have X8 : Hid (Two 40 36 w w8 #[.int .u64 (satp : Nat), .int .i64 kind, .int .i64 mode, .bool sum, .bool mxr] #[.int .u64 0, .bool false, .bool false, .int .i64 0]) := X7.out.step hb
        clear hb
        have d0 := cellOf X8.out.2.1 0 _ rfl
        have z0 := frozenOf X8.out.2.1 0
        have d1 := cellOf X8.out.2.1 1 _ rfl
        have z1 := frozenOf X8.out.2.1 1
        have d2 := cellOf X8.out.2.1 2 _ rfl
        have z2 := frozenOf X8.out.2.1 2
        have d3 := cellOf X8.out.2.1 3 _ rfl
        have z3 := frozenOf X8.out.2.1 3
        go_wp2_with fail
        refine bodyPost_ret (v := .agg #[.int .u64 (r0 : Nat), .bool r1, .bool r2, .int .i64 (r3 : Nat)]) (by simp [results, Try.results12, go_sem, d0, d1, d2, d3]) rfl ⟨by rw [HA.out]; rfl, ?_⟩
        exact set_four X8.out.2.2 (by omega) _ _ _ _
      have HA : Hid (R = stR M s kind mode sum mxr va nn (k + 1)) := by
        show R = _
        rw [HS.out]; exact DD.out.2.2.2 rfl rfl rfl
      clear ca cf DD HS
      go_wp2_with fail
      refine (ce _).mono ?_
      rintro e w4 ⟨rfl, hb⟩
      have X4 : Hid (Two 40 36 w w4 #[.int .u64 (satp : Nat), .int .i64 kind, .int .i64 mode, .bool sum, .bool mxr] #[.int .u64 0, .bool false, .bool false, .int .i64 0]) := Xr.out.step hb
      clear hb
      go_wp2_with fail
      refine (cld _ X4.out.2.2).mono ?_
      rintro e w5 ⟨rfl, hb⟩
      have X5 : Hid (Two 40 36 w w5 #[.int .u64 (satp : Nat), .int .i64 kind, .int .i64 mode, .bool sum, .bool mxr] #[.int .u64 0, .bool false, .bool false, .int .i64 0]) := X4.out.step hb
      clear hb
      go_wp2_with fail
      refine (co _).mono ?_
      rintro e w6 ⟨rfl, hb⟩
      have X6 : Hid (Two 40 36 w w6 #[.int .u64 (satp : Nat), .int .i64 kind, .int .i64 mode, .bool sum, .bool mxr] #[.int .u64 0, .bool false, .bool false, .int .i64 0]) := X5.out.step hb
      clear hb
      go_wp2_with fail
      refine (cle _).mono ?_
      rintro e w7 ⟨rfl, hb⟩
      have X7 : Hid (Two 40 36 w w7 #[.int .u64 (satp : Nat), .int .i64 kind, .int .i64 mode, .bool sum, .bool mxr] #[.int .u64 0, .bool false, .bool false, .int .i64 0]) := X6.out.step hb
      clear hb
      go_wp2_with fail
      refine (cn _).mono ?_
      rintro e w8 ⟨rfl, hb⟩
      have X8 : Hid (Two 40 36 w w8 #[.int .u64 (satp : Nat), .int .i64 kind, .int .i64 mode, .bool sum, .bool mxr] #[.int .u64 0, .bool false, .bool false, .int .i64 0]) := X7.out.step hb
      clear hb
      go_wp2_with fail
      go_roundw
      case rel => exact ⟨k + 1, nn, by omega, by go_num, rfl, hnl, HA.out, X8.out⟩
      case measure => simp [intOf]; omega
end Go.Proofs.Ytalgidnmmghejaa
