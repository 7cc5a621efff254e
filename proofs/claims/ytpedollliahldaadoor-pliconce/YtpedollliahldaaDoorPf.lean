/- Package plic's calls Load and Store. -/
import Derived.Test.YtpedollliahldaaDoorPe
namespace Go.Proofs.YtpedollliahldaaDoor
open Go.RowKit
set_option linter.unusedVariables false
set_option linter.unusedSimpArgs false
set_option maxRecDepth 100000
theorem In.prio {w V : World} {b : Nat} {S : St} (h : In 28 w b (progC S) V) (i x : Nat) (hi : i < 32) : In 28 w b (progC { S with prio := updN S.prio i x }) (V.setCell ⟨b, i, none⟩ (.int .u32 (x : Nat))) := by
  have h2 := h.set i (.int .u32 (x : Nat))
  rw [progC_prio S i x hi] at h2
  exact h2
theorem In.least {w V : World} {b : Nat} {S : St} (h : In 28 w b (progC S) V) (c x : Nat) (hc : c < 2) : In 28 w b (progC { S with least := updN S.least c x }) (V.setCell ⟨b, 37 + c, none⟩ (.int .u32 (x : Nat))) := by
  have h2 := h.set (37 + c) (.int .u32 (x : Nat))
  rw [progC_least S c x hc] at h2
  exact h2
theorem load_no (b a : Nat) (n : Int) (ha : a < 18446744073709551616) (h : mayB a n = false) (w : World) : Calls Tryd.prog 29 #[.pointer (some ⟨b, 0, none⟩), .int .u64 (a : Int), .int .i64 n] w fun e w' => e = .returned (.tuple #[.int .u64 0, .bool false]) ∧ w' = w := by
  have ca := allowed_any a n ha
  rw [h] at ca
  clear h
  go_enter Tryd.func29, Tryd.ntmps29
  go_wp2_with (go_at_call 21; refine (ca _).mono ?_; rintro e w' ⟨rfl, rfl⟩)
  go_ret2
  exact ⟨rfl, rfl⟩
theorem store_no (b a v : Nat) (n : Int) (ha : a < 18446744073709551616) (h : mayB a n = false) (w : World) : Calls Tryd.prog 12 #[.pointer (some ⟨b, 0, none⟩), .int .u64 (a : Int), .int .i64 n, .int .u64 (v : Int)] w fun e w' => e = .returned (.bool false) ∧ w' = w := by
  have ca := allowed_any a n ha
  rw [h] at ca
  clear h
  go_enter Tryd.func12, Tryd.ntmps12
  go_wp2_with (go_at_call 21; refine (ca _).mono ?_; rintro e w' ⟨rfl, rfl⟩)
  go_ret
  exact ⟨rfl, rfl⟩
theorem wrap_u64_s (x : Nat) (h : x < 4294967296) : IntKind.u64.wrap (x : Int) = (x : Int) := by rw [wrap_u64]; omega
theorem load_prio (b a : Nat) (n : Int) (S : St) (i : Nat) (hi : i < 32) (hS : S.Ok) (ha : a < 18446744073709551616) (hm : mayB a n = true) (hr : findR a = (1, i)) (w : World) (hx : Box 28 w b (progC S)) : Calls Tryd.prog 29 #[.pointer (some ⟨b, 0, none⟩), .int .u64 (a : Int), .int .i64 n] w fun e w' => e = .returned (.tuple #[.int .u64 (S.prio i : Nat), .bool true]) ∧ w' = w := by
  have ca := allowed_any a n ha
  rw [hm] at ca
  have cf := find_any a ha
  rw [hr] at cf
  dsimp only at cf
  have X0 : Hid (In 28 w b (progC S) w) := ⟨hx, Upon.refl _ _⟩
  have f0 := hx.prio i hi
  have hi2 : (i : Int) < 32 := by omega
  have hw2 := wrap_u64_s (S.prio i) (by have := hS.1 i; omega)
  clear hx hS ha hm hr hi
  go_enter Tryd.func29, Tryd.ntmps29
  go_wp2_with fail
  refine (ca _).mono ?_
  rintro e w' ⟨rfl, hw⟩
  rw [hw]
  clear hw w'
  go_wp2_with fail
  refine (cf _).mono ?_
  rintro e w' ⟨rfl, hw⟩
  rw [hw]
  clear hw w'
  go_wp2_with fail
  go_ret2
  exact ⟨rfl, rfl⟩
theorem load_waits (b a : Nat) (n : Int) (S : St)  (hS : S.Ok) (ha : a < 18446744073709551616) (hm : mayB a n = true) (hr : findR a = (2, 0)) (w : World) (hx : Box 28 w b (progC S)) : Calls Tryd.prog 29 #[.pointer (some ⟨b, 0, none⟩), .int .u64 (a : Int), .int .i64 n] w fun e w' => e = .returned (.tuple #[.int .u64 (S.waits : Nat), .bool true]) ∧ w' = w := by
  have ca := allowed_any a n ha
  rw [hm] at ca
  have cf := find_any a ha
  rw [hr] at cf
  dsimp only at cf
  have X0 : Hid (In 28 w b (progC S) w) := ⟨hx, Upon.refl _ _⟩
  have f0 : w.cell? ⟨b, 33, none⟩ = some (.int .u32 (S.waits : Nat)) := hx.prog 33 (by omega)
  have hw2 := wrap_u64_s S.waits hS.2.2.1
  clear hx hS ha hm hr 
  go_enter Tryd.func29, Tryd.ntmps29
  go_wp2_with fail
  refine (ca _).mono ?_
  rintro e w' ⟨rfl, hw⟩
  rw [hw]
  clear hw w'
  go_wp2_with fail
  refine (cf _).mono ?_
  rintro e w' ⟨rfl, hw⟩
  rw [hw]
  clear hw w'
  go_wp2_with fail
  go_ret2
  exact ⟨rfl, rfl⟩
theorem load_lets (b a : Nat) (n : Int) (S : St) (c : Nat) (hc : c < 2) (hS : S.Ok) (ha : a < 18446744073709551616) (hm : mayB a n = true) (hr : findR a = (3, c)) (w : World) (hx : Box 28 w b (progC S)) : Calls Tryd.prog 29 #[.pointer (some ⟨b, 0, none⟩), .int .u64 (a : Int), .int .i64 n] w fun e w' => e = .returned (.tuple #[.int .u64 (S.lets c : Nat), .bool true]) ∧ w' = w := by
  have ca := allowed_any a n ha
  rw [hm] at ca
  have cf := find_any a ha
  rw [hr] at cf
  dsimp only at cf
  have X0 : Hid (In 28 w b (progC S) w) := ⟨hx, Upon.refl _ _⟩
  have f0 := hx.lets c hc
  have hi2 : (c : Int) < 2 := by omega
  have hw2 := wrap_u64_s (S.lets c) (hS.2.2.2.2.1 c)
  clear hx hS ha hm hr hc
  go_enter Tryd.func29, Tryd.ntmps29
  go_wp2_with fail
  refine (ca _).mono ?_
  rintro e w' ⟨rfl, hw⟩
  rw [hw]
  clear hw w'
  go_wp2_with fail
  refine (cf _).mono ?_
  rintro e w' ⟨rfl, hw⟩
  rw [hw]
  clear hw w'
  go_wp2_with fail
  go_ret2
  exact ⟨rfl, rfl⟩
theorem load_least (b a : Nat) (n : Int) (S : St) (c : Nat) (hc : c < 2) (hS : S.Ok) (ha : a < 18446744073709551616) (hm : mayB a n = true) (hr : findR a = (4, c)) (w : World) (hx : Box 28 w b (progC S)) : Calls Tryd.prog 29 #[.pointer (some ⟨b, 0, none⟩), .int .u64 (a : Int), .int .i64 n] w fun e w' => e = .returned (.tuple #[.int .u64 (S.least c : Nat), .bool true]) ∧ w' = w := by
  have ca := allowed_any a n ha
  rw [hm] at ca
  have cf := find_any a ha
  rw [hr] at cf
  dsimp only at cf
  have X0 : Hid (In 28 w b (progC S) w) := ⟨hx, Upon.refl _ _⟩
  have f0 := hx.least c hc
  have hi2 : (c : Int) < 2 := by omega
  have hw2 := wrap_u64_s (S.least c) (by have := hS.2.2.2.2.2 c; omega)
  clear hx hS ha hm hr hc
  go_enter Tryd.func29, Tryd.ntmps29
  go_wp2_with fail
  refine (ca _).mono ?_
  rintro e w' ⟨rfl, hw⟩
  rw [hw]
  clear hw w'
  go_wp2_with fail
  refine (cf _).mono ?_
  rintro e w' ⟨rfl, hw⟩
  rw [hw]
  clear hw w'
  go_wp2_with fail
  go_ret2
  exact ⟨rfl, rfl⟩
theorem load_none (b a : Nat) (n : Int) (S : St)  (hS : S.Ok) (ha : a < 18446744073709551616) (hm : mayB a n = true) (hr : findR a = (0, 0)) (w : World) (hx : Box 28 w b (progC S)) : Calls Tryd.prog 29 #[.pointer (some ⟨b, 0, none⟩), .int .u64 (a : Int), .int .i64 n] w fun e w' => e = .returned (.tuple #[.int .u64 (0 : Nat), .bool true]) ∧ w' = w := by
  have ca := allowed_any a n ha
  rw [hm] at ca
  have cf := find_any a ha
  rw [hr] at cf
  dsimp only at cf
  have X0 : Hid (In 28 w b (progC S) w) := ⟨hx, Upon.refl _ _⟩
  clear hx hS ha hm hr 
  go_enter Tryd.func29, Tryd.ntmps29
  go_wp2_with fail
  refine (ca _).mono ?_
  rintro e w' ⟨rfl, hw⟩
  rw [hw]
  clear hw w'
  go_wp2_with fail
  refine (cf _).mono ?_
  rintro e w' ⟨rfl, hw⟩
  rw [hw]
  clear hw w'
  go_wp2_with fail
  go_ret2
  exact ⟨rfl, rfl⟩
theorem load_claim (b a : Nat) (n : Int) (S : St) (c : Nat) (hc : c < 2) (hS : S.Ok) (ha : a < 18446744073709551616) (hm : mayB a n = true) (hr : findR a = (5, c)) (w : World) (hx : Box 28 w b (progC S)) (ht : TabLies w) : Calls Tryd.prog 29 #[.pointer (some ⟨b, 0, none⟩), .int .u64 (a : Int), .int .i64 n] w fun e w' => e = .returned (.tuple #[.int .u64 (firstN S c : Nat), .bool true]) ∧ Box 28 w' b (progC (takeS S c)) ∧ Upon b w w' := by
  have ca := allowed_any a n ha
  rw [hm] at ca
  have cf := find_any a ha
  rw [hr] at cf
  dsimp only at cf
  have X0 : Hid (In 28 w b (progC S) w) := ⟨hx, Upon.refl _ _⟩
  have hw2 := wrap_u64_s (firstN S c) (by have := firstN_lt S c; omega)
  have hk := take_any b c hc S hS w hx ht
  clear hx hS ha hm hr hc ht
  go_enter Tryd.func29, Tryd.ntmps29
  go_wp2_with fail
  refine (ca _).mono ?_
  rintro e w' ⟨rfl, hw⟩
  rw [hw]
  clear hw w'
  go_wp2_with fail
  refine (cf _).mono ?_
  rintro e w' ⟨rfl, hw⟩
  rw [hw]
  clear hw w'
  go_wp2_with fail
  refine hk.mono ?_
  rintro e w1 ⟨rfl, hb1, hu1⟩
  have X1 : Hid (In 28 w b (progC (takeS S c)) w1) := ⟨hb1, hu1⟩
  clear hb1 hu1
  go_wp2_with fail
  go_ret2
  exact ⟨rfl, X1.out⟩
theorem same_in {b : Nat} {S : St} {w : World} {e0 : Ending} {F : Nat} {av : Array Value} (hx : Box 28 w b (progC S)) (h : Calls Tryd.prog F av w fun e w' => e = e0 ∧ w' = w) : Calls Tryd.prog F av w fun e w' => e = e0 ∧ Box 28 w' b (progC S) ∧ Upon b w w' := by
  refine h.mono ?_
  rintro e w' ⟨rfl, hw⟩
  rw [hw]
  exact ⟨rfl, hx, Upon.refl _ _⟩
theorem load_any (b a : Nat) (n : Int) (S : St) (hS : S.Ok) (ha : a < 18446744073709551616) (hm : mayB a n = true) (w : World) (hx : Box 28 w b (progC S)) (ht : TabLies w) : Calls Tryd.prog 29 #[.pointer (some ⟨b, 0, none⟩), .int .u64 (a : Int), .int .i64 n] w fun e w' => e = .returned (.tuple #[.int .u64 (loadV S a : Nat), .bool true]) ∧ Box 28 w' b (progC (loadS S a)) ∧ Upon b w w' := by
  rcases findR_cases a with ⟨h, hr⟩ | ⟨h, hr⟩ | ⟨c, hc, h, hr⟩ | ⟨c, hc, h, hr⟩ | ⟨c, hc, h, hr⟩ | ⟨hr, h⟩ <;> (unfold loadV loadS; rw [hr]; dsimp only)
  · exact same_in hx (load_prio b a n S (a / 4) (by omega) hS ha hm hr w hx)
  · exact same_in hx (load_waits b a n S hS ha hm hr w hx)
  · exact same_in hx (load_lets b a n S c hc hS ha hm hr w hx)
  · exact same_in hx (load_least b a n S c hc hS ha hm hr w hx)
  · exact load_claim b a n S c hc hS ha hm hr w hx ht
  · exact same_in hx (load_none b a n S hS ha hm hr w hx)
set_option maxHeartbeats 2000000 in
theorem store_same (b a : Nat) (n : Int) (v : Nat) (hv : v < 18446744073709551616) (S : St)  (hS : S.Ok) (ha : a < 18446744073709551616) (hm : mayB a n = true) (hr : findR a = (0, 0))  (w : World) (hx : Box 28 w b (progC S)) : Calls Tryd.prog 12 #[.pointer (some ⟨b, 0, none⟩), .int .u64 (a : Int), .int .i64 n, .int .u64 (v : Int)] w fun e w' => e = .returned (.bool true) ∧ Box 28 w' b (progC (S)) ∧ Upon b w w' := by
  have ca := allowed_any a n ha
  rw [hm] at ca
  have cf := find_any a ha
  rw [hr] at cf
  dsimp only at cf
  have X0 : Hid (In 28 w b (progC S) w) := ⟨hx, Upon.refl _ _⟩
  clear hx hS ha hm hr hv
  go_enter Tryd.func12, Tryd.ntmps12
  go_wp2_with fail
  refine (ca _).mono ?_
  rintro e w' ⟨rfl, hw⟩
  rw [hw]
  clear hw w'
  go_wp2_with fail
  refine (cf _).mono ?_
  rintro e w' ⟨rfl, hw⟩
  rw [hw]
  clear hw w'
  go_wp2_with fail
  go_ret
  exact ⟨rfl, X0.out⟩
set_option maxHeartbeats 2000000 in
theorem store_waits (b a : Nat) (n : Int) (v : Nat) (hv : v < 18446744073709551616) (S : St)  (hS : S.Ok) (ha : a < 18446744073709551616) (hm : mayB a n = true) (hr : findR a = (2, 0))  (w : World) (hx : Box 28 w b (progC S)) : Calls Tryd.prog 12 #[.pointer (some ⟨b, 0, none⟩), .int .u64 (a : Int), .int .i64 n, .int .u64 (v : Int)] w fun e w' => e = .returned (.bool true) ∧ Box 28 w' b (progC (S)) ∧ Upon b w w' := by
  have ca := allowed_any a n ha
  rw [hm] at ca
  have cf := find_any a ha
  rw [hr] at cf
  dsimp only at cf
  have X0 : Hid (In 28 w b (progC S) w) := ⟨hx, Upon.refl _ _⟩
  clear hx hS ha hm hr hv
  go_enter Tryd.func12, Tryd.ntmps12
  go_wp2_with fail
  refine (ca _).mono ?_
  rintro e w' ⟨rfl, hw⟩
  rw [hw]
  clear hw w'
  go_wp2_with fail
  refine (cf _).mono ?_
  rintro e w' ⟨rfl, hw⟩
  rw [hw]
  clear hw w'
  go_wp2_with fail
  go_ret
  exact ⟨rfl, X0.out⟩
set_option maxHeartbeats 2000000 in
theorem store_prio0 (b a : Nat) (n : Int) (v : Nat) (hv : v < 18446744073709551616) (S : St)  (hS : S.Ok) (ha : a < 18446744073709551616) (hm : mayB a n = true) (hr : findR a = (1, 0))  (w : World) (hx : Box 28 w b (progC S)) : Calls Tryd.prog 12 #[.pointer (some ⟨b, 0, none⟩), .int .u64 (a : Int), .int .i64 n, .int .u64 (v : Int)] w fun e w' => e = .returned (.bool true) ∧ Box 28 w' b (progC (S)) ∧ Upon b w w' := by
  have ca := allowed_any a n ha
  rw [hm] at ca
  have cf := find_any a ha
  rw [hr] at cf
  dsimp only at cf
  have X0 : Hid (In 28 w b (progC S) w) := ⟨hx, Upon.refl _ _⟩
  have hs := source_any 0
  rw [show (decide ((1 : Int) ≤ 0) && decide ((0 : Int) < 32)) = false from by decide] at hs
  clear hx hS ha hm hr hv
  go_enter Tryd.func12, Tryd.ntmps12
  go_wp2_with fail
  refine (ca _).mono ?_
  rintro e w' ⟨rfl, hw⟩
  rw [hw]
  clear hw w'
  go_wp2_with fail
  refine (cf _).mono ?_
  rintro e w' ⟨rfl, hw⟩
  rw [hw]
  clear hw w'
  go_wp2_with fail
  refine (hs _).mono ?_
  rintro e w' ⟨rfl, hw⟩
  rw [hw]
  clear hw w'
  go_wp2_with fail
  go_ret
  exact ⟨rfl, X0.out⟩
set_option maxHeartbeats 2000000 in
theorem store_prio (b a : Nat) (n : Int) (v : Nat) (hv : v < 18446744073709551616) (S : St) (i : Nat) (h0 : i ≠ 0) (hi : i < 32) (hS : S.Ok) (ha : a < 18446744073709551616) (hm : mayB a n = true) (hr : findR a = (1, i))  (w : World) (hx : Box 28 w b (progC S)) : Calls Tryd.prog 12 #[.pointer (some ⟨b, 0, none⟩), .int .u64 (a : Int), .int .i64 n, .int .u64 (v : Int)] w fun e w' => e = .returned (.bool true) ∧ Box 28 w' b (progC ({ S with prio := updN S.prio i (v % 8) })) ∧ Upon b w w' := by
  have ca := allowed_any a n ha
  rw [hm] at ca
  have cf := find_any a ha
  rw [hr] at cf
  dsimp only at cf
  have X0 : Hid (In 28 w b (progC S) w) := ⟨hx, Upon.refl _ _⟩
  have hs := source_any (i : Int)
  rw [show (decide (1 ≤ (i : Int)) && decide ((i : Int) < 32)) = true from by simp; omega] at hs
  have hlv := level_any v hv
  have hi2 : (i : Int) < 32 := by omega
  have HI : Hid (i < 32) := hi
  clear hx hS ha hm hr hv h0 hi
  generalize v % 8 = y at *
  go_enter Tryd.func12, Tryd.ntmps12
  go_wp2_with fail
  refine (ca _).mono ?_
  rintro e w' ⟨rfl, hw⟩
  rw [hw]
  clear hw w'
  go_wp2_with fail
  refine (cf _).mono ?_
  rintro e w' ⟨rfl, hw⟩
  rw [hw]
  clear hw w'
  go_wp2_with fail
  refine (hs _).mono ?_
  rintro e w' ⟨rfl, hw⟩
  rw [hw]
  clear hw w'
  go_upto_region 7 with fail
  go_region_with (go_at_call 23; refine (hlv _).mono ?_; rintro e w2 ⟨rfl, hb2⟩; have X2 : Hid (In 28 w b (progC S) w2) := X0.out.drew.step hb2; clear hb2; have g2 := X2.out.1.prio i HI.out; have z2 := X2.out.1.frozen i)
  all_goals have X3 : Hid (In 28 w b (progC { S with prio := updN S.prio i y }) (w2.setCell ⟨b, i, none⟩ (.int .u32 (y : Nat)))) := X2.out.prio i _ HI.out
  all_goals generalize w2.setCell ⟨b, i, none⟩ (.int .u32 (y : Nat)) = w3 at *
  all_goals clear X0 X2 g2 z2
  all_goals
    go_wp2_with fail
    go_ret
    exact ⟨rfl, X3.out⟩
set_option maxHeartbeats 2000000 in
theorem store_least (b a : Nat) (n : Int) (v : Nat) (hv : v < 18446744073709551616) (S : St) (c : Nat) (hc : c < 2) (hS : S.Ok) (ha : a < 18446744073709551616) (hm : mayB a n = true) (hr : findR a = (4, c))  (w : World) (hx : Box 28 w b (progC S)) : Calls Tryd.prog 12 #[.pointer (some ⟨b, 0, none⟩), .int .u64 (a : Int), .int .i64 n, .int .u64 (v : Int)] w fun e w' => e = .returned (.bool true) ∧ Box 28 w' b (progC ({ S with least := updN S.least c (v % 8) })) ∧ Upon b w w' := by
  have ca := allowed_any a n ha
  rw [hm] at ca
  have cf := find_any a ha
  rw [hr] at cf
  dsimp only at cf
  have X0 : Hid (In 28 w b (progC S) w) := ⟨hx, Upon.refl _ _⟩
  have hlv := level_any v hv
  have hi2 : (c : Int) < 2 := by omega
  have HI : Hid (c < 2) := hc
  clear hx hS ha hm hr hv hc
  generalize v % 8 = y at *
  go_enter Tryd.func12, Tryd.ntmps12
  go_wp2_with fail
  refine (ca _).mono ?_
  rintro e w' ⟨rfl, hw⟩
  rw [hw]
  clear hw w'
  go_wp2_with fail
  refine (cf _).mono ?_
  rintro e w' ⟨rfl, hw⟩
  rw [hw]
  clear hw w'
  go_upto_region 11 with fail
  go_region_with (go_at_call 23; refine (hlv _).mono ?_; rintro e w2 ⟨rfl, hb2⟩; have X2 : Hid (In 28 w b (progC S) w2) := X0.out.drew.step hb2; clear hb2; have g2 := X2.out.1.least c HI.out; have z2 := X2.out.1.frozen (37 + c))
  all_goals have X3 : Hid (In 28 w b (progC { S with least := updN S.least c y }) (w2.setCell ⟨b, 37 + c, none⟩ (.int .u32 (y : Nat)))) := X2.out.least c _ HI.out
  all_goals generalize w2.setCell ⟨b, 37 + c, none⟩ (.int .u32 (y : Nat)) = w3 at *
  all_goals clear X0 X2 g2 z2
  all_goals
    go_wp2_with fail
    go_ret
    exact ⟨rfl, X3.out⟩
theorem wrap_u32 (v : Nat) : IntKind.u32.wrap (v : Int) = ((v % 4294967296 : Nat) : Int) := by
  simp only [IntKind.wrap, IntKind.signed, IntKind.bits]
  simp
theorem lets_num (v : Nat) : bits .and .u32 ((v % 4294967296 : Nat) : Int) 4294967294 = ((v % 4294967296 &&& 4294967294 : Nat) : Int) := by
  have := u32_and_nat (v % 4294967296) 4294967294 (by omega) (by decide)
  exact this
set_option maxHeartbeats 2000000 in
theorem store_lets (b a : Nat) (n : Int) (v : Nat) (hv : v < 18446744073709551616) (S : St) (c : Nat) (hc : c < 2) (hS : S.Ok) (ha : a < 18446744073709551616) (hm : mayB a n = true) (hr : findR a = (3, c))  (w : World) (hx : Box 28 w b (progC S)) : Calls Tryd.prog 12 #[.pointer (some ⟨b, 0, none⟩), .int .u64 (a : Int), .int .i64 n, .int .u64 (v : Int)] w fun e w' => e = .returned (.bool true) ∧ Box 28 w' b (progC ({ S with lets := updN S.lets c (v % 4294967296 &&& 4294967294) })) ∧ Upon b w w' := by
  have ca := allowed_any a n ha
  rw [hm] at ca
  have cf := find_any a ha
  rw [hr] at cf
  dsimp only at cf
  have X0 : Hid (In 28 w b (progC S) w) := ⟨hx, Upon.refl _ _⟩
  have hw1 := wrap_u32 v
  have hw2 := lets_num v
  have g2 := X0.out.1.lets c hc
  have z2 := X0.out.1.frozen (35 + c)
  have hi2 : (c : Int) < 2 := by omega
  have X3 : Hid (In 28 w b (progC { S with lets := updN S.lets c (v % 4294967296 &&& 4294967294) }) (w.setCell ⟨b, 35 + c, none⟩ (.int .u32 (v % 4294967296 &&& 4294967294 : Nat)))) := by
    have h := X0.out.set (35 + c) (.int .u32 (v % 4294967296 &&& 4294967294 : Nat))
    rw [progC_lets S c _ hc] at h
    exact h
  clear hx hS ha hm hr hv hc
  generalize ((v % 4294967296 &&& 4294967294 : Nat) : Int) = q1 at *
  generalize ((v % 4294967296 : Nat) : Int) = q2 at *
  go_enter Tryd.func12, Tryd.ntmps12
  go_wp2_with fail
  refine (ca _).mono ?_
  rintro e w' ⟨rfl, hw⟩
  rw [hw]
  clear hw w'
  go_wp2_with fail
  refine (cf _).mono ?_
  rintro e w' ⟨rfl, hw⟩
  rw [hw]
  clear hw w'
  go_wp2_with fail
  go_ret
  exact ⟨rfl, X3.out⟩
set_option maxHeartbeats 2000000 in
theorem store_claim0 (b a : Nat) (n : Int) (v : Nat) (hv : v < 18446744073709551616) (S : St) (c : Nat) (hc : c < 2) (hS : S.Ok) (ha : a < 18446744073709551616) (hm : mayB a n = true) (hr : findR a = (5, c)) (hb : ¬ v % 4294967296 < 32) (w : World) (hx : Box 28 w b (progC S)) : Calls Tryd.prog 12 #[.pointer (some ⟨b, 0, none⟩), .int .u64 (a : Int), .int .i64 n, .int .u64 (v : Int)] w fun e w' => e = .returned (.bool true) ∧ Box 28 w' b (progC (S)) ∧ Upon b w w' := by
  have ca := allowed_any a n ha
  rw [hm] at ca
  have cf := find_any a ha
  rw [hr] at cf
  dsimp only at cf
  have X0 : Hid (In 28 w b (progC S) w) := ⟨hx, Upon.refl _ _⟩
  have hw1 := wrap_u32 v
  have hlt : ¬ ((v % 4294967296 : Nat) : Int) < 32 := by omega
  clear hx hS ha hm hr hv hc hb
  generalize ((v % 4294967296 : Nat) : Int) = q2 at *
  go_enter Tryd.func12, Tryd.ntmps12
  go_wp2_with fail
  refine (ca _).mono ?_
  rintro e w' ⟨rfl, hw⟩
  rw [hw]
  clear hw w'
  go_wp2_with fail
  refine (cf _).mono ?_
  rintro e w' ⟨rfl, hw⟩
  rw [hw]
  clear hw w'
  go_wp2_with fail
  go_ret
  exact ⟨rfl, X0.out⟩
set_option maxHeartbeats 2000000 in
theorem store_claim (b a : Nat) (n : Int) (v : Nat) (hv : v < 18446744073709551616) (S : St) (c : Nat) (hc : c < 2) (hS : S.Ok) (ha : a < 18446744073709551616) (hm : mayB a n = true) (hr : findR a = (5, c)) (hb : v % 4294967296 < 32) (w : World) (hx : Box 28 w b (progC S)) : Calls Tryd.prog 12 #[.pointer (some ⟨b, 0, none⟩), .int .u64 (a : Int), .int .i64 n, .int .u64 (v : Int)] w fun e w' => e = .returned (.bool true) ∧ Box 28 w' b (progC (if v % 4294967296 = 0 then S else doneS S c (v % 4294967296))) ∧ Upon b w w' := by
  have ca := allowed_any a n ha
  rw [hm] at ca
  have cf := find_any a ha
  rw [hr] at cf
  dsimp only at cf
  have X0 : Hid (In 28 w b (progC S) w) := ⟨hx, Upon.refl _ _⟩
  have hw1 := wrap_u32 v
  have hlt : ((v % 4294967296 : Nat) : Int) < 32 := by omega
  have hw2 : IntKind.i64.wrap ((v % 4294967296 : Nat) : Int) = ((v % 4294967296 : Nat) : Int) := wrap_i64_s _ (by omega)
  have hd : Calls Tryd.prog 11 #[.pointer (some ⟨b, 0, none⟩), .int .i64 (c : Int), .int .i64 ((v % 4294967296 : Nat) : Int)] w fun e w' => e = .returned (.tuple #[]) ∧ Box 28 w' b (progC (if v % 4294967296 = 0 then S else doneS S c (v % 4294967296))) ∧ Upon b w w' := by
    by_cases h0 : v % 4294967296 = 0
    · rw [if_pos h0, h0]
      refine (done_src b c ((0 : Nat) : Int) hc (by decide) w).mono ?_
      rintro e w' ⟨rfl, hb'⟩
      exact ⟨rfl, hx.step hb', Upon.of_below hb'⟩
    · rw [if_neg h0]
      exact done_any b c _ hc (by omega) hb S hS w hx
  have HE : Hid ((if v % 4294967296 = 0 then S else doneS S c (v % 4294967296)) = (if v % 4294967296 = 0 then S else doneS S c (v % 4294967296))) := rfl
  generalize hqS : (if v % 4294967296 = 0 then S else doneS S c (v % 4294967296)) = S2 at *
  clear hqS HE hx hS ha hm hr hv hc hb
  generalize ((v % 4294967296 : Nat) : Int) = q2 at *
  go_enter Tryd.func12, Tryd.ntmps12
  go_wp2_with fail
  refine (ca _).mono ?_
  rintro e w' ⟨rfl, hw⟩
  rw [hw]
  clear hw w'
  go_wp2_with fail
  refine (cf _).mono ?_
  rintro e w' ⟨rfl, hw⟩
  rw [hw]
  clear hw w'
  go_wp2_with fail
  refine hd.mono ?_
  rintro e w1 ⟨rfl, hb1, hu1⟩
  have X1 : Hid (In 28 w b (progC S2) w1) := ⟨hb1, hu1⟩
  clear hb1 hu1
  go_wp2_with fail
  go_ret
  exact ⟨rfl, X1.out⟩
theorem store_any (b a : Nat) (n : Int) (v : Nat) (hv : v < 18446744073709551616) (S : St) (hS : S.Ok) (ha : a < 18446744073709551616) (hm : mayB a n = true) (w : World) (hx : Box 28 w b (progC S)) : Calls Tryd.prog 12 #[.pointer (some ⟨b, 0, none⟩), .int .u64 (a : Int), .int .i64 n, .int .u64 (v : Int)] w fun e w' => e = .returned (.bool true) ∧ Box 28 w' b (progC (storeS S a v)) ∧ Upon b w w' := by
  rcases findR_cases a with ⟨h, hr⟩ | ⟨h, hr⟩ | ⟨c, hc, h, hr⟩ | ⟨c, hc, h, hr⟩ | ⟨c, hc, h, hr⟩ | ⟨hr, h⟩ <;> (unfold storeS; rw [hr]; dsimp only)
  · rw [if_pos rfl]
    by_cases h0 : a / 4 = 0
    · rw [if_pos h0]
      rw [h0] at hr
      exact store_prio0 b a n v hv S hS ha hm hr w hx
    · rw [if_neg h0]
      exact store_prio b a n v hv S (a / 4) h0 (by omega) hS ha hm hr w hx
  · exact store_waits b a n v hv S hS ha hm hr w hx
  · exact store_lets b a n v hv S c hc hS ha hm hr w hx
  · exact store_least b a n v hv S c hc hS ha hm hr w hx
  · rw [if_neg (by decide), if_neg (by decide), if_neg (by decide)]
    by_cases hb : v % 4294967296 < 32
    · have h := store_claim b a n v hv S c hc hS ha hm hr hb w hx
      by_cases h0 : v % 4294967296 = 0
      · rw [if_pos h0] at h
        rw [if_neg (fun h => h.2.2 h0)]
        exact h
      · rw [if_neg h0] at h
        rw [if_pos ⟨rfl, hb, h0⟩]
        exact h
    · rw [if_neg (fun h => hb h.2.1)]
      exact store_claim0 b a n v hv S c hc hS ha hm hr hb w hx
  · exact store_same b a n v hv S hS ha hm hr w hx
end Go.Proofs.YtpedollliahldaaDoor
