/- Texts put together. -/
import Derived.Test.YtmjdnocilbnoaaaGreatYb
import Derived.Test.YtmjdnocilbnoaaaGreatYc
import Derived.Test.YtmjdnocilbnoaaaGreatYa
import Derived.Test.YtmjdnocilbnoaaaGreatYe
import Derived.Deep.RegionHeld3
import Derived.Test.YtmjdnocilbnoaaaGreatYd
/- A queue, plain: what is fetched, returned, asked, told, served. -/
namespace Go.Proofs.YtmjdnocilbnoaaaGreat
open Go.RowKit Go.Maps
set_option linter.unusedVariables false
set_option linter.unusedSimpArgs false
set_option maxRecDepth 100000
theorem box9_facts {w : World} {b : Nat} {x0 x1 x2 x3 x4 x5 x6 x7 x8 : Value} {t : TypeId} (h : w.heap[b]? = some (.cells #[x0, x1, x2, x3, x4, x5, x6, x7, x8] t (0, 0))) : w.cell? ⟨b, 0, none⟩ = some x0 ∧ w.cell? ⟨b, 1, none⟩ = some x1 ∧ w.cell? ⟨b, 2, none⟩ = some x2 ∧ w.cell? ⟨b, 3, none⟩ = some x3 ∧ w.cell? ⟨b, 4, none⟩ = some x4 ∧ w.cell? ⟨b, 5, none⟩ = some x5 ∧ w.cell? ⟨b, 6, none⟩ = some x6 ∧ w.cell? ⟨b, 7, none⟩ = some x7 ∧ w.cell? ⟨b, 8, none⟩ = some x8 := ⟨cellOf h 0 _ rfl, cellOf h 1 _ rfl, cellOf h 2 _ rfl, cellOf h 3 _ rfl, cellOf h 4 _ rfl, cellOf h 5 _ rfl, cellOf h 6 _ rfl, cellOf h 7 _ rfl, cellOf h 8 _ rfl⟩
/-- a fetch: nothing or an error ahead of any head; or a head and what its chain is -/
inductive Ft where
  | non (e : Int)
  | got (h : Nat) (c : Cn)
/-- how many wait -/
def waitN (M : Nat → Nat) (A fe : Nat) : Nat := (wordN M (A + 2) 2 8192 + 65536 - fe) % 65536
def headN (M : Nat → Nat) (n A fe : Nat) : Nat := wordN M (A + 4 + 2 * (fe % n)) 2 8192
def fetchR (M : Nat → Nat) (s : Int) (D A U : Nat) (rd : Bool) (fe : Nat) (al : Bool) : Ft :=
  if rd = false then .non 0 else if chkN s D A U 8192 ≠ 0 then .non (chkN s D A U 8192) else if waitN M A fe = 0 then .non 0 else if s.toNat < waitN M A fe then .non 156 else .got (headN M s.toNat A fe) (walkR M D s.toNat (headN M s.toNat A fe : Nat) al)
section
variable {M : Nat → Nat} {s : Int} {n D A U fe : Nat} {rd al : Bool}
theorem fetch_idle : fetchR M s D A U false fe al = .non 0 := by simp [fetchR]
theorem fetch_bad (h : chkN s D A U 8192 ≠ 0) : fetchR M s D A U true fe al = .non (chkN s D A U 8192) := by simp [fetchR, h]
theorem fetch_none (h : chkN (n : Int) D A U 8192 = 0) (h1 : waitN M A fe = 0) : fetchR M (n : Int) D A U true fe al = .non 0 := by simp [fetchR, h, h1]
theorem fetch_jump (h : chkN (n : Int) D A U 8192 = 0) (h1 : waitN M A fe ≠ 0) (h2 : n < waitN M A fe) : fetchR M (n : Int) D A U true fe al = .non 156 := by simp [fetchR, h, h1, h2]
theorem fetch_got (h : chkN (n : Int) D A U 8192 = 0) (h1 : waitN M A fe ≠ 0) (h2 : ¬ n < waitN M A fe) : fetchR M (n : Int) D A U true fe al = .got (headN M n A fe) (walkR M D n (headN M n A fe : Nat) al) := by simp [fetchR, h, h1, h2]
end
/-- one more, modulo 65536 -/
def upN (m : Nat) : Nat := (m + 1) % 65536
theorem up_le (m : Nat) : upN m ≤ 65535 := by unfold upN; omega
/-- the memory behind a Return -/
def retM (M : Nat → Nat) (n U us h c : Nat) : Nat → Nat := over (over M (U + 4 + 8 * (us % n)) 8 (eB h c)) (U + 2) 2 (byteAt (upN us))
def askM (M : Nat → Nat) (n U fe : Nat) (ev : Bool) : Nat → Nat := if ev = true then over M (U + 4 + 8 * n) 2 (byteAt fe) else M
def tellB (M : Nat → Nat) (n A us fr : Nat) (ev : Bool) : Bool := if fr = us then false else if ev = true then pastB (wordN M (A + 4 + 2 * n) 2 8192) fr us else decide (wordN M A 2 8192 % 2 = 0)
/-- what a service comes to -/
structure Gv (σ : Type) where
  s : σ
  M : Nat → Nat
  fe : Nat
  us : Nat
  e : Int
def giveR {σ : Type} (dev : σ → (Nat → Nat) → Nat → Cn → Option (σ × (Nat → Nat) × Nat)) (s : Int) (D A U : Nat) (rd al : Bool) : Nat → σ → (Nat → Nat) → Nat → Nat → Gv σ
  | 0, t, M, fe, us => ⟨t, M, fe, us, 0⟩
  | k + 1, t, M, fe, us => match fetchR M s D A U rd fe al with
    | .non e => ⟨t, M, fe, us, e⟩
    | .got h c => if c.e ≠ 0 then ⟨t, M, upN fe, us, (c.e : Int)⟩ else match dev t M h c with
      | none => ⟨t, M, fe, us, 0⟩
      | some (t', M', cnt) => giveR dev s D A U rd al k t' (retM M' s.toNat U us h cnt) (upN fe) (upN us)
section
variable {σ : Type} {dev : σ → (Nat → Nat) → Nat → Cn → Option (σ × (Nat → Nat) × Nat)} {M : Nat → Nat} {s : Int} {D A U fe us k : Nat} {rd al : Bool} {t : σ}
theorem give_zero : giveR dev s D A U rd al 0 t M fe us = ⟨t, M, fe, us, 0⟩ := rfl
theorem give_non {e : Int} (h : fetchR M s D A U rd fe al = .non e) : giveR dev s D A U rd al (k + 1) t M fe us = ⟨t, M, fe, us, e⟩ := by simp [giveR, h]
theorem give_err {h : Nat} {c : Cn} (h1 : fetchR M s D A U rd fe al = .got h c) (h2 : c.e ≠ 0) : giveR dev s D A U rd al (k + 1) t M fe us = ⟨t, M, upN fe, us, (c.e : Int)⟩ := by simp [giveR, h1, h2]
theorem give_stay {h : Nat} {c : Cn} (h1 : fetchR M s D A U rd fe al = .got h c) (h2 : c.e = 0) (h3 : dev t M h c = none) : giveR dev s D A U rd al (k + 1) t M fe us = ⟨t, M, fe, us, 0⟩ := by simp [giveR, h1, h2, h3]
theorem give_more {h : Nat} {c : Cn} {t' : σ} {M' : Nat → Nat} {cnt : Nat} (h1 : fetchR M s D A U rd fe al = .got h c) (h2 : c.e = 0) (h3 : dev t M h c = some (t', M', cnt)) : giveR dev s D A U rd al (k + 1) t M fe us = giveR dev s D A U rd al k t' (retM M' s.toNat U us h cnt) (upN fe) (upN us) := by simp [giveR, h1, h2, h3]
end
/-- the device of the statements: it writes a byte to all that is to be written -/
def cntN (l : List Seg) : Nat := if 4000 < sizeN true l then 0 else sizeN true l
def fillM (b : Nat) (l : List Seg) (M : Nat → Nat) : Nat → Nat := if 4000 < sizeN true l then M else layS (fun _ => b) (scaL l 0 (sizeN true l)) 0 M
def devF (b : Nat) (room : Nat) (M : Nat → Nat) (h : Nat) (c : Cn) : Option (Nat × (Nat → Nat) × Nat) := if room = 0 then none else some (room - 1, fillM b c.l M, cntN c.l)
end Go.Proofs.YtmjdnocilbnoaaaGreat

/- The queue: is it ready, does it lie in a memory. -/
namespace Go.Proofs.YtmjdnocilbnoaaaGreat
open Go.RowKit Go.Maps
set_option linter.unusedVariables false
set_option linter.unusedSimpArgs false
set_option maxRecDepth 100000
/-- a block's cell set -/
theorem set_box {w : World} {b : Nat} {c : Array Value} {t : TypeId} {f : Nat × Nat} (h : w.heap[b]? = some (.cells c t f)) (i : Nat) (u : Value) : (w.setCell ⟨b, i, none⟩ u).heap[b]? = some (.cells (c.setIfInBounds i u) t f) := by
  simp only [World.setCell]
  rw [Array.getElem?_modify, if_pos rfl, h]
  simp
theorem step_set (w : World) (b i : Nat) (u : Value) : Step (fun k => k = b) w (fun k => k = b) (w.setCell ⟨b, i, none⟩ u) :=
  ⟨rfl, rfl, rfl, by simp [World.setCell], fun k _ hk => heap_setCell w b i u k hk, fun _ h => .inl h, fun _ h => h⟩
theorem ready_any {w : World} {qb : Nat} {s : Int} {D A U : Nat} {rd ev al : Bool} {fe us : Nat} (hq : w.heap[qb]? = some (.cells #[.int .i64 s, .int .u64 (D : Int), .int .u64 (A : Int), .int .u64 (U : Int), .bool rd, .int .u16 (fe : Int), .int .u16 (us : Int), .bool ev, .bool al] 40 (0, 0))) : Calls Tryz.prog 42 #[.pointer (some ⟨qb, 0, none⟩)] w fun e w' => e = .returned (.bool rd) ∧ w' = w := by
  obtain ⟨c0, c1, c2, c3, c4, c5, c6, c7, c8⟩ := box9_facts hq
  clear hq
  go_enter Tryz.func42, Tryz.ntmps42
  go_wp2_with fail
  go_ret
  exact ⟨rfl, rfl⟩
theorem lies_any {w : World} {F : Nat → Prop} {rb k : Nat} {M : Nat → Nat} (hr : RamAt w F rb 8192 k (.pointer none) M) {qb : Nat} {s : Int} {D A U : Nat} {rd ev al : Bool} {fe us : Nat} (hq : w.heap[qb]? = some (.cells #[.int .i64 s, .int .u64 (D : Int), .int .u64 (A : Int), .int .u64 (U : Int), .bool rd, .int .u16 (fe : Int), .int .u16 (us : Int), .bool ev, .bool al] 40 (0, 0))) (hD : D < 18446744073709551616) (hA : A < 18446744073709551616) (hU : U < 18446744073709551616) : Calls Tryz.prog 53 #[.pointer (some ⟨qb, 0, none⟩), .pointer (some ⟨rb, 0, none⟩)] w fun e w' => e = .returned (.bool (chkN s D A U 8192 == 0)) ∧ Below w.heap.size w w' := by
  obtain ⟨c0, c1, c2, c3, c4, c5, c6, c7, c8⟩ := box9_facts hq
  have HR : Hid (RamAt w F rb 8192 k (.pointer none) M ∧ D < 18446744073709551616 ∧ A < 18446744073709551616 ∧ U < 18446744073709551616) := ⟨hr, hD, hA, hU⟩
  clear hq hr hD hA hU
  go_enter Tryz.func53, Tryz.ntmps53
  go_wp2_with (go_at_call 43; refine (check_any HR.out.2.1 HR.out.2.2.1 HR.out.2.2.2 HR.out.1 (by omega)).mono ?_; rintro e w1 ⟨rfl, hb1⟩; have X1 : Hid (Below w.heap.size w w1) := hb1; clear hb1)
  go_ret
  exact ⟨rfl, X1.out⟩
theorem good_lies {n D A U : Nat} (hg : Gd n D A U) : (chkN (n : Int) D A U 8192 == 0) = true := by rw [hg.chk]; rfl
theorem gd_bounds {n D A U : Nat} (hg : Gd n D A U) : D < 18446744073709551616 ∧ A < 18446744073709551616 ∧ U < 18446744073709551616 := ⟨hg.d1, by have := hg.a2; omega, by have := hg.u2; omega⟩
theorem lies_good {w : World} {F : Nat → Prop} {rb k : Nat} {M : Nat → Nat} (hr : RamAt w F rb 8192 k (.pointer none) M) {qb : Nat} {n D A U : Nat} {rd ev al : Bool} {fe us : Nat} (hq : w.heap[qb]? = some (.cells #[.int .i64 (n : Int), .int .u64 (D : Int), .int .u64 (A : Int), .int .u64 (U : Int), .bool rd, .int .u16 (fe : Int), .int .u16 (us : Int), .bool ev, .bool al] 40 (0, 0))) (hg : Gd n D A U) : Calls Tryz.prog 53 #[.pointer (some ⟨qb, 0, none⟩), .pointer (some ⟨rb, 0, none⟩)] w fun e w' => e = .returned (.bool true) ∧ Below w.heap.size w w' := by
  have := lies_any hr hq (gd_bounds hg).1 (gd_bounds hg).2.1 (gd_bounds hg).2.2
  rw [good_lies hg] at this
  exact this
end Go.Proofs.YtmjdnocilbnoaaaGreat

/- The queue: Tells, Ask. -/
namespace Go.Proofs.YtmjdnocilbnoaaaGreat
open Go.RowKit Go.Maps
set_option linter.unusedVariables false
set_option linter.unusedSimpArgs false
set_option maxRecDepth 100000
theorem tells_bad {w : World} {F : Nat → Prop} {rb k : Nat} {M : Nat → Nat} (hr : RamAt w F rb 8192 k (.pointer none) M) {qb : Nat} {s : Int} {D A U : Nat} {rd ev al : Bool} {fe us : Nat} (hq : w.heap[qb]? = some (.cells #[.int .i64 s, .int .u64 (D : Int), .int .u64 (A : Int), .int .u64 (U : Int), .bool rd, .int .u16 (fe : Int), .int .u16 (us : Int), .bool ev, .bool al] 40 (0, 0))) (hD : D < 18446744073709551616) (hA : A < 18446744073709551616) (hU : U < 18446744073709551616) (hc : chkN s D A U 8192 ≠ 0) (fr : Nat) : Calls Tryz.prog 23 #[.pointer (some ⟨qb, 0, none⟩), .pointer (some ⟨rb, 0, none⟩), .int .u16 (fr : Int)] w fun e w' => e = .returned (.bool false) ∧ Below w.heap.size w w' := by
  have HL : Hid (Calls Tryz.prog 53 #[.pointer (some ⟨qb, 0, none⟩), .pointer (some ⟨rb, 0, none⟩)] w fun e w' => e = .returned (.bool (chkN s D A U 8192 == 0)) ∧ Below w.heap.size w w') := lies_any hr hq hD hA hU
  have hc2 : (chkN s D A U 8192 == 0) = false := by simpa using hc
  rw [hc2] at HL
  clear hq hr hD hA hU hc hc2
  go_enter Tryz.func23, Tryz.ntmps23
  go_wp2_with (go_at_call 53; refine (HL.out).mono ?_; rintro e w1 ⟨rfl, hb1⟩; have X1 : Hid (Below w.heap.size w w1) := hb1; clear hb1)
  go_ret
  exact ⟨rfl, X1.out⟩
theorem tells_any {w : World} {F : Nat → Prop} {rb k : Nat} {M : Nat → Nat} (hr : RamAt w F rb 8192 k (.pointer none) M) {qb : Nat} {n D A U : Nat} {rd ev al : Bool} {fe us : Nat} (hq : w.heap[qb]? = some (.cells #[.int .i64 (n : Int), .int .u64 (D : Int), .int .u64 (A : Int), .int .u64 (U : Int), .bool rd, .int .u16 (fe : Int), .int .u16 (us : Int), .bool ev, .bool al] 40 (0, 0))) (hg : Gd n D A U) (fr : Nat) (hfr : fr ≤ 65535) (hus : us ≤ 65535) : Calls Tryz.prog 23 #[.pointer (some ⟨qb, 0, none⟩), .pointer (some ⟨rb, 0, none⟩), .int .u16 (fr : Int)] w fun e w' => e = .returned (.bool (tellB M n A us fr ev)) ∧ Below w.heap.size w w' := by
  have HL : Hid (Calls Tryz.prog 53 #[.pointer (some ⟨qb, 0, none⟩), .pointer (some ⟨rb, 0, none⟩)] w fun e w' => e = .returned (.bool true) ∧ Below w.heap.size w w') := lies_good hr hq hg
  have HR : Hid (RamAt w F rb 8192 k (.pointer none) M ∧ w.heap[qb]? = some (.cells #[.int .i64 (n : Int), .int .u64 (D : Int), .int .u64 (A : Int), .int .u64 (U : Int), .bool rd, .int .u16 (fe : Int), .int .u16 (us : Int), .bool ev, .bool al] 40 (0, 0)) ∧ Gd n D A U ∧ fr ≤ 65535 ∧ us ≤ 65535) := ⟨hr, hq, hg, hfr, hus⟩
  obtain ⟨r, hrr⟩ : ∃ r, tellB M n A us fr ev = r := ⟨_, rfl⟩
  rw [hrr]
  by_cases h1 : fr = us
  · have e1 : ((fr : Int) == (us : Int)) = true := by simp; omega
    have e2 : r = false := by rw [← hrr]; simp [tellB, h1]
    subst e2
    clear hq hr hg hfr hus hrr h1
    go_enter Tryz.func23, Tryz.ntmps23
    go_wp2_with (go_at_call 53; refine (HL.out).mono ?_; rintro e w1 ⟨rfl, hb1⟩; have X1 : Hid (w1.heap[qb]? = some (.cells #[.int .i64 (n : Int), .int .u64 (D : Int), .int .u64 (A : Int), .int .u64 (U : Int), .bool rd, .int .u16 (fe : Int), .int .u16 (us : Int), .bool ev, .bool al] 40 (0, 0)) ∧ Below w.heap.size w w1) := ⟨below_box HR.out.2.1 hb1, hb1⟩; clear hb1; obtain ⟨c0, c1, c2, c3, c4, c5, c6, c7, c8⟩ := box9_facts X1.out.1)
    go_ret
    exact ⟨rfl, X1.out.2⟩
  have e1 : ((fr : Int) == (us : Int)) = false := by simp; omega
  have HM : Hid (∀ a, M a ≤ 255) := hr.le
  cases ev with
  | true =>
    have HT0 : pastB (wordN M (A + 4 + 2 * n) 2 8192) fr us = r := by rw [← hrr]; simp [tellB, h1]
    have HT : Hid (pastB (wordN M (A + 4 + 2 * n) 2 8192) fr us = r) := HT0
    clear HT0
    clear hq hr hg hfr hus hrr h1
    go_enter Tryz.func23, Tryz.ntmps23
    go_upto_region 4 with (go_at_call 53; refine (HL.out).mono ?_; rintro e w1 ⟨rfl, hb1⟩; have X1 : Hid (RamAt w1 F rb 8192 k (.pointer none) M ∧ w1.heap[qb]? = some (.cells #[.int .i64 (n : Int), .int .u64 (D : Int), .int .u64 (A : Int), .int .u64 (U : Int), .bool rd, .int .u16 (fe : Int), .int .u16 (us : Int), .bool true, .bool al] 40 (0, 0)) ∧ Below w.heap.size w w1) := ⟨HR.out.1.below hb1, below_box HR.out.2.1 hb1, hb1⟩; clear hb1; obtain ⟨c0, c1, c2, c3, c4, c5, c6, c7, c8⟩ := box9_facts X1.out.2.1)
    have X2 : Hid (RamAt w1.drew F rb 8192 k (.pointer none) M ∧ w1.drew.heap[qb]? = some (.cells #[.int .i64 (n : Int), .int .u64 (D : Int), .int .u64 (A : Int), .int .u64 (U : Int), .bool rd, .int .u16 (fe : Int), .int .u16 (us : Int), .bool true, .bool al] 40 (0, 0)) ∧ Below w.heap.size w w1.drew) := ⟨X1.out.1.below (Below.drew (Below.refl _ _)), X1.out.2.1, X1.out.2.2.drew⟩
    go_region_held3 (fun Z => Z.cell? ⟨qb, 0, none⟩ = some (.int .i64 (n : Int)) ∧ Z.cell? ⟨qb, 1, none⟩ = some (.int .u64 (D : Int)) ∧ Z.cell? ⟨qb, 2, none⟩ = some (.int .u64 (A : Int)) ∧ Z.cell? ⟨qb, 3, none⟩ = some (.int .u64 (U : Int)) ∧ Z.cell? ⟨qb, 4, none⟩ = some (.bool rd) ∧ Z.cell? ⟨qb, 5, none⟩ = some (.int .u16 (fe : Int)) ∧ Z.cell? ⟨qb, 6, none⟩ = some (.int .u16 (us : Int)) ∧ Z.cell? ⟨qb, 7, none⟩ = some (.bool true) ∧ Z.cell? ⟨qb, 8, none⟩ = some (.bool al)) (go_keep) (first | (go_at_call 59; refine (wanted_any X2.out.1 HR.out.2.2.1).mono ?_; rintro e w2 ⟨rfl, hb2⟩; have X3 : Hid (w2.heap[qb]? = some (.cells #[.int .i64 (n : Int), .int .u64 (D : Int), .int .u64 (A : Int), .int .u64 (U : Int), .bool rd, .int .u16 (fe : Int), .int .u16 (us : Int), .bool true, .bool al] 40 (0, 0)) ∧ Below w.heap.size w w2) := ⟨below_box X2.out.2.1 hb2, below_to X2.out.2.2 hb2⟩; clear hb2; obtain ⟨d0, d1, d2, d3, d4, d5, d6, d7, d8⟩ := box9_facts X3.out.1) | (go_at_call 58; refine (passed_any _ _ _ (rd_lt HM.out _) HR.out.2.2.2.1 HR.out.2.2.2.2 _).mono ?_; rintro e w3 ⟨rfl, rfl⟩; rw [HT.out]))
    go_wp2_with fail
    go_ret
    exact ⟨rfl, X3.out.2⟩
  | false =>
    obtain ⟨f, hf⟩ : ∃ f, wordN M A 2 8192 = f := ⟨_, rfl⟩
    have hf2 : f ≤ 65535 := by rw [← hf]; exact rd_lt HM.out _
    have e2 : bits .and .u16 (f : Int) 1 = ((f % 2 : Nat) : Int) := by
      have : bits .and .u16 ((f : Nat) : Int) ((1 : Nat) : Int) = ((f &&& 1 : Nat) : Int) := u16_and_nat f 1 (by omega) (by omega)
      rw [Nat.and_one_is_mod] at this
      exact this
    have e3 : (((f % 2 : Nat) : Int) == 0) = r := by
      rw [← hrr]; unfold tellB; rw [if_neg h1, if_neg (by decide), hf]
      rcases Nat.mod_two_eq_zero_or_one f with h | h <;> rw [h] <;> rfl
    obtain ⟨p, hp⟩ : ∃ p, f % 2 = p := ⟨_, rfl⟩
    rw [hp] at e2 e3
    have HF : Hid (wordN M A 2 8192 = f) := hf
    clear hq hr hg hfr hus hrr h1 hf hp
    go_enter Tryz.func23, Tryz.ntmps23
    go_wp2_with (first | (go_at_call 53; refine (HL.out).mono ?_; rintro e w1 ⟨rfl, hb1⟩; have X1 : Hid (RamAt w1 F rb 8192 k (.pointer none) M ∧ w1.heap[qb]? = some (.cells #[.int .i64 (n : Int), .int .u64 (D : Int), .int .u64 (A : Int), .int .u64 (U : Int), .bool rd, .int .u16 (fe : Int), .int .u16 (us : Int), .bool false, .bool al] 40 (0, 0)) ∧ Below w.heap.size w w1) := ⟨HR.out.1.below hb1, below_box HR.out.2.1 hb1, hb1⟩; clear hb1; obtain ⟨c0, c1, c2, c3, c4, c5, c6, c7, c8⟩ := box9_facts X1.out.2.1) | (go_at_call 60; refine (flags_any X1.out.1 HR.out.2.2.1).mono ?_; rintro e w2 ⟨rfl, hb2⟩; rw [HF.out]; have X3 : Hid (Below w.heap.size w w2) := below_to X1.out.2.2 hb2; clear hb2))
    go_ret
    exact ⟨rfl, X3.out⟩
theorem ask_any {w : World} {F : Nat → Prop} {rb k : Nat} {M : Nat → Nat} (hr : RamAt w F rb 8192 k (.pointer none) M) {qb : Nat} {n D A U : Nat} {rd ev al : Bool} {fe us : Nat} (hq : w.heap[qb]? = some (.cells #[.int .i64 (n : Int), .int .u64 (D : Int), .int .u64 (A : Int), .int .u64 (U : Int), .bool rd, .int .u16 (fe : Int), .int .u16 (us : Int), .bool ev, .bool al] 40 (0, 0))) (hg : Gd n D A U) (hF : ¬ F qb) (hfe : fe ≤ 65535) (hk : k + 2 ≤ 1000000) : Calls Tryz.prog 25 #[.pointer (some ⟨qb, 0, none⟩), .pointer (some ⟨rb, 0, none⟩)] w fun e w' => e = .returned (.tuple #[]) ∧ ∃ F', RamAt w' F' rb 8192 (k + 2) (.pointer none) (askM M n U fe ev) ∧ Step F w F' w' := by
  have HL : Hid (Calls Tryz.prog 53 #[.pointer (some ⟨qb, 0, none⟩), .pointer (some ⟨rb, 0, none⟩)] w fun e w' => e = .returned (.bool true) ∧ Below w.heap.size w w') := lies_good hr hq hg
  have HR : Hid (RamAt w F rb 8192 k (.pointer none) M ∧ w.heap[qb]? = some (.cells #[.int .i64 (n : Int), .int .u64 (D : Int), .int .u64 (A : Int), .int .u64 (U : Int), .bool rd, .int .u16 (fe : Int), .int .u16 (us : Int), .bool ev, .bool al] 40 (0, 0)) ∧ Gd n D A U ∧ fe ≤ 65535 ∧ k + 2 ≤ 1000000 ∧ ¬ F qb) := ⟨hr, hq, hg, hfe, hk, hF⟩
  clear hq hr hg hfe hk hF
  cases ev with
  | true =>
    go_enter Tryz.func25, Tryz.ntmps25
    go_upto_region 1 with (go_at_call 53; refine (HL.out).mono ?_; rintro e w1 ⟨rfl, hb1⟩; have X1 : Hid (RamAt w1 F rb 8192 k (.pointer none) M ∧ w1.heap[qb]? = some (.cells #[.int .i64 (n : Int), .int .u64 (D : Int), .int .u64 (A : Int), .int .u64 (U : Int), .bool rd, .int .u16 (fe : Int), .int .u16 (us : Int), .bool true, .bool al] 40 (0, 0)) ∧ Below w.heap.size w w1) := ⟨HR.out.1.below hb1, below_box HR.out.2.1 hb1, hb1⟩; clear hb1; obtain ⟨c0, c1, c2, c3, c4, c5, c6, c7, c8⟩ := box9_facts X1.out.2.1)
    have X2 : Hid (RamAt w1.drew F rb 8192 k (.pointer none) M ∧ w1.drew.heap[qb]? = some (.cells #[.int .i64 (n : Int), .int .u64 (D : Int), .int .u64 (A : Int), .int .u64 (U : Int), .bool rd, .int .u16 (fe : Int), .int .u16 (us : Int), .bool true, .bool al] 40 (0, 0)) ∧ Below w.heap.size w w1.drew) := ⟨X1.out.1.below (Below.drew (Below.refl _ _)), X1.out.2.1, X1.out.2.2.drew⟩
    go_region_held3 (fun Z => Z.cell? ⟨qb, 0, none⟩ = some (.int .i64 (n : Int)) ∧ Z.cell? ⟨qb, 1, none⟩ = some (.int .u64 (D : Int)) ∧ Z.cell? ⟨qb, 2, none⟩ = some (.int .u64 (A : Int)) ∧ Z.cell? ⟨qb, 3, none⟩ = some (.int .u64 (U : Int)) ∧ Z.cell? ⟨qb, 4, none⟩ = some (.bool rd) ∧ Z.cell? ⟨qb, 5, none⟩ = some (.int .u16 (fe : Int)) ∧ Z.cell? ⟨qb, 6, none⟩ = some (.int .u16 (us : Int)) ∧ Z.cell? ⟨qb, 7, none⟩ = some (.bool true) ∧ Z.cell? ⟨qb, 8, none⟩ = some (.bool al)) (go_keep) (first | (go_at_call 64; refine (want_any X2.out.1 HR.out.2.2.1 fe HR.out.2.2.2.1 HR.out.2.2.2.2.1).mono ?_; rintro e w2 ⟨rfl, F2, hr2, hs2⟩; have X3 : Hid (RamAt w2 F2 rb 8192 (k + 2) (.pointer none) (over M (U + 4 + 8 * n) 2 (byteAt fe)) ∧ Step F w F2 w2 ∧ w2.heap[qb]? = some (.cells #[.int .i64 (n : Int), .int .u64 (D : Int), .int .u64 (A : Int), .int .u64 (U : Int), .bool rd, .int .u16 (fe : Int), .int .u16 (us : Int), .bool true, .bool al] 40 (0, 0))) := ⟨hr2, (Step.of_below X2.out.2.2).trans hs2, step_box hs2 X2.out.2.1 HR.out.2.2.2.2.2⟩; clear hr2 hs2; obtain ⟨d0, d1, d2, d3, d4, d5, d6, d7, d8⟩ := box9_facts X3.out.2.2))
    go_wp2_with fail
    first | go_end0 | skip
    all_goals exact ⟨rfl, F2, X3.out.1, X3.out.2.1⟩
  | false =>
    go_enter Tryz.func25, Tryz.ntmps25
    go_wp2_with (go_at_call 53; refine (HL.out).mono ?_; rintro e w1 ⟨rfl, hb1⟩; have X1 : Hid (RamAt w1 F rb 8192 k (.pointer none) M ∧ w1.heap[qb]? = some (.cells #[.int .i64 (n : Int), .int .u64 (D : Int), .int .u64 (A : Int), .int .u64 (U : Int), .bool rd, .int .u16 (fe : Int), .int .u16 (us : Int), .bool false, .bool al] 40 (0, 0)) ∧ Below w.heap.size w w1) := ⟨HR.out.1.below hb1, below_box HR.out.2.1 hb1, hb1⟩; clear hb1; obtain ⟨c0, c1, c2, c3, c4, c5, c6, c7, c8⟩ := box9_facts X1.out.2.1)
    first | go_end0 | skip
    all_goals exact ⟨rfl, F, X1.out.1.mono (by omega), Step.of_below X1.out.2.2⟩
end Go.Proofs.YtmjdnocilbnoaaaGreat

/- The queue: Return. -/
namespace Go.Proofs.YtmjdnocilbnoaaaGreat
open Go.RowKit Go.Maps
set_option linter.unusedVariables false
set_option linter.unusedSimpArgs false
set_option maxRecDepth 100000
theorem step_or {F G F' : Nat → Prop} {w w' : World} (h : Step F w F' w') (hG : ∀ k, G k → k < w.heap.size) : Step (fun k => F k ∨ G k) w (fun k => F' k ∨ G k) w' :=
  ⟨h.os, h.tape, h.output, h.size, fun k hk hn => h.block k hk (fun hf => hn (.inl hf)), fun k hk => by
    rcases hk with hk | hk
    · exact (h.old k hk).imp .inl id
    · exact .inl (.inr hk), fun k hk => hk.imp (h.keep k) id⟩
theorem step_orR {F G G' : Nat → Prop} {w w' : World} (h : Step G w G' w') : Step (fun k => F k ∨ G k) w (fun k => F k ∨ G' k) w' :=
  ⟨h.os, h.tape, h.output, h.size, fun k hk hn => h.block k hk (fun hf => hn (.inr hf)), fun k hk => by
    rcases hk with hk | hk
    · exact .inl (.inl hk)
    · exact (h.old k hk).imp .inr id, fun k hk => hk.imp id (h.keep k)⟩
/-- a queue's block beside a memory's -/
theorem step_q {F F' : Nat → Prop} {w w' : World} {qb : Nat} (h : Step F w F' w') (hq : qb < w.heap.size) : Step (fun k => F k ∨ k = qb) w (fun k => F' k ∨ k = qb) w' := step_or h (fun k hk => by omega)
theorem not_later {F F' : Nat → Prop} {w w' : World} {q : Nat} (h : Step F w F' w') (hq : q < w.heap.size) (hn : ¬ F q) : ¬ F' q := fun hf => by
  rcases h.old q hf with h1 | h1
  · exact hn h1
  · omega
theorem up_wrap {m : Nat} (h : m ≤ 65535) : IntKind.u16.wrap ((m : Int) + 1) = (upN m : Int) := by
  unfold upN
  simp only [IntKind.wrap, IntKind.signed, IntKind.bits]
  simp
  try omega
set_option maxHeartbeats 2000000 in
theorem return_any {w : World} {F : Nat → Prop} {rb k : Nat} {M : Nat → Nat} (hr : RamAt w F rb 8192 k (.pointer none) M) {qb : Nat} {n D A U : Nat} {rd ev al : Bool} {fe us : Nat} (hq : w.heap[qb]? = some (.cells #[.int .i64 (n : Int), .int .u64 (D : Int), .int .u64 (A : Int), .int .u64 (U : Int), .bool rd, .int .u16 (fe : Int), .int .u16 (us : Int), .bool ev, .bool al] 40 (0, 0))) (hg : Gd n D A U) (hF : ¬ F qb) (hd cn : Nat) (hus : us ≤ 65535) (hhd : hd ≤ 65535) (hcn : cn ≤ 4294967295) (hk : k + 10 ≤ 1000000) : Calls Tryz.prog 21 #[.pointer (some ⟨qb, 0, none⟩), .pointer (some ⟨rb, 0, none⟩), .int .u16 (hd : Int), .int .u32 (cn : Int)] w fun e w' => e = .returned (.tuple #[]) ∧ w'.heap[qb]? = some (.cells #[.int .i64 (n : Int), .int .u64 (D : Int), .int .u64 (A : Int), .int .u64 (U : Int), .bool rd, .int .u16 (fe : Int), .int .u16 (upN us : Int), .bool ev, .bool al] 40 (0, 0)) ∧ ∃ F', RamAt w' F' rb 8192 (k + 10) (.pointer none) (retM M n U us hd cn) ∧ Step (fun k => F k ∨ k = qb) w (fun k => F' k ∨ k = qb) w' ∧ ¬ F' qb := by
  have HL : Hid (Calls Tryz.prog 53 #[.pointer (some ⟨qb, 0, none⟩), .pointer (some ⟨rb, 0, none⟩)] w fun e w' => e = .returned (.bool true) ∧ Below w.heap.size w w') := lies_good hr hq hg
  have HR : Hid (RamAt w F rb 8192 k (.pointer none) M ∧ w.heap[qb]? = some (.cells #[.int .i64 (n : Int), .int .u64 (D : Int), .int .u64 (A : Int), .int .u64 (U : Int), .bool rd, .int .u16 (fe : Int), .int .u16 (us : Int), .bool ev, .bool al] 40 (0, 0)) ∧ Gd n D A U ∧ us ≤ 65535 ∧ hd ≤ 65535 ∧ cn ≤ 4294967295 ∧ k + 10 ≤ 1000000 ∧ ¬ F qb) := ⟨hr, hq, hg, hus, hhd, hcn, hk, hF⟩
  have hup := up_wrap hus
  obtain ⟨u1, hu1⟩ : ∃ u1, upN us = u1 := ⟨_, rfl⟩
  have HU : Hid (upN us = u1 ∧ u1 ≤ 65535) := ⟨hu1, by rw [← hu1]; exact up_le us⟩
  rw [hu1] at hup ⊢
  clear hq hr hg hus hhd hcn hk hF hu1
  go_enter Tryz.func21, Tryz.ntmps21
  go_upto_region 1 with (go_at_call 53; refine (HL.out).mono ?_; rintro e w1 ⟨rfl, hb1⟩; have X1 : Hid (RamAt w1 F rb 8192 k (.pointer none) M ∧ w1.heap[qb]? = some (.cells #[.int .i64 (n : Int), .int .u64 (D : Int), .int .u64 (A : Int), .int .u64 (U : Int), .bool rd, .int .u16 (fe : Int), .int .u16 (us : Int), .bool ev, .bool al] 40 (0, 0)) ∧ Below w.heap.size w w1) := ⟨HR.out.1.below hb1, below_box HR.out.2.1 hb1, hb1⟩; clear hb1)
  obtain ⟨c0, c1, c2, c3, c4, c5, c6, c7, c8⟩ := box9_facts X1.out.2.1
  have X2 : Hid (RamAt w1.drew F rb 8192 k (.pointer none) M ∧ w1.drew.heap[qb]? = some (.cells #[.int .i64 (n : Int), .int .u64 (D : Int), .int .u64 (A : Int), .int .u64 (U : Int), .bool rd, .int .u16 (fe : Int), .int .u16 (us : Int), .bool ev, .bool al] 40 (0, 0)) ∧ Below w.heap.size w w1.drew) := ⟨X1.out.1.below (Below.drew (Below.refl _ _)), X1.out.2.1, X1.out.2.2.drew⟩
  clear X1 HL
  go_region_held3 (fun Z => Z.cell? ⟨qb, 0, none⟩ = some (.int .i64 (n : Int)) ∧ Z.cell? ⟨qb, 1, none⟩ = some (.int .u64 (D : Int)) ∧ Z.cell? ⟨qb, 2, none⟩ = some (.int .u64 (A : Int)) ∧ Z.cell? ⟨qb, 3, none⟩ = some (.int .u64 (U : Int)) ∧ Z.cell? ⟨qb, 4, none⟩ = some (.bool rd) ∧ Z.cell? ⟨qb, 5, none⟩ = some (.int .u16 (fe : Int)) ∧ Z.cell? ⟨qb, 6, none⟩ = some (.int .u16 (us : Int)) ∧ Z.cell? ⟨qb, 7, none⟩ = some (.bool ev) ∧ Z.cell? ⟨qb, 8, none⟩ = some (.bool al)) (go_keep) (first | (go_at_call 54; refine (put15_any X2.out.1 HR.out.2.2.1 us (us % n) hd cn HR.out.2.2.2.1 rfl HR.out.2.2.2.2.1 HR.out.2.2.2.2.2.1 (by have := HR.out.2.2.2.2.2.2.1; omega)).mono ?_; rintro e w2 ⟨rfl, F2, hr2, hs2⟩; have X3 : Hid (RamAt w2 F2 rb 8192 (k + 8) (.pointer none) (over M (U + 4 + 8 * (us % n)) 8 (eB hd cn)) ∧ w2.heap[qb]? = some (.cells #[.int .i64 (n : Int), .int .u64 (D : Int), .int .u64 (A : Int), .int .u64 (U : Int), .bool rd, .int .u16 (fe : Int), .int .u16 (us : Int), .bool ev, .bool al] 40 (0, 0)) ∧ ¬ F2 qb ∧ Step F w F2 w2) := ⟨hr2, step_box hs2 X2.out.2.1 HR.out.2.2.2.2.2.2.2, not_later hs2 (Array.getElem?_eq_some_iff.1 X2.out.2.1).1 HR.out.2.2.2.2.2.2.2, (Step.of_below X2.out.2.2).trans hs2⟩; clear hr2 hs2; obtain ⟨d0, d1, d2, d3, d4, d5, d6, d7, d8⟩ := box9_facts X3.out.2.1))
  clear X2 c0 c1 c2 c3 c4 c5 c6 c7 c8
  have c6f := frozenOf X3.out.2.1 6
  go_upto_region 3 with fail
  have X4 : Hid (RamAt (w2.setCell ⟨qb, 6, none⟩ (.int .u16 (u1 : Int))) F2 rb 8192 (k + 8) (.pointer none) (over M (U + 4 + 8 * (us % n)) 8 (eB hd cn)) ∧ (w2.setCell ⟨qb, 6, none⟩ (.int .u16 (u1 : Int))).heap[qb]? = some (.cells #[.int .i64 (n : Int), .int .u64 (D : Int), .int .u64 (A : Int), .int .u64 (U : Int), .bool rd, .int .u16 (fe : Int), .int .u16 (u1 : Int), .bool ev, .bool al] 40 (0, 0)) ∧ ¬ F2 qb ∧ Step (fun k => F k ∨ k = qb) w (fun k => F2 k ∨ k = qb) (w2.setCell ⟨qb, 6, none⟩ (.int .u16 (u1 : Int)))) := ⟨X3.out.1.setCell X3.out.2.2.1 6 _, set_box X3.out.2.1 6 _, X3.out.2.2.1, (step_q X3.out.2.2.2 (Array.getElem?_eq_some_iff.1 HR.out.2.1).1).trans (step_orR (step_set _ _ _ _))⟩
  clear X3 d0 d1 d2 d3 d4 d5 d6 d7 d8 c6f
  generalize w2.setCell ⟨qb, 6, none⟩ (.int .u16 (u1 : Int)) = w3 at *
  obtain ⟨c0, c1, c2, c3, c4, c5, c6, c7, c8⟩ := box9_facts X4.out.2.1
  have X5 : Hid (RamAt w3.drew F2 rb 8192 (k + 8) (.pointer none) (over M (U + 4 + 8 * (us % n)) 8 (eB hd cn)) ∧ w3.drew.heap[qb]? = some (.cells #[.int .i64 (n : Int), .int .u64 (D : Int), .int .u64 (A : Int), .int .u64 (U : Int), .bool rd, .int .u16 (fe : Int), .int .u16 (u1 : Int), .bool ev, .bool al] 40 (0, 0)) ∧ ¬ F2 qb ∧ Step (fun k => F k ∨ k = qb) w (fun k => F2 k ∨ k = qb) w3.drew) := ⟨X4.out.1.below (Below.drew (Below.refl _ _)), X4.out.2.1, X4.out.2.2.1, X4.out.2.2.2.trans (Step.of_below (Below.drew (Below.refl _ _)))⟩
  clear X4
  go_region_held3 (fun Z => Z.cell? ⟨qb, 0, none⟩ = some (.int .i64 (n : Int)) ∧ Z.cell? ⟨qb, 1, none⟩ = some (.int .u64 (D : Int)) ∧ Z.cell? ⟨qb, 2, none⟩ = some (.int .u64 (A : Int)) ∧ Z.cell? ⟨qb, 3, none⟩ = some (.int .u64 (U : Int)) ∧ Z.cell? ⟨qb, 4, none⟩ = some (.bool rd) ∧ Z.cell? ⟨qb, 5, none⟩ = some (.int .u16 (fe : Int)) ∧ Z.cell? ⟨qb, 6, none⟩ = some (.int .u16 (u1 : Int)) ∧ Z.cell? ⟨qb, 7, none⟩ = some (.bool ev) ∧ Z.cell? ⟨qb, 8, none⟩ = some (.bool al)) (go_keep) (first | (go_at_call 55; refine (publish_any X5.out.1 HR.out.2.2.1 u1 HU.out.2 (by have := HR.out.2.2.2.2.2.2.1; omega)).mono ?_; rintro e w4 ⟨rfl, F4, hr4, hs4⟩; have X6 : Hid (RamAt w4 F4 rb 8192 (k + 8 + 2) (.pointer none) (over (over M (U + 4 + 8 * (us % n)) 8 (eB hd cn)) (U + 2) 2 (byteAt u1)) ∧ w4.heap[qb]? = some (.cells #[.int .i64 (n : Int), .int .u64 (D : Int), .int .u64 (A : Int), .int .u64 (U : Int), .bool rd, .int .u16 (fe : Int), .int .u16 (u1 : Int), .bool ev, .bool al] 40 (0, 0)) ∧ Step (fun k => F k ∨ k = qb) w (fun k => F4 k ∨ k = qb) w4 ∧ ¬ F4 qb) := ⟨hr4, step_box hs4 X5.out.2.1 X5.out.2.2.1, X5.out.2.2.2.trans (step_q hs4 (Array.getElem?_eq_some_iff.1 X5.out.2.1).1), not_later hs4 (Array.getElem?_eq_some_iff.1 X5.out.2.1).1 X5.out.2.2.1⟩; clear hr4 hs4; obtain ⟨d0, d1, d2, d3, d4, d5, d6, d7, d8⟩ := box9_facts X6.out.2.1))
  go_wp2_with fail
  first | go_end0 | skip
  all_goals
    refine ⟨rfl, X6.out.2.1, F4, ?_, X6.out.2.2⟩
    unfold retM
    rw [HU.out.1]
    exact X6.out.1
end Go.Proofs.YtmjdnocilbnoaaaGreat

/- A memory that isn't watched. -/
namespace Go.Proofs.YtmjdnocilbnoaaaGreat
open Go.RowKit Go.Maps
set_option linter.unusedVariables false
set_option linter.unusedSimpArgs false
set_option maxRecDepth 100000
/-- a memory that isn't watched, all of its blocks as they were in w0 -/
def NilI (w0 : World) (G : Nat → Prop) (rb k : Nat) (M : Nat → Nat) (F : Nat → Prop) (w : World) : Prop := F = G ∧ RamAt w G rb 8192 k (.pointer none) M ∧ ∀ z, G z → w.heap[z]? = w0.heap[z]?
theorem NilI.below {w0 : World} {G : Nat → Prop} {rb k : Nat} {M : Nat → Nat} {F : Nat → Prop} {w w' : World} (h : NilI w0 G rb k M F w) (hb : Below w.heap.size w w') : NilI w0 G rb k M F w' := ⟨h.1, h.2.1.below hb, fun z hz => (hb.block z (h.2.1.lt z hz)).trans (h.2.2 z hz)⟩
theorem nil_mem (w0 : World) (G : Nat → Prop) (rb k : Nat) (M : Nat → Nat) : Wm rb M (NilI w0 G rb k M) :=
  ⟨fun F w h => ⟨G, k, _, h.2.1⟩, fun F w h => by rw [h.1]; exact h.2.1.lt, fun F w G2 G' w' h hs hd => by
    obtain ⟨rfl, h1, h2⟩ := h
    exact ⟨rfl, h1.step hs hd, fun z hz => (hs.block z (h1.lt z hz) (hd z hz)).trans (h2 z hz)⟩⟩
theorem nil_desc (w0 : World) (G : Nat → Prop) (rb k : Nat) (M : Nat → Nat) (t n : Nat) : DescOk rb M (NilI w0 G rb k M) t n := by
  intro F w i hi h
  cases hb : deB t i with
  | false =>
    rw [deN_no hb]
    by_cases h5 : i ≤ 255
    · have hin : inB (deX t i) 16 2147483648 8192 = false := by simpa [deB, h5] using hb
      exact (desc_out h.2.1 t (deX t i) i h5 rfl hin).mono fun e w' ⟨he, hw⟩ => ⟨he, F, h.below hw, Step.of_below hw⟩
    · exact (desc_no _ t (i : Int) (.inr (by omega)) w).mono fun e w' ⟨he, hw⟩ => ⟨he, F, h.below hw, Step.of_below hw⟩
  | true =>
    have h5 : i ≤ 255 := by simp only [deB, Bool.and_eq_true, decide_eq_true_iff] at hb; exact hb.1
    have hin : inB (deX t i) 16 2147483648 8192 = true := by simp only [deB, Bool.and_eq_true, decide_eq_true_iff] at hb; exact hb.2
    exact (desc_in h.2.1 t (deX t i) i h5 rfl hin _ _ _ _ (deN_at hb)).mono fun e w' ⟨he, hw⟩ => ⟨he, F, h.below hw, Step.of_below hw⟩
/-- Walk of a memory that isn't watched -/
theorem walk_nil {rb k : Nat} {M : Nat → Nat} {F : Nat → Prop} {w : World} (h : RamAt w F rb 8192 k (.pointer none) M) (n D A Uu : Nat) (hn : n ≤ 256) (hd : Int) (al : Bool) :
    Calls Tryz.prog 46 #[.pointer (some ⟨rb, 0, none⟩), .agg #[.int .i64 (n : Int), .int .u64 (D : Int), .int .u64 (A : Int), .int .u64 (Uu : Int)], .int .i64 hd, .bool al] w fun e w' => ∃ v, e = .returned (.tuple #[.agg #[v, .int .u64 ((walkR M D n hd al).ta : Int), .int .u64 ((walkR M D n hd al).tl : Int)], .int .i64 ((walkR M D n hd al).e : Int)]) ∧ SegIn w.heap.size w' v (walkR M D n hd al).l ∧ Below w.heap.size w w' := by
  refine (walk_any (F := F) (nil_mem w F rb k M) h.le n D A Uu hn hd al ⟨rfl, h, fun _ _ => rfl⟩ (nil_desc w F rb k M D n) (fun r _ _ _ _ => nil_desc w F rb k M _ _)).mono ?_
  rintro e w' ⟨v, he, F', ⟨rfl, hr, hk⟩, hs, hsg, hg⟩
  refine ⟨v, he, hsg, ⟨hs.os, hs.tape, hs.output, hs.size, fun z hz => ?_⟩⟩
  by_cases hf : F' z
  · exact hk z hf
  · exact hs.block z hz hf
end Go.Proofs.YtmjdnocilbnoaaaGreat

/- The queue: Fetch. -/
namespace Go.Proofs.YtmjdnocilbnoaaaGreat
open Go.RowKit Go.Maps
set_option linter.unusedVariables false
set_option linter.unusedSimpArgs false
set_option maxRecDepth 100000
theorem ram_q {F : Nat → Prop} {w w' : World} {rb size k qb : Nat} {lg : Value} {M : Nat → Nat} (h : RamAt w F rb size k lg M) (hs : Step (fun k => k = qb) w (fun k => k = qb) w') (hn : ¬ F qb) : RamAt w' F rb size k lg M := h.kept hs.size (fun z hz => hs.block z (h.lt z hz) (fun e => hn (e ▸ hz)))
theorem infoI : (Tryz.prog.info? 61).map (·.size) = some 4 := by kernel_rfl
theorem infoC : (Tryz.prog.info? 59).map (·.size) = some 3 := by kernel_rfl
/-- while Fetch runs: the item in its block c, the queue fetched so far -/
def Fx (w V : World) (F : Nat → Prop) (rb k : Nat) (M : Nat → Nat) (qb : Nat) (s : Int) (D A U : Nat) (rd : Bool) (fe us : Nat) (ev al : Bool) (c : Array Value) : Prop :=
  Step (fun k => k = qb) w (fun k => k = qb) V ∧ V.heap[w.heap.size]? = some (.cells c 61 (0, 0)) ∧ RamAt V F rb 8192 k (.pointer none) M ∧ V.heap[qb]? = some (.cells #[.int .i64 s, .int .u64 (D : Int), .int .u64 (A : Int), .int .u64 (U : Int), .bool rd, .int .u16 (fe : Int), .int .u16 (us : Int), .bool ev, .bool al] 40 (0, 0)) ∧ ¬ F qb ∧ qb < w.heap.size ∧ ∀ z, F z → z < w.heap.size
section
variable {w V V2 : World} {F : Nat → Prop} {rb k : Nat} {M : Nat → Nat} {qb : Nat} {s : Int} {D A U : Nat} {rd ev al : Bool} {fe us : Nat} {c : Array Value}
theorem Fx.below (h : Fx w V F rb k M qb s D A U rd fe us ev al c) (hb : Below V.heap.size V V2) : Fx w V2 F rb k M qb s D A U rd fe us ev al c := ⟨h.1.trans (Step.of_below hb), below_box h.2.1 hb, h.2.2.1.below hb, below_box h.2.2.2.1 hb, h.2.2.2.2⟩
theorem Fx.set (h : Fx w V F rb k M qb s D A U rd fe us ev al c) (c' : Array Value) : Fx w (V.setRow w.heap.size c') F rb k M qb s D A U rd fe us ev al c' := by
  obtain ⟨h1, h2, h3, h4, h5, h6, h7⟩ := h
  refine ⟨⟨h1.os, h1.tape, h1.output, by simpa [World.setRow] using h1.size, fun z hz hn => (setRow_other _ _ _ _ (by omega)).trans (h1.block z hz hn), h1.old, h1.keep⟩, setRow_heap _ _ _ _ _ _ h2, h3.kept (by simp [World.setRow]) (fun z hz => setRow_other _ _ _ _ (fun e => ?_)), (setRow_other _ _ _ _ (by omega)).trans h4, h5, h6, h7⟩
  subst e
  exact absurd (h7 _ hz) (by omega)
theorem Fx.other {p : Nat} (h : Fx w V F rb k M qb s D A U rd fe us ev al c) (hp : w.heap.size < p) (c' : Array Value) : Fx w (V.setRow p c') F rb k M qb s D A U rd fe us ev al c := by
  obtain ⟨h1, h2, h3, h4, h5, h6, h7⟩ := h
  exact ⟨⟨h1.os, h1.tape, h1.output, by simpa [World.setRow] using h1.size, fun z hz hn => (setRow_other _ _ _ _ (by omega)).trans (h1.block z hz hn), h1.old, h1.keep⟩, (setRow_other _ _ _ _ (by omega)).trans h2, h3.kept (by simp [World.setRow]) (fun z hz => setRow_other _ _ _ _ (by have := h7 z hz; omega)), (setRow_other _ _ _ _ (by omega)).trans h4, h5, h6, h7⟩
theorem Fx.one (h : Fx w V F rb k M qb s D A U rd fe us ev al c) (fe' : Nat) : Fx w (V.setCell ⟨qb, 5, none⟩ (.int .u16 (fe' : Int))) F rb k M qb s D A U rd fe' us ev al c :=
  ⟨h.1.trans (step_set _ _ _ _), (heap_setCell _ _ _ _ _ (by have := h.2.2.2.2.2.1; omega)).trans h.2.1, h.2.2.1.setCell h.2.2.2.2.1 _ _, set_box h.2.2.2.1 5 _, h.2.2.2.2⟩
end

theorem fetch_off {w : World} {F : Nat → Prop} {rb k : Nat} {M : Nat → Nat} (hr : RamAt w F rb 8192 k (.pointer none) M) {qb : Nat} {s : Int} {D A U : Nat} {ev al : Bool} {fe us : Nat} (hq : w.heap[qb]? = some (.cells #[.int .i64 s, .int .u64 (D : Int), .int .u64 (A : Int), .int .u64 (U : Int), .bool false, .int .u16 (fe : Int), .int .u16 (us : Int), .bool ev, .bool al] 40 (0, 0))) (hF : ¬ F qb) : Calls Tryz.prog 16 #[.pointer (some ⟨qb, 0, none⟩), .pointer (some ⟨rb, 0, none⟩)] w fun e w' => e = .returned (.tuple #[.agg #[.int .u16 0, .slice none 0 0, .int .u64 0, .int .u64 0], .bool false, .int .i64 0]) ∧ w'.heap[qb]? = some (.cells #[.int .i64 s, .int .u64 (D : Int), .int .u64 (A : Int), .int .u64 (U : Int), .bool false, .int .u16 (fe : Int), .int .u16 (us : Int), .bool ev, .bool al] 40 (0, 0)) ∧ Step (fun k => k = qb) w (fun k => k = qb) w' := by
  have XB : Hid (Fx w (w.alloc (.cells #[.int .u16 0, .slice none 0 0, .int .u64 0, .int .u64 0] 61)) F rb k M qb s D A U false fe us ev al #[.int .u16 0, .slice none 0 0, .int .u64 0, .int .u64 0]) := ⟨Step.of_below (one_box _ _), heap_alloc_new _ _, hr.below (one_box _ _), below_box hq (one_box _ _), hF, (Array.getElem?_eq_some_iff.1 hq).1, hr.lt⟩
  clear hq hr hF
  go_enter Tryz.func16, Tryz.ntmps16
  go_upto_region 1 with fail
  generalize w.alloc (.cells #[.int .u16 0, .slice none 0 0, .int .u64 0, .int .u64 0] 61) = v0 at *
  go_upto_region 2 with (go_at_call 42; refine (ready_any XB.out.2.2.2.1).mono ?_; rintro e w0 ⟨rfl, rfl⟩)
  refine wp_region_list ?_
  (refine wpList_step (fun KK hKK => ?_); go_simp; refine hKK _ _ ?_; clear hKK KK)
  refine wpList_store_row rfl 61 _ _ rfl w.heap.size #[.int .u16 0, .slice none 0 0, .int .u64 0, .int .u64 0] rfl rfl 61 #[.int .u16 0, .slice none 0 0, .int .u64 0, .int .u64 0] XB.out.2.1 infoI rfl (by simp [Value.oneCell']) ?_
  have Y : Hid (Fx w (w0.setRow w.heap.size #[.int .u16 0, .slice none 0 0, .int .u64 0, .int .u64 0]) F rb k M qb s D A U false fe us ev al #[.int .u16 0, .slice none 0 0, .int .u64 0, .int .u64 0]) := XB.out.set _
  clear XB
  generalize w0.setRow w.heap.size #[.int .u16 0, .slice none 0 0, .int .u64 0, .int .u64 0] = w9 at *
  obtain ⟨k0, k1, k2, k3⟩ := box4_facts Y.out.2.1
  go_wp2_with fail
  refine bodyPost_ret (v := .tuple #[.agg #[.int .u16 0, .slice none 0 0, .int .u64 0, .int .u64 0], .bool false, .int .i64 0]) (by simp [results, Tryz.results16, go_sem, k0, k1, k2, k3]) rfl ?_
  exact ⟨rfl, Y.out.2.2.2.1, Y.out.1⟩

theorem fetch_chk {w : World} {F : Nat → Prop} {rb k : Nat} {M : Nat → Nat} (hr : RamAt w F rb 8192 k (.pointer none) M) {qb : Nat} {s : Int} {D A U : Nat} {ev al : Bool} {fe us : Nat} (hq : w.heap[qb]? = some (.cells #[.int .i64 s, .int .u64 (D : Int), .int .u64 (A : Int), .int .u64 (U : Int), .bool true, .int .u16 (fe : Int), .int .u16 (us : Int), .bool ev, .bool al] 40 (0, 0))) (hF : ¬ F qb) (hD : D < 18446744073709551616) (hA : A < 18446744073709551616) (hU : U < 18446744073709551616) (hc : chkN s D A U 8192 ≠ 0) : Calls Tryz.prog 16 #[.pointer (some ⟨qb, 0, none⟩), .pointer (some ⟨rb, 0, none⟩)] w fun e w' => e = .returned (.tuple #[.agg #[.int .u16 0, .slice none 0 0, .int .u64 0, .int .u64 0], .bool false, .int .i64 (chkN s D A U 8192)]) ∧ w'.heap[qb]? = some (.cells #[.int .i64 s, .int .u64 (D : Int), .int .u64 (A : Int), .int .u64 (U : Int), .bool true, .int .u16 (fe : Int), .int .u16 (us : Int), .bool ev, .bool al] 40 (0, 0)) ∧ Step (fun k => k = qb) w (fun k => k = qb) w' := by
  have XB : Hid (Fx w (w.alloc (.cells #[.int .u16 0, .slice none 0 0, .int .u64 0, .int .u64 0] 61)) F rb k M qb s D A U true fe us ev al #[.int .u16 0, .slice none 0 0, .int .u64 0, .int .u64 0]) := ⟨Step.of_below (one_box _ _), heap_alloc_new _ _, hr.below (one_box _ _), below_box hq (one_box _ _), hF, (Array.getElem?_eq_some_iff.1 hq).1, hr.lt⟩
  have HC : Hid (D < 18446744073709551616 ∧ A < 18446744073709551616 ∧ U < 18446744073709551616 ∧ RamAt (w.alloc (.cells #[.int .u16 0, .slice none 0 0, .int .u64 0, .int .u64 0] 61)) F rb 8192 k (.pointer none) M) := ⟨hD, hA, hU, XB.out.2.2.1⟩
  obtain ⟨ce, hce⟩ : ∃ ce, chkN s D A U 8192 = ce := ⟨_, rfl⟩
  have HE : Hid (chkN s D A U 8192 = ce) := hce
  rw [hce] at hc ⊢
  have q1 : (ce != 0) = true := by simp [hc]
  clear hq hr hF hD hA hU hce hc
  go_enter Tryz.func16, Tryz.ntmps16
  go_upto_region 1 with fail
  generalize w.alloc (.cells #[.int .u16 0, .slice none 0 0, .int .u64 0, .int .u64 0] 61) = v0 at *
  obtain ⟨c0, c1, c2, c3, c4, c5, c6, c7, c8⟩ := box9_facts XB.out.2.2.2.1
  go_upto_region 5 with (first | (go_at_call 42; refine (ready_any XB.out.2.2.2.1).mono ?_; rintro e w0 ⟨rfl, rfl⟩) | (go_at_call 43; refine (check_any HC.out.1 HC.out.2.1 HC.out.2.2.1 HC.out.2.2.2 (by omega)).mono ?_; rintro e w1 ⟨rfl, hb1⟩; rw [HE.out]; have X1 : Hid (Fx w w1 F rb k M qb s D A U true fe us ev al #[.int .u16 0, .slice none 0 0, .int .u64 0, .int .u64 0]) := XB.out.below hb1; clear hb1))
  clear XB c0 c1 c2 c3 c4 c5 c6 c7 c8
  refine wp_region_list ?_
  (refine wpList_step (fun KK hKK => ?_); go_simp; refine hKK _ _ ?_; clear hKK KK)
  (refine wpList_step (fun KK hKK => ?_); go_simp; refine hKK _ _ ?_; clear hKK KK)
  refine wpList_store_row rfl 61 _ _ rfl w.heap.size #[.int .u16 0, .slice none 0 0, .int .u64 0, .int .u64 0] rfl rfl 61 #[.int .u16 0, .slice none 0 0, .int .u64 0, .int .u64 0] X1.out.2.1 infoI rfl (by simp [Value.oneCell']) ?_
  have Y : Hid (Fx w (w1.setRow w.heap.size #[.int .u16 0, .slice none 0 0, .int .u64 0, .int .u64 0]) F rb k M qb s D A U true fe us ev al #[.int .u16 0, .slice none 0 0, .int .u64 0, .int .u64 0]) := X1.out.set _
  clear X1
  generalize w1.setRow w.heap.size #[.int .u16 0, .slice none 0 0, .int .u64 0, .int .u64 0] = w9 at *
  obtain ⟨k0, k1, k2, k3⟩ := box4_facts Y.out.2.1
  go_wp2_with fail
  refine bodyPost_ret (v := .tuple #[.agg #[.int .u16 0, .slice none 0 0, .int .u64 0, .int .u64 0], .bool false, .int .i64 ce]) (by simp [results, Tryz.results16, go_sem, k0, k1, k2, k3]) rfl ?_
  exact ⟨rfl, Y.out.2.2.2.1, Y.out.1⟩
end Go.Proofs.YtmjdnocilbnoaaaGreat

/- The queue: Fetch of a layout that may be. -/
namespace Go.Proofs.YtmjdnocilbnoaaaGreat
open Go.RowKit Go.Maps
set_option linter.unusedVariables false
set_option linter.unusedSimpArgs false
set_option maxRecDepth 100000
theorem wait_wrap {of fe : Nat} (h1 : of ≤ 65535) (h2 : fe ≤ 65535) : IntKind.u16.wrap ((of : Int) - (fe : Int)) = (((of + 65536 - fe) % 65536 : Nat) : Int) := by
  simp only [IntKind.wrap, IntKind.signed, IntKind.bits]
  simp
  try omega
theorem fetch_wait {w : World} {F : Nat → Prop} {rb k : Nat} {M : Nat → Nat} (hr : RamAt w F rb 8192 k (.pointer none) M) {qb : Nat} {n D A U : Nat} {ev al : Bool} {fe us : Nat} (hq : w.heap[qb]? = some (.cells #[.int .i64 (n : Int), .int .u64 (D : Int), .int .u64 (A : Int), .int .u64 (U : Int), .bool true, .int .u16 (fe : Int), .int .u16 (us : Int), .bool ev, .bool al] 40 (0, 0))) (hg : Gd n D A U) (hF : ¬ F qb) (hfe : fe ≤ 65535) (hw : waitN M A fe = 0) : Calls Tryz.prog 16 #[.pointer (some ⟨qb, 0, none⟩), .pointer (some ⟨rb, 0, none⟩)] w fun e w' => e = .returned (.tuple #[.agg #[.int .u16 0, .slice none 0 0, .int .u64 0, .int .u64 0], .bool false, .int .i64 0]) ∧ w'.heap[qb]? = some (.cells #[.int .i64 (n : Int), .int .u64 (D : Int), .int .u64 (A : Int), .int .u64 (U : Int), .bool true, .int .u16 (fe : Int), .int .u16 (us : Int), .bool ev, .bool al] 40 (0, 0)) ∧ Step (fun k => k = qb) w (fun k => k = qb) w' := by
  have XB : Hid (Fx w (w.alloc (.cells #[.int .u16 0, .slice none 0 0, .int .u64 0, .int .u64 0] 61)) F rb k M qb (n : Int) D A U true fe us ev al #[.int .u16 0, .slice none 0 0, .int .u64 0, .int .u64 0]) := ⟨Step.of_below (one_box _ _), heap_alloc_new _ _, hr.below (one_box _ _), below_box hq (one_box _ _), hF, (Array.getElem?_eq_some_iff.1 hq).1, hr.lt⟩
  have HC : Hid (Gd n D A U ∧ fe ≤ 65535 ∧ ∀ a, M a ≤ 255) := ⟨hg, hfe, hr.le⟩
  obtain ⟨of, hof⟩ : ∃ of, wordN M (A + 2) 2 8192 = of := ⟨_, rfl⟩
  have HO : Hid (wordN M (A + 2) 2 8192 = of) := hof
  have hofl : of ≤ 65535 := by rw [← hof]; exact rd_lt hr.le _
  obtain ⟨wt, hwt⟩ : ∃ wt, waitN M A fe = wt := ⟨_, rfl⟩
  have ew : IntKind.u16.wrap ((of : Int) - (fe : Int)) = (wt : Int) := by rw [← hwt]; unfold waitN; rw [hof]; exact wait_wrap hofl hfe
  have ew2 : IntKind.i64.wrap (wt : Int) = (wt : Int) := wrapRl wt (by rw [← hwt]; unfold waitN; omega)
  have hw0 : wt = 0 := by rw [← hwt]; exact hw
  subst hw0
  have q1 : ((0 : Int) == 0) = true := rfl
  clear hq hr hF hfe hw hwt hof hofl hg ew2
  go_enter Tryz.func16, Tryz.ntmps16
  go_upto_region 1 with fail
  generalize w.alloc (.cells #[.int .u16 0, .slice none 0 0, .int .u64 0, .int .u64 0] 61) = v0 at *
  obtain ⟨c0, c1, c2, c3, c4, c5, c6, c7, c8⟩ := box9_facts XB.out.2.2.2.1
  go_upto_region 6 with (first | (go_at_call 42; refine (ready_any XB.out.2.2.2.1).mono ?_; rintro e w0 ⟨rfl, rfl⟩) | (go_at_call 43; refine (check_any HC.out.1.d1 (gd_bounds HC.out.1).2.1 (gd_bounds HC.out.1).2.2 XB.out.2.2.1 (by omega)).mono ?_; rintro e w1 ⟨rfl, hb1⟩; rw [HC.out.1.chk]; have X1 : Hid (Fx w w1 F rb k M qb (n : Int) D A U true fe us ev al #[.int .u16 0, .slice none 0 0, .int .u64 0, .int .u64 0]) := XB.out.below hb1; clear hb1))
  clear XB c0 c1 c2 c3 c4 c5 c6 c7 c8
  obtain ⟨c0, c1, c2, c3, c4, c5, c6, c7, c8⟩ := box9_facts X1.out.2.2.2.1
  have X2 : Hid (Fx w w1.drew F rb k M qb (n : Int) D A U true fe us ev al #[.int .u16 0, .slice none 0 0, .int .u64 0, .int .u64 0]) := X1.out.below (Below.drew (Below.refl _ _))
  go_region_held3 (fun Z => Z.cell? ⟨qb, 0, none⟩ = some (.int .i64 (n : Int)) ∧ Z.cell? ⟨qb, 1, none⟩ = some (.int .u64 (D : Int)) ∧ Z.cell? ⟨qb, 2, none⟩ = some (.int .u64 (A : Int)) ∧ Z.cell? ⟨qb, 3, none⟩ = some (.int .u64 (U : Int)) ∧ Z.cell? ⟨qb, 4, none⟩ = some (.bool true) ∧ Z.cell? ⟨qb, 5, none⟩ = some (.int .u16 (fe : Int)) ∧ Z.cell? ⟨qb, 6, none⟩ = some (.int .u16 (us : Int)) ∧ Z.cell? ⟨qb, 7, none⟩ = some (.bool ev) ∧ Z.cell? ⟨qb, 8, none⟩ = some (.bool al)) (go_keep) (first | (go_at_call 44; refine (offered_any X2.out.2.2.1 HC.out.1).mono ?_; rintro e w2 ⟨rfl, hb2⟩; rw [HO.out]; have X3 : Hid (Fx w w2 F rb k M qb (n : Int) D A U true fe us ev al #[.int .u16 0, .slice none 0 0, .int .u64 0, .int .u64 0]) := X2.out.below hb2; clear hb2; obtain ⟨d0, d1, d2, d3, d4, d5, d6, d7, d8⟩ := box9_facts X3.out.2.2.2.1))
  clear X1 X2 c0 c1 c2 c3 c4 c5 c6 c7 c8
  clear d0 d1 d2 d3 d4 d5 d6 d7 d8
  go_upto_region 8 with fail
  refine wp_region_list ?_
  (refine wpList_step (fun KK hKK => ?_); go_simp; refine hKK _ _ ?_; clear hKK KK)
  refine wpList_store_row rfl 61 _ _ rfl w.heap.size #[.int .u16 0, .slice none 0 0, .int .u64 0, .int .u64 0] rfl rfl 61 #[.int .u16 0, .slice none 0 0, .int .u64 0, .int .u64 0] X3.out.2.1 infoI rfl (by simp [Value.oneCell']) ?_
  have Y : Hid (Fx w (w2.setRow w.heap.size #[.int .u16 0, .slice none 0 0, .int .u64 0, .int .u64 0]) F rb k M qb (n : Int) D A U true fe us ev al #[.int .u16 0, .slice none 0 0, .int .u64 0, .int .u64 0]) := X3.out.set _
  clear X3
  generalize w2.setRow w.heap.size #[.int .u16 0, .slice none 0 0, .int .u64 0, .int .u64 0] = w9 at *
  obtain ⟨k0, k1, k2, k3⟩ := box4_facts Y.out.2.1
  go_wp2_with fail
  refine bodyPost_ret (v := .tuple #[.agg #[.int .u16 0, .slice none 0 0, .int .u64 0, .int .u64 0], .bool false, .int .i64 0]) (by simp [results, Tryz.results16, go_sem, k0, k1, k2, k3]) rfl ?_
  exact ⟨rfl, Y.out.2.2.2.1, Y.out.1⟩

theorem fetch_jmp {w : World} {F : Nat → Prop} {rb k : Nat} {M : Nat → Nat} (hr : RamAt w F rb 8192 k (.pointer none) M) {qb : Nat} {n D A U : Nat} {ev al : Bool} {fe us : Nat} (hq : w.heap[qb]? = some (.cells #[.int .i64 (n : Int), .int .u64 (D : Int), .int .u64 (A : Int), .int .u64 (U : Int), .bool true, .int .u16 (fe : Int), .int .u16 (us : Int), .bool ev, .bool al] 40 (0, 0))) (hg : Gd n D A U) (hF : ¬ F qb) (hfe : fe ≤ 65535) (hw : waitN M A fe ≠ 0) (hw2 : n < waitN M A fe) : Calls Tryz.prog 16 #[.pointer (some ⟨qb, 0, none⟩), .pointer (some ⟨rb, 0, none⟩)] w fun e w' => e = .returned (.tuple #[.agg #[.int .u16 0, .slice none 0 0, .int .u64 0, .int .u64 0], .bool false, .int .i64 156]) ∧ w'.heap[qb]? = some (.cells #[.int .i64 (n : Int), .int .u64 (D : Int), .int .u64 (A : Int), .int .u64 (U : Int), .bool true, .int .u16 (fe : Int), .int .u16 (us : Int), .bool ev, .bool al] 40 (0, 0)) ∧ Step (fun k => k = qb) w (fun k => k = qb) w' := by
  have XB : Hid (Fx w (w.alloc (.cells #[.int .u16 0, .slice none 0 0, .int .u64 0, .int .u64 0] 61)) F rb k M qb (n : Int) D A U true fe us ev al #[.int .u16 0, .slice none 0 0, .int .u64 0, .int .u64 0]) := ⟨Step.of_below (one_box _ _), heap_alloc_new _ _, hr.below (one_box _ _), below_box hq (one_box _ _), hF, (Array.getElem?_eq_some_iff.1 hq).1, hr.lt⟩
  have HC : Hid (Gd n D A U ∧ fe ≤ 65535 ∧ ∀ a, M a ≤ 255) := ⟨hg, hfe, hr.le⟩
  obtain ⟨of, hof⟩ : ∃ of, wordN M (A + 2) 2 8192 = of := ⟨_, rfl⟩
  have HO : Hid (wordN M (A + 2) 2 8192 = of) := hof
  have hofl : of ≤ 65535 := by rw [← hof]; exact rd_lt hr.le _
  obtain ⟨wt, hwt⟩ : ∃ wt, waitN M A fe = wt := ⟨_, rfl⟩
  have ew : IntKind.u16.wrap ((of : Int) - (fe : Int)) = (wt : Int) := by rw [← hwt]; unfold waitN; rw [hof]; exact wait_wrap hofl hfe
  have ew2 : IntKind.i64.wrap (wt : Int) = (wt : Int) := wrapRl wt (by rw [← hwt]; unfold waitN; omega)
  rw [hwt] at hw hw2
  have q1 : ((wt : Int) == 0) = false := by simp; omega
  have q2 : (n : Int) < (wt : Int) := by omega
  clear hq hr hF hfe hw hw2 hwt hof hofl hg
  go_enter Tryz.func16, Tryz.ntmps16
  go_upto_region 1 with fail
  generalize w.alloc (.cells #[.int .u16 0, .slice none 0 0, .int .u64 0, .int .u64 0] 61) = v0 at *
  obtain ⟨c0, c1, c2, c3, c4, c5, c6, c7, c8⟩ := box9_facts XB.out.2.2.2.1
  go_upto_region 6 with (first | (go_at_call 42; refine (ready_any XB.out.2.2.2.1).mono ?_; rintro e w0 ⟨rfl, rfl⟩) | (go_at_call 43; refine (check_any HC.out.1.d1 (gd_bounds HC.out.1).2.1 (gd_bounds HC.out.1).2.2 XB.out.2.2.1 (by omega)).mono ?_; rintro e w1 ⟨rfl, hb1⟩; rw [HC.out.1.chk]; have X1 : Hid (Fx w w1 F rb k M qb (n : Int) D A U true fe us ev al #[.int .u16 0, .slice none 0 0, .int .u64 0, .int .u64 0]) := XB.out.below hb1; clear hb1))
  clear XB c0 c1 c2 c3 c4 c5 c6 c7 c8
  obtain ⟨c0, c1, c2, c3, c4, c5, c6, c7, c8⟩ := box9_facts X1.out.2.2.2.1
  have X2 : Hid (Fx w w1.drew F rb k M qb (n : Int) D A U true fe us ev al #[.int .u16 0, .slice none 0 0, .int .u64 0, .int .u64 0]) := X1.out.below (Below.drew (Below.refl _ _))
  go_region_held3 (fun Z => Z.cell? ⟨qb, 0, none⟩ = some (.int .i64 (n : Int)) ∧ Z.cell? ⟨qb, 1, none⟩ = some (.int .u64 (D : Int)) ∧ Z.cell? ⟨qb, 2, none⟩ = some (.int .u64 (A : Int)) ∧ Z.cell? ⟨qb, 3, none⟩ = some (.int .u64 (U : Int)) ∧ Z.cell? ⟨qb, 4, none⟩ = some (.bool true) ∧ Z.cell? ⟨qb, 5, none⟩ = some (.int .u16 (fe : Int)) ∧ Z.cell? ⟨qb, 6, none⟩ = some (.int .u16 (us : Int)) ∧ Z.cell? ⟨qb, 7, none⟩ = some (.bool ev) ∧ Z.cell? ⟨qb, 8, none⟩ = some (.bool al)) (go_keep) (first | (go_at_call 44; refine (offered_any X2.out.2.2.1 HC.out.1).mono ?_; rintro e w2 ⟨rfl, hb2⟩; rw [HO.out]; have X3 : Hid (Fx w w2 F rb k M qb (n : Int) D A U true fe us ev al #[.int .u16 0, .slice none 0 0, .int .u64 0, .int .u64 0]) := X2.out.below hb2; clear hb2; obtain ⟨d0, d1, d2, d3, d4, d5, d6, d7, d8⟩ := box9_facts X3.out.2.2.2.1))
  clear X1 X2 c0 c1 c2 c3 c4 c5 c6 c7 c8
  go_upto_region 10 with fail
  clear d0 d1 d2 d3 d4 d5 d6 d7 d8
  refine wp_region_list ?_
  (refine wpList_step (fun KK hKK => ?_); go_simp; refine hKK _ _ ?_; clear hKK KK)
  refine wpList_store_row rfl 61 _ _ rfl w.heap.size #[.int .u16 0, .slice none 0 0, .int .u64 0, .int .u64 0] rfl rfl 61 #[.int .u16 0, .slice none 0 0, .int .u64 0, .int .u64 0] X3.out.2.1 infoI rfl (by simp [Value.oneCell']) ?_
  have Y : Hid (Fx w (w2.setRow w.heap.size #[.int .u16 0, .slice none 0 0, .int .u64 0, .int .u64 0]) F rb k M qb (n : Int) D A U true fe us ev al #[.int .u16 0, .slice none 0 0, .int .u64 0, .int .u64 0]) := X3.out.set _
  clear X3
  generalize w2.setRow w.heap.size #[.int .u16 0, .slice none 0 0, .int .u64 0, .int .u64 0] = w9 at *
  obtain ⟨k0, k1, k2, k3⟩ := box4_facts Y.out.2.1
  go_wp2_with fail
  refine bodyPost_ret (v := .tuple #[.agg #[.int .u16 0, .slice none 0 0, .int .u64 0, .int .u64 0], .bool false, .int .i64 156]) (by simp [results, Tryz.results16, go_sem, k0, k1, k2, k3]) rfl ?_
  exact ⟨rfl, Y.out.2.2.2.1, Y.out.1⟩

theorem seg_base {B C : Nat} {w : World} {v : Value} {l : List Seg} (h : SegIn B w v l) (hc : C ≤ B) : SegIn C w v l := by
  refine ⟨h.1, ?_⟩
  rcases h.2 with hn | ⟨g, cap, cur, rfl, hb, rest⟩
  · exact .inl hn
  · exact .inr ⟨g, cap, cur, rfl, Nat.le_trans hc hb, rest⟩
/-- behind Walk: the chain, in a block of its own -/
def Fc (w V : World) (v : Value) (l : List Seg) : Prop := SegIn (w.heap.size + 1) V v l
theorem Fc.below {w V V2 : World} {v : Value} {l : List Seg} (h : Fc w V v l) (hb : Below V.heap.size V V2) : Fc w V2 v l := SegIn.kept h (fun g hg => hb.block g (SegIn.lt h g hg).2)
theorem Fc.set {w V : World} {v : Value} {l : List Seg} (h : Fc w V v l) (c : Array Value) : Fc w (V.setRow w.heap.size c) v l := SegIn.kept h (fun g hg => setRow_other _ _ _ _ (by have := (SegIn.lt h g hg).1; omega))
set_option maxHeartbeats 4000000 in
theorem fetch_one {w : World} {F : Nat → Prop} {rb k : Nat} {M : Nat → Nat} (hr : RamAt w F rb 8192 k (.pointer none) M) {qb : Nat} {n D A U : Nat} {ev al : Bool} {fe us : Nat} (hq : w.heap[qb]? = some (.cells #[.int .i64 (n : Int), .int .u64 (D : Int), .int .u64 (A : Int), .int .u64 (U : Int), .bool true, .int .u16 (fe : Int), .int .u16 (us : Int), .bool ev, .bool al] 40 (0, 0))) (hg : Gd n D A U) (hF : ¬ F qb) (hfe : fe ≤ 65535) (hw : waitN M A fe ≠ 0) (hw2 : ¬ n < waitN M A fe) (h : Nat) (c : Cn) (hh : headN M n A fe = h) (hc : walkR M D n (h : Nat) al = c) : Calls Tryz.prog 16 #[.pointer (some ⟨qb, 0, none⟩), .pointer (some ⟨rb, 0, none⟩)] w fun e w' => ∃ a1 c1, e = .returned (.tuple #[.agg #[.int .u16 (h : Int), .slice a1 c.l.length c1, .int .u64 (c.ta : Int), .int .u64 (c.tl : Int)], .bool ((c.e : Int) == 0), .int .i64 (c.e : Int)]) ∧ SegIn w.heap.size w' (.slice a1 c.l.length c1) c.l ∧ w'.heap[qb]? = some (.cells #[.int .i64 (n : Int), .int .u64 (D : Int), .int .u64 (A : Int), .int .u64 (U : Int), .bool true, .int .u16 (upN fe : Int), .int .u16 (us : Int), .bool ev, .bool al] 40 (0, 0)) ∧ Step (fun k => k = qb) w (fun k => k = qb) w' := by
  have XB : Hid (Fx w (w.alloc (.cells #[.int .u16 0, .slice none 0 0, .int .u64 0, .int .u64 0] 61)) F rb k M qb (n : Int) D A U true fe us ev al #[.int .u16 0, .slice none 0 0, .int .u64 0, .int .u64 0]) := ⟨Step.of_below (one_box _ _), heap_alloc_new _ _, hr.below (one_box _ _), below_box hq (one_box _ _), hF, (Array.getElem?_eq_some_iff.1 hq).1, hr.lt⟩
  have HC : Hid (Gd n D A U ∧ fe ≤ 65535 ∧ ∀ a, M a ≤ 255) := ⟨hg, hfe, hr.le⟩
  obtain ⟨of, hof⟩ : ∃ of, wordN M (A + 2) 2 8192 = of := ⟨_, rfl⟩
  have HO : Hid (wordN M (A + 2) 2 8192 = of) := hof
  have hofl : of ≤ 65535 := by rw [← hof]; exact rd_lt hr.le _
  obtain ⟨wt, hwt⟩ : ∃ wt, waitN M A fe = wt := ⟨_, rfl⟩
  have ew : IntKind.u16.wrap ((of : Int) - (fe : Int)) = (wt : Int) := by rw [← hwt]; unfold waitN; rw [hof]; exact wait_wrap hofl hfe
  have ew2 : IntKind.i64.wrap (wt : Int) = (wt : Int) := wrapRl wt (by rw [← hwt]; unfold waitN; omega)
  rw [hwt] at hw hw2
  have q1 : ((wt : Int) == 0) = false := by simp; omega
  have q2 : ¬ (n : Int) < (wt : Int) := by omega
  have hup := up_wrap hfe
  obtain ⟨f1, hf1⟩ : ∃ f1, upN fe = f1 := ⟨_, rfl⟩
  rw [hf1] at hup ⊢
  have HH : Hid (wordN M (A + 4 + 2 * (fe % n)) 2 8192 = h ∧ n ≤ 256 ∧ walkR M D n (h : Nat) al = c) := ⟨hh, hg.n2, hc⟩
  have hhl : h ≤ 65535 := by rw [← hh]; exact rd_lt hr.le _
  have eh : IntKind.i64.wrap (h : Int) = (h : Int) := wrapRl h (by omega)
  obtain ⟨cl, hcl⟩ : ∃ cl, c.l.length = cl := ⟨_, rfl⟩
  have HCL : Hid (c.l.length = cl) := hcl
  obtain ⟨ce, hce⟩ : ∃ ce, c.e = ce := ⟨_, rfl⟩
  obtain ⟨ta, hta⟩ : ∃ ta, c.ta = ta := ⟨_, rfl⟩
  obtain ⟨tl, htl⟩ : ∃ tl, c.tl = tl := ⟨_, rfl⟩
  have HCC : Hid (c.e = ce ∧ c.ta = ta ∧ c.tl = tl) := ⟨hce, hta, htl⟩
  rw [hcl, hce, hta, htl]
  clear hq hr hF hfe hw hw2 hwt hof hofl hg hf1 hh hc hcl hce hta htl hhl
  go_enter Tryz.func16, Tryz.ntmps16
  go_upto_region 1 with fail
  generalize w.alloc (.cells #[.int .u16 0, .slice none 0 0, .int .u64 0, .int .u64 0] 61) = v0 at *
  obtain ⟨c0, c1, c2, c3, c4, c5, c6, c7, c8⟩ := box9_facts XB.out.2.2.2.1
  go_upto_region 6 with (first | (go_at_call 42; refine (ready_any XB.out.2.2.2.1).mono ?_; rintro e w0 ⟨rfl, rfl⟩) | (go_at_call 43; refine (check_any HC.out.1.d1 (gd_bounds HC.out.1).2.1 (gd_bounds HC.out.1).2.2 XB.out.2.2.1 (by omega)).mono ?_; rintro e w1 ⟨rfl, hb1⟩; rw [HC.out.1.chk]; have X1 : Hid (Fx w w1 F rb k M qb (n : Int) D A U true fe us ev al #[.int .u16 0, .slice none 0 0, .int .u64 0, .int .u64 0]) := XB.out.below hb1; clear hb1))
  clear XB c0 c1 c2 c3 c4 c5 c6 c7 c8
  obtain ⟨c0, c1, c2, c3, c4, c5, c6, c7, c8⟩ := box9_facts X1.out.2.2.2.1
  have X2 : Hid (Fx w w1.drew F rb k M qb (n : Int) D A U true fe us ev al #[.int .u16 0, .slice none 0 0, .int .u64 0, .int .u64 0]) := X1.out.below (Below.drew (Below.refl _ _))
  go_region_held3 (fun Z => Z.cell? ⟨qb, 0, none⟩ = some (.int .i64 (n : Int)) ∧ Z.cell? ⟨qb, 1, none⟩ = some (.int .u64 (D : Int)) ∧ Z.cell? ⟨qb, 2, none⟩ = some (.int .u64 (A : Int)) ∧ Z.cell? ⟨qb, 3, none⟩ = some (.int .u64 (U : Int)) ∧ Z.cell? ⟨qb, 4, none⟩ = some (.bool true) ∧ Z.cell? ⟨qb, 5, none⟩ = some (.int .u16 (fe : Int)) ∧ Z.cell? ⟨qb, 6, none⟩ = some (.int .u16 (us : Int)) ∧ Z.cell? ⟨qb, 7, none⟩ = some (.bool ev) ∧ Z.cell? ⟨qb, 8, none⟩ = some (.bool al)) (go_keep) (first | (go_at_call 44; refine (offered_any X2.out.2.2.1 HC.out.1).mono ?_; rintro e w2 ⟨rfl, hb2⟩; rw [HO.out]; have X3 : Hid (Fx w w2 F rb k M qb (n : Int) D A U true fe us ev al #[.int .u16 0, .slice none 0 0, .int .u64 0, .int .u64 0]) := X2.out.below hb2; clear hb2; obtain ⟨d0, d1, d2, d3, d4, d5, d6, d7, d8⟩ := box9_facts X3.out.2.2.2.1))
  clear X1 X2 c0 c1 c2 c3 c4 c5 c6 c7 c8
  go_upto_region 11 with fail
  have X4 : Hid (Fx w w2.drew F rb k M qb (n : Int) D A U true fe us ev al #[.int .u16 0, .slice none 0 0, .int .u64 0, .int .u64 0]) := X3.out.below (Below.drew (Below.refl _ _))
  go_region_held3 (fun Z => Z.cell? ⟨qb, 0, none⟩ = some (.int .i64 (n : Int)) ∧ Z.cell? ⟨qb, 1, none⟩ = some (.int .u64 (D : Int)) ∧ Z.cell? ⟨qb, 2, none⟩ = some (.int .u64 (A : Int)) ∧ Z.cell? ⟨qb, 3, none⟩ = some (.int .u64 (U : Int)) ∧ Z.cell? ⟨qb, 4, none⟩ = some (.bool true) ∧ Z.cell? ⟨qb, 5, none⟩ = some (.int .u16 (fe : Int)) ∧ Z.cell? ⟨qb, 6, none⟩ = some (.int .u16 (us : Int)) ∧ Z.cell? ⟨qb, 7, none⟩ = some (.bool ev) ∧ Z.cell? ⟨qb, 8, none⟩ = some (.bool al)) (go_keep) (first | (go_at_call 45; refine (head_any X4.out.2.2.1 HC.out.1 fe (fe % n) HC.out.2.1 rfl).mono ?_; rintro e w3 ⟨rfl, hb3⟩; rw [HH.out.1]; have X5 : Hid (Fx w w3 F rb k M qb (n : Int) D A U true fe us ev al #[.int .u16 0, .slice none 0 0, .int .u64 0, .int .u64 0]) := X4.out.below hb3; clear hb3; obtain ⟨c0, c1, c2, c3, c4, c5, c6, c7, c8⟩ := box9_facts X5.out.2.2.2.1))
  clear X3 X4 d0 d1 d2 d3 d4 d5 d6 d7 d8
  have c5f := frozenOf X5.out.2.2.2.1 5
  go_upto_region 13 with fail
  have X6 : Hid (Fx w (w3.setCell ⟨qb, 5, none⟩ (.int .u16 (f1 : Int))) F rb k M qb (n : Int) D A U true f1 us ev al #[.int .u16 0, .slice none 0 0, .int .u64 0, .int .u64 0]) := X5.out.one f1
  clear X5 c0 c1 c2 c3 c4 c5 c6 c7 c8 c5f
  generalize w3.setCell ⟨qb, 5, none⟩ (.int .u16 (f1 : Int)) = w4 at *
  go_cut [10, 11] (fun x y wx => ∃ (p : Nat) (a1 : Option Addr) (c1 : Nat), x = .pointer (some ⟨p, 0, none⟩) ∧ y = .int .i64 (ce : Int) ∧ Fx w wx F rb k M qb (n : Int) D A U true f1 us ev al #[.int .u16 0, .slice none 0 0, .int .u64 0, .int .u64 0] ∧ wx.heap[p]? = some (.cells #[.slice a1 cl c1, .int .u64 (ta : Int), .int .u64 (tl : Int)] 59 (0, 0)) ∧ w.heap.size < p ∧ Fc w wx (.slice a1 cl c1) c.l)
  case first =>
    have Xd : Hid (Fx w w4.drew F rb k M qb (n : Int) D A U true f1 us ev al #[.int .u16 0, .slice none 0 0, .int .u64 0, .int .u64 0]) := X6.out.below (Below.drew (Below.refl _ _))
    have KW : Hid (∀ V, Fx w V F rb k M qb (n : Int) D A U true f1 us ev al #[.int .u16 0, .slice none 0 0, .int .u64 0, .int .u64 0] → Calls Tryz.prog 46 #[.pointer (some ⟨rb, 0, none⟩), .agg #[.int .i64 (n : Int), .int .u64 (D : Int), .int .u64 (A : Int), .int .u64 (U : Int)], .int .i64 (h : Int), .bool al] V fun e w' => ∃ a1 c1, e = .returned (.tuple #[.agg #[.slice a1 cl c1, .int .u64 (ta : Int), .int .u64 (tl : Int)], .int .i64 (ce : Int)]) ∧ Fc w w' (.slice a1 cl c1) c.l ∧ Below V.heap.size V w' ∧ ∀ g, (Value.slice a1 cl c1).ownBlock = some g → V.heap.size ≤ g) := by
      intro V hV
      have := walk_nil hV.2.2.1 n D A U HH.out.2.1 (h : Nat) al
      rw [HH.out.2.2, HCC.out.1, HCC.out.2.1, HCC.out.2.2] at this
      refine this.mono ?_
      rintro e w' ⟨v, he, hs, hb⟩
      obtain ⟨a1, c1, rfl⟩ := hs.form
      rw [HCL.out] at he hs
      exact ⟨a1, c1, he, seg_base hs (Array.getElem?_eq_some_iff.1 hV.2.1).1, hb, fun g hg => (hs.lt g hg).1⟩
    clear X6
    refine wp_region_held_drew (S := fun V => V.cell? ⟨qb, 0, none⟩ = some (.int .i64 (n : Int)) ∧ V.cell? ⟨qb, 1, none⟩ = some (.int .u64 (D : Int)) ∧ V.cell? ⟨qb, 2, none⟩ = some (.int .u64 (A : Int)) ∧ V.cell? ⟨qb, 3, none⟩ = some (.int .u64 (U : Int)) ∧ V.cell? ⟨qb, 4, none⟩ = some (.bool true) ∧ V.cell? ⟨qb, 5, none⟩ = some (.int .u16 (f1 : Int)) ∧ V.cell? ⟨qb, 6, none⟩ = some (.int .u16 (us : Int)) ∧ V.cell? ⟨qb, 7, none⟩ = some (.bool ev) ∧ V.cell? ⟨qb, 8, none⟩ = some (.bool al)) (by kernel_rfl) (box9_facts Xd.out.2.2.2.1) ?_
    intro hS
    generalize w4.drew = wd at *
    refine wpAnyH_take (i := 0) (v := ?_) rfl (by kernel_rfl) (by kernel_rfl) (by kernel_rfl) (fun _ _ _ h => h) (Or.inl ⟨by kernel_rfl, ?_⟩) hS ?_
    rotate_left
    · intro w hSw; (try dsimp only at hSw); go_simp; try (with_reducible rfl)
    (try simp only [Act.put, List.getElem_toArray, List.getElem_cons_succ, List.getElem_cons_zero, List.setIfInBounds_toArray, List.set_cons_zero, List.set_cons_succ])
    refine wpAnyH_take (i := 1) (v := ?_) rfl (by kernel_rfl) (by kernel_rfl) (by kernel_rfl) (fun _ _ _ h => h) (Or.inl ⟨by kernel_rfl, ?_⟩) hS ?_
    rotate_left
    · intro w hSw; (try dsimp only at hSw); go_simp; try (with_reducible rfl)
    (try simp only [Act.put, List.getElem_toArray, List.getElem_cons_succ, List.getElem_cons_zero, List.setIfInBounds_toArray, List.set_cons_zero, List.set_cons_succ])
    refine wpAnyH_take (i := 2) (v := ?_) rfl (by kernel_rfl) (by kernel_rfl) (by kernel_rfl) (fun _ _ _ h => h) (Or.inl ⟨by kernel_rfl, ?_⟩) hS ?_
    rotate_left
    · intro w hSw; (try dsimp only at hSw); go_simp; try (with_reducible rfl)
    (try simp only [Act.put, List.getElem_toArray, List.getElem_cons_succ, List.getElem_cons_zero, List.setIfInBounds_toArray, List.set_cons_zero, List.set_cons_succ])
    refine wpAnyH_take (i := 3) (v := ?_) rfl (by kernel_rfl) (by kernel_rfl) (by kernel_rfl) (fun _ _ _ h => h) (Or.inl ⟨by kernel_rfl, ?_⟩) hS ?_
    rotate_left
    · intro w hSw; (try dsimp only at hSw); go_simp; try (with_reducible rfl)
    (try simp only [Act.put, List.getElem_toArray, List.getElem_cons_succ, List.getElem_cons_zero, List.setIfInBounds_toArray, List.set_cons_zero, List.set_cons_succ])
    refine wpAnyH_take (i := 4) (v := ?_) rfl (by kernel_rfl) (by kernel_rfl) (by kernel_rfl) (fun _ _ _ h => h) (Or.inl ⟨by kernel_rfl, ?_⟩) hS ?_
    rotate_left
    · intro w hSw; (try dsimp only at hSw); go_simp; try (with_reducible rfl)
    (try simp only [Act.put, List.getElem_toArray, List.getElem_cons_succ, List.getElem_cons_zero, List.setIfInBounds_toArray, List.set_cons_zero, List.set_cons_succ])
    refine wpAnyH_take (i := 5) (v := ?_) rfl (by kernel_rfl) (by kernel_rfl) (by kernel_rfl) (fun _ _ _ h => h) (Or.inl ⟨by kernel_rfl, ?_⟩) hS ?_
    rotate_left
    · intro w hSw; (try dsimp only at hSw); go_simp; try (with_reducible rfl)
    (try simp only [Act.put, List.getElem_toArray, List.getElem_cons_succ, List.getElem_cons_zero, List.setIfInBounds_toArray, List.set_cons_zero, List.set_cons_succ])
    refine wpAnyH_take (i := 6) (v := ?_) rfl (by kernel_rfl) (by kernel_rfl) (by kernel_rfl) (fun _ _ _ h => h) (Or.inl ⟨by kernel_rfl, ?_⟩) hS ?_
    rotate_left
    · intro w hSw; (try dsimp only at hSw); go_simp; try (with_reducible rfl)
    (try simp only [Act.put, List.getElem_toArray, List.getElem_cons_succ, List.getElem_cons_zero, List.setIfInBounds_toArray, List.set_cons_zero, List.set_cons_succ])
    refine wpAnyH_take (i := 7) (v := ?_) rfl (by kernel_rfl) (by kernel_rfl) (by kernel_rfl) (fun _ _ _ h => h) (Or.inl ⟨by kernel_rfl, ?_⟩) hS ?_
    rotate_left
    · intro w hSw; (try dsimp only at hSw); go_simp; try (with_reducible rfl)
    (try simp only [Act.put, List.getElem_toArray, List.getElem_cons_succ, List.getElem_cons_zero, List.setIfInBounds_toArray, List.set_cons_zero, List.set_cons_succ])
    refine wpAnyH_take (i := 8) (v := ?_) rfl (by kernel_rfl) (by kernel_rfl) (by kernel_rfl) (fun _ _ _ h => h) (Or.inl ⟨by kernel_rfl, ?_⟩) hS ?_
    rotate_left
    · intro w hSw; (try dsimp only at hSw); go_simp; try (with_reducible rfl)
    (try simp only [Act.put, List.getElem_toArray, List.getElem_cons_succ, List.getElem_cons_zero, List.setIfInBounds_toArray, List.set_cons_zero, List.set_cons_succ])
    refine wpAnyH_take (i := 9) (v := ?_) rfl (by kernel_rfl) (by kernel_rfl) (by kernel_rfl) (fun _ _ _ h => h) (Or.inl ⟨by kernel_rfl, ?_⟩) hS ?_
    rotate_left
    · intro w hSw; (try dsimp only at hSw); go_simp; try (with_reducible rfl)
    (try simp only [Act.put, List.getElem_toArray, List.getElem_cons_succ, List.getElem_cons_zero, List.setIfInBounds_toArray, List.set_cons_zero, List.set_cons_succ])
    refine wpAnyH_take (i := 10) (v := ?_) rfl (by kernel_rfl) (by kernel_rfl) (by kernel_rfl) (fun _ _ _ h => h) (Or.inl ⟨by kernel_rfl, ?_⟩) hS ?_
    rotate_left
    · intro w hSw; (try dsimp only at hSw); go_simp; try (with_reducible rfl)
    (try simp only [Act.put, List.getElem_toArray, List.getElem_cons_succ, List.getElem_cons_zero, List.setIfInBounds_toArray, List.set_cons_zero, List.set_cons_succ])
    refine wpAnyH_ready (rs := [11, 15]) (by kernel_rfl) (by simp) ?_
    refine AllReadyH.cons rfl (fun K1 hK1 => ?_) (AllReadyH.cons rfl (fun K1 hK1 => ?_) AllReadyH.nil)
    · go_simp
      refine (KW.out _ Xd.out).mono ?_
      rintro e w5 ⟨a1, c1, rfl, hs5, hb5, -⟩
      have X7 : Hid (Fx w w5 F rb k M qb (n : Int) D A U true f1 us ev al #[.int .u16 0, .slice none 0 0, .int .u64 0, .int .u64 0] ∧ Fc w w5 (.slice a1 cl c1) c.l) := ⟨Xd.out.below hb5, hs5⟩
      clear hs5 hb5 Xd
      refine hK1.out _ _ (box9_facts X7.out.1.2.2.2.1) (fun h2 => ?_)
      clear hK1 K1 hS
      (try simp only [Act.put, List.getElem_toArray, List.getElem_cons_succ, List.getElem_cons_zero, List.setIfInBounds_toArray, List.set_cons_zero, List.set_cons_succ])
      refine wpAnyH_take (i := 12) (v := ?_) rfl (by kernel_rfl) (by kernel_rfl) (by kernel_rfl) (fun _ _ _ h => h) (Or.inl ⟨by kernel_rfl, ?_⟩) h2 ?_
      rotate_left
      · intro w hSw; (try dsimp only at hSw); go_simp; try (with_reducible rfl)
      (try simp only [Act.put, List.getElem_toArray, List.getElem_cons_succ, List.getElem_cons_zero, List.setIfInBounds_toArray, List.set_cons_zero, List.set_cons_succ])
      refine wpAnyH_take (i := 13) (v := ?_) rfl (by kernel_rfl) (by kernel_rfl) (by kernel_rfl) (fun _ _ _ h => h) (Or.inl ⟨by kernel_rfl, ?_⟩) h2 ?_
      rotate_left
      · intro w hSw; (try dsimp only at hSw); go_simp; try (with_reducible rfl)
      (try simp only [Act.put, List.getElem_toArray, List.getElem_cons_succ, List.getElem_cons_zero, List.setIfInBounds_toArray, List.set_cons_zero, List.set_cons_succ])
      refine wpAnyH_take (i := 14) (v := ?_) rfl (by kernel_rfl) (by kernel_rfl) (by kernel_rfl) (fun _ _ _ h => h) (Or.inl ⟨by kernel_rfl, ?_⟩) h2 ?_
      rotate_left
      · intro w hSw; (try dsimp only at hSw); go_simp; try (with_reducible rfl)
      (try simp only [Act.put, List.getElem_toArray, List.getElem_cons_succ, List.getElem_cons_zero, List.setIfInBounds_toArray, List.set_cons_zero, List.set_cons_succ])
      refine wpAnyH_ready (rs := [15]) (by kernel_rfl) (by simp) ?_
      refine AllReadyH.cons rfl (fun K1 hK1 => ?_) AllReadyH.nil
      go_simp
      have hb6 : Below w5.heap.size w5 (w5.alloc (.cells #[.slice none 0 0, .int .u64 0, .int .u64 0] 59)) := one_box _ _
      have X8 : Hid (Fx w (w5.alloc (.cells #[.slice none 0 0, .int .u64 0, .int .u64 0] 59)) F rb k M qb (n : Int) D A U true f1 us ev al #[.int .u16 0, .slice none 0 0, .int .u64 0, .int .u64 0] ∧ Fc w (w5.alloc (.cells #[.slice none 0 0, .int .u64 0, .int .u64 0] 59)) (.slice a1 cl c1) c.l ∧ (w5.alloc (.cells #[.slice none 0 0, .int .u64 0, .int .u64 0] 59)).heap[w5.heap.size]? = some (.cells #[.slice none 0 0, .int .u64 0, .int .u64 0] 59 (0, 0)) ∧ w.heap.size < w5.heap.size) := ⟨X7.out.1.below hb6, X7.out.2.below hb6, heap_alloc_new _ _, (Array.getElem?_eq_some_iff.1 X7.out.1.2.1).1⟩
      have HG8 : Hid (∀ g, (Value.slice a1 cl c1).ownBlock = some g → g ≠ w5.heap.size) := fun g hg => by have := (SegIn.lt X7.out.2 g hg).2; omega
      clear X7 hb6
      generalize w5.alloc (.cells #[.slice none 0 0, .int .u64 0, .int .u64 0] 59) = w6 at *
      generalize w5.heap.size = p at *
      refine hK1.out _ _ (box9_facts X8.out.1.2.2.2.1) (fun h3 => ?_)
      clear hK1 K1 h2
      (try simp only [Act.put, List.getElem_toArray, List.getElem_cons_succ, List.getElem_cons_zero, List.setIfInBounds_toArray, List.set_cons_zero, List.set_cons_succ])
      refine wpAnyH_ready (rs := [16]) (by kernel_rfl) (by simp) ?_
      refine AllReadyH.cons rfl (fun K1 hK1 => ?_) AllReadyH.nil
      rw [if_pos (by kernel_rfl)]
      refine wp_store_row 59 _ _ rfl p #[.slice a1 cl c1, .int .u64 (ta : Int), .int .u64 (tl : Int)] rfl rfl 59 #[.slice none 0 0, .int .u64 0, .int .u64 0] X8.out.2.2.1 infoC rfl (by simp [Value.oneCell']) ?_
      have Y : Hid (Fx w (w6.setRow p #[.slice a1 cl c1, .int .u64 (ta : Int), .int .u64 (tl : Int)]) F rb k M qb (n : Int) D A U true f1 us ev al #[.int .u16 0, .slice none 0 0, .int .u64 0, .int .u64 0] ∧ (w6.setRow p #[.slice a1 cl c1, .int .u64 (ta : Int), .int .u64 (tl : Int)]).heap[p]? = some (.cells #[.slice a1 cl c1, .int .u64 (ta : Int), .int .u64 (tl : Int)] 59 (0, 0)) ∧ w.heap.size < p ∧ Fc w (w6.setRow p #[.slice a1 cl c1, .int .u64 (ta : Int), .int .u64 (tl : Int)]) (.slice a1 cl c1) c.l) := ⟨X8.out.1.other X8.out.2.2.2 _, setRow_heap _ _ _ _ _ _ X8.out.2.2.1, X8.out.2.2.2, SegIn.kept X8.out.2.1 (fun g hg => setRow_other _ _ _ _ (HG8.out g hg))⟩
      clear X8
      generalize w6.setRow p #[.slice a1 cl c1, .int .u64 (ta : Int), .int .u64 (tl : Int)] = w9 at *
      refine hK1.out _ _ (box9_facts Y.out.1.2.2.2.1) (fun h9 => ?_)
      clear hK1 K1 h3
      (try simp only [Act.put, List.getElem_toArray, List.getElem_cons_succ, List.getElem_cons_zero, List.setIfInBounds_toArray, List.set_cons_zero, List.set_cons_succ])
      refine wpAnyH_take (i := 17) (v := ?_) rfl (by kernel_rfl) (by kernel_rfl) (by kernel_rfl) (fun _ _ _ h => h) (Or.inl ⟨by kernel_rfl, ?_⟩) h9 ?_
      rotate_left
      · intro w hSw; (try dsimp only at hSw); go_simp; try (with_reducible rfl)
      (try simp only [Act.put, List.getElem_toArray, List.getElem_cons_succ, List.getElem_cons_zero, List.setIfInBounds_toArray, List.set_cons_zero, List.set_cons_succ])
      refine wpAnyH_done (by kernel_rfl) ?_ _
      go_wp2_with fail
      go_meet
      exact ⟨p, a1, c1, rfl, rfl, Y.out.1, Y.out.2.1, Y.out.2.2.1, Y.out.2.2.2⟩
    · go_simp
      have hb6 : Below wd.heap.size wd (wd.alloc (.cells #[.slice none 0 0, .int .u64 0, .int .u64 0] 59)) := one_box _ _
      have X7 : Hid (Fx w (wd.alloc (.cells #[.slice none 0 0, .int .u64 0, .int .u64 0] 59)) F rb k M qb (n : Int) D A U true f1 us ev al #[.int .u16 0, .slice none 0 0, .int .u64 0, .int .u64 0] ∧ (wd.alloc (.cells #[.slice none 0 0, .int .u64 0, .int .u64 0] 59)).heap[wd.heap.size]? = some (.cells #[.slice none 0 0, .int .u64 0, .int .u64 0] 59 (0, 0)) ∧ w.heap.size < wd.heap.size) := ⟨Xd.out.below hb6, heap_alloc_new _ _, (Array.getElem?_eq_some_iff.1 Xd.out.2.1).1⟩
      clear hb6 Xd
      generalize wd.alloc (.cells #[.slice none 0 0, .int .u64 0, .int .u64 0] 59) = w5 at *
      generalize wd.heap.size = p at *
      refine hK1.out _ _ (box9_facts X7.out.1.2.2.2.1) (fun h2 => ?_)
      clear hK1 K1 hS
      (try simp only [Act.put, List.getElem_toArray, List.getElem_cons_succ, List.getElem_cons_zero, List.setIfInBounds_toArray, List.set_cons_zero, List.set_cons_succ])
      refine wpAnyH_ready (rs := [11]) (by kernel_rfl) (by simp) ?_
      refine AllReadyH.cons rfl (fun K1 hK1 => ?_) AllReadyH.nil
      go_simp
      refine (KW.out _ X7.out.1).mono ?_
      rintro e w6 ⟨a1, c1, rfl, hs6, hb6, hg6⟩
      have X8 : Hid (Fx w w6 F rb k M qb (n : Int) D A U true f1 us ev al #[.int .u16 0, .slice none 0 0, .int .u64 0, .int .u64 0] ∧ Fc w w6 (.slice a1 cl c1) c.l ∧ w6.heap[p]? = some (.cells #[.slice none 0 0, .int .u64 0, .int .u64 0] 59 (0, 0)) ∧ w.heap.size < p) := ⟨X7.out.1.below hb6, hs6, below_box X7.out.2.1 hb6, X7.out.2.2⟩
      have HG8 : Hid (∀ g, (Value.slice a1 cl c1).ownBlock = some g → g ≠ p) := fun g hg => by have h1 := hg6 g hg; have h2 := (Array.getElem?_eq_some_iff.1 X7.out.2.1).1; omega
      clear hs6 hb6 X7 hg6
      refine hK1.out _ _ (box9_facts X8.out.1.2.2.2.1) (fun h3 => ?_)
      clear hK1 K1 h2
      (try simp only [Act.put, List.getElem_toArray, List.getElem_cons_succ, List.getElem_cons_zero, List.setIfInBounds_toArray, List.set_cons_zero, List.set_cons_succ])
      refine wpAnyH_take (i := 12) (v := ?_) rfl (by kernel_rfl) (by kernel_rfl) (by kernel_rfl) (fun _ _ _ h => h) (Or.inl ⟨by kernel_rfl, ?_⟩) h3 ?_
      rotate_left
      · intro w hSw; (try dsimp only at hSw); go_simp; try (with_reducible rfl)
      (try simp only [Act.put, List.getElem_toArray, List.getElem_cons_succ, List.getElem_cons_zero, List.setIfInBounds_toArray, List.set_cons_zero, List.set_cons_succ])
      refine wpAnyH_take (i := 13) (v := ?_) rfl (by kernel_rfl) (by kernel_rfl) (by kernel_rfl) (fun _ _ _ h => h) (Or.inl ⟨by kernel_rfl, ?_⟩) h3 ?_
      rotate_left
      · intro w hSw; (try dsimp only at hSw); go_simp; try (with_reducible rfl)
      (try simp only [Act.put, List.getElem_toArray, List.getElem_cons_succ, List.getElem_cons_zero, List.setIfInBounds_toArray, List.set_cons_zero, List.set_cons_succ])
      refine wpAnyH_take (i := 14) (v := ?_) rfl (by kernel_rfl) (by kernel_rfl) (by kernel_rfl) (fun _ _ _ h => h) (Or.inl ⟨by kernel_rfl, ?_⟩) h3 ?_
      rotate_left
      · intro w hSw; (try dsimp only at hSw); go_simp; try (with_reducible rfl)
      (try simp only [Act.put, List.getElem_toArray, List.getElem_cons_succ, List.getElem_cons_zero, List.setIfInBounds_toArray, List.set_cons_zero, List.set_cons_succ])
      refine wpAnyH_ready (rs := [16]) (by kernel_rfl) (by simp) ?_
      refine AllReadyH.cons rfl (fun K1 hK1 => ?_) AllReadyH.nil
      rw [if_pos (by kernel_rfl)]
      refine wp_store_row 59 _ _ rfl p #[.slice a1 cl c1, .int .u64 (ta : Int), .int .u64 (tl : Int)] rfl rfl 59 #[.slice none 0 0, .int .u64 0, .int .u64 0] X8.out.2.2.1 infoC rfl (by simp [Value.oneCell']) ?_
      have Y : Hid (Fx w (w6.setRow p #[.slice a1 cl c1, .int .u64 (ta : Int), .int .u64 (tl : Int)]) F rb k M qb (n : Int) D A U true f1 us ev al #[.int .u16 0, .slice none 0 0, .int .u64 0, .int .u64 0] ∧ (w6.setRow p #[.slice a1 cl c1, .int .u64 (ta : Int), .int .u64 (tl : Int)]).heap[p]? = some (.cells #[.slice a1 cl c1, .int .u64 (ta : Int), .int .u64 (tl : Int)] 59 (0, 0)) ∧ w.heap.size < p ∧ Fc w (w6.setRow p #[.slice a1 cl c1, .int .u64 (ta : Int), .int .u64 (tl : Int)]) (.slice a1 cl c1) c.l) := ⟨X8.out.1.other X8.out.2.2.2 _, setRow_heap _ _ _ _ _ _ X8.out.2.2.1, X8.out.2.2.2, SegIn.kept X8.out.2.1 (fun g hg => setRow_other _ _ _ _ (HG8.out g hg))⟩
      clear X8
      generalize w6.setRow p #[.slice a1 cl c1, .int .u64 (ta : Int), .int .u64 (tl : Int)] = w9 at *
      refine hK1.out _ _ (box9_facts Y.out.1.2.2.2.1) (fun h9 => ?_)
      clear hK1 K1 h3
      (try simp only [Act.put, List.getElem_toArray, List.getElem_cons_succ, List.getElem_cons_zero, List.setIfInBounds_toArray, List.set_cons_zero, List.set_cons_succ])
      refine wpAnyH_take (i := 17) (v := ?_) rfl (by kernel_rfl) (by kernel_rfl) (by kernel_rfl) (fun _ _ _ h => h) (Or.inl ⟨by kernel_rfl, ?_⟩) h9 ?_
      rotate_left
      · intro w hSw; (try dsimp only at hSw); go_simp; try (with_reducible rfl)
      (try simp only [Act.put, List.getElem_toArray, List.getElem_cons_succ, List.getElem_cons_zero, List.setIfInBounds_toArray, List.set_cons_zero, List.set_cons_succ])
      refine wpAnyH_done (by kernel_rfl) ?_ _
      go_wp2_with fail
      go_meet
      exact ⟨p, a1, c1, rfl, rfl, Y.out.1, Y.out.2.1, Y.out.2.2.1, Y.out.2.2.2⟩
  case rest =>
    obtain ⟨p, a1, c1, rfl, rfl, hx, hp, hwp, hs⟩ := hcut
    have X9 : Hid (Fx w wc F rb k M qb (n : Int) D A U true f1 us ev al #[.int .u16 0, .slice none 0 0, .int .u64 0, .int .u64 0] ∧ wc.heap[p]? = some (.cells #[.slice a1 cl c1, .int .u64 (ta : Int), .int .u64 (tl : Int)] 59 (0, 0)) ∧ Fc w wc (.slice a1 cl c1) c.l) := ⟨hx, hp, hs⟩
    clear hx hp hwp hs
    obtain ⟨p0, p1, p2⟩ := box3_facts X9.out.2.1
    go_upto_region 14 with fail
    refine wp_region_list ?_
    (refine wpList_step (fun KK hKK => ?_); go_simp; refine hKK _ _ ?_; clear hKK KK)
    (refine wpList_step (fun KK hKK => ?_); go_simp; refine hKK _ _ ?_; clear hKK KK)
    (refine wpList_step (fun KK hKK => ?_); go_simp; refine hKK _ _ ?_; clear hKK KK)
    (refine wpList_step (fun KK hKK => ?_); go_simp; refine hKK _ _ ?_; clear hKK KK)
    (refine wpList_step (fun KK hKK => ?_); go_simp; refine hKK _ _ ?_; clear hKK KK)
    (refine wpList_step (fun KK hKK => ?_); go_simp; refine hKK _ _ ?_; clear hKK KK)
    refine wpList_store_row rfl 61 _ _ rfl w.heap.size #[.int .u16 (h : Int), .slice a1 cl c1, .int .u64 (ta : Int), .int .u64 (tl : Int)] rfl rfl 61 #[.int .u16 0, .slice none 0 0, .int .u64 0, .int .u64 0] X9.out.1.2.1 infoI rfl (by simp [Value.oneCell']) ?_
    have Y : Hid (Fx w (wc.setRow w.heap.size #[.int .u16 (h : Int), .slice a1 cl c1, .int .u64 (ta : Int), .int .u64 (tl : Int)]) F rb k M qb (n : Int) D A U true f1 us ev al #[.int .u16 (h : Int), .slice a1 cl c1, .int .u64 (ta : Int), .int .u64 (tl : Int)] ∧ Fc w (wc.setRow w.heap.size #[.int .u16 (h : Int), .slice a1 cl c1, .int .u64 (ta : Int), .int .u64 (tl : Int)]) (.slice a1 cl c1) c.l) := ⟨X9.out.1.set _, X9.out.2.2.set _⟩
    clear X9 p0 p1 p2
    generalize wc.setRow w.heap.size #[.int .u16 (h : Int), .slice a1 cl c1, .int .u64 (ta : Int), .int .u64 (tl : Int)] = w9 at *
    obtain ⟨k0, k1, k2, k3⟩ := box4_facts Y.out.1.2.1
    go_wp2_with fail
    refine bodyPost_ret (v := .tuple #[.agg #[.int .u16 (h : Int), .slice a1 cl c1, .int .u64 (ta : Int), .int .u64 (tl : Int)], .bool ((ce : Int) == 0), .int .i64 (ce : Int)]) (by simp [results, Tryz.results16, go_sem, k0, k1, k2, k3]) rfl ?_
    exact ⟨a1, c1, rfl, seg_base Y.out.2 (by omega), Y.out.1.2.2.2.1, Y.out.1.1⟩
end Go.Proofs.YtmjdnocilbnoaaaGreat

/- The document's Walk, and where its segments lie. -/
namespace Go.Proofs.YtmjdnocilbnoaaaGreat
open Go.RowKit Go.Maps
set_option linter.unusedVariables false
set_option linter.unusedSimpArgs false
set_option maxRecDepth 100000
set_option maxHeartbeats 4000000 in
theorem dwalk_row {w0 w : World} {va : Option Addr} {nn vc : Nat} {M : Nat → Nat} (hM : ∀ a, M a ≤ 255) (hD : DDesc w0 va nn vc M) (n D A Uu : Nat) (hn : n ≤ 256) (hd : Int) (al : Bool) (hw : Below w0.heap.size w0 w) :
    Calls Tryz.prog 49 #[.agg #[.int .u64 8192, .slice va nn vc], .agg #[.int .i64 (n : Int), .int .u64 (D : Int), .int .u64 (A : Int), .int .u64 (Uu : Int)], .int .i64 hd, .bool al] w fun e w' => ∃ a L c, e = .returned (.tuple #[.agg #[.slice a L c, .int .u64 ((walkR M D n hd al).ta : Int), .int .u64 ((walkR M D n hd al).tl : Int)], .int .i64 ((walkR M D n hd al).e : Int)]) ∧ SegIn 0 w' (.slice a L c) (walkR M D n hd al).l ∧ Below w.heap.size w w' ∧ ∀ g, (Value.slice a L c).ownBlock = some g → w.heap.size ≤ g := by
  obtain ⟨cn, hcn⟩ : ∃ cn, walkR M D n hd al = cn := ⟨_, rfl⟩
  rw [hcn]
  obtain ⟨r, hr⟩ : ∃ r, alongR M D n n hd [] = r := ⟨_, rfl⟩
  have hra := along_all hM D n n hd [] (by simp)
  rw [hr] at hra
  have X0 : Hid (Dk w (((w.alloc (.cells #[.int .u64 8192, .slice va nn vc] 33)).alloc (.cells #[.int .i64 (n : Int), .int .u64 (D : Int), .int .u64 (A : Int), .int .u64 (Uu : Int)] 25)).alloc (.cells #[.slice none 0 0, .int .u64 0, .int .u64 0] 64)) va nn vc n D A Uu) := three_in w _ _ _
  have HCN : Hid (walkR M D n hd al = cn ∧ alongR M D n n hd [] = r) := ⟨hcn, hr⟩
  have HRA : Hid (r.d.Ok ∧ r.l.length ≤ 256) := ⟨hra.2.1, by have := hra.2.2; simp at this; omega⟩
  have HM : Hid ((∀ a, M a ≤ 255) ∧ DDesc w0 va nn vc M) := ⟨hM, hD⟩
  have W38 : Hid (∀ V, Below w.heap.size w V → Calls Tryz.prog 86 #[.agg #[.int .u64 8192, .slice va nn vc], .int .u64 (D : Int), .int .i64 (n : Int), .int .i64 hd, .int .i64 (n : Int), .agg #[.slice none 0 0, .int .u64 0, .int .u64 0]] V fun e w' => ∃ (d : De) (a' : Option Addr) (L' c' : Nat), e = .returned (.tuple #[.agg #[.int .u64 (d.a : Int), .int .u32 (d.l : Int), .int .u16 (d.f : Int), .int .u16 (d.x : Int)], .agg #[.slice a' L' c', .int .u64 0, .int .u64 0], .int .i64 (r.e : Int)]) ∧ (r.e = 0 → d = r.d ∧ SegIn 0 w' (.slice a' L' c') r.l ∧ ∀ g, (Value.slice a' L' c').ownBlock = some g → V.heap.size ≤ g) ∧ Below V.heap.size V w') := by
    intro V hV
    have := dalong_any hM hD D n hn n hn hd [] none 0 0 0 0 V (below_to hw hV) (segs_nil _ _) (by simp; omega)
    rw [hr] at this
    refine this.mono ?_
    rintro e w' ⟨d, a', L', c', he, h1, h2⟩
    exact ⟨d, a', L', c', he, fun h => ⟨(h1 h).1, (h1 h).2.1, fun g hg => ((h1 h).2.2 g hg).elim (fun h => by cases h) id⟩, h2⟩
  have HW0 : Hid (Below w0.heap.size w0 w) := hw
  clear hcn hr hra hM hD hw
  go_enter Tryz.func49, Tryz.ntmps49
  go_upto_region 1 with fail
  generalize ((w.alloc (.cells #[.int .u64 8192, .slice va nn vc] 33)).alloc (.cells #[.int .i64 (n : Int), .int .u64 (D : Int), .int .u64 (A : Int), .int .u64 (Uu : Int)] 25)).alloc (.cells #[.slice none 0 0, .int .u64 0, .int .u64 0] 64) = v0 at *
  obtain ⟨m0, m1, _, _⟩ := box_facts X0.out.1
  obtain ⟨l0, l1, l2, l3⟩ := box4_facts X0.out.2.1
  go_upto_region 2 with (go_at_call 86; refine (W38.out _ X0.out.2.2.2).mono ?_; rintro e w1 ⟨⟨da, dl, df, dx⟩, a1, L1, c1, rfl, hd1, hb1⟩; have X1 : Hid (Dk w w1 va nn vc n D A Uu) := X0.out.below hb1; have G1 : Hid (r.e = 0 → De.mk da dl df dx = r.d ∧ SegIn 0 w1 (.slice a1 L1 c1) r.l ∧ ∀ g, (Value.slice a1 L1 c1).ownBlock = some g → w.heap.size + 1 + 1 < g ∧ g < w1.heap.size) := fun h => ⟨(hd1 h).1, (hd1 h).2.1, fun g hg => ⟨by have := (hd1 h).2.2 g hg; have := (Array.getElem?_eq_some_iff.1 X0.out.2.2.1).1; omega, ((hd1 h).2.1.lt g hg).2⟩⟩; clear hd1 hb1 X0 m0 m1 l0 l1 l2 l3 W38; rename_i KK hKK; refine hKK _ _ ?_; clear hKK; (refine wpList_step (fun KK hKK => ?_); go_simp; refine hKK _ _ ?_; clear hKK KK); (refine wpList_step (fun KK hKK => ?_); go_simp; refine hKK _ _ ?_; clear hKK KK); (refine wpList_step (fun KK hKK => ?_); go_simp; refine hKK _ _ ?_; clear hKK KK); (refine wpList_step (fun KK hKK => ?_); go_simp; refine hKK _ _ ?_; clear hKK KK); (refine wpList_step (fun KK hKK => ?_); go_simp; refine hKK _ _ ?_; clear hKK KK); (refine wpList_step (fun KK hKK => ?_); go_simp; refine hKK _ _ ?_; clear hKK KK))
  have X2 : Hid (Dl w ((w1.alloc (.cells #[.int .u64 (da : Int), .int .u32 (dl : Int), .int .u16 (df : Int), .int .u16 (dx : Int)] 150)).alloc (.cells #[.slice a1 L1 c1, .int .u64 0, .int .u64 0] 64)) va nn vc n D A Uu w1.heap.size #[.int .u64 (da : Int), .int .u32 (dl : Int), .int .u16 (df : Int), .int .u16 (dx : Int)] (w1.heap.size + 1) #[.slice a1 L1 c1, .int .u64 0, .int .u64 0]) := X1.out.two _ _
  have hb2 : Below w1.heap.size w1 ((w1.alloc (.cells #[.int .u64 (da : Int), .int .u32 (dl : Int), .int .u16 (df : Int), .int .u16 (dx : Int)] 150)).alloc (.cells #[.slice a1 L1 c1, .int .u64 0, .int .u64 0] 64)) := ((Below.refl _ _).alloc (Nat.le_refl _) _).alloc (by simp) _
  have G2 : Hid (r.e = 0 → De.mk da dl df dx = r.d ∧ SegIn 0 ((w1.alloc (.cells #[.int .u64 (da : Int), .int .u32 (dl : Int), .int .u16 (df : Int), .int .u16 (dx : Int)] 150)).alloc (.cells #[.slice a1 L1 c1, .int .u64 0, .int .u64 0] 64)) (.slice a1 L1 c1) r.l ∧ ∀ g, (Value.slice a1 L1 c1).ownBlock = some g → w.heap.size + 1 + 1 < g ∧ g < w1.heap.size) := fun h => ⟨(G1.out h).1, (G1.out h).2.1.kept (fun g hg => hb2.block g ((G1.out h).2.2 g hg).2), (G1.out h).2.2⟩
  clear hb2 X1 G1
  have HPQ : Hid (w1.heap.size + 1 = w1.heap.size + 1) := rfl
  generalize (w1.alloc (.cells #[.int .u64 (da : Int), .int .u32 (dl : Int), .int .u16 (df : Int), .int .u16 (dx : Int)] 150)).alloc (.cells #[.slice a1 L1 c1, .int .u64 0, .int .u64 0] 64) = w2 at *
  generalize hq : w1.heap.size + 1 = q at *
  generalize w1.heap.size = p at *
  have HQ : Hid (q = p + 1) := hq.symm
  clear hq HPQ
  obtain ⟨re, hre⟩ : ∃ e, r.e = e := ⟨_, rfl⟩
  have HRE : Hid (r.e = re) := hre
  rw [hre] at G2
  rw [hre]
  clear hre
  by_cases hz : re = 0
  case neg =>
    have hz1 : ((re : Int) != 0) = true := by simp; omega
    have hz2 : ¬ (re : Int) = 0 := by omega
    have HE : Hid (cn = ⟨re, [], 0, 0⟩) := HCN.out.1.symm.trans (by rw [walk_err HCN.out.2 (by rw [HRE.out]; exact hz), HRE.out])
    clear hz
    go_upto_region 3 with fail
    refine wp_region_list ?_
    (refine wpList_step (fun KK hKK => ?_); go_simp; refine hKK _ _ ?_; clear hKK KK)
    (refine wpList_step (fun KK hKK => ?_); go_simp; refine hKK _ _ ?_; clear hKK KK)
    refine wpList_store_row rfl 64 _ _ rfl (w.heap.size + 1 + 1) #[.slice none 0 0, .int .u64 0, .int .u64 0] rfl rfl 64 #[.slice none 0 0, .int .u64 0, .int .u64 0] X2.out.1.2.2.1 info44 rfl (by simp [Value.oneCell']) ?_
    have HY : Hid (Below w.heap.size w (w2.setRow (w.heap.size + 1 + 1) #[.slice none 0 0, .int .u64 0, .int .u64 0]) ∧ (w2.setRow (w.heap.size + 1 + 1) #[.slice none 0 0, .int .u64 0, .int .u64 0]).heap[w.heap.size + 1 + 1]? = some (.cells #[.slice none 0 0, .int .u64 0, .int .u64 0] 64 (0, 0)) ∧ SegIn 0 (w2.setRow (w.heap.size + 1 + 1) #[.slice none 0 0, .int .u64 0, .int .u64 0]) (.slice none 0 0) []) := ⟨below_setRow X2.out.1.2.2.2 (by omega) _, setRow_heap _ _ _ _ _ _ X2.out.1.2.2.1, segs_nil _ _⟩
    generalize w2.setRow (w.heap.size + 1 + 1) #[.slice none 0 0, .int .u64 0, .int .u64 0] = w9 at *
    obtain ⟨k0, k1, k2⟩ := box3_facts HY.out.2.1
    go_wp2_with fail
    refine bodyPost_ret (v := .tuple #[.agg #[.slice none 0 0, .int .u64 0, .int .u64 0], .int .i64 (re : Int)]) (by simp [results, Tryz.results49, go_sem, k0, k1, k2]) rfl ?_
    rw [HE.out]
    exact ⟨none, 0, 0, rfl, HY.out.2.2, HY.out.1, (fun g hg => by cases hg)⟩
  subst hz
  have G3 : Hid (r.d = ⟨da, dl, df, dx⟩ ∧ SegIn 0 w2 (.slice a1 L1 c1) r.l ∧ ∀ g, (Value.slice a1 L1 c1).ownBlock = some g → w.heap.size + 1 + 1 < g ∧ g < p) := ⟨(G2.out rfl).1.symm, (G2.out rfl).2⟩
  clear G2
  rw [G3.out.1] at HRA
  have hf : df ≤ 65535 := HRA.out.1.f
  have hdl : dl ≤ 4294967295 := HRA.out.1.l
  obtain ⟨rl, hrl⟩ : ∃ e, r.l = e := ⟨_, rfl⟩
  have HRL : Hid (r.l = rl) := hrl
  rw [hrl] at G3 HRA
  clear hrl
  obtain ⟨d0, d1, d2, d3⟩ := box4_facts X2.out.2.1
  obtain ⟨f4, hf4⟩ : ∃ b, fl df 4 = b := ⟨_, rfl⟩
  have H4 : Hid (∀ V, Calls Tryz.prog 87 #[.agg #[.int .u64 (da : Int), .int .u32 (dl : Int), .int .u16 (df : Int), .int .u16 (dx : Int)], .int .u16 4] V fun e w' => e = .returned (.bool f4) ∧ Below V.heap.size V w') := by
    intro V; rw [← hf4]; exact flag4 da dl df dx hf V
  have HF4 : Hid (fl r.d.f 4 = f4) := by show fl r.d.f 4 = f4; rw [G3.out.1]; exact hf4
  clear hf4
  have GS : Hid (∀ V, Below w2.heap.size w2 V → SegIn 0 V (.slice a1 L1 c1) rl) := fun V hV => G3.out.2.1.kept (fun g hg => hV.block g (G3.out.2.1.lt g hg).2)
  cases f4 with
  | false =>
    have HE : Hid (cn = ⟨0, rl, 0, 0⟩) := HCN.out.1.symm.trans (by rw [walk_plain HCN.out.2 HRE.out HF4.out, HRL.out])
    go_upto_region 5 with (go_at_call 87; refine (H4.out _).mono ?_; rintro e w3 ⟨rfl, hb3⟩; have X3 : Hid (Dl w w3 va nn vc n D A Uu p #[.int .u64 (da : Int), .int .u32 (dl : Int), .int .u16 (df : Int), .int .u16 (dx : Int)] q #[.slice a1 L1 c1, .int .u64 0, .int .u64 0]) := X2.out.below hb3; have G4 : Hid (SegIn 0 w3 (.slice a1 L1 c1) rl) := GS.out _ hb3; clear hb3 d0 d1 d2 d3)
    clear X2
    obtain ⟨e0, e1, e2⟩ := box3_facts X3.out.2.2.1
    go_upto_region 5 with fail
    refine wp_region_list ?_
    (refine wpList_step (fun KK hKK => ?_); go_simp; refine hKK _ _ ?_; clear hKK KK)
    refine wpList_store_row rfl 64 _ _ rfl (w.heap.size + 1 + 1) #[.slice a1 L1 c1, .int .u64 0, .int .u64 0] rfl rfl 64 #[.slice none 0 0, .int .u64 0, .int .u64 0] X3.out.1.2.2.1 info44 rfl (by simp [Value.oneCell']) ?_
    have HY : Hid (Below w.heap.size w (w3.setRow (w.heap.size + 1 + 1) #[.slice a1 L1 c1, .int .u64 0, .int .u64 0]) ∧ (w3.setRow (w.heap.size + 1 + 1) #[.slice a1 L1 c1, .int .u64 0, .int .u64 0]).heap[w.heap.size + 1 + 1]? = some (.cells #[.slice a1 L1 c1, .int .u64 0, .int .u64 0] 64 (0, 0)) ∧ SegIn 0 (w3.setRow (w.heap.size + 1 + 1) #[.slice a1 L1 c1, .int .u64 0, .int .u64 0]) (.slice a1 L1 c1) rl) := ⟨below_setRow X3.out.1.2.2.2 (by omega) _, setRow_heap _ _ _ _ _ _ X3.out.1.2.2.1, G4.out.kept (fun g hg => setRow_other _ _ _ _ (by have := (G3.out.2.2 g hg).1; omega))⟩
    generalize w3.setRow (w.heap.size + 1 + 1) #[.slice a1 L1 c1, .int .u64 0, .int .u64 0] = w9 at *
    obtain ⟨k0, k1, k2⟩ := box3_facts HY.out.2.1
    go_wp2_with fail
    refine bodyPost_ret (v := .tuple #[.agg #[.slice a1 L1 c1, .int .u64 0, .int .u64 0], .int .i64 0]) (by simp [results, Tryz.results49, go_sem, k0, k1, k2]) rfl ?_
    rw [HE.out]
    exact ⟨a1, L1, c1, rfl, HY.out.2.2, HY.out.1, (fun g hg => by have := (G3.out.2.2 g hg).1; omega)⟩
  | true =>
    have A36 : True := trivial
    cases al with
    | false =>
      have HE : Hid (cn = ⟨153, [], 0, 0⟩) := HCN.out.1.symm.trans (walk_tab HCN.out.2 HRE.out HF4.out (tabE_nest rfl) (by decide))
      go_upto_region 7 with (go_at_call 87; refine (H4.out _).mono ?_; rintro e w3 ⟨rfl, hb3⟩; have X3 : Hid (Dl w w3 va nn vc n D A Uu p #[.int .u64 (da : Int), .int .u32 (dl : Int), .int .u16 (df : Int), .int .u16 (dx : Int)] q #[.slice a1 L1 c1, .int .u64 0, .int .u64 0]) := X2.out.below hb3; clear hb3 d0 d1 d2 d3)
      clear X2
      go_upto_region 7 with fail
      refine wp_region_list ?_
      (refine wpList_step (fun KK hKK => ?_); go_simp; refine hKK _ _ ?_; clear hKK KK)
      refine wpList_store_row rfl 64 _ _ rfl (w.heap.size + 1 + 1) #[.slice none 0 0, .int .u64 0, .int .u64 0] rfl rfl 64 #[.slice none 0 0, .int .u64 0, .int .u64 0] X3.out.1.2.2.1 info44 rfl (by simp [Value.oneCell']) ?_
      have HY : Hid (Below w.heap.size w (w3.setRow (w.heap.size + 1 + 1) #[.slice none 0 0, .int .u64 0, .int .u64 0]) ∧ (w3.setRow (w.heap.size + 1 + 1) #[.slice none 0 0, .int .u64 0, .int .u64 0]).heap[w.heap.size + 1 + 1]? = some (.cells #[.slice none 0 0, .int .u64 0, .int .u64 0] 64 (0, 0)) ∧ SegIn 0 (w3.setRow (w.heap.size + 1 + 1) #[.slice none 0 0, .int .u64 0, .int .u64 0]) (.slice none 0 0) []) := ⟨below_setRow X3.out.1.2.2.2 (by omega) _, setRow_heap _ _ _ _ _ _ X3.out.1.2.2.1, segs_nil _ _⟩
      generalize w3.setRow (w.heap.size + 1 + 1) #[.slice none 0 0, .int .u64 0, .int .u64 0] = w9 at *
      obtain ⟨k0, k1, k2⟩ := box3_facts HY.out.2.1
      go_wp2_with fail
      refine bodyPost_ret (v := .tuple #[.agg #[.slice none 0 0, .int .u64 0, .int .u64 0], .int .i64 153]) (by simp [results, Tryz.results49, go_sem, k0, k1, k2]) rfl ?_
      rw [HE.out]
      exact ⟨none, 0, 0, rfl, HY.out.2.2, HY.out.1, (fun g hg => by cases hg)⟩
    | true =>
      obtain ⟨f1, hf1⟩ : ∃ b, fl df 1 = b := ⟨_, rfl⟩
      have H1 : Hid (∀ V, Calls Tryz.prog 87 #[.agg #[.int .u64 (da : Int), .int .u32 (dl : Int), .int .u16 (df : Int), .int .u16 (dx : Int)], .int .u16 1] V fun e w' => e = .returned (.bool f1) ∧ Below V.heap.size V w') := by
        intro V; rw [← hf1]; exact flag1 da dl df dx hf V
      have HF1 : Hid ((!true || fl r.d.f 1) = f1) := by show fl r.d.f 1 = f1; rw [G3.out.1]; exact hf1
      clear hf1
      go_upto_region 6 with (go_at_call 87; refine (H4.out _).mono ?_; rintro e w3 ⟨rfl, hb3⟩; have X3 : Hid (Dl w w3 va nn vc n D A Uu p #[.int .u64 (da : Int), .int .u32 (dl : Int), .int .u16 (df : Int), .int .u16 (dx : Int)] q #[.slice a1 L1 c1, .int .u64 0, .int .u64 0] ∧ Below w2.heap.size w2 w3) := ⟨X2.out.below hb3, hb3⟩; clear hb3 d0 d1 d2 d3)
      clear X2
      obtain ⟨d0, d1, d2, d3⟩ := box4_facts X3.out.1.2.1
      cases f1 with
      | true =>
        have HE : Hid (cn = ⟨153, [], 0, 0⟩) := HCN.out.1.symm.trans (walk_tab HCN.out.2 HRE.out HF4.out (tabE_nest HF1.out) (by decide))
        go_upto_region 7 with (go_at_call 87; refine (H1.out _).mono ?_; rintro e w4 ⟨rfl, hb4⟩; have X4 : Hid (Dl w w4 va nn vc n D A Uu p #[.int .u64 (da : Int), .int .u32 (dl : Int), .int .u16 (df : Int), .int .u16 (dx : Int)] q #[.slice a1 L1 c1, .int .u64 0, .int .u64 0]) := X3.out.1.below hb4; clear hb4 d0 d1 d2 d3)
        clear X3
        go_upto_region 7 with fail
        refine wp_region_list ?_
        (refine wpList_step (fun KK hKK => ?_); go_simp; refine hKK _ _ ?_; clear hKK KK)
        refine wpList_store_row rfl 64 _ _ rfl (w.heap.size + 1 + 1) #[.slice none 0 0, .int .u64 0, .int .u64 0] rfl rfl 64 #[.slice none 0 0, .int .u64 0, .int .u64 0] X4.out.1.2.2.1 info44 rfl (by simp [Value.oneCell']) ?_
        have HY : Hid (Below w.heap.size w (w4.setRow (w.heap.size + 1 + 1) #[.slice none 0 0, .int .u64 0, .int .u64 0]) ∧ (w4.setRow (w.heap.size + 1 + 1) #[.slice none 0 0, .int .u64 0, .int .u64 0]).heap[w.heap.size + 1 + 1]? = some (.cells #[.slice none 0 0, .int .u64 0, .int .u64 0] 64 (0, 0)) ∧ SegIn 0 (w4.setRow (w.heap.size + 1 + 1) #[.slice none 0 0, .int .u64 0, .int .u64 0]) (.slice none 0 0) []) := ⟨below_setRow X4.out.1.2.2.2 (by omega) _, setRow_heap _ _ _ _ _ _ X4.out.1.2.2.1, segs_nil _ _⟩
        generalize w4.setRow (w.heap.size + 1 + 1) #[.slice none 0 0, .int .u64 0, .int .u64 0] = w9 at *
        obtain ⟨k0, k1, k2⟩ := box3_facts HY.out.2.1
        go_wp2_with fail
        refine bodyPost_ret (v := .tuple #[.agg #[.slice none 0 0, .int .u64 0, .int .u64 0], .int .i64 153]) (by simp [results, Tryz.results49, go_sem, k0, k1, k2]) rfl ?_
        rw [HE.out]
        exact ⟨none, 0, 0, rfl, HY.out.2.2, HY.out.1, (fun g hg => by cases hg)⟩
      | false =>
        go_upto_region 8 with (go_at_call 87; refine (H1.out _).mono ?_; rintro e w4 ⟨rfl, hb4⟩; have X4 : Hid (Dl w w4 va nn vc n D A Uu p #[.int .u64 (da : Int), .int .u32 (dl : Int), .int .u16 (df : Int), .int .u16 (dx : Int)] q #[.slice a1 L1 c1, .int .u64 0, .int .u64 0]) := X3.out.1.below hb4; have G4 : Hid (SegIn 0 w4 (.slice a1 L1 c1) rl) := GS.out _ (below_to X3.out.2 hb4); clear hb4 d0 d1 d2 d3)
        clear X3 GS H1 H4
        obtain ⟨d0, d1, d2, d3⟩ := box4_facts X4.out.2.1
        obtain ⟨y, hy⟩ : ∃ y, dl % 16 = y := ⟨_, rfl⟩
        have u2 : (dl : Int) % 16 = (y : Int) := by omega
        have u2' : (dl : Int).tmod 16 = (y : Int) := by rw [Int.tmod_eq_emod_of_nonneg (by omega)]; exact u2
        by_cases z0 : y = 0
        case neg =>
          have HE : Hid (cn = ⟨154, [], 0, 0⟩) := HCN.out.1.symm.trans (walk_tab HCN.out.2 HRE.out HF4.out (tabE_rows HF1.out (by rw [G3.out.1]; exact .inl (by rw [hy]; exact z0))) (by decide))
          have u3 : ((y : Int) != 0) = true := by simp; omega
          clear hy z0
          go_upto_region 9 with fail
          refine wp_region_list ?_
          (refine wpList_step (fun KK hKK => ?_); go_simp; refine hKK _ _ ?_; clear hKK KK)
          refine wpList_store_row rfl 64 _ _ rfl (w.heap.size + 1 + 1) #[.slice none 0 0, .int .u64 0, .int .u64 0] rfl rfl 64 #[.slice none 0 0, .int .u64 0, .int .u64 0] X4.out.1.2.2.1 info44 rfl (by simp [Value.oneCell']) ?_
          have HY : Hid (Below w.heap.size w (w4.setRow (w.heap.size + 1 + 1) #[.slice none 0 0, .int .u64 0, .int .u64 0]) ∧ (w4.setRow (w.heap.size + 1 + 1) #[.slice none 0 0, .int .u64 0, .int .u64 0]).heap[w.heap.size + 1 + 1]? = some (.cells #[.slice none 0 0, .int .u64 0, .int .u64 0] 64 (0, 0)) ∧ SegIn 0 (w4.setRow (w.heap.size + 1 + 1) #[.slice none 0 0, .int .u64 0, .int .u64 0]) (.slice none 0 0) []) := ⟨below_setRow X4.out.1.2.2.2 (by omega) _, setRow_heap _ _ _ _ _ _ X4.out.1.2.2.1, segs_nil _ _⟩
          generalize w4.setRow (w.heap.size + 1 + 1) #[.slice none 0 0, .int .u64 0, .int .u64 0] = w9 at *
          obtain ⟨k0, k1, k2⟩ := box3_facts HY.out.2.1
          go_wp2_with fail
          refine bodyPost_ret (v := .tuple #[.agg #[.slice none 0 0, .int .u64 0, .int .u64 0], .int .i64 154]) (by simp [results, Tryz.results49, go_sem, k0, k1, k2]) rfl ?_
          rw [HE.out]
          exact ⟨none, 0, 0, rfl, HY.out.2.2, HY.out.1, (fun g hg => by cases hg)⟩
        subst z0
        by_cases z1 : dl < 16
        case pos =>
          have HE : Hid (cn = ⟨154, [], 0, 0⟩) := HCN.out.1.symm.trans (walk_tab HCN.out.2 HRE.out HF4.out (tabE_rows HF1.out (by rw [G3.out.1]; exact .inr (.inl z1))) (by decide))
          have u4 : (dl : Int) < 16 := by omega
          clear hy z1
          go_upto_region 9 with fail
          refine wp_region_list ?_
          (refine wpList_step (fun KK hKK => ?_); go_simp; refine hKK _ _ ?_; clear hKK KK)
          refine wpList_store_row rfl 64 _ _ rfl (w.heap.size + 1 + 1) #[.slice none 0 0, .int .u64 0, .int .u64 0] rfl rfl 64 #[.slice none 0 0, .int .u64 0, .int .u64 0] X4.out.1.2.2.1 info44 rfl (by simp [Value.oneCell']) ?_
          have HY : Hid (Below w.heap.size w (w4.setRow (w.heap.size + 1 + 1) #[.slice none 0 0, .int .u64 0, .int .u64 0]) ∧ (w4.setRow (w.heap.size + 1 + 1) #[.slice none 0 0, .int .u64 0, .int .u64 0]).heap[w.heap.size + 1 + 1]? = some (.cells #[.slice none 0 0, .int .u64 0, .int .u64 0] 64 (0, 0)) ∧ SegIn 0 (w4.setRow (w.heap.size + 1 + 1) #[.slice none 0 0, .int .u64 0, .int .u64 0]) (.slice none 0 0) []) := ⟨below_setRow X4.out.1.2.2.2 (by omega) _, setRow_heap _ _ _ _ _ _ X4.out.1.2.2.1, segs_nil _ _⟩
          generalize w4.setRow (w.heap.size + 1 + 1) #[.slice none 0 0, .int .u64 0, .int .u64 0] = w9 at *
          obtain ⟨k0, k1, k2⟩ := box3_facts HY.out.2.1
          go_wp2_with fail
          refine bodyPost_ret (v := .tuple #[.agg #[.slice none 0 0, .int .u64 0, .int .u64 0], .int .i64 154]) (by simp [results, Tryz.results49, go_sem, k0, k1, k2]) rfl ?_
          rw [HE.out]
          exact ⟨none, 0, 0, rfl, HY.out.2.2, HY.out.1, (fun g hg => by cases hg)⟩
        have u4 : ¬ (dl : Int) < 16 := by omega
        by_cases z2 : 4096 < dl
        case pos =>
          have HE : Hid (cn = ⟨154, [], 0, 0⟩) := HCN.out.1.symm.trans (walk_tab HCN.out.2 HRE.out HF4.out (tabE_rows HF1.out (by rw [G3.out.1]; exact .inr (.inr z2))) (by decide))
          have u5 : (4096 : Int) < dl := by omega
          clear hy z1 z2
          go_upto_region 9 with fail
          refine wp_region_list ?_
          (refine wpList_step (fun KK hKK => ?_); go_simp; refine hKK _ _ ?_; clear hKK KK)
          refine wpList_store_row rfl 64 _ _ rfl (w.heap.size + 1 + 1) #[.slice none 0 0, .int .u64 0, .int .u64 0] rfl rfl 64 #[.slice none 0 0, .int .u64 0, .int .u64 0] X4.out.1.2.2.1 info44 rfl (by simp [Value.oneCell']) ?_
          have HY : Hid (Below w.heap.size w (w4.setRow (w.heap.size + 1 + 1) #[.slice none 0 0, .int .u64 0, .int .u64 0]) ∧ (w4.setRow (w.heap.size + 1 + 1) #[.slice none 0 0, .int .u64 0, .int .u64 0]).heap[w.heap.size + 1 + 1]? = some (.cells #[.slice none 0 0, .int .u64 0, .int .u64 0] 64 (0, 0)) ∧ SegIn 0 (w4.setRow (w.heap.size + 1 + 1) #[.slice none 0 0, .int .u64 0, .int .u64 0]) (.slice none 0 0) []) := ⟨below_setRow X4.out.1.2.2.2 (by omega) _, setRow_heap _ _ _ _ _ _ X4.out.1.2.2.1, segs_nil _ _⟩
          generalize w4.setRow (w.heap.size + 1 + 1) #[.slice none 0 0, .int .u64 0, .int .u64 0] = w9 at *
          obtain ⟨k0, k1, k2⟩ := box3_facts HY.out.2.1
          go_wp2_with fail
          refine bodyPost_ret (v := .tuple #[.agg #[.slice none 0 0, .int .u64 0, .int .u64 0], .int .i64 154]) (by simp [results, Tryz.results49, go_sem, k0, k1, k2]) rfl ?_
          rw [HE.out]
          exact ⟨none, 0, 0, rfl, HY.out.2.2, HY.out.1, (fun g hg => by cases hg)⟩
        have u5 : ¬ (4096 : Int) < dl := by omega
        have hl4 : dl ≤ 4096 := by omega
        have hl16 : 16 ≤ dl := by omega
        have HTG : Hid (tabE r.d true = if inB da dl 2147483648 8192 = true then 0 else 21) := by
          show tabE r.d true = _
          rw [tabE_go HF1.out (by rw [G3.out.1]; show ¬ (dl = 0 ∨ 4096 < dl ∨ ¬ dl % 16 = 0); omega), G3.out.1]
        obtain ⟨ib, hin⟩ : ∃ b, inB da dl 2147483648 8192 = b := ⟨_, rfl⟩
        have H17 : Hid (∀ V, Calls Tryz.prog 52 #[.agg #[.int .u64 8192, .slice va nn vc], .int .u64 (da : Int), .int .u64 (dl : Int)] V fun e w' => e = .returned (.bool ib) ∧ Below V.heap.size V w') := by
          intro V
          rw [← hin]
          exact (rhas_any 8192 da dl (.slice va nn vc) (by omega) HRA.out.1.a (by omega) V).mono fun e w' ⟨he, hb⟩ => ⟨he, hb⟩
        rw [hin] at HTG
        clear hin z1 z2 hy
        have hwr : IntKind.u64.wrap (dl : Int) = (dl : Int) := by rw [wrap_u64]; omega
        obtain ⟨m0, m1, _, _⟩ := box_facts X4.out.1.1
        cases ib with
        | false =>
          have HE : Hid (cn = ⟨21, [], 0, 0⟩) := HCN.out.1.symm.trans (walk_tab HCN.out.2 HRE.out HF4.out HTG.out (by decide))
          go_upto_region 11 with (go_at_call 52; refine (H17.out _).mono ?_; rintro e w5 ⟨rfl, hb⟩; have X5 : Hid (Dl w w5 va nn vc n D A Uu p #[.int .u64 (da : Int), .int .u32 (dl : Int), .int .u16 (df : Int), .int .u16 (dx : Int)] q #[.slice a1 L1 c1, .int .u64 0, .int .u64 0]) := X4.out.below hb; clear hb d0 d1 d2 d3 m0 m1)
          clear X4
          go_upto_region 11 with fail
          refine wp_region_list ?_
          (refine wpList_step (fun KK hKK => ?_); go_simp; refine hKK _ _ ?_; clear hKK KK)
          refine wpList_store_row rfl 64 _ _ rfl (w.heap.size + 1 + 1) #[.slice none 0 0, .int .u64 0, .int .u64 0] rfl rfl 64 #[.slice none 0 0, .int .u64 0, .int .u64 0] X5.out.1.2.2.1 info44 rfl (by simp [Value.oneCell']) ?_
          have HY : Hid (Below w.heap.size w (w5.setRow (w.heap.size + 1 + 1) #[.slice none 0 0, .int .u64 0, .int .u64 0]) ∧ (w5.setRow (w.heap.size + 1 + 1) #[.slice none 0 0, .int .u64 0, .int .u64 0]).heap[w.heap.size + 1 + 1]? = some (.cells #[.slice none 0 0, .int .u64 0, .int .u64 0] 64 (0, 0)) ∧ SegIn 0 (w5.setRow (w.heap.size + 1 + 1) #[.slice none 0 0, .int .u64 0, .int .u64 0]) (.slice none 0 0) []) := ⟨below_setRow X5.out.1.2.2.2 (by omega) _, setRow_heap _ _ _ _ _ _ X5.out.1.2.2.1, segs_nil _ _⟩
          generalize w5.setRow (w.heap.size + 1 + 1) #[.slice none 0 0, .int .u64 0, .int .u64 0] = w9 at *
          obtain ⟨k0, k1, k2⟩ := box3_facts HY.out.2.1
          go_wp2_with fail
          refine bodyPost_ret (v := .tuple #[.agg #[.slice none 0 0, .int .u64 0, .int .u64 0], .int .i64 21]) (by simp [results, Tryz.results49, go_sem, k0, k1, k2]) rfl ?_
          rw [HE.out]
          exact ⟨none, 0, 0, rfl, HY.out.2.2, HY.out.1, (fun g hg => by cases hg)⟩
        | true =>
          have HT0 : Hid (tabE r.d true = 0) := HTG.out
          go_upto_region 12 with (go_at_call 52; refine (H17.out _).mono ?_; rintro e w5 ⟨rfl, hb⟩; have X5 : Hid (Dl w w5 va nn vc n D A Uu p #[.int .u64 (da : Int), .int .u32 (dl : Int), .int .u16 (df : Int), .int .u16 (dx : Int)] q #[.slice a1 L1 c1, .int .u64 0, .int .u64 0]) := X4.out.below hb; have G5 : Hid (SegIn 0 w5 (.slice a1 L1 c1) rl) := G4.out.kept (fun g hg => hb.block g (G4.out.lt g hg).2); clear hb d0 d1 d2 d3 m0 m1)
          clear X4 G4 H17
          obtain ⟨d0, d1, d2, d3⟩ := box4_facts X5.out.2.1
          obtain ⟨e0, e1, e2⟩ := box3_facts X5.out.2.2.1
          have e3 := frozenOf X5.out.2.2.1 1
          have e4 := frozenOf X5.out.2.2.1 2
          go_upto_region 13 with fail
          have X6 : Hid (Dl w ((w5.setCell ⟨q, 1, none⟩ (.int .u64 (da : Int))).setCell ⟨q, 2, none⟩ (.int .u64 (dl : Int))) va nn vc n D A Uu p #[.int .u64 (da : Int), .int .u32 (dl : Int), .int .u16 (df : Int), .int .u16 (dx : Int)] q #[.slice a1 L1 c1, .int .u64 (da : Int), .int .u64 (dl : Int)]) := X5.out.tab _ _
          have G6 : Hid (SegIn 0 ((w5.setCell ⟨q, 1, none⟩ (.int .u64 (da : Int))).setCell ⟨q, 2, none⟩ (.int .u64 (dl : Int))) (.slice a1 L1 c1) rl) := G5.out.kept (fun g hg => by
            have h1 := (G3.out.2.2 g hg).2
            have h2 := HQ.out
            rw [heap_setCell _ _ _ _ _ (by omega), heap_setCell _ _ _ _ _ (by omega)])
          clear X5 G5 d0 d1 d2 d3 e0 e1 e2 e3 e4
          generalize (w5.setCell ⟨q, 1, none⟩ (.int .u64 (da : Int))).setCell ⟨q, 2, none⟩ (.int .u64 (dl : Int)) = w6 at *
          obtain ⟨d0, d1, d2, d3⟩ := box4_facts X6.out.2.1
          obtain ⟨e0, e1, e2⟩ := box3_facts X6.out.2.2.1
          obtain ⟨m0, m1, _, _⟩ := box_facts X6.out.1.1
          obtain ⟨y, hy⟩ : ∃ y, dl / 16 = y := ⟨_, rfl⟩
          have v1 : (dl : Int) / 16 = (y : Int) := by omega
          have v2 : (dl : Int).tdiv 16 = (y : Int) := by rw [Int.tdiv_eq_ediv_of_nonneg (by omega)]; exact v1
          have v3 : IntKind.u32.wrap (y : Int) = (y : Int) := by simp [IntKind.wrap, IntKind.signed, IntKind.bits]; omega
          have v4 : IntKind.i64.wrap (y : Int) = (y : Int) := wrapi y (by omega)
          have hy2 : y ≤ 256 := by omega
          have HYY : Hid (dl / 16 = y) := hy
          clear hy u2 u2' u4 u5 hwr
          obtain ⟨s, hs⟩ : ∃ s, alongR M da y y 0 rl = s := ⟨_, rfl⟩
          have HS : Hid (alongR M r.d.a (r.d.l / 16) (r.d.l / 16) 0 r.l = s) := by show alongR M r.d.a (r.d.l / 16) (r.d.l / 16) 0 r.l = s; rw [G3.out.1, HRL.out]; simp only; rw [HYY.out]; exact hs
          have hsa := along_all HM.out.1 da y y 0 rl (by
            have := along_all HM.out.1 D n n hd [] (by simp)
            rw [HCN.out.2, HRL.out] at this
            exact this.1)
          rw [hs] at hsa
          have HSA : Hid (s.d.Ok) := hsa.2.1
          clear hsa
          have H382 : Hid (∀ V, Below w.heap.size w V → SegIn 0 V (.slice a1 L1 c1) rl → Calls Tryz.prog 86 #[.agg #[.int .u64 8192, .slice va nn vc], .int .u64 (da : Int), .int .i64 (y : Int), .int .i64 0, .int .i64 (y : Int), .agg #[.slice a1 L1 c1, .int .u64 (da : Int), .int .u64 (dl : Int)]] V fun e w' => ∃ (d : De) (a' : Option Addr) (L' c' : Nat), e = .returned (.tuple #[.agg #[.int .u64 (d.a : Int), .int .u32 (d.l : Int), .int .u16 (d.f : Int), .int .u16 (d.x : Int)], .agg #[.slice a' L' c', .int .u64 (da : Int), .int .u64 (dl : Int)], .int .i64 (s.e : Int)]) ∧ (s.e = 0 → d = s.d ∧ SegIn 0 w' (.slice a' L' c') s.l ∧ ∀ g, (Value.slice a' L' c').ownBlock = some g → (Value.slice a1 L1 c1).ownBlock = some g ∨ V.heap.size ≤ g) ∧ Below V.heap.size V w') := by
            intro V hV hsg
            have := dalong_any HM.out.1 HM.out.2 da y hy2 y hy2 0 rl a1 L1 c1 da dl V (below_to HW0.out hV) hsg (by have := HRA.out.2; omega)
            rw [hs] at this
            exact this
          clear hs
          go_upto_region 15 with (go_at_call 86; refine (H382.out _ X6.out.1.2.2.2 G6.out).mono ?_; rintro e w7 ⟨⟨ea, el, ef, ex⟩, a2, L2, c2, rfl, hd2, hb7⟩; have X7 : Hid (Dl w w7 va nn vc n D A Uu p #[.int .u64 (da : Int), .int .u32 (dl : Int), .int .u16 (df : Int), .int .u16 (dx : Int)] q #[.slice a1 L1 c1, .int .u64 (da : Int), .int .u64 (dl : Int)]) := X6.out.below hb7; have G7 : Hid (s.e = 0 → s.d = De.mk ea el ef ex ∧ SegIn 0 w7 (.slice a2 L2 c2) s.l ∧ ∀ g, (Value.slice a2 L2 c2).ownBlock = some g → w.heap.size + 1 + 1 < g ∧ g ≠ q ∧ g < w7.heap.size) := fun h => ⟨(hd2 h).1.symm, (hd2 h).2.1, fun g hg => (Dl.row X6.out HQ.out (fun g hg => (G3.out.2.2 g hg)) ((hd2 h).2.2 g hg)).imp id (fun hh => ⟨hh, ((hd2 h).2.1.lt g hg).2⟩)⟩; clear hd2 hb7 X6 G6 d0 d1 d2 d3 e0 e1 e2 m0 m1 H382; rename_i KK hKK; refine hKK _ _ ?_; clear hKK; (refine wpList_step (fun KK hKK => ?_); go_simp; refine hKK _ _ ?_; clear hKK KK); (refine wpList_step (fun KK hKK => ?_); go_simp; refine hKK _ _ ?_; clear hKK KK); (refine wpList_step (fun KK hKK => ?_); go_simp; refine hKK _ _ ?_; clear hKK KK); (refine wpList_step (fun KK hKK => ?_); go_simp; refine hKK _ _ ?_; clear hKK KK); (refine wpList_step (fun KK hKK => ?_); go_simp; refine hKK _ _ ?_; clear hKK KK); refine wpList_store_row rfl 150 _ _ rfl w7.heap.size #[.int .u64 (ea : Int), .int .u32 (el : Int), .int .u16 (ef : Int), .int .u16 (ex : Int)] rfl rfl 150 #[.int .u64 0, .int .u32 0, .int .u16 0, .int .u16 0] (heap_alloc_new _ _) info47 rfl (by simp [Value.oneCell']) ?_; refine wpList_store_row rfl 64 _ _ rfl q #[.slice a2 L2 c2, .int .u64 (da : Int), .int .u64 (dl : Int)] rfl rfl 64 #[.slice a1 L1 c1, .int .u64 (da : Int), .int .u64 (dl : Int)] ((setRow_other _ _ _ _ (Dl.qlt X7.out)).trans (below_box X7.out.2.2.1 ((Below.refl _ _).alloc (Nat.le_refl _) _))) info44 rfl (by simp [Value.oneCell']) ?_; have X8 : Hid (Dl w (((w7.alloc (.cells #[.int .u64 0, .int .u32 0, .int .u16 0, .int .u16 0] 150)).setRow w7.heap.size #[.int .u64 (ea : Int), .int .u32 (el : Int), .int .u16 (ef : Int), .int .u16 (ex : Int)]).setRow q #[.slice a2 L2 c2, .int .u64 (da : Int), .int .u64 (dl : Int)]) va nn vc n D A Uu p #[.int .u64 (da : Int), .int .u32 (dl : Int), .int .u16 (df : Int), .int .u16 (dx : Int)] q #[.slice a2 L2 c2, .int .u64 (da : Int), .int .u64 (dl : Int)] ∧ (((w7.alloc (.cells #[.int .u64 0, .int .u32 0, .int .u16 0, .int .u16 0] 150)).setRow w7.heap.size #[.int .u64 (ea : Int), .int .u32 (el : Int), .int .u16 (ef : Int), .int .u16 (ex : Int)]).setRow q #[.slice a2 L2 c2, .int .u64 (da : Int), .int .u64 (dl : Int)]).heap[w7.heap.size]? = some (.cells #[.int .u64 (ea : Int), .int .u32 (el : Int), .int .u16 (ef : Int), .int .u16 (ex : Int)] 150 (0, 0))) := X7.out.last _ _ _; have G8 : Hid (s.e = 0 → s.d = De.mk ea el ef ex ∧ SegIn 0 (((w7.alloc (.cells #[.int .u64 0, .int .u32 0, .int .u16 0, .int .u16 0] 150)).setRow w7.heap.size #[.int .u64 (ea : Int), .int .u32 (el : Int), .int .u16 (ef : Int), .int .u16 (ex : Int)]).setRow q #[.slice a2 L2 c2, .int .u64 (da : Int), .int .u64 (dl : Int)]) (.slice a2 L2 c2) s.l ∧ ∀ g, (Value.slice a2 L2 c2).ownBlock = some g → w.heap.size + 1 + 1 < g) := fun h => ⟨(G7.out h).1, (G7.out h).2.1.kept (fun g hg => last_other ((G7.out h).2.2 g hg).2), fun g hg => ((G7.out h).2.2 g hg).1⟩; clear X7 G7; generalize ((w7.alloc (.cells #[.int .u64 0, .int .u32 0, .int .u16 0, .int .u16 0] 150)).setRow w7.heap.size #[.int .u64 (ea : Int), .int .u32 (el : Int), .int .u16 (ef : Int), .int .u16 (ex : Int)]).setRow q #[.slice a2 L2 c2, .int .u64 (da : Int), .int .u64 (dl : Int)] = w8 at *; generalize w7.heap.size = pe at *)
          obtain ⟨se, hse⟩ : ∃ e, s.e = e := ⟨_, rfl⟩
          have HSE : Hid (s.e = se) := hse
          rw [hse] at G8
          rw [hse]
          clear hse
          by_cases hz : se = 0
          case neg =>
            have hz1 : ((se : Int) == 0) = false := by simp; omega
            have hz3 : ((se : Int) != 0) = true := by simp; omega
            have hz2 : ¬ (se : Int) = 0 := by omega
            have HE : Hid (cn = ⟨se, [], 0, 0⟩) := HCN.out.1.symm.trans (by rw [walk_err2 HCN.out.2 HRE.out HF4.out HT0.out HS.out (by rw [HSE.out]; exact hz), HSE.out])
            clear hz
            go_upto_region 18 with fail
            refine wp_region_list ?_
            (refine wpList_step (fun KK hKK => ?_); go_simp; refine hKK _ _ ?_; clear hKK KK)
            (refine wpList_step (fun KK hKK => ?_); go_simp; refine hKK _ _ ?_; clear hKK KK)
            refine wpList_store_row rfl 64 _ _ rfl (w.heap.size + 1 + 1) #[.slice none 0 0, .int .u64 0, .int .u64 0] rfl rfl 64 #[.slice none 0 0, .int .u64 0, .int .u64 0] X8.out.1.1.2.2.1 info44 rfl (by simp [Value.oneCell']) ?_
            have HY : Hid (Below w.heap.size w (w8.setRow (w.heap.size + 1 + 1) #[.slice none 0 0, .int .u64 0, .int .u64 0]) ∧ (w8.setRow (w.heap.size + 1 + 1) #[.slice none 0 0, .int .u64 0, .int .u64 0]).heap[w.heap.size + 1 + 1]? = some (.cells #[.slice none 0 0, .int .u64 0, .int .u64 0] 64 (0, 0)) ∧ SegIn 0 (w8.setRow (w.heap.size + 1 + 1) #[.slice none 0 0, .int .u64 0, .int .u64 0]) (.slice none 0 0) []) := ⟨below_setRow X8.out.1.1.2.2.2 (by omega) _, setRow_heap _ _ _ _ _ _ X8.out.1.1.2.2.1, segs_nil _ _⟩
            generalize w8.setRow (w.heap.size + 1 + 1) #[.slice none 0 0, .int .u64 0, .int .u64 0] = w9 at *
            obtain ⟨k0, k1, k2⟩ := box3_facts HY.out.2.1
            go_wp2_with fail
            refine bodyPost_ret (v := .tuple #[.agg #[.slice none 0 0, .int .u64 0, .int .u64 0], .int .i64 (se : Int)]) (by simp [results, Tryz.results49, go_sem, k0, k1, k2]) rfl ?_
            rw [HE.out]
            exact ⟨none, 0, 0, rfl, HY.out.2.2, HY.out.1, (fun g hg => by cases hg)⟩
          subst hz
          have G9 := G8.out rfl
          have hef : ef ≤ 65535 := by have := HSA.out.f; rw [G9.1] at this; exact this
          obtain ⟨f5, hf5⟩ : ∃ b, fl ef 4 = b := ⟨_, rfl⟩
          have H5 : Hid (∀ V, Calls Tryz.prog 87 #[.agg #[.int .u64 (ea : Int), .int .u32 (el : Int), .int .u16 (ef : Int), .int .u16 (ex : Int)], .int .u16 4] V fun e w' => e = .returned (.bool f5) ∧ Below V.heap.size V w') := by
            intro V; rw [← hf5]; exact flag4 ea el ef ex hef V
          have HF5 : Hid (fl s.d.f 4 = f5) := by show fl s.d.f 4 = f5; rw [G9.1]; exact hf5
          have HG9 : Hid (SegIn 0 w8 (.slice a2 L2 c2) s.l ∧ ∀ g, (Value.slice a2 L2 c2).ownBlock = some g → w.heap.size + 1 + 1 < g) := G9.2
          clear hf5 G8 G9
          obtain ⟨d0, d1, d2, d3⟩ := box4_facts X8.out.2
          cases f5 with
          | true =>
            have HE : Hid (cn = ⟨153, [], 0, 0⟩) := HCN.out.1.symm.trans (walk_nest HCN.out.2 HRE.out HF4.out HT0.out HS.out HSE.out HF5.out)
            go_upto_region 18 with (go_at_call 87; refine (H5.out _).mono ?_; rintro e w10 ⟨rfl, hb⟩; have X9 : Hid (Dl w w10 va nn vc n D A Uu p #[.int .u64 (da : Int), .int .u32 (dl : Int), .int .u16 (df : Int), .int .u16 (dx : Int)] q #[.slice a2 L2 c2, .int .u64 (da : Int), .int .u64 (dl : Int)]) := X8.out.1.below hb; clear hb d0 d1 d2 d3)
            clear X8
            go_upto_region 18 with fail
            refine wp_region_list ?_
            (refine wpList_step (fun KK hKK => ?_); go_simp; refine hKK _ _ ?_; clear hKK KK)
            (refine wpList_step (fun KK hKK => ?_); go_simp; refine hKK _ _ ?_; clear hKK KK)
            refine wpList_store_row rfl 64 _ _ rfl (w.heap.size + 1 + 1) #[.slice none 0 0, .int .u64 0, .int .u64 0] rfl rfl 64 #[.slice none 0 0, .int .u64 0, .int .u64 0] X9.out.1.2.2.1 info44 rfl (by simp [Value.oneCell']) ?_
            have HY : Hid (Below w.heap.size w (w10.setRow (w.heap.size + 1 + 1) #[.slice none 0 0, .int .u64 0, .int .u64 0]) ∧ (w10.setRow (w.heap.size + 1 + 1) #[.slice none 0 0, .int .u64 0, .int .u64 0]).heap[w.heap.size + 1 + 1]? = some (.cells #[.slice none 0 0, .int .u64 0, .int .u64 0] 64 (0, 0)) ∧ SegIn 0 (w10.setRow (w.heap.size + 1 + 1) #[.slice none 0 0, .int .u64 0, .int .u64 0]) (.slice none 0 0) []) := ⟨below_setRow X9.out.1.2.2.2 (by omega) _, setRow_heap _ _ _ _ _ _ X9.out.1.2.2.1, segs_nil _ _⟩
            generalize w10.setRow (w.heap.size + 1 + 1) #[.slice none 0 0, .int .u64 0, .int .u64 0] = w9 at *
            obtain ⟨k0, k1, k2⟩ := box3_facts HY.out.2.1
            go_wp2_with fail
            refine bodyPost_ret (v := .tuple #[.agg #[.slice none 0 0, .int .u64 0, .int .u64 0], .int .i64 153]) (by simp [results, Tryz.results49, go_sem, k0, k1, k2]) rfl ?_
            rw [HE.out]
            exact ⟨none, 0, 0, rfl, HY.out.2.2, HY.out.1, (fun g hg => by cases hg)⟩
          | false =>
            obtain ⟨sl, hsl⟩ : ∃ e, s.l = e := ⟨_, rfl⟩
            rw [hsl] at HG9
            have HE : Hid (cn = ⟨0, sl, da, dl⟩) := HCN.out.1.symm.trans (by rw [walk_two HCN.out.2 HRE.out HF4.out HT0.out HS.out HSE.out HF5.out, G3.out.1, hsl])
            clear hsl
            go_upto_region 19 with (go_at_call 87; refine (H5.out _).mono ?_; rintro e w10 ⟨rfl, hb⟩; have X9 : Hid (Dl w w10 va nn vc n D A Uu p #[.int .u64 (da : Int), .int .u32 (dl : Int), .int .u16 (df : Int), .int .u16 (dx : Int)] q #[.slice a2 L2 c2, .int .u64 (da : Int), .int .u64 (dl : Int)]) := X8.out.1.below hb; have GA : Hid (SegIn 0 w10 (.slice a2 L2 c2) sl) := HG9.out.1.kept (fun g hg => hb.block g (HG9.out.1.lt g hg).2); clear hb d0 d1 d2 d3)
            clear X8
            obtain ⟨e0, e1, e2⟩ := box3_facts X9.out.2.2.1
            go_upto_region 19 with fail
            refine wp_region_list ?_
            (refine wpList_step (fun KK hKK => ?_); go_simp; refine hKK _ _ ?_; clear hKK KK)
            refine wpList_store_row rfl 64 _ _ rfl (w.heap.size + 1 + 1) #[.slice a2 L2 c2, .int .u64 (da : Int), .int .u64 (dl : Int)] rfl rfl 64 #[.slice none 0 0, .int .u64 0, .int .u64 0] X9.out.1.2.2.1 info44 rfl (by simp [Value.oneCell']) ?_
            have HY : Hid (Below w.heap.size w (w10.setRow (w.heap.size + 1 + 1) #[.slice a2 L2 c2, .int .u64 (da : Int), .int .u64 (dl : Int)]) ∧ (w10.setRow (w.heap.size + 1 + 1) #[.slice a2 L2 c2, .int .u64 (da : Int), .int .u64 (dl : Int)]).heap[w.heap.size + 1 + 1]? = some (.cells #[.slice a2 L2 c2, .int .u64 (da : Int), .int .u64 (dl : Int)] 64 (0, 0)) ∧ SegIn 0 (w10.setRow (w.heap.size + 1 + 1) #[.slice a2 L2 c2, .int .u64 (da : Int), .int .u64 (dl : Int)]) (.slice a2 L2 c2) sl) := ⟨below_setRow X9.out.1.2.2.2 (by omega) _, setRow_heap _ _ _ _ _ _ X9.out.1.2.2.1, GA.out.kept (fun g hg => setRow_other _ _ _ _ (by have := HG9.out.2 g hg; omega))⟩
            generalize w10.setRow (w.heap.size + 1 + 1) #[.slice a2 L2 c2, .int .u64 (da : Int), .int .u64 (dl : Int)] = w9 at *
            obtain ⟨k0, k1, k2⟩ := box3_facts HY.out.2.1
            go_wp2_with fail
            refine bodyPost_ret (v := .tuple #[.agg #[.slice a2 L2 c2, .int .u64 (da : Int), .int .u64 (dl : Int)], .int .i64 0]) (by simp [results, Tryz.results49, go_sem, k0, k1, k2]) rfl ?_
            rw [HE.out]
            exact ⟨a2, L2, c2, rfl, HY.out.2.2, HY.out.1, (fun g hg => by have := HG9.out.2 g hg; omega)⟩

end Go.Proofs.YtmjdnocilbnoaaaGreat

/- The document's Fetch: ground. -/
namespace Go.Proofs.YtmjdnocilbnoaaaGreat
open Go.RowKit Go.Maps
set_option linter.unusedVariables false
set_option linter.unusedSimpArgs false
set_option maxRecDepth 100000
theorem ar_add (a b : Nat) (ha : a ≤ 200000) (hb : b ≤ 200000) : wrap64 ((a : Int) + (b : Int)) = ((a + b : Nat) : Int) := by unfold wrap64; omega
theorem ar_sub (a b : Nat) (ha : a ≤ 200000) (hb : b ≤ a) : wrap64 ((a : Int) - (b : Int)) = ((a - b : Nat) : Int) := by unfold wrap64; omega
theorem ar_mod (a : Nat) : (a : Int).tmod 65536 = ((a % 65536 : Nat) : Int) := by rw [Int.tmod_eq_emod_of_nonneg (by omega)]; rfl
theorem ar_id (a : Nat) (h : a ≤ 200000) : wrap64 (a : Int) = (a : Int) := by unfold wrap64; omega
theorem wrap_i64_eq (x : Int) : IntKind.i64.wrap x = wrap64 x := by
  simp [IntKind.wrap, IntKind.signed, IntKind.bits, wrap64]
  try omega
theorem wait_facts {M : Nat → Nat} {A fe of : Nat} (hof : wordN M (A + 2) 2 8192 = of) (hle : ∀ a, M a ≤ 255) (hfe : fe ≤ 65535) : ∃ o1 o2 wt : Nat, waitN M A fe = wt ∧ wrap64 ((of : Int) + 65536) = (o1 : Int) ∧ wrap64 ((o1 : Int) - (fe : Int)) = (o2 : Int) ∧ (o2 : Int).tmod 65536 = (wt : Int) ∧ wrap64 (wt : Int) = (wt : Int) ∧ IntKind.i64.wrap ((of : Int) + 65536) = (o1 : Int) ∧ IntKind.i64.wrap ((o1 : Int) - (fe : Int)) = (o2 : Int) := by
  have hl : of ≤ 65535 := by rw [← hof]; exact rd_lt hle _
  refine ⟨of + 65536, of + 65536 - fe, (of + 65536 - fe) % 65536, by unfold waitN; rw [hof], ar_add of 65536 (by omega) (by omega), ar_sub _ _ (by omega) (by omega), ar_mod _, ar_id _ ?_, (wrap_i64_eq _).trans (ar_add of 65536 (by omega) (by omega)), (wrap_i64_eq _).trans (ar_sub _ _ (by omega) (by omega))⟩
  have := Nat.mod_lt (of + 65536 - fe) (show 0 < 65536 by decide)
  omega
theorem up_facts {fe : Nat} (hfe : fe ≤ 65535) : ∃ f0 f1 : Nat, upN fe = f1 ∧ wrap64 ((fe : Int) + 1) = (f0 : Int) ∧ (f0 : Int).tmod 65536 = (f1 : Int) ∧ wrap64 (f1 : Int) = (f1 : Int) := by
  refine ⟨fe + 1, upN fe, rfl, ar_add fe 1 (by omega) (by omega), ar_mod _, ar_id _ ?_⟩
  have := up_le fe
  omega
theorem int_ne0 {a : Nat} (h : a ≠ 0) : ((a : Int) == 0) = false := by simp; omega
theorem int_eq0 {a : Nat} (h : a = 0) : ((a : Int) == 0) = true := by subst h; rfl
theorem infoDQ : (Tryz.prog.info? 27).map (·.size) = some 9 := by kernel_rfl
theorem infoDC : (Tryz.prog.info? 64).map (·.size) = some 3 := by kernel_rfl
theorem five_in (w : World) (o1 o2 o3 o4 o5 : Obj) : Below w.heap.size w (((((w.alloc o1).alloc o2).alloc o3).alloc o4).alloc o5) ∧ (((((w.alloc o1).alloc o2).alloc o3).alloc o4).alloc o5).heap[w.heap.size]? = some o1 ∧ (((((w.alloc o1).alloc o2).alloc o3).alloc o4).alloc o5).heap[w.heap.size + 1]? = some o2 ∧ (((((w.alloc o1).alloc o2).alloc o3).alloc o4).alloc o5).heap[w.heap.size + 2]? = some o3 ∧ (((((w.alloc o1).alloc o2).alloc o3).alloc o4).alloc o5).heap[w.heap.size + 3]? = some o4 ∧ (((((w.alloc o1).alloc o2).alloc o3).alloc o4).alloc o5).heap[w.heap.size + 4]? = some o5 := by
  have h3 := three_in w o1 o2 o3
  generalize hV : ((w.alloc o1).alloc o2).alloc o3 = V at *
  have hs : V.heap.size = w.heap.size + 3 := by rw [← hV]; simp
  have h2 := two_in V o4 o5
  have hb : Below V.heap.size V ((V.alloc o4).alloc o5) := ((Below.refl _ _).alloc (Nat.le_refl _) _).alloc (by simp) _
  rw [hs] at h2
  exact ⟨below_to h3.2.2.2 hb, below_box h3.1 hb, below_box h3.2.1 hb, below_box h3.2.2.1 hb, h2.1, h2.2⟩
/-- while the document's Fetch runs -/
def Dx (w V : World) (va : Option Addr) (nn vc : Nat) (s : Int) (D A U : Nat) (rd : Bool) (fe us : Nat) (ev al : Bool) (c4 c6 : Array Value) : Prop :=
  Below w.heap.size w V ∧ V.heap[w.heap.size]? = some (.cells #[.int .u64 8192, .slice va nn vc] 33 (0, 0)) ∧ V.heap[w.heap.size + 1]? = some (.cells #[.int .i64 s, .int .u64 (D : Int), .int .u64 (A : Int), .int .u64 (U : Int), .bool rd, .int .i64 (fe : Int), .int .i64 (us : Int), .bool ev, .bool al] 27 (0, 0)) ∧ V.heap[w.heap.size + 2]? = some (.cells c4 27 (0, 0)) ∧ V.heap[w.heap.size + 3]? = some (.cells c6 64 (0, 0)) ∧ V.heap[w.heap.size + 4]? = some (.cells #[.slice none 0 0, .int .u64 0, .int .u64 0] 64 (0, 0))
section
variable {w V V2 : World} {va : Option Addr} {nn vc : Nat} {s : Int} {D A U : Nat} {rd ev al : Bool} {fe us : Nat} {c4 c6 : Array Value}
theorem dx_new : Dx w (((((w.alloc (.cells #[.int .u64 8192, .slice va nn vc] 33)).alloc (.cells #[.int .i64 s, .int .u64 (D : Int), .int .u64 (A : Int), .int .u64 (U : Int), .bool rd, .int .i64 (fe : Int), .int .i64 (us : Int), .bool ev, .bool al] 27)).alloc (.cells #[.int .i64 0, .int .u64 0, .int .u64 0, .int .u64 0, .bool false, .int .i64 0, .int .i64 0, .bool false, .bool false] 27)).alloc (.cells #[.slice none 0 0, .int .u64 0, .int .u64 0] 64)).alloc (.cells #[.slice none 0 0, .int .u64 0, .int .u64 0] 64)) va nn vc s D A U rd fe us ev al #[.int .i64 0, .int .u64 0, .int .u64 0, .int .u64 0, .bool false, .int .i64 0, .int .i64 0, .bool false, .bool false] #[.slice none 0 0, .int .u64 0, .int .u64 0] := five_in w _ _ _ _ _
theorem Dx.below (h : Dx w V va nn vc s D A U rd fe us ev al c4 c6) (hb : Below V.heap.size V V2) : Dx w V2 va nn vc s D A U rd fe us ev al c4 c6 := ⟨below_to h.1 hb, below_box h.2.1 hb, below_box h.2.2.1 hb, below_box h.2.2.2.1 hb, below_box h.2.2.2.2.1 hb, below_box h.2.2.2.2.2 hb⟩
theorem Dx.set4 (h : Dx w V va nn vc s D A U rd fe us ev al c4 c6) (c : Array Value) : Dx w (V.setRow (w.heap.size + 2) c) va nn vc s D A U rd fe us ev al c c6 := ⟨below_setRow h.1 (by omega) _, (setRow_other _ _ _ _ (by omega)).trans h.2.1, (setRow_other _ _ _ _ (by omega)).trans h.2.2.1, setRow_heap _ _ _ _ _ _ h.2.2.2.1, (setRow_other _ _ _ _ (by omega)).trans h.2.2.2.2.1, (setRow_other _ _ _ _ (by omega)).trans h.2.2.2.2.2⟩
theorem Dx.set6 (h : Dx w V va nn vc s D A U rd fe us ev al c4 c6) (c : Array Value) : Dx w (V.setRow (w.heap.size + 3) c) va nn vc s D A U rd fe us ev al c4 c := ⟨below_setRow h.1 (by omega) _, (setRow_other _ _ _ _ (by omega)).trans h.2.1, (setRow_other _ _ _ _ (by omega)).trans h.2.2.1, (setRow_other _ _ _ _ (by omega)).trans h.2.2.2.1, setRow_heap _ _ _ _ _ _ h.2.2.2.2.1, (setRow_other _ _ _ _ (by omega)).trans h.2.2.2.2.2⟩
theorem Dx.one (h : Dx w V va nn vc s D A U rd fe us ev al c4 c6) (f : Nat) : Dx w (V.setCell ⟨w.heap.size + 1, 5, none⟩ (.int .i64 (f : Int))) va nn vc s D A U rd f us ev al c4 c6 := ⟨h.1.setCell (p := ⟨w.heap.size + 1, 5, none⟩) (by show w.heap.size ≤ w.heap.size + 1; omega) _, (heap_setCell _ _ _ _ _ (by omega)).trans h.2.1, set_box h.2.2.1 5 _, (heap_setCell _ _ _ _ _ (by omega)).trans h.2.2.2.1, (heap_setCell _ _ _ _ _ (by omega)).trans h.2.2.2.2.1, (heap_setCell _ _ _ _ _ (by omega)).trans h.2.2.2.2.2⟩
end
theorem ref_ddesc {F : Nat → Prop} {w : World} {va : Option Addr} {nn vc : Nat} {bs : Nat → Nat × Nat} {M : Nat → Nat} (href : RefIn F w (.slice va nn vc) nn bs) (hgt : ∀ q, rget bs nn q = M q) (hle : ∀ a, M a ≤ 255) (hnn : nn ≤ 900000) : DDesc w va nn vc M := by
  intro V hV t i hi
  cases hb : deB t i with
  | false =>
    rw [deN_no hb]
    have hin : inB (deX t i) 16 2147483648 8192 = false := by simpa [deB, hi] using hb
    exact rdesc_out va nn vc t (deX t i) i hi rfl hin V
  | true =>
    have hin : inB (deX t i) 16 2147483648 8192 = true := by simp only [deB, Bool.and_eq_true, decide_eq_true_iff] at hb; exact hb.2
    exact rdesc_in (href.below hV) hgt hle (by omega) t (deX t i) i hi rfl hin _ _ _ _ (deN_at hb)
end Go.Proofs.YtmjdnocilbnoaaaGreat
