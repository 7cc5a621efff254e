/- Texts put together. -/
import Derived.Test.YtmjdnocilbnoaaaYb
import Derived.Test.YtmjdnocilbnoaaaYc
import Derived.Test.YtmjdnocilbnoaaaYa
import Derived.Test.YtmjdnocilbnoaaaYd
import Derived.Deep.RegionHeld3
import Derived.Defers
import Derived.Recover
/- A queue, plain: what is fetched, returned, asked, told, served. -/
namespace Go.Proofs.Ytmjdnocilbnoaaa
open Go.RowKit Go.Maps
set_option linter.unusedVariables false
set_option linter.unusedSimpArgs false
set_option maxRecDepth 100000
theorem box9_facts {w : World} {b : Nat} {x0 x1 x2 x3 x4 x5 x6 x7 x8 : Value} {t : TypeId} (h : w.heap[b]? = some (.cells #[x0, x1, x2, x3, x4, x5, x6, x7, x8] t (0, 0))) : w.cell? ⟨b, 0, none⟩ = some x0 ∧ w.cell? ⟨b, 1, none⟩ = some x1 ∧ w.cell? ⟨b, 2, none⟩ = some x2 ∧ w.cell? ⟨b, 3, none⟩ = some x3 ∧ w.cell? ⟨b, 4, none⟩ = some x4 ∧ w.cell? ⟨b, 5, none⟩ = some x5 ∧ w.cell? ⟨b, 6, none⟩ = some x6 ∧ w.cell? ⟨b, 7, none⟩ = some x7 ∧ w.cell? ⟨b, 8, none⟩ = some x8 := ⟨cellOf h 0 _ rfl, cellOf h 1 _ rfl, cellOf h 2 _ rfl, cellOf h 3 _ rfl, cellOf h 4 _ rfl, cellOf h 5 _ rfl, cellOf h 6 _ rfl, cellOf h 7 _ rfl, cellOf h 8 _ rfl⟩
/-- a fetch: nothing or an error ahead of any head; or a head and what its chain is -/
inductive Ft where
  | non (e : Int)
  | got (h : Nat) (c : Cn)
/-- how many wait -/
def waitN (M : Nat → Nat) (A fe : Nat) : Nat := (wordN M (A + 2) 2 8192 + 65536 - fe) % 65536
def headN (M : Nat → Nat) (n A fe : Nat) : Nat := wordN M (A + 4 + 2 * (fe % n)) 2 8192
def fetchR (M : Nat → Nat) (s : Int) (D A U : Nat) (rd : Bool) (fe : Nat) (al : Bool) : Ft :=
  if rd = false then .non 0 else if chkN s D A U 8192 ≠ 0 then .non (chkN s D A U 8192) else if waitN M A fe = 0 then .non 0 else if s.toNat < waitN M A fe then .non 156 else .got (headN M s.toNat A fe) (walkR M D s.toNat (headN M s.toNat A fe : Nat) al)
section
variable {M : Nat → Nat} {s : Int} {n D A U fe : Nat} {rd al : Bool}
theorem fetch_idle : fetchR M s D A U false fe al = .non 0 := by simp [fetchR]
theorem fetch_bad (h : chkN s D A U 8192 ≠ 0) : fetchR M s D A U true fe al = .non (chkN s D A U 8192) := by simp [fetchR, h]
theorem fetch_none (h : chkN (n : Int) D A U 8192 = 0) (h1 : waitN M A fe = 0) : fetchR M (n : Int) D A U true fe al = .non 0 := by simp [fetchR, h, h1]
theorem fetch_jump (h : chkN (n : Int) D A U 8192 = 0) (h1 : waitN M A fe ≠ 0) (h2 : n < waitN M A fe) : fetchR M (n : Int) D A U true fe al = .non 156 := by simp [fetchR, h, h1, h2]
theorem fetch_got (h : chkN (n : Int) D A U 8192 = 0) (h1 : waitN M A fe ≠ 0) (h2 : ¬ n < waitN M A fe) : fetchR M (n : Int) D A U true fe al = .got (headN M n A fe) (walkR M D n (headN M n A fe : Nat) al) := by simp [fetchR, h, h1, h2]
end
/-- one more, modulo 65536 -/
def upN (m : Nat) : Nat := (m + 1) % 65536
theorem up_le (m : Nat) : upN m ≤ 65535 := by unfold upN; omega
/-- the memory behind a Return -/
def retM (M : Nat → Nat) (n U us h c : Nat) : Nat → Nat := over (over M (U + 4 + 8 * (us % n)) 8 (eB h c)) (U + 2) 2 (byteAt (upN us))
def askM (M : Nat → Nat) (n U fe : Nat) (ev : Bool) : Nat → Nat := if ev = true then over M (U + 4 + 8 * n) 2 (byteAt fe) else M
def tellB (M : Nat → Nat) (n A us fr : Nat) (ev : Bool) : Bool := if fr = us then false else if ev = true then pastB (wordN M (A + 4 + 2 * n) 2 8192) fr us else decide (wordN M A 2 8192 % 2 = 0)
/-- what a service comes to -/
structure Gv (σ : Type) where
  s : σ
  M : Nat → Nat
  fe : Nat
  us : Nat
  e : Int
def giveR {σ : Type} (dev : σ → (Nat → Nat) → Nat → Cn → Option (σ × (Nat → Nat) × Nat)) (s : Int) (D A U : Nat) (rd al : Bool) : Nat → σ → (Nat → Nat) → Nat → Nat → Gv σ
  | 0, t, M, fe, us => ⟨t, M, fe, us, 0⟩
  | k + 1, t, M, fe, us => match fetchR M s D A U rd fe al with
    | .non e => ⟨t, M, fe, us, e⟩
    | .got h c => if c.e ≠ 0 then ⟨t, M, upN fe, us, (c.e : Int)⟩ else match dev t M h c with
      | none => ⟨t, M, fe, us, 0⟩
      | some (t', M', cnt) => giveR dev s D A U rd al k t' (retM M' s.toNat U us h cnt) (upN fe) (upN us)
section
variable {σ : Type} {dev : σ → (Nat → Nat) → Nat → Cn → Option (σ × (Nat → Nat) × Nat)} {M : Nat → Nat} {s : Int} {D A U fe us k : Nat} {rd al : Bool} {t : σ}
theorem give_zero : giveR dev s D A U rd al 0 t M fe us = ⟨t, M, fe, us, 0⟩ := rfl
theorem give_non {e : Int} (h : fetchR M s D A U rd fe al = .non e) : giveR dev s D A U rd al (k + 1) t M fe us = ⟨t, M, fe, us, e⟩ := by simp [giveR, h]
theorem give_err {h : Nat} {c : Cn} (h1 : fetchR M s D A U rd fe al = .got h c) (h2 : c.e ≠ 0) : giveR dev s D A U rd al (k + 1) t M fe us = ⟨t, M, upN fe, us, (c.e : Int)⟩ := by simp [giveR, h1, h2]
theorem give_stay {h : Nat} {c : Cn} (h1 : fetchR M s D A U rd fe al = .got h c) (h2 : c.e = 0) (h3 : dev t M h c = none) : giveR dev s D A U rd al (k + 1) t M fe us = ⟨t, M, fe, us, 0⟩ := by simp [giveR, h1, h2, h3]
theorem give_more {h : Nat} {c : Cn} {t' : σ} {M' : Nat → Nat} {cnt : Nat} (h1 : fetchR M s D A U rd fe al = .got h c) (h2 : c.e = 0) (h3 : dev t M h c = some (t', M', cnt)) : giveR dev s D A U rd al (k + 1) t M fe us = giveR dev s D A U rd al k t' (retM M' s.toNat U us h cnt) (upN fe) (upN us) := by simp [giveR, h1, h2, h3]
end
/-- the device of the statements: it writes a byte to all that is to be written -/
def cntN (l : List Seg) : Nat := if 4000 < sizeN true l then 0 else sizeN true l
def fillM (b : Nat) (l : List Seg) (M : Nat → Nat) : Nat → Nat := if 4000 < sizeN true l then M else layS (fun _ => b) (scaL l 0 (sizeN true l)) 0 M
def devF (b : Nat) (room : Nat) (M : Nat → Nat) (h : Nat) (c : Cn) : Option (Nat × (Nat → Nat) × Nat) := if room = 0 then none else some (room - 1, fillM b c.l M, cntN c.l)
end Go.Proofs.Ytmjdnocilbnoaaa

/- The queue: is it ready, does it lie in a memory. -/
namespace Go.Proofs.Ytmjdnocilbnoaaa
open Go.RowKit Go.Maps
set_option linter.unusedVariables false
set_option linter.unusedSimpArgs false
set_option maxRecDepth 100000
/-- a block's cell set -/
theorem set_box {w : World} {b : Nat} {c : Array Value} {t : TypeId} {f : Nat × Nat} (h : w.heap[b]? = some (.cells c t f)) (i : Nat) (u : Value) : (w.setCell ⟨b, i, none⟩ u).heap[b]? = some (.cells (c.setIfInBounds i u) t f) := by
  simp only [World.setCell]
  rw [Array.getElem?_modify, if_pos rfl, h]
  simp
theorem step_set (w : World) (b i : Nat) (u : Value) : Step (fun k => k = b) w (fun k => k = b) (w.setCell ⟨b, i, none⟩ u) :=
  ⟨rfl, rfl, rfl, by simp [World.setCell], fun k _ hk => heap_setCell w b i u k hk, fun _ h => .inl h, fun _ h => h⟩
theorem ready_any {w : World} {qb : Nat} {s : Int} {D A U : Nat} {rd ev al : Bool} {fe us : Nat} (hq : w.heap[qb]? = some (.cells #[.int .i64 s, .int .u64 (D : Int), .int .u64 (A : Int), .int .u64 (U : Int), .bool rd, .int .u16 (fe : Int), .int .u16 (us : Int), .bool ev, .bool al] 40 (0, 0))) : Calls Try.prog 27 #[.pointer (some ⟨qb, 0, none⟩)] w fun e w' => e = .returned (.bool rd) ∧ w' = w := by
  obtain ⟨c0, c1, c2, c3, c4, c5, c6, c7, c8⟩ := box9_facts hq
  clear hq
  go_enter Try.func27, Try.ntmps27
  go_wp2_with fail
  go_ret
  exact ⟨rfl, rfl⟩
theorem lies_any {w : World} {F : Nat → Prop} {rb k : Nat} {M : Nat → Nat} (hr : RamAt w F rb 8192 k (.pointer none) M) {qb : Nat} {s : Int} {D A U : Nat} {rd ev al : Bool} {fe us : Nat} (hq : w.heap[qb]? = some (.cells #[.int .i64 s, .int .u64 (D : Int), .int .u64 (A : Int), .int .u64 (U : Int), .bool rd, .int .u16 (fe : Int), .int .u16 (us : Int), .bool ev, .bool al] 40 (0, 0))) (hD : D < 18446744073709551616) (hA : A < 18446744073709551616) (hU : U < 18446744073709551616) : Calls Try.prog 51 #[.pointer (some ⟨qb, 0, none⟩), .pointer (some ⟨rb, 0, none⟩)] w fun e w' => e = .returned (.bool (chkN s D A U 8192 == 0)) ∧ Below w.heap.size w w' := by
  obtain ⟨c0, c1, c2, c3, c4, c5, c6, c7, c8⟩ := box9_facts hq
  have HR : Hid (RamAt w F rb 8192 k (.pointer none) M ∧ D < 18446744073709551616 ∧ A < 18446744073709551616 ∧ U < 18446744073709551616) := ⟨hr, hD, hA, hU⟩
  clear hq hr hD hA hU
  go_enter Try.func51, Try.ntmps51
  go_wp2_with (go_at_call 66; refine (check_any HR.out.2.1 HR.out.2.2.1 HR.out.2.2.2 HR.out.1 (by omega)).mono ?_; rintro e w1 ⟨rfl, hb1⟩; have X1 : Hid (Below w.heap.size w w1) := hb1; clear hb1)
  go_ret
  exact ⟨rfl, X1.out⟩
theorem good_lies {n D A U : Nat} (hg : Gd n D A U) : (chkN (n : Int) D A U 8192 == 0) = true := by rw [hg.chk]; rfl
theorem gd_bounds {n D A U : Nat} (hg : Gd n D A U) : D < 18446744073709551616 ∧ A < 18446744073709551616 ∧ U < 18446744073709551616 := ⟨hg.d1, by have := hg.a2; omega, by have := hg.u2; omega⟩
theorem lies_good {w : World} {F : Nat → Prop} {rb k : Nat} {M : Nat → Nat} (hr : RamAt w F rb 8192 k (.pointer none) M) {qb : Nat} {n D A U : Nat} {rd ev al : Bool} {fe us : Nat} (hq : w.heap[qb]? = some (.cells #[.int .i64 (n : Int), .int .u64 (D : Int), .int .u64 (A : Int), .int .u64 (U : Int), .bool rd, .int .u16 (fe : Int), .int .u16 (us : Int), .bool ev, .bool al] 40 (0, 0))) (hg : Gd n D A U) : Calls Try.prog 51 #[.pointer (some ⟨qb, 0, none⟩), .pointer (some ⟨rb, 0, none⟩)] w fun e w' => e = .returned (.bool true) ∧ Below w.heap.size w w' := by
  have := lies_any hr hq (gd_bounds hg).1 (gd_bounds hg).2.1 (gd_bounds hg).2.2
  rw [good_lies hg] at this
  exact this
end Go.Proofs.Ytmjdnocilbnoaaa

/- The queue: Tells, Ask. -/
namespace Go.Proofs.Ytmjdnocilbnoaaa
open Go.RowKit Go.Maps
set_option linter.unusedVariables false
set_option linter.unusedSimpArgs false
set_option maxRecDepth 100000
theorem tells_any {w : World} {F : Nat → Prop} {rb k : Nat} {M : Nat → Nat} (hr : RamAt w F rb 8192 k (.pointer none) M) {qb : Nat} {n D A U : Nat} {rd ev al : Bool} {fe us : Nat} (hq : w.heap[qb]? = some (.cells #[.int .i64 (n : Int), .int .u64 (D : Int), .int .u64 (A : Int), .int .u64 (U : Int), .bool rd, .int .u16 (fe : Int), .int .u16 (us : Int), .bool ev, .bool al] 40 (0, 0))) (hg : Gd n D A U) (fr : Nat) (hfr : fr ≤ 65535) (hus : us ≤ 65535) : Calls Try.prog 30 #[.pointer (some ⟨qb, 0, none⟩), .pointer (some ⟨rb, 0, none⟩), .int .u16 (fr : Int)] w fun e w' => e = .returned (.bool (tellB M n A us fr ev)) ∧ Below w.heap.size w w' := by
  have HL : Hid (Calls Try.prog 51 #[.pointer (some ⟨qb, 0, none⟩), .pointer (some ⟨rb, 0, none⟩)] w fun e w' => e = .returned (.bool true) ∧ Below w.heap.size w w') := lies_good hr hq hg
  have HR : Hid (RamAt w F rb 8192 k (.pointer none) M ∧ w.heap[qb]? = some (.cells #[.int .i64 (n : Int), .int .u64 (D : Int), .int .u64 (A : Int), .int .u64 (U : Int), .bool rd, .int .u16 (fe : Int), .int .u16 (us : Int), .bool ev, .bool al] 40 (0, 0)) ∧ Gd n D A U ∧ fr ≤ 65535 ∧ us ≤ 65535) := ⟨hr, hq, hg, hfr, hus⟩
  obtain ⟨r, hrr⟩ : ∃ r, tellB M n A us fr ev = r := ⟨_, rfl⟩
  rw [hrr]
  by_cases h1 : fr = us
  · have e1 : ((fr : Int) == (us : Int)) = true := by simp; omega
    have e2 : r = false := by rw [← hrr]; simp [tellB, h1]
    subst e2
    clear hq hr hg hfr hus hrr h1
    go_enter Try.func30, Try.ntmps30
    go_wp2_with (go_at_call 51; refine (HL.out).mono ?_; rintro e w1 ⟨rfl, hb1⟩; have X1 : Hid (w1.heap[qb]? = some (.cells #[.int .i64 (n : Int), .int .u64 (D : Int), .int .u64 (A : Int), .int .u64 (U : Int), .bool rd, .int .u16 (fe : Int), .int .u16 (us : Int), .bool ev, .bool al] 40 (0, 0)) ∧ Below w.heap.size w w1) := ⟨below_box HR.out.2.1 hb1, hb1⟩; clear hb1; obtain ⟨c0, c1, c2, c3, c4, c5, c6, c7, c8⟩ := box9_facts X1.out.1)
    go_ret
    exact ⟨rfl, X1.out.2⟩
  have e1 : ((fr : Int) == (us : Int)) = false := by simp; omega
  have HM : Hid (∀ a, M a ≤ 255) := hr.le
  cases ev with
  | true =>
    have HT0 : pastB (wordN M (A + 4 + 2 * n) 2 8192) fr us = r := by rw [← hrr]; simp [tellB, h1]
    have HT : Hid (pastB (wordN M (A + 4 + 2 * n) 2 8192) fr us = r) := HT0
    clear HT0
    clear hq hr hg hfr hus hrr h1
    go_enter Try.func30, Try.ntmps30
    go_upto_region 4 with (go_at_call 51; refine (HL.out).mono ?_; rintro e w1 ⟨rfl, hb1⟩; have X1 : Hid (RamAt w1 F rb 8192 k (.pointer none) M ∧ w1.heap[qb]? = some (.cells #[.int .i64 (n : Int), .int .u64 (D : Int), .int .u64 (A : Int), .int .u64 (U : Int), .bool rd, .int .u16 (fe : Int), .int .u16 (us : Int), .bool true, .bool al] 40 (0, 0)) ∧ Below w.heap.size w w1) := ⟨HR.out.1.below hb1, below_box HR.out.2.1 hb1, hb1⟩; clear hb1; obtain ⟨c0, c1, c2, c3, c4, c5, c6, c7, c8⟩ := box9_facts X1.out.2.1)
    have X2 : Hid (RamAt w1.drew F rb 8192 k (.pointer none) M ∧ w1.drew.heap[qb]? = some (.cells #[.int .i64 (n : Int), .int .u64 (D : Int), .int .u64 (A : Int), .int .u64 (U : Int), .bool rd, .int .u16 (fe : Int), .int .u16 (us : Int), .bool true, .bool al] 40 (0, 0)) ∧ Below w.heap.size w w1.drew) := ⟨X1.out.1.below (Below.drew (Below.refl _ _)), X1.out.2.1, X1.out.2.2.drew⟩
    go_region_held3 (fun Z => Z.cell? ⟨qb, 0, none⟩ = some (.int .i64 (n : Int)) ∧ Z.cell? ⟨qb, 1, none⟩ = some (.int .u64 (D : Int)) ∧ Z.cell? ⟨qb, 2, none⟩ = some (.int .u64 (A : Int)) ∧ Z.cell? ⟨qb, 3, none⟩ = some (.int .u64 (U : Int)) ∧ Z.cell? ⟨qb, 4, none⟩ = some (.bool rd) ∧ Z.cell? ⟨qb, 5, none⟩ = some (.int .u16 (fe : Int)) ∧ Z.cell? ⟨qb, 6, none⟩ = some (.int .u16 (us : Int)) ∧ Z.cell? ⟨qb, 7, none⟩ = some (.bool true) ∧ Z.cell? ⟨qb, 8, none⟩ = some (.bool al)) (go_keep) (first | (go_at_call 54; refine (wanted_any X2.out.1 HR.out.2.2.1).mono ?_; rintro e w2 ⟨rfl, hb2⟩; have X3 : Hid (w2.heap[qb]? = some (.cells #[.int .i64 (n : Int), .int .u64 (D : Int), .int .u64 (A : Int), .int .u64 (U : Int), .bool rd, .int .u16 (fe : Int), .int .u16 (us : Int), .bool true, .bool al] 40 (0, 0)) ∧ Below w.heap.size w w2) := ⟨below_box X2.out.2.1 hb2, below_to X2.out.2.2 hb2⟩; clear hb2; obtain ⟨d0, d1, d2, d3, d4, d5, d6, d7, d8⟩ := box9_facts X3.out.1) | (go_at_call 53; refine (passed_any _ _ _ (rd_lt HM.out _) HR.out.2.2.2.1 HR.out.2.2.2.2 _).mono ?_; rintro e w3 ⟨rfl, rfl⟩; rw [HT.out]))
    go_wp2_with fail
    go_ret
    exact ⟨rfl, X3.out.2⟩
  | false =>
    obtain ⟨f, hf⟩ : ∃ f, wordN M A 2 8192 = f := ⟨_, rfl⟩
    have hf2 : f ≤ 65535 := by rw [← hf]; exact rd_lt HM.out _
    have e2 : bits .and .u16 (f : Int) 1 = ((f % 2 : Nat) : Int) := by
      have : bits .and .u16 ((f : Nat) : Int) ((1 : Nat) : Int) = ((f &&& 1 : Nat) : Int) := u16_and_nat f 1 (by omega) (by omega)
      rw [Nat.and_one_is_mod] at this
      exact this
    have e3 : (((f % 2 : Nat) : Int) == 0) = r := by
      rw [← hrr]; unfold tellB; rw [if_neg h1, if_neg (by decide), hf]
      rcases Nat.mod_two_eq_zero_or_one f with h | h <;> rw [h] <;> rfl
    obtain ⟨p, hp⟩ : ∃ p, f % 2 = p := ⟨_, rfl⟩
    rw [hp] at e2 e3
    have HF : Hid (wordN M A 2 8192 = f) := hf
    clear hq hr hg hfr hus hrr h1 hf hp
    go_enter Try.func30, Try.ntmps30
    go_wp2_with (first | (go_at_call 51; refine (HL.out).mono ?_; rintro e w1 ⟨rfl, hb1⟩; have X1 : Hid (RamAt w1 F rb 8192 k (.pointer none) M ∧ w1.heap[qb]? = some (.cells #[.int .i64 (n : Int), .int .u64 (D : Int), .int .u64 (A : Int), .int .u64 (U : Int), .bool rd, .int .u16 (fe : Int), .int .u16 (us : Int), .bool false, .bool al] 40 (0, 0)) ∧ Below w.heap.size w w1) := ⟨HR.out.1.below hb1, below_box HR.out.2.1 hb1, hb1⟩; clear hb1; obtain ⟨c0, c1, c2, c3, c4, c5, c6, c7, c8⟩ := box9_facts X1.out.2.1) | (go_at_call 55; refine (flags_any X1.out.1 HR.out.2.2.1).mono ?_; rintro e w2 ⟨rfl, hb2⟩; rw [HF.out]; have X3 : Hid (Below w.heap.size w w2) := below_to X1.out.2.2 hb2; clear hb2))
    go_ret
    exact ⟨rfl, X3.out⟩
theorem ask_any {w : World} {F : Nat → Prop} {rb k : Nat} {M : Nat → Nat} (hr : RamAt w F rb 8192 k (.pointer none) M) {qb : Nat} {n D A U : Nat} {rd ev al : Bool} {fe us : Nat} (hq : w.heap[qb]? = some (.cells #[.int .i64 (n : Int), .int .u64 (D : Int), .int .u64 (A : Int), .int .u64 (U : Int), .bool rd, .int .u16 (fe : Int), .int .u16 (us : Int), .bool ev, .bool al] 40 (0, 0))) (hg : Gd n D A U) (hF : ¬ F qb) (hfe : fe ≤ 65535) (hk : k + 2 ≤ 1000000) : Calls Try.prog 29 #[.pointer (some ⟨qb, 0, none⟩), .pointer (some ⟨rb, 0, none⟩)] w fun e w' => e = .returned (.tuple #[]) ∧ ∃ F', RamAt w' F' rb 8192 (k + 2) (.pointer none) (askM M n U fe ev) ∧ Step F w F' w' := by
  have HL : Hid (Calls Try.prog 51 #[.pointer (some ⟨qb, 0, none⟩), .pointer (some ⟨rb, 0, none⟩)] w fun e w' => e = .returned (.bool true) ∧ Below w.heap.size w w') := lies_good hr hq hg
  have HR : Hid (RamAt w F rb 8192 k (.pointer none) M ∧ w.heap[qb]? = some (.cells #[.int .i64 (n : Int), .int .u64 (D : Int), .int .u64 (A : Int), .int .u64 (U : Int), .bool rd, .int .u16 (fe : Int), .int .u16 (us : Int), .bool ev, .bool al] 40 (0, 0)) ∧ Gd n D A U ∧ fe ≤ 65535 ∧ k + 2 ≤ 1000000 ∧ ¬ F qb) := ⟨hr, hq, hg, hfe, hk, hF⟩
  clear hq hr hg hfe hk hF
  cases ev with
  | true =>
    go_enter Try.func29, Try.ntmps29
    go_upto_region 1 with (go_at_call 51; refine (HL.out).mono ?_; rintro e w1 ⟨rfl, hb1⟩; have X1 : Hid (RamAt w1 F rb 8192 k (.pointer none) M ∧ w1.heap[qb]? = some (.cells #[.int .i64 (n : Int), .int .u64 (D : Int), .int .u64 (A : Int), .int .u64 (U : Int), .bool rd, .int .u16 (fe : Int), .int .u16 (us : Int), .bool true, .bool al] 40 (0, 0)) ∧ Below w.heap.size w w1) := ⟨HR.out.1.below hb1, below_box HR.out.2.1 hb1, hb1⟩; clear hb1; obtain ⟨c0, c1, c2, c3, c4, c5, c6, c7, c8⟩ := box9_facts X1.out.2.1)
    have X2 : Hid (RamAt w1.drew F rb 8192 k (.pointer none) M ∧ w1.drew.heap[qb]? = some (.cells #[.int .i64 (n : Int), .int .u64 (D : Int), .int .u64 (A : Int), .int .u64 (U : Int), .bool rd, .int .u16 (fe : Int), .int .u16 (us : Int), .bool true, .bool al] 40 (0, 0)) ∧ Below w.heap.size w w1.drew) := ⟨X1.out.1.below (Below.drew (Below.refl _ _)), X1.out.2.1, X1.out.2.2.drew⟩
    go_region_held3 (fun Z => Z.cell? ⟨qb, 0, none⟩ = some (.int .i64 (n : Int)) ∧ Z.cell? ⟨qb, 1, none⟩ = some (.int .u64 (D : Int)) ∧ Z.cell? ⟨qb, 2, none⟩ = some (.int .u64 (A : Int)) ∧ Z.cell? ⟨qb, 3, none⟩ = some (.int .u64 (U : Int)) ∧ Z.cell? ⟨qb, 4, none⟩ = some (.bool rd) ∧ Z.cell? ⟨qb, 5, none⟩ = some (.int .u16 (fe : Int)) ∧ Z.cell? ⟨qb, 6, none⟩ = some (.int .u16 (us : Int)) ∧ Z.cell? ⟨qb, 7, none⟩ = some (.bool true) ∧ Z.cell? ⟨qb, 8, none⟩ = some (.bool al)) (go_keep) (first | (go_at_call 52; refine (want_any X2.out.1 HR.out.2.2.1 fe HR.out.2.2.2.1 HR.out.2.2.2.2.1).mono ?_; rintro e w2 ⟨rfl, F2, hr2, hs2⟩; have X3 : Hid (RamAt w2 F2 rb 8192 (k + 2) (.pointer none) (over M (U + 4 + 8 * n) 2 (byteAt fe)) ∧ Step F w F2 w2 ∧ w2.heap[qb]? = some (.cells #[.int .i64 (n : Int), .int .u64 (D : Int), .int .u64 (A : Int), .int .u64 (U : Int), .bool rd, .int .u16 (fe : Int), .int .u16 (us : Int), .bool true, .bool al] 40 (0, 0))) := ⟨hr2, (Step.of_below X2.out.2.2).trans hs2, step_box hs2 X2.out.2.1 HR.out.2.2.2.2.2⟩; clear hr2 hs2; obtain ⟨d0, d1, d2, d3, d4, d5, d6, d7, d8⟩ := box9_facts X3.out.2.2))
    go_wp2_with fail
    first | go_end0 | skip
    all_goals exact ⟨rfl, F2, X3.out.1, X3.out.2.1⟩
  | false =>
    go_enter Try.func29, Try.ntmps29
    go_wp2_with (go_at_call 51; refine (HL.out).mono ?_; rintro e w1 ⟨rfl, hb1⟩; have X1 : Hid (RamAt w1 F rb 8192 k (.pointer none) M ∧ w1.heap[qb]? = some (.cells #[.int .i64 (n : Int), .int .u64 (D : Int), .int .u64 (A : Int), .int .u64 (U : Int), .bool rd, .int .u16 (fe : Int), .int .u16 (us : Int), .bool false, .bool al] 40 (0, 0)) ∧ Below w.heap.size w w1) := ⟨HR.out.1.below hb1, below_box HR.out.2.1 hb1, hb1⟩; clear hb1; obtain ⟨c0, c1, c2, c3, c4, c5, c6, c7, c8⟩ := box9_facts X1.out.2.1)
    first | go_end0 | skip
    all_goals exact ⟨rfl, F, X1.out.1.mono (by omega), Step.of_below X1.out.2.2⟩
end Go.Proofs.Ytmjdnocilbnoaaa

/- The queue: Return. -/
namespace Go.Proofs.Ytmjdnocilbnoaaa
open Go.RowKit Go.Maps
set_option linter.unusedVariables false
set_option linter.unusedSimpArgs false
set_option maxRecDepth 100000
theorem step_or {F G F' : Nat → Prop} {w w' : World} (h : Step F w F' w') (hG : ∀ k, G k → k < w.heap.size) : Step (fun k => F k ∨ G k) w (fun k => F' k ∨ G k) w' :=
  ⟨h.os, h.tape, h.output, h.size, fun k hk hn => h.block k hk (fun hf => hn (.inl hf)), fun k hk => by
    rcases hk with hk | hk
    · exact (h.old k hk).imp .inl id
    · exact .inl (.inr hk), fun k hk => hk.imp (h.keep k) id⟩
theorem step_orR {F G G' : Nat → Prop} {w w' : World} (h : Step G w G' w') : Step (fun k => F k ∨ G k) w (fun k => F k ∨ G' k) w' :=
  ⟨h.os, h.tape, h.output, h.size, fun k hk hn => h.block k hk (fun hf => hn (.inr hf)), fun k hk => by
    rcases hk with hk | hk
    · exact .inl (.inl hk)
    · exact (h.old k hk).imp .inr id, fun k hk => hk.imp id (h.keep k)⟩
/-- a queue's block beside a memory's -/
theorem step_q {F F' : Nat → Prop} {w w' : World} {qb : Nat} (h : Step F w F' w') (hq : qb < w.heap.size) : Step (fun k => F k ∨ k = qb) w (fun k => F' k ∨ k = qb) w' := step_or h (fun k hk => by omega)
theorem not_later {F F' : Nat → Prop} {w w' : World} {q : Nat} (h : Step F w F' w') (hq : q < w.heap.size) (hn : ¬ F q) : ¬ F' q := fun hf => by
  rcases h.old q hf with h1 | h1
  · exact hn h1
  · omega
theorem up_wrap {m : Nat} (h : m ≤ 65535) : IntKind.u16.wrap ((m : Int) + 1) = (upN m : Int) := by
  unfold upN
  simp only [IntKind.wrap, IntKind.signed, IntKind.bits]
  simp
  try omega
set_option maxHeartbeats 2000000 in
theorem return_any {w : World} {F : Nat → Prop} {rb k : Nat} {M : Nat → Nat} (hr : RamAt w F rb 8192 k (.pointer none) M) {qb : Nat} {n D A U : Nat} {rd ev al : Bool} {fe us : Nat} (hq : w.heap[qb]? = some (.cells #[.int .i64 (n : Int), .int .u64 (D : Int), .int .u64 (A : Int), .int .u64 (U : Int), .bool rd, .int .u16 (fe : Int), .int .u16 (us : Int), .bool ev, .bool al] 40 (0, 0))) (hg : Gd n D A U) (hF : ¬ F qb) (hd cn : Nat) (hus : us ≤ 65535) (hhd : hd ≤ 65535) (hcn : cn ≤ 4294967295) (hk : k + 10 ≤ 1000000) : Calls Try.prog 50 #[.pointer (some ⟨qb, 0, none⟩), .pointer (some ⟨rb, 0, none⟩), .int .u16 (hd : Int), .int .u32 (cn : Int)] w fun e w' => e = .returned (.tuple #[]) ∧ w'.heap[qb]? = some (.cells #[.int .i64 (n : Int), .int .u64 (D : Int), .int .u64 (A : Int), .int .u64 (U : Int), .bool rd, .int .u16 (fe : Int), .int .u16 (upN us : Int), .bool ev, .bool al] 40 (0, 0)) ∧ ∃ F', RamAt w' F' rb 8192 (k + 10) (.pointer none) (retM M n U us hd cn) ∧ Step (fun k => F k ∨ k = qb) w (fun k => F' k ∨ k = qb) w' ∧ ¬ F' qb := by
  have HL : Hid (Calls Try.prog 51 #[.pointer (some ⟨qb, 0, none⟩), .pointer (some ⟨rb, 0, none⟩)] w fun e w' => e = .returned (.bool true) ∧ Below w.heap.size w w') := lies_good hr hq hg
  have HR : Hid (RamAt w F rb 8192 k (.pointer none) M ∧ w.heap[qb]? = some (.cells #[.int .i64 (n : Int), .int .u64 (D : Int), .int .u64 (A : Int), .int .u64 (U : Int), .bool rd, .int .u16 (fe : Int), .int .u16 (us : Int), .bool ev, .bool al] 40 (0, 0)) ∧ Gd n D A U ∧ us ≤ 65535 ∧ hd ≤ 65535 ∧ cn ≤ 4294967295 ∧ k + 10 ≤ 1000000 ∧ ¬ F qb) := ⟨hr, hq, hg, hus, hhd, hcn, hk, hF⟩
  have hup := up_wrap hus
  obtain ⟨u1, hu1⟩ : ∃ u1, upN us = u1 := ⟨_, rfl⟩
  have HU : Hid (upN us = u1 ∧ u1 ≤ 65535) := ⟨hu1, by rw [← hu1]; exact up_le us⟩
  rw [hu1] at hup ⊢
  clear hq hr hg hus hhd hcn hk hF hu1
  go_enter Try.func50, Try.ntmps50
  go_upto_region 1 with (go_at_call 51; refine (HL.out).mono ?_; rintro e w1 ⟨rfl, hb1⟩; have X1 : Hid (RamAt w1 F rb 8192 k (.pointer none) M ∧ w1.heap[qb]? = some (.cells #[.int .i64 (n : Int), .int .u64 (D : Int), .int .u64 (A : Int), .int .u64 (U : Int), .bool rd, .int .u16 (fe : Int), .int .u16 (us : Int), .bool ev, .bool al] 40 (0, 0)) ∧ Below w.heap.size w w1) := ⟨HR.out.1.below hb1, below_box HR.out.2.1 hb1, hb1⟩; clear hb1)
  obtain ⟨c0, c1, c2, c3, c4, c5, c6, c7, c8⟩ := box9_facts X1.out.2.1
  have X2 : Hid (RamAt w1.drew F rb 8192 k (.pointer none) M ∧ w1.drew.heap[qb]? = some (.cells #[.int .i64 (n : Int), .int .u64 (D : Int), .int .u64 (A : Int), .int .u64 (U : Int), .bool rd, .int .u16 (fe : Int), .int .u16 (us : Int), .bool ev, .bool al] 40 (0, 0)) ∧ Below w.heap.size w w1.drew) := ⟨X1.out.1.below (Below.drew (Below.refl _ _)), X1.out.2.1, X1.out.2.2.drew⟩
  clear X1 HL
  go_region_held3 (fun Z => Z.cell? ⟨qb, 0, none⟩ = some (.int .i64 (n : Int)) ∧ Z.cell? ⟨qb, 1, none⟩ = some (.int .u64 (D : Int)) ∧ Z.cell? ⟨qb, 2, none⟩ = some (.int .u64 (A : Int)) ∧ Z.cell? ⟨qb, 3, none⟩ = some (.int .u64 (U : Int)) ∧ Z.cell? ⟨qb, 4, none⟩ = some (.bool rd) ∧ Z.cell? ⟨qb, 5, none⟩ = some (.int .u16 (fe : Int)) ∧ Z.cell? ⟨qb, 6, none⟩ = some (.int .u16 (us : Int)) ∧ Z.cell? ⟨qb, 7, none⟩ = some (.bool ev) ∧ Z.cell? ⟨qb, 8, none⟩ = some (.bool al)) (go_keep) (first | (go_at_call 71; refine (put15_any X2.out.1 HR.out.2.2.1 us (us % n) hd cn HR.out.2.2.2.1 rfl HR.out.2.2.2.2.1 HR.out.2.2.2.2.2.1 (by have := HR.out.2.2.2.2.2.2.1; omega)).mono ?_; rintro e w2 ⟨rfl, F2, hr2, hs2⟩; have X3 : Hid (RamAt w2 F2 rb 8192 (k + 8) (.pointer none) (over M (U + 4 + 8 * (us % n)) 8 (eB hd cn)) ∧ w2.heap[qb]? = some (.cells #[.int .i64 (n : Int), .int .u64 (D : Int), .int .u64 (A : Int), .int .u64 (U : Int), .bool rd, .int .u16 (fe : Int), .int .u16 (us : Int), .bool ev, .bool al] 40 (0, 0)) ∧ ¬ F2 qb ∧ Step F w F2 w2) := ⟨hr2, step_box hs2 X2.out.2.1 HR.out.2.2.2.2.2.2.2, not_later hs2 (Array.getElem?_eq_some_iff.1 X2.out.2.1).1 HR.out.2.2.2.2.2.2.2, (Step.of_below X2.out.2.2).trans hs2⟩; clear hr2 hs2; obtain ⟨d0, d1, d2, d3, d4, d5, d6, d7, d8⟩ := box9_facts X3.out.2.1))
  clear X2 c0 c1 c2 c3 c4 c5 c6 c7 c8
  have c6f := frozenOf X3.out.2.1 6
  go_upto_region 3 with fail
  have X4 : Hid (RamAt (w2.setCell ⟨qb, 6, none⟩ (.int .u16 (u1 : Int))) F2 rb 8192 (k + 8) (.pointer none) (over M (U + 4 + 8 * (us % n)) 8 (eB hd cn)) ∧ (w2.setCell ⟨qb, 6, none⟩ (.int .u16 (u1 : Int))).heap[qb]? = some (.cells #[.int .i64 (n : Int), .int .u64 (D : Int), .int .u64 (A : Int), .int .u64 (U : Int), .bool rd, .int .u16 (fe : Int), .int .u16 (u1 : Int), .bool ev, .bool al] 40 (0, 0)) ∧ ¬ F2 qb ∧ Step (fun k => F k ∨ k = qb) w (fun k => F2 k ∨ k = qb) (w2.setCell ⟨qb, 6, none⟩ (.int .u16 (u1 : Int)))) := ⟨X3.out.1.setCell X3.out.2.2.1 6 _, set_box X3.out.2.1 6 _, X3.out.2.2.1, (step_q X3.out.2.2.2 (Array.getElem?_eq_some_iff.1 HR.out.2.1).1).trans (step_orR (step_set _ _ _ _))⟩
  clear X3 d0 d1 d2 d3 d4 d5 d6 d7 d8 c6f
  generalize w2.setCell ⟨qb, 6, none⟩ (.int .u16 (u1 : Int)) = w3 at *
  obtain ⟨c0, c1, c2, c3, c4, c5, c6, c7, c8⟩ := box9_facts X4.out.2.1
  have X5 : Hid (RamAt w3.drew F2 rb 8192 (k + 8) (.pointer none) (over M (U + 4 + 8 * (us % n)) 8 (eB hd cn)) ∧ w3.drew.heap[qb]? = some (.cells #[.int .i64 (n : Int), .int .u64 (D : Int), .int .u64 (A : Int), .int .u64 (U : Int), .bool rd, .int .u16 (fe : Int), .int .u16 (u1 : Int), .bool ev, .bool al] 40 (0, 0)) ∧ ¬ F2 qb ∧ Step (fun k => F k ∨ k = qb) w (fun k => F2 k ∨ k = qb) w3.drew) := ⟨X4.out.1.below (Below.drew (Below.refl _ _)), X4.out.2.1, X4.out.2.2.1, X4.out.2.2.2.trans (Step.of_below (Below.drew (Below.refl _ _)))⟩
  clear X4
  go_region_held3 (fun Z => Z.cell? ⟨qb, 0, none⟩ = some (.int .i64 (n : Int)) ∧ Z.cell? ⟨qb, 1, none⟩ = some (.int .u64 (D : Int)) ∧ Z.cell? ⟨qb, 2, none⟩ = some (.int .u64 (A : Int)) ∧ Z.cell? ⟨qb, 3, none⟩ = some (.int .u64 (U : Int)) ∧ Z.cell? ⟨qb, 4, none⟩ = some (.bool rd) ∧ Z.cell? ⟨qb, 5, none⟩ = some (.int .u16 (fe : Int)) ∧ Z.cell? ⟨qb, 6, none⟩ = some (.int .u16 (u1 : Int)) ∧ Z.cell? ⟨qb, 7, none⟩ = some (.bool ev) ∧ Z.cell? ⟨qb, 8, none⟩ = some (.bool al)) (go_keep) (first | (go_at_call 72; refine (publish_any X5.out.1 HR.out.2.2.1 u1 HU.out.2 (by have := HR.out.2.2.2.2.2.2.1; omega)).mono ?_; rintro e w4 ⟨rfl, F4, hr4, hs4⟩; have X6 : Hid (RamAt w4 F4 rb 8192 (k + 8 + 2) (.pointer none) (over (over M (U + 4 + 8 * (us % n)) 8 (eB hd cn)) (U + 2) 2 (byteAt u1)) ∧ w4.heap[qb]? = some (.cells #[.int .i64 (n : Int), .int .u64 (D : Int), .int .u64 (A : Int), .int .u64 (U : Int), .bool rd, .int .u16 (fe : Int), .int .u16 (u1 : Int), .bool ev, .bool al] 40 (0, 0)) ∧ Step (fun k => F k ∨ k = qb) w (fun k => F4 k ∨ k = qb) w4 ∧ ¬ F4 qb) := ⟨hr4, step_box hs4 X5.out.2.1 X5.out.2.2.1, X5.out.2.2.2.trans (step_q hs4 (Array.getElem?_eq_some_iff.1 X5.out.2.1).1), not_later hs4 (Array.getElem?_eq_some_iff.1 X5.out.2.1).1 X5.out.2.2.1⟩; clear hr4 hs4; obtain ⟨d0, d1, d2, d3, d4, d5, d6, d7, d8⟩ := box9_facts X6.out.2.1))
  go_wp2_with fail
  first | go_end0 | skip
  all_goals
    refine ⟨rfl, X6.out.2.1, F4, ?_, X6.out.2.2⟩
    unfold retM
    rw [HU.out.1]
    exact X6.out.1
end Go.Proofs.Ytmjdnocilbnoaaa

/- A memory that isn't watched. -/
namespace Go.Proofs.Ytmjdnocilbnoaaa
open Go.RowKit Go.Maps
set_option linter.unusedVariables false
set_option linter.unusedSimpArgs false
set_option maxRecDepth 100000
/-- a memory that isn't watched, all of its blocks as they were in w0 -/
def NilI (w0 : World) (G : Nat → Prop) (rb k : Nat) (M : Nat → Nat) (F : Nat → Prop) (w : World) : Prop := F = G ∧ RamAt w G rb 8192 k (.pointer none) M ∧ ∀ z, G z → w.heap[z]? = w0.heap[z]?
theorem NilI.below {w0 : World} {G : Nat → Prop} {rb k : Nat} {M : Nat → Nat} {F : Nat → Prop} {w w' : World} (h : NilI w0 G rb k M F w) (hb : Below w.heap.size w w') : NilI w0 G rb k M F w' := ⟨h.1, h.2.1.below hb, fun z hz => (hb.block z (h.2.1.lt z hz)).trans (h.2.2 z hz)⟩
theorem nil_mem (w0 : World) (G : Nat → Prop) (rb k : Nat) (M : Nat → Nat) : Wm rb M (NilI w0 G rb k M) :=
  ⟨fun F w h => ⟨G, k, _, h.2.1⟩, fun F w h => by rw [h.1]; exact h.2.1.lt, fun F w G2 G' w' h hs hd => by
    obtain ⟨rfl, h1, h2⟩ := h
    exact ⟨rfl, h1.step hs hd, fun z hz => (hs.block z (h1.lt z hz) (hd z hz)).trans (h2 z hz)⟩⟩
theorem nil_desc (w0 : World) (G : Nat → Prop) (rb k : Nat) (M : Nat → Nat) (t n : Nat) : DescOk rb M (NilI w0 G rb k M) t n := by
  intro F w i hi h
  cases hb : deB t i with
  | false =>
    rw [deN_no hb]
    by_cases h5 : i ≤ 255
    · have hin : inB (deX t i) 16 2147483648 8192 = false := by simpa [deB, h5] using hb
      exact (desc_out h.2.1 t (deX t i) i h5 rfl hin).mono fun e w' ⟨he, hw⟩ => ⟨he, F, h.below hw, Step.of_below hw⟩
    · exact (desc_no _ t (i : Int) (.inr (by omega)) w).mono fun e w' ⟨he, hw⟩ => ⟨he, F, h.below hw, Step.of_below hw⟩
  | true =>
    have h5 : i ≤ 255 := by simp only [deB, Bool.and_eq_true, decide_eq_true_iff] at hb; exact hb.1
    have hin : inB (deX t i) 16 2147483648 8192 = true := by simp only [deB, Bool.and_eq_true, decide_eq_true_iff] at hb; exact hb.2
    exact (desc_in h.2.1 t (deX t i) i h5 rfl hin _ _ _ _ (deN_at hb)).mono fun e w' ⟨he, hw⟩ => ⟨he, F, h.below hw, Step.of_below hw⟩
/-- Walk of a memory that isn't watched -/
theorem walk_nil {rb k : Nat} {M : Nat → Nat} {F : Nat → Prop} {w : World} (h : RamAt w F rb 8192 k (.pointer none) M) (n D A Uu : Nat) (hn : n ≤ 256) (hd : Int) (al : Bool) :
    Calls Try.prog 69 #[.pointer (some ⟨rb, 0, none⟩), .agg #[.int .i64 (n : Int), .int .u64 (D : Int), .int .u64 (A : Int), .int .u64 (Uu : Int)], .int .i64 hd, .bool al] w fun e w' => ∃ v, e = .returned (.tuple #[.agg #[v, .int .u64 ((walkR M D n hd al).ta : Int), .int .u64 ((walkR M D n hd al).tl : Int)], .int .i64 ((walkR M D n hd al).e : Int)]) ∧ SegIn w.heap.size w' v (walkR M D n hd al).l ∧ Below w.heap.size w w' := by
  refine (walk_any (F := F) (nil_mem w F rb k M) h.le n D A Uu hn hd al ⟨rfl, h, fun _ _ => rfl⟩ (nil_desc w F rb k M D n) (fun r _ _ _ _ => nil_desc w F rb k M _ _)).mono ?_
  rintro e w' ⟨v, he, F', ⟨rfl, hr, hk⟩, hs, hsg, hg⟩
  refine ⟨v, he, hsg, ⟨hs.os, hs.tape, hs.output, hs.size, fun z hz => ?_⟩⟩
  by_cases hf : F' z
  · exact hk z hf
  · exact hs.block z hz hf
end Go.Proofs.Ytmjdnocilbnoaaa

/- The queue: Fetch. -/
namespace Go.Proofs.Ytmjdnocilbnoaaa
open Go.RowKit Go.Maps
set_option linter.unusedVariables false
set_option linter.unusedSimpArgs false
set_option maxRecDepth 100000
theorem ram_q {F : Nat → Prop} {w w' : World} {rb size k qb : Nat} {lg : Value} {M : Nat → Nat} (h : RamAt w F rb size k lg M) (hs : Step (fun k => k = qb) w (fun k => k = qb) w') (hn : ¬ F qb) : RamAt w' F rb size k lg M := h.kept hs.size (fun z hz => hs.block z (h.lt z hz) (fun e => hn (e ▸ hz)))
theorem infoI : (Try.prog.info? 108).map (·.size) = some 4 := by kernel_rfl
theorem infoC : (Try.prog.info? 50).map (·.size) = some 3 := by kernel_rfl
/-- while Fetch runs: the item in its block c, the queue fetched so far -/
def Fx (w V : World) (F : Nat → Prop) (rb k : Nat) (M : Nat → Nat) (qb : Nat) (s : Int) (D A U : Nat) (rd : Bool) (fe us : Nat) (ev al : Bool) (c : Array Value) : Prop :=
  Step (fun k => k = qb) w (fun k => k = qb) V ∧ V.heap[w.heap.size]? = some (.cells c 108 (0, 0)) ∧ RamAt V F rb 8192 k (.pointer none) M ∧ V.heap[qb]? = some (.cells #[.int .i64 s, .int .u64 (D : Int), .int .u64 (A : Int), .int .u64 (U : Int), .bool rd, .int .u16 (fe : Int), .int .u16 (us : Int), .bool ev, .bool al] 40 (0, 0)) ∧ ¬ F qb ∧ qb < w.heap.size ∧ ∀ z, F z → z < w.heap.size
section
variable {w V V2 : World} {F : Nat → Prop} {rb k : Nat} {M : Nat → Nat} {qb : Nat} {s : Int} {D A U : Nat} {rd ev al : Bool} {fe us : Nat} {c : Array Value}
theorem Fx.below (h : Fx w V F rb k M qb s D A U rd fe us ev al c) (hb : Below V.heap.size V V2) : Fx w V2 F rb k M qb s D A U rd fe us ev al c := ⟨h.1.trans (Step.of_below hb), below_box h.2.1 hb, h.2.2.1.below hb, below_box h.2.2.2.1 hb, h.2.2.2.2⟩
theorem Fx.set (h : Fx w V F rb k M qb s D A U rd fe us ev al c) (c' : Array Value) : Fx w (V.setRow w.heap.size c') F rb k M qb s D A U rd fe us ev al c' := by
  obtain ⟨h1, h2, h3, h4, h5, h6, h7⟩ := h
  refine ⟨⟨h1.os, h1.tape, h1.output, by simpa [World.setRow] using h1.size, fun z hz hn => (setRow_other _ _ _ _ (by omega)).trans (h1.block z hz hn), h1.old, h1.keep⟩, setRow_heap _ _ _ _ _ _ h2, h3.kept (by simp [World.setRow]) (fun z hz => setRow_other _ _ _ _ (fun e => ?_)), (setRow_other _ _ _ _ (by omega)).trans h4, h5, h6, h7⟩
  subst e
  exact absurd (h7 _ hz) (by omega)
theorem Fx.other {p : Nat} (h : Fx w V F rb k M qb s D A U rd fe us ev al c) (hp : w.heap.size < p) (c' : Array Value) : Fx w (V.setRow p c') F rb k M qb s D A U rd fe us ev al c := by
  obtain ⟨h1, h2, h3, h4, h5, h6, h7⟩ := h
  exact ⟨⟨h1.os, h1.tape, h1.output, by simpa [World.setRow] using h1.size, fun z hz hn => (setRow_other _ _ _ _ (by omega)).trans (h1.block z hz hn), h1.old, h1.keep⟩, (setRow_other _ _ _ _ (by omega)).trans h2, h3.kept (by simp [World.setRow]) (fun z hz => setRow_other _ _ _ _ (by have := h7 z hz; omega)), (setRow_other _ _ _ _ (by omega)).trans h4, h5, h6, h7⟩
theorem Fx.one (h : Fx w V F rb k M qb s D A U rd fe us ev al c) (fe' : Nat) : Fx w (V.setCell ⟨qb, 5, none⟩ (.int .u16 (fe' : Int))) F rb k M qb s D A U rd fe' us ev al c :=
  ⟨h.1.trans (step_set _ _ _ _), (heap_setCell _ _ _ _ _ (by have := h.2.2.2.2.2.1; omega)).trans h.2.1, h.2.2.1.setCell h.2.2.2.2.1 _ _, set_box h.2.2.2.1 5 _, h.2.2.2.2⟩
end

theorem fetch_off {w : World} {F : Nat → Prop} {rb k : Nat} {M : Nat → Nat} (hr : RamAt w F rb 8192 k (.pointer none) M) {qb : Nat} {s : Int} {D A U : Nat} {ev al : Bool} {fe us : Nat} (hq : w.heap[qb]? = some (.cells #[.int .i64 s, .int .u64 (D : Int), .int .u64 (A : Int), .int .u64 (U : Int), .bool false, .int .u16 (fe : Int), .int .u16 (us : Int), .bool ev, .bool al] 40 (0, 0))) (hF : ¬ F qb) : Calls Try.prog 48 #[.pointer (some ⟨qb, 0, none⟩), .pointer (some ⟨rb, 0, none⟩)] w fun e w' => e = .returned (.tuple #[.agg #[.int .u16 0, .slice none 0 0, .int .u64 0, .int .u64 0], .bool false, .int .i64 0]) ∧ w'.heap[qb]? = some (.cells #[.int .i64 s, .int .u64 (D : Int), .int .u64 (A : Int), .int .u64 (U : Int), .bool false, .int .u16 (fe : Int), .int .u16 (us : Int), .bool ev, .bool al] 40 (0, 0)) ∧ Step (fun k => k = qb) w (fun k => k = qb) w' := by
  have XB : Hid (Fx w (w.alloc (.cells #[.int .u16 0, .slice none 0 0, .int .u64 0, .int .u64 0] 108)) F rb k M qb s D A U false fe us ev al #[.int .u16 0, .slice none 0 0, .int .u64 0, .int .u64 0]) := ⟨Step.of_below (one_box _ _), heap_alloc_new _ _, hr.below (one_box _ _), below_box hq (one_box _ _), hF, (Array.getElem?_eq_some_iff.1 hq).1, hr.lt⟩
  clear hq hr hF
  go_enter Try.func48, Try.ntmps48
  go_upto_region 1 with fail
  generalize w.alloc (.cells #[.int .u16 0, .slice none 0 0, .int .u64 0, .int .u64 0] 108) = v0 at *
  go_upto_region 2 with (go_at_call 27; refine (ready_any XB.out.2.2.2.1).mono ?_; rintro e w0 ⟨rfl, rfl⟩)
  refine wp_region_list ?_
  (refine wpList_step (fun KK hKK => ?_); go_simp; refine hKK _ _ ?_; clear hKK KK)
  refine wpList_store_row rfl 108 _ _ rfl w.heap.size #[.int .u16 0, .slice none 0 0, .int .u64 0, .int .u64 0] rfl rfl 108 #[.int .u16 0, .slice none 0 0, .int .u64 0, .int .u64 0] XB.out.2.1 infoI rfl (by simp [Value.oneCell']) ?_
  have Y : Hid (Fx w (w0.setRow w.heap.size #[.int .u16 0, .slice none 0 0, .int .u64 0, .int .u64 0]) F rb k M qb s D A U false fe us ev al #[.int .u16 0, .slice none 0 0, .int .u64 0, .int .u64 0]) := XB.out.set _
  clear XB
  generalize w0.setRow w.heap.size #[.int .u16 0, .slice none 0 0, .int .u64 0, .int .u64 0] = w9 at *
  obtain ⟨k0, k1, k2, k3⟩ := box4_facts Y.out.2.1
  go_wp2_with fail
  refine bodyPost_ret (v := .tuple #[.agg #[.int .u16 0, .slice none 0 0, .int .u64 0, .int .u64 0], .bool false, .int .i64 0]) (by simp [results, Try.results48, go_sem, k0, k1, k2, k3]) rfl ?_
  exact ⟨rfl, Y.out.2.2.2.1, Y.out.1⟩

theorem fetch_chk {w : World} {F : Nat → Prop} {rb k : Nat} {M : Nat → Nat} (hr : RamAt w F rb 8192 k (.pointer none) M) {qb : Nat} {s : Int} {D A U : Nat} {ev al : Bool} {fe us : Nat} (hq : w.heap[qb]? = some (.cells #[.int .i64 s, .int .u64 (D : Int), .int .u64 (A : Int), .int .u64 (U : Int), .bool true, .int .u16 (fe : Int), .int .u16 (us : Int), .bool ev, .bool al] 40 (0, 0))) (hF : ¬ F qb) (hD : D < 18446744073709551616) (hA : A < 18446744073709551616) (hU : U < 18446744073709551616) (hc : chkN s D A U 8192 ≠ 0) : Calls Try.prog 48 #[.pointer (some ⟨qb, 0, none⟩), .pointer (some ⟨rb, 0, none⟩)] w fun e w' => e = .returned (.tuple #[.agg #[.int .u16 0, .slice none 0 0, .int .u64 0, .int .u64 0], .bool false, .int .i64 (chkN s D A U 8192)]) ∧ w'.heap[qb]? = some (.cells #[.int .i64 s, .int .u64 (D : Int), .int .u64 (A : Int), .int .u64 (U : Int), .bool true, .int .u16 (fe : Int), .int .u16 (us : Int), .bool ev, .bool al] 40 (0, 0)) ∧ Step (fun k => k = qb) w (fun k => k = qb) w' := by
  have XB : Hid (Fx w (w.alloc (.cells #[.int .u16 0, .slice none 0 0, .int .u64 0, .int .u64 0] 108)) F rb k M qb s D A U true fe us ev al #[.int .u16 0, .slice none 0 0, .int .u64 0, .int .u64 0]) := ⟨Step.of_below (one_box _ _), heap_alloc_new _ _, hr.below (one_box _ _), below_box hq (one_box _ _), hF, (Array.getElem?_eq_some_iff.1 hq).1, hr.lt⟩
  have HC : Hid (D < 18446744073709551616 ∧ A < 18446744073709551616 ∧ U < 18446744073709551616 ∧ RamAt (w.alloc (.cells #[.int .u16 0, .slice none 0 0, .int .u64 0, .int .u64 0] 108)) F rb 8192 k (.pointer none) M) := ⟨hD, hA, hU, XB.out.2.2.1⟩
  obtain ⟨ce, hce⟩ : ∃ ce, chkN s D A U 8192 = ce := ⟨_, rfl⟩
  have HE : Hid (chkN s D A U 8192 = ce) := hce
  rw [hce] at hc ⊢
  have q1 : (ce != 0) = true := by simp [hc]
  clear hq hr hF hD hA hU hce hc
  go_enter Try.func48, Try.ntmps48
  go_upto_region 1 with fail
  generalize w.alloc (.cells #[.int .u16 0, .slice none 0 0, .int .u64 0, .int .u64 0] 108) = v0 at *
  obtain ⟨c0, c1, c2, c3, c4, c5, c6, c7, c8⟩ := box9_facts XB.out.2.2.2.1
  go_upto_region 5 with (first | (go_at_call 27; refine (ready_any XB.out.2.2.2.1).mono ?_; rintro e w0 ⟨rfl, rfl⟩) | (go_at_call 66; refine (check_any HC.out.1 HC.out.2.1 HC.out.2.2.1 HC.out.2.2.2 (by omega)).mono ?_; rintro e w1 ⟨rfl, hb1⟩; rw [HE.out]; have X1 : Hid (Fx w w1 F rb k M qb s D A U true fe us ev al #[.int .u16 0, .slice none 0 0, .int .u64 0, .int .u64 0]) := XB.out.below hb1; clear hb1))
  clear XB c0 c1 c2 c3 c4 c5 c6 c7 c8
  refine wp_region_list ?_
  (refine wpList_step (fun KK hKK => ?_); go_simp; refine hKK _ _ ?_; clear hKK KK)
  (refine wpList_step (fun KK hKK => ?_); go_simp; refine hKK _ _ ?_; clear hKK KK)
  refine wpList_store_row rfl 108 _ _ rfl w.heap.size #[.int .u16 0, .slice none 0 0, .int .u64 0, .int .u64 0] rfl rfl 108 #[.int .u16 0, .slice none 0 0, .int .u64 0, .int .u64 0] X1.out.2.1 infoI rfl (by simp [Value.oneCell']) ?_
  have Y : Hid (Fx w (w1.setRow w.heap.size #[.int .u16 0, .slice none 0 0, .int .u64 0, .int .u64 0]) F rb k M qb s D A U true fe us ev al #[.int .u16 0, .slice none 0 0, .int .u64 0, .int .u64 0]) := X1.out.set _
  clear X1
  generalize w1.setRow w.heap.size #[.int .u16 0, .slice none 0 0, .int .u64 0, .int .u64 0] = w9 at *
  obtain ⟨k0, k1, k2, k3⟩ := box4_facts Y.out.2.1
  go_wp2_with fail
  refine bodyPost_ret (v := .tuple #[.agg #[.int .u16 0, .slice none 0 0, .int .u64 0, .int .u64 0], .bool false, .int .i64 ce]) (by simp [results, Try.results48, go_sem, k0, k1, k2, k3]) rfl ?_
  exact ⟨rfl, Y.out.2.2.2.1, Y.out.1⟩
end Go.Proofs.Ytmjdnocilbnoaaa

/- The queue: Fetch of a layout that may be. -/
namespace Go.Proofs.Ytmjdnocilbnoaaa
open Go.RowKit Go.Maps
set_option linter.unusedVariables false
set_option linter.unusedSimpArgs false
set_option maxRecDepth 100000
theorem wait_wrap {of fe : Nat} (h1 : of ≤ 65535) (h2 : fe ≤ 65535) : IntKind.u16.wrap ((of : Int) - (fe : Int)) = (((of + 65536 - fe) % 65536 : Nat) : Int) := by
  simp only [IntKind.wrap, IntKind.signed, IntKind.bits]
  simp
  try omega
theorem fetch_wait {w : World} {F : Nat → Prop} {rb k : Nat} {M : Nat → Nat} (hr : RamAt w F rb 8192 k (.pointer none) M) {qb : Nat} {n D A U : Nat} {ev al : Bool} {fe us : Nat} (hq : w.heap[qb]? = some (.cells #[.int .i64 (n : Int), .int .u64 (D : Int), .int .u64 (A : Int), .int .u64 (U : Int), .bool true, .int .u16 (fe : Int), .int .u16 (us : Int), .bool ev, .bool al] 40 (0, 0))) (hg : Gd n D A U) (hF : ¬ F qb) (hfe : fe ≤ 65535) (hw : waitN M A fe = 0) : Calls Try.prog 48 #[.pointer (some ⟨qb, 0, none⟩), .pointer (some ⟨rb, 0, none⟩)] w fun e w' => e = .returned (.tuple #[.agg #[.int .u16 0, .slice none 0 0, .int .u64 0, .int .u64 0], .bool false, .int .i64 0]) ∧ w'.heap[qb]? = some (.cells #[.int .i64 (n : Int), .int .u64 (D : Int), .int .u64 (A : Int), .int .u64 (U : Int), .bool true, .int .u16 (fe : Int), .int .u16 (us : Int), .bool ev, .bool al] 40 (0, 0)) ∧ Step (fun k => k = qb) w (fun k => k = qb) w' := by
  have XB : Hid (Fx w (w.alloc (.cells #[.int .u16 0, .slice none 0 0, .int .u64 0, .int .u64 0] 108)) F rb k M qb (n : Int) D A U true fe us ev al #[.int .u16 0, .slice none 0 0, .int .u64 0, .int .u64 0]) := ⟨Step.of_below (one_box _ _), heap_alloc_new _ _, hr.below (one_box _ _), below_box hq (one_box _ _), hF, (Array.getElem?_eq_some_iff.1 hq).1, hr.lt⟩
  have HC : Hid (Gd n D A U ∧ fe ≤ 65535 ∧ ∀ a, M a ≤ 255) := ⟨hg, hfe, hr.le⟩
  obtain ⟨of, hof⟩ : ∃ of, wordN M (A + 2) 2 8192 = of := ⟨_, rfl⟩
  have HO : Hid (wordN M (A + 2) 2 8192 = of) := hof
  have hofl : of ≤ 65535 := by rw [← hof]; exact rd_lt hr.le _
  obtain ⟨wt, hwt⟩ : ∃ wt, waitN M A fe = wt := ⟨_, rfl⟩
  have ew : IntKind.u16.wrap ((of : Int) - (fe : Int)) = (wt : Int) := by rw [← hwt]; unfold waitN; rw [hof]; exact wait_wrap hofl hfe
  have ew2 : IntKind.i64.wrap (wt : Int) = (wt : Int) := wrapRl wt (by rw [← hwt]; unfold waitN; omega)
  have hw0 : wt = 0 := by rw [← hwt]; exact hw
  subst hw0
  have q1 : ((0 : Int) == 0) = true := rfl
  clear hq hr hF hfe hw hwt hof hofl hg ew2
  go_enter Try.func48, Try.ntmps48
  go_upto_region 1 with fail
  generalize w.alloc (.cells #[.int .u16 0, .slice none 0 0, .int .u64 0, .int .u64 0] 108) = v0 at *
  obtain ⟨c0, c1, c2, c3, c4, c5, c6, c7, c8⟩ := box9_facts XB.out.2.2.2.1
  go_upto_region 6 with (first | (go_at_call 27; refine (ready_any XB.out.2.2.2.1).mono ?_; rintro e w0 ⟨rfl, rfl⟩) | (go_at_call 66; refine (check_any HC.out.1.d1 (gd_bounds HC.out.1).2.1 (gd_bounds HC.out.1).2.2 XB.out.2.2.1 (by omega)).mono ?_; rintro e w1 ⟨rfl, hb1⟩; rw [HC.out.1.chk]; have X1 : Hid (Fx w w1 F rb k M qb (n : Int) D A U true fe us ev al #[.int .u16 0, .slice none 0 0, .int .u64 0, .int .u64 0]) := XB.out.below hb1; clear hb1))
  clear XB c0 c1 c2 c3 c4 c5 c6 c7 c8
  obtain ⟨c0, c1, c2, c3, c4, c5, c6, c7, c8⟩ := box9_facts X1.out.2.2.2.1
  have X2 : Hid (Fx w w1.drew F rb k M qb (n : Int) D A U true fe us ev al #[.int .u16 0, .slice none 0 0, .int .u64 0, .int .u64 0]) := X1.out.below (Below.drew (Below.refl _ _))
  go_region_held3 (fun Z => Z.cell? ⟨qb, 0, none⟩ = some (.int .i64 (n : Int)) ∧ Z.cell? ⟨qb, 1, none⟩ = some (.int .u64 (D : Int)) ∧ Z.cell? ⟨qb, 2, none⟩ = some (.int .u64 (A : Int)) ∧ Z.cell? ⟨qb, 3, none⟩ = some (.int .u64 (U : Int)) ∧ Z.cell? ⟨qb, 4, none⟩ = some (.bool true) ∧ Z.cell? ⟨qb, 5, none⟩ = some (.int .u16 (fe : Int)) ∧ Z.cell? ⟨qb, 6, none⟩ = some (.int .u16 (us : Int)) ∧ Z.cell? ⟨qb, 7, none⟩ = some (.bool ev) ∧ Z.cell? ⟨qb, 8, none⟩ = some (.bool al)) (go_keep) (first | (go_at_call 67; refine (offered_any X2.out.2.2.1 HC.out.1).mono ?_; rintro e w2 ⟨rfl, hb2⟩; rw [HO.out]; have X3 : Hid (Fx w w2 F rb k M qb (n : Int) D A U true fe us ev al #[.int .u16 0, .slice none 0 0, .int .u64 0, .int .u64 0]) := X2.out.below hb2; clear hb2; obtain ⟨d0, d1, d2, d3, d4, d5, d6, d7, d8⟩ := box9_facts X3.out.2.2.2.1))
  clear X1 X2 c0 c1 c2 c3 c4 c5 c6 c7 c8
  clear d0 d1 d2 d3 d4 d5 d6 d7 d8
  go_upto_region 8 with fail
  refine wp_region_list ?_
  (refine wpList_step (fun KK hKK => ?_); go_simp; refine hKK _ _ ?_; clear hKK KK)
  refine wpList_store_row rfl 108 _ _ rfl w.heap.size #[.int .u16 0, .slice none 0 0, .int .u64 0, .int .u64 0] rfl rfl 108 #[.int .u16 0, .slice none 0 0, .int .u64 0, .int .u64 0] X3.out.2.1 infoI rfl (by simp [Value.oneCell']) ?_
  have Y : Hid (Fx w (w2.setRow w.heap.size #[.int .u16 0, .slice none 0 0, .int .u64 0, .int .u64 0]) F rb k M qb (n : Int) D A U true fe us ev al #[.int .u16 0, .slice none 0 0, .int .u64 0, .int .u64 0]) := X3.out.set _
  clear X3
  generalize w2.setRow w.heap.size #[.int .u16 0, .slice none 0 0, .int .u64 0, .int .u64 0] = w9 at *
  obtain ⟨k0, k1, k2, k3⟩ := box4_facts Y.out.2.1
  go_wp2_with fail
  refine bodyPost_ret (v := .tuple #[.agg #[.int .u16 0, .slice none 0 0, .int .u64 0, .int .u64 0], .bool false, .int .i64 0]) (by simp [results, Try.results48, go_sem, k0, k1, k2, k3]) rfl ?_
  exact ⟨rfl, Y.out.2.2.2.1, Y.out.1⟩

theorem fetch_jmp {w : World} {F : Nat → Prop} {rb k : Nat} {M : Nat → Nat} (hr : RamAt w F rb 8192 k (.pointer none) M) {qb : Nat} {n D A U : Nat} {ev al : Bool} {fe us : Nat} (hq : w.heap[qb]? = some (.cells #[.int .i64 (n : Int), .int .u64 (D : Int), .int .u64 (A : Int), .int .u64 (U : Int), .bool true, .int .u16 (fe : Int), .int .u16 (us : Int), .bool ev, .bool al] 40 (0, 0))) (hg : Gd n D A U) (hF : ¬ F qb) (hfe : fe ≤ 65535) (hw : waitN M A fe ≠ 0) (hw2 : n < waitN M A fe) : Calls Try.prog 48 #[.pointer (some ⟨qb, 0, none⟩), .pointer (some ⟨rb, 0, none⟩)] w fun e w' => e = .returned (.tuple #[.agg #[.int .u16 0, .slice none 0 0, .int .u64 0, .int .u64 0], .bool false, .int .i64 156]) ∧ w'.heap[qb]? = some (.cells #[.int .i64 (n : Int), .int .u64 (D : Int), .int .u64 (A : Int), .int .u64 (U : Int), .bool true, .int .u16 (fe : Int), .int .u16 (us : Int), .bool ev, .bool al] 40 (0, 0)) ∧ Step (fun k => k = qb) w (fun k => k = qb) w' := by
  have XB : Hid (Fx w (w.alloc (.cells #[.int .u16 0, .slice none 0 0, .int .u64 0, .int .u64 0] 108)) F rb k M qb (n : Int) D A U true fe us ev al #[.int .u16 0, .slice none 0 0, .int .u64 0, .int .u64 0]) := ⟨Step.of_below (one_box _ _), heap_alloc_new _ _, hr.below (one_box _ _), below_box hq (one_box _ _), hF, (Array.getElem?_eq_some_iff.1 hq).1, hr.lt⟩
  have HC : Hid (Gd n D A U ∧ fe ≤ 65535 ∧ ∀ a, M a ≤ 255) := ⟨hg, hfe, hr.le⟩
  obtain ⟨of, hof⟩ : ∃ of, wordN M (A + 2) 2 8192 = of := ⟨_, rfl⟩
  have HO : Hid (wordN M (A + 2) 2 8192 = of) := hof
  have hofl : of ≤ 65535 := by rw [← hof]; exact rd_lt hr.le _
  obtain ⟨wt, hwt⟩ : ∃ wt, waitN M A fe = wt := ⟨_, rfl⟩
  have ew : IntKind.u16.wrap ((of : Int) - (fe : Int)) = (wt : Int) := by rw [← hwt]; unfold waitN; rw [hof]; exact wait_wrap hofl hfe
  have ew2 : IntKind.i64.wrap (wt : Int) = (wt : Int) := wrapRl wt (by rw [← hwt]; unfold waitN; omega)
  rw [hwt] at hw hw2
  have q1 : ((wt : Int) == 0) = false := by simp; omega
  have q2 : (n : Int) < (wt : Int) := by omega
  clear hq hr hF hfe hw hw2 hwt hof hofl hg
  go_enter Try.func48, Try.ntmps48
  go_upto_region 1 with fail
  generalize w.alloc (.cells #[.int .u16 0, .slice none 0 0, .int .u64 0, .int .u64 0] 108) = v0 at *
  obtain ⟨c0, c1, c2, c3, c4, c5, c6, c7, c8⟩ := box9_facts XB.out.2.2.2.1
  go_upto_region 6 with (first | (go_at_call 27; refine (ready_any XB.out.2.2.2.1).mono ?_; rintro e w0 ⟨rfl, rfl⟩) | (go_at_call 66; refine (check_any HC.out.1.d1 (gd_bounds HC.out.1).2.1 (gd_bounds HC.out.1).2.2 XB.out.2.2.1 (by omega)).mono ?_; rintro e w1 ⟨rfl, hb1⟩; rw [HC.out.1.chk]; have X1 : Hid (Fx w w1 F rb k M qb (n : Int) D A U true fe us ev al #[.int .u16 0, .slice none 0 0, .int .u64 0, .int .u64 0]) := XB.out.below hb1; clear hb1))
  clear XB c0 c1 c2 c3 c4 c5 c6 c7 c8
  obtain ⟨c0, c1, c2, c3, c4, c5, c6, c7, c8⟩ := box9_facts X1.out.2.2.2.1
  have X2 : Hid (Fx w w1.drew F rb k M qb (n : Int) D A U true fe us ev al #[.int .u16 0, .slice none 0 0, .int .u64 0, .int .u64 0]) := X1.out.below (Below.drew (Below.refl _ _))
  go_region_held3 (fun Z => Z.cell? ⟨qb, 0, none⟩ = some (.int .i64 (n : Int)) ∧ Z.cell? ⟨qb, 1, none⟩ = some (.int .u64 (D : Int)) ∧ Z.cell? ⟨qb, 2, none⟩ = some (.int .u64 (A : Int)) ∧ Z.cell? ⟨qb, 3, none⟩ = some (.int .u64 (U : Int)) ∧ Z.cell? ⟨qb, 4, none⟩ = some (.bool true) ∧ Z.cell? ⟨qb, 5, none⟩ = some (.int .u16 (fe : Int)) ∧ Z.cell? ⟨qb, 6, none⟩ = some (.int .u16 (us : Int)) ∧ Z.cell? ⟨qb, 7, none⟩ = some (.bool ev) ∧ Z.cell? ⟨qb, 8, none⟩ = some (.bool al)) (go_keep) (first | (go_at_call 67; refine (offered_any X2.out.2.2.1 HC.out.1).mono ?_; rintro e w2 ⟨rfl, hb2⟩; rw [HO.out]; have X3 : Hid (Fx w w2 F rb k M qb (n : Int) D A U true fe us ev al #[.int .u16 0, .slice none 0 0, .int .u64 0, .int .u64 0]) := X2.out.below hb2; clear hb2; obtain ⟨d0, d1, d2, d3, d4, d5, d6, d7, d8⟩ := box9_facts X3.out.2.2.2.1))
  clear X1 X2 c0 c1 c2 c3 c4 c5 c6 c7 c8
  go_upto_region 10 with fail
  clear d0 d1 d2 d3 d4 d5 d6 d7 d8
  refine wp_region_list ?_
  (refine wpList_step (fun KK hKK => ?_); go_simp; refine hKK _ _ ?_; clear hKK KK)
  refine wpList_store_row rfl 108 _ _ rfl w.heap.size #[.int .u16 0, .slice none 0 0, .int .u64 0, .int .u64 0] rfl rfl 108 #[.int .u16 0, .slice none 0 0, .int .u64 0, .int .u64 0] X3.out.2.1 infoI rfl (by simp [Value.oneCell']) ?_
  have Y : Hid (Fx w (w2.setRow w.heap.size #[.int .u16 0, .slice none 0 0, .int .u64 0, .int .u64 0]) F rb k M qb (n : Int) D A U true fe us ev al #[.int .u16 0, .slice none 0 0, .int .u64 0, .int .u64 0]) := X3.out.set _
  clear X3
  generalize w2.setRow w.heap.size #[.int .u16 0, .slice none 0 0, .int .u64 0, .int .u64 0] = w9 at *
  obtain ⟨k0, k1, k2, k3⟩ := box4_facts Y.out.2.1
  go_wp2_with fail
  refine bodyPost_ret (v := .tuple #[.agg #[.int .u16 0, .slice none 0 0, .int .u64 0, .int .u64 0], .bool false, .int .i64 156]) (by simp [results, Try.results48, go_sem, k0, k1, k2, k3]) rfl ?_
  exact ⟨rfl, Y.out.2.2.2.1, Y.out.1⟩

theorem seg_base {B C : Nat} {w : World} {v : Value} {l : List Seg} (h : SegIn B w v l) (hc : C ≤ B) : SegIn C w v l := by
  refine ⟨h.1, ?_⟩
  rcases h.2 with hn | ⟨g, cap, cur, rfl, hb, rest⟩
  · exact .inl hn
  · exact .inr ⟨g, cap, cur, rfl, Nat.le_trans hc hb, rest⟩
/-- behind Walk: the chain, in a block of its own -/
def Fc (w V : World) (v : Value) (l : List Seg) : Prop := SegIn (w.heap.size + 1) V v l
theorem Fc.below {w V V2 : World} {v : Value} {l : List Seg} (h : Fc w V v l) (hb : Below V.heap.size V V2) : Fc w V2 v l := SegIn.kept h (fun g hg => hb.block g (SegIn.lt h g hg).2)
theorem Fc.set {w V : World} {v : Value} {l : List Seg} (h : Fc w V v l) (c : Array Value) : Fc w (V.setRow w.heap.size c) v l := SegIn.kept h (fun g hg => setRow_other _ _ _ _ (by have := (SegIn.lt h g hg).1; omega))
set_option maxHeartbeats 4000000 in
theorem fetch_one {w : World} {F : Nat → Prop} {rb k : Nat} {M : Nat → Nat} (hr : RamAt w F rb 8192 k (.pointer none) M) {qb : Nat} {n D A U : Nat} {ev al : Bool} {fe us : Nat} (hq : w.heap[qb]? = some (.cells #[.int .i64 (n : Int), .int .u64 (D : Int), .int .u64 (A : Int), .int .u64 (U : Int), .bool true, .int .u16 (fe : Int), .int .u16 (us : Int), .bool ev, .bool al] 40 (0, 0))) (hg : Gd n D A U) (hF : ¬ F qb) (hfe : fe ≤ 65535) (hw : waitN M A fe ≠ 0) (hw2 : ¬ n < waitN M A fe) (h : Nat) (c : Cn) (hh : headN M n A fe = h) (hc : walkR M D n (h : Nat) al = c) : Calls Try.prog 48 #[.pointer (some ⟨qb, 0, none⟩), .pointer (some ⟨rb, 0, none⟩)] w fun e w' => ∃ a1 c1, e = .returned (.tuple #[.agg #[.int .u16 (h : Int), .slice a1 c.l.length c1, .int .u64 (c.ta : Int), .int .u64 (c.tl : Int)], .bool ((c.e : Int) == 0), .int .i64 (c.e : Int)]) ∧ SegIn w.heap.size w' (.slice a1 c.l.length c1) c.l ∧ w'.heap[qb]? = some (.cells #[.int .i64 (n : Int), .int .u64 (D : Int), .int .u64 (A : Int), .int .u64 (U : Int), .bool true, .int .u16 (upN fe : Int), .int .u16 (us : Int), .bool ev, .bool al] 40 (0, 0)) ∧ Step (fun k => k = qb) w (fun k => k = qb) w' := by
  have XB : Hid (Fx w (w.alloc (.cells #[.int .u16 0, .slice none 0 0, .int .u64 0, .int .u64 0] 108)) F rb k M qb (n : Int) D A U true fe us ev al #[.int .u16 0, .slice none 0 0, .int .u64 0, .int .u64 0]) := ⟨Step.of_below (one_box _ _), heap_alloc_new _ _, hr.below (one_box _ _), below_box hq (one_box _ _), hF, (Array.getElem?_eq_some_iff.1 hq).1, hr.lt⟩
  have HC : Hid (Gd n D A U ∧ fe ≤ 65535 ∧ ∀ a, M a ≤ 255) := ⟨hg, hfe, hr.le⟩
  obtain ⟨of, hof⟩ : ∃ of, wordN M (A + 2) 2 8192 = of := ⟨_, rfl⟩
  have HO : Hid (wordN M (A + 2) 2 8192 = of) := hof
  have hofl : of ≤ 65535 := by rw [← hof]; exact rd_lt hr.le _
  obtain ⟨wt, hwt⟩ : ∃ wt, waitN M A fe = wt := ⟨_, rfl⟩
  have ew : IntKind.u16.wrap ((of : Int) - (fe : Int)) = (wt : Int) := by rw [← hwt]; unfold waitN; rw [hof]; exact wait_wrap hofl hfe
  have ew2 : IntKind.i64.wrap (wt : Int) = (wt : Int) := wrapRl wt (by rw [← hwt]; unfold waitN; omega)
  rw [hwt] at hw hw2
  have q1 : ((wt : Int) == 0) = false := by simp; omega
  have q2 : ¬ (n : Int) < (wt : Int) := by omega
  have hup := up_wrap hfe
  obtain ⟨f1, hf1⟩ : ∃ f1, upN fe = f1 := ⟨_, rfl⟩
  rw [hf1] at hup ⊢
  have HH : Hid (wordN M (A + 4 + 2 * (fe % n)) 2 8192 = h ∧ n ≤ 256 ∧ walkR M D n (h : Nat) al = c) := ⟨hh, hg.n2, hc⟩
  have hhl : h ≤ 65535 := by rw [← hh]; exact rd_lt hr.le _
  have eh : IntKind.i64.wrap (h : Int) = (h : Int) := wrapRl h (by omega)
  obtain ⟨cl, hcl⟩ : ∃ cl, c.l.length = cl := ⟨_, rfl⟩
  have HCL : Hid (c.l.length = cl) := hcl
  obtain ⟨ce, hce⟩ : ∃ ce, c.e = ce := ⟨_, rfl⟩
  obtain ⟨ta, hta⟩ : ∃ ta, c.ta = ta := ⟨_, rfl⟩
  obtain ⟨tl, htl⟩ : ∃ tl, c.tl = tl := ⟨_, rfl⟩
  have HCC : Hid (c.e = ce ∧ c.ta = ta ∧ c.tl = tl) := ⟨hce, hta, htl⟩
  rw [hcl, hce, hta, htl]
  clear hq hr hF hfe hw hw2 hwt hof hofl hg hf1 hh hc hcl hce hta htl hhl
  go_enter Try.func48, Try.ntmps48
  go_upto_region 1 with fail
  generalize w.alloc (.cells #[.int .u16 0, .slice none 0 0, .int .u64 0, .int .u64 0] 108) = v0 at *
  obtain ⟨c0, c1, c2, c3, c4, c5, c6, c7, c8⟩ := box9_facts XB.out.2.2.2.1
  go_upto_region 6 with (first | (go_at_call 27; refine (ready_any XB.out.2.2.2.1).mono ?_; rintro e w0 ⟨rfl, rfl⟩) | (go_at_call 66; refine (check_any HC.out.1.d1 (gd_bounds HC.out.1).2.1 (gd_bounds HC.out.1).2.2 XB.out.2.2.1 (by omega)).mono ?_; rintro e w1 ⟨rfl, hb1⟩; rw [HC.out.1.chk]; have X1 : Hid (Fx w w1 F rb k M qb (n : Int) D A U true fe us ev al #[.int .u16 0, .slice none 0 0, .int .u64 0, .int .u64 0]) := XB.out.below hb1; clear hb1))
  clear XB c0 c1 c2 c3 c4 c5 c6 c7 c8
  obtain ⟨c0, c1, c2, c3, c4, c5, c6, c7, c8⟩ := box9_facts X1.out.2.2.2.1
  have X2 : Hid (Fx w w1.drew F rb k M qb (n : Int) D A U true fe us ev al #[.int .u16 0, .slice none 0 0, .int .u64 0, .int .u64 0]) := X1.out.below (Below.drew (Below.refl _ _))
  go_region_held3 (fun Z => Z.cell? ⟨qb, 0, none⟩ = some (.int .i64 (n : Int)) ∧ Z.cell? ⟨qb, 1, none⟩ = some (.int .u64 (D : Int)) ∧ Z.cell? ⟨qb, 2, none⟩ = some (.int .u64 (A : Int)) ∧ Z.cell? ⟨qb, 3, none⟩ = some (.int .u64 (U : Int)) ∧ Z.cell? ⟨qb, 4, none⟩ = some (.bool true) ∧ Z.cell? ⟨qb, 5, none⟩ = some (.int .u16 (fe : Int)) ∧ Z.cell? ⟨qb, 6, none⟩ = some (.int .u16 (us : Int)) ∧ Z.cell? ⟨qb, 7, none⟩ = some (.bool ev) ∧ Z.cell? ⟨qb, 8, none⟩ = some (.bool al)) (go_keep) (first | (go_at_call 67; refine (offered_any X2.out.2.2.1 HC.out.1).mono ?_; rintro e w2 ⟨rfl, hb2⟩; rw [HO.out]; have X3 : Hid (Fx w w2 F rb k M qb (n : Int) D A U true fe us ev al #[.int .u16 0, .slice none 0 0, .int .u64 0, .int .u64 0]) := X2.out.below hb2; clear hb2; obtain ⟨d0, d1, d2, d3, d4, d5, d6, d7, d8⟩ := box9_facts X3.out.2.2.2.1))
  clear X1 X2 c0 c1 c2 c3 c4 c5 c6 c7 c8
  go_upto_region 11 with fail
  have X4 : Hid (Fx w w2.drew F rb k M qb (n : Int) D A U true fe us ev al #[.int .u16 0, .slice none 0 0, .int .u64 0, .int .u64 0]) := X3.out.below (Below.drew (Below.refl _ _))
  go_region_held3 (fun Z => Z.cell? ⟨qb, 0, none⟩ = some (.int .i64 (n : Int)) ∧ Z.cell? ⟨qb, 1, none⟩ = some (.int .u64 (D : Int)) ∧ Z.cell? ⟨qb, 2, none⟩ = some (.int .u64 (A : Int)) ∧ Z.cell? ⟨qb, 3, none⟩ = some (.int .u64 (U : Int)) ∧ Z.cell? ⟨qb, 4, none⟩ = some (.bool true) ∧ Z.cell? ⟨qb, 5, none⟩ = some (.int .u16 (fe : Int)) ∧ Z.cell? ⟨qb, 6, none⟩ = some (.int .u16 (us : Int)) ∧ Z.cell? ⟨qb, 7, none⟩ = some (.bool ev) ∧ Z.cell? ⟨qb, 8, none⟩ = some (.bool al)) (go_keep) (first | (go_at_call 68; refine (head_any X4.out.2.2.1 HC.out.1 fe (fe % n) HC.out.2.1 rfl).mono ?_; rintro e w3 ⟨rfl, hb3⟩; rw [HH.out.1]; have X5 : Hid (Fx w w3 F rb k M qb (n : Int) D A U true fe us ev al #[.int .u16 0, .slice none 0 0, .int .u64 0, .int .u64 0]) := X4.out.below hb3; clear hb3; obtain ⟨c0, c1, c2, c3, c4, c5, c6, c7, c8⟩ := box9_facts X5.out.2.2.2.1))
  clear X3 X4 d0 d1 d2 d3 d4 d5 d6 d7 d8
  have c5f := frozenOf X5.out.2.2.2.1 5
  go_upto_region 13 with fail
  have X6 : Hid (Fx w (w3.setCell ⟨qb, 5, none⟩ (.int .u16 (f1 : Int))) F rb k M qb (n : Int) D A U true f1 us ev al #[.int .u16 0, .slice none 0 0, .int .u64 0, .int .u64 0]) := X5.out.one f1
  clear X5 c0 c1 c2 c3 c4 c5 c6 c7 c8 c5f
  generalize w3.setCell ⟨qb, 5, none⟩ (.int .u16 (f1 : Int)) = w4 at *
  go_cut [10, 11] (fun x y wx => ∃ (p : Nat) (a1 : Option Addr) (c1 : Nat), x = .pointer (some ⟨p, 0, none⟩) ∧ y = .int .i64 (ce : Int) ∧ Fx w wx F rb k M qb (n : Int) D A U true f1 us ev al #[.int .u16 0, .slice none 0 0, .int .u64 0, .int .u64 0] ∧ wx.heap[p]? = some (.cells #[.slice a1 cl c1, .int .u64 (ta : Int), .int .u64 (tl : Int)] 50 (0, 0)) ∧ w.heap.size < p ∧ Fc w wx (.slice a1 cl c1) c.l)
  case first =>
    have Xd : Hid (Fx w w4.drew F rb k M qb (n : Int) D A U true f1 us ev al #[.int .u16 0, .slice none 0 0, .int .u64 0, .int .u64 0]) := X6.out.below (Below.drew (Below.refl _ _))
    have KW : Hid (∀ V, Fx w V F rb k M qb (n : Int) D A U true f1 us ev al #[.int .u16 0, .slice none 0 0, .int .u64 0, .int .u64 0] → Calls Try.prog 69 #[.pointer (some ⟨rb, 0, none⟩), .agg #[.int .i64 (n : Int), .int .u64 (D : Int), .int .u64 (A : Int), .int .u64 (U : Int)], .int .i64 (h : Int), .bool al] V fun e w' => ∃ a1 c1, e = .returned (.tuple #[.agg #[.slice a1 cl c1, .int .u64 (ta : Int), .int .u64 (tl : Int)], .int .i64 (ce : Int)]) ∧ Fc w w' (.slice a1 cl c1) c.l ∧ Below V.heap.size V w' ∧ ∀ g, (Value.slice a1 cl c1).ownBlock = some g → V.heap.size ≤ g) := by
      intro V hV
      have := walk_nil hV.2.2.1 n D A U HH.out.2.1 (h : Nat) al
      rw [HH.out.2.2, HCC.out.1, HCC.out.2.1, HCC.out.2.2] at this
      refine this.mono ?_
      rintro e w' ⟨v, he, hs, hb⟩
      obtain ⟨a1, c1, rfl⟩ := hs.form
      rw [HCL.out] at he hs
      exact ⟨a1, c1, he, seg_base hs (Array.getElem?_eq_some_iff.1 hV.2.1).1, hb, fun g hg => (hs.lt g hg).1⟩
    clear X6
    refine wp_region_held_drew (S := fun V => V.cell? ⟨qb, 0, none⟩ = some (.int .i64 (n : Int)) ∧ V.cell? ⟨qb, 1, none⟩ = some (.int .u64 (D : Int)) ∧ V.cell? ⟨qb, 2, none⟩ = some (.int .u64 (A : Int)) ∧ V.cell? ⟨qb, 3, none⟩ = some (.int .u64 (U : Int)) ∧ V.cell? ⟨qb, 4, none⟩ = some (.bool true) ∧ V.cell? ⟨qb, 5, none⟩ = some (.int .u16 (f1 : Int)) ∧ V.cell? ⟨qb, 6, none⟩ = some (.int .u16 (us : Int)) ∧ V.cell? ⟨qb, 7, none⟩ = some (.bool ev) ∧ V.cell? ⟨qb, 8, none⟩ = some (.bool al)) (by kernel_rfl) (box9_facts Xd.out.2.2.2.1) ?_
    intro hS
    generalize w4.drew = wd at *
    refine wpAnyH_take (i := 0) (v := ?_) rfl (by kernel_rfl) (by kernel_rfl) (by kernel_rfl) (fun _ _ _ h => h) (Or.inl ⟨by kernel_rfl, ?_⟩) hS ?_
    rotate_left
    · intro w hSw; (try dsimp only at hSw); go_simp; try (with_reducible rfl)
    (try simp only [Act.put, List.getElem_toArray, List.getElem_cons_succ, List.getElem_cons_zero, List.setIfInBounds_toArray, List.set_cons_zero, List.set_cons_succ])
    refine wpAnyH_take (i := 1) (v := ?_) rfl (by kernel_rfl) (by kernel_rfl) (by kernel_rfl) (fun _ _ _ h => h) (Or.inl ⟨by kernel_rfl, ?_⟩) hS ?_
    rotate_left
    · intro w hSw; (try dsimp only at hSw); go_simp; try (with_reducible rfl)
    (try simp only [Act.put, List.getElem_toArray, List.getElem_cons_succ, List.getElem_cons_zero, List.setIfInBounds_toArray, List.set_cons_zero, List.set_cons_succ])
    refine wpAnyH_take (i := 2) (v := ?_) rfl (by kernel_rfl) (by kernel_rfl) (by kernel_rfl) (fun _ _ _ h => h) (Or.inl ⟨by kernel_rfl, ?_⟩) hS ?_
    rotate_left
    · intro w hSw; (try dsimp only at hSw); go_simp; try (with_reducible rfl)
    (try simp only [Act.put, List.getElem_toArray, List.getElem_cons_succ, List.getElem_cons_zero, List.setIfInBounds_toArray, List.set_cons_zero, List.set_cons_succ])
    refine wpAnyH_take (i := 3) (v := ?_) rfl (by kernel_rfl) (by kernel_rfl) (by kernel_rfl) (fun _ _ _ h => h) (Or.inl ⟨by kernel_rfl, ?_⟩) hS ?_
    rotate_left
    · intro w hSw; (try dsimp only at hSw); go_simp; try (with_reducible rfl)
    (try simp only [Act.put, List.getElem_toArray, List.getElem_cons_succ, List.getElem_cons_zero, List.setIfInBounds_toArray, List.set_cons_zero, List.set_cons_succ])
    refine wpAnyH_take (i := 4) (v := ?_) rfl (by kernel_rfl) (by kernel_rfl) (by kernel_rfl) (fun _ _ _ h => h) (Or.inl ⟨by kernel_rfl, ?_⟩) hS ?_
    rotate_left
    · intro w hSw; (try dsimp only at hSw); go_simp; try (with_reducible rfl)
    (try simp only [Act.put, List.getElem_toArray, List.getElem_cons_succ, List.getElem_cons_zero, List.setIfInBounds_toArray, List.set_cons_zero, List.set_cons_succ])
    refine wpAnyH_take (i := 5) (v := ?_) rfl (by kernel_rfl) (by kernel_rfl) (by kernel_rfl) (fun _ _ _ h => h) (Or.inl ⟨by kernel_rfl, ?_⟩) hS ?_
    rotate_left
    · intro w hSw; (try dsimp only at hSw); go_simp; try (with_reducible rfl)
    (try simp only [Act.put, List.getElem_toArray, List.getElem_cons_succ, List.getElem_cons_zero, List.setIfInBounds_toArray, List.set_cons_zero, List.set_cons_succ])
    refine wpAnyH_take (i := 6) (v := ?_) rfl (by kernel_rfl) (by kernel_rfl) (by kernel_rfl) (fun _ _ _ h => h) (Or.inl ⟨by kernel_rfl, ?_⟩) hS ?_
    rotate_left
    · intro w hSw; (try dsimp only at hSw); go_simp; try (with_reducible rfl)
    (try simp only [Act.put, List.getElem_toArray, List.getElem_cons_succ, List.getElem_cons_zero, List.setIfInBounds_toArray, List.set_cons_zero, List.set_cons_succ])
    refine wpAnyH_take (i := 7) (v := ?_) rfl (by kernel_rfl) (by kernel_rfl) (by kernel_rfl) (fun _ _ _ h => h) (Or.inl ⟨by kernel_rfl, ?_⟩) hS ?_
    rotate_left
    · intro w hSw; (try dsimp only at hSw); go_simp; try (with_reducible rfl)
    (try simp only [Act.put, List.getElem_toArray, List.getElem_cons_succ, List.getElem_cons_zero, List.setIfInBounds_toArray, List.set_cons_zero, List.set_cons_succ])
    refine wpAnyH_take (i := 8) (v := ?_) rfl (by kernel_rfl) (by kernel_rfl) (by kernel_rfl) (fun _ _ _ h => h) (Or.inl ⟨by kernel_rfl, ?_⟩) hS ?_
    rotate_left
    · intro w hSw; (try dsimp only at hSw); go_simp; try (with_reducible rfl)
    (try simp only [Act.put, List.getElem_toArray, List.getElem_cons_succ, List.getElem_cons_zero, List.setIfInBounds_toArray, List.set_cons_zero, List.set_cons_succ])
    refine wpAnyH_take (i := 9) (v := ?_) rfl (by kernel_rfl) (by kernel_rfl) (by kernel_rfl) (fun _ _ _ h => h) (Or.inl ⟨by kernel_rfl, ?_⟩) hS ?_
    rotate_left
    · intro w hSw; (try dsimp only at hSw); go_simp; try (with_reducible rfl)
    (try simp only [Act.put, List.getElem_toArray, List.getElem_cons_succ, List.getElem_cons_zero, List.setIfInBounds_toArray, List.set_cons_zero, List.set_cons_succ])
    refine wpAnyH_take (i := 10) (v := ?_) rfl (by kernel_rfl) (by kernel_rfl) (by kernel_rfl) (fun _ _ _ h => h) (Or.inl ⟨by kernel_rfl, ?_⟩) hS ?_
    rotate_left
    · intro w hSw; (try dsimp only at hSw); go_simp; try (with_reducible rfl)
    (try simp only [Act.put, List.getElem_toArray, List.getElem_cons_succ, List.getElem_cons_zero, List.setIfInBounds_toArray, List.set_cons_zero, List.set_cons_succ])
    refine wpAnyH_ready (rs := [11, 15]) (by kernel_rfl) (by simp) ?_
    refine AllReadyH.cons rfl (fun K1 hK1 => ?_) (AllReadyH.cons rfl (fun K1 hK1 => ?_) AllReadyH.nil)
    · go_simp
      refine (KW.out _ Xd.out).mono ?_
      rintro e w5 ⟨a1, c1, rfl, hs5, hb5, -⟩
      have X7 : Hid (Fx w w5 F rb k M qb (n : Int) D A U true f1 us ev al #[.int .u16 0, .slice none 0 0, .int .u64 0, .int .u64 0] ∧ Fc w w5 (.slice a1 cl c1) c.l) := ⟨Xd.out.below hb5, hs5⟩
      clear hs5 hb5 Xd
      refine hK1.out _ _ (box9_facts X7.out.1.2.2.2.1) (fun h2 => ?_)
      clear hK1 K1 hS
      (try simp only [Act.put, List.getElem_toArray, List.getElem_cons_succ, List.getElem_cons_zero, List.setIfInBounds_toArray, List.set_cons_zero, List.set_cons_succ])
      refine wpAnyH_take (i := 12) (v := ?_) rfl (by kernel_rfl) (by kernel_rfl) (by kernel_rfl) (fun _ _ _ h => h) (Or.inl ⟨by kernel_rfl, ?_⟩) h2 ?_
      rotate_left
      · intro w hSw; (try dsimp only at hSw); go_simp; try (with_reducible rfl)
      (try simp only [Act.put, List.getElem_toArray, List.getElem_cons_succ, List.getElem_cons_zero, List.setIfInBounds_toArray, List.set_cons_zero, List.set_cons_succ])
      refine wpAnyH_take (i := 13) (v := ?_) rfl (by kernel_rfl) (by kernel_rfl) (by kernel_rfl) (fun _ _ _ h => h) (Or.inl ⟨by kernel_rfl, ?_⟩) h2 ?_
      rotate_left
      · intro w hSw; (try dsimp only at hSw); go_simp; try (with_reducible rfl)
      (try simp only [Act.put, List.getElem_toArray, List.getElem_cons_succ, List.getElem_cons_zero, List.setIfInBounds_toArray, List.set_cons_zero, List.set_cons_succ])
      refine wpAnyH_take (i := 14) (v := ?_) rfl (by kernel_rfl) (by kernel_rfl) (by kernel_rfl) (fun _ _ _ h => h) (Or.inl ⟨by kernel_rfl, ?_⟩) h2 ?_
      rotate_left
      · intro w hSw; (try dsimp only at hSw); go_simp; try (with_reducible rfl)
      (try simp only [Act.put, List.getElem_toArray, List.getElem_cons_succ, List.getElem_cons_zero, List.setIfInBounds_toArray, List.set_cons_zero, List.set_cons_succ])
      refine wpAnyH_ready (rs := [15]) (by kernel_rfl) (by simp) ?_
      refine AllReadyH.cons rfl (fun K1 hK1 => ?_) AllReadyH.nil
      go_simp
      have hb6 : Below w5.heap.size w5 (w5.alloc (.cells #[.slice none 0 0, .int .u64 0, .int .u64 0] 50)) := one_box _ _
      have X8 : Hid (Fx w (w5.alloc (.cells #[.slice none 0 0, .int .u64 0, .int .u64 0] 50)) F rb k M qb (n : Int) D A U true f1 us ev al #[.int .u16 0, .slice none 0 0, .int .u64 0, .int .u64 0] ∧ Fc w (w5.alloc (.cells #[.slice none 0 0, .int .u64 0, .int .u64 0] 50)) (.slice a1 cl c1) c.l ∧ (w5.alloc (.cells #[.slice none 0 0, .int .u64 0, .int .u64 0] 50)).heap[w5.heap.size]? = some (.cells #[.slice none 0 0, .int .u64 0, .int .u64 0] 50 (0, 0)) ∧ w.heap.size < w5.heap.size) := ⟨X7.out.1.below hb6, X7.out.2.below hb6, heap_alloc_new _ _, (Array.getElem?_eq_some_iff.1 X7.out.1.2.1).1⟩
      have HG8 : Hid (∀ g, (Value.slice a1 cl c1).ownBlock = some g → g ≠ w5.heap.size) := fun g hg => by have := (SegIn.lt X7.out.2 g hg).2; omega
      clear X7 hb6
      generalize w5.alloc (.cells #[.slice none 0 0, .int .u64 0, .int .u64 0] 50) = w6 at *
      generalize w5.heap.size = p at *
      refine hK1.out _ _ (box9_facts X8.out.1.2.2.2.1) (fun h3 => ?_)
      clear hK1 K1 h2
      (try simp only [Act.put, List.getElem_toArray, List.getElem_cons_succ, List.getElem_cons_zero, List.setIfInBounds_toArray, List.set_cons_zero, List.set_cons_succ])
      refine wpAnyH_ready (rs := [16]) (by kernel_rfl) (by simp) ?_
      refine AllReadyH.cons rfl (fun K1 hK1 => ?_) AllReadyH.nil
      rw [if_pos (by kernel_rfl)]
      refine wp_store_row 50 _ _ rfl p #[.slice a1 cl c1, .int .u64 (ta : Int), .int .u64 (tl : Int)] rfl rfl 50 #[.slice none 0 0, .int .u64 0, .int .u64 0] X8.out.2.2.1 infoC rfl (by simp [Value.oneCell']) ?_
      have Y : Hid (Fx w (w6.setRow p #[.slice a1 cl c1, .int .u64 (ta : Int), .int .u64 (tl : Int)]) F rb k M qb (n : Int) D A U true f1 us ev al #[.int .u16 0, .slice none 0 0, .int .u64 0, .int .u64 0] ∧ (w6.setRow p #[.slice a1 cl c1, .int .u64 (ta : Int), .int .u64 (tl : Int)]).heap[p]? = some (.cells #[.slice a1 cl c1, .int .u64 (ta : Int), .int .u64 (tl : Int)] 50 (0, 0)) ∧ w.heap.size < p ∧ Fc w (w6.setRow p #[.slice a1 cl c1, .int .u64 (ta : Int), .int .u64 (tl : Int)]) (.slice a1 cl c1) c.l) := ⟨X8.out.1.other X8.out.2.2.2 _, setRow_heap _ _ _ _ _ _ X8.out.2.2.1, X8.out.2.2.2, SegIn.kept X8.out.2.1 (fun g hg => setRow_other _ _ _ _ (HG8.out g hg))⟩
      clear X8
      generalize w6.setRow p #[.slice a1 cl c1, .int .u64 (ta : Int), .int .u64 (tl : Int)] = w9 at *
      refine hK1.out _ _ (box9_facts Y.out.1.2.2.2.1) (fun h9 => ?_)
      clear hK1 K1 h3
      (try simp only [Act.put, List.getElem_toArray, List.getElem_cons_succ, List.getElem_cons_zero, List.setIfInBounds_toArray, List.set_cons_zero, List.set_cons_succ])
      refine wpAnyH_take (i := 17) (v := ?_) rfl (by kernel_rfl) (by kernel_rfl) (by kernel_rfl) (fun _ _ _ h => h) (Or.inl ⟨by kernel_rfl, ?_⟩) h9 ?_
      rotate_left
      · intro w hSw; (try dsimp only at hSw); go_simp; try (with_reducible rfl)
      (try simp only [Act.put, List.getElem_toArray, List.getElem_cons_succ, List.getElem_cons_zero, List.setIfInBounds_toArray, List.set_cons_zero, List.set_cons_succ])
      refine wpAnyH_done (by kernel_rfl) ?_ _
      go_wp2_with fail
      go_meet
      exact ⟨p, a1, c1, rfl, rfl, Y.out.1, Y.out.2.1, Y.out.2.2.1, Y.out.2.2.2⟩
    · go_simp
      have hb6 : Below wd.heap.size wd (wd.alloc (.cells #[.slice none 0 0, .int .u64 0, .int .u64 0] 50)) := one_box _ _
      have X7 : Hid (Fx w (wd.alloc (.cells #[.slice none 0 0, .int .u64 0, .int .u64 0] 50)) F rb k M qb (n : Int) D A U true f1 us ev al #[.int .u16 0, .slice none 0 0, .int .u64 0, .int .u64 0] ∧ (wd.alloc (.cells #[.slice none 0 0, .int .u64 0, .int .u64 0] 50)).heap[wd.heap.size]? = some (.cells #[.slice none 0 0, .int .u64 0, .int .u64 0] 50 (0, 0)) ∧ w.heap.size < wd.heap.size) := ⟨Xd.out.below hb6, heap_alloc_new _ _, (Array.getElem?_eq_some_iff.1 Xd.out.2.1).1⟩
      clear hb6 Xd
      generalize wd.alloc (.cells #[.slice none 0 0, .int .u64 0, .int .u64 0] 50) = w5 at *
      generalize wd.heap.size = p at *
      refine hK1.out _ _ (box9_facts X7.out.1.2.2.2.1) (fun h2 => ?_)
      clear hK1 K1 hS
      (try simp only [Act.put, List.getElem_toArray, List.getElem_cons_succ, List.getElem_cons_zero, List.setIfInBounds_toArray, List.set_cons_zero, List.set_cons_succ])
      refine wpAnyH_ready (rs := [11]) (by kernel_rfl) (by simp) ?_
      refine AllReadyH.cons rfl (fun K1 hK1 => ?_) AllReadyH.nil
      go_simp
      refine (KW.out _ X7.out.1).mono ?_
      rintro e w6 ⟨a1, c1, rfl, hs6, hb6, hg6⟩
      have X8 : Hid (Fx w w6 F rb k M qb (n : Int) D A U true f1 us ev al #[.int .u16 0, .slice none 0 0, .int .u64 0, .int .u64 0] ∧ Fc w w6 (.slice a1 cl c1) c.l ∧ w6.heap[p]? = some (.cells #[.slice none 0 0, .int .u64 0, .int .u64 0] 50 (0, 0)) ∧ w.heap.size < p) := ⟨X7.out.1.below hb6, hs6, below_box X7.out.2.1 hb6, X7.out.2.2⟩
      have HG8 : Hid (∀ g, (Value.slice a1 cl c1).ownBlock = some g → g ≠ p) := fun g hg => by have h1 := hg6 g hg; have h2 := (Array.getElem?_eq_some_iff.1 X7.out.2.1).1; omega
      clear hs6 hb6 X7 hg6
      refine hK1.out _ _ (box9_facts X8.out.1.2.2.2.1) (fun h3 => ?_)
      clear hK1 K1 h2
      (try simp only [Act.put, List.getElem_toArray, List.getElem_cons_succ, List.getElem_cons_zero, List.setIfInBounds_toArray, List.set_cons_zero, List.set_cons_succ])
      refine wpAnyH_take (i := 12) (v := ?_) rfl (by kernel_rfl) (by kernel_rfl) (by kernel_rfl) (fun _ _ _ h => h) (Or.inl ⟨by kernel_rfl, ?_⟩) h3 ?_
      rotate_left
      · intro w hSw; (try dsimp only at hSw); go_simp; try (with_reducible rfl)
      (try simp only [Act.put, List.getElem_toArray, List.getElem_cons_succ, List.getElem_cons_zero, List.setIfInBounds_toArray, List.set_cons_zero, List.set_cons_succ])
      refine wpAnyH_take (i := 13) (v := ?_) rfl (by kernel_rfl) (by kernel_rfl) (by kernel_rfl) (fun _ _ _ h => h) (Or.inl ⟨by kernel_rfl, ?_⟩) h3 ?_
      rotate_left
      · intro w hSw; (try dsimp only at hSw); go_simp; try (with_reducible rfl)
      (try simp only [Act.put, List.getElem_toArray, List.getElem_cons_succ, List.getElem_cons_zero, List.setIfInBounds_toArray, List.set_cons_zero, List.set_cons_succ])
      refine wpAnyH_take (i := 14) (v := ?_) rfl (by kernel_rfl) (by kernel_rfl) (by kernel_rfl) (fun _ _ _ h => h) (Or.inl ⟨by kernel_rfl, ?_⟩) h3 ?_
      rotate_left
      · intro w hSw; (try dsimp only at hSw); go_simp; try (with_reducible rfl)
      (try simp only [Act.put, List.getElem_toArray, List.getElem_cons_succ, List.getElem_cons_zero, List.setIfInBounds_toArray, List.set_cons_zero, List.set_cons_succ])
      refine wpAnyH_ready (rs := [16]) (by kernel_rfl) (by simp) ?_
      refine AllReadyH.cons rfl (fun K1 hK1 => ?_) AllReadyH.nil
      rw [if_pos (by kernel_rfl)]
      refine wp_store_row 50 _ _ rfl p #[.slice a1 cl c1, .int .u64 (ta : Int), .int .u64 (tl : Int)] rfl rfl 50 #[.slice none 0 0, .int .u64 0, .int .u64 0] X8.out.2.2.1 infoC rfl (by simp [Value.oneCell']) ?_
      have Y : Hid (Fx w (w6.setRow p #[.slice a1 cl c1, .int .u64 (ta : Int), .int .u64 (tl : Int)]) F rb k M qb (n : Int) D A U true f1 us ev al #[.int .u16 0, .slice none 0 0, .int .u64 0, .int .u64 0] ∧ (w6.setRow p #[.slice a1 cl c1, .int .u64 (ta : Int), .int .u64 (tl : Int)]).heap[p]? = some (.cells #[.slice a1 cl c1, .int .u64 (ta : Int), .int .u64 (tl : Int)] 50 (0, 0)) ∧ w.heap.size < p ∧ Fc w (w6.setRow p #[.slice a1 cl c1, .int .u64 (ta : Int), .int .u64 (tl : Int)]) (.slice a1 cl c1) c.l) := ⟨X8.out.1.other X8.out.2.2.2 _, setRow_heap _ _ _ _ _ _ X8.out.2.2.1, X8.out.2.2.2, SegIn.kept X8.out.2.1 (fun g hg => setRow_other _ _ _ _ (HG8.out g hg))⟩
      clear X8
      generalize w6.setRow p #[.slice a1 cl c1, .int .u64 (ta : Int), .int .u64 (tl : Int)] = w9 at *
      refine hK1.out _ _ (box9_facts Y.out.1.2.2.2.1) (fun h9 => ?_)
      clear hK1 K1 h3
      (try simp only [Act.put, List.getElem_toArray, List.getElem_cons_succ, List.getElem_cons_zero, List.setIfInBounds_toArray, List.set_cons_zero, List.set_cons_succ])
      refine wpAnyH_take (i := 17) (v := ?_) rfl (by kernel_rfl) (by kernel_rfl) (by kernel_rfl) (fun _ _ _ h => h) (Or.inl ⟨by kernel_rfl, ?_⟩) h9 ?_
      rotate_left
      · intro w hSw; (try dsimp only at hSw); go_simp; try (with_reducible rfl)
      (try simp only [Act.put, List.getElem_toArray, List.getElem_cons_succ, List.getElem_cons_zero, List.setIfInBounds_toArray, List.set_cons_zero, List.set_cons_succ])
      refine wpAnyH_done (by kernel_rfl) ?_ _
      go_wp2_with fail
      go_meet
      exact ⟨p, a1, c1, rfl, rfl, Y.out.1, Y.out.2.1, Y.out.2.2.1, Y.out.2.2.2⟩
  case rest =>
    obtain ⟨p, a1, c1, rfl, rfl, hx, hp, hwp, hs⟩ := hcut
    have X9 : Hid (Fx w wc F rb k M qb (n : Int) D A U true f1 us ev al #[.int .u16 0, .slice none 0 0, .int .u64 0, .int .u64 0] ∧ wc.heap[p]? = some (.cells #[.slice a1 cl c1, .int .u64 (ta : Int), .int .u64 (tl : Int)] 50 (0, 0)) ∧ Fc w wc (.slice a1 cl c1) c.l) := ⟨hx, hp, hs⟩
    clear hx hp hwp hs
    obtain ⟨p0, p1, p2⟩ := box3_facts X9.out.2.1
    go_upto_region 14 with fail
    refine wp_region_list ?_
    (refine wpList_step (fun KK hKK => ?_); go_simp; refine hKK _ _ ?_; clear hKK KK)
    (refine wpList_step (fun KK hKK => ?_); go_simp; refine hKK _ _ ?_; clear hKK KK)
    (refine wpList_step (fun KK hKK => ?_); go_simp; refine hKK _ _ ?_; clear hKK KK)
    (refine wpList_step (fun KK hKK => ?_); go_simp; refine hKK _ _ ?_; clear hKK KK)
    (refine wpList_step (fun KK hKK => ?_); go_simp; refine hKK _ _ ?_; clear hKK KK)
    (refine wpList_step (fun KK hKK => ?_); go_simp; refine hKK _ _ ?_; clear hKK KK)
    refine wpList_store_row rfl 108 _ _ rfl w.heap.size #[.int .u16 (h : Int), .slice a1 cl c1, .int .u64 (ta : Int), .int .u64 (tl : Int)] rfl rfl 108 #[.int .u16 0, .slice none 0 0, .int .u64 0, .int .u64 0] X9.out.1.2.1 infoI rfl (by simp [Value.oneCell']) ?_
    have Y : Hid (Fx w (wc.setRow w.heap.size #[.int .u16 (h : Int), .slice a1 cl c1, .int .u64 (ta : Int), .int .u64 (tl : Int)]) F rb k M qb (n : Int) D A U true f1 us ev al #[.int .u16 (h : Int), .slice a1 cl c1, .int .u64 (ta : Int), .int .u64 (tl : Int)] ∧ Fc w (wc.setRow w.heap.size #[.int .u16 (h : Int), .slice a1 cl c1, .int .u64 (ta : Int), .int .u64 (tl : Int)]) (.slice a1 cl c1) c.l) := ⟨X9.out.1.set _, X9.out.2.2.set _⟩
    clear X9 p0 p1 p2
    generalize wc.setRow w.heap.size #[.int .u16 (h : Int), .slice a1 cl c1, .int .u64 (ta : Int), .int .u64 (tl : Int)] = w9 at *
    obtain ⟨k0, k1, k2, k3⟩ := box4_facts Y.out.1.2.1
    go_wp2_with fail
    refine bodyPost_ret (v := .tuple #[.agg #[.int .u16 (h : Int), .slice a1 cl c1, .int .u64 (ta : Int), .int .u64 (tl : Int)], .bool ((ce : Int) == 0), .int .i64 (ce : Int)]) (by simp [results, Try.results48, go_sem, k0, k1, k2, k3]) rfl ?_
    exact ⟨a1, c1, rfl, seg_base Y.out.2 (by omega), Y.out.1.2.2.2.1, Y.out.1.1⟩
end Go.Proofs.Ytmjdnocilbnoaaa

/- The queue: a device is asked. -/
namespace Go.Proofs.Ytmjdnocilbnoaaa
open Go.RowKit Go.Maps
set_option linter.unusedVariables false
set_option linter.unusedSimpArgs false
set_option maxRecDepth 100000
theorem catch_idle (p q : Addr) (w : World) : CallsD Try.prog 70 #[.pointer (some p), .pointer (some q)] .returning w fun e u' w' => e = .returned (.tuple #[]) ∧ u' = .returning ∧ w' = w := by
  refine callsD_of_wpS Try.func70 rfl fun c₀ cs hu => ?_
  apply wpS_seq
  apply wpS_region
  simp [wpOpsS, go_sem, recoverD, hu, Try.ntmps70, Exit.thenS]
  refine wpS_cond (t := false) (by simp [Act.eval, Array.replicate]) ?_
  simp only [Bool.false_eq_true, if_false]
  refine wpS_of_wp (wp_skip ?_)
  cases c₀
  simp_all [bodyPostS, results, Try.results70]
/-- the three boxes of use -/
def Us (w V : World) (a : Option Addr) (L c ta tl : Nat) (x y : Value) : Prop := Below w.heap.size w V ∧ V.heap[w.heap.size]? = some (.cells #[.slice a L c, .int .u64 (ta : Int), .int .u64 (tl : Int)] 50 (0, 0)) ∧ V.heap[w.heap.size + 1]? = some (.cells #[x] 51 (0, 0)) ∧ V.heap[w.heap.size + 2]? = some (.cells #[y] 4 (0, 0))
theorem us_new (w : World) (a : Option Addr) (L c ta tl : Nat) : Us w (((w.alloc (.cells #[.slice a L c, .int .u64 (ta : Int), .int .u64 (tl : Int)] 50)).alloc (.cells #[.int .u32 0] 51)).alloc (.cells #[.bool false] 4)) a L c ta tl (.int .u32 0) (.bool false) := by
  have h := three_in w (.cells #[.slice a L c, .int .u64 (ta : Int), .int .u64 (tl : Int)] 50) (.cells #[.int .u32 0] 51) (.cells #[.bool false] 4)
  exact ⟨h.2.2.2, h.1, h.2.1, h.2.2.1⟩
theorem box1_facts {w : World} {b : Nat} {x0 : Value} {t : TypeId} (h : w.heap[b]? = some (.cells #[x0] t (0, 0))) : w.cell? ⟨b, 0, none⟩ = some x0 ∧ w.frozen? ⟨b, 0, none⟩ = false := ⟨cellOf h 0 _ rfl, frozenOf h 0⟩
theorem use_any {w : World} (df : Nat) (cap : Array Value) (hcf : ∀ (args : Array Value) (V : World), (callFunc df args).run Try.prog V = .ok (.enter df args) V) (a : Option Addr) (L c ta tl : Nat) (G : Nat → Prop) (hG : ∀ k, G k → k < w.heap.size)
    (P : (Nat → Prop) → World → Nat → Bool → Prop)
    (hP : ∀ G' V V' n o, P G' V n o → V.heap.size ≤ V'.heap.size → (∀ k, G' k → V'.heap[k]? = V.heap[k]?) → P G' V' n o)
    (hdev : ∀ V, Below w.heap.size w V → Calls Try.prog df (#[.agg #[.slice a L c, .int .u64 (ta : Int), .int .u64 (tl : Int)]] ++ cap) V fun e V' => ∃ (n : Nat) (o : Bool) (G' : Nat → Prop), e = .returned (.tuple #[.int .u32 (n : Int), .bool o]) ∧ Step G V G' V' ∧ P G' V' n o) :
    Calls Try.prog 49 #[.func (.func df) #[] cap, .agg #[.slice a L c, .int .u64 (ta : Int), .int .u64 (tl : Int)]] w fun e w' => ∃ (n : Nat) (o : Bool) (G' : Nat → Prop), e = .returned (.tuple #[.int .u32 (n : Int), .bool o]) ∧ Step G w G' w' ∧ P G' w' n o := by
  have hmf : ∀ (fn : Fn) (first cap : Array Value) (w : World), (Instr.makeFunc fn first cap).run Try.prog w = .ok (.func fn first cap) w := fun _ _ _ _ => rfl
  have U0 : Hid (Us w (((w.alloc (.cells #[.slice a L c, .int .u64 (ta : Int), .int .u64 (tl : Int)] 50)).alloc (.cells #[.int .u32 0] 51)).alloc (.cells #[.bool false] 4)) a L c ta tl (.int .u32 0) (.bool false)) := us_new w a L c ta tl
  have HD : Hid ((∀ k, G k → k < w.heap.size) ∧ (∀ G' V V' n o, P G' V n o → V.heap.size ≤ V'.heap.size → (∀ k, G' k → V'.heap[k]? = V.heap[k]?) → P G' V' n o) ∧ ∀ V, Below w.heap.size w V → Calls Try.prog df (#[.agg #[.slice a L c, .int .u64 (ta : Int), .int .u64 (tl : Int)]] ++ cap) V fun e V' => ∃ (n : Nat) (o : Bool) (G' : Nat → Prop), e = .returned (.tuple #[.int .u32 (n : Int), .bool o]) ∧ Step G V G' V' ∧ P G' V' n o) := ⟨hG, hP, hdev⟩
  clear hG hP hdev
  go_enter_defers Try.func49, Try.ntmps49
  go_upto_region 1 with fail
  generalize ((w.alloc (.cells #[.slice a L c, .int .u64 (ta : Int), .int .u64 (tl : Int)] 50)).alloc (.cells #[.int .u32 0] 51)).alloc (.cells #[.bool false] 4) = v0 at *
  obtain ⟨p0, p1, p2⟩ := box3_facts U0.out.2.1
  go_wp2_with fail
  refine (HD.out.2.2 _ U0.out.1).mono ?_
  rintro e w1 ⟨n, o, G', rfl, hs, hp⟩
  have U1 : Hid (Step G w G' w1 ∧ P G' w1 n o ∧ w1.heap[w.heap.size + 1]? = some (.cells #[.int .u32 0] 51 (0, 0)) ∧ w1.heap[w.heap.size + 2]? = some (.cells #[.bool false] 4 (0, 0)) ∧ ¬ G' (w.heap.size + 1) ∧ ¬ G' (w.heap.size + 2)) := by
    have n1 : ¬ G (w.heap.size + 1) := fun h => by have := HD.out.1 _ h; omega
    have n2 : ¬ G (w.heap.size + 2) := fun h => by have := HD.out.1 _ h; omega
    exact ⟨(Step.of_below U0.out.1).trans hs, hp, step_box hs U0.out.2.2.1 n1, step_box hs U0.out.2.2.2 n2, not_later hs (Array.getElem?_eq_some_iff.1 U0.out.2.2.1).1 n1, not_later hs (Array.getElem?_eq_some_iff.1 U0.out.2.2.2).1 n2⟩
  clear hs hp U0 p0 p1 p2
  obtain ⟨q0, q1⟩ := box1_facts U1.out.2.2.1
  obtain ⟨r0, r1⟩ := box1_facts U1.out.2.2.2.1
  go_wp2_with fail
  have U2 : Hid (Step G w G' ((w1.setCell ⟨w.heap.size + 1, 0, none⟩ (.int .u32 (n : Int))).setCell ⟨w.heap.size + 2, 0, none⟩ (.bool o)) ∧ P G' ((w1.setCell ⟨w.heap.size + 1, 0, none⟩ (.int .u32 (n : Int))).setCell ⟨w.heap.size + 2, 0, none⟩ (.bool o)) n o ∧ ((w1.setCell ⟨w.heap.size + 1, 0, none⟩ (.int .u32 (n : Int))).setCell ⟨w.heap.size + 2, 0, none⟩ (.bool o)).heap[w.heap.size + 1]? = some (.cells #[.int .u32 (n : Int)] 51 (0, 0)) ∧ ((w1.setCell ⟨w.heap.size + 1, 0, none⟩ (.int .u32 (n : Int))).setCell ⟨w.heap.size + 2, 0, none⟩ (.bool o)).heap[w.heap.size + 2]? = some (.cells #[.bool o] 4 (0, 0))) := by
    obtain ⟨u1, u2, u3, u4, u5, u6⟩ := U1.out
    have same : ∀ z, z ≠ w.heap.size + 1 → z ≠ w.heap.size + 2 → ((w1.setCell ⟨w.heap.size + 1, 0, none⟩ (.int .u32 (n : Int))).setCell ⟨w.heap.size + 2, 0, none⟩ (.bool o)).heap[z]? = w1.heap[z]? := fun z h1 h2 => (heap_setCell _ _ _ _ _ h2).trans (heap_setCell _ _ _ _ _ h1)
    refine ⟨⟨u1.os, u1.tape, u1.output, by simpa [World.setCell] using u1.size, fun z hz hn => (same z (by omega) (by omega)).trans (u1.block z hz hn), u1.old, u1.keep⟩, HD.out.2.1 _ _ _ _ _ u2 (by simp [World.setCell]) (fun z hz => same z (fun e => u5 (e ▸ hz)) (fun e => u6 (e ▸ hz))), (heap_setCell _ _ _ _ _ (by omega)).trans (set_box u3 0 _), set_box ((heap_setCell _ _ _ _ _ (by omega)).trans u4) 0 _⟩
  clear U1 q0 q1 r0 r1
  generalize (w1.setCell ⟨w.heap.size + 1, 0, none⟩ (.int .u32 (n : Int))).setCell ⟨w.heap.size + 2, 0, none⟩ (.bool o) = w2 at *
  refine leaves_cons (f := 70) (args := #[.pointer (some ⟨w.heap.size + 1, 0, none⟩), .pointer (some ⟨w.heap.size + 2, 0, none⟩)]) (by simp) (by simp [go_sem]) ?_
  refine (catch_idle _ _ _).mono ?_
  rintro e u' w3 ⟨rfl, rfl, rfl⟩
  obtain ⟨q0, q1⟩ := box1_facts U2.out.2.2.1
  obtain ⟨r0, r1⟩ := box1_facts U2.out.2.2.2
  exact ⟨.tuple #[.int .u32 (n : Int), .bool o], by simp [results, Try.results49, go_sem, q0, r0], n, o, G', rfl, U2.out.1, U2.out.2.1⟩
end Go.Proofs.Ytmjdnocilbnoaaa

/- The queue: a device, and a service under way. -/
namespace Go.Proofs.Ytmjdnocilbnoaaa
open Go.RowKit Go.Maps
set_option linter.unusedVariables false
set_option linter.unusedSimpArgs false
set_option maxRecDepth 100000
theorem fetch_non {w : World} {F : Nat → Prop} {rb k : Nat} {M : Nat → Nat} (hr : RamAt w F rb 8192 k (.pointer none) M) {qb : Nat} {s : Int} {D A U : Nat} {rd ev al : Bool} {fe us : Nat} (hq : w.heap[qb]? = some (.cells #[.int .i64 s, .int .u64 (D : Int), .int .u64 (A : Int), .int .u64 (U : Int), .bool rd, .int .u16 (fe : Int), .int .u16 (us : Int), .bool ev, .bool al] 40 (0, 0))) (hF : ¬ F qb) (hD : D < 18446744073709551616) (hA : A < 18446744073709551616) (hU : U < 18446744073709551616) (hfe : fe ≤ 65535) {e : Int} (h : fetchR M s D A U rd fe al = .non e) : Calls Try.prog 48 #[.pointer (some ⟨qb, 0, none⟩), .pointer (some ⟨rb, 0, none⟩)] w fun r w' => r = .returned (.tuple #[.agg #[.int .u16 0, .slice none 0 0, .int .u64 0, .int .u64 0], .bool false, .int .i64 e]) ∧ w'.heap[qb]? = some (.cells #[.int .i64 s, .int .u64 (D : Int), .int .u64 (A : Int), .int .u64 (U : Int), .bool rd, .int .u16 (fe : Int), .int .u16 (us : Int), .bool ev, .bool al] 40 (0, 0)) ∧ Step (fun k => k = qb) w (fun k => k = qb) w' := by
  cases rd with
  | false =>
    rw [fetch_idle] at h
    cases h
    exact fetch_off hr hq hF
  | true =>
    by_cases hc : chkN s D A U 8192 = 0
    case neg =>
      rw [fetch_bad hc] at h
      cases h
      exact fetch_chk hr hq hF hD hA hU hc
    case pos =>
      obtain ⟨n, rfl, hg⟩ := gd_of hc hD
      by_cases h1 : waitN M A fe = 0
      · rw [fetch_none hc h1] at h
        cases h
        exact fetch_wait hr hq hg hF hfe h1
      by_cases h2 : n < waitN M A fe
      · rw [fetch_jump hc h1 h2] at h
        cases h
        exact fetch_jmp hr hq hg hF hfe h1 h2
      rw [fetch_got hc h1 h2] at h
      cases h
/-- what holds where something was fetched -/
theorem got_facts {M : Nat → Nat} {s : Int} {D A U fe : Nat} {rd al : Bool} {h : Nat} {c : Cn} (hD : D < 18446744073709551616) (hf : fetchR M s D A U rd fe al = .got h c) : rd = true ∧ ∃ n : Nat, s = n ∧ Gd n D A U ∧ waitN M A fe ≠ 0 ∧ ¬ n < waitN M A fe ∧ headN M n A fe = h ∧ walkR M D n (h : Nat) al = c := by
  cases rd with
  | false => rw [fetch_idle] at hf; cases hf
  | true =>
    by_cases hc : chkN s D A U 8192 = 0
    case neg => rw [fetch_bad hc] at hf; cases hf
    case pos =>
      obtain ⟨n, rfl, hg⟩ := gd_of hc hD
      by_cases h1 : waitN M A fe = 0
      · rw [fetch_none hc h1] at hf; cases hf
      by_cases h2 : n < waitN M A fe
      · rw [fetch_jump hc h1 h2] at hf; cases hf
      rw [fetch_got hc h1 h2] at hf
      simp only [Ft.got.injEq] at hf
      obtain ⟨rfl, rfl⟩ := hf
      exact ⟨rfl, n, rfl, hg, h1, h2, rfl, rfl⟩
theorem fetch_any {w : World} {F : Nat → Prop} {rb k : Nat} {M : Nat → Nat} (hr : RamAt w F rb 8192 k (.pointer none) M) {qb : Nat} {s : Int} {D A U : Nat} {rd ev al : Bool} {fe us : Nat} (hq : w.heap[qb]? = some (.cells #[.int .i64 s, .int .u64 (D : Int), .int .u64 (A : Int), .int .u64 (U : Int), .bool rd, .int .u16 (fe : Int), .int .u16 (us : Int), .bool ev, .bool al] 40 (0, 0))) (hF : ¬ F qb) (hD : D < 18446744073709551616) (hA : A < 18446744073709551616) (hU : U < 18446744073709551616) (hfe : fe ≤ 65535) {h : Nat} {c : Cn} (hf : fetchR M s D A U rd fe al = .got h c) : Calls Try.prog 48 #[.pointer (some ⟨qb, 0, none⟩), .pointer (some ⟨rb, 0, none⟩)] w fun e w' => ∃ a1 c1, e = .returned (.tuple #[.agg #[.int .u16 (h : Int), .slice a1 c.l.length c1, .int .u64 (c.ta : Int), .int .u64 (c.tl : Int)], .bool ((c.e : Int) == 0), .int .i64 (c.e : Int)]) ∧ SegIn w.heap.size w' (.slice a1 c.l.length c1) c.l ∧ w'.heap[qb]? = some (.cells #[.int .i64 s, .int .u64 (D : Int), .int .u64 (A : Int), .int .u64 (U : Int), .bool rd, .int .u16 (upN fe : Int), .int .u16 (us : Int), .bool ev, .bool al] 40 (0, 0)) ∧ Step (fun k => k = qb) w (fun k => k = qb) w' := by
  obtain ⟨rfl, n, rfl, hg, h1, h2, h3, h4⟩ := got_facts hD hf
  exact fetch_one hr hq hg hF hfe h1 h2 h c h3 h4
theorem head_le {M : Nat → Nat} (hM : ∀ a, M a ≤ 255) {s : Int} {D A U fe : Nat} {rd al : Bool} {h : Nat} {c : Cn} (hD : D < 18446744073709551616) (hf : fetchR M s D A U rd fe al = .got h c) : h ≤ 65535 ∧ (∀ s ∈ c.l, SegOk s) ∧ c.l.length ≤ 1000 := by
  obtain ⟨rfl, n, rfl, hg, h1, h2, rfl, rfl⟩ := got_facts hD hf
  have := walk_all hM D n hg.n2 (headN M n A fe : Nat) al
  exact ⟨rd_lt hM _, this.1, Nat.le_trans this.2.1 (by decide)⟩
/-- A DEVICE: a function and what it has captured; dev: what it does to its state, to the memory, and what it says; I: how its state lies in the world, in blocks of its own -/
structure Dvc {σ : Type} (rb df : Nat) (cap : Array Value) (dev : σ → (Nat → Nat) → Nat → Cn → Option (σ × (Nat → Nat) × Nat)) (bud : σ → Nat) (I : σ → (Nat → Prop) → World → Prop) : Prop where
  cf : ∀ (args : Array Value) (V : World), (callFunc df args).run Try.prog V = .ok (.enter df args) V
  lt : ∀ {t : σ} {O : Nat → Prop} {w : World}, I t O w → ∀ k, O k → k < w.heap.size
  kept : ∀ {t : σ} {O : Nat → Prop} {w w' : World}, I t O w → w.heap.size ≤ w'.heap.size → (∀ k, O k → w'.heap[k]? = w.heap[k]?) → I t O w'
  no : ∀ {t : σ} {M : Nat → Nat} {h : Nat} {c : Cn} {F O : Nat → Prop} {κ : Nat} {w : World} {a : Option Addr} {cc : Nat}, dev t M h c = none → RamAt w F rb 8192 κ (.pointer none) M → I t O w → (∀ k, O k → ¬ F k) → SegIn 0 w (.slice a c.l.length cc) c.l → Calls Try.prog df (#[.agg #[.slice a c.l.length cc, .int .u64 (c.ta : Int), .int .u64 (c.tl : Int)]] ++ cap) w fun e w' => e = .returned (.tuple #[.int .u32 0, .bool false]) ∧ Below w.heap.size w w'
  le : ∀ {t : σ} {M : Nat → Nat} {h : Nat} {c : Cn} {t' : σ} {M' : Nat → Nat} {n : Nat}, dev t M h c = some (t', M', n) → (∀ s ∈ c.l, SegOk s) → n ≤ 4294967295
  yes : ∀ {t : σ} {M : Nat → Nat} {h : Nat} {c : Cn} {F O : Nat → Prop} {κ : Nat} {w : World} {a : Option Addr} {cc : Nat} {t' : σ} {M' : Nat → Nat} {n : Nat}, dev t M h c = some (t', M', n) → RamAt w F rb 8192 κ (.pointer none) M → κ + bud t ≤ 900000 → I t O w → (∀ k, O k → ¬ F k) → SegIn 0 w (.slice a c.l.length cc) c.l → (∀ g, (Value.slice a c.l.length cc).ownBlock = some g → ¬ F g ∧ ¬ O g) → c.l.length ≤ 1000 → (∀ s ∈ c.l, SegOk s) → Calls Try.prog df (#[.agg #[.slice a c.l.length cc, .int .u64 (c.ta : Int), .int .u64 (c.tl : Int)]] ++ cap) w fun e w' => e = .returned (.tuple #[.int .u32 (n : Int), .bool true]) ∧ ∃ (F' O' : Nat → Prop) (κ' : Nat), RamAt w' F' rb 8192 κ' (.pointer none) M' ∧ I t' O' w' ∧ (∀ k, O' k → ¬ F' k) ∧ Step (fun k => F k ∨ O k) w (fun k => F' k ∨ O' k) w' ∧ κ' + 10 + bud t' ≤ κ + bud t
/-- a service under way -/
def Gl {σ : Type} (I : σ → (Nat → Prop) → World → Prop) (bud : σ → Nat) (rb qb : Nat) (s : Int) (D A U : Nat) (rd ev al : Bool) (w0 : World) (F0 O0 : Nat → Prop) (wr : World) (t : σ) (M : Nat → Nat) (fe us : Nat) (F O : Nat → Prop) (κ : Nat) : Prop :=
  RamAt wr F rb 8192 κ (.pointer none) M ∧ wr.heap[qb]? = some (.cells #[.int .i64 s, .int .u64 (D : Int), .int .u64 (A : Int), .int .u64 (U : Int), .bool rd, .int .u16 (fe : Int), .int .u16 (us : Int), .bool ev, .bool al] 40 (0, 0)) ∧ I t O wr ∧ (∀ k, O k → ¬ F k ∧ k ≠ qb) ∧ ¬ F qb ∧ κ + bud t ≤ 900000 ∧ Step (fun k => (F0 k ∨ O0 k) ∨ k = qb) w0 (fun k => (F k ∨ O k) ∨ k = qb) wr
section
variable {σ : Type} {I : σ → (Nat → Prop) → World → Prop} {bud : σ → Nat} {rb qb df : Nat} {cap : Array Value} {dev : σ → (Nat → Nat) → Nat → Cn → Option (σ × (Nat → Nat) × Nat)} {s : Int} {n D A U : Nat} {rd ev al : Bool} {w0 wr w' : World} {F0 O0 F O F' O' : Nat → Prop} {t t' : σ} {M M' : Nat → Nat} {fe us fe' us' κ κ' : Nat}
theorem Gl.below (hd : Dvc rb df cap dev bud I) (h : Gl I bud rb qb s D A U rd ev al w0 F0 O0 wr t M fe us F O κ) (hb : Below wr.heap.size wr w') : Gl I bud rb qb s D A U rd ev al w0 F0 O0 w' t M fe us F O κ :=
  ⟨h.1.below hb, below_box h.2.1 hb, hd.kept h.2.2.1 hb.size (fun k hk => hb.block k (hd.lt h.2.2.1 k hk)), h.2.2.2.1, h.2.2.2.2.1, h.2.2.2.2.2.1, h.2.2.2.2.2.2.trans (Step.of_below hb)⟩
theorem Gl.q (hd : Dvc rb df cap dev bud I) (h : Gl I bud rb qb s D A U rd ev al w0 F0 O0 wr t M fe us F O κ) (hs : Step (fun k => k = qb) wr (fun k => k = qb) w') (hq : w'.heap[qb]? = some (.cells #[.int .i64 s, .int .u64 (D : Int), .int .u64 (A : Int), .int .u64 (U : Int), .bool rd, .int .u16 (fe' : Int), .int .u16 (us' : Int), .bool ev, .bool al] 40 (0, 0))) : Gl I bud rb qb s D A U rd ev al w0 F0 O0 w' t M fe' us' F O κ :=
  ⟨ram_q h.1 hs h.2.2.2.2.1, hq, hd.kept h.2.2.1 hs.size (fun k hk => hs.block k (hd.lt h.2.2.1 k hk) (h.2.2.2.1 k hk).2), h.2.2.2.1, h.2.2.2.2.1, h.2.2.2.2.2.1, h.2.2.2.2.2.2.trans (step_orR hs)⟩
theorem Gl.did (hd : Dvc rb df cap dev bud I) (h : Gl I bud rb qb s D A U rd ev al w0 F0 O0 wr t M fe us F O κ) (hr : RamAt w' F' rb 8192 κ' (.pointer none) M') (hi : I t' O' w') (hO : ∀ k, O' k → ¬ F' k) (hs : Step (fun k => F k ∨ O k) wr (fun k => F' k ∨ O' k) w') (hk : κ' + 10 + bud t' ≤ κ + bud t) : Gl I bud rb qb s D A U rd ev al w0 F0 O0 w' t' M' fe us F' O' κ' ∧ κ' + 10 + bud t' ≤ 900000 := by
  have hlt := (Array.getElem?_eq_some_iff.1 h.2.1).1
  have hn : ¬ (F qb ∨ O qb) := fun hc => hc.elim h.2.2.2.2.1 (fun ho => (h.2.2.2.1 qb ho).2 rfl)
  have hn2 := not_later hs hlt hn
  have h6 := h.2.2.2.2.2.1
  exact ⟨⟨hr, step_box hs h.2.1 hn, hi, fun k hk => ⟨hO k hk, fun e => hn2 (.inr (e ▸ hk))⟩, fun hf => hn2 (.inl hf), by omega, h.2.2.2.2.2.2.trans (step_q hs hlt)⟩, by omega⟩
theorem Gl.ret (hd : Dvc rb df cap dev bud I) (h : Gl I bud rb qb s D A U rd ev al w0 F0 O0 wr t M fe us F O κ) (hr : RamAt w' F' rb 8192 (κ + 10) (.pointer none) M') (hq : w'.heap[qb]? = some (.cells #[.int .i64 s, .int .u64 (D : Int), .int .u64 (A : Int), .int .u64 (U : Int), .bool rd, .int .u16 (fe : Int), .int .u16 (us' : Int), .bool ev, .bool al] 40 (0, 0))) (hs : Step (fun k => F k ∨ k = qb) wr (fun k => F' k ∨ k = qb) w') (hqF : ¬ F' qb) (hk : κ + 10 + bud t ≤ 900000) : Gl I bud rb qb s D A U rd ev al w0 F0 O0 w' t M' fe us' F' O (κ + 10) := by
  have hn : ∀ k, O k → ¬ (F k ∨ k = qb) := fun k hk hc => hc.elim (h.2.2.2.1 k hk).1 (h.2.2.2.1 k hk).2
  have hlt := fun k hk => hd.lt h.2.2.1 k hk
  refine ⟨hr, hq, hd.kept h.2.2.1 hs.size (fun k hk => hs.block k (hlt k hk) (hn k hk)), fun k hk => ⟨fun hf => not_later hs (hlt k hk) (hn k hk) (.inl hf), (h.2.2.2.1 k hk).2⟩, hqF, hk, h.2.2.2.2.2.2.trans ?_⟩
  · exact ⟨hs.os, hs.tape, hs.output, hs.size, fun k hk hc => hs.block k hk (fun hd => hc (hd.elim (fun hf => .inl (.inl hf)) .inr)), fun k hk => by
      rcases hk with (hk | hk) | hk
      · exact (hs.old k (.inl hk)).imp (fun h => h.elim (fun hf => .inl (.inl hf)) .inr) id
      · exact .inl (.inl (.inr hk))
      · exact .inl (.inr hk), fun k hk => by
      rcases hk with (hk | hk) | hk
      · exact (hs.keep k (.inl hk)).elim (fun hf => .inl (.inl hf)) .inr
      · exact .inl (.inr hk)
      · exact .inr hk⟩
end
end Go.Proofs.Ytmjdnocilbnoaaa

/- The queue: all that is offered is given to a device. -/
namespace Go.Proofs.Ytmjdnocilbnoaaa
open Go.RowKit Go.Maps
set_option linter.unusedVariables false
set_option linter.unusedSimpArgs false
set_option maxRecDepth 100000
theorem seg_down {B : Nat} {w : World} {v : Value} {l : List Seg} (h : SegIn B w v l) : SegIn 0 w v l := seg_base h (Nat.zero_le _)
/-- what use tells, of a device that can't have the chain yet -/
def Pno {σ : Type} (I : σ → (Nat → Prop) → World → Prop) (rb : Nat) (t : σ) (M : Nat → Nat) (F O : Nat → Prop) (κ : Nat) (G : Nat → Prop) (V : World) (n : Nat) (o : Bool) : Prop := n = 0 ∧ o = false ∧ RamAt V F rb 8192 κ (.pointer none) M ∧ I t O V ∧ G = fun k => F k ∨ O k
/-- .. and of one that used it -/
def Pyes {σ : Type} (I : σ → (Nat → Prop) → World → Prop) (rb : Nat) (bud : σ → Nat) (t' : σ) (M' : Nat → Nat) (cnt b : Nat) (G : Nat → Prop) (V : World) (n : Nat) (o : Bool) : Prop := n = cnt ∧ o = true ∧ ∃ (F' O' : Nat → Prop) (κ' : Nat), RamAt V F' rb 8192 κ' (.pointer none) M' ∧ I t' O' V ∧ (∀ k, O' k → ¬ F' k) ∧ G = (fun k => F' k ∨ O' k) ∧ κ' + 10 + bud t' ≤ b
theorem wrap_round (i : Nat) (h : i < 65537) : wrap64 ((i : Int) + 1) = (i : Int) + 1 := by unfold wrap64; omega
section
variable {σ : Type} {I : σ → (Nat → Prop) → World → Prop} {bud : σ → Nat} {rb qb df : Nat} {cap : Array Value} {dev : σ → (Nat → Nat) → Nat → Cn → Option (σ × (Nat → Nat) × Nat)}
theorem use_no (hd : Dvc rb df cap dev bud I) {t : σ} {M : Nat → Nat} {h : Nat} {c : Cn} {F O : Nat → Prop} {κ : Nat} {w : World} {a : Option Addr} {cc : Nat} (hn : dev t M h c = none) (hr : RamAt w F rb 8192 κ (.pointer none) M) (hi : I t O w) (hO : ∀ k, O k → ¬ F k) (hs : SegIn 0 w (.slice a c.l.length cc) c.l) : Calls Try.prog 49 #[.func (.func df) #[] cap, .agg #[.slice a c.l.length cc, .int .u64 (c.ta : Int), .int .u64 (c.tl : Int)]] w fun e w' => ∃ (n : Nat) (o : Bool) (G' : Nat → Prop), e = .returned (.tuple #[.int .u32 (n : Int), .bool o]) ∧ Step (fun k => F k ∨ O k) w G' w' ∧ Pno I rb t M F O κ G' w' n o := by
  refine use_any df cap hd.cf a c.l.length cc c.ta c.tl (fun k => F k ∨ O k) (fun k hk => hk.elim (hr.lt k) (hd.lt hi k)) (Pno I rb t M F O κ) ?_ ?_
  · rintro G' V V' n o ⟨h1, h2, h3, h4, rfl⟩ hsz hk
    exact ⟨h1, h2, h3.kept hsz (fun k hf => hk k (.inl hf)), hd.kept h4 hsz (fun k ho => hk k (.inr ho)), rfl⟩
  · intro V hV
    refine (hd.no hn (hr.below hV) (hd.kept hi hV.size (fun k hk => hV.block k (hd.lt hi k hk))) hO (hs.kept (fun g hg => hV.block g (hs.lt g hg).2))).mono ?_
    rintro e V' ⟨rfl, hb⟩
    have hb2 := below_to hV hb
    exact ⟨0, false, _, rfl, Step.of_below hb, rfl, rfl, hr.below hb2, hd.kept hi hb2.size (fun k hk => hb2.block k (hd.lt hi k hk)), rfl⟩
theorem use_yes (hd : Dvc rb df cap dev bud I) {t : σ} {M : Nat → Nat} {h : Nat} {c : Cn} {F O : Nat → Prop} {κ : Nat} {w : World} {a : Option Addr} {cc : Nat} {t' : σ} {M' : Nat → Nat} {cnt : Nat} (hn : dev t M h c = some (t', M', cnt)) (hr : RamAt w F rb 8192 κ (.pointer none) M) (hκ : κ + bud t ≤ 900000) (hi : I t O w) (hO : ∀ k, O k → ¬ F k) (hs : SegIn 0 w (.slice a c.l.length cc) c.l) (hg : ∀ g, (Value.slice a c.l.length cc).ownBlock = some g → ¬ F g ∧ ¬ O g) (hl : c.l.length ≤ 1000) (hok : ∀ s ∈ c.l, SegOk s) : Calls Try.prog 49 #[.func (.func df) #[] cap, .agg #[.slice a c.l.length cc, .int .u64 (c.ta : Int), .int .u64 (c.tl : Int)]] w fun e w' => ∃ (n : Nat) (o : Bool) (G' : Nat → Prop), e = .returned (.tuple #[.int .u32 (n : Int), .bool o]) ∧ Step (fun k => F k ∨ O k) w G' w' ∧ Pyes I rb bud t' M' cnt (κ + bud t) G' w' n o := by
  refine use_any df cap hd.cf a c.l.length cc c.ta c.tl (fun k => F k ∨ O k) (fun k hk => hk.elim (hr.lt k) (hd.lt hi k)) (Pyes I rb bud t' M' cnt (κ + bud t)) ?_ ?_
  · rintro G' V V' n o ⟨h1, h2, F', O', κ', h3, h4, h5, rfl, h6⟩ hsz hk
    exact ⟨h1, h2, F', O', κ', h3.kept hsz (fun k hf => hk k (.inl hf)), hd.kept h4 hsz (fun k ho => hk k (.inr ho)), h5, rfl, h6⟩
  · intro V hV
    refine (hd.yes hn (hr.below hV) hκ (hd.kept hi hV.size (fun k hk => hV.block k (hd.lt hi k hk))) hO (hs.kept (fun g hg => hV.block g (hs.lt g hg).2)) hg hl hok).mono ?_
    rintro e V' ⟨rfl, F', O', κ', h3, h4, h5, h6, h7⟩
    exact ⟨cnt, true, _, rfl, h6, rfl, rfl, F', O', κ', h3, h4, h5, rfl, h7⟩
theorem Gl.same {s : Int} {D A U : Nat} {rd ev al : Bool} {w0 wr w' : World} {F0 O0 F O : Nat → Prop} {t : σ} {M : Nat → Nat} {fe us κ : Nat} (h : Gl I bud rb qb s D A U rd ev al w0 F0 O0 wr t M fe us F O κ) (hr : RamAt w' F rb 8192 κ (.pointer none) M) (hi : I t O w') (hs : Step (fun k => F k ∨ O k) wr (fun k => F k ∨ O k) w') : Gl I bud rb qb s D A U rd ev al w0 F0 O0 w' t M fe us F O κ := by
  have hlt := (Array.getElem?_eq_some_iff.1 h.2.1).1
  have hn : ¬ (F qb ∨ O qb) := fun hc => hc.elim h.2.2.2.2.1 (fun ho => (h.2.2.2.1 qb ho).2 rfl)
  exact ⟨hr, step_box hs h.2.1 hn, hi, h.2.2.2.1, h.2.2.2.2.1, h.2.2.2.2.2.1, h.2.2.2.2.2.2.trans (step_q hs hlt)⟩
/-- what giveAll leaves -/
def Gend (I : σ → (Nat → Prop) → World → Prop) (rb qb : Nat) (s : Int) (D A U : Nat) (rd ev al : Bool) (w0 : World) (F0 O0 : Nat → Prop) (R : Gv σ) (w' : World) : Prop := ∃ (F O : Nat → Prop) (κ : Nat), RamAt w' F rb 8192 κ (.pointer none) R.M ∧ w'.heap[qb]? = some (.cells #[.int .i64 s, .int .u64 (D : Int), .int .u64 (A : Int), .int .u64 (U : Int), .bool rd, .int .u16 (R.fe : Int), .int .u16 (R.us : Int), .bool ev, .bool al] 40 (0, 0)) ∧ I R.s O w' ∧ (∀ k, O k → ¬ F k ∧ k ≠ qb) ∧ ¬ F qb ∧ κ ≤ 900000 ∧ Step (fun k => (F0 k ∨ O0 k) ∨ k = qb) w0 (fun k => (F k ∨ O k) ∨ k = qb) w'
theorem Gl.fin {s : Int} {D A U : Nat} {rd ev al : Bool} {w0 wr : World} {F0 O0 F O : Nat → Prop} {t : σ} {M : Nat → Nat} {fe us κ : Nat} (h : Gl I bud rb qb s D A U rd ev al w0 F0 O0 wr t M fe us F O κ) {R : Gv σ} {e : Int} (hR : R = ⟨t, M, fe, us, e⟩) : Gend I rb qb s D A U rd ev al w0 F0 O0 R wr := by
  subst hR
  exact ⟨F, O, κ, h.1, h.2.1, h.2.2.1, h.2.2.2.1, h.2.2.2.2.1, by have := h.2.2.2.2.2.1; omega, h.2.2.2.2.2.2⟩
set_option maxHeartbeats 4000000 in
theorem give_any (hd : Dvc rb df cap dev bud I) {s : Int} {D A U : Nat} {rd ev al : Bool} (hD : D < 18446744073709551616) (hA : A < 18446744073709551616) (hU : U < 18446744073709551616) {w0 : World} {F0 O0 : Nat → Prop} {t0 : σ} {M0 : Nat → Nat} {fe0 us0 κ0 : Nat} (hfe : fe0 ≤ 65535) (hus : us0 ≤ 65535) (h0 : Gl I bud rb qb s D A U rd ev al w0 F0 O0 w0 t0 M0 fe0 us0 F0 O0 κ0) (R : Gv σ) (hR : giveR dev s D A U rd al 65537 t0 M0 fe0 us0 = R) :
    Calls Try.prog 28 #[.pointer (some ⟨qb, 0, none⟩), .pointer (some ⟨rb, 0, none⟩), .func (.func df) #[] cap] w0 fun e w' => e = .returned (.int .i64 R.e) ∧ Gend I rb qb s D A U rd ev al w0 F0 O0 R w' := by
  have HB : Hid (D < 18446744073709551616 ∧ A < 18446744073709551616 ∧ U < 18446744073709551616 ∧ Dvc rb df cap dev bud I) := ⟨hD, hA, hU, hd⟩
  have H0 : Hid (Gl I bud rb qb s D A U rd ev al w0 F0 O0 w0 t0 M0 fe0 us0 F0 O0 κ0 ∧ fe0 ≤ 65535 ∧ us0 ≤ 65535 ∧ giveR dev s D A U rd al 65537 t0 M0 fe0 us0 = R) := ⟨h0, hfe, hus, hR⟩
  clear hD hA hU hd h0 hR hfe hus
  go_enter Try.func28, Try.ntmps28
  go_wp2_with fail
  go_loopw [13] (fun x wr => ∃ (i j : Nat) (t : σ) (M : Nat → Nat) (fe us : Nat) (F O : Nat → Prop) (κ : Nat), x = .int .i64 (i : Int) ∧ i + j = 65537 ∧ fe ≤ 65535 ∧ us ≤ 65535 ∧ Gl I bud rb qb s D A U rd ev al w0 F0 O0 wr t M fe us F O κ ∧ giveR dev s D A U rd al j t M fe us = R) (fun x _ => 65537 - (intOf x).toNat)
  case atStart => exact ⟨0, 65537, t0, M0, fe0, us0, F0, O0, κ0, rfl, rfl, H0.out.2.1, H0.out.2.2.1, H0.out.1, H0.out.2.2.2⟩
  case round =>
    obtain ⟨i, j, t, M, fe, us, F, O, κ, rfl, hij, hfe, hus, hgl, hR⟩ := hrel
    clear H0
    have X0 : Hid (Gl I bud rb qb s D A U rd ev al w0 F0 O0 wr t M fe us F O κ ∧ fe ≤ 65535 ∧ us ≤ 65535 ∧ giveR dev s D A U rd al j t M fe us = R ∧ i + j = 65537) := ⟨hgl, hfe, hus, hR, hij⟩
    clear hgl hfe hus hR
    cases j with
    | zero =>
      have hnot : ¬ (i : Int) < 65537 := by omega
      clear hij
      go_wp2_with fail
      go_ret
      rw [give_zero] at X0
      exact ⟨by rw [← X0.out.2.2.2.1]; rfl, X0.out.1.fin X0.out.2.2.2.1.symm⟩
    | succ j =>
    have hlt : (i : Int) < 65537 := by omega
    have HI : Hid (i < 65537) := by show i < 65537; omega
    clear hij
    obtain ⟨f0, f1, f2, f3, f4, f5, f6, f7, f8⟩ := box9_facts X0.out.1.2.1
    obtain ⟨ft, hft⟩ : ∃ ft, fetchR M s D A U rd fe al = ft := ⟨_, rfl⟩
    cases ft with
    | non e =>
      have HF : Hid (fetchR M s D A U rd fe al = .non e) := hft
      have hRe := X0.out.2.2.2.1
      rw [give_non hft] at hRe
      have HR : Hid (R = ⟨t, M, fe, us, e⟩) := hRe.symm
      clear hft hRe
      go_wp2_with (go_at_call 48; refine (fetch_non X0.out.1.1 X0.out.1.2.1 X0.out.1.2.2.2.2.1 HB.out.1 HB.out.2.1 HB.out.2.2.1 X0.out.2.1 HF.out).mono ?_; rintro e1 w1 ⟨rfl, hq1, hs1⟩; have X1 : Hid (Gl I bud rb qb s D A U rd ev al w0 F0 O0 w1 t M fe us F O κ) := X0.out.1.q HB.out.2.2.2 hs1 hq1; clear hq1 hs1)
      go_ret
      exact ⟨by rw [HR.out]; rfl, (X1.out.below HB.out.2.2.2 (one_box _ _)).fin HR.out⟩
    | got h c =>
    have HF : Hid (fetchR M s D A U rd fe al = .got h c) := hft
    have hle := head_le X0.out.1.1.le HB.out.1 hft
    have HL : Hid (h ≤ 65535 ∧ (∀ s ∈ c.l, SegOk s) ∧ c.l.length ≤ 1000) := hle
    obtain ⟨cl, hcl⟩ : ∃ cl, c.l.length = cl := ⟨_, rfl⟩
    obtain ⟨ta, hta⟩ : ∃ ta, c.ta = ta := ⟨_, rfl⟩
    obtain ⟨tl, htl⟩ : ∃ tl, c.tl = tl := ⟨_, rfl⟩
    obtain ⟨ce, hce⟩ : ∃ ce, c.e = ce := ⟨_, rfl⟩
    have HC : Hid (c.l.length = cl ∧ c.ta = ta ∧ c.tl = tl ∧ c.e = ce) := ⟨hcl, hta, htl, hce⟩
    have KF : Hid (∀ V, Gl I bud rb qb s D A U rd ev al w0 F0 O0 V t M fe us F O κ → Calls Try.prog 48 #[.pointer (some ⟨qb, 0, none⟩), .pointer (some ⟨rb, 0, none⟩)] V fun e w' => ∃ a1 c1, e = .returned (.tuple #[.agg #[.int .u16 (h : Int), .slice a1 cl c1, .int .u64 (ta : Int), .int .u64 (tl : Int)], .bool ((ce : Int) == 0), .int .i64 (ce : Int)]) ∧ SegIn V.heap.size w' (.slice a1 cl c1) c.l ∧ Gl I bud rb qb s D A U rd ev al w0 F0 O0 w' t M (upN fe) us F O κ ∧ V.heap.size ≤ w'.heap.size) := by
      intro V hV
      have := fetch_any hV.1 hV.2.1 hV.2.2.2.2.1 HB.out.1 HB.out.2.1 HB.out.2.2.1 X0.out.2.1 HF.out
      rw [hcl, hta, htl, hce] at this
      refine this.mono ?_
      rintro e w' ⟨a1, c1, rfl, hs, hq, hst⟩
      exact ⟨a1, c1, rfl, hs, hV.q HB.out.2.2.2 hst hq, hst.size⟩
    clear hft hle hcl hta htl hce
    go_upto_region 5 with (go_at_call 48; refine (KF.out _ X0.out.1).mono ?_; rintro e w1 ⟨a1, c1, rfl, hs1, hg1, hz1⟩; have X1 : Hid (Gl I bud rb qb s D A U rd ev al w0 F0 O0 w1 t M (upN fe) us F O κ ∧ SegIn wr.heap.size w1 (.slice a1 cl c1) c.l ∧ wr.heap.size ≤ w1.heap.size) := ⟨hg1, hs1, hz1⟩; clear hs1 hg1 hz1 f0 f1 f2 f3 f4 f5 f6 f7 f8)
    have X2 : Hid (Gl I bud rb qb s D A U rd ev al w0 F0 O0 (w1.alloc (.cells #[.int .u16 (h : Int), .slice a1 cl c1, .int .u64 (ta : Int), .int .u64 (tl : Int)] 108)) t M (upN fe) us F O κ ∧ SegIn wr.heap.size (w1.alloc (.cells #[.int .u16 (h : Int), .slice a1 cl c1, .int .u64 (ta : Int), .int .u64 (tl : Int)] 108)) (.slice a1 cl c1) c.l ∧ (w1.alloc (.cells #[.int .u16 (h : Int), .slice a1 cl c1, .int .u64 (ta : Int), .int .u64 (tl : Int)] 108)).heap[w1.heap.size]? = some (.cells #[.int .u16 (h : Int), .slice a1 cl c1, .int .u64 (ta : Int), .int .u64 (tl : Int)] 108 (0, 0)) ∧ wr.heap.size ≤ w1.heap.size) := ⟨X1.out.1.below HB.out.2.2.2 (one_box _ _), X1.out.2.1.kept (fun g hg => (one_box _ _).block g (X1.out.2.1.lt g hg).2), heap_alloc_new _ _, X1.out.2.2⟩
    have HNEW : Hid ((∀ k, F k → ¬ w1.heap.size ≤ k) ∧ ∀ k, O k → ¬ w1.heap.size ≤ k) := ⟨fun k hk hc => by have := X1.out.1.1.lt k hk; omega, fun k hk hc => by have := HB.out.2.2.2.lt X1.out.1.2.2.1 k hk; omega⟩
    have HOLD : Hid ((∀ k, F k → ¬ wr.heap.size ≤ k) ∧ ∀ k, O k → ¬ wr.heap.size ≤ k) := ⟨fun k hk hc => by have := X0.out.1.1.lt k hk; omega, fun k hk hc => by have := HB.out.2.2.2.lt X0.out.1.2.2.1 k hk; omega⟩
    clear X1 KF
    generalize w1.alloc (.cells #[.int .u16 (h : Int), .slice a1 cl c1, .int .u64 (ta : Int), .int .u64 (tl : Int)] 108) = w2 at *
    generalize w1.heap.size = p at *
    obtain ⟨p0, p1, p2, p3⟩ := box4_facts X2.out.2.2.1
    by_cases hz : ce = 0
    case neg =>
      have g1 : ((ce : Int) == 0) = false := by simp; omega
      have hRe := X0.out.2.2.2.1
      rw [give_err HF.out (by rw [HC.out.2.2.2]; exact hz), HC.out.2.2.2] at hRe
      have HR : Hid (R = ⟨t, M, upN fe, us, (ce : Int)⟩) := hRe.symm
      clear hz hRe
      go_wp2_with fail
      go_ret
      exact ⟨by rw [HR.out]; rfl, X2.out.1.fin HR.out⟩
    subst hz
    obtain ⟨dv, hdv⟩ : ∃ dv, dev t M h c = dv := ⟨_, rfl⟩
    have HO : Hid (∀ k, O k → ¬ F k) := fun k hk => (X2.out.1.2.2.2.1 k hk).1
    cases dv with
    | none =>
      have hRe := X0.out.2.2.2.1
      rw [give_stay HF.out HC.out.2.2.2 hdv] at hRe
      have HR : Hid (R = ⟨t, M, fe, us, 0⟩) := hRe.symm
      have KU : Hid (Calls Try.prog 49 #[.func (.func df) #[] cap, .agg #[.slice a1 cl c1, .int .u64 (ta : Int), .int .u64 (tl : Int)]] w2 fun e w' => e = .returned (.tuple #[.int .u32 0, .bool false]) ∧ Gl I bud rb qb s D A U rd ev al w0 F0 O0 w' t M (upN fe) us F O κ) := by
        have hs2 := seg_down X2.out.2.1
        rw [← HC.out.1] at hs2
        have := use_no HB.out.2.2.2 hdv X2.out.1.1 X2.out.1.2.2.1 HO.out hs2
        rw [HC.out.1, HC.out.2.1, HC.out.2.2.1] at this
        refine this.mono ?_
        rintro e w' ⟨n, o, G', rfl, hst, rfl, rfl, h3, h4, rfl⟩
        exact ⟨rfl, X2.out.1.same h3 h4 hst⟩
      clear hRe hdv
      go_upto_region 9 with (go_at_call 49; refine (KU.out).mono ?_; rintro e w3 ⟨rfl, hg3⟩; have X3 : Hid (Gl I bud rb qb s D A U rd ev al w0 F0 O0 w3 t M (upN fe) us F O κ) := hg3; clear hg3 p0 p1 p2 p3)
      have cf := frozenOf X3.out.2.1 5
      obtain ⟨f0, f1, f2, f3, f4, f5, f6, f7, f8⟩ := box9_facts X3.out.2.1
      have X4 : Hid (Gl I bud rb qb s D A U rd ev al w0 F0 O0 (w3.setCell ⟨qb, 5, none⟩ (.int .u16 (fe : Int))) t M fe us F O κ) := X3.out.q HB.out.2.2.2 (step_set _ _ _ _) (set_box X3.out.2.1 5 _)
      go_wp2_with fail
      go_ret
      exact ⟨by rw [HR.out]; rfl, X4.out.fin HR.out⟩
    | some tr =>
      obtain ⟨t', M', cnt⟩ := tr
      have hRe := X0.out.2.2.2.1
      rw [give_more HF.out HC.out.2.2.2 hdv] at hRe
      obtain ⟨hrd, n, hsn, hgd, _, _, _, _⟩ := got_facts HB.out.1 HF.out
      have hnat : s.toNat = n := by rw [hsn]; rfl
      rw [hnat] at hRe
      have HR : Hid (giveR dev s D A U rd al j t' (retM M' n U us h cnt) (upN fe) (upN us) = R ∧ s = (n : Int) ∧ Gd n D A U ∧ cnt ≤ 4294967295) := ⟨hRe, hsn, hgd, HB.out.2.2.2.le hdv HL.out.2.1⟩
      have KU : Hid (Calls Try.prog 49 #[.func (.func df) #[] cap, .agg #[.slice a1 cl c1, .int .u64 (ta : Int), .int .u64 (tl : Int)]] w2 fun e w' => ∃ (F' O' : Nat → Prop) (κ' : Nat), e = .returned (.tuple #[.int .u32 (cnt : Int), .bool true]) ∧ Gl I bud rb qb s D A U rd ev al w0 F0 O0 w' t' M' (upN fe) us F' O' κ' ∧ κ' + 10 + bud t' ≤ 900000 ∧ w'.heap[p]? = some (.cells #[.int .u16 (h : Int), .slice a1 cl c1, .int .u64 (ta : Int), .int .u64 (tl : Int)] 108 (0, 0))) := by
        have hs2 := seg_down X2.out.2.1
        rw [← HC.out.1] at hs2
        have := use_yes HB.out.2.2.2 hdv X2.out.1.1 X2.out.1.2.2.2.2.2.1 X2.out.1.2.2.1 HO.out hs2 (fun g hg => by
          rw [HC.out.1] at hg
          have hlt := (X2.out.2.1.lt g hg).1
          exact ⟨fun hf => HOLD.out.1 g hf hlt, fun ho => HOLD.out.2 g ho hlt⟩) HL.out.2.2 HL.out.2.1
        rw [HC.out.1, HC.out.2.1, HC.out.2.2.1] at this
        refine this.mono ?_
        rintro e w' ⟨n1, o, G', rfl, hst, rfl, rfl, F', O', κ', h3, h4, h5, rfl, h6⟩
        have := Gl.did HB.out.2.2.2 X2.out.1 h3 h4 h5 hst h6
        exact ⟨F', O', κ', rfl, this.1, this.2, step_box hst X2.out.2.2.1 (fun hc => hc.elim (fun hf => HNEW.out.1 p hf (Nat.le_refl _)) (fun ho => HNEW.out.2 p ho (Nat.le_refl _)))⟩
      clear hRe hdv hrd hsn hgd hnat
      go_upto_region 11 with (go_at_call 49; refine (KU.out).mono ?_; rintro e w3 ⟨F3, O3, κ3, rfl, hg3, hk3, hp3⟩; have X3 : Hid (Gl I bud rb qb s D A U rd ev al w0 F0 O0 w3 t' M' (upN fe) us F3 O3 κ3 ∧ κ3 + 10 + bud t' ≤ 900000 ∧ w3.heap[p]? = some (.cells #[.int .u16 (h : Int), .slice a1 cl c1, .int .u64 (ta : Int), .int .u64 (tl : Int)] 108 (0, 0))) := ⟨hg3, hk3, hp3⟩; clear hg3 hk3 hp3 p0 p1 p2 p3)
      obtain ⟨p0, p1, p2, p3⟩ := box4_facts X3.out.2.2
      have KR : Hid (Calls Try.prog 50 #[.pointer (some ⟨qb, 0, none⟩), .pointer (some ⟨rb, 0, none⟩), .int .u16 (h : Int), .int .u32 (cnt : Int)] w3 fun e w' => e = .returned (.tuple #[]) ∧ ∃ F', Gl I bud rb qb s D A U rd ev al w0 F0 O0 w' t' (retM M' n U us h cnt) (upN fe) (upN us) F' O3 (κ3 + 10)) := by
        have hx := X3.out.1
        obtain ⟨hRR, hsn, hgd, hcn⟩ := HR.out
        rw [hsn] at hx ⊢
        refine (return_any hx.1 hx.2.1 hgd hx.2.2.2.2.1 h cnt X0.out.2.2.1 HL.out.1 hcn (by have := X3.out.2.1; omega)).mono ?_
        rintro e w' ⟨rfl, hq, F', hr, hst, hqF⟩
        exact ⟨rfl, F', hx.ret HB.out.2.2.2 hr hq hst hqF X3.out.2.1⟩
      go_wp2_with (go_at_call 50; refine (KR.out).mono ?_; rintro e w4 ⟨rfl, F4, hg4⟩; have X4 : Hid (Gl I bud rb qb s D A U rd ev al w0 F0 O0 w4 t' (retM M' n U us h cnt) (upN fe) (upN us) F4 O3 (κ3 + 10)) := hg4; clear hg4 p0 p1 p2 p3)
      clear hlt
      go_roundw
      case rel => exact ⟨i + 1, j, t', retM M' n U us h cnt, upN fe, upN us, F4, O3, κ3 + 10, by (try rw [wrap_round i HI.out]); go_num, by have := X0.out.2.2.2.2; omega, up_le _, up_le _, X4.out, HR.out.1⟩
      case measure => simp [intOf, wrap_round i HI.out]; have := HI.out; omega
end
end Go.Proofs.Ytmjdnocilbnoaaa

/- The statements' right and Of. -/
namespace Go.Proofs.Ytmjdnocilbnoaaa
open Go.RowKit Go.Maps
set_option linter.unusedVariables false
set_option linter.unusedSimpArgs false
set_option maxRecDepth 100000
def inQ (fi ui : Int) : Prop := 0 ≤ fi ∧ fi < 65536 ∧ 0 ≤ ui ∧ ui < 65536
theorem inQ_nat {fi ui : Int} (h : inQ fi ui) : ∃ fe us : Nat, fi = (fe : Int) ∧ ui = (us : Int) ∧ fe ≤ 65535 ∧ us ≤ 65535 := by
  obtain ⟨h1, h2, h3, h4⟩ := h
  exact ⟨fi.toNat, ui.toNat, by omega, by omega, by omega, by omega⟩
theorem right_no {w : World} {s : Int} {D A U : Nat} {rd ev al : Bool} {fi ui : Int} (h : ¬ inQ fi ui) : Calls Try.prog 7 #[.agg #[.int .i64 s, .int .u64 (D : Int), .int .u64 (A : Int), .int .u64 (U : Int), .bool rd, .int .i64 fi, .int .i64 ui, .bool ev, .bool al]] w fun e w' => e = .returned (.bool false) ∧ Below w.heap.size w w' := by
  have X : Hid ((w.alloc (.cells #[.int .i64 s, .int .u64 (D : Int), .int .u64 (A : Int), .int .u64 (U : Int), .bool rd, .int .i64 fi, .int .i64 ui, .bool ev, .bool al] 27)).heap[w.heap.size]? = some (.cells #[.int .i64 s, .int .u64 (D : Int), .int .u64 (A : Int), .int .u64 (U : Int), .bool rd, .int .i64 fi, .int .i64 ui, .bool ev, .bool al] 27 (0, 0)) ∧ Below w.heap.size w (w.alloc (.cells #[.int .i64 s, .int .u64 (D : Int), .int .u64 (A : Int), .int .u64 (U : Int), .bool rd, .int .i64 fi, .int .i64 ui, .bool ev, .bool al] 27))) := ⟨heap_alloc_new _ _, one_box _ _⟩
  have h' : ¬ (0 ≤ fi ∧ fi < 65536 ∧ 0 ≤ ui ∧ ui < 65536) := h
  have key : (¬ 0 ≤ fi) ∨ (0 ≤ fi ∧ ¬ fi < 65536) ∨ (0 ≤ fi ∧ fi < 65536 ∧ ¬ 0 ≤ ui) ∨ (0 ≤ fi ∧ fi < 65536 ∧ 0 ≤ ui ∧ ¬ ui < 65536) := by omega
  clear h h'
  rcases key with h1 | ⟨h1, h2⟩ | ⟨h1, h2, h3⟩ | ⟨h1, h2, h3, h4⟩
  all_goals
    go_enter Try.func7, Try.ntmps7
    go_upto_region 1 with fail
    generalize w.alloc (.cells #[.int .i64 s, .int .u64 (D : Int), .int .u64 (A : Int), .int .u64 (U : Int), .bool rd, .int .i64 fi, .int .i64 ui, .bool ev, .bool al] 27) = v0 at *
    obtain ⟨c0, c1, c2, c3, c4, c5, c6, c7, c8⟩ := box9_facts X.out.1
    go_wp2_with fail
    go_ret
    exact ⟨rfl, X.out.2⟩
theorem right_yes {w : World} {s : Int} {D A U : Nat} {rd ev al : Bool} {fe us : Nat} (hf : fe ≤ 65535) (hu : us ≤ 65535) : Calls Try.prog 7 #[.agg #[.int .i64 s, .int .u64 (D : Int), .int .u64 (A : Int), .int .u64 (U : Int), .bool rd, .int .i64 (fe : Int), .int .i64 (us : Int), .bool ev, .bool al]] w fun e w' => e = .returned (.bool true) ∧ Below w.heap.size w w' := by
  have X : Hid ((w.alloc (.cells #[.int .i64 s, .int .u64 (D : Int), .int .u64 (A : Int), .int .u64 (U : Int), .bool rd, .int .i64 (fe : Int), .int .i64 (us : Int), .bool ev, .bool al] 27)).heap[w.heap.size]? = some (.cells #[.int .i64 s, .int .u64 (D : Int), .int .u64 (A : Int), .int .u64 (U : Int), .bool rd, .int .i64 (fe : Int), .int .i64 (us : Int), .bool ev, .bool al] 27 (0, 0)) ∧ Below w.heap.size w (w.alloc (.cells #[.int .i64 s, .int .u64 (D : Int), .int .u64 (A : Int), .int .u64 (U : Int), .bool rd, .int .i64 (fe : Int), .int .i64 (us : Int), .bool ev, .bool al] 27))) := ⟨heap_alloc_new _ _, one_box _ _⟩
  have h1 : (0 : Int) ≤ (fe : Int) := by omega
  have h2 : (fe : Int) < 65536 := by omega
  have h3 : (0 : Int) ≤ (us : Int) := by omega
  have h4 : (us : Int) < 65536 := by omega
  clear hf hu
  go_enter Try.func7, Try.ntmps7
  go_upto_region 1 with fail
  generalize w.alloc (.cells #[.int .i64 s, .int .u64 (D : Int), .int .u64 (A : Int), .int .u64 (U : Int), .bool rd, .int .i64 (fe : Int), .int .i64 (us : Int), .bool ev, .bool al] 27) = v0 at *
  obtain ⟨c0, c1, c2, c3, c4, c5, c6, c7, c8⟩ := box9_facts X.out.1
  go_wp2_with fail
  go_ret
  exact ⟨rfl, X.out.2⟩
theorem infoQ : (Try.prog.info? 40).map (·.size) = some 9 := by kernel_rfl
theorem u16_id {m : Nat} (h : m ≤ 65535) : IntKind.u16.wrap (m : Int) = (m : Int) := by
  simp only [IntKind.wrap, IntKind.signed, IntKind.bits]
  simp
  try omega
theorem lawOf_any {w : World} {s : Int} {D A U : Nat} {rd ev al : Bool} {fe us : Nat} (hf : fe ≤ 65535) (hu : us ≤ 65535) : Calls Try.prog 10 #[.agg #[.int .i64 s, .int .u64 (D : Int), .int .u64 (A : Int), .int .u64 (U : Int), .bool rd, .int .i64 (fe : Int), .int .i64 (us : Int), .bool ev, .bool al]] w fun e w' => e = .returned (.agg #[.int .i64 s, .int .u64 (D : Int), .int .u64 (A : Int), .int .u64 (U : Int), .bool rd, .int .u16 (fe : Int), .int .u16 (us : Int), .bool ev, .bool al]) ∧ Below w.heap.size w w' := by
  have h2 := two_in w (.cells #[.int .i64 s, .int .u64 (D : Int), .int .u64 (A : Int), .int .u64 (U : Int), .bool rd, .int .i64 (fe : Int), .int .i64 (us : Int), .bool ev, .bool al] 27) (.cells #[.int .i64 0, .int .u64 0, .int .u64 0, .int .u64 0, .bool false, .int .u16 0, .int .u16 0, .bool false, .bool false] 40)
  have hb : Below w.heap.size w ((w.alloc (.cells #[.int .i64 s, .int .u64 (D : Int), .int .u64 (A : Int), .int .u64 (U : Int), .bool rd, .int .i64 (fe : Int), .int .i64 (us : Int), .bool ev, .bool al] 27)).alloc (.cells #[.int .i64 0, .int .u64 0, .int .u64 0, .int .u64 0, .bool false, .int .u16 0, .int .u16 0, .bool false, .bool false] 40)) := ((Below.refl _ _).alloc (Nat.le_refl _) _).alloc (by simp) _
  have X : Hid (((w.alloc (.cells #[.int .i64 s, .int .u64 (D : Int), .int .u64 (A : Int), .int .u64 (U : Int), .bool rd, .int .i64 (fe : Int), .int .i64 (us : Int), .bool ev, .bool al] 27)).alloc (.cells #[.int .i64 0, .int .u64 0, .int .u64 0, .int .u64 0, .bool false, .int .u16 0, .int .u16 0, .bool false, .bool false] 40)).heap[w.heap.size]? = some (.cells #[.int .i64 s, .int .u64 (D : Int), .int .u64 (A : Int), .int .u64 (U : Int), .bool rd, .int .i64 (fe : Int), .int .i64 (us : Int), .bool ev, .bool al] 27 (0, 0)) ∧ ((w.alloc (.cells #[.int .i64 s, .int .u64 (D : Int), .int .u64 (A : Int), .int .u64 (U : Int), .bool rd, .int .i64 (fe : Int), .int .i64 (us : Int), .bool ev, .bool al] 27)).alloc (.cells #[.int .i64 0, .int .u64 0, .int .u64 0, .int .u64 0, .bool false, .int .u16 0, .int .u16 0, .bool false, .bool false] 40)).heap[w.heap.size + 1]? = some (.cells #[.int .i64 0, .int .u64 0, .int .u64 0, .int .u64 0, .bool false, .int .u16 0, .int .u16 0, .bool false, .bool false] 40 (0, 0)) ∧ Below w.heap.size w ((w.alloc (.cells #[.int .i64 s, .int .u64 (D : Int), .int .u64 (A : Int), .int .u64 (U : Int), .bool rd, .int .i64 (fe : Int), .int .i64 (us : Int), .bool ev, .bool al] 27)).alloc (.cells #[.int .i64 0, .int .u64 0, .int .u64 0, .int .u64 0, .bool false, .int .u16 0, .int .u16 0, .bool false, .bool false] 40))) := ⟨h2.1, h2.2, hb⟩
  have e1 := u16_id hf
  have e2 := u16_id hu
  clear hf hu h2 hb
  go_enter Try.func10, Try.ntmps10
  go_upto_region 1 with fail
  generalize (w.alloc (.cells #[.int .i64 s, .int .u64 (D : Int), .int .u64 (A : Int), .int .u64 (U : Int), .bool rd, .int .i64 (fe : Int), .int .i64 (us : Int), .bool ev, .bool al] 27)).alloc (.cells #[.int .i64 0, .int .u64 0, .int .u64 0, .int .u64 0, .bool false, .int .u16 0, .int .u16 0, .bool false, .bool false] 40) = v0 at *
  obtain ⟨c0, c1, c2, c3, c4, c5, c6, c7, c8⟩ := box9_facts X.out.1
  refine wp_region_list ?_
  (refine wpList_step (fun KK hKK => ?_); go_simp; refine hKK _ _ ?_; clear hKK KK)
  (refine wpList_step (fun KK hKK => ?_); go_simp; refine hKK _ _ ?_; clear hKK KK)
  (refine wpList_step (fun KK hKK => ?_); go_simp; refine hKK _ _ ?_; clear hKK KK)
  (refine wpList_step (fun KK hKK => ?_); go_simp; refine hKK _ _ ?_; clear hKK KK)
  (refine wpList_step (fun KK hKK => ?_); go_simp; refine hKK _ _ ?_; clear hKK KK)
  (refine wpList_step (fun KK hKK => ?_); go_simp; refine hKK _ _ ?_; clear hKK KK)
  (refine wpList_step (fun KK hKK => ?_); go_simp; refine hKK _ _ ?_; clear hKK KK)
  (refine wpList_step (fun KK hKK => ?_); go_simp; refine hKK _ _ ?_; clear hKK KK)
  (refine wpList_step (fun KK hKK => ?_); go_simp; refine hKK _ _ ?_; clear hKK KK)
  (refine wpList_step (fun KK hKK => ?_); go_simp; refine hKK _ _ ?_; clear hKK KK)
  (refine wpList_step (fun KK hKK => ?_); go_simp; refine hKK _ _ ?_; clear hKK KK)
  (refine wpList_step (fun KK hKK => ?_); go_simp; refine hKK _ _ ?_; clear hKK KK)
  (refine wpList_step (fun KK hKK => ?_); go_simp; refine hKK _ _ ?_; clear hKK KK)
  (refine wpList_step (fun KK hKK => ?_); go_simp; refine hKK _ _ ?_; clear hKK KK)
  (refine wpList_step (fun KK hKK => ?_); go_simp; refine hKK _ _ ?_; clear hKK KK)
  refine wpList_store_row rfl 40 _ _ rfl (w.heap.size + 1) #[.int .i64 s, .int .u64 (D : Int), .int .u64 (A : Int), .int .u64 (U : Int), .bool rd, .int .u16 (fe : Int), .int .u16 (us : Int), .bool ev, .bool al] rfl rfl 40 #[.int .i64 0, .int .u64 0, .int .u64 0, .int .u64 0, .bool false, .int .u16 0, .int .u16 0, .bool false, .bool false] X.out.2.1 infoQ rfl (by simp [Value.oneCell']) ?_
  have Y : Hid ((v0.setRow (w.heap.size + 1) #[.int .i64 s, .int .u64 (D : Int), .int .u64 (A : Int), .int .u64 (U : Int), .bool rd, .int .u16 (fe : Int), .int .u16 (us : Int), .bool ev, .bool al]).heap[w.heap.size + 1]? = some (.cells #[.int .i64 s, .int .u64 (D : Int), .int .u64 (A : Int), .int .u64 (U : Int), .bool rd, .int .u16 (fe : Int), .int .u16 (us : Int), .bool ev, .bool al] 40 (0, 0)) ∧ Below w.heap.size w (v0.setRow (w.heap.size + 1) #[.int .i64 s, .int .u64 (D : Int), .int .u64 (A : Int), .int .u64 (U : Int), .bool rd, .int .u16 (fe : Int), .int .u16 (us : Int), .bool ev, .bool al])) := ⟨setRow_heap _ _ _ _ _ _ X.out.2.1, below_setRow X.out.2.2 (by omega) _⟩
  clear X c0 c1 c2 c3 c4 c5 c6 c7 c8
  generalize v0.setRow (w.heap.size + 1) #[.int .i64 s, .int .u64 (D : Int), .int .u64 (A : Int), .int .u64 (U : Int), .bool rd, .int .u16 (fe : Int), .int .u16 (us : Int), .bool ev, .bool al] = w9 at *
  obtain ⟨k0, k1, k2, k3, k4, k5, k6, k7, k8⟩ := box9_facts Y.out.1
  go_wp2_with fail
  refine bodyPost_ret (v := .agg #[.int .i64 s, .int .u64 (D : Int), .int .u64 (A : Int), .int .u64 (U : Int), .bool rd, .int .u16 (fe : Int), .int .u16 (us : Int), .bool ev, .bool al]) (by simp [results, Try.results10, go_sem, k0, k1, k2, k3, k4, k5, k6, k7, k8]) rfl ?_
  exact ⟨rfl, Y.out.2⟩
end Go.Proofs.Ytmjdnocilbnoaaa
