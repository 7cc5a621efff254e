/- The document's numbers of two words: their sum, their other sign, and the product of two words by sums. -/
import Derived.Test.YtdejnlblcokldaaDo
import Derived.Laws.NewBlocks
import Derived.Deep.DeepCutAuto
import Derived.Deep.CutBlock
namespace Go.Proofs.Ytdejnlblcokldaa
open Go.RowKit
set_option linter.unusedVariables false
set_option linter.unusedSimpArgs false
/-- a number of 128 bits in halves -/
def wcs (n : Nat) : Array Value := #[.int .u64 ((n / 18446744073709551616 : Nat) : Int), .int .u64 ((n % 18446744073709551616 : Nat) : Int)]
theorem wcs_of {n : Nat} {h l : Int} (h1 : h = ((n / 18446744073709551616 : Nat) : Int)) (h2 : l = ((n % 18446744073709551616 : Nat) : Int)) : (#[.int .u64 h, .int .u64 l] : Array Value) = wcs n := by subst h1 h2; rfl
def Box2 (w : World) (b : Nat) (c : Array Value) : Prop := w.heap[b]? = some (.cells c 29 (0, 0))
theorem below_box {w w2 : World} {b : Nat} {o : Obj} (h : w.heap[b]? = some o) (hb : Below w.heap.size w w2) : w2.heap[b]? = some o := (hb.block b (Array.getElem?_eq_some_iff.1 h).1).trans h
theorem Box2.step {w w' : World} {b : Nat} {c : Array Value} (h : Box2 w b c) (hb : Below w.heap.size w w') : Box2 w' b c := below_box h hb
theorem Box2.lt {w : World} {b : Nat} {c : Array Value} (h : Box2 w b c) : b < w.heap.size := (Array.getElem?_eq_some_iff.1 h).1
theorem Box2.set {w : World} {b : Nat} {c : Array Value} (h : Box2 w b c) (i : Nat) (v : Value) : Box2 (w.setCell ⟨b, i, none⟩ v) b (c.setIfInBounds i v) := heap_setCell_same w b i c 29 v h
theorem Box2.other {w : World} {b k : Nat} {c : Array Value} (h : Box2 w b c) (i : Nat) (v : Value) (hk : b ≠ k) : Box2 (w.setCell ⟨k, i, none⟩ v) b c := (heap_setCell_other w ⟨k, i, none⟩ b v hk).trans h
theorem Box2.alloc {w : World} {b : Nat} {c : Array Value} (h : Box2 w b c) (o : Obj) : Box2 (w.alloc o) b c := h.step ((Below.refl _ _).alloc (Nat.le_refl _) o)
theorem Box2.new (w : World) (c : Array Value) : Box2 (w.alloc (.cells c 29)) w.heap.size c := heap_alloc_new w (.cells c 29)
theorem Box2.put {w : World} {b : Nat} {x y : Value} (h : Box2 w b #[x, y]) (u v : Value) : Box2 ((w.setCell ⟨b, 0, none⟩ u).setCell ⟨b, 1, none⟩ v) b #[u, v] := (h.set 0 u).set 1 v
theorem Box2.others {w : World} {b k : Nat} {c : Array Value} (h : Box2 w b c) (u v : Value) (hk : b ≠ k) : Box2 ((w.setCell ⟨k, 0, none⟩ u).setCell ⟨k, 1, none⟩ v) b c := (h.other 0 u hk).other 1 v hk
theorem Box2.facts {w : World} {b : Nat} {x0 x1 : Value} (h : Box2 w b #[x0, x1]) : w.cell? ⟨b, 0, none⟩ = some x0 ∧ w.cell? ⟨b, 1, none⟩ = some x1 ∧ w.frozen? ⟨b, 0, none⟩ = false ∧ w.frozen? ⟨b, 1, none⟩ = false := by
  unfold Box2 at h
  refine ⟨?_, ?_, ?_, ?_⟩ <;> (first | (simp only [World.cell?, h]; rfl) | (simp only [World.frozen?, h]; simp))
theorem heap_same2 {w : World} {b k : Nat} (u v : Value) (hk : k ≠ b) : ((w.setCell ⟨b, 0, none⟩ u).setCell ⟨b, 1, none⟩ v).heap[k]? = w.heap[k]? := (heap_setCell_other _ ⟨b, 1, none⟩ k v hk).trans (heap_setCell_other _ ⟨b, 0, none⟩ k u hk)
theorem add_hi (x y : Nat) (hx : x < 340282366920938463463374607431768211456) (hy : y < 340282366920938463463374607431768211456) (c : x % 18446744073709551616 ≤ (x % 18446744073709551616 + y % 18446744073709551616) % 18446744073709551616) : ((x + y) % 340282366920938463463374607431768211456 / 18446744073709551616) = (x / 18446744073709551616 + y / 18446744073709551616) % 18446744073709551616 := by omega
theorem add_hi1 (x y : Nat) (hx : x < 340282366920938463463374607431768211456) (hy : y < 340282366920938463463374607431768211456) (c : (x % 18446744073709551616 + y % 18446744073709551616) % 18446744073709551616 < x % 18446744073709551616) : ((x + y) % 340282366920938463463374607431768211456 / 18446744073709551616) = ((x / 18446744073709551616 + y / 18446744073709551616) % 18446744073709551616 + 1) % 18446744073709551616 := by omega
theorem add_lo (x y : Nat) : (x + y) % 340282366920938463463374607431768211456 % 18446744073709551616 = (x % 18446744073709551616 + y % 18446744073709551616) % 18446744073709551616 := by omega
theorem wrap_nat (a : Nat) : IntKind.u64.wrap (a : Int) = ((a % 18446744073709551616 : Nat) : Int) := by rw [wrap_u64]; omega
theorem three_new (w : World) (o1 o2 o3 : Obj) : Below w.heap.size w (((w.alloc o1).alloc o2).alloc o3) := (((Below.refl _ _).alloc (Nat.le_refl _) _).alloc (by simp) _).alloc (by simp; omega) _
set_option maxHeartbeats 400000 in
theorem add_any (x y : Nat) (hx : x < 340282366920938463463374607431768211456) (hy : y < 340282366920938463463374607431768211456) (w : World) :
    Calls Try.prog 24 #[.agg (wcs x), .agg (wcs y)] w fun e w' => e = .returned (.agg (wcs ((x + y) % 340282366920938463463374607431768211456))) ∧ Below w.heap.size w w' := by
  have a1 := add_hi x y hx hy
  have a2 := add_hi1 x y hx hy
  have a3 := add_lo x y
  unfold wcs
  have b1 : x / 18446744073709551616 < 18446744073709551616 := by omega
  have b2 : y / 18446744073709551616 < 18446744073709551616 := by omega
  have b3 : x % 18446744073709551616 < 18446744073709551616 := by omega
  have b4 : y % 18446744073709551616 < 18446744073709551616 := by omega
  generalize (x + y) % 340282366920938463463374607431768211456 / 18446744073709551616 = s1 at *
  generalize (x + y) % 340282366920938463463374607431768211456 % 18446744073709551616 = s0 at *
  generalize x / 18446744073709551616 = x1 at *
  generalize x % 18446744073709551616 = x0 at *
  generalize y / 18446744073709551616 = y1 at *
  generalize y % 18446744073709551616 = y0 at *
  have e1 : IntKind.u64.wrap ((x0 : Int) + y0) = (s0 : Int) := by rw [wrap_u64]; omega
  clear a3 hx hy
  by_cases hc : x0 ≤ s0
  · have e2 : IntKind.u64.wrap ((x1 : Int) + y1) = (s1 : Int) := by rw [wrap_u64]; have := a1 (by rw [wrap_u64] at e1; omega); omega
    clear a1 a2
    have hc1 : ¬ (s0 : Int) < x0 := by omega
    go_enter Try.func24, Try.ntmps24
    go_wp2
    exact bodyPost_ret (v := .agg #[.int .u64 (s1 : Int), .int .u64 (s0 : Int)]) (by simp [results, Try.results24, go_sem]) rfl ⟨rfl, three_new _ _ _ _⟩
  · have e2 : IntKind.u64.wrap (IntKind.u64.wrap ((x1 : Int) + y1) + 1) = (s1 : Int) := by rw [wrap_u64, wrap_u64]; have := a2 (by rw [wrap_u64] at e1; omega); omega
    clear a1 a2
    have hc1 : (s0 : Int) < x0 := by omega
    go_enter Try.func24, Try.ntmps24
    go_wp2
    exact bodyPost_ret (v := .agg #[.int .u64 (s1 : Int), .int .u64 (s0 : Int)]) (by simp [results, Try.results24, go_sem]) rfl ⟨rfl, three_new _ _ _ _⟩
/-- the other sign -/
def negW (n : Nat) : Nat := (340282366920938463463374607431768211456 - n) % 340282366920938463463374607431768211456
theorem neg_num (x : Nat) (hx : x < 340282366920938463463374607431768211456) : ((18446744073709551615 - x / 18446744073709551616) * 18446744073709551616 + (18446744073709551615 - x % 18446744073709551616) + 1) % 340282366920938463463374607431768211456 = negW x := by unfold negW; omega
theorem not_nat (a : Nat) (ha : a < 18446744073709551616) : (18446744073709551615 ^^^ a) = 18446744073709551615 - a := by
  have h1 : (BitVec.allOnes 64 ^^^ BitVec.ofNat 64 a).toNat = 18446744073709551615 ^^^ a := by
    rw [BitVec.toNat_xor, BitVec.toNat_allOnes, BitVec.toNat_ofNat, Nat.mod_eq_of_lt (by omega)]
  rw [← h1, BitVec.allOnes_xor, BitVec.toNat_not, BitVec.toNat_ofNat, Nat.mod_eq_of_lt (by omega)]
theorem not_u64 (a : Nat) (ha : a < 18446744073709551616) : bits .xor .u64 IntKind.u64.max (a : Int) = ((18446744073709551615 - a : Nat) : Int) := by
  rw [show IntKind.u64.max = ((18446744073709551615 : Nat) : Int) from rfl, bits_xor_u64_nat _ _ (by decide) ha, not_nat a ha]
theorem wcs_one : wcs 1 = #[.int .u64 0, .int .u64 1] := rfl
set_option maxHeartbeats 400000 in
theorem neg_any (x : Nat) (hx : x < 340282366920938463463374607431768211456) (w : World) :
    Calls Try.prog 27 #[.agg (wcs x)] w fun e w' => e = .returned (.agg (wcs (negW x))) ∧ Below w.heap.size w w' := by
  have b1 : x / 18446744073709551616 < 18446744073709551616 := by omega
  have b3 : x % 18446744073709551616 < 18446744073709551616 := by omega
  have e1 := not_u64 (x / 18446744073709551616) b1
  have e2 := not_u64 (x % 18446744073709551616) b3
  have hadd : ∀ w, Calls Try.prog 24 #[.agg #[.int .u64 ((18446744073709551615 - x / 18446744073709551616 : Nat) : Int), .int .u64 ((18446744073709551615 - x % 18446744073709551616 : Nat) : Int)], .agg #[.int .u64 0, .int .u64 1]] w fun e w' => e = .returned (.agg (wcs (negW x))) ∧ Below w.heap.size w w' := by
    intro w
    have h := add_any ((18446744073709551615 - x / 18446744073709551616) * 18446744073709551616 + (18446744073709551615 - x % 18446744073709551616)) 1 (by omega) (by decide) w
    rw [neg_num x hx, wcs_one, ← wcs_of (h := ((18446744073709551615 - x / 18446744073709551616 : Nat) : Int)) (l := ((18446744073709551615 - x % 18446744073709551616 : Nat) : Int)) (by omega) (by omega)] at h
    exact h
  have HS : IntKind.u64.signed = false := rfl
  generalize hr : wcs (negW x) = r at *
  unfold wcs at hr
  subst hr
  unfold wcs
  generalize negW x / 18446744073709551616 = r1 at *
  generalize negW x % 18446744073709551616 = r0 at *
  generalize ((18446744073709551615 - x / 18446744073709551616 : Nat) : Int) = n1 at *
  generalize ((18446744073709551615 - x % 18446744073709551616 : Nat) : Int) = n0 at *
  generalize x / 18446744073709551616 = x1 at *
  generalize x % 18446744073709551616 = x0 at *
  clear hx
  go_enter Try.func27, Try.ntmps27
  go_wp2_with (go_at_call 24; refine (hadd _).mono ?_; rintro e w2 ⟨rfl, hb⟩; have B : Hid (Box2 w2 (w.heap.size + 1) #[.int .u64 0, .int .u64 0]) := Box2.step (w := ((w.alloc _).alloc _)) (by have := Box2.new (w.alloc (.cells #[.int .u64 (x1 : Int), .int .u64 (x0 : Int)] 29)) #[.int .u64 0, .int .u64 0]; simpa using this) hb; obtain ⟨q0, q1, q2, q3⟩ := B.out.facts)
  have P : Hid (Box2 ((w2.setCell ⟨w.heap.size + 1, 0, none⟩ (.int .u64 (r1 : Int))).setCell ⟨w.heap.size + 1, 1, none⟩ (.int .u64 (r0 : Int))) (w.heap.size + 1) #[.int .u64 (r1 : Int), .int .u64 (r0 : Int)]) := B.out.put _ _
  have hb2 : Below w.heap.size w w2 := (((Below.refl _ _).alloc (Nat.le_refl _) _).alloc (by simp) _).trans (hb.mono (by simp; omega))
  clear q0 q1 q2 q3 hb
  obtain ⟨q0, q1, q2, q3⟩ := P.out.facts
  exact bodyPost_ret (v := .agg #[.int .u64 (r1 : Int), .int .u64 (r0 : Int)]) (by simp [results, Try.results27, go_sem, q0, q1]) rfl ⟨rfl, (hb2.setCell (p := ⟨w.heap.size + 1, 0, none⟩) (by show w.heap.size ≤ w.heap.size + 1; omega) _).setCell (p := ⟨w.heap.size + 1, 1, none⟩) (by show w.heap.size ≤ w.heap.size + 1; omega) _⟩
end Go.Proofs.Ytdejnlblcokldaa
