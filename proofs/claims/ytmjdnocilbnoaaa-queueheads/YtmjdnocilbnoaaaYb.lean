/- Texts put together. -/
import Derived.Test.YtmjdnocilbnoaaaYa
import Derived.ProofKit
import Derived.OpenShut
import Derived.Deep.Slices
import Derived.Deep.RegionHeld3
import Derived.Deep.DeepCutAuto
import Derived.Laws.Tables
import Derived.Laws.StructEq
/- What the statements of layer 15 are handed: bytes to be put into memory, layouts, descriptors, what is told. -/
namespace Go.Proofs.Ytmjdnocilbnoaaa
open Go.RowKit Go.ChangeShapes Go.WideShapes Go.ChangeAt
set_option linter.unusedVariables false
set_option linter.unusedSimpArgs false
set_option maxRecDepth 100000

theorem cellOf {w : World} {b : Nat} {c : Array Value} {t : TypeId} (h : w.heap[b]? = some (.cells c t (0, 0))) (i : Nat) (v : Value) (hi : c[i]? = some v) : w.cell? ⟨b, i, none⟩ = some v := by
  simp only [World.cell?, h]; exact hi
theorem frozenOf {w : World} {b : Nat} {c : Array Value} {t : TypeId} (h : w.heap[b]? = some (.cells c t (0, 0))) (i : Nat) : w.frozen? ⟨b, i, none⟩ = false := by
  simp [World.frozen?, h]
theorem cellsOf5 : Try.prog.cellsOf 5 = 1 := by kernel_rfl
theorem cellsOf22 : Try.prog.cellsOf 23 = 1 := by kernel_rfl
theorem cellsOf51 : Try.prog.cellsOf 71 = 1 := by kernel_rfl
theorem cellsOf79 : Try.prog.cellsOf 73 = 2 := by kernel_rfl
/-- bytes that are put into memory -/
structure PutD where
  x : Nat
  a : Option Addr
  l : Nat
  c : Nat
  f : Nat → Nat
def PutD.cells (o : PutD) : Array Value := #[.int .u64 (o.x : Nat), .slice o.a o.l o.c]
def PutD.In (o : PutD) (F : Nat → Prop) (w : World) : Prop := o.x < 18446744073709551616 ∧ (∀ i, o.f i ≤ 255) ∧ ReadsF F w (.slice o.a o.l o.c) o.l o.f
/-- rows of bytes that came in -/
def PutsIn (W : World) (v : Value) (len : Nat) (ps : Nat → PutD) : Prop :=
  (len = 0 ∧ ∃ a c, v = .slice a 0 c) ∨ ∃ b off cap, v = .slice (some ⟨b, off, none⟩) len cap ∧ b < W.heap.size ∧ len ≤ 9223372036854775807 ∧ ∀ i, i < len → W.cell? ⟨b, off + i * 2, none⟩ = some (.int .u64 ((ps i).x : Nat)) ∧ W.cell? ⟨b, off + i * 2 + 1, none⟩ = some (.slice (ps i).a (ps i).l (ps i).c) ∧ (ps i).In (fun q => W.heap.size ≤ q) W
theorem PutD.In.later {o : PutD} {W w : World} {F : Nat → Prop} (h : o.In (fun q => W.heap.size ≤ q) W) (hb : Below W.heap.size W w) (hF : ∀ q, F q → W.heap.size ≤ q) : o.In F w := by
  obtain ⟨hx, hf, hr⟩ := h
  refine ⟨hx, hf, ?_⟩
  rcases hr with h | ⟨b, off, cap, h1, h2, h3, h4, hc⟩
  · exact .inl h
  · have hlt : b < W.heap.size := by
      by_cases hb' : b < W.heap.size
      · exact hb'
      · exact absurd (by show W.heap.size ≤ b; omega) h2
    exact .inr ⟨b, off, cap, h1, fun hq => by have := hF _ hq; omega, h3, h4, fun i hi => (hb.cell (p := ⟨b, off + i, none⟩) hlt).trans (hc i hi)⟩
theorem PutsIn.up {W w : World} {v : Value} {len : Nat} {ps : Nat → PutD} (h : PutsIn W v len ps) (hb : Below W.heap.size W w) : PutsIn w v len ps := by
  rcases h with h | ⟨b, off, cap, hv, hlt, hl, hc⟩
  · exact .inl h
  · refine .inr ⟨b, off, cap, hv, Nat.lt_of_lt_of_le hlt hb.size, hl, fun i hi => ⟨(hb.cell (p := ⟨b, off + i * 2, none⟩) hlt).trans (hc i hi).1, (hb.cell (p := ⟨b, off + i * 2 + 1, none⟩) hlt).trans (hc i hi).2.1, (hc i hi).2.2.later hb (fun q hq => ?_)⟩⟩
    exact Nat.le_trans hb.size hq
section
variable {H : Type} {enc : TypeId × Value → H} {W : World} {spare : Nat → Bool} {held : Bool}
theorem list_two {α : Type} (l : List α) (h : l.length = 2) : ∃ a b, l = [a, b] := by
  match l, h with
  | [a, b], _ => exact ⟨a, b, rfl⟩
theorem list_four {α : Type} (l : List α) (h : l.length = 4) : ∃ a b c d, l = [a, b, c, d] := by
  match l, h with
  | [a, b, c, d], _ => exact ⟨a, b, c, d, rfl⟩
theorem open_bytes {n : Nat} {c : Value} {x : DataW H × List MemPlace} (h : DataW.trod enc Try.prog W 0 (fun _ => true) held n 71 [c] = some x) :
    ∃ a l cap, c = .slice a l cap ∧ ∃ f, (∀ i, f i ≤ 255) ∧ ReadsF (fun q => W.heap.size ≤ q) W (.slice a l cap) l f := by
  rcases open_ints Try.underlying71 Try.underlying5 cellsOf5 h with ⟨hcs, _⟩ | ⟨ad, l, cap, zs, hcs, _, hl, hm, hz, _, hcell, hwz⟩
  · simp at hcs
    exact ⟨none, 0, 0, hcs, fun _ => 0, fun _ => Nat.zero_le _, .inl ⟨rfl, _, _, by omega, rfl⟩⟩
  · simp at hcs hz
    unfold maxLen at hm
    refine ⟨some ad, l, cap, hcs, ?_⟩
    have hr : ∀ j : Nat, 0 ≤ zs[j]?.getD 0 ∧ zs[j]?.getD 0 ≤ 255 := range_u8 hwz
    refine ⟨fun i => (zs[i]?.getD 0).toNat, fun i => by have := hr i; show (zs[i]?.getD 0).toNat ≤ 255; omega, ?_⟩
    by_cases h0 : l = 0
    · subst h0; exact .inl ⟨rfl, _, cap, by omega, rfl⟩
    · obtain ⟨b, off, rfl, hcl⟩ := ints_at hcell (by omega)
      have hlt : b < W.heap.size := block_lt_of_cell (hcl 0 (by omega))
      refine .inr ⟨b, off, cap, rfl, by omega, hl, by omega, fun i hi => ?_⟩
      rw [hcl i (by omega)]
      have := hr i
      simp only [List.getD_eq_getElem?_getD]
      congr 2
      omega
theorem open_put {n : Nat} {cs : List Value} {x : DataW H × List MemPlace} (h : DataW.trod enc Try.prog W 0 (fun _ => true) held n 73 cs = some x) :
    ∃ o : PutD, cs = o.cells.toList ∧ o.In (fun q => W.heap.size ≤ q) W := by
  obtain ⟨xs, m, _, _, hl, hlen, hf⟩ := DataW.trod_struct Try.underlying73 h
  rw [cellsOf79] at hl
  obtain ⟨c0, c1, rfl⟩ := list_two cs hl
  obtain ⟨y0, y1, rfl⟩ := list_two xs hlen
  have h0 := hf 0 _ rfl
  have h1 := hf 1 _ rfl
  simp [cellsOf22, cellsOf51] at h0 h1
  obtain ⟨z, e0, _, w0⟩ := DataW.trod_int Try.underlying23 h0
  simp at e0
  obtain ⟨a, l, cap, rfl, f, hf1, hf2⟩ := open_bytes h1
  obtain ⟨xn, rfl, hx⟩ := nat_u64 w0
  subst e0
  exact ⟨⟨xn, a, l, cap, f⟩, rfl, ⟨hx, hf1, hf2⟩⟩
theorem spot_none {a : Addr} {v : Value} (h : W.cell? a = some v) : a.spot = none := by
  unfold World.cell? at h
  split at h
  · split at h
    · cases h
    · rename_i hs; simpa using hs
  · cases h
theorem open_puts {v : Value} {d : DataW H} {p : List MemPlace} {a : Option Addr} {len cap : Nat} (hv : v = .slice a len cap) (h : DataW.Trod enc Try.prog W 0 (fun _ => true) held 22 v d p) : ∃ ops, PutsIn W v len ops := by
  subst hv
  obtain ⟨fuel, hf⟩ := h
  rcases Deep.open_slice Try.underlying22 hf with ⟨hcs, _⟩ | ⟨ad, l, c, m, n, D, Pl, hcs, _, hl, hm, hmm, _, hx⟩
  · simp [Value.cells] at hcs
    obtain ⟨rfl, rfl, rfl⟩ := hcs
    exact ⟨fun _ => ⟨0, none, 0, 0, fun _ => 0⟩, .inl ⟨rfl, _, _, rfl⟩⟩
  · simp [Value.cells] at hcs
    obtain ⟨rfl, rfl, rfl⟩ := hcs
    simp at hmm
    subst hmm
    unfold maxLen at hm
    by_cases h0 : len = 0
    · subst h0; exact ⟨fun _ => ⟨0, none, 0, 0, fun _ => 0⟩, .inl ⟨rfl, _, _, rfl⟩⟩
    rw [cellsOf79] at hx
    obtain ⟨ops, hops⟩ := @Deep.choose_lt PutD ⟨⟨0, none, 0, 0, fun _ => 0⟩⟩ len (fun i o => (∀ j, j < 2 → W.cell? ((ad.add (i * 2)).add j) = o.cells.toList[j]?) ∧ o.In (fun q => W.heap.size ≤ q) W) (fun i hi => by
      obtain ⟨cs', h1, h2⟩ := hx i (by omega)
      obtain ⟨o, rfl, h3⟩ := open_put h2
      obtain ⟨_, _, h5⟩ := World.cells?_some h1
      exact ⟨o, h5, h3⟩)
    have hsp : ad.spot = none := by
      have := (hops 0 (by omega)).1 0 (by omega)
      rw [Deep.add_add] at this
      have e0 : ad.add (0 * 2 + 0) = ad := by unfold Addr.add; simp
      rw [e0] at this
      exact spot_none (v := .int .u64 ((ops 0).x : Nat)) this
    obtain ⟨b, off, sp⟩ := ad
    simp only at hsp
    subst hsp
    have hc' : ∀ i j, i < len → j < 2 → W.cell? ⟨b, off + (i * 2 + j), none⟩ = (ops i).cells.toList[j]? := fun i j hi hj => by
      have := (hops i hi).1 j hj
      rwa [Deep.add_add, addr_add] at this
    have hlt : b < W.heap.size := block_lt_of_cell (v := .int .u64 ((ops 0).x : Nat)) (hc' 0 0 (by omega) (by omega))
    refine ⟨ops, .inr ⟨b, off, _, rfl, hlt, by omega, fun i hi => ?_⟩⟩
    exact ⟨hc' i 0 hi (by omega), hc' i 1 hi (by omega), (hops i hi).2⟩
end
/-- what is told: a kind, two words of 16 bits, one of 32 -/
structure ToldD where
  z : Int
  n : Nat
  id : Nat
  k : Nat
def ToldD.cells (o : ToldD) : Array Value := #[.int .i64 o.z, .int .u16 (o.n : Nat), .int .u16 (o.id : Nat), .int .u32 (o.k : Nat)]
def ToldD.Ok (o : ToldD) : Prop := o.n ≤ 65535 ∧ o.id ≤ 65535 ∧ o.k ≤ 4294967295
section
variable {H : Type} {enc : TypeId × Value → H} {W : World} {spare : Nat → Bool} {held : Bool}
theorem open_agg {P : Program} {W : World} {r : Reach} {b0 : Nat} {t : TypeId} {fs : Array Field} {v : Value} (ht : P.underlying t = some (.struct fs)) (hv : Value.okWide P W r b0 t v) : ∃ cs, v = .agg cs := by
  obtain ⟨cs, rfl, _⟩ : ∃ cs, v = .agg cs ∧ cs.size = P.cellsOf t ∧ Row.okWide P W r b0 t cs := by
    simpa [Value.okWide, ht] using hv
  exact ⟨cs, rfl⟩
end
end Go.Proofs.Ytmjdnocilbnoaaa

/- Check on both sides. -/
namespace Go.Proofs.Ytmjdnocilbnoaaa
open Go.RowKit
set_option linter.unusedVariables false
set_option linter.unusedSimpArgs false
set_option maxRecDepth 100000

def okB (s : Int) (D A U : Nat) : Bool := powB s && (((D : Int) % 16 == 0) && (((A : Int) % 2 == 0) && ((U : Int) % 4 == 0)))
def inA (D A U sz : Nat) (n : Nat) : Bool := inB D (16 * (n : Int)) 2147483648 sz && (inB A (6 + 2 * (n : Int)) 2147483648 sz && inB U (6 + 8 * (n : Int)) 2147483648 sz)
/-- what Check tells of a layout -/
def chkN (s : Int) (D A U sz : Nat) : Int := if okB s D A U = true then (if inA D A U sz s.toNat = true then 0 else 21) else 150
theorem chk_150 {s : Int} {D A U : Nat} (sz : Nat) (h : okB s D A U = false) : chkN s D A U sz = 150 := by rw [chkN, h]; rfl
theorem chk_21 {n : Nat} {D A U sz : Nat} (h : okB (n : Int) D A U = true) (h2 : inA D A U sz n = false) : chkN (n : Int) D A U sz = 21 := by rw [chkN, h, Int.toNat_natCast, h2]; rfl
theorem chk_0 {n : Nat} {D A U sz : Nat} (h : okB (n : Int) D A U = true) (h2 : inA D A U sz n = true) : chkN (n : Int) D A U sz = 0 := by rw [chkN, h, Int.toNat_natCast, h2]; rfl
theorem chk_zero {s : Int} {D A U sz : Nat} (h : chkN s D A U sz = 0) : ∃ n : Nat, s = n ∧ 1 ≤ n ∧ n ≤ 256 ∧ powB (n : Int) = true ∧ D % 16 = 0 ∧ A % 2 = 0 ∧ U % 4 = 0 ∧ (2147483648 ≤ D ∧ D + 16 * n ≤ 2147483648 + sz) ∧ (2147483648 ≤ A ∧ A + 6 + 2 * n ≤ 2147483648 + sz) ∧ (2147483648 ≤ U ∧ U + 6 + 8 * n ≤ 2147483648 + sz) := by
  by_cases h1 : okB s D A U = true
  · have h2 := h1
    simp only [okB, Bool.and_eq_true, beq_iff_eq] at h1
    obtain ⟨n, rfl, hn1, hn2⟩ := pow_in h1.1
    by_cases h3 : inA D A U sz n = true
    · have h4 := h3
      simp only [inA, inB, Bool.and_eq_true, decide_eq_true_iff] at h3
      exact ⟨n, rfl, hn1, hn2, h1.1, by omega, by omega, by omega, by omega, by omega, by omega⟩
    · rw [chk_21 h2 (by simpa using h3)] at h; cases h
  · rw [chk_150 sz (by simpa using h1)] at h; cases h
theorem has_yes {w : World} {F : Nat → Prop} {rb size n : Nat} {lg : Value} {M : Nat → Nat} (h : RamAt w F rb size n lg M) (hs : size ≤ 268435456) (x : Nat) (y : Int) (hx : x < 18446744073709551616) (h0 : 0 ≤ y) (h1 : y < 18446744073709551616) : Calls Try.prog 33 #[.pointer (some ⟨rb, 0, none⟩), .int .u64 (x : Int), .int .u64 y] w fun e w' => e = .returned (.bool (inB x y 2147483648 size)) ∧ w' = w := by
  obtain ⟨L, rfl⟩ : ∃ L : Nat, y = L := ⟨y.toNat, by omega⟩
  exact has_any h hs x L hx (by omega)
theorem rhas_yes (s x : Nat) (y : Int) (v : Value) (hs : s < 18446744073709551616) (hx : x < 18446744073709551616) (h0 : 0 ≤ y) (h1 : y < 18446744073709551616) (w : World) : Calls Try.prog 26 #[.agg #[.int .u64 (s : Int), v], .int .u64 (x : Int), .int .u64 y] w fun e w' => e = .returned (.bool (inB x y 2147483648 s)) ∧ Below w.heap.size w w' := by
  obtain ⟨L, rfl⟩ : ∃ L : Nat, y = L := ⟨y.toNat, by omega⟩
  exact (rhas_any s x L v hs hx (by omega) w).mono fun e w' ⟨he, hb⟩ => ⟨he, hb⟩

theorem check_bad {s : Int} {D A U : Nat} (h : okB s D A U = false) (p : Value) (w : World) :
    Calls Try.prog 66 #[p, .agg #[.int .i64 s, .int .u64 (D : Int), .int .u64 (A : Int), .int .u64 (U : Int)]] w fun e w' => e = .returned (.int .i64 150) ∧ Below w.heap.size w w' := by
  have bx : Below w.heap.size w (w.alloc (.cells #[.int .i64 s, .int .u64 (D : Int), .int .u64 (A : Int), .int .u64 (U : Int)] 25)) := (Below.refl _ _).alloc (Nat.le_refl _) _
  have HB : Hid (Below w.heap.size w (w.alloc (.cells #[.int .i64 s, .int .u64 (D : Int), .int .u64 (A : Int), .int .u64 (U : Int)] 25))) := bx
  clear bx
  unfold okB at h
  obtain ⟨b0, h0⟩ : ∃ b, powB s = b := ⟨_, rfl⟩
  obtain ⟨b1, h1⟩ : ∃ b, ((D : Int) % 16 == 0) = b := ⟨_, rfl⟩
  obtain ⟨b2, h2⟩ : ∃ b, ((A : Int) % 2 == 0) = b := ⟨_, rfl⟩
  obtain ⟨b3, h3⟩ : ∃ b, ((U : Int) % 4 == 0) = b := ⟨_, rfl⟩
  rw [h0, h1, h2, h3] at h
  have H : Hid (powB s = b0 ∧ ((D : Int) % 16 == 0) = b1 ∧ ((A : Int) % 2 == 0) = b2 ∧ ((U : Int) % 4 == 0) = b3) := ⟨h0, h1, h2, h3⟩
  clear h0 h1 h2 h3
  cases b0 with
  | false =>
    go_enter Try.func66, Try.ntmps66
    go_wp2_with (first | (go_at_call 79; refine (power_any _ _).mono ?_; rintro e w2 ⟨rfl, hw⟩; rw [hw]; clear hw w2; rw [H.out.1]) | (go_at_call 42; refine (aligned_pos _ _ (by omega) (by decide) _).mono ?_; rintro e w2 ⟨rfl, hw⟩; rw [hw]; clear hw w2; first | rw [H.out.2.1] | rw [H.out.2.2.1] | rw [H.out.2.2.2]))
    go_ret
    exact ⟨rfl, HB.out⟩
  | true =>
    cases b1 with
    | false =>
      go_enter Try.func66, Try.ntmps66
      go_wp2_with (first | (go_at_call 79; refine (power_any _ _).mono ?_; rintro e w2 ⟨rfl, hw⟩; rw [hw]; clear hw w2; rw [H.out.1]) | (go_at_call 42; refine (aligned_pos _ _ (by omega) (by decide) _).mono ?_; rintro e w2 ⟨rfl, hw⟩; rw [hw]; clear hw w2; first | rw [H.out.2.1] | rw [H.out.2.2.1] | rw [H.out.2.2.2]))
      go_ret
      exact ⟨rfl, HB.out⟩
    | true =>
      cases b2 with
      | false =>
        go_enter Try.func66, Try.ntmps66
        go_wp2_with (first | (go_at_call 79; refine (power_any _ _).mono ?_; rintro e w2 ⟨rfl, hw⟩; rw [hw]; clear hw w2; rw [H.out.1]) | (go_at_call 42; refine (aligned_pos _ _ (by omega) (by decide) _).mono ?_; rintro e w2 ⟨rfl, hw⟩; rw [hw]; clear hw w2; first | rw [H.out.2.1] | rw [H.out.2.2.1] | rw [H.out.2.2.2]))
        go_ret
        exact ⟨rfl, HB.out⟩
      | true =>
        cases b3 with
        | false =>
          go_enter Try.func66, Try.ntmps66
          go_wp2_with (first | (go_at_call 79; refine (power_any _ _).mono ?_; rintro e w2 ⟨rfl, hw⟩; rw [hw]; clear hw w2; rw [H.out.1]) | (go_at_call 42; refine (aligned_pos _ _ (by omega) (by decide) _).mono ?_; rintro e w2 ⟨rfl, hw⟩; rw [hw]; clear hw w2; first | rw [H.out.2.1] | rw [H.out.2.2.1] | rw [H.out.2.2.2]))
          go_ret
          exact ⟨rfl, HB.out⟩
        | true => cases h

theorem idx0 (a b c d x y : Value) (w : World) : (Instr.index 145 (.agg #[a, b, c, d, x, y]) (.int .i64 0)).run Try.prog w = .ok (.agg #[a, b]) w := by kernel_rfl
theorem idx1 (a b c d x y : Value) (w : World) : (Instr.index 145 (.agg #[a, b, c, d, x, y]) (.int .i64 1)).run Try.prog w = .ok (.agg #[c, d]) w := by kernel_rfl
theorem idx2 (a b c d x y : Value) (w : World) : (Instr.index 145 (.agg #[a, b, c, d, x, y]) (.int .i64 2)).run Try.prog w = .ok (.agg #[x, y]) w := by kernel_rfl

theorem check_good {n : Nat} {D A U : Nat} (hD : D < 18446744073709551616) (hA : A < 18446744073709551616) (hU : U < 18446744073709551616) (h : okB (n : Int) D A U = true) {w : World} {F : Nat → Prop} {rb size m : Nat} {lg : Value} {M : Nat → Nat} (hr : RamAt w F rb size m lg M) (hs : size ≤ 268435456) :
    Calls Try.prog 66 #[.pointer (some ⟨rb, 0, none⟩), .agg #[.int .i64 (n : Int), .int .u64 (D : Int), .int .u64 (A : Int), .int .u64 (U : Int)]] w fun e w' => e = .returned (.int .i64 (chkN (n : Int) D A U size)) ∧ Below w.heap.size w w' := by
  have bx : Below w.heap.size w (w.alloc (.cells #[.int .i64 (n : Int), .int .u64 (D : Int), .int .u64 (A : Int), .int .u64 (U : Int)] 25)) := (Below.refl _ _).alloc (Nat.le_refl _) _
  have HB : Hid (Below w.heap.size w (w.alloc (.cells #[.int .i64 (n : Int), .int .u64 (D : Int), .int .u64 (A : Int), .int .u64 (U : Int)] 25))) := bx
  clear bx
  have HOK : Hid (okB (n : Int) D A U = true) := h
  have HR : Hid (RamAt w F rb size m lg M) := hr
  simp only [okB, Bool.and_eq_true] at h
  obtain ⟨n', hn', hn1, hn2⟩ := pow_in h.1
  have hn : n ≤ 256 := by omega
  clear hn' hn1 hn2 n' hr
  have H : Hid (powB (n : Int) = true ∧ ((D : Int) % 16 == 0) = true ∧ ((A : Int) % 2 == 0) = true ∧ ((U : Int) % 4 == 0) = true) := h
  clear h
  go_enter Try.func66, Try.ntmps66
  go_wp2_with (first | (go_at_call 79; refine (power_any _ _).mono ?_; rintro e w2 ⟨rfl, hw⟩; rw [hw]; clear hw w2; rw [H.out.1]) | (go_at_call 42; refine (aligned_pos _ _ (by omega) (by decide) _).mono ?_; rintro e w2 ⟨rfl, hw⟩; rw [hw]; clear hw w2; first | rw [H.out.2.1] | rw [H.out.2.2.1] | rw [H.out.2.2.2]) | (go_at_call 80; refine (areas_any n D A U (by omega) _).mono ?_; rintro e w2 ⟨rfl, hb2⟩; have HB2 : Hid (Below w.heap.size w w2) := HB.out.trans (hb2.mono HB.out.size); clear hb2))
  clear HB
  go_loopw [31] (fun v wr => ∃ k : Nat, k ≤ 3 ∧ v = .int .i64 (k : Int) ∧ (0 < k → inB D (16 * (n : Int)) 2147483648 size = true) ∧ (1 < k → inB A (6 + 2 * (n : Int)) 2147483648 size = true) ∧ (2 < k → inB U (6 + 8 * (n : Int)) 2147483648 size = true) ∧ Below w.heap.size w wr) (fun v _ => 3 - (intOf v).toNat)
  case atStart => exact ⟨0, by omega, rfl, fun h => by omega, fun h => by omega, fun h => by omega, HB2.out⟩
  case round =>
    obtain ⟨k, hk, rfl, r0, r1, r2, hbr⟩ := hrel
    have R : Hid ((0 < k → inB D (16 * (n : Int)) 2147483648 size = true) ∧ (1 < k → inB A (6 + 2 * (n : Int)) 2147483648 size = true) ∧ (2 < k → inB U (6 + 8 * (n : Int)) 2147483648 size = true) ∧ Below w.heap.size w wr) := ⟨r0, r1, r2, hbr⟩
    clear r0 r1 r2 hbr HB2
    rcases (by omega : k = 0 ∨ k = 1 ∨ k = 2 ∨ k = 3) with hk0 | hk0 | hk0 | hk0
    · subst hk0
      have hix : ∀ V, (Instr.index 145 (.agg #[.int .u64 (D : Int), .int .u64 (16 * (n : Int)), .int .u64 (A : Int), .int .u64 (6 + 2 * (n : Int)), .int .u64 (U : Int), .int .u64 (6 + 8 * (n : Int))]) (.int .i64 0)).run Try.prog V = .ok (.agg #[.int .u64 (D : Int), .int .u64 (16 * (n : Int))]) V := fun V => idx0 _ _ _ _ _ _ V
      have HR2 : Hid (RamAt (wr.alloc (.cells #[.int .u64 (D : Int), .int .u64 (16 * (n : Int))] 48)) F rb size m lg M) := (HR.out.below R.out.2.2.2).below (Below.alloc (Below.refl _ _) (Nat.le_refl _) _)
      obtain ⟨b, hb⟩ : ∃ b, inB D (16 * (n : Int)) 2147483648 size = b := ⟨_, rfl⟩
      have HBB : Hid (inB D (16 * (n : Int)) 2147483648 size = b) := hb
      clear hb
      cases b with
      | false =>
        go_wp2_with (first | (go_at_call 33; refine (has_yes HR2.out hs D (16 * (n : Int)) (by omega) (by omega) (by omega)).mono ?_; rintro e w2 ⟨rfl, hw⟩; rw [hw]; clear hw w2; rw [HBB.out]))
        go_ret
        exact ⟨by rw [chk_21 HOK.out (by simp [inA, HBB.out])]; rfl, R.out.2.2.2.alloc R.out.2.2.2.size _⟩
      | true =>
        go_wp2_with (first | (go_at_call 33; refine (has_yes HR2.out hs D (16 * (n : Int)) (by omega) (by omega) (by omega)).mono ?_; rintro e w2 ⟨rfl, hw⟩; rw [hw]; clear hw w2; rw [HBB.out]))
        go_roundw
        case rel => exact ⟨1, by omega, rfl, fun _ => HBB.out, fun h => by omega, fun h => by omega, R.out.2.2.2.alloc R.out.2.2.2.size _⟩
        case measure => simp [intOf]
    · subst hk0
      have hix : ∀ V, (Instr.index 145 (.agg #[.int .u64 (D : Int), .int .u64 (16 * (n : Int)), .int .u64 (A : Int), .int .u64 (6 + 2 * (n : Int)), .int .u64 (U : Int), .int .u64 (6 + 8 * (n : Int))]) (.int .i64 1)).run Try.prog V = .ok (.agg #[.int .u64 (A : Int), .int .u64 (6 + 2 * (n : Int))]) V := fun V => idx1 _ _ _ _ _ _ V
      have HR2 : Hid (RamAt (wr.alloc (.cells #[.int .u64 (A : Int), .int .u64 (6 + 2 * (n : Int))] 48)) F rb size m lg M) := (HR.out.below R.out.2.2.2).below (Below.alloc (Below.refl _ _) (Nat.le_refl _) _)
      obtain ⟨b, hb⟩ : ∃ b, inB A (6 + 2 * (n : Int)) 2147483648 size = b := ⟨_, rfl⟩
      have HBB : Hid (inB A (6 + 2 * (n : Int)) 2147483648 size = b) := hb
      clear hb
      cases b with
      | false =>
        go_wp2_with (first | (go_at_call 33; refine (has_yes HR2.out hs A (6 + 2 * (n : Int)) (by omega) (by omega) (by omega)).mono ?_; rintro e w2 ⟨rfl, hw⟩; rw [hw]; clear hw w2; rw [HBB.out]))
        go_ret
        exact ⟨by rw [chk_21 HOK.out (by simp [inA, HBB.out])]; rfl, R.out.2.2.2.alloc R.out.2.2.2.size _⟩
      | true =>
        go_wp2_with (first | (go_at_call 33; refine (has_yes HR2.out hs A (6 + 2 * (n : Int)) (by omega) (by omega) (by omega)).mono ?_; rintro e w2 ⟨rfl, hw⟩; rw [hw]; clear hw w2; rw [HBB.out]))
        go_roundw
        case rel => exact ⟨2, by omega, rfl, fun _ => R.out.1 (by omega), fun _ => HBB.out, fun h => by omega, R.out.2.2.2.alloc R.out.2.2.2.size _⟩
        case measure => simp [intOf]
    · subst hk0
      have hix : ∀ V, (Instr.index 145 (.agg #[.int .u64 (D : Int), .int .u64 (16 * (n : Int)), .int .u64 (A : Int), .int .u64 (6 + 2 * (n : Int)), .int .u64 (U : Int), .int .u64 (6 + 8 * (n : Int))]) (.int .i64 2)).run Try.prog V = .ok (.agg #[.int .u64 (U : Int), .int .u64 (6 + 8 * (n : Int))]) V := fun V => idx2 _ _ _ _ _ _ V
      have HR2 : Hid (RamAt (wr.alloc (.cells #[.int .u64 (U : Int), .int .u64 (6 + 8 * (n : Int))] 48)) F rb size m lg M) := (HR.out.below R.out.2.2.2).below (Below.alloc (Below.refl _ _) (Nat.le_refl _) _)
      obtain ⟨b, hb⟩ : ∃ b, inB U (6 + 8 * (n : Int)) 2147483648 size = b := ⟨_, rfl⟩
      have HBB : Hid (inB U (6 + 8 * (n : Int)) 2147483648 size = b) := hb
      clear hb
      cases b with
      | false =>
        go_wp2_with (first | (go_at_call 33; refine (has_yes HR2.out hs U (6 + 8 * (n : Int)) (by omega) (by omega) (by omega)).mono ?_; rintro e w2 ⟨rfl, hw⟩; rw [hw]; clear hw w2; rw [HBB.out]))
        go_ret
        exact ⟨by rw [chk_21 HOK.out (by simp [inA, HBB.out])]; rfl, R.out.2.2.2.alloc R.out.2.2.2.size _⟩
      | true =>
        go_wp2_with (first | (go_at_call 33; refine (has_yes HR2.out hs U (6 + 8 * (n : Int)) (by omega) (by omega) (by omega)).mono ?_; rintro e w2 ⟨rfl, hw⟩; rw [hw]; clear hw w2; rw [HBB.out]))
        go_roundw
        case rel => exact ⟨3, by omega, rfl, fun _ => R.out.1 (by omega), fun _ => R.out.2.1 (by omega), fun _ => HBB.out, R.out.2.2.2.alloc R.out.2.2.2.size _⟩
        case measure => simp [intOf]
    · subst hk0
      go_wp2_with fail
      go_ret
      exact ⟨by rw [chk_0 HOK.out (by simp [inA, R.out.1 (by omega), R.out.2.1 (by omega), R.out.2.2.1 (by omega)])]; rfl, R.out.2.2.2⟩
theorem check_any {s : Int} {D A U : Nat} (hD : D < 18446744073709551616) (hA : A < 18446744073709551616) (hU : U < 18446744073709551616) {w : World} {F : Nat → Prop} {rb size m : Nat} {lg : Value} {M : Nat → Nat} (hr : RamAt w F rb size m lg M) (hs : size ≤ 268435456) :
    Calls Try.prog 66 #[.pointer (some ⟨rb, 0, none⟩), .agg #[.int .i64 s, .int .u64 (D : Int), .int .u64 (A : Int), .int .u64 (U : Int)]] w fun e w' => e = .returned (.int .i64 (chkN s D A U size)) ∧ Below w.heap.size w w' := by
  cases h : okB s D A U with
  | false =>
    rw [chk_150 size h]
    exact check_bad h _ w
  | true =>
    have h2 := h
    simp only [okB, Bool.and_eq_true] at h2
    obtain ⟨n, rfl, _, _⟩ := pow_in h2.1
    exact check_good hD hA hU h hr hs
end Go.Proofs.Ytmjdnocilbnoaaa

/- The document's Check. -/
namespace Go.Proofs.Ytmjdnocilbnoaaa
open Go.RowKit
set_option linter.unusedVariables false
set_option linter.unusedSimpArgs false
set_option maxRecDepth 100000

theorem two_in (w : World) (o1 o2 : Obj) : ((w.alloc o1).alloc o2).heap[w.heap.size]? = some o1 ∧ ((w.alloc o1).alloc o2).heap[w.heap.size + 1]? = some o2 := ⟨(boxes (Below.refl _ _)).1, (boxes (Below.refl _ _)).2.1⟩
theorem box4_facts {w : World} {b : Nat} {x0 x1 x2 x3 : Value} {t : TypeId} (h : w.heap[b]? = some (.cells #[x0, x1, x2, x3] t (0, 0))) : w.cell? ⟨b, 0, none⟩ = some x0 ∧ w.cell? ⟨b, 1, none⟩ = some x1 ∧ w.cell? ⟨b, 2, none⟩ = some x2 ∧ w.cell? ⟨b, 3, none⟩ = some x3 := by
  simp [World.cell?, h]
theorem box6_facts {w : World} {b : Nat} {x0 x1 x2 x3 x4 x5 : Value} {t : TypeId} (h : w.heap[b]? = some (.cells #[x0, x1, x2, x3, x4, x5] t (0, 0))) : w.cell? ⟨b, 0, none⟩ = some x0 ∧ w.cell? ⟨b, 1, none⟩ = some x1 ∧ w.cell? ⟨b, 2, none⟩ = some x2 ∧ w.cell? ⟨b, 3, none⟩ = some x3 ∧ w.cell? ⟨b, 4, none⟩ = some x4 ∧ w.cell? ⟨b, 5, none⟩ = some x5 := by
  simp [World.cell?, h]
theorem below_drewB {w w' : World} (h : Below w.drew.heap.size w.drew w') : Below w.heap.size w w' := (Below.drew (Below.refl _ _)).trans h
theorem rcheck_bad {s : Int} {D A U : Nat} (h : okB s D A U = false) (size : Nat) (v : Value) (w : World) :
    Calls Try.prog 8 #[.agg #[.int .u64 (size : Int), v], .agg #[.int .i64 s, .int .u64 (D : Int), .int .u64 (A : Int), .int .u64 (U : Int)]] w fun e w' => e = .returned (.int .i64 150) ∧ Below w.heap.size w w' := by
  have HB : Hid (Below w.heap.size w ((w.alloc (.cells #[.int .u64 (size : Int), v] 32)).alloc (.cells #[.int .i64 s, .int .u64 (D : Int), .int .u64 (A : Int), .int .u64 (U : Int)] 25))) := two_boxes w _ _
  obtain ⟨b0, h0⟩ : ∃ b, powB s = b := ⟨_, rfl⟩
  have H : Hid (powB s = b0) := h0
  simp only [okB, h0] at h
  clear h0
  cases b0 with
  | false =>
    clear h
    go_enter Try.func8, Try.ntmps8
    go_wp2_with (first | (go_at_call 25; refine (rpower_any _ _).mono ?_; rintro e w2 ⟨rfl, q, hw⟩; rw [hw]; clear hw w2; rw [H.out]))
    go_ret
    exact ⟨rfl, below_drewN HB.out q⟩
  | true =>
    by_cases h1 : (D : Int) % 16 = 0
    · by_cases h2 : (A : Int) % 2 = 0
      · have h3 : ¬ (U : Int) % 4 = 0 := fun h3 => by simp [h1, h2, h3] at h
        clear h
        go_enter Try.func8, Try.ntmps8
        go_wp2_with (first | (go_at_call 25; refine (rpower_any _ _).mono ?_; rintro e w2 ⟨rfl, q, hw⟩; rw [hw]; clear hw w2; rw [H.out]))
        go_ret
        exact ⟨rfl, below_drewN HB.out q⟩
      · clear h
        go_enter Try.func8, Try.ntmps8
        go_wp2_with (first | (go_at_call 25; refine (rpower_any _ _).mono ?_; rintro e w2 ⟨rfl, q, hw⟩; rw [hw]; clear hw w2; rw [H.out]))
        go_ret
        exact ⟨rfl, below_drewN HB.out q⟩
    · clear h
      go_enter Try.func8, Try.ntmps8
      go_wp2_with (first | (go_at_call 25; refine (rpower_any _ _).mono ?_; rintro e w2 ⟨rfl, q, hw⟩; rw [hw]; clear hw w2; rw [H.out]))
      go_ret
      exact ⟨rfl, below_drewN HB.out q⟩

set_option maxHeartbeats 8000000 in
theorem rcheck_good {n : Nat} {D A U : Nat} (hD : D < 18446744073709551616) (hA : A < 18446744073709551616) (hU : U < 18446744073709551616) (h : okB (n : Int) D A U = true) (size : Nat) (hs : size ≤ 268435456) (va : Option Addr) (vn vc : Nat) (w : World) :
    Calls Try.prog 8 #[.agg #[.int .u64 (size : Int), .slice va vn vc], .agg #[.int .i64 (n : Int), .int .u64 (D : Int), .int .u64 (A : Int), .int .u64 (U : Int)]] w fun e w' => e = .returned (.int .i64 (chkN (n : Int) D A U size)) ∧ Below w.heap.size w w' := by
  have HB : Hid (Below w.heap.size w ((w.alloc (.cells #[.int .u64 (size : Int), .slice va vn vc] 32)).alloc (.cells #[.int .i64 (n : Int), .int .u64 (D : Int), .int .u64 (A : Int), .int .u64 (U : Int)] 25))) := two_boxes w _ _
  have HOK : Hid (okB (n : Int) D A U = true) := h
  simp only [okB, Bool.and_eq_true] at h
  obtain ⟨n', hn', hn1, hn2⟩ := pow_in h.1
  have hn : n ≤ 256 := by omega
  clear hn' hn1 hn2 n'
  have H : Hid (powB (n : Int) = true) := h.1
  have h1 : (D : Int) % 16 = 0 := beq_iff_eq.1 h.2.1
  have h2 : (A : Int) % 2 = 0 := beq_iff_eq.1 h.2.2.1
  have h3 : (U : Int) % 4 = 0 := beq_iff_eq.1 h.2.2.2
  clear h
  go_enter Try.func8, Try.ntmps8
  go_upto_region 3 with (first | (go_at_call 25; refine (rpower_any _ _).mono ?_; rintro e w2 ⟨rfl, q, hw⟩; rw [hw]; clear hw w2; rw [H.out]))
  have XA := two_in w (.cells #[.int .u64 (size : Int), .slice va vn vc] 32) (.cells #[.int .i64 (n : Int), .int .u64 (D : Int), .int .u64 (A : Int), .int .u64 (U : Int)] 25)
  have X0 : Hid (Below w.heap.size w (((w.alloc (.cells #[.int .u64 (size : Int), .slice va vn vc] 32)).alloc (.cells #[.int .i64 (n : Int), .int .u64 (D : Int), .int .u64 (A : Int), .int .u64 (U : Int)] 25)).drewN q)) := below_drewN HB.out q
  have X1 : (((w.alloc (.cells #[.int .u64 (size : Int), .slice va vn vc] 32)).alloc (.cells #[.int .i64 (n : Int), .int .u64 (D : Int), .int .u64 (A : Int), .int .u64 (U : Int)] 25)).drewN q).heap[w.heap.size]? = some (.cells #[.int .u64 (size : Int), .slice va vn vc] 32 (0, 0)) := XA.1
  have X2 : (((w.alloc (.cells #[.int .u64 (size : Int), .slice va vn vc] 32)).alloc (.cells #[.int .i64 (n : Int), .int .u64 (D : Int), .int .u64 (A : Int), .int .u64 (U : Int)] 25)).drewN q).heap[w.heap.size + 1]? = some (.cells #[.int .i64 (n : Int), .int .u64 (D : Int), .int .u64 (A : Int), .int .u64 (U : Int)] 25 (0, 0)) := XA.2
  clear XA HB
  generalize ((w.alloc (.cells #[.int .u64 (size : Int), .slice va vn vc] 32)).alloc (.cells #[.int .i64 (n : Int), .int .u64 (D : Int), .int .u64 (A : Int), .int .u64 (U : Int)] 25)).drewN q = w1 at *
  have X : Hid (Below w.heap.size w w1 ∧ w1.heap[w.heap.size]? = some (.cells #[.int .u64 (size : Int), .slice va vn vc] 32 (0, 0))) := ⟨X0.out, X1⟩
  obtain ⟨c0, c1, c2, c3⟩ := box4_facts X2
  clear X0 X1 X2
  go_wp2_with fail
  refine (rareas_any n D A U (by omega) _).mono ?_
  rintro e w2 ⟨g, rfl, hg, hcell, hb2⟩
  have Y : Hid (Below w.heap.size w w2 ∧ w2.heap[w.heap.size]? = some (.cells #[.int .u64 (size : Int), .slice va vn vc] 32 (0, 0)) ∧ w2.heap[g]? = some (.cells #[.int .u64 (D : Int), .int .u64 (16 * (n : Int)), .int .u64 (A : Int), .int .u64 (6 + 2 * (n : Int)), .int .u64 (U : Int), .int .u64 (6 + 8 * (n : Int))] 48 (0, 0))) := ⟨X.out.1.trans (hb2.mono X.out.1.size), below_box X.out.2 hb2, hcell⟩
  clear X hg hcell hb2 c0 c1 c2 c3
  go_wp2_with fail
  go_loopw [6] (fun v wr => ∃ k : Nat, k ≤ 3 ∧ v = .int .i64 (k : Int) ∧ (0 < k → inB D (16 * (n : Int)) 2147483648 size = true) ∧ (1 < k → inB A (6 + 2 * (n : Int)) 2147483648 size = true) ∧ (2 < k → inB U (6 + 8 * (n : Int)) 2147483648 size = true) ∧ Below w2.heap.size w2 wr) (fun v _ => 3 - (intOf v).toNat)
  case atStart => exact ⟨0, by omega, rfl, fun h => by omega, fun h => by omega, fun h => by omega, Below.refl _ _⟩
  case round =>
    obtain ⟨k, hk, rfl, r0, r1, r2, hbr⟩ := hrel
    have R : Hid ((0 < k → inB D (16 * (n : Int)) 2147483648 size = true) ∧ (1 < k → inB A (6 + 2 * (n : Int)) 2147483648 size = true) ∧ (2 < k → inB U (6 + 8 * (n : Int)) 2147483648 size = true) ∧ Below w2.heap.size w2 wr) := ⟨r0, r1, r2, hbr⟩
    have y1 := below_box Y.out.2.1 hbr
    have y2 := below_box Y.out.2.2 hbr
    obtain ⟨c0, c1, _, _⟩ := box_facts y1
    obtain ⟨d0, d1, d2, d3, d4, d5⟩ := box6_facts y2
    clear r0 r1 r2 hbr y1 y2
    rcases (by omega : k = 0 ∨ k = 1 ∨ k = 2 ∨ k = 3) with hk0 | hk0 | hk0 | hk0
    · subst hk0
      obtain ⟨b, hb⟩ : ∃ b, inB D (16 * (n : Int)) 2147483648 size = b := ⟨_, rfl⟩
      have HBB : Hid (inB D (16 * (n : Int)) 2147483648 size = b) := hb
      clear hb
      cases b with
      | false =>
        go_upto_region 7 with fail
        go_region_held3 (fun Z => Z.cell? ⟨w.heap.size, 0, none⟩ = some (.int .u64 (size : Int)) ∧ Z.cell? ⟨w.heap.size, 1, none⟩ = some (.slice va vn vc) ∧ Z.cell? ⟨g, 0, none⟩ = some (.int .u64 (D : Int)) ∧ Z.cell? ⟨g, 1, none⟩ = some (.int .u64 (16 * (n : Int)))) (go_keep) (first | (go_at_call 26; refine (rhas_yes size D (16 * (n : Int)) _ (by omega) (by omega) (by omega) (by omega) _).mono ?_; rintro e w3 ⟨rfl, hb3⟩; have HB3 : Hid (Below w2.heap.size w2 w3) := R.out.2.2.2.trans ((below_drewB hb3).mono R.out.2.2.2.size); clear hb3; rw [HBB.out]; obtain ⟨f0, f1, _, _⟩ := box_facts (below_box Y.out.2.1 HB3.out); obtain ⟨g0, g1, g2, g3, g4, g5⟩ := box6_facts (below_box Y.out.2.2 HB3.out)))
        all_goals go_wp2_with fail
        all_goals go_ret
        all_goals exact ⟨by rw [chk_21 HOK.out (by simp [inA, HBB.out])]; rfl, Y.out.1.trans (HB3.out.mono Y.out.1.size)⟩
      | true =>
        go_upto_region 7 with fail
        go_region_held3 (fun Z => Z.cell? ⟨w.heap.size, 0, none⟩ = some (.int .u64 (size : Int)) ∧ Z.cell? ⟨w.heap.size, 1, none⟩ = some (.slice va vn vc) ∧ Z.cell? ⟨g, 0, none⟩ = some (.int .u64 (D : Int)) ∧ Z.cell? ⟨g, 1, none⟩ = some (.int .u64 (16 * (n : Int)))) (go_keep) (first | (go_at_call 26; refine (rhas_yes size D (16 * (n : Int)) _ (by omega) (by omega) (by omega) (by omega) _).mono ?_; rintro e w3 ⟨rfl, hb3⟩; have HB3 : Hid (Below w2.heap.size w2 w3) := R.out.2.2.2.trans ((below_drewB hb3).mono R.out.2.2.2.size); clear hb3; rw [HBB.out]; obtain ⟨f0, f1, _, _⟩ := box_facts (below_box Y.out.2.1 HB3.out); obtain ⟨g0, g1, g2, g3, g4, g5⟩ := box6_facts (below_box Y.out.2.2 HB3.out)))
        go_wp2_with fail
        go_roundw
        case rel => exact ⟨1, by omega, rfl, fun _ => HBB.out, fun h => by omega, fun h => by omega, HB3.out⟩
        case measure => simp [intOf]
    · subst hk0
      obtain ⟨b, hb⟩ : ∃ b, inB A (6 + 2 * (n : Int)) 2147483648 size = b := ⟨_, rfl⟩
      have HBB : Hid (inB A (6 + 2 * (n : Int)) 2147483648 size = b) := hb
      clear hb
      cases b with
      | false =>
        go_upto_region 7 with fail
        go_region_held3 (fun Z => Z.cell? ⟨w.heap.size, 0, none⟩ = some (.int .u64 (size : Int)) ∧ Z.cell? ⟨w.heap.size, 1, none⟩ = some (.slice va vn vc) ∧ Z.cell? ⟨g, 2, none⟩ = some (.int .u64 (A : Int)) ∧ Z.cell? ⟨g, 3, none⟩ = some (.int .u64 (6 + 2 * (n : Int)))) (go_keep) (first | (go_at_call 26; refine (rhas_yes size A (6 + 2 * (n : Int)) _ (by omega) (by omega) (by omega) (by omega) _).mono ?_; rintro e w3 ⟨rfl, hb3⟩; have HB3 : Hid (Below w2.heap.size w2 w3) := R.out.2.2.2.trans ((below_drewB hb3).mono R.out.2.2.2.size); clear hb3; rw [HBB.out]; obtain ⟨f0, f1, _, _⟩ := box_facts (below_box Y.out.2.1 HB3.out); obtain ⟨g0, g1, g2, g3, g4, g5⟩ := box6_facts (below_box Y.out.2.2 HB3.out)))
        all_goals go_wp2_with fail
        all_goals go_ret
        all_goals exact ⟨by rw [chk_21 HOK.out (by simp [inA, HBB.out])]; rfl, Y.out.1.trans (HB3.out.mono Y.out.1.size)⟩
      | true =>
        go_upto_region 7 with fail
        go_region_held3 (fun Z => Z.cell? ⟨w.heap.size, 0, none⟩ = some (.int .u64 (size : Int)) ∧ Z.cell? ⟨w.heap.size, 1, none⟩ = some (.slice va vn vc) ∧ Z.cell? ⟨g, 2, none⟩ = some (.int .u64 (A : Int)) ∧ Z.cell? ⟨g, 3, none⟩ = some (.int .u64 (6 + 2 * (n : Int)))) (go_keep) (first | (go_at_call 26; refine (rhas_yes size A (6 + 2 * (n : Int)) _ (by omega) (by omega) (by omega) (by omega) _).mono ?_; rintro e w3 ⟨rfl, hb3⟩; have HB3 : Hid (Below w2.heap.size w2 w3) := R.out.2.2.2.trans ((below_drewB hb3).mono R.out.2.2.2.size); clear hb3; rw [HBB.out]; obtain ⟨f0, f1, _, _⟩ := box_facts (below_box Y.out.2.1 HB3.out); obtain ⟨g0, g1, g2, g3, g4, g5⟩ := box6_facts (below_box Y.out.2.2 HB3.out)))
        go_wp2_with fail
        go_roundw
        case rel => exact ⟨2, by omega, rfl, fun _ => R.out.1 (by omega), fun _ => HBB.out, fun h => by omega, HB3.out⟩
        case measure => simp [intOf]
    · subst hk0
      obtain ⟨b, hb⟩ : ∃ b, inB U (6 + 8 * (n : Int)) 2147483648 size = b := ⟨_, rfl⟩
      have HBB : Hid (inB U (6 + 8 * (n : Int)) 2147483648 size = b) := hb
      clear hb
      cases b with
      | false =>
        go_upto_region 7 with fail
        go_region_held3 (fun Z => Z.cell? ⟨w.heap.size, 0, none⟩ = some (.int .u64 (size : Int)) ∧ Z.cell? ⟨w.heap.size, 1, none⟩ = some (.slice va vn vc) ∧ Z.cell? ⟨g, 4, none⟩ = some (.int .u64 (U : Int)) ∧ Z.cell? ⟨g, 5, none⟩ = some (.int .u64 (6 + 8 * (n : Int)))) (go_keep) (first | (go_at_call 26; refine (rhas_yes size U (6 + 8 * (n : Int)) _ (by omega) (by omega) (by omega) (by omega) _).mono ?_; rintro e w3 ⟨rfl, hb3⟩; have HB3 : Hid (Below w2.heap.size w2 w3) := R.out.2.2.2.trans ((below_drewB hb3).mono R.out.2.2.2.size); clear hb3; rw [HBB.out]; obtain ⟨f0, f1, _, _⟩ := box_facts (below_box Y.out.2.1 HB3.out); obtain ⟨g0, g1, g2, g3, g4, g5⟩ := box6_facts (below_box Y.out.2.2 HB3.out)))
        all_goals go_wp2_with fail
        all_goals go_ret
        all_goals exact ⟨by rw [chk_21 HOK.out (by simp [inA, HBB.out])]; rfl, Y.out.1.trans (HB3.out.mono Y.out.1.size)⟩
      | true =>
        go_upto_region 7 with fail
        go_region_held3 (fun Z => Z.cell? ⟨w.heap.size, 0, none⟩ = some (.int .u64 (size : Int)) ∧ Z.cell? ⟨w.heap.size, 1, none⟩ = some (.slice va vn vc) ∧ Z.cell? ⟨g, 4, none⟩ = some (.int .u64 (U : Int)) ∧ Z.cell? ⟨g, 5, none⟩ = some (.int .u64 (6 + 8 * (n : Int)))) (go_keep) (first | (go_at_call 26; refine (rhas_yes size U (6 + 8 * (n : Int)) _ (by omega) (by omega) (by omega) (by omega) _).mono ?_; rintro e w3 ⟨rfl, hb3⟩; have HB3 : Hid (Below w2.heap.size w2 w3) := R.out.2.2.2.trans ((below_drewB hb3).mono R.out.2.2.2.size); clear hb3; rw [HBB.out]; obtain ⟨f0, f1, _, _⟩ := box_facts (below_box Y.out.2.1 HB3.out); obtain ⟨g0, g1, g2, g3, g4, g5⟩ := box6_facts (below_box Y.out.2.2 HB3.out)))
        go_wp2_with fail
        go_roundw
        case rel => exact ⟨3, by omega, rfl, fun _ => R.out.1 (by omega), fun _ => R.out.2.1 (by omega), fun _ => HBB.out, HB3.out⟩
        case measure => simp [intOf]
    · subst hk0
      go_wp2_with fail
      go_ret
      exact ⟨by rw [chk_0 HOK.out (by simp [inA, R.out.1 (by omega), R.out.2.1 (by omega), R.out.2.2.1 (by omega)])]; rfl, Y.out.1.trans (R.out.2.2.2.mono Y.out.1.size)⟩
theorem rcheck_any {s : Int} {D A U : Nat} (hD : D < 18446744073709551616) (hA : A < 18446744073709551616) (hU : U < 18446744073709551616) (size : Nat) (hs : size ≤ 268435456) (va : Option Addr) (vn vc : Nat) (w : World) :
    Calls Try.prog 8 #[.agg #[.int .u64 (size : Int), .slice va vn vc], .agg #[.int .i64 s, .int .u64 (D : Int), .int .u64 (A : Int), .int .u64 (U : Int)]] w fun e w' => e = .returned (.int .i64 (chkN s D A U size)) ∧ Below w.heap.size w w' := by
  cases h : okB s D A U with
  | false =>
    rw [chk_150 size h]
    exact rcheck_bad h size _ w
  | true =>
    have h2 := h
    simp only [okB, Bool.and_eq_true] at h2
    obtain ⟨n, rfl, _, _⟩ := pow_in h2.1
    exact rcheck_good hD hA hU h size hs va vn vc w
end Go.Proofs.Ytmjdnocilbnoaaa

/- The statements' memory: bytes are put into a memory and into the document's. -/
namespace Go.Proofs.Ytmjdnocilbnoaaa
open Go.RowKit Go.Maps
set_option linter.unusedVariables false
set_option linter.unusedSimpArgs false
set_option maxRecDepth 100000
def Mem (W wr : World) (rb : Nat) (a : Option Addr) (n c : Nat) (F : Nat → Prop) (M : Nat → Nat) (j : Nat) : Prop :=
  wr.heap[W.heap.size]? = some (.cells #[.int .u64 0, .slice none 0 0] 32 (0, 0)) ∧ wr.heap[W.heap.size + 1]? = some (.cells #[.int .u64 8192, .slice a n c] 32 (0, 0)) ∧ Both F wr rb 8192 (.slice a n c) (200 * j) M ∧ (∀ k, F k → W.heap.size + 2 ≤ k) ∧ Below W.heap.size W wr
theorem Mem.step {W wr wr' : World} {rb : Nat} {a : Option Addr} {n c : Nat} {F : Nat → Prop} {M : Nat → Nat} {j : Nat} (h : Mem W wr rb a n c F M j) (hb : Below wr.heap.size wr wr') : Mem W wr' rb a n c F M j :=
  ⟨below_box h.1 hb, below_box h.2.1 hb, h.2.2.1.below hb, h.2.2.2.1, h.2.2.2.2.trans (hb.mono h.2.2.2.2.size)⟩
theorem new_8192 (w : World) : Calls Try.prog 20 #[.int .u64 8192] w fun e w' => ∃ rb F, e = .returned (.tuple #[.pointer (some ⟨rb, 0, none⟩), .int .i64 0]) ∧ RamAt w' F rb 8192 0 (.pointer none) (fun _ => 0) ∧ (∀ k, F k → w.heap.size ≤ k) ∧ Below w.heap.size w w' := new_yes 8192 (by decide) w
theorem two_cells (t s : TypeId) (w : World) (c d : Array Value) : ((w.alloc (.cells c t)).alloc (.cells d s)).heap.size = w.heap.size + 2 := by simp
theorem begun_mem (W w1 : World) (rb : Nat) (F : Nat → Prop) (h : RamAt w1 F rb 8192 0 (.pointer none) (fun _ => 0)) (hF : ∀ k, F k → ((W.alloc (.cells #[.int .u64 0, .slice none 0 0] 32)).alloc (.cells #[.int .u64 8192, .slice none 0 0] 32)).heap.size ≤ k) (hb : Below ((W.alloc (.cells #[.int .u64 0, .slice none 0 0] 32)).alloc (.cells #[.int .u64 8192, .slice none 0 0] 32)).heap.size ((W.alloc (.cells #[.int .u64 0, .slice none 0 0] 32)).alloc (.cells #[.int .u64 8192, .slice none 0 0] 32)) w1) :
    Mem W w1 rb none 0 0 F (fun _ => 0) 0 := by
  have T := boxes hb
  rw [two_cells] at hF
  exact ⟨T.1, T.2.1, ⟨h, 0, fun _ => (0, 0), by omega, ⟨none, 0, rfl⟩, .inl ⟨rfl, _, _, rfl⟩, fun a => rfl, fun i hi => absurd hi (by omega)⟩, hF, T.2.2.1⟩
theorem mem_both {W wr w5 : World} {rb : Nat} {a : Option Addr} {n c : Nat} {F F5 : Nat → Prop} {M : Nat → Nat} {j : Nat} (h : Mem W wr rb a n c F M j) (hs : Step F wr F5 w5) : w5.heap[W.heap.size]? = some (.cells #[.int .u64 0, .slice none 0 0] 32 (0, 0)) ∧ w5.heap[W.heap.size + 1]? = some (.cells #[.int .u64 8192, .slice a n c] 32 (0, 0)) ∧ (∀ k, F5 k → W.heap.size + 2 ≤ k) ∧ Below W.heap.size W w5 := by
  obtain ⟨h1, h2, h3, h4, hb⟩ := h
  have hsz : W.heap.size + 2 ≤ wr.heap.size := by have := (Array.getElem?_eq_some_iff.1 h2).1; omega
  exact ⟨step_box hs h1 (fun hf => by have := h4 _ hf; omega), step_box hs h2 (fun hf => by have := h4 _ hf; omega), hs.base hsz h4, hb.trans (hs.below hb.size (fun k hk => by have := h4 k hk; omega))⟩
theorem wr_any {w : World} {F : Nat → Prop} {rb n : Nat} {M : Nat → Nat} (h : RamAt w F rb 8192 n (.pointer none) M) (x L : Nat) (f : Nat → Nat) (v : Value) (B : Bool) (hB : inB x L 2147483648 8192 = B) (hx : x < 18446744073709551616) (hr : ReadsF F w v L f) (hf : ∀ i, i < L → f i ≤ 255) (hn : n + L ≤ 1000000) :
    Calls Try.prog 23 #[.pointer (some ⟨rb, 0, none⟩), .int .u64 (x : Nat), v] w fun e w' => e = .returned (.bool B) ∧ ∃ F', RamAt w' F' rb 8192 (n + L) (.pointer none) (if B = true then over M x L f else M) ∧ Step F w F' w' := by
  subst hB
  exact write_any h (by omega) x L f v hx hr hf hn
theorem rwr_any (F : Nat → Prop) (w : World) (x L : Nat) (v d : Value) (n : Nat) (bs : Nat → Nat × Nat) (f : Nat → Nat) (B : Bool) (hB : inB x L 2147483648 8192 = B) (h : RefIn F w v n bs) (hd : Reads .u8 w d L f) (hF : ∀ k, F k → k < w.heap.size) (hn : n ≤ 1000000) (hx : x < 18446744073709551616) (hL : L ≤ 1000) :
    Calls Try.prog 24 #[.agg #[.int .u64 8192, v], .int .u64 (x : Nat), d] w fun e w' => ∃ a' n' c' bs', e = .returned (.tuple #[.agg #[.int .u64 8192, .slice a' n' c'], .bool B]) ∧ n' ≤ n + L ∧ RefIn F w' (.slice a' n' c') n' bs' ∧ ((∀ a, rget bs' n' a = (if B = true then over (rget bs n) x L f else rget bs n) a) ∧ (Rng bs n 8192 → Rng bs' n' 8192)) ∧ Below w.heap.size w w' := by
  subst hB
  exact rwrite_any F w 8192 x L v d n bs f h hd hF hn (by omega) hx hL
set_option maxHeartbeats 1000000 in
theorem memory_long (av : Option Addr) (len cap : Nat) (hlen : 60 < len) (W : World) : Calls Try.prog 6 #[.slice av len cap] W fun e w' => ∃ pv a n c, e = .returned (.tuple #[pv, .agg #[.int .u64 8192, .slice a n c]]) ∧ Below W.heap.size W w' ∧ ((pv = .pointer none ∧ 0 < len) ∨ ∃ rb F M, pv = .pointer (some ⟨rb, 0, none⟩) ∧ Both F w' rb 8192 (.slice a n c) 12000 M ∧ (∀ k, F k → W.heap.size ≤ k)) := by
  have hl : (60 : Int) < (len : Int) := by omega
  go_enter Try.func6, Try.ntmps6
  go_upto_region 2 with fail
  have HB : Hid (∀ w1 rb F, RamAt w1 F rb 8192 0 (.pointer none) (fun _ => 0) → (∀ k, F k → ((W.alloc (.cells #[.int .u64 0, .slice none 0 0] 32)).alloc (.cells #[.int .u64 8192, .slice none 0 0] 32)).heap.size ≤ k) → Below ((W.alloc (.cells #[.int .u64 0, .slice none 0 0] 32)).alloc (.cells #[.int .u64 8192, .slice none 0 0] 32)).heap.size ((W.alloc (.cells #[.int .u64 0, .slice none 0 0] 32)).alloc (.cells #[.int .u64 8192, .slice none 0 0] 32)) w1 → Mem W w1 rb none 0 0 F (fun _ => 0) 0) := fun w1 rb F h1 h2 h3 => begun_mem W w1 rb F h1 h2 h3
  generalize ((W.alloc (.cells #[.int .u64 0, .slice none 0 0] 32)).alloc (.cells #[.int .u64 8192, .slice none 0 0] 32)) = V2 at *
  go_wp2_with fail
  refine (new_8192 _).mono ?_
  rintro e w1 ⟨rb, F, rfl, h1, hF, hb1⟩
  have X1 : Hid (Mem W w1 rb none 0 0 F (fun _ => 0) 0) := HB.out _ _ _ h1 hF hb1
  clear h1 hF hb1 HB
  have q0 := cellOf X1.out.2.1 0 _ rfl
  have q1 := cellOf X1.out.2.1 1 _ rfl
  have p0 := cellOf X1.out.1 0 _ rfl
  have p1 := cellOf X1.out.1 1 _ rfl
  have z0 := frozenOf X1.out.1 0
  have z1 := frozenOf X1.out.1 1
  go_wp2_with fail
  go_region
  go_wp2_with fail
  refine bodyPost_ret (v := .tuple #[.pointer none, .agg #[.int .u64 8192, .slice none 0 0]]) (by simp [results, Try.results6, go_sem, p0, p1]) rfl ⟨_, _, _, _, rfl, ?_, .inl ⟨rfl, by omega⟩⟩
  exact ((X1.out.2.2.2.2.setCell (p := ⟨W.heap.size, 0, none⟩) (Nat.le_refl _) _).setCell (p := ⟨W.heap.size, 1, none⟩) (Nat.le_refl _) _).drew
set_option maxHeartbeats 4000000 in
theorem memory_short (av : Option Addr) (len cap : Nat) (ps : Nat → PutD) (hlen : len ≤ 60) (W : World) (hws : PutsIn W (.slice av len cap) len ps) : Calls Try.prog 6 #[.slice av len cap] W fun e w' => ∃ pv a n c, e = .returned (.tuple #[pv, .agg #[.int .u64 8192, .slice a n c]]) ∧ Below W.heap.size W w' ∧ ((pv = .pointer none ∧ 0 < len) ∨ ∃ rb F M, pv = .pointer (some ⟨rb, 0, none⟩) ∧ Both F w' rb 8192 (.slice a n c) 12000 M ∧ (∀ k, F k → W.heap.size ≤ k)) := by
  have hl : ¬ (60 : Int) < (len : Int) := by omega
  have HW : Hid (PutsIn W (.slice av len cap) len ps) := hws
  have HL : Hid (len ≤ 60) := hlen
  clear hws hlen
  go_enter Try.func6, Try.ntmps6
  go_upto_region 2 with fail
  have HB : Hid (∀ w1 rb F, RamAt w1 F rb 8192 0 (.pointer none) (fun _ => 0) → (∀ k, F k → ((W.alloc (.cells #[.int .u64 0, .slice none 0 0] 32)).alloc (.cells #[.int .u64 8192, .slice none 0 0] 32)).heap.size ≤ k) → Below ((W.alloc (.cells #[.int .u64 0, .slice none 0 0] 32)).alloc (.cells #[.int .u64 8192, .slice none 0 0] 32)).heap.size ((W.alloc (.cells #[.int .u64 0, .slice none 0 0] 32)).alloc (.cells #[.int .u64 8192, .slice none 0 0] 32)) w1 → Mem W w1 rb none 0 0 F (fun _ => 0) 0) := fun w1 rb F h1 h2 h3 => begun_mem W w1 rb F h1 h2 h3
  generalize ((W.alloc (.cells #[.int .u64 0, .slice none 0 0] 32)).alloc (.cells #[.int .u64 8192, .slice none 0 0] 32)) = V2 at *
  go_wp2_with fail
  refine (new_8192 _).mono ?_
  rintro e w1 ⟨rb, F0, rfl, h1, hF, hb1⟩
  have X1 : Hid (Mem W w1 rb none 0 0 F0 (fun _ => 0) 0) := HB.out _ _ _ h1 hF hb1
  clear h1 hF hb1 HB
  go_wp2_with fail
  go_loopw [7] (fun i wr => ∃ (j : Nat) (a : Option Addr) (n c : Nat) (F : Nat → Prop) (M : Nat → Nat), j ≤ len ∧ i = .int .i64 j ∧ Mem W wr rb a n c F M j) (fun i _ => len - (intOf i).toNat)
  case atStart => exact ⟨0, none, 0, 0, F0, fun _ => 0, by omega, rfl, X1.out⟩
  case round =>
    obtain ⟨j, a, n, c, F, M, hj, rfl, hX⟩ := hrel
    have Xr : Hid (Mem W wr rb a n c F M j) := hX
    clear hX X1
    by_cases hlt : j < len
    case neg =>
      obtain rfl : j = len := by omega
      have q0 := cellOf Xr.out.2.1 0 _ rfl
      have q1 := cellOf Xr.out.2.1 1 _ rfl
      have p0 := cellOf Xr.out.1 0 _ rfl
      have p1 := cellOf Xr.out.1 1 _ rfl
      have z0 := frozenOf Xr.out.1 0
      have z1 := frozenOf Xr.out.1 1
      have P1 : Hid _ := p1
      go_wp2_with fail
      go_region
      go_wp2_with fail
      refine bodyPost_ret (v := .tuple #[.pointer (some ⟨rb, 0, none⟩), .agg #[.int .u64 8192, .slice a n c]]) (by simp [results, Try.results6, go_sem, p0, p1]) rfl ⟨_, a, n, c, rfl, ?_, .inr ⟨rb, F, M, rfl, ?_, fun k hk => by have := Xr.out.2.2.2.1 k hk; omega⟩⟩
      · exact ((Xr.out.2.2.2.2.setCell (p := ⟨W.heap.size, 0, none⟩) (Nat.le_refl _) _).setCell (p := ⟨W.heap.size, 1, none⟩) (Nat.le_refl _) _).drew
      · have hB := Xr.out.2.2.1.setBox (b := W.heap.size) (u0 := .int .u64 8192) (u1 := .slice a n c) (fun hf => by have := Xr.out.2.2.2.1 _ hf; omega) P1.out
        have hB2 := hB.below (Below.drew (Below.refl _ _))
        obtain ⟨g1, nb, bs, g2, g3⟩ := hB2
        have := HL.out
        exact ⟨g1.mono (by omega), nb, bs, by omega, g3⟩
    case pos =>
      have hji : (j : Int) < (len : Int) := by omega
      rcases HW.out with ⟨h0, _⟩ | ⟨b, off, cp, hv, hbW, hl9, hc⟩
      · omega
      simp only [Value.slice.injEq] at hv
      obtain ⟨rfl, -, rfl⟩ := hv
      obtain ⟨c1, c2, hin⟩ := hc j hlt
      have HI : Hid (PutD.In (ps j) (fun q => W.heap.size ≤ q) W) := hin
      clear hc hin hl9
      obtain ⟨⟨x, da, dl, dc, f⟩, hps⟩ : ∃ o, ps j = o := ⟨_, rfl⟩
      rw [hps] at HI c1 c2
      simp only at c1 c2
      clear hps
      have HP : Hid (∀ V, Below W.heap.size W V → V.cell? ⟨b, off + j * 2, none⟩ = some (.int .u64 (x : Int)) ∧ V.cell? ⟨b, off + j * 2 + 1, none⟩ = some (.slice da dl dc)) := fun V hV => ⟨(hV.cell (p := ⟨b, off + j * 2, none⟩) hbW).trans c1, (hV.cell (p := ⟨b, off + j * 2 + 1, none⟩) hbW).trans c2⟩
      clear c1 c2
      have e1 := (HP.out wr Xr.out.2.2.2.2).1
      have e2 := (HP.out wr Xr.out.2.2.2.2).2
      by_cases hbig : 200 < dl
      · have hbi : (200 : Int) < (dl : Int) := by omega
        have q0 := cellOf Xr.out.2.1 0 _ rfl
        have q1 := cellOf Xr.out.2.1 1 _ rfl
        have p0 := cellOf Xr.out.1 0 _ rfl
        have p1 := cellOf Xr.out.1 1 _ rfl
        have z0 := frozenOf Xr.out.1 0
        have z1 := frozenOf Xr.out.1 1
        go_wp2_with fail
        go_region
        go_wp2_with fail
        refine bodyPost_ret (v := .tuple #[.pointer none, .agg #[.int .u64 8192, .slice a n c]]) (by simp [results, Try.results6, go_sem, p0, p1]) rfl ⟨_, _, _, _, rfl, ?_, .inl ⟨rfl, by omega⟩⟩
        exact ((Xr.out.2.2.2.2.setCell (p := ⟨W.heap.size, 0, none⟩) (Nat.le_refl _) _).setCell (p := ⟨W.heap.size, 1, none⟩) (Nat.le_refl _) _).drew
      have hbi : ¬ (200 : Int) < (dl : Int) := by omega
      obtain ⟨B, hB⟩ : ∃ B, inB x dl 2147483648 8192 = B := ⟨_, rfl⟩
      have HV : Hid (inB x dl 2147483648 8192 = B) := hB
      clear hB
      go_upto_region 10 with fail
      have Xd : Hid (Mem W wr.drew rb a n c F M j) := Xr.out.step (Below.drew (Below.refl _ _))
      refine wp_region_held_drew (S := fun V => V.cell? ⟨b, off + j * 2, none⟩ = some (.int .u64 (x : Int)) ∧ V.cell? ⟨b, off + j * 2 + 1, none⟩ = some (.slice da dl dc)) (by kernel_rfl) (HP.out _ Xd.out.2.2.2.2) ?_
      intro hS
      refine wpAnyH_take (i := 0) (v := ?_) rfl (by kernel_rfl) (by kernel_rfl) (by kernel_rfl) (fun _ _ _ h => h) (Or.inl ⟨by kernel_rfl, ?_⟩) hS ?_
      rotate_left
      · intro w hSw; (try dsimp only at hSw); go_simp; try (with_reducible rfl)
      (try simp only [Act.put, List.getElem_toArray, List.getElem_cons_succ, List.getElem_cons_zero, List.setIfInBounds_toArray, List.set_cons_zero, List.set_cons_succ])
      refine wpAnyH_take (i := 1) (v := ?_) rfl (by kernel_rfl) (by kernel_rfl) (by kernel_rfl) (fun _ _ _ h => h) (Or.inl ⟨by kernel_rfl, ?_⟩) hS ?_
      rotate_left
      · intro w hSw; (try dsimp only at hSw); go_simp; try (with_reducible rfl)
      (try simp only [Act.put, List.getElem_toArray, List.getElem_cons_succ, List.getElem_cons_zero, List.setIfInBounds_toArray, List.set_cons_zero, List.set_cons_succ])
      refine wpAnyH_take (i := 2) (v := ?_) rfl (by kernel_rfl) (by kernel_rfl) (by kernel_rfl) (fun _ _ _ h => h) (Or.inl ⟨by kernel_rfl, ?_⟩) hS ?_
      rotate_left
      · intro w hSw; (try dsimp only at hSw); go_simp; try (with_reducible rfl)
      (try simp only [Act.put, List.getElem_toArray, List.getElem_cons_succ, List.getElem_cons_zero, List.setIfInBounds_toArray, List.set_cons_zero, List.set_cons_succ])
      refine wpAnyH_take (i := 3) (v := ?_) rfl (by kernel_rfl) (by kernel_rfl) (by kernel_rfl) (fun _ _ _ h => h) (Or.inl ⟨by kernel_rfl, ?_⟩) hS ?_
      rotate_left
      · intro w hSw; (try dsimp only at hSw); go_simp; try (with_reducible rfl)
      (try simp only [Act.put, List.getElem_toArray, List.getElem_cons_succ, List.getElem_cons_zero, List.setIfInBounds_toArray, List.set_cons_zero, List.set_cons_succ])
      refine wpAnyH_take (i := 4) (v := ?_) rfl (by kernel_rfl) (by kernel_rfl) (by kernel_rfl) (fun _ _ _ h => h) (Or.inl ⟨by kernel_rfl, ?_⟩) hS ?_
      rotate_left
      · intro w hSw; (try dsimp only at hSw); go_simp; try (with_reducible rfl)
      (try simp only [Act.put, List.getElem_toArray, List.getElem_cons_succ, List.getElem_cons_zero, List.setIfInBounds_toArray, List.set_cons_zero, List.set_cons_succ])
      refine wpAnyH_take (i := 5) (v := ?_) rfl (by kernel_rfl) (by kernel_rfl) (by kernel_rfl) (fun _ _ _ h => h) (Or.inl ⟨by kernel_rfl, ?_⟩) hS ?_
      rotate_left
      · intro w hSw; (try dsimp only at hSw); go_simp; try (with_reducible rfl)
      (try simp only [Act.put, List.getElem_toArray, List.getElem_cons_succ, List.getElem_cons_zero, List.setIfInBounds_toArray, List.set_cons_zero, List.set_cons_succ])
      refine wpAnyH_take (i := 6) (v := ?_) rfl (by kernel_rfl) (by kernel_rfl) (by kernel_rfl) (fun _ _ _ h => h) (Or.inl ⟨by kernel_rfl, ?_⟩) hS ?_
      rotate_left
      · intro w hSw; (try dsimp only at hSw); go_simp; try (with_reducible rfl)
      (try simp only [Act.put, List.getElem_toArray, List.getElem_cons_succ, List.getElem_cons_zero, List.setIfInBounds_toArray, List.set_cons_zero, List.set_cons_succ])
      refine wpAnyH_take (i := 7) (v := ?_) rfl (by kernel_rfl) (by kernel_rfl) (by kernel_rfl) (fun _ _ _ h => h) (Or.inl ⟨by kernel_rfl, ?_⟩) hS ?_
      rotate_left
      · intro w hSw; (try dsimp only at hSw); go_simp; try (with_reducible rfl)
      (try simp only [Act.put, List.getElem_toArray, List.getElem_cons_succ, List.getElem_cons_zero, List.setIfInBounds_toArray, List.set_cons_zero, List.set_cons_succ])
      refine wpAnyH_take (i := 8) (v := ?_) rfl (by kernel_rfl) (by kernel_rfl) (by kernel_rfl) (fun _ _ _ h => h) (Or.inl ⟨by kernel_rfl, ?_⟩) hS ?_
      rotate_left
      · intro w hSw; (try dsimp only at hSw); go_simp; try (with_reducible rfl)
      (try simp only [Act.put, List.getElem_toArray, List.getElem_cons_succ, List.getElem_cons_zero, List.setIfInBounds_toArray, List.set_cons_zero, List.set_cons_succ])
      refine wpAnyH_take (i := 9) (v := ?_) rfl (by kernel_rfl) (by kernel_rfl) (by kernel_rfl) (fun _ _ _ h => h) (Or.inl ⟨by kernel_rfl, ?_⟩) hS ?_
      rotate_left
      · intro w hSw; (try dsimp only at hSw); go_simp; try (with_reducible rfl)
      (try simp only [Act.put, List.getElem_toArray, List.getElem_cons_succ, List.getElem_cons_zero, List.setIfInBounds_toArray, List.set_cons_zero, List.set_cons_succ])
      refine wpAnyH_take (i := 10) (v := ?_) rfl (by kernel_rfl) (by kernel_rfl) (by kernel_rfl) (fun _ _ _ h => h) (Or.inl ⟨by kernel_rfl, ?_⟩) hS ?_
      rotate_left
      · intro w hSw; (try dsimp only at hSw); go_simp; try (with_reducible rfl)
      (try simp only [Act.put, List.getElem_toArray, List.getElem_cons_succ, List.getElem_cons_zero, List.setIfInBounds_toArray, List.set_cons_zero, List.set_cons_succ])
      refine wpAnyH_ready (rs := [11]) (by kernel_rfl) (by simp) ?_
      refine AllReadyH.cons rfl (fun K1 hK1 => ?_) AllReadyH.nil
      go_simp
      have hin := PutD.In.later (F := F) HI.out Xd.out.2.2.2.2 (fun q hq => by have := Xd.out.2.2.2.1 q hq; omega)
      refine (wr_any Xd.out.2.2.1.1 x dl f (.slice da dl dc) B HV.out hin.1 hin.2.2 (fun i _ => hin.2.1 i) (by have := HL.out; omega)).mono ?_
      clear hin
      rintro e w5 ⟨rfl, F5, h5, hs5⟩
      have X5 : Hid ((w5.heap[W.heap.size]? = some (.cells #[.int .u64 0, .slice none 0 0] 32 (0, 0)) ∧ w5.heap[W.heap.size + 1]? = some (.cells #[.int .u64 8192, .slice a n c] 32 (0, 0)) ∧ (∀ k, F5 k → W.heap.size + 2 ≤ k) ∧ Below W.heap.size W w5) ∧ RamAt w5 F5 rb 8192 (200 * j + dl) (.pointer none) (if B = true then over M x dl f else M) ∧ ∃ nb bs, nb ≤ 200 * j ∧ (∃ a' c', Value.slice a n c = .slice a' nb c') ∧ RefIn F5 w5 (.slice a n c) nb bs ∧ (∀ q, rget bs nb q = M q) ∧ Rng bs nb 8192) := by
        refine ⟨mem_both Xd.out hs5, h5, ?_⟩
        obtain ⟨-, nb, bs, g2, g3, g4, g5⟩ := Xd.out.2.2.1
        exact ⟨nb, bs, g2, g3, g4.step hs5, g5⟩
      clear h5 hs5
      refine hK1.out _ _ (HP.out _ X5.out.1.2.2.2) (fun hS5 => ?_)
      clear hK1 K1 hS
      (try simp only [Act.put, List.getElem_toArray, List.getElem_cons_succ, List.getElem_cons_zero, List.setIfInBounds_toArray, List.set_cons_zero, List.set_cons_succ])
      refine wpAnyH_done (by kernel_rfl) ?_ _
      clear hS5 e1 e2
      go_upto_region 11 with fail
      have e1 := (HP.out w5 X5.out.1.2.2.2).1
      have e2 := (HP.out w5 X5.out.1.2.2.2).2
      obtain ⟨nb, bs, g2, g3, g4, g5⟩ := X5.out.2.2
      have G : Hid (nb ≤ 200 * j ∧ (∃ a' c', Value.slice a n c = .slice a' nb c') ∧ RefIn F5 w5 (.slice a n c) nb bs ∧ (∀ q, rget bs nb q = M q) ∧ Rng bs nb 8192) := ⟨g2, g3, g4, g5⟩
      clear g2 g3 g4 g5
      have hd5 : Below w5.heap.size w5 w5.drew := Below.drew (Below.refl _ _)
      have D5 : Hid ((w5.drew.cell? ⟨b, off + j * 2, none⟩ = some (.int .u64 (x : Int)) ∧ w5.drew.cell? ⟨b, off + j * 2 + 1, none⟩ = some (.slice da dl dc)) ∧ w5.drew.cell? ⟨W.heap.size + 1, 0, none⟩ = some (.int .u64 8192) ∧ w5.drew.cell? ⟨W.heap.size + 1, 1, none⟩ = some (.slice a n c)) := ⟨HP.out _ (X5.out.1.2.2.2.trans (hd5.mono X5.out.1.2.2.2.size)), cellOf (below_box X5.out.1.2.1 hd5) 0 _ rfl, cellOf (below_box X5.out.1.2.1 hd5) 1 _ rfl⟩
      have hin5 := PutD.In.later (F := F5) HI.out (X5.out.1.2.2.2.trans (hd5.mono X5.out.1.2.2.2.size)) (fun q hq => by have := X5.out.1.2.2.1 q hq; omega)
      have HI5 : Hid (x < 18446744073709551616 ∧ Reads .u8 w5.drew (.slice da dl dc) dl f) := ⟨hin5.1, hin5.2.2.reads⟩
      clear hd5 hin5
      have f0 := D5.out.2.1
      have f1 := D5.out.2.2
      refine wp_region_held_drew (S := fun V => V.cell? ⟨b, off + j * 2, none⟩ = some (.int .u64 (x : Int)) ∧ V.cell? ⟨b, off + j * 2 + 1, none⟩ = some (.slice da dl dc)) (by kernel_rfl) D5.out.1 ?_
      intro hS
      refine wpAnyH_take (i := 1) (v := ?_) rfl (by kernel_rfl) (by kernel_rfl) (by kernel_rfl) (fun _ _ _ h => h) (Or.inl ⟨by kernel_rfl, ?_⟩) hS ?_
      rotate_left
      · intro w hSw; (try dsimp only at hSw); go_simp; try (with_reducible rfl)
      (try simp only [Act.put, List.getElem_toArray, List.getElem_cons_succ, List.getElem_cons_zero, List.setIfInBounds_toArray, List.set_cons_zero, List.set_cons_succ])
      refine wpAnyH_take (i := 2) (v := ?_) rfl (by kernel_rfl) (by kernel_rfl) (by kernel_rfl) (fun _ _ _ h => h) (Or.inl ⟨by kernel_rfl, ?_⟩) hS ?_
      rotate_left
      · intro w hSw; (try dsimp only at hSw); go_simp; try (with_reducible rfl)
      (try simp only [Act.put, List.getElem_toArray, List.getElem_cons_succ, List.getElem_cons_zero, List.setIfInBounds_toArray, List.set_cons_zero, List.set_cons_succ])
      refine wpAnyH_take (i := 3) (v := ?_) rfl (by kernel_rfl) (by kernel_rfl) (by kernel_rfl) (fun _ _ _ h => h) (Or.inl ⟨by kernel_rfl, ?_⟩) hS ?_
      rotate_left
      · intro w hSw; (try dsimp only at hSw); go_simp; try (with_reducible rfl)
      (try simp only [Act.put, List.getElem_toArray, List.getElem_cons_succ, List.getElem_cons_zero, List.setIfInBounds_toArray, List.set_cons_zero, List.set_cons_succ])
      refine wpAnyH_take (i := 4) (v := ?_) rfl (by kernel_rfl) (by kernel_rfl) (by kernel_rfl) (fun _ _ _ h => h) (Or.inl ⟨by kernel_rfl, ?_⟩) hS ?_
      rotate_left
      · intro w hSw; (try dsimp only at hSw); go_simp; try (with_reducible rfl)
      (try simp only [Act.put, List.getElem_toArray, List.getElem_cons_succ, List.getElem_cons_zero, List.setIfInBounds_toArray, List.set_cons_zero, List.set_cons_succ])
      refine wpAnyH_take (i := 5) (v := ?_) rfl (by kernel_rfl) (by kernel_rfl) (by kernel_rfl) (fun _ _ _ h => h) (Or.inl ⟨by kernel_rfl, ?_⟩) hS ?_
      rotate_left
      · intro w hSw; (try dsimp only at hSw); go_simp; try (with_reducible rfl)
      (try simp only [Act.put, List.getElem_toArray, List.getElem_cons_succ, List.getElem_cons_zero, List.setIfInBounds_toArray, List.set_cons_zero, List.set_cons_succ])
      refine wpAnyH_take (i := 6) (v := ?_) rfl (by kernel_rfl) (by kernel_rfl) (by kernel_rfl) (fun _ _ _ h => h) (Or.inl ⟨by kernel_rfl, ?_⟩) hS ?_
      rotate_left
      · intro w hSw; (try dsimp only at hSw); go_simp; try (with_reducible rfl)
      (try simp only [Act.put, List.getElem_toArray, List.getElem_cons_succ, List.getElem_cons_zero, List.setIfInBounds_toArray, List.set_cons_zero, List.set_cons_succ])
      refine wpAnyH_take (i := 7) (v := ?_) rfl (by kernel_rfl) (by kernel_rfl) (by kernel_rfl) (fun _ _ _ h => h) (Or.inl ⟨by kernel_rfl, ?_⟩) hS ?_
      rotate_left
      · intro w hSw; (try dsimp only at hSw); go_simp; try (with_reducible rfl)
      (try simp only [Act.put, List.getElem_toArray, List.getElem_cons_succ, List.getElem_cons_zero, List.setIfInBounds_toArray, List.set_cons_zero, List.set_cons_succ])
      refine wpAnyH_take (i := 8) (v := ?_) rfl (by kernel_rfl) (by kernel_rfl) (by kernel_rfl) (fun _ _ _ h => h) (Or.inl ⟨by kernel_rfl, ?_⟩) hS ?_
      rotate_left
      · intro w hSw; (try dsimp only at hSw); go_simp; try (with_reducible rfl)
      (try simp only [Act.put, List.getElem_toArray, List.getElem_cons_succ, List.getElem_cons_zero, List.setIfInBounds_toArray, List.set_cons_zero, List.set_cons_succ])
      refine wpAnyH_take (i := 9) (v := ?_) rfl (by kernel_rfl) (by kernel_rfl) (by kernel_rfl) (fun _ _ _ h => h) (Or.inl ⟨by kernel_rfl, ?_⟩) hS ?_
      rotate_left
      · intro w hSw; (try dsimp only at hSw); go_simp; try (with_reducible rfl)
      (try simp only [Act.put, List.getElem_toArray, List.getElem_cons_succ, List.getElem_cons_zero, List.setIfInBounds_toArray, List.set_cons_zero, List.set_cons_succ])
      refine wpAnyH_take (i := 10) (v := ?_) rfl (by kernel_rfl) (by kernel_rfl) (by kernel_rfl) (fun _ _ _ h => h) (Or.inl ⟨by kernel_rfl, ?_⟩) hS ?_
      rotate_left
      · intro w hSw; (try dsimp only at hSw); go_simp; try (with_reducible rfl)
      (try simp only [Act.put, List.getElem_toArray, List.getElem_cons_succ, List.getElem_cons_zero, List.setIfInBounds_toArray, List.set_cons_zero, List.set_cons_succ])
      refine wpAnyH_ready (rs := [0]) (by kernel_rfl) (by simp) ?_
      refine AllReadyH.cons rfl (fun K1 hK1 => ?_) AllReadyH.nil
      go_simp
      refine hK1.out _ _ D5.out.1 (fun hS0 => ?_)
      clear hK1 K1 hS f0 f1
      (try simp only [Act.put, List.getElem_toArray, List.getElem_cons_succ, List.getElem_cons_zero, List.setIfInBounds_toArray, List.set_cons_zero, List.set_cons_succ])
      refine wpAnyH_ready (rs := [11]) (by kernel_rfl) (by simp) ?_
      refine AllReadyH.cons rfl (fun K1 hK1 => ?_) AllReadyH.nil
      go_simp
      refine (rwr_any F5 _ x dl (.slice a n c) (.slice da dl dc) nb bs f B HV.out (G.out.2.2.1.below (Below.drew (Below.refl _ _))) HI5.out.2 (fun k hk => X5.out.2.1.lt k hk) (by have := HL.out; have := G.out.1; omega) HI5.out.1 (by omega)).mono ?_
      rintro e w6 ⟨a6, n6, c6, bs6, rfl, hn6, hr6, he6, hb6⟩
      have hb6' : Below w5.heap.size w5 w6 := (Below.drew (Below.refl _ _)).trans hb6
      have X6 : Hid ((w6.heap[W.heap.size]? = some (.cells #[.int .u64 0, .slice none 0 0] 32 (0, 0)) ∧ w6.heap[W.heap.size + 1]? = some (.cells #[.int .u64 8192, .slice a n c] 32 (0, 0)) ∧ (∀ k, F5 k → W.heap.size + 2 ≤ k) ∧ Below W.heap.size W w6) ∧ Both F5 w6 rb 8192 (.slice a6 n6 c6) (200 * (j + 1)) (if B = true then over M x dl f else M)) := by
        refine ⟨⟨below_box X5.out.1.1 hb6', below_box X5.out.1.2.1 hb6', X5.out.1.2.2.1, X5.out.1.2.2.2.trans (hb6'.mono X5.out.1.2.2.2.size)⟩, (X5.out.2.1.below hb6').mono (by omega), n6, bs6, by have := G.out.1; omega, ⟨a6, c6, rfl⟩, hr6, fun q => ?_, he6.2 G.out.2.2.2.2⟩
        rw [he6.1 q]
        split
        · exact over_congr _ _ _ G.out.2.2.2.1 q
        · exact G.out.2.2.2.1 q
      clear hb6 hb6' he6 hr6
      refine hK1.out _ _ (HP.out _ X6.out.1.2.2.2) (fun hS6 => ?_)
      clear hK1 K1 hS0
      (try simp only [Act.put, List.getElem_toArray, List.getElem_cons_succ, List.getElem_cons_zero, List.setIfInBounds_toArray, List.set_cons_zero, List.set_cons_succ])
      refine wpAnyH_take (i := 12) (v := ?_) rfl (by kernel_rfl) (by kernel_rfl) (by kernel_rfl) (fun _ _ _ h => h) (Or.inl ⟨by kernel_rfl, ?_⟩) hS6 ?_
      rotate_left
      · intro w hSw; (try dsimp only at hSw); go_simp; try (with_reducible rfl)
      (try simp only [Act.put, List.getElem_toArray, List.getElem_cons_succ, List.getElem_cons_zero, List.setIfInBounds_toArray, List.set_cons_zero, List.set_cons_succ])
      refine wpAnyH_take (i := 13) (v := ?_) rfl (by kernel_rfl) (by kernel_rfl) (by kernel_rfl) (fun _ _ _ h => h) (Or.inl ⟨by kernel_rfl, ?_⟩) hS6 ?_
      rotate_left
      · intro w hSw; (try dsimp only at hSw); go_simp; try (with_reducible rfl)
      (try simp only [Act.put, List.getElem_toArray, List.getElem_cons_succ, List.getElem_cons_zero, List.setIfInBounds_toArray, List.set_cons_zero, List.set_cons_succ])
      refine wpAnyH_take (i := 14) (v := ?_) rfl (by kernel_rfl) (by kernel_rfl) (by kernel_rfl) (fun _ _ _ h => h) (Or.inl ⟨by kernel_rfl, ?_⟩) hS6 ?_
      rotate_left
      · intro w hSw; (try dsimp only at hSw); go_simp; try (with_reducible rfl)
      (try simp only [Act.put, List.getElem_toArray, List.getElem_cons_succ, List.getElem_cons_zero, List.setIfInBounds_toArray, List.set_cons_zero, List.set_cons_succ])
      have a0 := cellOf X6.out.1.2.1 0 _ rfl
      have a1 := cellOf X6.out.1.2.1 1 _ rfl
      have z0 := frozenOf X6.out.1.2.1 0
      have z1 := frozenOf X6.out.1.2.1 1
      refine wpAnyH_ready (rs := [15]) (by kernel_rfl) (by simp) ?_
      refine AllReadyH.cons rfl (fun K1 hK1 => ?_) AllReadyH.nil
      go_simp
      have X7 : Hid (Mem W ((w6.setCell ⟨W.heap.size + 1, 0, none⟩ (.int .u64 8192)).setCell ⟨W.heap.size + 1, 1, none⟩ (.slice a6 n6 c6)) rb a6 n6 c6 F5 (if B = true then over M x dl f else M) (j + 1)) :=
        ⟨box_other X6.out.1.1 (by omega), box_set X6.out.1.2.1, X6.out.2.setBox (fun hf => by have := X6.out.1.2.2.1 _ hf; omega) (cellOf X6.out.1.2.1 1 _ rfl), X6.out.1.2.2.1, (X6.out.1.2.2.2.setCell (p := ⟨W.heap.size + 1, 0, none⟩) (by show W.heap.size ≤ W.heap.size + 1; omega) _).setCell (p := ⟨W.heap.size + 1, 1, none⟩) (by show W.heap.size ≤ W.heap.size + 1; omega) _⟩
      refine hK1.out _ ((w6.setCell ⟨W.heap.size + 1, 0, none⟩ (.int .u64 8192)).setCell ⟨W.heap.size + 1, 1, none⟩ (.slice a6 n6 c6)) (HP.out _ X7.out.2.2.2.2) (fun hS7 => ?_)
      clear hK1 K1 hS6 a0 a1 z0 z1 e1 e2
      (try simp only [Act.put, List.getElem_toArray, List.getElem_cons_succ, List.getElem_cons_zero, List.setIfInBounds_toArray, List.set_cons_zero, List.set_cons_succ])
      refine wpAnyH_done (by kernel_rfl) ?_ _
      clear hS7
      go_wp2_with fail
      go_roundw
      case rel => exact ⟨j + 1, a6, n6, c6, F5, _, by omega, by go_num, X7.out⟩
      case measure => simp [intOf]; omega
theorem memory_any (v : Value) (len : Nat) (ps : Nat → PutD) (W : World) (hws : PutsIn W v len ps) : Calls Try.prog 6 #[v] W fun e w' => ∃ pv a n c, e = .returned (.tuple #[pv, .agg #[.int .u64 8192, .slice a n c]]) ∧ Below W.heap.size W w' ∧ ((pv = .pointer none ∧ 0 < len) ∨ ∃ rb F M, pv = .pointer (some ⟨rb, 0, none⟩) ∧ Both F w' rb 8192 (.slice a n c) 12000 M ∧ (∀ k, F k → W.heap.size ≤ k)) := by
  obtain ⟨a, c, rfl⟩ : ∃ a c, v = .slice a len c := by
    rcases hws with ⟨rfl, a, c, rfl⟩ | ⟨b, off, cap, rfl, _⟩
    · exact ⟨_, _, rfl⟩
    · exact ⟨_, _, rfl⟩
  by_cases h : len ≤ 60
  · exact memory_short a len c ps h W hws
  · exact memory_long a len c (by omega) W
end Go.Proofs.Ytmjdnocilbnoaaa

/- The bytes of a descriptor on both sides; RingBytes. -/
namespace Go.Proofs.Ytmjdnocilbnoaaa
open Go.RowKit Go.Maps
set_option linter.unusedVariables false
set_option linter.unusedSimpArgs false
set_option maxRecDepth 100000
theorem own_below {B : Nat} {e : TypeId} {k : Nat} {v : Value} {n : Nat} {xs : List Value} {w w' : World} (h : w.ownsRow B e k v n xs) (hb : Below w.heap.size w w') : w'.ownsRow B e k v n xs :=
  h.kept (row := none) ⟨hb.os, hb.tape, hb.output, hb.size, fun k hk _ => hb.block k hk⟩ (by cases v.ownBlock <;> simp)
theorem below_to {w w1 w2 : World} (h1 : Below w.heap.size w w1) (h2 : Below w1.heap.size w1 w2) : Below w.heap.size w w2 := h1.trans (h2.mono h1.size)
/-- one row behind another -/
def catF (f : Nat → Nat) (n : Nat) (g : Nat → Nat) (i : Nat) : Nat := if i < n then f i else g (i - n)
/-- the bytes of a descriptor -/
def dB (ad ln fl nx : Nat) : Nat → Nat := catF (catF (catF (byteAt ad) 8 (byteAt ln)) 12 (byteAt fl)) 14 (byteAt nx)
theorem own_form {B n : Nat} {v : Value} {w : World} {xs : List Value} (h : w.ownsRow B 5 1 v n xs) : ∃ a c, v = .slice a n c := by
  rcases h.2 with ⟨rfl, rfl, _⟩ | ⟨g, cap, cur, rfl, _⟩
  · exact ⟨_, _, rfl⟩
  · exact ⟨_, _, rfl⟩
end Go.Proofs.Ytmjdnocilbnoaaa

/- The document's Word; Desc on both sides. -/
namespace Go.Proofs.Ytmjdnocilbnoaaa
open Go.RowKit Go.Maps
set_option linter.unusedVariables false
set_option linter.unusedSimpArgs false
set_option maxRecDepth 100000
/-- the word of L bytes at a place, 0 of none -/
def wordN (M : Nat → Nat) (x L s : Nat) : Nat := if inB x L 2147483648 s = true then h256 (fun i => M (x + i)) L 0 else 0
theorem wordN_lt {M : Nat → Nat} (hM : ∀ a, M a ≤ 255) (x L s : Nat) : wordN M x L s < 256 ^ L := by
  unfold wordN
  split
  · exact h256_lt _ L 0 (fun j _ => hM _)
  · exact Nat.pow_pos (by decide)
theorem rword_any (F : Nat → Prop) (w : World) (s x L n : Nat) (va : Option Addr) (vc : Nat) (bs : Nat → Nat × Nat) (M : Nat → Nat) (h : RefIn F w (.slice va n vc) n bs) (hM : ∀ a, rget bs n a = M a) (hle : ∀ a, M a ≤ 255) (hn : n ≤ 1000000) (hs : s ≤ 268435456) (hx : x < 18446744073709551616) (hL : L ≤ 8) :
    Calls Try.prog 31 #[.agg #[.int .u64 (s : Nat), .slice va n vc], .int .u64 (x : Nat), .int .i64 (L : Int)] w fun e w' => e = .returned (.int .u64 (wordN M x L s : Nat)) ∧ Below w.heap.size w w' := by
  have eL : IntKind.u64.wrap (L : Int) = (L : Int) := by rw [wrap_u64]; omega
  have B0 : Hid (RefIn F (w.alloc (.cells #[.int .u64 (s : Nat), .slice va n vc] 32)) (.slice va n vc) n bs ∧ Below w.heap.size w (w.alloc (.cells #[.int .u64 (s : Nat), .slice va n vc] 32))) := ⟨h.below ((Below.refl _ _).alloc (Nat.le_refl _) _), (Below.refl _ _).alloc (Nat.le_refl _) _⟩
  have HM : Hid ((∀ a, rget bs n a = M a) ∧ ∀ a, M a ≤ 255) := ⟨hM, hle⟩
  clear h hM hle
  cases hin : inB x L 2147483648 s with
  | false =>
    have HI : Hid (inB x L 2147483648 s = false) := hin
    clear hin
    go_enter Try.func31, Try.ntmps31
    go_wp2_with fail
    refine (rread_out F _ s x L _ (by omega) hx (by omega) HI.out).mono ?_
    rintro e w1 ⟨rfl, hb1⟩
    have X1 : Hid (Below w.heap.size w w1) := below_to B0.out.2 hb1
    clear hb1 B0
    go_wp2_with fail
    refine (rof_any (fun _ => 0) 0 0 _ (by decide) (by decide) (fun i hi => by omega) _ (.inl ⟨rfl, _, _, rfl⟩)).mono ?_
    rintro e w2 ⟨rfl, hw⟩
    rw [hw]
    clear hw w2
    go_wp2_with fail
    go_ret
    exact ⟨by simp [wordN, HI.out, h256], X1.out⟩
  | true =>
    have HI : Hid (inB x L 2147483648 s = true) := hin
    clear hin
    go_enter Try.func31, Try.ntmps31
    go_wp2_with fail
    refine (rread_in F _ s x L n _ bs B0.out.1 hn hs hx (by omega) HI.out).mono ?_
    rintro e w1 ⟨g, rfl, ho, hb1⟩
    have X1 : Hid (Below w.heap.size w w1 ∧ Reads .u8 w1 (.slice (some ⟨g, 0, none⟩) L L) L (fun i => rget bs n (x + i))) := ⟨below_to B0.out.2 hb1, reads_own ho⟩
    clear hb1 B0 ho
    go_wp2_with fail
    refine (rof_any (fun i => rget bs n (x + i)) L L _ (by omega) (by omega) (fun i hi => by rw [HM.out.1]; exact HM.out.2 _) _ X1.out.2).mono ?_
    rintro e w2 ⟨rfl, hw⟩
    rw [hw]
    clear hw w2
    go_wp2_with fail
    go_ret
    have e1 : (fun i => rget bs n (x + i)) = fun i => M (x + i) := funext fun i => HM.out.1 _
    exact ⟨by simp only [wordN, HI.out, if_true]; rw [← e1]; rfl, X1.out.1⟩
theorem reads_cut {w : World} {g n N c : Nat} {f : Nat → Nat} (h : Reads .u8 w (.slice (some ⟨g, 0, none⟩) N c) N f) (o cc : Nat) (ho : o + n ≤ N) : Reads .u8 w (.slice (some ⟨g, o, none⟩) n cc) n (fun i => f (o + i)) := by
  by_cases hn : n = 0
  · subst hn; exact .inl ⟨rfl, _, _, rfl⟩
  · obtain ⟨b, off, cap, hv, hc⟩ := reads_some h (by omega)
    simp only [Value.slice.injEq, Option.some.injEq, Addr.mk.injEq, and_true, true_and] at hv
    obtain ⟨⟨rfl, rfl⟩, rfl⟩ := hv
    refine .inr ⟨g, o, cc, rfl, fun i hi => ?_⟩
    have := hc (o + i) (by omega)
    rwa [Nat.zero_add] at this
theorem byteAt_h256 (f : Nat → Nat) (hf : ∀ j, f j ≤ 255) : ∀ (m k i : Nat), i < m → byteAt (h256 f m k) i = f (k + i)
  | 0, k, i, h => by omega
  | m + 1, k, 0, _ => by
    have := hf k
    simp only [byteAt, h256, Nat.pow_zero, Nat.div_one, Nat.add_zero]
    omega
  | m + 1, k, i + 1, h => by
    have h1 := byteAt_h256 f hf m (k + 1) i (by omega)
    have := hf k
    rw [show k + (i + 1) = k + 1 + i from by omega, ← h1]
    simp only [byteAt, h256]
    rw [Nat.pow_succ, Nat.mul_comm (256 ^ i) 256, ← Nat.div_div_eq_div_mul]
    rw [show (h256 f m (k + 1) * 256 + f k) / 256 = h256 f m (k + 1) from by omega]
/-- a descriptor that lies at a place -/
structure DescAt (M : Nat → Nat) (x v0 v1 v2 v3 : Nat) : Prop where
  e0 : h256 (fun i => M (x + i)) 8 0 = v0
  e1 : h256 (fun i => M (x + (8 + i))) 4 0 = v1
  e2 : h256 (fun i => M (x + (12 + i))) 2 0 = v2
  e3 : h256 (fun i => M (x + (14 + i))) 2 0 = v3
theorem DescAt.lt {M : Nat → Nat} {x v0 v1 v2 v3 : Nat} (h : DescAt M x v0 v1 v2 v3) (hM : ∀ a, M a ≤ 255) : v0 < 18446744073709551616 ∧ v1 ≤ 4294967295 ∧ v2 ≤ 65535 ∧ v3 ≤ 65535 := by
  have h0 := h256_lt (fun i => M (x + i)) 8 0 (fun j _ => hM _)
  have h1 := h256_lt (fun i => M (x + (8 + i))) 4 0 (fun j _ => hM _)
  have h2 := h256_lt (fun i => M (x + (12 + i))) 2 0 (fun j _ => hM _)
  have h3 := h256_lt (fun i => M (x + (14 + i))) 2 0 (fun j _ => hM _)
  rw [h.e0] at h0
  rw [h.e1] at h1
  rw [h.e2] at h2
  rw [h.e3] at h3
  exact ⟨by omega, by omega, by omega, by omega⟩
theorem DescAt.bytes {M : Nat → Nat} {x v0 v1 v2 v3 : Nat} (h : DescAt M x v0 v1 v2 v3) (hM : ∀ a, M a ≤ 255) : ∀ i, i < 16 → dB v0 v1 v2 v3 i = M (x + i) := by
  intro i hi
  unfold dB catF
  split
  · split
    · split
      · rw [← h.e0, byteAt_h256 _ (fun _ => hM _) 8 0 i (by omega)]; simp
      · rw [← h.e1, byteAt_h256 _ (fun _ => hM _) 4 0 _ (by omega)]; congr 1; omega
    · rw [← h.e2, byteAt_h256 _ (fun _ => hM _) 2 0 _ (by omega)]; congr 1; omega
  · rw [← h.e3, byteAt_h256 _ (fun _ => hM _) 2 0 _ (by omega)]; congr 1; omega
theorem info47 : (Try.prog.info? 151).map (·.size) = some 4 := by kernel_rfl
theorem desc_no (p : Value) (t : Nat) (i : Int) (hi : i < 0 ∨ 255 < i) (w : World) : Calls Try.prog 98 #[p, .int .u64 (t : Nat), .int .i64 i] w fun e w' => e = .returned (.tuple #[.agg #[.int .u64 0, .int .u32 0, .int .u16 0, .int .u16 0], .bool false]) ∧ Below w.heap.size w w' := by
  rcases hi with hi | hi
  · go_enter Try.func98, Try.ntmps98
    go_wp2_with fail
    refine bodyPost_ret (v := .tuple #[.agg #[.int .u64 0, .int .u32 0, .int .u16 0, .int .u16 0], .bool false]) (by simp [results, Try.results98, go_sem]) rfl ⟨rfl, ?_⟩
    exact (Below.refl _ _).alloc (Nat.le_refl _) _
  · have h0 : ¬ i < 0 := by omega
    have h1 : (256 : Int) ≤ i := by omega
    go_enter Try.func98, Try.ntmps98
    go_wp2_with fail
    refine bodyPost_ret (v := .tuple #[.agg #[.int .u64 0, .int .u32 0, .int .u16 0, .int .u16 0], .bool false]) (by simp [results, Try.results98, go_sem]) rfl ⟨rfl, ?_⟩
    exact (Below.refl _ _).alloc (Nat.le_refl _) _
theorem desc_out {w : World} {F : Nat → Prop} {rb n : Nat} {M : Nat → Nat} (h : RamAt w F rb 8192 n (.pointer none) M) (t x k : Nat) (hk : k ≤ 255) (hx : x = (t + 16 * k) % 18446744073709551616) (hin : inB x 16 2147483648 8192 = false) : Calls Try.prog 98 #[.pointer (some ⟨rb, 0, none⟩), .int .u64 (t : Nat), .int .i64 (k : Int)] w fun e w' => e = .returned (.tuple #[.agg #[.int .u64 0, .int .u32 0, .int .u16 0, .int .u16 0], .bool false]) ∧ Below w.heap.size w w' := by
  have h1 : ¬ (256 : Int) ≤ (k : Int) := by omega
  have h2 : ¬ (k : Int) < 0 := by omega
  have h3 : IntKind.u64.wrap (k : Int) = (k : Int) := by rw [wrap_u64]; omega
  have h4 : IntKind.u64.wrap (16 * (k : Int)) = 16 * (k : Int) := by rw [wrap_u64]; omega
  have h5 : IntKind.u64.wrap ((t : Int) + 16 * (k : Int)) = (x : Int) := by rw [wrap_u64]; omega
  have HX : Hid (x < 18446744073709551616 ∧ inB x 16 2147483648 8192 = false) := ⟨by omega, hin⟩
  have HR : Hid (RamAt (w.alloc (.cells #[.int .u64 0, .int .u32 0, .int .u16 0, .int .u16 0] 151)) F rb 8192 n (.pointer none) M) := h.below ((Below.refl _ _).alloc (Nat.le_refl _) _)
  clear hx hin
  go_enter Try.func98, Try.ntmps98
  go_wp2_with fail
  refine (read_out HR.out (by omega) x 16 HX.out.1 (by omega) HX.out.2).mono ?_
  rintro e w1 ⟨rfl, hw⟩
  rw [hw]
  clear hw w1
  go_wp2_with fail
  refine bodyPost_ret (v := .tuple #[.agg #[.int .u64 0, .int .u32 0, .int .u16 0, .int .u16 0], .bool false]) (by simp [results, Try.results98, go_sem]) rfl ⟨rfl, ?_⟩
  exact (Below.refl _ _).alloc (Nat.le_refl _) _
theorem reads_head {w : World} {g N c : Nat} {f : Nat → Nat} (h : Reads .u8 w (.slice (some ⟨g, 0, none⟩) N c) N f) (n cc : Nat) (ho : n ≤ N) : Reads .u8 w (.slice (some ⟨g, 0, none⟩) n cc) n f := by
  have := reads_cut (n := n) h 0 cc (by omega)
  have e : (fun i => f (0 + i)) = f := funext fun i => by rw [Nat.zero_add]
  rwa [e] at this
set_option maxHeartbeats 1000000 in
theorem desc_in {w : World} {F : Nat → Prop} {rb n : Nat} {M : Nat → Nat} (h : RamAt w F rb 8192 n (.pointer none) M) (t x k : Nat) (hk : k ≤ 255) (hx : x = (t + 16 * k) % 18446744073709551616) (hin : inB x 16 2147483648 8192 = true) (v0 v1 v2 v3 : Nat) (hd : DescAt M x v0 v1 v2 v3) : Calls Try.prog 98 #[.pointer (some ⟨rb, 0, none⟩), .int .u64 (t : Nat), .int .i64 (k : Int)] w fun e w' => e = .returned (.tuple #[.agg #[.int .u64 (v0 : Int), .int .u32 (v1 : Int), .int .u16 (v2 : Int), .int .u16 (v3 : Int)], .bool true]) ∧ Below w.heap.size w w' := by
  have h1 : ¬ (256 : Int) ≤ (k : Int) := by omega
  have h2 : ¬ (k : Int) < 0 := by omega
  have h3 : IntKind.u64.wrap (k : Int) = (k : Int) := by rw [wrap_u64]; omega
  have h4 : IntKind.u64.wrap (16 * (k : Int)) = 16 * (k : Int) := by rw [wrap_u64]; omega
  have h5 : IntKind.u64.wrap ((t : Int) + 16 * (k : Int)) = (x : Int) := by rw [wrap_u64]; omega
  have HX : Hid (x < 18446744073709551616 ∧ inB x 16 2147483648 8192 = true) := ⟨by omega, hin⟩
  have HR : Hid (RamAt (w.alloc (.cells #[.int .u64 0, .int .u32 0, .int .u16 0, .int .u16 0] 151)) F rb 8192 n (.pointer none) M ∧ (w.alloc (.cells #[.int .u64 0, .int .u32 0, .int .u16 0, .int .u16 0] 151)).heap[w.heap.size]? = some (.cells #[.int .u64 0, .int .u32 0, .int .u16 0, .int .u16 0] 151 (0, 0)) ∧ Below w.heap.size w (w.alloc (.cells #[.int .u64 0, .int .u32 0, .int .u16 0, .int .u16 0] 151))) := ⟨h.below ((Below.refl _ _).alloc (Nat.le_refl _) _), heap_alloc_new _ _, (Below.refl _ _).alloc (Nat.le_refl _) _⟩
  have HM : Hid (∀ a, M a ≤ 255) := h.le
  have HD : Hid (DescAt M x v0 v1 v2 v3) := hd
  have hlt := hd.lt h.le
  have u1 : IntKind.u32.wrap (v1 : Int) = (v1 : Int) := by simp [IntKind.wrap, IntKind.signed, IntKind.bits]; omega
  have u2 : IntKind.u16.wrap (v2 : Int) = (v2 : Int) := by rw [wrap16]; omega
  have u3 : IntKind.u16.wrap (v3 : Int) = (v3 : Int) := by rw [wrap16]; omega
  clear hx hin hlt hd h
  go_enter Try.func98, Try.ntmps98
  go_upto_region 3 with fail
  generalize (w.alloc (.cells #[.int .u64 0, .int .u32 0, .int .u16 0, .int .u16 0] 151)) = w0 at *
  go_wp2_with fail
  refine (read_in HR.out.1 (by omega) x 16 HX.out.1 (by omega) HX.out.2).mono ?_
  rintro e w1 ⟨rfl, ho, hb1⟩
  have X1 : Hid (w1.heap[w.heap.size]? = some (.cells #[.int .u64 0, .int .u32 0, .int .u16 0, .int .u16 0] 151 (0, 0)) ∧ Below w.heap.size w w1 ∧ Reads .u8 w1 (.slice (some ⟨w0.heap.size, 0, none⟩) 16 16) 16 (fun i => M (x + i))) := ⟨below_box HR.out.2.1 hb1, below_to HR.out.2.2 hb1, reads_own ho⟩
  clear ho hb1 HR
  generalize w0.heap.size = g at *
  go_upto_region 6 with fail
  have X2 : Hid (w1.drew.heap[w.heap.size]? = some (.cells #[.int .u64 0, .int .u32 0, .int .u16 0, .int .u16 0] 151 (0, 0)) ∧ Below w.heap.size w w1.drew ∧ Reads .u8 w1.drew (.slice (some ⟨g, 0, none⟩) 16 16) 16 (fun i => M (x + i))) := ⟨X1.out.1, X1.out.2.1.drew, reads_below X1.out.2.2 (Below.drew (Below.refl _ _))⟩
  clear X1
  refine wp_region_held_drew (S := fun _ => True) (by kernel_rfl) trivial ?_
  intro hS
  generalize w1.drew = w2 at *
  have X1 := X2
  clear X2
  refine wpAnyH_take (i := 0) (v := ?_) rfl (by kernel_rfl) (by kernel_rfl) (by kernel_rfl) (fun _ _ _ h => h) (Or.inl ⟨by kernel_rfl, ?_⟩) hS ?_
  rotate_left
  · intro w hSw; (try dsimp only at hSw); go_simp; try (with_reducible rfl)
  (try simp only [Act.put, List.getElem_toArray, List.getElem_cons_succ, List.getElem_cons_zero, List.setIfInBounds_toArray, List.set_cons_zero, List.set_cons_succ])
  refine wpAnyH_take (i := 1) (v := ?_) rfl (by kernel_rfl) (by kernel_rfl) (by kernel_rfl) (fun _ _ _ h => h) (Or.inl ⟨by kernel_rfl, ?_⟩) hS ?_
  rotate_left
  · intro w hSw; (try dsimp only at hSw); go_simp; try (with_reducible rfl)
  (try simp only [Act.put, List.getElem_toArray, List.getElem_cons_succ, List.getElem_cons_zero, List.setIfInBounds_toArray, List.set_cons_zero, List.set_cons_succ])
  refine wpAnyH_take (i := 3) (v := ?_) rfl (by kernel_rfl) (by kernel_rfl) (by kernel_rfl) (fun _ _ _ h => h) (Or.inl ⟨by kernel_rfl, ?_⟩) hS ?_
  rotate_left
  · intro w hSw; (try dsimp only at hSw); go_simp; try (with_reducible rfl)
  (try simp only [Act.put, List.getElem_toArray, List.getElem_cons_succ, List.getElem_cons_zero, List.setIfInBounds_toArray, List.set_cons_zero, List.set_cons_succ])
  refine wpAnyH_take (i := 4) (v := ?_) rfl (by kernel_rfl) (by kernel_rfl) (by kernel_rfl) (fun _ _ _ h => h) (Or.inl ⟨by kernel_rfl, ?_⟩) hS ?_
  rotate_left
  · intro w hSw; (try dsimp only at hSw); go_simp; try (with_reducible rfl)
  (try simp only [Act.put, List.getElem_toArray, List.getElem_cons_succ, List.getElem_cons_zero, List.setIfInBounds_toArray, List.set_cons_zero, List.set_cons_succ])
  refine wpAnyH_take (i := 7) (v := ?_) rfl (by kernel_rfl) (by kernel_rfl) (by kernel_rfl) (fun _ _ _ h => h) (Or.inl ⟨by kernel_rfl, ?_⟩) hS ?_
  rotate_left
  · intro w hSw; (try dsimp only at hSw); go_simp; try (with_reducible rfl)
  (try simp only [Act.put, List.getElem_toArray, List.getElem_cons_succ, List.getElem_cons_zero, List.setIfInBounds_toArray, List.set_cons_zero, List.set_cons_succ])
  refine wpAnyH_take (i := 8) (v := ?_) rfl (by kernel_rfl) (by kernel_rfl) (by kernel_rfl) (fun _ _ _ h => h) (Or.inl ⟨by kernel_rfl, ?_⟩) hS ?_
  rotate_left
  · intro w hSw; (try dsimp only at hSw); go_simp; try (with_reducible rfl)
  (try simp only [Act.put, List.getElem_toArray, List.getElem_cons_succ, List.getElem_cons_zero, List.setIfInBounds_toArray, List.set_cons_zero, List.set_cons_succ])
  refine wpAnyH_take (i := 11) (v := ?_) rfl (by kernel_rfl) (by kernel_rfl) (by kernel_rfl) (fun _ _ _ h => h) (Or.inl ⟨by kernel_rfl, ?_⟩) hS ?_
  rotate_left
  · intro w hSw; (try dsimp only at hSw); go_simp; try (with_reducible rfl)
  (try simp only [Act.put, List.getElem_toArray, List.getElem_cons_succ, List.getElem_cons_zero, List.setIfInBounds_toArray, List.set_cons_zero, List.set_cons_succ])
  refine wpAnyH_take (i := 12) (v := ?_) rfl (by kernel_rfl) (by kernel_rfl) (by kernel_rfl) (fun _ _ _ h => h) (Or.inl ⟨by kernel_rfl, ?_⟩) hS ?_
  rotate_left
  · intro w hSw; (try dsimp only at hSw); go_simp; try (with_reducible rfl)
  (try simp only [Act.put, List.getElem_toArray, List.getElem_cons_succ, List.getElem_cons_zero, List.setIfInBounds_toArray, List.set_cons_zero, List.set_cons_succ])
  refine wpAnyH_ready (rs := [2]) (by kernel_rfl) (by simp) ?_
  refine AllReadyH.cons rfl (fun K1 hK1 => ?_) AllReadyH.nil
  go_simp
  refine (of_any (fun i => M (x + i)) 8 8 _ (by decide) (by decide) (fun i _ => HM.out _) _ (reads_head X1.out.2.2 8 _ (by decide))).mono ?_
  rintro e w10 ⟨rfl, hw⟩
  rw [hw, HD.out.e0]
  clear hw w10
  refine hK1.out _ _ trivial (fun hS10 => ?_)
  clear hK1 K1 hS
  (try simp only [Act.put, List.getElem_toArray, List.getElem_cons_succ, List.getElem_cons_zero, List.setIfInBounds_toArray, List.set_cons_zero, List.set_cons_succ])
  refine wpAnyH_ready (rs := [5]) (by kernel_rfl) (by simp) ?_
  refine AllReadyH.cons rfl (fun K1 hK1 => ?_) AllReadyH.nil
  go_simp
  refine (of_any (fun i => M (x + (8 + i))) 4 4 _ (by decide) (by decide) (fun i _ => HM.out _) _ (reads_cut (n := 4) X1.out.2.2 8 _ (by decide))).mono ?_
  rintro e w11 ⟨rfl, hw⟩
  rw [hw, HD.out.e1]
  clear hw w11
  refine hK1.out _ _ trivial (fun hS11 => ?_)
  clear hK1 K1 hS10
  (try simp only [Act.put, List.getElem_toArray, List.getElem_cons_succ, List.getElem_cons_zero, List.setIfInBounds_toArray, List.set_cons_zero, List.set_cons_succ])
  refine wpAnyH_take (i := 6) (v := ?_) rfl (by kernel_rfl) (by kernel_rfl) (by kernel_rfl) (fun _ _ _ h => h) (Or.inl ⟨by kernel_rfl, ?_⟩) hS11 ?_
  rotate_left
  · intro w hSw; (try dsimp only at hSw); go_simp; try (with_reducible rfl)
  (try simp only [Act.put, List.getElem_toArray, List.getElem_cons_succ, List.getElem_cons_zero, List.setIfInBounds_toArray, List.set_cons_zero, List.set_cons_succ])
  refine wpAnyH_ready (rs := [9]) (by kernel_rfl) (by simp) ?_
  refine AllReadyH.cons rfl (fun K1 hK1 => ?_) AllReadyH.nil
  go_simp
  refine (of_any (fun i => M (x + (12 + i))) 2 2 _ (by decide) (by decide) (fun i _ => HM.out _) _ (reads_cut (n := 2) X1.out.2.2 12 _ (by decide))).mono ?_
  rintro e w12 ⟨rfl, hw⟩
  rw [hw, HD.out.e2]
  clear hw w12
  refine hK1.out _ _ trivial (fun hS12 => ?_)
  clear hK1 K1 hS11
  (try simp only [Act.put, List.getElem_toArray, List.getElem_cons_succ, List.getElem_cons_zero, List.setIfInBounds_toArray, List.set_cons_zero, List.set_cons_succ])
  refine wpAnyH_take (i := 10) (v := ?_) rfl (by kernel_rfl) (by kernel_rfl) (by kernel_rfl) (fun _ _ _ h => h) (Or.inl ⟨by kernel_rfl, ?_⟩) hS12 ?_
  rotate_left
  · intro w hSw; (try dsimp only at hSw); go_simp; try (with_reducible rfl)
  (try simp only [Act.put, List.getElem_toArray, List.getElem_cons_succ, List.getElem_cons_zero, List.setIfInBounds_toArray, List.set_cons_zero, List.set_cons_succ])
  refine wpAnyH_ready (rs := [13]) (by kernel_rfl) (by simp) ?_
  refine AllReadyH.cons rfl (fun K1 hK1 => ?_) AllReadyH.nil
  go_simp
  refine (of_any (fun i => M (x + (14 + i))) 2 2 _ (by decide) (by decide) (fun i _ => HM.out _) _ (reads_cut (n := 2) X1.out.2.2 14 _ (by decide))).mono ?_
  rintro e w13 ⟨rfl, hw⟩
  rw [hw, HD.out.e3]
  clear hw w13
  refine hK1.out _ _ trivial (fun hS13 => ?_)
  clear hK1 K1 hS12
  (try simp only [Act.put, List.getElem_toArray, List.getElem_cons_succ, List.getElem_cons_zero, List.setIfInBounds_toArray, List.set_cons_zero, List.set_cons_succ])
  refine wpAnyH_take (i := 14) (v := ?_) rfl (by kernel_rfl) (by kernel_rfl) (by kernel_rfl) (fun _ _ _ h => h) (Or.inl ⟨by kernel_rfl, ?_⟩) hS13 ?_
  rotate_left
  · intro w hSw; (try dsimp only at hSw); go_simp; try (with_reducible rfl)
  (try simp only [Act.put, List.getElem_toArray, List.getElem_cons_succ, List.getElem_cons_zero, List.setIfInBounds_toArray, List.set_cons_zero, List.set_cons_succ])
  refine wpAnyH_take (i := 15) (v := ?_) rfl (by kernel_rfl) (by kernel_rfl) (by kernel_rfl) (fun _ _ _ h => h) (Or.inl ⟨by kernel_rfl, ?_⟩) hS13 ?_
  rotate_left
  · intro w hSw; (try dsimp only at hSw); go_simp; try (with_reducible rfl)
  (try simp only [Act.put, List.getElem_toArray, List.getElem_cons_succ, List.getElem_cons_zero, List.setIfInBounds_toArray, List.set_cons_zero, List.set_cons_succ])
  refine wpAnyH_ready (rs := [16]) (by kernel_rfl) (by simp) ?_
  refine AllReadyH.cons rfl (fun K1 hK1 => ?_) AllReadyH.nil
  rw [if_pos (by kernel_rfl)]
  refine wp_store_row 151 _ _ rfl w.heap.size #[.int .u64 (v0 : Int), .int .u32 (v1 : Int), .int .u16 (v2 : Int), .int .u16 (v3 : Int)] rfl rfl 151 #[.int .u64 0, .int .u32 0, .int .u16 0, .int .u16 0] X1.out.1 info47 rfl (by simp [Value.oneCell']) ?_
  have Y : Hid ((w2.setRow w.heap.size #[.int .u64 (v0 : Int), .int .u32 (v1 : Int), .int .u16 (v2 : Int), .int .u16 (v3 : Int)]).heap[w.heap.size]? = some (.cells #[.int .u64 (v0 : Int), .int .u32 (v1 : Int), .int .u16 (v2 : Int), .int .u16 (v3 : Int)] 151 (0, 0)) ∧ Below w.heap.size w (w2.setRow w.heap.size #[.int .u64 (v0 : Int), .int .u32 (v1 : Int), .int .u16 (v2 : Int), .int .u16 (v3 : Int)])) := ⟨setRow_heap _ _ _ _ _ _ X1.out.1, below_setRow X1.out.2.1 (Nat.le_refl _) _⟩
  generalize w2.setRow w.heap.size #[.int .u64 (v0 : Int), .int .u32 (v1 : Int), .int .u16 (v2 : Int), .int .u16 (v3 : Int)] = w9 at *
  refine hK1.out _ _ trivial (fun hS20 => ?_)
  clear hK1 K1 hS13
  (try simp only [Act.put, List.getElem_toArray, List.getElem_cons_succ, List.getElem_cons_zero, List.setIfInBounds_toArray, List.set_cons_zero, List.set_cons_succ])
  refine wpAnyH_take (i := 17) (v := ?_) rfl (by kernel_rfl) (by kernel_rfl) (by kernel_rfl) (fun _ _ _ h => h) (Or.inl ⟨by kernel_rfl, ?_⟩) hS20 ?_
  rotate_left
  · intro w hSw; (try dsimp only at hSw); go_simp; try (with_reducible rfl)
  (try simp only [Act.put, List.getElem_toArray, List.getElem_cons_succ, List.getElem_cons_zero, List.setIfInBounds_toArray, List.set_cons_zero, List.set_cons_succ])
  refine wpAnyH_done (by kernel_rfl) ?_ _
  clear hS20
  obtain ⟨c0, c1, c2, c3⟩ := box4_facts Y.out.1
  go_wp2_with fail
  refine bodyPost_ret (v := .tuple #[.agg #[.int .u64 (v0 : Int), .int .u32 (v1 : Int), .int .u16 (v2 : Int), .int .u16 (v3 : Int)], .bool true]) (by simp [results, Try.results98, go_sem, c0, c1, c2, c3]) rfl ⟨rfl, Y.out.2⟩
end Go.Proofs.Ytmjdnocilbnoaaa

/- RingChecks. -/
namespace Go.Proofs.Ytmjdnocilbnoaaa
open Go.RowKit Go.Maps
set_option linter.unusedVariables false
set_option linter.unusedSimpArgs false
set_option maxRecDepth 100000
theorem below_call {w w1 w2 : World} (h1 : Below w.heap.size w w1) (h2 : Below w1.heap.size w1 w2) : Below w.heap.size w w2 := h1.trans (h2.mono h1.size)
theorem cells_alloc {w : World} {b : Nat} {o o2 : Obj} (h : w.heap[b]? = some o) : (w.alloc o2).heap[b]? = some o := below_box h ((Below.refl _ _).alloc (Nat.le_refl _) _)
/-- the state behind the memory is made: the layout's box, the document's memory's box -/
def St (W V : World) (s : Int) (D A U : Nat) (p : Value) (b : Nat) (rb : Nat) (a : Option Addr) (nn c : Nat) (F : Nat → Prop) (M : Nat → Nat) : Prop :=
  V.heap[W.heap.size]? = some (.cells #[.int .i64 s, .int .u64 (D : Int), .int .u64 (A : Int), .int .u64 (U : Int)] 25 (0, 0)) ∧ V.heap[b]? = some (.cells #[.int .u64 8192, .slice a nn c] 32 (0, 0)) ∧ Both F V rb 8192 (.slice a nn c) 12000 M ∧ (∀ k, F k → W.heap.size < k) ∧ ¬ F b ∧ W.heap.size < b ∧ Below W.heap.size W V
theorem St.step {W V V' : World} {s : Int} {D A U : Nat} {p : Value} {b rb : Nat} {a : Option Addr} {nn c : Nat} {F : Nat → Prop} {M : Nat → Nat} (h : St W V s D A U p b rb a nn c F M) (hb : Below V.heap.size V V') : St W V' s D A U p b rb a nn c F M :=
  ⟨below_box h.1 hb, below_box h.2.1 hb, h.2.2.1.below hb, h.2.2.2.1, h.2.2.2.2.1, h.2.2.2.2.2.1, below_call h.2.2.2.2.2.2 hb⟩
theorem St.made {W w1 w2 : World} {s : Int} {D A U : Nat} {p : Value} {rb : Nat} {a : Option Addr} {nn c : Nat} {F : Nat → Prop} {M : Nat → Nat} (h1 : Below (W.alloc (.cells #[.int .i64 s, .int .u64 (D : Int), .int .u64 (A : Int), .int .u64 (U : Int)] 25)).heap.size (W.alloc (.cells #[.int .i64 s, .int .u64 (D : Int), .int .u64 (A : Int), .int .u64 (U : Int)] 25)) w1) (h2 : Below w1.heap.size w1 w2) (hb : Both F w2 rb 8192 (.slice a nn c) 12000 M) (hF : ∀ k, F k → w1.heap.size ≤ k) : St W (w2.alloc (.cells #[.int .u64 8192, .slice a nn c] 32)) s D A U p w2.heap.size rb a nn c F M := by
  have e1 := heap_alloc_new W (.cells #[.int .i64 s, .int .u64 (D : Int), .int .u64 (A : Int), .int .u64 (U : Int)] 25)
  have hsz : (W.alloc (.cells #[.int .i64 s, .int .u64 (D : Int), .int .u64 (A : Int), .int .u64 (U : Int)] 25)).heap.size = W.heap.size + 1 := by simp
  have h12 := below_call h1 h2
  have hs1 := h1.size
  have hs2 := h2.size
  have hlt := hb.1.lt
  exact ⟨cells_alloc (below_box e1 h12), heap_alloc_new _ _, hb.below ((Below.refl _ _).alloc (Nat.le_refl _) _), fun k hk => by have := hF k hk; omega, fun hf => by have := hlt _ hf; omega, by omega, below_call (below_call ((Below.refl _ _).alloc (Nat.le_refl _) _) h12) ((Below.refl _ _).alloc (Nat.le_refl _) _)⟩
end Go.Proofs.Ytmjdnocilbnoaaa

/- What the driver offers, on both sides. -/
namespace Go.Proofs.Ytmjdnocilbnoaaa
open Go.RowKit Go.Maps
set_option linter.unusedVariables false
set_option linter.unusedSimpArgs false
set_option maxRecDepth 100000
/-- a layout that Check lets be, in a memory of 8192 bytes -/
structure Gd (n D A U : Nat) : Prop where
  chk : chkN (n : Int) D A U 8192 = 0
  n1 : 1 ≤ n
  n2 : n ≤ 256
  pw : powB (n : Int) = true
  a1 : 2147483648 ≤ A
  a2 : A + 6 + 2 * n ≤ 2147491840
  u1 : 2147483648 ≤ U
  u2 : U + 6 + 8 * n ≤ 2147491840
  d1 : D < 18446744073709551616
theorem gd_of {s : Int} {D A U : Nat} (h : chkN s D A U 8192 = 0) (hD : D < 18446744073709551616) : ∃ n : Nat, s = n ∧ Gd n D A U := by
  obtain ⟨n, rfl, h1, h2, h3, _, _, _, _, h4, h5⟩ := chk_zero h
  exact ⟨n, rfl, ⟨h, h1, h2, h3, h4.1, by omega, h5.1, by omega, hD⟩⟩
theorem pow_two {n : Nat} (h : powB (n : Int) = true) : ∃ k, k < 9 ∧ n = 2 ^ k := by
  have key : (List.range 257).all (fun n => !powB (n : Int) || (List.range 9).any (fun k => n == 2 ^ k)) = true := by decide +kernel
  obtain ⟨m, hm, _, h2⟩ := pow_in h
  have hm' : n = m := by omega
  subst hm'
  have h1 := List.all_eq_true.1 key n (List.mem_range.2 (by omega))
  rw [h] at h1
  simp only [Bool.not_true, Bool.false_or] at h1
  obtain ⟨k, hk, he⟩ := List.any_eq_true.1 h1
  exact ⟨k, List.mem_range.1 hk, by simpa using he⟩
theorem and_pow {n m : Nat} (h : powB (n : Int) = true) : m &&& (n - 1) = m % n := by
  obtain ⟨k, _, rfl⟩ := pow_two h
  exact Nat.and_two_pow_sub_one_eq_mod m k
theorem wrapRl (y : Nat) (h : y < 9223372036854775808) : IntKind.i64.wrap (y : Int) = (y : Int) := by
  simp [IntKind.wrap, IntKind.signed, IntKind.bits]
  omega
theorem one_box (w : World) (o : Obj) : Below w.heap.size w (w.alloc o) := (Below.refl _ _).alloc (Nat.le_refl _) _
theorem slot_any {n D A U : Nat} (h : Gd n D A U) (m r : Nat) (hm : m ≤ 65535) (hr : r = m % n) (w : World) : Calls Try.prog 81 #[.agg #[.int .i64 (n : Int), .int .u64 (D : Int), .int .u64 (A : Int), .int .u64 (U : Int)], .int .u16 (m : Int)] w fun e w' => e = .returned (.int .u64 (r : Int)) ∧ Below w.heap.size w w' := by
  have h1 := h.n1
  have h2 := h.n2
  obtain ⟨p, hp⟩ : ∃ p, p = n - 1 := ⟨_, rfl⟩
  have e1 : IntKind.u64.wrap (m : Int) = (m : Int) := by rw [wrap_u64]; omega
  have e2 : wrap64 (p : Int) = (p : Int) := by unfold wrap64; omega
  have e2' : (n : Int) - 1 = (p : Int) := by omega
  have e3 : IntKind.u64.wrap (p : Int) = (p : Int) := by rw [wrap_u64]; omega
  have e4 : bits .and .u64 (m : Int) (p : Int) = (r : Int) := by rw [u64_and_nat m p (by omega) (by omega), hp, and_pow h.pw, hr]
  clear h hp hr h1 h2
  go_enter Try.func81, Try.ntmps81
  go_wp2_with fail
  go_ret
  exact ⟨rfl, one_box _ _⟩
theorem rd_lt {M : Nat → Nat} (hM : ∀ a, M a ≤ 255) (x : Nat) : wordN M x 2 8192 ≤ 65535 := by
  have := wordN_lt hM x 2 8192
  omega
theorem half_any {w : World} {F : Nat → Prop} {rb k : Nat} {M : Nat → Nat} (h : RamAt w F rb 8192 k (.pointer none) M) {n D A U : Nat} (hg : Gd n D A U) (x : Nat) (hx : x < 18446744073709551616) : Calls Try.prog 74 #[.pointer (some ⟨rb, 0, none⟩), .agg #[.int .i64 (n : Int), .int .u64 (D : Int), .int .u64 (A : Int), .int .u64 (U : Int)], .int .u64 (x : Int)] w fun e w' => e = .returned (.int .u16 (wordN M x 2 8192 : Nat)) ∧ Below w.heap.size w w' := by
  have HR : Hid (RamAt (w.alloc (.cells #[.int .i64 (n : Int), .int .u64 (D : Int), .int .u64 (A : Int), .int .u64 (U : Int)] 25)) F rb 8192 k (.pointer none) M ∧ Below w.heap.size w (w.alloc (.cells #[.int .i64 (n : Int), .int .u64 (D : Int), .int .u64 (A : Int), .int .u64 (U : Int)] 25))) := ⟨h.below (one_box _ _), one_box _ _⟩
  have hlt := rd_lt h.le x
  have HM : Hid (∀ a, M a ≤ 255) := h.le
  have HG : Hid (Gd n D A U ∧ A < 18446744073709551616 ∧ U < 18446744073709551616 ∧ x < 18446744073709551616) := ⟨hg, by have := hg.a2; omega, by have := hg.u2; omega, hx⟩
  obtain ⟨y, hy⟩ : ∃ y, wordN M x 2 8192 = y := ⟨_, rfl⟩
  rw [hy] at hlt ⊢
  have ey : IntKind.u16.wrap (y : Int) = (y : Int) := by rw [wrap16]; omega
  have HY : Hid (wordN M x 2 8192 = y) := hy
  clear h hg hx hlt hy
  cases hin : inB x 2 2147483648 8192 with
  | false =>
    have HI : Hid (inB x 2 2147483648 8192 = false) := hin
    clear hin
    obtain rfl : y = 0 := by rw [← HY.out, wordN, if_neg (by rw [show inB (x : Int) ((2 : Nat) : Int) 2147483648 ((8192 : Nat) : Int) = false from HI.out]; decide)]
    go_enter Try.func74, Try.ntmps74
    go_wp2_with fail
    refine (check_any HG.out.1.d1 HG.out.2.1 HG.out.2.2.1 HR.out.1 (by omega)).mono ?_
    rintro e w1 ⟨rfl, hb1⟩
    rw [HG.out.1.chk]
    have X1 : Hid (RamAt w1 F rb 8192 k (.pointer none) M ∧ Below w.heap.size w w1) := ⟨HR.out.1.below hb1, below_to HR.out.2 hb1⟩
    clear hb1 HR
    go_wp2_with fail
    refine (read_out X1.out.1 (by omega) x 2 HG.out.2.2.2 (by omega) HI.out).mono ?_
    rintro e w2 ⟨rfl, hw⟩
    rw [hw]
    clear hw w2
    go_wp2_with fail
    refine (of_any (fun _ => 0) 0 0 _ (by decide) (by decide) (fun i hi => by omega) _ (.inl ⟨rfl, _, _, rfl⟩)).mono ?_
    rintro e w2 ⟨rfl, hw⟩
    rw [hw]
    clear hw w2
    have e00 : ((h256 (fun _ => 0) 0 0 : Nat) : Int) = 0 := rfl
    rw [e00]
    go_wp2_with fail
    go_ret
    exact ⟨rfl, X1.out.2⟩
  | true =>
    have HI : Hid (inB x 2 2147483648 8192 = true) := hin
    clear hin
    have HV : Hid (h256 (fun i => M (x + i)) 2 0 = y) := by
      show _ = _
      rw [← HY.out, wordN, if_pos (show inB (x : Int) ((2 : Nat) : Int) 2147483648 ((8192 : Nat) : Int) = true from HI.out)]
    go_enter Try.func74, Try.ntmps74
    go_wp2_with fail
    refine (check_any HG.out.1.d1 HG.out.2.1 HG.out.2.2.1 HR.out.1 (by omega)).mono ?_
    rintro e w1 ⟨rfl, hb1⟩
    rw [HG.out.1.chk]
    have X1 : Hid (RamAt w1 F rb 8192 k (.pointer none) M ∧ Below w.heap.size w w1) := ⟨HR.out.1.below hb1, below_to HR.out.2 hb1⟩
    clear hb1 HR
    go_wp2_with fail
    refine (read_in X1.out.1 (by omega) x 2 HG.out.2.2.2 (by omega) HI.out).mono ?_
    rintro e w2 ⟨rfl, ho, hb2⟩
    have X2 : Hid (Below w.heap.size w w2 ∧ Reads .u8 w2 (.slice (some ⟨w1.heap.size, 0, none⟩) 2 2) 2 (fun i => M (x + i))) := ⟨below_to X1.out.2 hb2, reads_own ho⟩
    clear ho hb2 X1
    go_wp2_with fail
    refine (of_any (fun i => M (x + i)) 2 2 _ (by decide) (by decide) (fun i _ => HM.out _) _ X2.out.2).mono ?_
    rintro e w3 ⟨rfl, hw⟩
    rw [hw, HV.out]
    clear hw w3
    go_wp2_with fail
    go_ret
    exact ⟨rfl, X2.out.1⟩
theorem flags_any {w : World} {F : Nat → Prop} {rb k : Nat} {M : Nat → Nat} (h : RamAt w F rb 8192 k (.pointer none) M) {n D A U : Nat} (hg : Gd n D A U) : Calls Try.prog 55 #[.pointer (some ⟨rb, 0, none⟩), .agg #[.int .i64 (n : Int), .int .u64 (D : Int), .int .u64 (A : Int), .int .u64 (U : Int)]] w fun e w' => e = .returned (.int .u16 (wordN M (A) 2 8192 : Nat)) ∧ Below w.heap.size w w' := by
  have B0 : Hid ((w.alloc (.cells #[.int .i64 (n : Int), .int .u64 (D : Int), .int .u64 (A : Int), .int .u64 (U : Int)] 25)).heap[w.heap.size]? = some (.cells #[.int .i64 (n : Int), .int .u64 (D : Int), .int .u64 (A : Int), .int .u64 (U : Int)] 25 (0, 0)) ∧ RamAt (w.alloc (.cells #[.int .i64 (n : Int), .int .u64 (D : Int), .int .u64 (A : Int), .int .u64 (U : Int)] 25)) F rb 8192 k (.pointer none) M ∧ Below w.heap.size w (w.alloc (.cells #[.int .i64 (n : Int), .int .u64 (D : Int), .int .u64 (A : Int), .int .u64 (U : Int)] 25))) := ⟨heap_alloc_new _ _, h.below (one_box _ _), one_box _ _⟩
  have g1 := hg.a1
  have g2 := hg.a2
  have g3 := hg.n2
  have g4 := hg.n1
  have HX : Hid (A = A ∧ A < 18446744073709551616) := ⟨by omega, by omega⟩
  have HG : Hid (Gd n D A U) := hg
  clear g1 g2 g3 g4 hg h  
  rw [HX.out.1]
  go_enter Try.func55, Try.ntmps55
  go_upto_region 1 with fail
  generalize (w.alloc (.cells #[.int .i64 (n : Int), .int .u64 (D : Int), .int .u64 (A : Int), .int .u64 (U : Int)] 25)) = w0 at *
  obtain ⟨c0, c1, c2, c3⟩ := box4_facts B0.out.1
  go_wp2_with fail
  refine (half_any B0.out.2.1 HG.out A HX.out.2).mono ?_
  rintro e w1 ⟨rfl, hb1⟩
  have X1 : Hid (Below w.heap.size w w1) := below_to B0.out.2.2 hb1
  clear hb1
  go_wp2_with fail
  go_ret
  exact ⟨rfl, X1.out⟩
theorem offered_any {w : World} {F : Nat → Prop} {rb k : Nat} {M : Nat → Nat} (h : RamAt w F rb 8192 k (.pointer none) M) {n D A U : Nat} (hg : Gd n D A U) : Calls Try.prog 67 #[.pointer (some ⟨rb, 0, none⟩), .agg #[.int .i64 (n : Int), .int .u64 (D : Int), .int .u64 (A : Int), .int .u64 (U : Int)]] w fun e w' => e = .returned (.int .u16 (wordN M (A + 2) 2 8192 : Nat)) ∧ Below w.heap.size w w' := by
  have B0 : Hid ((w.alloc (.cells #[.int .i64 (n : Int), .int .u64 (D : Int), .int .u64 (A : Int), .int .u64 (U : Int)] 25)).heap[w.heap.size]? = some (.cells #[.int .i64 (n : Int), .int .u64 (D : Int), .int .u64 (A : Int), .int .u64 (U : Int)] 25 (0, 0)) ∧ RamAt (w.alloc (.cells #[.int .i64 (n : Int), .int .u64 (D : Int), .int .u64 (A : Int), .int .u64 (U : Int)] 25)) F rb 8192 k (.pointer none) M ∧ Below w.heap.size w (w.alloc (.cells #[.int .i64 (n : Int), .int .u64 (D : Int), .int .u64 (A : Int), .int .u64 (U : Int)] 25))) := ⟨heap_alloc_new _ _, h.below (one_box _ _), one_box _ _⟩
  have g1 := hg.a1
  have g2 := hg.a2
  have g3 := hg.n2
  have g4 := hg.n1
  obtain ⟨A2, qA2⟩ : ∃ y : Nat, y = A + 2 := ⟨_, rfl⟩
  have wA2 : IntKind.u64.wrap ((A : Int) + 2) = (A2 : Int) := by rw [wrap_u64]; omega
  have HX : Hid (A + 2 = A2 ∧ A2 < 18446744073709551616) := ⟨by omega, by omega⟩
  have HG : Hid (Gd n D A U) := hg
  clear g1 g2 g3 g4 hg h  qA2
  rw [HX.out.1]
  go_enter Try.func67, Try.ntmps67
  go_upto_region 1 with fail
  generalize (w.alloc (.cells #[.int .i64 (n : Int), .int .u64 (D : Int), .int .u64 (A : Int), .int .u64 (U : Int)] 25)) = w0 at *
  obtain ⟨c0, c1, c2, c3⟩ := box4_facts B0.out.1
  go_wp2_with fail
  refine (half_any B0.out.2.1 HG.out A2 HX.out.2).mono ?_
  rintro e w1 ⟨rfl, hb1⟩
  have X1 : Hid (Below w.heap.size w w1) := below_to B0.out.2.2 hb1
  clear hb1
  go_wp2_with fail
  go_ret
  exact ⟨rfl, X1.out⟩
theorem head_any {w : World} {F : Nat → Prop} {rb k : Nat} {M : Nat → Nat} (h : RamAt w F rb 8192 k (.pointer none) M) {n D A U : Nat} (hg : Gd n D A U) (m r : Nat) (hm : m ≤ 65535) (hr : r = m % n) : Calls Try.prog 68 #[.pointer (some ⟨rb, 0, none⟩), .agg #[.int .i64 (n : Int), .int .u64 (D : Int), .int .u64 (A : Int), .int .u64 (U : Int)], .int .u16 (m : Int)] w fun e w' => e = .returned (.int .u16 (wordN M (A + 4 + 2 * r) 2 8192 : Nat)) ∧ Below w.heap.size w w' := by
  have B0 : Hid ((w.alloc (.cells #[.int .i64 (n : Int), .int .u64 (D : Int), .int .u64 (A : Int), .int .u64 (U : Int)] 25)).heap[w.heap.size]? = some (.cells #[.int .i64 (n : Int), .int .u64 (D : Int), .int .u64 (A : Int), .int .u64 (U : Int)] 25 (0, 0)) ∧ RamAt (w.alloc (.cells #[.int .i64 (n : Int), .int .u64 (D : Int), .int .u64 (A : Int), .int .u64 (U : Int)] 25)) F rb 8192 k (.pointer none) M ∧ Below w.heap.size w (w.alloc (.cells #[.int .i64 (n : Int), .int .u64 (D : Int), .int .u64 (A : Int), .int .u64 (U : Int)] 25))) := ⟨heap_alloc_new _ _, h.below (one_box _ _), one_box _ _⟩
  have g1 := hg.a1
  have g2 := hg.a2
  have g3 := hg.n2
  have g4 := hg.n1
  have g5 : r < n := by rw [hr]; exact Nat.mod_lt _ (by omega)
  have er : IntKind.u64.wrap (r : Int) = (r : Int) := by rw [wrap_u64]; omega
  obtain ⟨A4, qA4⟩ : ∃ y : Nat, y = A + 4 := ⟨_, rfl⟩
  have wA4 : IntKind.u64.wrap ((A : Int) + 4) = (A4 : Int) := by rw [wrap_u64]; omega
  obtain ⟨r2, qr2⟩ : ∃ y : Nat, y = 2 * r := ⟨_, rfl⟩
  have wr2 : IntKind.u64.wrap (2 * (r : Int)) = (r2 : Int) := by rw [wrap_u64]; omega
  obtain ⟨x, qx⟩ : ∃ y : Nat, y = A4 + r2 := ⟨_, rfl⟩
  have wx : IntKind.u64.wrap ((A4 : Int) + (r2 : Int)) = (x : Int) := by rw [wrap_u64]; omega
  have HX : Hid (A + 4 + 2 * r = x ∧ x < 18446744073709551616) := ⟨by omega, by omega⟩
  have HG : Hid (Gd n D A U) := hg
  have HS : Hid (∀ V, Calls Try.prog 81 #[.agg #[.int .i64 (n : Int), .int .u64 (D : Int), .int .u64 (A : Int), .int .u64 (U : Int)], .int .u16 (m : Int)] V fun e w' => e = .returned (.int .u64 (r : Int)) ∧ Below V.heap.size V w') := fun V => slot_any hg m r hm hr V
  clear g1 g2 g3 g4 hg h g5 hm hr qA4 qr2 qx
  rw [HX.out.1]
  go_enter Try.func68, Try.ntmps68
  go_upto_region 1 with fail
  generalize (w.alloc (.cells #[.int .i64 (n : Int), .int .u64 (D : Int), .int .u64 (A : Int), .int .u64 (U : Int)] 25)) = w0 at *
  obtain ⟨c0, c1, c2, c3⟩ := box4_facts B0.out.1
  have Bd : Hid (w0.drew.heap[w.heap.size]? = some (.cells #[.int .i64 (n : Int), .int .u64 (D : Int), .int .u64 (A : Int), .int .u64 (U : Int)] 25 (0, 0)) ∧ RamAt w0.drew F rb 8192 k (.pointer none) M ∧ Below w.heap.size w w0.drew) := ⟨B0.out.1, B0.out.2.1.below (Below.drew (Below.refl _ _)), B0.out.2.2.drew⟩
  go_region_held3 (fun Z => Z.cell? ⟨w.heap.size, 0, none⟩ = some (.int .i64 (n : Int)) ∧ Z.cell? ⟨w.heap.size, 1, none⟩ = some (.int .u64 (D : Int)) ∧ Z.cell? ⟨w.heap.size, 2, none⟩ = some (.int .u64 (A : Int)) ∧ Z.cell? ⟨w.heap.size, 3, none⟩ = some (.int .u64 (U : Int))) (go_keep) (first | (go_at_call 81; refine (HS.out _).mono ?_; rintro e w1 ⟨rfl, hb1⟩; have X1 : Hid (w1.heap[w.heap.size]? = some (.cells #[.int .i64 (n : Int), .int .u64 (D : Int), .int .u64 (A : Int), .int .u64 (U : Int)] 25 (0, 0)) ∧ RamAt w1 F rb 8192 k (.pointer none) M ∧ Below w.heap.size w w1) := ⟨below_box Bd.out.1 hb1, Bd.out.2.1.below hb1, below_to Bd.out.2.2 hb1⟩; clear hb1; obtain ⟨d0, d1, d2, d3⟩ := box4_facts X1.out.1) | (go_at_call 74; refine (half_any X1.out.2.1 HG.out x HX.out.2).mono ?_; rintro e w2 ⟨rfl, hb2⟩; have X2 : Hid (w2.heap[w.heap.size]? = some (.cells #[.int .i64 (n : Int), .int .u64 (D : Int), .int .u64 (A : Int), .int .u64 (U : Int)] 25 (0, 0)) ∧ Below w.heap.size w w2) := ⟨below_box X1.out.1 hb2, below_to X1.out.2.2 hb2⟩; clear hb2; obtain ⟨e0, e1, e2, e3⟩ := box4_facts X2.out.1))
  go_wp2_with fail
  go_ret
  exact ⟨rfl, X2.out.2⟩
theorem wanted_any {w : World} {F : Nat → Prop} {rb k : Nat} {M : Nat → Nat} (h : RamAt w F rb 8192 k (.pointer none) M) {n D A U : Nat} (hg : Gd n D A U) : Calls Try.prog 54 #[.pointer (some ⟨rb, 0, none⟩), .agg #[.int .i64 (n : Int), .int .u64 (D : Int), .int .u64 (A : Int), .int .u64 (U : Int)]] w fun e w' => e = .returned (.int .u16 (wordN M (A + 4 + 2 * n) 2 8192 : Nat)) ∧ Below w.heap.size w w' := by
  have B0 : Hid ((w.alloc (.cells #[.int .i64 (n : Int), .int .u64 (D : Int), .int .u64 (A : Int), .int .u64 (U : Int)] 25)).heap[w.heap.size]? = some (.cells #[.int .i64 (n : Int), .int .u64 (D : Int), .int .u64 (A : Int), .int .u64 (U : Int)] 25 (0, 0)) ∧ RamAt (w.alloc (.cells #[.int .i64 (n : Int), .int .u64 (D : Int), .int .u64 (A : Int), .int .u64 (U : Int)] 25)) F rb 8192 k (.pointer none) M ∧ Below w.heap.size w (w.alloc (.cells #[.int .i64 (n : Int), .int .u64 (D : Int), .int .u64 (A : Int), .int .u64 (U : Int)] 25))) := ⟨heap_alloc_new _ _, h.below (one_box _ _), one_box _ _⟩
  have g1 := hg.a1
  have g2 := hg.a2
  have g3 := hg.n2
  have g4 := hg.n1
  have en : IntKind.u64.wrap (n : Int) = (n : Int) := by rw [wrap_u64]; omega
  obtain ⟨A4, qA4⟩ : ∃ y : Nat, y = A + 4 := ⟨_, rfl⟩
  have wA4 : IntKind.u64.wrap ((A : Int) + 4) = (A4 : Int) := by rw [wrap_u64]; omega
  obtain ⟨n2, qn2⟩ : ∃ y : Nat, y = 2 * n := ⟨_, rfl⟩
  have wn2 : IntKind.u64.wrap (2 * (n : Int)) = (n2 : Int) := by rw [wrap_u64]; omega
  obtain ⟨x, qx⟩ : ∃ y : Nat, y = A4 + n2 := ⟨_, rfl⟩
  have wx : IntKind.u64.wrap ((A4 : Int) + (n2 : Int)) = (x : Int) := by rw [wrap_u64]; omega
  have HX : Hid (A + 4 + 2 * n = x ∧ x < 18446744073709551616) := ⟨by omega, by omega⟩
  have HG : Hid (Gd n D A U) := hg
  clear g1 g2 g3 g4 hg h  qA4 qn2 qx
  rw [HX.out.1]
  go_enter Try.func54, Try.ntmps54
  go_upto_region 1 with fail
  generalize (w.alloc (.cells #[.int .i64 (n : Int), .int .u64 (D : Int), .int .u64 (A : Int), .int .u64 (U : Int)] 25)) = w0 at *
  obtain ⟨c0, c1, c2, c3⟩ := box4_facts B0.out.1
  go_wp2_with fail
  refine (half_any B0.out.2.1 HG.out x HX.out.2).mono ?_
  rintro e w1 ⟨rfl, hb1⟩
  have X1 : Hid (Below w.heap.size w w1) := below_to B0.out.2.2 hb1
  clear hb1
  go_wp2_with fail
  go_ret
  exact ⟨rfl, X1.out⟩
theorem rhead_any {F : Nat → Prop} {w : World} {nn vc : Nat} {va : Option Addr} {bs : Nat → Nat × Nat} {M : Nat → Nat} (h : RefIn F w (.slice va nn vc) nn bs) (hM : ∀ a, rget bs nn a = M a) (hle : ∀ a, M a ≤ 255) (hn : nn ≤ 1000000) {n D A U : Nat} (hg : Gd n D A U) (m r : Nat) (hm : m ≤ 65535) (hr : r = m % n) : Calls Try.prog 13 #[.agg #[.int .u64 8192, .slice va nn vc], .agg #[.int .i64 (n : Int), .int .u64 (D : Int), .int .u64 (A : Int), .int .u64 (U : Int)], .int .i64 (m : Int)] w fun e w' => e = .returned (.int .i64 (wordN M (A + 4 + 2 * r) 2 8192 : Nat)) ∧ Below w.heap.size w w' := by
  have B0 : Hid (((w.alloc (.cells #[.int .u64 8192, .slice va nn vc] 32)).alloc (.cells #[.int .i64 (n : Int), .int .u64 (D : Int), .int .u64 (A : Int), .int .u64 (U : Int)] 25)).heap[w.heap.size]? = some (.cells #[.int .u64 8192, .slice va nn vc] 32 (0, 0)) ∧ ((w.alloc (.cells #[.int .u64 8192, .slice va nn vc] 32)).alloc (.cells #[.int .i64 (n : Int), .int .u64 (D : Int), .int .u64 (A : Int), .int .u64 (U : Int)] 25)).heap[w.heap.size + 1]? = some (.cells #[.int .i64 (n : Int), .int .u64 (D : Int), .int .u64 (A : Int), .int .u64 (U : Int)] 25 (0, 0)) ∧ Below w.heap.size w ((w.alloc (.cells #[.int .u64 8192, .slice va nn vc] 32)).alloc (.cells #[.int .i64 (n : Int), .int .u64 (D : Int), .int .u64 (A : Int), .int .u64 (U : Int)] 25))) := ⟨(two_in w _ _).1, (two_in w _ _).2, two_boxes w _ _⟩
  have g1 := hg.a1
  have g2 := hg.a2
  have g3 := hg.n2
  have g4 := hg.n1
  have g5 : r < n := by rw [hr]; exact Nat.mod_lt _ (by omega)
  have gm : (m : Int).tmod (n : Int) = (r : Int) := by rw [Int.tmod_eq_emod_of_nonneg (by omega), hr]; simp
  have gm2 : (m : Int) % (n : Int) = (r : Int) := by rw [hr]; simp
  have gn : ¬ (n : Int) = 0 := by omega
  have gn0 : ¬ n = 0 := by omega
  have gn2 : ((n : Int) == 0) = false := by simp; omega
  have er : IntKind.u64.wrap (r : Int) = (r : Int) := by rw [wrap_u64]; omega
  obtain ⟨A4, qA4⟩ : ∃ y : Nat, y = A + 4 := ⟨_, rfl⟩
  have wA4 : IntKind.u64.wrap ((A : Int) + 4) = (A4 : Int) := by rw [wrap_u64]; omega
  obtain ⟨r2, qr2⟩ : ∃ y : Nat, y = 2 * r := ⟨_, rfl⟩
  have wr2 : IntKind.u64.wrap (2 * (r : Int)) = (r2 : Int) := by rw [wrap_u64]; omega
  obtain ⟨x, qx⟩ : ∃ y : Nat, y = A4 + r2 := ⟨_, rfl⟩
  have wx : IntKind.u64.wrap ((A4 : Int) + (r2 : Int)) = (x : Int) := by rw [wrap_u64]; omega
  have HX : Hid (A + 4 + 2 * r = x ∧ x < 18446744073709551616) := ⟨by omega, by omega⟩
  have hlt := rd_lt hle x
  have HR : Hid (∀ V, Below w.heap.size w V → Calls Try.prog 31 #[.agg #[.int .u64 8192, .slice va nn vc], .int .u64 (x : Int), .int .i64 2] V fun e w' => e = .returned (.int .u64 (wordN M x 2 8192 : Nat)) ∧ Below V.heap.size V w') := fun V hV => rword_any F V 8192 x 2 nn va vc bs M (h.below hV) hM hle hn (by omega) HX.out.2 (by decide)
  clear g1 g2 g3 g4 hg h hM hle hn g5 hm hr qA4 qr2 qx
  rw [HX.out.1]
  generalize wordN M x 2 8192 = y at *
  have ey : wrap64 (y : Int) = (y : Int) := by unfold wrap64; omega
  have ey2 : IntKind.i64.wrap (y : Int) = (y : Int) := wrapRl y (Nat.lt_of_le_of_lt hlt (by decide))
  clear hlt
  go_enter Try.func13, Try.ntmps13
  go_upto_region 1 with fail
  generalize ((w.alloc (.cells #[.int .u64 8192, .slice va nn vc] 32)).alloc (.cells #[.int .i64 (n : Int), .int .u64 (D : Int), .int .u64 (A : Int), .int .u64 (U : Int)] 25)) = w0 at *
  obtain ⟨r0, r1, _, _⟩ := box_facts B0.out.1
  obtain ⟨c0, c1, c2, c3⟩ := box4_facts B0.out.2.1
  go_region_held3 (fun Z => Z.cell? ⟨w.heap.size, 0, none⟩ = some (.int .u64 8192) ∧ Z.cell? ⟨w.heap.size, 1, none⟩ = some (.slice va nn vc) ∧ Z.cell? ⟨w.heap.size + 1, 0, none⟩ = some (.int .i64 (n : Int)) ∧ Z.cell? ⟨w.heap.size + 1, 1, none⟩ = some (.int .u64 (D : Int)) ∧ Z.cell? ⟨w.heap.size + 1, 2, none⟩ = some (.int .u64 (A : Int)) ∧ Z.cell? ⟨w.heap.size + 1, 3, none⟩ = some (.int .u64 (U : Int))) (go_keep) (first | (go_at_call 31; refine (HR.out _ B0.out.2.2.drew).mono ?_; rintro e w1 ⟨rfl, hb1⟩; have X1 : Hid (w1.heap[w.heap.size]? = some (.cells #[.int .u64 8192, .slice va nn vc] 32 (0, 0)) ∧ w1.heap[w.heap.size + 1]? = some (.cells #[.int .i64 (n : Int), .int .u64 (D : Int), .int .u64 (A : Int), .int .u64 (U : Int)] 25 (0, 0)) ∧ Below w.heap.size w w1) := ⟨below_box (w := w0.drew) B0.out.1 hb1, below_box (w := w0.drew) B0.out.2.1 hb1, below_to B0.out.2.2.drew hb1⟩; clear hb1; obtain ⟨s0, s1, _, _⟩ := box_facts X1.out.1; obtain ⟨d0, d1, d2, d3⟩ := box4_facts X1.out.2.1))
  go_wp2_with fail
  go_ret
  exact ⟨rfl, X1.out.2.2⟩
end Go.Proofs.Ytmjdnocilbnoaaa
