/- Texts put together. -/
import Derived.Test.YtcgjfklglckjcaaCa
import Derived.Test.YtcgjfklglckjcaaSa
/- The bytes that a chain names, in plain lists. -/
namespace Go.Proofs.Ytcgjfklglckjcaa
open Go.RowKit Go.Maps
set_option linter.unusedVariables false
set_option linter.unusedSimpArgs false
set_option maxRecDepth 100000
/-- the addresses of all that is to be read, or written -/
def addrs (b : Bool) (l : List Seg) : List Nat := l.flatMap fun s => if s.wr = b then (List.range s.l).map (s.a + ·) else []
def sizeN (b : Bool) (l : List Seg) : Nat := (l.map fun s => if s.wr = b then s.l else 0).sum
theorem addrs_length (b : Bool) (l : List Seg) : (addrs b l).length = sizeN b l := by
  induction l with
  | nil => rfl
  | cons s l ih =>
    have e : addrs b (s :: l) = (if s.wr = b then (List.range s.l).map (s.a + ·) else []) ++ addrs b l := by simp [addrs]
    have e2 : sizeN b (s :: l) = (if s.wr = b then s.l else 0) + sizeN b l := by simp [sizeN]
    rw [e, e2, List.length_append, ih]
    split <;> simp
theorem sizeN_cons (b : Bool) (s : Seg) (l : List Seg) : sizeN b (s :: l) = (if s.wr = b then s.l else 0) + sizeN b l := by simp [sizeN]
theorem addrs_cons (b : Bool) (s : Seg) (l : List Seg) : addrs b (s :: l) = (if s.wr = b then (List.range s.l).map (s.a + ·) else []) ++ addrs b l := by simp [addrs]
theorem sizeN_take (b : Bool) (l : List Seg) (i : Nat) (hi : i < l.length) : sizeN b (l.take (i + 1)) = sizeN b (l.take i) + (if (l[i]).wr = b then (l[i]).l else 0) := by
  rw [List.take_add_one, List.getElem?_eq_getElem hi]
  simp only [sizeN, List.map_append, List.sum_append, Option.toList_some, List.map_cons, List.map_nil, List.sum_cons, List.sum_nil, Nat.add_zero]
theorem sizeN_le (b : Bool) (l : List Seg) (h : ∀ s ∈ l, SegOk s) : sizeN b l ≤ l.length * 8192 := by
  induction l with
  | nil => simp [sizeN]
  | cons s l ih =>
    have h1 := ih (fun x hx => h x (List.mem_cons_of_mem _ hx))
    have h2 := (h s (List.mem_cons_self)).l
    rw [sizeN_cons, List.length_cons]
    split <;> omega
def pcs (b : Bool) : List Seg → Nat → Nat → List (Nat × Nat) × Nat × Nat
  | [], f, n => ([], f, n)
  | s :: l, f, n => if s.wr = b then ((if min n (s.l - min f s.l) = 0 then (pcs b l (f - min f s.l) (n - min n (s.l - min f s.l))).1 else (s.a + min f s.l, min n (s.l - min f s.l)) :: (pcs b l (f - min f s.l) (n - min n (s.l - min f s.l))).1), (pcs b l (f - min f s.l) (n - min n (s.l - min f s.l))).2) else pcs b l f n
theorem pcs_other {b : Bool} {s : Seg} {l : List Seg} {f n : Nat} (h : ¬ s.wr = b) : pcs b (s :: l) f n = pcs b l f n := by simp [pcs, h]
theorem pcs_none {b : Bool} {s : Seg} {l : List Seg} {f n sk tk : Nat} (h : s.wr = b) (h1 : sk = min f s.l) (h2 : tk = min n (s.l - sk)) (h0 : tk = 0) : pcs b (s :: l) f n = pcs b l (f - sk) (n - tk) := by
  subst h1
  rw [h0] at h2
  subst h0
  simp only [pcs, h, if_true, ← h2]
theorem pcs_some {b : Bool} {s : Seg} {l : List Seg} {f n sk tk : Nat} (h : s.wr = b) (h1 : sk = min f s.l) (h2 : tk = min n (s.l - sk)) (h0 : ¬ tk = 0) : pcs b (s :: l) f n = ((s.a + sk, tk) :: (pcs b l (f - sk) (n - tk)).1, (pcs b l (f - sk) (n - tk)).2) := by
  subst h1 h2
  simp only [pcs, h, if_true, h0, if_false]
theorem pcs_rest (b : Bool) : ∀ (l : List Seg) (f n : Nat), (pcs b l f n).2 = (f - sizeN b l, n - (sizeN b l - f)) := by
  intro l
  induction l with
  | nil => intro f n; simp [pcs, sizeN]
  | cons s l ih =>
    intro f n
    rw [sizeN_cons]
    by_cases h : s.wr = b
    · simp only [pcs, h, if_true]
      rw [ih]
      simp only [Prod.mk.injEq]
      omega
    · rw [pcs_other h, ih, if_neg h, Nat.zero_add]
def spanA (ps : List (Nat × Nat)) : List Nat := ps.flatMap fun p => (List.range p.2).map (p.1 + ·)
theorem spanA_cons (p : Nat × Nat) (l : List (Nat × Nat)) : spanA (p :: l) = (List.range p.2).map (p.1 + ·) ++ spanA l := by simp [spanA]
theorem spanA_append (k l : List (Nat × Nat)) : spanA (k ++ l) = spanA k ++ spanA l := by simp [spanA]
theorem range_cut (a L f n : Nat) : ((((List.range L).map (a + ·)).drop f).take n) = (List.range (min n (L - f))).map (a + f + ·) := by
  apply List.ext_getElem?
  intro i
  simp only [List.getElem?_take, List.getElem?_drop, List.getElem?_map, List.getElem?_range']
  by_cases h : i < min n (L - f)
  · rw [if_pos (by omega), List.getElem?_range (by omega), List.getElem?_range h]
    simp; omega
  · rw [List.getElem?_eq_none (l := List.range (min n (L - f))) (by simp; omega)]
    split
    · rw [List.getElem?_eq_none (by simp; omega)]; rfl
    · rfl
theorem pcs_span (b : Bool) : ∀ (l : List Seg) (f n : Nat), spanA (pcs b l f n).1 = ((addrs b l).drop f).take n := by
  intro l
  induction l with
  | nil => intro f n; simp [pcs, addrs, spanA]
  | cons s l ih =>
    intro f n
    rw [addrs_cons]
    by_cases h : s.wr = b
    · rw [if_pos h, List.drop_append, List.take_append, range_cut]
      have e1 : f - ((List.range s.l).map (s.a + ·)).length = f - min f s.l := by simp; omega
      have e2 : n - (((List.range s.l).map (s.a + ·)).drop f).length = n - min n (s.l - min f s.l) := by simp; omega
      rw [e1, e2, ← ih]
      have e3 : min n (s.l - f) = min n (s.l - min f s.l) := by omega
      rw [e3]
      by_cases h0 : min n (s.l - min f s.l) = 0
      · rw [pcs_none h rfl rfl h0, h0]; simp
      · rw [pcs_some h rfl rfl h0, spanA_cons]
        have e4 : min f s.l = f := by omega
        simp only [e4]
    · rw [if_neg h, List.nil_append, pcs_other h]
      exact ih f n
theorem pcs_ok {b : Bool} {l : List Seg} (h : ∀ s ∈ l, SegOk s) : ∀ (f n : Nat), ∀ p ∈ (pcs b l f n).1, inB p.1 p.2 2147483648 8192 = true ∧ 0 < p.2 ∧ p.1 < 18446744073709551616 ∧ p.2 ≤ 8192 := by
  induction l with
  | nil => intro f n p hp; simp [pcs] at hp
  | cons s l ih =>
    intro f n p hp
    have ih2 := ih (fun x hx => h x (List.mem_cons_of_mem _ hx))
    by_cases hb : s.wr = b
    · by_cases h0 : min n (s.l - min f s.l) = 0
      · rw [pcs_none hb rfl rfl h0] at hp
        exact ih2 _ _ p hp
      · rw [pcs_some hb rfl rfl h0] at hp
        rcases List.mem_cons.1 hp with rfl | hp
        · have hs := h s List.mem_cons_self
          have h1 := in_len hs.i
          have h3 : min f s.l + min n (s.l - min f s.l) ≤ s.l := by omega
          refine ⟨?_, by simp only; omega, by simp only; omega, by simp only; omega⟩
          simp only [inB, Bool.and_eq_true, decide_eq_true_iff]
          omega
        · exact ih2 _ _ p hp
    · rw [pcs_other hb] at hp
      exact ih2 _ _ p hp
theorem pcs_len (b : Bool) : ∀ (l : List Seg) (f n : Nat), (pcs b l f n).1.length ≤ l.length := by
  intro l
  induction l with
  | nil => intro f n; simp [pcs]
  | cons s l ih =>
    intro f n
    by_cases hb : s.wr = b
    · by_cases h0 : min n (s.l - min f s.l) = 0
      · rw [pcs_none hb rfl rfl h0]
        have := ih (f - min f s.l) (n - min n (s.l - min f s.l))
        simp only [List.length_cons]
        omega
      · rw [pcs_some hb rfl rfl h0]
        have := ih (f - min f s.l) (n - min n (s.l - min f s.l))
        simp only [List.length_cons]
        omega
    · rw [pcs_other hb]
      have := ih f n
      simp only [List.length_cons]
      omega
/-- is there so much? -/
def roomB (b : Bool) (l : List Seg) (f n : Nat) : Bool := decide (f ≤ sizeN b l ∧ n ≤ sizeN b l - f)
theorem room_iff (b : Bool) (l : List Seg) (f n : Nat) : roomB b l f n = true ↔ (pcs b l f n).2 = (0, 0) := by
  rw [pcs_rest]
  simp only [roomB, decide_eq_true_iff, Prod.mk.injEq]
  omega
end Go.Proofs.Ytcgjfklglckjcaa

/- Sizes on both sides. -/
namespace Go.Proofs.Ytcgjfklglckjcaa
open Go.RowKit Go.Maps
set_option linter.unusedVariables false
set_option linter.unusedSimpArgs false
set_option maxRecDepth 100000
set_option maxHeartbeats 2000000 in
theorem psizes_any {w : World} {a : Option Addr} {L c : Nat} {l : List Seg} (h : SegIn 0 w (.slice a L c) l) (hl : l.length ≤ 1000) (hok : ∀ s ∈ l, SegOk s) (ta tl : Nat) : Calls Try.prog 20 #[.agg #[.slice a L c, .int .u64 (ta : Int), .int .u64 (tl : Int)]] w fun e w' => e = .returned (.tuple #[.int .u64 (sizeN false l : Int), .int .u64 (sizeN true l : Int)]) ∧ Below w.heap.size w w' := by
  have hLl : L = l.length := by
    obtain ⟨a2, c2, h⟩ := h.form
    simp only [Value.slice.injEq] at h
    exact h.2.1
  have h2 := heap_alloc_new w (.cells #[.slice a L c, .int .u64 (ta : Int), .int .u64 (tl : Int)] 40)
  have hb : Below w.heap.size w (w.alloc (.cells #[.slice a L c, .int .u64 (ta : Int), .int .u64 (tl : Int)] 40)) := (Below.refl _ _).alloc (Nat.le_refl _) _
  have XB : Hid (Below w.heap.size w (w.alloc (.cells #[.slice a L c, .int .u64 (ta : Int), .int .u64 (tl : Int)] 40)) ∧ (w.alloc (.cells #[.slice a L c, .int .u64 (ta : Int), .int .u64 (tl : Int)] 40)).heap[w.heap.size]? = some (.cells #[.slice a L c, .int .u64 (ta : Int), .int .u64 (tl : Int)] 40 (0, 0))) := ⟨hb, h2⟩
  have HS : Hid (SegIn 0 w (.slice a L c) l ∧ L = l.length ∧ l.length ≤ 1000 ∧ ∀ s ∈ l, SegOk s) := ⟨h, hLl, hl, hok⟩
  clear h hLl hl hok h2 hb
  go_enter Try.func20, Try.ntmps20
  go_upto_region 1 with fail
  obtain ⟨p0, p1, p2⟩ := box3_facts XB.out.2
  generalize w.alloc (.cells #[.slice a L c, .int .u64 (ta : Int), .int .u64 (tl : Int)] 40) = v0 at *
  go_wp2_with fail
  go_loopw [4, 5, 11] (fun r q x wr => ∃ i : Nat, i ≤ L ∧ x = .int .i64 (i : Int) ∧ r = .int .u64 (sizeN false (l.take i) : Int) ∧ q = .int .u64 (sizeN true (l.take i) : Int) ∧ Below w.heap.size w wr ∧ wr.heap[w.heap.size]? = some (.cells #[.slice a L c, .int .u64 (ta : Int), .int .u64 (tl : Int)] 40 (0, 0))) (fun _ _ x _ => L - (intOf x).toNat)
  case atStart => exact ⟨0, Nat.zero_le _, rfl, rfl, rfl, XB.out⟩
  case round =>
    obtain ⟨i, hi, rfl, rfl, rfl, hbr⟩ := hrel
    have XR : Hid (Below w.heap.size w wr ∧ wr.heap[w.heap.size]? = some (.cells #[.slice a L c, .int .u64 (ta : Int), .int .u64 (tl : Int)] 40 (0, 0))) := hbr
    clear hbr XB p0 p1 p2
    obtain ⟨p0, p1, p2⟩ := box3_facts XR.out.2
    by_cases hlt : i < L
    case neg =>
      have h1 : ¬ (i : Int) < (L : Int) := by omega
      have hil : i = l.length := by have := HS.out.2.1; omega
      subst hil
      rw [List.take_length]
      clear hlt hi
      go_wp2_with fail
      refine bodyPost_ret (v := .tuple #[.int .u64 (sizeN false l : Int), .int .u64 (sizeN true l : Int)]) (by simp [results, Try.results20, go_sem]) rfl ⟨rfl, XR.out.1⟩
    case pos =>
      have h1 : (i : Int) < (L : Int) := by omega
      have hil : i < l.length := by have := HS.out.2.1; omega
      obtain ⟨g, c', hsl, hcl⟩ := HS.out.1.cells (by omega)
      simp only [Value.slice.injEq] at hsl
      obtain ⟨rfl, -, rfl⟩ := hsl
      have hgl : g < w.heap.size := (HS.out.1.lt g rfl).2
      obtain ⟨x1, y1, z1⟩ := hcl i hil
      have x2 := (XR.out.1.cell (p := ⟨g, i * 3, none⟩) hgl).trans x1
      have y2 := (XR.out.1.cell (p := ⟨g, i * 3 + 1, none⟩) hgl).trans y1
      have z2 := (XR.out.1.cell (p := ⟨g, i * 3 + 2, none⟩) hgl).trans z1
      have hso := HS.out.2.2.2 _ (List.getElem_mem hil)
      have T0 := sizeN_take false l i hil
      have T1 := sizeN_take true l i hil
      have U0 : sizeN false (l.take i) + (l[i]).l ≤ 9000000 := by
        have := sizeN_le false (l.take i) (fun s hs => HS.out.2.2.2 s (List.mem_of_mem_take hs))
        have := HS.out.2.2.1
        have := hso.l
        simp only [List.length_take] at *
        omega
      have U1 : sizeN true (l.take i) + (l[i]).l ≤ 9000000 := by
        have := sizeN_le true (l.take i) (fun s hs => HS.out.2.2.2 s (List.mem_of_mem_take hs))
        have := HS.out.2.2.1
        have := hso.l
        simp only [List.length_take] at *
        omega
      generalize (l[i]).a = sa at *
      generalize (l[i]).l = sl at *
      generalize (l[i]).wr = sw at *
      generalize sizeN false (l.take i) = n0 at *
      generalize sizeN true (l.take i) = n1 at *
      have W0 : IntKind.u64.wrap ((n0 : Int) + (sl : Int)) = ((n0 + sl : Nat) : Int) := by rw [wrap_u64]; omega
      have W1 : IntKind.u64.wrap ((n1 : Int) + (sl : Int)) = ((n1 + sl : Nat) : Int) := by rw [wrap_u64]; omega
      obtain ⟨m0, hm0⟩ : ∃ m0, n0 + sl = m0 := ⟨_, rfl⟩
      obtain ⟨m1, hm1⟩ : ∃ m1, n1 + sl = m1 := ⟨_, rfl⟩
      rw [hm0] at W0
      rw [hm1] at W1
      have HT : Hid (sizeN false (l.take (i + 1)) = n0 + (if sw = false then sl else 0) ∧ sizeN true (l.take (i + 1)) = n1 + (if sw = true then sl else 0) ∧ n0 + sl = m0 ∧ n1 + sl = m1 ∧ i < L ∧ L ≤ 1000) := ⟨T0, T1, hm0, hm1, hlt, by have := HS.out.2; omega⟩
      have hi6 : i ≤ 1000 := by have := HS.out.2; omega
      clear T0 T1 U0 U1 hm0 hm1 hso x1 y1 z1 hcl hil hi hlt
      cases sw with
      | false =>
        go_wp2_with fail
        go_roundw
        case rel => exact ⟨i + 1, HT.out.2.2.2.2.1, by go_num, by rw [HT.out.1, ← HT.out.2.2.1]; rfl, by rw [HT.out.2.1]; rfl, XR.out.1.alloc XR.out.1.size _, below_box XR.out.2 ((Below.refl _ _).alloc (Nat.le_refl _) _)⟩
        case measure => simp [intOf]; have := HT.out.2.2.2.2.1; omega
      | true =>
        go_wp2_with fail
        go_roundw
        case rel => exact ⟨i + 1, HT.out.2.2.2.2.1, by go_num, by rw [HT.out.1]; rfl, by rw [HT.out.2.1, ← HT.out.2.2.2.1]; rfl, XR.out.1.alloc XR.out.1.size _, below_box XR.out.2 ((Below.refl _ _).alloc (Nat.le_refl _) _)⟩
        case measure => simp [intOf]; have := HT.out.2.2.2.2.1; omega
set_option maxHeartbeats 2000000 in
theorem dsizes_any {w : World} {a : Option Addr} {L c : Nat} {l : List Seg} (h : SegIn 0 w (.slice a L c) l) (hl : l.length ≤ 1000) (hok : ∀ s ∈ l, SegOk s) (ta tl : Nat) : Calls Try.prog 21 #[.agg #[.slice a L c, .int .u64 (ta : Int), .int .u64 (tl : Int)]] w fun e w' => e = .returned (.tuple #[.int .u64 (sizeN false l : Int), .int .u64 (sizeN true l : Int)]) ∧ Below w.heap.size w w' := by
  have hLl : L = l.length := by
    obtain ⟨a2, c2, h⟩ := h.form
    simp only [Value.slice.injEq] at h
    exact h.2.1
  have h2 := heap_alloc_new w (.cells #[.slice a L c, .int .u64 (ta : Int), .int .u64 (tl : Int)] 44)
  have hb : Below w.heap.size w (w.alloc (.cells #[.slice a L c, .int .u64 (ta : Int), .int .u64 (tl : Int)] 44)) := (Below.refl _ _).alloc (Nat.le_refl _) _
  have XB : Hid (Below w.heap.size w (w.alloc (.cells #[.slice a L c, .int .u64 (ta : Int), .int .u64 (tl : Int)] 44)) ∧ (w.alloc (.cells #[.slice a L c, .int .u64 (ta : Int), .int .u64 (tl : Int)] 44)).heap[w.heap.size]? = some (.cells #[.slice a L c, .int .u64 (ta : Int), .int .u64 (tl : Int)] 44 (0, 0))) := ⟨hb, h2⟩
  have HS : Hid (SegIn 0 w (.slice a L c) l ∧ L = l.length ∧ l.length ≤ 1000 ∧ ∀ s ∈ l, SegOk s) := ⟨h, hLl, hl, hok⟩
  clear h hLl hl hok h2 hb
  go_enter Try.func21, Try.ntmps21
  go_upto_region 1 with fail
  obtain ⟨p0, p1, p2⟩ := box3_facts XB.out.2
  generalize w.alloc (.cells #[.slice a L c, .int .u64 (ta : Int), .int .u64 (tl : Int)] 44) = v0 at *
  go_wp2_with fail
  go_loopw [4, 5, 6] (fun r q x wr => ∃ i : Nat, i ≤ L ∧ x = .int .i64 (i : Int) ∧ r = .int .u64 (sizeN false (l.take i) : Int) ∧ q = .int .u64 (sizeN true (l.take i) : Int) ∧ Below w.heap.size w wr ∧ wr.heap[w.heap.size]? = some (.cells #[.slice a L c, .int .u64 (ta : Int), .int .u64 (tl : Int)] 44 (0, 0))) (fun _ _ x _ => L - (intOf x).toNat)
  case atStart => exact ⟨0, Nat.zero_le _, rfl, rfl, rfl, XB.out⟩
  case round =>
    obtain ⟨i, hi, rfl, rfl, rfl, hbr⟩ := hrel
    have XR : Hid (Below w.heap.size w wr ∧ wr.heap[w.heap.size]? = some (.cells #[.slice a L c, .int .u64 (ta : Int), .int .u64 (tl : Int)] 44 (0, 0))) := hbr
    clear hbr XB p0 p1 p2
    obtain ⟨p0, p1, p2⟩ := box3_facts XR.out.2
    by_cases hlt : i < L
    case neg =>
      have h1 : ¬ (i : Int) < (L : Int) := by omega
      have hil : i = l.length := by have := HS.out.2.1; omega
      subst hil
      rw [List.take_length]
      clear hlt hi
      go_wp2_with fail
      refine bodyPost_ret (v := .tuple #[.int .u64 (sizeN false l : Int), .int .u64 (sizeN true l : Int)]) (by simp [results, Try.results21, go_sem]) rfl ⟨rfl, XR.out.1⟩
    case pos =>
      have h1 : (i : Int) < (L : Int) := by omega
      have hil : i < l.length := by have := HS.out.2.1; omega
      obtain ⟨g, c', hsl, hcl⟩ := HS.out.1.cells (by omega)
      simp only [Value.slice.injEq] at hsl
      obtain ⟨rfl, -, rfl⟩ := hsl
      have hgl : g < w.heap.size := (HS.out.1.lt g rfl).2
      obtain ⟨x1, y1, z1⟩ := hcl i hil
      have x2 := (XR.out.1.cell (p := ⟨g, i * 3, none⟩) hgl).trans x1
      have y2 := (XR.out.1.cell (p := ⟨g, i * 3 + 1, none⟩) hgl).trans y1
      have z2 := (XR.out.1.cell (p := ⟨g, i * 3 + 2, none⟩) hgl).trans z1
      have hso := HS.out.2.2.2 _ (List.getElem_mem hil)
      have T0 := sizeN_take false l i hil
      have T1 := sizeN_take true l i hil
      have U0 : sizeN false (l.take i) + (l[i]).l ≤ 9000000 := by
        have := sizeN_le false (l.take i) (fun s hs => HS.out.2.2.2 s (List.mem_of_mem_take hs))
        have := HS.out.2.2.1
        have := hso.l
        simp only [List.length_take] at *
        omega
      have U1 : sizeN true (l.take i) + (l[i]).l ≤ 9000000 := by
        have := sizeN_le true (l.take i) (fun s hs => HS.out.2.2.2 s (List.mem_of_mem_take hs))
        have := HS.out.2.2.1
        have := hso.l
        simp only [List.length_take] at *
        omega
      generalize (l[i]).a = sa at *
      generalize (l[i]).l = sl at *
      generalize (l[i]).wr = sw at *
      generalize sizeN false (l.take i) = n0 at *
      generalize sizeN true (l.take i) = n1 at *
      have W0 : IntKind.u64.wrap ((n0 : Int) + (sl : Int)) = ((n0 + sl : Nat) : Int) := by rw [wrap_u64]; omega
      have W1 : IntKind.u64.wrap ((n1 : Int) + (sl : Int)) = ((n1 + sl : Nat) : Int) := by rw [wrap_u64]; omega
      obtain ⟨m0, hm0⟩ : ∃ m0, n0 + sl = m0 := ⟨_, rfl⟩
      obtain ⟨m1, hm1⟩ : ∃ m1, n1 + sl = m1 := ⟨_, rfl⟩
      rw [hm0] at W0
      rw [hm1] at W1
      have HT : Hid (sizeN false (l.take (i + 1)) = n0 + (if sw = false then sl else 0) ∧ sizeN true (l.take (i + 1)) = n1 + (if sw = true then sl else 0) ∧ n0 + sl = m0 ∧ n1 + sl = m1 ∧ i < L ∧ L ≤ 1000) := ⟨T0, T1, hm0, hm1, hlt, by have := HS.out.2; omega⟩
      have hi6 : i ≤ 1000 := by have := HS.out.2; omega
      clear T0 T1 U0 U1 hm0 hm1 hso x1 y1 z1 hcl hil hi hlt
      cases sw with
      | false =>
        go_wp2_with fail
        go_roundw
        case rel => exact ⟨i + 1, HT.out.2.2.2.2.1, by go_num, by rw [HT.out.1, ← HT.out.2.2.1]; rfl, by rw [HT.out.2.1]; rfl, XR.out⟩
        case measure => simp [intOf]; have := HT.out.2.2.2.2.1; omega
      | true =>
        go_wp2_with fail
        go_roundw
        case rel => exact ⟨i + 1, HT.out.2.2.2.2.1, by go_num, by rw [HT.out.1]; rfl, by rw [HT.out.2.1, ← HT.out.2.2.2.1]; rfl, XR.out⟩
        case measure => simp [intOf]; have := HT.out.2.2.2.2.1; omega
end Go.Proofs.Ytcgjfklglckjcaa

/- The pieces of a chain. -/
namespace Go.Proofs.Ytcgjfklglckjcaa
open Go.RowKit Go.Maps
set_option linter.unusedVariables false
set_option linter.unusedSimpArgs false
set_option maxRecDepth 100000
def PcS (w : World) (b : Bool) (l : List Seg) (f n : Nat) (a : Option Addr) (L c ta tl : Nat) (V : World) (vo : Value) (i f' n' : Nat) (out : List (Nat × Nat)) : Prop := SpanIn w.heap.size V vo out ∧ out.length ≤ i ∧ pcs b l f n = (out ++ (pcs b (l.drop i) f' n').1, (pcs b (l.drop i) f' n').2) ∧ f' ≤ f ∧ n' ≤ n ∧ Below w.heap.size w V ∧ V.heap[w.heap.size]? = some (.cells #[.slice a L c, .int .u64 (ta : Int), .int .u64 (tl : Int)] 40 (0, 0))
theorem PcS.below {w : World} {b : Bool} {l : List Seg} {f n : Nat} {a : Option Addr} {L c ta tl : Nat} {V V2 : World} {vo : Value} {i f' n' : Nat} {out : List (Nat × Nat)} (h : PcS w b l f n a L c ta tl V vo i f' n' out) (hb : Below V.heap.size V V2) : PcS w b l f n a L c ta tl V2 vo i f' n' out := ⟨h.1.kept (fun g hg => hb.block g (h.1.lt g hg).2), h.2.1, h.2.2.1, h.2.2.2.1, h.2.2.2.2.1, below_to h.2.2.2.2.2.1 hb, below_box h.2.2.2.2.2.2 hb⟩
theorem SpanIn.row {B : Nat} {w : World} {v : Value} {l : List (Nat × Nat)} {q : Nat} {cc : Array Value} (h : SpanIn B w v l) (hq : v.ownBlock = some q) (hb : w.heap[q]? = some (.cells cc 40 (0, 0))) : False := by
  rcases h.2 with ⟨rfl, _⟩ | ⟨g, cap, cur, rfl, _, hg, _⟩
  · cases hq
  · have : g = q := by simpa [Value.ownBlock] using hq
    subst this
    rw [hb] at hg
    simp at hg
theorem drop_cons {l : List Seg} {i : Nat} (h : i < l.length) : l.drop i = l[i] :: l.drop (i + 1) := List.drop_eq_getElem_cons h
theorem PcS.skip {w : World} {b : Bool} {l : List Seg} {f n : Nat} {a : Option Addr} {L c ta tl : Nat} {V : World} {vo : Value} {i f' n' : Nat} {out : List (Nat × Nat)} (h : PcS w b l f n a L c ta tl V vo i f' n' out) (hi : i < l.length) (hw : ¬ (l[i]).wr = b) : PcS w b l f n a L c ta tl V vo (i + 1) f' n' out :=
  ⟨h.1, by have := h.2.1; omega, by rw [h.2.2.1, drop_cons hi, pcs_other hw], h.2.2.2⟩
theorem PcS.none {w : World} {b : Bool} {l : List Seg} {f n : Nat} {a : Option Addr} {L c ta tl : Nat} {V : World} {vo : Value} {i f' n' sk : Nat} {out : List (Nat × Nat)} (h : PcS w b l f n a L c ta tl V vo i f' n' out) (hi : i < l.length) (hw : (l[i]).wr = b) (h1 : sk = min f' (l[i]).l) (h2 : 0 = min n' ((l[i]).l - sk)) : PcS w b l f n a L c ta tl V vo (i + 1) (f' - sk) (n' - 0) out :=
  ⟨h.1, by have := h.2.1; omega, by rw [h.2.2.1, drop_cons hi, pcs_none hw h1 h2 rfl], by have := h.2.2.2.1; omega, by have := h.2.2.2.2.1; omega, h.2.2.2.2.2⟩
theorem PcS.some {w : World} {b : Bool} {l : List Seg} {f n : Nat} {a : Option Addr} {L c ta tl : Nat} {V : World} {vo vo2 : Value} {i f' n' sk tk : Nat} {out : List (Nat × Nat)} (h : PcS w b l f n a L c ta tl V vo i f' n' out) {V2 : World} (hi : i < l.length) (hw : (l[i]).wr = b) (h1 : sk = min f' (l[i]).l) (h2 : tk = min n' ((l[i]).l - sk)) (h0 : ¬ tk = 0) (hs : SpanIn w.heap.size V2 vo2 (out ++ [((l[i]).a + sk, tk)])) (hb : Below w.heap.size w V2) (hbx : V2.heap[w.heap.size]? = .some (.cells #[.slice a L c, .int .u64 (ta : Int), .int .u64 (tl : Int)] 40 (0, 0))) : PcS w b l f n a L c ta tl V2 vo2 (i + 1) (f' - sk) (n' - tk) (out ++ [((l[i]).a + sk, tk)]) :=
  ⟨hs, by have := h.2.1; simp; omega, by rw [h.2.2.1, drop_cons hi, pcs_some hw h1 h2 h0]; simp, by have := h.2.2.2.1; omega, by have := h.2.2.2.2.1; omega, hb, hbx⟩
theorem min_if (x y : Nat) : (if (y : Int) < (x : Int) then (y : Int) else (x : Int)) = ((min x y : Nat) : Int) := by split <;> omega
theorem min_if2 (x y : Nat) : (if y < x then (y : Int) else (x : Int)) = ((min x y : Nat) : Int) := by split <;> omega
set_option maxHeartbeats 4000000 in
theorem pieces_any {w : World} {F : Nat → Prop} {rb kk : Nat} {M : Nat → Nat} (hr : RamAt w F rb 8192 kk (.pointer none) M) {a : Option Addr} {L c : Nat} {l : List Seg} (h : SegIn 0 w (.slice a L c) l) (hl : l.length ≤ 1000) (hok : ∀ s ∈ l, SegOk s) (ta tl : Nat) (b : Bool) (f n : Nat) (hf : f < 18446744073709551616) (hn : n < 18446744073709551616) :
    Calls Try.prog 45 #[.agg #[.slice a L c, .int .u64 (ta : Int), .int .u64 (tl : Int)], .pointer (some ⟨rb, 0, none⟩), .bool b, .int .u64 (f : Int), .int .u64 (n : Int)] w fun e w' => Below w.heap.size w w' ∧ ((roomB b l f n = false ∧ e = .returned (.tuple #[.slice none 0 0, .bool false])) ∨ (roomB b l f n = true ∧ ∃ vo, e = .returned (.tuple #[vo, .bool true]) ∧ SpanIn w.heap.size w' vo (pcs b l f n).1)) := by
  obtain ⟨i0, hi0, hz0, hz1, hz2⟩ := info_parts Try.info38
  have hLl : L = l.length := by
    obtain ⟨a2, c2, h⟩ := h.form
    simp only [Value.slice.injEq] at h
    exact h.2.1
  have h2 := heap_alloc_new w (.cells #[.slice a L c, .int .u64 (ta : Int), .int .u64 (tl : Int)] 40)
  have hb : Below w.heap.size w (w.alloc (.cells #[.slice a L c, .int .u64 (ta : Int), .int .u64 (tl : Int)] 40)) := (Below.refl _ _).alloc (Nat.le_refl _) _
  have XB : Hid (PcS w b l f n a L c ta tl (w.alloc (.cells #[.slice a L c, .int .u64 (ta : Int), .int .u64 (tl : Int)] 40)) (.slice none 0 0) 0 f n []) := ⟨⟨rfl, .inl ⟨rfl, rfl⟩⟩, Nat.le_refl _, rfl, Nat.le_refl _, Nat.le_refl _, hb, h2⟩
  have HS : Hid (SegIn 0 w (.slice a L c) l ∧ L = l.length ∧ l.length ≤ 1000 ∧ ∀ s ∈ l, SegOk s) := ⟨h, hLl, hl, hok⟩
  have HR : Hid (RamAt w F rb 8192 kk (.pointer none) M) := hr
  have HFN : Hid (f < 18446744073709551616 ∧ n < 18446744073709551616) := ⟨hf, hn⟩
  clear h hLl hl hok h2 hb hr hf hn
  go_enter Try.func45, Try.ntmps45
  go_upto_region 1 with fail
  obtain ⟨p0, p1, p2⟩ := box3_facts XB.out.2.2.2.2.2.2
  generalize w.alloc (.cells #[.slice a L c, .int .u64 (ta : Int), .int .u64 (tl : Int)] 40) = v0 at *
  go_wp2_with fail
  go_loopw [3, 4, 12, 21] (fun vf vn vo x wr => ∃ (i f' n' : Nat) (out : List (Nat × Nat)), i ≤ L ∧ x = .int .i64 (i : Int) ∧ vf = .int .u64 (f' : Int) ∧ vn = .int .u64 (n' : Int) ∧ PcS w b l f n a L c ta tl wr vo i f' n' out) (fun _ _ _ x _ => L - (intOf x).toNat)
  case atStart => exact ⟨0, f, n, [], Nat.zero_le _, rfl, rfl, rfl, XB.out⟩
  case round =>
    obtain ⟨i, f', n', out, hi, rfl, rfl, rfl, hx⟩ := hrel
    obtain ⟨ao, co, hvo⟩ := hx.1.form
    subst hvo
    obtain ⟨lo, hlo⟩ : ∃ lo, out.length = lo := ⟨_, rfl⟩
    rw [hlo] at hx ⊢
    have XR : Hid (PcS w b l f n a L c ta tl wr (.slice ao lo co) i f' n' out ∧ out.length = lo) := ⟨hx, hlo⟩
    clear hx hlo XB p0 p1 p2
    obtain ⟨p0, p1, p2⟩ := box3_facts XR.out.1.2.2.2.2.2.2
    by_cases hlt : i < L
    case neg =>
      have h1 : ¬ (i : Int) < (L : Int) := by omega
      have hil : i = l.length := by have := HS.out.2.1; omega
      have hp := XR.out.1.2.2.1
      rw [hil, List.drop_length] at hp
      have hp2 : pcs b l f n = (out, f', n') := by rw [hp]; simp [pcs]
      have HP : Hid (pcs b l f n = (out, f', n')) := hp2
      clear hlt hi hp hp2 hil
      by_cases hz : f' = 0 ∧ n' = 0
      · obtain ⟨rfl, rfl⟩ := hz
        go_wp2_with fail
        refine bodyPost_ret (v := .tuple #[.slice ao lo co, .bool true]) (by simp [results, Try.results45, go_sem]) rfl ?_
        refine ⟨XR.out.1.2.2.2.2.2.1, .inr ⟨(room_iff b l f n).2 (by rw [HP.out]), _, rfl, ?_⟩⟩
        rw [HP.out]
        exact XR.out.1.1
      · have HRB : Hid (roomB b l f n = false) := by
          show roomB b l f n = false
          cases hrb : roomB b l f n with
          | false => rfl
          | true =>
            have := (room_iff b l f n).1 hrb
            rw [HP.out] at this
            simp only [Prod.mk.injEq] at this
            exact absurd this hz
        by_cases hf0 : f' = 0
        · have g1 : (0 : Int) < (n' : Int) := by omega
          subst hf0
          clear hz
          go_wp2_with fail
          refine bodyPost_ret (v := .tuple #[.slice none 0 0, .bool false]) (by simp [results, Try.results45, go_sem]) rfl ?_
          exact ⟨XR.out.1.2.2.2.2.2.1, .inl ⟨HRB.out, rfl⟩⟩
        · have g1 : (0 : Int) < (f' : Int) := by omega
          clear hz
          go_wp2_with fail
          refine bodyPost_ret (v := .tuple #[.slice none 0 0, .bool false]) (by simp [results, Try.results45, go_sem]) rfl ?_
          exact ⟨XR.out.1.2.2.2.2.2.1, .inl ⟨HRB.out, rfl⟩⟩
    case pos =>
      have h1 : (i : Int) < (L : Int) := by omega
      have hil : i < l.length := by have := HS.out.2.1; omega
      obtain ⟨g, c', hsl, hcl⟩ := HS.out.1.cells (by omega)
      simp only [Value.slice.injEq] at hsl
      obtain ⟨rfl, -, rfl⟩ := hsl
      have hgl : g < w.heap.size := (HS.out.1.lt g rfl).2
      obtain ⟨x1, y1, z1⟩ := hcl i hil
      have x2 := (XR.out.1.2.2.2.2.2.1.cell (p := ⟨g, i * 3, none⟩) hgl).trans x1
      have y2 := (XR.out.1.2.2.2.2.2.1.cell (p := ⟨g, i * 3 + 1, none⟩) hgl).trans y1
      have z2 := (XR.out.1.2.2.2.2.2.1.cell (p := ⟨g, i * 3 + 2, none⟩) hgl).trans z1
      have hso := HS.out.2.2.2 _ (List.getElem_mem hil)
      obtain ⟨sa, hsa⟩ : ∃ sa, (l[i]).a = sa := ⟨_, rfl⟩
      obtain ⟨sl, hsl⟩ : ∃ sl, (l[i]).l = sl := ⟨_, rfl⟩
      obtain ⟨sw, hsw⟩ : ∃ sw, (l[i]).wr = sw := ⟨_, rfl⟩
      rw [hsa] at x2
      rw [hsl] at y2
      rw [hsw] at z2
      have HQ : Hid (∃ hil : i < l.length, (l[i]).a = sa ∧ (l[i]).l = sl ∧ (l[i]).wr = sw) := ⟨hil, hsa, hsl, hsw⟩
      have hin := in_len hso.i
      rw [hsa, hsl] at hin
      have HIN : Hid (sl ≤ 8192 ∧ 2147483648 ≤ sa ∧ sa + sl ≤ 2147491840) := hin
      have HLT : Hid (i < L ∧ L ≤ 1000) := ⟨hlt, by have := HS.out.2; omega⟩
      have hi6 : i ≤ 1000 := by have := HLT.out; omega
      clear x1 y1 z1 hcl hso hsa hsl hsw hgl hin hlt hi hil
      go_upto_region 5 with fail
      have X1 : Hid (PcS w b l f n (some ⟨g, 0, none⟩) L c ta tl (wr.alloc (.cells #[.int .u64 (sa : Int), .int .u64 (sl : Int), .bool sw] 52)) (.slice ao lo co) i f' n' out ∧ (wr.alloc (.cells #[.int .u64 (sa : Int), .int .u64 (sl : Int), .bool sw] 52)).heap[wr.heap.size]? = some (.cells #[.int .u64 (sa : Int), .int .u64 (sl : Int), .bool sw] 52 (0, 0))) := ⟨XR.out.1.below ((Below.refl _ _).alloc (Nat.le_refl _) _), heap_alloc_new _ _⟩
      have HLO : Hid (out.length = lo) := XR.out.2
      clear XR x2 y2 z2 p0 p1 p2
      generalize wr.alloc (.cells #[.int .u64 (sa : Int), .int .u64 (sl : Int), .bool sw] 52) = w1 at *
      generalize wr.heap.size = q at *
      obtain ⟨t0, t1, t2⟩ := box3_facts X1.out.2
      by_cases hwb : sw = b
      case neg =>
        have hne : (sw == b) = false := by simp [hwb]
        go_wp2_with fail
        go_roundw
        case rel => exact ⟨i + 1, f', n', out, HLT.out.1, by go_num, rfl, rfl, X1.out.1.skip HQ.out.1 (by rw [HQ.out.2.2.2]; exact hwb)⟩
        case measure => simp [intOf]; have := HLT.out.1; omega
      have hne : (sw == b) = true := by simp [hwb]
      have HWB : Hid (sw = b) := hwb
      clear hwb
      obtain ⟨sk, hsk⟩ : ∃ sk, sk = min f' sl := ⟨_, rfl⟩
      obtain ⟨df, hdf⟩ : ∃ df, df = sl - sk := ⟨_, rfl⟩
      obtain ⟨tk, htk⟩ : ∃ tk, tk = min n' df := ⟨_, rfl⟩
      have m1 : (if (sl : Int) < (f' : Int) then (sl : Int) else (f' : Int)) = (sk : Int) := by rw [hsk]; exact min_if f' sl
      have m2 : (if sl < f' then (sl : Int) else (f' : Int)) = (sk : Int) := by rw [hsk]; exact min_if2 f' sl
      have m3 : IntKind.u64.wrap ((sl : Int) - (sk : Int)) = (df : Int) := by have := HIN.out; rw [wrap_u64]; omega
      have m4 : (if (df : Int) < (n' : Int) then (df : Int) else (n' : Int)) = (tk : Int) := by rw [htk]; exact min_if n' df
      have m5 : (if df < n' then (df : Int) else (n' : Int)) = (tk : Int) := by rw [htk]; exact min_if2 n' df
      have HF2 : Hid (f' < 18446744073709551616 ∧ n' < 18446744073709551616) := ⟨Nat.lt_of_le_of_lt X1.out.1.2.2.2.1 HFN.out.1, Nat.lt_of_le_of_lt X1.out.1.2.2.2.2.1 HFN.out.2⟩
      have m6 : IntKind.u64.wrap ((f' : Int) - (sk : Int)) = ((f' - sk : Nat) : Int) := by have := HF2.out.1; rw [wrap_u64]; omega
      have m7 : IntKind.u64.wrap ((n' : Int) - (tk : Int)) = ((n' - tk : Nat) : Int) := by have := HF2.out.2; rw [wrap_u64]; omega
      have HK : Hid (sk = min f' sl ∧ tk = min n' (sl - sk)) := ⟨hsk, hdf ▸ htk⟩
      obtain ⟨f2, hf2⟩ : ∃ f2, f' - sk = f2 := ⟨_, rfl⟩
      obtain ⟨n2, hn2⟩ : ∃ n2, n' - tk = n2 := ⟨_, rfl⟩
      rw [hf2] at m6
      rw [hn2] at m7
      obtain ⟨x, hx⟩ : ∃ x, x = sa + sk := ⟨_, rfl⟩
      have m8 : IntKind.u64.wrap ((sa : Int) + (sk : Int)) = (x : Int) := by have := HIN.out; rw [wrap_u64]; omega
      have HX : Hid (x = sa + sk ∧ f' - sk = f2 ∧ n' - tk = n2 ∧ sk + tk ≤ sl) := ⟨hx, hf2, hn2, by omega⟩
      clear hsk hdf htk hf2 hn2 hx
      by_cases htz : tk = 0
      case pos =>
        have e0 : ((tk : Int) == 0) = true := by simp [htz]
        have HZ : Hid (tk = 0) := htz
        clear htz
        go_wp2_with fail
        go_roundw
        case rel => exact ⟨i + 1, f2, n2, out, HLT.out.1, by go_num, rfl, rfl, by
          have hh := HK.out.2
          rw [HZ.out] at hh
          have := X1.out.1.none (sk := sk) HQ.out.1 (by rw [HQ.out.2.2.2]; exact HWB.out) (by rw [HQ.out.2.2.1]; exact HK.out.1) (by rw [HQ.out.2.2.1]; exact hh)
          rw [← HX.out.2.1, ← HX.out.2.2.1, HZ.out]
          exact this⟩
        case measure => simp [intOf]; have := HLT.out.1; omega
      have e0 : ((tk : Int) == 0) = false := by simp; omega
      have HZ : Hid (¬ tk = 0) := htz
      clear htz
      go_upto_region 12 with fail
      have hb2 : Below w1.heap.size w1 (w1.alloc (.cells #[.int .u64 (x : Int), .int .u64 (tk : Int)] 38)) := (Below.refl _ _).alloc (Nat.le_refl _) _
      have X2 : Hid (PcS w b l f n (some ⟨g, 0, none⟩) L c ta tl (w1.alloc (.cells #[.int .u64 (x : Int), .int .u64 (tk : Int)] 38)) (.slice ao lo co) i f' n' out ∧ (w1.alloc (.cells #[.int .u64 (x : Int), .int .u64 (tk : Int)] 38)).heap[w1.heap.size]? = some (.cells #[.int .u64 (x : Int), .int .u64 (tk : Int)] 38 (0, 0))) := ⟨X1.out.1.below hb2, heap_alloc_new _ _⟩
      clear hb2 X1 t0 t1 t2
      generalize w1.alloc (.cells #[.int .u64 (x : Int), .int .u64 (tk : Int)] 38) = w2 at *
      generalize w1.heap.size = q2 at *
      obtain ⟨t0, t1, _, _⟩ := box_facts X2.out.2
      have K55 : Hid (∀ V, Below w.heap.size w V → Calls Try.prog 55 #[.pointer (some ⟨rb, 0, none⟩), .int .u64 (x : Int), .int .u64 (tk : Int)] V fun e w' => e = .returned (.bool true) ∧ w' = V) := by
        intro V hV
        have h1 := HIN.out
        have h2 := HX.out
        have := has_any (HR.out.below hV) (by omega) x tk (by omega) (by omega)
        have hin : inB (x : Int) (tk : Int) 2147483648 ((8192 : Nat) : Int) = true := by
          simp only [inB, Bool.and_eq_true, decide_eq_true_iff]
          omega
        rw [hin] at this
        exact this
      go_upto_region 14 with (go_at_call 55; refine (K55.out _ X2.out.1.2.2.2.2.2.1).mono ?_; rintro e w3 ⟨rfl, hw⟩; rw [hw]; clear hw w3)
      clear K55 m1 m2 m3 m4 m5 m6 m7 m8
      refine wp_region_list ?_
      (refine wpList_step (fun KK hKK => ?_); go_simp; refine hKK _ _ ?_; clear hKK KK)
      (refine wpList_step (fun KK hKK => ?_); go_simp; refine hKK _ _ ?_; clear hKK KK)
      (refine wpList_step (fun KK hKK => ?_); go_simp; refine hKK _ _ ?_; clear hKK KK)
      have hb3 : Below w2.heap.size w2 (w2.alloc (.cells #[.int .u64 (x : Int), .int .u64 (tk : Int)] 38)) := (Below.refl _ _).alloc (Nat.le_refl _) _
      have X3 : Hid (PcS w b l f n (some ⟨g, 0, none⟩) L c ta tl (w2.alloc (.cells #[.int .u64 (x : Int), .int .u64 (tk : Int)] 38)) (.slice ao lo co) i f' n' out) := X2.out.1.below hb3
      have HN3 : Hid (∀ j u, [Value.int .u64 (x : Int), .int .u64 (tk : Int)][j]? = some u → (w2.alloc (.cells #[.int .u64 (x : Int), .int .u64 (tk : Int)] 38)).cell? ((⟨w2.heap.size, 0, none⟩ : Addr).add j) = some u) := two_new w2 (.int .u64 (x : Int)) (.int .u64 (tk : Int)) 38
      clear hb3 X2 t0 t1
      generalize w2.alloc (.cells #[.int .u64 (x : Int), .int .u64 (tk : Int)] 38) = w3 at *
      generalize w2.heap.size = q3 at *
      refine wpList_append_own_at w3 rfl _ _ 54 rfl w.heap.size 38 i0 (.agg #[.int .u64 0, .int .u64 0]) 2 16 Try.underlying54 hi0 hz0 hz1 hz2 rfl (by decide) (.slice ao lo co) lo (spanRow out) rfl (by have := X3.out.1; unfold SpanIn at this; rw [HLO.out] at this; exact this) ⟨q3, 0, none⟩ 1 1 [.int .u64 (x : Int), .int .u64 (tk : Int)] rfl rfl HN3.out (by intro u hu; simp at hu; rcases hu with rfl | rfl <;> rfl) (by have := X3.out.2.1; have := HLO.out; unfold maxLen; omega) (by have := X3.out.2.1; have := HLO.out; omega) X3.out.2.2.2.2.2.1.size ?_
      intro v' w4 hown hgrow hnil hat
      have hbw : Below w.heap.size w w4 := Below.grown X3.out.2.2.2.2.2.1 hgrow X3.out.2.2.2.2.2.1.size (fun g hg => (X3.out.1.lt g hg).1)
      have hbx : w4.heap[w.heap.size]? = some (.cells #[.slice (some ⟨g, 0, none⟩) L c, .int .u64 (ta : Int), .int .u64 (tl : Int)] 40 (0, 0)) := (hgrow.block _ (Array.getElem?_eq_some_iff.1 X3.out.2.2.2.2.2.2).1 (fun e => by have := (X3.out.1.row e.symm X3.out.2.2.2.2.2.2); exact this)).trans X3.out.2.2.2.2.2.2
      have hsp : SpanIn w.heap.size w4 v' (out ++ [(x, tk)]) := by
        unfold SpanIn
        rw [spanRow_snoc, List.length_append, List.length_singleton, HLO.out]
        exact hown
      have X4 : Hid (PcS w b l f n (some ⟨g, 0, none⟩) L c ta tl w4 v' (i + 1) f2 n2 (out ++ [(x, tk)])) := by
        have := X3.out.some (vo2 := v') (V2 := w4) (sk := sk) (tk := tk) HQ.out.1 (by rw [HQ.out.2.2.2]; exact HWB.out) (by rw [HQ.out.2.2.1]; exact HK.out.1) (by rw [HQ.out.2.2.1]; exact HK.out.2) HZ.out (by rw [HQ.out.2.1, ← HX.out.1]; exact hsp) hbw hbx
        rw [HQ.out.2.1, ← HX.out.1, HX.out.2.1, HX.out.2.2.1] at this
        exact this
      clear hbw hbx hsp hown hgrow hnil hat X3
      go_wp2_with fail
      go_roundw
      case rel => exact ⟨i + 1, f2, n2, out ++ [(x, tk)], HLT.out.1, by go_num, rfl, rfl, X4.out⟩
      case measure => simp [intOf]; have := HLT.out.1; omega
end Go.Proofs.Ytcgjfklglckjcaa

/- Gather. -/
namespace Go.Proofs.Ytcgjfklglckjcaa
open Go.RowKit Go.Maps
set_option linter.unusedVariables false
set_option linter.unusedSimpArgs false
set_option maxRecDepth 100000
def row8 (l : List Nat) : List Value := l.map fun x => .int .u8 (x : Nat)
theorem row8_length (l : List Nat) : (row8 l).length = l.length := by simp [row8]
theorem row8_append (k l : List Nat) : row8 (k ++ l) = row8 k ++ row8 l := by simp [row8]
theorem row8_range (f : Nat → Nat) (n : Nat) : row8 ((List.range n).map f) = rowK .u8 f n := by simp [row8, rowK]
theorem row8_get (l : List Nat) (i : Nat) (h : i < l.length) : (row8 l)[i]? = some (.int .u8 (l.getD i 0 : Nat)) := by
  simp [row8, List.getElem?_eq_getElem h, List.getD]
theorem row8_one (l : List Nat) : ∀ u ∈ row8 l, u.oneCell' = true := by
  intro u hu
  simp only [row8, List.mem_map] at hu
  obtain ⟨x, _, rfl⟩ := hu
  rfl
theorem reads8 {w : World} {B : Nat} {v : Value} {l : List Nat} (h : w.ownsRow B 5 1 v l.length (row8 l)) : Reads .u8 w v l.length (fun i => l.getD i 0) := by
  have h' := h
  rcases h'.2 with ⟨rfl, h0⟩ | ⟨g, cap, cur, rfl, _⟩
  · exact .inl ⟨h0, none, 0, by simp⟩
  · refine .inr ⟨g, 0, cap, rfl, fun i hi => ?_⟩
    have := World.ownsRow.cells h (g := g) rfl i _ (row8_get l i hi)
    rw [addr_add] at this
    exact this
theorem own8_form {w : World} {B : Nat} {v : Value} {n : Nat} {xs : List Value} (h : w.ownsRow B 5 1 v n xs) : ∃ a c, v = .slice a n c := by
  rcases h.2 with ⟨hv, h0⟩ | ⟨g, cap, cur, hv, _⟩
  · exact ⟨none, 0, by rw [hv, h0]⟩
  · exact ⟨_, cap, hv⟩
/-- bytes appended to a row of one's own -/
theorem wpList_append_bytes {w : World} {ops : Array Oper} {rest : List Oper} {o : Oper} {a : Act} {Q : Exit → Act → World → Prop} (hgd : o.guard = none) (s x : Operand) (ho : o.op = .call { callee := .builtin .append, args := #[s, x], argTypes := #[64, 64] })
    (B : Nat) (xs : List Nat) (v : Value) (hs : a.eval s = v) (hown : w.ownsRow B 5 1 v xs.length (row8 xs)) (gx cx : Nat) (ys : List Nat) (hx : a.eval x = .slice (some ⟨gx, 0, none⟩) ys.length cx) (hr : w.ownsRow 0 5 1 (.slice (some ⟨gx, 0, none⟩) ys.length cx) ys.length (row8 ys)) (h0 : 0 < ys.length) (hL : xs.length + ys.length ≤ 100000) (hB : B ≤ w.heap.size)
    (h : ∀ g' cap w', w'.ownsRow B 5 1 (.slice (some ⟨g', 0, none⟩) (xs ++ ys).length cap) (xs ++ ys).length (row8 (xs ++ ys)) → Below B w w' → wpList Try.prog ops Q rest (a.put o.dst (.slice (some ⟨g', 0, none⟩) (xs ++ ys).length cap)) w') : wpList Try.prog ops Q (o :: rest) a w := by
  obtain ⟨i0, hi, hz0, hz1, hz2⟩ := info_parts Try.info5
  refine wpList_append_own w hgd s x 64 ho B 5 i0 (.int .u8 0) 1 1 Try.underlying64 hi hz0 hz1 hz2 rfl (by decide) v xs.length (row8 xs) hs hown ⟨gx, 0, none⟩ ys.length cx (row8 ys) hx (by rw [row8_length]; omega) (World.ownsRow.cells hr (g := gx) rfl) (row8_one _) (by unfold maxLen; omega) (by omega) hB ?_
  intro v' w' hown' hgrow hnil
  rw [← row8_append, ← List.length_append] at hown'
  have hlow : ∀ g, v.ownBlock = some g → B ≤ g := fun g hg => (hown.lt g hg).1
  rcases hown'.2 with ⟨rfl, _⟩ | ⟨g', cap, cur, rfl, hb', _⟩
  · have := hnil.1 rfl; omega
  · exact h g' cap w' hown' (Below.grown (Below.refl _ _) hgrow hB hlow)
theorem spanA_take (ps : List (Nat × Nat)) (i : Nat) (hi : i < ps.length) : spanA (ps.take (i + 1)) = spanA (ps.take i) ++ (List.range (ps.getD i (0, 0)).2).map ((ps.getD i (0, 0)).1 + ·) := by
  rw [List.take_add_one, List.getElem?_eq_getElem hi, spanA_append]
  simp [spanA, List.getD, hi]
theorem spanA_len_le (ps : List (Nat × Nat)) (i : Nat) : (spanA (ps.take i)).length ≤ (spanA ps).length := by
  conv => rhs; rw [← List.take_append_drop i ps, spanA_append, List.length_append]
  omega
theorem room_len {b : Bool} {l : List Seg} {f n : Nat} (h : roomB b l f n = true) : (((addrs b l).drop f).take n).length = n := by
  simp only [roomB, decide_eq_true_iff] at h
  rw [List.length_take, List.length_drop, addrs_length]
  omega
/-- what is gathered -/
def gatL (M : Nat → Nat) (l : List Seg) (f n : Nat) : List Nat := (((addrs false l).drop f).take n).map M
set_option maxHeartbeats 4000000 in
theorem gather_any {w : World} {F : Nat → Prop} {rb kk : Nat} {M : Nat → Nat} (hr : RamAt w F rb 8192 kk (.pointer none) M) {a : Option Addr} {L c : Nat} {l : List Seg} (h : SegIn 0 w (.slice a L c) l) (hl : l.length ≤ 1000) (hok : ∀ s ∈ l, SegOk s) (ta tl : Nat) (f n : Nat) (hf : f < 18446744073709551616) (hn : n < 18446744073709551616) (h20 : roomB false l f n = true → n ≤ 2000) :
    Calls Try.prog 22 #[.agg #[.slice a L c, .int .u64 (ta : Int), .int .u64 (tl : Int)], .pointer (some ⟨rb, 0, none⟩), .int .u64 (f : Int), .int .u64 (n : Int)] w fun e w' => Below w.heap.size w w' ∧ ((roomB false l f n = false ∧ e = .returned (.tuple #[.slice none 0 0, .bool false])) ∨ (roomB false l f n = true ∧ ∃ a' c', e = .returned (.tuple #[.slice a' n c', .bool true]) ∧ Reads .u8 w' (.slice a' n c') n (fun i => (gatL M l f n).getD i 0))) := by
  have h2 := heap_alloc_new w (.cells #[.slice a L c, .int .u64 (ta : Int), .int .u64 (tl : Int)] 40)
  have hb : Below w.heap.size w (w.alloc (.cells #[.slice a L c, .int .u64 (ta : Int), .int .u64 (tl : Int)] 40)) := (Below.refl _ _).alloc (Nat.le_refl _) _
  have XB : Hid (Below w.heap.size w (w.alloc (.cells #[.slice a L c, .int .u64 (ta : Int), .int .u64 (tl : Int)] 40)) ∧ (w.alloc (.cells #[.slice a L c, .int .u64 (ta : Int), .int .u64 (tl : Int)] 40)).heap[w.heap.size]? = some (.cells #[.slice a L c, .int .u64 (ta : Int), .int .u64 (tl : Int)] 40 (0, 0))) := ⟨hb, h2⟩
  have K45 : Hid (∀ V, Below w.heap.size w V → Calls Try.prog 45 #[.agg #[.slice a L c, .int .u64 (ta : Int), .int .u64 (tl : Int)], .pointer (some ⟨rb, 0, none⟩), .bool false, .int .u64 (f : Int), .int .u64 (n : Int)] V fun e w' => Below V.heap.size V w' ∧ ((roomB false l f n = false ∧ e = .returned (.tuple #[.slice none 0 0, .bool false])) ∨ (roomB false l f n = true ∧ ∃ vo, e = .returned (.tuple #[vo, .bool true]) ∧ SpanIn V.heap.size w' vo (pcs false l f n).1))) := fun V hV => pieces_any (hr.below hV) (h.kept (fun g hg => hV.block g (h.lt g hg).2)) hl hok ta tl false f n hf hn
  have HR : Hid (RamAt w F rb 8192 kk (.pointer none) M) := hr
  have HP : Hid ((∀ p ∈ (pcs false l f n).1, inB p.1 p.2 2147483648 8192 = true ∧ 0 < p.2 ∧ p.1 < 18446744073709551616 ∧ p.2 ≤ 8192) ∧ (pcs false l f n).1.length ≤ 1000 ∧ spanA (pcs false l f n).1 = ((addrs false l).drop f).take n) := ⟨pcs_ok hok f n, Nat.le_trans (pcs_len false l f n) hl, pcs_span false l f n⟩
  have HN : Hid (roomB false l f n = true → n ≤ 2000) := h20
  clear h2 hb hr h hl hok hf hn h20
  go_enter Try.func22, Try.ntmps22
  go_upto_region 1 with fail
  obtain ⟨p0, p1, p2⟩ := box3_facts XB.out.2
  generalize w.alloc (.cells #[.slice a L c, .int .u64 (ta : Int), .int .u64 (tl : Int)] 40) = v0 at *
  go_upto_region 2 with (go_at_call 45; refine (K45.out _ XB.out.1).mono ?_; rintro e w1 ⟨hb1, hor⟩; rcases hor with ⟨hrb, rfl⟩ | ⟨hrb, vo, rfl, hsp⟩)
  · have X1 : Hid (Below w.heap.size w w1 ∧ roomB false l f n = false) := ⟨below_to XB.out.1 hb1, hrb⟩
    clear hb1 hrb
    go_wp2_with fail
    refine bodyPost_ret (v := .tuple #[.slice none 0 0, .bool false]) (by simp [results, Try.results22, go_sem]) rfl ?_
    exact ⟨X1.out.1, .inl ⟨X1.out.2, rfl⟩⟩
  · obtain ⟨ao, co, hvo⟩ := hsp.form
    subst hvo
    obtain ⟨ps, hps⟩ : ∃ ps, (pcs false l f n).1 = ps := ⟨_, rfl⟩
    rw [hps] at hsp HP ⊢
    obtain ⟨K, hK⟩ : ∃ K, ps.length = K := ⟨_, rfl⟩
    have X1 : Hid (Below w.heap.size w w1 ∧ roomB false l f n = true ∧ SpanIn v0.heap.size w1 (.slice ao ps.length co) ps ∧ n ≤ 2000) := ⟨below_to XB.out.1 hb1, hrb, hsp, HN.out hrb⟩
    rw [hK] at X1 ⊢
    have HK : Hid (ps.length = K ∧ K ≤ 1000 ∧ (spanA ps).length = n) := ⟨hK, by have := HP.out.2.1; omega, by rw [HP.out.2.2]; exact room_len hrb⟩
    clear hb1 hrb hsp hps hK XB p0 p1 p2
    go_wp2_with fail
    go_loopw [12, 29] (fun vb x wr => ∃ i : Nat, i ≤ K ∧ x = .int .i64 (i : Int) ∧ wr.ownsRow w1.heap.size 5 1 vb ((spanA (ps.take i)).map M).length (row8 ((spanA (ps.take i)).map M)) ∧ Below w1.heap.size w1 wr) (fun _ x _ => K - (intOf x).toNat)
    case atStart => exact ⟨0, Nat.zero_le _, rfl, ⟨rfl, .inl ⟨rfl, rfl⟩⟩, Below.refl _ _⟩
    case round =>
      obtain ⟨i, hi, rfl, how, hbr⟩ := hrel
      obtain ⟨m, hm⟩ : ∃ m, ((spanA (ps.take i)).map M).length = m := ⟨_, rfl⟩
      obtain ⟨ab, cb, hvb⟩ := own8_form how
      rw [hm] at hvb
      subst hvb
      have XR : Hid (wr.ownsRow w1.heap.size 5 1 (.slice ab m cb) ((spanA (ps.take i)).map M).length (row8 ((spanA (ps.take i)).map M)) ∧ Below w1.heap.size w1 wr ∧ ((spanA (ps.take i)).map M).length = m) := ⟨how, hbr, hm⟩
      clear how hbr hm
      by_cases hlt : i < K
      case neg =>
        have h1 : ¬ (i : Int) < (K : Int) := by omega
        have hiK : i = ps.length := by have := HK.out.1; omega
        have hmn : m = n := by
          have := XR.out.2.2
          rw [hiK, List.take_length, List.length_map, HK.out.2.2] at this
          exact this.symm
        have hrd := reads8 XR.out.1
        rw [hiK, List.take_length, HP.out.2.2] at hrd
        rw [List.length_map, room_len X1.out.2.1] at hrd
        subst hmn
        have HRD : Hid (Reads .u8 wr (.slice ab m cb) m (fun i => (gatL M l f m).getD i 0)) := hrd
        clear hlt hi hrd hiK
        go_wp2_with fail
        refine bodyPost_ret (v := .tuple #[.slice ab m cb, .bool true]) (by simp [results, Try.results22, go_sem]) rfl ?_
        exact ⟨below_to X1.out.1 XR.out.2.1, .inr ⟨X1.out.2.1, ab, cb, rfl, HRD.out⟩⟩
      case pos =>
        have h1 : (i : Int) < (K : Int) := by omega
        have hil : i < ps.length := by have := HK.out.1; omega
        obtain ⟨g, cg, hsl, hcl⟩ := X1.out.2.2.1.cells (by rw [HK.out.1] at *; omega)
        simp only [Value.slice.injEq] at hsl
        obtain ⟨rfl, -, rfl⟩ := hsl
        have hgl : g < w1.heap.size := (X1.out.2.2.1.lt g rfl).2
        obtain ⟨x1, y1⟩ := hcl i hil
        have x2 := (XR.out.2.1.cell (p := ⟨g, i * 2, none⟩) hgl).trans x1
        have y2 := (XR.out.2.1.cell (p := ⟨g, i * 2 + 1, none⟩) hgl).trans y1
        have hpo := HP.out.1 (ps.getD i (0, 0)) (by simp [List.getD, hil])
        have ht := spanA_take ps i hil
        have hlen := spanA_len_le ps (i + 1)
        rw [HK.out.2.2] at hlen
        obtain ⟨x, hx⟩ : ∃ x, (ps.getD i (0, 0)).1 = x := ⟨_, rfl⟩
        obtain ⟨tk, htk⟩ : ∃ tk, (ps.getD i (0, 0)).2 = tk := ⟨_, rfl⟩
        rw [hx] at x2 ht hpo
        rw [htk] at y2 ht hpo
        have HT : Hid (spanA (ps.take (i + 1)) = spanA (ps.take i) ++ (List.range tk).map (x + ·) ∧ (spanA (ps.take (i + 1))).length ≤ n ∧ 0 < tk ∧ i < K) := ⟨ht, hlen, hpo.2.1, hlt⟩
        have K46 : Hid (∀ V, Below w.heap.size w V → Calls Try.prog 46 #[.pointer (some ⟨rb, 0, none⟩), .int .u64 (x : Int), .int .u64 (tk : Int)] V fun e w' => e = .returned (.tuple #[.slice (some ⟨V.heap.size, 0, none⟩) tk tk, .bool true]) ∧ w'.ownsRow V.heap.size 5 1 (.slice (some ⟨V.heap.size, 0, none⟩) tk tk) tk (rowK .u8 (fun i => M (x + i)) tk) ∧ Below V.heap.size V w') := fun V hV => read_in (HR.out.below hV) (by omega) x tk hpo.2.2.1 (by have := hpo.2.2.2; omega) hpo.1
        have hi6 : i ≤ 1000 := by have := HK.out.2.1; omega
        clear x1 y1 hcl hgl hpo ht hlen hx htk hlt hi hil
        go_upto_region 8 with fail
        have hb2 : Below wr.heap.size wr (wr.alloc (.cells #[.int .u64 (x : Int), .int .u64 (tk : Int)] 38)) := (Below.refl _ _).alloc (Nat.le_refl _) _
        have X2 : Hid ((wr.alloc (.cells #[.int .u64 (x : Int), .int .u64 (tk : Int)] 38)).ownsRow w1.heap.size 5 1 (.slice ab m cb) ((spanA (ps.take i)).map M).length (row8 ((spanA (ps.take i)).map M)) ∧ Below w1.heap.size w1 (wr.alloc (.cells #[.int .u64 (x : Int), .int .u64 (tk : Int)] 38)) ∧ ((spanA (ps.take i)).map M).length = m ∧ (wr.alloc (.cells #[.int .u64 (x : Int), .int .u64 (tk : Int)] 38)).heap[wr.heap.size]? = some (.cells #[.int .u64 (x : Int), .int .u64 (tk : Int)] 38 (0, 0))) := ⟨own_below XR.out.1 hb2, below_to XR.out.2.1 hb2, XR.out.2.2, heap_alloc_new _ _⟩
        clear hb2 XR x2 y2
        generalize wr.alloc (.cells #[.int .u64 (x : Int), .int .u64 (tk : Int)] 38) = w2 at *
        generalize wr.heap.size = q2 at *
        obtain ⟨t0, t1, _, _⟩ := box_facts X2.out.2.2.2
        go_upto_region 9 with (go_at_call 46; refine (K46.out _ (below_to X1.out.1 X2.out.2.1)).mono ?_; rintro e w3 ⟨rfl, ho3, hb3⟩; have X3 : Hid (w3.ownsRow w1.heap.size 5 1 (.slice ab m cb) ((spanA (ps.take i)).map M).length (row8 ((spanA (ps.take i)).map M)) ∧ Below w1.heap.size w1 w3 ∧ ((spanA (ps.take i)).map M).length = m ∧ w3.ownsRow 0 5 1 (.slice (some ⟨w2.heap.size, 0, none⟩) tk tk) tk (rowK .u8 (fun i => M (x + i)) tk)) := ⟨own_below X2.out.1 hb3, below_to X2.out.2.1 hb3, X2.out.2.2.1, own_low ho3 (Nat.zero_le _)⟩; clear ho3 hb3 X2 t0 t1)
        generalize w2.heap.size = gr at *
        refine wp_region_list ?_
        (refine wpList_step (fun KK hKK => ?_); go_simp; refine hKK _ _ ?_; clear hKK KK)
        (refine wpList_step (fun KK hKK => ?_); go_simp; refine hKK _ _ ?_; clear hKK KK)
        have hys : ((List.range tk).map (fun j => M (x + j))).length = tk := by simp
        have hrr := X3.out.2.2.2
        rw [← row8_range] at hrr
        refine wpList_append_bytes rfl _ _ rfl w1.heap.size ((spanA (ps.take i)).map M) (.slice ab m cb) rfl X3.out.1 gr tk ((List.range tk).map (fun j => M (x + j))) (by rw [hys]; rfl) (by rw [hys]; exact hrr) (by rw [hys]; exact HT.out.2.2.1) (by have h1 := HT.out.2.1; rw [HT.out.1] at h1; simp at h1 ⊢; have := X1.out.2.2.2; omega) X3.out.2.1.size ?_
        intro g4 cap4 w4 hown4 hb4
        have e4 : (spanA (ps.take i)).map M ++ (List.range tk).map (fun j => M (x + j)) = (spanA (ps.take (i + 1))).map M := by rw [HT.out.1, List.map_append, List.map_map]; rfl
        rw [e4] at hown4 ⊢
        obtain ⟨m4, hm4⟩ : ∃ m4, ((spanA (ps.take (i + 1))).map M).length = m4 := ⟨_, rfl⟩
        rw [hm4]
        have X4 : Hid (w4.ownsRow w1.heap.size 5 1 (.slice (some ⟨g4, 0, none⟩) m4 cap4) ((spanA (ps.take (i + 1))).map M).length (row8 ((spanA (ps.take (i + 1))).map M)) ∧ Below w1.heap.size w1 w4) := ⟨by rw [← hm4]; exact hown4, X3.out.2.1.trans hb4⟩
        clear hown4 hb4 e4 hrr hys X3 hm4
        go_wp2_with fail
        go_roundw
        case rel => exact ⟨i + 1, HT.out.2.2.2, by go_num, X4.out.1, X4.out.2⟩
        case measure => simp [intOf]; have := HT.out.2.2.2; omega
end Go.Proofs.Ytcgjfklglckjcaa
