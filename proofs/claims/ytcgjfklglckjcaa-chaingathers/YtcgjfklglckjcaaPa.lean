/- Sizes on both sides. -/
import Derived.Test.YtcgjfklglckjcaaCp
import Derived.Test.YtcgjfklglckjcaaSa
namespace Go.Proofs.Ytcgjfklglckjcaa
open Go.RowKit Go.Maps
set_option linter.unusedVariables false
set_option linter.unusedSimpArgs false
set_option maxRecDepth 100000
set_option maxHeartbeats 2000000 in
theorem psizes_any {w : World} {a : Option Addr} {L c : Nat} {l : List Seg} (h : SegIn 0 w (.slice a L c) l) (hl : l.length ≤ 1000) (hok : ∀ s ∈ l, SegOk s) (ta tl : Nat) : Calls Try.prog 20 #[.agg #[.slice a L c, .int .u64 (ta : Int), .int .u64 (tl : Int)]] w fun e w' => e = .returned (.tuple #[.int .u64 (sizeN false l : Int), .int .u64 (sizeN true l : Int)]) ∧ Below w.heap.size w w' := by
  have hLl : L = l.length := by
    obtain ⟨a2, c2, h⟩ := h.form
    simp only [Value.slice.injEq] at h
    exact h.2.1
  have h2 := heap_alloc_new w (.cells #[.slice a L c, .int .u64 (ta : Int), .int .u64 (tl : Int)] 40)
  have hb : Below w.heap.size w (w.alloc (.cells #[.slice a L c, .int .u64 (ta : Int), .int .u64 (tl : Int)] 40)) := (Below.refl _ _).alloc (Nat.le_refl _) _
  have XB : Hid (Below w.heap.size w (w.alloc (.cells #[.slice a L c, .int .u64 (ta : Int), .int .u64 (tl : Int)] 40)) ∧ (w.alloc (.cells #[.slice a L c, .int .u64 (ta : Int), .int .u64 (tl : Int)] 40)).heap[w.heap.size]? = some (.cells #[.slice a L c, .int .u64 (ta : Int), .int .u64 (tl : Int)] 40 (0, 0))) := ⟨hb, h2⟩
  have HS : Hid (SegIn 0 w (.slice a L c) l ∧ L = l.length ∧ l.length ≤ 1000 ∧ ∀ s ∈ l, SegOk s) := ⟨h, hLl, hl, hok⟩
  clear h hLl hl hok h2 hb
  go_enter Try.func20, Try.ntmps20
  go_upto_region 1 with fail
  obtain ⟨p0, p1, p2⟩ := box3_facts XB.out.2
  generalize w.alloc (.cells #[.slice a L c, .int .u64 (ta : Int), .int .u64 (tl : Int)] 40) = v0 at *
  go_wp2_with fail
  go_loopw [4, 5, 11] (fun r q x wr => ∃ i : Nat, i ≤ L ∧ x = .int .i64 (i : Int) ∧ r = .int .u64 (sizeN false (l.take i) : Int) ∧ q = .int .u64 (sizeN true (l.take i) : Int) ∧ Below w.heap.size w wr ∧ wr.heap[w.heap.size]? = some (.cells #[.slice a L c, .int .u64 (ta : Int), .int .u64 (tl : Int)] 40 (0, 0))) (fun _ _ x _ => L - (intOf x).toNat)
  case atStart => exact ⟨0, Nat.zero_le _, rfl, rfl, rfl, XB.out⟩
  case round =>
    obtain ⟨i, hi, rfl, rfl, rfl, hbr⟩ := hrel
    have XR : Hid (Below w.heap.size w wr ∧ wr.heap[w.heap.size]? = some (.cells #[.slice a L c, .int .u64 (ta : Int), .int .u64 (tl : Int)] 40 (0, 0))) := hbr
    clear hbr XB p0 p1 p2
    obtain ⟨p0, p1, p2⟩ := box3_facts XR.out.2
    by_cases hlt : i < L
    case neg =>
      have h1 : ¬ (i : Int) < (L : Int) := by omega
      have hil : i = l.length := by have := HS.out.2.1; omega
      subst hil
      rw [List.take_length]
      clear hlt hi
      go_wp2_with fail
      refine bodyPost_ret (v := .tuple #[.int .u64 (sizeN false l : Int), .int .u64 (sizeN true l : Int)]) (by simp [results, Try.results20, go_sem]) rfl ⟨rfl, XR.out.1⟩
    case pos =>
      have h1 : (i : Int) < (L : Int) := by omega
      have hil : i < l.length := by have := HS.out.2.1; omega
      obtain ⟨g, c', hsl, hcl⟩ := HS.out.1.cells (by omega)
      simp only [Value.slice.injEq] at hsl
      obtain ⟨rfl, -, rfl⟩ := hsl
      have hgl : g < w.heap.size := (HS.out.1.lt g rfl).2
      obtain ⟨x1, y1, z1⟩ := hcl i hil
      have x2 := (XR.out.1.cell (p := ⟨g, i * 3, none⟩) hgl).trans x1
      have y2 := (XR.out.1.cell (p := ⟨g, i * 3 + 1, none⟩) hgl).trans y1
      have z2 := (XR.out.1.cell (p := ⟨g, i * 3 + 2, none⟩) hgl).trans z1
      have hso := HS.out.2.2.2 _ (List.getElem_mem hil)
      have T0 := sizeN_take false l i hil
      have T1 := sizeN_take true l i hil
      have U0 : sizeN false (l.take i) + (l[i]).l ≤ 9000000 := by
        have := sizeN_le false (l.take i) (fun s hs => HS.out.2.2.2 s (List.mem_of_mem_take hs))
        have := HS.out.2.2.1
        have := hso.l
        simp only [List.length_take] at *
        omega
      have U1 : sizeN true (l.take i) + (l[i]).l ≤ 9000000 := by
        have := sizeN_le true (l.take i) (fun s hs => HS.out.2.2.2 s (List.mem_of_mem_take hs))
        have := HS.out.2.2.1
        have := hso.l
        simp only [List.length_take] at *
        omega
      generalize (l[i]).a = sa at *
      generalize (l[i]).l = sl at *
      generalize (l[i]).wr = sw at *
      generalize sizeN false (l.take i) = n0 at *
      generalize sizeN true (l.take i) = n1 at *
      have W0 : IntKind.u64.wrap ((n0 : Int) + (sl : Int)) = ((n0 + sl : Nat) : Int) := by rw [wrap_u64]; omega
      have W1 : IntKind.u64.wrap ((n1 : Int) + (sl : Int)) = ((n1 + sl : Nat) : Int) := by rw [wrap_u64]; omega
      obtain ⟨m0, hm0⟩ : ∃ m0, n0 + sl = m0 := ⟨_, rfl⟩
      obtain ⟨m1, hm1⟩ : ∃ m1, n1 + sl = m1 := ⟨_, rfl⟩
      rw [hm0] at W0
      rw [hm1] at W1
      have HT : Hid (sizeN false (l.take (i + 1)) = n0 + (if sw = false then sl else 0) ∧ sizeN true (l.take (i + 1)) = n1 + (if sw = true then sl else 0) ∧ n0 + sl = m0 ∧ n1 + sl = m1 ∧ i < L ∧ L ≤ 1000) := ⟨T0, T1, hm0, hm1, hlt, by have := HS.out.2; omega⟩
      have hi6 : i ≤ 1000 := by have := HS.out.2; omega
      clear T0 T1 U0 U1 hm0 hm1 hso x1 y1 z1 hcl hil hi hlt
      cases sw with
      | false =>
        go_wp2_with fail
        go_roundw
        case rel => exact ⟨i + 1, HT.out.2.2.2.2.1, by go_num, by rw [HT.out.1, ← HT.out.2.2.1]; rfl, by rw [HT.out.2.1]; rfl, XR.out.1.alloc XR.out.1.size _, below_box XR.out.2 ((Below.refl _ _).alloc (Nat.le_refl _) _)⟩
        case measure => simp [intOf]; have := HT.out.2.2.2.2.1; omega
      | true =>
        go_wp2_with fail
        go_roundw
        case rel => exact ⟨i + 1, HT.out.2.2.2.2.1, by go_num, by rw [HT.out.1]; rfl, by rw [HT.out.2.1, ← HT.out.2.2.2.1]; rfl, XR.out.1.alloc XR.out.1.size _, below_box XR.out.2 ((Below.refl _ _).alloc (Nat.le_refl _) _)⟩
        case measure => simp [intOf]; have := HT.out.2.2.2.2.1; omega
set_option maxHeartbeats 2000000 in
theorem dsizes_any {w : World} {a : Option Addr} {L c : Nat} {l : List Seg} (h : SegIn 0 w (.slice a L c) l) (hl : l.length ≤ 1000) (hok : ∀ s ∈ l, SegOk s) (ta tl : Nat) : Calls Try.prog 21 #[.agg #[.slice a L c, .int .u64 (ta : Int), .int .u64 (tl : Int)]] w fun e w' => e = .returned (.tuple #[.int .u64 (sizeN false l : Int), .int .u64 (sizeN true l : Int)]) ∧ Below w.heap.size w w' := by
  have hLl : L = l.length := by
    obtain ⟨a2, c2, h⟩ := h.form
    simp only [Value.slice.injEq] at h
    exact h.2.1
  have h2 := heap_alloc_new w (.cells #[.slice a L c, .int .u64 (ta : Int), .int .u64 (tl : Int)] 44)
  have hb : Below w.heap.size w (w.alloc (.cells #[.slice a L c, .int .u64 (ta : Int), .int .u64 (tl : Int)] 44)) := (Below.refl _ _).alloc (Nat.le_refl _) _
  have XB : Hid (Below w.heap.size w (w.alloc (.cells #[.slice a L c, .int .u64 (ta : Int), .int .u64 (tl : Int)] 44)) ∧ (w.alloc (.cells #[.slice a L c, .int .u64 (ta : Int), .int .u64 (tl : Int)] 44)).heap[w.heap.size]? = some (.cells #[.slice a L c, .int .u64 (ta : Int), .int .u64 (tl : Int)] 44 (0, 0))) := ⟨hb, h2⟩
  have HS : Hid (SegIn 0 w (.slice a L c) l ∧ L = l.length ∧ l.length ≤ 1000 ∧ ∀ s ∈ l, SegOk s) := ⟨h, hLl, hl, hok⟩
  clear h hLl hl hok h2 hb
  go_enter Try.func21, Try.ntmps21
  go_upto_region 1 with fail
  obtain ⟨p0, p1, p2⟩ := box3_facts XB.out.2
  generalize w.alloc (.cells #[.slice a L c, .int .u64 (ta : Int), .int .u64 (tl : Int)] 44) = v0 at *
  go_wp2_with fail
  go_loopw [4, 5, 6] (fun r q x wr => ∃ i : Nat, i ≤ L ∧ x = .int .i64 (i : Int) ∧ r = .int .u64 (sizeN false (l.take i) : Int) ∧ q = .int .u64 (sizeN true (l.take i) : Int) ∧ Below w.heap.size w wr ∧ wr.heap[w.heap.size]? = some (.cells #[.slice a L c, .int .u64 (ta : Int), .int .u64 (tl : Int)] 44 (0, 0))) (fun _ _ x _ => L - (intOf x).toNat)
  case atStart => exact ⟨0, Nat.zero_le _, rfl, rfl, rfl, XB.out⟩
  case round =>
    obtain ⟨i, hi, rfl, rfl, rfl, hbr⟩ := hrel
    have XR : Hid (Below w.heap.size w wr ∧ wr.heap[w.heap.size]? = some (.cells #[.slice a L c, .int .u64 (ta : Int), .int .u64 (tl : Int)] 44 (0, 0))) := hbr
    clear hbr XB p0 p1 p2
    obtain ⟨p0, p1, p2⟩ := box3_facts XR.out.2
    by_cases hlt : i < L
    case neg =>
      have h1 : ¬ (i : Int) < (L : Int) := by omega
      have hil : i = l.length := by have := HS.out.2.1; omega
      subst hil
      rw [List.take_length]
      clear hlt hi
      go_wp2_with fail
      refine bodyPost_ret (v := .tuple #[.int .u64 (sizeN false l : Int), .int .u64 (sizeN true l : Int)]) (by simp [results, Try.results21, go_sem]) rfl ⟨rfl, XR.out.1⟩
    case pos =>
      have h1 : (i : Int) < (L : Int) := by omega
      have hil : i < l.length := by have := HS.out.2.1; omega
      obtain ⟨g, c', hsl, hcl⟩ := HS.out.1.cells (by omega)
      simp only [Value.slice.injEq] at hsl
      obtain ⟨rfl, -, rfl⟩ := hsl
      have hgl : g < w.heap.size := (HS.out.1.lt g rfl).2
      obtain ⟨x1, y1, z1⟩ := hcl i hil
      have x2 := (XR.out.1.cell (p := ⟨g, i * 3, none⟩) hgl).trans x1
      have y2 := (XR.out.1.cell (p := ⟨g, i * 3 + 1, none⟩) hgl).trans y1
      have z2 := (XR.out.1.cell (p := ⟨g, i * 3 + 2, none⟩) hgl).trans z1
      have hso := HS.out.2.2.2 _ (List.getElem_mem hil)
      have T0 := sizeN_take false l i hil
      have T1 := sizeN_take true l i hil
      have U0 : sizeN false (l.take i) + (l[i]).l ≤ 9000000 := by
        have := sizeN_le false (l.take i) (fun s hs => HS.out.2.2.2 s (List.mem_of_mem_take hs))
        have := HS.out.2.2.1
        have := hso.l
        simp only [List.length_take] at *
        omega
      have U1 : sizeN true (l.take i) + (l[i]).l ≤ 9000000 := by
        have := sizeN_le true (l.take i) (fun s hs => HS.out.2.2.2 s (List.mem_of_mem_take hs))
        have := HS.out.2.2.1
        have := hso.l
        simp only [List.length_take] at *
        omega
      generalize (l[i]).a = sa at *
      generalize (l[i]).l = sl at *
      generalize (l[i]).wr = sw at *
      generalize sizeN false (l.take i) = n0 at *
      generalize sizeN true (l.take i) = n1 at *
      have W0 : IntKind.u64.wrap ((n0 : Int) + (sl : Int)) = ((n0 + sl : Nat) : Int) := by rw [wrap_u64]; omega
      have W1 : IntKind.u64.wrap ((n1 : Int) + (sl : Int)) = ((n1 + sl : Nat) : Int) := by rw [wrap_u64]; omega
      obtain ⟨m0, hm0⟩ : ∃ m0, n0 + sl = m0 := ⟨_, rfl⟩
      obtain ⟨m1, hm1⟩ : ∃ m1, n1 + sl = m1 := ⟨_, rfl⟩
      rw [hm0] at W0
      rw [hm1] at W1
      have HT : Hid (sizeN false (l.take (i + 1)) = n0 + (if sw = false then sl else 0) ∧ sizeN true (l.take (i + 1)) = n1 + (if sw = true then sl else 0) ∧ n0 + sl = m0 ∧ n1 + sl = m1 ∧ i < L ∧ L ≤ 1000) := ⟨T0, T1, hm0, hm1, hlt, by have := HS.out.2; omega⟩
      have hi6 : i ≤ 1000 := by have := HS.out.2; omega
      clear T0 T1 U0 U1 hm0 hm1 hso x1 y1 z1 hcl hil hi hlt
      cases sw with
      | false =>
        go_wp2_with fail
        go_roundw
        case rel => exact ⟨i + 1, HT.out.2.2.2.2.1, by go_num, by rw [HT.out.1, ← HT.out.2.2.1]; rfl, by rw [HT.out.2.1]; rfl, XR.out⟩
        case measure => simp [intOf]; have := HT.out.2.2.2.2.1; omega
      | true =>
        go_wp2_with fail
        go_roundw
        case rel => exact ⟨i + 1, HT.out.2.2.2.2.1, by go_num, by rw [HT.out.1]; rfl, by rw [HT.out.2.1, ← HT.out.2.2.2.1]; rfl, XR.out⟩
        case measure => simp [intOf]; have := HT.out.2.2.2.2.1; omega
end Go.Proofs.Ytcgjfklglckjcaa
