/- The document's place and Gather. -/
import Derived.Test.YtcgjfklglckjcaaPc
namespace Go.Proofs.Ytcgjfklglckjcaa
open Go.RowKit Go.Maps
set_option linter.unusedVariables false
set_option linter.unusedSimpArgs false
set_option maxRecDepth 100000
theorem addrs_lt {b : Bool} {s : Seg} {l : List Seg} {m : Nat} (h : s.wr = b) (hm : m < s.l) : (addrs b (s :: l)).getD m 0 = s.a + m := by
  rw [addrs_cons, if_pos h]
  simp [List.getD, List.getElem?_append_left, hm]
theorem addrs_ge {b : Bool} {s : Seg} {l : List Seg} {m : Nat} (h : s.wr = b) (hm : ¬ m < s.l) : (addrs b (s :: l)).getD m 0 = (addrs b l).getD (m - s.l) 0 := by
  rw [addrs_cons, if_pos h]
  simp only [List.getD]
  rw [List.getElem?_append_right (by simp; omega)]
  simp
theorem addrs_ot {b : Bool} {s : Seg} {l : List Seg} (h : ¬ s.wr = b) : addrs b (s :: l) = addrs b l := by rw [addrs_cons, if_neg h, List.nil_append]
def PlS (w : World) (b : Bool) (l : List Seg) (m : Nat) (a : Option Addr) (L c ta tl : Nat) (V : World) (i m' : Nat) : Prop := (addrs b l).getD m 0 = (addrs b (l.drop i)).getD m' 0 ∧ m' ≤ m ∧ Below w.heap.size w V ∧ V.heap[w.heap.size]? = some (.cells #[.slice a L c, .int .u64 (ta : Int), .int .u64 (tl : Int)] 44 (0, 0))
set_option maxHeartbeats 2000000 in
theorem place_any {w : World} {a : Option Addr} {L c : Nat} {l : List Seg} (h : SegIn 0 w (.slice a L c) l) (hl : l.length ≤ 1000) (hok : ∀ s ∈ l, SegOk s) (ta tl m : Nat) (hm : m < 18446744073709551616) (b : Bool) : Calls Try.prog 48 #[.agg #[.slice a L c, .int .u64 (ta : Int), .int .u64 (tl : Int)], .int .u64 (m : Int), .bool b] w fun e w' => e = .returned (.int .u64 ((addrs b l).getD m 0 : Nat)) ∧ Below w.heap.size w w' := by
  have hLl : L = l.length := by
    obtain ⟨a2, c2, h⟩ := h.form
    simp only [Value.slice.injEq] at h
    exact h.2.1
  have h2 := heap_alloc_new w (.cells #[.slice a L c, .int .u64 (ta : Int), .int .u64 (tl : Int)] 44)
  have hb : Below w.heap.size w (w.alloc (.cells #[.slice a L c, .int .u64 (ta : Int), .int .u64 (tl : Int)] 44)) := (Below.refl _ _).alloc (Nat.le_refl _) _
  have XB : Hid (PlS w b l m a L c ta tl (w.alloc (.cells #[.slice a L c, .int .u64 (ta : Int), .int .u64 (tl : Int)] 44)) 0 m) := ⟨rfl, Nat.le_refl _, hb, h2⟩
  have HS : Hid (SegIn 0 w (.slice a L c) l ∧ L = l.length ∧ l.length ≤ 1000 ∧ (∀ s ∈ l, SegOk s) ∧ m < 18446744073709551616) := ⟨h, hLl, hl, hok, hm⟩
  obtain ⟨res, hres⟩ : ∃ res, (addrs b l).getD m 0 = res := ⟨_, rfl⟩
  rw [hres]
  have HRES : Hid ((addrs b l).getD m 0 = res) := hres
  clear h hLl hl hok h2 hb hm hres
  go_enter Try.func48, Try.ntmps48
  go_upto_region 1 with fail
  obtain ⟨p0, p1, p2⟩ := box3_facts XB.out.2.2.2
  generalize w.alloc (.cells #[.slice a L c, .int .u64 (ta : Int), .int .u64 (tl : Int)] 44) = v0 at *
  go_wp2_with fail
  go_loopw [1, 7] (fun vm x wr => ∃ (i m' : Nat), i ≤ L ∧ x = .int .i64 (i : Int) ∧ vm = .int .u64 (m' : Int) ∧ PlS w b l m a L c ta tl wr i m') (fun _ x _ => L - (intOf x).toNat)
  case atStart => exact ⟨0, m, Nat.zero_le _, rfl, rfl, XB.out⟩
  case round =>
    obtain ⟨i, m', hi, rfl, rfl, hx⟩ := hrel
    have XR : Hid (PlS w b l m a L c ta tl wr i m') := hx
    clear hx XB p0 p1 p2
    obtain ⟨p0, p1, p2⟩ := box3_facts XR.out.2.2.2
    by_cases hlt : i < L
    case neg =>
      have h1 : ¬ (i : Int) < (L : Int) := by omega
      have hr0 : res = 0 := by
        have hil : i = l.length := by have := HS.out.2.1; omega
        have := XR.out.1
        rw [hil, List.drop_length, HRES.out] at this
        rw [this]; rfl
      subst hr0
      clear hlt hi
      go_wp2_with fail
      go_ret
      exact ⟨rfl, XR.out.2.2.1⟩
    case pos =>
      have h1 : (i : Int) < (L : Int) := by omega
      have hil : i < l.length := by have := HS.out.2.1; omega
      obtain ⟨g, c', hsl, hcl⟩ := HS.out.1.cells (by omega)
      simp only [Value.slice.injEq] at hsl
      obtain ⟨rfl, -, rfl⟩ := hsl
      have hgl : g < w.heap.size := (HS.out.1.lt g rfl).2
      obtain ⟨x1, y1, z1⟩ := hcl i hil
      have x2 := (XR.out.2.2.1.cell (p := ⟨g, i * 3, none⟩) hgl).trans x1
      have y2 := (XR.out.2.2.1.cell (p := ⟨g, i * 3 + 1, none⟩) hgl).trans y1
      have z2 := (XR.out.2.2.1.cell (p := ⟨g, i * 3 + 2, none⟩) hgl).trans z1
      have hso := HS.out.2.2.2.1 _ (List.getElem_mem hil)
      have hdr := XR.out.1
      rw [HRES.out, drop_cons hil] at hdr
      obtain ⟨sa, hsa⟩ : ∃ sa, (l[i]).a = sa := ⟨_, rfl⟩
      obtain ⟨sl, hsl⟩ : ∃ sl, (l[i]).l = sl := ⟨_, rfl⟩
      obtain ⟨sw, hsw⟩ : ∃ sw, (l[i]).wr = sw := ⟨_, rfl⟩
      have hin := in_len hso.i
      rw [hsa, hsl] at hin
      have H0 : Hid (¬ sw = b → res = (addrs b (l.drop (i + 1))).getD m' 0) := fun h => by rw [hdr, addrs_ot (by rw [hsw]; exact h)]
      have H1 : Hid (sw = b → m' < sl → res = sa + m') := fun h h2 => by rw [hdr, addrs_lt (by rw [hsw]; exact h) (by rw [hsl]; exact h2), hsa]
      have H2 : Hid (sw = b → ¬ m' < sl → res = (addrs b (l.drop (i + 1))).getD (m' - sl) 0) := fun h h2 => by rw [hdr, addrs_ge (by rw [hsw]; exact h) (by rw [hsl]; exact h2), hsl]
      rw [hsa] at x2
      rw [hsl] at y2
      rw [hsw] at z2
      have HIN : Hid (sl ≤ 8192 ∧ 2147483648 ≤ sa ∧ sa + sl ≤ 2147491840 ∧ m' < 18446744073709551616 ∧ i < L ∧ L ≤ 1000) := ⟨hin.1, hin.2.1, hin.2.2, Nat.lt_of_le_of_lt XR.out.2.1 HS.out.2.2.2.2, hlt, by have := HS.out.2; omega⟩
      have hi6 : i ≤ 1000 := by have := HIN.out.2.2.2.2; omega
      clear x1 y1 z1 hcl hso hsa hsl hsw hgl hin hlt hi hil hdr
      go_upto_region 5 with fail
      have hb1 : Below wr.heap.size wr (wr.alloc (.cells #[.int .u64 (sa : Int), .int .u64 (sl : Int), .bool sw] 52)) := (Below.refl _ _).alloc (Nat.le_refl _) _
      have X1 : Hid (m' ≤ m ∧ Below w.heap.size w (wr.alloc (.cells #[.int .u64 (sa : Int), .int .u64 (sl : Int), .bool sw] 52)) ∧ (wr.alloc (.cells #[.int .u64 (sa : Int), .int .u64 (sl : Int), .bool sw] 52)).heap[w.heap.size]? = some (.cells #[.slice (some ⟨g, 0, none⟩) L c, .int .u64 (ta : Int), .int .u64 (tl : Int)] 44 (0, 0)) ∧ (wr.alloc (.cells #[.int .u64 (sa : Int), .int .u64 (sl : Int), .bool sw] 52)).heap[wr.heap.size]? = some (.cells #[.int .u64 (sa : Int), .int .u64 (sl : Int), .bool sw] 52 (0, 0))) := ⟨XR.out.2.1, below_to XR.out.2.2.1 hb1, below_box XR.out.2.2.2 hb1, heap_alloc_new _ _⟩
      clear XR x2 y2 z2 p0 p1 p2 hb1
      generalize wr.alloc (.cells #[.int .u64 (sa : Int), .int .u64 (sl : Int), .bool sw] 52) = w1 at *
      generalize wr.heap.size = q at *
      obtain ⟨t0, t1, t2⟩ := box3_facts X1.out.2.2.2
      by_cases hwb : sw = b
      case neg =>
        have hne : (sw == b) = false := by simp [hwb]
        have HX := H0.out hwb
        have HXX : Hid (res = (addrs b (l.drop (i + 1))).getD m' 0) := HX
        clear HX
        go_wp2_with fail
        go_roundw
        case rel => exact ⟨i + 1, m', HIN.out.2.2.2.2.1, by go_num, rfl, HRES.out.trans HXX.out, X1.out.1, X1.out.2.1, X1.out.2.2.1⟩
        case measure => simp [intOf]; have := HIN.out.2.2.2.2.1; omega
      have hne : (sw == b) = true := by simp [hwb]
      by_cases hml : m' < sl
      · have g1 : (m' : Int) < (sl : Int) := by omega
        have HX : Hid (res = sa + m') := H1.out hwb hml
        have W1 : IntKind.u64.wrap ((sa : Int) + (m' : Int)) = (res : Int) := by have := HIN.out; have := HX.out; rw [wrap_u64]; omega
        clear hml hwb
        go_wp2_with fail
        go_ret
        exact ⟨rfl, X1.out.2.1⟩
      · have g1 : ¬ (m' : Int) < (sl : Int) := by omega
        have HX : Hid (res = (addrs b (l.drop (i + 1))).getD (m' - sl) 0) := H2.out hwb hml
        obtain ⟨m2, hm2⟩ : ∃ m2, m' - sl = m2 := ⟨_, rfl⟩
        have W1 : IntKind.u64.wrap ((m' : Int) - (sl : Int)) = (m2 : Int) := by have := HIN.out; rw [wrap_u64]; omega
        have HM2 : Hid (m' - sl = m2 ∧ m2 ≤ m') := ⟨hm2, by omega⟩
        clear hml hwb hm2
        go_wp2_with fail
        go_roundw
        case rel => exact ⟨i + 1, m2, HIN.out.2.2.2.2.1, by go_num, rfl, by rw [HRES.out, HX.out, HM2.out.1], Nat.le_trans HM2.out.2 X1.out.1, X1.out.2.1, X1.out.2.2.1⟩
        case measure => simp [intOf]; have := HIN.out.2.2.2.2.1; omega
end Go.Proofs.Ytcgjfklglckjcaa
