/- Texts put together. -/
import Derived.Test.YtmjdnocilbnoaaaGreatYe
import Derived.Test.YtmjdnocilbnoaaaGreatYc
import Derived.BigQuiet
import Derived.Deep.QuietTactic
import Derived.Test.YtmjdnocilbnoaaaGreatYf
/- The document's place and Gather. -/
namespace Go.Proofs.YtmjdnocilbnoaaaGreat
open Go.RowKit Go.Maps
set_option linter.unusedVariables false
set_option linter.unusedSimpArgs false
set_option maxRecDepth 100000
theorem addrs_lt {b : Bool} {s : Seg} {l : List Seg} {m : Nat} (h : s.wr = b) (hm : m < s.l) : (addrs b (s :: l)).getD m 0 = s.a + m := by
  rw [addrs_cons, if_pos h]
  simp [List.getD, List.getElem?_append_left, hm]
theorem addrs_ge {b : Bool} {s : Seg} {l : List Seg} {m : Nat} (h : s.wr = b) (hm : ¬ m < s.l) : (addrs b (s :: l)).getD m 0 = (addrs b l).getD (m - s.l) 0 := by
  rw [addrs_cons, if_pos h]
  simp only [List.getD]
  rw [List.getElem?_append_right (by simp; omega)]
  simp
theorem addrs_ot {b : Bool} {s : Seg} {l : List Seg} (h : ¬ s.wr = b) : addrs b (s :: l) = addrs b l := by rw [addrs_cons, if_neg h, List.nil_append]
def PlS (w : World) (b : Bool) (l : List Seg) (m : Nat) (a : Option Addr) (L c ta tl : Nat) (V : World) (i m' : Nat) : Prop := (addrs b l).getD m 0 = (addrs b (l.drop i)).getD m' 0 ∧ m' ≤ m ∧ Below w.heap.size w V ∧ V.heap[w.heap.size]? = some (.cells #[.slice a L c, .int .u64 (ta : Int), .int .u64 (tl : Int)] 64 (0, 0))
set_option maxHeartbeats 2000000 in
theorem place_any {w : World} {a : Option Addr} {L c : Nat} {l : List Seg} (h : SegIn 0 w (.slice a L c) l) (hl : l.length ≤ 1000) (hok : ∀ s ∈ l, SegOk s) (ta tl m : Nat) (hm : m < 18446744073709551616) (b : Bool) : Calls Tryz.prog 99 #[.agg #[.slice a L c, .int .u64 (ta : Int), .int .u64 (tl : Int)], .int .u64 (m : Int), .bool b] w fun e w' => e = .returned (.int .u64 ((addrs b l).getD m 0 : Nat)) ∧ Below w.heap.size w w' := by
  have hLl : L = l.length := by
    obtain ⟨a2, c2, h⟩ := h.form
    simp only [Value.slice.injEq] at h
    exact h.2.1
  have h2 := heap_alloc_new w (.cells #[.slice a L c, .int .u64 (ta : Int), .int .u64 (tl : Int)] 64)
  have hb : Below w.heap.size w (w.alloc (.cells #[.slice a L c, .int .u64 (ta : Int), .int .u64 (tl : Int)] 64)) := (Below.refl _ _).alloc (Nat.le_refl _) _
  have XB : Hid (PlS w b l m a L c ta tl (w.alloc (.cells #[.slice a L c, .int .u64 (ta : Int), .int .u64 (tl : Int)] 64)) 0 m) := ⟨rfl, Nat.le_refl _, hb, h2⟩
  have HS : Hid (SegIn 0 w (.slice a L c) l ∧ L = l.length ∧ l.length ≤ 1000 ∧ (∀ s ∈ l, SegOk s) ∧ m < 18446744073709551616) := ⟨h, hLl, hl, hok, hm⟩
  obtain ⟨res, hres⟩ : ∃ res, (addrs b l).getD m 0 = res := ⟨_, rfl⟩
  rw [hres]
  have HRES : Hid ((addrs b l).getD m 0 = res) := hres
  clear h hLl hl hok h2 hb hm hres
  go_enter Tryz.func99, Tryz.ntmps99
  go_upto_region 1 with fail
  obtain ⟨p0, p1, p2⟩ := box3_facts XB.out.2.2.2
  generalize w.alloc (.cells #[.slice a L c, .int .u64 (ta : Int), .int .u64 (tl : Int)] 64) = v0 at *
  go_wp2_with fail
  go_loopw [1, 7] (fun vm x wr => ∃ (i m' : Nat), i ≤ L ∧ x = .int .i64 (i : Int) ∧ vm = .int .u64 (m' : Int) ∧ PlS w b l m a L c ta tl wr i m') (fun _ x _ => L - (intOf x).toNat)
  case atStart => exact ⟨0, m, Nat.zero_le _, rfl, rfl, XB.out⟩
  case round =>
    obtain ⟨i, m', hi, rfl, rfl, hx⟩ := hrel
    have XR : Hid (PlS w b l m a L c ta tl wr i m') := hx
    clear hx XB p0 p1 p2
    obtain ⟨p0, p1, p2⟩ := box3_facts XR.out.2.2.2
    by_cases hlt : i < L
    case neg =>
      have h1 : ¬ (i : Int) < (L : Int) := by omega
      have hr0 : res = 0 := by
        have hil : i = l.length := by have := HS.out.2.1; omega
        have := XR.out.1
        rw [hil, List.drop_length, HRES.out] at this
        rw [this]; rfl
      subst hr0
      clear hlt hi
      go_wp2_with fail
      go_ret
      exact ⟨rfl, XR.out.2.2.1⟩
    case pos =>
      have h1 : (i : Int) < (L : Int) := by omega
      have hil : i < l.length := by have := HS.out.2.1; omega
      obtain ⟨g, c', hsl, hcl⟩ := HS.out.1.cells (by omega)
      simp only [Value.slice.injEq] at hsl
      obtain ⟨rfl, -, rfl⟩ := hsl
      have hgl : g < w.heap.size := (HS.out.1.lt g rfl).2
      obtain ⟨x1, y1, z1⟩ := hcl i hil
      have x2 := (XR.out.2.2.1.cell (p := ⟨g, i * 3, none⟩) hgl).trans x1
      have y2 := (XR.out.2.2.1.cell (p := ⟨g, i * 3 + 1, none⟩) hgl).trans y1
      have z2 := (XR.out.2.2.1.cell (p := ⟨g, i * 3 + 2, none⟩) hgl).trans z1
      have hso := HS.out.2.2.2.1 _ (List.getElem_mem hil)
      have hdr := XR.out.1
      rw [HRES.out, drop_cons hil] at hdr
      obtain ⟨sa, hsa⟩ : ∃ sa, (l[i]).a = sa := ⟨_, rfl⟩
      obtain ⟨sl, hsl⟩ : ∃ sl, (l[i]).l = sl := ⟨_, rfl⟩
      obtain ⟨sw, hsw⟩ : ∃ sw, (l[i]).wr = sw := ⟨_, rfl⟩
      have hin := in_len hso.i
      rw [hsa, hsl] at hin
      have H0 : Hid (¬ sw = b → res = (addrs b (l.drop (i + 1))).getD m' 0) := fun h => by rw [hdr, addrs_ot (by rw [hsw]; exact h)]
      have H1 : Hid (sw = b → m' < sl → res = sa + m') := fun h h2 => by rw [hdr, addrs_lt (by rw [hsw]; exact h) (by rw [hsl]; exact h2), hsa]
      have H2 : Hid (sw = b → ¬ m' < sl → res = (addrs b (l.drop (i + 1))).getD (m' - sl) 0) := fun h h2 => by rw [hdr, addrs_ge (by rw [hsw]; exact h) (by rw [hsl]; exact h2), hsl]
      rw [hsa] at x2
      rw [hsl] at y2
      rw [hsw] at z2
      have HIN : Hid (sl ≤ 8192 ∧ 2147483648 ≤ sa ∧ sa + sl ≤ 2147491840 ∧ m' < 18446744073709551616 ∧ i < L ∧ L ≤ 1000) := ⟨hin.1, hin.2.1, hin.2.2, Nat.lt_of_le_of_lt XR.out.2.1 HS.out.2.2.2.2, hlt, by have := HS.out.2; omega⟩
      have hi6 : i ≤ 1000 := by have := HIN.out.2.2.2.2; omega
      clear x1 y1 z1 hcl hso hsa hsl hsw hgl hin hlt hi hil hdr
      go_upto_region 5 with fail
      have hb1 : Below wr.heap.size wr (wr.alloc (.cells #[.int .u64 (sa : Int), .int .u64 (sl : Int), .bool sw] 118)) := (Below.refl _ _).alloc (Nat.le_refl _) _
      have X1 : Hid (m' ≤ m ∧ Below w.heap.size w (wr.alloc (.cells #[.int .u64 (sa : Int), .int .u64 (sl : Int), .bool sw] 118)) ∧ (wr.alloc (.cells #[.int .u64 (sa : Int), .int .u64 (sl : Int), .bool sw] 118)).heap[w.heap.size]? = some (.cells #[.slice (some ⟨g, 0, none⟩) L c, .int .u64 (ta : Int), .int .u64 (tl : Int)] 64 (0, 0)) ∧ (wr.alloc (.cells #[.int .u64 (sa : Int), .int .u64 (sl : Int), .bool sw] 118)).heap[wr.heap.size]? = some (.cells #[.int .u64 (sa : Int), .int .u64 (sl : Int), .bool sw] 118 (0, 0))) := ⟨XR.out.2.1, below_to XR.out.2.2.1 hb1, below_box XR.out.2.2.2 hb1, heap_alloc_new _ _⟩
      clear XR x2 y2 z2 p0 p1 p2 hb1
      generalize wr.alloc (.cells #[.int .u64 (sa : Int), .int .u64 (sl : Int), .bool sw] 118) = w1 at *
      generalize wr.heap.size = q at *
      obtain ⟨t0, t1, t2⟩ := box3_facts X1.out.2.2.2
      by_cases hwb : sw = b
      case neg =>
        have hne : (sw == b) = false := by simp [hwb]
        have HX := H0.out hwb
        have HXX : Hid (res = (addrs b (l.drop (i + 1))).getD m' 0) := HX
        clear HX
        go_wp2_with fail
        go_roundw
        case rel => exact ⟨i + 1, m', HIN.out.2.2.2.2.1, by go_num, rfl, HRES.out.trans HXX.out, X1.out.1, X1.out.2.1, X1.out.2.2.1⟩
        case measure => simp [intOf]; have := HIN.out.2.2.2.2.1; omega
      have hne : (sw == b) = true := by simp [hwb]
      by_cases hml : m' < sl
      · have g1 : (m' : Int) < (sl : Int) := by omega
        have HX : Hid (res = sa + m') := H1.out hwb hml
        have W1 : IntKind.u64.wrap ((sa : Int) + (m' : Int)) = (res : Int) := by have := HIN.out; have := HX.out; rw [wrap_u64]; omega
        clear hml hwb
        go_wp2_with fail
        go_ret
        exact ⟨rfl, X1.out.2.1⟩
      · have g1 : ¬ (m' : Int) < (sl : Int) := by omega
        have HX : Hid (res = (addrs b (l.drop (i + 1))).getD (m' - sl) 0) := H2.out hwb hml
        obtain ⟨m2, hm2⟩ : ∃ m2, m' - sl = m2 := ⟨_, rfl⟩
        have W1 : IntKind.u64.wrap ((m' : Int) - (sl : Int)) = (m2 : Int) := by have := HIN.out; rw [wrap_u64]; omega
        have HM2 : Hid (m' - sl = m2 ∧ m2 ≤ m') := ⟨hm2, by omega⟩
        clear hml hwb hm2
        go_wp2_with fail
        go_roundw
        case rel => exact ⟨i + 1, m2, HIN.out.2.2.2.2.1, by go_num, rfl, by rw [HRES.out, HX.out, HM2.out.1], Nat.le_trans HM2.out.2 X1.out.1, X1.out.2.1, X1.out.2.2.1⟩
        case measure => simp [intOf]; have := HIN.out.2.2.2.2.1; omega
end Go.Proofs.YtmjdnocilbnoaaaGreat

/- The document's Gather. -/
namespace Go.Proofs.YtmjdnocilbnoaaaGreat
open Go.RowKit Go.Maps
set_option linter.unusedVariables false
set_option linter.unusedSimpArgs false
set_option maxRecDepth 100000
theorem addrs_bound {b : Bool} {l : List Seg} (h : ∀ s ∈ l, SegOk s) (m : Nat) : (addrs b l).getD m 0 < 18446744073709551616 := by
  have key : ∀ v ∈ addrs b l, v < 18446744073709551616 := by
    intro v hv
    simp only [addrs, List.mem_flatMap] at hv
    obtain ⟨s, hs, hx⟩ := hv
    have hok := in_len (h s hs).i
    split at hx
    · simp only [List.mem_map, List.mem_range] at hx
      obtain ⟨k, hk, he⟩ := hx
      omega
    · cases hx
  by_cases hm : m < (addrs b l).length
  · exact key _ (by simp [List.getD, hm])
  · have : (addrs b l)[m]? = none := List.getElem?_eq_none (by omega)
    simp [List.getD, this]
end Go.Proofs.YtmjdnocilbnoaaaGreat

/- The document's Scatter. -/
namespace Go.Proofs.YtmjdnocilbnoaaaGreat
open Go.RowKit Go.Maps
set_option linter.unusedVariables false
set_option linter.unusedSimpArgs false
set_option maxRecDepth 100000
theorem info32 : (Tryz.prog.info? 33).map (·.size) = some 2 := by kernel_rfl
/-- the document's memory in its box, j bytes written -/
def Dz (w V : World) (F : Nat → Prop) (g M : Nat → Nat) (l : List Seg) (f n : Nat) (xa : Option Addr) (xn xc : Nat) (xs : Nat → Nat × Nat) (nn j : Nat) (a : Option Addr) (L c ta tl : Nat) : Prop := Below w.heap.size w V ∧ V.heap[w.heap.size]? = some (.cells #[.int .u64 8192, .slice xa xn xc] 33 (0, 0)) ∧ V.heap[w.heap.size + 1]? = some (.cells #[.slice a L c, .int .u64 (ta : Int), .int .u64 (tl : Int)] 64 (0, 0)) ∧ V.heap[w.heap.size + 1 + 1]? = some (.cells #[.int .u64 0, .slice none 0 0] 33 (0, 0)) ∧ xn ≤ nn + j ∧ RefIn F V (.slice xa xn xc) xn xs ∧ (∀ q, rget xs xn q = layS g ((scaL l f n).take j) 0 M q) ∧ Rng xs xn 8192
def Dy (w V : World) (F : Nat → Prop) (g M : Nat → Nat) (l : List Seg) (f n : Nat) (xa : Option Addr) (xn xc : Nat) (xs : Nat → Nat × Nat) (nn j : Nat) (a : Option Addr) (L c ta tl : Nat) (ya : Option Addr) (yn yc : Nat) : Prop := Below w.heap.size w V ∧ V.heap[w.heap.size]? = some (.cells #[.int .u64 8192, .slice ya yn yc] 33 (0, 0)) ∧ V.heap[w.heap.size + 1]? = some (.cells #[.slice a L c, .int .u64 (ta : Int), .int .u64 (tl : Int)] 64 (0, 0)) ∧ V.heap[w.heap.size + 1 + 1]? = some (.cells #[.int .u64 0, .slice none 0 0] 33 (0, 0)) ∧ xn ≤ nn + j ∧ (RefIn F V (.slice xa xn xc) xn xs ∧ ∀ q, (Value.slice xa xn xc).ownBlock = some q → 0 < xn → q ≠ w.heap.size) ∧ (∀ q, rget xs xn q = layS g ((scaL l f n).take j) 0 M q) ∧ Rng xs xn 8192
section
variable {w V V2 : World} {F : Nat → Prop} {g M : Nat → Nat} {l : List Seg} {f n : Nat} {xa : Option Addr} {xn xc : Nat} {xs : Nat → Nat × Nat} {nn j : Nat} {a : Option Addr} {L c ta tl : Nat}
theorem Dz.below (h : Dz w V F g M l f n xa xn xc xs nn j a L c ta tl) (hb : Below V.heap.size V V2) : Dz w V2 F g M l f n xa xn xc xs nn j a L c ta tl := ⟨below_to h.1 hb, below_box h.2.1 hb, below_box h.2.2.1 hb, below_box h.2.2.2.1 hb, h.2.2.2.2.1, h.2.2.2.2.2.1.below hb, h.2.2.2.2.2.2⟩
theorem setRow_cell {V : World} {q : Nat} {cs : Array Value} {b o : Nat} (h : b ≠ q) : (V.setRow q cs).cell? ⟨b, o, none⟩ = V.cell? ⟨b, o, none⟩ := World.cell?_of_block (a := ⟨b, o, none⟩) (setRow_other _ _ _ _ h)
theorem RefIn.setRow {F : Nat → Prop} {V : World} {xa : Option Addr} {xn xc q : Nat} {xs : Nat → Nat × Nat} {cs : Array Value} (h : RefIn F V (.slice xa xn xc) xn xs) (hq : ∀ z, (Value.slice xa xn xc).ownBlock = some z → 0 < xn → z ≠ q) : RefIn F (V.setRow q cs) (.slice xa xn xc) xn xs := by
  rcases h with h | ⟨g, c, he, hF, hc⟩
  · exact .inl h
  · refine .inr ⟨g, c, he, hF, fun i hi => ?_⟩
    have hne : g ≠ q := hq g (by rw [he]; rfl) (by omega)
    exact ⟨(setRow_cell hne).trans (hc i hi).1, (setRow_cell hne).trans (hc i hi).2⟩
theorem Dy.store {ya : Option Addr} {yn yc : Nat} (h : Dy w V F g M l f n xa xn xc xs nn j a L c ta tl ya yn yc) : Dz w (V.setRow (w.heap.size) #[.int .u64 8192, .slice xa xn xc]) F g M l f n xa xn xc xs nn j a L c ta tl := ⟨below_setRow h.1 (Nat.le_refl _) _, setRow_heap _ _ _ _ _ _ h.2.1, (setRow_other _ _ _ _ (by omega)).trans h.2.2.1, (setRow_other _ _ _ _ (by omega)).trans h.2.2.2.1, h.2.2.2.2.1, h.2.2.2.2.2.1.1.setRow h.2.2.2.2.2.1.2, h.2.2.2.2.2.2⟩
end
theorem ref_not {F : Nat → Prop} {V : World} {xa : Option Addr} {xn xc q z : Nat} {xs : Nat → Nat × Nat} {u : Value} {a : Option Addr} {n c : Nat} (h : RefIn F V (.slice xa xn xc) xn xs) (hq : V.heap[q]? = some (.cells #[u, .slice a n c] 33 (0, 0))) (hz : (Value.slice xa xn xc).ownBlock = some z) (h0 : 0 < xn) : z ≠ q := by
  rcases h with ⟨h00, _⟩ | ⟨gg, cc, he2, _, hcc⟩
  · omega
  · have e2 : z = gg := by rw [he2] at hz; simpa [Value.ownBlock] using hz.symm
    intro e3
    have e4 : gg = q := by omega
    subst e4
    have hbad := cellOf hq 1 _ rfl
    have hc1 := (hcc 0 h0).2
    rw [show (0 : Nat) * 2 + 1 = 1 from rfl, hbad] at hc1
    cases hc1
theorem take_snoc {l : List Seg} {f n j : Nat} (h : roomB true l f n = true) (hj : j < n) : (scaL l f n).take (j + 1) = (scaL l f n).take j ++ [(addrs true l).getD (f + j) 0] ∧ ((scaL l f n).take j).length = j := by
  have h1 := room_len h
  have h2 : j < (scaL l f n).length := by unfold scaL; omega
  refine ⟨?_, by rw [List.length_take]; unfold scaL at *; omega⟩
  rw [List.take_add_one, List.getElem?_eq_getElem h2]
  simp only [Option.toList_some]
  congr 2
  have h3 : (scaL l f n)[j]? = some (scaL l f n)[j] := List.getElem?_eq_getElem h2
  have h4 : (scaL l f n)[j]? = (addrs true l)[f + j]? := by
    unfold scaL
    rw [List.getElem?_take, if_pos hj, List.getElem?_drop]
  simp only [List.getD]
  rw [← h4, h3]
  rfl
theorem addr_in {b : Bool} {l : List Seg} (hok : ∀ s ∈ l, SegOk s) {m : Nat} (hm : m < sizeN b l) : inB ((addrs b l).getD m 0 : Nat) (1 : Nat) 2147483648 (8192 : Nat) = true := by
  rw [← addrs_length] at hm
  have key : ∀ v ∈ addrs b l, 2147483648 ≤ v ∧ v < 2147491840 := by
    intro v hv
    simp only [addrs, List.mem_flatMap] at hv
    obtain ⟨s, hs, hx⟩ := hv
    have hok := in_len (hok s hs).i
    split at hx
    · simp only [List.mem_map, List.mem_range] at hx
      obtain ⟨k, hk, he⟩ := hx
      omega
    · cases hx
  have := key ((addrs b l).getD m 0) (by simp [List.getD, hm])
  simp only [inB, Bool.and_eq_true, decide_eq_true_iff]
  omega
set_option maxHeartbeats 8000000 in
theorem dscatter_any {w : World} {F : Nat → Prop} {va : Option Addr} {nn vc : Nat} {bs : Nat → Nat × Nat} {M : Nat → Nat} (hF : ∀ k, F k → k < w.heap.size) (href : RefIn F w (.slice va nn vc) nn bs) (hgt : ∀ q, rget bs nn q = M q) (hrng : Rng bs nn 8192) (hnn : nn ≤ 900000) {a : Option Addr} {L c : Nat} {l : List Seg} (h : SegIn 0 w (.slice a L c) l) (hl : l.length ≤ 1000) (hok : ∀ s ∈ l, SegOk s) (ta tl : Nat) (f n : Nat) (hf : f < 18446744073709551616) (hn : n ≤ 4000) (g : Nat → Nat) (hg : ∀ i, g i ≤ 255) (da : Option Addr) (dc : Nat) (hd : ReadsF F w (.slice da n dc) n g) :
    Calls Tryz.prog 76 #[.agg #[.int .u64 8192, .slice va nn vc], .agg #[.slice a L c, .int .u64 (ta : Int), .int .u64 (tl : Int)], .int .u64 (f : Int), .slice da n dc] w fun e w' => ∃ a' n' c' bs', e = .returned (.tuple #[.agg #[.int .u64 8192, .slice a' n' c'], .bool (roomB true l f n)]) ∧ n' ≤ nn + n ∧ RefIn F w' (.slice a' n' c') n' bs' ∧ (∀ q, rget bs' n' q = (if roomB true l f n = true then layS g (scaL l f n) 0 M else M) q) ∧ Rng bs' n' 8192 ∧ Below w.heap.size w w' := by
  have h3 := three_in w (.cells #[.int .u64 8192, .slice va nn vc] 33) (.cells #[.slice a L c, .int .u64 (ta : Int), .int .u64 (tl : Int)] 64) (.cells #[.int .u64 0, .slice none 0 0] 33)
  have XB : Hid (Dz w (((w.alloc (.cells #[.int .u64 8192, .slice va nn vc] 33)).alloc (.cells #[.slice a L c, .int .u64 (ta : Int), .int .u64 (tl : Int)] 64)).alloc (.cells #[.int .u64 0, .slice none 0 0] 33)) F g M l f n va nn vc bs nn 0 a L c ta tl) := ⟨h3.2.2.2, h3.1, h3.2.1, h3.2.2.1, Nat.le_refl _, href.below h3.2.2.2, fun q => by rw [hgt q]; rfl, hrng⟩
  have hsz := sizeN_le true l hok
  have K21 : Hid (∀ V, Below w.heap.size w V → Calls Tryz.prog 75 #[.agg #[.slice a L c, .int .u64 (ta : Int), .int .u64 (tl : Int)]] V fun e w' => e = .returned (.tuple #[.int .u64 (sizeN false l : Int), .int .u64 (sizeN true l : Int)]) ∧ Below V.heap.size V w') := fun V hV => dsizes_any (h.kept (fun g hg => hV.block g (h.lt g hg).2)) hl hok ta tl
  have K48' : Hid (∀ (m : Nat), m < 18446744073709551616 → ∀ V, Below w.heap.size w V → Calls Tryz.prog 99 #[.agg #[.slice a L c, .int .u64 (ta : Int), .int .u64 (tl : Int)], .int .u64 (m : Int), .bool true] V fun e w' => e = .returned (.int .u64 ((addrs true l).getD m 0 : Nat)) ∧ Below V.heap.size V w') := fun m hm V hV => place_any (h.kept (fun g hg => hV.block g (h.lt g hg).2)) hl hok ta tl m hm true
  have HOK : Hid ((∀ s ∈ l, SegOk s) ∧ (∀ i, g i ≤ 255) ∧ (∀ k, F k → k < w.heap.size) ∧ nn ≤ 900000 ∧ ReadsF F w (.slice da n dc) n g) := ⟨hok, hg, hF, hnn, hd⟩
  obtain ⟨Mx, hMx⟩ : ∃ Mx, (if roomB true l f n = true then layS g (scaL l f n) 0 M else M) = Mx := ⟨_, rfl⟩
  rw [hMx]
  have HRB : Hid (roomB true l f n = decide (f ≤ sizeN true l ∧ n ≤ sizeN true l - f)) := rfl
  obtain ⟨rm, hrm⟩ : ∃ rm, roomB true l f n = rm := ⟨_, rfl⟩
  rw [hrm]
  have HMX : Hid ((rm = true → Mx = layS g (scaL l f n) 0 M) ∧ (rm = false → Mx = M) ∧ roomB true l f n = rm) := by
    rw [hrm] at hMx
    refine ⟨fun h => ?_, fun h => ?_, hrm⟩
    · rw [← hMx, h, if_pos rfl]
    · rw [← hMx, h, if_neg (by decide)]
  rw [hrm] at HRB
  obtain ⟨sz, hsz2⟩ : ∃ sz, sizeN true l = sz := ⟨_, rfl⟩
  rw [hsz2] at K21 HRB hsz
  generalize sizeN false l = sz1 at *
  have HB : Hid (sz ≤ 9000000 ∧ f < 18446744073709551616 ∧ sizeN true l = sz) := ⟨by omega, hf, hsz2⟩
  have e1 : IntKind.u64.wrap (n : Int) = (n : Int) := by rw [wrap_u64]; omega
  clear h3 href hgt hrng h hl hok hf hg hF hnn hd hsz hsz2 hMx hrm
  go_enter Tryz.func76, Tryz.ntmps76
  go_upto_region 1 with fail
  generalize ((w.alloc (.cells #[.int .u64 8192, .slice va nn vc] 33)).alloc (.cells #[.slice a L c, .int .u64 (ta : Int), .int .u64 (tl : Int)] 64)).alloc (.cells #[.int .u64 0, .slice none 0 0] 33) = v0 at *
  obtain ⟨p0, p1, p2⟩ := box3_facts XB.out.2.2.1
  go_upto_region 2 with (go_at_call 75; refine (K21.out _ XB.out.1).mono ?_; rintro e w1 ⟨rfl, hb1⟩; have X1 : Hid (Dz w w1 F g M l f n va nn vc bs nn 0 a L c ta tl) := XB.out.below hb1; clear hb1 p0 p1 p2)
  clear XB K21
  by_cases hroom : f ≤ sz ∧ n ≤ sz - f
  case neg =>
    have hrf : rm = false := HRB.out.trans (decide_eq_false hroom)
    subst hrf
    have HMM : Hid (Mx = M) := HMX.out.2.1 rfl
    obtain ⟨m0, m1, _, _⟩ := box_facts X1.out.2.1
    have fin : ∀ (u : World), Hid (u = w1.setRow (w.heap.size + 1 + 1) #[.int .u64 8192, .slice va nn vc]) → u.heap[w.heap.size + 1 + 1]? = some (.cells #[.int .u64 8192, .slice va nn vc] 33 (0, 0)) ∧ (RefIn F u (.slice va nn vc) nn bs ∧ Below w.heap.size w u) := by
      intro u hu
      rw [hu.out]
      refine ⟨setRow_heap _ _ _ _ _ _ X1.out.2.2.2.1, X1.out.2.2.2.2.2.1.setRow (fun z hz h0 => ?_), below_setRow X1.out.1 (by omega) _⟩
      exact ref_not X1.out.2.2.2.2.2.1 X1.out.2.2.2.1 hz h0
    have HFIN : Hid (∀ (u : World), Hid (u = w1.setRow (w.heap.size + 1 + 1) #[.int .u64 8192, .slice va nn vc]) → u.heap[w.heap.size + 1 + 1]? = some (.cells #[.int .u64 8192, .slice va nn vc] 33 (0, 0)) ∧ (RefIn F u (.slice va nn vc) nn bs ∧ Below w.heap.size w u)) := fin
    clear fin
    by_cases hfs : sz < f
    · have g1 : (sz : Int) < (f : Int) := by omega
      clear hfs hroom
      go_upto_region 3 with fail
      refine wp_region_list ?_
      (refine wpList_step (fun KK hKK => ?_); go_simp; refine hKK _ _ ?_; clear hKK KK)
      refine wpList_store_row rfl 33 _ _ rfl (w.heap.size + 1 + 1) #[.int .u64 8192, .slice va nn vc] rfl rfl 33 #[.int .u64 0, .slice none 0 0] X1.out.2.2.2.1 info32 rfl (by simp [Value.oneCell']) ?_
      obtain ⟨hf1, hf2⟩ := HFIN.out _ rfl
      have HY : Hid (RefIn F (w1.setRow (w.heap.size + 1 + 1) #[.int .u64 8192, .slice va nn vc]) (.slice va nn vc) nn bs ∧ Below w.heap.size w (w1.setRow (w.heap.size + 1 + 1) #[.int .u64 8192, .slice va nn vc]) ∧ (w1.setRow (w.heap.size + 1 + 1) #[.int .u64 8192, .slice va nn vc]).heap[w.heap.size + 1 + 1]? = some (.cells #[.int .u64 8192, .slice va nn vc] 33 (0, 0))) := ⟨hf2.1, hf2.2, hf1⟩
      clear hf1 hf2
      have HX := X1.out.2.2.2.2.2.2
      have HXX : Hid (nn ≤ nn + 0 ∧ (∀ q, rget bs nn q = layS g ((scaL l f n).take 0) 0 M q) ∧ Rng bs nn 8192) := ⟨X1.out.2.2.2.2.1, HX⟩
      clear HX
      generalize w1.setRow (w.heap.size + 1 + 1) #[.int .u64 8192, .slice va nn vc] = w9 at *
      obtain ⟨k0, k1, _, _⟩ := box_facts HY.out.2.2
      go_wp2_with fail
      refine bodyPost_ret (v := .tuple #[.agg #[.int .u64 8192, .slice va nn vc], .bool false]) (by simp [results, Tryz.results76, go_sem, k0, k1]) rfl ?_
      exact ⟨va, nn, vc, rfl, by omega, bs, HY.out.1, fun q => by rw [HMM.out]; exact HXX.out.2.1 q, HXX.out.2.2, HY.out.2.1⟩
    · have g1 : ¬ (sz : Int) < (f : Int) := by omega
      obtain ⟨df, hdf⟩ : ∃ df, sz - f = df := ⟨_, rfl⟩
      have g2 : IntKind.u64.wrap ((sz : Int) - (f : Int)) = (df : Int) := by have := HB.out; rw [wrap_u64]; omega
      have g3 : (df : Int) < (n : Int) := by omega
      clear hfs hroom hdf
      go_upto_region 3 with fail
      refine wp_region_list ?_
      (refine wpList_step (fun KK hKK => ?_); go_simp; refine hKK _ _ ?_; clear hKK KK)
      refine wpList_store_row rfl 33 _ _ rfl (w.heap.size + 1 + 1) #[.int .u64 8192, .slice va nn vc] rfl rfl 33 #[.int .u64 0, .slice none 0 0] X1.out.2.2.2.1 info32 rfl (by simp [Value.oneCell']) ?_
      obtain ⟨hf1, hf2⟩ := HFIN.out _ rfl
      have HY : Hid (RefIn F (w1.setRow (w.heap.size + 1 + 1) #[.int .u64 8192, .slice va nn vc]) (.slice va nn vc) nn bs ∧ Below w.heap.size w (w1.setRow (w.heap.size + 1 + 1) #[.int .u64 8192, .slice va nn vc]) ∧ (w1.setRow (w.heap.size + 1 + 1) #[.int .u64 8192, .slice va nn vc]).heap[w.heap.size + 1 + 1]? = some (.cells #[.int .u64 8192, .slice va nn vc] 33 (0, 0))) := ⟨hf2.1, hf2.2, hf1⟩
      clear hf1 hf2
      have HX := X1.out.2.2.2.2.2.2
      have HXX : Hid (nn ≤ nn + 0 ∧ (∀ q, rget bs nn q = layS g ((scaL l f n).take 0) 0 M q) ∧ Rng bs nn 8192) := ⟨X1.out.2.2.2.2.1, HX⟩
      clear HX
      generalize w1.setRow (w.heap.size + 1 + 1) #[.int .u64 8192, .slice va nn vc] = w9 at *
      obtain ⟨k0, k1, _, _⟩ := box_facts HY.out.2.2
      go_wp2_with fail
      refine bodyPost_ret (v := .tuple #[.agg #[.int .u64 8192, .slice va nn vc], .bool false]) (by simp [results, Tryz.results76, go_sem, k0, k1]) rfl ?_
      exact ⟨va, nn, vc, rfl, by omega, bs, HY.out.1, fun q => by rw [HMM.out]; exact HXX.out.2.1 q, HXX.out.2.2, HY.out.2.1⟩
  have hrt : rm = true := HRB.out.trans (decide_eq_true hroom)
  subst hrt
  have HMM : Hid (Mx = layS g (scaL l f n) 0 M ∧ roomB true l f n = true) := ⟨HMX.out.1 rfl, HMX.out.2.2⟩
  have g1 : ¬ (sz : Int) < (f : Int) := by omega
  obtain ⟨df, hdf⟩ : ∃ df, sz - f = df := ⟨_, rfl⟩
  have g2 : IntKind.u64.wrap ((sz : Int) - (f : Int)) = (df : Int) := by have := HB.out; rw [wrap_u64]; omega
  have g3 : ¬ (df : Int) < (n : Int) := by omega
  have hfb : f ≤ 9000000 := by have := HB.out.1; omega
  have HFS : Hid (f + n ≤ sz) := by show f + n ≤ sz; omega
  clear hroom hdf HMX HRB
  go_upto_region 4 with fail
  clear g1 g2 g3
  go_wp2_with fail
  go_loopw [12] (fun x wr => ∃ (j : Nat) (xa : Option Addr) (xn xc : Nat) (xs : Nat → Nat × Nat), j ≤ n ∧ x = .int .i64 (j : Int) ∧ (Dz w wr F g M l f n xa xn xc xs nn j a L c ta tl)) (fun x _ => n - (intOf x).toNat)
  case atStart => exact ⟨0, va, nn, vc, bs, Nat.zero_le _, rfl, X1.out⟩
  case round =>
    obtain ⟨j, xa, xn, xc, xs, hj, rfl, hx⟩ := hrel
    have XR : Hid (Dz w wr F g M l f n xa xn xc xs nn j a L c ta tl) := hx
    clear hx X1
    by_cases hlt : j < n
    case neg =>
      have h1 : ¬ (j : Int) < (n : Int) := by omega
      have hjn : j = n := by omega
      subst hjn
      clear hlt hj
      obtain ⟨m0, m1, _, _⟩ := box_facts XR.out.2.1
      go_upto_region 8 with fail
      refine wp_region_list ?_
      (refine wpList_step (fun KK hKK => ?_); go_simp; refine hKK _ _ ?_; clear hKK KK)
      refine wpList_store_row rfl 33 _ _ rfl (w.heap.size + 1 + 1) #[.int .u64 8192, .slice xa xn xc] rfl rfl 33 #[.int .u64 0, .slice none 0 0] XR.out.2.2.2.1 info32 rfl (by simp [Value.oneCell']) ?_
      have HY : Hid (RefIn F (wr.setRow (w.heap.size + 1 + 1) #[.int .u64 8192, .slice xa xn xc]) (.slice xa xn xc) xn xs ∧ Below w.heap.size w (wr.setRow (w.heap.size + 1 + 1) #[.int .u64 8192, .slice xa xn xc]) ∧ (wr.setRow (w.heap.size + 1 + 1) #[.int .u64 8192, .slice xa xn xc]).heap[w.heap.size + 1 + 1]? = some (.cells #[.int .u64 8192, .slice xa xn xc] 33 (0, 0))) := ⟨XR.out.2.2.2.2.2.1.setRow (fun z hz h0 => ref_not XR.out.2.2.2.2.2.1 XR.out.2.2.2.1 hz h0), below_setRow XR.out.1 (by omega) _, setRow_heap _ _ _ _ _ _ XR.out.2.2.2.1⟩
      have HXX : Hid (xn ≤ nn + j ∧ (∀ q, rget xs xn q = layS g ((scaL l f j).take j) 0 M q) ∧ Rng xs xn 8192) := ⟨XR.out.2.2.2.2.1, XR.out.2.2.2.2.2.2⟩
      clear XR
      generalize wr.setRow (w.heap.size + 1 + 1) #[.int .u64 8192, .slice xa xn xc] = w9 at *
      obtain ⟨k0, k1, _, _⟩ := box_facts HY.out.2.2
      go_wp2_with fail
      refine bodyPost_ret (v := .tuple #[.agg #[.int .u64 8192, .slice xa xn xc], .bool true]) (by simp [results, Tryz.results76, go_sem, k0, k1]) rfl ?_
      exact ⟨xa, xn, xc, rfl, HXX.out.1, xs, HY.out.1, fun q => by rw [HMM.out.1, HXX.out.2.1 q, List.take_of_length_le (by unfold scaL; rw [room_len HMM.out.2]; exact Nat.le_refl _)], HXX.out.2.2, HY.out.2.1⟩
    case pos =>
      have h1 : (j : Int) < (n : Int) := by omega
      rcases HOK.out.2.2.2.2 with ⟨h0, _⟩ | ⟨bd, od, cd, he, hFb, hc1, hc2, hcell⟩
      · omega
      simp only [Value.slice.injEq, true_and] at he
      obtain ⟨rfl, rfl⟩ := he
      have hbd : bd < w.heap.size := block_lt_of_cell (hcell 0 (by omega))
      obtain ⟨y, hy⟩ : ∃ y, g j = y := ⟨_, rfl⟩
      have hcj := hcell j hlt
      rw [hy] at hcj
      have hcw := (XR.out.1.cell (p := ⟨bd, od + j, none⟩) hbd).trans hcj
      obtain ⟨m, hm⟩ : ∃ m, m = f + j := ⟨_, rfl⟩
      have q1 : IntKind.u64.wrap (j : Int) = (j : Int) := by rw [wrap_u64]; omega
      have q2 : IntKind.u64.wrap ((f : Int) + (j : Int)) = (m : Int) := by rw [wrap_u64]; omega
      have hts := take_snoc (l := l) (f := f) HMM.out.2 hlt
      rw [← hm] at hts
      have K48 : Hid (∀ V, Below w.heap.size w V → Calls Tryz.prog 99 #[.agg #[.slice a L c, .int .u64 (ta : Int), .int .u64 (tl : Int)], .int .u64 (m : Int), .bool true] V fun e w' => e = .returned (.int .u64 ((addrs true l).getD m 0 : Nat)) ∧ Below V.heap.size V w') := K48'.out m (by omega)
      have hin := addr_in (b := true) HOK.out.1 (m := m) (by have := HB.out.2.2; have := HFS.out; omega)
      have hab := addrs_bound (b := true) HOK.out.1 m
      generalize (addrs true l).getD m 0 = pl at *
      have K33 : Hid (∀ V gx, (Dz w V F g M l f n xa xn xc xs nn j a L c ta tl) → V.heap[gx]? = some (.cells #[.int .u8 (y : Int)] 5 (0, 0)) → Calls Tryz.prog 31 #[.agg #[.int .u64 8192, .slice xa xn xc], .int .u64 (pl : Int), .slice (some ⟨gx, 0, none⟩) 1 1] V fun e w' => ∃ a2 n2 c2 s2, e = .returned (.tuple #[.agg #[.int .u64 8192, .slice a2 n2 c2], .bool true]) ∧ Dy w w' F g M l f n a2 n2 c2 s2 nn (j + 1) a L c ta tl xa xn xc ∧ (∀ o, V.cell? ⟨bd, od + j, none⟩ = some o → w'.cell? ⟨bd, od + j, none⟩ = some o)) := by
        intro V gx hV hgx
        have hrd : Reads .u8 V (.slice (some ⟨gx, 0, none⟩) 1 1) 1 (fun _ => y) := .inr ⟨gx, 0, 1, rfl, fun i hi => by
          have : i = 0 := by omega
          subst this
          exact cellOf hgx 0 _ rfl⟩
        have := rwrite_any F V 8192 pl 1 (.slice xa xn xc) (.slice (some ⟨gx, 0, none⟩) 1 1) xn xs (fun _ => y) hV.2.2.2.2.2.1 hrd (fun k hk => Nat.lt_of_lt_of_le (HOK.out.2.2.1 k hk) hV.1.size) (by have := hV.2.2.2.2.1; have := HOK.out.2.2.2.1; omega) (by omega) hab (by omega)
        rw [hin] at this
        refine this.mono ?_
        rintro e w' ⟨a2, n2, c2, s2, he, hn2, hr2, ⟨hg2, hrg2⟩, hb2⟩
        refine ⟨a2, n2, c2, s2, he, ⟨below_to hV.1 hb2, below_box hV.2.1 hb2, below_box hV.2.2.1 hb2, below_box hV.2.2.2.1 hb2, by have := hV.2.2.2.2.1; omega, ⟨hr2, fun q hq h0 => ?_⟩, fun q => ?_, hrg2 hV.2.2.2.2.2.2.2⟩, fun o ho => (hb2.cell (block_lt_of_cell ho)).trans ho⟩
        · exact ref_not hr2 (below_box hV.2.1 hb2) hq h0
        · rw [hg2 q, if_pos rfl, hts.1, layS_append]
          simp only [layS, hts.2, Nat.zero_add, hy]
          unfold over
          rw [hV.2.2.2.2.2.2.1 q]
      have HBD : Hid (bd < w.heap.size) := hbd
      have HJN : Hid (j < n) := hlt
      have hjc : (j : Int) < (n : Int) := h1
      have XR2 : Hid ((Dz w wr F g M l f n xa xn xc xs nn j a L c ta tl) ∧ wr.cell? ⟨bd, od + j, none⟩ = some (.int .u8 (y : Int))) := ⟨XR.out, hcw⟩
      clear hts hin hab hm hy hcw hcj hcell hbd hlt hj hFb hc1 hc2 XR K48'
      go_upto_region 7 with fail
      have Xd : Hid ((Dz w wr.drew F g M l f n xa xn xc xs nn j a L c ta tl) ∧ wr.drew.cell? ⟨bd, od + j, none⟩ = some (.int .u8 (y : Int))) := XR2.out.imp (fun q => Dz.below q (Below.refl _ _).drew) (fun q => q)
      clear XR2
      refine wp_region_held_drew (S := fun Z => Z.cell? ⟨w.heap.size + 1, 0, none⟩ = some (.slice a L c) ∧ Z.cell? ⟨w.heap.size + 1, 1, none⟩ = some (.int .u64 (ta : Int)) ∧ Z.cell? ⟨w.heap.size + 1, 2, none⟩ = some (.int .u64 (tl : Int)) ∧ Z.cell? ⟨bd, od + j, none⟩ = some (.int .u8 (y : Int))) (by kernel_rfl) ⟨cellOf Xd.out.1.2.2.1 0 _ rfl, cellOf Xd.out.1.2.2.1 1 _ rfl, cellOf Xd.out.1.2.2.1 2 _ rfl, Xd.out.2⟩ ?_
      intro hS
      generalize wr.drew = wd at *
      refine wpAnyH_take (i := 1) (v := ?_) rfl (by kernel_rfl) (by kernel_rfl) (by kernel_rfl) (fun _ _ _ h => h) (Or.inl ⟨by kernel_rfl, ?_⟩) hS ?_
      rotate_left
      · intro w hSw; (try dsimp only at hSw); go_simp; try (with_reducible rfl)
      (try simp only [Act.put, List.getElem_toArray, List.getElem_cons_succ, List.getElem_cons_zero, List.setIfInBounds_toArray, List.set_cons_zero, List.set_cons_succ])
      refine wpAnyH_take (i := 2) (v := ?_) rfl (by kernel_rfl) (by kernel_rfl) (by kernel_rfl) (fun _ _ _ h => h) (Or.inl ⟨by kernel_rfl, ?_⟩) hS ?_
      rotate_left
      · intro w hSw; (try dsimp only at hSw); go_simp; try (with_reducible rfl)
      (try simp only [Act.put, List.getElem_toArray, List.getElem_cons_succ, List.getElem_cons_zero, List.setIfInBounds_toArray, List.set_cons_zero, List.set_cons_succ])
      refine wpAnyH_take (i := 3) (v := ?_) rfl (by kernel_rfl) (by kernel_rfl) (by kernel_rfl) (fun _ _ _ h => h) (Or.inl ⟨by kernel_rfl, ?_⟩) hS ?_
      rotate_left
      · intro w hSw; (try dsimp only at hSw); go_simp; try (with_reducible rfl)
      (try simp only [Act.put, List.getElem_toArray, List.getElem_cons_succ, List.getElem_cons_zero, List.setIfInBounds_toArray, List.set_cons_zero, List.set_cons_succ])
      refine wpAnyH_take (i := 4) (v := ?_) rfl (by kernel_rfl) (by kernel_rfl) (by kernel_rfl) (fun _ _ _ h => h) (Or.inl ⟨by kernel_rfl, ?_⟩) hS ?_
      rotate_left
      · intro w hSw; (try dsimp only at hSw); go_simp; try (with_reducible rfl)
      (try simp only [Act.put, List.getElem_toArray, List.getElem_cons_succ, List.getElem_cons_zero, List.setIfInBounds_toArray, List.set_cons_zero, List.set_cons_succ])
      refine wpAnyH_take (i := 5) (v := ?_) rfl (by kernel_rfl) (by kernel_rfl) (by kernel_rfl) (fun _ _ _ h => h) (Or.inl ⟨by kernel_rfl, ?_⟩) hS ?_
      rotate_left
      · intro w hSw; (try dsimp only at hSw); go_simp; try (with_reducible rfl)
      (try simp only [Act.put, List.getElem_toArray, List.getElem_cons_succ, List.getElem_cons_zero, List.setIfInBounds_toArray, List.set_cons_zero, List.set_cons_succ])
      refine wpAnyH_take (i := 7) (v := ?_) rfl (by kernel_rfl) (by kernel_rfl) (by kernel_rfl) (fun _ _ _ h => h) (Or.inl ⟨by kernel_rfl, ?_⟩) hS ?_
      rotate_left
      · intro w hSw; (try dsimp only at hSw); go_simp; try (with_reducible rfl)
      (try simp only [Act.put, List.getElem_toArray, List.getElem_cons_succ, List.getElem_cons_zero, List.setIfInBounds_toArray, List.set_cons_zero, List.set_cons_succ])
      refine wpAnyH_take (i := 8) (v := ?_) rfl (by kernel_rfl) (by kernel_rfl) (by kernel_rfl) (fun _ _ _ h => h) (Or.inl ⟨by kernel_rfl, ?_⟩) hS ?_
      rotate_left
      · intro w hSw; (try dsimp only at hSw); go_simp; try (with_reducible rfl)
      (try simp only [Act.put, List.getElem_toArray, List.getElem_cons_succ, List.getElem_cons_zero, List.setIfInBounds_toArray, List.set_cons_zero, List.set_cons_succ])
      refine wpAnyH_take (i := 9) (v := ?_) rfl (by kernel_rfl) (by kernel_rfl) (by kernel_rfl) (fun _ _ _ h => h) (Or.inl ⟨by kernel_rfl, ?_⟩) hS ?_
      rotate_left
      · intro w hSw; (try dsimp only at hSw); go_simp; try (with_reducible rfl)
      (try simp only [Act.put, List.getElem_toArray, List.getElem_cons_succ, List.getElem_cons_zero, List.setIfInBounds_toArray, List.set_cons_zero, List.set_cons_succ])
      refine wpAnyH_take (i := 10) (v := ?_) rfl (by kernel_rfl) (by kernel_rfl) (by kernel_rfl) (fun _ _ _ h => h) (Or.inl ⟨by kernel_rfl, ?_⟩) hS ?_
      rotate_left
      · intro w hSw; (try dsimp only at hSw); go_simp; try (with_reducible rfl)
      (try simp only [Act.put, List.getElem_toArray, List.getElem_cons_succ, List.getElem_cons_zero, List.setIfInBounds_toArray, List.set_cons_zero, List.set_cons_succ])
      refine wpAnyH_ready (rs := [0, 6, 11]) (by kernel_rfl) (by simp) ?_
      refine AllReadyH.cons rfl (fun K1 hK1 => ?_) (AllReadyH.cons rfl (fun K1 hK1 => ?_) (AllReadyH.cons rfl (fun K1 hK1 => ?_) AllReadyH.nil))
      · have _hm : True := trivial
        have m0 := cellOf Xd.out.1.2.1 0 _ rfl
        have m1 := cellOf Xd.out.1.2.1 1 _ rfl
        go_simp
        refine hK1.out _ _ ⟨cellOf Xd.out.1.2.2.1 0 _ rfl, cellOf Xd.out.1.2.2.1 1 _ rfl, cellOf Xd.out.1.2.2.1 2 _ rfl, Xd.out.2⟩ (fun hS3 => ?_)
        clear hK1 K1 hS m0 m1
        (try simp only [Act.put, List.getElem_toArray, List.getElem_cons_succ, List.getElem_cons_zero, List.setIfInBounds_toArray, List.set_cons_zero, List.set_cons_succ])
        refine wpAnyH_ready (rs := [6, 11]) (by kernel_rfl) (by simp) ?_
        refine AllReadyH.cons rfl (fun K1 hK1 => ?_) (AllReadyH.cons rfl (fun K1 hK1 => ?_) AllReadyH.nil)
        · have _hm : True := trivial
          go_simp
          refine (K48.out _ Xd.out.1.1).mono ?_
          rintro e u4 ⟨rfl, hb⟩
          have XO5 : Hid ((Dz w u4 F g M l f n xa xn xc xs nn j a L c ta tl) ∧ u4.cell? ⟨bd, od + j, none⟩ = some (.int .u8 (y : Int))) := Xd.out.imp (fun q => Dz.below q hb) (fun q => (hb.cell (block_lt_of_cell q)).trans q)
          clear hb Xd
          refine hK1.out _ _ ⟨cellOf XO5.out.1.2.2.1 0 _ rfl, cellOf XO5.out.1.2.2.1 1 _ rfl, cellOf XO5.out.1.2.2.1 2 _ rfl, XO5.out.2⟩ (fun hS6 => ?_)
          clear hK1 K1 hS3
          (try simp only [Act.put, List.getElem_toArray, List.getElem_cons_succ, List.getElem_cons_zero, List.setIfInBounds_toArray, List.set_cons_zero, List.set_cons_succ])
          refine wpAnyH_ready (rs := [11]) (by kernel_rfl) (by simp) ?_
          refine AllReadyH.cons rfl (fun K1 hK1 => ?_) AllReadyH.nil
          have _hm : True := trivial
          go_simp
          have hb : Below u4.heap.size u4 (u4.alloc (.cells #[.int .u8 (y : Int)] 5)) := (Below.refl _ _).alloc (Nat.le_refl _) _
          have XO8 : Hid ((Dz w (u4.alloc (.cells #[.int .u8 (y : Int)] 5)) F g M l f n xa xn xc xs nn j a L c ta tl) ∧ (u4.alloc (.cells #[.int .u8 (y : Int)] 5)).cell? ⟨bd, od + j, none⟩ = some (.int .u8 (y : Int))) := XO5.out.imp (fun q => Dz.below q hb) (fun q => (hb.cell (block_lt_of_cell q)).trans q)
          have HGu7 : Hid ((u4.alloc (.cells #[.int .u8 (y : Int)] 5)).heap[u4.heap.size]? = some (.cells #[.int .u8 (y : Int)] 5 (0, 0))) := heap_alloc_new _ _
          clear hb XO5
          generalize u4.alloc (.cells #[.int .u8 (y : Int)] 5) = u7 at *
          generalize u4.heap.size = gx10 at *
          refine hK1.out _ _ ⟨cellOf XO8.out.1.2.2.1 0 _ rfl, cellOf XO8.out.1.2.2.1 1 _ rfl, cellOf XO8.out.1.2.2.1 2 _ rfl, XO8.out.2⟩ (fun hS9 => ?_)
          clear hK1 K1 hS6
          (try simp only [Act.put, List.getElem_toArray, List.getElem_cons_succ, List.getElem_cons_zero, List.setIfInBounds_toArray, List.set_cons_zero, List.set_cons_succ])
          refine wpAnyH_ready (rs := [12]) (by kernel_rfl) (by simp) ?_
          refine AllReadyH.cons rfl (fun K1 hK1 => ?_) AllReadyH.nil
          go_simp
          refine (K33.out _ gx10 XO8.out.1 HGu7.out).mono ?_
          rintro e ur ⟨xa2, xn2, xc2, xs2, rfl, hz, hcl⟩
          have XR : Hid (Dy w ur F g M l f n xa2 xn2 xc2 xs2 nn (j + 1) a L c ta tl xa xn xc ∧ ur.cell? ⟨bd, od + j, none⟩ = some (.int .u8 (y : Int))) := ⟨hz, hcl _ XO8.out.2⟩
          clear hz hcl XO8 HGu7
          refine hK1.out _ _ ⟨cellOf XR.out.1.2.2.1 0 _ rfl, cellOf XR.out.1.2.2.1 1 _ rfl, cellOf XR.out.1.2.2.1 2 _ rfl, XR.out.2⟩ (fun hr => ?_)
          clear hK1 K1 hS9
          (try simp only [Act.put, List.getElem_toArray, List.getElem_cons_succ, List.getElem_cons_zero, List.setIfInBounds_toArray, List.set_cons_zero, List.set_cons_succ])
          refine wpAnyH_take (i := 13) (v := ?_) rfl (by kernel_rfl) (by kernel_rfl) (by kernel_rfl) (fun _ _ _ h => h) (Or.inl ⟨by kernel_rfl, ?_⟩) hr ?_
          rotate_left
          · intro w hSw; (try dsimp only at hSw); go_simp; try (with_reducible rfl)
          (try simp only [Act.put, List.getElem_toArray, List.getElem_cons_succ, List.getElem_cons_zero, List.setIfInBounds_toArray, List.set_cons_zero, List.set_cons_succ])
          refine wpAnyH_take (i := 14) (v := ?_) rfl (by kernel_rfl) (by kernel_rfl) (by kernel_rfl) (fun _ _ _ h => h) (Or.inl ⟨by kernel_rfl, ?_⟩) hr ?_
          rotate_left
          · intro w hSw; (try dsimp only at hSw); go_simp; try (with_reducible rfl)
          (try simp only [Act.put, List.getElem_toArray, List.getElem_cons_succ, List.getElem_cons_zero, List.setIfInBounds_toArray, List.set_cons_zero, List.set_cons_succ])
          refine wpAnyH_take (i := 15) (v := ?_) rfl (by kernel_rfl) (by kernel_rfl) (by kernel_rfl) (fun _ _ _ h => h) (Or.inl ⟨by kernel_rfl, ?_⟩) hr ?_
          rotate_left
          · intro w hSw; (try dsimp only at hSw); go_simp; try (with_reducible rfl)
          (try simp only [Act.put, List.getElem_toArray, List.getElem_cons_succ, List.getElem_cons_zero, List.setIfInBounds_toArray, List.set_cons_zero, List.set_cons_succ])
          refine wpAnyH_ready (rs := [16]) (by kernel_rfl) (by simp) ?_
          refine AllReadyH.cons rfl (fun K1 hK1 => ?_) AllReadyH.nil
          rw [if_pos (by kernel_rfl)]
          refine wp_store_row 33 _ _ rfl (w.heap.size) #[.int .u64 8192, .slice xa2 xn2 xc2] rfl rfl 33 #[.int .u64 8192, .slice xa xn xc] XR.out.1.2.1 info32 rfl (by simp [Value.oneCell']) ?_
          have XZ : Hid ((Dz w (ur.setRow (w.heap.size) #[.int .u64 8192, .slice xa2 xn2 xc2]) F g M l f n xa2 xn2 xc2 xs2 nn (j + 1) a L c ta tl) ∧ (ur.setRow (w.heap.size) #[.int .u64 8192, .slice xa2 xn2 xc2]).cell? ⟨bd, od + j, none⟩ = some (.int .u8 (y : Int))) := ⟨XR.out.1.store, (setRow_cell (by have := HBD.out; omega)).trans XR.out.2⟩
          clear XR
          generalize ur.setRow (w.heap.size) #[.int .u64 8192, .slice xa2 xn2 xc2] = u9 at *
          refine hK1.out _ _ ⟨cellOf XZ.out.1.2.2.1 0 _ rfl, cellOf XZ.out.1.2.2.1 1 _ rfl, cellOf XZ.out.1.2.2.1 2 _ rfl, XZ.out.2⟩ (fun hr9 => ?_)
          clear hK1 K1 hr
          (try simp only [Act.put, List.getElem_toArray, List.getElem_cons_succ, List.getElem_cons_zero, List.setIfInBounds_toArray, List.set_cons_zero, List.set_cons_succ])
          refine wpAnyH_done (by kernel_rfl) ?_ _
          clear hr9
          go_wp2_with fail
          go_roundw
          case rel => exact ⟨j + 1, xa2, xn2, xc2, xs2, HJN.out, by go_num, XZ.out.1⟩
          case measure => simp [intOf]; have := HJN.out; omega
        · have _hm : True := trivial
          go_simp
          have hb : Below wd.heap.size wd (wd.alloc (.cells #[.int .u8 (y : Int)] 5)) := (Below.refl _ _).alloc (Nat.le_refl _) _
          have XO12 : Hid ((Dz w (wd.alloc (.cells #[.int .u8 (y : Int)] 5)) F g M l f n xa xn xc xs nn j a L c ta tl) ∧ (wd.alloc (.cells #[.int .u8 (y : Int)] 5)).cell? ⟨bd, od + j, none⟩ = some (.int .u8 (y : Int))) := Xd.out.imp (fun q => Dz.below q hb) (fun q => (hb.cell (block_lt_of_cell q)).trans q)
          have HGu11 : Hid ((wd.alloc (.cells #[.int .u8 (y : Int)] 5)).heap[wd.heap.size]? = some (.cells #[.int .u8 (y : Int)] 5 (0, 0))) := heap_alloc_new _ _
          clear hb Xd
          generalize wd.alloc (.cells #[.int .u8 (y : Int)] 5) = u11 at *
          generalize wd.heap.size = gx14 at *
          refine hK1.out _ _ ⟨cellOf XO12.out.1.2.2.1 0 _ rfl, cellOf XO12.out.1.2.2.1 1 _ rfl, cellOf XO12.out.1.2.2.1 2 _ rfl, XO12.out.2⟩ (fun hS13 => ?_)
          clear hK1 K1 hS3
          (try simp only [Act.put, List.getElem_toArray, List.getElem_cons_succ, List.getElem_cons_zero, List.setIfInBounds_toArray, List.set_cons_zero, List.set_cons_succ])
          refine wpAnyH_ready (rs := [6]) (by kernel_rfl) (by simp) ?_
          refine AllReadyH.cons rfl (fun K1 hK1 => ?_) AllReadyH.nil
          have _hm : True := trivial
          go_simp
          refine (K48.out _ XO12.out.1.1).mono ?_
          rintro e u15 ⟨rfl, hb⟩
          have HGu15 : Hid (u15.heap[gx14]? = some (.cells #[.int .u8 (y : Int)] 5 (0, 0))) := below_box HGu11.out hb
          have XO16 : Hid ((Dz w u15 F g M l f n xa xn xc xs nn j a L c ta tl) ∧ u15.cell? ⟨bd, od + j, none⟩ = some (.int .u8 (y : Int))) := XO12.out.imp (fun q => Dz.below q hb) (fun q => (hb.cell (block_lt_of_cell q)).trans q)
          clear hb XO12 HGu11
          refine hK1.out _ _ ⟨cellOf XO16.out.1.2.2.1 0 _ rfl, cellOf XO16.out.1.2.2.1 1 _ rfl, cellOf XO16.out.1.2.2.1 2 _ rfl, XO16.out.2⟩ (fun hS17 => ?_)
          clear hK1 K1 hS13
          (try simp only [Act.put, List.getElem_toArray, List.getElem_cons_succ, List.getElem_cons_zero, List.setIfInBounds_toArray, List.set_cons_zero, List.set_cons_succ])
          refine wpAnyH_ready (rs := [12]) (by kernel_rfl) (by simp) ?_
          refine AllReadyH.cons rfl (fun K1 hK1 => ?_) AllReadyH.nil
          go_simp
          refine (K33.out _ gx14 XO16.out.1 HGu15.out).mono ?_
          rintro e ur ⟨xa2, xn2, xc2, xs2, rfl, hz, hcl⟩
          have XR : Hid (Dy w ur F g M l f n xa2 xn2 xc2 xs2 nn (j + 1) a L c ta tl xa xn xc ∧ ur.cell? ⟨bd, od + j, none⟩ = some (.int .u8 (y : Int))) := ⟨hz, hcl _ XO16.out.2⟩
          clear hz hcl XO16 HGu15
          refine hK1.out _ _ ⟨cellOf XR.out.1.2.2.1 0 _ rfl, cellOf XR.out.1.2.2.1 1 _ rfl, cellOf XR.out.1.2.2.1 2 _ rfl, XR.out.2⟩ (fun hr => ?_)
          clear hK1 K1 hS17
          (try simp only [Act.put, List.getElem_toArray, List.getElem_cons_succ, List.getElem_cons_zero, List.setIfInBounds_toArray, List.set_cons_zero, List.set_cons_succ])
          refine wpAnyH_take (i := 13) (v := ?_) rfl (by kernel_rfl) (by kernel_rfl) (by kernel_rfl) (fun _ _ _ h => h) (Or.inl ⟨by kernel_rfl, ?_⟩) hr ?_
          rotate_left
          · intro w hSw; (try dsimp only at hSw); go_simp; try (with_reducible rfl)
          (try simp only [Act.put, List.getElem_toArray, List.getElem_cons_succ, List.getElem_cons_zero, List.setIfInBounds_toArray, List.set_cons_zero, List.set_cons_succ])
          refine wpAnyH_take (i := 14) (v := ?_) rfl (by kernel_rfl) (by kernel_rfl) (by kernel_rfl) (fun _ _ _ h => h) (Or.inl ⟨by kernel_rfl, ?_⟩) hr ?_
          rotate_left
          · intro w hSw; (try dsimp only at hSw); go_simp; try (with_reducible rfl)
          (try simp only [Act.put, List.getElem_toArray, List.getElem_cons_succ, List.getElem_cons_zero, List.setIfInBounds_toArray, List.set_cons_zero, List.set_cons_succ])
          refine wpAnyH_take (i := 15) (v := ?_) rfl (by kernel_rfl) (by kernel_rfl) (by kernel_rfl) (fun _ _ _ h => h) (Or.inl ⟨by kernel_rfl, ?_⟩) hr ?_
          rotate_left
          · intro w hSw; (try dsimp only at hSw); go_simp; try (with_reducible rfl)
          (try simp only [Act.put, List.getElem_toArray, List.getElem_cons_succ, List.getElem_cons_zero, List.setIfInBounds_toArray, List.set_cons_zero, List.set_cons_succ])
          refine wpAnyH_ready (rs := [16]) (by kernel_rfl) (by simp) ?_
          refine AllReadyH.cons rfl (fun K1 hK1 => ?_) AllReadyH.nil
          rw [if_pos (by kernel_rfl)]
          refine wp_store_row 33 _ _ rfl (w.heap.size) #[.int .u64 8192, .slice xa2 xn2 xc2] rfl rfl 33 #[.int .u64 8192, .slice xa xn xc] XR.out.1.2.1 info32 rfl (by simp [Value.oneCell']) ?_
          have XZ : Hid ((Dz w (ur.setRow (w.heap.size) #[.int .u64 8192, .slice xa2 xn2 xc2]) F g M l f n xa2 xn2 xc2 xs2 nn (j + 1) a L c ta tl) ∧ (ur.setRow (w.heap.size) #[.int .u64 8192, .slice xa2 xn2 xc2]).cell? ⟨bd, od + j, none⟩ = some (.int .u8 (y : Int))) := ⟨XR.out.1.store, (setRow_cell (by have := HBD.out; omega)).trans XR.out.2⟩
          clear XR
          generalize ur.setRow (w.heap.size) #[.int .u64 8192, .slice xa2 xn2 xc2] = u9 at *
          refine hK1.out _ _ ⟨cellOf XZ.out.1.2.2.1 0 _ rfl, cellOf XZ.out.1.2.2.1 1 _ rfl, cellOf XZ.out.1.2.2.1 2 _ rfl, XZ.out.2⟩ (fun hr9 => ?_)
          clear hK1 K1 hr
          (try simp only [Act.put, List.getElem_toArray, List.getElem_cons_succ, List.getElem_cons_zero, List.setIfInBounds_toArray, List.set_cons_zero, List.set_cons_succ])
          refine wpAnyH_done (by kernel_rfl) ?_ _
          clear hr9
          go_wp2_with fail
          go_roundw
          case rel => exact ⟨j + 1, xa2, xn2, xc2, xs2, HJN.out, by go_num, XZ.out.1⟩
          case measure => simp [intOf]; have := HJN.out; omega
      · have _hm : True := trivial
        go_simp
        refine (K48.out _ Xd.out.1.1).mono ?_
        rintro e u18 ⟨rfl, hb⟩
        have XO19 : Hid ((Dz w u18 F g M l f n xa xn xc xs nn j a L c ta tl) ∧ u18.cell? ⟨bd, od + j, none⟩ = some (.int .u8 (y : Int))) := Xd.out.imp (fun q => Dz.below q hb) (fun q => (hb.cell (block_lt_of_cell q)).trans q)
        clear hb Xd
        refine hK1.out _ _ ⟨cellOf XO19.out.1.2.2.1 0 _ rfl, cellOf XO19.out.1.2.2.1 1 _ rfl, cellOf XO19.out.1.2.2.1 2 _ rfl, XO19.out.2⟩ (fun hS20 => ?_)
        clear hK1 K1 hS
        (try simp only [Act.put, List.getElem_toArray, List.getElem_cons_succ, List.getElem_cons_zero, List.setIfInBounds_toArray, List.set_cons_zero, List.set_cons_succ])
        refine wpAnyH_ready (rs := [0, 11]) (by kernel_rfl) (by simp) ?_
        refine AllReadyH.cons rfl (fun K1 hK1 => ?_) (AllReadyH.cons rfl (fun K1 hK1 => ?_) AllReadyH.nil)
        · have _hm : True := trivial
          have m0 := cellOf XO19.out.1.2.1 0 _ rfl
          have m1 := cellOf XO19.out.1.2.1 1 _ rfl
          go_simp
          refine hK1.out _ _ ⟨cellOf XO19.out.1.2.2.1 0 _ rfl, cellOf XO19.out.1.2.2.1 1 _ rfl, cellOf XO19.out.1.2.2.1 2 _ rfl, XO19.out.2⟩ (fun hS23 => ?_)
          clear hK1 K1 hS20 m0 m1
          (try simp only [Act.put, List.getElem_toArray, List.getElem_cons_succ, List.getElem_cons_zero, List.setIfInBounds_toArray, List.set_cons_zero, List.set_cons_succ])
          refine wpAnyH_ready (rs := [11]) (by kernel_rfl) (by simp) ?_
          refine AllReadyH.cons rfl (fun K1 hK1 => ?_) AllReadyH.nil
          have _hm : True := trivial
          go_simp
          have hb : Below u18.heap.size u18 (u18.alloc (.cells #[.int .u8 (y : Int)] 5)) := (Below.refl _ _).alloc (Nat.le_refl _) _
          have XO25 : Hid ((Dz w (u18.alloc (.cells #[.int .u8 (y : Int)] 5)) F g M l f n xa xn xc xs nn j a L c ta tl) ∧ (u18.alloc (.cells #[.int .u8 (y : Int)] 5)).cell? ⟨bd, od + j, none⟩ = some (.int .u8 (y : Int))) := XO19.out.imp (fun q => Dz.below q hb) (fun q => (hb.cell (block_lt_of_cell q)).trans q)
          have HGu24 : Hid ((u18.alloc (.cells #[.int .u8 (y : Int)] 5)).heap[u18.heap.size]? = some (.cells #[.int .u8 (y : Int)] 5 (0, 0))) := heap_alloc_new _ _
          clear hb XO19
          generalize u18.alloc (.cells #[.int .u8 (y : Int)] 5) = u24 at *
          generalize u18.heap.size = gx27 at *
          refine hK1.out _ _ ⟨cellOf XO25.out.1.2.2.1 0 _ rfl, cellOf XO25.out.1.2.2.1 1 _ rfl, cellOf XO25.out.1.2.2.1 2 _ rfl, XO25.out.2⟩ (fun hS26 => ?_)
          clear hK1 K1 hS23
          (try simp only [Act.put, List.getElem_toArray, List.getElem_cons_succ, List.getElem_cons_zero, List.setIfInBounds_toArray, List.set_cons_zero, List.set_cons_succ])
          refine wpAnyH_ready (rs := [12]) (by kernel_rfl) (by simp) ?_
          refine AllReadyH.cons rfl (fun K1 hK1 => ?_) AllReadyH.nil
          go_simp
          refine (K33.out _ gx27 XO25.out.1 HGu24.out).mono ?_
          rintro e ur ⟨xa2, xn2, xc2, xs2, rfl, hz, hcl⟩
          have XR : Hid (Dy w ur F g M l f n xa2 xn2 xc2 xs2 nn (j + 1) a L c ta tl xa xn xc ∧ ur.cell? ⟨bd, od + j, none⟩ = some (.int .u8 (y : Int))) := ⟨hz, hcl _ XO25.out.2⟩
          clear hz hcl XO25 HGu24
          refine hK1.out _ _ ⟨cellOf XR.out.1.2.2.1 0 _ rfl, cellOf XR.out.1.2.2.1 1 _ rfl, cellOf XR.out.1.2.2.1 2 _ rfl, XR.out.2⟩ (fun hr => ?_)
          clear hK1 K1 hS26
          (try simp only [Act.put, List.getElem_toArray, List.getElem_cons_succ, List.getElem_cons_zero, List.setIfInBounds_toArray, List.set_cons_zero, List.set_cons_succ])
          refine wpAnyH_take (i := 13) (v := ?_) rfl (by kernel_rfl) (by kernel_rfl) (by kernel_rfl) (fun _ _ _ h => h) (Or.inl ⟨by kernel_rfl, ?_⟩) hr ?_
          rotate_left
          · intro w hSw; (try dsimp only at hSw); go_simp; try (with_reducible rfl)
          (try simp only [Act.put, List.getElem_toArray, List.getElem_cons_succ, List.getElem_cons_zero, List.setIfInBounds_toArray, List.set_cons_zero, List.set_cons_succ])
          refine wpAnyH_take (i := 14) (v := ?_) rfl (by kernel_rfl) (by kernel_rfl) (by kernel_rfl) (fun _ _ _ h => h) (Or.inl ⟨by kernel_rfl, ?_⟩) hr ?_
          rotate_left
          · intro w hSw; (try dsimp only at hSw); go_simp; try (with_reducible rfl)
          (try simp only [Act.put, List.getElem_toArray, List.getElem_cons_succ, List.getElem_cons_zero, List.setIfInBounds_toArray, List.set_cons_zero, List.set_cons_succ])
          refine wpAnyH_take (i := 15) (v := ?_) rfl (by kernel_rfl) (by kernel_rfl) (by kernel_rfl) (fun _ _ _ h => h) (Or.inl ⟨by kernel_rfl, ?_⟩) hr ?_
          rotate_left
          · intro w hSw; (try dsimp only at hSw); go_simp; try (with_reducible rfl)
          (try simp only [Act.put, List.getElem_toArray, List.getElem_cons_succ, List.getElem_cons_zero, List.setIfInBounds_toArray, List.set_cons_zero, List.set_cons_succ])
          refine wpAnyH_ready (rs := [16]) (by kernel_rfl) (by simp) ?_
          refine AllReadyH.cons rfl (fun K1 hK1 => ?_) AllReadyH.nil
          rw [if_pos (by kernel_rfl)]
          refine wp_store_row 33 _ _ rfl (w.heap.size) #[.int .u64 8192, .slice xa2 xn2 xc2] rfl rfl 33 #[.int .u64 8192, .slice xa xn xc] XR.out.1.2.1 info32 rfl (by simp [Value.oneCell']) ?_
          have XZ : Hid ((Dz w (ur.setRow (w.heap.size) #[.int .u64 8192, .slice xa2 xn2 xc2]) F g M l f n xa2 xn2 xc2 xs2 nn (j + 1) a L c ta tl) ∧ (ur.setRow (w.heap.size) #[.int .u64 8192, .slice xa2 xn2 xc2]).cell? ⟨bd, od + j, none⟩ = some (.int .u8 (y : Int))) := ⟨XR.out.1.store, (setRow_cell (by have := HBD.out; omega)).trans XR.out.2⟩
          clear XR
          generalize ur.setRow (w.heap.size) #[.int .u64 8192, .slice xa2 xn2 xc2] = u9 at *
          refine hK1.out _ _ ⟨cellOf XZ.out.1.2.2.1 0 _ rfl, cellOf XZ.out.1.2.2.1 1 _ rfl, cellOf XZ.out.1.2.2.1 2 _ rfl, XZ.out.2⟩ (fun hr9 => ?_)
          clear hK1 K1 hr
          (try simp only [Act.put, List.getElem_toArray, List.getElem_cons_succ, List.getElem_cons_zero, List.setIfInBounds_toArray, List.set_cons_zero, List.set_cons_succ])
          refine wpAnyH_done (by kernel_rfl) ?_ _
          clear hr9
          go_wp2_with fail
          go_roundw
          case rel => exact ⟨j + 1, xa2, xn2, xc2, xs2, HJN.out, by go_num, XZ.out.1⟩
          case measure => simp [intOf]; have := HJN.out; omega
        · have _hm : True := trivial
          go_simp
          have hb : Below u18.heap.size u18 (u18.alloc (.cells #[.int .u8 (y : Int)] 5)) := (Below.refl _ _).alloc (Nat.le_refl _) _
          have XO29 : Hid ((Dz w (u18.alloc (.cells #[.int .u8 (y : Int)] 5)) F g M l f n xa xn xc xs nn j a L c ta tl) ∧ (u18.alloc (.cells #[.int .u8 (y : Int)] 5)).cell? ⟨bd, od + j, none⟩ = some (.int .u8 (y : Int))) := XO19.out.imp (fun q => Dz.below q hb) (fun q => (hb.cell (block_lt_of_cell q)).trans q)
          have HGu28 : Hid ((u18.alloc (.cells #[.int .u8 (y : Int)] 5)).heap[u18.heap.size]? = some (.cells #[.int .u8 (y : Int)] 5 (0, 0))) := heap_alloc_new _ _
          clear hb XO19
          generalize u18.alloc (.cells #[.int .u8 (y : Int)] 5) = u28 at *
          generalize u18.heap.size = gx31 at *
          refine hK1.out _ _ ⟨cellOf XO29.out.1.2.2.1 0 _ rfl, cellOf XO29.out.1.2.2.1 1 _ rfl, cellOf XO29.out.1.2.2.1 2 _ rfl, XO29.out.2⟩ (fun hS30 => ?_)
          clear hK1 K1 hS20
          (try simp only [Act.put, List.getElem_toArray, List.getElem_cons_succ, List.getElem_cons_zero, List.setIfInBounds_toArray, List.set_cons_zero, List.set_cons_succ])
          refine wpAnyH_ready (rs := [0]) (by kernel_rfl) (by simp) ?_
          refine AllReadyH.cons rfl (fun K1 hK1 => ?_) AllReadyH.nil
          have _hm : True := trivial
          have m0 := cellOf XO29.out.1.2.1 0 _ rfl
          have m1 := cellOf XO29.out.1.2.1 1 _ rfl
          go_simp
          refine hK1.out _ _ ⟨cellOf XO29.out.1.2.2.1 0 _ rfl, cellOf XO29.out.1.2.2.1 1 _ rfl, cellOf XO29.out.1.2.2.1 2 _ rfl, XO29.out.2⟩ (fun hS34 => ?_)
          clear hK1 K1 hS30 m0 m1
          (try simp only [Act.put, List.getElem_toArray, List.getElem_cons_succ, List.getElem_cons_zero, List.setIfInBounds_toArray, List.set_cons_zero, List.set_cons_succ])
          refine wpAnyH_ready (rs := [12]) (by kernel_rfl) (by simp) ?_
          refine AllReadyH.cons rfl (fun K1 hK1 => ?_) AllReadyH.nil
          go_simp
          refine (K33.out _ gx31 XO29.out.1 HGu28.out).mono ?_
          rintro e ur ⟨xa2, xn2, xc2, xs2, rfl, hz, hcl⟩
          have XR : Hid (Dy w ur F g M l f n xa2 xn2 xc2 xs2 nn (j + 1) a L c ta tl xa xn xc ∧ ur.cell? ⟨bd, od + j, none⟩ = some (.int .u8 (y : Int))) := ⟨hz, hcl _ XO29.out.2⟩
          clear hz hcl XO29 HGu28
          refine hK1.out _ _ ⟨cellOf XR.out.1.2.2.1 0 _ rfl, cellOf XR.out.1.2.2.1 1 _ rfl, cellOf XR.out.1.2.2.1 2 _ rfl, XR.out.2⟩ (fun hr => ?_)
          clear hK1 K1 hS34
          (try simp only [Act.put, List.getElem_toArray, List.getElem_cons_succ, List.getElem_cons_zero, List.setIfInBounds_toArray, List.set_cons_zero, List.set_cons_succ])
          refine wpAnyH_take (i := 13) (v := ?_) rfl (by kernel_rfl) (by kernel_rfl) (by kernel_rfl) (fun _ _ _ h => h) (Or.inl ⟨by kernel_rfl, ?_⟩) hr ?_
          rotate_left
          · intro w hSw; (try dsimp only at hSw); go_simp; try (with_reducible rfl)
          (try simp only [Act.put, List.getElem_toArray, List.getElem_cons_succ, List.getElem_cons_zero, List.setIfInBounds_toArray, List.set_cons_zero, List.set_cons_succ])
          refine wpAnyH_take (i := 14) (v := ?_) rfl (by kernel_rfl) (by kernel_rfl) (by kernel_rfl) (fun _ _ _ h => h) (Or.inl ⟨by kernel_rfl, ?_⟩) hr ?_
          rotate_left
          · intro w hSw; (try dsimp only at hSw); go_simp; try (with_reducible rfl)
          (try simp only [Act.put, List.getElem_toArray, List.getElem_cons_succ, List.getElem_cons_zero, List.setIfInBounds_toArray, List.set_cons_zero, List.set_cons_succ])
          refine wpAnyH_take (i := 15) (v := ?_) rfl (by kernel_rfl) (by kernel_rfl) (by kernel_rfl) (fun _ _ _ h => h) (Or.inl ⟨by kernel_rfl, ?_⟩) hr ?_
          rotate_left
          · intro w hSw; (try dsimp only at hSw); go_simp; try (with_reducible rfl)
          (try simp only [Act.put, List.getElem_toArray, List.getElem_cons_succ, List.getElem_cons_zero, List.setIfInBounds_toArray, List.set_cons_zero, List.set_cons_succ])
          refine wpAnyH_ready (rs := [16]) (by kernel_rfl) (by simp) ?_
          refine AllReadyH.cons rfl (fun K1 hK1 => ?_) AllReadyH.nil
          rw [if_pos (by kernel_rfl)]
          refine wp_store_row 33 _ _ rfl (w.heap.size) #[.int .u64 8192, .slice xa2 xn2 xc2] rfl rfl 33 #[.int .u64 8192, .slice xa xn xc] XR.out.1.2.1 info32 rfl (by simp [Value.oneCell']) ?_
          have XZ : Hid ((Dz w (ur.setRow (w.heap.size) #[.int .u64 8192, .slice xa2 xn2 xc2]) F g M l f n xa2 xn2 xc2 xs2 nn (j + 1) a L c ta tl) ∧ (ur.setRow (w.heap.size) #[.int .u64 8192, .slice xa2 xn2 xc2]).cell? ⟨bd, od + j, none⟩ = some (.int .u8 (y : Int))) := ⟨XR.out.1.store, (setRow_cell (by have := HBD.out; omega)).trans XR.out.2⟩
          clear XR
          generalize ur.setRow (w.heap.size) #[.int .u64 8192, .slice xa2 xn2 xc2] = u9 at *
          refine hK1.out _ _ ⟨cellOf XZ.out.1.2.2.1 0 _ rfl, cellOf XZ.out.1.2.2.1 1 _ rfl, cellOf XZ.out.1.2.2.1 2 _ rfl, XZ.out.2⟩ (fun hr9 => ?_)
          clear hK1 K1 hr
          (try simp only [Act.put, List.getElem_toArray, List.getElem_cons_succ, List.getElem_cons_zero, List.setIfInBounds_toArray, List.set_cons_zero, List.set_cons_succ])
          refine wpAnyH_done (by kernel_rfl) ?_ _
          clear hr9
          go_wp2_with fail
          go_roundw
          case rel => exact ⟨j + 1, xa2, xn2, xc2, xs2, HJN.out, by go_num, XZ.out.1⟩
          case measure => simp [intOf]; have := HJN.out; omega
      · have _hm : True := trivial
        go_simp
        have hb : Below wd.heap.size wd (wd.alloc (.cells #[.int .u8 (y : Int)] 5)) := (Below.refl _ _).alloc (Nat.le_refl _) _
        have XO36 : Hid ((Dz w (wd.alloc (.cells #[.int .u8 (y : Int)] 5)) F g M l f n xa xn xc xs nn j a L c ta tl) ∧ (wd.alloc (.cells #[.int .u8 (y : Int)] 5)).cell? ⟨bd, od + j, none⟩ = some (.int .u8 (y : Int))) := Xd.out.imp (fun q => Dz.below q hb) (fun q => (hb.cell (block_lt_of_cell q)).trans q)
        have HGu35 : Hid ((wd.alloc (.cells #[.int .u8 (y : Int)] 5)).heap[wd.heap.size]? = some (.cells #[.int .u8 (y : Int)] 5 (0, 0))) := heap_alloc_new _ _
        clear hb Xd
        generalize wd.alloc (.cells #[.int .u8 (y : Int)] 5) = u35 at *
        generalize wd.heap.size = gx38 at *
        refine hK1.out _ _ ⟨cellOf XO36.out.1.2.2.1 0 _ rfl, cellOf XO36.out.1.2.2.1 1 _ rfl, cellOf XO36.out.1.2.2.1 2 _ rfl, XO36.out.2⟩ (fun hS37 => ?_)
        clear hK1 K1 hS
        (try simp only [Act.put, List.getElem_toArray, List.getElem_cons_succ, List.getElem_cons_zero, List.setIfInBounds_toArray, List.set_cons_zero, List.set_cons_succ])
        refine wpAnyH_ready (rs := [0, 6]) (by kernel_rfl) (by simp) ?_
        refine AllReadyH.cons rfl (fun K1 hK1 => ?_) (AllReadyH.cons rfl (fun K1 hK1 => ?_) AllReadyH.nil)
        · have _hm : True := trivial
          have m0 := cellOf XO36.out.1.2.1 0 _ rfl
          have m1 := cellOf XO36.out.1.2.1 1 _ rfl
          go_simp
          refine hK1.out _ _ ⟨cellOf XO36.out.1.2.2.1 0 _ rfl, cellOf XO36.out.1.2.2.1 1 _ rfl, cellOf XO36.out.1.2.2.1 2 _ rfl, XO36.out.2⟩ (fun hS41 => ?_)
          clear hK1 K1 hS37 m0 m1
          (try simp only [Act.put, List.getElem_toArray, List.getElem_cons_succ, List.getElem_cons_zero, List.setIfInBounds_toArray, List.set_cons_zero, List.set_cons_succ])
          refine wpAnyH_ready (rs := [6]) (by kernel_rfl) (by simp) ?_
          refine AllReadyH.cons rfl (fun K1 hK1 => ?_) AllReadyH.nil
          have _hm : True := trivial
          go_simp
          refine (K48.out _ XO36.out.1.1).mono ?_
          rintro e u42 ⟨rfl, hb⟩
          have HGu42 : Hid (u42.heap[gx38]? = some (.cells #[.int .u8 (y : Int)] 5 (0, 0))) := below_box HGu35.out hb
          have XO43 : Hid ((Dz w u42 F g M l f n xa xn xc xs nn j a L c ta tl) ∧ u42.cell? ⟨bd, od + j, none⟩ = some (.int .u8 (y : Int))) := XO36.out.imp (fun q => Dz.below q hb) (fun q => (hb.cell (block_lt_of_cell q)).trans q)
          clear hb XO36 HGu35
          refine hK1.out _ _ ⟨cellOf XO43.out.1.2.2.1 0 _ rfl, cellOf XO43.out.1.2.2.1 1 _ rfl, cellOf XO43.out.1.2.2.1 2 _ rfl, XO43.out.2⟩ (fun hS44 => ?_)
          clear hK1 K1 hS41
          (try simp only [Act.put, List.getElem_toArray, List.getElem_cons_succ, List.getElem_cons_zero, List.setIfInBounds_toArray, List.set_cons_zero, List.set_cons_succ])
          refine wpAnyH_ready (rs := [12]) (by kernel_rfl) (by simp) ?_
          refine AllReadyH.cons rfl (fun K1 hK1 => ?_) AllReadyH.nil
          go_simp
          refine (K33.out _ gx38 XO43.out.1 HGu42.out).mono ?_
          rintro e ur ⟨xa2, xn2, xc2, xs2, rfl, hz, hcl⟩
          have XR : Hid (Dy w ur F g M l f n xa2 xn2 xc2 xs2 nn (j + 1) a L c ta tl xa xn xc ∧ ur.cell? ⟨bd, od + j, none⟩ = some (.int .u8 (y : Int))) := ⟨hz, hcl _ XO43.out.2⟩
          clear hz hcl XO43 HGu42
          refine hK1.out _ _ ⟨cellOf XR.out.1.2.2.1 0 _ rfl, cellOf XR.out.1.2.2.1 1 _ rfl, cellOf XR.out.1.2.2.1 2 _ rfl, XR.out.2⟩ (fun hr => ?_)
          clear hK1 K1 hS44
          (try simp only [Act.put, List.getElem_toArray, List.getElem_cons_succ, List.getElem_cons_zero, List.setIfInBounds_toArray, List.set_cons_zero, List.set_cons_succ])
          refine wpAnyH_take (i := 13) (v := ?_) rfl (by kernel_rfl) (by kernel_rfl) (by kernel_rfl) (fun _ _ _ h => h) (Or.inl ⟨by kernel_rfl, ?_⟩) hr ?_
          rotate_left
          · intro w hSw; (try dsimp only at hSw); go_simp; try (with_reducible rfl)
          (try simp only [Act.put, List.getElem_toArray, List.getElem_cons_succ, List.getElem_cons_zero, List.setIfInBounds_toArray, List.set_cons_zero, List.set_cons_succ])
          refine wpAnyH_take (i := 14) (v := ?_) rfl (by kernel_rfl) (by kernel_rfl) (by kernel_rfl) (fun _ _ _ h => h) (Or.inl ⟨by kernel_rfl, ?_⟩) hr ?_
          rotate_left
          · intro w hSw; (try dsimp only at hSw); go_simp; try (with_reducible rfl)
          (try simp only [Act.put, List.getElem_toArray, List.getElem_cons_succ, List.getElem_cons_zero, List.setIfInBounds_toArray, List.set_cons_zero, List.set_cons_succ])
          refine wpAnyH_take (i := 15) (v := ?_) rfl (by kernel_rfl) (by kernel_rfl) (by kernel_rfl) (fun _ _ _ h => h) (Or.inl ⟨by kernel_rfl, ?_⟩) hr ?_
          rotate_left
          · intro w hSw; (try dsimp only at hSw); go_simp; try (with_reducible rfl)
          (try simp only [Act.put, List.getElem_toArray, List.getElem_cons_succ, List.getElem_cons_zero, List.setIfInBounds_toArray, List.set_cons_zero, List.set_cons_succ])
          refine wpAnyH_ready (rs := [16]) (by kernel_rfl) (by simp) ?_
          refine AllReadyH.cons rfl (fun K1 hK1 => ?_) AllReadyH.nil
          rw [if_pos (by kernel_rfl)]
          refine wp_store_row 33 _ _ rfl (w.heap.size) #[.int .u64 8192, .slice xa2 xn2 xc2] rfl rfl 33 #[.int .u64 8192, .slice xa xn xc] XR.out.1.2.1 info32 rfl (by simp [Value.oneCell']) ?_
          have XZ : Hid ((Dz w (ur.setRow (w.heap.size) #[.int .u64 8192, .slice xa2 xn2 xc2]) F g M l f n xa2 xn2 xc2 xs2 nn (j + 1) a L c ta tl) ∧ (ur.setRow (w.heap.size) #[.int .u64 8192, .slice xa2 xn2 xc2]).cell? ⟨bd, od + j, none⟩ = some (.int .u8 (y : Int))) := ⟨XR.out.1.store, (setRow_cell (by have := HBD.out; omega)).trans XR.out.2⟩
          clear XR
          generalize ur.setRow (w.heap.size) #[.int .u64 8192, .slice xa2 xn2 xc2] = u9 at *
          refine hK1.out _ _ ⟨cellOf XZ.out.1.2.2.1 0 _ rfl, cellOf XZ.out.1.2.2.1 1 _ rfl, cellOf XZ.out.1.2.2.1 2 _ rfl, XZ.out.2⟩ (fun hr9 => ?_)
          clear hK1 K1 hr
          (try simp only [Act.put, List.getElem_toArray, List.getElem_cons_succ, List.getElem_cons_zero, List.setIfInBounds_toArray, List.set_cons_zero, List.set_cons_succ])
          refine wpAnyH_done (by kernel_rfl) ?_ _
          clear hr9
          go_wp2_with fail
          go_roundw
          case rel => exact ⟨j + 1, xa2, xn2, xc2, xs2, HJN.out, by go_num, XZ.out.1⟩
          case measure => simp [intOf]; have := HJN.out; omega
        · have _hm : True := trivial
          go_simp
          refine (K48.out _ XO36.out.1.1).mono ?_
          rintro e u45 ⟨rfl, hb⟩
          have HGu45 : Hid (u45.heap[gx38]? = some (.cells #[.int .u8 (y : Int)] 5 (0, 0))) := below_box HGu35.out hb
          have XO46 : Hid ((Dz w u45 F g M l f n xa xn xc xs nn j a L c ta tl) ∧ u45.cell? ⟨bd, od + j, none⟩ = some (.int .u8 (y : Int))) := XO36.out.imp (fun q => Dz.below q hb) (fun q => (hb.cell (block_lt_of_cell q)).trans q)
          clear hb XO36 HGu35
          refine hK1.out _ _ ⟨cellOf XO46.out.1.2.2.1 0 _ rfl, cellOf XO46.out.1.2.2.1 1 _ rfl, cellOf XO46.out.1.2.2.1 2 _ rfl, XO46.out.2⟩ (fun hS47 => ?_)
          clear hK1 K1 hS37
          (try simp only [Act.put, List.getElem_toArray, List.getElem_cons_succ, List.getElem_cons_zero, List.setIfInBounds_toArray, List.set_cons_zero, List.set_cons_succ])
          refine wpAnyH_ready (rs := [0]) (by kernel_rfl) (by simp) ?_
          refine AllReadyH.cons rfl (fun K1 hK1 => ?_) AllReadyH.nil
          have _hm : True := trivial
          have m0 := cellOf XO46.out.1.2.1 0 _ rfl
          have m1 := cellOf XO46.out.1.2.1 1 _ rfl
          go_simp
          refine hK1.out _ _ ⟨cellOf XO46.out.1.2.2.1 0 _ rfl, cellOf XO46.out.1.2.2.1 1 _ rfl, cellOf XO46.out.1.2.2.1 2 _ rfl, XO46.out.2⟩ (fun hS50 => ?_)
          clear hK1 K1 hS47 m0 m1
          (try simp only [Act.put, List.getElem_toArray, List.getElem_cons_succ, List.getElem_cons_zero, List.setIfInBounds_toArray, List.set_cons_zero, List.set_cons_succ])
          refine wpAnyH_ready (rs := [12]) (by kernel_rfl) (by simp) ?_
          refine AllReadyH.cons rfl (fun K1 hK1 => ?_) AllReadyH.nil
          go_simp
          refine (K33.out _ gx38 XO46.out.1 HGu45.out).mono ?_
          rintro e ur ⟨xa2, xn2, xc2, xs2, rfl, hz, hcl⟩
          have XR : Hid (Dy w ur F g M l f n xa2 xn2 xc2 xs2 nn (j + 1) a L c ta tl xa xn xc ∧ ur.cell? ⟨bd, od + j, none⟩ = some (.int .u8 (y : Int))) := ⟨hz, hcl _ XO46.out.2⟩
          clear hz hcl XO46 HGu45
          refine hK1.out _ _ ⟨cellOf XR.out.1.2.2.1 0 _ rfl, cellOf XR.out.1.2.2.1 1 _ rfl, cellOf XR.out.1.2.2.1 2 _ rfl, XR.out.2⟩ (fun hr => ?_)
          clear hK1 K1 hS50
          (try simp only [Act.put, List.getElem_toArray, List.getElem_cons_succ, List.getElem_cons_zero, List.setIfInBounds_toArray, List.set_cons_zero, List.set_cons_succ])
          refine wpAnyH_take (i := 13) (v := ?_) rfl (by kernel_rfl) (by kernel_rfl) (by kernel_rfl) (fun _ _ _ h => h) (Or.inl ⟨by kernel_rfl, ?_⟩) hr ?_
          rotate_left
          · intro w hSw; (try dsimp only at hSw); go_simp; try (with_reducible rfl)
          (try simp only [Act.put, List.getElem_toArray, List.getElem_cons_succ, List.getElem_cons_zero, List.setIfInBounds_toArray, List.set_cons_zero, List.set_cons_succ])
          refine wpAnyH_take (i := 14) (v := ?_) rfl (by kernel_rfl) (by kernel_rfl) (by kernel_rfl) (fun _ _ _ h => h) (Or.inl ⟨by kernel_rfl, ?_⟩) hr ?_
          rotate_left
          · intro w hSw; (try dsimp only at hSw); go_simp; try (with_reducible rfl)
          (try simp only [Act.put, List.getElem_toArray, List.getElem_cons_succ, List.getElem_cons_zero, List.setIfInBounds_toArray, List.set_cons_zero, List.set_cons_succ])
          refine wpAnyH_take (i := 15) (v := ?_) rfl (by kernel_rfl) (by kernel_rfl) (by kernel_rfl) (fun _ _ _ h => h) (Or.inl ⟨by kernel_rfl, ?_⟩) hr ?_
          rotate_left
          · intro w hSw; (try dsimp only at hSw); go_simp; try (with_reducible rfl)
          (try simp only [Act.put, List.getElem_toArray, List.getElem_cons_succ, List.getElem_cons_zero, List.setIfInBounds_toArray, List.set_cons_zero, List.set_cons_succ])
          refine wpAnyH_ready (rs := [16]) (by kernel_rfl) (by simp) ?_
          refine AllReadyH.cons rfl (fun K1 hK1 => ?_) AllReadyH.nil
          rw [if_pos (by kernel_rfl)]
          refine wp_store_row 33 _ _ rfl (w.heap.size) #[.int .u64 8192, .slice xa2 xn2 xc2] rfl rfl 33 #[.int .u64 8192, .slice xa xn xc] XR.out.1.2.1 info32 rfl (by simp [Value.oneCell']) ?_
          have XZ : Hid ((Dz w (ur.setRow (w.heap.size) #[.int .u64 8192, .slice xa2 xn2 xc2]) F g M l f n xa2 xn2 xc2 xs2 nn (j + 1) a L c ta tl) ∧ (ur.setRow (w.heap.size) #[.int .u64 8192, .slice xa2 xn2 xc2]).cell? ⟨bd, od + j, none⟩ = some (.int .u8 (y : Int))) := ⟨XR.out.1.store, (setRow_cell (by have := HBD.out; omega)).trans XR.out.2⟩
          clear XR
          generalize ur.setRow (w.heap.size) #[.int .u64 8192, .slice xa2 xn2 xc2] = u9 at *
          refine hK1.out _ _ ⟨cellOf XZ.out.1.2.2.1 0 _ rfl, cellOf XZ.out.1.2.2.1 1 _ rfl, cellOf XZ.out.1.2.2.1 2 _ rfl, XZ.out.2⟩ (fun hr9 => ?_)
          clear hK1 K1 hr
          (try simp only [Act.put, List.getElem_toArray, List.getElem_cons_succ, List.getElem_cons_zero, List.setIfInBounds_toArray, List.set_cons_zero, List.set_cons_succ])
          refine wpAnyH_done (by kernel_rfl) ?_ _
          clear hr9
          go_wp2_with fail
          go_roundw
          case rel => exact ⟨j + 1, xa2, xn2, xc2, xs2, HJN.out, by go_num, XZ.out.1⟩
          case measure => simp [intOf]; have := HJN.out; omega
end Go.Proofs.YtmjdnocilbnoaaaGreat

/- The document's Put, Publish and Want. -/
namespace Go.Proofs.YtmjdnocilbnoaaaGreat
open Go.RowKit Go.Maps
set_option linter.unusedVariables false
set_option linter.unusedSimpArgs false
set_option maxRecDepth 100000
/-- the three boxes of a call: the memory, the layout, what is told -/
def Tri (w V : World) (va : Option Addr) (nn vc n D A U : Nat) : Prop :=
  V.heap[w.heap.size]? = some (.cells #[.int .u64 8192, .slice va nn vc] 33 (0, 0)) ∧ V.heap[w.heap.size + 1]? = some (.cells #[.int .i64 (n : Int), .int .u64 (D : Int), .int .u64 (A : Int), .int .u64 (U : Int)] 25 (0, 0)) ∧ V.heap[w.heap.size + 2]? = some (.cells #[.int .u64 0, .slice none 0 0] 33 (0, 0)) ∧ Below w.heap.size w V
theorem Tri.step {w V V' : World} {va : Option Addr} {nn vc n D A U : Nat} (h : Tri w V va nn vc n D A U) (hb : Below V.heap.size V V') : Tri w V' va nn vc n D A U := ⟨below_box h.1 hb, below_box h.2.1 hb, below_box h.2.2.1 hb, below_to h.2.2.2 hb⟩
theorem Tri.new (w : World) (va : Option Addr) (nn vc n D A U : Nat) : Tri w (((w.alloc (.cells #[.int .u64 8192, .slice va nn vc] 33)).alloc (.cells #[.int .i64 (n : Int), .int .u64 (D : Int), .int .u64 (A : Int), .int .u64 (U : Int)] 25)).alloc (.cells #[.int .u64 0, .slice none 0 0] 33)) va nn vc n D A U := by
  have h := two_in w (.cells #[.int .u64 8192, .slice va nn vc] 33) (.cells #[.int .i64 (n : Int), .int .u64 (D : Int), .int .u64 (A : Int), .int .u64 (U : Int)] 25)
  have e2 : ((w.alloc (.cells #[.int .u64 8192, .slice va nn vc] 33)).alloc (.cells #[.int .i64 (n : Int), .int .u64 (D : Int), .int .u64 (A : Int), .int .u64 (U : Int)] 25)).heap.size = w.heap.size + 2 := by simp
  have h3 := heap_alloc_new ((w.alloc (.cells #[.int .u64 8192, .slice va nn vc] 33)).alloc (.cells #[.int .i64 (n : Int), .int .u64 (D : Int), .int .u64 (A : Int), .int .u64 (U : Int)] 25)) (.cells #[.int .u64 0, .slice none 0 0] 33)
  rw [e2] at h3
  exact ⟨cells_alloc h.1, cells_alloc h.2, h3, below_to (two_boxes w _ _) (one_box _ _)⟩
def Two6 (w V : World) (F : Nat → Prop) (a6 : Option Addr) (n6 c6 n D A U : Nat) (bs6 : Nat → Nat × Nat) : Prop :=
  V.heap[w.heap.size]? = some (.cells #[.int .u64 8192, .slice a6 n6 c6] 33 (0, 0)) ∧ V.heap[w.heap.size + 1]? = some (.cells #[.int .i64 (n : Int), .int .u64 (D : Int), .int .u64 (A : Int), .int .u64 (U : Int)] 25 (0, 0)) ∧ V.heap[w.heap.size + 2]? = some (.cells #[.int .u64 0, .slice none 0 0] 33 (0, 0)) ∧ RefIn F V (.slice a6 n6 c6) n6 bs6 ∧ Below w.heap.size w V
/-- the answer is laid into the first box, then into the third -/
theorem tri_end {w V : World} {F : Nat → Prop} {va a6 : Option Addr} {nn vc n D A U n6 c6 : Nat} {bs6 : Nat → Nat × Nat} (h : Tri w V va nn vc n D A U) (hr : RefIn F V (.slice a6 n6 c6) n6 bs6) :
    Two6 w ((V.setCell ⟨w.heap.size, 0, none⟩ (.int .u64 8192)).setCell ⟨w.heap.size, 1, none⟩ (.slice a6 n6 c6)) F a6 n6 c6 n D A U bs6 := by
  have hq := (box_facts h.1).2.1
  have hq' : (V.setCell ⟨w.heap.size, 0, none⟩ (.int .u64 8192)).cell? ⟨w.heap.size, 1, none⟩ = some (.slice va nn vc) := by
    rw [World.cell?_setCell_other _ _ _ _ (fun h => by simp at h)]; exact hq
  exact ⟨box_set h.1, box_other h.2.1 (by omega), box_other h.2.2.1 (by omega), (hr.setBox hq 0 _).setBox hq' 1 _, (h.2.2.2.setCell (p := ⟨w.heap.size, 0, none⟩) (Nat.le_refl _) _).setCell (p := ⟨w.heap.size, 1, none⟩) (Nat.le_refl _) _⟩
theorem two6_end {w V : World} {F : Nat → Prop} {a6 : Option Addr} {n D A U n6 c6 : Nat} {bs6 : Nat → Nat × Nat} (h : Two6 w V F a6 n6 c6 n D A U bs6) :
    RefIn F ((V.setCell ⟨w.heap.size + 2, 0, none⟩ (.int .u64 8192)).setCell ⟨w.heap.size + 2, 1, none⟩ (.slice a6 n6 c6)) (.slice a6 n6 c6) n6 bs6 ∧ Below w.heap.size w ((V.setCell ⟨w.heap.size + 2, 0, none⟩ (.int .u64 8192)).setCell ⟨w.heap.size + 2, 1, none⟩ (.slice a6 n6 c6)) := by
  have hq := (box_facts h.2.2.1).2.1
  have hq' : (V.setCell ⟨w.heap.size + 2, 0, none⟩ (.int .u64 8192)).cell? ⟨w.heap.size + 2, 1, none⟩ = some (.slice none 0 0) := by
    rw [World.cell?_setCell_other _ _ _ _ (fun h => by simp at h)]; exact hq
  have hle : w.heap.size ≤ w.heap.size + 2 := by omega
  exact ⟨(h.2.2.2.1.setBox hq 0 _).setBox hq' 1 _, (h.2.2.2.2.setCell (p := ⟨w.heap.size + 2, 0, none⟩) hle _).setCell (p := ⟨w.heap.size + 2, 1, none⟩) hle _⟩
set_option maxHeartbeats 2000000 in
theorem rpublish_any {F : Nat → Prop} {w : World} {nn vc : Nat} {va : Option Addr} {bs : Nat → Nat × Nat} {M : Nat → Nat} (h : RefIn F w (.slice va nn vc) nn bs) (hM : ∀ a, rget bs nn a = M a) (hle : ∀ a, M a ≤ 255) (hn : nn ≤ 1000000) (hF : ∀ k, F k → k < w.heap.size) (hrg : Rng bs nn 8192) {n D A U : Nat} (hg : Gd n D A U) (m : Nat) (hm : m ≤ 65535) : Calls Tryz.prog 57 #[.agg #[.int .u64 8192, .slice va nn vc], .agg #[.int .i64 (n : Int), .int .u64 (D : Int), .int .u64 (A : Int), .int .u64 (U : Int)], .int .i64 (m : Int)] w fun e w' => ∃ a' n' c' bs', e = .returned (.agg #[.int .u64 8192, .slice a' n' c']) ∧ n' ≤ nn + 2 ∧ RefIn F w' (.slice a' n' c') n' bs' ∧ (∀ a, rget bs' n' a = over M (U + 2) 2 (byteAt m) a) ∧ Rng bs' n' 8192 ∧ Below w.heap.size w w' := by
  have g1 := hg.u1
  have g2 := hg.u2
  have g3 := hg.n2
  have g4 := hg.n1
  have em : IntKind.u64.wrap (m : Int) = (m : Int) := by rw [wrap_u64]; omega
  obtain ⟨x, qx⟩ : ∃ y : Nat, y = U + 2 := ⟨_, rfl⟩
  have wx : IntKind.u64.wrap ((U : Int) + 2) = (x : Int) := by rw [wrap_u64]; omega
  have HX : Hid (U + 2 = x ∧ x < 18446744073709551616) := ⟨by omega, by omega⟩
  have hin : inB x 2 2147483648 8192 = true := by simp only [inB, decide_eq_true_iff]; omega
  have HW : Hid (∀ V, Below w.heap.size w V → ∀ dv, Reads .u8 V dv 2 (byteAt m) → Calls Tryz.prog 31 #[.agg #[.int .u64 8192, .slice va nn vc], .int .u64 (x : Int), dv] V fun e w' => ∃ a' n' c' bs', e = .returned (.tuple #[.agg #[.int .u64 8192, .slice a' n' c'], .bool true]) ∧ (n' ≤ nn + 2 ∧ RefIn F w' (.slice a' n' c') n' bs' ∧ (∀ a, rget bs' n' a = over M x 2 (byteAt m) a) ∧ Rng bs' n' 8192) ∧ Below V.heap.size V w') := fun V hV dv hdv => (rwr_any F V x 2 (.slice va nn vc) dv nn bs (byteAt m) true hin (h.below hV) hdv (fun k hk => Nat.lt_of_lt_of_le (hF k hk) hV.size) hn HX.out.2 (by decide)).mono fun e w' ⟨a', n', c', bs', he, h1, h2, h3, h4⟩ => ⟨a', n', c', bs', he, ⟨h1, h2, fun a => by rw [h3.1 a, if_pos rfl]; exact over_congr _ _ _ hM a, h3.2 hrg⟩, h4⟩
  have HB : Hid (∀ V, Calls Tryz.prog 91 #[.int .u64 (m : Int), .int .i64 2] V fun e w' => ∃ ba bc, e = .returned (.slice ba 2 bc) ∧ Reads .u8 w' (.slice ba 2 bc) 2 (byteAt m) ∧ Below V.heap.size V w') := fun V => (rbytes_any m 2 2 (by omega) (by decide) V).mono fun e w' ⟨v, he, ho, hb⟩ => by
    obtain ⟨a, c, rfl⟩ := own_form ho
    exact ⟨a, c, he, reads_own ho, hb⟩
  clear g1 g2 g3 g4 hg h hM hle hn hF hrg hm hin qx
  rw [HX.out.1]
  have B0 : Hid (Tri w (((w.alloc (.cells #[.int .u64 8192, .slice va nn vc] 33)).alloc (.cells #[.int .i64 (n : Int), .int .u64 (D : Int), .int .u64 (A : Int), .int .u64 (U : Int)] 25)).alloc (.cells #[.int .u64 0, .slice none 0 0] 33)) va nn vc n D A U) := Tri.new w va nn vc n D A U
  go_enter Tryz.func57, Tryz.ntmps57
  go_upto_region 1 with fail
  generalize (((w.alloc (.cells #[.int .u64 8192, .slice va nn vc] 33)).alloc (.cells #[.int .i64 (n : Int), .int .u64 (D : Int), .int .u64 (A : Int), .int .u64 (U : Int)] 25)).alloc (.cells #[.int .u64 0, .slice none 0 0] 33)) = w0 at *
  have X0 : Hid (Tri w w0.drew va nn vc n D A U) := B0.out.step (Below.drew (Below.refl _ _))
  clear B0
  refine wp_region_held_drew (S := fun Z => Z.cell? ⟨w.heap.size + 1, 0, none⟩ = some (.int .i64 (n : Int)) ∧ Z.cell? ⟨w.heap.size + 1, 1, none⟩ = some (.int .u64 (D : Int)) ∧ Z.cell? ⟨w.heap.size + 1, 2, none⟩ = some (.int .u64 (A : Int)) ∧ Z.cell? ⟨w.heap.size + 1, 3, none⟩ = some (.int .u64 (U : Int))) (by kernel_rfl) ⟨cellOf X0.out.2.1 0 _ rfl, cellOf X0.out.2.1 1 _ rfl, cellOf X0.out.2.1 2 _ rfl, cellOf X0.out.2.1 3 _ rfl⟩ ?_
  intro hS
  generalize w0.drew = V0 at *
  refine wpAnyH_take (i := 1) (v := ?_) rfl (by kernel_rfl) (by kernel_rfl) (by kernel_rfl) (fun _ _ _ h => h) (Or.inl ⟨by kernel_rfl, ?_⟩) hS ?_
  rotate_left
  · intro w hSw; (try dsimp only at hSw); go_simp; try (with_reducible rfl)
  (try simp only [Act.put, List.getElem_toArray, List.getElem_cons_succ, List.getElem_cons_zero, List.setIfInBounds_toArray, List.set_cons_zero, List.set_cons_succ])
  refine wpAnyH_take (i := 2) (v := ?_) rfl (by kernel_rfl) (by kernel_rfl) (by kernel_rfl) (fun _ _ _ h => h) (Or.inl ⟨by kernel_rfl, ?_⟩) hS ?_
  rotate_left
  · intro w hSw; (try dsimp only at hSw); go_simp; try (with_reducible rfl)
  (try simp only [Act.put, List.getElem_toArray, List.getElem_cons_succ, List.getElem_cons_zero, List.setIfInBounds_toArray, List.set_cons_zero, List.set_cons_succ])
  refine wpAnyH_take (i := 3) (v := ?_) rfl (by kernel_rfl) (by kernel_rfl) (by kernel_rfl) (fun _ _ _ h => h) (Or.inl ⟨by kernel_rfl, ?_⟩) hS ?_
  rotate_left
  · intro w hSw; (try dsimp only at hSw); go_simp; try (with_reducible rfl)
  (try simp only [Act.put, List.getElem_toArray, List.getElem_cons_succ, List.getElem_cons_zero, List.setIfInBounds_toArray, List.set_cons_zero, List.set_cons_succ])
  refine wpAnyH_take (i := 4) (v := ?_) rfl (by kernel_rfl) (by kernel_rfl) (by kernel_rfl) (fun _ _ _ h => h) (Or.inl ⟨by kernel_rfl, ?_⟩) hS ?_
  rotate_left
  · intro w hSw; (try dsimp only at hSw); go_simp; try (with_reducible rfl)
  (try simp only [Act.put, List.getElem_toArray, List.getElem_cons_succ, List.getElem_cons_zero, List.setIfInBounds_toArray, List.set_cons_zero, List.set_cons_succ])
  refine wpAnyH_take (i := 5) (v := ?_) rfl (by kernel_rfl) (by kernel_rfl) (by kernel_rfl) (fun _ _ _ h => h) (Or.inl ⟨by kernel_rfl, ?_⟩) hS ?_
  rotate_left
  · intro w hSw; (try dsimp only at hSw); go_simp; try (with_reducible rfl)
  (try simp only [Act.put, List.getElem_toArray, List.getElem_cons_succ, List.getElem_cons_zero, List.setIfInBounds_toArray, List.set_cons_zero, List.set_cons_succ])
  refine wpAnyH_ready (rs := [0, 6]) (by kernel_rfl) (by simp) ?_
  refine AllReadyH.cons rfl (fun HH0 HH1 => ?_) (AllReadyH.cons rfl (fun HH0 HH1 => ?_) AllReadyH.nil)
  · have _hm : True := trivial
    have f0 := cellOf X0.out.1 0 _ rfl
    have f1 := cellOf X0.out.1 1 _ rfl
    go_simp
    refine HH1.out _ _ ⟨cellOf X0.out.2.1 0 _ rfl, cellOf X0.out.2.1 1 _ rfl, cellOf X0.out.2.1 2 _ rfl, cellOf X0.out.2.1 3 _ rfl⟩ (fun hS1 => ?_)
    clear HH1 HH0 hS f0 f1
    (try simp only [Act.put, List.getElem_toArray, List.getElem_cons_succ, List.getElem_cons_zero, List.setIfInBounds_toArray, List.set_cons_zero, List.set_cons_succ])
    refine wpAnyH_ready (rs := [6]) (by kernel_rfl) (by simp) ?_
    refine AllReadyH.cons rfl (fun HH0 HH1 => ?_) AllReadyH.nil
    go_simp
    refine (HB.out _).mono ?_
    rintro e w2 ⟨ba, bc, rfl, hr, hb⟩
    have X2 : Hid (Tri w w2 va nn vc n D A U ∧ Reads .u8 w2 (.slice ba 2 bc) 2 (byteAt m)) := ⟨X0.out.step hb, hr⟩
    clear hr hb X0
    refine HH1.out _ _ ⟨cellOf X2.out.1.2.1 0 _ rfl, cellOf X2.out.1.2.1 1 _ rfl, cellOf X2.out.1.2.1 2 _ rfl, cellOf X2.out.1.2.1 3 _ rfl⟩ (fun hS2 => ?_)
    clear HH1 HH0 hS1
    (try simp only [Act.put, List.getElem_toArray, List.getElem_cons_succ, List.getElem_cons_zero, List.setIfInBounds_toArray, List.set_cons_zero, List.set_cons_succ])
    refine wpAnyH_ready (rs := [7]) (by kernel_rfl) (by simp) ?_
    refine AllReadyH.cons rfl (fun HH0 HH1 => ?_) AllReadyH.nil
    go_simp
    refine (HW.out _ X2.out.1.2.2.2 _ X2.out.2).mono ?_
    rintro e w6 ⟨a6, n6, c6, bs6, rfl, h6, hb⟩
    have X6 : Hid (Tri w w6 va nn vc n D A U ∧ n6 ≤ nn + 2 ∧ RefIn F w6 (.slice a6 n6 c6) n6 bs6 ∧ (∀ a, rget bs6 n6 a = over M x 2 (byteAt m) a) ∧ Rng bs6 n6 8192) := ⟨X2.out.1.step hb, h6⟩
    clear h6 hb X2
    refine HH1.out _ _ ⟨cellOf X6.out.1.2.1 0 _ rfl, cellOf X6.out.1.2.1 1 _ rfl, cellOf X6.out.1.2.1 2 _ rfl, cellOf X6.out.1.2.1 3 _ rfl⟩ (fun hS6 => ?_)
    clear HH1 HH0 hS2
    (try simp only [Act.put, List.getElem_toArray, List.getElem_cons_succ, List.getElem_cons_zero, List.setIfInBounds_toArray, List.set_cons_zero, List.set_cons_succ])
    refine wpAnyH_take (i := 8) (v := ?_) rfl (by kernel_rfl) (by kernel_rfl) (by kernel_rfl) (fun _ _ _ h => h) (Or.inl ⟨by kernel_rfl, ?_⟩) hS6 ?_
    rotate_left
    · intro w hSw; (try dsimp only at hSw); go_simp; try (with_reducible rfl)
    (try simp only [Act.put, List.getElem_toArray, List.getElem_cons_succ, List.getElem_cons_zero, List.setIfInBounds_toArray, List.set_cons_zero, List.set_cons_succ])
    refine wpAnyH_take (i := 9) (v := ?_) rfl (by kernel_rfl) (by kernel_rfl) (by kernel_rfl) (fun _ _ _ h => h) (Or.inl ⟨by kernel_rfl, ?_⟩) hS6 ?_
    rotate_left
    · intro w hSw; (try dsimp only at hSw); go_simp; try (with_reducible rfl)
    (try simp only [Act.put, List.getElem_toArray, List.getElem_cons_succ, List.getElem_cons_zero, List.setIfInBounds_toArray, List.set_cons_zero, List.set_cons_succ])
    refine wpAnyH_take (i := 10) (v := ?_) rfl (by kernel_rfl) (by kernel_rfl) (by kernel_rfl) (fun _ _ _ h => h) (Or.inl ⟨by kernel_rfl, ?_⟩) hS6 ?_
    rotate_left
    · intro w hSw; (try dsimp only at hSw); go_simp; try (with_reducible rfl)
    (try simp only [Act.put, List.getElem_toArray, List.getElem_cons_succ, List.getElem_cons_zero, List.setIfInBounds_toArray, List.set_cons_zero, List.set_cons_succ])
    have a0 := cellOf X6.out.1.1 0 _ rfl
    have a1 := cellOf X6.out.1.1 1 _ rfl
    have z0 := frozenOf X6.out.1.1 0
    have z1 := frozenOf X6.out.1.1 1
    refine wpAnyH_ready (rs := [11]) (by kernel_rfl) (by simp) ?_
    refine AllReadyH.cons rfl (fun HH0 HH1 => ?_) AllReadyH.nil
    go_simp
    have Y9 : Hid ((Two6 w ((w6.setCell ⟨w.heap.size, 0, none⟩ (.int .u64 8192)).setCell ⟨w.heap.size, 1, none⟩ (.slice a6 n6 c6)) F a6 n6 c6 n D A U bs6) ∧ n6 ≤ nn + 2 ∧ (∀ a, rget bs6 n6 a = over M x 2 (byteAt m) a) ∧ Rng bs6 n6 8192) := ⟨tri_end X6.out.1 X6.out.2.2.1, X6.out.2.1, X6.out.2.2.2.1, X6.out.2.2.2.2⟩
    clear X6 a0 a1 z0 z1
    generalize (w6.setCell ⟨w.heap.size, 0, none⟩ (.int .u64 8192)).setCell ⟨w.heap.size, 1, none⟩ (.slice a6 n6 c6) = w9 at *
    refine HH1.out _ _ ⟨cellOf Y9.out.1.2.1 0 _ rfl, cellOf Y9.out.1.2.1 1 _ rfl, cellOf Y9.out.1.2.1 2 _ rfl, cellOf Y9.out.1.2.1 3 _ rfl⟩ (fun hS9 => ?_)
    clear HH1 HH0 hS6
    (try simp only [Act.put, List.getElem_toArray, List.getElem_cons_succ, List.getElem_cons_zero, List.setIfInBounds_toArray, List.set_cons_zero, List.set_cons_succ])
    refine wpAnyH_done (by kernel_rfl) ?_ _
    clear hS9
    have a0 := cellOf Y9.out.1.1 0 _ rfl
    have a1 := cellOf Y9.out.1.1 1 _ rfl
    have b0 := cellOf Y9.out.1.2.2.1 0 _ rfl
    have b1 := cellOf Y9.out.1.2.2.1 1 _ rfl
    have z0 := frozenOf Y9.out.1.2.2.1 0
    have z1 := frozenOf Y9.out.1.2.2.1 1
    have Y10 := two6_end Y9.out.1
    have H10 : Hid (_ ∧ _) := Y10
    clear Y10
    go_wp2_with fail
    refine bodyPost_ret (v := .agg #[.int .u64 8192, .slice a6 n6 c6]) (by simp [results, Tryz.results57, go_sem, b0, b1]) rfl ⟨a6, n6, c6, bs6, rfl, Y9.out.2.1, H10.out.1, Y9.out.2.2.1, Y9.out.2.2.2, H10.out.2⟩
  · have _hm : True := trivial
    go_simp
    refine (HB.out _).mono ?_
    rintro e w2 ⟨ba, bc, rfl, hr, hb⟩
    have X2 : Hid (Tri w w2 va nn vc n D A U ∧ Reads .u8 w2 (.slice ba 2 bc) 2 (byteAt m)) := ⟨X0.out.step hb, hr⟩
    clear hr hb X0
    refine HH1.out _ _ ⟨cellOf X2.out.1.2.1 0 _ rfl, cellOf X2.out.1.2.1 1 _ rfl, cellOf X2.out.1.2.1 2 _ rfl, cellOf X2.out.1.2.1 3 _ rfl⟩ (fun hS2 => ?_)
    clear HH1 HH0 hS
    (try simp only [Act.put, List.getElem_toArray, List.getElem_cons_succ, List.getElem_cons_zero, List.setIfInBounds_toArray, List.set_cons_zero, List.set_cons_succ])
    refine wpAnyH_ready (rs := [0]) (by kernel_rfl) (by simp) ?_
    refine AllReadyH.cons rfl (fun HH0 HH1 => ?_) AllReadyH.nil
    have f0 := cellOf X2.out.1.1 0 _ rfl
    have f1 := cellOf X2.out.1.1 1 _ rfl
    go_simp
    refine HH1.out _ _ ⟨cellOf X2.out.1.2.1 0 _ rfl, cellOf X2.out.1.2.1 1 _ rfl, cellOf X2.out.1.2.1 2 _ rfl, cellOf X2.out.1.2.1 3 _ rfl⟩ (fun hS1 => ?_)
    clear HH1 HH0 hS2 f0 f1
    (try simp only [Act.put, List.getElem_toArray, List.getElem_cons_succ, List.getElem_cons_zero, List.setIfInBounds_toArray, List.set_cons_zero, List.set_cons_succ])
    refine wpAnyH_ready (rs := [7]) (by kernel_rfl) (by simp) ?_
    refine AllReadyH.cons rfl (fun HH0 HH1 => ?_) AllReadyH.nil
    go_simp
    refine (HW.out _ X2.out.1.2.2.2 _ X2.out.2).mono ?_
    rintro e w6 ⟨a6, n6, c6, bs6, rfl, h6, hb⟩
    have X6 : Hid (Tri w w6 va nn vc n D A U ∧ n6 ≤ nn + 2 ∧ RefIn F w6 (.slice a6 n6 c6) n6 bs6 ∧ (∀ a, rget bs6 n6 a = over M x 2 (byteAt m) a) ∧ Rng bs6 n6 8192) := ⟨X2.out.1.step hb, h6⟩
    clear h6 hb X2
    refine HH1.out _ _ ⟨cellOf X6.out.1.2.1 0 _ rfl, cellOf X6.out.1.2.1 1 _ rfl, cellOf X6.out.1.2.1 2 _ rfl, cellOf X6.out.1.2.1 3 _ rfl⟩ (fun hS6 => ?_)
    clear HH1 HH0 hS1
    (try simp only [Act.put, List.getElem_toArray, List.getElem_cons_succ, List.getElem_cons_zero, List.setIfInBounds_toArray, List.set_cons_zero, List.set_cons_succ])
    refine wpAnyH_take (i := 8) (v := ?_) rfl (by kernel_rfl) (by kernel_rfl) (by kernel_rfl) (fun _ _ _ h => h) (Or.inl ⟨by kernel_rfl, ?_⟩) hS6 ?_
    rotate_left
    · intro w hSw; (try dsimp only at hSw); go_simp; try (with_reducible rfl)
    (try simp only [Act.put, List.getElem_toArray, List.getElem_cons_succ, List.getElem_cons_zero, List.setIfInBounds_toArray, List.set_cons_zero, List.set_cons_succ])
    refine wpAnyH_take (i := 9) (v := ?_) rfl (by kernel_rfl) (by kernel_rfl) (by kernel_rfl) (fun _ _ _ h => h) (Or.inl ⟨by kernel_rfl, ?_⟩) hS6 ?_
    rotate_left
    · intro w hSw; (try dsimp only at hSw); go_simp; try (with_reducible rfl)
    (try simp only [Act.put, List.getElem_toArray, List.getElem_cons_succ, List.getElem_cons_zero, List.setIfInBounds_toArray, List.set_cons_zero, List.set_cons_succ])
    refine wpAnyH_take (i := 10) (v := ?_) rfl (by kernel_rfl) (by kernel_rfl) (by kernel_rfl) (fun _ _ _ h => h) (Or.inl ⟨by kernel_rfl, ?_⟩) hS6 ?_
    rotate_left
    · intro w hSw; (try dsimp only at hSw); go_simp; try (with_reducible rfl)
    (try simp only [Act.put, List.getElem_toArray, List.getElem_cons_succ, List.getElem_cons_zero, List.setIfInBounds_toArray, List.set_cons_zero, List.set_cons_succ])
    have a0 := cellOf X6.out.1.1 0 _ rfl
    have a1 := cellOf X6.out.1.1 1 _ rfl
    have z0 := frozenOf X6.out.1.1 0
    have z1 := frozenOf X6.out.1.1 1
    refine wpAnyH_ready (rs := [11]) (by kernel_rfl) (by simp) ?_
    refine AllReadyH.cons rfl (fun HH0 HH1 => ?_) AllReadyH.nil
    go_simp
    have Y9 : Hid ((Two6 w ((w6.setCell ⟨w.heap.size, 0, none⟩ (.int .u64 8192)).setCell ⟨w.heap.size, 1, none⟩ (.slice a6 n6 c6)) F a6 n6 c6 n D A U bs6) ∧ n6 ≤ nn + 2 ∧ (∀ a, rget bs6 n6 a = over M x 2 (byteAt m) a) ∧ Rng bs6 n6 8192) := ⟨tri_end X6.out.1 X6.out.2.2.1, X6.out.2.1, X6.out.2.2.2.1, X6.out.2.2.2.2⟩
    clear X6 a0 a1 z0 z1
    generalize (w6.setCell ⟨w.heap.size, 0, none⟩ (.int .u64 8192)).setCell ⟨w.heap.size, 1, none⟩ (.slice a6 n6 c6) = w9 at *
    refine HH1.out _ _ ⟨cellOf Y9.out.1.2.1 0 _ rfl, cellOf Y9.out.1.2.1 1 _ rfl, cellOf Y9.out.1.2.1 2 _ rfl, cellOf Y9.out.1.2.1 3 _ rfl⟩ (fun hS9 => ?_)
    clear HH1 HH0 hS6
    (try simp only [Act.put, List.getElem_toArray, List.getElem_cons_succ, List.getElem_cons_zero, List.setIfInBounds_toArray, List.set_cons_zero, List.set_cons_succ])
    refine wpAnyH_done (by kernel_rfl) ?_ _
    clear hS9
    have a0 := cellOf Y9.out.1.1 0 _ rfl
    have a1 := cellOf Y9.out.1.1 1 _ rfl
    have b0 := cellOf Y9.out.1.2.2.1 0 _ rfl
    have b1 := cellOf Y9.out.1.2.2.1 1 _ rfl
    have z0 := frozenOf Y9.out.1.2.2.1 0
    have z1 := frozenOf Y9.out.1.2.2.1 1
    have Y10 := two6_end Y9.out.1
    have H10 : Hid (_ ∧ _) := Y10
    clear Y10
    go_wp2_with fail
    refine bodyPost_ret (v := .agg #[.int .u64 8192, .slice a6 n6 c6]) (by simp [results, Tryz.results57, go_sem, b0, b1]) rfl ⟨a6, n6, c6, bs6, rfl, Y9.out.2.1, H10.out.1, Y9.out.2.2.1, Y9.out.2.2.2, H10.out.2⟩
set_option maxHeartbeats 2000000 in
theorem rwant_any {F : Nat → Prop} {w : World} {nn vc : Nat} {va : Option Addr} {bs : Nat → Nat × Nat} {M : Nat → Nat} (h : RefIn F w (.slice va nn vc) nn bs) (hM : ∀ a, rget bs nn a = M a) (hle : ∀ a, M a ≤ 255) (hn : nn ≤ 1000000) (hF : ∀ k, F k → k < w.heap.size) (hrg : Rng bs nn 8192) {n D A U : Nat} (hg : Gd n D A U) (m : Nat) (hm : m ≤ 65535) : Calls Tryz.prog 65 #[.agg #[.int .u64 8192, .slice va nn vc], .agg #[.int .i64 (n : Int), .int .u64 (D : Int), .int .u64 (A : Int), .int .u64 (U : Int)], .int .i64 (m : Int)] w fun e w' => ∃ a' n' c' bs', e = .returned (.agg #[.int .u64 8192, .slice a' n' c']) ∧ n' ≤ nn + 2 ∧ RefIn F w' (.slice a' n' c') n' bs' ∧ (∀ a, rget bs' n' a = over M (U + 4 + 8 * n) 2 (byteAt m) a) ∧ Rng bs' n' 8192 ∧ Below w.heap.size w w' := by
  have g1 := hg.u1
  have g2 := hg.u2
  have g3 := hg.n2
  have g4 := hg.n1
  have em : IntKind.u64.wrap (m : Int) = (m : Int) := by rw [wrap_u64]; omega
  have en : IntKind.u64.wrap (n : Int) = (n : Int) := by rw [wrap_u64]; omega
  obtain ⟨U4, qU4⟩ : ∃ y : Nat, y = U + 4 := ⟨_, rfl⟩
  have wU4 : IntKind.u64.wrap ((U : Int) + 4) = (U4 : Int) := by rw [wrap_u64]; omega
  obtain ⟨n8, qn8⟩ : ∃ y : Nat, y = 8 * n := ⟨_, rfl⟩
  have wn8 : IntKind.u64.wrap (8 * (n : Int)) = (n8 : Int) := by rw [wrap_u64]; omega
  obtain ⟨x, qx⟩ : ∃ y : Nat, y = U4 + n8 := ⟨_, rfl⟩
  have wx : IntKind.u64.wrap ((U4 : Int) + (n8 : Int)) = (x : Int) := by rw [wrap_u64]; omega
  have HX : Hid (U + 4 + 8 * n = x ∧ x < 18446744073709551616) := ⟨by omega, by omega⟩
  have hin : inB x 2 2147483648 8192 = true := by simp only [inB, decide_eq_true_iff]; omega
  have HW : Hid (∀ V, Below w.heap.size w V → ∀ dv, Reads .u8 V dv 2 (byteAt m) → Calls Tryz.prog 31 #[.agg #[.int .u64 8192, .slice va nn vc], .int .u64 (x : Int), dv] V fun e w' => ∃ a' n' c' bs', e = .returned (.tuple #[.agg #[.int .u64 8192, .slice a' n' c'], .bool true]) ∧ (n' ≤ nn + 2 ∧ RefIn F w' (.slice a' n' c') n' bs' ∧ (∀ a, rget bs' n' a = over M x 2 (byteAt m) a) ∧ Rng bs' n' 8192) ∧ Below V.heap.size V w') := fun V hV dv hdv => (rwr_any F V x 2 (.slice va nn vc) dv nn bs (byteAt m) true hin (h.below hV) hdv (fun k hk => Nat.lt_of_lt_of_le (hF k hk) hV.size) hn HX.out.2 (by decide)).mono fun e w' ⟨a', n', c', bs', he, h1, h2, h3, h4⟩ => ⟨a', n', c', bs', he, ⟨h1, h2, fun a => by rw [h3.1 a, if_pos rfl]; exact over_congr _ _ _ hM a, h3.2 hrg⟩, h4⟩
  have HB : Hid (∀ V, Calls Tryz.prog 91 #[.int .u64 (m : Int), .int .i64 2] V fun e w' => ∃ ba bc, e = .returned (.slice ba 2 bc) ∧ Reads .u8 w' (.slice ba 2 bc) 2 (byteAt m) ∧ Below V.heap.size V w') := fun V => (rbytes_any m 2 2 (by omega) (by decide) V).mono fun e w' ⟨v, he, ho, hb⟩ => by
    obtain ⟨a, c, rfl⟩ := own_form ho
    exact ⟨a, c, he, reads_own ho, hb⟩
  clear g1 g2 g3 g4 hg h hM hle hn hF hrg hm hin qU4 qn8 qx
  rw [HX.out.1]
  have B0 : Hid (Tri w (((w.alloc (.cells #[.int .u64 8192, .slice va nn vc] 33)).alloc (.cells #[.int .i64 (n : Int), .int .u64 (D : Int), .int .u64 (A : Int), .int .u64 (U : Int)] 25)).alloc (.cells #[.int .u64 0, .slice none 0 0] 33)) va nn vc n D A U) := Tri.new w va nn vc n D A U
  go_enter Tryz.func65, Tryz.ntmps65
  go_upto_region 1 with fail
  generalize (((w.alloc (.cells #[.int .u64 8192, .slice va nn vc] 33)).alloc (.cells #[.int .i64 (n : Int), .int .u64 (D : Int), .int .u64 (A : Int), .int .u64 (U : Int)] 25)).alloc (.cells #[.int .u64 0, .slice none 0 0] 33)) = w0 at *
  have X0 : Hid (Tri w w0.drew va nn vc n D A U) := B0.out.step (Below.drew (Below.refl _ _))
  clear B0
  refine wp_region_held_drew (S := fun Z => Z.cell? ⟨w.heap.size + 1, 0, none⟩ = some (.int .i64 (n : Int)) ∧ Z.cell? ⟨w.heap.size + 1, 1, none⟩ = some (.int .u64 (D : Int)) ∧ Z.cell? ⟨w.heap.size + 1, 2, none⟩ = some (.int .u64 (A : Int)) ∧ Z.cell? ⟨w.heap.size + 1, 3, none⟩ = some (.int .u64 (U : Int))) (by kernel_rfl) ⟨cellOf X0.out.2.1 0 _ rfl, cellOf X0.out.2.1 1 _ rfl, cellOf X0.out.2.1 2 _ rfl, cellOf X0.out.2.1 3 _ rfl⟩ ?_
  intro hS
  generalize w0.drew = V0 at *
  refine wpAnyH_take (i := 1) (v := ?_) rfl (by kernel_rfl) (by kernel_rfl) (by kernel_rfl) (fun _ _ _ h => h) (Or.inl ⟨by kernel_rfl, ?_⟩) hS ?_
  rotate_left
  · intro w hSw; (try dsimp only at hSw); go_simp; try (with_reducible rfl)
  (try simp only [Act.put, List.getElem_toArray, List.getElem_cons_succ, List.getElem_cons_zero, List.setIfInBounds_toArray, List.set_cons_zero, List.set_cons_succ])
  refine wpAnyH_take (i := 2) (v := ?_) rfl (by kernel_rfl) (by kernel_rfl) (by kernel_rfl) (fun _ _ _ h => h) (Or.inl ⟨by kernel_rfl, ?_⟩) hS ?_
  rotate_left
  · intro w hSw; (try dsimp only at hSw); go_simp; try (with_reducible rfl)
  (try simp only [Act.put, List.getElem_toArray, List.getElem_cons_succ, List.getElem_cons_zero, List.setIfInBounds_toArray, List.set_cons_zero, List.set_cons_succ])
  refine wpAnyH_take (i := 3) (v := ?_) rfl (by kernel_rfl) (by kernel_rfl) (by kernel_rfl) (fun _ _ _ h => h) (Or.inl ⟨by kernel_rfl, ?_⟩) hS ?_
  rotate_left
  · intro w hSw; (try dsimp only at hSw); go_simp; try (with_reducible rfl)
  (try simp only [Act.put, List.getElem_toArray, List.getElem_cons_succ, List.getElem_cons_zero, List.setIfInBounds_toArray, List.set_cons_zero, List.set_cons_succ])
  refine wpAnyH_take (i := 4) (v := ?_) rfl (by kernel_rfl) (by kernel_rfl) (by kernel_rfl) (fun _ _ _ h => h) (Or.inl ⟨by kernel_rfl, ?_⟩) hS ?_
  rotate_left
  · intro w hSw; (try dsimp only at hSw); go_simp; try (with_reducible rfl)
  (try simp only [Act.put, List.getElem_toArray, List.getElem_cons_succ, List.getElem_cons_zero, List.setIfInBounds_toArray, List.set_cons_zero, List.set_cons_succ])
  refine wpAnyH_take (i := 5) (v := ?_) rfl (by kernel_rfl) (by kernel_rfl) (by kernel_rfl) (fun _ _ _ h => h) (Or.inl ⟨by kernel_rfl, ?_⟩) hS ?_
  rotate_left
  · intro w hSw; (try dsimp only at hSw); go_simp; try (with_reducible rfl)
  (try simp only [Act.put, List.getElem_toArray, List.getElem_cons_succ, List.getElem_cons_zero, List.setIfInBounds_toArray, List.set_cons_zero, List.set_cons_succ])
  refine wpAnyH_take (i := 6) (v := ?_) rfl (by kernel_rfl) (by kernel_rfl) (by kernel_rfl) (fun _ _ _ h => h) (Or.inl ⟨by kernel_rfl, ?_⟩) hS ?_
  rotate_left
  · intro w hSw; (try dsimp only at hSw); go_simp; try (with_reducible rfl)
  (try simp only [Act.put, List.getElem_toArray, List.getElem_cons_succ, List.getElem_cons_zero, List.setIfInBounds_toArray, List.set_cons_zero, List.set_cons_succ])
  refine wpAnyH_take (i := 7) (v := ?_) rfl (by kernel_rfl) (by kernel_rfl) (by kernel_rfl) (fun _ _ _ h => h) (Or.inl ⟨by kernel_rfl, ?_⟩) hS ?_
  rotate_left
  · intro w hSw; (try dsimp only at hSw); go_simp; try (with_reducible rfl)
  (try simp only [Act.put, List.getElem_toArray, List.getElem_cons_succ, List.getElem_cons_zero, List.setIfInBounds_toArray, List.set_cons_zero, List.set_cons_succ])
  refine wpAnyH_take (i := 8) (v := ?_) rfl (by kernel_rfl) (by kernel_rfl) (by kernel_rfl) (fun _ _ _ h => h) (Or.inl ⟨by kernel_rfl, ?_⟩) hS ?_
  rotate_left
  · intro w hSw; (try dsimp only at hSw); go_simp; try (with_reducible rfl)
  (try simp only [Act.put, List.getElem_toArray, List.getElem_cons_succ, List.getElem_cons_zero, List.setIfInBounds_toArray, List.set_cons_zero, List.set_cons_succ])
  refine wpAnyH_take (i := 9) (v := ?_) rfl (by kernel_rfl) (by kernel_rfl) (by kernel_rfl) (fun _ _ _ h => h) (Or.inl ⟨by kernel_rfl, ?_⟩) hS ?_
  rotate_left
  · intro w hSw; (try dsimp only at hSw); go_simp; try (with_reducible rfl)
  (try simp only [Act.put, List.getElem_toArray, List.getElem_cons_succ, List.getElem_cons_zero, List.setIfInBounds_toArray, List.set_cons_zero, List.set_cons_succ])
  refine wpAnyH_take (i := 10) (v := ?_) rfl (by kernel_rfl) (by kernel_rfl) (by kernel_rfl) (fun _ _ _ h => h) (Or.inl ⟨by kernel_rfl, ?_⟩) hS ?_
  rotate_left
  · intro w hSw; (try dsimp only at hSw); go_simp; try (with_reducible rfl)
  (try simp only [Act.put, List.getElem_toArray, List.getElem_cons_succ, List.getElem_cons_zero, List.setIfInBounds_toArray, List.set_cons_zero, List.set_cons_succ])
  refine wpAnyH_ready (rs := [0, 11]) (by kernel_rfl) (by simp) ?_
  refine AllReadyH.cons rfl (fun HH0 HH1 => ?_) (AllReadyH.cons rfl (fun HH0 HH1 => ?_) AllReadyH.nil)
  · have _hm : True := trivial
    have f0 := cellOf X0.out.1 0 _ rfl
    have f1 := cellOf X0.out.1 1 _ rfl
    go_simp
    refine HH1.out _ _ ⟨cellOf X0.out.2.1 0 _ rfl, cellOf X0.out.2.1 1 _ rfl, cellOf X0.out.2.1 2 _ rfl, cellOf X0.out.2.1 3 _ rfl⟩ (fun hS1 => ?_)
    clear HH1 HH0 hS f0 f1
    (try simp only [Act.put, List.getElem_toArray, List.getElem_cons_succ, List.getElem_cons_zero, List.setIfInBounds_toArray, List.set_cons_zero, List.set_cons_succ])
    refine wpAnyH_ready (rs := [11]) (by kernel_rfl) (by simp) ?_
    refine AllReadyH.cons rfl (fun HH0 HH1 => ?_) AllReadyH.nil
    go_simp
    refine (HB.out _).mono ?_
    rintro e w2 ⟨ba, bc, rfl, hr, hb⟩
    have X2 : Hid (Tri w w2 va nn vc n D A U ∧ Reads .u8 w2 (.slice ba 2 bc) 2 (byteAt m)) := ⟨X0.out.step hb, hr⟩
    clear hr hb X0
    refine HH1.out _ _ ⟨cellOf X2.out.1.2.1 0 _ rfl, cellOf X2.out.1.2.1 1 _ rfl, cellOf X2.out.1.2.1 2 _ rfl, cellOf X2.out.1.2.1 3 _ rfl⟩ (fun hS2 => ?_)
    clear HH1 HH0 hS1
    (try simp only [Act.put, List.getElem_toArray, List.getElem_cons_succ, List.getElem_cons_zero, List.setIfInBounds_toArray, List.set_cons_zero, List.set_cons_succ])
    refine wpAnyH_ready (rs := [12]) (by kernel_rfl) (by simp) ?_
    refine AllReadyH.cons rfl (fun HH0 HH1 => ?_) AllReadyH.nil
    go_simp
    refine (HW.out _ X2.out.1.2.2.2 _ X2.out.2).mono ?_
    rintro e w6 ⟨a6, n6, c6, bs6, rfl, h6, hb⟩
    have X6 : Hid (Tri w w6 va nn vc n D A U ∧ n6 ≤ nn + 2 ∧ RefIn F w6 (.slice a6 n6 c6) n6 bs6 ∧ (∀ a, rget bs6 n6 a = over M x 2 (byteAt m) a) ∧ Rng bs6 n6 8192) := ⟨X2.out.1.step hb, h6⟩
    clear h6 hb X2
    refine HH1.out _ _ ⟨cellOf X6.out.1.2.1 0 _ rfl, cellOf X6.out.1.2.1 1 _ rfl, cellOf X6.out.1.2.1 2 _ rfl, cellOf X6.out.1.2.1 3 _ rfl⟩ (fun hS6 => ?_)
    clear HH1 HH0 hS2
    (try simp only [Act.put, List.getElem_toArray, List.getElem_cons_succ, List.getElem_cons_zero, List.setIfInBounds_toArray, List.set_cons_zero, List.set_cons_succ])
    refine wpAnyH_take (i := 13) (v := ?_) rfl (by kernel_rfl) (by kernel_rfl) (by kernel_rfl) (fun _ _ _ h => h) (Or.inl ⟨by kernel_rfl, ?_⟩) hS6 ?_
    rotate_left
    · intro w hSw; (try dsimp only at hSw); go_simp; try (with_reducible rfl)
    (try simp only [Act.put, List.getElem_toArray, List.getElem_cons_succ, List.getElem_cons_zero, List.setIfInBounds_toArray, List.set_cons_zero, List.set_cons_succ])
    refine wpAnyH_take (i := 14) (v := ?_) rfl (by kernel_rfl) (by kernel_rfl) (by kernel_rfl) (fun _ _ _ h => h) (Or.inl ⟨by kernel_rfl, ?_⟩) hS6 ?_
    rotate_left
    · intro w hSw; (try dsimp only at hSw); go_simp; try (with_reducible rfl)
    (try simp only [Act.put, List.getElem_toArray, List.getElem_cons_succ, List.getElem_cons_zero, List.setIfInBounds_toArray, List.set_cons_zero, List.set_cons_succ])
    refine wpAnyH_take (i := 15) (v := ?_) rfl (by kernel_rfl) (by kernel_rfl) (by kernel_rfl) (fun _ _ _ h => h) (Or.inl ⟨by kernel_rfl, ?_⟩) hS6 ?_
    rotate_left
    · intro w hSw; (try dsimp only at hSw); go_simp; try (with_reducible rfl)
    (try simp only [Act.put, List.getElem_toArray, List.getElem_cons_succ, List.getElem_cons_zero, List.setIfInBounds_toArray, List.set_cons_zero, List.set_cons_succ])
    have a0 := cellOf X6.out.1.1 0 _ rfl
    have a1 := cellOf X6.out.1.1 1 _ rfl
    have z0 := frozenOf X6.out.1.1 0
    have z1 := frozenOf X6.out.1.1 1
    refine wpAnyH_ready (rs := [16]) (by kernel_rfl) (by simp) ?_
    refine AllReadyH.cons rfl (fun HH0 HH1 => ?_) AllReadyH.nil
    go_simp
    have Y9 : Hid ((Two6 w ((w6.setCell ⟨w.heap.size, 0, none⟩ (.int .u64 8192)).setCell ⟨w.heap.size, 1, none⟩ (.slice a6 n6 c6)) F a6 n6 c6 n D A U bs6) ∧ n6 ≤ nn + 2 ∧ (∀ a, rget bs6 n6 a = over M x 2 (byteAt m) a) ∧ Rng bs6 n6 8192) := ⟨tri_end X6.out.1 X6.out.2.2.1, X6.out.2.1, X6.out.2.2.2.1, X6.out.2.2.2.2⟩
    clear X6 a0 a1 z0 z1
    generalize (w6.setCell ⟨w.heap.size, 0, none⟩ (.int .u64 8192)).setCell ⟨w.heap.size, 1, none⟩ (.slice a6 n6 c6) = w9 at *
    refine HH1.out _ _ ⟨cellOf Y9.out.1.2.1 0 _ rfl, cellOf Y9.out.1.2.1 1 _ rfl, cellOf Y9.out.1.2.1 2 _ rfl, cellOf Y9.out.1.2.1 3 _ rfl⟩ (fun hS9 => ?_)
    clear HH1 HH0 hS6
    (try simp only [Act.put, List.getElem_toArray, List.getElem_cons_succ, List.getElem_cons_zero, List.setIfInBounds_toArray, List.set_cons_zero, List.set_cons_succ])
    refine wpAnyH_done (by kernel_rfl) ?_ _
    clear hS9
    have a0 := cellOf Y9.out.1.1 0 _ rfl
    have a1 := cellOf Y9.out.1.1 1 _ rfl
    have b0 := cellOf Y9.out.1.2.2.1 0 _ rfl
    have b1 := cellOf Y9.out.1.2.2.1 1 _ rfl
    have z0 := frozenOf Y9.out.1.2.2.1 0
    have z1 := frozenOf Y9.out.1.2.2.1 1
    have Y10 := two6_end Y9.out.1
    have H10 : Hid (_ ∧ _) := Y10
    clear Y10
    go_wp2_with fail
    refine bodyPost_ret (v := .agg #[.int .u64 8192, .slice a6 n6 c6]) (by simp [results, Tryz.results65, go_sem, b0, b1]) rfl ⟨a6, n6, c6, bs6, rfl, Y9.out.2.1, H10.out.1, Y9.out.2.2.1, Y9.out.2.2.2, H10.out.2⟩
  · have _hm : True := trivial
    go_simp
    refine (HB.out _).mono ?_
    rintro e w2 ⟨ba, bc, rfl, hr, hb⟩
    have X2 : Hid (Tri w w2 va nn vc n D A U ∧ Reads .u8 w2 (.slice ba 2 bc) 2 (byteAt m)) := ⟨X0.out.step hb, hr⟩
    clear hr hb X0
    refine HH1.out _ _ ⟨cellOf X2.out.1.2.1 0 _ rfl, cellOf X2.out.1.2.1 1 _ rfl, cellOf X2.out.1.2.1 2 _ rfl, cellOf X2.out.1.2.1 3 _ rfl⟩ (fun hS2 => ?_)
    clear HH1 HH0 hS
    (try simp only [Act.put, List.getElem_toArray, List.getElem_cons_succ, List.getElem_cons_zero, List.setIfInBounds_toArray, List.set_cons_zero, List.set_cons_succ])
    refine wpAnyH_ready (rs := [0]) (by kernel_rfl) (by simp) ?_
    refine AllReadyH.cons rfl (fun HH0 HH1 => ?_) AllReadyH.nil
    have f0 := cellOf X2.out.1.1 0 _ rfl
    have f1 := cellOf X2.out.1.1 1 _ rfl
    go_simp
    refine HH1.out _ _ ⟨cellOf X2.out.1.2.1 0 _ rfl, cellOf X2.out.1.2.1 1 _ rfl, cellOf X2.out.1.2.1 2 _ rfl, cellOf X2.out.1.2.1 3 _ rfl⟩ (fun hS1 => ?_)
    clear HH1 HH0 hS2 f0 f1
    (try simp only [Act.put, List.getElem_toArray, List.getElem_cons_succ, List.getElem_cons_zero, List.setIfInBounds_toArray, List.set_cons_zero, List.set_cons_succ])
    refine wpAnyH_ready (rs := [12]) (by kernel_rfl) (by simp) ?_
    refine AllReadyH.cons rfl (fun HH0 HH1 => ?_) AllReadyH.nil
    go_simp
    refine (HW.out _ X2.out.1.2.2.2 _ X2.out.2).mono ?_
    rintro e w6 ⟨a6, n6, c6, bs6, rfl, h6, hb⟩
    have X6 : Hid (Tri w w6 va nn vc n D A U ∧ n6 ≤ nn + 2 ∧ RefIn F w6 (.slice a6 n6 c6) n6 bs6 ∧ (∀ a, rget bs6 n6 a = over M x 2 (byteAt m) a) ∧ Rng bs6 n6 8192) := ⟨X2.out.1.step hb, h6⟩
    clear h6 hb X2
    refine HH1.out _ _ ⟨cellOf X6.out.1.2.1 0 _ rfl, cellOf X6.out.1.2.1 1 _ rfl, cellOf X6.out.1.2.1 2 _ rfl, cellOf X6.out.1.2.1 3 _ rfl⟩ (fun hS6 => ?_)
    clear HH1 HH0 hS1
    (try simp only [Act.put, List.getElem_toArray, List.getElem_cons_succ, List.getElem_cons_zero, List.setIfInBounds_toArray, List.set_cons_zero, List.set_cons_succ])
    refine wpAnyH_take (i := 13) (v := ?_) rfl (by kernel_rfl) (by kernel_rfl) (by kernel_rfl) (fun _ _ _ h => h) (Or.inl ⟨by kernel_rfl, ?_⟩) hS6 ?_
    rotate_left
    · intro w hSw; (try dsimp only at hSw); go_simp; try (with_reducible rfl)
    (try simp only [Act.put, List.getElem_toArray, List.getElem_cons_succ, List.getElem_cons_zero, List.setIfInBounds_toArray, List.set_cons_zero, List.set_cons_succ])
    refine wpAnyH_take (i := 14) (v := ?_) rfl (by kernel_rfl) (by kernel_rfl) (by kernel_rfl) (fun _ _ _ h => h) (Or.inl ⟨by kernel_rfl, ?_⟩) hS6 ?_
    rotate_left
    · intro w hSw; (try dsimp only at hSw); go_simp; try (with_reducible rfl)
    (try simp only [Act.put, List.getElem_toArray, List.getElem_cons_succ, List.getElem_cons_zero, List.setIfInBounds_toArray, List.set_cons_zero, List.set_cons_succ])
    refine wpAnyH_take (i := 15) (v := ?_) rfl (by kernel_rfl) (by kernel_rfl) (by kernel_rfl) (fun _ _ _ h => h) (Or.inl ⟨by kernel_rfl, ?_⟩) hS6 ?_
    rotate_left
    · intro w hSw; (try dsimp only at hSw); go_simp; try (with_reducible rfl)
    (try simp only [Act.put, List.getElem_toArray, List.getElem_cons_succ, List.getElem_cons_zero, List.setIfInBounds_toArray, List.set_cons_zero, List.set_cons_succ])
    have a0 := cellOf X6.out.1.1 0 _ rfl
    have a1 := cellOf X6.out.1.1 1 _ rfl
    have z0 := frozenOf X6.out.1.1 0
    have z1 := frozenOf X6.out.1.1 1
    refine wpAnyH_ready (rs := [16]) (by kernel_rfl) (by simp) ?_
    refine AllReadyH.cons rfl (fun HH0 HH1 => ?_) AllReadyH.nil
    go_simp
    have Y9 : Hid ((Two6 w ((w6.setCell ⟨w.heap.size, 0, none⟩ (.int .u64 8192)).setCell ⟨w.heap.size, 1, none⟩ (.slice a6 n6 c6)) F a6 n6 c6 n D A U bs6) ∧ n6 ≤ nn + 2 ∧ (∀ a, rget bs6 n6 a = over M x 2 (byteAt m) a) ∧ Rng bs6 n6 8192) := ⟨tri_end X6.out.1 X6.out.2.2.1, X6.out.2.1, X6.out.2.2.2.1, X6.out.2.2.2.2⟩
    clear X6 a0 a1 z0 z1
    generalize (w6.setCell ⟨w.heap.size, 0, none⟩ (.int .u64 8192)).setCell ⟨w.heap.size, 1, none⟩ (.slice a6 n6 c6) = w9 at *
    refine HH1.out _ _ ⟨cellOf Y9.out.1.2.1 0 _ rfl, cellOf Y9.out.1.2.1 1 _ rfl, cellOf Y9.out.1.2.1 2 _ rfl, cellOf Y9.out.1.2.1 3 _ rfl⟩ (fun hS9 => ?_)
    clear HH1 HH0 hS6
    (try simp only [Act.put, List.getElem_toArray, List.getElem_cons_succ, List.getElem_cons_zero, List.setIfInBounds_toArray, List.set_cons_zero, List.set_cons_succ])
    refine wpAnyH_done (by kernel_rfl) ?_ _
    clear hS9
    have a0 := cellOf Y9.out.1.1 0 _ rfl
    have a1 := cellOf Y9.out.1.1 1 _ rfl
    have b0 := cellOf Y9.out.1.2.2.1 0 _ rfl
    have b1 := cellOf Y9.out.1.2.2.1 1 _ rfl
    have z0 := frozenOf Y9.out.1.2.2.1 0
    have z1 := frozenOf Y9.out.1.2.2.1 1
    have Y10 := two6_end Y9.out.1
    have H10 : Hid (_ ∧ _) := Y10
    clear Y10
    go_wp2_with fail
    refine bodyPost_ret (v := .agg #[.int .u64 8192, .slice a6 n6 c6]) (by simp [results, Tryz.results65, go_sem, b0, b1]) rfl ⟨a6, n6, c6, bs6, rfl, Y9.out.2.1, H10.out.1, Y9.out.2.2.1, Y9.out.2.2.2, H10.out.2⟩
end Go.Proofs.YtmjdnocilbnoaaaGreat

/- The document's Put. -/
namespace Go.Proofs.YtmjdnocilbnoaaaGreat
open Go.RowKit Go.Maps
set_option linter.unusedVariables false
set_option linter.unusedSimpArgs false
set_option maxRecDepth 100000
theorem tri_low {w V V' : World} {va : Option Addr} {nn vc n D A U : Nat} (h : Tri w V va nn vc n D A U) (hb : Below (w.heap.size + 3) V V') : Tri w V' va nn vc n D A U :=
  ⟨(hb.block _ (by omega)).trans h.1, (hb.block _ (by omega)).trans h.2.1, (hb.block _ (by omega)).trans h.2.2.1, h.2.2.2.trans (hb.mono (by omega))⟩
set_option maxHeartbeats 2000000 in
theorem rput15_any {F : Nat → Prop} {w : World} {nn vc : Nat} {va : Option Addr} {bs : Nat → Nat × Nat} {M : Nat → Nat} (h : RefIn F w (.slice va nn vc) nn bs) (hM : ∀ a, rget bs nn a = M a) (hle : ∀ a, M a ≤ 255) (hn : nn ≤ 1000000) (hF : ∀ k, F k → k < w.heap.size) (hrg : Rng bs nn 8192) {n D A U : Nat} (hg : Gd n D A U) (m r d c : Nat) (hm : m ≤ 65535) (hr : r = m % n) (hd : d ≤ 65535) (hc : c ≤ 4294967295) : Calls Tryz.prog 56 #[.agg #[.int .u64 8192, .slice va nn vc], .agg #[.int .i64 (n : Int), .int .u64 (D : Int), .int .u64 (A : Int), .int .u64 (U : Int)], .int .i64 (m : Int), .int .i64 (d : Int), .int .u32 (c : Int)] w fun e w' => ∃ a' n' c' bs', e = .returned (.agg #[.int .u64 8192, .slice a' n' c']) ∧ n' ≤ nn + 8 ∧ RefIn F w' (.slice a' n' c') n' bs' ∧ (∀ a, rget bs' n' a = over M (U + 4 + 8 * r) 8 (eB d c) a) ∧ Rng bs' n' 8192 ∧ Below w.heap.size w w' := by
  have g1 := hg.u1
  have g2 := hg.u2
  have g3 := hg.n2
  have g4 := hg.n1
  have g5 : r < n := by rw [hr]; exact Nat.mod_lt _ (by omega)
  have gm : (m : Int).tmod (n : Int) = (r : Int) := by rw [Int.tmod_eq_emod_of_nonneg (by omega), hr]; simp
  have gn0 : ¬ n = 0 := by omega
  have er : IntKind.u64.wrap (r : Int) = (r : Int) := by rw [wrap_u64]; omega
  have ed : IntKind.u64.wrap (d : Int) = (d : Int) := by rw [wrap_u64]; omega
  have ec : IntKind.u64.wrap (c : Int) = (c : Int) := by rw [wrap_u64]; omega
  obtain ⟨U4, qU4⟩ : ∃ y : Nat, y = U + 4 := ⟨_, rfl⟩
  have wU4 : IntKind.u64.wrap ((U : Int) + 4) = (U4 : Int) := by rw [wrap_u64]; omega
  obtain ⟨r8, qr8⟩ : ∃ y : Nat, y = 8 * r := ⟨_, rfl⟩
  have wr8 : IntKind.u64.wrap (8 * (r : Int)) = (r8 : Int) := by rw [wrap_u64]; omega
  obtain ⟨x, qx⟩ : ∃ y : Nat, y = U4 + r8 := ⟨_, rfl⟩
  have wx : IntKind.u64.wrap ((U4 : Int) + (r8 : Int)) = (x : Int) := by rw [wrap_u64]; omega
  have HX : Hid (U + 4 + 8 * r = x ∧ x < 18446744073709551616) := ⟨by omega, by omega⟩
  have hin : inB x 8 2147483648 8192 = true := by simp only [inB, decide_eq_true_iff]; omega
  have HW : Hid (∀ V, Below w.heap.size w V → ∀ dv, Reads .u8 V dv 8 (eB d c) → Calls Tryz.prog 31 #[.agg #[.int .u64 8192, .slice va nn vc], .int .u64 (x : Int), dv] V fun e w' => ∃ a' n' c' bs', e = .returned (.tuple #[.agg #[.int .u64 8192, .slice a' n' c'], .bool true]) ∧ (n' ≤ nn + 8 ∧ RefIn F w' (.slice a' n' c') n' bs' ∧ (∀ a, rget bs' n' a = over M x 8 (eB d c) a) ∧ Rng bs' n' 8192) ∧ Below V.heap.size V w') := fun V hV dv hdv => (rwr_any F V x 8 (.slice va nn vc) dv nn bs (eB d c) true hin (h.below hV) hdv (fun k hk => Nat.lt_of_lt_of_le (hF k hk) hV.size) hn HX.out.2 (by decide)).mono fun e w' ⟨a', n', c', bs', he, h1, h2, h3, h4⟩ => ⟨a', n', c', bs', he, ⟨h1, h2, fun a => by rw [h3.1 a, if_pos rfl]; exact over_congr _ _ _ hM a, h3.2 hrg⟩, h4⟩
  have HD : Hid (d < 18446744073709551616 ∧ c < 18446744073709551616) := ⟨by omega, by omega⟩
  clear g1 g2 g3 g4 g5 hg h hM hle hn hF hrg hm hin hr hd hc qU4 qr8 qx
  rw [HX.out.1]
  have B0 : Hid (Tri w (((w.alloc (.cells #[.int .u64 8192, .slice va nn vc] 33)).alloc (.cells #[.int .i64 (n : Int), .int .u64 (D : Int), .int .u64 (A : Int), .int .u64 (U : Int)] 25)).alloc (.cells #[.int .u64 0, .slice none 0 0] 33)) va nn vc n D A U) := Tri.new w va nn vc n D A U
  go_enter Tryz.func56, Tryz.ntmps56
  go_upto_region 1 with fail
  generalize (((w.alloc (.cells #[.int .u64 8192, .slice va nn vc] 33)).alloc (.cells #[.int .i64 (n : Int), .int .u64 (D : Int), .int .u64 (A : Int), .int .u64 (U : Int)] 25)).alloc (.cells #[.int .u64 0, .slice none 0 0] 33)) = w0 at *
  obtain ⟨c0, c1, c2, c3⟩ := box4_facts B0.out.2.1
  go_quiet (fail)
  have X1 : Hid (Tri w (w0.drewN nq) va nn vc n D A U) := B0.out.step (below_drewN (Below.refl _ _) nq)
  clear B0 c0 c1 c2 c3
  generalize w0.drewN nq = w1 at *
  go_wp2_with fail
  refine (rbytes_any d 4 4 HD.out.1 (by decide) _).mono ?_
  rintro e w2 ⟨v2, rfl, ho, hb⟩
  have X2 : Hid (Tri w w2 va nn vc n D A U ∧ w2.ownsRow (w.heap.size + 3) 5 1 v2 4 (rowK .u8 (byteAt d) 4)) := ⟨X1.out.step hb, own_low ho (by have := (Array.getElem?_eq_some_iff.1 X1.out.2.2.1).1; omega)⟩
  clear ho hb X1
  obtain ⟨a2, k2, hv2⟩ := own_form X2.out.2
  subst hv2
  go_wp2_with fail
  refine (rbytes_any c 4 4 HD.out.2 (by decide) _).mono ?_
  rintro e w3 ⟨v3, rfl, ho, hb⟩
  have X3 : Hid (Tri w w3 va nn vc n D A U ∧ w3.ownsRow (w.heap.size + 3) 5 1 (.slice a2 4 k2) 4 (rowK .u8 (byteAt d) 4) ∧ Reads .u8 w3 v3 4 (byteAt c)) := ⟨X2.out.1.step hb, own_below X2.out.2 hb, reads_own ho⟩
  clear ho hb X2
  obtain ⟨a3, k3, hv3⟩ := reads_form X3.out.2.2
  subst hv3
  go_wp2_with (first | (at_builtin; refine wpList_append_more rfl _ _ rfl (w.heap.size + 3) 4 (byteAt d) (.slice a2 4 k2) rfl X3.out.2.1 (.slice a3 4 k3) rfl 4 (byteAt c) X3.out.2.2 (by decide) (by decide) (by have := (Array.getElem?_eq_some_iff.1 X3.out.1.2.2.1).1; omega) ?_; intro g4 q4 w4 ho hb; have X4 : Hid (Tri w w4 va nn vc n D A U ∧ Reads .u8 w4 (.slice (some ⟨g4, 0, none⟩) 8 q4) 8 (eB d c)) := ⟨tri_low X3.out.1 hb, reads_own ho⟩; clear ho hb X3; have f0 := cellOf X4.out.1.1 0 _ rfl; have f1 := cellOf X4.out.1.1 1 _ rfl))
  refine (HW.out _ X4.out.1.2.2.2 _ X4.out.2).mono ?_
  rintro e w6 ⟨a6, n6, c6, bs6, rfl, h6, hb⟩
  have X6 : Hid (Tri w w6 va nn vc n D A U ∧ n6 ≤ nn + 8 ∧ RefIn F w6 (.slice a6 n6 c6) n6 bs6 ∧ (∀ a, rget bs6 n6 a = over M x 8 (eB d c) a) ∧ Rng bs6 n6 8192) := ⟨X4.out.1.step hb, h6⟩
  clear h6 hb X4 f0 f1
  have a0 := cellOf X6.out.1.1 0 _ rfl
  have a1 := cellOf X6.out.1.1 1 _ rfl
  have z0 := frozenOf X6.out.1.1 0
  have z1 := frozenOf X6.out.1.1 1
  have Y9 : Hid ((Two6 w ((w6.setCell ⟨w.heap.size, 0, none⟩ (.int .u64 8192)).setCell ⟨w.heap.size, 1, none⟩ (.slice a6 n6 c6)) F a6 n6 c6 n D A U bs6) ∧ n6 ≤ nn + 8 ∧ (∀ a, rget bs6 n6 a = over M x 8 (eB d c) a) ∧ Rng bs6 n6 8192) := ⟨tri_end X6.out.1 X6.out.2.2.1, X6.out.2.1, X6.out.2.2.2.1, X6.out.2.2.2.2⟩
  go_upto_region 4 with fail
  clear X6 a0 a1 z0 z1
  generalize (w6.setCell ⟨w.heap.size, 0, none⟩ (.int .u64 8192)).setCell ⟨w.heap.size, 1, none⟩ (.slice a6 n6 c6) = w9 at *
  have a0 := cellOf Y9.out.1.1 0 _ rfl
  have a1 := cellOf Y9.out.1.1 1 _ rfl
  have b0 := cellOf Y9.out.1.2.2.1 0 _ rfl
  have b1 := cellOf Y9.out.1.2.2.1 1 _ rfl
  have z0 := frozenOf Y9.out.1.2.2.1 0
  have z1 := frozenOf Y9.out.1.2.2.1 1
  have Y10 := two6_end Y9.out.1
  have H10 : Hid (_ ∧ _) := Y10
  clear Y10
  go_wp2_with fail
  refine bodyPost_ret (v := .agg #[.int .u64 8192, .slice a6 n6 c6]) (by simp [results, Tryz.results56, go_sem, b0, b1]) rfl ⟨a6, n6, c6, bs6, rfl, Y9.out.2.1, H10.out.1, Y9.out.2.2.1, Y9.out.2.2.2, H10.out.2⟩
end Go.Proofs.YtmjdnocilbnoaaaGreat

/- The document's Return: ground. -/
namespace Go.Proofs.YtmjdnocilbnoaaaGreat
open Go.RowKit Go.Maps
set_option linter.unusedVariables false
set_option linter.unusedSimpArgs false
set_option maxRecDepth 100000
theorem infoDR : (Tryz.prog.info? 33).map (·.size) = some 2 := by kernel_rfl
theorem four_box (w : World) (o1 o2 o3 o4 : Obj) : Below w.heap.size w ((((w.alloc o1).alloc o2).alloc o3).alloc o4) ∧ ((((w.alloc o1).alloc o2).alloc o3).alloc o4).heap[w.heap.size]? = some o1 ∧ ((((w.alloc o1).alloc o2).alloc o3).alloc o4).heap[w.heap.size + 1]? = some o2 ∧ ((((w.alloc o1).alloc o2).alloc o3).alloc o4).heap[w.heap.size + 2]? = some o3 ∧ ((((w.alloc o1).alloc o2).alloc o3).alloc o4).heap[w.heap.size + 3]? = some o4 := by
  have h3 := three_in w o1 o2 o3
  generalize hV : ((w.alloc o1).alloc o2).alloc o3 = V at *
  have hs : V.heap.size = w.heap.size + 3 := by rw [← hV]; simp
  have hb : Below V.heap.size V (V.alloc o4) := one_box _ _
  have h4 := heap_alloc_new V o4
  rw [hs] at h4
  exact ⟨below_to h3.2.2.2 hb, below_box h3.1 hb, below_box h3.2.1 hb, below_box h3.2.2.1 hb, h4⟩
/-- bytes that were written lie in no box: a box's second cell is no byte -/
theorem ref_ne {F : Nat → Prop} {V : World} {xa : Option Addr} {xn xc q z : Nat} {xs : Nat → Nat × Nat} {c : Array Value} {t : TypeId} (h : RefIn F V (.slice xa xn xc) xn xs) (hq : V.heap[q]? = some (.cells c t (0, 0))) (v1 : Value) (h1 : c[1]? = some v1) (hv : ∀ y : Int, v1 ≠ .int .u8 y) (hz : (Value.slice xa xn xc).ownBlock = some z) (h0 : 0 < xn) : z ≠ q := by
  rcases h with ⟨h00, _⟩ | ⟨gg, cc, he2, _, hcc⟩
  · omega
  · have e2 : z = gg := by rw [he2] at hz; simpa [Value.ownBlock] using hz.symm
    intro e3
    have e4 : gg = q := by omega
    subst e4
    have hbad := cellOf hq 1 _ h1
    have hc1 := (hcc 0 h0).2
    rw [show (0 : Nat) * 2 + 1 = 1 from rfl, hbad] at hc1
    cases hc1
    exact hv _ rfl
theorem RefIn.setC {F : Nat → Prop} {V : World} {xa : Option Addr} {xn xc q i : Nat} {xs : Nat → Nat × Nat} {u : Value} (h : RefIn F V (.slice xa xn xc) xn xs) (hq : ∀ z, (Value.slice xa xn xc).ownBlock = some z → 0 < xn → z ≠ q) : RefIn F (V.setCell ⟨q, i, none⟩ u) (.slice xa xn xc) xn xs := by
  rcases h with h | ⟨g, c, he, hF, hc⟩
  · exact .inl h
  · refine .inr ⟨g, c, he, hF, fun i hi => ?_⟩
    have hne : g ≠ q := hq g (by rw [he]; rfl) (by omega)
    exact ⟨(World.cell?_of_block (heap_setCell _ _ _ _ _ hne)).trans (hc i hi).1, (World.cell?_of_block (heap_setCell _ _ _ _ _ hne)).trans (hc i hi).2⟩
theorem not_byte_slice {a : Option Addr} {n c : Nat} : ∀ y : Int, (Value.slice a n c) ≠ .int .u8 y := fun _ h => by cases h
theorem not_byte_word {x : Int} : ∀ y : Int, (Value.int .u64 x) ≠ .int .u8 y := fun _ h => by cases h
/-- while the document's Return runs: the memory x, its box holds y -/
def Dr (w V : World) (F : Nat → Prop) (xa : Option Addr) (xn xc : Nat) (xs : Nat → Nat × Nat) (ya : Option Addr) (yn yc : Nat) (n D A U : Nat) (rd : Bool) (fe us : Nat) (ev al : Bool) (c8 c9 : Array Value) : Prop :=
  Below w.heap.size w V ∧ V.heap[w.heap.size]? = some (.cells #[.int .u64 8192, .slice ya yn yc] 33 (0, 0)) ∧ V.heap[w.heap.size + 1]? = some (.cells #[.int .i64 (n : Int), .int .u64 (D : Int), .int .u64 (A : Int), .int .u64 (U : Int), .bool rd, .int .i64 (fe : Int), .int .i64 (us : Int), .bool ev, .bool al] 27 (0, 0)) ∧ V.heap[w.heap.size + 2]? = some (.cells c8 33 (0, 0)) ∧ V.heap[w.heap.size + 3]? = some (.cells c9 27 (0, 0)) ∧ RefIn F V (.slice xa xn xc) xn xs
section
variable {w V V2 : World} {F : Nat → Prop} {xa ya : Option Addr} {xn xc yn yc : Nat} {xs : Nat → Nat × Nat} {n D A U : Nat} {rd ev al : Bool} {fe us : Nat} {c8 c9 : Array Value}
theorem Dr.below (h : Dr w V F xa xn xc xs ya yn yc n D A U rd fe us ev al c8 c9) (hb : Below V.heap.size V V2) : Dr w V2 F xa xn xc xs ya yn yc n D A U rd fe us ev al c8 c9 := ⟨below_to h.1 hb, below_box h.2.1 hb, below_box h.2.2.1 hb, below_box h.2.2.2.1 hb, below_box h.2.2.2.2.1 hb, h.2.2.2.2.2.below hb⟩
theorem Dr.set0 (h : Dr w V F xa xn xc xs ya yn yc n D A U rd fe us ev al c8 c9) : Dr w (V.setRow (w.heap.size) #[.int .u64 8192, .slice xa xn xc]) F xa xn xc xs xa xn xc n D A U rd fe us ev al c8 c9 := ⟨below_setRow h.1 (by omega) _, setRow_heap _ _ _ _ _ _ h.2.1, (setRow_other _ _ _ _ (by omega)).trans h.2.2.1, (setRow_other _ _ _ _ (by omega)).trans h.2.2.2.1, (setRow_other _ _ _ _ (by omega)).trans h.2.2.2.2.1, h.2.2.2.2.2.setRow (fun z hz h0 => ref_ne h.2.2.2.2.2 h.2.1 _ rfl not_byte_slice hz h0)⟩
theorem Dr.one (h : Dr w V F xa xn xc xs ya yn yc n D A U rd fe us ev al c8 c9) (u : Nat) : Dr w (V.setCell ⟨w.heap.size + 1, 6, none⟩ (.int .i64 (u : Int))) F xa xn xc xs ya yn yc n D A U rd fe u ev al c8 c9 := ⟨h.1.setCell (p := ⟨w.heap.size + 1, 6, none⟩) (by show w.heap.size ≤ w.heap.size + 1; omega) _, (heap_setCell _ _ _ _ _ (by omega)).trans h.2.1, set_box h.2.2.1 6 _, (heap_setCell _ _ _ _ _ (by omega)).trans h.2.2.2.1, (heap_setCell _ _ _ _ _ (by omega)).trans h.2.2.2.2.1, h.2.2.2.2.2.setC (fun z hz h0 => ref_ne h.2.2.2.2.2 h.2.2.1 _ rfl not_byte_word hz h0)⟩
theorem Dr.set8 (h : Dr w V F xa xn xc xs ya yn yc n D A U rd fe us ev al #[.int .u64 0, .slice none 0 0] c9) (c : Array Value) : Dr w (V.setRow (w.heap.size + 2) c) F xa xn xc xs ya yn yc n D A U rd fe us ev al c c9 := ⟨below_setRow h.1 (by omega) _, (setRow_other _ _ _ _ (by omega)).trans h.2.1, (setRow_other _ _ _ _ (by omega)).trans h.2.2.1, setRow_heap _ _ _ _ _ _ h.2.2.2.1, (setRow_other _ _ _ _ (by omega)).trans h.2.2.2.2.1, h.2.2.2.2.2.setRow (fun z hz h0 => ref_ne h.2.2.2.2.2 h.2.2.2.1 _ rfl not_byte_slice hz h0)⟩
theorem Dr.set9 (h : Dr w V F xa xn xc xs ya yn yc n D A U rd fe us ev al c8 #[.int .i64 0, .int .u64 0, .int .u64 0, .int .u64 0, .bool false, .int .i64 0, .int .i64 0, .bool false, .bool false]) (c : Array Value) : Dr w (V.setRow (w.heap.size + 3) c) F xa xn xc xs ya yn yc n D A U rd fe us ev al c8 c := ⟨below_setRow h.1 (by omega) _, (setRow_other _ _ _ _ (by omega)).trans h.2.1, (setRow_other _ _ _ _ (by omega)).trans h.2.2.1, (setRow_other _ _ _ _ (by omega)).trans h.2.2.2.1, setRow_heap _ _ _ _ _ _ h.2.2.2.2.1, h.2.2.2.2.2.setRow (fun z hz h0 => ref_ne h.2.2.2.2.2 h.2.2.2.2.1 _ rfl not_byte_word hz h0)⟩
end
end Go.Proofs.YtmjdnocilbnoaaaGreat
