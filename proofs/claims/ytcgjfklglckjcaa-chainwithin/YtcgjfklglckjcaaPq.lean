/- Texts put together. -/
import Derived.Test.YtcgjfklglckjcaaPp
/- The document's place and Gather. -/
namespace Go.Proofs.Ytcgjfklglckjcaa
open Go.RowKit Go.Maps
set_option linter.unusedVariables false
set_option linter.unusedSimpArgs false
set_option maxRecDepth 100000
theorem addrs_lt {b : Bool} {s : Seg} {l : List Seg} {m : Nat} (h : s.wr = b) (hm : m < s.l) : (addrs b (s :: l)).getD m 0 = s.a + m := by
  rw [addrs_cons, if_pos h]
  simp [List.getD, List.getElem?_append_left, hm]
theorem addrs_ge {b : Bool} {s : Seg} {l : List Seg} {m : Nat} (h : s.wr = b) (hm : ¬ m < s.l) : (addrs b (s :: l)).getD m 0 = (addrs b l).getD (m - s.l) 0 := by
  rw [addrs_cons, if_pos h]
  simp only [List.getD]
  rw [List.getElem?_append_right (by simp; omega)]
  simp
theorem addrs_ot {b : Bool} {s : Seg} {l : List Seg} (h : ¬ s.wr = b) : addrs b (s :: l) = addrs b l := by rw [addrs_cons, if_neg h, List.nil_append]
def PlS (w : World) (b : Bool) (l : List Seg) (m : Nat) (a : Option Addr) (L c ta tl : Nat) (V : World) (i m' : Nat) : Prop := (addrs b l).getD m 0 = (addrs b (l.drop i)).getD m' 0 ∧ m' ≤ m ∧ Below w.heap.size w V ∧ V.heap[w.heap.size]? = some (.cells #[.slice a L c, .int .u64 (ta : Int), .int .u64 (tl : Int)] 44 (0, 0))
set_option maxHeartbeats 2000000 in
theorem place_any {w : World} {a : Option Addr} {L c : Nat} {l : List Seg} (h : SegIn 0 w (.slice a L c) l) (hl : l.length ≤ 1000) (hok : ∀ s ∈ l, SegOk s) (ta tl m : Nat) (hm : m < 18446744073709551616) (b : Bool) : Calls Try.prog 48 #[.agg #[.slice a L c, .int .u64 (ta : Int), .int .u64 (tl : Int)], .int .u64 (m : Int), .bool b] w fun e w' => e = .returned (.int .u64 ((addrs b l).getD m 0 : Nat)) ∧ Below w.heap.size w w' := by
  have hLl : L = l.length := by
    obtain ⟨a2, c2, h⟩ := h.form
    simp only [Value.slice.injEq] at h
    exact h.2.1
  have h2 := heap_alloc_new w (.cells #[.slice a L c, .int .u64 (ta : Int), .int .u64 (tl : Int)] 44)
  have hb : Below w.heap.size w (w.alloc (.cells #[.slice a L c, .int .u64 (ta : Int), .int .u64 (tl : Int)] 44)) := (Below.refl _ _).alloc (Nat.le_refl _) _
  have XB : Hid (PlS w b l m a L c ta tl (w.alloc (.cells #[.slice a L c, .int .u64 (ta : Int), .int .u64 (tl : Int)] 44)) 0 m) := ⟨rfl, Nat.le_refl _, hb, h2⟩
  have HS : Hid (SegIn 0 w (.slice a L c) l ∧ L = l.length ∧ l.length ≤ 1000 ∧ (∀ s ∈ l, SegOk s) ∧ m < 18446744073709551616) := ⟨h, hLl, hl, hok, hm⟩
  obtain ⟨res, hres⟩ : ∃ res, (addrs b l).getD m 0 = res := ⟨_, rfl⟩
  rw [hres]
  have HRES : Hid ((addrs b l).getD m 0 = res) := hres
  clear h hLl hl hok h2 hb hm hres
  go_enter Try.func48, Try.ntmps48
  go_upto_region 1 with fail
  obtain ⟨p0, p1, p2⟩ := box3_facts XB.out.2.2.2
  generalize w.alloc (.cells #[.slice a L c, .int .u64 (ta : Int), .int .u64 (tl : Int)] 44) = v0 at *
  go_wp2_with fail
  go_loopw [1, 7] (fun vm x wr => ∃ (i m' : Nat), i ≤ L ∧ x = .int .i64 (i : Int) ∧ vm = .int .u64 (m' : Int) ∧ PlS w b l m a L c ta tl wr i m') (fun _ x _ => L - (intOf x).toNat)
  case atStart => exact ⟨0, m, Nat.zero_le _, rfl, rfl, XB.out⟩
  case round =>
    obtain ⟨i, m', hi, rfl, rfl, hx⟩ := hrel
    have XR : Hid (PlS w b l m a L c ta tl wr i m') := hx
    clear hx XB p0 p1 p2
    obtain ⟨p0, p1, p2⟩ := box3_facts XR.out.2.2.2
    by_cases hlt : i < L
    case neg =>
      have h1 : ¬ (i : Int) < (L : Int) := by omega
      have hr0 : res = 0 := by
        have hil : i = l.length := by have := HS.out.2.1; omega
        have := XR.out.1
        rw [hil, List.drop_length, HRES.out] at this
        rw [this]; rfl
      subst hr0
      clear hlt hi
      go_wp2_with fail
      go_ret
      exact ⟨rfl, XR.out.2.2.1⟩
    case pos =>
      have h1 : (i : Int) < (L : Int) := by omega
      have hil : i < l.length := by have := HS.out.2.1; omega
      obtain ⟨g, c', hsl, hcl⟩ := HS.out.1.cells (by omega)
      simp only [Value.slice.injEq] at hsl
      obtain ⟨rfl, -, rfl⟩ := hsl
      have hgl : g < w.heap.size := (HS.out.1.lt g rfl).2
      obtain ⟨x1, y1, z1⟩ := hcl i hil
      have x2 := (XR.out.2.2.1.cell (p := ⟨g, i * 3, none⟩) hgl).trans x1
      have y2 := (XR.out.2.2.1.cell (p := ⟨g, i * 3 + 1, none⟩) hgl).trans y1
      have z2 := (XR.out.2.2.1.cell (p := ⟨g, i * 3 + 2, none⟩) hgl).trans z1
      have hso := HS.out.2.2.2.1 _ (List.getElem_mem hil)
      have hdr := XR.out.1
      rw [HRES.out, drop_cons hil] at hdr
      obtain ⟨sa, hsa⟩ : ∃ sa, (l[i]).a = sa := ⟨_, rfl⟩
      obtain ⟨sl, hsl⟩ : ∃ sl, (l[i]).l = sl := ⟨_, rfl⟩
      obtain ⟨sw, hsw⟩ : ∃ sw, (l[i]).wr = sw := ⟨_, rfl⟩
      have hin := in_len hso.i
      rw [hsa, hsl] at hin
      have H0 : Hid (¬ sw = b → res = (addrs b (l.drop (i + 1))).getD m' 0) := fun h => by rw [hdr, addrs_ot (by rw [hsw]; exact h)]
      have H1 : Hid (sw = b → m' < sl → res = sa + m') := fun h h2 => by rw [hdr, addrs_lt (by rw [hsw]; exact h) (by rw [hsl]; exact h2), hsa]
      have H2 : Hid (sw = b → ¬ m' < sl → res = (addrs b (l.drop (i + 1))).getD (m' - sl) 0) := fun h h2 => by rw [hdr, addrs_ge (by rw [hsw]; exact h) (by rw [hsl]; exact h2), hsl]
      rw [hsa] at x2
      rw [hsl] at y2
      rw [hsw] at z2
      have HIN : Hid (sl ≤ 8192 ∧ 2147483648 ≤ sa ∧ sa + sl ≤ 2147491840 ∧ m' < 18446744073709551616 ∧ i < L ∧ L ≤ 1000) := ⟨hin.1, hin.2.1, hin.2.2, Nat.lt_of_le_of_lt XR.out.2.1 HS.out.2.2.2.2, hlt, by have := HS.out.2; omega⟩
      have hi6 : i ≤ 1000 := by have := HIN.out.2.2.2.2; omega
      clear x1 y1 z1 hcl hso hsa hsl hsw hgl hin hlt hi hil hdr
      go_upto_region 5 with fail
      have hb1 : Below wr.heap.size wr (wr.alloc (.cells #[.int .u64 (sa : Int), .int .u64 (sl : Int), .bool sw] 52)) := (Below.refl _ _).alloc (Nat.le_refl _) _
      have X1 : Hid (m' ≤ m ∧ Below w.heap.size w (wr.alloc (.cells #[.int .u64 (sa : Int), .int .u64 (sl : Int), .bool sw] 52)) ∧ (wr.alloc (.cells #[.int .u64 (sa : Int), .int .u64 (sl : Int), .bool sw] 52)).heap[w.heap.size]? = some (.cells #[.slice (some ⟨g, 0, none⟩) L c, .int .u64 (ta : Int), .int .u64 (tl : Int)] 44 (0, 0)) ∧ (wr.alloc (.cells #[.int .u64 (sa : Int), .int .u64 (sl : Int), .bool sw] 52)).heap[wr.heap.size]? = some (.cells #[.int .u64 (sa : Int), .int .u64 (sl : Int), .bool sw] 52 (0, 0))) := ⟨XR.out.2.1, below_to XR.out.2.2.1 hb1, below_box XR.out.2.2.2 hb1, heap_alloc_new _ _⟩
      clear XR x2 y2 z2 p0 p1 p2 hb1
      generalize wr.alloc (.cells #[.int .u64 (sa : Int), .int .u64 (sl : Int), .bool sw] 52) = w1 at *
      generalize wr.heap.size = q at *
      obtain ⟨t0, t1, t2⟩ := box3_facts X1.out.2.2.2
      by_cases hwb : sw = b
      case neg =>
        have hne : (sw == b) = false := by simp [hwb]
        have HX := H0.out hwb
        have HXX : Hid (res = (addrs b (l.drop (i + 1))).getD m' 0) := HX
        clear HX
        go_wp2_with fail
        go_roundw
        case rel => exact ⟨i + 1, m', HIN.out.2.2.2.2.1, by go_num, rfl, HRES.out.trans HXX.out, X1.out.1, X1.out.2.1, X1.out.2.2.1⟩
        case measure => simp [intOf]; have := HIN.out.2.2.2.2.1; omega
      have hne : (sw == b) = true := by simp [hwb]
      by_cases hml : m' < sl
      · have g1 : (m' : Int) < (sl : Int) := by omega
        have HX : Hid (res = sa + m') := H1.out hwb hml
        have W1 : IntKind.u64.wrap ((sa : Int) + (m' : Int)) = (res : Int) := by have := HIN.out; have := HX.out; rw [wrap_u64]; omega
        clear hml hwb
        go_wp2_with fail
        go_ret
        exact ⟨rfl, X1.out.2.1⟩
      · have g1 : ¬ (m' : Int) < (sl : Int) := by omega
        have HX : Hid (res = (addrs b (l.drop (i + 1))).getD (m' - sl) 0) := H2.out hwb hml
        obtain ⟨m2, hm2⟩ : ∃ m2, m' - sl = m2 := ⟨_, rfl⟩
        have W1 : IntKind.u64.wrap ((m' : Int) - (sl : Int)) = (m2 : Int) := by have := HIN.out; rw [wrap_u64]; omega
        have HM2 : Hid (m' - sl = m2 ∧ m2 ≤ m') := ⟨hm2, by omega⟩
        clear hml hwb hm2
        go_wp2_with fail
        go_roundw
        case rel => exact ⟨i + 1, m2, HIN.out.2.2.2.2.1, by go_num, rfl, by rw [HRES.out, HX.out, HM2.out.1], Nat.le_trans HM2.out.2 X1.out.1, X1.out.2.1, X1.out.2.2.1⟩
        case measure => simp [intOf]; have := HIN.out.2.2.2.2.1; omega
end Go.Proofs.Ytcgjfklglckjcaa

/- The document's Gather. -/
namespace Go.Proofs.Ytcgjfklglckjcaa
open Go.RowKit Go.Maps
set_option linter.unusedVariables false
set_option linter.unusedSimpArgs false
set_option maxRecDepth 100000
/-- what the document's Get tells behind w0 -/
def DGet (w0 : World) (va : Option Addr) (nn vc : Nat) (M : Nat → Nat) : Prop := ∀ V, Below w0.heap.size w0 V → ∀ x : Nat, x < 18446744073709551616 → Calls Try.prog 47 #[.agg #[.int .u64 8192, .slice va nn vc], .int .u64 (x : Int)] V fun e w' => e = .returned (.int .u8 (M x : Nat)) ∧ Below V.heap.size V w'
theorem both_dget {F : Nat → Prop} {w : World} {rb n N vc : Nat} {va : Option Addr} {M : Nat → Nat} (h : Both F w rb 8192 (.slice va n vc) N M) (hN : N ≤ 1000000) : DGet w va n vc M := by
  intro V hV x hx
  obtain ⟨nb, bs, h1, ⟨a', c', hsl⟩, h3, h4, h5⟩ := h.2
  simp only [Value.slice.injEq] at hsl
  obtain ⟨rfl, rfl, rfl⟩ := hsl
  have := rget_any F V (.int .u64 8192) (.slice va n vc) n x bs (h3.below hV) (by omega) hx
  rw [h4 x] at this
  exact this
theorem row_set (f : Nat → Nat) (n j x : Nat) : (rowK .u8 f n).toArray.setIfInBounds j (.int .u8 (x : Nat)) = (rowK .u8 (fun i => if i = j then x else f i) n).toArray := by
  apply Array.ext'
  simp only [Array.toList_setIfInBounds]
  apply List.ext_getElem?
  intro i
  rw [List.getElem?_set]
  simp only [rowK, List.getElem?_map, List.length_map, List.length_range]
  by_cases h1 : j = i
  · subst h1
    by_cases h2 : j < n
    · simp [h2]
    · simp [h2]
  · rw [if_neg h1]
    by_cases h2 : i < n
    · simp [h2, Ne.symm h1]
    · simp [h2]
theorem row_next (G : Nat → Nat) (n j : Nat) : rowK .u8 (fun i => if i = j then G j else if i < j then G i else 0) n = rowK .u8 (fun i => if i < j + 1 then G i else 0) n := by
  congr 1
  funext i
  by_cases h1 : i = j
  · subst h1; simp
  · by_cases h2 : i < j
    · simp [h1, h2, Nat.lt_succ_of_lt h2]
    · simp [h1, h2, show ¬ i < j + 1 from by omega]
theorem gat_get {M : Nat → Nat} {l : List Seg} {f n j : Nat} (h : roomB false l f n = true) (hj : j < n) : (gatL M l f n).getD j 0 = M ((addrs false l).getD (f + j) 0) := by
  have h1 := room_len h
  have h2 : j < (((addrs false l).drop f).take n).length := by omega
  have h3 : f + j < (addrs false l).length := by
    rw [List.length_take, List.length_drop] at h2; omega
  unfold gatL
  simp only [List.getD, List.getElem?_map, List.getElem?_take, List.getElem?_drop, if_pos hj, List.getElem?_eq_getElem h3]
  rfl
theorem addrs_bound {b : Bool} {l : List Seg} (h : ∀ s ∈ l, SegOk s) (m : Nat) : (addrs b l).getD m 0 < 18446744073709551616 := by
  have key : ∀ v ∈ addrs b l, v < 18446744073709551616 := by
    intro v hv
    simp only [addrs, List.mem_flatMap] at hv
    obtain ⟨s, hs, hx⟩ := hv
    have hok := in_len (h s hs).i
    split at hx
    · simp only [List.mem_map, List.mem_range] at hx
      obtain ⟨k, hk, he⟩ := hx
      omega
    · cases hx
  by_cases hm : m < (addrs b l).length
  · exact key _ (by simp [List.getD, hm])
  · have : (addrs b l)[m]? = none := List.getElem?_eq_none (by omega)
    simp [List.getD, this]
set_option maxHeartbeats 4000000 in
theorem dgather_any {w0 w : World} {va : Option Addr} {nn vc : Nat} {M : Nat → Nat} (hG : DGet w0 va nn vc M) (hw : Below w0.heap.size w0 w) {a : Option Addr} {L c : Nat} {l : List Seg} (h : SegIn 0 w (.slice a L c) l) (hl : l.length ≤ 1000) (hok : ∀ s ∈ l, SegOk s) (ta tl : Nat) (f n : Nat) (hf : f < 18446744073709551616) (hn : n < 18446744073709551616) (h20 : roomB false l f n = true → n ≤ 2000) :
    Calls Try.prog 23 #[.agg #[.int .u64 8192, .slice va nn vc], .agg #[.slice a L c, .int .u64 (ta : Int), .int .u64 (tl : Int)], .int .u64 (f : Int), .int .u64 (n : Int)] w fun e w' => Below w.heap.size w w' ∧ ((roomB false l f n = false ∧ e = .returned (.tuple #[.slice none 0 0, .bool false])) ∨ (roomB false l f n = true ∧ ∃ a' c', e = .returned (.tuple #[.slice a' n c', .bool true]) ∧ Reads .u8 w' (.slice a' n c') n (fun i => (gatL M l f n).getD i 0))) := by
  obtain ⟨i0, hi0, hz0, hz1, hz2⟩ := info_parts Try.info5
  have h2 := two_in w (.cells #[.int .u64 8192, .slice va nn vc] 32) (.cells #[.slice a L c, .int .u64 (ta : Int), .int .u64 (tl : Int)] 44)
  have hb : Below w.heap.size w ((w.alloc (.cells #[.int .u64 8192, .slice va nn vc] 32)).alloc (.cells #[.slice a L c, .int .u64 (ta : Int), .int .u64 (tl : Int)] 44)) := ((Below.refl _ _).alloc (Nat.le_refl _) _).alloc (by simp) _
  have XB : Hid (Below w.heap.size w ((w.alloc (.cells #[.int .u64 8192, .slice va nn vc] 32)).alloc (.cells #[.slice a L c, .int .u64 (ta : Int), .int .u64 (tl : Int)] 44)) ∧ ((w.alloc (.cells #[.int .u64 8192, .slice va nn vc] 32)).alloc (.cells #[.slice a L c, .int .u64 (ta : Int), .int .u64 (tl : Int)] 44)).heap[w.heap.size]? = some (.cells #[.int .u64 8192, .slice va nn vc] 32 (0, 0)) ∧ ((w.alloc (.cells #[.int .u64 8192, .slice va nn vc] 32)).alloc (.cells #[.slice a L c, .int .u64 (ta : Int), .int .u64 (tl : Int)] 44)).heap[w.heap.size + 1]? = some (.cells #[.slice a L c, .int .u64 (ta : Int), .int .u64 (tl : Int)] 44 (0, 0))) := ⟨hb, h2.1, h2.2⟩
  have hsz := sizeN_le false l hok
  have K21 : Hid (∀ V, Below w.heap.size w V → Calls Try.prog 21 #[.agg #[.slice a L c, .int .u64 (ta : Int), .int .u64 (tl : Int)]] V fun e w' => e = .returned (.tuple #[.int .u64 (sizeN false l : Int), .int .u64 (sizeN true l : Int)]) ∧ Below V.heap.size V w') := fun V hV => dsizes_any (h.kept (fun g hg => hV.block g (h.lt g hg).2)) hl hok ta tl
  have K48 : Hid (∀ (m : Nat), m < 18446744073709551616 → ∀ V, Below w.heap.size w V → Calls Try.prog 48 #[.agg #[.slice a L c, .int .u64 (ta : Int), .int .u64 (tl : Int)], .int .u64 (m : Int), .bool false] V fun e w' => e = .returned (.int .u64 ((addrs false l).getD m 0 : Nat)) ∧ Below V.heap.size V w') := fun m hm V hV => place_any (h.kept (fun g hg => hV.block g (h.lt g hg).2)) hl hok ta tl m hm false
  have K47 : Hid (∀ (m : Nat), ∀ V, Below w.heap.size w V → Calls Try.prog 47 #[.agg #[.int .u64 8192, .slice va nn vc], .int .u64 ((addrs false l).getD m 0 : Nat)] V fun e w' => e = .returned (.int .u8 (M ((addrs false l).getD m 0) : Nat)) ∧ Below V.heap.size V w') := fun m V hV => hG V (below_to hw hV) _ (addrs_bound hok m)
  have HRB : Hid (roomB false l f n = decide (f ≤ sizeN false l ∧ n ≤ sizeN false l - f)) := rfl
  obtain ⟨sz, hsz2⟩ : ∃ sz, sizeN false l = sz := ⟨_, rfl⟩
  rw [hsz2] at K21 HRB hsz
  generalize sizeN true l = sz1 at *
  have HB : Hid (sz ≤ 9000000 ∧ f < 18446744073709551616 ∧ n < 18446744073709551616 ∧ (roomB false l f n = true → n ≤ 2000)) := ⟨by omega, hf, hn, h20⟩
  clear h2 hb hG h hl hok hf hn h20 hw hsz hsz2
  go_enter Try.func23, Try.ntmps23
  go_upto_region 1 with fail
  generalize (w.alloc (.cells #[.int .u64 8192, .slice va nn vc] 32)).alloc (.cells #[.slice a L c, .int .u64 (ta : Int), .int .u64 (tl : Int)] 44) = v0 at *
  obtain ⟨p0, p1, p2⟩ := box3_facts XB.out.2.2
  go_upto_region 2 with (go_at_call 21; refine (K21.out _ XB.out.1).mono ?_; rintro e w1 ⟨rfl, hb1⟩; have X1 : Hid (Below w.heap.size w w1 ∧ w1.heap[w.heap.size]? = some (.cells #[.int .u64 8192, .slice va nn vc] 32 (0, 0)) ∧ w1.heap[w.heap.size + 1]? = some (.cells #[.slice a L c, .int .u64 (ta : Int), .int .u64 (tl : Int)] 44 (0, 0))) := ⟨below_to XB.out.1 hb1, below_box XB.out.2.1 hb1, below_box XB.out.2.2 hb1⟩; clear hb1 p0 p1 p2)
  clear XB K21
  by_cases hfs : sz < f
  · have g1 : (sz : Int) < (f : Int) := by omega
    have HF : Hid (roomB false l f n = false) := HRB.out.trans (decide_eq_false (by omega))
    clear hfs
    go_wp2_with fail
    refine bodyPost_ret (v := .tuple #[.slice none 0 0, .bool false]) (by simp [results, Try.results23, go_sem]) rfl ?_
    exact ⟨X1.out.1, .inl ⟨HF.out, rfl⟩⟩
  have g1 : ¬ (sz : Int) < (f : Int) := by omega
  obtain ⟨df, hdf⟩ : ∃ df, sz - f = df := ⟨_, rfl⟩
  have g2 : IntKind.u64.wrap ((sz : Int) - (f : Int)) = (df : Int) := by have := HB.out; rw [wrap_u64]; omega
  by_cases hns : df < n
  · have g3 : (df : Int) < (n : Int) := by omega
    have HF : Hid (roomB false l f n = false) := HRB.out.trans (decide_eq_false (by omega))
    clear hfs hns hdf
    go_wp2_with fail
    refine bodyPost_ret (v := .tuple #[.slice none 0 0, .bool false]) (by simp [results, Try.results23, go_sem]) rfl ?_
    exact ⟨X1.out.1, .inl ⟨HF.out, rfl⟩⟩
  have g3 : ¬ (df : Int) < (n : Int) := by omega
  have hT : roomB false l f n = true := HRB.out.trans (decide_eq_true (by omega))
  have hn2 : n ≤ 2000 := HB.out.2.2.2 hT
  have hfb : f ≤ 9000000 := by have := HB.out.1; omega
  have HT : Hid (roomB false l f n = true ∧ n ≤ 2000 ∧ f ≤ 9000000) := ⟨hT, hn2, hfb⟩
  clear hfs hns hdf hT HRB
  go_upto_region 4 with fail
  go_upto_region 5 with (at_make; refine wpList_make_full _ rfl _ _ 64 rfl w1.heap.size 5 i0 (.int .u8 0) 1 Try.underlying64 hi0 hz0 hz1 _ _ _ _ n rfl rfl ?m1 ?m2 ?m3 ?m4 ?m5 ?_)
  case m1 => rfl
  case m2 => rfl
  case m3 => omega
  case m4 => unfold maxLen; omega
  intro w2 hown0 hgrow0
  have hb0 : Below w1.heap.size w1 w2 := Below.grown (Below.refl _ _) hgrow0 (Nat.le_refl _) (by simp)
  rw [toList_madeCells_one, rowK_zero] at hown0
  have hrow := whole_row hown0
  have X2 : Hid ((Below w.heap.size w w2 ∧ w2.heap[w.heap.size]? = some (.cells #[.int .u64 8192, .slice va nn vc] 32 (0, 0)) ∧ w2.heap[w.heap.size + 1]? = some (.cells #[.slice a L c, .int .u64 (ta : Int), .int .u64 (tl : Int)] 44 (0, 0))) ∧ w2.heap[w1.heap.size]? = some (.cells (rowK .u8 (fun i => if i < 0 then (gatL M l f n).getD i 0 else 0) n).toArray 5 (0, 0)) ∧ w.heap.size + 1 < w1.heap.size) := ⟨⟨below_to X1.out.1 hb0, below_box X1.out.2.1 hb0, below_box X1.out.2.2 hb0⟩, hrow, (Array.getElem?_eq_some_iff.1 X1.out.2.2).1⟩
  clear hown0 hgrow0 hrow hb0 X1
  generalize w1.heap.size = g at *
  go_wp2_with fail
  go_loopw [13] (fun x wr => ∃ j : Nat, j ≤ n ∧ x = .int .i64 (j : Int) ∧ ((Below w.heap.size w wr ∧ wr.heap[w.heap.size]? = some (.cells #[.int .u64 8192, .slice va nn vc] 32 (0, 0)) ∧ wr.heap[w.heap.size + 1]? = some (.cells #[.slice a L c, .int .u64 (ta : Int), .int .u64 (tl : Int)] 44 (0, 0))) ∧ wr.heap[g]? = some (.cells (rowK .u8 (fun i => if i < j then (gatL M l f n).getD i 0 else 0) n).toArray 5 (0, 0)) ∧ w.heap.size + 1 < g)) (fun x _ => n - (intOf x).toNat)
  case atStart => exact ⟨0, Nat.zero_le _, rfl, X2.out⟩
  case round =>
    obtain ⟨j, hj, rfl, hx⟩ := hrel
    have XR : Hid ((Below w.heap.size w wr ∧ wr.heap[w.heap.size]? = some (.cells #[.int .u64 8192, .slice va nn vc] 32 (0, 0)) ∧ wr.heap[w.heap.size + 1]? = some (.cells #[.slice a L c, .int .u64 (ta : Int), .int .u64 (tl : Int)] 44 (0, 0))) ∧ wr.heap[g]? = some (.cells (rowK .u8 (fun i => if i < j then (gatL M l f n).getD i 0 else 0) n).toArray 5 (0, 0)) ∧ w.heap.size + 1 < g) := hx
    clear hx X2
    by_cases hlt : j < n
    case neg =>
      have h1 : ¬ (j : Int) < (n : Int) := by omega
      have hjn : j = n := by omega
      subst hjn
      clear hlt hj
      have hrd : Reads .u8 wr (.slice (some ⟨g, 0, none⟩) j j) j (fun i => (gatL M l f j).getD i 0) := by
        refine .inr ⟨g, 0, j, rfl, fun i hi => ?_⟩
        rw [Nat.zero_add]
        refine cellOf XR.out.2.1 i _ ?_
        simp [rowK_get _ _ _ _ hi, hi]
      have HRD : Hid (Reads .u8 wr (.slice (some ⟨g, 0, none⟩) j j) j (fun i => (gatL M l f j).getD i 0)) := hrd
      clear hrd
      go_wp2_with fail
      refine bodyPost_ret (v := .tuple #[.slice (some ⟨g, 0, none⟩) j j, .bool true]) (by simp [results, Try.results23, go_sem]) rfl ?_
      exact ⟨XR.out.1.1, .inr ⟨HT.out.1, _, _, rfl, HRD.out⟩⟩
    case pos =>
      have h1 : (j : Int) < (n : Int) := by omega
      have hgg := gat_get (M := M) HT.out.1 hlt
      obtain ⟨m, hm⟩ : ∃ m, m = f + j := ⟨_, rfl⟩
      have e1 : IntKind.u64.wrap (j : Int) = (j : Int) := by rw [wrap_u64]; omega
      have e2 : IntKind.u64.wrap ((f : Int) + (j : Int)) = (m : Int) := by have := HB.out.1; rw [wrap_u64]; omega
      have hm2 : m < 18446744073709551616 := by have := HT.out; omega
      have K482 : Hid (∀ V, Below w.heap.size w V → Calls Try.prog 48 #[.agg #[.slice a L c, .int .u64 (ta : Int), .int .u64 (tl : Int)], .int .u64 (m : Int), .bool false] V fun e w' => e = .returned (.int .u64 ((addrs false l).getD m 0 : Nat)) ∧ Below V.heap.size V w') := K48.out m hm2
      have K472 : Hid (∀ V, Below w.heap.size w V → Calls Try.prog 47 #[.agg #[.int .u64 8192, .slice va nn vc], .int .u64 ((addrs false l).getD m 0 : Nat)] V fun e w' => e = .returned (.int .u8 (M ((addrs false l).getD m 0) : Nat)) ∧ Below V.heap.size V w') := K47.out m
      rw [← hm] at hgg
      generalize (addrs false l).getD m 0 = pl at *
      obtain ⟨y, hy⟩ : ∃ y, M pl = y := ⟨_, rfl⟩
      rw [hy] at K472 hgg
      have HJ : Hid ((gatL M l f n).getD j 0 = y ∧ j < n) := ⟨hgg, hlt⟩
      clear hgg hm hm2 hy hlt hj
      go_upto_region 8 with fail
      have Xd : Hid ((Below w.heap.size w wr.drew ∧ wr.drew.heap[w.heap.size]? = some (.cells #[.int .u64 8192, .slice va nn vc] 32 (0, 0)) ∧ wr.drew.heap[w.heap.size + 1]? = some (.cells #[.slice a L c, .int .u64 (ta : Int), .int .u64 (tl : Int)] 44 (0, 0))) ∧ wr.drew.heap[g]? = some (.cells (rowK .u8 (fun i => if i < j then (gatL M l f n).getD i 0 else 0) n).toArray 5 (0, 0)) ∧ w.heap.size + 1 < g) := ⟨⟨XR.out.1.1.drew, XR.out.1.2⟩, XR.out.2⟩
      refine wp_region_held_drew (S := fun Z => Z.cell? ⟨w.heap.size, 0, none⟩ = some (.int .u64 8192) ∧ Z.cell? ⟨w.heap.size, 1, none⟩ = some (.slice va nn vc) ∧ Z.cell? ⟨w.heap.size + 1, 0, none⟩ = some (.slice a L c) ∧ Z.cell? ⟨w.heap.size + 1, 1, none⟩ = some (.int .u64 (ta : Int)) ∧ Z.cell? ⟨w.heap.size + 1, 2, none⟩ = some (.int .u64 (tl : Int))) (by kernel_rfl) ⟨cellOf Xd.out.1.2.1 0 _ rfl, cellOf Xd.out.1.2.1 1 _ rfl, cellOf Xd.out.1.2.2 0 _ rfl, cellOf Xd.out.1.2.2 1 _ rfl, cellOf Xd.out.1.2.2 2 _ rfl⟩ ?_
      intro hS
      clear XR
      generalize wr.drew = wd at *
      refine wpAnyH_take (i := 0) (v := ?_) rfl (by kernel_rfl) (by kernel_rfl) (by kernel_rfl) (fun _ _ _ h => h) (Or.inl ⟨by kernel_rfl, ?_⟩) hS ?_
      rotate_left
      · intro w hSw; (try dsimp only at hSw); go_simp; try (with_reducible rfl)
      (try simp only [Act.put, List.getElem_toArray, List.getElem_cons_succ, List.getElem_cons_zero, List.setIfInBounds_toArray, List.set_cons_zero, List.set_cons_succ])
      refine wpAnyH_take (i := 1) (v := ?_) rfl (by kernel_rfl) (by kernel_rfl) (by kernel_rfl) (fun _ _ _ h => h) (Or.inl ⟨by kernel_rfl, ?_⟩) hS ?_
      rotate_left
      · intro w hSw; (try dsimp only at hSw); go_simp; try (with_reducible rfl)
      (try simp only [Act.put, List.getElem_toArray, List.getElem_cons_succ, List.getElem_cons_zero, List.setIfInBounds_toArray, List.set_cons_zero, List.set_cons_succ])
      refine wpAnyH_take (i := 2) (v := ?_) rfl (by kernel_rfl) (by kernel_rfl) (by kernel_rfl) (fun _ _ _ h => h) (Or.inl ⟨by kernel_rfl, ?_⟩) hS ?_
      rotate_left
      · intro w hSw; (try dsimp only at hSw); go_simp; try (with_reducible rfl)
      (try simp only [Act.put, List.getElem_toArray, List.getElem_cons_succ, List.getElem_cons_zero, List.setIfInBounds_toArray, List.set_cons_zero, List.set_cons_succ])
      refine wpAnyH_take (i := 3) (v := ?_) rfl (by kernel_rfl) (by kernel_rfl) (by kernel_rfl) (fun _ _ _ h => h) (Or.inl ⟨by kernel_rfl, ?_⟩) hS ?_
      rotate_left
      · intro w hSw; (try dsimp only at hSw); go_simp; try (with_reducible rfl)
      (try simp only [Act.put, List.getElem_toArray, List.getElem_cons_succ, List.getElem_cons_zero, List.setIfInBounds_toArray, List.set_cons_zero, List.set_cons_succ])
      refine wpAnyH_take (i := 4) (v := ?_) rfl (by kernel_rfl) (by kernel_rfl) (by kernel_rfl) (fun _ _ _ h => h) (Or.inl ⟨by kernel_rfl, ?_⟩) hS ?_
      rotate_left
      · intro w hSw; (try dsimp only at hSw); go_simp; try (with_reducible rfl)
      (try simp only [Act.put, List.getElem_toArray, List.getElem_cons_succ, List.getElem_cons_zero, List.setIfInBounds_toArray, List.set_cons_zero, List.set_cons_succ])
      refine wpAnyH_take (i := 5) (v := ?_) rfl (by kernel_rfl) (by kernel_rfl) (by kernel_rfl) (fun _ _ _ h => h) (Or.inl ⟨by kernel_rfl, ?_⟩) hS ?_
      rotate_left
      · intro w hSw; (try dsimp only at hSw); go_simp; try (with_reducible rfl)
      (try simp only [Act.put, List.getElem_toArray, List.getElem_cons_succ, List.getElem_cons_zero, List.setIfInBounds_toArray, List.set_cons_zero, List.set_cons_succ])
      refine wpAnyH_take (i := 6) (v := ?_) rfl (by kernel_rfl) (by kernel_rfl) (by kernel_rfl) (fun _ _ _ h => h) (Or.inl ⟨by kernel_rfl, ?_⟩) hS ?_
      rotate_left
      · intro w hSw; (try dsimp only at hSw); go_simp; try (with_reducible rfl)
      (try simp only [Act.put, List.getElem_toArray, List.getElem_cons_succ, List.getElem_cons_zero, List.setIfInBounds_toArray, List.set_cons_zero, List.set_cons_succ])
      refine wpAnyH_take (i := 7) (v := ?_) rfl (by kernel_rfl) (by kernel_rfl) (by kernel_rfl) (fun _ _ _ h => h) (Or.inl ⟨by kernel_rfl, ?_⟩) hS ?_
      rotate_left
      · intro w hSw; (try dsimp only at hSw); go_simp; try (with_reducible rfl)
      (try simp only [Act.put, List.getElem_toArray, List.getElem_cons_succ, List.getElem_cons_zero, List.setIfInBounds_toArray, List.set_cons_zero, List.set_cons_succ])
      refine wpAnyH_ready (rs := [8]) (by kernel_rfl) (by simp) ?_
      refine AllReadyH.cons rfl (fun K1 hK1 => ?_) AllReadyH.nil
      go_simp
      refine (K482.out _ Xd.out.1.1).mono ?_
      rintro e w3 ⟨rfl, hb⟩
      have X3 : Hid ((Below w.heap.size w w3 ∧ w3.heap[w.heap.size]? = some (.cells #[.int .u64 8192, .slice va nn vc] 32 (0, 0)) ∧ w3.heap[w.heap.size + 1]? = some (.cells #[.slice a L c, .int .u64 (ta : Int), .int .u64 (tl : Int)] 44 (0, 0))) ∧ w3.heap[g]? = some (.cells (rowK .u8 (fun i => if i < j then (gatL M l f n).getD i 0 else 0) n).toArray 5 (0, 0)) ∧ w.heap.size + 1 < g) := ⟨⟨below_to Xd.out.1.1 hb, below_box Xd.out.1.2.1 hb, below_box Xd.out.1.2.2 hb⟩, below_box Xd.out.2.1 hb, Xd.out.2.2⟩
      clear hb Xd
      refine hK1.out _ _ ⟨cellOf X3.out.1.2.1 0 _ rfl, cellOf X3.out.1.2.1 1 _ rfl, cellOf X3.out.1.2.2 0 _ rfl, cellOf X3.out.1.2.2 1 _ rfl, cellOf X3.out.1.2.2 2 _ rfl⟩ (fun h3 => ?_)
      clear hK1 K1 hS
      (try simp only [Act.put, List.getElem_toArray, List.getElem_cons_succ, List.getElem_cons_zero, List.setIfInBounds_toArray, List.set_cons_zero, List.set_cons_succ])
      refine wpAnyH_ready (rs := [9]) (by kernel_rfl) (by simp) ?_
      refine AllReadyH.cons rfl (fun K1 hK1 => ?_) AllReadyH.nil
      go_simp
      refine (K472.out _ X3.out.1.1).mono ?_
      rintro e w4 ⟨rfl, hb⟩
      have X4 : Hid ((Below w.heap.size w w4 ∧ w4.heap[w.heap.size]? = some (.cells #[.int .u64 8192, .slice va nn vc] 32 (0, 0)) ∧ w4.heap[w.heap.size + 1]? = some (.cells #[.slice a L c, .int .u64 (ta : Int), .int .u64 (tl : Int)] 44 (0, 0))) ∧ w4.heap[g]? = some (.cells (rowK .u8 (fun i => if i < j then (gatL M l f n).getD i 0 else 0) n).toArray 5 (0, 0)) ∧ w.heap.size + 1 < g) := ⟨⟨below_to X3.out.1.1 hb, below_box X3.out.1.2.1 hb, below_box X3.out.1.2.2 hb⟩, below_box X3.out.2.1 hb, X3.out.2.2⟩
      clear hb X3
      refine hK1.out _ _ ⟨cellOf X4.out.1.2.1 0 _ rfl, cellOf X4.out.1.2.1 1 _ rfl, cellOf X4.out.1.2.2 0 _ rfl, cellOf X4.out.1.2.2 1 _ rfl, cellOf X4.out.1.2.2 2 _ rfl⟩ (fun h4 => ?_)
      clear hK1 K1 h3
      (try simp only [Act.put, List.getElem_toArray, List.getElem_cons_succ, List.getElem_cons_zero, List.setIfInBounds_toArray, List.set_cons_zero, List.set_cons_succ])
      refine wpAnyH_take (i := 10) (v := ?_) rfl (by kernel_rfl) (by kernel_rfl) (by kernel_rfl) (fun _ _ _ h => h) (Or.inl ⟨by kernel_rfl, ?_⟩) h4 ?_
      rotate_left
      · intro w hSw; (try dsimp only at hSw); go_simp; try (with_reducible rfl)
      (try simp only [Act.put, List.getElem_toArray, List.getElem_cons_succ, List.getElem_cons_zero, List.setIfInBounds_toArray, List.set_cons_zero, List.set_cons_succ])
      refine wpAnyH_ready (rs := [11]) (by kernel_rfl) (by simp) ?_
      refine AllReadyH.cons rfl (fun K1 hK1 => ?_) AllReadyH.nil
      have m1 : w4.cell? ⟨g, j, none⟩ = some (.int .u8 0) := cellOf X4.out.2.1 j _ (by simp [rowK_get _ _ _ _ HJ.out.2])
      have m2 := frozenOf X4.out.2.1 j
      go_simp
      have X5 : Hid ((Below w.heap.size w (w4.setCell ⟨g, j, none⟩ (.int .u8 (y : Int))) ∧ (w4.setCell ⟨g, j, none⟩ (.int .u8 (y : Int))).heap[w.heap.size]? = some (.cells #[.int .u64 8192, .slice va nn vc] 32 (0, 0)) ∧ (w4.setCell ⟨g, j, none⟩ (.int .u8 (y : Int))).heap[w.heap.size + 1]? = some (.cells #[.slice a L c, .int .u64 (ta : Int), .int .u64 (tl : Int)] 44 (0, 0))) ∧ (w4.setCell ⟨g, j, none⟩ (.int .u8 (y : Int))).heap[g]? = some (.cells (rowK .u8 (fun i => if i < (j + 1) then (gatL M l f n).getD i 0 else 0) n).toArray 5 (0, 0)) ∧ w.heap.size + 1 < g) := by
        refine ⟨⟨X4.out.1.1.setCell (by have := X4.out.2.2; show w.heap.size ≤ g; omega) _, (heap_setCell _ _ _ _ _ (by have := X4.out.2.2; omega)).trans X4.out.1.2.1, (heap_setCell _ _ _ _ _ (by have := X4.out.2.2; omega)).trans X4.out.1.2.2⟩, ?_, X4.out.2.2⟩
        rw [setCell_eq_setRow w4 g j _ 5 (0, 0) _ X4.out.2.1, setRow_heap w4 g _ _ 5 _ X4.out.2.1, row_set, ← row_next, HJ.out.1]
      clear m1 m2 X4
      generalize w4.setCell ⟨g, j, none⟩ (.int .u8 (y : Int)) = w5 at *
      refine hK1.out _ _ ⟨cellOf X5.out.1.2.1 0 _ rfl, cellOf X5.out.1.2.1 1 _ rfl, cellOf X5.out.1.2.2 0 _ rfl, cellOf X5.out.1.2.2 1 _ rfl, cellOf X5.out.1.2.2 2 _ rfl⟩ (fun h5 => ?_)
      clear hK1 K1 h4
      (try simp only [Act.put, List.getElem_toArray, List.getElem_cons_succ, List.getElem_cons_zero, List.setIfInBounds_toArray, List.set_cons_zero, List.set_cons_succ])
      refine wpAnyH_done (by kernel_rfl) ?_ _
      clear h5
      go_wp2_with fail
      go_roundw
      case rel => exact ⟨j + 1, HJ.out.2, by go_num, X5.out⟩
      case measure => simp [intOf]; have := HJ.out.2; omega
end Go.Proofs.Ytcgjfklglckjcaa

/- Scatter. -/
namespace Go.Proofs.Ytcgjfklglckjcaa
open Go.RowKit Go.Maps
set_option linter.unusedVariables false
set_option linter.unusedSimpArgs false
set_option maxRecDepth 100000
/-- bytes laid at addresses, one behind the other -/
def layS (g : Nat → Nat) : List Nat → Nat → (Nat → Nat) → (Nat → Nat)
  | [], _, M => M
  | a :: xs, j, M => layS g xs (j + 1) (over M a 1 (fun _ => g j))
theorem layS_append (g : Nat → Nat) : ∀ (xs bs : List Nat) (j : Nat) (M : Nat → Nat), layS g (xs ++ bs) j M = layS g bs (j + xs.length) (layS g xs j M) := by
  intro xs
  induction xs with
  | nil => intro bs j M; rfl
  | cons a xs ih =>
    intro bs j M
    simp only [List.cons_append, layS, List.length_cons]
    rw [ih, show j + 1 + xs.length = j + (xs.length + 1) from by omega]
theorem over_one (M : Nat → Nat) (x L : Nat) (f : Nat → Nat) : over (over M x L f) (x + L) 1 (fun _ => f L) = over M x (L + 1) f := by
  funext a
  unfold over
  by_cases h1 : x + L ≤ a ∧ a < x + L + 1
  · have : a - x = L := by omega
    rw [if_pos h1, if_pos (by omega), this]
  · rw [if_neg h1]
    by_cases h2 : x ≤ a ∧ a < x + L
    · rw [if_pos h2, if_pos (by omega)]
    · rw [if_neg h2, if_neg (by omega)]
theorem layS_range (g : Nat → Nat) (j x : Nat) (M : Nat → Nat) : ∀ L, layS g ((List.range L).map (x + ·)) j M = over M x L (fun i => g (j + i)) := by
  intro L
  induction L with
  | zero => rw [over_zero]; rfl
  | succ L ih =>
    rw [List.range_succ, List.map_append, layS_append, ih, ← over_one]
    simp [layS]
theorem layS_le {g : Nat → Nat} (hg : ∀ i, g i ≤ 255) : ∀ (xs : List Nat) (j : Nat) (M : Nat → Nat), (∀ a, M a ≤ 255) → ∀ a, layS g xs j M a ≤ 255 := by
  intro xs
  induction xs with
  | nil => intro j M h; exact h
  | cons a xs ih => intro j M h; exact ih _ _ (over_le a 1 h (fun i _ => hg j))
/-- bytes besides the addresses stay -/
theorem layS_out (g : Nat → Nat) : ∀ (xs : List Nat) (j : Nat) (M : Nat → Nat) (q : Nat), q ∉ xs → layS g xs j M q = M q := by
  intro xs
  induction xs with
  | nil => intro j M q _; rfl
  | cons a xs ih =>
    intro j M q hq
    simp only [List.mem_cons, not_or] at hq
    rw [layS, ih _ _ _ hq.2]
    unfold over
    rw [if_neg (by omega)]
def scaL (l : List Seg) (f n : Nat) : List Nat := ((addrs true l).drop f).take n
theorem span_step {B : Nat} {w w2 : World} {F F2 : Nat → Prop} {gs K co : Nat} {l : List (Nat × Nat)} (h : SpanIn B w (.slice (some ⟨gs, 0, none⟩) K co) l) (hn : ¬ F gs) (hs : Step F w F2 w2) : SpanIn B w2 (.slice (some ⟨gs, 0, none⟩) K co) l ∧ ¬ F2 gs := by
  have hlt := (h.lt gs rfl).2
  refine ⟨h.kept (fun q hq => ?_), fun hf => ?_⟩
  · have : q = gs := by simpa [Value.ownBlock] using hq.symm
    subst this
    exact hs.block _ hlt hn
  · rcases hs.old gs hf with h1 | h1
    · exact hn h1
    · omega
theorem reads_cells {F : Nat → Prop} {w : World} {bd od cd R : Nat} {f : Nat → Nat} (h : ReadsF F w (.slice (some ⟨bd, od, none⟩) R cd) R f) : ∀ i, i < R → w.cell? ⟨bd, od + i, none⟩ = some (.int .u8 (f i : Nat)) := by
  rcases h with ⟨h0, _⟩ | ⟨b', o', c', he, _, _, _, hcl⟩
  · intro i hi; omega
  · simp only [Value.slice.injEq, Option.some.injEq, Addr.mk.injEq, and_true, true_and] at he
    obtain ⟨⟨rfl, rfl⟩, rfl⟩ := he
    exact hcl
theorem reads_not {F F2 : Nat → Prop} {w w2 : World} {bd od cd R : Nat} {f : Nat → Nat} (h : ReadsF F w (.slice (some ⟨bd, od, none⟩) R cd) R f) (hs : Step F w F2 w2) (hn : ¬ F bd) (hR : 0 < R) : ¬ F2 bd := by
  have hlt := block_lt_of_cell (reads_cells h 0 hR)
  intro hf
  rcases hs.old bd hf with h1 | h1
  · exact hn h1
  · have h2 : bd < w.heap.size := hlt
    omega
theorem step_kept2 {F F2 : Nat → Prop} {V V2 : World} {q : Nat} {o : Obj} (h : V.heap[q]? = some o) (hs : Step F V F2 V2) (hq : ¬ F q) : V2.heap[q]? = some o ∧ ¬ F2 q := by
  have hlt := (Array.getElem?_eq_some_iff.1 h).1
  refine ⟨(hs.block q hlt hq).trans h, fun hf => ?_⟩
  rcases hs.old q hf with h1 | h1
  · exact hq h1
  · omega
set_option maxHeartbeats 4000000 in
theorem scatter_any {w : World} {F : Nat → Prop} {rb kk : Nat} {M : Nat → Nat} (hr : RamAt w F rb 8192 kk (.pointer none) M) (hkk : kk ≤ 900000) {a : Option Addr} {L c : Nat} {l : List Seg} (h : SegIn 0 w (.slice a L c) l) (hl : l.length ≤ 1000) (hok : ∀ s ∈ l, SegOk s) (ta tl : Nat) (f n : Nat) (hf : f < 18446744073709551616) (hn : n ≤ 100) (g : Nat → Nat) (hg : ∀ i, g i ≤ 255) (va : Option Addr) (vc : Nat) (hd : ReadsF F w (.slice va n vc) n g) :
    Calls Try.prog 25 #[.agg #[.slice a L c, .int .u64 (ta : Int), .int .u64 (tl : Int)], .pointer (some ⟨rb, 0, none⟩), .int .u64 (f : Int), .slice va n vc] w fun e w' => e = .returned (.bool (roomB true l f n)) ∧ ∃ F', RamAt w' F' rb 8192 (kk + n) (.pointer none) (if roomB true l f n = true then layS g (scaL l f n) 0 M else M) ∧ Step F w F' w' := by
  have h2 := heap_alloc_new w (.cells #[.slice a L c, .int .u64 (ta : Int), .int .u64 (tl : Int)] 40)
  have hb : Below w.heap.size w (w.alloc (.cells #[.slice a L c, .int .u64 (ta : Int), .int .u64 (tl : Int)] 40)) := (Below.refl _ _).alloc (Nat.le_refl _) _
  have XB : Hid (Below w.heap.size w (w.alloc (.cells #[.slice a L c, .int .u64 (ta : Int), .int .u64 (tl : Int)] 40)) ∧ (w.alloc (.cells #[.slice a L c, .int .u64 (ta : Int), .int .u64 (tl : Int)] 40)).heap[w.heap.size]? = some (.cells #[.slice a L c, .int .u64 (ta : Int), .int .u64 (tl : Int)] 40 (0, 0))) := ⟨hb, h2⟩
  have K45 : Hid (∀ V, Below w.heap.size w V → Calls Try.prog 45 #[.agg #[.slice a L c, .int .u64 (ta : Int), .int .u64 (tl : Int)], .pointer (some ⟨rb, 0, none⟩), .bool true, .int .u64 (f : Int), .int .u64 (n : Int)] V fun e w' => Below V.heap.size V w' ∧ ((roomB true l f n = false ∧ e = .returned (.tuple #[.slice none 0 0, .bool false])) ∨ (roomB true l f n = true ∧ ∃ vo, e = .returned (.tuple #[vo, .bool true]) ∧ SpanIn V.heap.size w' vo (pcs true l f n).1))) := fun V hV => pieces_any (hr.below hV) (h.kept (fun g hg => hV.block g (h.lt g hg).2)) hl hok ta tl true f n hf (by omega)
  have HR : Hid (RamAt w F rb 8192 kk (.pointer none) M ∧ ReadsF F w (.slice va n vc) n g ∧ (∀ i, g i ≤ 255) ∧ kk ≤ 900000) := ⟨hr, hd, hg, hkk⟩
  have HP : Hid ((∀ p ∈ (pcs true l f n).1, inB p.1 p.2 2147483648 8192 = true ∧ 0 < p.2 ∧ p.1 < 18446744073709551616 ∧ p.2 ≤ 8192) ∧ (pcs true l f n).1.length ≤ 1000 ∧ spanA (pcs true l f n).1 = scaL l f n) := ⟨pcs_ok hok f n, Nat.le_trans (pcs_len true l f n) hl, pcs_span true l f n⟩
  have e1 : IntKind.u64.wrap (n : Int) = (n : Int) := by rw [wrap_u64]; omega
  obtain ⟨Mx, hMx⟩ : ∃ Mx, (if roomB true l f n = true then layS g (scaL l f n) 0 M else M) = Mx := ⟨_, rfl⟩
  rw [hMx]
  obtain ⟨rm, hrm⟩ : ∃ rm, roomB true l f n = rm := ⟨_, rfl⟩
  rw [hrm]
  have HMX : Hid ((rm = true → Mx = layS g (scaL l f n) 0 M) ∧ (rm = false → Mx = M) ∧ roomB true l f n = rm) := by
    rw [hrm] at hMx
    refine ⟨fun h => ?_, fun h => ?_, hrm⟩
    · rw [← hMx, h, if_pos rfl]
    · rw [← hMx, h, if_neg (by decide)]
  rw [hrm] at K45
  clear hMx hrm
  clear h2 hb hr h hl hok hf hd hg hkk
  go_enter Try.func25, Try.ntmps25
  go_upto_region 1 with fail
  obtain ⟨p0, p1, p2⟩ := box3_facts XB.out.2
  generalize w.alloc (.cells #[.slice a L c, .int .u64 (ta : Int), .int .u64 (tl : Int)] 40) = v0 at *
  go_upto_region 2 with (go_at_call 45; refine (K45.out _ XB.out.1).mono ?_; rintro e w1 ⟨hb1, hor⟩; rcases hor with ⟨hrb, rfl⟩ | ⟨hrb, vo, rfl, hsp⟩)
  · have X1 : Hid (Below w.heap.size w w1) := below_to XB.out.1 hb1
    subst hrb
    have HMM : Hid (Mx = M) := HMX.out.2.1 rfl
    clear hb1
    go_wp2_with fail
    go_ret
    refine ⟨rfl, F, ?_, Step.of_below X1.out⟩
    rw [HMM.out]
    exact (HR.out.1.below X1.out).mono (by omega)
  · subst hrb
    have hrb := HMX.out.2.2
    have HMM : Hid (Mx = layS g (scaL l f n) 0 M) := HMX.out.1 rfl
    obtain ⟨ao, co, hvo⟩ := hsp.form
    subst hvo
    obtain ⟨ps, hps⟩ : ∃ ps, (pcs true l f n).1 = ps := ⟨_, rfl⟩
    rw [hps] at hsp HP ⊢
    obtain ⟨K, hK⟩ : ∃ K, ps.length = K := ⟨_, rfl⟩
    have hlen : (spanA ps).length = n := by rw [HP.out.2.2]; exact room_len hrb
    have X1 : Hid (Below w.heap.size w w1 ∧ roomB true l f n = true ∧ SpanIn v0.heap.size w1 (.slice ao ps.length co) ps ∧ w.heap.size ≤ v0.heap.size) := ⟨below_to XB.out.1 hb1, hrb, hsp, XB.out.1.size⟩
    rw [hK] at X1 ⊢
    have HK : Hid (ps.length = K ∧ K ≤ 1000 ∧ (spanA ps).length = n) := ⟨hK, by have := HP.out.2.1; omega, hlen⟩
    clear hb1 hrb hsp hps hK XB p0 p1 p2 hlen K45
    go_wp2_with fail
    go_loopw [3, 27] (fun d xx wr => ∃ (i j : Nat) (G : Nat → Prop), i ≤ K ∧ xx = .int .i64 (i : Int) ∧ (spanA (ps.take i)).length = j ∧ j ≤ n ∧ ReadsF G wr d (n - j) (fun z => g (j + z)) ∧ RamAt wr G rb 8192 (kk + j) (.pointer none) (layS g (spanA (ps.take i)) 0 M) ∧ Step F w G wr ∧ SpanIn v0.heap.size wr (.slice ao K co) ps ∧ (∀ q, (Value.slice ao K co).ownBlock = some q → ¬ G q)) (fun _ xx _ => K - (intOf xx).toNat)
    case atStart =>
      refine ⟨0, 0, F, Nat.zero_le _, rfl, rfl, Nat.zero_le _, ?_, HR.out.1.below X1.out.1, Step.of_below X1.out.1, X1.out.2.2.1, fun q hq hf => ?_⟩
      · have := HR.out.2.1.step (Step.of_below X1.out.1)
        simpa using this
      · have h1 := (X1.out.2.2.1.lt q hq).1
        have h2 := HR.out.1.lt q hf
        have h3 := X1.out.2.2.2
        omega
    case round =>
      obtain ⟨i, j, G, hi, rfl, hj, hjn, hrd, hrm, hst, hsp, hgq⟩ := hrel
      by_cases hlt : i < K
      case neg =>
        have h1 : ¬ (i : Int) < (K : Int) := by omega
        have hiK : i = ps.length := by have := HK.out.1; omega
        rw [hiK, List.take_length] at hj hrm
        rw [HK.out.2.2] at hj
        subst hj
        have HM : Hid (RamAt wr G rb 8192 (kk + n) (.pointer none) (layS g (scaL l f n) 0 M) ∧ Step F w G wr) := ⟨by rw [← HP.out.2.2]; exact hrm, hst⟩
        rw [Nat.sub_self] at hrd
        clear hlt hi hiK hrm hst hsp hgq
        rcases hrd with ⟨_, a0, c0, _, rfl⟩ | ⟨b0, o0, c0, rfl, _⟩
        all_goals
          go_wp2_with fail
          go_ret
          refine ⟨rfl, G, ?_, HM.out.2⟩
          rw [HMM.out]
          exact HM.out.1
      case pos =>
        have h1 : (i : Int) < (K : Int) := by omega
        have hil : i < ps.length := by have := HK.out.1; omega
        obtain ⟨gs, cg, hsl, hcl⟩ := hsp.cells (by omega)
        have hsl2 := hsl
        rw [HK.out.1] at hsl2
        simp only [Value.slice.injEq, true_and] at hsl2
        obtain ⟨rfl, rfl⟩ := hsl2
        obtain ⟨x2, y2⟩ := hcl i hil
        have hpo := HP.out.1 (ps.getD i (0, 0)) (by simp [List.getD, hil])
        have ht := spanA_take ps i hil
        have hlen := spanA_len_le ps (i + 1)
        rw [HK.out.2.2] at hlen
        obtain ⟨x, hx⟩ : ∃ x, (ps.getD i (0, 0)).1 = x := ⟨_, rfl⟩
        obtain ⟨tk, htk⟩ : ∃ tk, (ps.getD i (0, 0)).2 = tk := ⟨_, rfl⟩
        rw [hx] at x2 ht hpo
        rw [htk] at y2 ht hpo
        have hlen2 : (spanA (ps.take (i + 1))).length = j + tk := by rw [ht, List.length_append, hj]; simp
        have hjt : j + tk ≤ n := by omega
        rcases hrd with ⟨h0, _⟩ | ⟨bd, od, cd, rfl, hG, hc1, hc2, hcell⟩
        · have := hpo.2.1; omega
        obtain ⟨R, hR⟩ : ∃ R, n - j = R := ⟨_, rfl⟩
        rw [hR] at hcell hc1 ⊢
        have htR : tk ≤ R := by omega
        have htc : (tk : Int) ≤ (cd : Int) := by omega
        have htc2 : (tk : Int) ≤ (R : Int) := by omega
        have hRc : (R : Int) ≤ (cd : Int) := by omega
        have HJ : Hid (spanA (ps.take (i + 1)) = spanA (ps.take i) ++ (List.range tk).map (x + ·) ∧ (spanA (ps.take (i + 1))).length = j + tk ∧ j + tk ≤ n ∧ n - j = R ∧ tk ≤ R ∧ (spanA (ps.take i)).length = j ∧ i < K ∧ inB x tk 2147483648 8192 = true ∧ x < 18446744073709551616) := ⟨ht, hlen2, hjt, hR, htR, hj, hlt, hpo.1, hpo.2.2.1⟩
        have HJ0 : Hid (0 < tk ∧ 0 < R) := ⟨hpo.2.1, by have := hpo.2.1; omega⟩
        have hi6 : i ≤ 1000 := by have := HK.out.2.1; omega
        have htk9 : tk ≤ 100 := by omega
        have hb2 : Below wr.heap.size wr (wr.alloc (.cells #[.int .u64 (x : Int), .int .u64 (tk : Int)] 38)) := (Below.refl _ _).alloc (Nat.le_refl _) _
        have X2 : Hid (RamAt (wr.alloc (.cells #[.int .u64 (x : Int), .int .u64 (tk : Int)] 38)) G rb 8192 (kk + j) (.pointer none) (layS g (spanA (ps.take i)) 0 M) ∧ Step F w G (wr.alloc (.cells #[.int .u64 (x : Int), .int .u64 (tk : Int)] 38)) ∧ SpanIn v0.heap.size (wr.alloc (.cells #[.int .u64 (x : Int), .int .u64 (tk : Int)] 38)) (.slice (some ⟨gs, 0, none⟩) K co) ps ∧ ¬ G gs ∧ (wr.alloc (.cells #[.int .u64 (x : Int), .int .u64 (tk : Int)] 38)).heap[wr.heap.size]? = some (.cells #[.int .u64 (x : Int), .int .u64 (tk : Int)] 38 (0, 0)) ∧ ¬ G wr.heap.size ∧ ReadsF G (wr.alloc (.cells #[.int .u64 (x : Int), .int .u64 (tk : Int)] 38)) (.slice (some ⟨bd, od, none⟩) R cd) R (fun z => g (j + z))) := ⟨hrm.below hb2, hst.trans (Step.of_below hb2), hsp.kept (fun q hq => hb2.block q (hsp.lt q hq).2), hgq gs rfl, heap_alloc_new _ _, fun hf => by have := hrm.lt _ hf; omega, ReadsF.step (F := G) (F' := G) (.inr ⟨bd, od, cd, rfl, hG, hc1, hc2, hcell⟩) (Step.of_below hb2)⟩
        have HCB : Hid (¬ G bd ∧ R ≤ cd ∧ cd ≤ 9223372036854775807) := ⟨hG, hc1, hc2⟩
        clear hrm hst hsp hgq hcl hpo ht hlen hx htk hlen2 hjt hR htR hlt hil hsl hb2 hj hG hc1 hc2 hcell hjn hi
        go_upto_region 7 with fail
        clear x2 y2
        generalize wr.alloc (.cells #[.int .u64 (x : Int), .int .u64 (tk : Int)] 38) = w2 at *
        generalize wr.heap.size = q2 at *
        have Xd : Hid (RamAt w2.drew G rb 8192 (kk + j) (.pointer none) (layS g (spanA (ps.take i)) 0 M) ∧ Step F w G w2.drew ∧ SpanIn v0.heap.size w2.drew (.slice (some ⟨gs, 0, none⟩) K co) ps ∧ ¬ G gs ∧ w2.drew.heap[q2]? = some (.cells #[.int .u64 (x : Int), .int .u64 (tk : Int)] 38 (0, 0)) ∧ ¬ G q2 ∧ ReadsF G w2.drew (.slice (some ⟨bd, od, none⟩) R cd) R (fun z => g (j + z))) := ⟨X2.out.1.below (Below.refl _ _).drew, X2.out.2.1.trans (Step.of_below (Below.refl _ _).drew), X2.out.2.2.1, X2.out.2.2.2.1, X2.out.2.2.2.2.1, X2.out.2.2.2.2.2.1, ReadsF.step X2.out.2.2.2.2.2.2 (Step.of_below (Below.refl _ _).drew)⟩
        clear X2
        have K32 : Hid (Calls Try.prog 32 #[.pointer (some ⟨rb, 0, none⟩), .int .u64 (x : Int), .slice (some ⟨bd, od, none⟩) tk cd] w2.drew fun e w' => e = .returned (.bool true) ∧ ∃ F', RamAt w' F' rb 8192 (kk + j + tk) (.pointer none) (over (layS g (spanA (ps.take i)) 0 M) x tk (fun z => g (j + z))) ∧ Step G w2.drew F' w') := by
          have hrd2 : ReadsF G w2.drew (.slice (some ⟨bd, od, none⟩) tk cd) tk (fun z => g (j + z)) := by
            rcases Xd.out.2.2.2.2.2.2 with ⟨h0, _⟩ | ⟨b', o', c', he, hb', _, hc', hcl⟩
            · refine .inl ⟨by have := HJ.out.2.2.2.2.1; omega, ?_⟩
              have : tk = 0 := by have := HJ.out.2.2.2.2.1; omega
              subst this
              exact ⟨_, cd, HCB.out.2.2, rfl⟩
            · simp only [Value.slice.injEq, Option.some.injEq, Addr.mk.injEq, and_true, true_and] at he
              obtain ⟨⟨rfl, rfl⟩, rfl⟩ := he
              exact .inr ⟨_, _, _, rfl, hb', by have := HJ.out.2.2.2.2.1; have := HCB.out.2.1; omega, hc', fun z hz => hcl z (by have := HJ.out.2.2.2.2.1; omega)⟩
          have := write_any Xd.out.1 (by omega) x tk (fun z => g (j + z)) _ HJ.out.2.2.2.2.2.2.2.2 hrd2 (fun z _ => HR.out.2.2.1 _) (by have := HR.out.2.2.2; have := HJ.out.2.2.1; omega)
          have hin : inB (x : Int) (tk : Int) 2147483648 ((8192 : Nat) : Int) = true := HJ.out.2.2.2.2.2.2.2.1
          rw [hin, if_pos rfl] at this
          exact this
        obtain ⟨t0, t1, _, _⟩ := box_facts Xd.out.2.2.2.2.1
        go_region_held3 (fun Z => Z.cell? ⟨q2, 0, none⟩ = some (.int .u64 (x : Int)) ∧ Z.cell? ⟨q2, 1, none⟩ = some (.int .u64 (tk : Int))) (go_keep) (first | (go_at_call 32; refine (K32.out).mono ?_; rintro e w3 ⟨rfl, G3, hr3, hs3⟩; have X3 : Hid (RamAt w3 G3 rb 8192 (kk + j + tk) (.pointer none) (over (layS g (spanA (ps.take i)) 0 M) x tk (fun z => g (j + z))) ∧ Step F w G3 w3 ∧ (SpanIn v0.heap.size w3 (.slice (some ⟨gs, 0, none⟩) K co) ps ∧ ¬ G3 gs) ∧ w3.heap[q2]? = some (.cells #[.int .u64 (x : Int), .int .u64 (tk : Int)] 38 (0, 0)) ∧ ReadsF G3 w3 (.slice (some ⟨bd, od, none⟩) R cd) R (fun z => g (j + z)) ∧ ¬ G3 bd) := ⟨hr3, Xd.out.2.1.trans hs3, span_step Xd.out.2.2.1 Xd.out.2.2.2.1 hs3, (step_kept2 Xd.out.2.2.2.2.1 hs3 Xd.out.2.2.2.2.2.1).1, ReadsF.step Xd.out.2.2.2.2.2.2 hs3, reads_not Xd.out.2.2.2.2.2.2 hs3 HCB.out.1 HJ0.out.2⟩; clear hr3 hs3; obtain ⟨t2, t3, _, _⟩ := box_facts X3.out.2.2.2.1))
        clear Xd K32 t0 t1
        go_wp2_with fail
        go_roundw
        case rel =>
          refine ⟨i + 1, j + tk, G3, HJ.out.2.2.2.2.2.2.1, by go_num, HJ.out.2.1, HJ.out.2.2.1, ?_, ?_, X3.out.2.1, X3.out.2.2.1.1, fun q hq => ?_⟩
          · have hcut := ReadsF.cut (F := G3) (w := w3) (b := bd) (off := od) (cap := cd) (n := R) (m := tk) (f := fun z => g (j + z)) X3.out.2.2.2.2.2 HCB.out.2.1 HCB.out.2.2 HJ.out.2.2.2.2.1 (reads_cells X3.out.2.2.2.2.1)
            rw [show n - (j + tk) = R - tk from by have := HJ.out; omega]
            simpa [Nat.add_assoc] using hcut
          · rw [HJ.out.1, layS_append, HJ.out.2.2.2.2.2.1, Nat.zero_add, layS_range]
            rw [← Nat.add_assoc]
            exact X3.out.1
          · have : q = gs := by simpa [Value.ownBlock] using hq.symm
            subst this
            exact X3.out.2.2.1.2
        case measure => simp [intOf]; have := HJ.out.2.2.2.2.2.2.1; omega
end Go.Proofs.Ytcgjfklglckjcaa

/- The document's Scatter. -/
namespace Go.Proofs.Ytcgjfklglckjcaa
open Go.RowKit Go.Maps
set_option linter.unusedVariables false
set_option linter.unusedSimpArgs false
set_option maxRecDepth 100000
theorem info32 : (Try.prog.info? 32).map (·.size) = some 2 := by kernel_rfl
/-- the document's memory in its box, j bytes written -/
def Dz (w V : World) (F : Nat → Prop) (g M : Nat → Nat) (l : List Seg) (f n : Nat) (xa : Option Addr) (xn xc : Nat) (xs : Nat → Nat × Nat) (nn j : Nat) (a : Option Addr) (L c ta tl : Nat) : Prop := Below w.heap.size w V ∧ V.heap[w.heap.size]? = some (.cells #[.int .u64 8192, .slice xa xn xc] 32 (0, 0)) ∧ V.heap[w.heap.size + 1]? = some (.cells #[.slice a L c, .int .u64 (ta : Int), .int .u64 (tl : Int)] 44 (0, 0)) ∧ V.heap[w.heap.size + 1 + 1]? = some (.cells #[.int .u64 0, .slice none 0 0] 32 (0, 0)) ∧ xn ≤ nn + j ∧ RefIn F V (.slice xa xn xc) xn xs ∧ (∀ q, rget xs xn q = layS g ((scaL l f n).take j) 0 M q) ∧ Rng xs xn 8192
def Dy (w V : World) (F : Nat → Prop) (g M : Nat → Nat) (l : List Seg) (f n : Nat) (xa : Option Addr) (xn xc : Nat) (xs : Nat → Nat × Nat) (nn j : Nat) (a : Option Addr) (L c ta tl : Nat) (ya : Option Addr) (yn yc : Nat) : Prop := Below w.heap.size w V ∧ V.heap[w.heap.size]? = some (.cells #[.int .u64 8192, .slice ya yn yc] 32 (0, 0)) ∧ V.heap[w.heap.size + 1]? = some (.cells #[.slice a L c, .int .u64 (ta : Int), .int .u64 (tl : Int)] 44 (0, 0)) ∧ V.heap[w.heap.size + 1 + 1]? = some (.cells #[.int .u64 0, .slice none 0 0] 32 (0, 0)) ∧ xn ≤ nn + j ∧ (RefIn F V (.slice xa xn xc) xn xs ∧ ∀ q, (Value.slice xa xn xc).ownBlock = some q → 0 < xn → q ≠ w.heap.size) ∧ (∀ q, rget xs xn q = layS g ((scaL l f n).take j) 0 M q) ∧ Rng xs xn 8192
section
variable {w V V2 : World} {F : Nat → Prop} {g M : Nat → Nat} {l : List Seg} {f n : Nat} {xa : Option Addr} {xn xc : Nat} {xs : Nat → Nat × Nat} {nn j : Nat} {a : Option Addr} {L c ta tl : Nat}
theorem Dz.below (h : Dz w V F g M l f n xa xn xc xs nn j a L c ta tl) (hb : Below V.heap.size V V2) : Dz w V2 F g M l f n xa xn xc xs nn j a L c ta tl := ⟨below_to h.1 hb, below_box h.2.1 hb, below_box h.2.2.1 hb, below_box h.2.2.2.1 hb, h.2.2.2.2.1, h.2.2.2.2.2.1.below hb, h.2.2.2.2.2.2⟩
theorem setRow_cell {V : World} {q : Nat} {cs : Array Value} {b o : Nat} (h : b ≠ q) : (V.setRow q cs).cell? ⟨b, o, none⟩ = V.cell? ⟨b, o, none⟩ := World.cell?_of_block (a := ⟨b, o, none⟩) (setRow_other _ _ _ _ h)
theorem RefIn.setRow {F : Nat → Prop} {V : World} {xa : Option Addr} {xn xc q : Nat} {xs : Nat → Nat × Nat} {cs : Array Value} (h : RefIn F V (.slice xa xn xc) xn xs) (hq : ∀ z, (Value.slice xa xn xc).ownBlock = some z → 0 < xn → z ≠ q) : RefIn F (V.setRow q cs) (.slice xa xn xc) xn xs := by
  rcases h with h | ⟨g, c, he, hF, hc⟩
  · exact .inl h
  · refine .inr ⟨g, c, he, hF, fun i hi => ?_⟩
    have hne : g ≠ q := hq g (by rw [he]; rfl) (by omega)
    exact ⟨(setRow_cell hne).trans (hc i hi).1, (setRow_cell hne).trans (hc i hi).2⟩
theorem Dy.store {ya : Option Addr} {yn yc : Nat} (h : Dy w V F g M l f n xa xn xc xs nn j a L c ta tl ya yn yc) : Dz w (V.setRow (w.heap.size) #[.int .u64 8192, .slice xa xn xc]) F g M l f n xa xn xc xs nn j a L c ta tl := ⟨below_setRow h.1 (Nat.le_refl _) _, setRow_heap _ _ _ _ _ _ h.2.1, (setRow_other _ _ _ _ (by omega)).trans h.2.2.1, (setRow_other _ _ _ _ (by omega)).trans h.2.2.2.1, h.2.2.2.2.1, h.2.2.2.2.2.1.1.setRow h.2.2.2.2.2.1.2, h.2.2.2.2.2.2⟩
end
theorem ref_not {F : Nat → Prop} {V : World} {xa : Option Addr} {xn xc q z : Nat} {xs : Nat → Nat × Nat} {u : Value} {a : Option Addr} {n c : Nat} (h : RefIn F V (.slice xa xn xc) xn xs) (hq : V.heap[q]? = some (.cells #[u, .slice a n c] 32 (0, 0))) (hz : (Value.slice xa xn xc).ownBlock = some z) (h0 : 0 < xn) : z ≠ q := by
  rcases h with ⟨h00, _⟩ | ⟨gg, cc, he2, _, hcc⟩
  · omega
  · have e2 : z = gg := by rw [he2] at hz; simpa [Value.ownBlock] using hz.symm
    intro e3
    have e4 : gg = q := by omega
    subst e4
    have hbad := cellOf hq 1 _ rfl
    have hc1 := (hcc 0 h0).2
    rw [show (0 : Nat) * 2 + 1 = 1 from rfl, hbad] at hc1
    cases hc1
theorem take_snoc {l : List Seg} {f n j : Nat} (h : roomB true l f n = true) (hj : j < n) : (scaL l f n).take (j + 1) = (scaL l f n).take j ++ [(addrs true l).getD (f + j) 0] ∧ ((scaL l f n).take j).length = j := by
  have h1 := room_len h
  have h2 : j < (scaL l f n).length := by unfold scaL; omega
  refine ⟨?_, by rw [List.length_take]; unfold scaL at *; omega⟩
  rw [List.take_add_one, List.getElem?_eq_getElem h2]
  simp only [Option.toList_some]
  congr 2
  have h3 : (scaL l f n)[j]? = some (scaL l f n)[j] := List.getElem?_eq_getElem h2
  have h4 : (scaL l f n)[j]? = (addrs true l)[f + j]? := by
    unfold scaL
    rw [List.getElem?_take, if_pos hj, List.getElem?_drop]
  simp only [List.getD]
  rw [← h4, h3]
  rfl
theorem addr_in {b : Bool} {l : List Seg} (hok : ∀ s ∈ l, SegOk s) {m : Nat} (hm : m < sizeN b l) : inB ((addrs b l).getD m 0 : Nat) (1 : Nat) 2147483648 (8192 : Nat) = true := by
  rw [← addrs_length] at hm
  have key : ∀ v ∈ addrs b l, 2147483648 ≤ v ∧ v < 2147491840 := by
    intro v hv
    simp only [addrs, List.mem_flatMap] at hv
    obtain ⟨s, hs, hx⟩ := hv
    have hok := in_len (hok s hs).i
    split at hx
    · simp only [List.mem_map, List.mem_range] at hx
      obtain ⟨k, hk, he⟩ := hx
      omega
    · cases hx
  have := key ((addrs b l).getD m 0) (by simp [List.getD, hm])
  simp only [inB, Bool.and_eq_true, decide_eq_true_iff]
  omega
set_option maxHeartbeats 8000000 in
theorem dscatter_any {w : World} {F : Nat → Prop} {va : Option Addr} {nn vc : Nat} {bs : Nat → Nat × Nat} {M : Nat → Nat} (hF : ∀ k, F k → k < w.heap.size) (href : RefIn F w (.slice va nn vc) nn bs) (hgt : ∀ q, rget bs nn q = M q) (hrng : Rng bs nn 8192) (hnn : nn ≤ 900000) {a : Option Addr} {L c : Nat} {l : List Seg} (h : SegIn 0 w (.slice a L c) l) (hl : l.length ≤ 1000) (hok : ∀ s ∈ l, SegOk s) (ta tl : Nat) (f n : Nat) (hf : f < 18446744073709551616) (hn : n ≤ 100) (g : Nat → Nat) (hg : ∀ i, g i ≤ 255) (da : Option Addr) (dc : Nat) (hd : ReadsF F w (.slice da n dc) n g) :
    Calls Try.prog 26 #[.agg #[.int .u64 8192, .slice va nn vc], .agg #[.slice a L c, .int .u64 (ta : Int), .int .u64 (tl : Int)], .int .u64 (f : Int), .slice da n dc] w fun e w' => ∃ a' n' c' bs', e = .returned (.tuple #[.agg #[.int .u64 8192, .slice a' n' c'], .bool (roomB true l f n)]) ∧ n' ≤ nn + n ∧ RefIn F w' (.slice a' n' c') n' bs' ∧ (∀ q, rget bs' n' q = (if roomB true l f n = true then layS g (scaL l f n) 0 M else M) q) ∧ Rng bs' n' 8192 ∧ Below w.heap.size w w' := by
  have h3 := three_in w (.cells #[.int .u64 8192, .slice va nn vc] 32) (.cells #[.slice a L c, .int .u64 (ta : Int), .int .u64 (tl : Int)] 44) (.cells #[.int .u64 0, .slice none 0 0] 32)
  have XB : Hid (Dz w (((w.alloc (.cells #[.int .u64 8192, .slice va nn vc] 32)).alloc (.cells #[.slice a L c, .int .u64 (ta : Int), .int .u64 (tl : Int)] 44)).alloc (.cells #[.int .u64 0, .slice none 0 0] 32)) F g M l f n va nn vc bs nn 0 a L c ta tl) := ⟨h3.2.2.2, h3.1, h3.2.1, h3.2.2.1, Nat.le_refl _, href.below h3.2.2.2, fun q => by rw [hgt q]; rfl, hrng⟩
  have hsz := sizeN_le true l hok
  have K21 : Hid (∀ V, Below w.heap.size w V → Calls Try.prog 21 #[.agg #[.slice a L c, .int .u64 (ta : Int), .int .u64 (tl : Int)]] V fun e w' => e = .returned (.tuple #[.int .u64 (sizeN false l : Int), .int .u64 (sizeN true l : Int)]) ∧ Below V.heap.size V w') := fun V hV => dsizes_any (h.kept (fun g hg => hV.block g (h.lt g hg).2)) hl hok ta tl
  have K48' : Hid (∀ (m : Nat), m < 18446744073709551616 → ∀ V, Below w.heap.size w V → Calls Try.prog 48 #[.agg #[.slice a L c, .int .u64 (ta : Int), .int .u64 (tl : Int)], .int .u64 (m : Int), .bool true] V fun e w' => e = .returned (.int .u64 ((addrs true l).getD m 0 : Nat)) ∧ Below V.heap.size V w') := fun m hm V hV => place_any (h.kept (fun g hg => hV.block g (h.lt g hg).2)) hl hok ta tl m hm true
  have HOK : Hid ((∀ s ∈ l, SegOk s) ∧ (∀ i, g i ≤ 255) ∧ (∀ k, F k → k < w.heap.size) ∧ nn ≤ 900000 ∧ ReadsF F w (.slice da n dc) n g) := ⟨hok, hg, hF, hnn, hd⟩
  obtain ⟨Mx, hMx⟩ : ∃ Mx, (if roomB true l f n = true then layS g (scaL l f n) 0 M else M) = Mx := ⟨_, rfl⟩
  rw [hMx]
  have HRB : Hid (roomB true l f n = decide (f ≤ sizeN true l ∧ n ≤ sizeN true l - f)) := rfl
  obtain ⟨rm, hrm⟩ : ∃ rm, roomB true l f n = rm := ⟨_, rfl⟩
  rw [hrm]
  have HMX : Hid ((rm = true → Mx = layS g (scaL l f n) 0 M) ∧ (rm = false → Mx = M) ∧ roomB true l f n = rm) := by
    rw [hrm] at hMx
    refine ⟨fun h => ?_, fun h => ?_, hrm⟩
    · rw [← hMx, h, if_pos rfl]
    · rw [← hMx, h, if_neg (by decide)]
  rw [hrm] at HRB
  obtain ⟨sz, hsz2⟩ : ∃ sz, sizeN true l = sz := ⟨_, rfl⟩
  rw [hsz2] at K21 HRB hsz
  generalize sizeN false l = sz1 at *
  have HB : Hid (sz ≤ 9000000 ∧ f < 18446744073709551616 ∧ sizeN true l = sz) := ⟨by omega, hf, hsz2⟩
  have e1 : IntKind.u64.wrap (n : Int) = (n : Int) := by rw [wrap_u64]; omega
  clear h3 href hgt hrng h hl hok hf hg hF hnn hd hsz hsz2 hMx hrm
  go_enter Try.func26, Try.ntmps26
  go_upto_region 1 with fail
  generalize ((w.alloc (.cells #[.int .u64 8192, .slice va nn vc] 32)).alloc (.cells #[.slice a L c, .int .u64 (ta : Int), .int .u64 (tl : Int)] 44)).alloc (.cells #[.int .u64 0, .slice none 0 0] 32) = v0 at *
  obtain ⟨p0, p1, p2⟩ := box3_facts XB.out.2.2.1
  go_upto_region 2 with (go_at_call 21; refine (K21.out _ XB.out.1).mono ?_; rintro e w1 ⟨rfl, hb1⟩; have X1 : Hid (Dz w w1 F g M l f n va nn vc bs nn 0 a L c ta tl) := XB.out.below hb1; clear hb1 p0 p1 p2)
  clear XB K21
  by_cases hroom : f ≤ sz ∧ n ≤ sz - f
  case neg =>
    have hrf : rm = false := HRB.out.trans (decide_eq_false hroom)
    subst hrf
    have HMM : Hid (Mx = M) := HMX.out.2.1 rfl
    obtain ⟨m0, m1, _, _⟩ := box_facts X1.out.2.1
    have fin : ∀ (u : World), Hid (u = w1.setRow (w.heap.size + 1 + 1) #[.int .u64 8192, .slice va nn vc]) → u.heap[w.heap.size + 1 + 1]? = some (.cells #[.int .u64 8192, .slice va nn vc] 32 (0, 0)) ∧ (RefIn F u (.slice va nn vc) nn bs ∧ Below w.heap.size w u) := by
      intro u hu
      rw [hu.out]
      refine ⟨setRow_heap _ _ _ _ _ _ X1.out.2.2.2.1, X1.out.2.2.2.2.2.1.setRow (fun z hz h0 => ?_), below_setRow X1.out.1 (by omega) _⟩
      exact ref_not X1.out.2.2.2.2.2.1 X1.out.2.2.2.1 hz h0
    have HFIN : Hid (∀ (u : World), Hid (u = w1.setRow (w.heap.size + 1 + 1) #[.int .u64 8192, .slice va nn vc]) → u.heap[w.heap.size + 1 + 1]? = some (.cells #[.int .u64 8192, .slice va nn vc] 32 (0, 0)) ∧ (RefIn F u (.slice va nn vc) nn bs ∧ Below w.heap.size w u)) := fin
    clear fin
    by_cases hfs : sz < f
    · have g1 : (sz : Int) < (f : Int) := by omega
      clear hfs hroom
      go_upto_region 3 with fail
      refine wp_region_list ?_
      (refine wpList_step (fun KK hKK => ?_); go_simp; refine hKK _ _ ?_; clear hKK KK)
      refine wpList_store_row rfl 32 _ _ rfl (w.heap.size + 1 + 1) #[.int .u64 8192, .slice va nn vc] rfl rfl 32 #[.int .u64 0, .slice none 0 0] X1.out.2.2.2.1 info32 rfl (by simp [Value.oneCell']) ?_
      obtain ⟨hf1, hf2⟩ := HFIN.out _ rfl
      have HY : Hid (RefIn F (w1.setRow (w.heap.size + 1 + 1) #[.int .u64 8192, .slice va nn vc]) (.slice va nn vc) nn bs ∧ Below w.heap.size w (w1.setRow (w.heap.size + 1 + 1) #[.int .u64 8192, .slice va nn vc]) ∧ (w1.setRow (w.heap.size + 1 + 1) #[.int .u64 8192, .slice va nn vc]).heap[w.heap.size + 1 + 1]? = some (.cells #[.int .u64 8192, .slice va nn vc] 32 (0, 0))) := ⟨hf2.1, hf2.2, hf1⟩
      clear hf1 hf2
      have HX := X1.out.2.2.2.2.2.2
      have HXX : Hid (nn ≤ nn + 0 ∧ (∀ q, rget bs nn q = layS g ((scaL l f n).take 0) 0 M q) ∧ Rng bs nn 8192) := ⟨X1.out.2.2.2.2.1, HX⟩
      clear HX
      generalize w1.setRow (w.heap.size + 1 + 1) #[.int .u64 8192, .slice va nn vc] = w9 at *
      obtain ⟨k0, k1, _, _⟩ := box_facts HY.out.2.2
      go_wp2_with fail
      refine bodyPost_ret (v := .tuple #[.agg #[.int .u64 8192, .slice va nn vc], .bool false]) (by simp [results, Try.results26, go_sem, k0, k1]) rfl ?_
      exact ⟨va, nn, vc, rfl, by omega, bs, HY.out.1, fun q => by rw [HMM.out]; exact HXX.out.2.1 q, HXX.out.2.2, HY.out.2.1⟩
    · have g1 : ¬ (sz : Int) < (f : Int) := by omega
      obtain ⟨df, hdf⟩ : ∃ df, sz - f = df := ⟨_, rfl⟩
      have g2 : IntKind.u64.wrap ((sz : Int) - (f : Int)) = (df : Int) := by have := HB.out; rw [wrap_u64]; omega
      have g3 : (df : Int) < (n : Int) := by omega
      clear hfs hroom hdf
      go_upto_region 3 with fail
      refine wp_region_list ?_
      (refine wpList_step (fun KK hKK => ?_); go_simp; refine hKK _ _ ?_; clear hKK KK)
      refine wpList_store_row rfl 32 _ _ rfl (w.heap.size + 1 + 1) #[.int .u64 8192, .slice va nn vc] rfl rfl 32 #[.int .u64 0, .slice none 0 0] X1.out.2.2.2.1 info32 rfl (by simp [Value.oneCell']) ?_
      obtain ⟨hf1, hf2⟩ := HFIN.out _ rfl
      have HY : Hid (RefIn F (w1.setRow (w.heap.size + 1 + 1) #[.int .u64 8192, .slice va nn vc]) (.slice va nn vc) nn bs ∧ Below w.heap.size w (w1.setRow (w.heap.size + 1 + 1) #[.int .u64 8192, .slice va nn vc]) ∧ (w1.setRow (w.heap.size + 1 + 1) #[.int .u64 8192, .slice va nn vc]).heap[w.heap.size + 1 + 1]? = some (.cells #[.int .u64 8192, .slice va nn vc] 32 (0, 0))) := ⟨hf2.1, hf2.2, hf1⟩
      clear hf1 hf2
      have HX := X1.out.2.2.2.2.2.2
      have HXX : Hid (nn ≤ nn + 0 ∧ (∀ q, rget bs nn q = layS g ((scaL l f n).take 0) 0 M q) ∧ Rng bs nn 8192) := ⟨X1.out.2.2.2.2.1, HX⟩
      clear HX
      generalize w1.setRow (w.heap.size + 1 + 1) #[.int .u64 8192, .slice va nn vc] = w9 at *
      obtain ⟨k0, k1, _, _⟩ := box_facts HY.out.2.2
      go_wp2_with fail
      refine bodyPost_ret (v := .tuple #[.agg #[.int .u64 8192, .slice va nn vc], .bool false]) (by simp [results, Try.results26, go_sem, k0, k1]) rfl ?_
      exact ⟨va, nn, vc, rfl, by omega, bs, HY.out.1, fun q => by rw [HMM.out]; exact HXX.out.2.1 q, HXX.out.2.2, HY.out.2.1⟩
  have hrt : rm = true := HRB.out.trans (decide_eq_true hroom)
  subst hrt
  have HMM : Hid (Mx = layS g (scaL l f n) 0 M ∧ roomB true l f n = true) := ⟨HMX.out.1 rfl, HMX.out.2.2⟩
  have g1 : ¬ (sz : Int) < (f : Int) := by omega
  obtain ⟨df, hdf⟩ : ∃ df, sz - f = df := ⟨_, rfl⟩
  have g2 : IntKind.u64.wrap ((sz : Int) - (f : Int)) = (df : Int) := by have := HB.out; rw [wrap_u64]; omega
  have g3 : ¬ (df : Int) < (n : Int) := by omega
  have hfb : f ≤ 9000000 := by have := HB.out.1; omega
  have HFS : Hid (f + n ≤ sz) := by show f + n ≤ sz; omega
  clear hroom hdf HMX HRB
  go_upto_region 4 with fail
  clear g1 g2 g3
  go_wp2_with fail
  go_loopw [12] (fun x wr => ∃ (j : Nat) (xa : Option Addr) (xn xc : Nat) (xs : Nat → Nat × Nat), j ≤ n ∧ x = .int .i64 (j : Int) ∧ (Dz w wr F g M l f n xa xn xc xs nn j a L c ta tl)) (fun x _ => n - (intOf x).toNat)
  case atStart => exact ⟨0, va, nn, vc, bs, Nat.zero_le _, rfl, X1.out⟩
  case round =>
    obtain ⟨j, xa, xn, xc, xs, hj, rfl, hx⟩ := hrel
    have XR : Hid (Dz w wr F g M l f n xa xn xc xs nn j a L c ta tl) := hx
    clear hx X1
    by_cases hlt : j < n
    case neg =>
      have h1 : ¬ (j : Int) < (n : Int) := by omega
      have hjn : j = n := by omega
      subst hjn
      clear hlt hj
      obtain ⟨m0, m1, _, _⟩ := box_facts XR.out.2.1
      go_upto_region 8 with fail
      refine wp_region_list ?_
      (refine wpList_step (fun KK hKK => ?_); go_simp; refine hKK _ _ ?_; clear hKK KK)
      refine wpList_store_row rfl 32 _ _ rfl (w.heap.size + 1 + 1) #[.int .u64 8192, .slice xa xn xc] rfl rfl 32 #[.int .u64 0, .slice none 0 0] XR.out.2.2.2.1 info32 rfl (by simp [Value.oneCell']) ?_
      have HY : Hid (RefIn F (wr.setRow (w.heap.size + 1 + 1) #[.int .u64 8192, .slice xa xn xc]) (.slice xa xn xc) xn xs ∧ Below w.heap.size w (wr.setRow (w.heap.size + 1 + 1) #[.int .u64 8192, .slice xa xn xc]) ∧ (wr.setRow (w.heap.size + 1 + 1) #[.int .u64 8192, .slice xa xn xc]).heap[w.heap.size + 1 + 1]? = some (.cells #[.int .u64 8192, .slice xa xn xc] 32 (0, 0))) := ⟨XR.out.2.2.2.2.2.1.setRow (fun z hz h0 => ref_not XR.out.2.2.2.2.2.1 XR.out.2.2.2.1 hz h0), below_setRow XR.out.1 (by omega) _, setRow_heap _ _ _ _ _ _ XR.out.2.2.2.1⟩
      have HXX : Hid (xn ≤ nn + j ∧ (∀ q, rget xs xn q = layS g ((scaL l f j).take j) 0 M q) ∧ Rng xs xn 8192) := ⟨XR.out.2.2.2.2.1, XR.out.2.2.2.2.2.2⟩
      clear XR
      generalize wr.setRow (w.heap.size + 1 + 1) #[.int .u64 8192, .slice xa xn xc] = w9 at *
      obtain ⟨k0, k1, _, _⟩ := box_facts HY.out.2.2
      go_wp2_with fail
      refine bodyPost_ret (v := .tuple #[.agg #[.int .u64 8192, .slice xa xn xc], .bool true]) (by simp [results, Try.results26, go_sem, k0, k1]) rfl ?_
      exact ⟨xa, xn, xc, rfl, HXX.out.1, xs, HY.out.1, fun q => by rw [HMM.out.1, HXX.out.2.1 q, List.take_of_length_le (by unfold scaL; rw [room_len HMM.out.2]; exact Nat.le_refl _)], HXX.out.2.2, HY.out.2.1⟩
    case pos =>
      have h1 : (j : Int) < (n : Int) := by omega
      rcases HOK.out.2.2.2.2 with ⟨h0, _⟩ | ⟨bd, od, cd, he, hFb, hc1, hc2, hcell⟩
      · omega
      simp only [Value.slice.injEq, true_and] at he
      obtain ⟨rfl, rfl⟩ := he
      have hbd : bd < w.heap.size := block_lt_of_cell (hcell 0 (by omega))
      obtain ⟨y, hy⟩ : ∃ y, g j = y := ⟨_, rfl⟩
      have hcj := hcell j hlt
      rw [hy] at hcj
      have hcw := (XR.out.1.cell (p := ⟨bd, od + j, none⟩) hbd).trans hcj
      obtain ⟨m, hm⟩ : ∃ m, m = f + j := ⟨_, rfl⟩
      have q1 : IntKind.u64.wrap (j : Int) = (j : Int) := by rw [wrap_u64]; omega
      have q2 : IntKind.u64.wrap ((f : Int) + (j : Int)) = (m : Int) := by rw [wrap_u64]; omega
      have hts := take_snoc (l := l) (f := f) HMM.out.2 hlt
      rw [← hm] at hts
      have K48 : Hid (∀ V, Below w.heap.size w V → Calls Try.prog 48 #[.agg #[.slice a L c, .int .u64 (ta : Int), .int .u64 (tl : Int)], .int .u64 (m : Int), .bool true] V fun e w' => e = .returned (.int .u64 ((addrs true l).getD m 0 : Nat)) ∧ Below V.heap.size V w') := K48'.out m (by omega)
      have hin := addr_in (b := true) HOK.out.1 (m := m) (by have := HB.out.2.2; have := HFS.out; omega)
      have hab := addrs_bound (b := true) HOK.out.1 m
      generalize (addrs true l).getD m 0 = pl at *
      have K33 : Hid (∀ V gx, (Dz w V F g M l f n xa xn xc xs nn j a L c ta tl) → V.heap[gx]? = some (.cells #[.int .u8 (y : Int)] 5 (0, 0)) → Calls Try.prog 33 #[.agg #[.int .u64 8192, .slice xa xn xc], .int .u64 (pl : Int), .slice (some ⟨gx, 0, none⟩) 1 1] V fun e w' => ∃ a2 n2 c2 s2, e = .returned (.tuple #[.agg #[.int .u64 8192, .slice a2 n2 c2], .bool true]) ∧ Dy w w' F g M l f n a2 n2 c2 s2 nn (j + 1) a L c ta tl xa xn xc ∧ (∀ o, V.cell? ⟨bd, od + j, none⟩ = some o → w'.cell? ⟨bd, od + j, none⟩ = some o)) := by
        intro V gx hV hgx
        have hrd : Reads .u8 V (.slice (some ⟨gx, 0, none⟩) 1 1) 1 (fun _ => y) := .inr ⟨gx, 0, 1, rfl, fun i hi => by
          have : i = 0 := by omega
          subst this
          exact cellOf hgx 0 _ rfl⟩
        have := rwrite_any F V 8192 pl 1 (.slice xa xn xc) (.slice (some ⟨gx, 0, none⟩) 1 1) xn xs (fun _ => y) hV.2.2.2.2.2.1 hrd (fun k hk => Nat.lt_of_lt_of_le (HOK.out.2.2.1 k hk) hV.1.size) (by have := hV.2.2.2.2.1; have := HOK.out.2.2.2.1; omega) (by omega) hab (by omega)
        rw [hin] at this
        refine this.mono ?_
        rintro e w' ⟨a2, n2, c2, s2, he, hn2, hr2, ⟨hg2, hrg2⟩, hb2⟩
        refine ⟨a2, n2, c2, s2, he, ⟨below_to hV.1 hb2, below_box hV.2.1 hb2, below_box hV.2.2.1 hb2, below_box hV.2.2.2.1 hb2, by have := hV.2.2.2.2.1; omega, ⟨hr2, fun q hq h0 => ?_⟩, fun q => ?_, hrg2 hV.2.2.2.2.2.2.2⟩, fun o ho => (hb2.cell (block_lt_of_cell ho)).trans ho⟩
        · exact ref_not hr2 (below_box hV.2.1 hb2) hq h0
        · rw [hg2 q, if_pos rfl, hts.1, layS_append]
          simp only [layS, hts.2, Nat.zero_add, hy]
          unfold over
          rw [hV.2.2.2.2.2.2.1 q]
      have HBD : Hid (bd < w.heap.size) := hbd
      have HJN : Hid (j < n) := hlt
      have hjc : (j : Int) < (n : Int) := h1
      have XR2 : Hid ((Dz w wr F g M l f n xa xn xc xs nn j a L c ta tl) ∧ wr.cell? ⟨bd, od + j, none⟩ = some (.int .u8 (y : Int))) := ⟨XR.out, hcw⟩
      clear hts hin hab hm hy hcw hcj hcell hbd hlt hj hFb hc1 hc2 XR K48'
      go_upto_region 7 with fail
      have Xd : Hid ((Dz w wr.drew F g M l f n xa xn xc xs nn j a L c ta tl) ∧ wr.drew.cell? ⟨bd, od + j, none⟩ = some (.int .u8 (y : Int))) := XR2.out.imp (fun q => Dz.below q (Below.refl _ _).drew) (fun q => q)
      clear XR2
      refine wp_region_held_drew (S := fun Z => Z.cell? ⟨w.heap.size + 1, 0, none⟩ = some (.slice a L c) ∧ Z.cell? ⟨w.heap.size + 1, 1, none⟩ = some (.int .u64 (ta : Int)) ∧ Z.cell? ⟨w.heap.size + 1, 2, none⟩ = some (.int .u64 (tl : Int)) ∧ Z.cell? ⟨bd, od + j, none⟩ = some (.int .u8 (y : Int))) (by kernel_rfl) ⟨cellOf Xd.out.1.2.2.1 0 _ rfl, cellOf Xd.out.1.2.2.1 1 _ rfl, cellOf Xd.out.1.2.2.1 2 _ rfl, Xd.out.2⟩ ?_
      intro hS
      generalize wr.drew = wd at *
      refine wpAnyH_take (i := 1) (v := ?_) rfl (by kernel_rfl) (by kernel_rfl) (by kernel_rfl) (fun _ _ _ h => h) (Or.inl ⟨by kernel_rfl, ?_⟩) hS ?_
      rotate_left
      · intro w hSw; (try dsimp only at hSw); go_simp; try (with_reducible rfl)
      (try simp only [Act.put, List.getElem_toArray, List.getElem_cons_succ, List.getElem_cons_zero, List.setIfInBounds_toArray, List.set_cons_zero, List.set_cons_succ])
      refine wpAnyH_take (i := 2) (v := ?_) rfl (by kernel_rfl) (by kernel_rfl) (by kernel_rfl) (fun _ _ _ h => h) (Or.inl ⟨by kernel_rfl, ?_⟩) hS ?_
      rotate_left
      · intro w hSw; (try dsimp only at hSw); go_simp; try (with_reducible rfl)
      (try simp only [Act.put, List.getElem_toArray, List.getElem_cons_succ, List.getElem_cons_zero, List.setIfInBounds_toArray, List.set_cons_zero, List.set_cons_succ])
      refine wpAnyH_take (i := 3) (v := ?_) rfl (by kernel_rfl) (by kernel_rfl) (by kernel_rfl) (fun _ _ _ h => h) (Or.inl ⟨by kernel_rfl, ?_⟩) hS ?_
      rotate_left
      · intro w hSw; (try dsimp only at hSw); go_simp; try (with_reducible rfl)
      (try simp only [Act.put, List.getElem_toArray, List.getElem_cons_succ, List.getElem_cons_zero, List.setIfInBounds_toArray, List.set_cons_zero, List.set_cons_succ])
      refine wpAnyH_take (i := 4) (v := ?_) rfl (by kernel_rfl) (by kernel_rfl) (by kernel_rfl) (fun _ _ _ h => h) (Or.inl ⟨by kernel_rfl, ?_⟩) hS ?_
      rotate_left
      · intro w hSw; (try dsimp only at hSw); go_simp; try (with_reducible rfl)
      (try simp only [Act.put, List.getElem_toArray, List.getElem_cons_succ, List.getElem_cons_zero, List.setIfInBounds_toArray, List.set_cons_zero, List.set_cons_succ])
      refine wpAnyH_take (i := 5) (v := ?_) rfl (by kernel_rfl) (by kernel_rfl) (by kernel_rfl) (fun _ _ _ h => h) (Or.inl ⟨by kernel_rfl, ?_⟩) hS ?_
      rotate_left
      · intro w hSw; (try dsimp only at hSw); go_simp; try (with_reducible rfl)
      (try simp only [Act.put, List.getElem_toArray, List.getElem_cons_succ, List.getElem_cons_zero, List.setIfInBounds_toArray, List.set_cons_zero, List.set_cons_succ])
      refine wpAnyH_take (i := 7) (v := ?_) rfl (by kernel_rfl) (by kernel_rfl) (by kernel_rfl) (fun _ _ _ h => h) (Or.inl ⟨by kernel_rfl, ?_⟩) hS ?_
      rotate_left
      · intro w hSw; (try dsimp only at hSw); go_simp; try (with_reducible rfl)
      (try simp only [Act.put, List.getElem_toArray, List.getElem_cons_succ, List.getElem_cons_zero, List.setIfInBounds_toArray, List.set_cons_zero, List.set_cons_succ])
      refine wpAnyH_take (i := 8) (v := ?_) rfl (by kernel_rfl) (by kernel_rfl) (by kernel_rfl) (fun _ _ _ h => h) (Or.inl ⟨by kernel_rfl, ?_⟩) hS ?_
      rotate_left
      · intro w hSw; (try dsimp only at hSw); go_simp; try (with_reducible rfl)
      (try simp only [Act.put, List.getElem_toArray, List.getElem_cons_succ, List.getElem_cons_zero, List.setIfInBounds_toArray, List.set_cons_zero, List.set_cons_succ])
      refine wpAnyH_take (i := 9) (v := ?_) rfl (by kernel_rfl) (by kernel_rfl) (by kernel_rfl) (fun _ _ _ h => h) (Or.inl ⟨by kernel_rfl, ?_⟩) hS ?_
      rotate_left
      · intro w hSw; (try dsimp only at hSw); go_simp; try (with_reducible rfl)
      (try simp only [Act.put, List.getElem_toArray, List.getElem_cons_succ, List.getElem_cons_zero, List.setIfInBounds_toArray, List.set_cons_zero, List.set_cons_succ])
      refine wpAnyH_take (i := 10) (v := ?_) rfl (by kernel_rfl) (by kernel_rfl) (by kernel_rfl) (fun _ _ _ h => h) (Or.inl ⟨by kernel_rfl, ?_⟩) hS ?_
      rotate_left
      · intro w hSw; (try dsimp only at hSw); go_simp; try (with_reducible rfl)
      (try simp only [Act.put, List.getElem_toArray, List.getElem_cons_succ, List.getElem_cons_zero, List.setIfInBounds_toArray, List.set_cons_zero, List.set_cons_succ])
      refine wpAnyH_ready (rs := [0, 6, 11]) (by kernel_rfl) (by simp) ?_
      refine AllReadyH.cons rfl (fun K1 hK1 => ?_) (AllReadyH.cons rfl (fun K1 hK1 => ?_) (AllReadyH.cons rfl (fun K1 hK1 => ?_) AllReadyH.nil))
      · have _hm : True := trivial
        have m0 := cellOf Xd.out.1.2.1 0 _ rfl
        have m1 := cellOf Xd.out.1.2.1 1 _ rfl
        go_simp
        refine hK1.out _ _ ⟨cellOf Xd.out.1.2.2.1 0 _ rfl, cellOf Xd.out.1.2.2.1 1 _ rfl, cellOf Xd.out.1.2.2.1 2 _ rfl, Xd.out.2⟩ (fun hS3 => ?_)
        clear hK1 K1 hS m0 m1
        (try simp only [Act.put, List.getElem_toArray, List.getElem_cons_succ, List.getElem_cons_zero, List.setIfInBounds_toArray, List.set_cons_zero, List.set_cons_succ])
        refine wpAnyH_ready (rs := [6, 11]) (by kernel_rfl) (by simp) ?_
        refine AllReadyH.cons rfl (fun K1 hK1 => ?_) (AllReadyH.cons rfl (fun K1 hK1 => ?_) AllReadyH.nil)
        · have _hm : True := trivial
          go_simp
          refine (K48.out _ Xd.out.1.1).mono ?_
          rintro e u4 ⟨rfl, hb⟩
          have XO5 : Hid ((Dz w u4 F g M l f n xa xn xc xs nn j a L c ta tl) ∧ u4.cell? ⟨bd, od + j, none⟩ = some (.int .u8 (y : Int))) := Xd.out.imp (fun q => Dz.below q hb) (fun q => (hb.cell (block_lt_of_cell q)).trans q)
          clear hb Xd
          refine hK1.out _ _ ⟨cellOf XO5.out.1.2.2.1 0 _ rfl, cellOf XO5.out.1.2.2.1 1 _ rfl, cellOf XO5.out.1.2.2.1 2 _ rfl, XO5.out.2⟩ (fun hS6 => ?_)
          clear hK1 K1 hS3
          (try simp only [Act.put, List.getElem_toArray, List.getElem_cons_succ, List.getElem_cons_zero, List.setIfInBounds_toArray, List.set_cons_zero, List.set_cons_succ])
          refine wpAnyH_ready (rs := [11]) (by kernel_rfl) (by simp) ?_
          refine AllReadyH.cons rfl (fun K1 hK1 => ?_) AllReadyH.nil
          have _hm : True := trivial
          go_simp
          have hb : Below u4.heap.size u4 (u4.alloc (.cells #[.int .u8 (y : Int)] 5)) := (Below.refl _ _).alloc (Nat.le_refl _) _
          have XO8 : Hid ((Dz w (u4.alloc (.cells #[.int .u8 (y : Int)] 5)) F g M l f n xa xn xc xs nn j a L c ta tl) ∧ (u4.alloc (.cells #[.int .u8 (y : Int)] 5)).cell? ⟨bd, od + j, none⟩ = some (.int .u8 (y : Int))) := XO5.out.imp (fun q => Dz.below q hb) (fun q => (hb.cell (block_lt_of_cell q)).trans q)
          have HGu7 : Hid ((u4.alloc (.cells #[.int .u8 (y : Int)] 5)).heap[u4.heap.size]? = some (.cells #[.int .u8 (y : Int)] 5 (0, 0))) := heap_alloc_new _ _
          clear hb XO5
          generalize u4.alloc (.cells #[.int .u8 (y : Int)] 5) = u7 at *
          generalize u4.heap.size = gx10 at *
          refine hK1.out _ _ ⟨cellOf XO8.out.1.2.2.1 0 _ rfl, cellOf XO8.out.1.2.2.1 1 _ rfl, cellOf XO8.out.1.2.2.1 2 _ rfl, XO8.out.2⟩ (fun hS9 => ?_)
          clear hK1 K1 hS6
          (try simp only [Act.put, List.getElem_toArray, List.getElem_cons_succ, List.getElem_cons_zero, List.setIfInBounds_toArray, List.set_cons_zero, List.set_cons_succ])
          refine wpAnyH_ready (rs := [12]) (by kernel_rfl) (by simp) ?_
          refine AllReadyH.cons rfl (fun K1 hK1 => ?_) AllReadyH.nil
          go_simp
          refine (K33.out _ gx10 XO8.out.1 HGu7.out).mono ?_
          rintro e ur ⟨xa2, xn2, xc2, xs2, rfl, hz, hcl⟩
          have XR : Hid (Dy w ur F g M l f n xa2 xn2 xc2 xs2 nn (j + 1) a L c ta tl xa xn xc ∧ ur.cell? ⟨bd, od + j, none⟩ = some (.int .u8 (y : Int))) := ⟨hz, hcl _ XO8.out.2⟩
          clear hz hcl XO8 HGu7
          refine hK1.out _ _ ⟨cellOf XR.out.1.2.2.1 0 _ rfl, cellOf XR.out.1.2.2.1 1 _ rfl, cellOf XR.out.1.2.2.1 2 _ rfl, XR.out.2⟩ (fun hr => ?_)
          clear hK1 K1 hS9
          (try simp only [Act.put, List.getElem_toArray, List.getElem_cons_succ, List.getElem_cons_zero, List.setIfInBounds_toArray, List.set_cons_zero, List.set_cons_succ])
          refine wpAnyH_take (i := 13) (v := ?_) rfl (by kernel_rfl) (by kernel_rfl) (by kernel_rfl) (fun _ _ _ h => h) (Or.inl ⟨by kernel_rfl, ?_⟩) hr ?_
          rotate_left
          · intro w hSw; (try dsimp only at hSw); go_simp; try (with_reducible rfl)
          (try simp only [Act.put, List.getElem_toArray, List.getElem_cons_succ, List.getElem_cons_zero, List.setIfInBounds_toArray, List.set_cons_zero, List.set_cons_succ])
          refine wpAnyH_take (i := 14) (v := ?_) rfl (by kernel_rfl) (by kernel_rfl) (by kernel_rfl) (fun _ _ _ h => h) (Or.inl ⟨by kernel_rfl, ?_⟩) hr ?_
          rotate_left
          · intro w hSw; (try dsimp only at hSw); go_simp; try (with_reducible rfl)
          (try simp only [Act.put, List.getElem_toArray, List.getElem_cons_succ, List.getElem_cons_zero, List.setIfInBounds_toArray, List.set_cons_zero, List.set_cons_succ])
          refine wpAnyH_take (i := 15) (v := ?_) rfl (by kernel_rfl) (by kernel_rfl) (by kernel_rfl) (fun _ _ _ h => h) (Or.inl ⟨by kernel_rfl, ?_⟩) hr ?_
          rotate_left
          · intro w hSw; (try dsimp only at hSw); go_simp; try (with_reducible rfl)
          (try simp only [Act.put, List.getElem_toArray, List.getElem_cons_succ, List.getElem_cons_zero, List.setIfInBounds_toArray, List.set_cons_zero, List.set_cons_succ])
          refine wpAnyH_ready (rs := [16]) (by kernel_rfl) (by simp) ?_
          refine AllReadyH.cons rfl (fun K1 hK1 => ?_) AllReadyH.nil
          rw [if_pos (by kernel_rfl)]
          refine wp_store_row 32 _ _ rfl (w.heap.size) #[.int .u64 8192, .slice xa2 xn2 xc2] rfl rfl 32 #[.int .u64 8192, .slice xa xn xc] XR.out.1.2.1 info32 rfl (by simp [Value.oneCell']) ?_
          have XZ : Hid ((Dz w (ur.setRow (w.heap.size) #[.int .u64 8192, .slice xa2 xn2 xc2]) F g M l f n xa2 xn2 xc2 xs2 nn (j + 1) a L c ta tl) ∧ (ur.setRow (w.heap.size) #[.int .u64 8192, .slice xa2 xn2 xc2]).cell? ⟨bd, od + j, none⟩ = some (.int .u8 (y : Int))) := ⟨XR.out.1.store, (setRow_cell (by have := HBD.out; omega)).trans XR.out.2⟩
          clear XR
          generalize ur.setRow (w.heap.size) #[.int .u64 8192, .slice xa2 xn2 xc2] = u9 at *
          refine hK1.out _ _ ⟨cellOf XZ.out.1.2.2.1 0 _ rfl, cellOf XZ.out.1.2.2.1 1 _ rfl, cellOf XZ.out.1.2.2.1 2 _ rfl, XZ.out.2⟩ (fun hr9 => ?_)
          clear hK1 K1 hr
          (try simp only [Act.put, List.getElem_toArray, List.getElem_cons_succ, List.getElem_cons_zero, List.setIfInBounds_toArray, List.set_cons_zero, List.set_cons_succ])
          refine wpAnyH_done (by kernel_rfl) ?_ _
          clear hr9
          go_wp2_with fail
          go_roundw
          case rel => exact ⟨j + 1, xa2, xn2, xc2, xs2, HJN.out, by go_num, XZ.out.1⟩
          case measure => simp [intOf]; have := HJN.out; omega
        · have _hm : True := trivial
          go_simp
          have hb : Below wd.heap.size wd (wd.alloc (.cells #[.int .u8 (y : Int)] 5)) := (Below.refl _ _).alloc (Nat.le_refl _) _
          have XO12 : Hid ((Dz w (wd.alloc (.cells #[.int .u8 (y : Int)] 5)) F g M l f n xa xn xc xs nn j a L c ta tl) ∧ (wd.alloc (.cells #[.int .u8 (y : Int)] 5)).cell? ⟨bd, od + j, none⟩ = some (.int .u8 (y : Int))) := Xd.out.imp (fun q => Dz.below q hb) (fun q => (hb.cell (block_lt_of_cell q)).trans q)
          have HGu11 : Hid ((wd.alloc (.cells #[.int .u8 (y : Int)] 5)).heap[wd.heap.size]? = some (.cells #[.int .u8 (y : Int)] 5 (0, 0))) := heap_alloc_new _ _
          clear hb Xd
          generalize wd.alloc (.cells #[.int .u8 (y : Int)] 5) = u11 at *
          generalize wd.heap.size = gx14 at *
          refine hK1.out _ _ ⟨cellOf XO12.out.1.2.2.1 0 _ rfl, cellOf XO12.out.1.2.2.1 1 _ rfl, cellOf XO12.out.1.2.2.1 2 _ rfl, XO12.out.2⟩ (fun hS13 => ?_)
          clear hK1 K1 hS3
          (try simp only [Act.put, List.getElem_toArray, List.getElem_cons_succ, List.getElem_cons_zero, List.setIfInBounds_toArray, List.set_cons_zero, List.set_cons_succ])
          refine wpAnyH_ready (rs := [6]) (by kernel_rfl) (by simp) ?_
          refine AllReadyH.cons rfl (fun K1 hK1 => ?_) AllReadyH.nil
          have _hm : True := trivial
          go_simp
          refine (K48.out _ XO12.out.1.1).mono ?_
          rintro e u15 ⟨rfl, hb⟩
          have HGu15 : Hid (u15.heap[gx14]? = some (.cells #[.int .u8 (y : Int)] 5 (0, 0))) := below_box HGu11.out hb
          have XO16 : Hid ((Dz w u15 F g M l f n xa xn xc xs nn j a L c ta tl) ∧ u15.cell? ⟨bd, od + j, none⟩ = some (.int .u8 (y : Int))) := XO12.out.imp (fun q => Dz.below q hb) (fun q => (hb.cell (block_lt_of_cell q)).trans q)
          clear hb XO12 HGu11
          refine hK1.out _ _ ⟨cellOf XO16.out.1.2.2.1 0 _ rfl, cellOf XO16.out.1.2.2.1 1 _ rfl, cellOf XO16.out.1.2.2.1 2 _ rfl, XO16.out.2⟩ (fun hS17 => ?_)
          clear hK1 K1 hS13
          (try simp only [Act.put, List.getElem_toArray, List.getElem_cons_succ, List.getElem_cons_zero, List.setIfInBounds_toArray, List.set_cons_zero, List.set_cons_succ])
          refine wpAnyH_ready (rs := [12]) (by kernel_rfl) (by simp) ?_
          refine AllReadyH.cons rfl (fun K1 hK1 => ?_) AllReadyH.nil
          go_simp
          refine (K33.out _ gx14 XO16.out.1 HGu15.out).mono ?_
          rintro e ur ⟨xa2, xn2, xc2, xs2, rfl, hz, hcl⟩
          have XR : Hid (Dy w ur F g M l f n xa2 xn2 xc2 xs2 nn (j + 1) a L c ta tl xa xn xc ∧ ur.cell? ⟨bd, od + j, none⟩ = some (.int .u8 (y : Int))) := ⟨hz, hcl _ XO16.out.2⟩
          clear hz hcl XO16 HGu15
          refine hK1.out _ _ ⟨cellOf XR.out.1.2.2.1 0 _ rfl, cellOf XR.out.1.2.2.1 1 _ rfl, cellOf XR.out.1.2.2.1 2 _ rfl, XR.out.2⟩ (fun hr => ?_)
          clear hK1 K1 hS17
          (try simp only [Act.put, List.getElem_toArray, List.getElem_cons_succ, List.getElem_cons_zero, List.setIfInBounds_toArray, List.set_cons_zero, List.set_cons_succ])
          refine wpAnyH_take (i := 13) (v := ?_) rfl (by kernel_rfl) (by kernel_rfl) (by kernel_rfl) (fun _ _ _ h => h) (Or.inl ⟨by kernel_rfl, ?_⟩) hr ?_
          rotate_left
          · intro w hSw; (try dsimp only at hSw); go_simp; try (with_reducible rfl)
          (try simp only [Act.put, List.getElem_toArray, List.getElem_cons_succ, List.getElem_cons_zero, List.setIfInBounds_toArray, List.set_cons_zero, List.set_cons_succ])
          refine wpAnyH_take (i := 14) (v := ?_) rfl (by kernel_rfl) (by kernel_rfl) (by kernel_rfl) (fun _ _ _ h => h) (Or.inl ⟨by kernel_rfl, ?_⟩) hr ?_
          rotate_left
          · intro w hSw; (try dsimp only at hSw); go_simp; try (with_reducible rfl)
          (try simp only [Act.put, List.getElem_toArray, List.getElem_cons_succ, List.getElem_cons_zero, List.setIfInBounds_toArray, List.set_cons_zero, List.set_cons_succ])
          refine wpAnyH_take (i := 15) (v := ?_) rfl (by kernel_rfl) (by kernel_rfl) (by kernel_rfl) (fun _ _ _ h => h) (Or.inl ⟨by kernel_rfl, ?_⟩) hr ?_
          rotate_left
          · intro w hSw; (try dsimp only at hSw); go_simp; try (with_reducible rfl)
          (try simp only [Act.put, List.getElem_toArray, List.getElem_cons_succ, List.getElem_cons_zero, List.setIfInBounds_toArray, List.set_cons_zero, List.set_cons_succ])
          refine wpAnyH_ready (rs := [16]) (by kernel_rfl) (by simp) ?_
          refine AllReadyH.cons rfl (fun K1 hK1 => ?_) AllReadyH.nil
          rw [if_pos (by kernel_rfl)]
          refine wp_store_row 32 _ _ rfl (w.heap.size) #[.int .u64 8192, .slice xa2 xn2 xc2] rfl rfl 32 #[.int .u64 8192, .slice xa xn xc] XR.out.1.2.1 info32 rfl (by simp [Value.oneCell']) ?_
          have XZ : Hid ((Dz w (ur.setRow (w.heap.size) #[.int .u64 8192, .slice xa2 xn2 xc2]) F g M l f n xa2 xn2 xc2 xs2 nn (j + 1) a L c ta tl) ∧ (ur.setRow (w.heap.size) #[.int .u64 8192, .slice xa2 xn2 xc2]).cell? ⟨bd, od + j, none⟩ = some (.int .u8 (y : Int))) := ⟨XR.out.1.store, (setRow_cell (by have := HBD.out; omega)).trans XR.out.2⟩
          clear XR
          generalize ur.setRow (w.heap.size) #[.int .u64 8192, .slice xa2 xn2 xc2] = u9 at *
          refine hK1.out _ _ ⟨cellOf XZ.out.1.2.2.1 0 _ rfl, cellOf XZ.out.1.2.2.1 1 _ rfl, cellOf XZ.out.1.2.2.1 2 _ rfl, XZ.out.2⟩ (fun hr9 => ?_)
          clear hK1 K1 hr
          (try simp only [Act.put, List.getElem_toArray, List.getElem_cons_succ, List.getElem_cons_zero, List.setIfInBounds_toArray, List.set_cons_zero, List.set_cons_succ])
          refine wpAnyH_done (by kernel_rfl) ?_ _
          clear hr9
          go_wp2_with fail
          go_roundw
          case rel => exact ⟨j + 1, xa2, xn2, xc2, xs2, HJN.out, by go_num, XZ.out.1⟩
          case measure => simp [intOf]; have := HJN.out; omega
      · have _hm : True := trivial
        go_simp
        refine (K48.out _ Xd.out.1.1).mono ?_
        rintro e u18 ⟨rfl, hb⟩
        have XO19 : Hid ((Dz w u18 F g M l f n xa xn xc xs nn j a L c ta tl) ∧ u18.cell? ⟨bd, od + j, none⟩ = some (.int .u8 (y : Int))) := Xd.out.imp (fun q => Dz.below q hb) (fun q => (hb.cell (block_lt_of_cell q)).trans q)
        clear hb Xd
        refine hK1.out _ _ ⟨cellOf XO19.out.1.2.2.1 0 _ rfl, cellOf XO19.out.1.2.2.1 1 _ rfl, cellOf XO19.out.1.2.2.1 2 _ rfl, XO19.out.2⟩ (fun hS20 => ?_)
        clear hK1 K1 hS
        (try simp only [Act.put, List.getElem_toArray, List.getElem_cons_succ, List.getElem_cons_zero, List.setIfInBounds_toArray, List.set_cons_zero, List.set_cons_succ])
        refine wpAnyH_ready (rs := [0, 11]) (by kernel_rfl) (by simp) ?_
        refine AllReadyH.cons rfl (fun K1 hK1 => ?_) (AllReadyH.cons rfl (fun K1 hK1 => ?_) AllReadyH.nil)
        · have _hm : True := trivial
          have m0 := cellOf XO19.out.1.2.1 0 _ rfl
          have m1 := cellOf XO19.out.1.2.1 1 _ rfl
          go_simp
          refine hK1.out _ _ ⟨cellOf XO19.out.1.2.2.1 0 _ rfl, cellOf XO19.out.1.2.2.1 1 _ rfl, cellOf XO19.out.1.2.2.1 2 _ rfl, XO19.out.2⟩ (fun hS23 => ?_)
          clear hK1 K1 hS20 m0 m1
          (try simp only [Act.put, List.getElem_toArray, List.getElem_cons_succ, List.getElem_cons_zero, List.setIfInBounds_toArray, List.set_cons_zero, List.set_cons_succ])
          refine wpAnyH_ready (rs := [11]) (by kernel_rfl) (by simp) ?_
          refine AllReadyH.cons rfl (fun K1 hK1 => ?_) AllReadyH.nil
          have _hm : True := trivial
          go_simp
          have hb : Below u18.heap.size u18 (u18.alloc (.cells #[.int .u8 (y : Int)] 5)) := (Below.refl _ _).alloc (Nat.le_refl _) _
          have XO25 : Hid ((Dz w (u18.alloc (.cells #[.int .u8 (y : Int)] 5)) F g M l f n xa xn xc xs nn j a L c ta tl) ∧ (u18.alloc (.cells #[.int .u8 (y : Int)] 5)).cell? ⟨bd, od + j, none⟩ = some (.int .u8 (y : Int))) := XO19.out.imp (fun q => Dz.below q hb) (fun q => (hb.cell (block_lt_of_cell q)).trans q)
          have HGu24 : Hid ((u18.alloc (.cells #[.int .u8 (y : Int)] 5)).heap[u18.heap.size]? = some (.cells #[.int .u8 (y : Int)] 5 (0, 0))) := heap_alloc_new _ _
          clear hb XO19
          generalize u18.alloc (.cells #[.int .u8 (y : Int)] 5) = u24 at *
          generalize u18.heap.size = gx27 at *
          refine hK1.out _ _ ⟨cellOf XO25.out.1.2.2.1 0 _ rfl, cellOf XO25.out.1.2.2.1 1 _ rfl, cellOf XO25.out.1.2.2.1 2 _ rfl, XO25.out.2⟩ (fun hS26 => ?_)
          clear hK1 K1 hS23
          (try simp only [Act.put, List.getElem_toArray, List.getElem_cons_succ, List.getElem_cons_zero, List.setIfInBounds_toArray, List.set_cons_zero, List.set_cons_succ])
          refine wpAnyH_ready (rs := [12]) (by kernel_rfl) (by simp) ?_
          refine AllReadyH.cons rfl (fun K1 hK1 => ?_) AllReadyH.nil
          go_simp
          refine (K33.out _ gx27 XO25.out.1 HGu24.out).mono ?_
          rintro e ur ⟨xa2, xn2, xc2, xs2, rfl, hz, hcl⟩
          have XR : Hid (Dy w ur F g M l f n xa2 xn2 xc2 xs2 nn (j + 1) a L c ta tl xa xn xc ∧ ur.cell? ⟨bd, od + j, none⟩ = some (.int .u8 (y : Int))) := ⟨hz, hcl _ XO25.out.2⟩
          clear hz hcl XO25 HGu24
          refine hK1.out _ _ ⟨cellOf XR.out.1.2.2.1 0 _ rfl, cellOf XR.out.1.2.2.1 1 _ rfl, cellOf XR.out.1.2.2.1 2 _ rfl, XR.out.2⟩ (fun hr => ?_)
          clear hK1 K1 hS26
          (try simp only [Act.put, List.getElem_toArray, List.getElem_cons_succ, List.getElem_cons_zero, List.setIfInBounds_toArray, List.set_cons_zero, List.set_cons_succ])
          refine wpAnyH_take (i := 13) (v := ?_) rfl (by kernel_rfl) (by kernel_rfl) (by kernel_rfl) (fun _ _ _ h => h) (Or.inl ⟨by kernel_rfl, ?_⟩) hr ?_
          rotate_left
          · intro w hSw; (try dsimp only at hSw); go_simp; try (with_reducible rfl)
          (try simp only [Act.put, List.getElem_toArray, List.getElem_cons_succ, List.getElem_cons_zero, List.setIfInBounds_toArray, List.set_cons_zero, List.set_cons_succ])
          refine wpAnyH_take (i := 14) (v := ?_) rfl (by kernel_rfl) (by kernel_rfl) (by kernel_rfl) (fun _ _ _ h => h) (Or.inl ⟨by kernel_rfl, ?_⟩) hr ?_
          rotate_left
          · intro w hSw; (try dsimp only at hSw); go_simp; try (with_reducible rfl)
          (try simp only [Act.put, List.getElem_toArray, List.getElem_cons_succ, List.getElem_cons_zero, List.setIfInBounds_toArray, List.set_cons_zero, List.set_cons_succ])
          refine wpAnyH_take (i := 15) (v := ?_) rfl (by kernel_rfl) (by kernel_rfl) (by kernel_rfl) (fun _ _ _ h => h) (Or.inl ⟨by kernel_rfl, ?_⟩) hr ?_
          rotate_left
          · intro w hSw; (try dsimp only at hSw); go_simp; try (with_reducible rfl)
          (try simp only [Act.put, List.getElem_toArray, List.getElem_cons_succ, List.getElem_cons_zero, List.setIfInBounds_toArray, List.set_cons_zero, List.set_cons_succ])
          refine wpAnyH_ready (rs := [16]) (by kernel_rfl) (by simp) ?_
          refine AllReadyH.cons rfl (fun K1 hK1 => ?_) AllReadyH.nil
          rw [if_pos (by kernel_rfl)]
          refine wp_store_row 32 _ _ rfl (w.heap.size) #[.int .u64 8192, .slice xa2 xn2 xc2] rfl rfl 32 #[.int .u64 8192, .slice xa xn xc] XR.out.1.2.1 info32 rfl (by simp [Value.oneCell']) ?_
          have XZ : Hid ((Dz w (ur.setRow (w.heap.size) #[.int .u64 8192, .slice xa2 xn2 xc2]) F g M l f n xa2 xn2 xc2 xs2 nn (j + 1) a L c ta tl) ∧ (ur.setRow (w.heap.size) #[.int .u64 8192, .slice xa2 xn2 xc2]).cell? ⟨bd, od + j, none⟩ = some (.int .u8 (y : Int))) := ⟨XR.out.1.store, (setRow_cell (by have := HBD.out; omega)).trans XR.out.2⟩
          clear XR
          generalize ur.setRow (w.heap.size) #[.int .u64 8192, .slice xa2 xn2 xc2] = u9 at *
          refine hK1.out _ _ ⟨cellOf XZ.out.1.2.2.1 0 _ rfl, cellOf XZ.out.1.2.2.1 1 _ rfl, cellOf XZ.out.1.2.2.1 2 _ rfl, XZ.out.2⟩ (fun hr9 => ?_)
          clear hK1 K1 hr
          (try simp only [Act.put, List.getElem_toArray, List.getElem_cons_succ, List.getElem_cons_zero, List.setIfInBounds_toArray, List.set_cons_zero, List.set_cons_succ])
          refine wpAnyH_done (by kernel_rfl) ?_ _
          clear hr9
          go_wp2_with fail
          go_roundw
          case rel => exact ⟨j + 1, xa2, xn2, xc2, xs2, HJN.out, by go_num, XZ.out.1⟩
          case measure => simp [intOf]; have := HJN.out; omega
        · have _hm : True := trivial
          go_simp
          have hb : Below u18.heap.size u18 (u18.alloc (.cells #[.int .u8 (y : Int)] 5)) := (Below.refl _ _).alloc (Nat.le_refl _) _
          have XO29 : Hid ((Dz w (u18.alloc (.cells #[.int .u8 (y : Int)] 5)) F g M l f n xa xn xc xs nn j a L c ta tl) ∧ (u18.alloc (.cells #[.int .u8 (y : Int)] 5)).cell? ⟨bd, od + j, none⟩ = some (.int .u8 (y : Int))) := XO19.out.imp (fun q => Dz.below q hb) (fun q => (hb.cell (block_lt_of_cell q)).trans q)
          have HGu28 : Hid ((u18.alloc (.cells #[.int .u8 (y : Int)] 5)).heap[u18.heap.size]? = some (.cells #[.int .u8 (y : Int)] 5 (0, 0))) := heap_alloc_new _ _
          clear hb XO19
          generalize u18.alloc (.cells #[.int .u8 (y : Int)] 5) = u28 at *
          generalize u18.heap.size = gx31 at *
          refine hK1.out _ _ ⟨cellOf XO29.out.1.2.2.1 0 _ rfl, cellOf XO29.out.1.2.2.1 1 _ rfl, cellOf XO29.out.1.2.2.1 2 _ rfl, XO29.out.2⟩ (fun hS30 => ?_)
          clear hK1 K1 hS20
          (try simp only [Act.put, List.getElem_toArray, List.getElem_cons_succ, List.getElem_cons_zero, List.setIfInBounds_toArray, List.set_cons_zero, List.set_cons_succ])
          refine wpAnyH_ready (rs := [0]) (by kernel_rfl) (by simp) ?_
          refine AllReadyH.cons rfl (fun K1 hK1 => ?_) AllReadyH.nil
          have _hm : True := trivial
          have m0 := cellOf XO29.out.1.2.1 0 _ rfl
          have m1 := cellOf XO29.out.1.2.1 1 _ rfl
          go_simp
          refine hK1.out _ _ ⟨cellOf XO29.out.1.2.2.1 0 _ rfl, cellOf XO29.out.1.2.2.1 1 _ rfl, cellOf XO29.out.1.2.2.1 2 _ rfl, XO29.out.2⟩ (fun hS34 => ?_)
          clear hK1 K1 hS30 m0 m1
          (try simp only [Act.put, List.getElem_toArray, List.getElem_cons_succ, List.getElem_cons_zero, List.setIfInBounds_toArray, List.set_cons_zero, List.set_cons_succ])
          refine wpAnyH_ready (rs := [12]) (by kernel_rfl) (by simp) ?_
          refine AllReadyH.cons rfl (fun K1 hK1 => ?_) AllReadyH.nil
          go_simp
          refine (K33.out _ gx31 XO29.out.1 HGu28.out).mono ?_
          rintro e ur ⟨xa2, xn2, xc2, xs2, rfl, hz, hcl⟩
          have XR : Hid (Dy w ur F g M l f n xa2 xn2 xc2 xs2 nn (j + 1) a L c ta tl xa xn xc ∧ ur.cell? ⟨bd, od + j, none⟩ = some (.int .u8 (y : Int))) := ⟨hz, hcl _ XO29.out.2⟩
          clear hz hcl XO29 HGu28
          refine hK1.out _ _ ⟨cellOf XR.out.1.2.2.1 0 _ rfl, cellOf XR.out.1.2.2.1 1 _ rfl, cellOf XR.out.1.2.2.1 2 _ rfl, XR.out.2⟩ (fun hr => ?_)
          clear hK1 K1 hS34
          (try simp only [Act.put, List.getElem_toArray, List.getElem_cons_succ, List.getElem_cons_zero, List.setIfInBounds_toArray, List.set_cons_zero, List.set_cons_succ])
          refine wpAnyH_take (i := 13) (v := ?_) rfl (by kernel_rfl) (by kernel_rfl) (by kernel_rfl) (fun _ _ _ h => h) (Or.inl ⟨by kernel_rfl, ?_⟩) hr ?_
          rotate_left
          · intro w hSw; (try dsimp only at hSw); go_simp; try (with_reducible rfl)
          (try simp only [Act.put, List.getElem_toArray, List.getElem_cons_succ, List.getElem_cons_zero, List.setIfInBounds_toArray, List.set_cons_zero, List.set_cons_succ])
          refine wpAnyH_take (i := 14) (v := ?_) rfl (by kernel_rfl) (by kernel_rfl) (by kernel_rfl) (fun _ _ _ h => h) (Or.inl ⟨by kernel_rfl, ?_⟩) hr ?_
          rotate_left
          · intro w hSw; (try dsimp only at hSw); go_simp; try (with_reducible rfl)
          (try simp only [Act.put, List.getElem_toArray, List.getElem_cons_succ, List.getElem_cons_zero, List.setIfInBounds_toArray, List.set_cons_zero, List.set_cons_succ])
          refine wpAnyH_take (i := 15) (v := ?_) rfl (by kernel_rfl) (by kernel_rfl) (by kernel_rfl) (fun _ _ _ h => h) (Or.inl ⟨by kernel_rfl, ?_⟩) hr ?_
          rotate_left
          · intro w hSw; (try dsimp only at hSw); go_simp; try (with_reducible rfl)
          (try simp only [Act.put, List.getElem_toArray, List.getElem_cons_succ, List.getElem_cons_zero, List.setIfInBounds_toArray, List.set_cons_zero, List.set_cons_succ])
          refine wpAnyH_ready (rs := [16]) (by kernel_rfl) (by simp) ?_
          refine AllReadyH.cons rfl (fun K1 hK1 => ?_) AllReadyH.nil
          rw [if_pos (by kernel_rfl)]
          refine wp_store_row 32 _ _ rfl (w.heap.size) #[.int .u64 8192, .slice xa2 xn2 xc2] rfl rfl 32 #[.int .u64 8192, .slice xa xn xc] XR.out.1.2.1 info32 rfl (by simp [Value.oneCell']) ?_
          have XZ : Hid ((Dz w (ur.setRow (w.heap.size) #[.int .u64 8192, .slice xa2 xn2 xc2]) F g M l f n xa2 xn2 xc2 xs2 nn (j + 1) a L c ta tl) ∧ (ur.setRow (w.heap.size) #[.int .u64 8192, .slice xa2 xn2 xc2]).cell? ⟨bd, od + j, none⟩ = some (.int .u8 (y : Int))) := ⟨XR.out.1.store, (setRow_cell (by have := HBD.out; omega)).trans XR.out.2⟩
          clear XR
          generalize ur.setRow (w.heap.size) #[.int .u64 8192, .slice xa2 xn2 xc2] = u9 at *
          refine hK1.out _ _ ⟨cellOf XZ.out.1.2.2.1 0 _ rfl, cellOf XZ.out.1.2.2.1 1 _ rfl, cellOf XZ.out.1.2.2.1 2 _ rfl, XZ.out.2⟩ (fun hr9 => ?_)
          clear hK1 K1 hr
          (try simp only [Act.put, List.getElem_toArray, List.getElem_cons_succ, List.getElem_cons_zero, List.setIfInBounds_toArray, List.set_cons_zero, List.set_cons_succ])
          refine wpAnyH_done (by kernel_rfl) ?_ _
          clear hr9
          go_wp2_with fail
          go_roundw
          case rel => exact ⟨j + 1, xa2, xn2, xc2, xs2, HJN.out, by go_num, XZ.out.1⟩
          case measure => simp [intOf]; have := HJN.out; omega
      · have _hm : True := trivial
        go_simp
        have hb : Below wd.heap.size wd (wd.alloc (.cells #[.int .u8 (y : Int)] 5)) := (Below.refl _ _).alloc (Nat.le_refl _) _
        have XO36 : Hid ((Dz w (wd.alloc (.cells #[.int .u8 (y : Int)] 5)) F g M l f n xa xn xc xs nn j a L c ta tl) ∧ (wd.alloc (.cells #[.int .u8 (y : Int)] 5)).cell? ⟨bd, od + j, none⟩ = some (.int .u8 (y : Int))) := Xd.out.imp (fun q => Dz.below q hb) (fun q => (hb.cell (block_lt_of_cell q)).trans q)
        have HGu35 : Hid ((wd.alloc (.cells #[.int .u8 (y : Int)] 5)).heap[wd.heap.size]? = some (.cells #[.int .u8 (y : Int)] 5 (0, 0))) := heap_alloc_new _ _
        clear hb Xd
        generalize wd.alloc (.cells #[.int .u8 (y : Int)] 5) = u35 at *
        generalize wd.heap.size = gx38 at *
        refine hK1.out _ _ ⟨cellOf XO36.out.1.2.2.1 0 _ rfl, cellOf XO36.out.1.2.2.1 1 _ rfl, cellOf XO36.out.1.2.2.1 2 _ rfl, XO36.out.2⟩ (fun hS37 => ?_)
        clear hK1 K1 hS
        (try simp only [Act.put, List.getElem_toArray, List.getElem_cons_succ, List.getElem_cons_zero, List.setIfInBounds_toArray, List.set_cons_zero, List.set_cons_succ])
        refine wpAnyH_ready (rs := [0, 6]) (by kernel_rfl) (by simp) ?_
        refine AllReadyH.cons rfl (fun K1 hK1 => ?_) (AllReadyH.cons rfl (fun K1 hK1 => ?_) AllReadyH.nil)
        · have _hm : True := trivial
          have m0 := cellOf XO36.out.1.2.1 0 _ rfl
          have m1 := cellOf XO36.out.1.2.1 1 _ rfl
          go_simp
          refine hK1.out _ _ ⟨cellOf XO36.out.1.2.2.1 0 _ rfl, cellOf XO36.out.1.2.2.1 1 _ rfl, cellOf XO36.out.1.2.2.1 2 _ rfl, XO36.out.2⟩ (fun hS41 => ?_)
          clear hK1 K1 hS37 m0 m1
          (try simp only [Act.put, List.getElem_toArray, List.getElem_cons_succ, List.getElem_cons_zero, List.setIfInBounds_toArray, List.set_cons_zero, List.set_cons_succ])
          refine wpAnyH_ready (rs := [6]) (by kernel_rfl) (by simp) ?_
          refine AllReadyH.cons rfl (fun K1 hK1 => ?_) AllReadyH.nil
          have _hm : True := trivial
          go_simp
          refine (K48.out _ XO36.out.1.1).mono ?_
          rintro e u42 ⟨rfl, hb⟩
          have HGu42 : Hid (u42.heap[gx38]? = some (.cells #[.int .u8 (y : Int)] 5 (0, 0))) := below_box HGu35.out hb
          have XO43 : Hid ((Dz w u42 F g M l f n xa xn xc xs nn j a L c ta tl) ∧ u42.cell? ⟨bd, od + j, none⟩ = some (.int .u8 (y : Int))) := XO36.out.imp (fun q => Dz.below q hb) (fun q => (hb.cell (block_lt_of_cell q)).trans q)
          clear hb XO36 HGu35
          refine hK1.out _ _ ⟨cellOf XO43.out.1.2.2.1 0 _ rfl, cellOf XO43.out.1.2.2.1 1 _ rfl, cellOf XO43.out.1.2.2.1 2 _ rfl, XO43.out.2⟩ (fun hS44 => ?_)
          clear hK1 K1 hS41
          (try simp only [Act.put, List.getElem_toArray, List.getElem_cons_succ, List.getElem_cons_zero, List.setIfInBounds_toArray, List.set_cons_zero, List.set_cons_succ])
          refine wpAnyH_ready (rs := [12]) (by kernel_rfl) (by simp) ?_
          refine AllReadyH.cons rfl (fun K1 hK1 => ?_) AllReadyH.nil
          go_simp
          refine (K33.out _ gx38 XO43.out.1 HGu42.out).mono ?_
          rintro e ur ⟨xa2, xn2, xc2, xs2, rfl, hz, hcl⟩
          have XR : Hid (Dy w ur F g M l f n xa2 xn2 xc2 xs2 nn (j + 1) a L c ta tl xa xn xc ∧ ur.cell? ⟨bd, od + j, none⟩ = some (.int .u8 (y : Int))) := ⟨hz, hcl _ XO43.out.2⟩
          clear hz hcl XO43 HGu42
          refine hK1.out _ _ ⟨cellOf XR.out.1.2.2.1 0 _ rfl, cellOf XR.out.1.2.2.1 1 _ rfl, cellOf XR.out.1.2.2.1 2 _ rfl, XR.out.2⟩ (fun hr => ?_)
          clear hK1 K1 hS44
          (try simp only [Act.put, List.getElem_toArray, List.getElem_cons_succ, List.getElem_cons_zero, List.setIfInBounds_toArray, List.set_cons_zero, List.set_cons_succ])
          refine wpAnyH_take (i := 13) (v := ?_) rfl (by kernel_rfl) (by kernel_rfl) (by kernel_rfl) (fun _ _ _ h => h) (Or.inl ⟨by kernel_rfl, ?_⟩) hr ?_
          rotate_left
          · intro w hSw; (try dsimp only at hSw); go_simp; try (with_reducible rfl)
          (try simp only [Act.put, List.getElem_toArray, List.getElem_cons_succ, List.getElem_cons_zero, List.setIfInBounds_toArray, List.set_cons_zero, List.set_cons_succ])
          refine wpAnyH_take (i := 14) (v := ?_) rfl (by kernel_rfl) (by kernel_rfl) (by kernel_rfl) (fun _ _ _ h => h) (Or.inl ⟨by kernel_rfl, ?_⟩) hr ?_
          rotate_left
          · intro w hSw; (try dsimp only at hSw); go_simp; try (with_reducible rfl)
          (try simp only [Act.put, List.getElem_toArray, List.getElem_cons_succ, List.getElem_cons_zero, List.setIfInBounds_toArray, List.set_cons_zero, List.set_cons_succ])
          refine wpAnyH_take (i := 15) (v := ?_) rfl (by kernel_rfl) (by kernel_rfl) (by kernel_rfl) (fun _ _ _ h => h) (Or.inl ⟨by kernel_rfl, ?_⟩) hr ?_
          rotate_left
          · intro w hSw; (try dsimp only at hSw); go_simp; try (with_reducible rfl)
          (try simp only [Act.put, List.getElem_toArray, List.getElem_cons_succ, List.getElem_cons_zero, List.setIfInBounds_toArray, List.set_cons_zero, List.set_cons_succ])
          refine wpAnyH_ready (rs := [16]) (by kernel_rfl) (by simp) ?_
          refine AllReadyH.cons rfl (fun K1 hK1 => ?_) AllReadyH.nil
          rw [if_pos (by kernel_rfl)]
          refine wp_store_row 32 _ _ rfl (w.heap.size) #[.int .u64 8192, .slice xa2 xn2 xc2] rfl rfl 32 #[.int .u64 8192, .slice xa xn xc] XR.out.1.2.1 info32 rfl (by simp [Value.oneCell']) ?_
          have XZ : Hid ((Dz w (ur.setRow (w.heap.size) #[.int .u64 8192, .slice xa2 xn2 xc2]) F g M l f n xa2 xn2 xc2 xs2 nn (j + 1) a L c ta tl) ∧ (ur.setRow (w.heap.size) #[.int .u64 8192, .slice xa2 xn2 xc2]).cell? ⟨bd, od + j, none⟩ = some (.int .u8 (y : Int))) := ⟨XR.out.1.store, (setRow_cell (by have := HBD.out; omega)).trans XR.out.2⟩
          clear XR
          generalize ur.setRow (w.heap.size) #[.int .u64 8192, .slice xa2 xn2 xc2] = u9 at *
          refine hK1.out _ _ ⟨cellOf XZ.out.1.2.2.1 0 _ rfl, cellOf XZ.out.1.2.2.1 1 _ rfl, cellOf XZ.out.1.2.2.1 2 _ rfl, XZ.out.2⟩ (fun hr9 => ?_)
          clear hK1 K1 hr
          (try simp only [Act.put, List.getElem_toArray, List.getElem_cons_succ, List.getElem_cons_zero, List.setIfInBounds_toArray, List.set_cons_zero, List.set_cons_succ])
          refine wpAnyH_done (by kernel_rfl) ?_ _
          clear hr9
          go_wp2_with fail
          go_roundw
          case rel => exact ⟨j + 1, xa2, xn2, xc2, xs2, HJN.out, by go_num, XZ.out.1⟩
          case measure => simp [intOf]; have := HJN.out; omega
        · have _hm : True := trivial
          go_simp
          refine (K48.out _ XO36.out.1.1).mono ?_
          rintro e u45 ⟨rfl, hb⟩
          have HGu45 : Hid (u45.heap[gx38]? = some (.cells #[.int .u8 (y : Int)] 5 (0, 0))) := below_box HGu35.out hb
          have XO46 : Hid ((Dz w u45 F g M l f n xa xn xc xs nn j a L c ta tl) ∧ u45.cell? ⟨bd, od + j, none⟩ = some (.int .u8 (y : Int))) := XO36.out.imp (fun q => Dz.below q hb) (fun q => (hb.cell (block_lt_of_cell q)).trans q)
          clear hb XO36 HGu35
          refine hK1.out _ _ ⟨cellOf XO46.out.1.2.2.1 0 _ rfl, cellOf XO46.out.1.2.2.1 1 _ rfl, cellOf XO46.out.1.2.2.1 2 _ rfl, XO46.out.2⟩ (fun hS47 => ?_)
          clear hK1 K1 hS37
          (try simp only [Act.put, List.getElem_toArray, List.getElem_cons_succ, List.getElem_cons_zero, List.setIfInBounds_toArray, List.set_cons_zero, List.set_cons_succ])
          refine wpAnyH_ready (rs := [0]) (by kernel_rfl) (by simp) ?_
          refine AllReadyH.cons rfl (fun K1 hK1 => ?_) AllReadyH.nil
          have _hm : True := trivial
          have m0 := cellOf XO46.out.1.2.1 0 _ rfl
          have m1 := cellOf XO46.out.1.2.1 1 _ rfl
          go_simp
          refine hK1.out _ _ ⟨cellOf XO46.out.1.2.2.1 0 _ rfl, cellOf XO46.out.1.2.2.1 1 _ rfl, cellOf XO46.out.1.2.2.1 2 _ rfl, XO46.out.2⟩ (fun hS50 => ?_)
          clear hK1 K1 hS47 m0 m1
          (try simp only [Act.put, List.getElem_toArray, List.getElem_cons_succ, List.getElem_cons_zero, List.setIfInBounds_toArray, List.set_cons_zero, List.set_cons_succ])
          refine wpAnyH_ready (rs := [12]) (by kernel_rfl) (by simp) ?_
          refine AllReadyH.cons rfl (fun K1 hK1 => ?_) AllReadyH.nil
          go_simp
          refine (K33.out _ gx38 XO46.out.1 HGu45.out).mono ?_
          rintro e ur ⟨xa2, xn2, xc2, xs2, rfl, hz, hcl⟩
          have XR : Hid (Dy w ur F g M l f n xa2 xn2 xc2 xs2 nn (j + 1) a L c ta tl xa xn xc ∧ ur.cell? ⟨bd, od + j, none⟩ = some (.int .u8 (y : Int))) := ⟨hz, hcl _ XO46.out.2⟩
          clear hz hcl XO46 HGu45
          refine hK1.out _ _ ⟨cellOf XR.out.1.2.2.1 0 _ rfl, cellOf XR.out.1.2.2.1 1 _ rfl, cellOf XR.out.1.2.2.1 2 _ rfl, XR.out.2⟩ (fun hr => ?_)
          clear hK1 K1 hS50
          (try simp only [Act.put, List.getElem_toArray, List.getElem_cons_succ, List.getElem_cons_zero, List.setIfInBounds_toArray, List.set_cons_zero, List.set_cons_succ])
          refine wpAnyH_take (i := 13) (v := ?_) rfl (by kernel_rfl) (by kernel_rfl) (by kernel_rfl) (fun _ _ _ h => h) (Or.inl ⟨by kernel_rfl, ?_⟩) hr ?_
          rotate_left
          · intro w hSw; (try dsimp only at hSw); go_simp; try (with_reducible rfl)
          (try simp only [Act.put, List.getElem_toArray, List.getElem_cons_succ, List.getElem_cons_zero, List.setIfInBounds_toArray, List.set_cons_zero, List.set_cons_succ])
          refine wpAnyH_take (i := 14) (v := ?_) rfl (by kernel_rfl) (by kernel_rfl) (by kernel_rfl) (fun _ _ _ h => h) (Or.inl ⟨by kernel_rfl, ?_⟩) hr ?_
          rotate_left
          · intro w hSw; (try dsimp only at hSw); go_simp; try (with_reducible rfl)
          (try simp only [Act.put, List.getElem_toArray, List.getElem_cons_succ, List.getElem_cons_zero, List.setIfInBounds_toArray, List.set_cons_zero, List.set_cons_succ])
          refine wpAnyH_take (i := 15) (v := ?_) rfl (by kernel_rfl) (by kernel_rfl) (by kernel_rfl) (fun _ _ _ h => h) (Or.inl ⟨by kernel_rfl, ?_⟩) hr ?_
          rotate_left
          · intro w hSw; (try dsimp only at hSw); go_simp; try (with_reducible rfl)
          (try simp only [Act.put, List.getElem_toArray, List.getElem_cons_succ, List.getElem_cons_zero, List.setIfInBounds_toArray, List.set_cons_zero, List.set_cons_succ])
          refine wpAnyH_ready (rs := [16]) (by kernel_rfl) (by simp) ?_
          refine AllReadyH.cons rfl (fun K1 hK1 => ?_) AllReadyH.nil
          rw [if_pos (by kernel_rfl)]
          refine wp_store_row 32 _ _ rfl (w.heap.size) #[.int .u64 8192, .slice xa2 xn2 xc2] rfl rfl 32 #[.int .u64 8192, .slice xa xn xc] XR.out.1.2.1 info32 rfl (by simp [Value.oneCell']) ?_
          have XZ : Hid ((Dz w (ur.setRow (w.heap.size) #[.int .u64 8192, .slice xa2 xn2 xc2]) F g M l f n xa2 xn2 xc2 xs2 nn (j + 1) a L c ta tl) ∧ (ur.setRow (w.heap.size) #[.int .u64 8192, .slice xa2 xn2 xc2]).cell? ⟨bd, od + j, none⟩ = some (.int .u8 (y : Int))) := ⟨XR.out.1.store, (setRow_cell (by have := HBD.out; omega)).trans XR.out.2⟩
          clear XR
          generalize ur.setRow (w.heap.size) #[.int .u64 8192, .slice xa2 xn2 xc2] = u9 at *
          refine hK1.out _ _ ⟨cellOf XZ.out.1.2.2.1 0 _ rfl, cellOf XZ.out.1.2.2.1 1 _ rfl, cellOf XZ.out.1.2.2.1 2 _ rfl, XZ.out.2⟩ (fun hr9 => ?_)
          clear hK1 K1 hr
          (try simp only [Act.put, List.getElem_toArray, List.getElem_cons_succ, List.getElem_cons_zero, List.setIfInBounds_toArray, List.set_cons_zero, List.set_cons_succ])
          refine wpAnyH_done (by kernel_rfl) ?_ _
          clear hr9
          go_wp2_with fail
          go_roundw
          case rel => exact ⟨j + 1, xa2, xn2, xc2, xs2, HJN.out, by go_num, XZ.out.1⟩
          case measure => simp [intOf]; have := HJN.out; omega
end Go.Proofs.Ytcgjfklglckjcaa
