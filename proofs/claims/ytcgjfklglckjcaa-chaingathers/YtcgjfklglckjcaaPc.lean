/- Gather. -/
import Derived.Test.YtcgjfklglckjcaaPb
namespace Go.Proofs.Ytcgjfklglckjcaa
open Go.RowKit Go.Maps
set_option linter.unusedVariables false
set_option linter.unusedSimpArgs false
set_option maxRecDepth 100000
def row8 (l : List Nat) : List Value := l.map fun x => .int .u8 (x : Nat)
theorem row8_length (l : List Nat) : (row8 l).length = l.length := by simp [row8]
theorem row8_append (k l : List Nat) : row8 (k ++ l) = row8 k ++ row8 l := by simp [row8]
theorem row8_range (f : Nat → Nat) (n : Nat) : row8 ((List.range n).map f) = rowK .u8 f n := by simp [row8, rowK]
theorem row8_get (l : List Nat) (i : Nat) (h : i < l.length) : (row8 l)[i]? = some (.int .u8 (l.getD i 0 : Nat)) := by
  simp [row8, List.getElem?_eq_getElem h, List.getD]
theorem row8_one (l : List Nat) : ∀ u ∈ row8 l, u.oneCell' = true := by
  intro u hu
  simp only [row8, List.mem_map] at hu
  obtain ⟨x, _, rfl⟩ := hu
  rfl
theorem reads8 {w : World} {B : Nat} {v : Value} {l : List Nat} (h : w.ownsRow B 5 1 v l.length (row8 l)) : Reads .u8 w v l.length (fun i => l.getD i 0) := by
  have h' := h
  rcases h'.2 with ⟨rfl, h0⟩ | ⟨g, cap, cur, rfl, _⟩
  · exact .inl ⟨h0, none, 0, by simp⟩
  · refine .inr ⟨g, 0, cap, rfl, fun i hi => ?_⟩
    have := World.ownsRow.cells h (g := g) rfl i _ (row8_get l i hi)
    rw [addr_add] at this
    exact this
theorem own8_form {w : World} {B : Nat} {v : Value} {n : Nat} {xs : List Value} (h : w.ownsRow B 5 1 v n xs) : ∃ a c, v = .slice a n c := by
  rcases h.2 with ⟨hv, h0⟩ | ⟨g, cap, cur, hv, _⟩
  · exact ⟨none, 0, by rw [hv, h0]⟩
  · exact ⟨_, cap, hv⟩
/-- bytes appended to a row of one's own -/
theorem wpList_append_bytes {w : World} {ops : Array Oper} {rest : List Oper} {o : Oper} {a : Act} {Q : Exit → Act → World → Prop} (hgd : o.guard = none) (s x : Operand) (ho : o.op = .call { callee := .builtin .append, args := #[s, x], argTypes := #[64, 64] })
    (B : Nat) (xs : List Nat) (v : Value) (hs : a.eval s = v) (hown : w.ownsRow B 5 1 v xs.length (row8 xs)) (gx cx : Nat) (ys : List Nat) (hx : a.eval x = .slice (some ⟨gx, 0, none⟩) ys.length cx) (hr : w.ownsRow 0 5 1 (.slice (some ⟨gx, 0, none⟩) ys.length cx) ys.length (row8 ys)) (h0 : 0 < ys.length) (hL : xs.length + ys.length ≤ 100000) (hB : B ≤ w.heap.size)
    (h : ∀ g' cap w', w'.ownsRow B 5 1 (.slice (some ⟨g', 0, none⟩) (xs ++ ys).length cap) (xs ++ ys).length (row8 (xs ++ ys)) → Below B w w' → wpList Try.prog ops Q rest (a.put o.dst (.slice (some ⟨g', 0, none⟩) (xs ++ ys).length cap)) w') : wpList Try.prog ops Q (o :: rest) a w := by
  obtain ⟨i0, hi, hz0, hz1, hz2⟩ := info_parts Try.info5
  refine wpList_append_own w hgd s x 64 ho B 5 i0 (.int .u8 0) 1 1 Try.underlying64 hi hz0 hz1 hz2 rfl (by decide) v xs.length (row8 xs) hs hown ⟨gx, 0, none⟩ ys.length cx (row8 ys) hx (by rw [row8_length]; omega) (World.ownsRow.cells hr (g := gx) rfl) (row8_one _) (by unfold maxLen; omega) (by omega) hB ?_
  intro v' w' hown' hgrow hnil
  rw [← row8_append, ← List.length_append] at hown'
  have hlow : ∀ g, v.ownBlock = some g → B ≤ g := fun g hg => (hown.lt g hg).1
  rcases hown'.2 with ⟨rfl, _⟩ | ⟨g', cap, cur, rfl, hb', _⟩
  · have := hnil.1 rfl; omega
  · exact h g' cap w' hown' (Below.grown (Below.refl _ _) hgrow hB hlow)
theorem spanA_take (ps : List (Nat × Nat)) (i : Nat) (hi : i < ps.length) : spanA (ps.take (i + 1)) = spanA (ps.take i) ++ (List.range (ps.getD i (0, 0)).2).map ((ps.getD i (0, 0)).1 + ·) := by
  rw [List.take_add_one, List.getElem?_eq_getElem hi, spanA_append]
  simp [spanA, List.getD, hi]
theorem spanA_len_le (ps : List (Nat × Nat)) (i : Nat) : (spanA (ps.take i)).length ≤ (spanA ps).length := by
  conv => rhs; rw [← List.take_append_drop i ps, spanA_append, List.length_append]
  omega
theorem room_len {b : Bool} {l : List Seg} {f n : Nat} (h : roomB b l f n = true) : (((addrs b l).drop f).take n).length = n := by
  simp only [roomB, decide_eq_true_iff] at h
  rw [List.length_take, List.length_drop, addrs_length]
  omega
/-- what is gathered -/
def gatL (M : Nat → Nat) (l : List Seg) (f n : Nat) : List Nat := (((addrs false l).drop f).take n).map M
set_option maxHeartbeats 4000000 in
theorem gather_any {w : World} {F : Nat → Prop} {rb kk : Nat} {M : Nat → Nat} (hr : RamAt w F rb 8192 kk (.pointer none) M) {a : Option Addr} {L c : Nat} {l : List Seg} (h : SegIn 0 w (.slice a L c) l) (hl : l.length ≤ 1000) (hok : ∀ s ∈ l, SegOk s) (ta tl : Nat) (f n : Nat) (hf : f < 18446744073709551616) (hn : n < 18446744073709551616) (h20 : roomB false l f n = true → n ≤ 2000) :
    Calls Try.prog 22 #[.agg #[.slice a L c, .int .u64 (ta : Int), .int .u64 (tl : Int)], .pointer (some ⟨rb, 0, none⟩), .int .u64 (f : Int), .int .u64 (n : Int)] w fun e w' => Below w.heap.size w w' ∧ ((roomB false l f n = false ∧ e = .returned (.tuple #[.slice none 0 0, .bool false])) ∨ (roomB false l f n = true ∧ ∃ a' c', e = .returned (.tuple #[.slice a' n c', .bool true]) ∧ Reads .u8 w' (.slice a' n c') n (fun i => (gatL M l f n).getD i 0))) := by
  have h2 := heap_alloc_new w (.cells #[.slice a L c, .int .u64 (ta : Int), .int .u64 (tl : Int)] 40)
  have hb : Below w.heap.size w (w.alloc (.cells #[.slice a L c, .int .u64 (ta : Int), .int .u64 (tl : Int)] 40)) := (Below.refl _ _).alloc (Nat.le_refl _) _
  have XB : Hid (Below w.heap.size w (w.alloc (.cells #[.slice a L c, .int .u64 (ta : Int), .int .u64 (tl : Int)] 40)) ∧ (w.alloc (.cells #[.slice a L c, .int .u64 (ta : Int), .int .u64 (tl : Int)] 40)).heap[w.heap.size]? = some (.cells #[.slice a L c, .int .u64 (ta : Int), .int .u64 (tl : Int)] 40 (0, 0))) := ⟨hb, h2⟩
  have K45 : Hid (∀ V, Below w.heap.size w V → Calls Try.prog 45 #[.agg #[.slice a L c, .int .u64 (ta : Int), .int .u64 (tl : Int)], .pointer (some ⟨rb, 0, none⟩), .bool false, .int .u64 (f : Int), .int .u64 (n : Int)] V fun e w' => Below V.heap.size V w' ∧ ((roomB false l f n = false ∧ e = .returned (.tuple #[.slice none 0 0, .bool false])) ∨ (roomB false l f n = true ∧ ∃ vo, e = .returned (.tuple #[vo, .bool true]) ∧ SpanIn V.heap.size w' vo (pcs false l f n).1))) := fun V hV => pieces_any (hr.below hV) (h.kept (fun g hg => hV.block g (h.lt g hg).2)) hl hok ta tl false f n hf hn
  have HR : Hid (RamAt w F rb 8192 kk (.pointer none) M) := hr
  have HP : Hid ((∀ p ∈ (pcs false l f n).1, inB p.1 p.2 2147483648 8192 = true ∧ 0 < p.2 ∧ p.1 < 18446744073709551616 ∧ p.2 ≤ 8192) ∧ (pcs false l f n).1.length ≤ 1000 ∧ spanA (pcs false l f n).1 = ((addrs false l).drop f).take n) := ⟨pcs_ok hok f n, Nat.le_trans (pcs_len false l f n) hl, pcs_span false l f n⟩
  have HN : Hid (roomB false l f n = true → n ≤ 2000) := h20
  clear h2 hb hr h hl hok hf hn h20
  go_enter Try.func22, Try.ntmps22
  go_upto_region 1 with fail
  obtain ⟨p0, p1, p2⟩ := box3_facts XB.out.2
  generalize w.alloc (.cells #[.slice a L c, .int .u64 (ta : Int), .int .u64 (tl : Int)] 40) = v0 at *
  go_upto_region 2 with (go_at_call 45; refine (K45.out _ XB.out.1).mono ?_; rintro e w1 ⟨hb1, hor⟩; rcases hor with ⟨hrb, rfl⟩ | ⟨hrb, vo, rfl, hsp⟩)
  · have X1 : Hid (Below w.heap.size w w1 ∧ roomB false l f n = false) := ⟨below_to XB.out.1 hb1, hrb⟩
    clear hb1 hrb
    go_wp2_with fail
    refine bodyPost_ret (v := .tuple #[.slice none 0 0, .bool false]) (by simp [results, Try.results22, go_sem]) rfl ?_
    exact ⟨X1.out.1, .inl ⟨X1.out.2, rfl⟩⟩
  · obtain ⟨ao, co, hvo⟩ := hsp.form
    subst hvo
    obtain ⟨ps, hps⟩ : ∃ ps, (pcs false l f n).1 = ps := ⟨_, rfl⟩
    rw [hps] at hsp HP ⊢
    obtain ⟨K, hK⟩ : ∃ K, ps.length = K := ⟨_, rfl⟩
    have X1 : Hid (Below w.heap.size w w1 ∧ roomB false l f n = true ∧ SpanIn v0.heap.size w1 (.slice ao ps.length co) ps ∧ n ≤ 2000) := ⟨below_to XB.out.1 hb1, hrb, hsp, HN.out hrb⟩
    rw [hK] at X1 ⊢
    have HK : Hid (ps.length = K ∧ K ≤ 1000 ∧ (spanA ps).length = n) := ⟨hK, by have := HP.out.2.1; omega, by rw [HP.out.2.2]; exact room_len hrb⟩
    clear hb1 hrb hsp hps hK XB p0 p1 p2
    go_wp2_with fail
    go_loopw [12, 29] (fun vb x wr => ∃ i : Nat, i ≤ K ∧ x = .int .i64 (i : Int) ∧ wr.ownsRow w1.heap.size 5 1 vb ((spanA (ps.take i)).map M).length (row8 ((spanA (ps.take i)).map M)) ∧ Below w1.heap.size w1 wr) (fun _ x _ => K - (intOf x).toNat)
    case atStart => exact ⟨0, Nat.zero_le _, rfl, ⟨rfl, .inl ⟨rfl, rfl⟩⟩, Below.refl _ _⟩
    case round =>
      obtain ⟨i, hi, rfl, how, hbr⟩ := hrel
      obtain ⟨m, hm⟩ : ∃ m, ((spanA (ps.take i)).map M).length = m := ⟨_, rfl⟩
      obtain ⟨ab, cb, hvb⟩ := own8_form how
      rw [hm] at hvb
      subst hvb
      have XR : Hid (wr.ownsRow w1.heap.size 5 1 (.slice ab m cb) ((spanA (ps.take i)).map M).length (row8 ((spanA (ps.take i)).map M)) ∧ Below w1.heap.size w1 wr ∧ ((spanA (ps.take i)).map M).length = m) := ⟨how, hbr, hm⟩
      clear how hbr hm
      by_cases hlt : i < K
      case neg =>
        have h1 : ¬ (i : Int) < (K : Int) := by omega
        have hiK : i = ps.length := by have := HK.out.1; omega
        have hmn : m = n := by
          have := XR.out.2.2
          rw [hiK, List.take_length, List.length_map, HK.out.2.2] at this
          exact this.symm
        have hrd := reads8 XR.out.1
        rw [hiK, List.take_length, HP.out.2.2] at hrd
        rw [List.length_map, room_len X1.out.2.1] at hrd
        subst hmn
        have HRD : Hid (Reads .u8 wr (.slice ab m cb) m (fun i => (gatL M l f m).getD i 0)) := hrd
        clear hlt hi hrd hiK
        go_wp2_with fail
        refine bodyPost_ret (v := .tuple #[.slice ab m cb, .bool true]) (by simp [results, Try.results22, go_sem]) rfl ?_
        exact ⟨below_to X1.out.1 XR.out.2.1, .inr ⟨X1.out.2.1, ab, cb, rfl, HRD.out⟩⟩
      case pos =>
        have h1 : (i : Int) < (K : Int) := by omega
        have hil : i < ps.length := by have := HK.out.1; omega
        obtain ⟨g, cg, hsl, hcl⟩ := X1.out.2.2.1.cells (by rw [HK.out.1] at *; omega)
        simp only [Value.slice.injEq] at hsl
        obtain ⟨rfl, -, rfl⟩ := hsl
        have hgl : g < w1.heap.size := (X1.out.2.2.1.lt g rfl).2
        obtain ⟨x1, y1⟩ := hcl i hil
        have x2 := (XR.out.2.1.cell (p := ⟨g, i * 2, none⟩) hgl).trans x1
        have y2 := (XR.out.2.1.cell (p := ⟨g, i * 2 + 1, none⟩) hgl).trans y1
        have hpo := HP.out.1 (ps.getD i (0, 0)) (by simp [List.getD, hil])
        have ht := spanA_take ps i hil
        have hlen := spanA_len_le ps (i + 1)
        rw [HK.out.2.2] at hlen
        obtain ⟨x, hx⟩ : ∃ x, (ps.getD i (0, 0)).1 = x := ⟨_, rfl⟩
        obtain ⟨tk, htk⟩ : ∃ tk, (ps.getD i (0, 0)).2 = tk := ⟨_, rfl⟩
        rw [hx] at x2 ht hpo
        rw [htk] at y2 ht hpo
        have HT : Hid (spanA (ps.take (i + 1)) = spanA (ps.take i) ++ (List.range tk).map (x + ·) ∧ (spanA (ps.take (i + 1))).length ≤ n ∧ 0 < tk ∧ i < K) := ⟨ht, hlen, hpo.2.1, hlt⟩
        have K46 : Hid (∀ V, Below w.heap.size w V → Calls Try.prog 46 #[.pointer (some ⟨rb, 0, none⟩), .int .u64 (x : Int), .int .u64 (tk : Int)] V fun e w' => e = .returned (.tuple #[.slice (some ⟨V.heap.size, 0, none⟩) tk tk, .bool true]) ∧ w'.ownsRow V.heap.size 5 1 (.slice (some ⟨V.heap.size, 0, none⟩) tk tk) tk (rowK .u8 (fun i => M (x + i)) tk) ∧ Below V.heap.size V w') := fun V hV => read_in (HR.out.below hV) (by omega) x tk hpo.2.2.1 (by have := hpo.2.2.2; omega) hpo.1
        have hi6 : i ≤ 1000 := by have := HK.out.2.1; omega
        clear x1 y1 hcl hgl hpo ht hlen hx htk hlt hi hil
        go_upto_region 8 with fail
        have hb2 : Below wr.heap.size wr (wr.alloc (.cells #[.int .u64 (x : Int), .int .u64 (tk : Int)] 38)) := (Below.refl _ _).alloc (Nat.le_refl _) _
        have X2 : Hid ((wr.alloc (.cells #[.int .u64 (x : Int), .int .u64 (tk : Int)] 38)).ownsRow w1.heap.size 5 1 (.slice ab m cb) ((spanA (ps.take i)).map M).length (row8 ((spanA (ps.take i)).map M)) ∧ Below w1.heap.size w1 (wr.alloc (.cells #[.int .u64 (x : Int), .int .u64 (tk : Int)] 38)) ∧ ((spanA (ps.take i)).map M).length = m ∧ (wr.alloc (.cells #[.int .u64 (x : Int), .int .u64 (tk : Int)] 38)).heap[wr.heap.size]? = some (.cells #[.int .u64 (x : Int), .int .u64 (tk : Int)] 38 (0, 0))) := ⟨own_below XR.out.1 hb2, below_to XR.out.2.1 hb2, XR.out.2.2, heap_alloc_new _ _⟩
        clear hb2 XR x2 y2
        generalize wr.alloc (.cells #[.int .u64 (x : Int), .int .u64 (tk : Int)] 38) = w2 at *
        generalize wr.heap.size = q2 at *
        obtain ⟨t0, t1, _, _⟩ := box_facts X2.out.2.2.2
        go_upto_region 9 with (go_at_call 46; refine (K46.out _ (below_to X1.out.1 X2.out.2.1)).mono ?_; rintro e w3 ⟨rfl, ho3, hb3⟩; have X3 : Hid (w3.ownsRow w1.heap.size 5 1 (.slice ab m cb) ((spanA (ps.take i)).map M).length (row8 ((spanA (ps.take i)).map M)) ∧ Below w1.heap.size w1 w3 ∧ ((spanA (ps.take i)).map M).length = m ∧ w3.ownsRow 0 5 1 (.slice (some ⟨w2.heap.size, 0, none⟩) tk tk) tk (rowK .u8 (fun i => M (x + i)) tk)) := ⟨own_below X2.out.1 hb3, below_to X2.out.2.1 hb3, X2.out.2.2.1, own_low ho3 (Nat.zero_le _)⟩; clear ho3 hb3 X2 t0 t1)
        generalize w2.heap.size = gr at *
        refine wp_region_list ?_
        (refine wpList_step (fun KK hKK => ?_); go_simp; refine hKK _ _ ?_; clear hKK KK)
        (refine wpList_step (fun KK hKK => ?_); go_simp; refine hKK _ _ ?_; clear hKK KK)
        have hys : ((List.range tk).map (fun j => M (x + j))).length = tk := by simp
        have hrr := X3.out.2.2.2
        rw [← row8_range] at hrr
        refine wpList_append_bytes rfl _ _ rfl w1.heap.size ((spanA (ps.take i)).map M) (.slice ab m cb) rfl X3.out.1 gr tk ((List.range tk).map (fun j => M (x + j))) (by rw [hys]; rfl) (by rw [hys]; exact hrr) (by rw [hys]; exact HT.out.2.2.1) (by have h1 := HT.out.2.1; rw [HT.out.1] at h1; simp at h1 ⊢; have := X1.out.2.2.2; omega) X3.out.2.1.size ?_
        intro g4 cap4 w4 hown4 hb4
        have e4 : (spanA (ps.take i)).map M ++ (List.range tk).map (fun j => M (x + j)) = (spanA (ps.take (i + 1))).map M := by rw [HT.out.1, List.map_append, List.map_map]; rfl
        rw [e4] at hown4 ⊢
        obtain ⟨m4, hm4⟩ : ∃ m4, ((spanA (ps.take (i + 1))).map M).length = m4 := ⟨_, rfl⟩
        rw [hm4]
        have X4 : Hid (w4.ownsRow w1.heap.size 5 1 (.slice (some ⟨g4, 0, none⟩) m4 cap4) ((spanA (ps.take (i + 1))).map M).length (row8 ((spanA (ps.take (i + 1))).map M)) ∧ Below w1.heap.size w1 w4) := ⟨by rw [← hm4]; exact hown4, X3.out.2.1.trans hb4⟩
        clear hown4 hb4 e4 hrr hys X3 hm4
        go_wp2_with fail
        go_roundw
        case rel => exact ⟨i + 1, HT.out.2.2.2, by go_num, X4.out.1, X4.out.2⟩
        case measure => simp [intOf]; have := HT.out.2.2.2; omega
end Go.Proofs.Ytcgjfklglckjcaa
