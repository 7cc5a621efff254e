/- ChainWithin. -/
import Derived.Test.YtcgjfklglckjcaaQSe
namespace Go.Proofs.Ytcgjfklglckjcaa
open Go.RowKit Go.Maps
set_option linter.unusedVariables false
set_option linter.unusedSimpArgs false
set_option maxRecDepth 100000
/-- has a segment that is to be written an address? -/
def segHas (x : Nat) (s : Seg) : Bool := s.wr && (decide (s.a ≤ x) && decide (x - s.a < s.l))
def inC (x : Nat) (l : List Seg) (k : Nat) : Bool := (l.take k).any (segHas x)
theorem inC_succ (x : Nat) (l : List Seg) (k : Nat) (h : k < l.length) : inC x l (k + 1) = (inC x l k || segHas x l[k]) := by
  unfold inC
  rw [List.take_add_one, List.getElem?_eq_getElem h]
  simp only [List.any_append, Option.toList_some, List.any_cons, List.any_nil, Bool.or_false]
theorem inC_all {x : Nat} {l : List Seg} (h : ∃ s ∈ l, segHas x s = true) : inC x l l.length = true := by
  unfold inC
  rw [List.take_length, List.any_eq_true]
  exact h
theorem lay_has {g M : Nat → Nat} {l : List Seg} {f n x : Nat} (h : M x ≠ layS g (scaL l f n) 0 M x) : (∃ s ∈ l, segHas x s = true) := by
  have hx : x ∈ scaL l f n := by
    by_cases hx : x ∈ scaL l f n
    · exact hx
    · exact absurd (layS_out g _ 0 M x hx).symm h
  have h2 : x ∈ addrs true l := List.mem_of_mem_drop (List.mem_of_mem_take hx)
  simp only [addrs, List.mem_flatMap] at h2
  obtain ⟨s, hs, hin⟩ := h2
  split at hin
  · rename_i hw
    simp only [List.mem_map, List.mem_range] at hin
    obtain ⟨k, hk, rfl⟩ := hin
    refine ⟨s, hs, ?_⟩
    simp only [segHas, hw, Bool.true_and, Bool.and_eq_true, decide_eq_true_iff]
    omega
  · cases hin
theorem has_range {l : List Seg} {x : Nat} (hok : ∀ s ∈ l, SegOk s) (h : ∃ s ∈ l, segHas x s = true) : 2147483648 ≤ x ∧ x < 2147491840 := by
  obtain ⟨s, hs, hh⟩ := h
  have := in_len (hok s hs).i
  simp only [segHas, Bool.and_eq_true, decide_eq_true_iff] at hh
  omega
theorem has_pages {M Mx : Nat → Nat} (h : ∀ x, M x ≠ Mx x → 2147483648 ≤ x ∧ x < 2147491840) : ∀ k, Apart M Mx k → k = 524288 ∨ k = 524289 := by
  intro k hk
  obtain ⟨i, hi, hne⟩ := hk
  have := h _ hne
  omega
theorem spans_nil {A : List Nat} (h : ∀ x, x ∉ A) : spans A = [] := by
  have : A = [] := List.eq_nil_iff_forall_not_mem.2 h
  subst this
  rfl
theorem getD_mem (l : List (Nat × Nat)) (k : Nat) (h : k < l.length) : l.getD k (0, 0) ∈ l := by simp [List.getD, h]
set_option maxHeartbeats 8000000 in
theorem within_core (W : World) (v : Value) (len : Nat) (ps : Nat → PutD) (hws : PutsIn W v len ps) (s : Int) (D A Uu : Nat) (hd : Int) (al : Bool) (hD : D < 18446744073709551616) (hA : A < 18446744073709551616) (hU : Uu < 18446744073709551616) (wf : Nat) (da : Option Addr) (dn dc : Nat) (g : Nat → Nat) (hwf : wf < 18446744073709551616) (hg : ∀ i, g i ≤ 255) (hdr : ReadsF (fun q => W.heap.size ≤ q) W (.slice da dn dc) dn g) : Calls Try.prog 8 #[v, .agg #[.int .i64 s, .int .u64 (D : Int), .int .u64 (A : Int), .int .u64 (Uu : Int), .int .i64 hd, .bool al], .agg #[.int .u64 (wf : Int), .slice da dn dc]] W fun e w' => e = .returned (.bool true) ∧ Below W.heap.size W w' := by
  have HWD : Hid (wf < 18446744073709551616 ∧ (∀ i, g i ≤ 255) ∧ ReadsF (fun q => W.heap.size ≤ q) W (.slice da dn dc) dn g) := ⟨hwf, hg, hdr⟩
  clear hwf hg hdr
  have X0 : Hid (Sm W ((W.alloc (.cells #[.int .i64 s, .int .u64 (D : Int), .int .u64 (A : Int), .int .u64 (Uu : Int), .int .i64 hd, .bool al] 27)).alloc (.cells #[.int .u64 (wf : Int), .slice da dn dc] 71)) s D A Uu hd al ∧ ((W.alloc (.cells #[.int .i64 s, .int .u64 (D : Int), .int .u64 (A : Int), .int .u64 (Uu : Int), .int .i64 hd, .bool al] 27)).alloc (.cells #[.int .u64 (wf : Int), .slice da dn dc] 71)).heap[W.heap.size + 1]? = some (.cells #[.int .u64 (wf : Int), .slice da dn dc] 71 (0, 0))) := two_inB W _ _
  have HW : Hid (PutsIn W v len ps) := hws
  have HU : Hid (D < 18446744073709551616 ∧ A < 18446744073709551616 ∧ Uu < 18446744073709551616) := ⟨hD, hA, hU⟩
  clear hws hD hA hU
  go_enter Try.func8, Try.ntmps8
  go_upto_region 1 with fail
  generalize (W.alloc (.cells #[.int .i64 s, .int .u64 (D : Int), .int .u64 (A : Int), .int .u64 (Uu : Int), .int .i64 hd, .bool al] 27)).alloc (.cells #[.int .u64 (wf : Int), .slice da dn dc] 71) = v0 at *
  go_upto_region 3 with (go_at_call 9; refine (awake_any _).mono ?_; rintro e w1 ⟨rfl, hb1⟩; have X1 : Hid (Sm W w1 s D A Uu hd al ∧ w1.heap[W.heap.size + 1]? = some (.cells #[.int .u64 (wf : Int), .slice da dn dc] 71 (0, 0))) := ⟨X0.out.1.below hb1, below_box X0.out.2 hb1⟩; clear hb1 X0)
  go_upto_region 4 with (go_at_call 10; refine (memory_any _ len ps _ (HW.out.up X1.out.1.2)).mono ?_; rintro e w2 ⟨pv, a, n, c, rfl, hb2, hor⟩; have X2 : Hid (Sm W w2 s D A Uu hd al ∧ w2.heap[W.heap.size + 1]? = some (.cells #[.int .u64 (wf : Int), .slice da dn dc] 71 (0, 0))) := ⟨X1.out.1.below hb2, below_box X1.out.2 hb2⟩)
  have hb3 : Below w2.heap.size w2 (w2.alloc (.cells #[.int .u64 8192, .slice a n c] 32)) := (Below.refl _ _).alloc (Nat.le_refl _) _
  have X3 : Hid ((Sp W (w2.alloc (.cells #[.int .u64 8192, .slice a n c] 32)) s D A Uu hd al w2.heap.size a n c) ∧ (w2.alloc (.cells #[.int .u64 8192, .slice a n c] 32)).heap[W.heap.size + 1]? = some (.cells #[.int .u64 (wf : Int), .slice da dn dc] 71 (0, 0))) := ⟨⟨X2.out.1.below hb3, heap_alloc_new _ _⟩, below_box X2.out.2 hb3⟩
  have Z3 : Hid ((pv = .pointer none ∧ 0 < len) ∨ ∃ rb F M, pv = .pointer (some ⟨rb, 0, none⟩) ∧ Both F (w2.alloc (.cells #[.int .u64 8192, .slice a n c] 32)) rb 8192 (.slice a n c) 12000 M ∧ (∀ k, F k → W.heap.size + 1 < k) ∧ ¬ F w2.heap.size) := hor.imp id (fun ⟨rb, F, M, h1, h2, h3⟩ => ⟨rb, F, M, h1, h2.below hb3, fun k hk => Nat.lt_of_lt_of_le (Array.getElem?_eq_some_iff.1 X1.out.2).1 (h3 k hk), fun hf => by have := h2.1.lt _ hf; omega⟩)
  clear hor hb2 hb3 X1 X2
  generalize w2.alloc (.cells #[.int .u64 8192, .slice a n c] 32) = w3 at *
  generalize w2.heap.size = p at *
  obtain ⟨a0, a1, a2, a3, a4, a5⟩ := box6_facts X3.out.1.1.1
  obtain ⟨r0, r1, _, _⟩ := box_facts X3.out.1.2
  rcases Z3.out with ⟨rfl, _⟩ | ⟨rb, F, M, rfl, hB, hF, hFp⟩
  · clear Z3
    go_wp2_with fail
    go_ret
    exact ⟨rfl, X3.out.1.1.2⟩
  have HB : Hid (Both F w3 rb 8192 (.slice a n c) 12000 M ∧ (∀ k, F k → W.heap.size + 1 < k) ∧ ¬ F p) := ⟨hB, hF, hFp⟩
  clear hB hF hFp Z3
  obtain ⟨ce, hce⟩ : ∃ ce, chkN s D A Uu 8192 = ce := ⟨_, rfl⟩
  have K11 : Hid (∀ V, Calls Try.prog 11 #[.agg #[.int .u64 8192, .slice a n c], .agg #[.int .i64 s, .int .u64 (D : Int), .int .u64 (A : Int), .int .u64 (Uu : Int)]] V fun e w' => e = .returned (.int .i64 ce) ∧ Below V.heap.size V w') := by
    intro V
    rw [← hce]
    exact rcheck_any HU.out.1 HU.out.2.1 HU.out.2.2 8192 (by omega) a n c V
  by_cases hc0 : ce = 0
  case neg =>
    have q1 : (ce != 0) = true := by simp [hc0]
    clear hc0 hce
    go_wp2_with (go_at_call 11; refine (K11.out _).mono ?_; rintro e w4 ⟨rfl, hb4⟩; have X4 : Hid (Below W.heap.size W w4) := below_to X3.out.1.1.2 hb4; clear hb4)
    go_ret
    exact ⟨rfl, X4.out⟩
  subst hc0
  obtain ⟨k, rfl, hk1, hk2, _⟩ := chk_zero hce
  have HCH : Hid (chkN (k : Int) D A Uu 8192 = 0) := hce
  clear hce hk1
  by_cases hbig : 100 < dn
  case pos =>
    have hb1 : (100 : Int) < (dn : Int) := by omega
    clear hbig
    go_wp2_with (go_at_call 11; refine (K11.out _).mono ?_; rintro e w4 ⟨rfl, hb4⟩; have X4 : Hid ((Sp W w4 (k : Int) D A Uu hd al p a n c) ∧ w4.heap[W.heap.size + 1]? = some (.cells #[.int .u64 (wf : Int), .slice da dn dc] 71 (0, 0))) := ⟨X3.out.1.below hb4, below_box X3.out.2 hb4⟩; clear hb4 a0 a1 a2 a3 a4 a5 r0 r1; obtain ⟨t0, t1, _, _⟩ := box_facts X4.out.2)
    go_ret
    exact ⟨rfl, X4.out.1.1.2⟩
  have hb1 : ¬ (100 : Int) < (dn : Int) := by omega
  have hdn : dn ≤ 100 := by omega
  clear hbig
  go_upto_region 6 with (go_at_call 11; refine (K11.out _).mono ?_; rintro e w4 ⟨rfl, hb4⟩; have X4 : Hid ((Sp W w4 (k : Int) D A Uu hd al p a n c) ∧ w4.heap[W.heap.size + 1]? = some (.cells #[.int .u64 (wf : Int), .slice da dn dc] 71 (0, 0))) := ⟨X3.out.1.below hb4, below_box X3.out.2 hb4⟩; have HB4 : Hid (Both F w4 rb 8192 (.slice a n c) 12000 M ∧ (∀ k, F k → W.heap.size + 1 < k) ∧ ¬ F p) := ⟨HB.out.1.below hb4, HB.out.2⟩; clear hb4 a0 a1 a2 a3 a4 a5 r0 r1; obtain ⟨t0, t1, _, _⟩ := box_facts X4.out.2)
  clear t0 t1
  clear X3 HB K11
  have HDD : Hid (DDesc w4 a n c M ∧ ∀ a, M a ≤ 255) := ⟨both_ddesc HB4.out.1 (by omega), HB4.out.1.1.le⟩
  obtain ⟨⟨we, wl, wta, wtl⟩, hwk⟩ : ∃ q, walkR M D k hd al = q := ⟨_, rfl⟩
  have hall := walk_all HDD.out.2 D k hk2 hd al
  rw [hwk] at hall
  have HL : Hid (wl.length ≤ 1000 ∧ ∀ s ∈ wl, SegOk s) := ⟨Nat.le_trans hall.2.1 (by decide), hall.1⟩
  have K12 : Hid (∀ V, Below w4.heap.size w4 V → Calls Try.prog 12 #[.pointer (some ⟨rb, 0, none⟩), .agg #[.int .i64 (k : Int), .int .u64 (D : Int), .int .u64 (A : Int), .int .u64 (Uu : Int)], .int .i64 hd, .bool al] V fun e w' => ∃ a1 c1, e = .returned (.tuple #[.agg #[.slice a1 wl.length c1, .int .u64 (wta : Int), .int .u64 (wtl : Int)], .int .i64 (we : Int)]) ∧ SegIn w4.heap.size w' (.slice a1 wl.length c1) wl ∧ Below V.heap.size V w') := by
    intro V hV
    have := walk_nil (HB4.out.1.1.below hV) k D A Uu hk2 hd al
    rw [hwk] at this
    refine this.mono ?_
    rintro e w' ⟨v, he, hs, hb⟩
    obtain ⟨a1, c1, rfl⟩ := hs.form
    exact ⟨a1, c1, he, seg_base hs hV.size, hb⟩
  clear hall hwk HCH HU HW hk2 HDD
  obtain ⟨L, hL⟩ : ∃ L, wl.length = L := ⟨_, rfl⟩
  rw [hL] at K12
  have HLL : Hid (wl.length = L ∧ L ≤ 1000) := ⟨hL, by have := HL.out.1; omega⟩
  clear hL
  obtain ⟨a0, a1, a2, a3, a4, a5⟩ := box6_facts X4.out.1.1.1
  go_upto_region 7 with (go_at_call 12; refine (K12.out _ (Below.refl _ _)).mono ?_; rintro e w5 ⟨s1, c1, rfl, hs5, hb5⟩; have X5 : Hid ((Sp W w5 (k : Int) D A Uu hd al p a n c ∧ w5.heap[W.heap.size + 1]? = some (.cells #[.int .u64 (wf : Int), .slice da dn dc] 71 (0, 0))) ∧ SegIn w4.heap.size w5 (.slice s1 L c1) wl ∧ Below w4.heap.size w4 w5) := ⟨⟨X4.out.1.below hb5, below_box X4.out.2 hb5⟩, hs5, hb5⟩; clear hb5 hs5 a0 a1 a2 a3 a4 a5 X4)
  have hb6 : Below w5.heap.size w5 (w5.alloc (.cells #[.slice s1 L c1, .int .u64 (wta : Int), .int .u64 (wtl : Int)] 40)) := (Below.refl _ _).alloc (Nat.le_refl _) _
  have X6 : Hid ((Sp W (w5.alloc (.cells #[.slice s1 L c1, .int .u64 (wta : Int), .int .u64 (wtl : Int)] 40)) (k : Int) D A Uu hd al p a n c ∧ (w5.alloc (.cells #[.slice s1 L c1, .int .u64 (wta : Int), .int .u64 (wtl : Int)] 40)).heap[W.heap.size + 1]? = some (.cells #[.int .u64 (wf : Int), .slice da dn dc] 71 (0, 0))) ∧ SegIn w4.heap.size (w5.alloc (.cells #[.slice s1 L c1, .int .u64 (wta : Int), .int .u64 (wtl : Int)] 40)) (.slice s1 L c1) wl ∧ Below w4.heap.size w4 (w5.alloc (.cells #[.slice s1 L c1, .int .u64 (wta : Int), .int .u64 (wtl : Int)] 40)) ∧ (w5.alloc (.cells #[.slice s1 L c1, .int .u64 (wta : Int), .int .u64 (wtl : Int)] 40)).heap[w5.heap.size]? = some (.cells #[.slice s1 L c1, .int .u64 (wta : Int), .int .u64 (wtl : Int)] 40 (0, 0)) ∧ w4.heap.size ≤ w5.heap.size) := ⟨⟨X5.out.1.1.below hb6, below_box X5.out.1.2 hb6⟩, (X5.out.2.1).kept (fun g hg => hb6.block g ((X5.out.2.1).lt g hg).2), below_to X5.out.2.2 hb6, heap_alloc_new _ _, X5.out.2.2.size⟩
  clear hb6 X5
  generalize w5.alloc (.cells #[.slice s1 L c1, .int .u64 (wta : Int), .int .u64 (wtl : Int)] 40) = w6 at *
  generalize w5.heap.size = q1 at *
  by_cases hz : we = 0
  case neg =>
    have g1 : ((we : Int) != 0) = true := by simp; omega
    clear hz
    go_wp2_with fail
    go_ret
    exact ⟨rfl, X6.out.1.1.1.2⟩
  subst hz
  have HFL : Hid (∀ z, F z → z < w4.heap.size) := HB4.out.1.1.lt
  go_upto_region 10 with (go_at_call 15; refine (copy_any (HB4.out.1.1.below X6.out.2.2.1) (by omega)).mono ?_; rintro e w9 ⟨rb2, F2, rfl, hr2, hF2, hb9⟩; have X9 : Hid ((Sp W w9 (k : Int) D A Uu hd al p a n c ∧ w9.heap[W.heap.size + 1]? = some (.cells #[.int .u64 (wf : Int), .slice da dn dc] 71 (0, 0))) ∧ SegIn w4.heap.size w9 (.slice s1 L c1) wl ∧ Below w4.heap.size w4 w9 ∧ w9.heap[q1]? = some (.cells #[.slice s1 L c1, .int .u64 (wta : Int), .int .u64 (wtl : Int)] 40 (0, 0)) ∧ w4.heap.size ≤ q1) := ⟨⟨X6.out.1.1.below hb9, below_box X6.out.1.2 hb9⟩, (X6.out.2.1).kept (fun g hg => hb9.block g ((X6.out.2.1).lt g hg).2), below_to X6.out.2.2.1 hb9, below_box X6.out.2.2.2.1 hb9, X6.out.2.2.2.2⟩; have R9 : Hid (RamAt w9 F2 rb2 8192 12000 (.pointer none) M ∧ ∀ z, F2 z → w4.heap.size ≤ z) := ⟨hr2, fun z hz => Nat.le_trans X6.out.2.2.1.size (hF2 z hz)⟩; clear hr2 hF2 hb9)
  clear X6
  obtain ⟨rm, hrm⟩ : ∃ rm, roomB true wl wf dn = rm := ⟨_, rfl⟩
  obtain ⟨Mx, hMx⟩ : ∃ Mx, (if roomB true wl wf dn = true then layS g (scaL wl wf dn) 0 M else M) = Mx := ⟨_, rfl⟩
  have K25 : Hid (Calls Try.prog 25 #[.agg #[.slice s1 L c1, .int .u64 (wta : Int), .int .u64 (wtl : Int)], .pointer (some ⟨rb, 0, none⟩), .int .u64 (wf : Int), .slice da dn dc] w9 fun e w' => e = .returned (.bool rm) ∧ ∃ F', RamAt w' F' rb 8192 (12000 + dn) (.pointer none) Mx ∧ Step F w9 F' w') := by
    have := scatter_any (HB4.out.1.1.below X9.out.2.2.1) (by omega) X9.out.2.1.low HL.out.1 HL.out.2 wta wtl wf dn HWD.out.1 hdn g HWD.out.2.1 da dc (reads_up HWD.out.2.2 X9.out.1.1.1.2 (fun z hz => by have := HB4.out.2.1 z hz; omega))
    rw [hMx, hrm] at this
    exact this
  have hmx : ∀ x, M x ≠ Mx x → (∃ s ∈ wl, segHas x s = true) ∧ rm = true := by
    intro x hx
    rw [hrm] at hMx
    cases rm with
    | false => rw [if_neg (by decide)] at hMx; rw [hMx] at hx; exact absurd rfl hx
    | true => rw [if_pos rfl] at hMx; rw [← hMx] at hx; exact ⟨lay_has hx, rfl⟩
  have hS := has_pages (M := M) (Mx := Mx) (fun x hx => has_range HL.out.2 (hmx x hx).1)
  obtain ⟨Al, hA, hM⟩ := addresses_rise 524288 524289 hS
  have hsp1 := spans_in Al
  obtain ⟨l, hl⟩ : ∃ l, (spans Al).take (5000 : Int).toNat = l := ⟨_, rfl⟩
  have LL : Hid (l.length ≤ 10000 ∧ (∀ p ∈ l, 1 ≤ p.2 ∧ (∀ i, i < p.2 → ∃ s ∈ wl, segHas (p.1 + i) s = true) ∧ p.1 + p.2 ≤ 2147491840 ∧ 2147483648 ≤ p.1) ∧ (rm = false → l = [])) := by
    refine ⟨?_, fun p hp => ?_, fun hr => ?_⟩
    · rw [← hl, List.length_take]; have := few_spans hA hM hS; omega
    · rw [← hl] at hp
      have hp2 := hsp1 p (List.mem_of_mem_take hp)
      have hall : ∀ i, i < p.2 → ∃ s ∈ wl, segHas (p.1 + i) s = true := fun i hi => (hmx _ ((hM _).1 (hp2.2 i hi))).1
      have h1 := has_range HL.out.2 (hall (p.2 - 1) (by have := hp2.1; omega))
      have h0 := has_range HL.out.2 (hall 0 (by have := hp2.1; omega))
      exact ⟨hp2.1, hall, by have := hp2.1; omega, by omega⟩
    · rw [← hl, spans_nil (A := Al) (fun x hx => by have := (hmx x ((hM x).1 hx)).2; rw [hr] at this; cases this)]
      rfl
  have HDF : Hid (∀ (V : World) (F' : Nat → Prop), RamAt V F' rb 8192 (12000 + dn) (.pointer none) Mx → RamAt V F2 rb2 8192 12000 (.pointer none) M → Calls Try.prog 28 #[.pointer (some ⟨rb2, 0, none⟩), .pointer (some ⟨rb, 0, none⟩), .int .i64 5000] V fun e w' => ∃ v, e = .returned v ∧ SpanIn V.heap.size w' v l ∧ Below V.heap.size V w') := by
    intro V F' h1 h2
    have := differ_any h2 h1 (by omega) (by omega) (by omega) 524288 524289 (by omega) (by omega) hS 5000 Al hA hM
    rw [hl] at this
    exact this
  clear hMx hrm hmx hS hA hM hsp1 hl
  obtain ⟨b0, b1, b2⟩ := box3_facts X9.out.2.2.2.1
  obtain ⟨t0, t1, _, _⟩ := box_facts X9.out.1.2
  go_upto_region 11 with (go_at_call 25; refine (K25.out).mono ?_; rintro e w10 ⟨rfl, F', hr10, hs10⟩; have XB : Hid (Below W.heap.size W w10 ∧ SegIn w4.heap.size w10 (.slice s1 L c1) wl ∧ w10.heap[q1]? = some (.cells #[.slice s1 L c1, .int .u64 (wta : Int), .int .u64 (wtl : Int)] 40 (0, 0))) := ⟨X9.out.1.1.1.2.trans (hs10.below X9.out.1.1.1.2.size (fun z hz => by have := HB4.out.2.1 z hz; omega)), seg_step X9.out.2.1 hs10 HFL.out, box_step X9.out.2.2.2.1 hs10 (fun hf => by have := HFL.out _ hf; have := X9.out.2.2.2.2; omega)⟩; have RA : Hid (RamAt w10 F' rb 8192 (12000 + dn) (.pointer none) Mx ∧ RamAt w10 F2 rb2 8192 12000 (.pointer none) M) := ⟨hr10, R9.out.1.step hs10 (fun z hz hf => by have := HFL.out z hf; have := R9.out.2 z hz; omega)⟩; clear hr10 hs10 b0 b1 b2 t0 t1)
  clear K25 X9 R9
  go_upto_region 12 with (go_at_call 28; refine (HDF.out _ F' RA.out.1 RA.out.2).mono ?_; rintro e w11 ⟨vd, rfl, hsp, hb11⟩; obtain ⟨ad, cd, hvd⟩ := hsp.form; subst hvd; have XC : Hid (Below W.heap.size W w11 ∧ SegIn 0 w11 (.slice s1 L c1) wl ∧ w11.heap[q1]? = some (.cells #[.slice s1 L c1, .int .u64 (wta : Int), .int .u64 (wtl : Int)] 40 (0, 0)) ∧ SpanIn 0 w11 (.slice ad l.length cd) l) := ⟨below_to XB.out.1 hb11, (XB.out.2.1.kept (fun g hg => hb11.block g (XB.out.2.1.lt g hg).2)).low, below_box XB.out.2.2 hb11, span_base hsp (Nat.zero_le _)⟩; clear hsp hb11)
  clear XB RA HDF
  obtain ⟨ld, hld⟩ : ∃ ld, l.length = ld := ⟨_, rfl⟩
  rw [hld] at XC ⊢
  have HLD : Hid (l.length = ld ∧ ld ≤ 10000) := ⟨hld, by have := LL.out.1; omega⟩
  clear hld
  cases rm with
  | false =>
    have hl0 : ld = 0 := by rw [← HLD.out.1, LL.out.2.2 rfl]; rfl
    subst hl0
    go_wp2_with fail
    go_ret
    exact ⟨rfl, XC.out.1⟩
  | true =>
    go_wp2_with fail
    go_loopw [14] (fun x wr => ∃ i : Nat, i ≤ ld ∧ x = .int .i64 (i : Int) ∧ Below w11.heap.size w11 wr) (fun x _ => ld - (intOf x).toNat)
    case atStart => exact ⟨0, Nat.zero_le _, rfl, Below.refl _ _⟩
    case round =>
      obtain ⟨i, hi, rfl, hbr⟩ := hrel
      have XR : Hid (Below w11.heap.size w11 wr) := hbr
      clear hbr
      by_cases hlt : i < ld
      case neg =>
        have h1 : ¬ (i : Int) < (ld : Int) := by omega
        go_wp2_with fail
        go_ret
        exact ⟨rfl, below_to XC.out.1 XR.out⟩
      case pos =>
        have h1 : (i : Int) < (ld : Int) := by omega
        have hil : i < l.length := by have := HLD.out.1; omega
        obtain ⟨gd, cg, hsl, hcl⟩ := XC.out.2.2.2.cells (by omega)
        simp only [Value.slice.injEq] at hsl
        obtain ⟨rfl, -, rfl⟩ := hsl
        obtain ⟨x1, y1⟩ := hcl i hil
        have hgl := block_lt_of_cell x1
        have hpo := LL.out.2.1 _ (getD_mem l i hil)
        obtain ⟨⟨px, Lp⟩, hpr⟩ : ∃ pr, l.getD i (0, 0) = pr := ⟨_, rfl⟩
        rw [hpr] at x1 y1 hpo
        simp only at x1 y1 hpo
        have HC : Hid (∀ V, Below w11.heap.size w11 V → V.cell? ⟨gd, i * 2, none⟩ = some (.int .u64 (px : Int)) ∧ V.cell? ⟨gd, i * 2 + 1, none⟩ = some (.int .u64 (Lp : Int))) := fun V hV => ⟨(hV.cell (p := ⟨gd, i * 2, none⟩) hgl).trans x1, (hV.cell (p := ⟨gd, i * 2 + 1, none⟩) hgl).trans y1⟩
        have HPO : Hid ((∀ t, t < Lp → ∃ s ∈ wl, segHas (px + t) s = true) ∧ px + Lp ≤ 2147491840 ∧ 2147483648 ≤ px ∧ i < ld) := ⟨hpo.2.1, hpo.2.2.1, hpo.2.2.2, hlt⟩
        have hi6 : i ≤ 10000 := by have := HLD.out.2; omega
        clear x1 y1 hcl hgl hpo hpr hlt hi hil
        obtain ⟨x2, y2⟩ := HC.out _ XR.out
        go_wp2_with fail
        rename World => wz
        go_loopw [15] (fun x wr => ∃ t : Nat, t ≤ Lp ∧ x = .int .u64 ((px + t : Nat) : Int) ∧ Below w11.heap.size w11 wr) (fun x _ => px + Lp - (intOf x).toNat)
        case atStart => exact ⟨0, Nat.zero_le _, rfl, XR.out⟩
        case round =>
          obtain ⟨t, ht, rfl, hbr⟩ := hrel
          have XS : Hid (Below w11.heap.size w11 wr) := hbr
          clear hbr x2 y2
          obtain ⟨x2, y2⟩ := HC.out _ XS.out
          obtain ⟨at_, hat⟩ : ∃ a, px + t = a := ⟨_, rfl⟩
          rw [hat]
          have e1 : IntKind.u64.wrap ((at_ : Int) - (px : Int)) = (t : Int) := by have := HPO.out; rw [wrap_u64]; omega
          have HAT : Hid (px + t = at_ ∧ t ≤ Lp) := ⟨hat, ht⟩
          clear hat
          by_cases htl : t < Lp
          case neg =>
            have h2 : ¬ (t : Int) < (Lp : Int) := by omega
            clear htl ht
            go_upto_region 18 with fail
            go_quiet (fail)
            go_wp2_with fail
            go_roundw
            case rel => exact ⟨i + 1, HPO.out.2.2.2, by go_num, below_drewN XS.out _⟩
            case measure => simp [intOf]; have := HPO.out.2.2.2; omega
          case pos =>
            have h2 : (t : Int) < (Lp : Int) := by omega
            have hsome := HPO.out.1 t htl
            rw [HAT.out.1] at hsome
            have HSO : Hid (inC at_ wl wl.length = true ∧ t < Lp) := ⟨inC_all hsome, htl⟩
            clear hsome htl ht
            go_upto_region 18 with fail
            go_quiet (fail)
            go_upto_region 20 with fail
            have XT : Hid (Below w11.heap.size w11 (wr.drewN nq)) := below_drewN XS.out nq
            clear XS x2 y2
            generalize wr.drewN nq = wy at *
            go_wp2_with fail
            go_loopw [16, 17] (fun vi x wr => ∃ k : Nat, k ≤ L ∧ x = .int .i64 (k : Int) ∧ vi = .bool (inC at_ wl k) ∧ Below w11.heap.size w11 wr) (fun _ x _ => L - (intOf x).toNat)
            case atStart => exact ⟨0, Nat.zero_le _, rfl, rfl, XT.out⟩
            case round =>
              obtain ⟨kk, hkk, rfl, rfl, hbr⟩ := hrel
              have XU : Hid (Below w11.heap.size w11 wr) := hbr
              clear hbr XT
              obtain ⟨b0, b1, b2⟩ := box3_facts (below_box XC.out.2.2.1 XU.out)
              by_cases hkl : kk < L
              case neg =>
                have h3 : ¬ (kk : Int) < (L : Int) := by omega
                have hkL : kk = wl.length := by have := HLL.out.1; omega
                have hin : inC at_ wl kk = true := by rw [hkL]; exact HSO.out.1
                rw [hin]
                have e5 : IntKind.u64.wrap ((at_ : Int) + 1) = ((px + (t + 1) : Nat) : Int) := by have := HPO.out; have := HAT.out; have := HSO.out.2; rw [wrap_u64]; omega
                clear hkl hkk hkL hin
                go_wp2_with fail
                go_roundw
                case rel => exact ⟨t + 1, HSO.out.2, rfl, XU.out⟩
                case measure => simp [intOf]; have := HAT.out.1; have := HSO.out.2; omega
              case pos =>
                have h3 : (kk : Int) < (L : Int) := by omega
                have hkw : kk < wl.length := by have := HLL.out.1; omega
                obtain ⟨gs, cs, hsl2, hcl2⟩ := XC.out.2.1.cells (by omega)
                simp only [Value.slice.injEq] at hsl2
                obtain ⟨rfl, -, rfl⟩ := hsl2
                have hgs := (XC.out.2.1.lt gs rfl).2
                obtain ⟨u1, u2, u3⟩ := hcl2 kk hkw
                have u1' := (XU.out.cell (p := ⟨gs, kk * 3, none⟩) hgs).trans u1
                have u2' := (XU.out.cell (p := ⟨gs, kk * 3 + 1, none⟩) hgs).trans u2
                have u3' := (XU.out.cell (p := ⟨gs, kk * 3 + 2, none⟩) hgs).trans u3
                have hic := inC_succ at_ wl kk hkw
                have hso := in_len (HL.out.2 _ (List.getElem_mem hkw)).i
                unfold segHas at hic
                obtain ⟨sa, hsa⟩ : ∃ sa, (wl[kk]).a = sa := ⟨_, rfl⟩
                obtain ⟨sl, hsl⟩ : ∃ sl, (wl[kk]).l = sl := ⟨_, rfl⟩
                obtain ⟨sw, hsw⟩ : ∃ sw, (wl[kk]).wr = sw := ⟨_, rfl⟩
                rw [hsa] at u1' hic hso
                rw [hsl] at u2' hic hso
                rw [hsw] at u3' hic
                obtain ⟨ic, hic0⟩ : ∃ b, inC at_ wl kk = b := ⟨_, rfl⟩
                rw [hic0] at hic ⊢
                have HIC : Hid (inC at_ wl (kk + 1) = (ic || (sw && (decide (sa ≤ at_) && decide (at_ - sa < sl)))) ∧ sa + sl ≤ 2147491840 ∧ 2147483648 ≤ sa ∧ kk < L ∧ L ≤ 1000) := ⟨hic, hso.2.2, hso.2.1, hkl, HLL.out.2⟩
                have hk6 : kk ≤ 1000 := by have := HLL.out.2; omega
                have HAB : Hid (at_ < 2147491840) := by have := HPO.out; have := HAT.out.1; have := HSO.out.2; show at_ < 2147491840; omega
                clear u1 u2 u3 hcl2 hgs hic hic0 hso hsa hsl hsw hkw hkl hkk
                go_upto_region 25 with fail
                have hbq : Below wr.heap.size wr (wr.alloc (.cells #[.int .u64 (sa : Int), .int .u64 (sl : Int), .bool sw] 52)) := (Below.refl _ _).alloc (Nat.le_refl _) _
                have XV : Hid (Below w11.heap.size w11 (wr.alloc (.cells #[.int .u64 (sa : Int), .int .u64 (sl : Int), .bool sw] 52)) ∧ (wr.alloc (.cells #[.int .u64 (sa : Int), .int .u64 (sl : Int), .bool sw] 52)).heap[wr.heap.size]? = some (.cells #[.int .u64 (sa : Int), .int .u64 (sl : Int), .bool sw] 52 (0, 0))) := ⟨below_to XU.out hbq, heap_alloc_new _ _⟩
                clear hbq XU u1' u2' u3' b0 b1 b2
                generalize wr.alloc (.cells #[.int .u64 (sa : Int), .int .u64 (sl : Int), .bool sw] 52) = wv at *
                generalize wr.heap.size = qv at *
                obtain ⟨v0', v1', v2'⟩ := box3_facts XV.out.2
                cases ic with
                | true =>
                  go_wp2_with fail
                  go_roundw
                  case rel => exact ⟨kk + 1, HIC.out.2.2.2.1, by go_num, by rw [HIC.out.1]; rfl, XV.out.1⟩
                  case measure => simp [intOf]; have := HIC.out.2.2.2.1; omega
                | false =>
                  cases sw with
                  | false =>
                    go_wp2_with fail
                    go_roundw
                    case rel => exact ⟨kk + 1, HIC.out.2.2.2.1, by go_num, by rw [HIC.out.1]; rfl, XV.out.1⟩
                    case measure => simp [intOf]; have := HIC.out.2.2.2.1; omega
                  | true =>
                    by_cases hge : sa ≤ at_
                    · have j1 : (sa : Int) ≤ (at_ : Int) := by omega
                      obtain ⟨df, hdf⟩ : ∃ df, at_ - sa = df := ⟨_, rfl⟩
                      have j2 : IntKind.u64.wrap ((at_ : Int) - (sa : Int)) = (df : Int) := by have := HAB.out; rw [wrap_u64]; omega
                      have HD1 : Hid (inC at_ wl (kk + 1) = decide (df < sl)) := by
                        show inC at_ wl (kk + 1) = decide (df < sl)
                        rw [HIC.out.1, hdf]
                        simp [hge]
                      clear hge hdf
                      by_cases hls : df < sl
                      · have j3 : (df : Int) < (sl : Int) := by omega
                        have HD2 : Hid (inC at_ wl (kk + 1) = true) := HD1.out.trans (decide_eq_true hls)
                        clear hls
                        go_wp2_with fail
                        go_roundw
                        case rel => exact ⟨kk + 1, HIC.out.2.2.2.1, by go_num, by rw [HD2.out], XV.out.1⟩
                        case measure => simp [intOf]; have := HIC.out.2.2.2.1; omega
                      · have j3 : ¬ (df : Int) < (sl : Int) := by omega
                        have HD2 : Hid (inC at_ wl (kk + 1) = false) := HD1.out.trans (decide_eq_false hls)
                        clear hls
                        go_wp2_with fail
                        go_roundw
                        case rel => exact ⟨kk + 1, HIC.out.2.2.2.1, by go_num, by rw [HD2.out], XV.out.1⟩
                        case measure => simp [intOf]; have := HIC.out.2.2.2.1; omega
                    · have j1 : ¬ (sa : Int) ≤ (at_ : Int) := by omega
                      have HD2 : Hid (inC at_ wl (kk + 1) = false) := by
                        show inC at_ wl (kk + 1) = false
                        rw [HIC.out.1]
                        simp [hge]
                      clear hge
                      go_wp2_with fail
                      go_roundw
                      case rel => exact ⟨kk + 1, HIC.out.2.2.2.1, by go_num, by rw [HD2.out], XV.out.1⟩
                      case measure => simp [intOf]; have := HIC.out.2.2.2.1; omega
end Go.Proofs.Ytcgjfklglckjcaa
