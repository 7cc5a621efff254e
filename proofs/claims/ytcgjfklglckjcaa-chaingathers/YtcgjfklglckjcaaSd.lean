/- ChainGathers. -/
import Derived.Test.YtcgjfklglckjcaaSb
import Derived.Test.YtcgjfklglckjcaaPe
namespace Go.Proofs.Ytcgjfklglckjcaa
open Go.RowKit Go.Maps
set_option linter.unusedVariables false
set_option linter.unusedSimpArgs false
set_option maxRecDepth 100000
theorem reads_later {w w2 : World} {v : Value} {n : Nat} {f : Nat → Nat} (h : Reads .u8 w v n f) (hb : Below w.heap.size w w2) : Reads .u8 w2 v n f := by
  rcases h with h | ⟨b, off, c, rfl, hc⟩
  · exact .inl h
  · refine .inr ⟨b, off, c, rfl, fun i hi => ?_⟩
    have h1 := hc i hi
    exact (hb.cell (p := ⟨b, off + i, none⟩) (block_lt_of_cell h1)).trans h1
set_option maxHeartbeats 4000000 in
theorem gathers_core (W : World) (v : Value) (len : Nat) (ps : Nat → PutD) (hws : PutsIn W v len ps) (s : Int) (D A Uu : Nat) (hd : Int) (al : Bool) (hD : D < 18446744073709551616) (hA : A < 18446744073709551616) (hU : Uu < 18446744073709551616) (pf pn : Nat) (hpf : pf < 18446744073709551616) (hpn : pn < 18446744073709551616) : Calls Try.prog 6 #[v, .agg #[.int .i64 s, .int .u64 (D : Int), .int .u64 (A : Int), .int .u64 (Uu : Int), .int .i64 hd, .bool al], .agg #[.int .u64 (pf : Int), .int .u64 (pn : Int)]] W fun e w' => e = .returned (.bool true) ∧ Below W.heap.size W w' := by
  have HPF : Hid (pf < 18446744073709551616 ∧ pn < 18446744073709551616) := ⟨hpf, hpn⟩
  clear hpf hpn
  have X0 : Hid (Sm W ((W.alloc (.cells #[.int .i64 s, .int .u64 (D : Int), .int .u64 (A : Int), .int .u64 (Uu : Int), .int .i64 hd, .bool al] 27)).alloc (.cells #[.int .u64 (pf : Int), .int .u64 (pn : Int)] 60)) s D A Uu hd al ∧ ((W.alloc (.cells #[.int .i64 s, .int .u64 (D : Int), .int .u64 (A : Int), .int .u64 (Uu : Int), .int .i64 hd, .bool al] 27)).alloc (.cells #[.int .u64 (pf : Int), .int .u64 (pn : Int)] 60)).heap[W.heap.size + 1]? = some (.cells #[.int .u64 (pf : Int), .int .u64 (pn : Int)] 60 (0, 0))) := two_inB W _ _
  have HW : Hid (PutsIn W v len ps) := hws
  have HU : Hid (D < 18446744073709551616 ∧ A < 18446744073709551616 ∧ Uu < 18446744073709551616) := ⟨hD, hA, hU⟩
  clear hws hD hA hU
  go_enter Try.func6, Try.ntmps6
  go_upto_region 1 with fail
  generalize (W.alloc (.cells #[.int .i64 s, .int .u64 (D : Int), .int .u64 (A : Int), .int .u64 (Uu : Int), .int .i64 hd, .bool al] 27)).alloc (.cells #[.int .u64 (pf : Int), .int .u64 (pn : Int)] 60) = v0 at *
  go_upto_region 3 with (go_at_call 9; refine (awake_any _).mono ?_; rintro e w1 ⟨rfl, hb1⟩; have X1 : Hid (Sm W w1 s D A Uu hd al ∧ w1.heap[W.heap.size + 1]? = some (.cells #[.int .u64 (pf : Int), .int .u64 (pn : Int)] 60 (0, 0))) := ⟨X0.out.1.below hb1, below_box X0.out.2 hb1⟩; clear hb1 X0)
  go_upto_region 4 with (go_at_call 10; refine (memory_any _ len ps _ (HW.out.up X1.out.1.2)).mono ?_; rintro e w2 ⟨pv, a, n, c, rfl, hb2, hor⟩; have X2 : Hid (Sm W w2 s D A Uu hd al ∧ w2.heap[W.heap.size + 1]? = some (.cells #[.int .u64 (pf : Int), .int .u64 (pn : Int)] 60 (0, 0))) := ⟨X1.out.1.below hb2, below_box X1.out.2 hb2⟩)
  have hb3 : Below w2.heap.size w2 (w2.alloc (.cells #[.int .u64 8192, .slice a n c] 32)) := (Below.refl _ _).alloc (Nat.le_refl _) _
  have X3 : Hid ((Sp W (w2.alloc (.cells #[.int .u64 8192, .slice a n c] 32)) s D A Uu hd al w2.heap.size a n c) ∧ (w2.alloc (.cells #[.int .u64 8192, .slice a n c] 32)).heap[W.heap.size + 1]? = some (.cells #[.int .u64 (pf : Int), .int .u64 (pn : Int)] 60 (0, 0))) := ⟨⟨X2.out.1.below hb3, heap_alloc_new _ _⟩, below_box X2.out.2 hb3⟩
  have Z3 : Hid ((pv = .pointer none ∧ 0 < len) ∨ ∃ rb F M, pv = .pointer (some ⟨rb, 0, none⟩) ∧ Both F (w2.alloc (.cells #[.int .u64 8192, .slice a n c] 32)) rb 8192 (.slice a n c) 12000 M ∧ (∀ k, F k → W.heap.size ≤ k) ∧ ¬ F w2.heap.size) := hor.imp id (fun ⟨rb, F, M, h1, h2, h3⟩ => ⟨rb, F, M, h1, h2.below hb3, fun k hk => Nat.le_trans X1.out.1.2.size (h3 k hk), fun hf => by have := h2.1.lt _ hf; omega⟩)
  clear hor hb2 hb3 X1 X2
  generalize w2.alloc (.cells #[.int .u64 8192, .slice a n c] 32) = w3 at *
  generalize w2.heap.size = p at *
  obtain ⟨a0, a1, a2, a3, a4, a5⟩ := box6_facts X3.out.1.1.1
  obtain ⟨r0, r1, _, _⟩ := box_facts X3.out.1.2
  rcases Z3.out with ⟨rfl, _⟩ | ⟨rb, F, M, rfl, hB, hF, hFp⟩
  · clear Z3
    go_wp2_with fail
    go_ret
    exact ⟨rfl, X3.out.1.1.2⟩
  have HB : Hid (Both F w3 rb 8192 (.slice a n c) 12000 M ∧ (∀ k, F k → W.heap.size ≤ k) ∧ ¬ F p) := ⟨hB, hF, hFp⟩
  clear hB hF hFp Z3
  obtain ⟨ce, hce⟩ : ∃ ce, chkN s D A Uu 8192 = ce := ⟨_, rfl⟩
  have K11 : Hid (∀ V, Calls Try.prog 11 #[.agg #[.int .u64 8192, .slice a n c], .agg #[.int .i64 s, .int .u64 (D : Int), .int .u64 (A : Int), .int .u64 (Uu : Int)]] V fun e w' => e = .returned (.int .i64 ce) ∧ Below V.heap.size V w') := by
    intro V
    rw [← hce]
    exact rcheck_any HU.out.1 HU.out.2.1 HU.out.2.2 8192 (by omega) a n c V
  by_cases hc0 : ce = 0
  case neg =>
    have q1 : (ce != 0) = true := by simp [hc0]
    clear hc0 hce
    go_wp2_with (go_at_call 11; refine (K11.out _).mono ?_; rintro e w4 ⟨rfl, hb4⟩; have X4 : Hid (Below W.heap.size W w4) := below_to X3.out.1.1.2 hb4; clear hb4)
    go_ret
    exact ⟨rfl, X4.out⟩
  subst hc0
  obtain ⟨k, rfl, hk1, hk2, _⟩ := chk_zero hce
  have HCH : Hid (chkN (k : Int) D A Uu 8192 = 0) := hce
  clear hce hk1
  go_upto_region 6 with (go_at_call 11; refine (K11.out _).mono ?_; rintro e w4 ⟨rfl, hb4⟩; have X4 : Hid ((Sp W w4 (k : Int) D A Uu hd al p a n c) ∧ w4.heap[W.heap.size + 1]? = some (.cells #[.int .u64 (pf : Int), .int .u64 (pn : Int)] 60 (0, 0))) := ⟨X3.out.1.below hb4, below_box X3.out.2 hb4⟩; have HB4 : Hid (Both F w4 rb 8192 (.slice a n c) 12000 M ∧ (∀ k, F k → W.heap.size ≤ k) ∧ ¬ F p) := ⟨HB.out.1.below hb4, HB.out.2⟩; clear hb4 a0 a1 a2 a3 a4 a5 r0 r1)
  clear X3 HB K11
  have HDD : Hid (DDesc w4 a n c M ∧ ∀ a, M a ≤ 255) := ⟨both_ddesc HB4.out.1 (by omega), HB4.out.1.1.le⟩
  obtain ⟨⟨we, wl, wta, wtl⟩, hwk⟩ : ∃ q, walkR M D k hd al = q := ⟨_, rfl⟩
  have hall := walk_all HDD.out.2 D k hk2 hd al
  rw [hwk] at hall
  have HL : Hid (wl.length ≤ 1000 ∧ ∀ s ∈ wl, SegOk s) := ⟨Nat.le_trans hall.2.1 (by decide), hall.1⟩
  have K12 : Hid (∀ V, Below w4.heap.size w4 V → Calls Try.prog 12 #[.pointer (some ⟨rb, 0, none⟩), .agg #[.int .i64 (k : Int), .int .u64 (D : Int), .int .u64 (A : Int), .int .u64 (Uu : Int)], .int .i64 hd, .bool al] V fun e w' => ∃ a1 c1, e = .returned (.tuple #[.agg #[.slice a1 wl.length c1, .int .u64 (wta : Int), .int .u64 (wtl : Int)], .int .i64 (we : Int)]) ∧ SegIn 0 w' (.slice a1 wl.length c1) wl ∧ Below V.heap.size V w') := by
    intro V hV
    have := walk_nil (HB4.out.1.1.below hV) k D A Uu hk2 hd al
    rw [hwk] at this
    refine this.mono ?_
    rintro e w' ⟨v, he, hs, hb⟩
    obtain ⟨a1, c1, rfl⟩ := hs.form
    exact ⟨a1, c1, he, hs.low, hb⟩
  have K13 : Hid (∀ V, Below w4.heap.size w4 V → Calls Try.prog 13 #[.agg #[.int .u64 8192, .slice a n c], .agg #[.int .i64 (k : Int), .int .u64 (D : Int), .int .u64 (A : Int), .int .u64 (Uu : Int)], .int .i64 hd, .bool al] V fun e w' => ∃ a2 c2, e = .returned (.tuple #[.agg #[.slice a2 wl.length c2, .int .u64 (wta : Int), .int .u64 (wtl : Int)], .int .i64 (we : Int)]) ∧ SegIn 0 w' (.slice a2 wl.length c2) wl ∧ Below V.heap.size V w') := by
    intro V hV
    have := dwalk_any HDD.out.2 HDD.out.1 k D A Uu hk2 hd al hV
    rw [hwk] at this
    refine this.mono ?_
    rintro e w' ⟨a2, L2, c2, he, hs, hb⟩
    obtain ⟨a3, c3, h3⟩ := hs.form
    simp only [Value.slice.injEq] at h3
    obtain ⟨rfl, rfl, rfl⟩ := h3
    exact ⟨_, _, he, hs, hb⟩
  clear hall hwk HCH HU HW hk2
  obtain ⟨L, hL⟩ : ∃ L, wl.length = L := ⟨_, rfl⟩
  rw [hL] at K12 K13
  have HLL : Hid (wl.length = L) := hL
  clear hL
  obtain ⟨a0, a1, a2, a3, a4, a5⟩ := box6_facts X4.out.1.1.1
  go_upto_region 7 with (go_at_call 12; refine (K12.out _ (Below.refl _ _)).mono ?_; rintro e w5 ⟨s1, c1, rfl, hs5, hb5⟩; have X5 : Hid ((Sp W w5 (k : Int) D A Uu hd al p a n c ∧ w5.heap[W.heap.size + 1]? = some (.cells #[.int .u64 (pf : Int), .int .u64 (pn : Int)] 60 (0, 0))) ∧ SegIn 0 w5 (.slice s1 L c1) wl ∧ Below w4.heap.size w4 w5) := ⟨⟨X4.out.1.below hb5, below_box X4.out.2 hb5⟩, hs5, hb5⟩; clear hb5 hs5 a0 a1 a2 a3 a4 a5 X4)
  have hb6 : Below w5.heap.size w5 (w5.alloc (.cells #[.slice s1 L c1, .int .u64 (wta : Int), .int .u64 (wtl : Int)] 40)) := (Below.refl _ _).alloc (Nat.le_refl _) _
  have X6 : Hid ((Sp W (w5.alloc (.cells #[.slice s1 L c1, .int .u64 (wta : Int), .int .u64 (wtl : Int)] 40)) (k : Int) D A Uu hd al p a n c ∧ (w5.alloc (.cells #[.slice s1 L c1, .int .u64 (wta : Int), .int .u64 (wtl : Int)] 40)).heap[W.heap.size + 1]? = some (.cells #[.int .u64 (pf : Int), .int .u64 (pn : Int)] 60 (0, 0))) ∧ SegIn 0 (w5.alloc (.cells #[.slice s1 L c1, .int .u64 (wta : Int), .int .u64 (wtl : Int)] 40)) (.slice s1 L c1) wl ∧ Below w4.heap.size w4 (w5.alloc (.cells #[.slice s1 L c1, .int .u64 (wta : Int), .int .u64 (wtl : Int)] 40)) ∧ (w5.alloc (.cells #[.slice s1 L c1, .int .u64 (wta : Int), .int .u64 (wtl : Int)] 40)).heap[w5.heap.size]? = some (.cells #[.slice s1 L c1, .int .u64 (wta : Int), .int .u64 (wtl : Int)] 40 (0, 0))) := ⟨⟨X5.out.1.1.below hb6, below_box X5.out.1.2 hb6⟩, (X5.out.2.1).kept (fun g hg => hb6.block g ((X5.out.2.1).lt g hg).2), below_to X5.out.2.2 hb6, heap_alloc_new _ _⟩
  clear hb6 X5
  generalize w5.alloc (.cells #[.slice s1 L c1, .int .u64 (wta : Int), .int .u64 (wtl : Int)] 40) = w6 at *
  generalize w5.heap.size = q1 at *
  obtain ⟨a0, a1, a2, a3, a4, a5⟩ := box6_facts X6.out.1.1.1.1
  obtain ⟨r0, r1, _, _⟩ := box_facts X6.out.1.1.2
  go_upto_region 8 with (go_at_call 13; refine (K13.out _ X6.out.2.2.1).mono ?_; rintro e w7 ⟨s2, c2, rfl, hs7, hb7⟩; have X7 : Hid ((Sp W w7 (k : Int) D A Uu hd al p a n c ∧ w7.heap[W.heap.size + 1]? = some (.cells #[.int .u64 (pf : Int), .int .u64 (pn : Int)] 60 (0, 0))) ∧ SegIn 0 w7 (.slice s1 L c1) wl ∧ SegIn 0 w7 (.slice s2 L c2) wl ∧ Below w4.heap.size w4 w7 ∧ w7.heap[q1]? = some (.cells #[.slice s1 L c1, .int .u64 (wta : Int), .int .u64 (wtl : Int)] 40 (0, 0))) := ⟨⟨X6.out.1.1.below hb7, below_box X6.out.1.2 hb7⟩, (X6.out.2.1).kept (fun g hg => hb7.block g ((X6.out.2.1).lt g hg).2), hs7, below_to X6.out.2.2.1 hb7, below_box X6.out.2.2.2 hb7⟩; clear hb7 hs7 a0 a1 a2 a3 a4 a5 r0 r1)
  clear X6
  have hb8 : Below w7.heap.size w7 (w7.alloc (.cells #[.slice s2 L c2, .int .u64 (wta : Int), .int .u64 (wtl : Int)] 44)) := (Below.refl _ _).alloc (Nat.le_refl _) _
  have X8 : Hid ((Sp W (w7.alloc (.cells #[.slice s2 L c2, .int .u64 (wta : Int), .int .u64 (wtl : Int)] 44)) (k : Int) D A Uu hd al p a n c ∧ (w7.alloc (.cells #[.slice s2 L c2, .int .u64 (wta : Int), .int .u64 (wtl : Int)] 44)).heap[W.heap.size + 1]? = some (.cells #[.int .u64 (pf : Int), .int .u64 (pn : Int)] 60 (0, 0))) ∧ (SegIn 0 (w7.alloc (.cells #[.slice s2 L c2, .int .u64 (wta : Int), .int .u64 (wtl : Int)] 44)) (.slice s1 L c1) wl ∧ SegIn 0 (w7.alloc (.cells #[.slice s2 L c2, .int .u64 (wta : Int), .int .u64 (wtl : Int)] 44)) (.slice s2 L c2) wl) ∧ Below w4.heap.size w4 (w7.alloc (.cells #[.slice s2 L c2, .int .u64 (wta : Int), .int .u64 (wtl : Int)] 44)) ∧ (w7.alloc (.cells #[.slice s2 L c2, .int .u64 (wta : Int), .int .u64 (wtl : Int)] 44)).heap[q1]? = some (.cells #[.slice s1 L c1, .int .u64 (wta : Int), .int .u64 (wtl : Int)] 40 (0, 0)) ∧ (w7.alloc (.cells #[.slice s2 L c2, .int .u64 (wta : Int), .int .u64 (wtl : Int)] 44)).heap[w7.heap.size]? = some (.cells #[.slice s2 L c2, .int .u64 (wta : Int), .int .u64 (wtl : Int)] 44 (0, 0))) := ⟨⟨X7.out.1.1.below hb8, below_box X7.out.1.2 hb8⟩, ⟨(X7.out.2.1).kept (fun g hg => hb8.block g ((X7.out.2.1).lt g hg).2), (X7.out.2.2.1).kept (fun g hg => hb8.block g ((X7.out.2.2.1).lt g hg).2)⟩, below_to X7.out.2.2.2.1 hb8, below_box X7.out.2.2.2.2 hb8, heap_alloc_new _ _⟩
  clear hb8 X7
  generalize w7.alloc (.cells #[.slice s2 L c2, .int .u64 (wta : Int), .int .u64 (wtl : Int)] 44) = w8 at *
  generalize w7.heap.size = q2 at *
  by_cases hz : we = 0
  case neg =>
    have g1 : ((we : Int) != 0) = true := by simp; omega
    have g2 : ((we : Int) == 0) = false := by simp; omega
    clear hz
    go_wp2_with fail
    go_ret
    exact ⟨ret_bool (by simp), X8.out.1.1.1.2⟩
  subst hz
  have HLW : Hid (sizeN false wl ≤ 9000000) := Nat.le_trans (sizeN_le false wl HL.out.2) (by have := HL.out.1; omega)
  have K20 : Hid (∀ V, SegIn 0 V (.slice s1 L c1) wl → Calls Try.prog 20 #[.agg #[.slice s1 L c1, .int .u64 (wta : Int), .int .u64 (wtl : Int)]] V fun e w' => e = .returned (.tuple #[.int .u64 (sizeN false wl : Int), .int .u64 (sizeN true wl : Int)]) ∧ Below V.heap.size V w') := fun V hs => psizes_any hs HL.out.1 HL.out.2 wta wtl
  have K21 : Hid (∀ V, SegIn 0 V (.slice s2 L c2) wl → Calls Try.prog 21 #[.agg #[.slice s2 L c2, .int .u64 (wta : Int), .int .u64 (wtl : Int)]] V fun e w' => e = .returned (.tuple #[.int .u64 (sizeN false wl : Int), .int .u64 (sizeN true wl : Int)]) ∧ Below V.heap.size V w') := fun V hs => dsizes_any hs HL.out.1 HL.out.2 wta wtl
  have HRB : Hid (roomB false wl pf pn = true → pn ≤ sizeN false wl) := fun h => by simp only [roomB, decide_eq_true_iff] at h; omega
  obtain ⟨sz0, hs0⟩ : ∃ z, sizeN false wl = z := ⟨_, rfl⟩
  obtain ⟨sz1, hs1⟩ : ∃ z, sizeN true wl = z := ⟨_, rfl⟩
  rw [hs0, hs1] at K20 K21
  rw [hs0] at HRB HLW
  clear hs0 hs1
  obtain ⟨b0, b1, b2⟩ := box3_facts X8.out.2.2.2.1
  go_upto_region 11 with (go_at_call 20; refine (K20.out _ X8.out.2.1.1).mono ?_; rintro e w9 ⟨rfl, hb9⟩; have X9 : Hid ((Sp W w9 (k : Int) D A Uu hd al p a n c ∧ w9.heap[W.heap.size + 1]? = some (.cells #[.int .u64 (pf : Int), .int .u64 (pn : Int)] 60 (0, 0))) ∧ (SegIn 0 w9 (.slice s1 L c1) wl ∧ SegIn 0 w9 (.slice s2 L c2) wl) ∧ Below w4.heap.size w4 w9 ∧ w9.heap[q1]? = some (.cells #[.slice s1 L c1, .int .u64 (wta : Int), .int .u64 (wtl : Int)] 40 (0, 0)) ∧ w9.heap[q2]? = some (.cells #[.slice s2 L c2, .int .u64 (wta : Int), .int .u64 (wtl : Int)] 44 (0, 0))) := ⟨⟨X8.out.1.1.below hb9, below_box X8.out.1.2 hb9⟩, ⟨(X8.out.2.1.1).kept (fun g hg => hb9.block g ((X8.out.2.1.1).lt g hg).2), (X8.out.2.1.2).kept (fun g hg => hb9.block g ((X8.out.2.1.2).lt g hg).2)⟩, below_to X8.out.2.2.1 hb9, below_box X8.out.2.2.2.1 hb9, below_box X8.out.2.2.2.2 hb9⟩; clear hb9 b0 b1 b2)
  clear X8
  obtain ⟨b0, b1, b2⟩ := box3_facts X9.out.2.2.2.2
  go_upto_region 12 with (go_at_call 21; refine (K21.out _ X9.out.2.1.2).mono ?_; rintro e w10 ⟨rfl, hb⟩; have XA : Hid ((Sp W w10 (k : Int) D A Uu hd al p a n c ∧ w10.heap[W.heap.size + 1]? = some (.cells #[.int .u64 (pf : Int), .int .u64 (pn : Int)] 60 (0, 0))) ∧ (SegIn 0 w10 (.slice s1 L c1) wl ∧ SegIn 0 w10 (.slice s2 L c2) wl) ∧ Below w4.heap.size w4 w10 ∧ w10.heap[q1]? = some (.cells #[.slice s1 L c1, .int .u64 (wta : Int), .int .u64 (wtl : Int)] 40 (0, 0)) ∧ w10.heap[q2]? = some (.cells #[.slice s2 L c2, .int .u64 (wta : Int), .int .u64 (wtl : Int)] 44 (0, 0))) := ⟨⟨X9.out.1.1.below hb, below_box X9.out.1.2 hb⟩, ⟨(X9.out.2.1.1).kept (fun g hg => hb.block g ((X9.out.2.1.1).lt g hg).2), (X9.out.2.1.2).kept (fun g hg => hb.block g ((X9.out.2.1.2).lt g hg).2)⟩, below_to X9.out.2.2.1 hb, below_box X9.out.2.2.2.1 hb, below_box X9.out.2.2.2.2 hb⟩; clear hb b0 b1 b2)
  clear X9 K20 K21
  obtain ⟨t0, t1, _, _⟩ := box_facts XA.out.1.2
  by_cases hbig : 2000 < pn ∧ pn ≤ sz0
  · have g1 : (2000 : Int) < (pn : Int) := by omega
    have g2 : (pn : Int) ≤ (sz0 : Int) := by omega
    clear hbig
    go_wp2_with fail
    go_ret
    exact ⟨ret_bool (by simp), XA.out.1.1.1.2⟩
  have H20 : Hid (roomB false wl pf pn = true → pn ≤ 2000) := fun h => by have := HRB.out h; omega
  have K22 : Hid (∀ V, Below w4.heap.size w4 V → SegIn 0 V (.slice s1 L c1) wl → Calls Try.prog 22 #[.agg #[.slice s1 L c1, .int .u64 (wta : Int), .int .u64 (wtl : Int)], .pointer (some ⟨rb, 0, none⟩), .int .u64 (pf : Int), .int .u64 (pn : Int)] V fun e w' => Below V.heap.size V w' ∧ ((roomB false wl pf pn = false ∧ e = .returned (.tuple #[.slice none 0 0, .bool false])) ∨ (roomB false wl pf pn = true ∧ ∃ a' c', e = .returned (.tuple #[.slice a' pn c', .bool true]) ∧ Reads .u8 w' (.slice a' pn c') pn (fun i => (gatL M wl pf pn).getD i 0)))) := fun V hV hs => gather_any (HB4.out.1.1.below hV) hs HL.out.1 HL.out.2 wta wtl pf pn HPF.out.1 HPF.out.2 H20.out
  have K23 : Hid (∀ V, Below w4.heap.size w4 V → SegIn 0 V (.slice s2 L c2) wl → Calls Try.prog 23 #[.agg #[.int .u64 8192, .slice a n c], .agg #[.slice s2 L c2, .int .u64 (wta : Int), .int .u64 (wtl : Int)], .int .u64 (pf : Int), .int .u64 (pn : Int)] V fun e w' => Below V.heap.size V w' ∧ ((roomB false wl pf pn = false ∧ e = .returned (.tuple #[.slice none 0 0, .bool false])) ∨ (roomB false wl pf pn = true ∧ ∃ a' c', e = .returned (.tuple #[.slice a' pn c', .bool true]) ∧ Reads .u8 w' (.slice a' pn c') pn (fun i => (gatL M wl pf pn).getD i 0)))) := fun V hV hs => dgather_any (both_dget HB4.out.1 (by omega)) hV hs HL.out.1 HL.out.2 wta wtl pf pn HPF.out.1 HPF.out.2 H20.out
  have g0 : ¬ ((2000 : Int) < (pn : Int) ∧ (pn : Int) ≤ (sz0 : Int)) := by omega
  obtain ⟨big, hbg⟩ : ∃ b, decide ((2000 : Int) < (pn : Int)) = b := ⟨_, rfl⟩
  have g1 : big = true → ¬ (pn : Int) ≤ (sz0 : Int) := fun h hh => g0 ⟨by rw [h] at hbg; exact of_decide_eq_true hbg, hh⟩
  clear hbig g0
  go_upto_region 14 with fail
  go_cut [95] (fun x wx => x = .bool false ∧ wx = w10)
  case first =>
    cases big with
    | false =>
      have g2 : ¬ (2000 : Int) < (pn : Int) := of_decide_eq_false hbg
      clear hbg g1
      go_wp2_with fail
      go_meet
      exact ⟨rfl, rfl⟩
    | true =>
      have g2 : (2000 : Int) < (pn : Int) := of_decide_eq_true hbg
      have g3 : ¬ (pn : Int) ≤ (sz0 : Int) := g1 rfl
      clear hbg g1
      go_wp2_with fail
      go_meet
      exact ⟨rfl, rfl⟩
  case rest =>
  obtain ⟨rfl, hw⟩ := hcut
  rw [hw]
  clear hw g1 hbg
  obtain ⟨b0, b1, b2⟩ := box3_facts XA.out.2.2.2.1
  cases hrm : roomB false wl pf pn with
  | false =>
    rw [hrm] at K22 K23
    go_upto_region 17 with (go_at_call 22; refine (K22.out _ XA.out.2.2.1 XA.out.2.1.1).mono ?_; rintro e w11 ⟨hb, hor⟩; rcases hor with ⟨_, rfl⟩ | ⟨hh, _⟩; rotate_left; (cases hh); have XB : Hid ((Sp W w11 (k : Int) D A Uu hd al p a n c ∧ w11.heap[W.heap.size + 1]? = some (.cells #[.int .u64 (pf : Int), .int .u64 (pn : Int)] 60 (0, 0))) ∧ (SegIn 0 w11 (.slice s1 L c1) wl ∧ SegIn 0 w11 (.slice s2 L c2) wl) ∧ Below w4.heap.size w4 w11 ∧ w11.heap[q1]? = some (.cells #[.slice s1 L c1, .int .u64 (wta : Int), .int .u64 (wtl : Int)] 40 (0, 0)) ∧ w11.heap[q2]? = some (.cells #[.slice s2 L c2, .int .u64 (wta : Int), .int .u64 (wtl : Int)] 44 (0, 0))) := ⟨⟨XA.out.1.1.below hb, below_box XA.out.1.2 hb⟩, ⟨(XA.out.2.1.1).kept (fun g hg => hb.block g ((XA.out.2.1.1).lt g hg).2), (XA.out.2.1.2).kept (fun g hg => hb.block g ((XA.out.2.1.2).lt g hg).2)⟩, below_to XA.out.2.2.1 hb, below_box XA.out.2.2.2.1 hb, below_box XA.out.2.2.2.2 hb⟩; clear hb b0 b1 b2 t0 t1)
    clear XA
    obtain ⟨b0, b1, b2⟩ := box3_facts XB.out.2.2.2.2
    obtain ⟨r0, r1, _, _⟩ := box_facts XB.out.1.1.2
    obtain ⟨t0, t1, _, _⟩ := box_facts XB.out.1.2
    go_upto_region 18 with (go_at_call 23; refine (K23.out _ XB.out.2.2.1 XB.out.2.1.2).mono ?_; rintro e w12 ⟨hb, hor⟩; rcases hor with ⟨_, rfl⟩ | ⟨hh, _⟩; rotate_left; (cases hh); have XC : Hid ((Sp W w12 (k : Int) D A Uu hd al p a n c ∧ w12.heap[W.heap.size + 1]? = some (.cells #[.int .u64 (pf : Int), .int .u64 (pn : Int)] 60 (0, 0))) ∧ (SegIn 0 w12 (.slice s1 L c1) wl ∧ SegIn 0 w12 (.slice s2 L c2) wl) ∧ Below w4.heap.size w4 w12 ∧ w12.heap[q1]? = some (.cells #[.slice s1 L c1, .int .u64 (wta : Int), .int .u64 (wtl : Int)] 40 (0, 0)) ∧ w12.heap[q2]? = some (.cells #[.slice s2 L c2, .int .u64 (wta : Int), .int .u64 (wtl : Int)] 44 (0, 0))) := ⟨⟨XB.out.1.1.below hb, below_box XB.out.1.2 hb⟩, ⟨(XB.out.2.1.1).kept (fun g hg => hb.block g ((XB.out.2.1.1).lt g hg).2), (XB.out.2.1.2).kept (fun g hg => hb.block g ((XB.out.2.1.2).lt g hg).2)⟩, below_to XB.out.2.2.1 hb, below_box XB.out.2.2.2.1 hb, below_box XB.out.2.2.2.2 hb⟩; clear hb b0 b1 b2 t0 t1 r0 r1)
    go_wp2_with (go_at_call 24; refine (bytes_same (fun _ => 0) 0 (.slice none 0 0) (.slice none 0 0) (by omega) _ (.inl ⟨rfl, _, _, rfl⟩) (.inl ⟨rfl, _, _, rfl⟩)).mono ?_; rintro e w13 ⟨rfl, qd, hq⟩; rw [hq]; clear hq w13)
    go_ret
    exact ⟨ret_bool (by simp), below_drewN XC.out.1.1.1.2 _⟩
  | true =>
    rw [hrm] at K22 K23
    have hp2 : pn ≤ 2000 := H20.out hrm
    go_upto_region 17 with (go_at_call 22; refine (K22.out _ XA.out.2.2.1 XA.out.2.1.1).mono ?_; rintro e w11 ⟨hb, hor⟩; rcases hor with ⟨hh, _⟩ | ⟨_, o1, d1, rfl, hr1⟩; (cases hh); have XB : Hid (((Sp W w11 (k : Int) D A Uu hd al p a n c ∧ w11.heap[W.heap.size + 1]? = some (.cells #[.int .u64 (pf : Int), .int .u64 (pn : Int)] 60 (0, 0))) ∧ (SegIn 0 w11 (.slice s1 L c1) wl ∧ SegIn 0 w11 (.slice s2 L c2) wl) ∧ Below w4.heap.size w4 w11 ∧ w11.heap[q1]? = some (.cells #[.slice s1 L c1, .int .u64 (wta : Int), .int .u64 (wtl : Int)] 40 (0, 0)) ∧ w11.heap[q2]? = some (.cells #[.slice s2 L c2, .int .u64 (wta : Int), .int .u64 (wtl : Int)] 44 (0, 0))) ∧ Reads .u8 w11 (.slice o1 pn d1) pn (fun i => (gatL M wl pf pn).getD i 0)) := ⟨⟨⟨XA.out.1.1.below hb, below_box XA.out.1.2 hb⟩, ⟨(XA.out.2.1.1).kept (fun g hg => hb.block g ((XA.out.2.1.1).lt g hg).2), (XA.out.2.1.2).kept (fun g hg => hb.block g ((XA.out.2.1.2).lt g hg).2)⟩, below_to XA.out.2.2.1 hb, below_box XA.out.2.2.2.1 hb, below_box XA.out.2.2.2.2 hb⟩, hr1⟩; clear hb hr1 b0 b1 b2 t0 t1)
    clear XA
    obtain ⟨b0, b1, b2⟩ := box3_facts XB.out.1.2.2.2.2
    obtain ⟨r0, r1, _, _⟩ := box_facts XB.out.1.1.1.2
    obtain ⟨t0, t1, _, _⟩ := box_facts XB.out.1.1.2
    go_upto_region 18 with (go_at_call 23; refine (K23.out _ XB.out.1.2.2.1 XB.out.1.2.1.2).mono ?_; rintro e w12 ⟨hb, hor⟩; rcases hor with ⟨hh, _⟩ | ⟨_, o2, d2, rfl, hr2⟩; (cases hh); have XC : Hid (Below W.heap.size W w12 ∧ Reads .u8 w12 (.slice o1 pn d1) pn (fun i => (gatL M wl pf pn).getD i 0) ∧ Reads .u8 w12 (.slice o2 pn d2) pn (fun i => (gatL M wl pf pn).getD i 0)) := ⟨below_to XB.out.1.1.1.1.2 hb, reads_later XB.out.2 hb, hr2⟩; clear hb hr2 b0 b1 b2 t0 t1 r0 r1)
    go_wp2_with (go_at_call 24; refine (bytes_same _ pn (.slice o1 pn d1) (.slice o2 pn d2) (by omega) _ XC.out.2.1 XC.out.2.2).mono ?_; rintro e w13 ⟨rfl, qd, hq⟩; rw [hq]; clear hq w13)
    go_ret
    exact ⟨ret_bool (by simp), below_drewN XC.out.1 _⟩
end Go.Proofs.Ytcgjfklglckjcaa
