/- ChainLies. -/
import Derived.Test.YtcgjfklglckjcaaSb
import Derived.Test.YtcgjfklglckjcaaHa
import Derived.Test.YtcgjfklglckjcaaCl
namespace Go.Proofs.Ytcgjfklglckjcaa
open Go.RowKit Go.Maps
set_option linter.unusedVariables false
set_option linter.unusedSimpArgs false
set_option maxRecDepth 100000
theorem prev_facts {j L : Nat} (h : j + 1 < L) (hL : L ≤ 511) : (0 : Int) < ((j + 1 : Nat) : Int) ∧ ((j + 1 : Nat) : Int) - 1 = (j : Int) ∧ wrap64 (j : Int) = (j : Int) ∧ (j : Int) < (L : Int) := by
  refine ⟨by omega, by omega, ?_, by omega⟩
  unfold wrap64; omega
theorem prev_less {j L : Nat} (h : j + 1 < L) : L - (j + 1 + 1) < L - (j + 1) := by omega
set_option maxHeartbeats 4000000 in
theorem lies_core (W : World) (v : Value) (len : Nat) (ps : Nat → PutD) (hws : PutsIn W v len ps) (s : Int) (D A Uu : Nat) (hd : Int) (al : Bool) (hD : D < 18446744073709551616) (hA : A < 18446744073709551616) (hU : Uu < 18446744073709551616) : Calls Try.prog 4 #[v, .agg #[.int .i64 s, .int .u64 (D : Int), .int .u64 (A : Int), .int .u64 (Uu : Int), .int .i64 hd, .bool al]] W fun e w' => e = .returned (.bool true) ∧ Below W.heap.size W w' := by
  have X0 : Hid (Sm W (W.alloc (.cells #[.int .i64 s, .int .u64 (D : Int), .int .u64 (A : Int), .int .u64 (Uu : Int), .int .i64 hd, .bool al] 27)) s D A Uu hd al) := one_in W _
  have HW : Hid (PutsIn W v len ps) := hws
  have HU : Hid (D < 18446744073709551616 ∧ A < 18446744073709551616 ∧ Uu < 18446744073709551616) := ⟨hD, hA, hU⟩
  clear hws hD hA hU
  go_enter Try.func4, Try.ntmps4
  go_upto_region 1 with fail
  generalize W.alloc (.cells #[.int .i64 s, .int .u64 (D : Int), .int .u64 (A : Int), .int .u64 (Uu : Int), .int .i64 hd, .bool al] 27) = v0 at *
  go_upto_region 3 with (go_at_call 9; refine (awake_any _).mono ?_; rintro e w1 ⟨rfl, hb1⟩; have X1 : Hid (Sm W w1 s D A Uu hd al) := X0.out.below hb1; clear hb1 X0)
  go_upto_region 4 with (go_at_call 10; refine (memory_any _ len ps _ (HW.out.up X1.out.2)).mono ?_; rintro e w2 ⟨pv, a, n, c, rfl, hb2, hor⟩; have X2 : Hid (Sm W w2 s D A Uu hd al) := X1.out.below hb2)
  have hb3 : Below w2.heap.size w2 (w2.alloc (.cells #[.int .u64 8192, .slice a n c] 32)) := (Below.refl _ _).alloc (Nat.le_refl _) _
  have X3 : Hid ((Sp W (w2.alloc (.cells #[.int .u64 8192, .slice a n c] 32)) s D A Uu hd al w2.heap.size a n c)) := ⟨X2.out.below hb3, heap_alloc_new _ _⟩
  have Z3 : Hid ((pv = .pointer none ∧ 0 < len) ∨ ∃ rb F M, pv = .pointer (some ⟨rb, 0, none⟩) ∧ Both F (w2.alloc (.cells #[.int .u64 8192, .slice a n c] 32)) rb 8192 (.slice a n c) 12000 M ∧ (∀ k, F k → W.heap.size ≤ k) ∧ ¬ F w2.heap.size) := hor.imp id (fun ⟨rb, F, M, h1, h2, h3⟩ => ⟨rb, F, M, h1, h2.below hb3, fun k hk => Nat.le_trans X1.out.2.size (h3 k hk), fun hf => by have := h2.1.lt _ hf; omega⟩)
  clear hor hb2 hb3 X1 X2
  generalize w2.alloc (.cells #[.int .u64 8192, .slice a n c] 32) = w3 at *
  generalize w2.heap.size = p at *
  obtain ⟨a0, a1, a2, a3, a4, a5⟩ := box6_facts X3.out.1.1
  obtain ⟨r0, r1, _, _⟩ := box_facts X3.out.2
  rcases Z3.out with ⟨rfl, _⟩ | ⟨rb, F, M, rfl, hB, hF, hFp⟩
  · clear Z3
    go_wp2_with fail
    go_ret
    exact ⟨rfl, X3.out.1.2⟩
  have HB : Hid (Both F w3 rb 8192 (.slice a n c) 12000 M ∧ (∀ k, F k → W.heap.size ≤ k) ∧ ¬ F p) := ⟨hB, hF, hFp⟩
  clear hB hF hFp Z3
  obtain ⟨ce, hce⟩ : ∃ ce, chkN s D A Uu 8192 = ce := ⟨_, rfl⟩
  have K11 : Hid (∀ V, Calls Try.prog 11 #[.agg #[.int .u64 8192, .slice a n c], .agg #[.int .i64 s, .int .u64 (D : Int), .int .u64 (A : Int), .int .u64 (Uu : Int)]] V fun e w' => e = .returned (.int .i64 ce) ∧ Below V.heap.size V w') := by
    intro V
    rw [← hce]
    exact rcheck_any HU.out.1 HU.out.2.1 HU.out.2.2 8192 (by omega) a n c V
  by_cases hc0 : ce = 0
  case neg =>
    have q1 : (ce != 0) = true := by simp [hc0]
    clear hc0 hce
    go_wp2_with (go_at_call 11; refine (K11.out _).mono ?_; rintro e w4 ⟨rfl, hb4⟩; have X4 : Hid (Below W.heap.size W w4) := below_to X3.out.1.2 hb4; clear hb4)
    go_ret
    exact ⟨rfl, X4.out⟩
  subst hc0
  obtain ⟨k, rfl, hk1, hk2, _⟩ := chk_zero hce
  have HCH : Hid (chkN (k : Int) D A Uu 8192 = 0) := hce
  clear hce hk1
  go_upto_region 6 with (go_at_call 11; refine (K11.out _).mono ?_; rintro e w4 ⟨rfl, hb4⟩; have X4 : Hid ((Sp W w4 (k : Int) D A Uu hd al p a n c)) := X3.out.below hb4; have HB4 : Hid (Both F w4 rb 8192 (.slice a n c) 12000 M ∧ (∀ k, F k → W.heap.size ≤ k) ∧ ¬ F p) := ⟨HB.out.1.below hb4, HB.out.2⟩; clear hb4 a0 a1 a2 a3 a4 a5 r0 r1)
  clear X3 HB K11
  have HDD : Hid (DDesc w4 a n c M ∧ ∀ a, M a ≤ 255) := ⟨both_ddesc HB4.out.1 (by omega), HB4.out.1.1.le⟩
  obtain ⟨⟨we, wl, wta, wtl⟩, hwk⟩ : ∃ q, walkR M D k hd al = q := ⟨_, rfl⟩
  have hall := walk_all HDD.out.2 D k hk2 hd al
  have hord := walk_ordd HDD.out.2 D k hk2 hd al
  rw [hwk] at hall hord
  have HL : Hid ((∀ s ∈ wl, SegOk s) ∧ wl.length ≤ 511 ∧ (we ≠ 0 → wl = [] ∧ wta = 0 ∧ wtl = 0) ∧ (wtl = 0 ∨ al = true ∧ inB wta wtl 2147483648 8192 = true) ∧ Ordd wl ∧ wta < 18446744073709551616 ∧ wtl ≤ 4096) := ⟨hall.1, hord.2, hall.2.2.1, hall.2.2.2.1, hord.1, hall.2.2.2.2.1, hall.2.2.2.2.2.1⟩
  have K15 : Hid (∀ V, Below w4.heap.size w4 V → Calls Try.prog 15 #[.pointer (some ⟨rb, 0, none⟩)] V fun e w' => ∃ rb2 F2, e = .returned (.pointer (some ⟨rb2, 0, none⟩)) ∧ RamAt w' F2 rb2 8192 12000 (.pointer none) M ∧ Below V.heap.size V w') := fun V hV => (copy_any (HB4.out.1.1.below hV) (by omega)).mono fun e w' ⟨rb2, F2, h1, h2, _, h4⟩ => ⟨rb2, F2, h1, h2, h4⟩
  have K12 : Hid (∀ V, Below w4.heap.size w4 V → Calls Try.prog 12 #[.pointer (some ⟨rb, 0, none⟩), .agg #[.int .i64 (k : Int), .int .u64 (D : Int), .int .u64 (A : Int), .int .u64 (Uu : Int)], .int .i64 hd, .bool al] V fun e w' => ∃ a1 c1, e = .returned (.tuple #[.agg #[.slice a1 wl.length c1, .int .u64 (wta : Int), .int .u64 (wtl : Int)], .int .i64 (we : Int)]) ∧ SegIn 0 w' (.slice a1 wl.length c1) wl ∧ Below V.heap.size V w') := by
    intro V hV
    have := walk_nil (HB4.out.1.1.below hV) k D A Uu hk2 hd al
    rw [hwk] at this
    refine this.mono ?_
    rintro e w' ⟨v, he, hs, hb⟩
    obtain ⟨a1, c1, rfl⟩ := hs.form
    exact ⟨a1, c1, he, hs.low, hb⟩
  have K16 : Hid (∀ V F2 rb2, Below w4.heap.size w4 V → RamAt V F2 rb2 8192 12000 (.pointer none) M → Calls Try.prog 16 #[.pointer (some ⟨rb, 0, none⟩), .pointer (some ⟨rb2, 0, none⟩)] V fun e w' => e = .returned (.bool true) ∧ Below V.heap.size V w') := fun V F2 rb2 hV h2 => same_any (HB4.out.1.1.below hV) h2 (by omega) (by omega) (by omega) 0 0 (fun z hz => by obtain ⟨i, _, h⟩ := hz; exact absurd rfl h) true ⟨fun _ _ => rfl, fun _ => rfl⟩
  clear hall hord hwk HCH HU HW hk2
  obtain ⟨L, hL⟩ : ∃ L, wl.length = L := ⟨_, rfl⟩
  rw [hL] at K12
  have HLL : Hid (wl.length = L) := hL
  clear hL
  go_upto_region 7 with (go_at_call 15; refine (K15.out _ (Below.refl _ _)).mono ?_; rintro e w5 ⟨rb2, F2, rfl, hr2, hb5⟩; have X5 : Hid (Sp W w5 (k : Int) D A Uu hd al p a n c ∧ RamAt w5 F2 rb2 8192 12000 (.pointer none) M ∧ Below w4.heap.size w4 w5) := ⟨X4.out.below hb5, hr2, hb5⟩; clear hb5 hr2 X4)
  obtain ⟨a0, a1, a2, a3, a4, a5⟩ := box6_facts X5.out.1.1.1
  go_upto_region 8 with (go_at_call 12; refine (K12.out _ X5.out.2.2).mono ?_; rintro e w6 ⟨s1, c1, rfl, hs6, hb6⟩; have X6 : Hid (Sp W w6 (k : Int) D A Uu hd al p a n c ∧ RamAt w6 F2 rb2 8192 12000 (.pointer none) M ∧ Below w4.heap.size w4 w6 ∧ SegIn 0 w6 (.slice s1 L c1) wl) := ⟨X5.out.1.below hb6, X5.out.2.1.below hb6, below_to X5.out.2.2 hb6, hs6⟩; clear hb6 hs6 a0 a1 a2 a3 a4 a5 X5)
  have hb7 : Below w6.heap.size w6 (w6.alloc (.cells #[.slice s1 L c1, .int .u64 (wta : Int), .int .u64 (wtl : Int)] 40)) := (Below.refl _ _).alloc (Nat.le_refl _) _
  have X7 : Hid ((Sp W (w6.alloc (.cells #[.slice s1 L c1, .int .u64 (wta : Int), .int .u64 (wtl : Int)] 40)) (k : Int) D A Uu hd al p a n c ∧ SegIn 0 (w6.alloc (.cells #[.slice s1 L c1, .int .u64 (wta : Int), .int .u64 (wtl : Int)] 40)) (.slice s1 L c1) wl ∧ (w6.alloc (.cells #[.slice s1 L c1, .int .u64 (wta : Int), .int .u64 (wtl : Int)] 40)).heap[w6.heap.size]? = some (.cells #[.slice s1 L c1, .int .u64 (wta : Int), .int .u64 (wtl : Int)] 40 (0, 0))) ∧ RamAt (w6.alloc (.cells #[.slice s1 L c1, .int .u64 (wta : Int), .int .u64 (wtl : Int)] 40)) F2 rb2 8192 12000 (.pointer none) M ∧ Below w4.heap.size w4 (w6.alloc (.cells #[.slice s1 L c1, .int .u64 (wta : Int), .int .u64 (wtl : Int)] 40))) := ⟨⟨X6.out.1.below hb7, X6.out.2.2.2.kept (fun g hg => hb7.block g (X6.out.2.2.2.lt g hg).2), heap_alloc_new _ _⟩, X6.out.2.1.below hb7, below_to X6.out.2.2.1 hb7⟩
  clear hb7 X6
  generalize w6.alloc (.cells #[.slice s1 L c1, .int .u64 (wta : Int), .int .u64 (wtl : Int)] 40) = w7 at *
  generalize w6.heap.size = q at *
  obtain ⟨b0, b1, b2⟩ := box3_facts X7.out.1.2.2
  have hL5 : L ≤ 511 := by have := HL.out.2.1; have := HLL.out; omega
  have hL6 : ¬ (511 : Int) < (L : Int) := by omega
  have ARM16 : True := trivial
  go_upto_region 8 with fail
  go_cut [66] (fun x wx => x = .bool false ∧ (Sp W wx (k : Int) D A Uu hd al p a n c ∧ SegIn 0 wx (.slice s1 L c1) wl ∧ wx.heap[q]? = some (.cells #[.slice s1 L c1, .int .u64 (wta : Int), .int .u64 (wtl : Int)] 40 (0, 0))))
  case first =>
    by_cases hz : we = 0
    · subst hz
      go_wp2_with (go_at_call 16; refine (K16.out _ F2 rb2 X7.out.2.2 X7.out.2.1).mono ?_; rintro e w8 ⟨rfl, hb⟩; have X8 : Hid (Sp W w8 (k : Int) D A Uu hd al p a n c ∧ SegIn 0 w8 (.slice s1 L c1) wl ∧ w8.heap[q]? = some (.cells #[.slice s1 L c1, .int .u64 (wta : Int), .int .u64 (wtl : Int)] 40 (0, 0))) := ⟨X7.out.1.1.below hb, X7.out.1.2.1.kept (fun g hg => hb.block g (X7.out.1.2.1.lt g hg).2), below_box X7.out.1.2.2 hb⟩; clear hb b0 b1 b2; obtain ⟨b0, b1, b2⟩ := box3_facts X8.out.2.2)
      go_meet
      exact ⟨congrArg Value.bool (decide_eq_false (Int.not_lt.2 hL6)), X8.out⟩
    · have hz1 : ((we : Int) != 0) = true := by simp; omega
      obtain ⟨rfl, rfl, rfl⟩ := HL.out.2.2.1 hz
      have hl0 : L = 0 := HLL.out.symm
      subst hl0
      clear hz
      go_wp2_with (go_at_call 16; refine (K16.out _ F2 rb2 X7.out.2.2 X7.out.2.1).mono ?_; rintro e w8 ⟨rfl, hb⟩; have X8 : Hid (Sp W w8 (k : Int) D A Uu hd al p a n c ∧ SegIn 0 w8 (.slice s1 0 c1) [] ∧ w8.heap[q]? = some (.cells #[.slice s1 0 c1, .int .u64 ((0 : Nat) : Int), .int .u64 ((0 : Nat) : Int)] 40 (0, 0))) := ⟨X7.out.1.1.below hb, X7.out.1.2.1.kept (fun g hg => hb.block g (X7.out.1.2.1.lt g hg).2), below_box X7.out.1.2.2 hb⟩; clear hb b0 b1 b2; obtain ⟨b0, b1, b2⟩ := box3_facts X8.out.2.2)
      go_meet
      exact ⟨rfl, X8.out⟩
  case rest =>
  obtain ⟨rfl, ht⟩ := hcut
  have X8 : Hid (Sp W wc (k : Int) D A Uu hd al p a n c ∧ SegIn 0 wc (.slice s1 L c1) wl ∧ wc.heap[q]? = some (.cells #[.slice s1 L c1, .int .u64 (wta : Int), .int .u64 (wtl : Int)] 40 (0, 0))) := ht
  clear ht X7 b0 b1 b2
  go_wp2_with fail
  go_loopw [10] (fun x wr => ∃ i : Nat, i ≤ L ∧ x = .int .i64 (i : Int) ∧ (Sp W wr (k : Int) D A Uu hd al p a n c ∧ SegIn 0 wr (.slice s1 L c1) wl ∧ wr.heap[q]? = some (.cells #[.slice s1 L c1, .int .u64 (wta : Int), .int .u64 (wtl : Int)] 40 (0, 0)))) (fun x _ => L - (intOf x).toNat)
  case atStart => exact ⟨0, Nat.zero_le _, rfl, X8.out⟩
  case round =>
    obtain ⟨i, hi, rfl, hx⟩ := hrel
    have X9 : Hid (Sp W wr (k : Int) D A Uu hd al p a n c ∧ SegIn 0 wr (.slice s1 L c1) wl ∧ wr.heap[q]? = some (.cells #[.slice s1 L c1, .int .u64 (wta : Int), .int .u64 (wtl : Int)] 40 (0, 0))) := hx
    clear hx X8
    obtain ⟨b0, b1, b2⟩ := box3_facts X9.out.2.2
    by_cases hlt : i < L
    case neg =>
      have h1 : ¬ (i : Int) < (L : Int) := by omega
      obtain ⟨a0, a1, a2, a3, a4, a5⟩ := box6_facts X9.out.1.1.1
      obtain ⟨r0, r1, _, _⟩ := box_facts X9.out.1.2
      rcases HL.out.2.2.2.1 with h0 | ⟨h0, h2⟩
      · subst h0
        go_wp2_with fail
        go_ret
        exact ⟨rfl, X9.out.1.1.2⟩
      · subst h0
        have H17 : Hid (∀ V, Calls Try.prog 17 #[.agg #[.int .u64 8192, .slice a n c], .int .u64 (wta : Int), .int .u64 (wtl : Int)] V fun e w' => e = .returned (.bool true) ∧ Below V.heap.size V w') := by
          intro V
          rw [← h2]
          exact (rhas_any 8192 wta wtl (.slice a n c) (by omega) HL.out.2.2.2.2.2.1 (by have := HL.out.2.2.2.2.2.2; omega) V).mono fun e w' ⟨he, hb⟩ => ⟨he, hb⟩
        clear h2
        by_cases hz : wtl = 0
        · subst hz
          go_wp2_with fail
          go_ret
          exact ⟨rfl, X9.out.1.1.2⟩
        · have hz1 : ((wtl : Int) == 0) = false := by simp; omega
          go_wp2_with (go_at_call 17; refine (H17.out _).mono ?_; rintro e w10 ⟨rfl, hb⟩; have XA : Hid (Below W.heap.size W w10) := below_to X9.out.1.1.2 hb; clear hb)
          go_ret
          exact ⟨rfl, XA.out⟩
    case pos =>
      have h1 : (i : Int) < (L : Int) := by omega
      have hil : i < wl.length := by have := HLL.out; omega
      have hsg := X9.out.2.1
      have hform := hsg.form
      obtain ⟨g, c', hsl, hcl⟩ := hsg.cells (by omega)
      simp only [Value.slice.injEq] at hsl
      obtain ⟨rfl, -, rfl⟩ := hsl
      have hcl' : ∀ j, i = j + 1 → wr.cell? ⟨g, j * 3 + 2, none⟩ = some (.bool (wl.getD j ⟨0, 0, false⟩).wr) := fun j hj => by
        have := (hcl j (by omega)).2.2
        rw [this]
        simp [List.getD, show j < wl.length from by omega]
      obtain ⟨x1, y1, z1⟩ := hcl i hil
      have hok := HL.out.1 _ (List.getElem_mem hil)
      have hpo : ∀ j, i = j + 1 → (wl.getD j ⟨0, 0, false⟩).wr = true → (wl[i]).wr = true := fun j hj hw => by
        subst hj
        refine HL.out.2.2.2.2.1 j hil ?_
        simpa [List.getD, show j < wl.length from by omega] using hw
      have hgl : g < wr.heap.size := (hsg.lt g rfl).2
      obtain ⟨sa, hsa⟩ : ∃ sa, (wl[i]).a = sa := ⟨_, rfl⟩
      obtain ⟨sl, hsl⟩ : ∃ sl, (wl[i]).l = sl := ⟨_, rfl⟩
      obtain ⟨sw, hsw⟩ : ∃ sw, (wl[i]).wr = sw := ⟨_, rfl⟩
      have H17 : Hid (∀ V, Calls Try.prog 17 #[.agg #[.int .u64 8192, .slice a n c], .int .u64 (sa : Int), .int .u64 (sl : Int)] V fun e w' => e = .returned (.bool true) ∧ Below V.heap.size V w') := by
        intro V
        have h2 := hok.i
        rw [hsa, hsl] at h2
        rw [← h2]
        exact (rhas_any 8192 sa sl (.slice a n c) (by omega) (by rw [← hsa]; exact hok.a) (by have := hok.l; rw [hsl] at this; omega) V).mono fun e w' ⟨he, hb⟩ => ⟨he, hb⟩
      rw [hsa] at x1
      rw [hsl] at y1
      rw [hsw] at z1 hpo
      have HC : Hid ((∀ j, i = j + 1 → wr.cell? ⟨g, j * 3 + 2, none⟩ = some (.bool (wl.getD j ⟨0, 0, false⟩).wr)) ∧ g < wr.heap.size ∧ (∀ j, i = j + 1 → (wl.getD j ⟨0, 0, false⟩).wr = true → sw = true)) := ⟨hcl', hgl, hpo⟩
      clear hcl hcl' hok hpo hgl hsa hsl hsw hsg hform
      go_upto_region 14 with fail
      have hb9 : Below wr.heap.size wr (wr.alloc (.cells #[.int .u64 (sa : Int), .int .u64 (sl : Int), .bool sw] 52)) := (Below.refl _ _).alloc (Nat.le_refl _) _
      have XA : Hid ((Sp W (wr.alloc (.cells #[.int .u64 (sa : Int), .int .u64 (sl : Int), .bool sw] 52)) (k : Int) D A Uu hd al p a n c ∧ SegIn 0 (wr.alloc (.cells #[.int .u64 (sa : Int), .int .u64 (sl : Int), .bool sw] 52)) (.slice (some ⟨g, 0, none⟩) L c1) wl ∧ (wr.alloc (.cells #[.int .u64 (sa : Int), .int .u64 (sl : Int), .bool sw] 52)).heap[q]? = some (.cells #[.slice (some ⟨g, 0, none⟩) L c1, .int .u64 (wta : Int), .int .u64 (wtl : Int)] 40 (0, 0))) ∧ (wr.alloc (.cells #[.int .u64 (sa : Int), .int .u64 (sl : Int), .bool sw] 52)).heap[wr.heap.size]? = some (.cells #[.int .u64 (sa : Int), .int .u64 (sl : Int), .bool sw] 52 (0, 0)) ∧ Below wr.heap.size wr (wr.alloc (.cells #[.int .u64 (sa : Int), .int .u64 (sl : Int), .bool sw] 52))) := ⟨⟨X9.out.1.below hb9, X9.out.2.1.kept (fun g hg => hb9.block g (X9.out.2.1.lt g hg).2), below_box X9.out.2.2 hb9⟩, heap_alloc_new _ _, hb9⟩
      clear hb9 b0 b1 b2 x1 y1 z1 X9
      have HV : Hid (wr.heap.size = wr.heap.size) := rfl
      generalize wr.alloc (.cells #[.int .u64 (sa : Int), .int .u64 (sl : Int), .bool sw] 52) = w9 at *
      obtain ⟨r0, r1, _, _⟩ := box_facts XA.out.1.1.2
      obtain ⟨t0, t1, t2⟩ := box3_facts XA.out.2.1
      by_cases hi0 : i = 0
      · subst hi0
        go_wp2_with (go_at_call 17; refine (H17.out _).mono ?_; rintro e w10 ⟨rfl, hb⟩; have XB : Hid (Sp W w10 (k : Int) D A Uu hd al p a n c ∧ SegIn 0 w10 (.slice (some ⟨g, 0, none⟩) L c1) wl ∧ w10.heap[q]? = some (.cells #[.slice (some ⟨g, 0, none⟩) L c1, .int .u64 (wta : Int), .int .u64 (wtl : Int)] 40 (0, 0))) := ⟨XA.out.1.1.below hb, XA.out.1.2.1.kept (fun g hg => hb.block g (XA.out.1.2.1.lt g hg).2), below_box XA.out.1.2.2 hb⟩; clear hb)
        go_roundw
        case rel => exact ⟨0 + 1, by omega, by go_num, XB.out⟩
        case measure => simp [intOf]; omega
      · obtain ⟨j, rfl⟩ : ∃ j, i = j + 1 := ⟨i - 1, by omega⟩
        obtain ⟨g1, g4, g5, g6⟩ := prev_facts hlt hL5
        have HJ : Hid (j + 1 + 1 ≤ L ∧ L - (j + 1 + 1) < L - (j + 1)) := ⟨hlt, prev_less hlt⟩
        have HCC : Hid (∀ V, Below wr.heap.size wr V → V.cell? ⟨g, j * 3 + 2, none⟩ = some (.bool (wl.getD j ⟨0, 0, false⟩).wr)) := fun V hV => (hV.cell (p := ⟨g, j * 3 + 2, none⟩) HC.out.2.1).trans (HC.out.1 j rfl)
        have hpo := HC.out.2.2 j rfl
        generalize (wl.getD j ⟨0, 0, false⟩).wr = pw at *
        obtain ⟨ii, hii⟩ : ∃ ii : Int, ((j + 1 : Nat) : Int) = ii := ⟨_, rfl⟩
        rw [hii] at g1 g4 h1 ⊢
        have HII : Hid (((j + 1 : Nat) : Int) = ii) := hii
        clear hii HC hil hlt hi0
        cases pw with
        | false =>
          clear hpo
          go_wp2_with (go_at_call 17; refine (H17.out _).mono ?_; rintro e w10 ⟨rfl, hb⟩; have XB : Hid (Sp W w10 (k : Int) D A Uu hd al p a n c ∧ SegIn 0 w10 (.slice (some ⟨g, 0, none⟩) L c1) wl ∧ w10.heap[q]? = some (.cells #[.slice (some ⟨g, 0, none⟩) L c1, .int .u64 (wta : Int), .int .u64 (wtl : Int)] 40 (0, 0))) := ⟨XA.out.1.1.below hb, XA.out.1.2.1.kept (fun g hg => hb.block g (XA.out.1.2.1.lt g hg).2), below_box XA.out.1.2.2 hb⟩; have z9 := HCC.out _ (below_to XA.out.2.2 hb); clear hb r0 r1 t0 t1 t2; obtain ⟨b0, b1, b2⟩ := box3_facts XB.out.2.2)
          go_roundw
          case rel => exact ⟨j + 1 + 1, HJ.out.1, by rw [← HII.out]; go_num, XB.out⟩
          case measure => rw [← HII.out]; exact HJ.out.2
        | true =>
          have hsw : sw = true := hpo rfl
          subst hsw
          clear hpo
          go_wp2_with (go_at_call 17; refine (H17.out _).mono ?_; rintro e w10 ⟨rfl, hb⟩; have XB : Hid (Sp W w10 (k : Int) D A Uu hd al p a n c ∧ SegIn 0 w10 (.slice (some ⟨g, 0, none⟩) L c1) wl ∧ w10.heap[q]? = some (.cells #[.slice (some ⟨g, 0, none⟩) L c1, .int .u64 (wta : Int), .int .u64 (wtl : Int)] 40 (0, 0))) := ⟨XA.out.1.1.below hb, XA.out.1.2.1.kept (fun g hg => hb.block g (XA.out.1.2.1.lt g hg).2), below_box XA.out.1.2.2 hb⟩; have z9 := HCC.out _ (below_to XA.out.2.2 hb); have tt := below_box XA.out.2.1 hb; clear hb r0 r1 t0 t1 t2; obtain ⟨b0, b1, b2⟩ := box3_facts XB.out.2.2; obtain ⟨t0, t1, t2⟩ := box3_facts tt; clear tt)
          go_roundw
          case rel => exact ⟨j + 1 + 1, HJ.out.1, by rw [← HII.out]; go_num, XB.out⟩
          case measure => rw [← HII.out]; exact HJ.out.2
end Go.Proofs.Ytcgjfklglckjcaa
