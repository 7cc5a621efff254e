/- The statements' beginning; ChainWalks. -/
import Derived.Test.YtcgjfklglckjcaaAw
import Derived.Test.YtcgjfklglckjcaaOp
import Derived.Test.YtcgjfklglckjcaaRd
import Derived.Test.YtcgjfklglckjcaaRf
namespace Go.Proofs.Ytcgjfklglckjcaa
open Go.RowKit Go.Maps
set_option linter.unusedVariables false
set_option linter.unusedSimpArgs false
set_option maxRecDepth 100000
theorem both_ddesc {F : Nat → Prop} {w : World} {rb n N vc : Nat} {va : Option Addr} {M : Nat → Nat} (h : Both F w rb 8192 (.slice va n vc) N M) (hN : N ≤ 1000000) : DDesc w va n vc M := by
  have hle := h.1.le
  intro V hV t i hi
  cases hb : deB t i with
  | false =>
    rw [deN_no hb]
    have hin : inB (deX t i) 16 2147483648 8192 = false := by simpa [deB, hi] using hb
    exact rdesc_out va n vc t (deX t i) i hi rfl hin V
  | true =>
    have hin : inB (deX t i) 16 2147483648 8192 = true := by simp only [deB, Bool.and_eq_true, decide_eq_true_iff] at hb; exact hb.2
    obtain ⟨nb, bs, h1, ⟨a', c', hsl⟩, h3, h4, h5⟩ := h.2
    simp only [Value.slice.injEq] at hsl
    obtain ⟨rfl, rfl, rfl⟩ := hsl
    exact rdesc_in (h3.below hV) h4 hle (by omega) t (deX t i) i hi rfl hin _ _ _ _ (deN_at hb)
def Sm (W V : World) (s : Int) (D A Uu : Nat) (hd : Int) (al : Bool) : Prop := V.heap[W.heap.size]? = some (.cells #[.int .i64 s, .int .u64 (D : Int), .int .u64 (A : Int), .int .u64 (Uu : Int), .int .i64 hd, .bool al] 27 (0, 0)) ∧ Below W.heap.size W V
def Sp (W V : World) (s : Int) (D A Uu : Nat) (hd : Int) (al : Bool) (p : Nat) (a : Option Addr) (n c : Nat) : Prop := Sm W V s D A Uu hd al ∧ V.heap[p]? = some (.cells #[.int .u64 8192, .slice a n c] 32 (0, 0))
section
variable {W V V2 : World} {s : Int} {D A Uu : Nat} {hd : Int} {al : Bool} {p : Nat} {a : Option Addr} {n c : Nat}
theorem Sm.below (h : Sm W V s D A Uu hd al) (hb : Below V.heap.size V V2) : Sm W V2 s D A Uu hd al := ⟨below_box h.1 hb, below_to h.2 hb⟩
theorem Sp.below (h : Sp W V s D A Uu hd al p a n c) (hb : Below V.heap.size V V2) : Sp W V2 s D A Uu hd al p a n c := ⟨h.1.below hb, below_box h.2 hb⟩
end
theorem one_in (w : World) (o : Obj) : (w.alloc o).heap[w.heap.size]? = some o ∧ Below w.heap.size w (w.alloc o) := ⟨heap_alloc_new _ _, (Below.refl _ _).alloc (Nat.le_refl _) _⟩
theorem two_inB (w : World) (o1 o2 : Obj) : (((w.alloc o1).alloc o2).heap[w.heap.size]? = some o1 ∧ Below w.heap.size w ((w.alloc o1).alloc o2)) ∧ ((w.alloc o1).alloc o2).heap[w.heap.size + 1]? = some o2 := ⟨⟨(two_in w o1 o2).1, ((Below.refl _ _).alloc (Nat.le_refl _) _).alloc (by simp) _⟩, (two_in w o1 o2).2⟩
set_option maxHeartbeats 4000000 in
theorem walks_core (W : World) (v : Value) (len : Nat) (ps : Nat → PutD) (hws : PutsIn W v len ps) (s : Int) (D A Uu : Nat) (hd : Int) (al : Bool) (hD : D < 18446744073709551616) (hA : A < 18446744073709551616) (hU : Uu < 18446744073709551616) : Calls Try.prog 3 #[v, .agg #[.int .i64 s, .int .u64 (D : Int), .int .u64 (A : Int), .int .u64 (Uu : Int), .int .i64 hd, .bool al]] W fun e w' => e = .returned (.bool true) ∧ Below W.heap.size W w' := by
  have X0 : Hid (Sm W (W.alloc (.cells #[.int .i64 s, .int .u64 (D : Int), .int .u64 (A : Int), .int .u64 (Uu : Int), .int .i64 hd, .bool al] 27)) s D A Uu hd al) := one_in W _
  have HW : Hid (PutsIn W v len ps) := hws
  have HU : Hid (D < 18446744073709551616 ∧ A < 18446744073709551616 ∧ Uu < 18446744073709551616) := ⟨hD, hA, hU⟩
  clear hws hD hA hU
  go_enter Try.func3, Try.ntmps3
  go_upto_region 1 with fail
  generalize W.alloc (.cells #[.int .i64 s, .int .u64 (D : Int), .int .u64 (A : Int), .int .u64 (Uu : Int), .int .i64 hd, .bool al] 27) = v0 at *
  go_upto_region 3 with (go_at_call 9; refine (awake_any _).mono ?_; rintro e w1 ⟨rfl, hb1⟩; have X1 : Hid (Sm W w1 s D A Uu hd al) := X0.out.below hb1; clear hb1 X0)
  go_upto_region 4 with (go_at_call 10; refine (memory_any _ len ps _ (HW.out.up X1.out.2)).mono ?_; rintro e w2 ⟨pv, a, n, c, rfl, hb2, hor⟩; have X2 : Hid (Sm W w2 s D A Uu hd al) := X1.out.below hb2)
  have hb3 : Below w2.heap.size w2 (w2.alloc (.cells #[.int .u64 8192, .slice a n c] 32)) := (Below.refl _ _).alloc (Nat.le_refl _) _
  have X3 : Hid ((Sp W (w2.alloc (.cells #[.int .u64 8192, .slice a n c] 32)) s D A Uu hd al w2.heap.size a n c)) := ⟨X2.out.below hb3, heap_alloc_new _ _⟩
  have Z3 : Hid ((pv = .pointer none ∧ 0 < len) ∨ ∃ rb F M, pv = .pointer (some ⟨rb, 0, none⟩) ∧ Both F (w2.alloc (.cells #[.int .u64 8192, .slice a n c] 32)) rb 8192 (.slice a n c) 12000 M ∧ (∀ k, F k → W.heap.size ≤ k) ∧ ¬ F w2.heap.size) := hor.imp id (fun ⟨rb, F, M, h1, h2, h3⟩ => ⟨rb, F, M, h1, h2.below hb3, fun k hk => Nat.le_trans X1.out.2.size (h3 k hk), fun hf => by have := h2.1.lt _ hf; omega⟩)
  clear hor hb2 hb3 X1 X2
  generalize w2.alloc (.cells #[.int .u64 8192, .slice a n c] 32) = w3 at *
  generalize w2.heap.size = p at *
  obtain ⟨a0, a1, a2, a3, a4, a5⟩ := box6_facts X3.out.1.1
  obtain ⟨r0, r1, _, _⟩ := box_facts X3.out.2
  rcases Z3.out with ⟨rfl, _⟩ | ⟨rb, F, M, rfl, hB, hF, hFp⟩
  · clear Z3
    go_wp2_with fail
    go_ret
    exact ⟨rfl, X3.out.1.2⟩
  have HB : Hid (Both F w3 rb 8192 (.slice a n c) 12000 M ∧ (∀ k, F k → W.heap.size ≤ k) ∧ ¬ F p) := ⟨hB, hF, hFp⟩
  clear hB hF hFp Z3
  obtain ⟨ce, hce⟩ : ∃ ce, chkN s D A Uu 8192 = ce := ⟨_, rfl⟩
  have K11 : Hid (∀ V, Calls Try.prog 11 #[.agg #[.int .u64 8192, .slice a n c], .agg #[.int .i64 s, .int .u64 (D : Int), .int .u64 (A : Int), .int .u64 (Uu : Int)]] V fun e w' => e = .returned (.int .i64 ce) ∧ Below V.heap.size V w') := by
    intro V
    rw [← hce]
    exact rcheck_any HU.out.1 HU.out.2.1 HU.out.2.2 8192 (by omega) a n c V
  by_cases hc0 : ce = 0
  case neg =>
    have q1 : (ce != 0) = true := by simp [hc0]
    clear hc0 hce
    go_wp2_with (go_at_call 11; refine (K11.out _).mono ?_; rintro e w4 ⟨rfl, hb4⟩; have X4 : Hid (Below W.heap.size W w4) := below_to X3.out.1.2 hb4; clear hb4)
    go_ret
    exact ⟨rfl, X4.out⟩
  subst hc0
  obtain ⟨k, rfl, hk1, hk2, _⟩ := chk_zero hce
  have HCH : Hid (chkN (k : Int) D A Uu 8192 = 0) := hce
  clear hce hk1
  go_upto_region 6 with (go_at_call 11; refine (K11.out _).mono ?_; rintro e w4 ⟨rfl, hb4⟩; have X4 : Hid ((Sp W w4 (k : Int) D A Uu hd al p a n c)) := X3.out.below hb4; have HB4 : Hid (Both F w4 rb 8192 (.slice a n c) 12000 M ∧ (∀ k, F k → W.heap.size ≤ k) ∧ ¬ F p) := ⟨HB.out.1.below hb4, HB.out.2⟩; clear hb4 a0 a1 a2 a3 a4 a5 r0 r1)
  clear X3 HB K11
  have HDD : Hid (DDesc w4 a n c M ∧ ∀ a, M a ≤ 255) := ⟨both_ddesc HB4.out.1 (by omega), HB4.out.1.1.le⟩
  obtain ⟨⟨we, wl, wta, wtl⟩, hwk⟩ : ∃ q, walkR M D k hd al = q := ⟨_, rfl⟩
  have hall := walk_all HDD.out.2 D k hk2 hd al
  rw [hwk] at hall
  have HL : Hid (wl.length ≤ 1000) := Nat.le_trans hall.2.1 (by decide)
  have K12 : Hid (∀ V, Below w4.heap.size w4 V → Calls Try.prog 12 #[.pointer (some ⟨rb, 0, none⟩), .agg #[.int .i64 (k : Int), .int .u64 (D : Int), .int .u64 (A : Int), .int .u64 (Uu : Int)], .int .i64 hd, .bool al] V fun e w' => ∃ a1 c1, e = .returned (.tuple #[.agg #[.slice a1 wl.length c1, .int .u64 (wta : Int), .int .u64 (wtl : Int)], .int .i64 (we : Int)]) ∧ SegIn 0 w' (.slice a1 wl.length c1) wl ∧ Below V.heap.size V w') := by
    intro V hV
    have := walk_nil (HB4.out.1.1.below hV) k D A Uu hk2 hd al
    rw [hwk] at this
    refine this.mono ?_
    rintro e w' ⟨v, he, hs, hb⟩
    obtain ⟨a1, c1, rfl⟩ := hs.form
    exact ⟨a1, c1, he, hs.low, hb⟩
  have K13 : Hid (∀ V, Below w4.heap.size w4 V → Calls Try.prog 13 #[.agg #[.int .u64 8192, .slice a n c], .agg #[.int .i64 (k : Int), .int .u64 (D : Int), .int .u64 (A : Int), .int .u64 (Uu : Int)], .int .i64 hd, .bool al] V fun e w' => ∃ a2 c2, e = .returned (.tuple #[.agg #[.slice a2 wl.length c2, .int .u64 (wta : Int), .int .u64 (wtl : Int)], .int .i64 (we : Int)]) ∧ SegIn 0 w' (.slice a2 wl.length c2) wl ∧ Below V.heap.size V w') := by
    intro V hV
    have := dwalk_any HDD.out.2 HDD.out.1 k D A Uu hk2 hd al hV
    rw [hwk] at this
    refine this.mono ?_
    rintro e w' ⟨a2, L2, c2, he, hs, hb⟩
    obtain ⟨a3, c3, h3⟩ := hs.form
    simp only [Value.slice.injEq] at h3
    obtain ⟨rfl, rfl, rfl⟩ := h3
    exact ⟨_, _, he, hs, hb⟩
  clear hall hwk HCH HU HW hk2
  obtain ⟨a0, a1, a2, a3, a4, a5⟩ := box6_facts X4.out.1.1
  obtain ⟨L, hL⟩ : ∃ L, wl.length = L := ⟨_, rfl⟩
  rw [hL] at K12 K13
  have HLL : Hid (wl.length = L) := hL
  clear hL
  go_upto_region 7 with (go_at_call 12; refine (K12.out _ (Below.refl _ _)).mono ?_; rintro e w5 ⟨s1, c1, rfl, hs5, hb5⟩; have X5 : Hid (Sp W w5 (k : Int) D A Uu hd al p a n c ∧ SegIn 0 w5 (.slice s1 L c1) wl ∧ Below w4.heap.size w4 w5) := ⟨X4.out.below hb5, hs5, hb5⟩; clear hb5 hs5 a0 a1 a2 a3 a4 a5 X4)
  have hb6 : Below w5.heap.size w5 (w5.alloc (.cells #[.slice s1 L c1, .int .u64 (wta : Int), .int .u64 (wtl : Int)] 40)) := (Below.refl _ _).alloc (Nat.le_refl _) _
  have X6 : Hid (Sp W (w5.alloc (.cells #[.slice s1 L c1, .int .u64 (wta : Int), .int .u64 (wtl : Int)] 40)) (k : Int) D A Uu hd al p a n c ∧ SegIn 0 (w5.alloc (.cells #[.slice s1 L c1, .int .u64 (wta : Int), .int .u64 (wtl : Int)] 40)) (.slice s1 L c1) wl ∧ Below w4.heap.size w4 (w5.alloc (.cells #[.slice s1 L c1, .int .u64 (wta : Int), .int .u64 (wtl : Int)] 40)) ∧ (w5.alloc (.cells #[.slice s1 L c1, .int .u64 (wta : Int), .int .u64 (wtl : Int)] 40)).heap[w5.heap.size]? = some (.cells #[.slice s1 L c1, .int .u64 (wta : Int), .int .u64 (wtl : Int)] 40 (0, 0))) := ⟨X5.out.1.below hb6, X5.out.2.1.kept (fun g hg => hb6.block g (X5.out.2.1.lt g hg).2), below_to X5.out.2.2 hb6, heap_alloc_new _ _⟩
  clear hb6 X5
  generalize w5.alloc (.cells #[.slice s1 L c1, .int .u64 (wta : Int), .int .u64 (wtl : Int)] 40) = w6 at *
  generalize w5.heap.size = q1 at *
  obtain ⟨a0, a1, a2, a3, a4, a5⟩ := box6_facts X6.out.1.1.1
  obtain ⟨r0, r1, _, _⟩ := box_facts X6.out.1.2
  go_upto_region 8 with (go_at_call 13; refine (K13.out _ X6.out.2.2.1).mono ?_; rintro e w7 ⟨s2, c2, rfl, hs7, hb7⟩; have X7 : Hid (Below W.heap.size W w7 ∧ SegIn 0 w7 (.slice s1 L c1) wl ∧ SegIn 0 w7 (.slice s2 L c2) wl ∧ w7.heap[q1]? = some (.cells #[.slice s1 L c1, .int .u64 (wta : Int), .int .u64 (wtl : Int)] 40 (0, 0))) := ⟨below_to X6.out.1.1.2 hb7, X6.out.2.1.kept (fun g hg => hb7.block g (X6.out.2.1.lt g hg).2), hs7, below_box X6.out.2.2.2 hb7⟩; clear hb7 hs7 a0 a1 a2 a3 a4 a5 r0 r1)
  clear X6
  have hb8 : Below w7.heap.size w7 (w7.alloc (.cells #[.slice s2 L c2, .int .u64 (wta : Int), .int .u64 (wtl : Int)] 44)) := (Below.refl _ _).alloc (Nat.le_refl _) _
  have X8 : Hid (Below W.heap.size W (w7.alloc (.cells #[.slice s2 L c2, .int .u64 (wta : Int), .int .u64 (wtl : Int)] 44)) ∧ SegIn 0 (w7.alloc (.cells #[.slice s2 L c2, .int .u64 (wta : Int), .int .u64 (wtl : Int)] 44)) (.slice s1 L c1) wl ∧ SegIn 0 (w7.alloc (.cells #[.slice s2 L c2, .int .u64 (wta : Int), .int .u64 (wtl : Int)] 44)) (.slice s2 L c2) wl ∧ (w7.alloc (.cells #[.slice s2 L c2, .int .u64 (wta : Int), .int .u64 (wtl : Int)] 44)).heap[q1]? = some (.cells #[.slice s1 L c1, .int .u64 (wta : Int), .int .u64 (wtl : Int)] 40 (0, 0)) ∧ (w7.alloc (.cells #[.slice s2 L c2, .int .u64 (wta : Int), .int .u64 (wtl : Int)] 44)).heap[w7.heap.size]? = some (.cells #[.slice s2 L c2, .int .u64 (wta : Int), .int .u64 (wtl : Int)] 44 (0, 0))) := ⟨below_to X7.out.1 hb8, X7.out.2.1.kept (fun g hg => hb8.block g (X7.out.2.1.lt g hg).2), X7.out.2.2.1.kept (fun g hg => hb8.block g (X7.out.2.2.1.lt g hg).2), below_box X7.out.2.2.2 hb8, heap_alloc_new _ _⟩
  clear hb8 X7
  generalize w7.alloc (.cells #[.slice s2 L c2, .int .u64 (wta : Int), .int .u64 (wtl : Int)] 44) = w8 at *
  generalize w7.heap.size = q2 at *
  obtain ⟨b0, b1, b2⟩ := box3_facts X8.out.2.2.2.1
  obtain ⟨c0, c1', c2'⟩ := box3_facts X8.out.2.2.2.2
  have e0 : ((we : Int) == (we : Int)) = true := by simp
  go_wp2_with (go_at_call 14; refine (is_any X8.out.2.1 X8.out.2.2.1 HL.out wta wtl).mono ?_; rintro e w9 ⟨rfl, hb9⟩; have X9 : Hid (Below W.heap.size W w9) := below_to X8.out.1 hb9; clear hb9)
  go_ret
  exact ⟨rfl, X9.out⟩
end Go.Proofs.Ytcgjfklglckjcaa
