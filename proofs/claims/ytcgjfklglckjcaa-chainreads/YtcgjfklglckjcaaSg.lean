/- ChainReads. -/
import Derived.Test.YtcgjfklglckjcaaSb
import Derived.Test.YtcgjfklglckjcaaLg
namespace Go.Proofs.Ytcgjfklglckjcaa
open Go.RowKit Go.Maps
set_option linter.unusedVariables false
set_option linter.unusedSimpArgs false
set_option maxRecDepth 100000
theorem deX_in {t i : Nat} (h : t + 16 * i < 18446744073709551616) : deX t i = t + 16 * i := Nat.mod_eq_of_lt h
/-- where a walk reads, if it ends well: the queue's table, the table that it names -/
theorem reads_two {M : Nat → Nat} {D k : Nat} {hd : Int} {al : Bool} {we : Nat} {wl : List Seg} {wta wtl : Nat} (hM : ∀ a, M a ≤ 255) (hwk : walkR M D k hd al = ⟨we, wl, wta, wtl⟩) (r : Res) (hr : alongR M D k k hd [] = r) (he : r.e = 0) (hf : fl r.d.f 4 = true) (ht : tabE r.d al = 0) : we ≠ 0 ∨ (wta = r.d.a ∧ wtl = r.d.l) := by
  obtain ⟨s, hs⟩ : ∃ s, alongR M r.d.a (r.d.l / 16) (r.d.l / 16) 0 r.l = s := ⟨_, rfl⟩
  by_cases h2 : s.e = 0
  · cases h3 : fl s.d.f 4 with
    | true =>
      rw [walk_nest hr he hf ht hs h2 h3] at hwk
      simp only [Cn.mk.injEq] at hwk
      exact .inl (by rw [← hwk.1]; decide)
    | false =>
      rw [walk_two hr he hf ht hs h2 h3] at hwk
      simp only [Cn.mk.injEq] at hwk
      exact .inr ⟨hwk.2.2.1.symm, hwk.2.2.2.symm⟩
  · rw [walk_err2 hr he hf ht hs h2] at hwk
    simp only [Cn.mk.injEq] at hwk
    exact .inl (by rw [← hwk.1]; exact h2)
set_option maxHeartbeats 8000000 in
theorem reads_core (W : World) (v : Value) (len : Nat) (ps : Nat → PutD) (hws : PutsIn W v len ps) (s : Int) (D A Uu : Nat) (hd : Int) (al : Bool) (hD : D < 18446744073709551616) (hA : A < 18446744073709551616) (hU : Uu < 18446744073709551616) : Calls Try.prog 5 #[v, .agg #[.int .i64 s, .int .u64 (D : Int), .int .u64 (A : Int), .int .u64 (Uu : Int), .int .i64 hd, .bool al]] W fun e w' => e = .returned (.bool true) ∧ Below W.heap.size W w' := by
  have X0 : Hid (Sm W (W.alloc (.cells #[.int .i64 s, .int .u64 (D : Int), .int .u64 (A : Int), .int .u64 (Uu : Int), .int .i64 hd, .bool al] 27)) s D A Uu hd al) := one_in W _
  have HW : Hid (PutsIn W v len ps) := hws
  have HU : Hid (D < 18446744073709551616 ∧ A < 18446744073709551616 ∧ Uu < 18446744073709551616) := ⟨hD, hA, hU⟩
  clear hws hD hA hU
  go_enter Try.func5, Try.ntmps5
  go_upto_region 1 with fail
  generalize W.alloc (.cells #[.int .i64 s, .int .u64 (D : Int), .int .u64 (A : Int), .int .u64 (Uu : Int), .int .i64 hd, .bool al] 27) = v0 at *
  go_upto_region 3 with (go_at_call 9; refine (awake_any _).mono ?_; rintro e w1 ⟨rfl, hb1⟩; have X1 : Hid (Sm W w1 s D A Uu hd al) := X0.out.below hb1; clear hb1 X0)
  go_upto_region 4 with (go_at_call 10; refine (memory_any _ len ps _ (HW.out.up X1.out.2)).mono ?_; rintro e w2 ⟨pv, a, n, c, rfl, hb2, hor⟩; have X2 : Hid (Sm W w2 s D A Uu hd al) := X1.out.below hb2)
  have hb3 : Below w2.heap.size w2 (w2.alloc (.cells #[.int .u64 8192, .slice a n c] 32)) := (Below.refl _ _).alloc (Nat.le_refl _) _
  have X3 : Hid ((Sp W (w2.alloc (.cells #[.int .u64 8192, .slice a n c] 32)) s D A Uu hd al w2.heap.size a n c)) := ⟨X2.out.below hb3, heap_alloc_new _ _⟩
  have Z3 : Hid ((pv = .pointer none ∧ 0 < len) ∨ ∃ rb F M, pv = .pointer (some ⟨rb, 0, none⟩) ∧ Both F (w2.alloc (.cells #[.int .u64 8192, .slice a n c] 32)) rb 8192 (.slice a n c) 12000 M ∧ (∀ k, F k → W.heap.size < k) ∧ ¬ F w2.heap.size) := hor.imp id (fun ⟨rb, F, M, h1, h2, h3⟩ => ⟨rb, F, M, h1, h2.below hb3, fun k hk => Nat.lt_of_lt_of_le (Array.getElem?_eq_some_iff.1 X1.out.1).1 (h3 k hk), fun hf => by have := h2.1.lt _ hf; omega⟩)
  clear hor hb2 hb3 X1 X2
  generalize w2.alloc (.cells #[.int .u64 8192, .slice a n c] 32) = w3 at *
  generalize w2.heap.size = p at *
  obtain ⟨a0, a1, a2, a3, a4, a5⟩ := box6_facts X3.out.1.1
  obtain ⟨r0, r1, _, _⟩ := box_facts X3.out.2
  rcases Z3.out with ⟨rfl, _⟩ | ⟨rb, F, M, rfl, hB, hF, hFp⟩
  · clear Z3
    go_wp2_with fail
    go_ret
    exact ⟨rfl, X3.out.1.2⟩
  have HB : Hid (Both F w3 rb 8192 (.slice a n c) 12000 M ∧ (∀ k, F k → W.heap.size < k) ∧ ¬ F p) := ⟨hB, hF, hFp⟩
  clear hB hF hFp Z3
  obtain ⟨ce, hce⟩ : ∃ ce, chkN s D A Uu 8192 = ce := ⟨_, rfl⟩
  have K11 : Hid (∀ V, Calls Try.prog 11 #[.agg #[.int .u64 8192, .slice a n c], .agg #[.int .i64 s, .int .u64 (D : Int), .int .u64 (A : Int), .int .u64 (Uu : Int)]] V fun e w' => e = .returned (.int .i64 ce) ∧ Below V.heap.size V w') := by
    intro V
    rw [← hce]
    exact rcheck_any HU.out.1 HU.out.2.1 HU.out.2.2 8192 (by omega) a n c V
  by_cases hc0 : ce = 0
  case neg =>
    have q1 : (ce != 0) = true := by simp [hc0]
    clear hc0 hce
    go_wp2_with (go_at_call 11; refine (K11.out _).mono ?_; rintro e w4 ⟨rfl, hb4⟩; have X4 : Hid (Below W.heap.size W w4) := below_to X3.out.1.2 hb4; clear hb4)
    go_ret
    exact ⟨rfl, X4.out⟩
  subst hc0
  obtain ⟨k, rfl, hk1, hk2, _⟩ := chk_zero hce
  have HCH : Hid (chkN (k : Int) D A Uu 8192 = 0) := hce
  clear hce hk1
  go_upto_region 6 with (go_at_call 11; refine (K11.out _).mono ?_; rintro e w4 ⟨rfl, hb4⟩; have X4 : Hid ((Sp W w4 (k : Int) D A Uu hd al p a n c)) := X3.out.below hb4; have HB4 : Hid (Both F w4 rb 8192 (.slice a n c) 12000 M ∧ (∀ k, F k → W.heap.size < k) ∧ ¬ F p) := ⟨HB.out.1.below hb4, HB.out.2⟩; clear hb4 a0 a1 a2 a3 a4 a5 r0 r1)
  clear X3 HB K11
  have HDD : Hid (DDesc w4 a n c M ∧ ∀ a, M a ≤ 255) := ⟨both_ddesc HB4.out.1 (by omega), HB4.out.1.1.le⟩
  obtain ⟨⟨we, wl, wta, wtl⟩, hwk⟩ : ∃ q, walkR M D k hd al = q := ⟨_, rfl⟩
  obtain ⟨k', hkk, _, _, _, _, _, _, hdb, _⟩ := chk_zero HCH.out
  have hkk2 : k = k' := by omega
  subst hkk2
  have hall := walk_all HDD.out.2 D k hk2 hd al
  rw [hwk] at hall
  have HDB : Hid (2147483648 ≤ D ∧ D + 16 * k ≤ 2147491840 ∧ wta < 18446744073709551616 ∧ wtl ≤ 4096 ∧ k ≤ 256) := ⟨hdb.1, by omega, hall.2.2.2.2.1, hall.2.2.2.2.2.1, hk2⟩
  have K12 : Hid (∀ (V : World) (G : Nat → Prop) (lb : Nat), LgI rb 12000 lb M (fun z => (D ≤ z ∧ z - D < 16 * k) ∨ we ≠ 0 ∨ (wta ≤ z ∧ z - wta < wtl)) G V → Calls Try.prog 12 #[.pointer (some ⟨rb, 0, none⟩), .agg #[.int .i64 (k : Int), .int .u64 (D : Int), .int .u64 (A : Int), .int .u64 (Uu : Int)], .int .i64 hd, .bool al] V fun e w' => ∃ a1 c1, e = .returned (.tuple #[.agg #[.slice a1 wl.length c1, .int .u64 (wta : Int), .int .u64 (wtl : Int)], .int .i64 (we : Int)]) ∧ ∃ G', LgI rb 12000 lb M (fun z => (D ≤ z ∧ z - D < 16 * k) ∨ we ≠ 0 ∨ (wta ≤ z ∧ z - wta < wtl)) G' w' ∧ Step G V G' w') := by
    intro V G lb hV
    have := walk_any (F := G) (lg_mem rb 12000 lb M (fun z => (D ≤ z ∧ z - D < 16 * k) ∨ we ≠ 0 ∨ (wta ≤ z ∧ z - wta < wtl))) HDD.out.2 k D A Uu hk2 hd al hV (lg_desc rb 12000 lb M HDD.out.2 (fun z => (D ≤ z ∧ z - D < 16 * k) ∨ we ≠ 0 ∨ (wta ≤ z ∧ z - wta < wtl)) D k (fun i hi _ => by
      rw [deX_in (by have := HDB.out; omega)]
      exact .inl ⟨by omega, by omega⟩)) (fun r hr he hf ht => lg_desc rb 12000 lb M HDD.out.2 (fun z => (D ≤ z ∧ z - D < 16 * k) ∨ we ≠ 0 ∨ (wta ≤ z ∧ z - wta < wtl)) r.d.a (r.d.l / 16) (fun i hi _ => by
        rcases reads_two HDD.out.2 hwk r hr he hf ht with h0 | ⟨h1, h2⟩
        · exact .inr (.inl h0)
        · have ti := tab_in ht
          have tj := in_len ti.2.2.2.2.2
          rw [deX_in (by omega)]
          exact .inr (.inr ⟨by omega, by omega⟩)))
    rw [hwk] at this
    refine this.mono ?_
    rintro e w' ⟨v, he, G', h1, h2, hs, _⟩
    obtain ⟨a1, c1, rfl⟩ := hs.form
    exact ⟨a1, c1, he, G', h1, h2⟩
  clear hall hwk HCH HU HW hk2 hdb hkk
  obtain ⟨L, hL⟩ : ∃ L, wl.length = L := ⟨_, rfl⟩
  rw [hL] at K12
  clear hL
  go_upto_region 7 with fail
  have hb5 : Below w4.heap.size w4 (w4.alloc (.cells #[.slice none 0 0, .slice none 0 0] 56)) := (Below.refl _ _).alloc (Nat.le_refl _) _
  have X5 : Hid ((Sp W (w4.alloc (.cells #[.slice none 0 0, .slice none 0 0] 56)) (k : Int) D A Uu hd al p a n c) ∧ RamAt (w4.alloc (.cells #[.slice none 0 0, .slice none 0 0] 56)) F rb 8192 12000 (.pointer none) M ∧ (w4.alloc (.cells #[.slice none 0 0, .slice none 0 0] 56)).heap[w4.heap.size]? = some (.cells #[.slice none 0 0, .slice none 0 0] 56 (0, 0)) ∧ ¬ F w4.heap.size ∧ W.heap.size < w4.heap.size) := ⟨X4.out.below hb5, HB4.out.1.1.below hb5, heap_alloc_new _ _, fun hf => by have := HB4.out.1.1.lt _ hf; omega, (Array.getElem?_eq_some_iff.1 X4.out.1.1).1⟩
  clear hb5 X4
  generalize w4.alloc (.cells #[.slice none 0 0, .slice none 0 0] 56) = w5 at *
  generalize w4.heap.size = lb at *
  go_upto_region 8 with (go_at_call 18; refine (watch_log X5.out.2.1 X5.out.2.2.1 X5.out.2.2.2.1).mono ?_; rintro e w6 ⟨rfl, hr6, hl6, hs6⟩; have X6 : Hid (Sm W w6 (k : Int) D A Uu hd al ∧ LgI rb 12000 lb M (fun z => (D ≤ z ∧ z - D < 16 * k) ∨ we ≠ 0 ∨ (wta ≤ z ∧ z - wta < wtl)) (fun z => F z ∨ z = lb) w6) := ⟨⟨(hs6.block _ (by have := (Array.getElem?_eq_some_iff.1 X5.out.1.1.1).1; exact this) (fun h => by rcases h with h | h; (have h9 := HB4.out.2.1 _ hr6.own; omega); (have := X5.out.2.2.2.2; omega))).trans X5.out.1.1.1, X5.out.1.1.2.trans (hs6.below X5.out.1.1.2.size (fun z hz => by rcases hz with hz | hz; (have := HB4.out.2.1 _ hr6.own; omega); (have := X5.out.2.2.2.2; omega)))⟩, ⟨F, .slice none 0 0, .slice none 0 0, [], ⟨hr6, hl6, ⟨rfl, .inl ⟨rfl, rfl⟩⟩, ⟨rfl, .inl ⟨rfl, rfl⟩⟩, (fun g hg => by cases hg), (fun g hg => by cases hg), fun z hz => .inl hz, .inr rfl, X5.out.2.2.2.1, fun z hz => by rcases hz with hz | hz; exact hr6.lt z hz; rw [hz]; exact (Array.getElem?_eq_some_iff.1 hl6).1⟩, Nat.zero_le _, fun p hp => by cases hp⟩⟩; clear hr6 hl6 hs6)
  have HLB : Hid (W.heap.size < lb) := X5.out.2.2.2.2
  clear X5
  obtain ⟨a0, a1, a2, a3, a4, a5⟩ := box6_facts X6.out.1.1
  go_upto_region 9 with (go_at_call 12; refine (K12.out _ _ _ X6.out.2).mono ?_; rintro e w7 ⟨s1, c1, rfl, G7, hl7, hs7⟩; have X7 : Hid (Sm W w7 (k : Int) D A Uu hd al ∧ LgI rb 12000 lb M (fun z => (D ≤ z ∧ z - D < 16 * k) ∨ we ≠ 0 ∨ (wta ≤ z ∧ z - wta < wtl)) G7 w7) := ⟨⟨(hs7.block _ (Array.getElem?_eq_some_iff.1 X6.out.1.1).1 (fun h => by rcases h with h | h; (have := HB4.out.2.1 _ h; omega); (have := HLB.out; omega))).trans X6.out.1.1, X6.out.1.2.trans (hs7.below X6.out.1.2.size (fun z hz => by rcases hz with hz | hz; (have := HB4.out.2.1 _ hz; omega); (have := HLB.out; omega)))⟩, hl7⟩; clear hl7 hs7 a0 a1 a2 a3 a4 a5)
  clear X6 K12
  have hb8 : Below w7.heap.size w7 (w7.alloc (.cells #[.slice s1 L c1, .int .u64 (wta : Int), .int .u64 (wtl : Int)] 40)) := (Below.refl _ _).alloc (Nat.le_refl _) _
  have X8 : Hid (Sm W (w7.alloc (.cells #[.slice s1 L c1, .int .u64 (wta : Int), .int .u64 (wtl : Int)] 40)) (k : Int) D A Uu hd al ∧ LgI rb 12000 lb M (fun z => (D ≤ z ∧ z - D < 16 * k) ∨ we ≠ 0 ∨ (wta ≤ z ∧ z - wta < wtl)) G7 (w7.alloc (.cells #[.slice s1 L c1, .int .u64 (wta : Int), .int .u64 (wtl : Int)] 40)) ∧ (w7.alloc (.cells #[.slice s1 L c1, .int .u64 (wta : Int), .int .u64 (wtl : Int)] 40)).heap[w7.heap.size]? = some (.cells #[.slice s1 L c1, .int .u64 (wta : Int), .int .u64 (wtl : Int)] 40 (0, 0))) := ⟨X7.out.1.below hb8, X7.out.2.below hb8, heap_alloc_new _ _⟩
  clear hb8 X7
  generalize w7.alloc (.cells #[.slice s1 L c1, .int .u64 (wta : Int), .int .u64 (wtl : Int)] 40) = w8 at *
  generalize w7.heap.size = q at *
  obtain ⟨Fr, lw, lr, rs, hlog, hrl, hrq⟩ := X8.out.2.1
  obtain ⟨lwa, lwc, hlw⟩ := hlog.2.2.1.form
  obtain ⟨lra, lrc, hlr⟩ := hlog.2.2.2.1.form
  subst hlw hlr
  obtain ⟨nr, hnr⟩ : ∃ nr, rs.length = nr := ⟨_, rfl⟩
  have h9 : w8.heap[lb]? = some (.cells #[.slice lwa 0 lwc, .slice lra rs.length lrc] 56 (0, 0)) := hlog.2.1
  have h10 : SpanIn 0 w8 (.slice lra rs.length lrc) rs := hlog.2.2.2.1
  rw [hnr] at h9 h10
  have X9 : Hid (Below W.heap.size W w8 ∧ w8.heap[lb]? = some (.cells #[.slice lwa 0 lwc, .slice lra nr lrc] 56 (0, 0)) ∧ SpanIn 0 w8 (.slice lra nr lrc) rs ∧ w8.heap[q]? = some (.cells #[.slice s1 L c1, .int .u64 (wta : Int), .int .u64 (wtl : Int)] 40 (0, 0))) := ⟨X8.out.1.2, h9, h10, X8.out.2.2⟩
  have HRS : Hid (rs.length = nr ∧ nr ≤ 4096 ∧ ∀ p ∈ rs, p.2 = 16 ∧ ((D ≤ p.1 ∧ p.1 - D < 16 * k) ∨ we ≠ 0 ∨ (wta ≤ p.1 ∧ p.1 - wta < wtl)) ∧ p.1 < 18446744073709551616) := ⟨hnr, by omega, hrq⟩
  obtain ⟨a0, a1, a2, a3, a4, a5⟩ := box6_facts X8.out.1.1
  clear X8 hlog hrl hrq hnr h9 h10
  go_upto_region 10 with (go_at_call 19; refine (rareas_any k D A Uu (by have := HDB.out; omega) _).mono ?_; rintro e w9 ⟨ga, rfl, hga, hcl, hb9⟩; have XA : Hid ((Below W.heap.size W w9 ∧ w9.heap[lb]? = some (.cells #[.slice lwa 0 lwc, .slice lra nr lrc] 56 (0, 0)) ∧ SpanIn 0 w9 (.slice lra nr lrc) rs ∧ w9.heap[q]? = some (.cells #[.slice s1 L c1, .int .u64 (wta : Int), .int .u64 (wtl : Int)] 40 (0, 0))) ∧ w9.heap[ga]? = some (.cells #[.int .u64 (D : Int), .int .u64 (16 * (k : Int)), .int .u64 (A : Int), .int .u64 (6 + 2 * (k : Int)), .int .u64 (Uu : Int), .int .u64 (6 + 8 * (k : Int))] 38 (0, 0))) := ⟨⟨below_to X9.out.1 hb9, below_box X9.out.2.1 hb9, X9.out.2.2.1.kept (fun z hz => hb9.block z (X9.out.2.2.1.lt z hz).2), below_box X9.out.2.2.2 hb9⟩, hcl⟩; clear hga hcl hb9 a0 a1 a2 a3 a4 a5)
  clear X9
  go_wp2_with fail
  go_loopw [11] (fun y wr => ∃ i : Nat, i ≤ nr ∧ y = .int .i64 (i : Int) ∧ ((Below W.heap.size W wr ∧ wr.heap[lb]? = some (.cells #[.slice lwa 0 lwc, .slice lra nr lrc] 56 (0, 0)) ∧ SpanIn 0 wr (.slice lra nr lrc) rs ∧ wr.heap[q]? = some (.cells #[.slice s1 L c1, .int .u64 (wta : Int), .int .u64 (wtl : Int)] 40 (0, 0))) ∧ wr.heap[ga]? = some (.cells #[.int .u64 (D : Int), .int .u64 (16 * (k : Int)), .int .u64 (A : Int), .int .u64 (6 + 2 * (k : Int)), .int .u64 (Uu : Int), .int .u64 (6 + 8 * (k : Int))] 38 (0, 0)))) (fun y _ => nr - (intOf y).toNat)
  case atStart => exact ⟨0, Nat.zero_le _, rfl, XA.out⟩
  case round =>
    obtain ⟨i, hi, rfl, hx⟩ := hrel
    have XR : Hid ((Below W.heap.size W wr ∧ wr.heap[lb]? = some (.cells #[.slice lwa 0 lwc, .slice lra nr lrc] 56 (0, 0)) ∧ SpanIn 0 wr (.slice lra nr lrc) rs ∧ wr.heap[q]? = some (.cells #[.slice s1 L c1, .int .u64 (wta : Int), .int .u64 (wtl : Int)] 40 (0, 0))) ∧ wr.heap[ga]? = some (.cells #[.int .u64 (D : Int), .int .u64 (16 * (k : Int)), .int .u64 (A : Int), .int .u64 (6 + 2 * (k : Int)), .int .u64 (Uu : Int), .int .u64 (6 + 8 * (k : Int))] 38 (0, 0))) := hx
    clear hx XA
    obtain ⟨l0, l1, _, _⟩ := box_facts XR.out.1.2.1
    by_cases hlt : i < nr
    case neg =>
      have h1 : ¬ (i : Int) < (nr : Int) := by omega
      go_wp2_with fail
      go_ret
      exact ⟨rfl, XR.out.1.1⟩
    case pos =>
      have h1 : (i : Int) < (nr : Int) := by omega
      have hil : i < rs.length := by have := HRS.out.1; omega
      obtain ⟨gd, cg, hsl, hcl⟩ := XR.out.1.2.2.1.cells (by omega)
      simp only [Value.slice.injEq] at hsl
      obtain ⟨rfl, -, rfl⟩ := hsl
      obtain ⟨x1, y1⟩ := hcl i hil
      have hpo := HRS.out.2.2 (rs.getD i (0, 0)) (by simp [List.getD, hil])
      obtain ⟨⟨x, sx⟩, hpr⟩ : ∃ pr, rs.getD i (0, 0) = pr := ⟨_, rfl⟩
      rw [hpr] at x1 y1 hpo
      simp only at x1 y1 hpo
      obtain ⟨rfl, hq, hxU⟩ := hpo
      have HQ : Hid (((D ≤ x ∧ x - D < 16 * k) ∨ we ≠ 0 ∨ (wta ≤ x ∧ x - wta < wtl)) ∧ x < 18446744073709551616 ∧ i < nr) := ⟨hq, hxU, hlt⟩
      have hi6 : i ≤ 4096 := by have := HRS.out.2.1; omega
      have y1' : wr.cell? ⟨gd, i * 2 + 1, none⟩ = some (.int .u64 16) := y1
      clear hcl hpr hq hxU hlt hi hil y1
      go_upto_region 14 with fail
      have hb2 : Below wr.heap.size wr (wr.alloc (.cells #[.int .u64 (x : Int), .int .u64 16] 38)) := (Below.refl _ _).alloc (Nat.le_refl _) _
      have XB : Hid (((Below W.heap.size W (wr.alloc (.cells #[.int .u64 (x : Int), .int .u64 16] 38)) ∧ (wr.alloc (.cells #[.int .u64 (x : Int), .int .u64 16] 38)).heap[lb]? = some (.cells #[.slice lwa 0 lwc, .slice (some ⟨gd, 0, none⟩) nr lrc] 56 (0, 0)) ∧ SpanIn 0 (wr.alloc (.cells #[.int .u64 (x : Int), .int .u64 16] 38)) (.slice (some ⟨gd, 0, none⟩) nr lrc) rs ∧ (wr.alloc (.cells #[.int .u64 (x : Int), .int .u64 16] 38)).heap[q]? = some (.cells #[.slice s1 L c1, .int .u64 (wta : Int), .int .u64 (wtl : Int)] 40 (0, 0))) ∧ (wr.alloc (.cells #[.int .u64 (x : Int), .int .u64 16] 38)).heap[ga]? = some (.cells #[.int .u64 (D : Int), .int .u64 (16 * (k : Int)), .int .u64 (A : Int), .int .u64 (6 + 2 * (k : Int)), .int .u64 (Uu : Int), .int .u64 (6 + 8 * (k : Int))] 38 (0, 0))) ∧ (wr.alloc (.cells #[.int .u64 (x : Int), .int .u64 16] 38)).heap[wr.heap.size]? = some (.cells #[.int .u64 (x : Int), .int .u64 16] 38 (0, 0))) := ⟨⟨⟨below_to XR.out.1.1 hb2, below_box XR.out.1.2.1 hb2, XR.out.1.2.2.1.kept (fun z hz => hb2.block z (XR.out.1.2.2.1.lt z hz).2), below_box XR.out.1.2.2.2 hb2⟩, below_box XR.out.2 hb2⟩, heap_alloc_new _ _⟩
      clear hb2 XR x1 y1' l0 l1
      generalize wr.alloc (.cells #[.int .u64 (x : Int), .int .u64 16] 38) = wb at *
      generalize wr.heap.size = qb at *
      obtain ⟨ib, hib⟩ : ∃ b, (decide (D ≤ x) && decide (x - D < 16 * k)) = b := ⟨_, rfl⟩
      have HIB : Hid ((decide (D ≤ x) && decide (x - D < 16 * k)) = ib) := hib
      clear hib
      go_cut [13] (fun y wx => y = .bool ib ∧ ∃ qd, wx = wb.drewN qd)
      case first =>
        obtain ⟨t0, t1, _, _⟩ := box_facts XB.out.2
        obtain ⟨c0, c1', _, _, _, _⟩ := box6_facts XB.out.1.2
        have hIB := HIB.out
        by_cases hge : D ≤ x
        · have j1 : (D : Int) ≤ (x : Int) := by omega
          obtain ⟨df, hdf⟩ : ∃ df, x - D = df := ⟨_, rfl⟩
          have j2 : IntKind.u64.wrap ((x : Int) - (D : Int)) = (df : Int) := by have := HQ.out.2.1; rw [wrap_u64]; omega
          rw [hdf] at hIB
          by_cases hls : df < 16 * k
          · have j3 : (df : Int) < 16 * (k : Int) := by omega
            have hb : ib = true := by rw [← hIB]; simp [hge, hls]
            subst hb
            clear hIB hge hdf hls
            go_quiet (fail)
            go_wp2_with fail
            go_meet
            exact ⟨rfl, _, rfl⟩
          · have j3 : ¬ (df : Int) < 16 * (k : Int) := by omega
            have hb : ib = false := by rw [← hIB]; simp [hls]
            subst hb
            clear hIB hge hdf hls
            go_quiet (fail)
            go_wp2_with fail
            go_meet
            exact ⟨rfl, _, rfl⟩
        · have j1 : ¬ (D : Int) ≤ (x : Int) := by omega
          have hb : ib = false := by rw [← hIB]; simp [hge]
          subst hb
          clear hIB hge
          go_quiet (fail)
          go_wp2_with fail
          go_meet
          exact ⟨rfl, _, rfl⟩
      case rest =>
      obtain ⟨rfl, qd, hw⟩ := hcut
      rw [hw]
      clear hw
      have XC : Hid (((Below W.heap.size W (wb.drewN qd) ∧ (wb.drewN qd).heap[lb]? = some (.cells #[.slice lwa 0 lwc, .slice (some ⟨gd, 0, none⟩) nr lrc] 56 (0, 0)) ∧ SpanIn 0 (wb.drewN qd) (.slice (some ⟨gd, 0, none⟩) nr lrc) rs ∧ (wb.drewN qd).heap[q]? = some (.cells #[.slice s1 L c1, .int .u64 (wta : Int), .int .u64 (wtl : Int)] 40 (0, 0))) ∧ (wb.drewN qd).heap[ga]? = some (.cells #[.int .u64 (D : Int), .int .u64 (16 * (k : Int)), .int .u64 (A : Int), .int .u64 (6 + 2 * (k : Int)), .int .u64 (Uu : Int), .int .u64 (6 + 8 * (k : Int))] 38 (0, 0))) ∧ (wb.drewN qd).heap[qb]? = some (.cells #[.int .u64 (x : Int), .int .u64 16] 38 (0, 0))) := by
        have hbd : Below wb.heap.size wb (wb.drewN qd) := below_drewN (Below.refl _ _) qd
        exact ⟨⟨⟨below_to XB.out.1.1.1 hbd, below_box XB.out.1.1.2.1 hbd, XB.out.1.1.2.2.1.kept (fun z hz => hbd.block z (XB.out.1.1.2.2.1.lt z hz).2), below_box XB.out.1.1.2.2.2 hbd⟩, below_box XB.out.1.2 hbd⟩, below_box XB.out.2 hbd⟩
      clear XB
      generalize wb.drewN qd = wd at *
      obtain ⟨t0, t1, _, _⟩ := box_facts XC.out.2
      obtain ⟨b0, b1, b2⟩ := box3_facts XC.out.1.1.2.2.2
      by_cases hz : we = 0
      case neg =>
        have z1 : ((we : Int) == 0) = false := by simp; omega
        clear hz
        go_wp2_with fail
        go_roundw
        case rel => exact ⟨i + 1, HQ.out.2.2, by go_num, XC.out.1⟩
        case measure => simp [intOf]; have := HQ.out.2.2; omega
      subst hz
      have hq := HQ.out.1
      have hIB := HIB.out
      by_cases hge : wta ≤ x
      · have j1 : (wta : Int) ≤ (x : Int) := by omega
        obtain ⟨df, hdf⟩ : ∃ df, x - wta = df := ⟨_, rfl⟩
        have j2 : IntKind.u64.wrap ((x : Int) - (wta : Int)) = (df : Int) := by have := HQ.out.2.1; rw [wrap_u64]; omega
        by_cases hls : df < wtl
        · have j3 : (df : Int) < (wtl : Int) := by omega
          clear hq hIB hge hdf hls
          cases ib with
          | true =>
            go_wp2_with fail
            go_roundw
            case rel => exact ⟨i + 1, HQ.out.2.2, by go_num, XC.out.1⟩
            case measure => simp [intOf]; have := HQ.out.2.2; omega
          | false =>
            go_wp2_with fail
            go_roundw
            case rel => exact ⟨i + 1, HQ.out.2.2, by go_num, XC.out.1⟩
            case measure => simp [intOf]; have := HQ.out.2.2; omega
        · have j3 : ¬ (df : Int) < (wtl : Int) := by omega
          have hb : ib = true := by
            rw [← hIB]
            rcases hq with h | h | h
            · simp [h.1, h.2]
            · exact absurd rfl h
            · exact absurd h.2 (by omega)
          subst hb
          clear hq hIB hge hdf hls
          go_wp2_with fail
          go_roundw
          case rel => exact ⟨i + 1, HQ.out.2.2, by go_num, XC.out.1⟩
          case measure => simp [intOf]; have := HQ.out.2.2; omega
      · have j1 : ¬ (wta : Int) ≤ (x : Int) := by omega
        have hb : ib = true := by
          rw [← hIB]
          rcases hq with h | h | h
          · simp [h.1, h.2]
          · exact absurd rfl h
          · exact absurd h.1 hge
        subst hb
        clear hq hIB hge
        go_wp2_with fail
        go_roundw
        case rel => exact ⟨i + 1, HQ.out.2.2, by go_num, XC.out.1⟩
        case measure => simp [intOf]; have := HQ.out.2.2; omega
end Go.Proofs.Ytcgjfklglckjcaa
