/- Texts put together. -/
import Derived.Test.YtmjdnocilbnoaaaZd
import Derived.Test.YtmjdnocilbnoaaaZc
import Derived.Defers
import Derived.Recover
import Derived.Test.YtmjdnocilbnoaaaZb
import Derived.Test.YtmjdnocilbnoaaaZa
import Derived.Deep.MidRow
/- The queue: Fetch of a layout that may be. -/
namespace Go.Proofs.Ytmjdnocilbnoaaa
open Go.RowKit Go.Maps
set_option linter.unusedVariables false
set_option linter.unusedSimpArgs false
set_option maxRecDepth 100000
theorem wait_wrap {of fe : Nat} (h1 : of ≤ 65535) (h2 : fe ≤ 65535) : IntKind.u16.wrap ((of : Int) - (fe : Int)) = (((of + 65536 - fe) % 65536 : Nat) : Int) := by
  simp only [IntKind.wrap, IntKind.signed, IntKind.bits]
  simp
  try omega
theorem fetch_wait {w : World} {F : Nat → Prop} {rb k : Nat} {M : Nat → Nat} (hr : RamAt w F rb 8192 k (.pointer none) M) {qb : Nat} {n D A U : Nat} {ev al : Bool} {fe us : Nat} (hq : w.heap[qb]? = some (.cells #[.int .i64 (n : Int), .int .u64 (D : Int), .int .u64 (A : Int), .int .u64 (U : Int), .bool true, .int .u16 (fe : Int), .int .u16 (us : Int), .bool ev, .bool al] 40 (0, 0))) (hg : Gd n D A U) (hF : ¬ F qb) (hfe : fe ≤ 65535) (hw : waitN M A fe = 0) : Calls Try.prog 48 #[.pointer (some ⟨qb, 0, none⟩), .pointer (some ⟨rb, 0, none⟩)] w fun e w' => e = .returned (.tuple #[.agg #[.int .u16 0, .slice none 0 0, .int .u64 0, .int .u64 0], .bool false, .int .i64 0]) ∧ w'.heap[qb]? = some (.cells #[.int .i64 (n : Int), .int .u64 (D : Int), .int .u64 (A : Int), .int .u64 (U : Int), .bool true, .int .u16 (fe : Int), .int .u16 (us : Int), .bool ev, .bool al] 40 (0, 0)) ∧ Step (fun k => k = qb) w (fun k => k = qb) w' := by
  have XB : Hid (Fx w (w.alloc (.cells #[.int .u16 0, .slice none 0 0, .int .u64 0, .int .u64 0] 108)) F rb k M qb (n : Int) D A U true fe us ev al #[.int .u16 0, .slice none 0 0, .int .u64 0, .int .u64 0]) := ⟨Step.of_below (one_box _ _), heap_alloc_new _ _, hr.below (one_box _ _), below_box hq (one_box _ _), hF, (Array.getElem?_eq_some_iff.1 hq).1, hr.lt⟩
  have HC : Hid (Gd n D A U ∧ fe ≤ 65535 ∧ ∀ a, M a ≤ 255) := ⟨hg, hfe, hr.le⟩
  obtain ⟨of, hof⟩ : ∃ of, wordN M (A + 2) 2 8192 = of := ⟨_, rfl⟩
  have HO : Hid (wordN M (A + 2) 2 8192 = of) := hof
  have hofl : of ≤ 65535 := by rw [← hof]; exact rd_lt hr.le _
  obtain ⟨wt, hwt⟩ : ∃ wt, waitN M A fe = wt := ⟨_, rfl⟩
  have ew : IntKind.u16.wrap ((of : Int) - (fe : Int)) = (wt : Int) := by rw [← hwt]; unfold waitN; rw [hof]; exact wait_wrap hofl hfe
  have ew2 : IntKind.i64.wrap (wt : Int) = (wt : Int) := wrapRl wt (by rw [← hwt]; unfold waitN; omega)
  have hw0 : wt = 0 := by rw [← hwt]; exact hw
  subst hw0
  have q1 : ((0 : Int) == 0) = true := rfl
  clear hq hr hF hfe hw hwt hof hofl hg ew2
  go_enter Try.func48, Try.ntmps48
  go_upto_region 1 with fail
  generalize w.alloc (.cells #[.int .u16 0, .slice none 0 0, .int .u64 0, .int .u64 0] 108) = v0 at *
  obtain ⟨c0, c1, c2, c3, c4, c5, c6, c7, c8⟩ := box9_facts XB.out.2.2.2.1
  go_upto_region 6 with (first | (go_at_call 27; refine (ready_any XB.out.2.2.2.1).mono ?_; rintro e w0 ⟨rfl, rfl⟩) | (go_at_call 66; refine (check_any HC.out.1.d1 (gd_bounds HC.out.1).2.1 (gd_bounds HC.out.1).2.2 XB.out.2.2.1 (by omega)).mono ?_; rintro e w1 ⟨rfl, hb1⟩; rw [HC.out.1.chk]; have X1 : Hid (Fx w w1 F rb k M qb (n : Int) D A U true fe us ev al #[.int .u16 0, .slice none 0 0, .int .u64 0, .int .u64 0]) := XB.out.below hb1; clear hb1))
  clear XB c0 c1 c2 c3 c4 c5 c6 c7 c8
  obtain ⟨c0, c1, c2, c3, c4, c5, c6, c7, c8⟩ := box9_facts X1.out.2.2.2.1
  have X2 : Hid (Fx w w1.drew F rb k M qb (n : Int) D A U true fe us ev al #[.int .u16 0, .slice none 0 0, .int .u64 0, .int .u64 0]) := X1.out.below (Below.drew (Below.refl _ _))
  go_region_held3 (fun Z => Z.cell? ⟨qb, 0, none⟩ = some (.int .i64 (n : Int)) ∧ Z.cell? ⟨qb, 1, none⟩ = some (.int .u64 (D : Int)) ∧ Z.cell? ⟨qb, 2, none⟩ = some (.int .u64 (A : Int)) ∧ Z.cell? ⟨qb, 3, none⟩ = some (.int .u64 (U : Int)) ∧ Z.cell? ⟨qb, 4, none⟩ = some (.bool true) ∧ Z.cell? ⟨qb, 5, none⟩ = some (.int .u16 (fe : Int)) ∧ Z.cell? ⟨qb, 6, none⟩ = some (.int .u16 (us : Int)) ∧ Z.cell? ⟨qb, 7, none⟩ = some (.bool ev) ∧ Z.cell? ⟨qb, 8, none⟩ = some (.bool al)) (go_keep) (first | (go_at_call 67; refine (offered_any X2.out.2.2.1 HC.out.1).mono ?_; rintro e w2 ⟨rfl, hb2⟩; rw [HO.out]; have X3 : Hid (Fx w w2 F rb k M qb (n : Int) D A U true fe us ev al #[.int .u16 0, .slice none 0 0, .int .u64 0, .int .u64 0]) := X2.out.below hb2; clear hb2; obtain ⟨d0, d1, d2, d3, d4, d5, d6, d7, d8⟩ := box9_facts X3.out.2.2.2.1))
  clear X1 X2 c0 c1 c2 c3 c4 c5 c6 c7 c8
  clear d0 d1 d2 d3 d4 d5 d6 d7 d8
  go_upto_region 8 with fail
  refine wp_region_list ?_
  (refine wpList_step (fun KK hKK => ?_); go_simp; refine hKK _ _ ?_; clear hKK KK)
  refine wpList_store_row rfl 108 _ _ rfl w.heap.size #[.int .u16 0, .slice none 0 0, .int .u64 0, .int .u64 0] rfl rfl 108 #[.int .u16 0, .slice none 0 0, .int .u64 0, .int .u64 0] X3.out.2.1 infoI rfl (by simp [Value.oneCell']) ?_
  have Y : Hid (Fx w (w2.setRow w.heap.size #[.int .u16 0, .slice none 0 0, .int .u64 0, .int .u64 0]) F rb k M qb (n : Int) D A U true fe us ev al #[.int .u16 0, .slice none 0 0, .int .u64 0, .int .u64 0]) := X3.out.set _
  clear X3
  generalize w2.setRow w.heap.size #[.int .u16 0, .slice none 0 0, .int .u64 0, .int .u64 0] = w9 at *
  obtain ⟨k0, k1, k2, k3⟩ := box4_facts Y.out.2.1
  go_wp2_with fail
  refine bodyPost_ret (v := .tuple #[.agg #[.int .u16 0, .slice none 0 0, .int .u64 0, .int .u64 0], .bool false, .int .i64 0]) (by simp [results, Try.results48, go_sem, k0, k1, k2, k3]) rfl ?_
  exact ⟨rfl, Y.out.2.2.2.1, Y.out.1⟩

theorem fetch_jmp {w : World} {F : Nat → Prop} {rb k : Nat} {M : Nat → Nat} (hr : RamAt w F rb 8192 k (.pointer none) M) {qb : Nat} {n D A U : Nat} {ev al : Bool} {fe us : Nat} (hq : w.heap[qb]? = some (.cells #[.int .i64 (n : Int), .int .u64 (D : Int), .int .u64 (A : Int), .int .u64 (U : Int), .bool true, .int .u16 (fe : Int), .int .u16 (us : Int), .bool ev, .bool al] 40 (0, 0))) (hg : Gd n D A U) (hF : ¬ F qb) (hfe : fe ≤ 65535) (hw : waitN M A fe ≠ 0) (hw2 : n < waitN M A fe) : Calls Try.prog 48 #[.pointer (some ⟨qb, 0, none⟩), .pointer (some ⟨rb, 0, none⟩)] w fun e w' => e = .returned (.tuple #[.agg #[.int .u16 0, .slice none 0 0, .int .u64 0, .int .u64 0], .bool false, .int .i64 156]) ∧ w'.heap[qb]? = some (.cells #[.int .i64 (n : Int), .int .u64 (D : Int), .int .u64 (A : Int), .int .u64 (U : Int), .bool true, .int .u16 (fe : Int), .int .u16 (us : Int), .bool ev, .bool al] 40 (0, 0)) ∧ Step (fun k => k = qb) w (fun k => k = qb) w' := by
  have XB : Hid (Fx w (w.alloc (.cells #[.int .u16 0, .slice none 0 0, .int .u64 0, .int .u64 0] 108)) F rb k M qb (n : Int) D A U true fe us ev al #[.int .u16 0, .slice none 0 0, .int .u64 0, .int .u64 0]) := ⟨Step.of_below (one_box _ _), heap_alloc_new _ _, hr.below (one_box _ _), below_box hq (one_box _ _), hF, (Array.getElem?_eq_some_iff.1 hq).1, hr.lt⟩
  have HC : Hid (Gd n D A U ∧ fe ≤ 65535 ∧ ∀ a, M a ≤ 255) := ⟨hg, hfe, hr.le⟩
  obtain ⟨of, hof⟩ : ∃ of, wordN M (A + 2) 2 8192 = of := ⟨_, rfl⟩
  have HO : Hid (wordN M (A + 2) 2 8192 = of) := hof
  have hofl : of ≤ 65535 := by rw [← hof]; exact rd_lt hr.le _
  obtain ⟨wt, hwt⟩ : ∃ wt, waitN M A fe = wt := ⟨_, rfl⟩
  have ew : IntKind.u16.wrap ((of : Int) - (fe : Int)) = (wt : Int) := by rw [← hwt]; unfold waitN; rw [hof]; exact wait_wrap hofl hfe
  have ew2 : IntKind.i64.wrap (wt : Int) = (wt : Int) := wrapRl wt (by rw [← hwt]; unfold waitN; omega)
  rw [hwt] at hw hw2
  have q1 : ((wt : Int) == 0) = false := by simp; omega
  have q2 : (n : Int) < (wt : Int) := by omega
  clear hq hr hF hfe hw hw2 hwt hof hofl hg
  go_enter Try.func48, Try.ntmps48
  go_upto_region 1 with fail
  generalize w.alloc (.cells #[.int .u16 0, .slice none 0 0, .int .u64 0, .int .u64 0] 108) = v0 at *
  obtain ⟨c0, c1, c2, c3, c4, c5, c6, c7, c8⟩ := box9_facts XB.out.2.2.2.1
  go_upto_region 6 with (first | (go_at_call 27; refine (ready_any XB.out.2.2.2.1).mono ?_; rintro e w0 ⟨rfl, rfl⟩) | (go_at_call 66; refine (check_any HC.out.1.d1 (gd_bounds HC.out.1).2.1 (gd_bounds HC.out.1).2.2 XB.out.2.2.1 (by omega)).mono ?_; rintro e w1 ⟨rfl, hb1⟩; rw [HC.out.1.chk]; have X1 : Hid (Fx w w1 F rb k M qb (n : Int) D A U true fe us ev al #[.int .u16 0, .slice none 0 0, .int .u64 0, .int .u64 0]) := XB.out.below hb1; clear hb1))
  clear XB c0 c1 c2 c3 c4 c5 c6 c7 c8
  obtain ⟨c0, c1, c2, c3, c4, c5, c6, c7, c8⟩ := box9_facts X1.out.2.2.2.1
  have X2 : Hid (Fx w w1.drew F rb k M qb (n : Int) D A U true fe us ev al #[.int .u16 0, .slice none 0 0, .int .u64 0, .int .u64 0]) := X1.out.below (Below.drew (Below.refl _ _))
  go_region_held3 (fun Z => Z.cell? ⟨qb, 0, none⟩ = some (.int .i64 (n : Int)) ∧ Z.cell? ⟨qb, 1, none⟩ = some (.int .u64 (D : Int)) ∧ Z.cell? ⟨qb, 2, none⟩ = some (.int .u64 (A : Int)) ∧ Z.cell? ⟨qb, 3, none⟩ = some (.int .u64 (U : Int)) ∧ Z.cell? ⟨qb, 4, none⟩ = some (.bool true) ∧ Z.cell? ⟨qb, 5, none⟩ = some (.int .u16 (fe : Int)) ∧ Z.cell? ⟨qb, 6, none⟩ = some (.int .u16 (us : Int)) ∧ Z.cell? ⟨qb, 7, none⟩ = some (.bool ev) ∧ Z.cell? ⟨qb, 8, none⟩ = some (.bool al)) (go_keep) (first | (go_at_call 67; refine (offered_any X2.out.2.2.1 HC.out.1).mono ?_; rintro e w2 ⟨rfl, hb2⟩; rw [HO.out]; have X3 : Hid (Fx w w2 F rb k M qb (n : Int) D A U true fe us ev al #[.int .u16 0, .slice none 0 0, .int .u64 0, .int .u64 0]) := X2.out.below hb2; clear hb2; obtain ⟨d0, d1, d2, d3, d4, d5, d6, d7, d8⟩ := box9_facts X3.out.2.2.2.1))
  clear X1 X2 c0 c1 c2 c3 c4 c5 c6 c7 c8
  go_upto_region 10 with fail
  clear d0 d1 d2 d3 d4 d5 d6 d7 d8
  refine wp_region_list ?_
  (refine wpList_step (fun KK hKK => ?_); go_simp; refine hKK _ _ ?_; clear hKK KK)
  refine wpList_store_row rfl 108 _ _ rfl w.heap.size #[.int .u16 0, .slice none 0 0, .int .u64 0, .int .u64 0] rfl rfl 108 #[.int .u16 0, .slice none 0 0, .int .u64 0, .int .u64 0] X3.out.2.1 infoI rfl (by simp [Value.oneCell']) ?_
  have Y : Hid (Fx w (w2.setRow w.heap.size #[.int .u16 0, .slice none 0 0, .int .u64 0, .int .u64 0]) F rb k M qb (n : Int) D A U true fe us ev al #[.int .u16 0, .slice none 0 0, .int .u64 0, .int .u64 0]) := X3.out.set _
  clear X3
  generalize w2.setRow w.heap.size #[.int .u16 0, .slice none 0 0, .int .u64 0, .int .u64 0] = w9 at *
  obtain ⟨k0, k1, k2, k3⟩ := box4_facts Y.out.2.1
  go_wp2_with fail
  refine bodyPost_ret (v := .tuple #[.agg #[.int .u16 0, .slice none 0 0, .int .u64 0, .int .u64 0], .bool false, .int .i64 156]) (by simp [results, Try.results48, go_sem, k0, k1, k2, k3]) rfl ?_
  exact ⟨rfl, Y.out.2.2.2.1, Y.out.1⟩

theorem seg_base {B C : Nat} {w : World} {v : Value} {l : List Seg} (h : SegIn B w v l) (hc : C ≤ B) : SegIn C w v l := by
  refine ⟨h.1, ?_⟩
  rcases h.2 with hn | ⟨g, cap, cur, rfl, hb, rest⟩
  · exact .inl hn
  · exact .inr ⟨g, cap, cur, rfl, Nat.le_trans hc hb, rest⟩
/-- behind Walk: the chain, in a block of its own -/
def Fc (w V : World) (v : Value) (l : List Seg) : Prop := SegIn (w.heap.size + 1) V v l
theorem Fc.below {w V V2 : World} {v : Value} {l : List Seg} (h : Fc w V v l) (hb : Below V.heap.size V V2) : Fc w V2 v l := SegIn.kept h (fun g hg => hb.block g (SegIn.lt h g hg).2)
theorem Fc.set {w V : World} {v : Value} {l : List Seg} (h : Fc w V v l) (c : Array Value) : Fc w (V.setRow w.heap.size c) v l := SegIn.kept h (fun g hg => setRow_other _ _ _ _ (by have := (SegIn.lt h g hg).1; omega))
set_option maxHeartbeats 4000000 in
theorem fetch_one {w : World} {F : Nat → Prop} {rb k : Nat} {M : Nat → Nat} (hr : RamAt w F rb 8192 k (.pointer none) M) {qb : Nat} {n D A U : Nat} {ev al : Bool} {fe us : Nat} (hq : w.heap[qb]? = some (.cells #[.int .i64 (n : Int), .int .u64 (D : Int), .int .u64 (A : Int), .int .u64 (U : Int), .bool true, .int .u16 (fe : Int), .int .u16 (us : Int), .bool ev, .bool al] 40 (0, 0))) (hg : Gd n D A U) (hF : ¬ F qb) (hfe : fe ≤ 65535) (hw : waitN M A fe ≠ 0) (hw2 : ¬ n < waitN M A fe) (h : Nat) (c : Cn) (hh : headN M n A fe = h) (hc : walkR M D n (h : Nat) al = c) : Calls Try.prog 48 #[.pointer (some ⟨qb, 0, none⟩), .pointer (some ⟨rb, 0, none⟩)] w fun e w' => ∃ a1 c1, e = .returned (.tuple #[.agg #[.int .u16 (h : Int), .slice a1 c.l.length c1, .int .u64 (c.ta : Int), .int .u64 (c.tl : Int)], .bool ((c.e : Int) == 0), .int .i64 (c.e : Int)]) ∧ SegIn w.heap.size w' (.slice a1 c.l.length c1) c.l ∧ w'.heap[qb]? = some (.cells #[.int .i64 (n : Int), .int .u64 (D : Int), .int .u64 (A : Int), .int .u64 (U : Int), .bool true, .int .u16 (upN fe : Int), .int .u16 (us : Int), .bool ev, .bool al] 40 (0, 0)) ∧ Step (fun k => k = qb) w (fun k => k = qb) w' := by
  have XB : Hid (Fx w (w.alloc (.cells #[.int .u16 0, .slice none 0 0, .int .u64 0, .int .u64 0] 108)) F rb k M qb (n : Int) D A U true fe us ev al #[.int .u16 0, .slice none 0 0, .int .u64 0, .int .u64 0]) := ⟨Step.of_below (one_box _ _), heap_alloc_new _ _, hr.below (one_box _ _), below_box hq (one_box _ _), hF, (Array.getElem?_eq_some_iff.1 hq).1, hr.lt⟩
  have HC : Hid (Gd n D A U ∧ fe ≤ 65535 ∧ ∀ a, M a ≤ 255) := ⟨hg, hfe, hr.le⟩
  obtain ⟨of, hof⟩ : ∃ of, wordN M (A + 2) 2 8192 = of := ⟨_, rfl⟩
  have HO : Hid (wordN M (A + 2) 2 8192 = of) := hof
  have hofl : of ≤ 65535 := by rw [← hof]; exact rd_lt hr.le _
  obtain ⟨wt, hwt⟩ : ∃ wt, waitN M A fe = wt := ⟨_, rfl⟩
  have ew : IntKind.u16.wrap ((of : Int) - (fe : Int)) = (wt : Int) := by rw [← hwt]; unfold waitN; rw [hof]; exact wait_wrap hofl hfe
  have ew2 : IntKind.i64.wrap (wt : Int) = (wt : Int) := wrapRl wt (by rw [← hwt]; unfold waitN; omega)
  rw [hwt] at hw hw2
  have q1 : ((wt : Int) == 0) = false := by simp; omega
  have q2 : ¬ (n : Int) < (wt : Int) := by omega
  have hup := up_wrap hfe
  obtain ⟨f1, hf1⟩ : ∃ f1, upN fe = f1 := ⟨_, rfl⟩
  rw [hf1] at hup ⊢
  have HH : Hid (wordN M (A + 4 + 2 * (fe % n)) 2 8192 = h ∧ n ≤ 256 ∧ walkR M D n (h : Nat) al = c) := ⟨hh, hg.n2, hc⟩
  have hhl : h ≤ 65535 := by rw [← hh]; exact rd_lt hr.le _
  have eh : IntKind.i64.wrap (h : Int) = (h : Int) := wrapRl h (by omega)
  obtain ⟨cl, hcl⟩ : ∃ cl, c.l.length = cl := ⟨_, rfl⟩
  have HCL : Hid (c.l.length = cl) := hcl
  obtain ⟨ce, hce⟩ : ∃ ce, c.e = ce := ⟨_, rfl⟩
  obtain ⟨ta, hta⟩ : ∃ ta, c.ta = ta := ⟨_, rfl⟩
  obtain ⟨tl, htl⟩ : ∃ tl, c.tl = tl := ⟨_, rfl⟩
  have HCC : Hid (c.e = ce ∧ c.ta = ta ∧ c.tl = tl) := ⟨hce, hta, htl⟩
  rw [hcl, hce, hta, htl]
  clear hq hr hF hfe hw hw2 hwt hof hofl hg hf1 hh hc hcl hce hta htl hhl
  go_enter Try.func48, Try.ntmps48
  go_upto_region 1 with fail
  generalize w.alloc (.cells #[.int .u16 0, .slice none 0 0, .int .u64 0, .int .u64 0] 108) = v0 at *
  obtain ⟨c0, c1, c2, c3, c4, c5, c6, c7, c8⟩ := box9_facts XB.out.2.2.2.1
  go_upto_region 6 with (first | (go_at_call 27; refine (ready_any XB.out.2.2.2.1).mono ?_; rintro e w0 ⟨rfl, rfl⟩) | (go_at_call 66; refine (check_any HC.out.1.d1 (gd_bounds HC.out.1).2.1 (gd_bounds HC.out.1).2.2 XB.out.2.2.1 (by omega)).mono ?_; rintro e w1 ⟨rfl, hb1⟩; rw [HC.out.1.chk]; have X1 : Hid (Fx w w1 F rb k M qb (n : Int) D A U true fe us ev al #[.int .u16 0, .slice none 0 0, .int .u64 0, .int .u64 0]) := XB.out.below hb1; clear hb1))
  clear XB c0 c1 c2 c3 c4 c5 c6 c7 c8
  obtain ⟨c0, c1, c2, c3, c4, c5, c6, c7, c8⟩ := box9_facts X1.out.2.2.2.1
  have X2 : Hid (Fx w w1.drew F rb k M qb (n : Int) D A U true fe us ev al #[.int .u16 0, .slice none 0 0, .int .u64 0, .int .u64 0]) := X1.out.below (Below.drew (Below.refl _ _))
  go_region_held3 (fun Z => Z.cell? ⟨qb, 0, none⟩ = some (.int .i64 (n : Int)) ∧ Z.cell? ⟨qb, 1, none⟩ = some (.int .u64 (D : Int)) ∧ Z.cell? ⟨qb, 2, none⟩ = some (.int .u64 (A : Int)) ∧ Z.cell? ⟨qb, 3, none⟩ = some (.int .u64 (U : Int)) ∧ Z.cell? ⟨qb, 4, none⟩ = some (.bool true) ∧ Z.cell? ⟨qb, 5, none⟩ = some (.int .u16 (fe : Int)) ∧ Z.cell? ⟨qb, 6, none⟩ = some (.int .u16 (us : Int)) ∧ Z.cell? ⟨qb, 7, none⟩ = some (.bool ev) ∧ Z.cell? ⟨qb, 8, none⟩ = some (.bool al)) (go_keep) (first | (go_at_call 67; refine (offered_any X2.out.2.2.1 HC.out.1).mono ?_; rintro e w2 ⟨rfl, hb2⟩; rw [HO.out]; have X3 : Hid (Fx w w2 F rb k M qb (n : Int) D A U true fe us ev al #[.int .u16 0, .slice none 0 0, .int .u64 0, .int .u64 0]) := X2.out.below hb2; clear hb2; obtain ⟨d0, d1, d2, d3, d4, d5, d6, d7, d8⟩ := box9_facts X3.out.2.2.2.1))
  clear X1 X2 c0 c1 c2 c3 c4 c5 c6 c7 c8
  go_upto_region 11 with fail
  have X4 : Hid (Fx w w2.drew F rb k M qb (n : Int) D A U true fe us ev al #[.int .u16 0, .slice none 0 0, .int .u64 0, .int .u64 0]) := X3.out.below (Below.drew (Below.refl _ _))
  go_region_held3 (fun Z => Z.cell? ⟨qb, 0, none⟩ = some (.int .i64 (n : Int)) ∧ Z.cell? ⟨qb, 1, none⟩ = some (.int .u64 (D : Int)) ∧ Z.cell? ⟨qb, 2, none⟩ = some (.int .u64 (A : Int)) ∧ Z.cell? ⟨qb, 3, none⟩ = some (.int .u64 (U : Int)) ∧ Z.cell? ⟨qb, 4, none⟩ = some (.bool true) ∧ Z.cell? ⟨qb, 5, none⟩ = some (.int .u16 (fe : Int)) ∧ Z.cell? ⟨qb, 6, none⟩ = some (.int .u16 (us : Int)) ∧ Z.cell? ⟨qb, 7, none⟩ = some (.bool ev) ∧ Z.cell? ⟨qb, 8, none⟩ = some (.bool al)) (go_keep) (first | (go_at_call 68; refine (head_any X4.out.2.2.1 HC.out.1 fe (fe % n) HC.out.2.1 rfl).mono ?_; rintro e w3 ⟨rfl, hb3⟩; rw [HH.out.1]; have X5 : Hid (Fx w w3 F rb k M qb (n : Int) D A U true fe us ev al #[.int .u16 0, .slice none 0 0, .int .u64 0, .int .u64 0]) := X4.out.below hb3; clear hb3; obtain ⟨c0, c1, c2, c3, c4, c5, c6, c7, c8⟩ := box9_facts X5.out.2.2.2.1))
  clear X3 X4 d0 d1 d2 d3 d4 d5 d6 d7 d8
  have c5f := frozenOf X5.out.2.2.2.1 5
  go_upto_region 13 with fail
  have X6 : Hid (Fx w (w3.setCell ⟨qb, 5, none⟩ (.int .u16 (f1 : Int))) F rb k M qb (n : Int) D A U true f1 us ev al #[.int .u16 0, .slice none 0 0, .int .u64 0, .int .u64 0]) := X5.out.one f1
  clear X5 c0 c1 c2 c3 c4 c5 c6 c7 c8 c5f
  generalize w3.setCell ⟨qb, 5, none⟩ (.int .u16 (f1 : Int)) = w4 at *
  go_cut [10, 11] (fun x y wx => ∃ (p : Nat) (a1 : Option Addr) (c1 : Nat), x = .pointer (some ⟨p, 0, none⟩) ∧ y = .int .i64 (ce : Int) ∧ Fx w wx F rb k M qb (n : Int) D A U true f1 us ev al #[.int .u16 0, .slice none 0 0, .int .u64 0, .int .u64 0] ∧ wx.heap[p]? = some (.cells #[.slice a1 cl c1, .int .u64 (ta : Int), .int .u64 (tl : Int)] 50 (0, 0)) ∧ w.heap.size < p ∧ Fc w wx (.slice a1 cl c1) c.l)
  case first =>
    have Xd : Hid (Fx w w4.drew F rb k M qb (n : Int) D A U true f1 us ev al #[.int .u16 0, .slice none 0 0, .int .u64 0, .int .u64 0]) := X6.out.below (Below.drew (Below.refl _ _))
    have KW : Hid (∀ V, Fx w V F rb k M qb (n : Int) D A U true f1 us ev al #[.int .u16 0, .slice none 0 0, .int .u64 0, .int .u64 0] → Calls Try.prog 69 #[.pointer (some ⟨rb, 0, none⟩), .agg #[.int .i64 (n : Int), .int .u64 (D : Int), .int .u64 (A : Int), .int .u64 (U : Int)], .int .i64 (h : Int), .bool al] V fun e w' => ∃ a1 c1, e = .returned (.tuple #[.agg #[.slice a1 cl c1, .int .u64 (ta : Int), .int .u64 (tl : Int)], .int .i64 (ce : Int)]) ∧ Fc w w' (.slice a1 cl c1) c.l ∧ Below V.heap.size V w' ∧ ∀ g, (Value.slice a1 cl c1).ownBlock = some g → V.heap.size ≤ g) := by
      intro V hV
      have := walk_nil hV.2.2.1 n D A U HH.out.2.1 (h : Nat) al
      rw [HH.out.2.2, HCC.out.1, HCC.out.2.1, HCC.out.2.2] at this
      refine this.mono ?_
      rintro e w' ⟨v, he, hs, hb⟩
      obtain ⟨a1, c1, rfl⟩ := hs.form
      rw [HCL.out] at he hs
      exact ⟨a1, c1, he, seg_base hs (Array.getElem?_eq_some_iff.1 hV.2.1).1, hb, fun g hg => (hs.lt g hg).1⟩
    clear X6
    refine wp_region_held_drew (S := fun V => V.cell? ⟨qb, 0, none⟩ = some (.int .i64 (n : Int)) ∧ V.cell? ⟨qb, 1, none⟩ = some (.int .u64 (D : Int)) ∧ V.cell? ⟨qb, 2, none⟩ = some (.int .u64 (A : Int)) ∧ V.cell? ⟨qb, 3, none⟩ = some (.int .u64 (U : Int)) ∧ V.cell? ⟨qb, 4, none⟩ = some (.bool true) ∧ V.cell? ⟨qb, 5, none⟩ = some (.int .u16 (f1 : Int)) ∧ V.cell? ⟨qb, 6, none⟩ = some (.int .u16 (us : Int)) ∧ V.cell? ⟨qb, 7, none⟩ = some (.bool ev) ∧ V.cell? ⟨qb, 8, none⟩ = some (.bool al)) (by kernel_rfl) (box9_facts Xd.out.2.2.2.1) ?_
    intro hS
    generalize w4.drew = wd at *
    refine wpAnyH_take (i := 0) (v := ?_) rfl (by kernel_rfl) (by kernel_rfl) (by kernel_rfl) (fun _ _ _ h => h) (Or.inl ⟨by kernel_rfl, ?_⟩) hS ?_
    rotate_left
    · intro w hSw; (try dsimp only at hSw); go_simp; try (with_reducible rfl)
    (try simp only [Act.put, List.getElem_toArray, List.getElem_cons_succ, List.getElem_cons_zero, List.setIfInBounds_toArray, List.set_cons_zero, List.set_cons_succ])
    refine wpAnyH_take (i := 1) (v := ?_) rfl (by kernel_rfl) (by kernel_rfl) (by kernel_rfl) (fun _ _ _ h => h) (Or.inl ⟨by kernel_rfl, ?_⟩) hS ?_
    rotate_left
    · intro w hSw; (try dsimp only at hSw); go_simp; try (with_reducible rfl)
    (try simp only [Act.put, List.getElem_toArray, List.getElem_cons_succ, List.getElem_cons_zero, List.setIfInBounds_toArray, List.set_cons_zero, List.set_cons_succ])
    refine wpAnyH_take (i := 2) (v := ?_) rfl (by kernel_rfl) (by kernel_rfl) (by kernel_rfl) (fun _ _ _ h => h) (Or.inl ⟨by kernel_rfl, ?_⟩) hS ?_
    rotate_left
    · intro w hSw; (try dsimp only at hSw); go_simp; try (with_reducible rfl)
    (try simp only [Act.put, List.getElem_toArray, List.getElem_cons_succ, List.getElem_cons_zero, List.setIfInBounds_toArray, List.set_cons_zero, List.set_cons_succ])
    refine wpAnyH_take (i := 3) (v := ?_) rfl (by kernel_rfl) (by kernel_rfl) (by kernel_rfl) (fun _ _ _ h => h) (Or.inl ⟨by kernel_rfl, ?_⟩) hS ?_
    rotate_left
    · intro w hSw; (try dsimp only at hSw); go_simp; try (with_reducible rfl)
    (try simp only [Act.put, List.getElem_toArray, List.getElem_cons_succ, List.getElem_cons_zero, List.setIfInBounds_toArray, List.set_cons_zero, List.set_cons_succ])
    refine wpAnyH_take (i := 4) (v := ?_) rfl (by kernel_rfl) (by kernel_rfl) (by kernel_rfl) (fun _ _ _ h => h) (Or.inl ⟨by kernel_rfl, ?_⟩) hS ?_
    rotate_left
    · intro w hSw; (try dsimp only at hSw); go_simp; try (with_reducible rfl)
    (try simp only [Act.put, List.getElem_toArray, List.getElem_cons_succ, List.getElem_cons_zero, List.setIfInBounds_toArray, List.set_cons_zero, List.set_cons_succ])
    refine wpAnyH_take (i := 5) (v := ?_) rfl (by kernel_rfl) (by kernel_rfl) (by kernel_rfl) (fun _ _ _ h => h) (Or.inl ⟨by kernel_rfl, ?_⟩) hS ?_
    rotate_left
    · intro w hSw; (try dsimp only at hSw); go_simp; try (with_reducible rfl)
    (try simp only [Act.put, List.getElem_toArray, List.getElem_cons_succ, List.getElem_cons_zero, List.setIfInBounds_toArray, List.set_cons_zero, List.set_cons_succ])
    refine wpAnyH_take (i := 6) (v := ?_) rfl (by kernel_rfl) (by kernel_rfl) (by kernel_rfl) (fun _ _ _ h => h) (Or.inl ⟨by kernel_rfl, ?_⟩) hS ?_
    rotate_left
    · intro w hSw; (try dsimp only at hSw); go_simp; try (with_reducible rfl)
    (try simp only [Act.put, List.getElem_toArray, List.getElem_cons_succ, List.getElem_cons_zero, List.setIfInBounds_toArray, List.set_cons_zero, List.set_cons_succ])
    refine wpAnyH_take (i := 7) (v := ?_) rfl (by kernel_rfl) (by kernel_rfl) (by kernel_rfl) (fun _ _ _ h => h) (Or.inl ⟨by kernel_rfl, ?_⟩) hS ?_
    rotate_left
    · intro w hSw; (try dsimp only at hSw); go_simp; try (with_reducible rfl)
    (try simp only [Act.put, List.getElem_toArray, List.getElem_cons_succ, List.getElem_cons_zero, List.setIfInBounds_toArray, List.set_cons_zero, List.set_cons_succ])
    refine wpAnyH_take (i := 8) (v := ?_) rfl (by kernel_rfl) (by kernel_rfl) (by kernel_rfl) (fun _ _ _ h => h) (Or.inl ⟨by kernel_rfl, ?_⟩) hS ?_
    rotate_left
    · intro w hSw; (try dsimp only at hSw); go_simp; try (with_reducible rfl)
    (try simp only [Act.put, List.getElem_toArray, List.getElem_cons_succ, List.getElem_cons_zero, List.setIfInBounds_toArray, List.set_cons_zero, List.set_cons_succ])
    refine wpAnyH_take (i := 9) (v := ?_) rfl (by kernel_rfl) (by kernel_rfl) (by kernel_rfl) (fun _ _ _ h => h) (Or.inl ⟨by kernel_rfl, ?_⟩) hS ?_
    rotate_left
    · intro w hSw; (try dsimp only at hSw); go_simp; try (with_reducible rfl)
    (try simp only [Act.put, List.getElem_toArray, List.getElem_cons_succ, List.getElem_cons_zero, List.setIfInBounds_toArray, List.set_cons_zero, List.set_cons_succ])
    refine wpAnyH_take (i := 10) (v := ?_) rfl (by kernel_rfl) (by kernel_rfl) (by kernel_rfl) (fun _ _ _ h => h) (Or.inl ⟨by kernel_rfl, ?_⟩) hS ?_
    rotate_left
    · intro w hSw; (try dsimp only at hSw); go_simp; try (with_reducible rfl)
    (try simp only [Act.put, List.getElem_toArray, List.getElem_cons_succ, List.getElem_cons_zero, List.setIfInBounds_toArray, List.set_cons_zero, List.set_cons_succ])
    refine wpAnyH_ready (rs := [11, 15]) (by kernel_rfl) (by simp) ?_
    refine AllReadyH.cons rfl (fun K1 hK1 => ?_) (AllReadyH.cons rfl (fun K1 hK1 => ?_) AllReadyH.nil)
    · go_simp
      refine (KW.out _ Xd.out).mono ?_
      rintro e w5 ⟨a1, c1, rfl, hs5, hb5, -⟩
      have X7 : Hid (Fx w w5 F rb k M qb (n : Int) D A U true f1 us ev al #[.int .u16 0, .slice none 0 0, .int .u64 0, .int .u64 0] ∧ Fc w w5 (.slice a1 cl c1) c.l) := ⟨Xd.out.below hb5, hs5⟩
      clear hs5 hb5 Xd
      refine hK1.out _ _ (box9_facts X7.out.1.2.2.2.1) (fun h2 => ?_)
      clear hK1 K1 hS
      (try simp only [Act.put, List.getElem_toArray, List.getElem_cons_succ, List.getElem_cons_zero, List.setIfInBounds_toArray, List.set_cons_zero, List.set_cons_succ])
      refine wpAnyH_take (i := 12) (v := ?_) rfl (by kernel_rfl) (by kernel_rfl) (by kernel_rfl) (fun _ _ _ h => h) (Or.inl ⟨by kernel_rfl, ?_⟩) h2 ?_
      rotate_left
      · intro w hSw; (try dsimp only at hSw); go_simp; try (with_reducible rfl)
      (try simp only [Act.put, List.getElem_toArray, List.getElem_cons_succ, List.getElem_cons_zero, List.setIfInBounds_toArray, List.set_cons_zero, List.set_cons_succ])
      refine wpAnyH_take (i := 13) (v := ?_) rfl (by kernel_rfl) (by kernel_rfl) (by kernel_rfl) (fun _ _ _ h => h) (Or.inl ⟨by kernel_rfl, ?_⟩) h2 ?_
      rotate_left
      · intro w hSw; (try dsimp only at hSw); go_simp; try (with_reducible rfl)
      (try simp only [Act.put, List.getElem_toArray, List.getElem_cons_succ, List.getElem_cons_zero, List.setIfInBounds_toArray, List.set_cons_zero, List.set_cons_succ])
      refine wpAnyH_take (i := 14) (v := ?_) rfl (by kernel_rfl) (by kernel_rfl) (by kernel_rfl) (fun _ _ _ h => h) (Or.inl ⟨by kernel_rfl, ?_⟩) h2 ?_
      rotate_left
      · intro w hSw; (try dsimp only at hSw); go_simp; try (with_reducible rfl)
      (try simp only [Act.put, List.getElem_toArray, List.getElem_cons_succ, List.getElem_cons_zero, List.setIfInBounds_toArray, List.set_cons_zero, List.set_cons_succ])
      refine wpAnyH_ready (rs := [15]) (by kernel_rfl) (by simp) ?_
      refine AllReadyH.cons rfl (fun K1 hK1 => ?_) AllReadyH.nil
      go_simp
      have hb6 : Below w5.heap.size w5 (w5.alloc (.cells #[.slice none 0 0, .int .u64 0, .int .u64 0] 50)) := one_box _ _
      have X8 : Hid (Fx w (w5.alloc (.cells #[.slice none 0 0, .int .u64 0, .int .u64 0] 50)) F rb k M qb (n : Int) D A U true f1 us ev al #[.int .u16 0, .slice none 0 0, .int .u64 0, .int .u64 0] ∧ Fc w (w5.alloc (.cells #[.slice none 0 0, .int .u64 0, .int .u64 0] 50)) (.slice a1 cl c1) c.l ∧ (w5.alloc (.cells #[.slice none 0 0, .int .u64 0, .int .u64 0] 50)).heap[w5.heap.size]? = some (.cells #[.slice none 0 0, .int .u64 0, .int .u64 0] 50 (0, 0)) ∧ w.heap.size < w5.heap.size) := ⟨X7.out.1.below hb6, X7.out.2.below hb6, heap_alloc_new _ _, (Array.getElem?_eq_some_iff.1 X7.out.1.2.1).1⟩
      have HG8 : Hid (∀ g, (Value.slice a1 cl c1).ownBlock = some g → g ≠ w5.heap.size) := fun g hg => by have := (SegIn.lt X7.out.2 g hg).2; omega
      clear X7 hb6
      generalize w5.alloc (.cells #[.slice none 0 0, .int .u64 0, .int .u64 0] 50) = w6 at *
      generalize w5.heap.size = p at *
      refine hK1.out _ _ (box9_facts X8.out.1.2.2.2.1) (fun h3 => ?_)
      clear hK1 K1 h2
      (try simp only [Act.put, List.getElem_toArray, List.getElem_cons_succ, List.getElem_cons_zero, List.setIfInBounds_toArray, List.set_cons_zero, List.set_cons_succ])
      refine wpAnyH_ready (rs := [16]) (by kernel_rfl) (by simp) ?_
      refine AllReadyH.cons rfl (fun K1 hK1 => ?_) AllReadyH.nil
      rw [if_pos (by kernel_rfl)]
      refine wp_store_row 50 _ _ rfl p #[.slice a1 cl c1, .int .u64 (ta : Int), .int .u64 (tl : Int)] rfl rfl 50 #[.slice none 0 0, .int .u64 0, .int .u64 0] X8.out.2.2.1 infoC rfl (by simp [Value.oneCell']) ?_
      have Y : Hid (Fx w (w6.setRow p #[.slice a1 cl c1, .int .u64 (ta : Int), .int .u64 (tl : Int)]) F rb k M qb (n : Int) D A U true f1 us ev al #[.int .u16 0, .slice none 0 0, .int .u64 0, .int .u64 0] ∧ (w6.setRow p #[.slice a1 cl c1, .int .u64 (ta : Int), .int .u64 (tl : Int)]).heap[p]? = some (.cells #[.slice a1 cl c1, .int .u64 (ta : Int), .int .u64 (tl : Int)] 50 (0, 0)) ∧ w.heap.size < p ∧ Fc w (w6.setRow p #[.slice a1 cl c1, .int .u64 (ta : Int), .int .u64 (tl : Int)]) (.slice a1 cl c1) c.l) := ⟨X8.out.1.other X8.out.2.2.2 _, setRow_heap _ _ _ _ _ _ X8.out.2.2.1, X8.out.2.2.2, SegIn.kept X8.out.2.1 (fun g hg => setRow_other _ _ _ _ (HG8.out g hg))⟩
      clear X8
      generalize w6.setRow p #[.slice a1 cl c1, .int .u64 (ta : Int), .int .u64 (tl : Int)] = w9 at *
      refine hK1.out _ _ (box9_facts Y.out.1.2.2.2.1) (fun h9 => ?_)
      clear hK1 K1 h3
      (try simp only [Act.put, List.getElem_toArray, List.getElem_cons_succ, List.getElem_cons_zero, List.setIfInBounds_toArray, List.set_cons_zero, List.set_cons_succ])
      refine wpAnyH_take (i := 17) (v := ?_) rfl (by kernel_rfl) (by kernel_rfl) (by kernel_rfl) (fun _ _ _ h => h) (Or.inl ⟨by kernel_rfl, ?_⟩) h9 ?_
      rotate_left
      · intro w hSw; (try dsimp only at hSw); go_simp; try (with_reducible rfl)
      (try simp only [Act.put, List.getElem_toArray, List.getElem_cons_succ, List.getElem_cons_zero, List.setIfInBounds_toArray, List.set_cons_zero, List.set_cons_succ])
      refine wpAnyH_done (by kernel_rfl) ?_ _
      go_wp2_with fail
      go_meet
      exact ⟨p, a1, c1, rfl, rfl, Y.out.1, Y.out.2.1, Y.out.2.2.1, Y.out.2.2.2⟩
    · go_simp
      have hb6 : Below wd.heap.size wd (wd.alloc (.cells #[.slice none 0 0, .int .u64 0, .int .u64 0] 50)) := one_box _ _
      have X7 : Hid (Fx w (wd.alloc (.cells #[.slice none 0 0, .int .u64 0, .int .u64 0] 50)) F rb k M qb (n : Int) D A U true f1 us ev al #[.int .u16 0, .slice none 0 0, .int .u64 0, .int .u64 0] ∧ (wd.alloc (.cells #[.slice none 0 0, .int .u64 0, .int .u64 0] 50)).heap[wd.heap.size]? = some (.cells #[.slice none 0 0, .int .u64 0, .int .u64 0] 50 (0, 0)) ∧ w.heap.size < wd.heap.size) := ⟨Xd.out.below hb6, heap_alloc_new _ _, (Array.getElem?_eq_some_iff.1 Xd.out.2.1).1⟩
      clear hb6 Xd
      generalize wd.alloc (.cells #[.slice none 0 0, .int .u64 0, .int .u64 0] 50) = w5 at *
      generalize wd.heap.size = p at *
      refine hK1.out _ _ (box9_facts X7.out.1.2.2.2.1) (fun h2 => ?_)
      clear hK1 K1 hS
      (try simp only [Act.put, List.getElem_toArray, List.getElem_cons_succ, List.getElem_cons_zero, List.setIfInBounds_toArray, List.set_cons_zero, List.set_cons_succ])
      refine wpAnyH_ready (rs := [11]) (by kernel_rfl) (by simp) ?_
      refine AllReadyH.cons rfl (fun K1 hK1 => ?_) AllReadyH.nil
      go_simp
      refine (KW.out _ X7.out.1).mono ?_
      rintro e w6 ⟨a1, c1, rfl, hs6, hb6, hg6⟩
      have X8 : Hid (Fx w w6 F rb k M qb (n : Int) D A U true f1 us ev al #[.int .u16 0, .slice none 0 0, .int .u64 0, .int .u64 0] ∧ Fc w w6 (.slice a1 cl c1) c.l ∧ w6.heap[p]? = some (.cells #[.slice none 0 0, .int .u64 0, .int .u64 0] 50 (0, 0)) ∧ w.heap.size < p) := ⟨X7.out.1.below hb6, hs6, below_box X7.out.2.1 hb6, X7.out.2.2⟩
      have HG8 : Hid (∀ g, (Value.slice a1 cl c1).ownBlock = some g → g ≠ p) := fun g hg => by have h1 := hg6 g hg; have h2 := (Array.getElem?_eq_some_iff.1 X7.out.2.1).1; omega
      clear hs6 hb6 X7 hg6
      refine hK1.out _ _ (box9_facts X8.out.1.2.2.2.1) (fun h3 => ?_)
      clear hK1 K1 h2
      (try simp only [Act.put, List.getElem_toArray, List.getElem_cons_succ, List.getElem_cons_zero, List.setIfInBounds_toArray, List.set_cons_zero, List.set_cons_succ])
      refine wpAnyH_take (i := 12) (v := ?_) rfl (by kernel_rfl) (by kernel_rfl) (by kernel_rfl) (fun _ _ _ h => h) (Or.inl ⟨by kernel_rfl, ?_⟩) h3 ?_
      rotate_left
      · intro w hSw; (try dsimp only at hSw); go_simp; try (with_reducible rfl)
      (try simp only [Act.put, List.getElem_toArray, List.getElem_cons_succ, List.getElem_cons_zero, List.setIfInBounds_toArray, List.set_cons_zero, List.set_cons_succ])
      refine wpAnyH_take (i := 13) (v := ?_) rfl (by kernel_rfl) (by kernel_rfl) (by kernel_rfl) (fun _ _ _ h => h) (Or.inl ⟨by kernel_rfl, ?_⟩) h3 ?_
      rotate_left
      · intro w hSw; (try dsimp only at hSw); go_simp; try (with_reducible rfl)
      (try simp only [Act.put, List.getElem_toArray, List.getElem_cons_succ, List.getElem_cons_zero, List.setIfInBounds_toArray, List.set_cons_zero, List.set_cons_succ])
      refine wpAnyH_take (i := 14) (v := ?_) rfl (by kernel_rfl) (by kernel_rfl) (by kernel_rfl) (fun _ _ _ h => h) (Or.inl ⟨by kernel_rfl, ?_⟩) h3 ?_
      rotate_left
      · intro w hSw; (try dsimp only at hSw); go_simp; try (with_reducible rfl)
      (try simp only [Act.put, List.getElem_toArray, List.getElem_cons_succ, List.getElem_cons_zero, List.setIfInBounds_toArray, List.set_cons_zero, List.set_cons_succ])
      refine wpAnyH_ready (rs := [16]) (by kernel_rfl) (by simp) ?_
      refine AllReadyH.cons rfl (fun K1 hK1 => ?_) AllReadyH.nil
      rw [if_pos (by kernel_rfl)]
      refine wp_store_row 50 _ _ rfl p #[.slice a1 cl c1, .int .u64 (ta : Int), .int .u64 (tl : Int)] rfl rfl 50 #[.slice none 0 0, .int .u64 0, .int .u64 0] X8.out.2.2.1 infoC rfl (by simp [Value.oneCell']) ?_
      have Y : Hid (Fx w (w6.setRow p #[.slice a1 cl c1, .int .u64 (ta : Int), .int .u64 (tl : Int)]) F rb k M qb (n : Int) D A U true f1 us ev al #[.int .u16 0, .slice none 0 0, .int .u64 0, .int .u64 0] ∧ (w6.setRow p #[.slice a1 cl c1, .int .u64 (ta : Int), .int .u64 (tl : Int)]).heap[p]? = some (.cells #[.slice a1 cl c1, .int .u64 (ta : Int), .int .u64 (tl : Int)] 50 (0, 0)) ∧ w.heap.size < p ∧ Fc w (w6.setRow p #[.slice a1 cl c1, .int .u64 (ta : Int), .int .u64 (tl : Int)]) (.slice a1 cl c1) c.l) := ⟨X8.out.1.other X8.out.2.2.2 _, setRow_heap _ _ _ _ _ _ X8.out.2.2.1, X8.out.2.2.2, SegIn.kept X8.out.2.1 (fun g hg => setRow_other _ _ _ _ (HG8.out g hg))⟩
      clear X8
      generalize w6.setRow p #[.slice a1 cl c1, .int .u64 (ta : Int), .int .u64 (tl : Int)] = w9 at *
      refine hK1.out _ _ (box9_facts Y.out.1.2.2.2.1) (fun h9 => ?_)
      clear hK1 K1 h3
      (try simp only [Act.put, List.getElem_toArray, List.getElem_cons_succ, List.getElem_cons_zero, List.setIfInBounds_toArray, List.set_cons_zero, List.set_cons_succ])
      refine wpAnyH_take (i := 17) (v := ?_) rfl (by kernel_rfl) (by kernel_rfl) (by kernel_rfl) (fun _ _ _ h => h) (Or.inl ⟨by kernel_rfl, ?_⟩) h9 ?_
      rotate_left
      · intro w hSw; (try dsimp only at hSw); go_simp; try (with_reducible rfl)
      (try simp only [Act.put, List.getElem_toArray, List.getElem_cons_succ, List.getElem_cons_zero, List.setIfInBounds_toArray, List.set_cons_zero, List.set_cons_succ])
      refine wpAnyH_done (by kernel_rfl) ?_ _
      go_wp2_with fail
      go_meet
      exact ⟨p, a1, c1, rfl, rfl, Y.out.1, Y.out.2.1, Y.out.2.2.1, Y.out.2.2.2⟩
  case rest =>
    obtain ⟨p, a1, c1, rfl, rfl, hx, hp, hwp, hs⟩ := hcut
    have X9 : Hid (Fx w wc F rb k M qb (n : Int) D A U true f1 us ev al #[.int .u16 0, .slice none 0 0, .int .u64 0, .int .u64 0] ∧ wc.heap[p]? = some (.cells #[.slice a1 cl c1, .int .u64 (ta : Int), .int .u64 (tl : Int)] 50 (0, 0)) ∧ Fc w wc (.slice a1 cl c1) c.l) := ⟨hx, hp, hs⟩
    clear hx hp hwp hs
    obtain ⟨p0, p1, p2⟩ := box3_facts X9.out.2.1
    go_upto_region 14 with fail
    refine wp_region_list ?_
    (refine wpList_step (fun KK hKK => ?_); go_simp; refine hKK _ _ ?_; clear hKK KK)
    (refine wpList_step (fun KK hKK => ?_); go_simp; refine hKK _ _ ?_; clear hKK KK)
    (refine wpList_step (fun KK hKK => ?_); go_simp; refine hKK _ _ ?_; clear hKK KK)
    (refine wpList_step (fun KK hKK => ?_); go_simp; refine hKK _ _ ?_; clear hKK KK)
    (refine wpList_step (fun KK hKK => ?_); go_simp; refine hKK _ _ ?_; clear hKK KK)
    (refine wpList_step (fun KK hKK => ?_); go_simp; refine hKK _ _ ?_; clear hKK KK)
    refine wpList_store_row rfl 108 _ _ rfl w.heap.size #[.int .u16 (h : Int), .slice a1 cl c1, .int .u64 (ta : Int), .int .u64 (tl : Int)] rfl rfl 108 #[.int .u16 0, .slice none 0 0, .int .u64 0, .int .u64 0] X9.out.1.2.1 infoI rfl (by simp [Value.oneCell']) ?_
    have Y : Hid (Fx w (wc.setRow w.heap.size #[.int .u16 (h : Int), .slice a1 cl c1, .int .u64 (ta : Int), .int .u64 (tl : Int)]) F rb k M qb (n : Int) D A U true f1 us ev al #[.int .u16 (h : Int), .slice a1 cl c1, .int .u64 (ta : Int), .int .u64 (tl : Int)] ∧ Fc w (wc.setRow w.heap.size #[.int .u16 (h : Int), .slice a1 cl c1, .int .u64 (ta : Int), .int .u64 (tl : Int)]) (.slice a1 cl c1) c.l) := ⟨X9.out.1.set _, X9.out.2.2.set _⟩
    clear X9 p0 p1 p2
    generalize wc.setRow w.heap.size #[.int .u16 (h : Int), .slice a1 cl c1, .int .u64 (ta : Int), .int .u64 (tl : Int)] = w9 at *
    obtain ⟨k0, k1, k2, k3⟩ := box4_facts Y.out.1.2.1
    go_wp2_with fail
    refine bodyPost_ret (v := .tuple #[.agg #[.int .u16 (h : Int), .slice a1 cl c1, .int .u64 (ta : Int), .int .u64 (tl : Int)], .bool ((ce : Int) == 0), .int .i64 (ce : Int)]) (by simp [results, Try.results48, go_sem, k0, k1, k2, k3]) rfl ?_
    exact ⟨a1, c1, rfl, seg_base Y.out.2 (by omega), Y.out.1.2.2.2.1, Y.out.1.1⟩
end Go.Proofs.Ytmjdnocilbnoaaa

/- The queue: a device is asked. -/
namespace Go.Proofs.Ytmjdnocilbnoaaa
open Go.RowKit Go.Maps
set_option linter.unusedVariables false
set_option linter.unusedSimpArgs false
set_option maxRecDepth 100000
theorem catch_idle (p q : Addr) (w : World) : CallsD Try.prog 70 #[.pointer (some p), .pointer (some q)] .returning w fun e u' w' => e = .returned (.tuple #[]) ∧ u' = .returning ∧ w' = w := by
  refine callsD_of_wpS Try.func70 rfl fun c₀ cs hu => ?_
  apply wpS_seq
  apply wpS_region
  simp [wpOpsS, go_sem, recoverD, hu, Try.ntmps70, Exit.thenS]
  refine wpS_cond (t := false) (by simp [Act.eval, Array.replicate]) ?_
  simp only [Bool.false_eq_true, if_false]
  refine wpS_of_wp (wp_skip ?_)
  cases c₀
  simp_all [bodyPostS, results, Try.results70]
/-- the three boxes of use -/
def Us (w V : World) (a : Option Addr) (L c ta tl : Nat) (x y : Value) : Prop := Below w.heap.size w V ∧ V.heap[w.heap.size]? = some (.cells #[.slice a L c, .int .u64 (ta : Int), .int .u64 (tl : Int)] 50 (0, 0)) ∧ V.heap[w.heap.size + 1]? = some (.cells #[x] 51 (0, 0)) ∧ V.heap[w.heap.size + 2]? = some (.cells #[y] 4 (0, 0))
theorem us_new (w : World) (a : Option Addr) (L c ta tl : Nat) : Us w (((w.alloc (.cells #[.slice a L c, .int .u64 (ta : Int), .int .u64 (tl : Int)] 50)).alloc (.cells #[.int .u32 0] 51)).alloc (.cells #[.bool false] 4)) a L c ta tl (.int .u32 0) (.bool false) := by
  have h := three_in w (.cells #[.slice a L c, .int .u64 (ta : Int), .int .u64 (tl : Int)] 50) (.cells #[.int .u32 0] 51) (.cells #[.bool false] 4)
  exact ⟨h.2.2.2, h.1, h.2.1, h.2.2.1⟩
theorem box1_facts {w : World} {b : Nat} {x0 : Value} {t : TypeId} (h : w.heap[b]? = some (.cells #[x0] t (0, 0))) : w.cell? ⟨b, 0, none⟩ = some x0 ∧ w.frozen? ⟨b, 0, none⟩ = false := ⟨cellOf h 0 _ rfl, frozenOf h 0⟩
theorem use_any {w : World} (df : Nat) (cap : Array Value) (hcf : ∀ (args : Array Value) (V : World), (callFunc df args).run Try.prog V = .ok (.enter df args) V) (a : Option Addr) (L c ta tl : Nat) (G : Nat → Prop) (hG : ∀ k, G k → k < w.heap.size)
    (P : (Nat → Prop) → World → Nat → Bool → Prop)
    (hP : ∀ G' V V' n o, P G' V n o → V.heap.size ≤ V'.heap.size → (∀ k, G' k → V'.heap[k]? = V.heap[k]?) → P G' V' n o)
    (hdev : ∀ V, Below w.heap.size w V → Calls Try.prog df (#[.agg #[.slice a L c, .int .u64 (ta : Int), .int .u64 (tl : Int)]] ++ cap) V fun e V' => ∃ (n : Nat) (o : Bool) (G' : Nat → Prop), e = .returned (.tuple #[.int .u32 (n : Int), .bool o]) ∧ Step G V G' V' ∧ P G' V' n o) :
    Calls Try.prog 49 #[.func (.func df) #[] cap, .agg #[.slice a L c, .int .u64 (ta : Int), .int .u64 (tl : Int)]] w fun e w' => ∃ (n : Nat) (o : Bool) (G' : Nat → Prop), e = .returned (.tuple #[.int .u32 (n : Int), .bool o]) ∧ Step G w G' w' ∧ P G' w' n o := by
  have hmf : ∀ (fn : Fn) (first cap : Array Value) (w : World), (Instr.makeFunc fn first cap).run Try.prog w = .ok (.func fn first cap) w := fun _ _ _ _ => rfl
  have U0 : Hid (Us w (((w.alloc (.cells #[.slice a L c, .int .u64 (ta : Int), .int .u64 (tl : Int)] 50)).alloc (.cells #[.int .u32 0] 51)).alloc (.cells #[.bool false] 4)) a L c ta tl (.int .u32 0) (.bool false)) := us_new w a L c ta tl
  have HD : Hid ((∀ k, G k → k < w.heap.size) ∧ (∀ G' V V' n o, P G' V n o → V.heap.size ≤ V'.heap.size → (∀ k, G' k → V'.heap[k]? = V.heap[k]?) → P G' V' n o) ∧ ∀ V, Below w.heap.size w V → Calls Try.prog df (#[.agg #[.slice a L c, .int .u64 (ta : Int), .int .u64 (tl : Int)]] ++ cap) V fun e V' => ∃ (n : Nat) (o : Bool) (G' : Nat → Prop), e = .returned (.tuple #[.int .u32 (n : Int), .bool o]) ∧ Step G V G' V' ∧ P G' V' n o) := ⟨hG, hP, hdev⟩
  clear hG hP hdev
  go_enter_defers Try.func49, Try.ntmps49
  go_upto_region 1 with fail
  generalize ((w.alloc (.cells #[.slice a L c, .int .u64 (ta : Int), .int .u64 (tl : Int)] 50)).alloc (.cells #[.int .u32 0] 51)).alloc (.cells #[.bool false] 4) = v0 at *
  obtain ⟨p0, p1, p2⟩ := box3_facts U0.out.2.1
  go_wp2_with fail
  refine (HD.out.2.2 _ U0.out.1).mono ?_
  rintro e w1 ⟨n, o, G', rfl, hs, hp⟩
  have U1 : Hid (Step G w G' w1 ∧ P G' w1 n o ∧ w1.heap[w.heap.size + 1]? = some (.cells #[.int .u32 0] 51 (0, 0)) ∧ w1.heap[w.heap.size + 2]? = some (.cells #[.bool false] 4 (0, 0)) ∧ ¬ G' (w.heap.size + 1) ∧ ¬ G' (w.heap.size + 2)) := by
    have n1 : ¬ G (w.heap.size + 1) := fun h => by have := HD.out.1 _ h; omega
    have n2 : ¬ G (w.heap.size + 2) := fun h => by have := HD.out.1 _ h; omega
    exact ⟨(Step.of_below U0.out.1).trans hs, hp, step_box hs U0.out.2.2.1 n1, step_box hs U0.out.2.2.2 n2, not_later hs (Array.getElem?_eq_some_iff.1 U0.out.2.2.1).1 n1, not_later hs (Array.getElem?_eq_some_iff.1 U0.out.2.2.2).1 n2⟩
  clear hs hp U0 p0 p1 p2
  obtain ⟨q0, q1⟩ := box1_facts U1.out.2.2.1
  obtain ⟨r0, r1⟩ := box1_facts U1.out.2.2.2.1
  go_wp2_with fail
  have U2 : Hid (Step G w G' ((w1.setCell ⟨w.heap.size + 1, 0, none⟩ (.int .u32 (n : Int))).setCell ⟨w.heap.size + 2, 0, none⟩ (.bool o)) ∧ P G' ((w1.setCell ⟨w.heap.size + 1, 0, none⟩ (.int .u32 (n : Int))).setCell ⟨w.heap.size + 2, 0, none⟩ (.bool o)) n o ∧ ((w1.setCell ⟨w.heap.size + 1, 0, none⟩ (.int .u32 (n : Int))).setCell ⟨w.heap.size + 2, 0, none⟩ (.bool o)).heap[w.heap.size + 1]? = some (.cells #[.int .u32 (n : Int)] 51 (0, 0)) ∧ ((w1.setCell ⟨w.heap.size + 1, 0, none⟩ (.int .u32 (n : Int))).setCell ⟨w.heap.size + 2, 0, none⟩ (.bool o)).heap[w.heap.size + 2]? = some (.cells #[.bool o] 4 (0, 0))) := by
    obtain ⟨u1, u2, u3, u4, u5, u6⟩ := U1.out
    have same : ∀ z, z ≠ w.heap.size + 1 → z ≠ w.heap.size + 2 → ((w1.setCell ⟨w.heap.size + 1, 0, none⟩ (.int .u32 (n : Int))).setCell ⟨w.heap.size + 2, 0, none⟩ (.bool o)).heap[z]? = w1.heap[z]? := fun z h1 h2 => (heap_setCell _ _ _ _ _ h2).trans (heap_setCell _ _ _ _ _ h1)
    refine ⟨⟨u1.os, u1.tape, u1.output, by simpa [World.setCell] using u1.size, fun z hz hn => (same z (by omega) (by omega)).trans (u1.block z hz hn), u1.old, u1.keep⟩, HD.out.2.1 _ _ _ _ _ u2 (by simp [World.setCell]) (fun z hz => same z (fun e => u5 (e ▸ hz)) (fun e => u6 (e ▸ hz))), (heap_setCell _ _ _ _ _ (by omega)).trans (set_box u3 0 _), set_box ((heap_setCell _ _ _ _ _ (by omega)).trans u4) 0 _⟩
  clear U1 q0 q1 r0 r1
  generalize (w1.setCell ⟨w.heap.size + 1, 0, none⟩ (.int .u32 (n : Int))).setCell ⟨w.heap.size + 2, 0, none⟩ (.bool o) = w2 at *
  refine leaves_cons (f := 70) (args := #[.pointer (some ⟨w.heap.size + 1, 0, none⟩), .pointer (some ⟨w.heap.size + 2, 0, none⟩)]) (by simp) (by simp [go_sem]) ?_
  refine (catch_idle _ _ _).mono ?_
  rintro e u' w3 ⟨rfl, rfl, rfl⟩
  obtain ⟨q0, q1⟩ := box1_facts U2.out.2.2.1
  obtain ⟨r0, r1⟩ := box1_facts U2.out.2.2.2
  exact ⟨.tuple #[.int .u32 (n : Int), .bool o], by simp [results, Try.results49, go_sem, q0, r0], n, o, G', rfl, U2.out.1, U2.out.2.1⟩
end Go.Proofs.Ytmjdnocilbnoaaa

/- The queue: a device, and a service under way. -/
namespace Go.Proofs.Ytmjdnocilbnoaaa
open Go.RowKit Go.Maps
set_option linter.unusedVariables false
set_option linter.unusedSimpArgs false
set_option maxRecDepth 100000
theorem fetch_non {w : World} {F : Nat → Prop} {rb k : Nat} {M : Nat → Nat} (hr : RamAt w F rb 8192 k (.pointer none) M) {qb : Nat} {s : Int} {D A U : Nat} {rd ev al : Bool} {fe us : Nat} (hq : w.heap[qb]? = some (.cells #[.int .i64 s, .int .u64 (D : Int), .int .u64 (A : Int), .int .u64 (U : Int), .bool rd, .int .u16 (fe : Int), .int .u16 (us : Int), .bool ev, .bool al] 40 (0, 0))) (hF : ¬ F qb) (hD : D < 18446744073709551616) (hA : A < 18446744073709551616) (hU : U < 18446744073709551616) (hfe : fe ≤ 65535) {e : Int} (h : fetchR M s D A U rd fe al = .non e) : Calls Try.prog 48 #[.pointer (some ⟨qb, 0, none⟩), .pointer (some ⟨rb, 0, none⟩)] w fun r w' => r = .returned (.tuple #[.agg #[.int .u16 0, .slice none 0 0, .int .u64 0, .int .u64 0], .bool false, .int .i64 e]) ∧ w'.heap[qb]? = some (.cells #[.int .i64 s, .int .u64 (D : Int), .int .u64 (A : Int), .int .u64 (U : Int), .bool rd, .int .u16 (fe : Int), .int .u16 (us : Int), .bool ev, .bool al] 40 (0, 0)) ∧ Step (fun k => k = qb) w (fun k => k = qb) w' := by
  cases rd with
  | false =>
    rw [fetch_idle] at h
    cases h
    exact fetch_off hr hq hF
  | true =>
    by_cases hc : chkN s D A U 8192 = 0
    case neg =>
      rw [fetch_bad hc] at h
      cases h
      exact fetch_chk hr hq hF hD hA hU hc
    case pos =>
      obtain ⟨n, rfl, hg⟩ := gd_of hc hD
      by_cases h1 : waitN M A fe = 0
      · rw [fetch_none hc h1] at h
        cases h
        exact fetch_wait hr hq hg hF hfe h1
      by_cases h2 : n < waitN M A fe
      · rw [fetch_jump hc h1 h2] at h
        cases h
        exact fetch_jmp hr hq hg hF hfe h1 h2
      rw [fetch_got hc h1 h2] at h
      cases h
/-- what holds where something was fetched -/
theorem got_facts {M : Nat → Nat} {s : Int} {D A U fe : Nat} {rd al : Bool} {h : Nat} {c : Cn} (hD : D < 18446744073709551616) (hf : fetchR M s D A U rd fe al = .got h c) : rd = true ∧ ∃ n : Nat, s = n ∧ Gd n D A U ∧ waitN M A fe ≠ 0 ∧ ¬ n < waitN M A fe ∧ headN M n A fe = h ∧ walkR M D n (h : Nat) al = c := by
  cases rd with
  | false => rw [fetch_idle] at hf; cases hf
  | true =>
    by_cases hc : chkN s D A U 8192 = 0
    case neg => rw [fetch_bad hc] at hf; cases hf
    case pos =>
      obtain ⟨n, rfl, hg⟩ := gd_of hc hD
      by_cases h1 : waitN M A fe = 0
      · rw [fetch_none hc h1] at hf; cases hf
      by_cases h2 : n < waitN M A fe
      · rw [fetch_jump hc h1 h2] at hf; cases hf
      rw [fetch_got hc h1 h2] at hf
      simp only [Ft.got.injEq] at hf
      obtain ⟨rfl, rfl⟩ := hf
      exact ⟨rfl, n, rfl, hg, h1, h2, rfl, rfl⟩
theorem fetch_any {w : World} {F : Nat → Prop} {rb k : Nat} {M : Nat → Nat} (hr : RamAt w F rb 8192 k (.pointer none) M) {qb : Nat} {s : Int} {D A U : Nat} {rd ev al : Bool} {fe us : Nat} (hq : w.heap[qb]? = some (.cells #[.int .i64 s, .int .u64 (D : Int), .int .u64 (A : Int), .int .u64 (U : Int), .bool rd, .int .u16 (fe : Int), .int .u16 (us : Int), .bool ev, .bool al] 40 (0, 0))) (hF : ¬ F qb) (hD : D < 18446744073709551616) (hA : A < 18446744073709551616) (hU : U < 18446744073709551616) (hfe : fe ≤ 65535) {h : Nat} {c : Cn} (hf : fetchR M s D A U rd fe al = .got h c) : Calls Try.prog 48 #[.pointer (some ⟨qb, 0, none⟩), .pointer (some ⟨rb, 0, none⟩)] w fun e w' => ∃ a1 c1, e = .returned (.tuple #[.agg #[.int .u16 (h : Int), .slice a1 c.l.length c1, .int .u64 (c.ta : Int), .int .u64 (c.tl : Int)], .bool ((c.e : Int) == 0), .int .i64 (c.e : Int)]) ∧ SegIn w.heap.size w' (.slice a1 c.l.length c1) c.l ∧ w'.heap[qb]? = some (.cells #[.int .i64 s, .int .u64 (D : Int), .int .u64 (A : Int), .int .u64 (U : Int), .bool rd, .int .u16 (upN fe : Int), .int .u16 (us : Int), .bool ev, .bool al] 40 (0, 0)) ∧ Step (fun k => k = qb) w (fun k => k = qb) w' := by
  obtain ⟨rfl, n, rfl, hg, h1, h2, h3, h4⟩ := got_facts hD hf
  exact fetch_one hr hq hg hF hfe h1 h2 h c h3 h4
theorem head_le {M : Nat → Nat} (hM : ∀ a, M a ≤ 255) {s : Int} {D A U fe : Nat} {rd al : Bool} {h : Nat} {c : Cn} (hD : D < 18446744073709551616) (hf : fetchR M s D A U rd fe al = .got h c) : h ≤ 65535 ∧ (∀ s ∈ c.l, SegOk s) ∧ c.l.length ≤ 1000 := by
  obtain ⟨rfl, n, rfl, hg, h1, h2, rfl, rfl⟩ := got_facts hD hf
  have := walk_all hM D n hg.n2 (headN M n A fe : Nat) al
  exact ⟨rd_lt hM _, this.1, Nat.le_trans this.2.1 (by decide)⟩
/-- A DEVICE: a function and what it has captured; dev: what it does to its state, to the memory, and what it says; I: how its state lies in the world, in blocks of its own -/
structure Dvc {σ : Type} (rb df : Nat) (cap : Array Value) (dev : σ → (Nat → Nat) → Nat → Cn → Option (σ × (Nat → Nat) × Nat)) (bud : σ → Nat) (I : σ → (Nat → Prop) → World → Prop) : Prop where
  cf : ∀ (args : Array Value) (V : World), (callFunc df args).run Try.prog V = .ok (.enter df args) V
  lt : ∀ {t : σ} {O : Nat → Prop} {w : World}, I t O w → ∀ k, O k → k < w.heap.size
  kept : ∀ {t : σ} {O : Nat → Prop} {w w' : World}, I t O w → w.heap.size ≤ w'.heap.size → (∀ k, O k → w'.heap[k]? = w.heap[k]?) → I t O w'
  no : ∀ {t : σ} {M : Nat → Nat} {h : Nat} {c : Cn} {F O : Nat → Prop} {κ : Nat} {w : World} {a : Option Addr} {cc : Nat}, dev t M h c = none → RamAt w F rb 8192 κ (.pointer none) M → I t O w → (∀ k, O k → ¬ F k) → SegIn 0 w (.slice a c.l.length cc) c.l → Calls Try.prog df (#[.agg #[.slice a c.l.length cc, .int .u64 (c.ta : Int), .int .u64 (c.tl : Int)]] ++ cap) w fun e w' => e = .returned (.tuple #[.int .u32 0, .bool false]) ∧ Below w.heap.size w w'
  le : ∀ {t : σ} {M : Nat → Nat} {h : Nat} {c : Cn} {t' : σ} {M' : Nat → Nat} {n : Nat}, dev t M h c = some (t', M', n) → (∀ s ∈ c.l, SegOk s) → n ≤ 4294967295
  yes : ∀ {t : σ} {M : Nat → Nat} {h : Nat} {c : Cn} {F O : Nat → Prop} {κ : Nat} {w : World} {a : Option Addr} {cc : Nat} {t' : σ} {M' : Nat → Nat} {n : Nat}, dev t M h c = some (t', M', n) → RamAt w F rb 8192 κ (.pointer none) M → κ + bud t ≤ 900000 → I t O w → (∀ k, O k → ¬ F k) → SegIn 0 w (.slice a c.l.length cc) c.l → (∀ g, (Value.slice a c.l.length cc).ownBlock = some g → ¬ F g ∧ ¬ O g) → c.l.length ≤ 1000 → (∀ s ∈ c.l, SegOk s) → Calls Try.prog df (#[.agg #[.slice a c.l.length cc, .int .u64 (c.ta : Int), .int .u64 (c.tl : Int)]] ++ cap) w fun e w' => e = .returned (.tuple #[.int .u32 (n : Int), .bool true]) ∧ ∃ (F' O' : Nat → Prop) (κ' : Nat), RamAt w' F' rb 8192 κ' (.pointer none) M' ∧ I t' O' w' ∧ (∀ k, O' k → ¬ F' k) ∧ Step (fun k => F k ∨ O k) w (fun k => F' k ∨ O' k) w' ∧ κ' + 10 + bud t' ≤ κ + bud t
/-- a service under way -/
def Gl {σ : Type} (I : σ → (Nat → Prop) → World → Prop) (bud : σ → Nat) (rb qb : Nat) (s : Int) (D A U : Nat) (rd ev al : Bool) (w0 : World) (F0 O0 : Nat → Prop) (wr : World) (t : σ) (M : Nat → Nat) (fe us : Nat) (F O : Nat → Prop) (κ : Nat) : Prop :=
  RamAt wr F rb 8192 κ (.pointer none) M ∧ wr.heap[qb]? = some (.cells #[.int .i64 s, .int .u64 (D : Int), .int .u64 (A : Int), .int .u64 (U : Int), .bool rd, .int .u16 (fe : Int), .int .u16 (us : Int), .bool ev, .bool al] 40 (0, 0)) ∧ I t O wr ∧ (∀ k, O k → ¬ F k ∧ k ≠ qb) ∧ ¬ F qb ∧ κ + bud t ≤ 900000 ∧ Step (fun k => (F0 k ∨ O0 k) ∨ k = qb) w0 (fun k => (F k ∨ O k) ∨ k = qb) wr
section
variable {σ : Type} {I : σ → (Nat → Prop) → World → Prop} {bud : σ → Nat} {rb qb df : Nat} {cap : Array Value} {dev : σ → (Nat → Nat) → Nat → Cn → Option (σ × (Nat → Nat) × Nat)} {s : Int} {n D A U : Nat} {rd ev al : Bool} {w0 wr w' : World} {F0 O0 F O F' O' : Nat → Prop} {t t' : σ} {M M' : Nat → Nat} {fe us fe' us' κ κ' : Nat}
theorem Gl.below (hd : Dvc rb df cap dev bud I) (h : Gl I bud rb qb s D A U rd ev al w0 F0 O0 wr t M fe us F O κ) (hb : Below wr.heap.size wr w') : Gl I bud rb qb s D A U rd ev al w0 F0 O0 w' t M fe us F O κ :=
  ⟨h.1.below hb, below_box h.2.1 hb, hd.kept h.2.2.1 hb.size (fun k hk => hb.block k (hd.lt h.2.2.1 k hk)), h.2.2.2.1, h.2.2.2.2.1, h.2.2.2.2.2.1, h.2.2.2.2.2.2.trans (Step.of_below hb)⟩
theorem Gl.q (hd : Dvc rb df cap dev bud I) (h : Gl I bud rb qb s D A U rd ev al w0 F0 O0 wr t M fe us F O κ) (hs : Step (fun k => k = qb) wr (fun k => k = qb) w') (hq : w'.heap[qb]? = some (.cells #[.int .i64 s, .int .u64 (D : Int), .int .u64 (A : Int), .int .u64 (U : Int), .bool rd, .int .u16 (fe' : Int), .int .u16 (us' : Int), .bool ev, .bool al] 40 (0, 0))) : Gl I bud rb qb s D A U rd ev al w0 F0 O0 w' t M fe' us' F O κ :=
  ⟨ram_q h.1 hs h.2.2.2.2.1, hq, hd.kept h.2.2.1 hs.size (fun k hk => hs.block k (hd.lt h.2.2.1 k hk) (h.2.2.2.1 k hk).2), h.2.2.2.1, h.2.2.2.2.1, h.2.2.2.2.2.1, h.2.2.2.2.2.2.trans (step_orR hs)⟩
theorem Gl.did (hd : Dvc rb df cap dev bud I) (h : Gl I bud rb qb s D A U rd ev al w0 F0 O0 wr t M fe us F O κ) (hr : RamAt w' F' rb 8192 κ' (.pointer none) M') (hi : I t' O' w') (hO : ∀ k, O' k → ¬ F' k) (hs : Step (fun k => F k ∨ O k) wr (fun k => F' k ∨ O' k) w') (hk : κ' + 10 + bud t' ≤ κ + bud t) : Gl I bud rb qb s D A U rd ev al w0 F0 O0 w' t' M' fe us F' O' κ' ∧ κ' + 10 + bud t' ≤ 900000 := by
  have hlt := (Array.getElem?_eq_some_iff.1 h.2.1).1
  have hn : ¬ (F qb ∨ O qb) := fun hc => hc.elim h.2.2.2.2.1 (fun ho => (h.2.2.2.1 qb ho).2 rfl)
  have hn2 := not_later hs hlt hn
  have h6 := h.2.2.2.2.2.1
  exact ⟨⟨hr, step_box hs h.2.1 hn, hi, fun k hk => ⟨hO k hk, fun e => hn2 (.inr (e ▸ hk))⟩, fun hf => hn2 (.inl hf), by omega, h.2.2.2.2.2.2.trans (step_q hs hlt)⟩, by omega⟩
theorem Gl.ret (hd : Dvc rb df cap dev bud I) (h : Gl I bud rb qb s D A U rd ev al w0 F0 O0 wr t M fe us F O κ) (hr : RamAt w' F' rb 8192 (κ + 10) (.pointer none) M') (hq : w'.heap[qb]? = some (.cells #[.int .i64 s, .int .u64 (D : Int), .int .u64 (A : Int), .int .u64 (U : Int), .bool rd, .int .u16 (fe : Int), .int .u16 (us' : Int), .bool ev, .bool al] 40 (0, 0))) (hs : Step (fun k => F k ∨ k = qb) wr (fun k => F' k ∨ k = qb) w') (hqF : ¬ F' qb) (hk : κ + 10 + bud t ≤ 900000) : Gl I bud rb qb s D A U rd ev al w0 F0 O0 w' t M' fe us' F' O (κ + 10) := by
  have hn : ∀ k, O k → ¬ (F k ∨ k = qb) := fun k hk hc => hc.elim (h.2.2.2.1 k hk).1 (h.2.2.2.1 k hk).2
  have hlt := fun k hk => hd.lt h.2.2.1 k hk
  refine ⟨hr, hq, hd.kept h.2.2.1 hs.size (fun k hk => hs.block k (hlt k hk) (hn k hk)), fun k hk => ⟨fun hf => not_later hs (hlt k hk) (hn k hk) (.inl hf), (h.2.2.2.1 k hk).2⟩, hqF, hk, h.2.2.2.2.2.2.trans ?_⟩
  · exact ⟨hs.os, hs.tape, hs.output, hs.size, fun k hk hc => hs.block k hk (fun hd => hc (hd.elim (fun hf => .inl (.inl hf)) .inr)), fun k hk => by
      rcases hk with (hk | hk) | hk
      · exact (hs.old k (.inl hk)).imp (fun h => h.elim (fun hf => .inl (.inl hf)) .inr) id
      · exact .inl (.inl (.inr hk))
      · exact .inl (.inr hk), fun k hk => by
      rcases hk with (hk | hk) | hk
      · exact (hs.keep k (.inl hk)).elim (fun hf => .inl (.inl hf)) .inr
      · exact .inl (.inr hk)
      · exact .inr hk⟩
end
end Go.Proofs.Ytmjdnocilbnoaaa

/- The queue: all that is offered is given to a device. -/
namespace Go.Proofs.Ytmjdnocilbnoaaa
open Go.RowKit Go.Maps
set_option linter.unusedVariables false
set_option linter.unusedSimpArgs false
set_option maxRecDepth 100000
theorem seg_down {B : Nat} {w : World} {v : Value} {l : List Seg} (h : SegIn B w v l) : SegIn 0 w v l := seg_base h (Nat.zero_le _)
/-- what use tells, of a device that can't have the chain yet -/
def Pno {σ : Type} (I : σ → (Nat → Prop) → World → Prop) (rb : Nat) (t : σ) (M : Nat → Nat) (F O : Nat → Prop) (κ : Nat) (G : Nat → Prop) (V : World) (n : Nat) (o : Bool) : Prop := n = 0 ∧ o = false ∧ RamAt V F rb 8192 κ (.pointer none) M ∧ I t O V ∧ G = fun k => F k ∨ O k
/-- .. and of one that used it -/
def Pyes {σ : Type} (I : σ → (Nat → Prop) → World → Prop) (rb : Nat) (bud : σ → Nat) (t' : σ) (M' : Nat → Nat) (cnt b : Nat) (G : Nat → Prop) (V : World) (n : Nat) (o : Bool) : Prop := n = cnt ∧ o = true ∧ ∃ (F' O' : Nat → Prop) (κ' : Nat), RamAt V F' rb 8192 κ' (.pointer none) M' ∧ I t' O' V ∧ (∀ k, O' k → ¬ F' k) ∧ G = (fun k => F' k ∨ O' k) ∧ κ' + 10 + bud t' ≤ b
theorem wrap_round (i : Nat) (h : i < 65537) : wrap64 ((i : Int) + 1) = (i : Int) + 1 := by unfold wrap64; omega
section
variable {σ : Type} {I : σ → (Nat → Prop) → World → Prop} {bud : σ → Nat} {rb qb df : Nat} {cap : Array Value} {dev : σ → (Nat → Nat) → Nat → Cn → Option (σ × (Nat → Nat) × Nat)}
theorem use_no (hd : Dvc rb df cap dev bud I) {t : σ} {M : Nat → Nat} {h : Nat} {c : Cn} {F O : Nat → Prop} {κ : Nat} {w : World} {a : Option Addr} {cc : Nat} (hn : dev t M h c = none) (hr : RamAt w F rb 8192 κ (.pointer none) M) (hi : I t O w) (hO : ∀ k, O k → ¬ F k) (hs : SegIn 0 w (.slice a c.l.length cc) c.l) : Calls Try.prog 49 #[.func (.func df) #[] cap, .agg #[.slice a c.l.length cc, .int .u64 (c.ta : Int), .int .u64 (c.tl : Int)]] w fun e w' => ∃ (n : Nat) (o : Bool) (G' : Nat → Prop), e = .returned (.tuple #[.int .u32 (n : Int), .bool o]) ∧ Step (fun k => F k ∨ O k) w G' w' ∧ Pno I rb t M F O κ G' w' n o := by
  refine use_any df cap hd.cf a c.l.length cc c.ta c.tl (fun k => F k ∨ O k) (fun k hk => hk.elim (hr.lt k) (hd.lt hi k)) (Pno I rb t M F O κ) ?_ ?_
  · rintro G' V V' n o ⟨h1, h2, h3, h4, rfl⟩ hsz hk
    exact ⟨h1, h2, h3.kept hsz (fun k hf => hk k (.inl hf)), hd.kept h4 hsz (fun k ho => hk k (.inr ho)), rfl⟩
  · intro V hV
    refine (hd.no hn (hr.below hV) (hd.kept hi hV.size (fun k hk => hV.block k (hd.lt hi k hk))) hO (hs.kept (fun g hg => hV.block g (hs.lt g hg).2))).mono ?_
    rintro e V' ⟨rfl, hb⟩
    have hb2 := below_to hV hb
    exact ⟨0, false, _, rfl, Step.of_below hb, rfl, rfl, hr.below hb2, hd.kept hi hb2.size (fun k hk => hb2.block k (hd.lt hi k hk)), rfl⟩
theorem use_yes (hd : Dvc rb df cap dev bud I) {t : σ} {M : Nat → Nat} {h : Nat} {c : Cn} {F O : Nat → Prop} {κ : Nat} {w : World} {a : Option Addr} {cc : Nat} {t' : σ} {M' : Nat → Nat} {cnt : Nat} (hn : dev t M h c = some (t', M', cnt)) (hr : RamAt w F rb 8192 κ (.pointer none) M) (hκ : κ + bud t ≤ 900000) (hi : I t O w) (hO : ∀ k, O k → ¬ F k) (hs : SegIn 0 w (.slice a c.l.length cc) c.l) (hg : ∀ g, (Value.slice a c.l.length cc).ownBlock = some g → ¬ F g ∧ ¬ O g) (hl : c.l.length ≤ 1000) (hok : ∀ s ∈ c.l, SegOk s) : Calls Try.prog 49 #[.func (.func df) #[] cap, .agg #[.slice a c.l.length cc, .int .u64 (c.ta : Int), .int .u64 (c.tl : Int)]] w fun e w' => ∃ (n : Nat) (o : Bool) (G' : Nat → Prop), e = .returned (.tuple #[.int .u32 (n : Int), .bool o]) ∧ Step (fun k => F k ∨ O k) w G' w' ∧ Pyes I rb bud t' M' cnt (κ + bud t) G' w' n o := by
  refine use_any df cap hd.cf a c.l.length cc c.ta c.tl (fun k => F k ∨ O k) (fun k hk => hk.elim (hr.lt k) (hd.lt hi k)) (Pyes I rb bud t' M' cnt (κ + bud t)) ?_ ?_
  · rintro G' V V' n o ⟨h1, h2, F', O', κ', h3, h4, h5, rfl, h6⟩ hsz hk
    exact ⟨h1, h2, F', O', κ', h3.kept hsz (fun k hf => hk k (.inl hf)), hd.kept h4 hsz (fun k ho => hk k (.inr ho)), h5, rfl, h6⟩
  · intro V hV
    refine (hd.yes hn (hr.below hV) hκ (hd.kept hi hV.size (fun k hk => hV.block k (hd.lt hi k hk))) hO (hs.kept (fun g hg => hV.block g (hs.lt g hg).2)) hg hl hok).mono ?_
    rintro e V' ⟨rfl, F', O', κ', h3, h4, h5, h6, h7⟩
    exact ⟨cnt, true, _, rfl, h6, rfl, rfl, F', O', κ', h3, h4, h5, rfl, h7⟩
theorem Gl.same {s : Int} {D A U : Nat} {rd ev al : Bool} {w0 wr w' : World} {F0 O0 F O : Nat → Prop} {t : σ} {M : Nat → Nat} {fe us κ : Nat} (h : Gl I bud rb qb s D A U rd ev al w0 F0 O0 wr t M fe us F O κ) (hr : RamAt w' F rb 8192 κ (.pointer none) M) (hi : I t O w') (hs : Step (fun k => F k ∨ O k) wr (fun k => F k ∨ O k) w') : Gl I bud rb qb s D A U rd ev al w0 F0 O0 w' t M fe us F O κ := by
  have hlt := (Array.getElem?_eq_some_iff.1 h.2.1).1
  have hn : ¬ (F qb ∨ O qb) := fun hc => hc.elim h.2.2.2.2.1 (fun ho => (h.2.2.2.1 qb ho).2 rfl)
  exact ⟨hr, step_box hs h.2.1 hn, hi, h.2.2.2.1, h.2.2.2.2.1, h.2.2.2.2.2.1, h.2.2.2.2.2.2.trans (step_q hs hlt)⟩
/-- what giveAll leaves -/
def Gend (I : σ → (Nat → Prop) → World → Prop) (rb qb : Nat) (s : Int) (D A U : Nat) (rd ev al : Bool) (w0 : World) (F0 O0 : Nat → Prop) (R : Gv σ) (w' : World) : Prop := ∃ (F O : Nat → Prop) (κ : Nat), RamAt w' F rb 8192 κ (.pointer none) R.M ∧ w'.heap[qb]? = some (.cells #[.int .i64 s, .int .u64 (D : Int), .int .u64 (A : Int), .int .u64 (U : Int), .bool rd, .int .u16 (R.fe : Int), .int .u16 (R.us : Int), .bool ev, .bool al] 40 (0, 0)) ∧ I R.s O w' ∧ (∀ k, O k → ¬ F k ∧ k ≠ qb) ∧ ¬ F qb ∧ κ ≤ 900000 ∧ Step (fun k => (F0 k ∨ O0 k) ∨ k = qb) w0 (fun k => (F k ∨ O k) ∨ k = qb) w'
theorem Gl.fin {s : Int} {D A U : Nat} {rd ev al : Bool} {w0 wr : World} {F0 O0 F O : Nat → Prop} {t : σ} {M : Nat → Nat} {fe us κ : Nat} (h : Gl I bud rb qb s D A U rd ev al w0 F0 O0 wr t M fe us F O κ) {R : Gv σ} {e : Int} (hR : R = ⟨t, M, fe, us, e⟩) : Gend I rb qb s D A U rd ev al w0 F0 O0 R wr := by
  subst hR
  exact ⟨F, O, κ, h.1, h.2.1, h.2.2.1, h.2.2.2.1, h.2.2.2.2.1, by have := h.2.2.2.2.2.1; omega, h.2.2.2.2.2.2⟩
set_option maxHeartbeats 4000000 in
theorem give_any (hd : Dvc rb df cap dev bud I) {s : Int} {D A U : Nat} {rd ev al : Bool} (hD : D < 18446744073709551616) (hA : A < 18446744073709551616) (hU : U < 18446744073709551616) {w0 : World} {F0 O0 : Nat → Prop} {t0 : σ} {M0 : Nat → Nat} {fe0 us0 κ0 : Nat} (hfe : fe0 ≤ 65535) (hus : us0 ≤ 65535) (h0 : Gl I bud rb qb s D A U rd ev al w0 F0 O0 w0 t0 M0 fe0 us0 F0 O0 κ0) (R : Gv σ) (hR : giveR dev s D A U rd al 65537 t0 M0 fe0 us0 = R) :
    Calls Try.prog 28 #[.pointer (some ⟨qb, 0, none⟩), .pointer (some ⟨rb, 0, none⟩), .func (.func df) #[] cap] w0 fun e w' => e = .returned (.int .i64 R.e) ∧ Gend I rb qb s D A U rd ev al w0 F0 O0 R w' := by
  have HB : Hid (D < 18446744073709551616 ∧ A < 18446744073709551616 ∧ U < 18446744073709551616 ∧ Dvc rb df cap dev bud I) := ⟨hD, hA, hU, hd⟩
  have H0 : Hid (Gl I bud rb qb s D A U rd ev al w0 F0 O0 w0 t0 M0 fe0 us0 F0 O0 κ0 ∧ fe0 ≤ 65535 ∧ us0 ≤ 65535 ∧ giveR dev s D A U rd al 65537 t0 M0 fe0 us0 = R) := ⟨h0, hfe, hus, hR⟩
  clear hD hA hU hd h0 hR hfe hus
  go_enter Try.func28, Try.ntmps28
  go_wp2_with fail
  go_loopw [13] (fun x wr => ∃ (i j : Nat) (t : σ) (M : Nat → Nat) (fe us : Nat) (F O : Nat → Prop) (κ : Nat), x = .int .i64 (i : Int) ∧ i + j = 65537 ∧ fe ≤ 65535 ∧ us ≤ 65535 ∧ Gl I bud rb qb s D A U rd ev al w0 F0 O0 wr t M fe us F O κ ∧ giveR dev s D A U rd al j t M fe us = R) (fun x _ => 65537 - (intOf x).toNat)
  case atStart => exact ⟨0, 65537, t0, M0, fe0, us0, F0, O0, κ0, rfl, rfl, H0.out.2.1, H0.out.2.2.1, H0.out.1, H0.out.2.2.2⟩
  case round =>
    obtain ⟨i, j, t, M, fe, us, F, O, κ, rfl, hij, hfe, hus, hgl, hR⟩ := hrel
    clear H0
    have X0 : Hid (Gl I bud rb qb s D A U rd ev al w0 F0 O0 wr t M fe us F O κ ∧ fe ≤ 65535 ∧ us ≤ 65535 ∧ giveR dev s D A U rd al j t M fe us = R ∧ i + j = 65537) := ⟨hgl, hfe, hus, hR, hij⟩
    clear hgl hfe hus hR
    cases j with
    | zero =>
      have hnot : ¬ (i : Int) < 65537 := by omega
      clear hij
      go_wp2_with fail
      go_ret
      rw [give_zero] at X0
      exact ⟨by rw [← X0.out.2.2.2.1]; rfl, X0.out.1.fin X0.out.2.2.2.1.symm⟩
    | succ j =>
    have hlt : (i : Int) < 65537 := by omega
    have HI : Hid (i < 65537) := by show i < 65537; omega
    clear hij
    obtain ⟨f0, f1, f2, f3, f4, f5, f6, f7, f8⟩ := box9_facts X0.out.1.2.1
    obtain ⟨ft, hft⟩ : ∃ ft, fetchR M s D A U rd fe al = ft := ⟨_, rfl⟩
    cases ft with
    | non e =>
      have HF : Hid (fetchR M s D A U rd fe al = .non e) := hft
      have hRe := X0.out.2.2.2.1
      rw [give_non hft] at hRe
      have HR : Hid (R = ⟨t, M, fe, us, e⟩) := hRe.symm
      clear hft hRe
      go_wp2_with (go_at_call 48; refine (fetch_non X0.out.1.1 X0.out.1.2.1 X0.out.1.2.2.2.2.1 HB.out.1 HB.out.2.1 HB.out.2.2.1 X0.out.2.1 HF.out).mono ?_; rintro e1 w1 ⟨rfl, hq1, hs1⟩; have X1 : Hid (Gl I bud rb qb s D A U rd ev al w0 F0 O0 w1 t M fe us F O κ) := X0.out.1.q HB.out.2.2.2 hs1 hq1; clear hq1 hs1)
      go_ret
      exact ⟨by rw [HR.out]; rfl, (X1.out.below HB.out.2.2.2 (one_box _ _)).fin HR.out⟩
    | got h c =>
    have HF : Hid (fetchR M s D A U rd fe al = .got h c) := hft
    have hle := head_le X0.out.1.1.le HB.out.1 hft
    have HL : Hid (h ≤ 65535 ∧ (∀ s ∈ c.l, SegOk s) ∧ c.l.length ≤ 1000) := hle
    obtain ⟨cl, hcl⟩ : ∃ cl, c.l.length = cl := ⟨_, rfl⟩
    obtain ⟨ta, hta⟩ : ∃ ta, c.ta = ta := ⟨_, rfl⟩
    obtain ⟨tl, htl⟩ : ∃ tl, c.tl = tl := ⟨_, rfl⟩
    obtain ⟨ce, hce⟩ : ∃ ce, c.e = ce := ⟨_, rfl⟩
    have HC : Hid (c.l.length = cl ∧ c.ta = ta ∧ c.tl = tl ∧ c.e = ce) := ⟨hcl, hta, htl, hce⟩
    have KF : Hid (∀ V, Gl I bud rb qb s D A U rd ev al w0 F0 O0 V t M fe us F O κ → Calls Try.prog 48 #[.pointer (some ⟨qb, 0, none⟩), .pointer (some ⟨rb, 0, none⟩)] V fun e w' => ∃ a1 c1, e = .returned (.tuple #[.agg #[.int .u16 (h : Int), .slice a1 cl c1, .int .u64 (ta : Int), .int .u64 (tl : Int)], .bool ((ce : Int) == 0), .int .i64 (ce : Int)]) ∧ SegIn V.heap.size w' (.slice a1 cl c1) c.l ∧ Gl I bud rb qb s D A U rd ev al w0 F0 O0 w' t M (upN fe) us F O κ ∧ V.heap.size ≤ w'.heap.size) := by
      intro V hV
      have := fetch_any hV.1 hV.2.1 hV.2.2.2.2.1 HB.out.1 HB.out.2.1 HB.out.2.2.1 X0.out.2.1 HF.out
      rw [hcl, hta, htl, hce] at this
      refine this.mono ?_
      rintro e w' ⟨a1, c1, rfl, hs, hq, hst⟩
      exact ⟨a1, c1, rfl, hs, hV.q HB.out.2.2.2 hst hq, hst.size⟩
    clear hft hle hcl hta htl hce
    go_upto_region 5 with (go_at_call 48; refine (KF.out _ X0.out.1).mono ?_; rintro e w1 ⟨a1, c1, rfl, hs1, hg1, hz1⟩; have X1 : Hid (Gl I bud rb qb s D A U rd ev al w0 F0 O0 w1 t M (upN fe) us F O κ ∧ SegIn wr.heap.size w1 (.slice a1 cl c1) c.l ∧ wr.heap.size ≤ w1.heap.size) := ⟨hg1, hs1, hz1⟩; clear hs1 hg1 hz1 f0 f1 f2 f3 f4 f5 f6 f7 f8)
    have X2 : Hid (Gl I bud rb qb s D A U rd ev al w0 F0 O0 (w1.alloc (.cells #[.int .u16 (h : Int), .slice a1 cl c1, .int .u64 (ta : Int), .int .u64 (tl : Int)] 108)) t M (upN fe) us F O κ ∧ SegIn wr.heap.size (w1.alloc (.cells #[.int .u16 (h : Int), .slice a1 cl c1, .int .u64 (ta : Int), .int .u64 (tl : Int)] 108)) (.slice a1 cl c1) c.l ∧ (w1.alloc (.cells #[.int .u16 (h : Int), .slice a1 cl c1, .int .u64 (ta : Int), .int .u64 (tl : Int)] 108)).heap[w1.heap.size]? = some (.cells #[.int .u16 (h : Int), .slice a1 cl c1, .int .u64 (ta : Int), .int .u64 (tl : Int)] 108 (0, 0)) ∧ wr.heap.size ≤ w1.heap.size) := ⟨X1.out.1.below HB.out.2.2.2 (one_box _ _), X1.out.2.1.kept (fun g hg => (one_box _ _).block g (X1.out.2.1.lt g hg).2), heap_alloc_new _ _, X1.out.2.2⟩
    have HNEW : Hid ((∀ k, F k → ¬ w1.heap.size ≤ k) ∧ ∀ k, O k → ¬ w1.heap.size ≤ k) := ⟨fun k hk hc => by have := X1.out.1.1.lt k hk; omega, fun k hk hc => by have := HB.out.2.2.2.lt X1.out.1.2.2.1 k hk; omega⟩
    have HOLD : Hid ((∀ k, F k → ¬ wr.heap.size ≤ k) ∧ ∀ k, O k → ¬ wr.heap.size ≤ k) := ⟨fun k hk hc => by have := X0.out.1.1.lt k hk; omega, fun k hk hc => by have := HB.out.2.2.2.lt X0.out.1.2.2.1 k hk; omega⟩
    clear X1 KF
    generalize w1.alloc (.cells #[.int .u16 (h : Int), .slice a1 cl c1, .int .u64 (ta : Int), .int .u64 (tl : Int)] 108) = w2 at *
    generalize w1.heap.size = p at *
    obtain ⟨p0, p1, p2, p3⟩ := box4_facts X2.out.2.2.1
    by_cases hz : ce = 0
    case neg =>
      have g1 : ((ce : Int) == 0) = false := by simp; omega
      have hRe := X0.out.2.2.2.1
      rw [give_err HF.out (by rw [HC.out.2.2.2]; exact hz), HC.out.2.2.2] at hRe
      have HR : Hid (R = ⟨t, M, upN fe, us, (ce : Int)⟩) := hRe.symm
      clear hz hRe
      go_wp2_with fail
      go_ret
      exact ⟨by rw [HR.out]; rfl, X2.out.1.fin HR.out⟩
    subst hz
    obtain ⟨dv, hdv⟩ : ∃ dv, dev t M h c = dv := ⟨_, rfl⟩
    have HO : Hid (∀ k, O k → ¬ F k) := fun k hk => (X2.out.1.2.2.2.1 k hk).1
    cases dv with
    | none =>
      have hRe := X0.out.2.2.2.1
      rw [give_stay HF.out HC.out.2.2.2 hdv] at hRe
      have HR : Hid (R = ⟨t, M, fe, us, 0⟩) := hRe.symm
      have KU : Hid (Calls Try.prog 49 #[.func (.func df) #[] cap, .agg #[.slice a1 cl c1, .int .u64 (ta : Int), .int .u64 (tl : Int)]] w2 fun e w' => e = .returned (.tuple #[.int .u32 0, .bool false]) ∧ Gl I bud rb qb s D A U rd ev al w0 F0 O0 w' t M (upN fe) us F O κ) := by
        have hs2 := seg_down X2.out.2.1
        rw [← HC.out.1] at hs2
        have := use_no HB.out.2.2.2 hdv X2.out.1.1 X2.out.1.2.2.1 HO.out hs2
        rw [HC.out.1, HC.out.2.1, HC.out.2.2.1] at this
        refine this.mono ?_
        rintro e w' ⟨n, o, G', rfl, hst, rfl, rfl, h3, h4, rfl⟩
        exact ⟨rfl, X2.out.1.same h3 h4 hst⟩
      clear hRe hdv
      go_upto_region 9 with (go_at_call 49; refine (KU.out).mono ?_; rintro e w3 ⟨rfl, hg3⟩; have X3 : Hid (Gl I bud rb qb s D A U rd ev al w0 F0 O0 w3 t M (upN fe) us F O κ) := hg3; clear hg3 p0 p1 p2 p3)
      have cf := frozenOf X3.out.2.1 5
      obtain ⟨f0, f1, f2, f3, f4, f5, f6, f7, f8⟩ := box9_facts X3.out.2.1
      have X4 : Hid (Gl I bud rb qb s D A U rd ev al w0 F0 O0 (w3.setCell ⟨qb, 5, none⟩ (.int .u16 (fe : Int))) t M fe us F O κ) := X3.out.q HB.out.2.2.2 (step_set _ _ _ _) (set_box X3.out.2.1 5 _)
      go_wp2_with fail
      go_ret
      exact ⟨by rw [HR.out]; rfl, X4.out.fin HR.out⟩
    | some tr =>
      obtain ⟨t', M', cnt⟩ := tr
      have hRe := X0.out.2.2.2.1
      rw [give_more HF.out HC.out.2.2.2 hdv] at hRe
      obtain ⟨hrd, n, hsn, hgd, _, _, _, _⟩ := got_facts HB.out.1 HF.out
      have hnat : s.toNat = n := by rw [hsn]; rfl
      rw [hnat] at hRe
      have HR : Hid (giveR dev s D A U rd al j t' (retM M' n U us h cnt) (upN fe) (upN us) = R ∧ s = (n : Int) ∧ Gd n D A U ∧ cnt ≤ 4294967295) := ⟨hRe, hsn, hgd, HB.out.2.2.2.le hdv HL.out.2.1⟩
      have KU : Hid (Calls Try.prog 49 #[.func (.func df) #[] cap, .agg #[.slice a1 cl c1, .int .u64 (ta : Int), .int .u64 (tl : Int)]] w2 fun e w' => ∃ (F' O' : Nat → Prop) (κ' : Nat), e = .returned (.tuple #[.int .u32 (cnt : Int), .bool true]) ∧ Gl I bud rb qb s D A U rd ev al w0 F0 O0 w' t' M' (upN fe) us F' O' κ' ∧ κ' + 10 + bud t' ≤ 900000 ∧ w'.heap[p]? = some (.cells #[.int .u16 (h : Int), .slice a1 cl c1, .int .u64 (ta : Int), .int .u64 (tl : Int)] 108 (0, 0))) := by
        have hs2 := seg_down X2.out.2.1
        rw [← HC.out.1] at hs2
        have := use_yes HB.out.2.2.2 hdv X2.out.1.1 X2.out.1.2.2.2.2.2.1 X2.out.1.2.2.1 HO.out hs2 (fun g hg => by
          rw [HC.out.1] at hg
          have hlt := (X2.out.2.1.lt g hg).1
          exact ⟨fun hf => HOLD.out.1 g hf hlt, fun ho => HOLD.out.2 g ho hlt⟩) HL.out.2.2 HL.out.2.1
        rw [HC.out.1, HC.out.2.1, HC.out.2.2.1] at this
        refine this.mono ?_
        rintro e w' ⟨n1, o, G', rfl, hst, rfl, rfl, F', O', κ', h3, h4, h5, rfl, h6⟩
        have := Gl.did HB.out.2.2.2 X2.out.1 h3 h4 h5 hst h6
        exact ⟨F', O', κ', rfl, this.1, this.2, step_box hst X2.out.2.2.1 (fun hc => hc.elim (fun hf => HNEW.out.1 p hf (Nat.le_refl _)) (fun ho => HNEW.out.2 p ho (Nat.le_refl _)))⟩
      clear hRe hdv hrd hsn hgd hnat
      go_upto_region 11 with (go_at_call 49; refine (KU.out).mono ?_; rintro e w3 ⟨F3, O3, κ3, rfl, hg3, hk3, hp3⟩; have X3 : Hid (Gl I bud rb qb s D A U rd ev al w0 F0 O0 w3 t' M' (upN fe) us F3 O3 κ3 ∧ κ3 + 10 + bud t' ≤ 900000 ∧ w3.heap[p]? = some (.cells #[.int .u16 (h : Int), .slice a1 cl c1, .int .u64 (ta : Int), .int .u64 (tl : Int)] 108 (0, 0))) := ⟨hg3, hk3, hp3⟩; clear hg3 hk3 hp3 p0 p1 p2 p3)
      obtain ⟨p0, p1, p2, p3⟩ := box4_facts X3.out.2.2
      have KR : Hid (Calls Try.prog 50 #[.pointer (some ⟨qb, 0, none⟩), .pointer (some ⟨rb, 0, none⟩), .int .u16 (h : Int), .int .u32 (cnt : Int)] w3 fun e w' => e = .returned (.tuple #[]) ∧ ∃ F', Gl I bud rb qb s D A U rd ev al w0 F0 O0 w' t' (retM M' n U us h cnt) (upN fe) (upN us) F' O3 (κ3 + 10)) := by
        have hx := X3.out.1
        obtain ⟨hRR, hsn, hgd, hcn⟩ := HR.out
        rw [hsn] at hx ⊢
        refine (return_any hx.1 hx.2.1 hgd hx.2.2.2.2.1 h cnt X0.out.2.2.1 HL.out.1 hcn (by have := X3.out.2.1; omega)).mono ?_
        rintro e w' ⟨rfl, hq, F', hr, hst, hqF⟩
        exact ⟨rfl, F', hx.ret HB.out.2.2.2 hr hq hst hqF X3.out.2.1⟩
      go_wp2_with (go_at_call 50; refine (KR.out).mono ?_; rintro e w4 ⟨rfl, F4, hg4⟩; have X4 : Hid (Gl I bud rb qb s D A U rd ev al w0 F0 O0 w4 t' (retM M' n U us h cnt) (upN fe) (upN us) F4 O3 (κ3 + 10)) := hg4; clear hg4 p0 p1 p2 p3)
      clear hlt
      go_roundw
      case rel => exact ⟨i + 1, j, t', retM M' n U us h cnt, upN fe, upN us, F4, O3, κ3 + 10, by (try rw [wrap_round i HI.out]); go_num, by have := X0.out.2.2.2.2; omega, up_le _, up_le _, X4.out, HR.out.1⟩
      case measure => simp [intOf, wrap_round i HI.out]; have := HI.out; omega
end
end Go.Proofs.Ytmjdnocilbnoaaa

/- The queue: Serve. -/
namespace Go.Proofs.Ytmjdnocilbnoaaa
open Go.RowKit Go.Maps
set_option linter.unusedVariables false
set_option linter.unusedSimpArgs false
set_option maxRecDepth 100000
section
variable {σ : Type} {I : σ → (Nat → Prop) → World → Prop} {bud : σ → Nat} {rb qb df : Nat} {cap : Array Value} {dev : σ → (Nat → Nat) → Nat → Cn → Option (σ × (Nat → Nat) × Nat)}
theorem give_le {s : Int} {D A U : Nat} {rd al : Bool} : ∀ (k : Nat) (t : σ) (M : Nat → Nat) (fe us : Nat), fe ≤ 65535 → us ≤ 65535 → (giveR dev s D A U rd al k t M fe us).fe ≤ 65535 ∧ (giveR dev s D A U rd al k t M fe us).us ≤ 65535 := by
  intro k
  induction k with
  | zero => intro t M fe us h1 h2; exact ⟨h1, h2⟩
  | succ k ih =>
    intro t M fe us h1 h2
    obtain ⟨ft, hft⟩ : ∃ ft, fetchR M s D A U rd fe al = ft := ⟨_, rfl⟩
    cases ft with
    | non e => rw [give_non hft]; exact ⟨h1, h2⟩
    | got h c =>
      by_cases hz : c.e = 0
      case neg => rw [give_err hft hz]; exact ⟨up_le _, h2⟩
      case pos =>
        obtain ⟨dv, hdv⟩ : ∃ dv, dev t M h c = dv := ⟨_, rfl⟩
        cases dv with
        | none => rw [give_stay hft hz hdv]; exact ⟨h1, h2⟩
        | some tr =>
          obtain ⟨t', M', cnt⟩ := tr
          rw [give_more hft hz hdv]
          exact ih _ _ _ _ (up_le _) (up_le _)
def endM (R : Gv σ) (n U : Nat) (ev : Bool) : Nat → Nat := if R.e = 0 then askM R.M n U R.fe ev else R.M
/-- what Serve leaves -/
def Send (I : σ → (Nat → Prop) → World → Prop) (rb qb : Nat) (n : Nat) (D A U : Nat) (ev al : Bool) (w0 : World) (F0 O0 : Nat → Prop) (R : Gv σ) (w' : World) : Prop := ∃ (F O : Nat → Prop) (κ : Nat), RamAt w' F rb 8192 κ (.pointer none) (endM R n U ev) ∧ w'.heap[qb]? = some (.cells #[.int .i64 (n : Int), .int .u64 (D : Int), .int .u64 (A : Int), .int .u64 (U : Int), .bool true, .int .u16 (R.fe : Int), .int .u16 (R.us : Int), .bool ev, .bool al] 40 (0, 0)) ∧ I R.s O w' ∧ (∀ k, O k → ¬ F k ∧ k ≠ qb) ∧ ¬ F qb ∧ κ ≤ 900002 ∧ Step (fun k => (F0 k ∨ O0 k) ∨ k = qb) w0 (fun k => (F k ∨ O k) ∨ k = qb) w'
set_option maxHeartbeats 2000000 in
theorem serve_any (hd : Dvc rb df cap dev bud I) {n D A U : Nat} {ev al : Bool} (hg : Gd n D A U) {w0 : World} {F0 O0 : Nat → Prop} {t0 : σ} {M0 : Nat → Nat} {fe0 us0 κ0 : Nat} (hfe : fe0 ≤ 65535) (hus : us0 ≤ 65535) (h0 : Gl I bud rb qb (n : Int) D A U true ev al w0 F0 O0 w0 t0 M0 fe0 us0 F0 O0 κ0) (R : Gv σ) (hR : giveR dev (n : Int) D A U true al 65537 t0 M0 fe0 us0 = R) :
    Calls Try.prog 11 #[.pointer (some ⟨qb, 0, none⟩), .pointer (some ⟨rb, 0, none⟩), .func (.func df) #[] cap] w0 fun e w' => e = .returned (.tuple #[.bool (tellB (endM R n U ev) n A R.us us0 ev), .int .i64 R.e]) ∧ Send I rb qb n D A U ev al w0 F0 O0 R w' := by
  have KG : Hid (Calls Try.prog 28 #[.pointer (some ⟨qb, 0, none⟩), .pointer (some ⟨rb, 0, none⟩), .func (.func df) #[] cap] w0 fun e w' => e = .returned (.int .i64 R.e) ∧ Gend I rb qb (n : Int) D A U true ev al w0 F0 O0 R w') := give_any hd (gd_bounds hg).1 (gd_bounds hg).2.1 (gd_bounds hg).2.2 hfe hus h0 R hR
  have hle := give_le (dev := dev) (s := (n : Int)) (D := D) (A := A) (U := U) (rd := true) (al := al) 65537 t0 M0 fe0 us0 hfe hus
  rw [hR] at hle
  have HQ : Hid (w0.heap[qb]? = some (.cells #[.int .i64 (n : Int), .int .u64 (D : Int), .int .u64 (A : Int), .int .u64 (U : Int), .bool true, .int .u16 (fe0 : Int), .int .u16 (us0 : Int), .bool ev, .bool al] 40 (0, 0)) ∧ Gd n D A U ∧ us0 ≤ 65535 ∧ R.fe ≤ 65535 ∧ R.us ≤ 65535 ∧ Dvc rb df cap dev bud I) := ⟨h0.2.1, hg, hus, hle.1, hle.2, hd⟩
  obtain ⟨f0, f1, f2, f3, f4, f5, f6, f7, f8⟩ := box9_facts h0.2.1
  clear hd hg h0 hR hfe hus hle
  obtain ⟨t, M, fe, us, re⟩ := R
  have CALLG : Hid (Calls Try.prog 28 #[.pointer (some ⟨qb, 0, none⟩), .pointer (some ⟨rb, 0, none⟩), .func (.func df) #[] cap] w0 fun e w' => e = .returned (.int .i64 re) ∧ ∃ (F O : Nat → Prop) (κ : Nat), RamAt w' F rb 8192 κ (.pointer none) M ∧ w'.heap[qb]? = some (.cells #[.int .i64 (n : Int), .int .u64 (D : Int), .int .u64 (A : Int), .int .u64 (U : Int), .bool true, .int .u16 (fe : Int), .int .u16 (us : Int), .bool ev, .bool al] 40 (0, 0)) ∧ I t O w' ∧ (∀ k, O k → ¬ F k ∧ k ≠ qb) ∧ ¬ F qb ∧ κ ≤ 900000 ∧ Step (fun k => (F0 k ∨ O0 k) ∨ k = qb) w0 (fun k => (F k ∨ O k) ∨ k = qb) w') := KG.out
  clear KG
  by_cases hz : re = 0
  case neg =>
    have q1 : (re == 0) = false := by simpa using hz
    have HM : Hid (endM ⟨t, M, fe, us, re⟩ n U ev = M) := if_neg hz
    clear hz
    go_enter Try.func11, Try.ntmps11
    go_wp2_with (first | (go_at_call 27; refine (ready_any HQ.out.1).mono ?_; rintro e w1 ⟨rfl, rfl⟩) | (go_at_call 28; refine (CALLG.out).mono ?_; rintro e w2 ⟨rfl, F, O, κ, hr, hq, hi, hO, hn, hk, hs⟩; have X2 : Hid (RamAt w2 F rb 8192 κ (.pointer none) M ∧ w2.heap[qb]? = some (.cells #[.int .i64 (n : Int), .int .u64 (D : Int), .int .u64 (A : Int), .int .u64 (U : Int), .bool true, .int .u16 (fe : Int), .int .u16 (us : Int), .bool ev, .bool al] 40 (0, 0)) ∧ I t O w2 ∧ (∀ k, O k → ¬ F k ∧ k ≠ qb) ∧ ¬ F qb ∧ κ ≤ 900000 ∧ Step (fun k => (F0 k ∨ O0 k) ∨ k = qb) w1 (fun k => (F k ∨ O k) ∨ k = qb) w2) := ⟨hr, hq, hi, hO, hn, hk, hs⟩; clear hr hq hi hO hn hk hs f0 f1 f2 f3 f4 f5 f6 f7 f8; obtain ⟨f0, f1, f2, f3, f4, f5, f6, f7, f8⟩ := box9_facts X2.out.2.1) | (go_at_call 30; refine (tells_any X2.out.1 X2.out.2.1 HQ.out.2.1 us0 HQ.out.2.2.1 HQ.out.2.2.2.2.1).mono ?_; rintro e w3 ⟨rfl, hb3⟩; have X3 : Hid (Below w2.heap.size w2 w3) := hb3; clear hb3))
    go_ret2
    refine ⟨by rw [HM.out]; rfl, ?_⟩
    obtain ⟨h1, h2, h3, h4, h5, h6, h7⟩ := X2.out
    refine ⟨F, O, κ, ?_, below_box h2 X3.out, HQ.out.2.2.2.2.2.kept h3 X3.out.size (fun k hk => X3.out.block k (HQ.out.2.2.2.2.2.lt h3 k hk)), h4, h5, by omega, h7.trans (Step.of_below X3.out)⟩
    rw [HM.out]
    exact h1.below X3.out
  subst hz
  have HM : Hid (endM ⟨t, M, fe, us, 0⟩ n U ev = askM M n U fe ev) := if_pos rfl
  go_enter Try.func11, Try.ntmps11
  go_wp2_with (first | (go_at_call 27; refine (ready_any HQ.out.1).mono ?_; rintro e w1 ⟨rfl, rfl⟩) | (go_at_call 28; refine (CALLG.out).mono ?_; rintro e w2 ⟨rfl, F, O, κ, hr, hq, hi, hO, hn, hk, hs⟩; have X2 : Hid (RamAt w2 F rb 8192 κ (.pointer none) M ∧ w2.heap[qb]? = some (.cells #[.int .i64 (n : Int), .int .u64 (D : Int), .int .u64 (A : Int), .int .u64 (U : Int), .bool true, .int .u16 (fe : Int), .int .u16 (us : Int), .bool ev, .bool al] 40 (0, 0)) ∧ I t O w2 ∧ (∀ k, O k → ¬ F k ∧ k ≠ qb) ∧ ¬ F qb ∧ κ ≤ 900000 ∧ Step (fun k => (F0 k ∨ O0 k) ∨ k = qb) w1 (fun k => (F k ∨ O k) ∨ k = qb) w2) := ⟨hr, hq, hi, hO, hn, hk, hs⟩; clear hr hq hi hO hn hk hs f0 f1 f2 f3 f4 f5 f6 f7 f8; obtain ⟨f0, f1, f2, f3, f4, f5, f6, f7, f8⟩ := box9_facts X2.out.2.1) | (go_at_call 29; refine (ask_any X2.out.1 X2.out.2.1 HQ.out.2.1 X2.out.2.2.2.2.1 HQ.out.2.2.2.1 (by have := X2.out.2.2.2.2.2.1; omega)).mono ?_; rintro e w3 ⟨rfl, F3, hr3, hs3⟩; have X3 : Hid (RamAt w3 F3 rb 8192 (κ + 2) (.pointer none) (askM M n U fe ev) ∧ Step F w2 F3 w3 ∧ w3.heap[qb]? = some (.cells #[.int .i64 (n : Int), .int .u64 (D : Int), .int .u64 (A : Int), .int .u64 (U : Int), .bool true, .int .u16 (fe : Int), .int .u16 (us : Int), .bool ev, .bool al] 40 (0, 0))) := ⟨hr3, hs3, step_box hs3 X2.out.2.1 X2.out.2.2.2.2.1⟩; clear hr3 hs3) | (go_at_call 30; refine (tells_any X3.out.1 X3.out.2.2 HQ.out.2.1 us0 HQ.out.2.2.1 HQ.out.2.2.2.2.1).mono ?_; rintro e w4 ⟨rfl, hb4⟩; have X4 : Hid (Below w3.heap.size w3 w4) := hb4; clear hb4))
  go_ret2
  refine ⟨by rw [HM.out]; rfl, ?_⟩
  obtain ⟨h1, h2, h3, h4, h5, h6, h7⟩ := X2.out
  obtain ⟨g1, g2, g3⟩ := X3.out
  have hlt := fun k hk => HQ.out.2.2.2.2.2.lt h3 k hk
  have hqlt := (Array.getElem?_eq_some_iff.1 h2).1
  have i3 := HQ.out.2.2.2.2.2.kept h3 g2.size (fun k hk => g2.block k (hlt k hk) (h4 k hk).1)
  refine ⟨F3, O, κ + 2, ?_, below_box g3 X4.out, HQ.out.2.2.2.2.2.kept i3 X4.out.size (fun k hk => X4.out.block k (HQ.out.2.2.2.2.2.lt i3 k hk)), fun k hk => ⟨not_later g2 (hlt k hk) (h4 k hk).1, (h4 k hk).2⟩, not_later g2 hqlt h5, by omega, (h7.trans ?_).trans (Step.of_below X4.out)⟩
  · rw [HM.out]
    exact g1.below X4.out
  · exact step_or (step_or g2 (fun k hk => hlt k hk)) (fun k hk => by omega)
end
end Go.Proofs.Ytmjdnocilbnoaaa

/- The statements' device: it writes a byte to all that is to be written. -/
namespace Go.Proofs.Ytmjdnocilbnoaaa
open Go.RowKit Go.Maps
set_option linter.unusedVariables false
set_option linter.unusedSimpArgs false
set_option maxRecDepth 100000
/-- how the device's state lies: its own three boxes -/
def If (rb b ro mo bo : Nat) (t : Nat) (O : Nat → Prop) (w : World) : Prop := O = (fun k => k = ro ∨ k = mo ∨ k = bo) ∧ w.heap[ro]? = some (.cells #[.int .i64 (t : Int)] 3 (0, 0)) ∧ w.heap[mo]? = some (.cells #[.pointer (some ⟨rb, 0, none⟩)] 29 (0, 0)) ∧ w.heap[bo]? = some (.cells #[.int .u8 (b : Int)] 5 (0, 0)) ∧ ro ≠ mo ∧ ro ≠ bo ∧ t ≤ 40
def budF (t : Nat) : Nat := 4010 * t
theorem dev_no {b t : Nat} {M : Nat → Nat} {h : Nat} {c : Cn} (hn : devF b t M h c = none) : t = 0 := by
  unfold devF at hn
  by_cases h0 : t = 0
  · exact h0
  · rw [if_neg h0] at hn; cases hn
theorem dev_yes {b t : Nat} {M : Nat → Nat} {h : Nat} {c : Cn} {t' : Nat} {M' : Nat → Nat} {n : Nat} (hn : devF b t M h c = some (t', M', n)) : t ≠ 0 ∧ t' = t - 1 ∧ M' = fillM b c.l M ∧ n = cntN c.l := by
  unfold devF at hn
  by_cases h0 : t = 0
  · rw [if_pos h0] at hn; cases hn
  · rw [if_neg h0] at hn
    simp only [Option.some.injEq, Prod.mk.injEq] at hn
    exact ⟨h0, hn.1.symm, hn.2.1.symm, hn.2.2.symm⟩
theorem less_wrap (t : Nat) (h : t ≤ 40) (h0 : t ≠ 0) : wrap64 ((t : Int) - 1) = ((t - 1 : Nat) : Int) := by unfold wrap64; omega
theorem cnt_le (l : List Seg) : cntN l ≤ 4294967295 := by unfold cntN; split <;> omega
theorem dev_serve (rb b ro mo bo : Nat) (hb : b ≤ 255) : Dvc rb 44 #[.pointer (some ⟨ro, 0, none⟩), .pointer (some ⟨mo, 0, none⟩), .pointer (some ⟨bo, 0, none⟩)] (devF b) budF (If rb b ro mo bo) where
  cf := fun args V => by simp [go_sem]
  lt := by
    rintro t O w ⟨rfl, h1, h2, h3, _⟩ k (rfl | rfl | rfl)
    · exact (Array.getElem?_eq_some_iff.1 h1).1
    · exact (Array.getElem?_eq_some_iff.1 h2).1
    · exact (Array.getElem?_eq_some_iff.1 h3).1
  kept := by
    rintro t O w w' ⟨rfl, h1, h2, h3, h4⟩ _ hk
    exact ⟨rfl, (hk ro (.inl rfl)).trans h1, (hk mo (.inr (.inl rfl))).trans h2, (hk bo (.inr (.inr rfl))).trans h3, h4⟩
  le := by
    intro t M h c t' M' n hn _
    rw [(dev_yes hn).2.2.2]
    exact cnt_le _
  no := by
    intro t M h c F O κ w a cc hn hr hi hO hs
    have h0 := dev_no hn
    subst h0
    obtain ⟨rfl, h1, h2, h3, _⟩ := hi
    obtain ⟨L, hL⟩ : ∃ L, c.l.length = L := ⟨_, rfl⟩
    rw [hL]
    generalize c.ta = ta
    generalize c.tl = tl
    have XB : Hid (Below w.heap.size w (w.alloc (.cells #[.slice a L cc, .int .u64 (ta : Int), .int .u64 (tl : Int)] 50)) ∧ (w.alloc (.cells #[.slice a L cc, .int .u64 (ta : Int), .int .u64 (tl : Int)] 50)).heap[ro]? = some (.cells #[.int .i64 ((0 : Nat) : Int)] 3 (0, 0))) := ⟨one_box _ _, below_box h1 (one_box _ _)⟩
    clear h1 h2 h3 hn hr hO hs hL
    show Calls Try.prog 44 #[.agg #[.slice a L cc, .int .u64 (ta : Int), .int .u64 (tl : Int)], .pointer (some ⟨ro, 0, none⟩), .pointer (some ⟨mo, 0, none⟩), .pointer (some ⟨bo, 0, none⟩)] w _
    go_enter Try.func44, Try.ntmps44
    go_upto_region 1 with fail
    generalize w.alloc (.cells #[.slice a L cc, .int .u64 (ta : Int), .int .u64 (tl : Int)] 50) = v0 at *
    obtain ⟨r0, r1⟩ := box1_facts XB.out.2
    go_wp2_with fail
    go_ret2
    exact ⟨rfl, XB.out.1⟩
  yes := by
    intro t M h c F O κ w a cc t' M' n hn hr hκ hi hO hs hg hl hok
    obtain ⟨h0, rfl, rfl, rfl⟩ := dev_yes hn
    obtain ⟨rfl, h1, h2, h3, hne1, hne2, ht⟩ := hi
    have hw := less_wrap t ht h0
    have hz : ((t : Int) == 0) = false := by simp; omega
    have HX : Hid (t - 1 ≤ 40 ∧ ro ≠ mo ∧ ro ≠ bo ∧ ¬ F ro ∧ ¬ F mo ∧ ¬ F bo ∧ κ + 4010 * t ≤ 900000 ∧ t - 1 + 1 = t) := ⟨by omega, hne1, hne2, hO ro (.inl rfl), hO mo (.inr (.inl rfl)), hO bo (.inr (.inr rfl)), hκ, by omega⟩
    obtain ⟨t1, ht1⟩ : ∃ t1, t - 1 = t1 := ⟨_, rfl⟩
    rw [ht1] at hw HX ⊢
    obtain ⟨L, hL⟩ : ∃ L, c.l.length = L := ⟨_, rfl⟩
    have HL : Hid (c.l.length = L) := hL
    rw [hL] at hs hg ⊢
    generalize c.ta = ta
    generalize c.tl = tl
    have hbx : Below w.heap.size w (w.alloc (.cells #[.slice a L cc, .int .u64 (ta : Int), .int .u64 (tl : Int)] 50)) := one_box _ _
    have XB : Hid (Below w.heap.size w (w.alloc (.cells #[.slice a L cc, .int .u64 (ta : Int), .int .u64 (tl : Int)] 50)) ∧ (w.alloc (.cells #[.slice a L cc, .int .u64 (ta : Int), .int .u64 (tl : Int)] 50)).heap[ro]? = some (.cells #[.int .i64 (t : Int)] 3 (0, 0)) ∧ (w.alloc (.cells #[.slice a L cc, .int .u64 (ta : Int), .int .u64 (tl : Int)] 50)).heap[mo]? = some (.cells #[.pointer (some ⟨rb, 0, none⟩)] 29 (0, 0)) ∧ (w.alloc (.cells #[.slice a L cc, .int .u64 (ta : Int), .int .u64 (tl : Int)] 50)).heap[bo]? = some (.cells #[.int .u8 (b : Int)] 5 (0, 0)) ∧ (w.alloc (.cells #[.slice a L cc, .int .u64 (ta : Int), .int .u64 (tl : Int)] 50)).heap[w.heap.size]? = some (.cells #[.slice a L cc, .int .u64 (ta : Int), .int .u64 (tl : Int)] 50 (0, 0)) ∧ RamAt (w.alloc (.cells #[.slice a L cc, .int .u64 (ta : Int), .int .u64 (tl : Int)] 50)) F rb 8192 κ (.pointer none) M ∧ SegIn 0 (w.alloc (.cells #[.slice a L cc, .int .u64 (ta : Int), .int .u64 (tl : Int)] 50)) (.slice a L cc) c.l ∧ ro < w.heap.size) := ⟨hbx, below_box h1 hbx, below_box h2 hbx, below_box h3 hbx, heap_alloc_new _ _, hr.below hbx, hs.kept (fun g hg => hbx.block g (hs.lt g hg).2), (Array.getElem?_eq_some_iff.1 h1).1⟩
    have HS : Hid ((∀ g, (Value.slice a L cc).ownBlock = some g → g ≠ ro) ∧ c.l.length ≤ 1000 ∧ ∀ s ∈ c.l, SegOk s) := ⟨fun g hg' e => (hg g hg').2 (.inl e), hl, hok⟩
    clear h1 h2 h3 hn hr hO hs hL hbx hg hl hok hκ ht h0 ht1
    show Calls Try.prog 44 #[.agg #[.slice a L cc, .int .u64 (ta : Int), .int .u64 (tl : Int)], .pointer (some ⟨ro, 0, none⟩), .pointer (some ⟨mo, 0, none⟩), .pointer (some ⟨bo, 0, none⟩)] w _
    go_enter Try.func44, Try.ntmps44
    go_upto_region 1 with fail
    generalize w.alloc (.cells #[.slice a L cc, .int .u64 (ta : Int), .int .u64 (tl : Int)] 50) = v0 at *
    obtain ⟨r0, r1⟩ := box1_facts XB.out.2.1
    go_upto_region 4 with fail
    have X1 : Hid ((v0.setCell ⟨ro, 0, none⟩ (.int .i64 (t1 : Int))).heap[ro]? = some (.cells #[.int .i64 (t1 : Int)] 3 (0, 0)) ∧ (v0.setCell ⟨ro, 0, none⟩ (.int .i64 (t1 : Int))).heap[mo]? = some (.cells #[.pointer (some ⟨rb, 0, none⟩)] 29 (0, 0)) ∧ (v0.setCell ⟨ro, 0, none⟩ (.int .i64 (t1 : Int))).heap[bo]? = some (.cells #[.int .u8 (b : Int)] 5 (0, 0)) ∧ (v0.setCell ⟨ro, 0, none⟩ (.int .i64 (t1 : Int))).heap[w.heap.size]? = some (.cells #[.slice a L cc, .int .u64 (ta : Int), .int .u64 (tl : Int)] 50 (0, 0)) ∧ RamAt (v0.setCell ⟨ro, 0, none⟩ (.int .i64 (t1 : Int))) F rb 8192 κ (.pointer none) M ∧ SegIn 0 (v0.setCell ⟨ro, 0, none⟩ (.int .i64 (t1 : Int))) (.slice a L cc) c.l ∧ Step (fun k => F k ∨ (k = ro ∨ k = mo ∨ k = bo)) w (fun k => F k ∨ (k = ro ∨ k = mo ∨ k = bo)) (v0.setCell ⟨ro, 0, none⟩ (.int .i64 (t1 : Int)))) := by
      obtain ⟨x1, x2, x3, x4, x5, x6, x7, x8⟩ := XB.out
      obtain ⟨y1, y2, y3, y4, y5, y6, y7⟩ := HX.out
      refine ⟨set_box x2 0 _, (heap_setCell _ _ _ _ _ (fun e => y2 e.symm)).trans x3, (heap_setCell _ _ _ _ _ (fun e => y3 e.symm)).trans x4, (heap_setCell _ _ _ _ _ (by omega)).trans x5, x6.setCell y4 _ _, x7.kept (fun g hg => heap_setCell _ _ _ _ _ (HS.out.1 g hg)), (Step.of_below x1).trans ?_⟩
      have := step_set v0 ro 0 (.int .i64 (t1 : Int))
      exact ⟨this.os, this.tape, this.output, this.size, fun k hk hn => this.block k hk (fun e => hn (.inr (.inl e))), fun k hk => .inl hk, fun k hk => hk⟩
    clear XB r0 r1
    generalize v0.setCell ⟨ro, 0, none⟩ (.int .i64 (t1 : Int)) = w1 at *
    obtain ⟨m0, m1⟩ := box1_facts X1.out.2.1
    obtain ⟨n0, n1⟩ := box1_facts X1.out.2.2.1
    obtain ⟨p0, p1, p2⟩ := box3_facts X1.out.2.2.2.1
    go_wp2_with (go_at_call 17; refine (fill_any X1.out.2.2.2.2.1 (by have := HX.out; omega) X1.out.2.2.2.2.2.1 HS.out.2.1 HS.out.2.2 ta tl b hb).mono ?_; rintro e w2 ⟨rfl, F2, hr2, hs2⟩; have X2 : Hid (RamAt w2 F2 rb 8192 (κ + 4000) (.pointer none) (fillM b c.l M) ∧ Step F w1 F2 w2) := ⟨hr2, hs2⟩; clear hr2 hs2)
    go_ret2
    obtain ⟨y1, y2, y3, y4, y5, y6, y7, y8⟩ := HX.out
    obtain ⟨x1, x2, x3, x4, x5, x6, x7⟩ := X1.out
    obtain ⟨z1, z2⟩ := X2.out
    have l1 := (Array.getElem?_eq_some_iff.1 x1).1
    have l2 := (Array.getElem?_eq_some_iff.1 x2).1
    have l3 := (Array.getElem?_eq_some_iff.1 x3).1
    refine ⟨rfl, F2, fun k => k = ro ∨ k = mo ∨ k = bo, κ + 4000, z1, ⟨rfl, step_box z2 x1 y4, step_box z2 x2 y5, step_box z2 x3 y6, y2, y3, y1⟩, ?_, x7.trans (step_or z2 ?_), ?_⟩
    · rintro k (rfl | rfl | rfl)
      · exact not_later z2 l1 y4
      · exact not_later z2 l2 y5
      · exact not_later z2 l3 y6
    · rintro k (rfl | rfl | rfl)
      · exact l1
      · exact l2
      · exact l3
    · unfold budF; omega
end Go.Proofs.Ytmjdnocilbnoaaa

/- The device of QueueWrites. -/
namespace Go.Proofs.Ytmjdnocilbnoaaa
open Go.RowKit Go.Maps
set_option linter.unusedVariables false
set_option linter.unusedSimpArgs false
set_option maxRecDepth 100000
def devW (b : Nat) (s : Nat × List Seg) (M : Nat → Nat) (h : Nat) (c : Cn) : Option ((Nat × List Seg) × (Nat → Nat) × Nat) := if s.1 = 0 then none else some ((s.1 - 1, s.2 ++ c.l), fillM b c.l M, cntN c.l)
def budW (s : Nat × List Seg) : Nat := 4010 * s.1
/-- how the device's state lies: four boxes and the row of segments, among the blocks O -/
def Iw (rb b r0 base ro ao mo bo : Nat) (s : Nat × List Seg) (O : Nat → Prop) (w : World) : Prop := ∃ (va : Option Addr) (vc : Nat), (O ro ∧ O ao ∧ O mo ∧ O bo ∧ (∀ k, (Value.slice va s.2.length vc).ownBlock = some k → O k) ∧ ∀ k, O k → k < w.heap.size) ∧ w.heap[ro]? = some (.cells #[.int .i64 (s.1 : Int)] 3 (0, 0)) ∧ w.heap[ao]? = some (.cells #[.slice va s.2.length vc] 46 (0, 0)) ∧ w.heap[mo]? = some (.cells #[.pointer (some ⟨rb, 0, none⟩)] 29 (0, 0)) ∧ w.heap[bo]? = some (.cells #[.int .i64 (b : Int), .int .i64 (r0 : Int)] 57 (0, 0)) ∧ SegIn base w (.slice va s.2.length vc) s.2 ∧ (ro ≠ ao ∧ ro ≠ mo ∧ ro ≠ bo ∧ ao ≠ mo ∧ ao ≠ bo ∧ ro < base ∧ ao < base ∧ mo < base ∧ bo < base) ∧ base ≤ w.heap.size ∧ s.1 ≤ 40 ∧ s.2.length + 1000 * s.1 ≤ 40000
/-- while the device is asked -/
def Wq (V : World) (F : Nat → Prop) (rb κ : Nat) (M : Nat → Nat) (base ro ao mo bo q b r0 t : Nat) (va : Option Addr) (m vc : Nat) (ms : List Seg) (a : Option Addr) (L cc ta tl : Nat) (l : List Seg) : Prop := V.heap[ro]? = some (.cells #[.int .i64 (t : Int)] 3 (0, 0)) ∧ V.heap[ao]? = some (.cells #[.slice va m vc] 46 (0, 0)) ∧ V.heap[mo]? = some (.cells #[.pointer (some ⟨rb, 0, none⟩)] 29 (0, 0)) ∧ V.heap[bo]? = some (.cells #[.int .i64 (b : Int), .int .i64 (r0 : Int)] 57 (0, 0)) ∧ V.heap[q]? = some (.cells #[.slice a L cc, .int .u64 (ta : Int), .int .u64 (tl : Int)] 50 (0, 0)) ∧ RamAt V F rb 8192 κ (.pointer none) M ∧ SegIn 0 V (.slice a L cc) l
theorem devw_no {b : Nat} {s : Nat × List Seg} {M : Nat → Nat} {h : Nat} {c : Cn} (hn : devW b s M h c = none) : s.1 = 0 := by
  unfold devW at hn
  by_cases h0 : s.1 = 0
  · exact h0
  · rw [if_neg h0] at hn; cases hn
theorem devw_yes {b : Nat} {s : Nat × List Seg} {M : Nat → Nat} {h : Nat} {c : Cn} {s' : Nat × List Seg} {M' : Nat → Nat} {n : Nat} (hn : devW b s M h c = some (s', M', n)) : s.1 ≠ 0 ∧ s' = (s.1 - 1, s.2 ++ c.l) ∧ M' = fillM b c.l M ∧ n = cntN c.l := by
  unfold devW at hn
  by_cases h0 : s.1 = 0
  · rw [if_pos h0] at hn; cases hn
  · rw [if_neg h0] at hn
    simp only [Option.some.injEq, Prod.mk.injEq] at hn
    exact ⟨h0, hn.1.symm, hn.2.1.symm, hn.2.2.symm⟩
theorem iw_lt {rb b r0 base ro ao mo bo : Nat} {s : Nat × List Seg} {O : Nat → Prop} {w : World} (h : Iw rb b r0 base ro ao mo bo s O w) : ∀ k, O k → k < w.heap.size := by
  obtain ⟨va, vc, h0, _⟩ := h
  exact h0.2.2.2.2.2
theorem u8_small {m : Nat} (h : m ≤ 255) : IntKind.u8.wrap (m : Int) = (m : Int) := by
  simp [IntKind.wrap, IntKind.signed, IntKind.bits]
  omega
set_option maxHeartbeats 4000000 in
theorem dev_writes (rb b r0 base ro ao mo bo : Nat) (hb : b ≤ 255) : Dvc rb 16 #[.pointer (some ⟨ro, 0, none⟩), .pointer (some ⟨ao, 0, none⟩), .pointer (some ⟨mo, 0, none⟩), .pointer (some ⟨bo, 0, none⟩)] (devW b) budW (Iw rb b r0 base ro ao mo bo) where
  cf := fun args V => by simp [go_sem]
  lt := fun h => iw_lt h
  kept := by
    rintro s O w w' ⟨va, vc, h0, h1, h2, h3, h4, h5, h6, h7, h8⟩ hsz hk
    exact ⟨va, vc, ⟨h0.1, h0.2.1, h0.2.2.1, h0.2.2.2.1, h0.2.2.2.2.1, fun k ho => Nat.lt_of_lt_of_le (h0.2.2.2.2.2 k ho) hsz⟩, (hk ro h0.1).trans h1, (hk ao h0.2.1).trans h2, (hk mo h0.2.2.1).trans h3, (hk bo h0.2.2.2.1).trans h4, h5.kept (fun g hg => hk g (h0.2.2.2.2.1 g hg)), h6, Nat.le_trans h7 hsz, h8⟩
  le := by
    intro t M h c t' M' n hn _
    rw [(devw_yes hn).2.2.2]
    exact cnt_le _
  no := by
    rintro ⟨t, ms⟩ M h c F O κ w a cc hn hr hi hO hs
    have h0 := devw_no hn
    simp only at h0
    subst h0
    obtain ⟨va, vc, _, h1, _⟩ := hi
    obtain ⟨L, hL⟩ : ∃ L, c.l.length = L := ⟨_, rfl⟩
    rw [hL]
    generalize c.ta = ta
    generalize c.tl = tl
    have XB : Hid (Below w.heap.size w (w.alloc (.cells #[.slice a L cc, .int .u64 (ta : Int), .int .u64 (tl : Int)] 50)) ∧ (w.alloc (.cells #[.slice a L cc, .int .u64 (ta : Int), .int .u64 (tl : Int)] 50)).heap[ro]? = some (.cells #[.int .i64 ((0 : Nat) : Int)] 3 (0, 0))) := ⟨one_box _ _, below_box h1 (one_box _ _)⟩
    clear h1 hn hr hO hs hL
    show Calls Try.prog 16 #[.agg #[.slice a L cc, .int .u64 (ta : Int), .int .u64 (tl : Int)], .pointer (some ⟨ro, 0, none⟩), .pointer (some ⟨ao, 0, none⟩), .pointer (some ⟨mo, 0, none⟩), .pointer (some ⟨bo, 0, none⟩)] w _
    go_enter Try.func16, Try.ntmps16
    go_upto_region 1 with fail
    generalize w.alloc (.cells #[.slice a L cc, .int .u64 (ta : Int), .int .u64 (tl : Int)] 50) = v0 at *
    obtain ⟨k0, k1⟩ := box1_facts XB.out.2
    go_wp2_with fail
    go_ret2
    exact ⟨rfl, XB.out.1⟩
  yes := by
    rintro ⟨t, ms⟩ M h c F O κ w a cc t' M' n hn hr hκ hi hO hs hg hl hok
    obtain ⟨h0, rfl, rfl, rfl⟩ := devw_yes hn
    obtain ⟨va, vc, h00, h1, h2, h3, h4, h5, hd, hbase, ht, hms⟩ := hi
    simp only at h0 h00 h1 h2 h5 ht hms hκ ⊢
    have hw := less_wrap t ht h0
    have hz : ((t : Int) == 0) = false := by simp; omega
    have e8 : IntKind.u8.wrap (b : Int) = (b : Int) := u8_small hb
    obtain ⟨t1, ht1⟩ : ∃ t1, t - 1 = t1 := ⟨_, rfl⟩
    obtain ⟨L, hL⟩ : ∃ L, c.l.length = L := ⟨_, rfl⟩
    obtain ⟨m, hm⟩ : ∃ m, ms.length = m := ⟨_, rfl⟩
    have HL : Hid (c.l.length = L ∧ ms.length = m ∧ c.l.length ≤ 1000 ∧ ∀ s ∈ c.l, SegOk s) := ⟨hL, hm, hl, hok⟩
    rw [ht1] at hw ⊢
    rw [hL] at hs hg ⊢
    rw [hm] at h2 h5 h00
    have HX : Hid (t1 ≤ 40 ∧ t1 + 1 = t ∧ κ + 4010 * t ≤ 900000 ∧ m + 1000 * t ≤ 40000 ∧ (∀ k, O k → ¬ F k) ∧ base ≤ w.heap.size) := ⟨by omega, by omega, hκ, by omega, hO, hbase⟩
    have HD : Hid (ro ≠ ao ∧ ro ≠ mo ∧ ro ≠ bo ∧ ao ≠ mo ∧ ao ≠ bo ∧ ro < base ∧ ao < base ∧ mo < base ∧ bo < base) := hd
    have HO : Hid (O ro ∧ O ao ∧ O mo ∧ O bo ∧ (∀ k, (Value.slice va m vc).ownBlock = some k → O k) ∧ ∀ k, O k → k < w.heap.size) := h00
    have HG : Hid (∀ g, (Value.slice a L cc).ownBlock = some g → ¬ F g ∧ ¬ O g) := hg
    generalize c.ta = ta
    generalize c.tl = tl
    have hbx : Below w.heap.size w (w.alloc (.cells #[.slice a L cc, .int .u64 (ta : Int), .int .u64 (tl : Int)] 50)) := one_box _ _
    have XB : Hid (Wq (w.alloc (.cells #[.slice a L cc, .int .u64 (ta : Int), .int .u64 (tl : Int)] 50)) F rb κ M base ro ao mo bo w.heap.size b r0 t va m vc ms a L cc ta tl c.l ∧ SegIn base (w.alloc (.cells #[.slice a L cc, .int .u64 (ta : Int), .int .u64 (tl : Int)] 50)) (.slice va m vc) ms ∧ Step (fun k => F k ∨ O k) w (fun k => F k ∨ O k) (w.alloc (.cells #[.slice a L cc, .int .u64 (ta : Int), .int .u64 (tl : Int)] 50))) := ⟨⟨below_box h1 hbx, below_box h2 hbx, below_box h3 hbx, below_box h4 hbx, heap_alloc_new _ _, hr.below hbx, hs.kept (fun g hg => hbx.block g (hs.lt g hg).2)⟩, h5.kept (fun g hg => hbx.block g (h5.lt g hg).2), Step.of_below hbx⟩
    have HQ : Hid (w.heap.size < (w.alloc (.cells #[.slice a L cc, .int .u64 (ta : Int), .int .u64 (tl : Int)] 50)).heap.size) := by show w.heap.size < (w.alloc _).heap.size; simp
    clear h00 h1 h2 h3 h4 h5 hn hr hO hs hL hm hbx hg hl hok hκ ht h0 ht1 hd hbase hms
    show Calls Try.prog 16 #[.agg #[.slice a L cc, .int .u64 (ta : Int), .int .u64 (tl : Int)], .pointer (some ⟨ro, 0, none⟩), .pointer (some ⟨ao, 0, none⟩), .pointer (some ⟨mo, 0, none⟩), .pointer (some ⟨bo, 0, none⟩)] w _
    go_enter Try.func16, Try.ntmps16
    go_upto_region 1 with fail
    generalize w.alloc (.cells #[.slice a L cc, .int .u64 (ta : Int), .int .u64 (tl : Int)] 50) = v0 at *
    obtain ⟨k0, k1⟩ := box1_facts XB.out.1.1
    go_upto_region 4 with fail
    have X1 : Hid (Wq (v0.setCell ⟨ro, 0, none⟩ (.int .i64 (t1 : Int))) F rb κ M base ro ao mo bo w.heap.size b r0 t1 va m vc ms a L cc ta tl c.l ∧ SegIn base (v0.setCell ⟨ro, 0, none⟩ (.int .i64 (t1 : Int))) (.slice va m vc) ms ∧ Step (fun k => F k ∨ O k) w (fun k => F k ∨ O k) (v0.setCell ⟨ro, 0, none⟩ (.int .i64 (t1 : Int)))) := by
      obtain ⟨⟨x1, x2, x3, x4, x5, x6, x7⟩, x8, x9⟩ := XB.out
      obtain ⟨d1, d2, d3, d4, d5, b1, b2, b3, b4⟩ := HD.out
      have hbq := HX.out.2.2.2.2.2
      refine ⟨⟨set_box x1 0 _, (heap_setCell _ _ _ _ _ (fun e => d1 e.symm)).trans x2, (heap_setCell _ _ _ _ _ (fun e => d2 e.symm)).trans x3, (heap_setCell _ _ _ _ _ (fun e => d3 e.symm)).trans x4, (heap_setCell _ _ _ _ _ (by omega)).trans x5, x6.setCell (HX.out.2.2.2.2.1 ro HO.out.1) _ _, x7.kept (fun g hg => heap_setCell _ _ _ _ _ (fun e => (HG.out g hg).2 (e ▸ HO.out.1)))⟩, x8.kept (fun g hg => heap_setCell _ _ _ _ _ (by have := (x8.lt g hg).1; omega)), x9.trans ?_⟩
      have := step_set v0 ro 0 (.int .i64 (t1 : Int))
      exact ⟨this.os, this.tape, this.output, this.size, fun k hk hn => this.block k hk (fun e => hn (.inr (e ▸ HO.out.1))), fun k hk => .inl hk, fun k hk => hk⟩
    have HQ1 : Hid (w.heap.size < (v0.setCell ⟨ro, 0, none⟩ (.int .i64 (t1 : Int))).heap.size) := by show _ < _; have := HQ.out; simpa using this
    clear XB k0 k1 HQ
    generalize v0.setCell ⟨ro, 0, none⟩ (.int .i64 (t1 : Int)) = w1 at *
    obtain ⟨a0, a1⟩ := box1_facts X1.out.1.2.1
    obtain ⟨p0, p1, p2⟩ := box3_facts X1.out.1.2.2.2.2.1
    refine wp_region_list ?_
    (refine wpList_step (fun KK hKK => ?_); go_simp; refine hKK _ _ ?_; clear hKK KK)
    (refine wpList_step (fun KK hKK => ?_); go_simp; refine hKK _ _ ?_; clear hKK KK)
    (refine wpList_step (fun KK hKK => ?_); go_simp; refine hKK _ _ ?_; clear hKK KK)
    refine wpList_append_segs rfl _ _ rfl base ms c.l (.slice va m vc) (.slice a L cc) rfl X1.out.2.1 rfl X1.out.1.2.2.2.2.2.2 (by have := HL.out; have := HX.out; omega) (by have := HQ1.out; have := HX.out; omega) ?_
    intro v' w2 hsp hgrow hat
    obtain ⟨va', vc', rfl⟩ := hsp.form
    obtain ⟨m2, hm2⟩ : ∃ m2, (ms ++ c.l).length = m2 := ⟨_, rfl⟩
    rw [hm2] at hsp hat ⊢
    have X2 : Hid (Wq w2 F rb κ M base ro ao mo bo w.heap.size b r0 t1 va m vc ms a L cc ta tl c.l ∧ SegIn base w2 (.slice va' m2 vc') (ms ++ c.l) ∧ Step (fun k => F k ∨ O k) w (fun k => F k ∨ (O k ∨ (Value.slice va' m2 vc').ownBlock = some k)) w2 ∧ (∀ k, (Value.slice va' m2 vc').ownBlock = some k → ¬ F k)) := by
      obtain ⟨⟨x1, x2, x3, x4, x5, x6, x7⟩, x8, x9⟩ := X1.out
      obtain ⟨d1, d2, d3, d4, d5, b1, b2, b3, b4⟩ := HD.out
      have hq1 := HQ1.out
      have hbq := HX.out.2.2.2.2.2
      have hlow : ∀ k, (Value.slice va m vc).ownBlock = some k → base ≤ k ∧ k < w.heap.size := fun k hk => ⟨(x8.lt k hk).1, HO.out.2.2.2.2.2 k (HO.out.2.2.2.2.1 k hk)⟩
      have hk : ∀ k o, w1.heap[k]? = some o → (Value.slice va m vc).ownBlock ≠ some k → w2.heap[k]? = some o := fun k o ho hne => (hgrow.block k (Array.getElem?_eq_some_iff.1 ho).1 (fun e => hne e.symm)).trans ho
      refine ⟨⟨hk _ _ x1 (fun e => by have := (hlow _ e).1; omega), hk _ _ x2 (fun e => by have := (hlow _ e).1; omega), hk _ _ x3 (fun e => by have := (hlow _ e).1; omega), hk _ _ x4 (fun e => by have := (hlow _ e).1; omega), hk _ _ x5 (fun e => by have := (hlow _ e).2; omega), x6.kept hgrow.size (fun k hf => hgrow.block k (x6.lt k hf) (fun e => HX.out.2.2.2.2.1 k (HO.out.2.2.2.2.1 k e.symm) hf)), x7.kept (fun g hg => hgrow.block g (x7.lt g hg).2 (fun e => (HG.out g hg).2 (HO.out.2.2.2.2.1 g e.symm)))⟩, hsp, x9.trans ⟨hgrow.os, hgrow.tape, hgrow.output, hgrow.size, fun k hk hn => hgrow.block k hk (fun e => hn (.inr (HO.out.2.2.2.2.1 k e.symm))), fun k hk => ?_, fun k hk => hk.elim .inl (fun h => .inr (.inl h))⟩, fun k hk hf => ?_⟩
      · rcases hk with hk | hk | hk
        · exact .inl (.inl hk)
        · exact .inl (.inr hk)
        · rcases hat with e | e
          · exact .inl (.inr (HO.out.2.2.2.2.1 k (e ▸ hk)))
          · rw [e] at hk
            simp only [Option.some.injEq] at hk
            exact .inr (by omega)
      · rcases hat with e | e
        · exact HX.out.2.2.2.2.1 k (HO.out.2.2.2.2.1 k (e ▸ hk)) hf
        · rw [e] at hk
          simp only [Option.some.injEq] at hk
          have := x6.lt k hf
          omega
    have HM2 : Hid ((ms ++ c.l).length = m2) := hm2
    clear hsp hgrow hat hm2 X1 HQ1 a0 a1 p0 p1 p2
    obtain ⟨a0, a1⟩ := box1_facts X2.out.1.2.1
    go_upto_region 5 with fail
    have X3 : Hid (Wq (w2.setCell ⟨ao, 0, none⟩ (.slice va' m2 vc')) F rb κ M base ro ao mo bo w.heap.size b r0 t1 va' m2 vc' ms a L cc ta tl c.l ∧ SegIn base (w2.setCell ⟨ao, 0, none⟩ (.slice va' m2 vc')) (.slice va' m2 vc') (ms ++ c.l) ∧ Step (fun k => F k ∨ O k) w (fun k => F k ∨ (O k ∨ (Value.slice va' m2 vc').ownBlock = some k)) (w2.setCell ⟨ao, 0, none⟩ (.slice va' m2 vc')) ∧ (∀ k, (Value.slice va' m2 vc').ownBlock = some k → ¬ F k)) := by
      obtain ⟨⟨x1, x2, x3, x4, x5, x6, x7⟩, x8, x9, x10⟩ := X2.out
      obtain ⟨d1, d2, d3, d4, d5, b1, b2, b3, b4⟩ := HD.out
      have hbq := HX.out.2.2.2.2.2
      refine ⟨⟨(heap_setCell _ _ _ _ _ d1).trans x1, set_box x2 0 _, (heap_setCell _ _ _ _ _ (fun e => d4 e.symm)).trans x3, (heap_setCell _ _ _ _ _ (fun e => d5 e.symm)).trans x4, (heap_setCell _ _ _ _ _ (by omega)).trans x5, x6.setCell (HX.out.2.2.2.2.1 ao HO.out.2.1) _ _, x7.kept (fun g hg => heap_setCell _ _ _ _ _ (fun e => (HG.out g hg).2 (e ▸ HO.out.2.1)))⟩, x8.kept (fun g hg => heap_setCell _ _ _ _ _ (by have := (x8.lt g hg).1; omega)), x9.trans ?_, x10⟩
      have := step_set w2 ao 0 (.slice va' m2 vc')
      exact ⟨this.os, this.tape, this.output, this.size, fun k hk hn => this.block k hk (fun e => hn (.inr (.inl (e ▸ HO.out.2.1)))), fun k hk => .inl hk, fun k hk => hk⟩
    clear X2 a0 a1
    generalize w2.setCell ⟨ao, 0, none⟩ (.slice va' m2 vc') = w3 at *
    obtain ⟨m0, m1⟩ := box1_facts X3.out.1.2.2.1
    obtain ⟨n0, n1, _, _⟩ := box_facts X3.out.1.2.2.2.1
    obtain ⟨p0, p1, p2⟩ := box3_facts X3.out.1.2.2.2.2.1
    go_wp2_with (go_at_call 17; refine (fill_any X3.out.1.2.2.2.2.2.1 (by have := HX.out; omega) X3.out.1.2.2.2.2.2.2 HL.out.2.2.1 HL.out.2.2.2 ta tl b hb).mono ?_; rintro e w4 ⟨rfl, F4, hr4, hs4⟩; have X4 : Hid (RamAt w4 F4 rb 8192 (κ + 4000) (.pointer none) (fillM b c.l M) ∧ Step F w3 F4 w4) := ⟨hr4, hs4⟩; clear hr4 hs4)
    go_ret2
    obtain ⟨⟨x1, x2, x3, x4, x5, x6, x7⟩, x8, x9, x10⟩ := X3.out
    obtain ⟨z1, z2⟩ := X4.out
    obtain ⟨y1, y2, y3, y4, y5, y6⟩ := HX.out
    obtain ⟨o1, o2, o3, o4, o5, o6⟩ := HO.out
    have hll := HL.out
    have hm2 := HM2.out
    have l3 : ∀ k, (O k ∨ (Value.slice va' m2 vc').ownBlock = some k) → k < w3.heap.size := fun k hk => hk.elim (fun ho => Nat.lt_of_lt_of_le (o6 k ho) x9.size) (fun hv => (x8.lt k hv).2)
    have n3 : ∀ k, (O k ∨ (Value.slice va' m2 vc').ownBlock = some k) → ¬ F k := fun k hk => hk.elim (y5 k) (x10 k)
    refine ⟨rfl, F4, fun k => O k ∨ (Value.slice va' m2 vc').ownBlock = some k, κ + 4000, z1, ⟨va', vc', ?_⟩, fun k hk => not_later z2 (l3 k hk) (n3 k hk), x9.trans (step_or z2 l3), ?_⟩
    · simp only [hm2]
      refine ⟨⟨.inl o1, .inl o2, .inl o3, .inl o4, fun k hk => .inr hk, fun k hk => Nat.lt_of_lt_of_le (l3 k hk) z2.size⟩, step_box z2 x1 (y5 _ o1), step_box z2 x2 (y5 _ o2), step_box z2 x3 (y5 _ o3), step_box z2 x4 (y5 _ o4), x8.kept (fun g hg => z2.block g (x8.lt g hg).2 (x10 g hg)), HD.out, Nat.le_trans y6 (Nat.le_trans x9.size z2.size), y1, ?_⟩
      rw [← hm2, List.length_append]
      omega
    · show κ + 4000 + 10 + 4010 * t1 ≤ κ + 4010 * t
      omega
end Go.Proofs.Ytmjdnocilbnoaaa

/- QueueWrites, plain: what a service may change. -/
namespace Go.Proofs.Ytmjdnocilbnoaaa
open Go.RowKit Go.Maps
set_option linter.unusedVariables false
set_option linter.unusedSimpArgs false
set_option maxRecDepth 100000
theorem over_byte2 {M : Nat → Nat} (hM : ∀ a, M a ≤ 255) (x L : Nat) {f : Nat → Nat} (hf : ∀ i, i < L → f i ≤ 255) : ∀ a, over M x L f a ≤ 255 := by
  intro a
  unfold over
  split
  · exact hf _ (by omega)
  · exact hM a
theorem fill_byte2 {b : Nat} (hb : b ≤ 255) (l : List Seg) {M : Nat → Nat} (hM : ∀ a, M a ≤ 255) : ∀ a, fillM b l M a ≤ 255 := by
  intro a
  unfold fillM
  split
  · exact hM a
  · exact layS_le (fun _ => hb) _ _ _ hM a

/-- an address that a segment which is to be written names -/
def inW (l : List Seg) (x : Nat) : Prop := ∃ s ∈ l, s.wr = true ∧ s.a ≤ x ∧ x < s.a + s.l
/-- an address in the used area -/
def inU (n U x : Nat) : Prop := U ≤ x ∧ x < U + 6 + 8 * n
theorem lay_in (g : Nat → Nat) : ∀ (xs : List Nat) (j : Nat) (M : Nat → Nat) (x : Nat), layS g xs j M x ≠ M x → x ∈ xs
  | [], _, _, _, h => absurd rfl h
  | a :: t, j, M, x, h => by
    by_cases ht : x ∈ t
    · exact List.mem_cons_of_mem _ ht
    · have h2 : layS g t (j + 1) (over M a 1 (fun _ => g j)) x = over M a 1 (fun _ => g j) x := Classical.byContradiction fun hc => ht (lay_in g t (j + 1) _ x hc)
      have h3 : over M a 1 (fun _ => g j) x ≠ M x := fun e => h (show layS g t (j + 1) (over M a 1 (fun _ => g j)) x = M x by rw [h2, e])
      unfold over at h3
      by_cases hc : a ≤ x ∧ x < a + 1
      · have : x = a := by omega
        subst this
        simp
      · rw [if_neg hc] at h3
        exact absurd rfl h3
theorem over_hit {M : Nat → Nat} {p L x : Nat} {f : Nat → Nat} (h : over M p L f x ≠ M x) : p ≤ x ∧ x < p + L := by
  unfold over at h
  by_cases hc : p ≤ x ∧ x < p + L
  · exact hc
  · rw [if_neg hc] at h
    exact absurd rfl h
theorem sca_in {l : List Seg} {k x : Nat} (h : x ∈ scaL l 0 k) : inW l x := by
  unfold scaL at h
  have h1 := List.mem_of_mem_take h
  rw [List.drop_zero] at h1
  unfold addrs at h1
  rw [List.mem_flatMap] at h1
  obtain ⟨s, hs, hx⟩ := h1
  by_cases hw : s.wr = true
  · rw [if_pos hw, List.mem_map] at hx
    obtain ⟨i, hi, rfl⟩ := hx
    rw [List.mem_range] at hi
    exact ⟨s, hs, hw, by omega, by omega⟩
  · rw [if_neg hw] at hx
    cases hx
theorem fill_in {b : Nat} {l : List Seg} {M : Nat → Nat} {x : Nat} (h : fillM b l M x ≠ M x) : inW l x := by
  unfold fillM at h
  by_cases hc : 4000 < sizeN true l
  · rw [if_pos hc] at h
    exact absurd rfl h
  · rw [if_neg hc] at h
    exact sca_in (lay_in _ _ _ _ _ h)
theorem ret_in {n U us hd c : Nat} {M : Nat → Nat} {x : Nat} (hn : 1 ≤ n) (h : retM M n U us hd c x ≠ M x) : inU n U x := by
  unfold retM at h
  have hm : us % n < n := Nat.mod_lt _ (by omega)
  generalize us % n = r at hm h
  by_cases h1 : over M (U + 4 + 8 * r) 8 (eB hd c) x = M x
  · rw [← h1] at h
    have := over_hit h
    exact ⟨by omega, by omega⟩
  · have := over_hit h1
    exact ⟨by omega, by omega⟩
theorem ask_in {n U fe : Nat} {ev : Bool} {M : Nat → Nat} {x : Nat} (h : askM M n U fe ev x ≠ M x) : inU n U x := by
  unfold askM at h
  by_cases hc : ev = true
  · rw [if_pos hc] at h
    have := over_hit h
    exact ⟨by omega, by omega⟩
  · rw [if_neg hc] at h
    exact absurd rfl h
theorem inW_more {l m : List Seg} {x : Nat} (h : inW l x) (hm : ∀ s ∈ l, s ∈ m) : inW m x := by
  obtain ⟨s, hs, h2⟩ := h
  exact ⟨s, hm s hs, h2⟩
/-- whatever a service changes lies in the used area, or in what is to be written -/
theorem give_in {b n D A U : Nat} {rd al : Bool} (hn : 1 ≤ n) : ∀ (k : Nat) (s : Nat × List Seg) (M : Nat → Nat) (fe us : Nat), (∀ g ∈ s.2, g ∈ (giveR (devW b) (n : Int) D A U rd al k s M fe us).s.2) ∧ ∀ x, (giveR (devW b) (n : Int) D A U rd al k s M fe us).M x ≠ M x → inU n U x ∨ inW (giveR (devW b) (n : Int) D A U rd al k s M fe us).s.2 x := by
  intro k
  induction k with
  | zero => intro s M fe us; exact ⟨fun g hg => hg, fun x hx => absurd rfl hx⟩
  | succ k ih =>
    intro s M fe us
    obtain ⟨ft, hft⟩ : ∃ ft, fetchR M (n : Int) D A U rd fe al = ft := ⟨_, rfl⟩
    cases ft with
    | non e =>
      rw [give_non hft]
      exact ⟨fun g hg => hg, fun x hx => absurd rfl hx⟩
    | got h c =>
      by_cases he : c.e = 0
      · by_cases ht : s.1 = 0
        · rw [give_stay hft he (by unfold devW; rw [if_pos ht])]
          exact ⟨fun g hg => hg, fun x hx => absurd rfl hx⟩
        · rw [give_more hft he (t' := (s.1 - 1, s.2 ++ c.l)) (M' := fillM b c.l M) (cnt := cntN c.l) (by unfold devW; rw [if_neg ht])]
          obtain ⟨i1, i2⟩ := ih (s.1 - 1, s.2 ++ c.l) (retM (fillM b c.l M) (n : Int).toNat U us h (cntN c.l)) (upN fe) (upN us)
          rw [Int.toNat_natCast] at i1 i2 ⊢
          refine ⟨fun g hg => i1 g (List.mem_append_left _ hg), fun x hx => ?_⟩
          by_cases h1 : retM (fillM b c.l M) n U us h (cntN c.l) x = fillM b c.l M x
          · by_cases h2 : fillM b c.l M x = M x
            · exact i2 x (by rw [h1, h2]; exact hx)
            · exact .inr (inW_more (fill_in h2) (fun g hg => i1 g (List.mem_append_right _ hg)))
          · exact .inl (ret_in hn h1)
      · rw [give_err hft he]
        exact ⟨fun g hg => hg, fun x hx => absurd rfl hx⟩
/-- .. and all segments that it was told of are such as may be -/
theorem give_segs {b n D A U : Nat} {rd al : Bool} (hb : b ≤ 255) (hD : D < 18446744073709551616) : ∀ (k : Nat) (s : Nat × List Seg) (M : Nat → Nat) (fe us : Nat), (∀ a, M a ≤ 255) → (∀ g ∈ s.2, SegOk g) → ∀ g ∈ (giveR (devW b) (n : Int) D A U rd al k s M fe us).s.2, SegOk g := by
  intro k
  induction k with
  | zero => intro s M fe us hM h; exact h
  | succ k ih =>
    intro s M fe us hM hs
    obtain ⟨ft, hft⟩ : ∃ ft, fetchR M (n : Int) D A U rd fe al = ft := ⟨_, rfl⟩
    cases ft with
    | non e => rw [give_non hft]; exact hs
    | got h c =>
      by_cases he : c.e = 0
      · by_cases ht : s.1 = 0
        · rw [give_stay hft he (by unfold devW; rw [if_pos ht])]; exact hs
        · rw [give_more hft he (t' := (s.1 - 1, s.2 ++ c.l)) (M' := fillM b c.l M) (cnt := cntN c.l) (by unfold devW; rw [if_neg ht])]
          refine ih _ _ _ _ ?_ ?_
          · exact over_byte2 (over_byte2 (fill_byte2 hb c.l hM) _ _ (fun i _ => by unfold eB catF; split <;> exact byteAt_le _ _)) _ _ (fun i _ => byteAt_le _ _)
          · intro g hg
            rcases List.mem_append.1 hg with hg | hg
            · exact hs g hg
            · exact (head_le hM hD hft).2.1 g hg
      · rw [give_err hft he]; exact hs
theorem end_in {b n D A U : Nat} {rd ev al : Bool} (hn : 1 ≤ n) (k : Nat) (s : Nat × List Seg) (M : Nat → Nat) (fe us : Nat) (x : Nat) (h : endM (giveR (devW b) (n : Int) D A U rd al k s M fe us) n U ev x ≠ M x) : inU n U x ∨ inW (giveR (devW b) (n : Int) D A U rd al k s M fe us).s.2 x := by
  unfold endM at h
  by_cases hc : (giveR (devW b) (n : Int) D A U rd al k s M fe us).e = 0
  · rw [if_pos hc] at h
    by_cases h1 : askM (giveR (devW b) (n : Int) D A U rd al k s M fe us).M n U (giveR (devW b) (n : Int) D A U rd al k s M fe us).fe ev x = (giveR (devW b) (n : Int) D A U rd al k s M fe us).M x
    · exact (give_in hn k s M fe us).2 x (by rw [← h1]; exact h)
    · exact .inl (ask_in h1)
  · rw [if_neg hc] at h
    exact (give_in hn k s M fe us).2 x h
end Go.Proofs.Ytmjdnocilbnoaaa

/- Pages as a whole: loaded, stored; the call look of layer 2. -/
namespace Go.Proofs.Ytmjdnocilbnoaaa
open Go.RowKit Go.Maps
set_option linter.unusedVariables false
theorem size81 : (Try.prog.info? 93).map (·.size) = some 4096 := by kernel_rfl
theorem pageRow_list (f : Nat → Nat) : (pageRow f).toList = rowK .u8 f 4096 := by simp [pageRow]
theorem pageRow_all (f : Nat → Nat) : ∀ v ∈ (pageRow f).toList, v.oneCell' = true := by rw [pageRow_list]; exact rowK_one _ _ _
theorem run_load81 {w : World} {b : Nat} {f : Nat → Nat} (hb : w.heap[b]? = some (.cells (pageRow f) 93 (0, 0))) : (Instr.loadAt 93 (.pointer (some ⟨b, 0, none⟩))).run Try.prog w = .ok (.agg (pageRow f)) w := by
  have h := run_loadAt_mid (P := Try.prog) w b 0 93 (rowK .u8 f 4096) _ (fun j v hv => ?_) Try.underlying93 rfl (by rw [rowK_length]; exact size81)
  · rw [h, pageRow]
  · obtain ⟨hj, rfl⟩ := rowK_at _ _ _ _ _ hv
    simp only [World.cell?, hb]
    rw [Nat.zero_add]
    exact pageRow_get f j hj
theorem run_store81 {w : World} {g : Nat} {cur : Array Value} (f : Nat → Nat) (hg : w.heap[g]? = some (.cells cur 93 (0, 0))) (hs : cur.size = 4096) : (Instr.storeAt 93 (.pointer (some ⟨g, 0, none⟩)) (.agg (pageRow f))).run Try.prog w = .ok () (w.setRow g (pageRow f)) := by
  have hst := run_storeCells_at Try.prog g 0 93 (pageRow f).toList 0 cur w hg (by rw [pageRow_list, rowK_length]; omega) (pageRow_all f)
  have e : (cur.toList.take (0 + 0) ++ (pageRow f).toList ++ cur.toList.drop (0 + 0 + (pageRow f).toList.length)).toArray = pageRow f := by
    rw [pageRow_list, rowK_length, List.take_zero, List.nil_append, List.drop_eq_nil_of_le (by simp; omega), List.append_nil]
    rfl
  rw [e] at hst
  cases hq : Try.prog.info? 93 with
  | none => have := size81; simp [hq] at this
  | some i =>
    have hi : i.size = 4096 := by have := size81; simpa [hq] using this
    have hne : ¬ (pageRow f).size ≠ 4096 := by rw [pageRow_size]; simp
    simp only [Instr.storeAt, Instr.sureAddr, Sem.run_bind, Sem.run_pure, Result.andThen_ok, storeVar, sizeOf, typeInfo, Value.cells, run_program, hq, hi, hne, if_false, hst]
section
variable {w : World} {ops : Array Oper} {rest : List Oper} {o : Oper} {a : Act} {Q : Exit → Act → World → Prop}
theorem wpList_load81 (hg : o.guard = none) (x : Operand) (hop : o.op = Op.load 93 x) (b : Nat) (f : Nat → Nat) (hx : a.eval x = .pointer (some ⟨b, 0, none⟩)) (hb : w.heap[b]? = some (.cells (pageRow f) 93 (0, 0))) (h : wpList Try.prog ops Q rest (a.put o.dst (.agg (pageRow f))) w) : wpList Try.prog ops Q (o :: rest) a w := by
  refine wpList_plain hg fun K hK => ?_
  unfold Oper.wp
  simp [execOp, hop, hx, run_load81 hb, Result.andThen]
  exact hK _ _ h
theorem wpList_store81 (hg : o.guard = none) (p x : Operand) (hop : o.op = Op.store 93 p x) (g : Nat) (f : Nat → Nat) (cur : Array Value) (hp : a.eval p = .pointer (some ⟨g, 0, none⟩)) (hx : a.eval x = .agg (pageRow f)) (hgg : w.heap[g]? = some (.cells cur 93 (0, 0))) (hs : cur.size = 4096) (h : wpList Try.prog ops Q rest (a.put o.dst undef) (w.setRow g (pageRow f))) : wpList Try.prog ops Q (o :: rest) a w := by
  refine wpList_plain hg fun K hK => ?_
  unfold Oper.wp
  simp [execOp, hop, hp, hx, run_store81 f hgg hs, Result.andThen]
  exact hK _ _ h
end
theorem look_any {w : World} {F : Nat → Prop} {rb size n : Nat} {lg : Value} {M : Nat → Nat} (h : RamAt w F rb size n lg M) (k : Nat) (hk : k < 18446744073709551616) :
    Calls Try.prog 40 #[.pointer (some ⟨rb, 0, none⟩), .int .u64 (k : Nat)] w fun e w' => ∃ b, e = .returned (.pointer (some ⟨b, 0, none⟩)) ∧ w'.heap[b]? = some (.cells (pageRow (fun i => M (k * 4096 + i))) 93 (0, 0)) ∧ Below w.heap.size w w' := by
  obtain ⟨bm, pg, D, h⟩ := h
  have hlk := pages_look h.2.1 h.2.2.1 k hk
  have hc1 := h.cell1
  cases hp : pg k with
  | some b =>
    rw [hp, ptrOf_some] at hlk
    have X : Hid _ := h.2.2.2.1 k b hp
    clear h hp
    go_enter Try.func40, Try.ntmps40
    go_wp2_with (first | (at_lookup; refine wpList_lookup_run rfl _ _ 87 rfl rfl rfl hlk ?_))
    go_ret
    exact ⟨b, rfl, X.out, Below.refl _ _⟩
  | none =>
    rw [hp, ptrOf_none] at hlk
    have X : Hid _ := h.2.2.2.2.1 k hp
    clear h hp
    go_enter Try.func40, Try.ntmps40
    go_wp2_with (first | (at_lookup; refine wpList_lookup_run rfl _ _ 87 rfl rfl rfl hlk ?_) | (refine wpList_alloc81 rfl rfl ?_))
    go_ret
    refine ⟨w.heap.size, rfl, ?_, (Below.refl _ _).alloc (Nat.le_refl _) _⟩
    rw [heap_alloc_new, zeroPage_row, pageRow_congr _ _ (fun i hi => (X.out i hi).symm)]
end Go.Proofs.Ytmjdnocilbnoaaa
