/- Texts put together. -/
import Derived.Test.YtmjdnocilbnoaaaGreatZi
import Derived.Test.YtmjdnocilbnoaaaGreatZb
import Derived.Test.YtmjdnocilbnoaaaGreatZj
import Derived.Deep.AppendLies
import Derived.Deep.RegionHeldLaw
import Derived.Deep.Upon
import Derived.Deep.DeepCutAuto
/- The document's Ask and Tells. -/
namespace Go.Proofs.YtmjdnocilbnoaaaGreat
open Go.RowKit Go.Maps
set_option linter.unusedVariables false
set_option linter.unusedSimpArgs false
set_option maxRecDepth 100000
theorem two_inB (w : World) (o1 o2 : Obj) : (((w.alloc o1).alloc o2).heap[w.heap.size]? = some o1 ∧ Below w.heap.size w ((w.alloc o1).alloc o2)) ∧ ((w.alloc o1).alloc o2).heap[w.heap.size + 1]? = some o2 := ⟨⟨(two_in w o1 o2).1, ((Below.refl _ _).alloc (Nat.le_refl _) _).alloc (by simp) _⟩, (two_in w o1 o2).2⟩
theorem mod2_facts (f : Nat) : ∃ p : Nat, f % 2 = p ∧ (f : Int).tmod 2 = (p : Int) ∧ ((p : Int) == 0) = decide (f % 2 = 0) := by
  refine ⟨f % 2, rfl, by rw [Int.tmod_eq_emod_of_nonneg (by omega)]; rfl, ?_⟩
  rcases Nat.mod_two_eq_zero_or_one f with h | h <;> rw [h] <;> rfl

theorem dask_yes {F : Nat → Prop} {w : World} {va : Option Addr} {nn vc : Nat} {bs : Nat → Nat × Nat} {M : Nat → Nat} (href : RefIn F w (.slice va nn vc) nn bs) (hgt : ∀ q, rget bs nn q = M q) (hle : ∀ a, M a ≤ 255) (hnn : nn ≤ 900000) (hF : ∀ k, F k → k < w.heap.size) (hrg : Rng bs nn 8192) {n D A U : Nat} {rd al : Bool} {fe us : Nat} (hg : Gd n D A U) (hfe : fe ≤ 65535) : Calls Tryz.prog 26 #[.agg #[.int .u64 8192, .slice va nn vc], .agg #[.int .i64 (n : Int), .int .u64 (D : Int), .int .u64 (A : Int), .int .u64 (U : Int), .bool rd, .int .i64 (fe : Int), .int .i64 (us : Int), .bool true, .bool al]] w fun r w' => ∃ a' n' c' bs', r = .returned (.agg #[.int .u64 8192, .slice a' n' c']) ∧ n' ≤ nn + 2 ∧ RefIn F w' (.slice a' n' c') n' bs' ∧ (∀ q, rget bs' n' q = askM M n U fe true q) ∧ Rng bs' n' 8192 ∧ Below w.heap.size w w' := by
  have h3 := three_in w (.cells #[.int .u64 8192, .slice va nn vc] 33) (.cells #[.int .i64 (n : Int), .int .u64 (D : Int), .int .u64 (A : Int), .int .u64 (U : Int), .bool rd, .int .i64 (fe : Int), .int .i64 (us : Int), .bool true, .bool al] 27) (.cells #[.int .u64 0, .slice none 0 0] 33)
  have XB : Hid ((Below w.heap.size w (((w.alloc (.cells #[.int .u64 8192, .slice va nn vc] 33)).alloc (.cells #[.int .i64 (n : Int), .int .u64 (D : Int), .int .u64 (A : Int), .int .u64 (U : Int), .bool rd, .int .i64 (fe : Int), .int .i64 (us : Int), .bool true, .bool al] 27)).alloc (.cells #[.int .u64 0, .slice none 0 0] 33)) ∧ (((w.alloc (.cells #[.int .u64 8192, .slice va nn vc] 33)).alloc (.cells #[.int .i64 (n : Int), .int .u64 (D : Int), .int .u64 (A : Int), .int .u64 (U : Int), .bool rd, .int .i64 (fe : Int), .int .i64 (us : Int), .bool true, .bool al] 27)).alloc (.cells #[.int .u64 0, .slice none 0 0] 33)).heap[w.heap.size]? = some (.cells #[.int .u64 8192, .slice va nn vc] 33 (0, 0)) ∧ (((w.alloc (.cells #[.int .u64 8192, .slice va nn vc] 33)).alloc (.cells #[.int .i64 (n : Int), .int .u64 (D : Int), .int .u64 (A : Int), .int .u64 (U : Int), .bool rd, .int .i64 (fe : Int), .int .i64 (us : Int), .bool true, .bool al] 27)).alloc (.cells #[.int .u64 0, .slice none 0 0] 33)).heap[w.heap.size + 1]? = some (.cells #[.int .i64 (n : Int), .int .u64 (D : Int), .int .u64 (A : Int), .int .u64 (U : Int), .bool rd, .int .i64 (fe : Int), .int .i64 (us : Int), .bool true, .bool al] 27 (0, 0)) ∧ (((w.alloc (.cells #[.int .u64 8192, .slice va nn vc] 33)).alloc (.cells #[.int .i64 (n : Int), .int .u64 (D : Int), .int .u64 (A : Int), .int .u64 (U : Int), .bool rd, .int .i64 (fe : Int), .int .i64 (us : Int), .bool true, .bool al] 27)).alloc (.cells #[.int .u64 0, .slice none 0 0] 33)).heap[w.heap.size + 2]? = some (.cells #[.int .u64 0, .slice none 0 0] 33 (0, 0)))) := ⟨h3.2.2.2, h3.1, h3.2.1, h3.2.2.1⟩
  have HC : Hid (Gd n D A U ∧ RefIn F w (.slice va nn vc) nn bs ∧ (∀ q, rget bs nn q = M q) ∧ (∀ a, M a ≤ 255) ∧ nn ≤ 900000 ∧ (∀ k, F k → k < w.heap.size) ∧ Rng bs nn 8192 ∧ fe ≤ 65535) := ⟨hg, href, hgt, hle, hnn, hF, hrg, hfe⟩
  clear h3 href hgt hle hnn hF hrg hg hfe
  go_enter Tryz.func26, Tryz.ntmps26
  go_upto_region 1 with fail
  generalize ((w.alloc (.cells #[.int .u64 8192, .slice va nn vc] 33)).alloc (.cells #[.int .i64 (n : Int), .int .u64 (D : Int), .int .u64 (A : Int), .int .u64 (U : Int), .bool rd, .int .i64 (fe : Int), .int .i64 (us : Int), .bool true, .bool al] 27)).alloc (.cells #[.int .u64 0, .slice none 0 0] 33) = v0 at *
  obtain ⟨c0, c1, c2, c3, c4, c5, c6, c7, c8⟩ := box9_facts XB.out.2.2.1
  obtain ⟨r0, r1, _, _⟩ := box_facts XB.out.2.1
  go_upto_region 2 with fail
  refine wp_region_list ?_
  (refine wpList_step (fun KK hKK => ?_); go_simp; refine hKK _ _ ?_; clear hKK KK)
  (refine wpList_step (fun KK hKK => ?_); go_simp; refine hKK _ _ ?_; clear hKK KK)
  (refine wpList_step (fun KK hKK => ?_); go_simp; refine hKK _ _ ?_; clear hKK KK)
  (refine wpList_step (fun KK hKK => ?_); go_simp; refine hKK _ _ ?_; clear hKK KK)
  (refine wpList_step (fun KK hKK => ?_); go_simp; refine hKK _ _ ?_; clear hKK KK)
  refine wpList_step (fun KK hKK => ?_)
  go_simp
  refine (rwant_any (HC.out.2.1.below XB.out.1) HC.out.2.2.1 HC.out.2.2.2.1 (by have := HC.out.2.2.2.2.1; omega) (fun k hk => Nat.lt_of_lt_of_le (HC.out.2.2.2.2.2.1 k hk) XB.out.1.size) HC.out.2.2.2.2.2.2.1 HC.out.1 fe HC.out.2.2.2.2.2.2.2).mono ?_
  rintro e w1 ⟨xa, xn, xc, xs, rfl, hn1, hr1, hg1, hrg1, hb1⟩
  have X1 : Hid (Below w.heap.size w w1 ∧ w1.heap[w.heap.size + 2]? = some (.cells #[.int .u64 0, .slice none 0 0] 33 (0, 0)) ∧ xn ≤ nn + 2 ∧ RefIn F w1 (.slice xa xn xc) xn xs ∧ (∀ a, rget xs xn a = askM M n U fe true a) ∧ Rng xs xn 8192) := ⟨below_to XB.out.1 hb1, below_box XB.out.2.2.2 hb1, hn1, hr1, hg1, hrg1⟩
  clear hn1 hr1 hg1 hrg1 hb1 XB c0 c1 c2 c3 c4 c5 c6 c7 c8 r0 r1
  refine hKK _ _ ?_
  clear hKK KK
  refine wpList_store_row rfl 33 _ _ rfl (w.heap.size + 2) #[.int .u64 8192, .slice xa xn xc] rfl rfl 33 #[.int .u64 0, .slice none 0 0] X1.out.2.1 infoDR rfl (by simp [Value.oneCell']) ?_
  have X9 : Hid ((w1.setRow (w.heap.size + 2) #[.int .u64 8192, .slice xa xn xc]).heap[w.heap.size + 2]? = some (.cells #[.int .u64 8192, .slice xa xn xc] 33 (0, 0)) ∧ Below w.heap.size w (w1.setRow (w.heap.size + 2) #[.int .u64 8192, .slice xa xn xc]) ∧ RefIn F (w1.setRow (w.heap.size + 2) #[.int .u64 8192, .slice xa xn xc]) (.slice xa xn xc) xn xs) := ⟨setRow_heap _ _ _ _ _ _ X1.out.2.1, below_setRow X1.out.1 (by omega) _, X1.out.2.2.2.1.setRow (fun z hz h0 => ref_ne X1.out.2.2.2.1 X1.out.2.1 _ rfl not_byte_slice hz h0)⟩
  have HX : Hid (xn ≤ nn + 2 ∧ (∀ a, rget xs xn a = askM M n U fe true a) ∧ Rng xs xn 8192) := ⟨X1.out.2.2.1, X1.out.2.2.2.2⟩
  clear X1
  generalize w1.setRow (w.heap.size + 2) #[.int .u64 8192, .slice xa xn xc] = w9 at *
  obtain ⟨m0, m1, _, _⟩ := box_facts X9.out.1
  go_wp2_with fail
  refine bodyPost_ret (v := .agg #[.int .u64 8192, .slice xa xn xc]) (by simp [results, Tryz.results26, go_sem, m0, m1]) rfl ?_
  exact ⟨xa, xn, xc, xs, rfl, HX.out.1, X9.out.2.2, HX.out.2.1, HX.out.2.2, X9.out.2.1⟩
theorem dask_no {F : Nat → Prop} {w : World} {va : Option Addr} {nn vc : Nat} {bs : Nat → Nat × Nat} {M : Nat → Nat} (href : RefIn F w (.slice va nn vc) nn bs) (hgt : ∀ q, rget bs nn q = M q) (hle : ∀ a, M a ≤ 255) (hnn : nn ≤ 900000) (hrg : Rng bs nn 8192) {n D A U : Nat} {rd al : Bool} {fe us : Nat} : Calls Tryz.prog 26 #[.agg #[.int .u64 8192, .slice va nn vc], .agg #[.int .i64 (n : Int), .int .u64 (D : Int), .int .u64 (A : Int), .int .u64 (U : Int), .bool rd, .int .i64 (fe : Int), .int .i64 (us : Int), .bool false, .bool al]] w fun r w' => ∃ a' n' c' bs', r = .returned (.agg #[.int .u64 8192, .slice a' n' c']) ∧ n' ≤ nn + 2 ∧ RefIn F w' (.slice a' n' c') n' bs' ∧ (∀ q, rget bs' n' q = askM M n U fe false q) ∧ Rng bs' n' 8192 ∧ Below w.heap.size w w' := by
  have h3 := three_in w (.cells #[.int .u64 8192, .slice va nn vc] 33) (.cells #[.int .i64 (n : Int), .int .u64 (D : Int), .int .u64 (A : Int), .int .u64 (U : Int), .bool rd, .int .i64 (fe : Int), .int .i64 (us : Int), .bool false, .bool al] 27) (.cells #[.int .u64 0, .slice none 0 0] 33)
  have XB : Hid ((Below w.heap.size w (((w.alloc (.cells #[.int .u64 8192, .slice va nn vc] 33)).alloc (.cells #[.int .i64 (n : Int), .int .u64 (D : Int), .int .u64 (A : Int), .int .u64 (U : Int), .bool rd, .int .i64 (fe : Int), .int .i64 (us : Int), .bool false, .bool al] 27)).alloc (.cells #[.int .u64 0, .slice none 0 0] 33)) ∧ (((w.alloc (.cells #[.int .u64 8192, .slice va nn vc] 33)).alloc (.cells #[.int .i64 (n : Int), .int .u64 (D : Int), .int .u64 (A : Int), .int .u64 (U : Int), .bool rd, .int .i64 (fe : Int), .int .i64 (us : Int), .bool false, .bool al] 27)).alloc (.cells #[.int .u64 0, .slice none 0 0] 33)).heap[w.heap.size]? = some (.cells #[.int .u64 8192, .slice va nn vc] 33 (0, 0)) ∧ (((w.alloc (.cells #[.int .u64 8192, .slice va nn vc] 33)).alloc (.cells #[.int .i64 (n : Int), .int .u64 (D : Int), .int .u64 (A : Int), .int .u64 (U : Int), .bool rd, .int .i64 (fe : Int), .int .i64 (us : Int), .bool false, .bool al] 27)).alloc (.cells #[.int .u64 0, .slice none 0 0] 33)).heap[w.heap.size + 1]? = some (.cells #[.int .i64 (n : Int), .int .u64 (D : Int), .int .u64 (A : Int), .int .u64 (U : Int), .bool rd, .int .i64 (fe : Int), .int .i64 (us : Int), .bool false, .bool al] 27 (0, 0)) ∧ (((w.alloc (.cells #[.int .u64 8192, .slice va nn vc] 33)).alloc (.cells #[.int .i64 (n : Int), .int .u64 (D : Int), .int .u64 (A : Int), .int .u64 (U : Int), .bool rd, .int .i64 (fe : Int), .int .i64 (us : Int), .bool false, .bool al] 27)).alloc (.cells #[.int .u64 0, .slice none 0 0] 33)).heap[w.heap.size + 2]? = some (.cells #[.int .u64 0, .slice none 0 0] 33 (0, 0)))) := ⟨h3.2.2.2, h3.1, h3.2.1, h3.2.2.1⟩
  have HC : Hid (RefIn F w (.slice va nn vc) nn bs ∧ (∀ q, rget bs nn q = M q) ∧ Rng bs nn 8192) := ⟨href, hgt, hrg⟩
  clear h3 href hgt hle hnn hrg
  go_enter Tryz.func26, Tryz.ntmps26
  go_upto_region 1 with fail
  generalize ((w.alloc (.cells #[.int .u64 8192, .slice va nn vc] 33)).alloc (.cells #[.int .i64 (n : Int), .int .u64 (D : Int), .int .u64 (A : Int), .int .u64 (U : Int), .bool rd, .int .i64 (fe : Int), .int .i64 (us : Int), .bool false, .bool al] 27)).alloc (.cells #[.int .u64 0, .slice none 0 0] 33) = v0 at *
  obtain ⟨c0, c1, c2, c3, c4, c5, c6, c7, c8⟩ := box9_facts XB.out.2.2.1
  obtain ⟨r0, r1, _, _⟩ := box_facts XB.out.2.1
  go_upto_region 3 with fail
  refine wp_region_list ?_
  (refine wpList_step (fun KK hKK => ?_); go_simp; refine hKK _ _ ?_; clear hKK KK)
  refine wpList_store_row rfl 33 _ _ rfl (w.heap.size + 2) #[.int .u64 8192, .slice va nn vc] rfl rfl 33 #[.int .u64 0, .slice none 0 0] XB.out.2.2.2 infoDR rfl (by simp [Value.oneCell']) ?_
  have X9 : Hid ((v0.setRow (w.heap.size + 2) #[.int .u64 8192, .slice va nn vc]).heap[w.heap.size + 2]? = some (.cells #[.int .u64 8192, .slice va nn vc] 33 (0, 0)) ∧ Below w.heap.size w (v0.setRow (w.heap.size + 2) #[.int .u64 8192, .slice va nn vc]) ∧ RefIn F (v0.setRow (w.heap.size + 2) #[.int .u64 8192, .slice va nn vc]) (.slice va nn vc) nn bs) := ⟨setRow_heap _ _ _ _ _ _ XB.out.2.2.2, below_setRow XB.out.1 (by omega) _, (HC.out.1.below XB.out.1).setRow (fun z hz h0 => ref_ne (HC.out.1.below XB.out.1) XB.out.2.2.2 _ rfl not_byte_slice hz h0)⟩
  clear XB c0 c1 c2 c3 c4 c5 c6 c7 c8 r0 r1
  generalize v0.setRow (w.heap.size + 2) #[.int .u64 8192, .slice va nn vc] = w9 at *
  obtain ⟨m0, m1, _, _⟩ := box_facts X9.out.1
  go_wp2_with fail
  refine bodyPost_ret (v := .agg #[.int .u64 8192, .slice va nn vc]) (by simp [results, Tryz.results26, go_sem, m0, m1]) rfl ?_
  exact ⟨va, nn, vc, bs, rfl, by omega, X9.out.2.2, HC.out.2.1, HC.out.2.2, X9.out.2.1⟩

theorem dtells_any {F : Nat → Prop} {w : World} {va : Option Addr} {nn vc : Nat} {bs : Nat → Nat × Nat} {M : Nat → Nat} (href : RefIn F w (.slice va nn vc) nn bs) (hgt : ∀ q, rget bs nn q = M q) (hle : ∀ a, M a ≤ 255) (hnn : nn ≤ 900000) {n D A U : Nat} {rd ev al : Bool} {fe us : Nat} (hg : Gd n D A U) (fr : Nat) (hfr : fr ≤ 65535) (hus : us ≤ 65535) : Calls Tryz.prog 24 #[.agg #[.int .u64 8192, .slice va nn vc], .agg #[.int .i64 (n : Int), .int .u64 (D : Int), .int .u64 (A : Int), .int .u64 (U : Int), .bool rd, .int .i64 (fe : Int), .int .i64 (us : Int), .bool ev, .bool al], .int .i64 (fr : Int)] w fun r w' => r = .returned (.bool (tellB M n A us fr ev)) ∧ Below w.heap.size w w' := by
  have h2 := two_inB w (.cells #[.int .u64 8192, .slice va nn vc] 33) (.cells #[.int .i64 (n : Int), .int .u64 (D : Int), .int .u64 (A : Int), .int .u64 (U : Int), .bool rd, .int .i64 (fe : Int), .int .i64 (us : Int), .bool ev, .bool al] 27)
  have XB : Hid ((Below w.heap.size w ((w.alloc (.cells #[.int .u64 8192, .slice va nn vc] 33)).alloc (.cells #[.int .i64 (n : Int), .int .u64 (D : Int), .int .u64 (A : Int), .int .u64 (U : Int), .bool rd, .int .i64 (fe : Int), .int .i64 (us : Int), .bool ev, .bool al] 27)) ∧ ((w.alloc (.cells #[.int .u64 8192, .slice va nn vc] 33)).alloc (.cells #[.int .i64 (n : Int), .int .u64 (D : Int), .int .u64 (A : Int), .int .u64 (U : Int), .bool rd, .int .i64 (fe : Int), .int .i64 (us : Int), .bool ev, .bool al] 27)).heap[w.heap.size]? = some (.cells #[.int .u64 8192, .slice va nn vc] 33 (0, 0)) ∧ ((w.alloc (.cells #[.int .u64 8192, .slice va nn vc] 33)).alloc (.cells #[.int .i64 (n : Int), .int .u64 (D : Int), .int .u64 (A : Int), .int .u64 (U : Int), .bool rd, .int .i64 (fe : Int), .int .i64 (us : Int), .bool ev, .bool al] 27)).heap[w.heap.size + 1]? = some (.cells #[.int .i64 (n : Int), .int .u64 (D : Int), .int .u64 (A : Int), .int .u64 (U : Int), .bool rd, .int .i64 (fe : Int), .int .i64 (us : Int), .bool ev, .bool al] 27 (0, 0)))) := ⟨h2.1.2, h2.1.1, h2.2⟩
  have HC : Hid (Gd n D A U ∧ RefIn F w (.slice va nn vc) nn bs ∧ (∀ q, rget bs nn q = M q) ∧ (∀ a, M a ≤ 255) ∧ nn ≤ 900000 ∧ fr ≤ 65535 ∧ us ≤ 65535) := ⟨hg, href, hgt, hle, hnn, hfr, hus⟩
  obtain ⟨r, hrr⟩ : ∃ r, tellB M n A us fr ev = r := ⟨_, rfl⟩
  rw [hrr]
  by_cases h1 : fr = us
  · have e1 : ((fr : Int) == (us : Int)) = true := by simp; omega
    have e2 : r = false := by rw [← hrr]; simp [tellB, h1]
    subst e2
    clear h2 href hgt hle hnn hg hfr hus hrr h1
    go_enter Tryz.func24, Tryz.ntmps24
    go_upto_region 1 with fail
    generalize (w.alloc (.cells #[.int .u64 8192, .slice va nn vc] 33)).alloc (.cells #[.int .i64 (n : Int), .int .u64 (D : Int), .int .u64 (A : Int), .int .u64 (U : Int), .bool rd, .int .i64 (fe : Int), .int .i64 (us : Int), .bool ev, .bool al] 27) = v0 at *
    obtain ⟨c0, c1, c2, c3, c4, c5, c6, c7, c8⟩ := box9_facts XB.out.2.2
    go_wp2_with fail
    go_ret
    exact ⟨rfl, XB.out.1⟩
  have e1 : ((fr : Int) == (us : Int)) = false := by simp; omega
  cases ev with
  | true =>
    have HT0 : pastB (wordN M (A + 4 + 2 * n) 2 8192) fr us = r := by rw [← hrr]; simp [tellB, h1]
    have HT : Hid (pastB (wordN M (A + 4 + 2 * n) 2 8192) fr us = r) := HT0
    clear h2 href hgt hle hnn hg hfr hus hrr h1 HT0
    go_enter Tryz.func24, Tryz.ntmps24
    go_upto_region 1 with fail
    generalize (w.alloc (.cells #[.int .u64 8192, .slice va nn vc] 33)).alloc (.cells #[.int .i64 (n : Int), .int .u64 (D : Int), .int .u64 (A : Int), .int .u64 (U : Int), .bool rd, .int .i64 (fe : Int), .int .i64 (us : Int), .bool true, .bool al] 27) = v0 at *
    obtain ⟨c0, c1, c2, c3, c4, c5, c6, c7, c8⟩ := box9_facts XB.out.2.2
    obtain ⟨r0, r1, _, _⟩ := box_facts XB.out.2.1
    go_upto_region 4 with fail
    have X2 : Hid ((Below w.heap.size w v0.drew ∧ v0.drew.heap[w.heap.size]? = some (.cells #[.int .u64 8192, .slice va nn vc] 33 (0, 0)) ∧ v0.drew.heap[w.heap.size + 1]? = some (.cells #[.int .i64 (n : Int), .int .u64 (D : Int), .int .u64 (A : Int), .int .u64 (U : Int), .bool rd, .int .i64 (fe : Int), .int .i64 (us : Int), .bool true, .bool al] 27 (0, 0)))) := ⟨XB.out.1.drew, XB.out.2.1, XB.out.2.2⟩
    go_region_held3 (fun Z => Z.cell? ⟨w.heap.size + 1, 0, none⟩ = some (.int .i64 (n : Int)) ∧ Z.cell? ⟨w.heap.size + 1, 1, none⟩ = some (.int .u64 (D : Int)) ∧ Z.cell? ⟨w.heap.size + 1, 2, none⟩ = some (.int .u64 (A : Int)) ∧ Z.cell? ⟨w.heap.size + 1, 3, none⟩ = some (.int .u64 (U : Int)) ∧ Z.cell? ⟨w.heap.size + 1, 4, none⟩ = some (.bool rd) ∧ Z.cell? ⟨w.heap.size + 1, 5, none⟩ = some (.int .i64 (fe : Int)) ∧ Z.cell? ⟨w.heap.size + 1, 6, none⟩ = some (.int .i64 (us : Int)) ∧ Z.cell? ⟨w.heap.size + 1, 7, none⟩ = some (.bool true) ∧ Z.cell? ⟨w.heap.size + 1, 8, none⟩ = some (.bool al) ∧ Z.cell? ⟨w.heap.size, 0, none⟩ = some (.int .u64 8192) ∧ Z.cell? ⟨w.heap.size, 1, none⟩ = some (.slice va nn vc)) (go_keep) (first | (go_at_call 62; refine (rwanted_any (HC.out.2.1.below X2.out.1) HC.out.2.2.1 HC.out.2.2.2.1 (by have := HC.out.2.2.2.2.1; omega) HC.out.1).mono ?_; rintro e w2 ⟨rfl, hb2⟩; have X3 : Hid ((Below w.heap.size w w2 ∧ w2.heap[w.heap.size]? = some (.cells #[.int .u64 8192, .slice va nn vc] 33 (0, 0)) ∧ w2.heap[w.heap.size + 1]? = some (.cells #[.int .i64 (n : Int), .int .u64 (D : Int), .int .u64 (A : Int), .int .u64 (U : Int), .bool rd, .int .i64 (fe : Int), .int .i64 (us : Int), .bool true, .bool al] 27 (0, 0)))) := ⟨below_to X2.out.1 hb2, below_box X2.out.2.1 hb2, below_box X2.out.2.2 hb2⟩; clear hb2; obtain ⟨d0, d1, d2, d3, d4, d5, d6, d7, d8⟩ := box9_facts X3.out.2.2; obtain ⟨s0, s1, _, _⟩ := box_facts X3.out.2.1) | (go_at_call 61; refine (rpassed_any _ _ _ (rd_lt HC.out.2.2.2.1 _) HC.out.2.2.2.2.2.1 HC.out.2.2.2.2.2.2 _).mono ?_; rintro e w3 ⟨rfl, q3, rfl⟩; rw [HT.out]; have X4 : Hid ((Below w.heap.size w (w2.drewN q3) ∧ (w2.drewN q3).heap[w.heap.size]? = some (.cells #[.int .u64 8192, .slice va nn vc] 33 (0, 0)) ∧ (w2.drewN q3).heap[w.heap.size + 1]? = some (.cells #[.int .i64 (n : Int), .int .u64 (D : Int), .int .u64 (A : Int), .int .u64 (U : Int), .bool rd, .int .i64 (fe : Int), .int .i64 (us : Int), .bool true, .bool al] 27 (0, 0)))) := ⟨below_drewN X3.out.1 q3, X3.out.2.1, X3.out.2.2⟩; obtain ⟨g0, g1, g2, g3, g4, g5, g6, g7, g8⟩ := box9_facts X4.out.2.2; obtain ⟨t0, t1, _, _⟩ := box_facts X4.out.2.1))
    go_wp2_with fail
    go_ret
    exact ⟨rfl, X4.out.1⟩
  | false =>
    obtain ⟨f, hf⟩ : ∃ f, wordN M A 2 8192 = f := ⟨_, rfl⟩
    obtain ⟨p, hp, e2, e3⟩ := mod2_facts f
    have e4 : ((p : Int) == 0) = r := by
      rw [← hrr]; unfold tellB; rw [if_neg h1, if_neg (by decide), hf]
      exact e3
    have HF : Hid (wordN M A 2 8192 = f) := hf
    clear h2 href hgt hle hnn hg hfr hus hrr h1 hf hp e3
    go_enter Tryz.func24, Tryz.ntmps24
    go_upto_region 1 with fail
    generalize (w.alloc (.cells #[.int .u64 8192, .slice va nn vc] 33)).alloc (.cells #[.int .i64 (n : Int), .int .u64 (D : Int), .int .u64 (A : Int), .int .u64 (U : Int), .bool rd, .int .i64 (fe : Int), .int .i64 (us : Int), .bool false, .bool al] 27) = v0 at *
    obtain ⟨c0, c1, c2, c3, c4, c5, c6, c7, c8⟩ := box9_facts XB.out.2.2
    obtain ⟨r0, r1, _, _⟩ := box_facts XB.out.2.1
    go_wp2_with (go_at_call 63; refine (rflags_any (HC.out.2.1.below XB.out.1) HC.out.2.2.1 HC.out.2.2.2.1 (by have := HC.out.2.2.2.2.1; omega) HC.out.1).mono ?_; rintro e w2 ⟨rfl, hb2⟩; rw [HF.out]; have X3 : Hid (Below w.heap.size w w2) := below_to XB.out.1 hb2; clear hb2)
    go_ret
    exact ⟨rfl, X3.out⟩
end Go.Proofs.YtmjdnocilbnoaaaGreat

/- The document's Return. -/
namespace Go.Proofs.YtmjdnocilbnoaaaGreat
open Go.RowKit Go.Maps
set_option linter.unusedVariables false
set_option linter.unusedSimpArgs false
set_option maxRecDepth 100000
theorem over_byte {M : Nat → Nat} (hM : ∀ a, M a ≤ 255) (x L : Nat) {f : Nat → Nat} (hf : ∀ i, i < L → f i ≤ 255) : ∀ a, over M x L f a ≤ 255 := by
  intro a
  unfold over
  split
  · exact hf _ (by omega)
  · exact hM a
theorem eB_le (d c : Nat) : ∀ i, i < 8 → eB d c i ≤ 255 := fun i _ => by unfold eB catF; split <;> exact byteAt_le _ _
set_option maxHeartbeats 4000000 in
theorem dreturn_any {F : Nat → Prop} {w : World} {va : Option Addr} {nn vc : Nat} {bs : Nat → Nat × Nat} {M : Nat → Nat} (href : RefIn F w (.slice va nn vc) nn bs) (hgt : ∀ q, rget bs nn q = M q) (hle : ∀ a, M a ≤ 255) (hnn : nn ≤ 900000) (hF : ∀ k, F k → k < w.heap.size) (hrg : Rng bs nn 8192) {n D A U : Nat} {rd ev al : Bool} {fe us : Nat} (hg : Gd n D A U) (hd cn : Nat) (hus : us ≤ 65535) (hhd : hd ≤ 65535) (hcn : cn ≤ 4294967295) : Calls Tryz.prog 22 #[.agg #[.int .u64 8192, .slice va nn vc], .agg #[.int .i64 (n : Int), .int .u64 (D : Int), .int .u64 (A : Int), .int .u64 (U : Int), .bool rd, .int .i64 (fe : Int), .int .i64 (us : Int), .bool ev, .bool al], .int .i64 (hd : Int), .int .u32 (cn : Int)] w fun r w' => ∃ a' n' c' bs', r = .returned (.tuple #[.agg #[.int .u64 8192, .slice a' n' c'], .agg #[.int .i64 (n : Int), .int .u64 (D : Int), .int .u64 (A : Int), .int .u64 (U : Int), .bool rd, .int .i64 (fe : Int), .int .i64 (upN us : Int), .bool ev, .bool al]]) ∧ n' ≤ nn + 10 ∧ RefIn F w' (.slice a' n' c') n' bs' ∧ (∀ q, rget bs' n' q = retM M n U us hd cn q) ∧ Rng bs' n' 8192 ∧ Below w.heap.size w w' := by
  have h4 := four_box w (.cells #[.int .u64 8192, .slice va nn vc] 33) (.cells #[.int .i64 (n : Int), .int .u64 (D : Int), .int .u64 (A : Int), .int .u64 (U : Int), .bool rd, .int .i64 (fe : Int), .int .i64 (us : Int), .bool ev, .bool al] 27) (.cells #[.int .u64 0, .slice none 0 0] 33) (.cells #[.int .i64 0, .int .u64 0, .int .u64 0, .int .u64 0, .bool false, .int .i64 0, .int .i64 0, .bool false, .bool false] 27)
  have XB : Hid (Dr w ((((w.alloc (.cells #[.int .u64 8192, .slice va nn vc] 33)).alloc (.cells #[.int .i64 (n : Int), .int .u64 (D : Int), .int .u64 (A : Int), .int .u64 (U : Int), .bool rd, .int .i64 (fe : Int), .int .i64 (us : Int), .bool ev, .bool al] 27)).alloc (.cells #[.int .u64 0, .slice none 0 0] 33)).alloc (.cells #[.int .i64 0, .int .u64 0, .int .u64 0, .int .u64 0, .bool false, .int .i64 0, .int .i64 0, .bool false, .bool false] 27)) F va nn vc bs va nn vc n D A U rd fe us ev al #[.int .u64 0, .slice none 0 0] #[.int .i64 0, .int .u64 0, .int .u64 0, .int .u64 0, .bool false, .int .i64 0, .int .i64 0, .bool false, .bool false]) := ⟨h4.1, h4.2.1, h4.2.2.1, h4.2.2.2.1, h4.2.2.2.2, href.below h4.1⟩
  obtain ⟨u0, u1, hu1, e5, e6, e7⟩ := up_facts hus
  have HC : Hid (Gd n D A U ∧ (∀ q, rget bs nn q = M q) ∧ (∀ a, M a ≤ 255) ∧ nn ≤ 900000 ∧ (∀ k, F k → k < w.heap.size) ∧ Rng bs nn 8192 ∧ us ≤ 65535 ∧ hd ≤ 65535 ∧ cn ≤ 4294967295 ∧ upN us = u1 ∧ u1 ≤ 65535) := ⟨hg, hgt, hle, hnn, hF, hrg, hus, hhd, hcn, hu1, hu1 ▸ up_le us⟩
  rw [hu1]
  clear h4 href hgt hle hnn hF hrg hg hus hhd hcn hu1
  go_enter Tryz.func22, Tryz.ntmps22
  go_upto_region 1 with fail
  generalize (((w.alloc (.cells #[.int .u64 8192, .slice va nn vc] 33)).alloc (.cells #[.int .i64 (n : Int), .int .u64 (D : Int), .int .u64 (A : Int), .int .u64 (U : Int), .bool rd, .int .i64 (fe : Int), .int .i64 (us : Int), .bool ev, .bool al] 27)).alloc (.cells #[.int .u64 0, .slice none 0 0] 33)).alloc (.cells #[.int .i64 0, .int .u64 0, .int .u64 0, .int .u64 0, .bool false, .int .i64 0, .int .i64 0, .bool false, .bool false] 27) = v0 at *
  obtain ⟨c0, c1, c2, c3, c4, c5, c6, c7, c8⟩ := box9_facts XB.out.2.2.1
  obtain ⟨r0, r1, _, _⟩ := box_facts XB.out.2.1
  refine wp_region_list ?_
  (refine wpList_step (fun KK hKK => ?_); go_simp; refine hKK _ _ ?_; clear hKK KK)
  (refine wpList_step (fun KK hKK => ?_); go_simp; refine hKK _ _ ?_; clear hKK KK)
  (refine wpList_step (fun KK hKK => ?_); go_simp; refine hKK _ _ ?_; clear hKK KK)
  (refine wpList_step (fun KK hKK => ?_); go_simp; refine hKK _ _ ?_; clear hKK KK)
  (refine wpList_step (fun KK hKK => ?_); go_simp; refine hKK _ _ ?_; clear hKK KK)
  (refine wpList_step (fun KK hKK => ?_); go_simp; refine hKK _ _ ?_; clear hKK KK)
  (refine wpList_step (fun KK hKK => ?_); go_simp; refine hKK _ _ ?_; clear hKK KK)
  refine wpList_step (fun KK hKK => ?_)
  go_simp
  refine (rput15_any XB.out.2.2.2.2.2 HC.out.2.1 HC.out.2.2.1 (by have := HC.out.2.2.2.1; omega) (fun k hk => Nat.lt_of_lt_of_le (HC.out.2.2.2.2.1 k hk) XB.out.1.size) HC.out.2.2.2.2.2.1 HC.out.1 us (us % n) hd cn HC.out.2.2.2.2.2.2.1 rfl HC.out.2.2.2.2.2.2.2.1 HC.out.2.2.2.2.2.2.2.2.1).mono ?_
  rintro e w1 ⟨xa, xn, xc, xs, rfl, hn1, hr1, hg1, hrg1, hb1⟩
  have X1 : Hid (Dr w w1 F xa xn xc xs va nn vc n D A U rd fe us ev al #[.int .u64 0, .slice none 0 0] #[.int .i64 0, .int .u64 0, .int .u64 0, .int .u64 0, .bool false, .int .i64 0, .int .i64 0, .bool false, .bool false] ∧ xn ≤ nn + 8 ∧ (∀ a, rget xs xn a = (over M (U + 4 + 8 * (us % n)) 8 (eB hd cn)) a) ∧ Rng xs xn 8192) := ⟨⟨below_to XB.out.1 hb1, below_box XB.out.2.1 hb1, below_box XB.out.2.2.1 hb1, below_box XB.out.2.2.2.1 hb1, below_box XB.out.2.2.2.2.1 hb1, hr1⟩, hn1, hg1, hrg1⟩
  clear hn1 hr1 hg1 hrg1 hb1 XB c0 c1 c2 c3 c4 c5 c6 c7 c8 r0 r1
  refine hKK _ _ ?_
  clear hKK KK
  refine wpList_store_row rfl 33 _ _ rfl (w.heap.size) #[.int .u64 8192, .slice xa xn xc] rfl rfl 33 #[.int .u64 8192, .slice va nn vc] X1.out.1.2.1 infoDR rfl (by simp [Value.oneCell']) ?_
  have X2 : Hid (Dr w (w1.setRow (w.heap.size) #[.int .u64 8192, .slice xa xn xc]) F xa xn xc xs xa xn xc n D A U rd fe us ev al #[.int .u64 0, .slice none 0 0] #[.int .i64 0, .int .u64 0, .int .u64 0, .int .u64 0, .bool false, .int .i64 0, .int .i64 0, .bool false, .bool false]) := X1.out.1.set0
  have HX : Hid (xn ≤ nn + 8 ∧ (∀ a, rget xs xn a = (over M (U + 4 + 8 * (us % n)) 8 (eB hd cn)) a) ∧ Rng xs xn 8192) := X1.out.2
  clear X1
  generalize w1.setRow (w.heap.size) #[.int .u64 8192, .slice xa xn xc] = w2 at *
  obtain ⟨c0, c1, c2, c3, c4, c5, c6, c7, c8⟩ := box9_facts X2.out.2.2.1
  have c6f := frozenOf X2.out.2.2.1 6
  go_upto_region 3 with fail
  have X3 : Hid (Dr w (w2.setCell ⟨w.heap.size + 1, 6, none⟩ (.int .i64 (u1 : Int))).drew F xa xn xc xs xa xn xc n D A U rd fe u1 ev al #[.int .u64 0, .slice none 0 0] #[.int .i64 0, .int .u64 0, .int .u64 0, .int .u64 0, .bool false, .int .i64 0, .int .i64 0, .bool false, .bool false]) := (X2.out.one u1).below (Below.drew (Below.refl _ _))
  clear X2 c0 c1 c2 c3 c4 c5 c6 c7 c8 c6f
  refine wp_region_held_drew (S := fun Z => Z.cell? ⟨w.heap.size + 1, 0, none⟩ = some (.int .i64 (n : Int)) ∧ Z.cell? ⟨w.heap.size + 1, 1, none⟩ = some (.int .u64 (D : Int)) ∧ Z.cell? ⟨w.heap.size + 1, 2, none⟩ = some (.int .u64 (A : Int)) ∧ Z.cell? ⟨w.heap.size + 1, 3, none⟩ = some (.int .u64 (U : Int)) ∧ Z.cell? ⟨w.heap.size + 1, 4, none⟩ = some (.bool rd) ∧ Z.cell? ⟨w.heap.size + 1, 5, none⟩ = some (.int .i64 (fe : Int)) ∧ Z.cell? ⟨w.heap.size + 1, 6, none⟩ = some (.int .i64 (u1 : Int)) ∧ Z.cell? ⟨w.heap.size + 1, 7, none⟩ = some (.bool ev) ∧ Z.cell? ⟨w.heap.size + 1, 8, none⟩ = some (.bool al) ∧ Z.cell? ⟨w.heap.size, 0, none⟩ = some (.int .u64 8192) ∧ Z.cell? ⟨w.heap.size, 1, none⟩ = some (.slice xa xn xc)) (by kernel_rfl) ⟨cellOf X3.out.2.2.1 0 _ rfl, cellOf X3.out.2.2.1 1 _ rfl, cellOf X3.out.2.2.1 2 _ rfl, cellOf X3.out.2.2.1 3 _ rfl, cellOf X3.out.2.2.1 4 _ rfl, cellOf X3.out.2.2.1 5 _ rfl, cellOf X3.out.2.2.1 6 _ rfl, cellOf X3.out.2.2.1 7 _ rfl, cellOf X3.out.2.2.1 8 _ rfl, cellOf X3.out.2.1 0 _ rfl, cellOf X3.out.2.1 1 _ rfl⟩ ?_
  intro hS
  generalize (w2.setCell ⟨w.heap.size + 1, 6, none⟩ (.int .i64 (u1 : Int))).drew = wd at *
  refine wpAnyH_take (i := 0) (v := ?_) rfl (by kernel_rfl) (by kernel_rfl) (by kernel_rfl) (fun _ _ _ h => h) (Or.inl ⟨by kernel_rfl, ?_⟩) hS ?_
  rotate_left
  · intro w hSw; (try dsimp only at hSw); go_simp; try (with_reducible rfl)
  (try simp only [Act.put, List.getElem_toArray, List.getElem_cons_succ, List.getElem_cons_zero, List.setIfInBounds_toArray, List.set_cons_zero, List.set_cons_succ])
  refine wpAnyH_take (i := 1) (v := ?_) rfl (by kernel_rfl) (by kernel_rfl) (by kernel_rfl) (fun _ _ _ h => h) (Or.inl ⟨by kernel_rfl, ?_⟩) hS ?_
  rotate_left
  · intro w hSw; (try dsimp only at hSw); go_simp; try (with_reducible rfl)
  (try simp only [Act.put, List.getElem_toArray, List.getElem_cons_succ, List.getElem_cons_zero, List.setIfInBounds_toArray, List.set_cons_zero, List.set_cons_succ])
  refine wpAnyH_take (i := 2) (v := ?_) rfl (by kernel_rfl) (by kernel_rfl) (by kernel_rfl) (fun _ _ _ h => h) (Or.inl ⟨by kernel_rfl, ?_⟩) hS ?_
  rotate_left
  · intro w hSw; (try dsimp only at hSw); go_simp; try (with_reducible rfl)
  (try simp only [Act.put, List.getElem_toArray, List.getElem_cons_succ, List.getElem_cons_zero, List.setIfInBounds_toArray, List.set_cons_zero, List.set_cons_succ])
  refine wpAnyH_take (i := 3) (v := ?_) rfl (by kernel_rfl) (by kernel_rfl) (by kernel_rfl) (fun _ _ _ h => h) (Or.inl ⟨by kernel_rfl, ?_⟩) hS ?_
  rotate_left
  · intro w hSw; (try dsimp only at hSw); go_simp; try (with_reducible rfl)
  (try simp only [Act.put, List.getElem_toArray, List.getElem_cons_succ, List.getElem_cons_zero, List.setIfInBounds_toArray, List.set_cons_zero, List.set_cons_succ])
  refine wpAnyH_take (i := 4) (v := ?_) rfl (by kernel_rfl) (by kernel_rfl) (by kernel_rfl) (fun _ _ _ h => h) (Or.inl ⟨by kernel_rfl, ?_⟩) hS ?_
  rotate_left
  · intro w hSw; (try dsimp only at hSw); go_simp; try (with_reducible rfl)
  (try simp only [Act.put, List.getElem_toArray, List.getElem_cons_succ, List.getElem_cons_zero, List.setIfInBounds_toArray, List.set_cons_zero, List.set_cons_succ])
  refine wpAnyH_take (i := 6) (v := ?_) rfl (by kernel_rfl) (by kernel_rfl) (by kernel_rfl) (fun _ _ _ h => h) (Or.inl ⟨by kernel_rfl, ?_⟩) hS ?_
  rotate_left
  · intro w hSw; (try dsimp only at hSw); go_simp; try (with_reducible rfl)
  (try simp only [Act.put, List.getElem_toArray, List.getElem_cons_succ, List.getElem_cons_zero, List.setIfInBounds_toArray, List.set_cons_zero, List.set_cons_succ])
  refine wpAnyH_ready (rs := [5]) (by kernel_rfl) (by simp) ?_
  refine AllReadyH.cons rfl (fun K1 hK1 => ?_) AllReadyH.nil
  go_simp
  refine (rpublish_any X3.out.2.2.2.2.2 HX.out.2.1 (over_byte HC.out.2.2.1 _ _ (eB_le hd cn)) (by have := HX.out.1; have := HC.out.2.2.2.1; omega) (fun k hk => Nat.lt_of_lt_of_le (HC.out.2.2.2.2.1 k hk) X3.out.1.size) HX.out.2.2 HC.out.1 u1 HC.out.2.2.2.2.2.2.2.2.2.2).mono ?_
  rintro e w4 ⟨za, zn, zc, zs, rfl, hn4, hr4, hg4, hrg4, hb4⟩
  have X4 : Hid (Dr w w4 F za zn zc zs xa xn xc n D A U rd fe u1 ev al #[.int .u64 0, .slice none 0 0] #[.int .i64 0, .int .u64 0, .int .u64 0, .int .u64 0, .bool false, .int .i64 0, .int .i64 0, .bool false, .bool false] ∧ zn ≤ nn + 10 ∧ (∀ a, rget zs zn a = retM M n U us hd cn a) ∧ Rng zs zn 8192) := ⟨⟨below_to X3.out.1 hb4, below_box X3.out.2.1 hb4, below_box X3.out.2.2.1 hb4, below_box X3.out.2.2.2.1 hb4, below_box X3.out.2.2.2.2.1 hb4, hr4⟩, by have := HX.out.1; omega, fun a => by unfold retM; rw [HC.out.2.2.2.2.2.2.2.2.2.1]; exact hg4 a, hrg4⟩
  clear hn4 hr4 hg4 hrg4 hb4 X3
  refine hK1.out _ _ ⟨cellOf X4.out.1.2.2.1 0 _ rfl, cellOf X4.out.1.2.2.1 1 _ rfl, cellOf X4.out.1.2.2.1 2 _ rfl, cellOf X4.out.1.2.2.1 3 _ rfl, cellOf X4.out.1.2.2.1 4 _ rfl, cellOf X4.out.1.2.2.1 5 _ rfl, cellOf X4.out.1.2.2.1 6 _ rfl, cellOf X4.out.1.2.2.1 7 _ rfl, cellOf X4.out.1.2.2.1 8 _ rfl, cellOf X4.out.1.2.1 0 _ rfl, cellOf X4.out.1.2.1 1 _ rfl⟩ (fun h4 => ?_)
  clear hK1 K1 hS
  (try simp only [Act.put, List.getElem_toArray, List.getElem_cons_succ, List.getElem_cons_zero, List.setIfInBounds_toArray, List.set_cons_zero, List.set_cons_succ])
  refine wpAnyH_ready (rs := [7]) (by kernel_rfl) (by simp) ?_
  refine AllReadyH.cons rfl (fun K1 hK1 => ?_) AllReadyH.nil
  rw [if_pos (by kernel_rfl)]
  refine wp_store_row 33 _ _ rfl (w.heap.size + 2) #[.int .u64 8192, .slice za zn zc] rfl rfl 33 #[.int .u64 0, .slice none 0 0] X4.out.1.2.2.2.1 infoDR rfl (by simp [Value.oneCell']) ?_
  have X5 : Hid (Dr w (w4.setRow (w.heap.size + 2) #[.int .u64 8192, .slice za zn zc]) F za zn zc zs xa xn xc n D A U rd fe u1 ev al #[.int .u64 8192, .slice za zn zc] #[.int .i64 0, .int .u64 0, .int .u64 0, .int .u64 0, .bool false, .int .i64 0, .int .i64 0, .bool false, .bool false]) := X4.out.1.set8 _
  have HZ : Hid (zn ≤ nn + 10 ∧ (∀ a, rget zs zn a = retM M n U us hd cn a) ∧ Rng zs zn 8192) := X4.out.2
  clear X4
  generalize w4.setRow (w.heap.size + 2) #[.int .u64 8192, .slice za zn zc] = w5 at *
  refine hK1.out _ _ ⟨cellOf X5.out.2.2.1 0 _ rfl, cellOf X5.out.2.2.1 1 _ rfl, cellOf X5.out.2.2.1 2 _ rfl, cellOf X5.out.2.2.1 3 _ rfl, cellOf X5.out.2.2.1 4 _ rfl, cellOf X5.out.2.2.1 5 _ rfl, cellOf X5.out.2.2.1 6 _ rfl, cellOf X5.out.2.2.1 7 _ rfl, cellOf X5.out.2.2.1 8 _ rfl, cellOf X5.out.2.1 0 _ rfl, cellOf X5.out.2.1 1 _ rfl⟩ (fun h5 => ?_)
  clear hK1 K1 h4
  (try simp only [Act.put, List.getElem_toArray, List.getElem_cons_succ, List.getElem_cons_zero, List.setIfInBounds_toArray, List.set_cons_zero, List.set_cons_succ])
  refine wpAnyH_ready (rs := [8]) (by kernel_rfl) (by simp) ?_
  refine AllReadyH.cons rfl (fun K1 hK1 => ?_) AllReadyH.nil
  rw [if_pos (by kernel_rfl)]
  refine wp_store_row 27 _ _ rfl (w.heap.size + 3) #[.int .i64 (n : Int), .int .u64 (D : Int), .int .u64 (A : Int), .int .u64 (U : Int), .bool rd, .int .i64 (fe : Int), .int .i64 (u1 : Int), .bool ev, .bool al] rfl rfl 27 #[.int .i64 0, .int .u64 0, .int .u64 0, .int .u64 0, .bool false, .int .i64 0, .int .i64 0, .bool false, .bool false] X5.out.2.2.2.2.1 infoDQ rfl (by simp [Value.oneCell']) ?_
  have X6 : Hid (Dr w (w5.setRow (w.heap.size + 3) #[.int .i64 (n : Int), .int .u64 (D : Int), .int .u64 (A : Int), .int .u64 (U : Int), .bool rd, .int .i64 (fe : Int), .int .i64 (u1 : Int), .bool ev, .bool al]) F za zn zc zs xa xn xc n D A U rd fe u1 ev al #[.int .u64 8192, .slice za zn zc] #[.int .i64 (n : Int), .int .u64 (D : Int), .int .u64 (A : Int), .int .u64 (U : Int), .bool rd, .int .i64 (fe : Int), .int .i64 (u1 : Int), .bool ev, .bool al]) := X5.out.set9 _
  clear X5
  generalize w5.setRow (w.heap.size + 3) #[.int .i64 (n : Int), .int .u64 (D : Int), .int .u64 (A : Int), .int .u64 (U : Int), .bool rd, .int .i64 (fe : Int), .int .i64 (u1 : Int), .bool ev, .bool al] = w6 at *
  refine hK1.out _ _ ⟨cellOf X6.out.2.2.1 0 _ rfl, cellOf X6.out.2.2.1 1 _ rfl, cellOf X6.out.2.2.1 2 _ rfl, cellOf X6.out.2.2.1 3 _ rfl, cellOf X6.out.2.2.1 4 _ rfl, cellOf X6.out.2.2.1 5 _ rfl, cellOf X6.out.2.2.1 6 _ rfl, cellOf X6.out.2.2.1 7 _ rfl, cellOf X6.out.2.2.1 8 _ rfl, cellOf X6.out.2.1 0 _ rfl, cellOf X6.out.2.1 1 _ rfl⟩ (fun h6 => ?_)
  clear hK1 K1 h5
  (try simp only [Act.put, List.getElem_toArray, List.getElem_cons_succ, List.getElem_cons_zero, List.setIfInBounds_toArray, List.set_cons_zero, List.set_cons_succ])
  refine wpAnyH_done (by kernel_rfl) ?_ _
  clear h6
  obtain ⟨k0, k1, k2, k3, k4, k5, k6, k7, k8⟩ := box9_facts X6.out.2.2.2.2.1
  obtain ⟨m0, m1, _, _⟩ := box_facts X6.out.2.2.2.1
  go_wp2_with fail
  refine bodyPost_ret (v := .tuple #[.agg #[.int .u64 8192, .slice za zn zc], .agg #[.int .i64 (n : Int), .int .u64 (D : Int), .int .u64 (A : Int), .int .u64 (U : Int), .bool rd, .int .i64 (fe : Int), .int .i64 (u1 : Int), .bool ev, .bool al]]) (by simp [results, Tryz.results22, go_sem, k0, k1, k2, k3, k4, k5, k6, k7, k8, m0, m1]) rfl ?_
  exact ⟨za, zn, zc, zs, rfl, HZ.out.1, X6.out.2.2.2.2.2, HZ.out.2.1, HZ.out.2.2, X6.out.1⟩
end Go.Proofs.YtmjdnocilbnoaaaGreat

/- The pieces at which two memories differ: plain facts. -/
namespace Go.Proofs.YtmjdnocilbnoaaaGreat
open Go.RowKit Go.Maps
set_option linter.unusedVariables false
/-- the pieces of addresses that rise -/
def spans (A : List Nat) : List (Nat × Nat) := A.foldl stretchL []
theorem spans_snoc (A : List Nat) (x : Nat) : spans (A ++ [x]) = stretchL (spans A) x := by simp [spans]
theorem stretchL_cases (l : List (Nat × Nat)) (x : Nat) : stretchL l x = l ++ [(x, 1)] ∨ ∃ r p L, l = r ++ [(p, L)] ∧ p + L = x ∧ stretchL l x = r ++ [(p, L + 1)] := by
  rcases List.eq_nil_or_concat l with rfl | ⟨r, ⟨p, L⟩, rfl⟩
  · exact .inl rfl
  · rw [List.concat_eq_append]
    by_cases h : p + L = x
    · subst h; exact .inr ⟨r, p, L, rfl, rfl, stretchL_join r p L⟩
    · exact .inl (stretchL_new r p L x h)
theorem stretchL_len (l : List (Nat × Nat)) (x : Nat) : l.length ≤ (stretchL l x).length ∧ (stretchL l x).length ≤ l.length + 1 := by
  rcases stretchL_cases l x with h | ⟨r, p, L, rfl, _, h⟩ <;> rw [h] <;> simp
theorem stretchL_take (l : List (Nat × Nat)) (x m : Nat) (h : m < l.length) : (stretchL l x).take m = l.take m := by
  rcases stretchL_cases l x with h1 | ⟨r, p, L, rfl, _, h1⟩
  · rw [h1, List.take_append_of_le_length (by omega)]
  · rw [h1, List.take_append_of_le_length (by simp at h; omega), List.take_append_of_le_length (by simp at h; omega)]
theorem fold_take (A : List Nat) : ∀ (l : List (Nat × Nat)) (m : Nat), m < l.length → (A.foldl stretchL l).take m = l.take m := by
  induction A with
  | nil => intro l m h; rfl
  | cons x A ih =>
    intro l m h
    rw [List.foldl_cons, ih _ _ (Nat.lt_of_lt_of_le h (stretchL_len l x).1), stretchL_take l x m h]
/-- once there are more pieces than m, the first m stay -/
theorem spans_take (A C : List Nat) (m : Nat) (h : m < (spans A).length) : (spans (A ++ C)).take m = (spans A).take m := by
  unfold spans at *
  rw [List.foldl_append]
  exact fold_take C _ m h
theorem spans_len (A : List Nat) : (spans A).length ≤ A.length := by
  unfold spans
  suffices h : ∀ l : List (Nat × Nat), (A.foldl stretchL l).length ≤ l.length + A.length by simpa using h []
  induction A with
  | nil => intro l; simp
  | cons x A ih =>
    intro l
    have h1 := ih (stretchL l x)
    have h2 := (stretchL_len l x).2
    simp at h1 ⊢
    omega
theorem spans_top (A : List Nat) (M : Nat) (h : ∀ a ∈ A, a < M) : ∀ p ∈ spans A, p.1 + p.2 ≤ M := by
  unfold spans
  suffices hh : ∀ l : List (Nat × Nat), (∀ p ∈ l, p.1 + p.2 ≤ M) → (∀ a ∈ A, a < M) → ∀ p ∈ A.foldl stretchL l, p.1 + p.2 ≤ M from hh [] (by simp) h
  clear h
  induction A with
  | nil => intro l h _; exact h
  | cons x A ih =>
    intro l hl hA
    refine ih (stretchL l x) ?_ (fun a ha => hA a (by simp [ha]))
    have hx := hA x (by simp)
    intro p hp
    rcases stretchL_cases l x with h1 | ⟨r, q, L, rfl, he, h1⟩ <;> rw [h1] at hp
    · rcases List.mem_append.1 hp with hp | hp
      · exact hl p hp
      · simp at hp; subst hp; simp; omega
    · rcases List.mem_append.1 hp with hp | hp
      · exact hl p (by simp [hp])
      · simp at hp; subst hp; simp; omega
/-- the addresses below n of a page at which two memories differ -/
def diffsIn (Ma Mb : Nat → Nat) (k n : Nat) : List Nat := ((List.range n).filter fun i => Ma (k * 4096 + i) != Mb (k * 4096 + i)).map fun i => k * 4096 + i
theorem diffsIn_zero (Ma Mb : Nat → Nat) (k : Nat) : diffsIn Ma Mb k 0 = [] := rfl
theorem diffsIn_same (Ma Mb : Nat → Nat) (k n : Nat) (h : Ma (k * 4096 + n) = Mb (k * 4096 + n)) : diffsIn Ma Mb k (n + 1) = diffsIn Ma Mb k n := by
  unfold diffsIn
  rw [List.range_succ, List.filter_append]
  simp [h]
theorem diffsIn_new (Ma Mb : Nat → Nat) (k n : Nat) (h : Ma (k * 4096 + n) ≠ Mb (k * 4096 + n)) : diffsIn Ma Mb k (n + 1) = diffsIn Ma Mb k n ++ [k * 4096 + n] := by
  unfold diffsIn
  rw [List.range_succ, List.filter_append]
  simp [h]
theorem diffsIn_mem (Ma Mb : Nat → Nat) (k n x : Nat) : x ∈ diffsIn Ma Mb k n ↔ ∃ i, i < n ∧ Ma (k * 4096 + i) ≠ Mb (k * 4096 + i) ∧ x = k * 4096 + i := by
  unfold diffsIn
  simp only [List.mem_map, List.mem_filter, List.mem_range, bne_iff_ne]
  constructor
  · rintro ⟨i, ⟨h1, h2⟩, rfl⟩; exact ⟨i, h1, h2, rfl⟩
  · rintro ⟨i, h1, h2, rfl⟩; exact ⟨i, ⟨h1, h2⟩, rfl⟩
theorem diffsIn_len (Ma Mb : Nat → Nat) (k n : Nat) : (diffsIn Ma Mb k n).length ≤ n := by
  unfold diffsIn
  rw [List.length_map]
  exact Nat.le_trans (List.length_filter_le _ _) (by simp)
/-- .. of all pages of a list -/
def diffs (Ma Mb : Nat → Nat) (ks : List Nat) : List Nat := ks.flatMap fun k => diffsIn Ma Mb k 4096
theorem diffs_snoc (Ma Mb : Nat → Nat) (ks : List Nat) (k : Nat) : diffs Ma Mb (ks ++ [k]) = diffs Ma Mb ks ++ diffsIn Ma Mb k 4096 := by simp [diffs]
theorem diffs_len (Ma Mb : Nat → Nat) (ks : List Nat) : (diffs Ma Mb ks).length ≤ 4096 * ks.length := by
  unfold diffs
  induction ks with
  | nil => simp
  | cons k ks ih =>
    have := diffsIn_len Ma Mb k 4096
    simp at ih ⊢
    omega
theorem diffs_mem (Ma Mb : Nat → Nat) (ks : List Nat) (x : Nat) : x ∈ diffs Ma Mb ks ↔ x / 4096 ∈ ks ∧ Ma x ≠ Mb x := by
  unfold diffs
  simp only [List.mem_flatMap, diffsIn_mem]
  constructor
  · rintro ⟨k, hk, i, hi, hne, rfl⟩
    exact ⟨by rw [show (k * 4096 + i) / 4096 = k from by omega]; exact hk, hne⟩
  · rintro ⟨hk, hne⟩
    exact ⟨x / 4096, hk, x % 4096, Nat.mod_lt _ (by decide), by rw [show x / 4096 * 4096 + x % 4096 = x from by omega]; exact hne, by omega⟩
theorem pairwise_range (n : Nat) : (List.range n).Pairwise (· < ·) := List.pairwise_lt_range
theorem diffsIn_rise (Ma Mb : Nat → Nat) (k n : Nat) : (diffsIn Ma Mb k n).Pairwise (· < ·) := by
  unfold diffsIn
  rw [List.pairwise_map]
  exact ((pairwise_range n).filter _).imp (fun h => by omega)
theorem diffs_rise (Ma Mb : Nat → Nat) (ks : List Nat) (h : ks.Pairwise (· < ·)) : (diffs Ma Mb ks).Pairwise (· < ·) := by
  unfold diffs
  induction ks with
  | nil => simp
  | cons k ks ih =>
    rw [List.pairwise_cons] at h
    rw [List.flatMap_cons, List.pairwise_append]
    refine ⟨diffsIn_rise Ma Mb k 4096, ih h.2, fun a ha b hb => ?_⟩
    obtain ⟨i, hi, _, rfl⟩ := (diffsIn_mem Ma Mb k 4096 a).1 ha
    obtain ⟨k', hk', hb'⟩ := List.mem_flatMap.1 hb
    obtain ⟨j, hj, _, rfl⟩ := (diffsIn_mem Ma Mb k' 4096 b).1 hb'
    have := h.1 k' hk'
    omega
/-- lists that rise and have the same members are one -/
theorem rise_one : ∀ (A C : List Nat), A.Pairwise (· < ·) → C.Pairwise (· < ·) → (∀ x, x ∈ A ↔ x ∈ C) → A = C
  | [], [], _, _, _ => rfl
  | [], c :: C, _, _, h => by have := (h c).2 (by simp); simp at this
  | a :: A, [], _, _, h => by have := (h a).1 (by simp); simp at this
  | a :: A, c :: C, hA, hC, h => by
    rw [List.pairwise_cons] at hA hC
    have e : a = c := by
      rcases List.mem_cons.1 ((h a).1 (by simp)) with h1 | h1
      · exact h1
      · rcases List.mem_cons.1 ((h c).2 (by simp)) with h2 | h2
        · exact h2.symm
        · have := hA.1 c h2; have := hC.1 a h1; omega
    subst e
    rw [rise_one A C hA.2 hC.2 (fun x => by
      constructor
      · intro hx
        rcases List.mem_cons.1 ((h x).1 (by simp [hx])) with h1 | h1
        · subst h1; have := hA.1 x hx; omega
        · exact h1
      · intro hx
        rcases List.mem_cons.1 ((h x).2 (by simp [hx])) with h1 | h1
        · subst h1; have := hC.1 x hx; omega
        · exact h1)]
end Go.Proofs.YtmjdnocilbnoaaaGreat

/- The call Differ of layer 2: where two memories differ, piece by piece. -/
namespace Go.Proofs.YtmjdnocilbnoaaaGreat
open Go.RowKit Go.Maps
set_option linter.unusedVariables false
set_option linter.unusedSimpArgs false
/-- a block that lies where it lay, and is not the list's own -/
def Kept (w : World) (v : Value) (b : Nat) (o : Obj) : Prop := w.heap[b]? = some o ∧ v.ownBlock ≠ some b
theorem Kept.lt {w : World} {v : Value} {b : Nat} {o : Obj} (h : Kept w v b o) : b < w.heap.size := (Array.getElem?_eq_some_iff.1 h.1).1
theorem Kept.below {w w' : World} {v : Value} {b : Nat} {o : Obj} (h : Kept w v b o) (hb : Below w.heap.size w w') : Kept w' v b o := ⟨below_box h.1 hb, h.2⟩
theorem Kept.drewN {w : World} {v : Value} {b : Nat} {o : Obj} (h : Kept w v b o) (n : Nat) : Kept (w.drewN n) v b o := h
theorem Kept.stretched {B : Nat} {w w' : World} {v v' : Value} {b : Nat} {o : Obj} {l : List (Nat × Nat)} {x : Nat} (h : Kept w v b o) (hs : Stretched B w w' v v' l x) : Kept w' v' b o := by
  obtain ⟨h1, h2, h3⟩ := hs
  refine ⟨(h2.block b h.lt (fun e => h.2 e.symm)).trans h.1, fun e => ?_⟩
  rcases h3 with h3 | ⟨g, h3, hg⟩
  · exact h.2 (h3 ▸ e)
  · rw [e] at h3; cases h3; have := h.lt; omega
theorem spanRow_take (l : List (Nat × Nat)) : ∀ m, spanRow (l.take m) = (spanRow l).take (m * 2) := by
  induction l with
  | nil => intro m; simp [spanRow]
  | cons p r ih =>
    intro m
    have e : spanRow (p :: r) = .int .u64 (p.1 : Nat) :: .int .u64 (p.2 : Nat) :: spanRow r := by simp [spanRow]
    cases m with
    | zero => simp [spanRow]
    | succ m =>
      rw [List.take_succ_cons, e, show (m + 1) * 2 = m * 2 + 1 + 1 from by omega, List.take_succ_cons, List.take_succ_cons, ← ih m]
      simp [spanRow]
theorem SpanIn.cut {B : Nat} {w : World} {g n c : Nat} {l : List (Nat × Nat)} (h : SpanIn B w (.slice (some ⟨g, 0, none⟩) n c) l) (m : Nat) (hm : m ≤ l.length) : SpanIn B w (.slice (some ⟨g, 0, none⟩) m c) (l.take m) := by
  have hl := spanRow_length (l.take m)
  have h0 : (l.take m).length = m := by simp; omega
  rw [h0] at hl
  rcases h.2 with ⟨h', _⟩ | ⟨g', cap', cur, h', hb, hg, hnc, hcm, hcs, htake⟩
  · simp at h'
  · simp only [Value.slice.injEq, Option.some.injEq, Addr.mk.injEq, and_true, true_and] at h'
    obtain ⟨rfl, h2, rfl⟩ := h'
    refine ⟨?_, .inr ⟨g, c, cur, by rw [h0], hb, hg, ?_, hcm, hcs, ?_⟩⟩
    · rw [h0]; exact hl
    · rw [h0]; omega
    · rw [h0, spanRow_take, ← htake, List.take_take, Nat.min_eq_left (by omega)]
theorem look_far {w : World} {F : Nat → Prop} {rb size n : Nat} {lg : Value} {M : Nat → Nat} (h : RamAt w F rb size n lg M) (k : Nat) (hk : k < 18446744073709551616) :
    Calls Tryz.prog 38 #[.pointer (some ⟨rb, 0, none⟩), .int .u64 (k : Nat)] w fun e w' => ∃ b, e = .returned (.pointer (some ⟨b, 0, none⟩)) ∧ w'.heap[b]? = some (.cells (pageRow (fun i => M (k * 4096 + i))) 96 (0, 0)) ∧ Below w.heap.size w w' ∧ (F b ∨ w.heap.size ≤ b) := by
  obtain ⟨bm, pg, D, h⟩ := h
  have hlk := pages_look h.2.1 h.2.2.1 k hk
  have hc1 := h.cell1
  cases hp : pg k with
  | some b =>
    rw [hp, ptrOf_some] at hlk
    have X : Hid (_ ∧ _) := ⟨h.2.2.2.1 k b hp, h.2.2.2.2.2.2.2.2.1 k b hp⟩
    clear h hp
    go_enter Tryz.func38, Tryz.ntmps38
    go_wp2_with (first | (at_lookup; refine wpList_lookup_run rfl _ _ 90 rfl rfl rfl hlk ?_))
    go_ret
    exact ⟨b, rfl, X.out.1, Below.refl _ _, .inl X.out.2⟩
  | none =>
    rw [hp, ptrOf_none] at hlk
    have X : Hid _ := h.2.2.2.2.1 k hp
    clear h hp
    go_enter Tryz.func38, Tryz.ntmps38
    go_wp2_with (first | (at_lookup; refine wpList_lookup_run rfl _ _ 90 rfl rfl rfl hlk ?_) | (refine wpList_alloc81 rfl rfl ?_))
    go_ret
    refine ⟨w.heap.size, rfl, ?_, (Below.refl _ _).alloc (Nat.le_refl _) _, .inr (Nat.le_refl _)⟩
    rw [heap_alloc_new, zeroPage_row, pageRow_congr _ _ (fun i hi => (X.out i hi).symm)]
theorem stretch_i {B : Nat} {w : World} {v : Value} {l : List (Nat × Nat)} (h : SpanIn B w v l) (xi : Int) (x : Nat) (hxi : xi = (x : Nat)) (hx : x < 18446744073709551616) (hl : l.length < 10000) (hB : B ≤ w.heap.size) (hlo : ∀ p ∈ l, p.1 + p.2 < 18446744073709551615) :
    Calls Tryz.prog 39 #[v, .int .u64 xi] w fun e w' => ∃ v', e = .returned v' ∧ Stretched B w w' v v' l x := by
  subst hxi
  exact stretch_any h x hx hl hB hlo
/-- the numbers as they lie in a block -/
theorem nums_block {B : Nat} {w : World} {av : Option Addr} {cv : Nat} {ks : List Nat} (h : Nums B w (.slice av ks.length cv) ks) (h0 : 0 < ks.length) : ∃ g cur, av = some ⟨g, 0, none⟩ ∧ w.heap[g]? = some (.cells cur 23 (0, 0)) ∧ ∀ j, j < ks.length → cur[j]? = some (.int .u64 (ks.getD j 0 : Nat)) := by
  rcases h.2 with ⟨_, h1⟩ | ⟨g, cap, cur, hv, hb, hgg, hnc, hcm, hcs, htake⟩
  · omega
  · simp only [Value.slice.injEq, true_and] at hv
    refine ⟨g, cur, hv.1, hgg, fun j hj => ?_⟩
    have h2 : (numRow ks)[j]? = some (.int .u64 (ks.getD j 0 : Nat)) := by
      unfold numRow
      rw [List.getElem?_map, List.getD_eq_getElem?_getD, List.getElem?_eq_getElem hj]
      rfl
    rw [← htake, List.getElem?_take] at h2
    split at h2
    · simpa using h2
    · cases h2
end Go.Proofs.YtmjdnocilbnoaaaGreat

/- The call Differ of layer 2, walked. -/
namespace Go.Proofs.YtmjdnocilbnoaaaGreat
open Go.RowKit Go.Maps
set_option linter.unusedVariables false
set_option linter.unusedSimpArgs false
/-- what the scan has found so far -/
structure Scan (w wr : World) (v : Value) (A : List Nat) (most : Int) : Prop where
  span : SpanIn w.heap.size wr v (spans A)
  below : Below w.heap.size w wr
  few : ((spans A).length : Int) ≤ most
theorem Scan.later {w wr w' : World} {v : Value} {A : List Nat} {most : Int} (h : Scan w wr v A most) (hb : Below wr.heap.size wr w') : Scan w w' v A most :=
  ⟨h.span.kept (fun g hg => hb.block g (h.span.lt g hg).2), h.below.trans (hb.mono h.below.size), h.few⟩
theorem no_own (w wr : World) (v : Value) (l : List (Nat × Nat)) (h : SpanIn w.heap.size wr v l) (b : Nat) (hb : b < w.heap.size ∨ wr.heap.size ≤ b) : v.ownBlock ≠ some b := fun e => by
  have := h.lt b e
  omega
theorem page_cell {w : World} {b : Nat} {f : Nat → Nat} (h : w.heap[b]? = some (.cells (pageRow f) 96 (0, 0))) (i : Nat) (hi : i < 4096) : w.cell? ⟨b, i, none⟩ = some (.int .u8 (f i : Nat)) := by
  simp only [World.cell?, h]
  exact pageRow_get f i hi
theorem diffsIn_split (Ma Mb : Nat → Nat) (k i : Nat) : ∀ d, ∃ C, diffsIn Ma Mb k (i + d) = diffsIn Ma Mb k i ++ C
  | 0 => ⟨[], by simp⟩
  | d + 1 => by
    obtain ⟨C, h⟩ := diffsIn_split Ma Mb k i d
    by_cases he : Ma (k * 4096 + (i + d)) = Mb (k * 4096 + (i + d))
    · exact ⟨C, by rw [← Nat.add_assoc, diffsIn_same _ _ _ _ he, h]⟩
    · exact ⟨C ++ [k * 4096 + (i + d)], by rw [← Nat.add_assoc, diffsIn_new _ _ _ _ he, h, List.append_assoc]⟩
theorem all_split (Ma Mb : Nat → Nat) (ks : List Nat) (j i k : Nat) (h : ks.take (j + 1) = ks.take j ++ [k]) (hi : i ≤ 4096) : ∃ C, diffs Ma Mb ks = diffs Ma Mb (ks.take j) ++ diffsIn Ma Mb k i ++ C := by
  obtain ⟨C, hC⟩ := diffsIn_split Ma Mb k i (4096 - i)
  rw [show i + (4096 - i) = 4096 from by omega] at hC
  refine ⟨C ++ diffs Ma Mb (ks.drop (j + 1)), ?_⟩
  have e : ks = ks.take (j + 1) ++ ks.drop (j + 1) := (List.take_append_drop _ _).symm
  have e2 : diffs Ma Mb ks = diffs Ma Mb (ks.take (j + 1)) ++ diffs Ma Mb (ks.drop (j + 1)) := by
    unfold diffs
    rw [← List.flatMap_append, ← e]
  rw [e2, h, diffs_snoc, hC]
  simp only [List.append_assoc]
theorem SpanIn.room {B : Nat} {w : World} {g n c : Nat} {l : List (Nat × Nat)} (h : SpanIn B w (.slice (some ⟨g, 0, none⟩) n c) l) : n ≤ c := by
  rcases h.2 with ⟨h', _⟩ | ⟨g', cap', cur, h', hb, hg, hnc, hcm, hcs, htake⟩
  · simp at h'
  · simp only [Value.slice.injEq, Option.some.injEq, Addr.mk.injEq, and_true, true_and] at h'
    obtain ⟨rfl, h2, rfl⟩ := h'
    omega
set_option maxRecDepth 100000 in
set_option maxHeartbeats 4000000 in
theorem differ_some {w : World} {Fa Fb : Nat → Prop} {ra rb size na nb : Nat} {lga lgb : Value} {Ma Mb : Nat → Nat} (ha : RamAt w Fa ra size na lga Ma) (hb : RamAt w Fb rb size nb lgb Mb) (hs : 0 < size) (hna : na ≤ 1000000) (hnb : nb ≤ 1000000) (p1 p2 : Nat) (hp1 : p1 < 1000000) (hp2 : p2 < 1000000) (hS : ∀ k, Apart Ma Mb k → k = p1 ∨ k = p2) (most : Int) (hm : 1 ≤ most) :
    Calls Tryz.prog 14 #[.pointer (some ⟨ra, 0, none⟩), .pointer (some ⟨rb, 0, none⟩), .int .i64 most] w fun e w' => ∃ v A, e = .returned v ∧ A.Pairwise (· < ·) ∧ (∀ x, x ∈ A ↔ Ma x ≠ Mb x) ∧ SpanIn w.heap.size w' v ((spans A).take most.toNat) ∧ Below w.heap.size w w' := by
  have A0 : Hid (RamAt w Fa ra size na lga Ma) := ha
  have B0 : Hid (RamAt w Fb rb size nb lgb Mb) := hb
  have U : Hid _ := unlike_any ha hb hs hna hnb p1 p2 hS
  have HS : Hid _ := hS
  clear ha hb hS
  have hmb : decide (most < 1) = false := by simp; omega
  go_enter Tryz.func14, Tryz.ntmps14
  go_wp2_with fail
  refine (size_any A0.out).mono ?_
  rintro e w' ⟨rfl, hw⟩
  rw [hw]
  clear hw
  go_wp2_with fail
  refine (size_any B0.out).mono ?_
  rintro e w' ⟨rfl, hw⟩
  rw [hw]
  clear hw
  go_wp2_with fail
  refine Calls.mono (by exact U.out) ?_
  rintro e w1 ⟨v, ks, rfl, hn, hpw, hk, hl, hb1⟩
  obtain ⟨av, cv, rfl⟩ := hn.form
  have hk2 : ks.length ≤ 2 := two_of (hpw.imp (fun h => Nat.ne_of_lt h)) (fun k h => HS.out k ((hk k).1 h))
  have hks : ∀ k ∈ ks, k < 1000000 := fun k h => by rcases HS.out k ((hk k).1 h) with h | h <;> omega
  have E : Hid (Nums w.heap.size w1 (.slice av ks.length cv) ks ∧ ks.Pairwise (· < ·) ∧ (∀ k, k ∈ ks ↔ Apart Ma Mb k) ∧ Below w.heap.size w w1 ∧ (∀ k ∈ ks, k < 1000000)) := ⟨hn, hpw, hk, hb1, hks⟩
  clear hn hpw hk hl hb1 hks U
  have S0 : Hid (Scan w w1 (.slice none 0 0) (diffs Ma Mb (ks.take 0)) most) := ⟨⟨rfl, .inl ⟨rfl, rfl⟩⟩, E.out.2.2.2.1, by simp [diffs, spans]; omega⟩
  have HM : Hid (∀ x, x ∈ diffs Ma Mb ks ↔ Ma x ≠ Mb x) := fun x => by
    rw [diffs_mem, E.out.2.2.1]
    refine ⟨fun h => h.2, fun h => ⟨⟨x % 4096, Nat.mod_lt _ (by decide), ?_⟩, h⟩⟩
    rw [show x / 4096 * 4096 + x % 4096 = x from by omega]; exact h
  go_wp2
  go_loopw [7, 26] (fun v jv wr => ∃ j : Nat, j ≤ ks.length ∧ jv = .int .i64 j ∧ Scan w wr v (diffs Ma Mb (ks.take j)) most ∧ ∀ g o, w1.heap[g]? = some o → av = some ⟨g, 0, none⟩ → Kept wr v g o) (fun _ jv _ => ks.length - (intOf jv).toNat)
  case atStart => exact ⟨0, by omega, rfl, S0.out, fun g o h1 h2 => ⟨h1, by simp [Value.ownBlock]⟩⟩
  case round =>
    obtain ⟨j, hj, rfl, hsc, hkp⟩ := hrel
    clear S0
    by_cases hjl : j < ks.length
    · obtain ⟨gk, cur, rfl, hgk, hcur⟩ := nums_block E.out.1 (by omega)
      have K0 : Hid (Kept wr _ gk (.cells cur 23 (0, 0))) := hkp gk _ hgk rfl
      obtain ⟨ao, co, rfl⟩ := hsc.span.form
      have hcj : wr.cell? ⟨gk, j, none⟩ = some (.int .u64 (ks.getD j 0 : Nat)) := by
        simp only [World.cell?, K0.out.1]; exact hcur j hjl
      have hmem : ks.getD j 0 ∈ ks := by rw [List.getD_eq_getElem?_getD, List.getElem?_eq_getElem hjl]; exact List.getElem_mem hjl
      have htk : ks.take (j + 1) = ks.take j ++ [ks.getD j 0] := by
        rw [List.take_succ_eq_append_getElem hjl, List.getD_eq_getElem?_getD, List.getElem?_eq_getElem hjl]; rfl
      have hkb := E.out.2.2.2.2 _ hmem
      have HTK : Hid _ := htk
      have HGK : Hid (w1.heap[gk]? = some (.cells cur 23 (0, 0))) := hgk
      have SC : Hid (Scan w wr _ (diffs Ma Mb (ks.take j)) most) := hsc
      have hji : (j : Int) < ks.length := by omega
      have hlA := diffs_len Ma Mb (ks.take j)
      have hlT : (ks.take j).length ≤ 1 := by rw [List.length_take]; omega
      have HTop : Hid (∀ i, i ≤ 4096 → (∀ a ∈ diffs Ma Mb (ks.take j) ++ diffsIn Ma Mb (ks.getD j 0) i, a < 4096004096) ∧ (spans (diffs Ma Mb (ks.take j) ++ diffsIn Ma Mb (ks.getD j 0) i)).length < 10000) := fun i hi => by
        constructor
        · intro a ha
          rcases List.mem_append.1 ha with ha | ha
          · have h1 := ((diffs_mem Ma Mb _ a).1 ha).1
            have h2 := E.out.2.2.2.2 _ (List.mem_of_mem_take h1)
            omega
          · obtain ⟨q, hq, _, rfl⟩ := (diffsIn_mem Ma Mb _ _ a).1 ha
            omega
        · have h1 := spans_len (diffs Ma Mb (ks.take j) ++ diffsIn Ma Mb (ks.getD j 0) i)
          have h2 := diffsIn_len Ma Mb (ks.getD j 0) i
          rw [List.length_append] at h1
          omega
      have HAll : Hid (∀ i, i ≤ 4096 → ∃ C, diffs Ma Mb ks = diffs Ma Mb (ks.take j) ++ diffsIn Ma Mb (ks.getD j 0) i ++ C) := fun i hi => all_split Ma Mb ks j i _ htk hi
      clear htk hsc hkp hgk hcur hmem
      generalize ks.getD j 0 = k at *
      have hki : (k : Int) < 1000000 := by omega
      go_wp2_with fail
      refine (look_far (A0.out.below SC.out.below) k (by omega)).mono ?_
      rintro e w2 ⟨pb, rfl, hpp, hb2, hfar⟩
      have S2 : Hid (Scan w w2 _ (diffs Ma Mb (ks.take j)) most) := SC.out.later hb2
      have G2 : Hid (Kept w2 _ gk (.cells cur 23 (0, 0))) := K0.out.below hb2
      have P2 : Hid (Kept w2 (.slice ao (spans (diffs Ma Mb (ks.take j))).length co) pb (.cells (pageRow (fun i => Ma (k * 4096 + i))) 96 (0, 0))) := ⟨hpp, no_own w wr _ _ SC.out.span pb (hfar.imp (fun h => A0.out.lt pb h) id)⟩
      clear hpp hb2 hfar
      go_wp2_with fail
      refine (look_far (B0.out.below S2.out.below) k (by omega)).mono ?_
      rintro e w3 ⟨qb, rfl, hqq, hb3, hfar⟩
      have S3 : Hid (Scan w w3 _ (diffs Ma Mb (ks.take j)) most) := S2.out.later hb3
      have G3 : Hid (Kept w3 _ gk (.cells cur 23 (0, 0))) := G2.out.below hb3
      have P3 : Hid (Kept w3 _ pb (.cells (pageRow (fun i => Ma (k * 4096 + i))) 96 (0, 0))) := P2.out.below hb3
      have Q3 : Hid (Kept w3 (.slice ao (spans (diffs Ma Mb (ks.take j))).length co) qb (.cells (pageRow (fun i => Mb (k * 4096 + i))) 96 (0, 0))) := ⟨hqq, no_own w w2 _ _ S2.out.span qb (hfar.imp (fun h => B0.out.lt qb h) id)⟩
      clear hqq hb3 hfar S2 G2 P2 SC K0 hcj
      go_wp2
      go_loopw [7, 36] (fun v iv wq => ∃ i : Nat, i ≤ 4096 ∧ iv = .int .i64 i ∧ Scan w wq v (diffs Ma Mb (ks.take j) ++ diffsIn Ma Mb k i) most ∧ Kept wq v gk (.cells cur 23 (0, 0)) ∧ Kept wq v pb (.cells (pageRow (fun i => Ma (k * 4096 + i))) 96 (0, 0)) ∧ Kept wq v qb (.cells (pageRow (fun i => Mb (k * 4096 + i))) 96 (0, 0))) (fun _ iv _ => 4096 - (intOf iv).toNat)
      case atStart => exact ⟨0, by omega, rfl, by rw [diffsIn_zero, List.append_nil]; exact S3.out, G3.out, P3.out, Q3.out⟩
      case round =>
        obtain ⟨i, hi, rfl, hsc, hg, hp, hq⟩ := hrel
        clear S3 G3 P3 Q3
        obtain ⟨ao, co, rfl⟩ := hsc.span.form
        have X : Hid (_ ∧ _ ∧ _ ∧ _) := ⟨hsc, hg, hp, hq⟩
        clear hsc hg hp hq
        by_cases hi4 : i < 4096
        · have hii : (i : Int) < 4096 := by omega
          have cp := page_cell X.out.2.2.1.1 i hi4
          have cq := page_cell X.out.2.2.2.1 i hi4
          by_cases heq : Ma (k * 4096 + i) = Mb (k * 4096 + i)
          · have hbe : (((Ma (k * 4096 + i) : Nat) : Int) == ((Mb (k * 4096 + i) : Nat) : Int)) = true := by rw [heq]; simp
            have HQ : Hid _ := heq
            clear heq
            generalize ((Ma (k * 4096 + i) : Nat) : Int) = xa at *
            generalize ((Mb (k * 4096 + i) : Nat) : Int) = xb at *
            go_wp2
            go_quiet (fail)
            go_wp2
            go_roundw
            case rel => exact ⟨i + 1, by omega, by go_num, by rw [diffsIn_same _ _ _ _ HQ.out]; exact X.out.1.later (below_drewN (Below.refl _ _) _), X.out.2.1.drewN _, X.out.2.2.1.drewN _, X.out.2.2.2.drewN _⟩
            case measure => simp [intOf]; omega
          · have hbe : (((Ma (k * 4096 + i) : Nat) : Int) == ((Mb (k * 4096 + i) : Nat) : Int)) = false := by simp; omega
            have HQ : Hid _ := heq
            clear heq
            generalize ((Ma (k * 4096 + i) : Nat) : Int) = xa at *
            generalize ((Mb (k * 4096 + i) : Nat) : Int) = xb at *
            go_wp2
            go_quiet (fail)
            go_wp2_with fail
            have Y : Hid (Scan w (wr.drewN nq) (.slice ao (spans (diffs Ma Mb (ks.take j) ++ diffsIn Ma Mb k i)).length co) (diffs Ma Mb (ks.take j) ++ diffsIn Ma Mb k i) most) := X.out.1.later (below_drewN (Below.refl _ _) _)
            refine (stretch_i Y.out.span _ (k * 4096 + i) (by omega) (by omega) (HTop.out i hi).2 Y.out.below.size (fun p hp => by have := spans_top _ 4096004096 (HTop.out i hi).1 p hp; omega)).mono ?_
            rintro e w4 ⟨v', rfl, hst⟩
            have hsp : SpanIn w.heap.size w4 v' (spans (diffs Ma Mb (ks.take j) ++ diffsIn Ma Mb k (i + 1))) := by
              rw [diffsIn_new _ _ _ _ HQ.out, ← List.append_assoc, spans_snoc]; exact hst.1
            have hbl : Below w.heap.size w w4 := Below.grown Y.out.below hst.2.1 Y.out.below.size (fun g hg => (Y.out.span.lt g hg).1)
            have hk3 := (X.out.2.1.drewN nq).stretched hst
            have hk4 := (X.out.2.2.1.drewN nq).stretched hst
            have hk5 := (X.out.2.2.2.drewN nq).stretched hst
            have hln := (stretchL_len (spans (diffs Ma Mb (ks.take j) ++ diffsIn Ma Mb k i)) (k * 4096 + i))
            have hle : (stretchL (spans (diffs Ma Mb (ks.take j) ++ diffsIn Ma Mb k i)) (k * 4096 + i)).length = (spans (diffs Ma Mb (ks.take j) ++ diffsIn Ma Mb k (i + 1))).length := by
              rw [diffsIn_new _ _ _ _ HQ.out, ← List.append_assoc, spans_snoc]
            clear hki hkb hp1 hp2 hna hnb hlA hlT
            by_cases hmo : ((spans (diffs Ma Mb (ks.take j) ++ diffsIn Ma Mb k (i + 1))).length : Int) ≤ most
            · obtain ⟨ao', co', rfl⟩ := hsp.form
              have Z : Hid (_ ∧ _ ∧ _ ∧ _) := ⟨(⟨hsp, hbl, hmo⟩ : Scan w w4 _ _ most), hk3, hk4, hk5⟩
              clear hst hsp hbl hk3 hk4 hk5 hln hle
              go_wp2
              go_roundw
              case rel => exact ⟨i + 1, by omega, by go_num, Z.out⟩
              case measure => simp [intOf]; omega
            · obtain ⟨g', c', rfl, _⟩ := hsp.cells (by omega)
              have hroom := hsp.room
              obtain ⟨m, rfl⟩ : ∃ m : Nat, most = m := ⟨most.toNat, by omega⟩
              have Z : Hid (_ ∧ _) := ⟨hsp, hbl⟩
              have HL : Hid (m < (spans (diffs Ma Mb (ks.take j) ++ diffsIn Ma Mb k (i + 1))).length) := by
                show m < _
                omega
              have hm1 : (m : Int) ≤ (c' : Int) := by omega
              have hm2 : (m : Int) ≤ ((spans (diffs Ma Mb (ks.take j) ++ diffsIn Ma Mb k (i + 1))).length : Int) := by omega
              clear hst hsp hbl hk3 hk4 hk5 hln hle hmo
              generalize hSL : (spans (diffs Ma Mb (ks.take j) ++ diffsIn Ma Mb k (i + 1))).length = sl at *
              have HSL : Hid _ := hSL
              clear hSL
              have hmd : decide ((m : Int) < (sl : Int)) = true := by have := HL.out; simp; omega
              go_wp2
              go_ret
              obtain ⟨C, hC⟩ := HAll.out (i + 1) (by omega)
              refine ⟨_, diffs Ma Mb ks, rfl, diffs_rise Ma Mb ks E.out.2.1, HM.out, ?_, Z.out.2⟩
              rw [Int.toNat_natCast, hC, spans_take _ C m (by rw [HSL.out]; exact HL.out)]
              exact Z.out.1.cut m (by rw [HSL.out]; exact Nat.le_of_lt HL.out)
        · obtain rfl : i = 4096 := by omega
          go_wp2
          go_roundw
          case rel => exact ⟨j + 1, by omega, by go_num, by rw [HTK.out, diffs_snoc]; exact X.out.1, fun g o h1 h2 => by cases h2; rw [HGK.out] at h1; cases h1; exact X.out.2.1⟩
          case measure => simp [intOf]; omega
    · obtain rfl : j = ks.length := by omega
      obtain ⟨ao, co, rfl⟩ := hsc.span.form
      have X : Hid _ := hsc
      clear hsc hkp
      go_wp2
      go_ret
      refine ⟨_, diffs Ma Mb ks, rfl, diffs_rise Ma Mb ks E.out.2.1, HM.out, ?_, X.out.below⟩
      have h1 := X.out.span
      have h2 := X.out.few
      rw [List.take_length] at h1 h2
      rw [show (spans (diffs Ma Mb ks)).take most.toNat = spans (diffs Ma Mb ks) from List.take_of_length_le (by omega), List.take_length]
      exact h1
/-- the numbers of the pages that differ, rising -/
theorem pages_rise {Ma Mb : Nat → Nat} (p1 p2 : Nat) (hS : ∀ k, Apart Ma Mb k → k = p1 ∨ k = p2) : ∃ ks : List Nat, ks.Pairwise (· < ·) ∧ ∀ k, k ∈ ks ↔ Apart Ma Mb k := by
  by_cases h1 : Apart Ma Mb p1 <;> by_cases h2 : Apart Ma Mb p2
  · rcases Nat.lt_trichotomy p1 p2 with h | h | h
    · exact ⟨[p1, p2], by simp [h], fun k => by simp; exact ⟨fun e => by rcases e with rfl | rfl <;> assumption, hS k⟩⟩
    · subst h; exact ⟨[p1], by simp, fun k => by simp; exact ⟨fun e => by subst e; exact h1, fun e => by have := hS k e; omega⟩⟩
    · exact ⟨[p2, p1], by simp [h], fun k => by simp; exact ⟨fun e => by rcases e with rfl | rfl <;> assumption, fun e => (hS k e).symm⟩⟩
  · exact ⟨[p1], by simp, fun k => by simp; exact ⟨fun e => by subst e; exact h1, fun e => by rcases hS k e with rfl | rfl; rfl; exact absurd e h2⟩⟩
  · exact ⟨[p2], by simp, fun k => by simp; exact ⟨fun e => by subst e; exact h2, fun e => by rcases hS k e with rfl | rfl; exact absurd e h1; rfl⟩⟩
  · exact ⟨[], by simp, fun k => by simp; exact fun e => by rcases hS k e with rfl | rfl; exact h1 e; exact h2 e⟩
theorem addresses_rise {Ma Mb : Nat → Nat} (p1 p2 : Nat) (hS : ∀ k, Apart Ma Mb k → k = p1 ∨ k = p2) : ∃ A : List Nat, A.Pairwise (· < ·) ∧ ∀ x, x ∈ A ↔ Ma x ≠ Mb x := by
  obtain ⟨ks, h1, h2⟩ := pages_rise p1 p2 hS
  refine ⟨diffs Ma Mb ks, diffs_rise Ma Mb ks h1, fun x => ?_⟩
  rw [diffs_mem, h2]
  refine ⟨fun h => h.2, fun h => ⟨⟨x % 4096, Nat.mod_lt _ (by decide), ?_⟩, h⟩⟩
  rw [show x / 4096 * 4096 + x % 4096 = x from by omega]; exact h
set_option maxRecDepth 100000 in
set_option maxHeartbeats 1000000 in
theorem differ_none {w : World} {Fa Fb : Nat → Prop} {ra rb size na nb : Nat} {lga lgb : Value} {Ma Mb : Nat → Nat} (ha : RamAt w Fa ra size na lga Ma) (hb : RamAt w Fb rb size nb lgb Mb) (most : Int) (hm : most < 1) :
    Calls Tryz.prog 14 #[.pointer (some ⟨ra, 0, none⟩), .pointer (some ⟨rb, 0, none⟩), .int .i64 most] w fun e w' => e = .returned (.slice none 0 0) ∧ w' = w := by
  have A0 : Hid (RamAt w Fa ra size na lga Ma) := ha
  have B0 : Hid (RamAt w Fb rb size nb lgb Mb) := hb
  clear ha hb
  have hmb : decide (most < 1) = true := by simp; omega
  go_enter Tryz.func14, Tryz.ntmps14
  go_wp2_with fail
  refine (size_any A0.out).mono ?_
  rintro e w' ⟨rfl, hw⟩
  rw [hw]
  clear hw
  go_wp2_with fail
  refine (size_any B0.out).mono ?_
  rintro e w' ⟨rfl, hw⟩
  rw [hw]
  clear hw
  go_wp2
  go_ret
  exact ⟨rfl, rfl⟩
/-- where two memories of one size differ, piece by piece -/
theorem differ_any {w : World} {Fa Fb : Nat → Prop} {ra rb size na nb : Nat} {lga lgb : Value} {Ma Mb : Nat → Nat} (ha : RamAt w Fa ra size na lga Ma) (hb : RamAt w Fb rb size nb lgb Mb) (hs : 0 < size) (hna : na ≤ 1000000) (hnb : nb ≤ 1000000) (p1 p2 : Nat) (hp1 : p1 < 1000000) (hp2 : p2 < 1000000) (hS : ∀ k, Apart Ma Mb k → k = p1 ∨ k = p2) (most : Int) (A : List Nat) (hA : A.Pairwise (· < ·)) (hM : ∀ x, x ∈ A ↔ Ma x ≠ Mb x) :
    Calls Tryz.prog 14 #[.pointer (some ⟨ra, 0, none⟩), .pointer (some ⟨rb, 0, none⟩), .int .i64 most] w fun e w' => ∃ v, e = .returned v ∧ SpanIn w.heap.size w' v ((spans A).take most.toNat) ∧ Below w.heap.size w w' := by
  by_cases hm : 1 ≤ most
  · refine (differ_some ha hb hs hna hnb p1 p2 hp1 hp2 hS most hm).mono ?_
    rintro e w' ⟨v, A', rfl, h1, h2, h3, h4⟩
    obtain rfl := rise_one A A' hA h1 (fun x => by rw [hM, h2])
    exact ⟨v, rfl, h3, h4⟩
  · refine (differ_none ha hb most (by omega)).mono ?_
    rintro e w' ⟨rfl, rfl⟩
    rw [show most.toNat = 0 from by omega]
    exact ⟨_, rfl, ⟨rfl, .inl ⟨rfl, rfl⟩⟩, Below.refl _ _⟩
end Go.Proofs.YtmjdnocilbnoaaaGreat

/- The document's call Touched of layer 2: the addresses that were written, rising. -/
namespace Go.Proofs.YtmjdnocilbnoaaaGreat
open Go.RowKit Go.Maps
set_option linter.unusedVariables false
set_option linter.unusedSimpArgs false
theorem insert_rise (ks : List Nat) (n x : Nat) (h : ks.Pairwise (· < ·)) (h1 : ∀ a ∈ ks.take n, a < x) (h2 : ∀ a ∈ ks.drop n, x < a) : (ks.take n ++ [x] ++ ks.drop n).Pairwise (· < ·) := by
  rw [List.append_assoc, List.pairwise_append]
  refine ⟨h.sublist (List.take_sublist _ _), ?_, fun a ha b hb => ?_⟩
  · rw [List.singleton_append, List.pairwise_cons]
    exact ⟨h2, h.sublist (List.drop_sublist _ _)⟩
  · rcases List.mem_append.1 hb with hb | hb
    · simp at hb; subst hb; exact h1 a ha
    · have := h1 a ha; have := h2 b hb; omega
theorem insert_mem (ks : List Nat) (n x y : Nat) : y ∈ ks.take n ++ [x] ++ ks.drop n ↔ y ∈ ks ∨ y = x := by
  have e : y ∈ ks ↔ y ∈ ks.take n ∨ y ∈ ks.drop n := by rw [← List.mem_append, List.take_append_drop]
  simp only [List.mem_append, List.mem_singleton, e]
  constructor
  · rintro ((h | h) | h)
    · exact .inl (.inl h)
    · exact .inr h
    · exact .inl (.inr h)
  · rintro ((h | h) | h)
    · exact .inl (.inl h)
    · exact .inr h
    · exact .inl (.inr h)
theorem take_below (ks : List Nat) (n x : Nat) (hn : n ≤ ks.length) (h : ∀ m, m < n → ks.getD m 0 < x) : ∀ a ∈ ks.take n, a < x := by
  intro a ha
  obtain ⟨m, hm, rfl⟩ := List.mem_iff_getElem.1 ha
  simp at hm
  have := h m (by omega)
  rw [List.getD_eq_getElem?_getD, List.getElem?_eq_getElem (by omega)] at this
  simpa using this
theorem drop_above (ks : List Nat) (n x : Nat) (hp : ks.Pairwise (· < ·)) (h : n < ks.length → x < ks.getD n 0) : ∀ a ∈ ks.drop n, x < a := by
  intro a ha
  obtain ⟨m, hm, rfl⟩ := List.mem_iff_getElem.1 ha
  simp at hm
  have h0 := h (by omega)
  rw [List.getD_eq_getElem?_getD, List.getElem?_eq_getElem (by omega)] at h0
  simp at h0
  rw [List.getElem_drop]
  rcases Nat.eq_zero_or_pos m with rfl | hm0
  · simpa using h0
  · have := (List.pairwise_iff_getElem.1 hp) n (n + m) (by omega) (by omega) (by omega)
    omega
/-- a world in which the list of addresses grows -/
structure TouchIn (w wr : World) (c : Array Value) (v : Value) (ks : List Nat) : Prop where
  nums : Nums (w.heap.size + 1) wr v ks
  below : Below w.heap.size w wr
  box : wr.heap[w.heap.size]? = some (.cells c 33 (0, 0))
  rise : ks.Pairwise (· < ·)
theorem TouchIn.later {w wr w' : World} {c : Array Value} {v : Value} {ks : List Nat} (h : TouchIn w wr c v ks) (hb : Below wr.heap.size wr w') : TouchIn w w' c v ks :=
  ⟨h.nums.kept (fun g hg => hb.block g (World.ownsRow.lt h.nums g hg).2), h.below.trans (hb.mono h.below.size), below_box h.box hb, h.rise⟩
theorem nums_cell {B : Nat} {w : World} {av : Option Addr} {cv : Nat} {ks : List Nat} (h : Nums B w (.slice av ks.length cv) ks) (h0 : 0 < ks.length) : ∃ g, av = some ⟨g, 0, none⟩ ∧ ∀ j, j < ks.length → w.cell? ⟨g, j, none⟩ = some (.int .u64 (ks.getD j 0 : Nat)) := by
  obtain ⟨g, cur, h1, h2, h3⟩ := nums_block h h0
  exact ⟨g, h1, fun j hj => by simp only [World.cell?, h2]; exact h3 j hj⟩
theorem Nums.cut {B : Nat} {w : World} {g n c : Nat} {ks : List Nat} (h : Nums B w (.slice (some ⟨g, 0, none⟩) n c) ks) (m : Nat) (hm : m ≤ ks.length) : Nums B w (.slice (some ⟨g, 0, none⟩) m c) (ks.take m) := by
  have h0 : (ks.take m).length = m := by simp; omega
  have hl : (numRow (ks.take m)).length = m := by simp [numRow]; omega
  rcases h.2 with ⟨h', _⟩ | ⟨g', cap', cur, h', hb, hg, hnc, hcm, hcs, htake⟩
  · simp at h'
  · simp only [Value.slice.injEq, Option.some.injEq, Addr.mk.injEq, and_true, true_and] at h'
    obtain ⟨rfl, h2, rfl⟩ := h'
    refine ⟨?_, .inr ⟨g, c, cur, by rw [h0], hb, hg, ?_, hcm, hcs, ?_⟩⟩
    · rw [h0, hl]; omega
    · rw [h0]; omega
    · have e : numRow (ks.take m) = (numRow ks).take m := by simp [numRow, List.map_take]
      rw [h0, e, ← htake, List.take_take, Nat.mul_one, Nat.min_eq_left (by omega)]
theorem Nums.room {B : Nat} {w : World} {g n c : Nat} {ks : List Nat} (h : Nums B w (.slice (some ⟨g, 0, none⟩) n c) ks) : n ≤ c := by
  rcases h.2 with ⟨h', _⟩ | ⟨g', cap', cur, h', hb, hg, hnc, hcm, hcs, htake⟩
  · simp at h'
  · simp only [Value.slice.injEq, Option.some.injEq, Addr.mk.injEq, and_true, true_and] at h'
    obtain ⟨rfl, h2, rfl⟩ := h'
    omega
theorem drop_cells {w : World} {g : Nat} {ks : List Nat} (hc : ∀ j, j < ks.length → w.cell? ⟨g, j, none⟩ = some (.int .u64 (ks.getD j 0 : Nat))) (n : Nat) : ∀ j u, (numRow (ks.drop n))[j]? = some u → w.cell? ((⟨g, n, none⟩ : Addr).add j) = some u := by
  intro j u hu
  rw [addr_add]
  unfold numRow at hu
  rw [List.getElem?_map, List.getElem?_drop] at hu
  by_cases h : n + j < ks.length
  · rw [List.getElem?_eq_getElem h] at hu
    rw [hc _ h, List.getD_eq_getElem?_getD, List.getElem?_eq_getElem h]
    exact hu
  · rw [List.getElem?_eq_none (by omega)] at hu
    cases hu
theorem far7 {w6 w7 : World} {o : Obj} {row : Option Nat} (hgr : (w6.drew.alloc o).grownBy w7 row) (b i : Nat) (v : Value) (h : w6.cell? ⟨b, i, none⟩ = some v) (hne : row ≠ some b) : w7.cell? ⟨b, i, none⟩ = some v := by
  have hlt : b < w6.heap.size := block_lt_of_cell h
  rw [← h]
  refine World.cell?_of_block (a := ⟨b, i, none⟩) ?_
  rw [hgr.block b (by simp; omega) (fun e => hne e.symm)]
  exact heap_alloc_old w6.drew o hlt
theorem numRow_one (ks : List Nat) : ∀ u ∈ numRow ks, u.oneCell' = true := by
  intro u hu
  unfold numRow at hu
  obtain ⟨k, _, rfl⟩ := List.mem_map.1 hu
  rfl
theorem numRow_len (ks : List Nat) : (numRow ks).length = ks.length := by simp [numRow]
theorem touch7 {w w6 w7 : World} {c : Array Value} {ks : List Nat} {g g6 cv c6 n x : Nat} (T : TouchIn w w6 c (.slice (some ⟨g, 0, none⟩) ks.length cv) ks) (N6 : Nums (w.heap.size + 1) w6 (.slice (some ⟨g6, 0, none⟩) (ks.length - n) c6) (ks.drop n)) (hgg : g < g6) (hgr : (w6.drew.alloc (.cells #[.int .u64 (x : Nat)] 23)).grownBy w7 (some g)) :
    Nums (w.heap.size + 1) w7 (.slice (some ⟨g6, 0, none⟩) (ks.length - n) c6) (ks.drop n) ∧ Below w.heap.size w w7 ∧ w7.heap[w.heap.size]? = some (.cells c 33 (0, 0)) ∧ w.heap.size + 1 ≤ w7.heap.size := by
  have hT : TouchIn w (w6.drew.alloc (.cells #[.int .u64 (x : Nat)] 23)) c _ ks := (T.later (below_drewN (Below.refl _ _) 1)).later ((Below.refl _ _).alloc (Nat.le_refl _) _)
  have hg := World.ownsRow.lt T.nums g rfl
  have h6 := World.ownsRow.lt N6 g6 rfl
  have hs := hgr.size
  have hz : (w6.drew.alloc (.cells #[.int .u64 (x : Nat)] 23)).heap.size = w6.heap.size + 1 := by simp
  refine ⟨N6.kept (fun g' hg' => ?_), Below.grown hT.below hgr hT.below.size (fun b hb => by cases hb; omega), (hgr.block w.heap.size (by omega) (by simp only [ne_eq, Option.some.injEq]; omega)).trans hT.box, by omega⟩
  cases hg'
  exact (hgr.block g6 (by omega) (by simp only [ne_eq, Option.some.injEq]; omega)).trans (heap_alloc_old w6.drew _ h6.2)
theorem nums_lies {B : Nat} {w : World} {g c n : Nat} {ks : List Nat} (h : Nums B w (.slice (some ⟨g, 0, none⟩) n c) ks) (hn : n = ks.length) (h0 : 0 < n) : ∀ j u, (numRow ks)[j]? = some u → w.cell? ((⟨g, 0, none⟩ : Addr).add j) = some u := by
  subst hn
  obtain ⟨g', e', h'⟩ := nums_cell h h0
  cases e'
  have := drop_cells h' 0
  rw [List.drop_zero] at this
  exact this
theorem touch8 {w w7 w8 : World} {c : Array Value} {ks : List Nat} {g7 g8 c8 n x m : Nat} (hn : n ≤ ks.length) (hm : m = ks.length + 1) (hp : ks.Pairwise (· < ·)) (h1 : ∀ a ∈ ks.take n, a < x) (h2 : ∀ a ∈ ks.drop n, x < a) (hb : Below w.heap.size w w7) (hx : w7.heap[w.heap.size]? = some (.cells c 33 (0, 0))) (h7 : w.heap.size + 1 ≤ g7) (hgr : w7.grownBy w8 (some g7)) (hown : w8.ownsRow (w.heap.size + 1) 23 1 (.slice (some ⟨g8, 0, none⟩) m c8) m (numRow (ks.take n) ++ [.int .u64 (x : Nat)] ++ numRow (ks.drop n))) :
    TouchIn w w8 c (.slice (some ⟨g8, 0, none⟩) m c8) (ks.take n ++ [x] ++ ks.drop n) := by
  refine ⟨?_, Below.grown hb hgr hb.size (fun b hb => by cases hb; omega), (hgr.block w.heap.size (Array.getElem?_eq_some_iff.1 hx).1 (by simp only [ne_eq, Option.some.injEq]; omega)).trans hx, insert_rise ks n x hp h1 h2⟩
  have e : (ks.take n ++ [x] ++ ks.drop n).length = m := by simp; omega
  have e2 : numRow (ks.take n ++ [x] ++ ks.drop n) = numRow (ks.take n) ++ [.int .u64 (x : Nat)] ++ numRow (ks.drop n) := by simp [numRow]
  unfold Nums
  rw [e, e2]
  exact hown
theorem Nums.low {B B' : Nat} {w : World} {v : Value} {ks : List Nat} (h : Nums B w v ks) (hb : B' ≤ B) : Nums B' w v ks := by
  rcases h with ⟨h1, h2 | ⟨g, cap, cur, h3, h4, h5⟩⟩
  · exact ⟨h1, .inl h2⟩
  · exact ⟨h1, .inr ⟨g, cap, cur, h3, Nat.le_trans hb h4, h5⟩⟩
theorem src82 {w : World} {x : Option Addr} {c : Nat} : Src Tryz.prog 1 103 (.slice x 0 c) 0 [] w := by
  cases x with
  | none => exact Src.ofNil w Tryz.underlying103 c
  | some a => exact Src.ofSlice w Tryz.underlying103 a 0 c [] rfl (by simp) (by simp)
theorem wpList_append_zero {w : World} {ops : Array Oper} {rest : List Oper} {o : Oper} {a : Act} {Q : Exit → Act → World → Prop} (hgd : o.guard = none) (s x : Operand) (ho : o.op = .call { callee := .builtin .append, args := #[s, x], argTypes := #[103, 103] })
    (base : Option Addr) (L c : Nat) (hs : a.eval s = .slice base L c) (hL : L ≤ c) (ax : Option Addr) (cx : Nat) (hx : a.eval x = .slice ax 0 cx)
    (h : wpList Tryz.prog ops Q rest (a.put o.dst (.slice base L c)) w) : wpList Tryz.prog ops Q (o :: rest) a w := by
  obtain ⟨i0, hi, hz0, hz1, hz2⟩ := info_parts Tryz.info23
  refine wpList_plain hgd fun K hK => ?_
  have hrun := run_append_nothing (P := Tryz.prog) w 103 103 o.type 23 i0 Tryz.underlying103 hi base L c hL (.slice ax 0 cx) (by rw [hz1]; exact src82)
  unfold Oper.wp
  simp [execOp, ho, resolve, invoke, builtin, hs, hx, hrun, Result.andThen]
  exact hK _ _ h
theorem touch9 {w w6 w7 : World} {c : Array Value} {v : Value} {ks : List Nat} {g7 c7 x : Nat} {row : Option Nat} (T : TouchIn w w6 c v ks) (hrow : ∀ b, row = some b → w.heap.size + 1 ≤ b) (hgr : (w6.drew.alloc (.cells #[.int .u64 (x : Nat)] 23)).grownBy w7 row) (hown : w7.ownsRow (w.heap.size + 1) 23 1 (.slice (some ⟨g7, 0, none⟩) (ks.length + 1) c7) (ks.length + 1) (numRow ks ++ [Value.int IntKind.u64 ((x : Nat) : Int)])) (h1 : ∀ a ∈ ks, a < x) :
    TouchIn w w7 c (.slice (some ⟨g7, 0, none⟩) (ks.length + 1) c7) (ks ++ [x]) := by
  have hT : TouchIn w (w6.drew.alloc (.cells #[.int .u64 (x : Nat)] 23)) c _ ks := (T.later (below_drewN (Below.refl _ _) 1)).later ((Below.refl _ _).alloc (Nat.le_refl _) _)
  refine ⟨?_, Below.grown hT.below hgr hT.below.size (fun b hb => by have := hrow b hb; omega), (hgr.block w.heap.size (Array.getElem?_eq_some_iff.1 hT.box).1 (fun e => by have := hrow _ e.symm; omega)).trans hT.box, ?_⟩
  · have e2 : numRow (ks ++ [x]) = numRow ks ++ [Value.int IntKind.u64 ((x : Nat) : Int)] := by simp [numRow]
    have e : (ks ++ [x]).length = ks.length + 1 := by simp
    unfold Nums
    rw [e, e2]
    exact hown
  · rw [List.pairwise_append]
    exact ⟨T.rise, by simp, fun a ha b hb => by simp at hb; subst hb; exact h1 a ha⟩
set_option maxRecDepth 100000 in
set_option maxHeartbeats 4000000 in
theorem touched_any {F : Nat → Prop} {w : World} (s : Int) {g0 c0 N : Nat} {bs : Nat → Nat × Nat} (hc : ∀ i, i < N → w.cell? ⟨g0, i * 2, none⟩ = some (.int .u64 ((bs i).1 : Nat))) (hg0 : g0 < w.heap.size) (hN : N ≤ 250000) (hbs : ∀ i, i < N → (bs i).1 < 18446744073709551616) :
    Calls Tryz.prog 40 #[.agg #[.int .u64 s, .slice (some ⟨g0, 0, none⟩) N c0]] w fun e w' => ∃ v ks, e = .returned v ∧ Nums w.heap.size w' v ks ∧ ks.Pairwise (· < ·) ∧ (∀ x, x ∈ ks ↔ ∃ m, m < N ∧ (bs m).1 = x) ∧ Below w.heap.size w w' ∧ ks.length ≤ N := by
  have HC : Hid _ := hc
  have HB : Hid _ := hbs
  clear hc hbs
  have S0 : Hid (TouchIn w (w.alloc (.cells #[.int .u64 s, .slice (some ⟨g0, 0, none⟩) N c0] 33)) #[.int .u64 s, .slice (some ⟨g0, 0, none⟩) N c0] (.slice none 0 0) []) := ⟨⟨rfl, .inl ⟨rfl, rfl⟩⟩, (Below.refl _ _).alloc (Nat.le_refl _) _, heap_alloc_new w _, List.Pairwise.nil⟩
  go_enter Tryz.func40, Tryz.ntmps40
  go_wp2
  go_loopw [3, 4] (fun v iv wr => ∃ (i : Nat) (ks : List Nat), i ≤ N ∧ iv = .int .i64 i ∧ ks.length ≤ i ∧ TouchIn w wr #[.int .u64 s, .slice (some ⟨g0, 0, none⟩) N c0] v ks ∧ ∀ x, x ∈ ks ↔ ∃ m, m < i ∧ (bs m).1 = x) (fun _ iv _ => N - (intOf iv).toNat)
  case atStart => exact ⟨0, [], by omega, rfl, by simp, S0.out, fun x => by simp⟩
  case round =>
    obtain ⟨i, ks, hi, rfl, hkl, hT, hmem⟩ := hrel
    clear S0
    obtain ⟨av, cv, rfl⟩ := hT.nums.form
    have M : Hid _ := hmem
    have HKL : Hid (ks.length ≤ i ∧ i ≤ N ∧ N ≤ 250000) := ⟨hkl, hi, hN⟩
    have b1 : wr.cell? ⟨w.heap.size, 1, none⟩ = some (.slice (some ⟨g0, 0, none⟩) N c0) := by simp only [World.cell?, hT.box]; rfl
    have T : Hid (TouchIn w wr _ (.slice av ks.length cv) ks) := hT
    clear hmem hT
    by_cases hin : i < N
    · have hii : (i : Int) < N := by omega
      have cx : wr.cell? ⟨g0, i * 2, none⟩ = some (.int .u64 ((bs i).1 : Nat)) := by rw [T.out.below.cell (p := ⟨g0, i * 2, none⟩) hg0]; exact HC.out i hin
      have hx := HB.out i hin
      generalize hX : (bs i).1 = x at *
      have HX : Hid _ := hX
      clear hX
      go_wp2
      go_loopw [5] (fun nv wq => ∃ n : Nat, n ≤ ks.length ∧ nv = .int .i64 n ∧ (∀ m, m < n → ks.getD m 0 < x) ∧ ∃ q, wq = wr.drewN q) (fun nv _ => ks.length - (intOf nv).toNat)
      case atStart => exact ⟨0, by omega, rfl, fun m hm => absurd hm (Nat.not_lt_zero _), 0, rfl⟩
      case round =>
        obtain ⟨n, hn, rfl, hlt, q, rfl⟩ := hrel
        have HLT : Hid _ := hlt
        clear hlt
        by_cases hnl : n < ks.length
        · obtain ⟨g, rfl, hcs⟩ := nums_cell T.out.nums (by omega)
          have cn := hcs n hnl
          have hni : (n : Int) < ks.length := by omega
          generalize hK : ks.getD n 0 = kn at *
          have HK : Hid _ := hK
          clear hK hcs
          by_cases hkx : kn < x
          · have hd : decide ((kn : Int) < (x : Int)) = true := by simp; omega
            go_wp2
            go_quiet (fail)
            go_wp2
            go_roundw
            case rel => exact ⟨n + 1, by omega, by go_num, fun m hm => by by_cases h : m < n; exact HLT.out m h; rw [show m = n from by omega, HK.out]; exact hkx, _, rfl⟩
            case measure => simp [intOf]; omega
          · have hd : decide ((kn : Int) < (x : Int)) = false := by simp; omega
            by_cases hkq : kn = x
            · have hq : ((kn : Int) == (x : Int)) = true := by simp; omega
              go_wp2
              go_quiet (fail)
              go_wp2
              go_quiet (fail)
              go_wp2
              go_roundw
              case rel =>
                refine ⟨i + 1, ks, by omega, by go_num, by omega, T.out.later (below_drewN (Below.refl _ _) _), fun y => ?_⟩
                rw [M.out y]
                constructor
                · rintro ⟨m, h1, h2⟩; exact ⟨m, by omega, h2⟩
                · rintro ⟨m, h1, h2⟩
                  by_cases hmi : m < i
                  · exact ⟨m, hmi, h2⟩
                  · obtain rfl : m = i := by omega
                    have hmem : ks.getD n 0 ∈ ks := by rw [List.getD_eq_getElem?_getD, List.getElem?_eq_getElem hnl]; exact List.getElem_mem hnl
                    rw [HK.out, hkq, ← HX.out, h2] at hmem
                    exact (M.out y).1 hmem
              case measure => simp [intOf]; omega
            · have hq : ((kn : Int) == (x : Int)) = false := by simp; omega
              have hcv := T.out.nums.room
              have hcn : ¬ cv = n := by omega
              have hci : (n : Int) ≤ (cv : Int) := by omega
              obtain ⟨i0, hinf, hz0, hz1, hz2⟩ := info_parts Tryz.info23
              go_wp2
              go_quiet (fail)
              generalize q + nq = q1 at *
              go_wp2
              go_quiet (fail)
              have T2 : Hid (TouchIn w (wr.drewN (q1 + nq)) _ (.slice (some ⟨g, 0, none⟩) ks.length cv) ks) := T.out.later (below_drewN (Below.refl _ _) _)
              have T3 : Hid (TouchIn w ((wr.drewN (q1 + nq)).alloc (.cells #[] 23)) _ (.slice (some ⟨g, 0, none⟩) ks.length cv) ks) := T2.out.later ((Below.refl _ _).alloc (Nat.le_refl _) _)
              have H3 : Hid (w.heap.size + 1 ≤ ((wr.drewN (q1 + nq)).alloc (.cells #[] 23)).heap.size) := (Nat.le_trans (World.ownsRow.lt T3.out.nums g rfl).1 (Nat.le_of_lt (World.ownsRow.lt T3.out.nums g rfl).2) : _ ≤ _)
              go_wp2_with (first | (at_builtin; go_must (refine wpList_append_lies _ rfl _ _ 103 rfl (w.heap.size + 1) 23 i0 (.int .u64 0) 1 8 Tryz.underlying103 hinf hz0 hz1 hz2 rfl (by decide) _ 0 [] rfl (World.ownsRow_made (wr.drewN (q1 + nq)) #[] 0 (by have := (World.ownsRow.lt T2.out.nums g rfl); omega) (by unfold maxLen; omega) rfl) ⟨g, n, none⟩ (ks.length - n) (cv - n) (numRow (ks.drop n)) rfl (by rw [numRow_len]; simp) (drop_cells (by obtain ⟨g', e', h'⟩ := nums_cell T3.out.nums (by omega); cases e'; exact h') n) (numRow_one _) (by omega) (by have := HKL.out; unfold maxLen; omega) (by have := HKL.out; omega) (by exact H3.out) _ rfl ?_); intro g6 cap6 w6 hown6 hgr6 hat6 hlt6))
              have hgr : World.grownBy (wr.alloc (.cells #[] 23)) w6 (some wr.heap.size) := ⟨hgr6.os, hgr6.tape, hgr6.output, hgr6.size, hgr6.block⟩
              have hga : g < wr.heap.size := (World.ownsRow.lt T.out.nums g rfl).2
              have hg6 : wr.heap.size ≤ g6 := by
                rcases hat6 with h | h
                · have h' : some wr.heap.size = some g6 := h
                  simp only [Option.some.injEq] at h'
                  omega
                · rw [h]; simp
              have hbw : w.heap.size < wr.heap.size := (Array.getElem?_eq_some_iff.1 T.out.box).1
              have T5 : Hid (TouchIn w (wr.alloc (.cells #[] 23)) #[.int .u64 s, .slice (some ⟨g0, 0, none⟩) N c0] (.slice (some ⟨g, 0, none⟩) ks.length cv) ks) := T.out.later ((Below.refl _ _).alloc (Nat.le_refl _) _)
              have T6 : Hid (TouchIn w w6 #[.int .u64 s, .slice (some ⟨g0, 0, none⟩) N c0] (.slice (some ⟨g, 0, none⟩) ks.length cv) ks) :=
                ⟨T5.out.nums.kept (fun g' hg' => by cases hg'; exact hgr.block g (World.ownsRow.lt T5.out.nums g rfl).2 (by simp only [ne_eq, Option.some.injEq]; omega)), Below.grown T5.out.below hgr T5.out.below.size (fun b hb => by cases hb; exact T.out.below.size), (hgr.block w.heap.size (by have := (Array.getElem?_eq_some_iff.1 T5.out.box).1; exact this) (by simp only [ne_eq, Option.some.injEq]; omega)).trans T5.out.box, T5.out.rise⟩
              have b6 : w6.cell? ⟨w.heap.size, 1, none⟩ = some (.slice (some ⟨g0, 0, none⟩) N c0) := by simp only [World.cell?, T6.out.box]; rfl
              have c6 : w6.cell? ⟨g0, i * 2, none⟩ = some (.int .u64 (x : Nat)) := by rw [T6.out.below.cell (p := ⟨g0, i * 2, none⟩) hg0, HC.out i hin, HX.out]
              have O6 : Hid _ := hown6
              have L6 : Hid _ := hlt6
              have G6 : Hid _ := hg6
              have HGA : Hid (g < g6 ∧ w.heap.size < g6) := ⟨by omega, by omega⟩
              have C6 : Hid (w6.ownsRow (w.heap.size + 1) 23 1 (.slice (some ⟨g, 0, none⟩) n cv) n (numRow (ks.take n))) := by
                have h := T6.out.nums.cut n (by omega)
                unfold Nums at h
                rw [show (ks.take n).length = n from by simp; omega] at h
                exact h
              have HNE : Hid (g ≠ w.heap.size ∧ g ≠ g0 ∧ w.heap.size + 1 ≤ w6.heap.size) := ⟨by have := (World.ownsRow.lt T6.out.nums g rfl).1; omega, by have := (World.ownsRow.lt T6.out.nums g rfl).1; omega, by have := (World.ownsRow.lt T6.out.nums g rfl); omega⟩
              clear hgr6 hat6 hown6 hlt6 hgr hga hg6 hbw H3 T3 T2 T5
              go_region_held_law (fun V => V.cell? ⟨w.heap.size, 1, none⟩ = some (.slice (some ⟨g0, 0, none⟩) N c0) ∧ V.cell? ⟨g0, i * 2, none⟩ = some (.int .u64 (x : Nat))) (go_keep) ((refine step_append_lies _ rfl _ _ 103 rfl (w.heap.size + 1) 23 i0 (.int .u64 0) 1 8 Tryz.underlying103 hinf hz0 hz1 hz2 rfl (by decide) _ n (numRow (ks.take n)) rfl (World.ownsRow.alloc (w := w6.drew) C6.out _) ⟨w6.heap.size, 0, none⟩ 1 1 [.int .u64 (x : Nat)] rfl (by simp) (one_new w6.drew _ _) (by intro u hu; simp at hu; subst hu; rfl) (by omega) (by have := HKL.out; unfold maxLen; omega) (by have := HKL.out; omega) (by have := HNE.out.2.2; simp; omega) _ rfl ?_; intro g7 cap7 w7 hown7 hgr7 hat7 hlt7; have k1 := far7 hgr7 w.heap.size 1 _ b6 (fun e => HNE.out.1 (by cases e; rfl)); have k2 := far7 hgr7 g0 (i * 2) _ c6 (fun e => HNE.out.2.1 (by cases e; rfl))))
              have N6 : Nums (w.heap.size + 1) w6 (.slice (some ⟨g6, 0, none⟩) (ks.length - n) cap6) (ks.drop n) := by
                have h := O6.out
                rw [Nat.zero_add, List.nil_append] at h
                unfold Nums
                rw [List.length_drop]
                exact h
              have A7 := touch7 (x := x) T6.out N6 HGA.out.1 hgr7
              have L7 : Hid (w.heap.size + 1 ≤ g7) := (World.ownsRow.lt hown7 g7 rfl).1
              have O7 : Hid (w7.ownsRow (w.heap.size + 1) 23 1 (.slice (some ⟨g7, 0, none⟩) (n + 1) cap7) (n + 1) (numRow (ks.take n) ++ [Value.int IntKind.u64 ((x : Nat) : Int)])) := hown7
              have N7 : Hid _ := A7.1
              have B7 : Hid _ := A7.2
              clear A7 N6 hgr7 hat7 hown7 hlt7 O6 L6 G6 HGA C6 HNE k1 k2 b6 c6
              go_wp2_with (first | (at_builtin; go_must (refine wpList_append_lies _ rfl _ _ 103 rfl (w.heap.size + 1) 23 i0 (.int .u64 0) 1 8 Tryz.underlying103 hinf hz0 hz1 hz2 rfl (by decide) _ (n + 1) (numRow (ks.take n) ++ [Value.int IntKind.u64 ((x : Nat) : Int)]) rfl O7.out ⟨g6, 0, none⟩ (ks.length - n) cap6 (numRow (ks.drop n)) rfl (by rw [numRow_len]; simp) (nums_lies N7.out (by simp) (by omega)) (numRow_one _) (by omega) (by have := HKL.out; unfold maxLen; omega) (by have := HKL.out; omega) (by exact B7.out.2.2) _ rfl ?_); intro g8 cap8 w8 hown8 hgr8 hat8 hlt8))
              have T8 : Hid (TouchIn w w8 #[.int .u64 s, .slice (some ⟨g0, 0, none⟩) N c0] (.slice (some ⟨g8, 0, none⟩) (n + 1 + (ks.length - n)) cap8) (ks.take n ++ [x] ++ ks.drop n)) := touch8 hn (by omega) T.out.rise (take_below ks n x hn HLT.out) (drop_above ks n x T.out.rise (fun _ => by rw [HK.out]; omega)) B7.out.1 B7.out.2.1 L7.out hgr8 hown8
              clear hgr8 hat8 hown8 hlt8 O7 N7 B7
              go_roundw
              case rel =>
                refine ⟨i + 1, ks.take n ++ [x] ++ ks.drop n, by omega, by go_num, by simp; omega, T8.out.later (below_drewN (Below.refl _ _) 0), fun y => ?_⟩
                rw [insert_mem, M.out y]
                constructor
                · rintro (⟨m, h1, h2⟩ | rfl)
                  · exact ⟨m, by omega, h2⟩
                  · exact ⟨i, by omega, HX.out⟩
                · rintro ⟨m, h1, h2⟩
                  by_cases hmi : m < i
                  · exact .inl ⟨m, hmi, h2⟩
                  · obtain rfl : m = i := by omega
                    exact .inr (h2.symm.trans HX.out)
              case measure => simp [intOf]; omega
        · obtain rfl : n = ks.length := by omega
          have hav : (av = none ∧ ks.length = 0 ∧ cv = 0) ∨ ∃ g, av = some ⟨g, 0, none⟩ := by
            rcases T.out.nums.2 with ⟨h, h0⟩ | ⟨g, cap, cur, h, _⟩
            · simp only [Value.slice.injEq] at h
              exact .inl h
            · simp only [Value.slice.injEq] at h
              exact .inr ⟨g, h.1⟩
          obtain ⟨i0, hinf, hz0, hz1, hz2⟩ := info_parts Tryz.info23
          rcases hav with ⟨rfl, hl0, rfl⟩ | ⟨g, rfl⟩
          · obtain rfl := List.length_eq_zero_iff.1 hl0
            simp only [List.length_nil] at *
            go_wp2
            go_quiet (fail)
            revert nq; intro nq1
            go_wp2
            go_quiet (fail)
            go_wp2_with (first | (at_builtin; go_must (refine wpList_append_zero rfl _ _ rfl _ 0 0 rfl (by omega) _ _ rfl ?_)))
            generalize q + nq1 + nq = q2 at *
            have T6 : Hid (TouchIn w ((wr.drewN q2).alloc (.cells #[] 23)) #[.int .u64 s, .slice (some ⟨g0, 0, none⟩) N c0] (.slice none 0 0) []) := (T.out.later (below_drewN (Below.refl _ _) _)).later ((Below.refl _ _).alloc (Nat.le_refl _) _)
            generalize (wr.drewN q2).alloc (.cells #[] 23) = w6 at *
            have b6 : w6.cell? ⟨w.heap.size, 1, none⟩ = some (.slice (some ⟨g0, 0, none⟩) N c0) := by simp only [World.cell?, T6.out.box]; rfl
            have c6 : w6.cell? ⟨g0, i * 2, none⟩ = some (.int .u64 (x : Nat)) := by rw [T6.out.below.cell (p := ⟨g0, i * 2, none⟩) hg0, HC.out i hin, HX.out]
            have C6 : Hid (w6.ownsRow (w.heap.size + 1) 23 1 (.slice none 0 0) 0 (numRow [])) := T6.out.nums
            have HROW : Hid (∀ b, Value.ownBlock (.slice none 0 0) = some b → w.heap.size + 1 ≤ b) := fun b hb => (World.ownsRow.lt T6.out.nums b hb).1
            have HNE : Hid (w.heap.size + 1 ≤ w6.heap.size) := (Array.getElem?_eq_some_iff.1 T6.out.box).1
            go_region_held_law (fun V => V.cell? ⟨w.heap.size, 1, none⟩ = some (.slice (some ⟨g0, 0, none⟩) N c0) ∧ V.cell? ⟨g0, i * 2, none⟩ = some (.int .u64 (x : Nat))) (go_keep) ((refine step_append_lies _ rfl _ _ 103 rfl (w.heap.size + 1) 23 i0 (.int .u64 0) 1 8 Tryz.underlying103 hinf hz0 hz1 hz2 rfl (by decide) _ 0 (numRow []) rfl (World.ownsRow.alloc (w := w6.drew) C6.out _) ⟨w6.heap.size, 0, none⟩ 1 1 [.int .u64 (x : Nat)] rfl (by simp) (one_new w6.drew _ _) (by intro u hu; simp at hu; subst hu; rfl) (by omega) (by have := HKL.out; unfold maxLen; omega) (by have := HKL.out; omega) (by have := HNE.out; simp; omega) _ rfl ?_; intro g7 cap7 w7 hown7 hgr7 hat7 hlt7; have k1 := far7 hgr7 w.heap.size 1 _ b6 (fun e => by have := HROW.out _ e; omega); have k2 := far7 hgr7 g0 (i * 2) _ c6 (fun e => by have := HROW.out _ e; omega)))
            have T9 : Hid (TouchIn w w7 #[.int .u64 s, .slice (some ⟨g0, 0, none⟩) N c0] (.slice (some ⟨g7, 0, none⟩) (0 + 1) cap7) ([] ++ [x])) := touch9 T6.out HROW.out hgr7 hown7 (by have := take_below [] _ x (Nat.le_refl _) HLT.out; simp)
            have hr7 : 0 + 1 ≤ cap7 := T9.out.nums.room
            clear hgr7 hat7 hown7 hlt7 HROW HNE C6 k1 k2 b6 c6
            go_wp2_with (first | (at_builtin; go_must (refine wpList_append_zero rfl _ _ rfl _ (0 + 1) cap7 rfl (by omega) _ _ rfl ?_)))
            go_roundw
            case rel =>
              refine ⟨i + 1, [] ++ [x], by omega, by go_num, by simp, T9.out, fun y => ?_⟩
              rw [List.mem_append, List.mem_singleton, M.out y]
              constructor
              · rintro (⟨m, h1, h2⟩ | rfl)
                · exact ⟨m, by omega, h2⟩
                · exact ⟨i, by omega, HX.out⟩
              · rintro ⟨m, h1, h2⟩
                by_cases hmi : m < i
                · exact .inl ⟨m, hmi, h2⟩
                · obtain rfl : m = i := by omega
                  exact .inr (h2.symm.trans HX.out)
            case measure => simp [intOf]; omega
          · have hcv := T.out.nums.room
            have hci : (ks.length : Int) ≤ (cv : Int) := by omega
            go_wp2
            go_quiet (fail)
            revert nq; intro nq1
            go_wp2
            go_quiet (fail)
            by_cases hcn : cv = ks.length
            · subst hcn
              go_wp2_with (first | (at_builtin; go_must (refine wpList_append_zero rfl _ _ rfl _ 0 0 rfl (by omega) _ _ rfl ?_)))
              generalize q + nq1 + nq = q2 at *
              have T6 : Hid (TouchIn w ((wr.drewN q2).alloc (.cells #[] 23)) #[.int .u64 s, .slice (some ⟨g0, 0, none⟩) N c0] (.slice (some ⟨g, 0, none⟩) ks.length ks.length) ks) := (T.out.later (below_drewN (Below.refl _ _) _)).later ((Below.refl _ _).alloc (Nat.le_refl _) _)
              generalize (wr.drewN q2).alloc (.cells #[] 23) = w6 at *
              have b6 : w6.cell? ⟨w.heap.size, 1, none⟩ = some (.slice (some ⟨g0, 0, none⟩) N c0) := by simp only [World.cell?, T6.out.box]; rfl
              have c6 : w6.cell? ⟨g0, i * 2, none⟩ = some (.int .u64 (x : Nat)) := by rw [T6.out.below.cell (p := ⟨g0, i * 2, none⟩) hg0, HC.out i hin, HX.out]
              have C6 : Hid (w6.ownsRow (w.heap.size + 1) 23 1 (.slice (some ⟨g, 0, none⟩) ks.length ks.length) ks.length (numRow ks)) := T6.out.nums
              have HROW : Hid (∀ b, Value.ownBlock (.slice (some ⟨g, 0, none⟩) ks.length ks.length) = some b → w.heap.size + 1 ≤ b) := fun b hb => (World.ownsRow.lt T6.out.nums b hb).1
              have HNE : Hid (w.heap.size + 1 ≤ w6.heap.size) := (Array.getElem?_eq_some_iff.1 T6.out.box).1
              go_region_held_law (fun V => V.cell? ⟨w.heap.size, 1, none⟩ = some (.slice (some ⟨g0, 0, none⟩) N c0) ∧ V.cell? ⟨g0, i * 2, none⟩ = some (.int .u64 (x : Nat))) (go_keep) ((refine step_append_lies _ rfl _ _ 103 rfl (w.heap.size + 1) 23 i0 (.int .u64 0) 1 8 Tryz.underlying103 hinf hz0 hz1 hz2 rfl (by decide) _ ks.length (numRow ks) rfl (World.ownsRow.alloc (w := w6.drew) C6.out _) ⟨w6.heap.size, 0, none⟩ 1 1 [.int .u64 (x : Nat)] rfl (by simp) (one_new w6.drew _ _) (by intro u hu; simp at hu; subst hu; rfl) (by omega) (by have := HKL.out; unfold maxLen; omega) (by have := HKL.out; omega) (by have := HNE.out; simp; omega) _ rfl ?_; intro g7 cap7 w7 hown7 hgr7 hat7 hlt7; have k1 := far7 hgr7 w.heap.size 1 _ b6 (fun e => by have := HROW.out _ e; omega); have k2 := far7 hgr7 g0 (i * 2) _ c6 (fun e => by have := HROW.out _ e; omega)))
              have T9 : Hid (TouchIn w w7 #[.int .u64 s, .slice (some ⟨g0, 0, none⟩) N c0] (.slice (some ⟨g7, 0, none⟩) (ks.length + 1) cap7) (ks ++ [x])) := touch9 T6.out HROW.out hgr7 hown7 (by have := take_below ks _ x (Nat.le_refl _) HLT.out; rwa [List.take_length] at this)
              have hr7 : ks.length + 1 ≤ cap7 := T9.out.nums.room
              clear hgr7 hat7 hown7 hlt7 HROW HNE C6 k1 k2 b6 c6
              go_wp2_with (first | (at_builtin; go_must (refine wpList_append_zero rfl _ _ rfl _ (ks.length + 1) cap7 rfl (by omega) _ _ rfl ?_)))
              go_roundw
              case rel =>
                refine ⟨i + 1, ks ++ [x], by omega, by go_num, by simp; omega, T9.out, fun y => ?_⟩
                rw [List.mem_append, List.mem_singleton, M.out y]
                constructor
                · rintro (⟨m, h1, h2⟩ | rfl)
                  · exact ⟨m, by omega, h2⟩
                  · exact ⟨i, by omega, HX.out⟩
                · rintro ⟨m, h1, h2⟩
                  by_cases hmi : m < i
                  · exact .inl ⟨m, hmi, h2⟩
                  · obtain rfl : m = i := by omega
                    exact .inr (h2.symm.trans HX.out)
              case measure => simp [intOf]; omega
            · go_wp2_with (first | (at_builtin; go_must (refine wpList_append_zero rfl _ _ rfl _ 0 0 rfl (by omega) _ _ rfl ?_)))
              generalize q + nq1 + nq = q2 at *
              have T6 : Hid (TouchIn w ((wr.drewN q2).alloc (.cells #[] 23)) #[.int .u64 s, .slice (some ⟨g0, 0, none⟩) N c0] (.slice (some ⟨g, 0, none⟩) ks.length cv) ks) := (T.out.later (below_drewN (Below.refl _ _) _)).later ((Below.refl _ _).alloc (Nat.le_refl _) _)
              generalize (wr.drewN q2).alloc (.cells #[] 23) = w6 at *
              have b6 : w6.cell? ⟨w.heap.size, 1, none⟩ = some (.slice (some ⟨g0, 0, none⟩) N c0) := by simp only [World.cell?, T6.out.box]; rfl
              have c6 : w6.cell? ⟨g0, i * 2, none⟩ = some (.int .u64 (x : Nat)) := by rw [T6.out.below.cell (p := ⟨g0, i * 2, none⟩) hg0, HC.out i hin, HX.out]
              have C6 : Hid (w6.ownsRow (w.heap.size + 1) 23 1 (.slice (some ⟨g, 0, none⟩) ks.length cv) ks.length (numRow ks)) := T6.out.nums
              have HROW : Hid (∀ b, Value.ownBlock (.slice (some ⟨g, 0, none⟩) ks.length cv) = some b → w.heap.size + 1 ≤ b) := fun b hb => (World.ownsRow.lt T6.out.nums b hb).1
              have HNE : Hid (w.heap.size + 1 ≤ w6.heap.size) := (Array.getElem?_eq_some_iff.1 T6.out.box).1
              go_region_held_law (fun V => V.cell? ⟨w.heap.size, 1, none⟩ = some (.slice (some ⟨g0, 0, none⟩) N c0) ∧ V.cell? ⟨g0, i * 2, none⟩ = some (.int .u64 (x : Nat))) (go_keep) ((refine step_append_lies _ rfl _ _ 103 rfl (w.heap.size + 1) 23 i0 (.int .u64 0) 1 8 Tryz.underlying103 hinf hz0 hz1 hz2 rfl (by decide) _ ks.length (numRow ks) rfl (World.ownsRow.alloc (w := w6.drew) C6.out _) ⟨w6.heap.size, 0, none⟩ 1 1 [.int .u64 (x : Nat)] rfl (by simp) (one_new w6.drew _ _) (by intro u hu; simp at hu; subst hu; rfl) (by omega) (by have := HKL.out; unfold maxLen; omega) (by have := HKL.out; omega) (by have := HNE.out; simp; omega) _ rfl ?_; intro g7 cap7 w7 hown7 hgr7 hat7 hlt7; have k1 := far7 hgr7 w.heap.size 1 _ b6 (fun e => by have := HROW.out _ e; omega); have k2 := far7 hgr7 g0 (i * 2) _ c6 (fun e => by have := HROW.out _ e; omega)))
              have T9 : Hid (TouchIn w w7 #[.int .u64 s, .slice (some ⟨g0, 0, none⟩) N c0] (.slice (some ⟨g7, 0, none⟩) (ks.length + 1) cap7) (ks ++ [x])) := touch9 T6.out HROW.out hgr7 hown7 (by have := take_below ks _ x (Nat.le_refl _) HLT.out; rwa [List.take_length] at this)
              have hr7 : ks.length + 1 ≤ cap7 := T9.out.nums.room
              clear hgr7 hat7 hown7 hlt7 HROW HNE C6 k1 k2 b6 c6
              go_wp2_with (first | (at_builtin; go_must (refine wpList_append_zero rfl _ _ rfl _ (ks.length + 1) cap7 rfl (by omega) _ _ rfl ?_)))
              go_roundw
              case rel =>
                refine ⟨i + 1, ks ++ [x], by omega, by go_num, by simp; omega, T9.out, fun y => ?_⟩
                rw [List.mem_append, List.mem_singleton, M.out y]
                constructor
                · rintro (⟨m, h1, h2⟩ | rfl)
                  · exact ⟨m, by omega, h2⟩
                  · exact ⟨i, by omega, HX.out⟩
                · rintro ⟨m, h1, h2⟩
                  by_cases hmi : m < i
                  · exact .inl ⟨m, hmi, h2⟩
                  · obtain rfl : m = i := by omega
                    exact .inr (h2.symm.trans HX.out)
              case measure => simp [intOf]; omega
    · obtain rfl : i = N := by omega
      go_wp2
      go_ret
      exact ⟨_, ks, rfl, T.out.nums.low (Nat.le_succ _), T.out.rise, M.out, T.out.below, HKL.out.1⟩
end Go.Proofs.YtmjdnocilbnoaaaGreat

/- The document's call Differ of layer 2. -/
namespace Go.Proofs.YtmjdnocilbnoaaaGreat
open Go.RowKit Go.Maps
set_option linter.unusedVariables false
set_option linter.unusedSimpArgs false
theorem spans_stop (A C : List Nat) (x : Nat) (most : Int) (h1 : stretchL (spans A) x = spans A ++ [(x, 1)]) (h2 : most ≤ ((spans A).length : Nat)) (h3 : ((spans A).length : Int) ≤ most ∨ (spans A).length = 0) : (spans (A ++ [x] ++ C)).take most.toNat = spans A := by
  have e : most.toNat = (spans A).length := by omega
  rw [e, spans_take (A ++ [x]) C _ (by rw [spans_snoc, h1]; simp), spans_snoc, h1]
  simp
theorem filter_take (p : Nat → Bool) (ks : List Nat) (i : Nat) (h : i < ks.length) : (ks.take (i + 1)).filter p = (ks.take i).filter p ++ if p (ks.getD i 0) then [ks.getD i 0] else [] := by
  have e : ks.take (i + 1) = ks.take i ++ [ks.getD i 0] := by
    rw [List.take_add_one, List.getD_eq_getElem?_getD, List.getElem?_eq_getElem h]; rfl
  rw [e, List.filter_append]
  congr 1
  generalize ks.getD i 0 = y
  by_cases hp : p y = true <;> simp [hp]
theorem filter_split (p : Nat → Bool) (ks : List Nat) (i : Nat) : ks.filter p = (ks.take i).filter p ++ (ks.drop i).filter p := by
  rw [← List.filter_append, List.take_append_drop]
/-- bytes with their addresses, as cells -/
def byteRow (bs : Nat → Nat × Nat) : Nat → List Value
  | 0 => []
  | n + 1 => byteRow bs n ++ [.int .u64 ((bs n).1 : Nat), .int .u8 ((bs n).2 : Nat)]
theorem byteRow_len (bs : Nat → Nat × Nat) : ∀ n, (byteRow bs n).length = n * 2
  | 0 => rfl
  | n + 1 => by simp [byteRow, byteRow_len bs n]; omega
theorem byteRow_one (bs : Nat → Nat × Nat) : ∀ n, ∀ u ∈ byteRow bs n, u.oneCell' = true
  | 0 => by simp [byteRow]
  | n + 1 => by
    intro u hu
    simp only [byteRow, List.mem_append, List.mem_cons, List.not_mem_nil, or_false] at hu
    rcases hu with hu | rfl | rfl
    · exact byteRow_one bs n u hu
    · rfl
    · rfl
/-- the first n of the one, then the other -/
def glue (bs : Nat → Nat × Nat) (n : Nat) (cs : Nat → Nat × Nat) : Nat → Nat × Nat := fun i => if i < n then bs i else cs (i - n)
theorem byteRow_same (bs cs : Nat → Nat × Nat) : ∀ n, (∀ i, i < n → bs i = cs i) → byteRow bs n = byteRow cs n
  | 0, _ => rfl
  | n + 1, h => by simp only [byteRow]; rw [byteRow_same bs cs n (fun i hi => h i (by omega)), h n (by omega)]
theorem byteRow_glue (bs cs : Nat → Nat × Nat) (n : Nat) : ∀ m, byteRow (glue bs n cs) (n + m) = byteRow bs n ++ byteRow cs m
  | 0 => by simp only [byteRow, List.append_nil, Nat.add_zero]; exact byteRow_same _ _ n (fun i hi => by simp [glue, hi])
  | m + 1 => by
    have e : glue bs n cs (n + m) = cs m := by simp [glue]; omega
    rw [← Nat.add_assoc]
    simp only [byteRow]
    rw [byteRow_glue bs cs n m, e, List.append_assoc]
theorem byteRow_cells {w : World} {g : Nat} {bs : Nat → Nat × Nat} : ∀ n, (∀ i, i < n → w.cell? ⟨g, i * 2, none⟩ = some (.int .u64 ((bs i).1 : Nat)) ∧ w.cell? ⟨g, i * 2 + 1, none⟩ = some (.int .u8 ((bs i).2 : Nat))) → ∀ j u, (byteRow bs n)[j]? = some u → w.cell? ((⟨g, 0, none⟩ : Addr).add j) = some u
  | 0, _, j, u, hu => by simp [byteRow] at hu
  | n + 1, h, j, u, hu => by
    simp only [byteRow] at hu
    by_cases hj : j < n * 2
    · rw [List.getElem?_append_left (by rw [byteRow_len]; exact hj)] at hu
      exact byteRow_cells n (fun i hi => h i (by omega)) j u hu
    · rw [List.getElem?_append_right (by rw [byteRow_len]; omega), byteRow_len] at hu
      rw [addr_add, Nat.zero_add]
      obtain ⟨h1, h2⟩ := h n (by omega)
      obtain ⟨d, rfl⟩ : ∃ d, j = n * 2 + d := ⟨j - n * 2, by omega⟩
      rw [Nat.add_sub_cancel_left] at hu
      match d, hu with
      | 0, hu => simp at hu; subst hu; exact h1
      | 1, hu => simp at hu; subst hu; exact h2
theorem byteRow_get (bs : Nat → Nat × Nat) : ∀ n i, i < n → (byteRow bs n)[i * 2]? = some (.int .u64 ((bs i).1 : Nat)) ∧ (byteRow bs n)[i * 2 + 1]? = some (.int .u8 ((bs i).2 : Nat))
  | n + 1, i, hi => by
    simp only [byteRow]
    by_cases h : i < n
    · rw [List.getElem?_append_left (by rw [byteRow_len]; omega), List.getElem?_append_left (by rw [byteRow_len]; omega)]
      exact byteRow_get bs n i h
    · obtain rfl : i = n := by omega
      rw [List.getElem?_append_right (by rw [byteRow_len]; omega), List.getElem?_append_right (by rw [byteRow_len]; omega), byteRow_len]
      simp
theorem src26 {w : World} {x : Option Addr} {c : Nat} : Src Tryz.prog 2 31 (.slice x 0 c) 0 [] w := by
  cases x with
  | none => exact Src.ofNil w Tryz.underlying31 c
  | some a => exact Src.ofSlice w Tryz.underlying31 a 0 c [] rfl (by simp) (by simp)
/-- a list of bytes is appended to one that the call owns, at a step of a region that draws -/
theorem step_append_bytes {F : Nat → Prop} {w : World} {ops : Array Oper} {o : Oper} {a : Act} {K : Act → World → Prop} {Q : Exit → Act → World → Prop} {E : Prop} (hgd : o.guard = none) (s x : Operand)
    (ho : o.op = .call { callee := .builtin .append, args := #[s, x], argTypes := #[31, 31] }) (B g n c : Nat) (bs : Nat → Nat × Nat) (hs : a.eval s = .slice (some ⟨g, 0, none⟩) n c) (hown : w.ownsRow B 134 2 (.slice (some ⟨g, 0, none⟩) n c) n (byteRow bs n))
    (v : Value) (m : Nat) (cs : Nat → Nat × Nat) (hx : a.eval x = v) (hr : RefIn F w v m cs) (hn : n + m ≤ 250000) (hB : B ≤ w.heap.size)
    (h : ∀ g' cap w', w'.ownsRow B 134 2 (.slice (some ⟨g', 0, none⟩) (n + m) cap) (n + m) (byteRow (glue bs n cs) (n + m)) → w.grownBy w' (some g) → (g' = g ∨ g' = w.heap.size) → K (a.put o.dst (.slice (some ⟨g', 0, none⟩) (n + m) cap)) w') :
    if Region.wanted o (yielded ops a.tmps) = true then Oper.wp Tryz.prog o a w K Q else E := by
  obtain ⟨i0, hi, hz0, hz1, hz2⟩ := info_parts Tryz.info134
  have hw : Region.wanted o (yielded ops a.tmps) = true := by simp [Region.wanted, hgd]
  rw [if_pos hw]
  have hzero : ∀ ax cx, m = 0 → v = .slice ax 0 cx → Oper.wp Tryz.prog o a w K Q := by
    rintro ax cx rfl rfl
    have hL : n ≤ c := by
      rcases hown.2 with ⟨h', _⟩ | ⟨g', cap', cur, h', hb, hg, hnc, hcm, hcs, htake⟩
      · simp at h'
      · simp only [Value.slice.injEq] at h'; omega
    have hrun := run_append_nothing (P := Tryz.prog) w 31 31 o.type 134 i0 Tryz.underlying31 hi (some ⟨g, 0, none⟩) n c hL (.slice ax 0 cx) (by rw [hz1]; exact src26)
    unfold Oper.wp
    simp [execOp, ho, resolve, invoke, builtin, hs, hx, hrun, Result.andThen]
    exact h g c w (by rw [byteRow_glue]; simpa [byteRow] using hown) (grown_drews w 0 _) (.inl rfl)
  rcases hr with ⟨hm, ax, cx, hv⟩ | ⟨gx, cx, hv, _, hc⟩
  · exact hzero ax cx hm hv
  · by_cases hm : m = 0
    · exact hzero _ cx hm (by rw [hv, hm])
    · refine wp_append_lies w s x 31 ho B 134 i0 (.agg #[.int .u64 0, .int .u8 0]) 2 16 Tryz.underlying31 hi hz0 hz1 hz2 rfl (by decide) _ n (byteRow bs n) hs hown ⟨gx, 0, none⟩ m cx (byteRow cs m) (by rw [hx, hv]) (byteRow_len _ _) (byteRow_cells m hc) (byteRow_one _ _) (by omega) (by unfold maxLen; omega) (by omega) hB _ rfl ?_
      intro g' cap w' h1 h2 h3 h4
      refine h g' cap w' (by rw [byteRow_glue]; exact h1) h2 ?_
      rcases h3 with h3 | h3
      · left
        have : some g = some g' := h3
        simpa using this.symm
      · exact .inr h3
end Go.Proofs.YtmjdnocilbnoaaaGreat

/- The document's call Differ of layer 2: its first statement, which lays the bytes of both memories in one list. -/
namespace Go.Proofs.YtmjdnocilbnoaaaGreat
open Go.RowKit Go.Maps
set_option linter.unusedVariables false
set_option linter.unusedSimpArgs false
/-- the two boxes of the call's arguments lie where they lay -/
structure DIn (w W : World) (ca cb : Array Value) : Prop where
  below : Below w.heap.size w W
  boxa : W.heap[w.heap.size]? = some (.cells ca 33 (0, 0))
  boxb : W.heap[w.heap.size + 1]? = some (.cells cb 33 (0, 0))
theorem DIn.size {w W : World} {ca cb : Array Value} (h : DIn w W ca cb) : w.heap.size + 2 ≤ W.heap.size := (Array.getElem?_eq_some_iff.1 h.boxb).1
theorem DIn.later {w W W' : World} {ca cb : Array Value} (h : DIn w W ca cb) (hb : Below W.heap.size W W') : DIn w W' ca cb :=
  ⟨h.below.trans (hb.mono h.below.size), below_box h.boxa hb, below_box h.boxb hb⟩
theorem DIn.drew {w W : World} {ca cb : Array Value} (h : DIn w W ca cb) : DIn w W.drew ca cb := h.later (Below.refl _ _).drew
theorem DIn.alloc {w W : World} {ca cb : Array Value} (h : DIn w W ca cb) (o : Obj) : DIn w (W.alloc o) ca cb := h.later ((Below.refl _ _).alloc (Nat.le_refl _) _)
theorem DIn.grown {w W W' : World} {ca cb : Array Value} {g : Nat} (h : DIn w W ca cb) (hg : w.heap.size + 2 ≤ g) (hgr : W.grownBy W' (some g)) : DIn w W' ca cb :=
  ⟨Below.grown h.below hgr h.below.size (fun b hb => by cases hb; omega),
   (hgr.block _ (by have := h.size; omega) (by simp only [ne_eq, Option.some.injEq]; omega)).trans h.boxa,
   (hgr.block _ (by have := h.size; omega) (by simp only [ne_eq, Option.some.injEq]; omega)).trans h.boxb⟩
theorem DIn.set {w W : World} {ca cb : Array Value} (h : DIn w W ca cb) {b : Nat} (hb : w.heap.size + 2 ≤ b) (o : Nat) (u : Value) : DIn w (W.setCell ⟨b, o, none⟩ u) ca cb :=
  ⟨h.below.setCell (p := ⟨b, o, none⟩) (show w.heap.size ≤ b by omega) u, (heap_setCell W b o u _ (by omega)).trans h.boxa, (heap_setCell W b o u _ (by omega)).trans h.boxb⟩
theorem DIn.cells {w W : World} {a b c d : Value} (h : DIn w W #[a, b] #[c, d]) : W.cell? ⟨w.heap.size, 1, none⟩ = some b ∧ W.cell? ⟨w.heap.size + 1, 1, none⟩ = some d :=
  ⟨(box_facts h.boxa).2.1, (box_facts h.boxb).2.1⟩
theorem own_empty {w W : World} {ca cb : Array Value} (g : Nat) (h : DIn w W ca cb) (hg : g = W.heap.size) (bs : Nat → Nat × Nat) : (W.alloc (.cells #[] 134)).ownsRow (w.heap.size + 2) 134 2 (.slice (some ⟨g, 0, none⟩) 0 0) 0 (byteRow bs 0) := by
  subst hg
  exact ⟨rfl, .inr ⟨W.heap.size, 0, #[], rfl, h.size, heap_alloc_new W _, Nat.le_refl _, by unfold maxLen; omega, rfl, rfl⟩⟩
theorem at_alloc (W : World) (o : Obj) (k : Nat) (h : k = W.heap.size) : (W.alloc o).heap[k]? = some o := by subst h; exact heap_alloc_new W o
theorem at_past {W : World} {o' : Obj} {k : Nat} (h : W.heap[k]? = some o') (o : Obj) : (W.alloc o).heap[k]? = some o' := (heap_alloc_old W o (Array.getElem?_eq_some_iff.1 h).1).trans h
theorem at_drew {W : World} {o' : Obj} {k : Nat} (h : W.heap[k]? = some o') : W.drew.heap[k]? = some o' := h
theorem at_grown {W W' : World} {o' : Obj} {k g : Nat} (h : W.heap[k]? = some o') (hgr : W.grownBy W' (some g)) (hne : k ≠ g) : W'.heap[k]? = some o' := (hgr.block k (Array.getElem?_eq_some_iff.1 h).1 (by simp only [ne_eq, Option.some.injEq]; exact hne)).trans h
/-- what the list of both holds -/
theorem row_cells {B : Nat} {W : World} {g n c : Nat} {bs : Nat → Nat × Nat} (h : W.ownsRow B 134 2 (.slice (some ⟨g, 0, none⟩) n c) n (byteRow bs n)) : ∀ i, i < n → W.cell? ⟨g, i * 2, none⟩ = some (.int .u64 ((bs i).1 : Nat)) := by
  intro i hi
  have := World.ownsRow.cells h (g := g) rfl _ _ (byteRow_get bs n i hi).1
  rw [addr_add, Nat.zero_add] at this
  exact this
end Go.Proofs.YtmjdnocilbnoaaaGreat
