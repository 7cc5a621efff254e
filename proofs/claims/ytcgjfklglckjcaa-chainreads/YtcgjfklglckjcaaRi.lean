/- The document's Word; Desc on both sides. -/
import Derived.Test.YtcgjfklglckjcaaRf
import Derived.Test.YtcgjfklglckjcaaRh
import Derived.Laws.Tables
namespace Go.Proofs.Ytcgjfklglckjcaa
open Go.RowKit Go.Maps
set_option linter.unusedVariables false
set_option linter.unusedSimpArgs false
set_option maxRecDepth 100000
/-- the word of L bytes at a place, 0 of none -/
def wordN (M : Nat → Nat) (x L s : Nat) : Nat := if inB x L 2147483648 s = true then h256 (fun i => M (x + i)) L 0 else 0
theorem wordN_lt {M : Nat → Nat} (hM : ∀ a, M a ≤ 255) (x L s : Nat) : wordN M x L s < 256 ^ L := by
  unfold wordN
  split
  · exact h256_lt _ L 0 (fun j _ => hM _)
  · exact Nat.pow_pos (by decide)
theorem rword_any (F : Nat → Prop) (w : World) (s x L n : Nat) (va : Option Addr) (vc : Nat) (bs : Nat → Nat × Nat) (M : Nat → Nat) (h : RefIn F w (.slice va n vc) n bs) (hM : ∀ a, rget bs n a = M a) (hle : ∀ a, M a ≤ 255) (hn : n ≤ 1000000) (hs : s ≤ 268435456) (hx : x < 18446744073709551616) (hL : L ≤ 8) :
    Calls Try.prog 71 #[.agg #[.int .u64 (s : Nat), .slice va n vc], .int .u64 (x : Nat), .int .i64 (L : Int)] w fun e w' => e = .returned (.int .u64 (wordN M x L s : Nat)) ∧ Below w.heap.size w w' := by
  have eL : IntKind.u64.wrap (L : Int) = (L : Int) := by rw [wrap_u64]; omega
  have B0 : Hid (RefIn F (w.alloc (.cells #[.int .u64 (s : Nat), .slice va n vc] 32)) (.slice va n vc) n bs ∧ Below w.heap.size w (w.alloc (.cells #[.int .u64 (s : Nat), .slice va n vc] 32))) := ⟨h.below ((Below.refl _ _).alloc (Nat.le_refl _) _), (Below.refl _ _).alloc (Nat.le_refl _) _⟩
  have HM : Hid ((∀ a, rget bs n a = M a) ∧ ∀ a, M a ≤ 255) := ⟨hM, hle⟩
  clear h hM hle
  cases hin : inB x L 2147483648 s with
  | false =>
    have HI : Hid (inB x L 2147483648 s = false) := hin
    clear hin
    go_enter Try.func71, Try.ntmps71
    go_wp2_with fail
    refine (rread_out F _ s x L _ (by omega) hx (by omega) HI.out).mono ?_
    rintro e w1 ⟨rfl, hb1⟩
    have X1 : Hid (Below w.heap.size w w1) := below_to B0.out.2 hb1
    clear hb1 B0
    go_wp2_with fail
    refine (rof_any (fun _ => 0) 0 0 _ (by decide) (by decide) (fun i hi => by omega) _ (.inl ⟨rfl, _, _, rfl⟩)).mono ?_
    rintro e w2 ⟨rfl, hw⟩
    rw [hw]
    clear hw w2
    go_wp2_with fail
    go_ret
    exact ⟨by simp [wordN, HI.out, h256], X1.out⟩
  | true =>
    have HI : Hid (inB x L 2147483648 s = true) := hin
    clear hin
    go_enter Try.func71, Try.ntmps71
    go_wp2_with fail
    refine (rread_in F _ s x L n _ bs B0.out.1 hn hs hx (by omega) HI.out).mono ?_
    rintro e w1 ⟨g, rfl, ho, hb1⟩
    have X1 : Hid (Below w.heap.size w w1 ∧ Reads .u8 w1 (.slice (some ⟨g, 0, none⟩) L L) L (fun i => rget bs n (x + i))) := ⟨below_to B0.out.2 hb1, reads_own ho⟩
    clear hb1 B0 ho
    go_wp2_with fail
    refine (rof_any (fun i => rget bs n (x + i)) L L _ (by omega) (by omega) (fun i hi => by rw [HM.out.1]; exact HM.out.2 _) _ X1.out.2).mono ?_
    rintro e w2 ⟨rfl, hw⟩
    rw [hw]
    clear hw w2
    go_wp2_with fail
    go_ret
    have e1 : (fun i => rget bs n (x + i)) = fun i => M (x + i) := funext fun i => HM.out.1 _
    exact ⟨by simp only [wordN, HI.out, if_true]; rw [← e1]; rfl, X1.out.1⟩
theorem reads_cut {w : World} {g n N c : Nat} {f : Nat → Nat} (h : Reads .u8 w (.slice (some ⟨g, 0, none⟩) N c) N f) (o cc : Nat) (ho : o + n ≤ N) : Reads .u8 w (.slice (some ⟨g, o, none⟩) n cc) n (fun i => f (o + i)) := by
  by_cases hn : n = 0
  · subst hn; exact .inl ⟨rfl, _, _, rfl⟩
  · obtain ⟨b, off, cap, hv, hc⟩ := reads_some h (by omega)
    simp only [Value.slice.injEq, Option.some.injEq, Addr.mk.injEq, and_true, true_and] at hv
    obtain ⟨⟨rfl, rfl⟩, rfl⟩ := hv
    refine .inr ⟨g, o, cc, rfl, fun i hi => ?_⟩
    have := hc (o + i) (by omega)
    rwa [Nat.zero_add] at this
theorem byteAt_h256 (f : Nat → Nat) (hf : ∀ j, f j ≤ 255) : ∀ (m k i : Nat), i < m → byteAt (h256 f m k) i = f (k + i)
  | 0, k, i, h => by omega
  | m + 1, k, 0, _ => by
    have := hf k
    simp only [byteAt, h256, Nat.pow_zero, Nat.div_one, Nat.add_zero]
    omega
  | m + 1, k, i + 1, h => by
    have h1 := byteAt_h256 f hf m (k + 1) i (by omega)
    have := hf k
    rw [show k + (i + 1) = k + 1 + i from by omega, ← h1]
    simp only [byteAt, h256]
    rw [Nat.pow_succ, Nat.mul_comm (256 ^ i) 256, ← Nat.div_div_eq_div_mul]
    rw [show (h256 f m (k + 1) * 256 + f k) / 256 = h256 f m (k + 1) from by omega]
/-- a descriptor that lies at a place -/
structure DescAt (M : Nat → Nat) (x v0 v1 v2 v3 : Nat) : Prop where
  e0 : h256 (fun i => M (x + i)) 8 0 = v0
  e1 : h256 (fun i => M (x + (8 + i))) 4 0 = v1
  e2 : h256 (fun i => M (x + (12 + i))) 2 0 = v2
  e3 : h256 (fun i => M (x + (14 + i))) 2 0 = v3
theorem DescAt.lt {M : Nat → Nat} {x v0 v1 v2 v3 : Nat} (h : DescAt M x v0 v1 v2 v3) (hM : ∀ a, M a ≤ 255) : v0 < 18446744073709551616 ∧ v1 ≤ 4294967295 ∧ v2 ≤ 65535 ∧ v3 ≤ 65535 := by
  have h0 := h256_lt (fun i => M (x + i)) 8 0 (fun j _ => hM _)
  have h1 := h256_lt (fun i => M (x + (8 + i))) 4 0 (fun j _ => hM _)
  have h2 := h256_lt (fun i => M (x + (12 + i))) 2 0 (fun j _ => hM _)
  have h3 := h256_lt (fun i => M (x + (14 + i))) 2 0 (fun j _ => hM _)
  rw [h.e0] at h0
  rw [h.e1] at h1
  rw [h.e2] at h2
  rw [h.e3] at h3
  exact ⟨by omega, by omega, by omega, by omega⟩
theorem DescAt.bytes {M : Nat → Nat} {x v0 v1 v2 v3 : Nat} (h : DescAt M x v0 v1 v2 v3) (hM : ∀ a, M a ≤ 255) : ∀ i, i < 16 → dB v0 v1 v2 v3 i = M (x + i) := by
  intro i hi
  unfold dB catF
  split
  · split
    · split
      · rw [← h.e0, byteAt_h256 _ (fun _ => hM _) 8 0 i (by omega)]; simp
      · rw [← h.e1, byteAt_h256 _ (fun _ => hM _) 4 0 _ (by omega)]; congr 1; omega
    · rw [← h.e2, byteAt_h256 _ (fun _ => hM _) 2 0 _ (by omega)]; congr 1; omega
  · rw [← h.e3, byteAt_h256 _ (fun _ => hM _) 2 0 _ (by omega)]; congr 1; omega
theorem info47 : (Try.prog.info? 92).map (·.size) = some 4 := by kernel_rfl
theorem desc_no (p : Value) (t : Nat) (i : Int) (hi : i < 0 ∨ 255 < i) (w : World) : Calls Try.prog 58 #[p, .int .u64 (t : Nat), .int .i64 i] w fun e w' => e = .returned (.tuple #[.agg #[.int .u64 0, .int .u32 0, .int .u16 0, .int .u16 0], .bool false]) ∧ Below w.heap.size w w' := by
  rcases hi with hi | hi
  · go_enter Try.func58, Try.ntmps58
    go_wp2_with fail
    refine bodyPost_ret (v := .tuple #[.agg #[.int .u64 0, .int .u32 0, .int .u16 0, .int .u16 0], .bool false]) (by simp [results, Try.results58, go_sem]) rfl ⟨rfl, ?_⟩
    exact (Below.refl _ _).alloc (Nat.le_refl _) _
  · have h0 : ¬ i < 0 := by omega
    have h1 : (256 : Int) ≤ i := by omega
    go_enter Try.func58, Try.ntmps58
    go_wp2_with fail
    refine bodyPost_ret (v := .tuple #[.agg #[.int .u64 0, .int .u32 0, .int .u16 0, .int .u16 0], .bool false]) (by simp [results, Try.results58, go_sem]) rfl ⟨rfl, ?_⟩
    exact (Below.refl _ _).alloc (Nat.le_refl _) _
theorem desc_out {w : World} {F : Nat → Prop} {rb n : Nat} {M : Nat → Nat} (h : RamAt w F rb 8192 n (.pointer none) M) (t x k : Nat) (hk : k ≤ 255) (hx : x = (t + 16 * k) % 18446744073709551616) (hin : inB x 16 2147483648 8192 = false) : Calls Try.prog 58 #[.pointer (some ⟨rb, 0, none⟩), .int .u64 (t : Nat), .int .i64 (k : Int)] w fun e w' => e = .returned (.tuple #[.agg #[.int .u64 0, .int .u32 0, .int .u16 0, .int .u16 0], .bool false]) ∧ Below w.heap.size w w' := by
  have h1 : ¬ (256 : Int) ≤ (k : Int) := by omega
  have h2 : ¬ (k : Int) < 0 := by omega
  have h3 : IntKind.u64.wrap (k : Int) = (k : Int) := by rw [wrap_u64]; omega
  have h4 : IntKind.u64.wrap (16 * (k : Int)) = 16 * (k : Int) := by rw [wrap_u64]; omega
  have h5 : IntKind.u64.wrap ((t : Int) + 16 * (k : Int)) = (x : Int) := by rw [wrap_u64]; omega
  have HX : Hid (x < 18446744073709551616 ∧ inB x 16 2147483648 8192 = false) := ⟨by omega, hin⟩
  have HR : Hid (RamAt (w.alloc (.cells #[.int .u64 0, .int .u32 0, .int .u16 0, .int .u16 0] 92)) F rb 8192 n (.pointer none) M) := h.below ((Below.refl _ _).alloc (Nat.le_refl _) _)
  clear hx hin
  go_enter Try.func58, Try.ntmps58
  go_wp2_with fail
  refine (read_out HR.out (by omega) x 16 HX.out.1 (by omega) HX.out.2).mono ?_
  rintro e w1 ⟨rfl, hw⟩
  rw [hw]
  clear hw w1
  go_wp2_with fail
  refine bodyPost_ret (v := .tuple #[.agg #[.int .u64 0, .int .u32 0, .int .u16 0, .int .u16 0], .bool false]) (by simp [results, Try.results58, go_sem]) rfl ⟨rfl, ?_⟩
  exact (Below.refl _ _).alloc (Nat.le_refl _) _
theorem reads_head {w : World} {g N c : Nat} {f : Nat → Nat} (h : Reads .u8 w (.slice (some ⟨g, 0, none⟩) N c) N f) (n cc : Nat) (ho : n ≤ N) : Reads .u8 w (.slice (some ⟨g, 0, none⟩) n cc) n f := by
  have := reads_cut (n := n) h 0 cc (by omega)
  have e : (fun i => f (0 + i)) = f := funext fun i => by rw [Nat.zero_add]
  rwa [e] at this
set_option maxHeartbeats 1000000 in
theorem desc_in {w : World} {F : Nat → Prop} {rb n : Nat} {M : Nat → Nat} (h : RamAt w F rb 8192 n (.pointer none) M) (t x k : Nat) (hk : k ≤ 255) (hx : x = (t + 16 * k) % 18446744073709551616) (hin : inB x 16 2147483648 8192 = true) (v0 v1 v2 v3 : Nat) (hd : DescAt M x v0 v1 v2 v3) : Calls Try.prog 58 #[.pointer (some ⟨rb, 0, none⟩), .int .u64 (t : Nat), .int .i64 (k : Int)] w fun e w' => e = .returned (.tuple #[.agg #[.int .u64 (v0 : Int), .int .u32 (v1 : Int), .int .u16 (v2 : Int), .int .u16 (v3 : Int)], .bool true]) ∧ Below w.heap.size w w' := by
  have h1 : ¬ (256 : Int) ≤ (k : Int) := by omega
  have h2 : ¬ (k : Int) < 0 := by omega
  have h3 : IntKind.u64.wrap (k : Int) = (k : Int) := by rw [wrap_u64]; omega
  have h4 : IntKind.u64.wrap (16 * (k : Int)) = 16 * (k : Int) := by rw [wrap_u64]; omega
  have h5 : IntKind.u64.wrap ((t : Int) + 16 * (k : Int)) = (x : Int) := by rw [wrap_u64]; omega
  have HX : Hid (x < 18446744073709551616 ∧ inB x 16 2147483648 8192 = true) := ⟨by omega, hin⟩
  have HR : Hid (RamAt (w.alloc (.cells #[.int .u64 0, .int .u32 0, .int .u16 0, .int .u16 0] 92)) F rb 8192 n (.pointer none) M ∧ (w.alloc (.cells #[.int .u64 0, .int .u32 0, .int .u16 0, .int .u16 0] 92)).heap[w.heap.size]? = some (.cells #[.int .u64 0, .int .u32 0, .int .u16 0, .int .u16 0] 92 (0, 0)) ∧ Below w.heap.size w (w.alloc (.cells #[.int .u64 0, .int .u32 0, .int .u16 0, .int .u16 0] 92))) := ⟨h.below ((Below.refl _ _).alloc (Nat.le_refl _) _), heap_alloc_new _ _, (Below.refl _ _).alloc (Nat.le_refl _) _⟩
  have HM : Hid (∀ a, M a ≤ 255) := h.le
  have HD : Hid (DescAt M x v0 v1 v2 v3) := hd
  have hlt := hd.lt h.le
  have u1 : IntKind.u32.wrap (v1 : Int) = (v1 : Int) := by simp [IntKind.wrap, IntKind.signed, IntKind.bits]; omega
  have u2 : IntKind.u16.wrap (v2 : Int) = (v2 : Int) := by rw [wrap16]; omega
  have u3 : IntKind.u16.wrap (v3 : Int) = (v3 : Int) := by rw [wrap16]; omega
  clear hx hin hlt hd h
  go_enter Try.func58, Try.ntmps58
  go_upto_region 3 with fail
  generalize (w.alloc (.cells #[.int .u64 0, .int .u32 0, .int .u16 0, .int .u16 0] 92)) = w0 at *
  go_wp2_with fail
  refine (read_in HR.out.1 (by omega) x 16 HX.out.1 (by omega) HX.out.2).mono ?_
  rintro e w1 ⟨rfl, ho, hb1⟩
  have X1 : Hid (w1.heap[w.heap.size]? = some (.cells #[.int .u64 0, .int .u32 0, .int .u16 0, .int .u16 0] 92 (0, 0)) ∧ Below w.heap.size w w1 ∧ Reads .u8 w1 (.slice (some ⟨w0.heap.size, 0, none⟩) 16 16) 16 (fun i => M (x + i))) := ⟨below_box HR.out.2.1 hb1, below_to HR.out.2.2 hb1, reads_own ho⟩
  clear ho hb1 HR
  generalize w0.heap.size = g at *
  go_upto_region 6 with fail
  have X2 : Hid (w1.drew.heap[w.heap.size]? = some (.cells #[.int .u64 0, .int .u32 0, .int .u16 0, .int .u16 0] 92 (0, 0)) ∧ Below w.heap.size w w1.drew ∧ Reads .u8 w1.drew (.slice (some ⟨g, 0, none⟩) 16 16) 16 (fun i => M (x + i))) := ⟨X1.out.1, X1.out.2.1.drew, reads_below X1.out.2.2 (Below.drew (Below.refl _ _))⟩
  clear X1
  refine wp_region_held_drew (S := fun _ => True) (by kernel_rfl) trivial ?_
  intro hS
  generalize w1.drew = w2 at *
  have X1 := X2
  clear X2
  refine wpAnyH_take (i := 0) (v := ?_) rfl (by kernel_rfl) (by kernel_rfl) (by kernel_rfl) (fun _ _ _ h => h) (Or.inl ⟨by kernel_rfl, ?_⟩) hS ?_
  rotate_left
  · intro w hSw; (try dsimp only at hSw); go_simp; try (with_reducible rfl)
  (try simp only [Act.put, List.getElem_toArray, List.getElem_cons_succ, List.getElem_cons_zero, List.setIfInBounds_toArray, List.set_cons_zero, List.set_cons_succ])
  refine wpAnyH_take (i := 1) (v := ?_) rfl (by kernel_rfl) (by kernel_rfl) (by kernel_rfl) (fun _ _ _ h => h) (Or.inl ⟨by kernel_rfl, ?_⟩) hS ?_
  rotate_left
  · intro w hSw; (try dsimp only at hSw); go_simp; try (with_reducible rfl)
  (try simp only [Act.put, List.getElem_toArray, List.getElem_cons_succ, List.getElem_cons_zero, List.setIfInBounds_toArray, List.set_cons_zero, List.set_cons_succ])
  refine wpAnyH_take (i := 3) (v := ?_) rfl (by kernel_rfl) (by kernel_rfl) (by kernel_rfl) (fun _ _ _ h => h) (Or.inl ⟨by kernel_rfl, ?_⟩) hS ?_
  rotate_left
  · intro w hSw; (try dsimp only at hSw); go_simp; try (with_reducible rfl)
  (try simp only [Act.put, List.getElem_toArray, List.getElem_cons_succ, List.getElem_cons_zero, List.setIfInBounds_toArray, List.set_cons_zero, List.set_cons_succ])
  refine wpAnyH_take (i := 4) (v := ?_) rfl (by kernel_rfl) (by kernel_rfl) (by kernel_rfl) (fun _ _ _ h => h) (Or.inl ⟨by kernel_rfl, ?_⟩) hS ?_
  rotate_left
  · intro w hSw; (try dsimp only at hSw); go_simp; try (with_reducible rfl)
  (try simp only [Act.put, List.getElem_toArray, List.getElem_cons_succ, List.getElem_cons_zero, List.setIfInBounds_toArray, List.set_cons_zero, List.set_cons_succ])
  refine wpAnyH_take (i := 7) (v := ?_) rfl (by kernel_rfl) (by kernel_rfl) (by kernel_rfl) (fun _ _ _ h => h) (Or.inl ⟨by kernel_rfl, ?_⟩) hS ?_
  rotate_left
  · intro w hSw; (try dsimp only at hSw); go_simp; try (with_reducible rfl)
  (try simp only [Act.put, List.getElem_toArray, List.getElem_cons_succ, List.getElem_cons_zero, List.setIfInBounds_toArray, List.set_cons_zero, List.set_cons_succ])
  refine wpAnyH_take (i := 8) (v := ?_) rfl (by kernel_rfl) (by kernel_rfl) (by kernel_rfl) (fun _ _ _ h => h) (Or.inl ⟨by kernel_rfl, ?_⟩) hS ?_
  rotate_left
  · intro w hSw; (try dsimp only at hSw); go_simp; try (with_reducible rfl)
  (try simp only [Act.put, List.getElem_toArray, List.getElem_cons_succ, List.getElem_cons_zero, List.setIfInBounds_toArray, List.set_cons_zero, List.set_cons_succ])
  refine wpAnyH_take (i := 11) (v := ?_) rfl (by kernel_rfl) (by kernel_rfl) (by kernel_rfl) (fun _ _ _ h => h) (Or.inl ⟨by kernel_rfl, ?_⟩) hS ?_
  rotate_left
  · intro w hSw; (try dsimp only at hSw); go_simp; try (with_reducible rfl)
  (try simp only [Act.put, List.getElem_toArray, List.getElem_cons_succ, List.getElem_cons_zero, List.setIfInBounds_toArray, List.set_cons_zero, List.set_cons_succ])
  refine wpAnyH_take (i := 12) (v := ?_) rfl (by kernel_rfl) (by kernel_rfl) (by kernel_rfl) (fun _ _ _ h => h) (Or.inl ⟨by kernel_rfl, ?_⟩) hS ?_
  rotate_left
  · intro w hSw; (try dsimp only at hSw); go_simp; try (with_reducible rfl)
  (try simp only [Act.put, List.getElem_toArray, List.getElem_cons_succ, List.getElem_cons_zero, List.setIfInBounds_toArray, List.set_cons_zero, List.set_cons_succ])
  refine wpAnyH_ready (rs := [2]) (by kernel_rfl) (by simp) ?_
  refine AllReadyH.cons rfl (fun K1 hK1 => ?_) AllReadyH.nil
  go_simp
  refine (of_any (fun i => M (x + i)) 8 8 _ (by decide) (by decide) (fun i _ => HM.out _) _ (reads_head X1.out.2.2 8 _ (by decide))).mono ?_
  rintro e w10 ⟨rfl, hw⟩
  rw [hw, HD.out.e0]
  clear hw w10
  refine hK1.out _ _ trivial (fun hS10 => ?_)
  clear hK1 K1 hS
  (try simp only [Act.put, List.getElem_toArray, List.getElem_cons_succ, List.getElem_cons_zero, List.setIfInBounds_toArray, List.set_cons_zero, List.set_cons_succ])
  refine wpAnyH_ready (rs := [5]) (by kernel_rfl) (by simp) ?_
  refine AllReadyH.cons rfl (fun K1 hK1 => ?_) AllReadyH.nil
  go_simp
  refine (of_any (fun i => M (x + (8 + i))) 4 4 _ (by decide) (by decide) (fun i _ => HM.out _) _ (reads_cut (n := 4) X1.out.2.2 8 _ (by decide))).mono ?_
  rintro e w11 ⟨rfl, hw⟩
  rw [hw, HD.out.e1]
  clear hw w11
  refine hK1.out _ _ trivial (fun hS11 => ?_)
  clear hK1 K1 hS10
  (try simp only [Act.put, List.getElem_toArray, List.getElem_cons_succ, List.getElem_cons_zero, List.setIfInBounds_toArray, List.set_cons_zero, List.set_cons_succ])
  refine wpAnyH_take (i := 6) (v := ?_) rfl (by kernel_rfl) (by kernel_rfl) (by kernel_rfl) (fun _ _ _ h => h) (Or.inl ⟨by kernel_rfl, ?_⟩) hS11 ?_
  rotate_left
  · intro w hSw; (try dsimp only at hSw); go_simp; try (with_reducible rfl)
  (try simp only [Act.put, List.getElem_toArray, List.getElem_cons_succ, List.getElem_cons_zero, List.setIfInBounds_toArray, List.set_cons_zero, List.set_cons_succ])
  refine wpAnyH_ready (rs := [9]) (by kernel_rfl) (by simp) ?_
  refine AllReadyH.cons rfl (fun K1 hK1 => ?_) AllReadyH.nil
  go_simp
  refine (of_any (fun i => M (x + (12 + i))) 2 2 _ (by decide) (by decide) (fun i _ => HM.out _) _ (reads_cut (n := 2) X1.out.2.2 12 _ (by decide))).mono ?_
  rintro e w12 ⟨rfl, hw⟩
  rw [hw, HD.out.e2]
  clear hw w12
  refine hK1.out _ _ trivial (fun hS12 => ?_)
  clear hK1 K1 hS11
  (try simp only [Act.put, List.getElem_toArray, List.getElem_cons_succ, List.getElem_cons_zero, List.setIfInBounds_toArray, List.set_cons_zero, List.set_cons_succ])
  refine wpAnyH_take (i := 10) (v := ?_) rfl (by kernel_rfl) (by kernel_rfl) (by kernel_rfl) (fun _ _ _ h => h) (Or.inl ⟨by kernel_rfl, ?_⟩) hS12 ?_
  rotate_left
  · intro w hSw; (try dsimp only at hSw); go_simp; try (with_reducible rfl)
  (try simp only [Act.put, List.getElem_toArray, List.getElem_cons_succ, List.getElem_cons_zero, List.setIfInBounds_toArray, List.set_cons_zero, List.set_cons_succ])
  refine wpAnyH_ready (rs := [13]) (by kernel_rfl) (by simp) ?_
  refine AllReadyH.cons rfl (fun K1 hK1 => ?_) AllReadyH.nil
  go_simp
  refine (of_any (fun i => M (x + (14 + i))) 2 2 _ (by decide) (by decide) (fun i _ => HM.out _) _ (reads_cut (n := 2) X1.out.2.2 14 _ (by decide))).mono ?_
  rintro e w13 ⟨rfl, hw⟩
  rw [hw, HD.out.e3]
  clear hw w13
  refine hK1.out _ _ trivial (fun hS13 => ?_)
  clear hK1 K1 hS12
  (try simp only [Act.put, List.getElem_toArray, List.getElem_cons_succ, List.getElem_cons_zero, List.setIfInBounds_toArray, List.set_cons_zero, List.set_cons_succ])
  refine wpAnyH_take (i := 14) (v := ?_) rfl (by kernel_rfl) (by kernel_rfl) (by kernel_rfl) (fun _ _ _ h => h) (Or.inl ⟨by kernel_rfl, ?_⟩) hS13 ?_
  rotate_left
  · intro w hSw; (try dsimp only at hSw); go_simp; try (with_reducible rfl)
  (try simp only [Act.put, List.getElem_toArray, List.getElem_cons_succ, List.getElem_cons_zero, List.setIfInBounds_toArray, List.set_cons_zero, List.set_cons_succ])
  refine wpAnyH_take (i := 15) (v := ?_) rfl (by kernel_rfl) (by kernel_rfl) (by kernel_rfl) (fun _ _ _ h => h) (Or.inl ⟨by kernel_rfl, ?_⟩) hS13 ?_
  rotate_left
  · intro w hSw; (try dsimp only at hSw); go_simp; try (with_reducible rfl)
  (try simp only [Act.put, List.getElem_toArray, List.getElem_cons_succ, List.getElem_cons_zero, List.setIfInBounds_toArray, List.set_cons_zero, List.set_cons_succ])
  refine wpAnyH_ready (rs := [16]) (by kernel_rfl) (by simp) ?_
  refine AllReadyH.cons rfl (fun K1 hK1 => ?_) AllReadyH.nil
  rw [if_pos (by kernel_rfl)]
  refine wp_store_row 92 _ _ rfl w.heap.size #[.int .u64 (v0 : Int), .int .u32 (v1 : Int), .int .u16 (v2 : Int), .int .u16 (v3 : Int)] rfl rfl 92 #[.int .u64 0, .int .u32 0, .int .u16 0, .int .u16 0] X1.out.1 info47 rfl (by simp [Value.oneCell']) ?_
  have Y : Hid ((w2.setRow w.heap.size #[.int .u64 (v0 : Int), .int .u32 (v1 : Int), .int .u16 (v2 : Int), .int .u16 (v3 : Int)]).heap[w.heap.size]? = some (.cells #[.int .u64 (v0 : Int), .int .u32 (v1 : Int), .int .u16 (v2 : Int), .int .u16 (v3 : Int)] 92 (0, 0)) ∧ Below w.heap.size w (w2.setRow w.heap.size #[.int .u64 (v0 : Int), .int .u32 (v1 : Int), .int .u16 (v2 : Int), .int .u16 (v3 : Int)])) := ⟨setRow_heap _ _ _ _ _ _ X1.out.1, below_setRow X1.out.2.1 (Nat.le_refl _) _⟩
  generalize w2.setRow w.heap.size #[.int .u64 (v0 : Int), .int .u32 (v1 : Int), .int .u16 (v2 : Int), .int .u16 (v3 : Int)] = w9 at *
  refine hK1.out _ _ trivial (fun hS20 => ?_)
  clear hK1 K1 hS13
  (try simp only [Act.put, List.getElem_toArray, List.getElem_cons_succ, List.getElem_cons_zero, List.setIfInBounds_toArray, List.set_cons_zero, List.set_cons_succ])
  refine wpAnyH_take (i := 17) (v := ?_) rfl (by kernel_rfl) (by kernel_rfl) (by kernel_rfl) (fun _ _ _ h => h) (Or.inl ⟨by kernel_rfl, ?_⟩) hS20 ?_
  rotate_left
  · intro w hSw; (try dsimp only at hSw); go_simp; try (with_reducible rfl)
  (try simp only [Act.put, List.getElem_toArray, List.getElem_cons_succ, List.getElem_cons_zero, List.setIfInBounds_toArray, List.set_cons_zero, List.set_cons_succ])
  refine wpAnyH_done (by kernel_rfl) ?_ _
  clear hS20
  obtain ⟨c0, c1, c2, c3⟩ := box4_facts Y.out.1
  go_wp2_with fail
  refine bodyPost_ret (v := .tuple #[.agg #[.int .u64 (v0 : Int), .int .u32 (v1 : Int), .int .u16 (v2 : Int), .int .u16 (v3 : Int)], .bool true]) (by simp [results, Try.results58, go_sem, c0, c1, c2, c3]) rfl ⟨rfl, Y.out.2⟩
end Go.Proofs.Ytcgjfklglckjcaa
