/- The call 'do' of the statements of layer 2: a call at both memories is answered alike, and both hold the same bytes again. -/
import Derived.Test.YtbodmgihoklhiaaBoth
import Derived.Deep.RegionHeld3
namespace Go.Proofs.Ytbodmgihoklhiaa
open Go.RowKit Go.Maps
set_option linter.unusedVariables false
theorem boxes3 {w w1 : World} {o1 o2 o3 : Obj} (hb : Below (((w.alloc o1).alloc o2).alloc o3).heap.size (((w.alloc o1).alloc o2).alloc o3) w1) :
    w1.heap[w.heap.size]? = some o1 ∧ w1.heap[w.heap.size + 1]? = some o2 ∧ w1.heap[w.heap.size + 1 + 1]? = some o3 ∧ Below w.heap.size w w1 ∧ w.heap.size + 3 ≤ w1.heap.size := by
  have e1 : (w.alloc o1).heap.size = w.heap.size + 1 := by simp
  have e2 : ((w.alloc o1).alloc o2).heap.size = w.heap.size + 2 := by simp
  have e3 : (((w.alloc o1).alloc o2).alloc o3).heap.size = w.heap.size + 3 := by simp
  have hs := hb.size
  rw [e3] at hs
  have h12 : Below ((w.alloc o1).alloc o2).heap.size ((w.alloc o1).alloc o2) w1 := ((Below.refl _ _).alloc (Nat.le_refl _) o3).trans (hb.mono (by omega))
  obtain ⟨h1, h2, h3, _⟩ := boxes h12
  refine ⟨h1, h2, ?_, h3, hs⟩
  rw [hb.block _ (by omega), show w.heap.size + 1 + 1 = ((w.alloc o1).alloc o2).heap.size from by omega]
  exact heap_alloc_new ((w.alloc o1).alloc o2) o3
theorem box5_facts {w : World} {b : Nat} {x0 x1 x2 x3 x4 : Value} {t : TypeId} (h : w.heap[b]? = some (.cells #[x0, x1, x2, x3, x4] t (0, 0))) :
    w.cell? ⟨b, 0, none⟩ = some x0 ∧ w.cell? ⟨b, 1, none⟩ = some x1 ∧ w.cell? ⟨b, 2, none⟩ = some x2 ∧ w.cell? ⟨b, 3, none⟩ = some x3 ∧ w.cell? ⟨b, 4, none⟩ = some x4 := by
  refine ⟨?_, ?_, ?_, ?_, ?_⟩ <;> (simp only [World.cell?, h]; rfl)
theorem three_boxes (w : World) (o1 o2 o3 : Obj) : Below w.heap.size w (((w.alloc o1).alloc o2).alloc o3) := (two_boxes w o1 o2).alloc (by simp; omega) _
theorem Both.step {F F' : Nat → Prop} {w w' : World} {rb s n n' : Nat} {v : Value} {M M' : Nat → Nat} {nb : Nat} {bs : Nat → Nat × Nat} (h1 : RamAt w' F' rb s n' (.pointer none) M') (h2 : RefIn F w v nb bs) (hs : Step F w F' w') (hn : nb ≤ n') (hv : ∃ a c, v = .slice a nb c) (he : (∀ a, rget bs nb a = M' a) ∧ Rng bs nb s) : Both F' w' rb s v n' M' :=
  ⟨h1, nb, bs, hn, hv, h2.step hs, he⟩
theorem after_call {F F2 : Nat → Prop} {w1 w2 : World} {o o' : Obj} {b : Nat} (hs : Step F (w1.alloc o).drew F2 w2) (hb : w1.heap[b]? = some o') (hF : ¬ F b) (hF1 : ¬ F w1.heap.size) : w2.heap[b]? = some o' ∧ w2.heap[w1.heap.size]? = some o := by
  have hlt : b < w1.heap.size := (Array.getElem?_eq_some_iff.1 hb).1
  have e1 : (w1.alloc o).drew.heap.size = w1.heap.size + 1 := by simp
  refine ⟨?_, ?_⟩
  · rw [hs.block b (by omega) hF]
    exact ((World.grownBy_alloc w1 o none).block b hlt (by simp)).trans hb
  · rw [hs.block _ (by omega) hF1]
    exact heap_alloc_new w1 o
theorem heap_setCell (w : World) (b o : Nat) (u : Value) (k : Nat) (h : k ≠ b) : (w.setCell ⟨b, o, none⟩ u).heap[k]? = w.heap[k]? := by
  simp only [World.setCell]; rw [Array.getElem?_modify, if_neg (fun e => h e.symm)]
theorem RamAt.setCell {w : World} {F : Nat → Prop} {rb size n : Nat} {lg : Value} {M : Nat → Nat} (h : RamAt w F rb size n lg M) {b : Nat} (hb : ¬ F b) (o : Nat) (u : Value) : RamAt (w.setCell ⟨b, o, none⟩ u) F rb size n lg M :=
  h.kept (by simp [World.setCell]) (fun k hk => heap_setCell w b o u k (fun e => hb (e ▸ hk)))
theorem Step.setNew {F F' : Nat → Prop} {w w' : World} (h : Step F w F' w') {b : Nat} (hb : w.heap.size ≤ b) (o : Nat) (u : Value) : Step F w F' (w'.setCell ⟨b, o, none⟩ u) :=
  ⟨h.os, h.tape, h.output, by have := h.size; simp [World.setCell]; omega, fun k hk hf => (heap_setCell w' b o u k (by omega)).trans (h.block k hk hf), h.old, h.keep⟩
theorem RefIn.setBox {F : Nat → Prop} {w : World} {v : Value} {n : Nat} {bs : Nat → Nat × Nat} (h : RefIn F w v n bs) {b : Nat} {a0 : Option Addr} {n0 c0 : Nat} (hb : w.cell? ⟨b, 1, none⟩ = some (.slice a0 n0 c0)) (o : Nat) (u : Value) : RefIn F (w.setCell ⟨b, o, none⟩ u) v n bs := by
  rcases h with h | ⟨g, c, hv, hg, hc⟩
  · exact .inl h
  · by_cases h0 : n = 0
    · subst h0; exact .inl ⟨rfl, _, c, hv⟩
    · have hne : b ≠ g := by
        rintro rfl
        have := (hc 0 (by omega)).2
        rw [Nat.zero_mul, Nat.zero_add, hb] at this
        cases this
      refine .inr ⟨g, c, hv, hg, fun i hi => ?_⟩
      rw [World.cell?_setCell_other _ _ _ _ (fun h => by simp only [Addr.mk.injEq] at h; omega), World.cell?_setCell_other _ _ _ _ (fun h => by simp only [Addr.mk.injEq] at h; omega)]
      exact hc i hi
/-- behind a call at both: the answer is laid into its cells -/
theorem both_end {F F2 : Nat → Prop} {w w2 : World} {rb s n n' : Nat} {v u0 u1 : Value} {M' : Nat → Nat} {nb : Nat} {bs : Nat → Nat × Nat} {b : Nat} {a0 : Option Addr} {n0 c0 : Nat} (h2 : RamAt w2 F2 rb s n (.pointer none) M') (hr : RefIn F2 w2 v nb bs) (hn : nb ≤ n') (hnn : n ≤ n') (hv : ∃ a c, v = .slice a nb c) (he : (∀ a, rget bs nb a = M' a) ∧ Rng bs nb s)
    (hbF : ¬ F2 b) (hbw : w.heap.size ≤ b) (hq : w2.cell? ⟨b, 1, none⟩ = some (.slice a0 n0 c0)) (hs : Step F w F2 w2) :
    Both F2 ((w2.setCell ⟨b, 0, none⟩ u0).setCell ⟨b, 1, none⟩ u1) rb s v n' M' ∧ Step F w F2 ((w2.setCell ⟨b, 0, none⟩ u0).setCell ⟨b, 1, none⟩ u1) := by
  have hq' : (w2.setCell ⟨b, 0, none⟩ u0).cell? ⟨b, 1, none⟩ = some (.slice a0 n0 c0) := by
    rw [World.cell?_setCell_other _ _ _ _ (fun h => by simp at h)]; exact hq
  exact ⟨⟨((h2.setCell hbF 0 u0).setCell hbF 1 u1).mono hnn, nb, bs, hn, hv, (hr.setBox hq 0 u0).setBox hq' 1 u1, he⟩, (hs.setNew hbw 0 u0).setNew hbw 1 u1⟩
/-- a call's cells -/
abbrev opV (k : Int) (x : Nat) (n : Int) (y : Nat) (d : Value) : Value := .agg #[.int .i64 k, .int .u64 (x : Nat), .int .i64 n, .int .u64 (y : Nat), d]
set_option maxHeartbeats 2000000 in
theorem do_store (F : Nat → Prop) (w : World) (rb s : Nat) (v : Value) (n : Nat) (M : Nat → Nat) (x y : Nat) (k : Int) (d : Value) (h : Both F w rb s v n M) (hs : s ≤ 268435456) (hn : n + 64 ≤ 1000000) (hx : x < 18446744073709551616) (hy : y < 18446744073709551616) (hd : d.oneCell' = true) :
    Calls Try.prog 26 #[.pointer (some ⟨rb, 0, none⟩), .agg #[.int .u64 (s : Nat), v], .agg #[.int .i64 0, .int .u64 (x : Nat), .int .i64 k, .int .u64 (y : Nat), d]] w fun e w' => ∃ v' F' M', e = .returned (.tuple #[.agg #[.int .u64 (s : Nat), v'], .bool true]) ∧ Both F' w' rb s v' (n + 64) M' ∧ Step F w F' w' := by
  obtain ⟨hram, nb, bs, hnb, ⟨av, cv, rfl⟩, href, heq⟩ := h
  have hlt := hram.lt
  obtain ⟨b, hb⟩ : ∃ b, putB x k s = b := ⟨_, rfl⟩
  have H : Hid (_ ∧ _ ∧ _ ∧ _) := ⟨hram, href, heq, hb⟩
  clear hram href heq hb
  go_enter Try.func26, Try.ntmps26
  go_wp2_with (first | (go_at_call 43; refine (rstore_any F _ s x y k _ nb bs (by exact H.out.2.1.below (three_boxes _ _ _ _)) (by intro q hq; have := hlt q hq; simp; omega) (by omega) hs hx hy).mono ?_; rintro e w1 ⟨a1, n1, c1, bs1, rfl, hn1, hr1, he1, hb1⟩; rw [H.out.2.2.2] at he1 ⊢; have hbx := boxes3 hb1; obtain ⟨d0, d1, d2, d3⟩ := box_facts hbx.2.2.1; obtain ⟨p0, p1, p2, p3, p4⟩ := box5_facts hbx.2.1; have hz : w.heap.size + 3 ≤ w1.heap.size := hbx.2.2.2.2; have X : Hid (_ ∧ _ ∧ _ ∧ _) := ⟨hr1, he1, hbx.2.2.2.1, hbx⟩; clear hbx hb1 hr1 he1))
  have hBX : Below w.heap.size w (w1.alloc (.cells #[.int .u64 (s : Nat), .slice a1 n1 c1] 28)).drew := by
    have hh := X.out.2.2.1.alloc (by omega) (.cells #[.int .u64 (s : Nat), .slice a1 n1 c1] 28)
    exact ⟨hh.os, hh.tape, hh.output, hh.size, hh.block⟩
  have z1 : w.heap.size + 1 < w1.heap.size := by omega
  have z2 : w.heap.size + 1 + 1 < w1.heap.size := by omega
  have z0 : w.heap.size < w1.heap.size := by omega
  have Y : Hid _ := hBX
  clear hBX
  have z3 : w.heap.size + 1 + 1 ≠ w1.heap.size := by omega
  have z4 : w.heap.size + 1 + 1 ≠ w.heap.size + 1 := by omega
  go_region_held3 (fun W => W.cell? ⟨w1.heap.size, 0, none⟩ = some (.int .u64 (s : Nat)) ∧ W.cell? ⟨w1.heap.size, 1, none⟩ = some (.slice a1 n1 c1) ∧ W.cell? ⟨w.heap.size + 1, 1, none⟩ = some (.int .u64 (x : Nat)) ∧ W.cell? ⟨w.heap.size + 1, 2, none⟩ = some (.int .i64 k) ∧ W.cell? ⟨w.heap.size + 1, 3, none⟩ = some (.int .u64 (y : Nat))) (go_keep) (first | (go_at_call 17; refine (store_any (H.out.1.below Y.out) hs x k y hx hy (by omega)).mono ?_; rintro e w2 ⟨rfl, F2, h2, hs2⟩; rw [show (widB k && inB x k 2147483648 s) = b from H.out.2.2.2] at h2 ⊢; obtain ⟨t1, t2⟩ := after_call hs2 X.out.2.2.2.2.2.1 (fun hq => by have := hlt _ hq; omega) (fun hq => by have := hlt _ hq; omega); obtain ⟨t3, _⟩ := after_call hs2 X.out.2.2.2.2.1 (fun hq => by have := hlt _ hq; omega) (fun hq => by have := hlt _ hq; omega); obtain ⟨q0, q1, q2, q3⟩ := box_facts t1; obtain ⟨r0, r1, r2, r3⟩ := box_facts t2; obtain ⟨o0, o1, o2, o3, o4⟩ := box5_facts t3; have Z : Hid (_ ∧ _) := ⟨h2, hs2⟩; clear h2 hs2 t1 t2 t3))
  all_goals
    go_wp2
    refine bodyPost_ret (v := .tuple #[.agg #[.int .u64 (s : Nat), .slice a1 n1 c1], .bool true]) (by simp [results, Try.results26, go_sem, q0, q1]) rfl ?_
    obtain ⟨h2, hs2⟩ := Z.out
    obtain ⟨hr1, he1, hB1, _⟩ := X.out
    have hX : Step F w F (w1.alloc (.cells #[.int .u64 (s : Nat), .slice a1 n1 c1] 28)).drew := ⟨Y.out.os, Y.out.tape, Y.out.output, Y.out.size, fun k hk _ => Y.out.block k hk, fun _ h => .inl h, fun _ h => h⟩
    have hrX : RefIn F (w1.alloc (.cells #[.int .u64 (s : Nat), .slice a1 n1 c1] 28)).drew (.slice a1 n1 c1) n1 bs1 := hr1.below ((Below.refl _ _).alloc (Nat.le_refl _) _).drew
    have hF2 : ¬ F2 (w.heap.size + 1 + 1) := fun hq => by
      rcases hs2.old _ hq with h3 | h3
      · have := hlt _ h3; omega
      · simp at h3; omega
    obtain ⟨r, st⟩ := both_end (u0 := .int .u64 (s : Nat)) (u1 := .slice a1 n1 c1) (n' := n + 64) h2 (hrX.step hs2) (by omega) (by omega) ⟨a1, c1, rfl⟩ ⟨fun a => by rw [he1.1]; split; exact over_congr _ _ _ H.out.2.2.1.1 a; exact H.out.2.2.1.1 a, he1.2 H.out.2.2.1.2⟩ hF2 (by omega) q1 (hX.trans hs2)
    exact ⟨_, F2, _, rfl, r, st⟩
theorem ReadsF.reads {F : Nat → Prop} {w : World} {v : Value} {n : Nat} {f : Nat → Nat} (h : ReadsF F w v n f) : Reads .u8 w v n f := by
  rcases h with ⟨h0, a, cap, _, hv⟩ | ⟨b, off, cap, hv, _, _, _, hc⟩
  · exact .inl ⟨h0, a, cap, hv⟩
  · exact .inr ⟨b, off, cap, hv, hc⟩
set_option maxHeartbeats 2000000 in
theorem do_write (F : Nat → Prop) (w : World) (rb s : Nat) (v : Value) (n : Nat) (M : Nat → Nat) (x y L : Nat) (k : Int) (d : Value) (f : Nat → Nat) (h : Both F w rb s v n M) (hd : ReadsF F w d L f) (hf : ∀ i, f i ≤ 255) (hL : L ≤ 64) (hs : s ≤ 268435456) (hn : n + 64 ≤ 1000000) (hx : x < 18446744073709551616) :
    Calls Try.prog 26 #[.pointer (some ⟨rb, 0, none⟩), .agg #[.int .u64 (s : Nat), v], .agg #[.int .i64 1, .int .u64 (x : Nat), .int .i64 k, .int .u64 (y : Nat), d]] w fun e w' => ∃ v' F' M', e = .returned (.tuple #[.agg #[.int .u64 (s : Nat), v'], .bool true]) ∧ Both F' w' rb s v' (n + 64) M' ∧ Step F w F' w' := by
  obtain ⟨hram, nb, bs, hnb, ⟨av, cv, rfl⟩, href, heq⟩ := h
  obtain ⟨ad, cd, rfl, _⟩ := hd.form
  have hlt := hram.lt
  obtain ⟨b, hb⟩ : ∃ b, inB x L 2147483648 s = b := ⟨_, rfl⟩
  have H : Hid (_ ∧ _ ∧ _ ∧ _ ∧ _ ∧ _) := ⟨hram, href, heq, hb, hd, hf⟩
  clear hram href heq hb hd hf
  go_enter Try.func26, Try.ntmps26
  go_wp2_with (first | (go_at_call 44; refine (rwrite_any F _ s x L _ _ nb bs f (by exact H.out.2.1.below (three_boxes _ _ _ _)) (by exact reads_below H.out.2.2.2.2.1.reads (three_boxes _ _ _ _)) (by intro q hq; have := hlt q hq; simp; omega) (by omega) hs hx hL).mono ?_; rintro e w1 ⟨a1, n1, c1, bs1, rfl, hn1, hr1, he1, hb1⟩; rw [H.out.2.2.2.1] at he1 ⊢; have hbx := boxes3 hb1; obtain ⟨d0, d1, d2, d3⟩ := box_facts hbx.2.2.1; obtain ⟨p0, p1, p2, p3, p4⟩ := box5_facts hbx.2.1; have hz : w.heap.size + 3 ≤ w1.heap.size := hbx.2.2.2.2; have X : Hid (_ ∧ _ ∧ _ ∧ _) := ⟨hr1, he1, hbx.2.2.2.1, hbx⟩; clear hbx hb1 hr1 he1))
  have hBX : Below w.heap.size w (w1.alloc (.cells #[.int .u64 (s : Nat), .slice a1 n1 c1] 28)).drew := (X.out.2.2.1.alloc (by omega) _).drew
  have z1 : w.heap.size + 1 < w1.heap.size := by omega
  have z2 : w.heap.size + 1 + 1 < w1.heap.size := by omega
  have z0 : w.heap.size < w1.heap.size := by omega
  have Y : Hid _ := hBX
  clear hBX
  have z3 : w.heap.size + 1 + 1 ≠ w1.heap.size := by omega
  have z4 : w.heap.size + 1 + 1 ≠ w.heap.size + 1 := by omega
  go_region_held3 (fun W => W.cell? ⟨w1.heap.size, 0, none⟩ = some (.int .u64 (s : Nat)) ∧ W.cell? ⟨w1.heap.size, 1, none⟩ = some (.slice a1 n1 c1) ∧ W.cell? ⟨w.heap.size + 1, 1, none⟩ = some (.int .u64 (x : Nat)) ∧ W.cell? ⟨w.heap.size + 1, 4, none⟩ = some (.slice ad L cd)) (go_keep) (first | (go_at_call 20; refine (write_any (H.out.1.below Y.out) hs x L f _ hx (by exact H.out.2.2.2.2.1.step (Step.of_below Y.out)) (fun i _ => H.out.2.2.2.2.2 i) (by omega)).mono ?_; rintro e w2 ⟨rfl, F2, h2, hs2⟩; rw [H.out.2.2.2.1] at h2 ⊢; obtain ⟨t1, t2⟩ := after_call hs2 X.out.2.2.2.2.2.1 (fun hq => by have := hlt _ hq; omega) (fun hq => by have := hlt _ hq; omega); obtain ⟨t3, _⟩ := after_call hs2 X.out.2.2.2.2.1 (fun hq => by have := hlt _ hq; omega) (fun hq => by have := hlt _ hq; omega); obtain ⟨q0, q1, q2, q3⟩ := box_facts t1; obtain ⟨r0, r1, r2, r3⟩ := box_facts t2; obtain ⟨o0, o1, o2, o3, o4⟩ := box5_facts t3; have Z : Hid (_ ∧ _) := ⟨h2, hs2⟩; clear h2 hs2 t1 t2 t3))
  all_goals
    go_wp2
    refine bodyPost_ret (v := .tuple #[.agg #[.int .u64 (s : Nat), .slice a1 n1 c1], .bool true]) (by simp [results, Try.results26, go_sem, q0, q1]) rfl ?_
    obtain ⟨h2, hs2⟩ := Z.out
    obtain ⟨hr1, he1, hB1, _⟩ := X.out
    have hX : Step F w F (w1.alloc (.cells #[.int .u64 (s : Nat), .slice a1 n1 c1] 28)).drew := Step.of_below Y.out
    have hrX : RefIn F (w1.alloc (.cells #[.int .u64 (s : Nat), .slice a1 n1 c1] 28)).drew (.slice a1 n1 c1) n1 bs1 := hr1.below ((Below.refl _ _).alloc (Nat.le_refl _) _).drew
    have hF2 : ¬ F2 (w.heap.size + 1 + 1) := fun hq => by
      rcases hs2.old _ hq with h3 | h3
      · have := hlt _ h3; omega
      · simp at h3; omega
    obtain ⟨r, st⟩ := both_end (u0 := .int .u64 (s : Nat)) (u1 := .slice a1 n1 c1) (n' := n + 64) h2 (hrX.step hs2) (by omega) (by omega) ⟨a1, c1, rfl⟩ ⟨fun a => by rw [he1.1]; split; exact over_congr _ _ _ H.out.2.2.1.1 a; exact H.out.2.2.1.1 a, he1.2 H.out.2.2.1.2⟩ hF2 (by omega) q1 (hX.trans hs2)
    exact ⟨_, F2, _, rfl, r, st⟩
end Go.Proofs.Ytbodmgihoklhiaa
