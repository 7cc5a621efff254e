/- The call 'do' of the statements of layer 2, where it reads; and for every kind. -/
import Derived.Test.YtbodmgihoklhiaaDo
namespace Go.Proofs.Ytbodmgihoklhiaa
open Go.RowKit Go.Maps
set_option linter.unusedVariables false
theorem Both.le {F : Nat → Prop} {w : World} {rb s n : Nat} {v : Value} {M : Nat → Nat} (h : Both F w rb s v n M) {n' : Nat} (hn : n ≤ n') : Both F w rb s v n' M := by
  obtain ⟨h1, nb, bs, h2, h3, h4, h5⟩ := h
  exact ⟨h1.mono hn, nb, bs, by omega, h3, h4, h5⟩
/-- where the memories stay as they were -/
theorem both_stay {F : Nat → Prop} {w w2 : World} {rb s n : Nat} {v u0 u1 : Value} {M : Nat → Nat} {b : Nat} {a0 : Option Addr} {n0 c0 : Nat} (h : Both F w rb s v n M) (hB : Below w.heap.size w w2) (hbw : w.heap.size ≤ b) (hq : w2.cell? ⟨b, 1, none⟩ = some (.slice a0 n0 c0)) :
    Both F ((w2.setCell ⟨b, 0, none⟩ u0).setCell ⟨b, 1, none⟩ u1) rb s v (n + 64) M ∧ Step F w F ((w2.setCell ⟨b, 0, none⟩ u0).setCell ⟨b, 1, none⟩ u1) := by
  have hlt := h.1.lt
  obtain ⟨h1, nb, bs, h2, h3, h4, h5⟩ := h.below hB
  exact both_end h1 h4 (by omega) (by omega) h3 h5 (fun hf => by have := hlt b hf; omega) hbw hq (Step.of_below hB)
set_option maxHeartbeats 1000000 in
theorem do_other (F : Nat → Prop) (w : World) (rb s : Nat) (v : Value) (n : Nat) (M : Nat → Nat) (z : Int) (x y : Nat) (k : Int) (a : Option Addr) (l c : Nat) (h : Both F w rb s v n M) (hz : z ≠ 0 ∧ z ≠ 1 ∧ z ≠ 2 ∧ z ≠ 3) :
    Calls Try.prog 26 #[.pointer (some ⟨rb, 0, none⟩), .agg #[.int .u64 (s : Nat), v], .agg #[.int .i64 z, .int .u64 (x : Nat), .int .i64 k, .int .u64 (y : Nat), .slice a l c]] w fun e w' => ∃ v' F' M', e = .returned (.tuple #[.agg #[.int .u64 (s : Nat), v'], .bool true]) ∧ Both F' w' rb s v' (n + 64) M' ∧ Step F w F' w' := by
  have H : Hid _ := h
  obtain ⟨hram, nb, bs, hnb, ⟨av, cv, rfl⟩, href, heq⟩ := h
  have e0 : (z == 0) = false := by simp [hz.1]
  have e1 : (z == 1) = false := by simp [hz.2.1]
  have e2 : (z == 2) = false := by simp [hz.2.2.1]
  have e3 : (z == 3) = false := by simp [hz.2.2.2]
  clear hram href heq hz
  go_enter Try.func26, Try.ntmps26
  go_wp2
  refine bodyPost_ret (v := .tuple #[.agg #[.int .u64 (s : Nat), .slice av nb cv], .bool true]) (by simp [results, Try.results26, go_sem]) rfl ?_
  exact ⟨_, F, M, rfl, Both.le (Both.below H.out (three_boxes _ _ _ _)) (by omega), Step.of_below (three_boxes _ _ _ _)⟩
set_option maxHeartbeats 1000000 in
theorem do_load (F : Nat → Prop) (w : World) (rb s : Nat) (v : Value) (n : Nat) (M : Nat → Nat) (x y : Nat) (k : Int) (a : Option Addr) (l c : Nat) (h : Both F w rb s v n M) (hs : s ≤ 268435456) (hn : n + 64 ≤ 1000000) (hx : x < 18446744073709551616) :
    Calls Try.prog 26 #[.pointer (some ⟨rb, 0, none⟩), .agg #[.int .u64 (s : Nat), v], .agg #[.int .i64 2, .int .u64 (x : Nat), .int .i64 k, .int .u64 (y : Nat), .slice a l c]] w fun e w' => ∃ v' F' M', e = .returned (.tuple #[.agg #[.int .u64 (s : Nat), v'], .bool true]) ∧ Both F' w' rb s v' (n + 64) M' ∧ Step F w F' w' := by
  have H0 : Hid _ := h
  obtain ⟨hram, nb, bs, hnb, ⟨av, cv, rfl⟩, href, heq⟩ := h
  have hle : ∀ a, rget bs nb a ≤ 255 := fun a => by rw [heq.1]; exact hram.le a
  have hlv := loadV_congr _ _ x k s heq.1
  obtain ⟨lv, hlv1⟩ : ∃ lv, loadV M x k s = lv := ⟨_, rfl⟩
  obtain ⟨b, hb⟩ : ∃ b, putB x k s = b := ⟨_, rfl⟩
  have H : Hid (_ ∧ _ ∧ _ ∧ _ ∧ _) := ⟨hram, href, hb, hlv1, hlv.trans hlv1⟩
  clear hram href heq hb hlv hlv1
  go_enter Try.func26, Try.ntmps26
  go_wp2_with (first | (go_at_call 16; refine (load_any (by exact H.out.1.below (three_boxes _ _ _ _)) hs x k hx).mono ?_; rintro e w1 ⟨rfl, hb1⟩; rw [H.out.2.2.1, H.out.2.2.2.1]; have hbx := boxes3 hb1; obtain ⟨d0, d1, d2, d3⟩ := box_facts hbx.1; obtain ⟨p0, p1, p2, p3, p4⟩ := box5_facts hbx.2.1; have X : Hid (_ ∧ _) := ⟨hb1, hbx⟩; clear hbx hb1) | (go_at_call 45; refine (rload_any F _ s x nb k _ bs (by exact H.out.2.1.below X.out.2.2.2.2.1) hle (by omega) hs hx).mono ?_; rintro e w2 ⟨rfl, hb2⟩; rw [H.out.2.2.1, H.out.2.2.2.2]; have hbx2 := boxes3 (X.out.1.trans (hb2.mono X.out.1.size)); obtain ⟨f0, f1, f2, f3⟩ := box_facts hbx2.1; obtain ⟨g0, g1, g2, g3⟩ := box_facts hbx2.2.2.1; have Y : Hid _ := hbx2; clear hbx2 hb2))
  refine bodyPost_ret (v := .tuple #[.agg #[.int .u64 (s : Nat), .slice av nb cv], .bool true]) (by simp [results, Try.results26, go_sem, g0, g1]) rfl ?_
  obtain ⟨r, st⟩ := both_stay (u0 := .int .u64 (s : Nat)) (u1 := .slice av nb cv) (b := w.heap.size + 1 + 1) H0.out Y.out.2.2.2.1 (by omega) g1
  exact ⟨_, F, M, rfl, r, st⟩
theorem below_box {w w2 : World} {b : Nat} {o : Obj} (h : w.heap[b]? = some o) (hb : Below w.heap.size w w2) : w2.heap[b]? = some o := (hb.block b (Array.getElem?_eq_some_iff.1 h).1).trans h
set_option maxHeartbeats 1000000 in
theorem do_read (F : Nat → Prop) (w : World) (rb s : Nat) (v : Value) (n : Nat) (M : Nat → Nat) (x y L : Nat) (a : Option Addr) (l c : Nat) (h : Both F w rb s v n M) (hs : s ≤ 268435456) (hn : n + 64 ≤ 1000000) (hx : x < 18446744073709551616) (hL : L ≤ 64) :
    Calls Try.prog 26 #[.pointer (some ⟨rb, 0, none⟩), .agg #[.int .u64 (s : Nat), v], .agg #[.int .i64 3, .int .u64 (x : Nat), .int .i64 (L : Nat), .int .u64 (y : Nat), .slice a l c]] w fun e w' => ∃ v' F' M', e = .returned (.tuple #[.agg #[.int .u64 (s : Nat), v'], .bool true]) ∧ Both F' w' rb s v' (n + 64) M' ∧ Step F w F' w' := by
  have H0 : Hid _ := h
  obtain ⟨hram, nb, bs, hnb, ⟨av, cv, rfl⟩, href, heq⟩ := h
  obtain ⟨b, hb⟩ : ∃ b, inB x L 2147483648 s = b := ⟨_, rfl⟩
  obtain ⟨m, hm⟩ : ∃ m, (if inB x L 2147483648 s = true then L else 0) = m := ⟨_, rfl⟩
  have hm64 : m ≤ 64 := by rw [← hm]; split <;> omega
  have hfun : (fun i => rget bs nb (x + i)) = (fun i => M (x + i)) := funext fun i => heq.1 _
  have H : Hid (_ ∧ _ ∧ _ ∧ _ ∧ _) := ⟨hram, href, hb, hm, hfun⟩
  clear hram href heq hb hm hfun
  go_enter Try.func26, Try.ntmps26
  go_wp2_with (first | (go_at_call 21; refine (read_any (by exact H.out.1.below (three_boxes _ _ _ _)) hs x L hx (by omega)).mono ?_; rw [H.out.2.2.2.1, H.out.2.2.1]; rintro e w1 ⟨a1, c1, rfl, hr1, hb1⟩; have hbx := boxes3 hb1; obtain ⟨d0, d1, d2, d3⟩ := box_facts hbx.1; obtain ⟨p0, p1, p2, p3, p4⟩ := box5_facts hbx.2.1; have X : Hid (_ ∧ _ ∧ _) := ⟨hb1, hr1, hbx⟩; clear hbx hb1 hr1) | (go_at_call 46; refine (rread_any F _ s x L nb _ bs (by exact H.out.2.1.below X.out.2.2.2.2.2.1) (by omega) hs hx (by omega)).mono ?_; rw [H.out.2.2.2.1, H.out.2.2.1, H.out.2.2.2.2]; rintro e w2 ⟨a2, c2, rfl, hr2, hb2⟩; have hbx2 := boxes3 (X.out.1.trans (hb2.mono X.out.1.size)); obtain ⟨f0, f1, f2, f3⟩ := box_facts hbx2.1; obtain ⟨g0, g1, g2, g3⟩ := box_facts hbx2.2.2.1; have Y : Hid (_ ∧ _ ∧ _) := ⟨reads_below X.out.2.1 hb2, hr2, hbx2⟩; clear hbx2 hb2 hr2))
  have z4 : w.heap.size + 1 + 1 ≠ w.heap.size := by omega
  go_region_held3 (fun W => W.cell? ⟨w.heap.size, 0, none⟩ = some (.int .u64 (s : Nat)) ∧ W.cell? ⟨w.heap.size, 1, none⟩ = some (.slice av nb cv)) (go_keep) (first | (go_at_call 28; refine (bytes_same (fun i => M (x + i)) m _ _ (by omega) _ (by exact Y.out.1) (by exact Y.out.2.1)).mono ?_; rintro e w3 ⟨rfl, q, rfl⟩))
  all_goals
    go_wp2
    refine bodyPost_ret (v := .tuple #[.agg #[.int .u64 (s : Nat), .slice av nb cv], .bool true]) (by simp [results, Try.results26, go_sem, g0, g1]) rfl ?_
    obtain ⟨r, st⟩ := both_stay (u0 := .int .u64 (s : Nat)) (u1 := .slice av nb cv) (b := w.heap.size + 1 + 1) (w2 := w2.drewN (1 + q)) H0.out (below_drewN Y.out.2.2.2.2.2.1 _) (by omega) (show w2.cell? _ = _ from g1)
    exact ⟨_, F, M, rfl, r, st⟩
/-- a call of a script: its kind, its numbers, its bytes -/
structure OpD where
  z : Int
  x : Nat
  k : Int
  y : Nat
  a : Option Addr
  l : Nat
  c : Nat
def OpD.cells (o : OpD) : Array Value := #[.int .i64 o.z, .int .u64 (o.x : Nat), .int .i64 o.k, .int .u64 (o.y : Nat), .slice o.a o.l o.c]
/-- its bytes lie in the world, in no block of F -/
def OpD.In (o : OpD) (F : Nat → Prop) (w : World) : Prop := o.x < 18446744073709551616 ∧ o.y < 18446744073709551616 ∧ ∃ f, (∀ i, f i ≤ 255) ∧ ReadsF F w (.slice o.a o.l o.c) o.l f
def smallB (o : OpD) : Bool := decide (o.l ≤ 64 ∧ (o.z ≠ 3 ∨ 0 ≤ o.k ∧ o.k ≤ 64))
theorem do_any (F : Nat → Prop) (w : World) (rb s : Nat) (v : Value) (n : Nat) (M : Nat → Nat) (o : OpD) (h : Both F w rb s v n M) (ho : o.In F w) (hsm : smallB o = true) (hs : s ≤ 268435456) (hn : n + 64 ≤ 1000000) :
    Calls Try.prog 26 #[.pointer (some ⟨rb, 0, none⟩), .agg #[.int .u64 (s : Nat), v], .agg o.cells] w fun e w' => ∃ v' F' M', e = .returned (.tuple #[.agg #[.int .u64 (s : Nat), v'], .bool true]) ∧ Both F' w' rb s v' (n + 64) M' ∧ Step F w F' w' := by
  obtain ⟨z, x, k, y, a, l, c⟩ := o
  obtain ⟨hx, hy, f, hf, hr⟩ := ho
  have hs1 : l ≤ 64 ∧ (z ≠ 3 ∨ 0 ≤ k ∧ k ≤ 64) := by simpa [smallB] using hsm
  simp only at hx hy hr
  by_cases h0 : z = 0
  · subst h0; exact do_store F w rb s v n M x y k _ h hs hn hx hy rfl
  by_cases h1 : z = 1
  · subst h1; exact do_write F w rb s v n M x y l k _ f h hr hf hs1.1 hs hn hx
  by_cases h2 : z = 2
  · subst h2; exact do_load F w rb s v n M x y k a l c h hs hn hx
  by_cases h3 : z = 3
  · subst h3
    obtain ⟨L, rfl⟩ : ∃ L : Nat, k = L := ⟨k.toNat, by omega⟩
    exact do_read F w rb s v n M x y L a l c h hs hn hx (by omega)
  · exact do_other F w rb s v n M z x y k a l c h ⟨h0, h1, h2, h3⟩
set_option maxHeartbeats 400000 in
theorem small_any (o : OpD) (hl : o.l ≤ 9223372036854775807) (w : World) : Calls Try.prog 19 #[.agg o.cells] w fun e w' => e = .returned (.bool (smallB o)) ∧ Below w.heap.size w w' := by
  obtain ⟨z, x, k, y, a, l, c⟩ := o
  simp only at hl
  unfold OpD.cells
  simp only
  have e : smallB ⟨z, x, k, y, a, l, c⟩ = decide (l ≤ 64 ∧ (z ≠ 3 ∨ 0 ≤ k ∧ k ≤ 64)) := rfl
  rw [e]
  go_enter Try.func19, Try.ntmps19
  go_wp2
  all_goals (go_ret; exact ⟨ret_bool (by rw [Bool.eq_iff_iff]; simp [*]; try omega), (Below.refl _ _).alloc (Nat.le_refl _) _⟩)
end Go.Proofs.Ytbodmgihoklhiaa
