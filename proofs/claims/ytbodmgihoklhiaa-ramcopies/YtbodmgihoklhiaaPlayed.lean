/- The call 'played' of the statements of layer 2: any script leaves a memory and the document's one with the same bytes, or is not tried. -/
import Derived.Test.YtbodmgihoklhiaaDone
namespace Go.Proofs.Ytbodmgihoklhiaa
open Go.RowKit Go.Maps
set_option linter.unusedVariables false
/-- a script as it lies in the world -/
def ScriptIn (W : World) (v : Value) (len : Nat) (ops : Nat → OpD) : Prop :=
  (len = 0 ∧ ∃ a c, v = .slice a 0 c) ∨ ∃ b off cap, v = .slice (some ⟨b, off, none⟩) len cap ∧ len ≤ 9223372036854775807 ∧ ∀ i, i < len →
    W.cell? ⟨b, off + i * 5, none⟩ = some (.int .i64 (ops i).z) ∧ W.cell? ⟨b, off + i * 5 + 1, none⟩ = some (.int .u64 ((ops i).x : Nat)) ∧ W.cell? ⟨b, off + i * 5 + 2, none⟩ = some (.int .i64 (ops i).k) ∧ W.cell? ⟨b, off + i * 5 + 3, none⟩ = some (.int .u64 ((ops i).y : Nat)) ∧ W.cell? ⟨b, off + i * 5 + 4, none⟩ = some (.slice (ops i).a (ops i).l (ops i).c) ∧
    (ops i).In (fun q => W.heap.size ≤ q) W ∧ (ops i).l ≤ 9223372036854775807
theorem OpD.In.later {o : OpD} {W w : World} {F : Nat → Prop} (h : o.In (fun q => W.heap.size ≤ q) W) (hb : Below W.heap.size W w) (hF : ∀ q, F q → W.heap.size ≤ q) : o.In F w := by
  obtain ⟨hx, hy, f, hf, hr⟩ := h
  refine ⟨hx, hy, f, hf, ?_⟩
  have hr2 := hr.step (Step.of_below hb)
  rcases hr2 with h | ⟨b, off, cap, hv, hn, h1, h2, hc⟩
  · exact .inl h
  · exact .inr ⟨b, off, cap, hv, fun hf => hn (hF b hf), h1, h2, hc⟩
/-- what 'played' leaves -/
def Left (W : World) (w' : World) (pv v : Value) : Prop :=
  Below W.heap.size W w' ∧ (pv = .pointer none ∨ ∃ rb F M, pv = .pointer (some ⟨rb, 0, none⟩) ∧ Both F w' rb 8192 v 2000 M ∧ ∀ q, F q → W.heap.size ≤ q)
theorem new_8192 (w : World) : Calls Try.prog 11 #[.int .u64 8192] w fun e w' => ∃ rb F, e = .returned (.tuple #[.pointer (some ⟨rb, 0, none⟩), .int .i64 0]) ∧ RamAt w' F rb 8192 0 (.pointer none) (fun _ => 0) ∧ (∀ k, F k → w.heap.size ≤ k) ∧ Below w.heap.size w w' := new_yes 8192 (by decide) w
theorem do_8192 (F : Nat → Prop) (w : World) (rb : Nat) (v : Value) (n : Nat) (M : Nat → Nat) (z : Int) (x : Nat) (k : Int) (y : Nat) (a : Option Addr) (l c : Nat) (h : Both F w rb 8192 v n M) (ho : OpD.In ⟨z, x, k, y, a, l, c⟩ F w) (hsm : smallB ⟨z, x, k, y, a, l, c⟩ = true) (hn : n + 64 ≤ 1000000) :
    Calls Try.prog 26 #[.pointer (some ⟨rb, 0, none⟩), .agg #[.int .u64 8192, v], .agg #[.int .i64 z, .int .u64 (x : Nat), .int .i64 k, .int .u64 (y : Nat), .slice a l c]] w fun e w' => ∃ a' n' c' F' M', e = .returned (.tuple #[.agg #[.int .u64 8192, .slice a' n' c'], .bool true]) ∧ Both F' w' rb 8192 (.slice a' n' c') (n + 64) M' ∧ Step F w F' w' :=
  (do_any F w rb 8192 v n M ⟨z, x, k, y, a, l, c⟩ h ho hsm (by omega) hn).mono fun e w' ⟨v', F', M', he, hB, hs⟩ => by
    obtain ⟨h1, nb, bs, h2, ⟨a', c', rfl⟩, h4, h5⟩ := hB
    exact ⟨a', nb, c', F', M', he, ⟨h1, nb, bs, h2, ⟨a', c', rfl⟩, h4, h5⟩, hs⟩
theorem small_flat (z : Int) (x : Nat) (k : Int) (y : Nat) (a : Option Addr) (l c : Nat) (hl : l ≤ 9223372036854775807) (w : World) :
    Calls Try.prog 19 #[.agg #[.int .i64 z, .int .u64 (x : Nat), .int .i64 k, .int .u64 (y : Nat), .slice a l c]] w fun e w' => e = .returned (.bool (smallB ⟨z, x, k, y, a, l, c⟩)) ∧ Below w.heap.size w w' := small_any ⟨z, x, k, y, a, l, c⟩ hl w
/-- five cells that lie where they lay -/
theorem five_later {W w : World} {b o : Nat} {x0 x1 x2 x3 x4 : Value} (h : W.cell? ⟨b, o, none⟩ = some x0 ∧ W.cell? ⟨b, o + 1, none⟩ = some x1 ∧ W.cell? ⟨b, o + 2, none⟩ = some x2 ∧ W.cell? ⟨b, o + 3, none⟩ = some x3 ∧ W.cell? ⟨b, o + 4, none⟩ = some x4) (hb : Below W.heap.size W w) :
    w.cell? ⟨b, o, none⟩ = some x0 ∧ w.cell? ⟨b, o + 1, none⟩ = some x1 ∧ w.cell? ⟨b, o + 2, none⟩ = some x2 ∧ w.cell? ⟨b, o + 3, none⟩ = some x3 ∧ w.cell? ⟨b, o + 4, none⟩ = some x4 := by
  have hlt : b < W.heap.size := block_lt_of_cell h.1
  have e := hb.block b hlt
  have cc : ∀ q, w.cell? ⟨b, q, none⟩ = W.cell? ⟨b, q, none⟩ := fun q => World.cell?_of_block (a := ⟨b, q, none⟩) e
  rw [cc, cc, cc, cc, cc]
  exact h
/-- the state of 'played' ahead of a round -/
def At (W : World) (b7 rb : Nat) (wr : World) (j : Nat) (a : Option Addr) (n c : Nat) : Prop :=
  ∃ F M, Both F wr rb 8192 (.slice a n c) (64 * j) M ∧ wr.heap[b7]? = some (.cells #[.int .u64 8192, .slice a n c] 28) ∧ wr.heap[W.heap.size]? = some (.cells #[.int .u64 0, .slice none 0 0] 28) ∧ Below W.heap.size W wr ∧ (∀ q, F q → W.heap.size ≤ q) ∧ ¬ F W.heap.size ∧ ¬ F b7
theorem At.below {W : World} {b7 rb : Nat} {wr w' : World} {j : Nat} {a : Option Addr} {n c : Nat} (h : At W b7 rb wr j a n c) (hb : Below wr.heap.size wr w') : At W b7 rb w' j a n c := by
  obtain ⟨F, M, h1, h2, h3, h4, h5, h6, h7⟩ := h
  exact ⟨F, M, h1.below hb, below_box h2 hb, below_box h3 hb, h4.trans (hb.mono h4.size), h5, h6, h7⟩
theorem OpD.In.below {o : OpD} {F : Nat → Prop} {w w' : World} (h : o.In F w) (hb : Below w.heap.size w w') : o.In F w' := by
  obtain ⟨hx, hy, f, hf, hr⟩ := h
  exact ⟨hx, hy, f, hf, hr.step (Step.of_below hb)⟩
theorem step_box {F F' : Nat → Prop} {w w' : World} {b : Nat} {o : Obj} (hs : Step F w F' w') (h : w.heap[b]? = some o) (hF : ¬ F b) : w'.heap[b]? = some o := (hs.block b (Array.getElem?_eq_some_iff.1 h).1 hF).trans h
theorem after_do {W w3 Wc w4 : World} {F F4 : Nat → Prop} (hW3 : Below W.heap.size W w3) (hc : Below w3.heap.size w3 Wc) (hs4 : Step F Wc F4 w4) (hF : ∀ q, F q → W.heap.size ≤ q) : Below W.heap.size W w4 :=
  (hW3.trans (hc.mono hW3.size)).trans (hs4.below (Nat.le_trans hW3.size hc.size) hF)
theorem new_box {F F4 : Nat → Prop} {w3 w4 : World} {o : Obj} (hs4 : Step F (w3.alloc o).drew F4 w4) (hlt : ∀ q, F q → q < w3.heap.size) : w4.heap[w3.heap.size]? = some o := step_box hs4 (heap_alloc_new w3 o) (fun hq => by have := hlt _ hq; omega)
theorem notF4 {F F4 : Nat → Prop} {w3 Wc w4 : World} {q : Nat} (hs4 : Step F Wc F4 w4) (hc : Below w3.heap.size w3 Wc) (hq : q < w3.heap.size) (hF : ¬ F q) : ¬ F4 q := fun h => by
  have := hc.size
  rcases hs4.old q h with h1 | h1
  · exact hF h1
  · omega
theorem notNew {F F4 : Nat → Prop} {w3 w4 : World} {o : Obj} (hs4 : Step F (w3.alloc o).drew F4 w4) (hlt : ∀ q, F q → q < w3.heap.size) : ¬ F4 w3.heap.size := fun h => by
  rcases hs4.old _ h with h1 | h1
  · have := hlt _ h1; omega
  · simp at h1; omega
theorem box_set {w : World} {b : Nat} {p q u0 u1 : Value} {t : TypeId} (h : w.heap[b]? = some (.cells #[p, q] t (0, 0))) : ((w.setCell ⟨b, 0, none⟩ u0).setCell ⟨b, 1, none⟩ u1).heap[b]? = some (.cells #[u0, u1] t (0, 0)) := by
  rw [setCell_eq_setRow w b 0 _ t (0, 0) u0 h]
  have h2 := setRow_heap w b _ (#[p, q].setIfInBounds 0 u0) t _ h
  rw [setCell_eq_setRow _ b 1 _ t (0, 0) u1 h2, setRow_heap _ b _ _ t _ h2]
  rfl
theorem box_other {w : World} {b b' : Nat} {u0 u1 : Value} {o : Obj} (h : w.heap[b']? = some o) (hne : b' ≠ b) : ((w.setCell ⟨b, 0, none⟩ u0).setCell ⟨b, 1, none⟩ u1).heap[b']? = some o := by
  rw [heap_setCell _ _ _ _ _ hne, heap_setCell _ _ _ _ _ hne]; exact h
theorem Both.setBox {F : Nat → Prop} {w : World} {rb s n b : Nat} {v u0 u1 : Value} {M : Nat → Nat} {a0 : Option Addr} {n0 c0 : Nat} (h : Both F w rb s v n M) (hF : ¬ F b) (hb : w.cell? ⟨b, 1, none⟩ = some (.slice a0 n0 c0)) : Both F ((w.setCell ⟨b, 0, none⟩ u0).setCell ⟨b, 1, none⟩ u1) rb s v n M := by
  obtain ⟨h1, nb, bs, h2, h3, h4, h5⟩ := h
  have hq' : (w.setCell ⟨b, 0, none⟩ u0).cell? ⟨b, 1, none⟩ = some (.slice a0 n0 c0) := by
    rw [World.cell?_setCell_other _ _ _ _ (fun h => by simp at h)]; exact hb
  exact ⟨(h1.setCell hF 0 u0).setCell hF 1 u1, nb, bs, h2, h3, (h4.setBox hb 0 u0).setBox hq' 1 u1, h5⟩
/-- the state behind a round -/
theorem at_next {W : World} {b7 rb j : Nat} {w5 : World} {F4 : Nat → Prop} {M4 : Nat → Nat} {a a' : Option Addr} {n n' c c' : Nat} {p : Value} (hb : Both F4 w5 rb 8192 (.slice a' n' c') (64 * j + 64) M4) (h7 : w5.heap[b7]? = some (.cells #[p, .slice a n c] 28 (0, 0))) (h3 : w5.heap[W.heap.size]? = some (.cells #[.int .u64 0, .slice none 0 0] 28)) (hW : Below W.heap.size W w5)
    (hF : ∀ q, F4 q → W.heap.size ≤ q) (hF3 : ¬ F4 W.heap.size) (hF7 : ¬ F4 b7) (hlt : W.heap.size < b7) : At W b7 rb ((w5.setCell ⟨b7, 0, none⟩ (.int .u64 8192)).setCell ⟨b7, 1, none⟩ (.slice a' n' c')) (j + 1) a' n' c' := by
  refine ⟨F4, M4, ?_, box_set h7, box_other h3 (by omega), (hW.setCell (p := ⟨b7, 0, none⟩) (by simp; omega) _).setCell (p := ⟨b7, 1, none⟩) (by simp; omega) _, hF, hF3, hF7⟩
  rw [show 64 * (j + 1) = 64 * j + 64 from by omega]
  exact hb.setBox hF7 (box_facts h7).2.1
set_option maxHeartbeats 4000000 in
theorem played_any (W : World) (v : Value) (len : Nat) (ops : Nat → OpD) (hsc : ScriptIn W v len ops) :
    Calls Try.prog 10 #[v] W fun e w' => ∃ pv a n c, e = .returned (.tuple #[pv, .agg #[.int .u64 8192, .slice a n c], .bool true]) ∧ Left W w' pv (.slice a n c) := by
  obtain ⟨sa, sc, rfl⟩ : ∃ a c, v = .slice a len c := by
    rcases hsc with ⟨rfl, a, c, rfl⟩ | ⟨b, off, cap, rfl, _⟩
    · exact ⟨_, _, rfl⟩
    · exact ⟨_, _, rfl⟩
  have hlen : len ≤ 9223372036854775807 := by
    rcases hsc with ⟨rfl, _⟩ | ⟨b, off, cap, _, h, _⟩
    · omega
    · exact h
  have HS : Hid _ := hsc
  clear hsc
  go_enter Try.func10, Try.ntmps10
  go_wp2_with (first | (go_at_call 11; refine (new_8192 _).mono ?_; rintro e w1 ⟨rb, F, rfl, h1, hF, hb1⟩; have X : Hid (_ ∧ _ ∧ _) := ⟨h1, hF, hb1⟩; clear h1 hF hb1))
  have hstart : At W w1.heap.size rb (w1.alloc (.cells #[.int .u64 8192, .slice none 0 0] 28)) 0 none 0 0 := by
    obtain ⟨h1, hF, hb1⟩ := X.out
    have e1 : (W.alloc (.cells #[.int .u64 0, .slice none 0 0] 28)).heap.size = W.heap.size + 1 := by simp
    have hb2 : Below w1.heap.size w1 (w1.alloc (.cells #[.int .u64 8192, .slice none 0 0] 28)) := (Below.refl _ _).alloc (Nat.le_refl _) _
    have hs1 := hb1.size
    have hW1 : Below W.heap.size W w1 := ((Below.refl _ _).alloc (Nat.le_refl _) _).trans (hb1.mono (by omega))
    refine ⟨F, fun _ => 0, ⟨h1.below hb2, 0, fun _ => (0, 0), by omega, ⟨none, 0, rfl⟩, .inl ⟨rfl, _, _, rfl⟩, fun a => rfl, fun i hi => absurd hi (Nat.not_lt_zero _)⟩, heap_alloc_new w1 _, ?_, hW1.trans (hb2.mono hW1.size), fun q hq => by have := hF q hq; omega, fun hq => by have := hF _ hq; omega, fun hq => by have := h1.lt _ hq; omega⟩
    exact below_box (below_box (heap_alloc_new W _) hb1) hb2
  have hb7 : W.heap.size < w1.heap.size := by have := X.out.2.2.size; simp at this; omega
  clear X
  generalize w1.alloc (.cells #[.int .u64 8192, .slice none 0 0] 28) = w2 at *
  generalize w1.heap.size = b7 at *
  go_loopw [8] (fun i wr => ∃ (j : Nat) (a : Option Addr) (n c : Nat), j ≤ len ∧ j ≤ 30 ∧ i = .int .i64 j ∧ At W b7 rb wr j a n c) (fun i _ => 30 - (intOf i).toNat)
  case atStart => exact ⟨0, none, 0, 0, by omega, by omega, rfl, hstart⟩
  case round =>
    obtain ⟨j, a, n, c, hj, hj30, rfl, hat⟩ := hrel
    clear hstart
    by_cases hgo : j < len ∧ j < 30
    · obtain ⟨hg1, hg2⟩ := hgo
      have hgi1 : (j : Int) < len := by omega
      have hgi2 : (j : Int) < 30 := by omega
      obtain ⟨F, M, hboth, hbox7, hbox3, hBW, hFW, hF3, hF7⟩ := hat
      rcases HS.out with ⟨h0, _⟩ | ⟨bs, os, cs, hv, _, hops⟩
      · omega
      simp only [Value.slice.injEq] at hv
      obtain ⟨rfl, -, rfl⟩ := hv
      obtain ⟨k0, k1, k2, k3, k4, kin, kl⟩ := hops j hg1
      clear hops
      generalize ops j = o at *
      obtain ⟨z, x, k, y, oa, ol, oc⟩ := o
      simp only at k0 k1 k2 k3 k4 kl
      have k5 := And.intro k0 (And.intro k1 (And.intro k2 (And.intro k3 k4)))
      have hfive := five_later k5 hBW
      obtain ⟨c0, c1, c2, c3, c4⟩ := hfive
      obtain ⟨s, hs⟩ : ∃ s, smallB ⟨z, x, k, y, oa, ol, oc⟩ = s := ⟨_, rfl⟩
      have K : Hid (_ ∧ _ ∧ _ ∧ _ ∧ _ ∧ _ ∧ _ ∧ _ ∧ _ ∧ _) := ⟨k5, kin, hs, hboth, hbox7, hbox3, hBW, hFW, hF3, hF7⟩
      clear k0 k1 k2 k3 k4 k5 kin hs hboth hbox7 hbox3 hBW hFW hF3 hF7
      cases s with
      | false =>
        go_wp2_with (first | (go_at_call 19; refine (small_flat z x k y oa ol oc kl _).mono ?_; rw [K.out.2.2.1]; rintro e w3 ⟨rfl, hb3⟩; obtain ⟨d0, d1, d2, d3⟩ := box_facts (below_box K.out.2.2.2.2.1 hb3); obtain ⟨e0, e1, e2, e3⟩ := box_facts (below_box K.out.2.2.2.2.2.1 hb3); have HB3 : Hid _ := hb3; clear hb3))
        go_region
        all_goals
          go_wp2
          refine bodyPost_ret (v := .tuple #[.pointer none, .agg #[.int .u64 8192, .slice a n c], .bool true]) (by simp [results, Try.results10, go_sem, e0, e1]) rfl ⟨_, _, _, _, rfl, ?_, .inl rfl⟩
          have hBW := K.out.2.2.2.2.2.2.1
          exact (((hBW.trans (HB3.out.mono hBW.size)).setCell (p := ⟨W.heap.size, 0, none⟩) (Nat.le_refl _) _).setCell (p := ⟨W.heap.size, 1, none⟩) (Nat.le_refl _) _).drew
      | true =>
        go_wp2_with (first | (go_at_call 19; refine (small_flat z x k y oa ol oc kl _).mono ?_; rw [K.out.2.2.1]; rintro e w3 ⟨rfl, hb3⟩; obtain ⟨d0, d1, d2, d3⟩ := box_facts (below_box K.out.2.2.2.2.1 hb3); obtain ⟨e0, e1, e2, e3⟩ := box_facts (below_box K.out.2.2.2.2.2.1 hb3); have HB3 : Hid _ := hb3; clear hb3))
        have z7 : W.heap.size ≠ b7 := by omega
        have hW3 : Below W.heap.size W w3 := K.out.2.2.2.2.2.2.1.trans (HB3.out.mono K.out.2.2.2.2.2.2.1.size)
        obtain ⟨s0, s1, s2, s3, s4⟩ := five_later K.out.1 hW3
        have hin3 := K.out.2.1.later hW3 K.out.2.2.2.2.2.2.2.1
        have hbo3 := K.out.2.2.2.1.below HB3.out
        have V : Hid (_ ∧ _ ∧ _) := ⟨hW3, hin3, hbo3⟩
        clear hW3 hin3 hbo3
        have z8 : w3.heap.size ≠ b7 := World.new_ne w3 ⟨b7, 0, none⟩ d0
        have z9 : w3.heap.size ≠ bs := World.new_ne w3 ⟨bs, os + j * 5, none⟩ s0
        go_region_held3 (fun Z => Z.cell? ⟨b7, 0, none⟩ = some (.int .u64 8192) ∧ Z.cell? ⟨b7, 1, none⟩ = some (.slice a n c) ∧ Z.cell? ⟨bs, os + j * 5, none⟩ = some (.int .i64 z) ∧ Z.cell? ⟨bs, os + j * 5 + 1, none⟩ = some (.int .u64 (x : Nat)) ∧ Z.cell? ⟨bs, os + j * 5 + 2, none⟩ = some (.int .i64 k) ∧ Z.cell? ⟨bs, os + j * 5 + 3, none⟩ = some (.int .u64 (y : Nat)) ∧ Z.cell? ⟨bs, os + j * 5 + 4, none⟩ = some (.slice oa ol oc)) (go_keep) (first | (go_at_call 26; refine (do_8192 F _ rb _ (64 * j) M z x k y oa ol oc (Both.below V.out.2.2 (by first | exact (Below.refl _ _).drew | exact ((Below.refl _ _).alloc (Nat.le_refl _) _).drew)) (OpD.In.below V.out.2.1 (by first | exact (Below.refl _ _).drew | exact ((Below.refl _ _).alloc (Nat.le_refl _) _).drew)) K.out.2.2.1 (by omega)).mono ?_; rintro e w4 ⟨a', n', c', F4, M4, rfl, hb4, hs4⟩; have hW4 := after_do V.out.1 (by first | exact (Below.refl _ _).drew | exact ((Below.refl _ _).alloc (Nat.le_refl _) _).drew) hs4 K.out.2.2.2.2.2.2.2.1; obtain ⟨v0, v1, v2, v3, v4⟩ := five_later K.out.1 hW4; obtain ⟨t0, t1, t2, t3⟩ := box_facts (step_box hs4 (below_box (below_box K.out.2.2.2.2.1 HB3.out) (by first | exact (Below.refl _ _).drew | exact ((Below.refl _ _).alloc (Nat.le_refl _) _).drew)) K.out.2.2.2.2.2.2.2.2.2); have zz : b7 < w4.heap.size := block_lt_of_cell t0; have x7 := step_box hs4 (below_box (below_box K.out.2.2.2.2.1 HB3.out) (by first | exact (Below.refl _ _).drew | exact ((Below.refl _ _).alloc (Nat.le_refl _) _).drew)) K.out.2.2.2.2.2.2.2.2.2; have x3 := step_box hs4 (below_box (below_box K.out.2.2.2.2.2.1 HB3.out) (by first | exact (Below.refl _ _).drew | exact ((Below.refl _ _).alloc (Nat.le_refl _) _).drew)) K.out.2.2.2.2.2.2.2.2.1; have y3 := notF4 hs4 (by first | exact (Below.refl _ _).drew | exact ((Below.refl _ _).alloc (Nat.le_refl _) _).drew) (block_lt_of_cell e0) K.out.2.2.2.2.2.2.2.2.1; have y7 := notF4 hs4 (by first | exact (Below.refl _ _).drew | exact ((Below.refl _ _).alloc (Nat.le_refl _) _).drew) (block_lt_of_cell d0) K.out.2.2.2.2.2.2.2.2.2; have yF := hs4.base (Nat.le_trans V.out.1.size (Below.size (B := w3.heap.size) (by first | exact (Below.refl _ _).drew | exact ((Below.refl _ _).alloc (Nat.le_refl _) _).drew))) K.out.2.2.2.2.2.2.2.1; (try (have xn := new_box hs4 V.out.2.2.1.lt; obtain ⟨n0, n1, n2, n3⟩ := box_facts xn; have XN : Hid (_ ∧ _) := ⟨xn, notNew hs4 V.out.2.2.1.lt⟩; clear xn)); have U : Hid (_ ∧ _ ∧ _ ∧ _ ∧ _ ∧ _ ∧ _) := ⟨hb4, hW4, x7, x3, y3, y7, yF⟩; clear hb4 hs4 hW4 x7 x3 y3 y7 yF))
        all_goals go_wp2
        all_goals go_roundw
        case rel =>
          obtain ⟨hb4, hW4, x7, x3, y3, y7, yF⟩ := U.out
          exact ⟨j + 1, a', n', c', by omega, by omega, by go_num, (at_next hb4 x7 x3 hW4 yF y3 y7 hb7).below ((Below.refl _ _).alloc (Nat.le_refl _) _)⟩
        case measure => simp [intOf]; omega
        case rel =>
          obtain ⟨hb4, hW4, x7, x3, y3, y7, yF⟩ := U.out
          obtain ⟨xn, xF⟩ := XN.out
          have hg : W.heap.size < w3.heap.size := block_lt_of_cell e0
          exact ⟨j + 1, a', n', c', by omega, by omega, by go_num, at_next (hb4.setBox xF n1) (box_other x7 z8.symm) (box_other x3 (by omega)) ((hW4.setCell (p := ⟨w3.heap.size, 0, none⟩) (by simp; omega) _).setCell (p := ⟨w3.heap.size, 1, none⟩) (by simp; omega) _) yF y3 y7 hb7⟩
        case measure => simp [intOf]; omega
    · obtain ⟨F, M, hboth, hbox7, hbox3, hBW, hFW, hF3, hF7⟩ := hat
      obtain ⟨d0, d1, d2, d3⟩ := box_facts hbox7
      obtain ⟨e0, e1, e2, e3⟩ := box_facts hbox3
      have K : Hid (_ ∧ _ ∧ _ ∧ _ ∧ _) := ⟨hboth, hBW, hFW, hF3, hF7⟩
      clear hboth hbox7 hbox3 hBW hFW hF3 hF7
      have z7 : W.heap.size ≠ b7 := by omega
      have hfin : Left W (((wr.setCell ⟨W.heap.size, 0, none⟩ (.int .u64 8192)).setCell ⟨W.heap.size, 1, none⟩ (.slice a n c)).drew) (.pointer (some ⟨rb, 0, none⟩)) (.slice a n c) := by
        obtain ⟨hboth, hBW, hFW, hF3, hF7⟩ := K.out
        refine ⟨((hBW.setCell (p := ⟨W.heap.size, 0, none⟩) (Nat.le_refl _) _).setCell (p := ⟨W.heap.size, 1, none⟩) (Nat.le_refl _) _).drew, .inr ⟨rb, F, M, rfl, ?_, hFW⟩⟩
        exact ((hboth.setBox hF3 e1).le (by omega)).below (Below.refl _ _).drew
      have HF : Hid _ := hfin
      clear hfin
      by_cases hl : (j : Int) < len
      · have hl2 : ¬ (j : Int) < 30 := by omega
        go_wp2
        go_region
        all_goals
          go_wp2
          exact bodyPost_ret (v := .tuple #[.pointer (some ⟨rb, 0, none⟩), .agg #[.int .u64 8192, .slice a n c], .bool true]) (by simp [results, Try.results10, go_sem, e0, e1]) rfl ⟨_, _, _, _, rfl, HF.out⟩
      · go_wp2
        go_region
        all_goals
          go_wp2
          exact bodyPost_ret (v := .tuple #[.pointer (some ⟨rb, 0, none⟩), .agg #[.int .u64 8192, .slice a n c], .bool true]) (by simp [results, Try.results10, go_sem, e0, e1]) rfl ⟨_, _, _, _, rfl, HF.out⟩
theorem ScriptIn.below {W w : World} {v : Value} {len : Nat} {ops : Nat → OpD} (h : ScriptIn W v len ops) (hb : Below W.heap.size W w) : ScriptIn w v len ops := by
  rcases h with h | ⟨b, off, cap, hv, hl, hc⟩
  · exact .inl h
  · refine .inr ⟨b, off, cap, hv, hl, fun i hi => ?_⟩
    obtain ⟨k0, k1, k2, k3, k4, kin, kl⟩ := hc i hi
    obtain ⟨s0, s1, s2, s3, s4⟩ := five_later (And.intro k0 (And.intro k1 (And.intro k2 (And.intro k3 k4)))) hb
    exact ⟨s0, s1, s2, s3, s4, kin.later hb (fun q hq => Nat.le_trans hb.size hq), kl⟩
theorem plays_walk (W : World) (v : Value) (len : Nat) (ops : Nat → OpD) (hsc : ScriptIn W v len ops) : Calls Try.prog 3 #[v] W fun e w' => e = .returned (.bool true) ∧ Below W.heap.size W w' := by
  have HS : Hid _ := hsc
  clear hsc
  go_enter Try.func3, Try.ntmps3
  go_wp2_with (first | (go_at_call 9; refine (awake_any _).mono ?_; rintro e w1 ⟨rfl, hb1⟩) | (go_at_call 10; refine (played_any _ v len ops (ScriptIn.below HS.out hb1)).mono ?_; rintro e w2 ⟨pv, a, n, c, rfl, hl⟩))
  go_ret
  exact ⟨rfl, (hb1.trans (hl.1.mono hb1.size)).alloc (Nat.le_trans hb1.size hl.1.size) _⟩
end Go.Proofs.Ytbodmgihoklhiaa
