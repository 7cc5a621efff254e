/- The state of RingWrites: two memories, the document's two, the layout. -/
import Derived.Test.YthnmoalomodbpaaRp
import Derived.Test.YthnmoalomodbpaaRm
import Derived.Test.YthnmoalomodbpaaApartW
namespace Go.Proofs.Ythnmoalomodbpaa
open Go.RowKit Go.Maps
set_option linter.unusedVariables false
set_option linter.unusedSimpArgs false
set_option maxRecDepth 100000
theorem rget_out {bs : Nat → Nat × Nat} {n s a : Nat} (h : Rng bs n s) (ha : a < 2147483648 ∨ 2147483648 + s ≤ a) : rget bs n a = 0 := by
  rcases Nat.eq_zero_or_pos (rget bs n a) with h0 | h0
  · exact h0
  · obtain ⟨i, h1, h2⟩ := rget_touch bs n a (by omega)
    have := h i h1
    omega
/-- two memories of 8192 bytes differ in two pages at most -/
theorem two_pages {bs cs : Nat → Nat × Nat} {n m : Nat} {M Mc : Nat → Nat} (h1 : Rng bs n 8192) (h2 : Rng cs m 8192) (e1 : ∀ a, rget bs n a = M a) (e2 : ∀ a, rget cs m a = Mc a) : ∀ k, Apart M Mc k → k = 524288 ∨ k = 524289 := by
  rintro k ⟨i, hi, hne⟩
  by_cases h : k = 524288 ∨ k = 524289
  · exact h
  · exfalso
    apply hne
    rw [← e1, ← e2, rget_out h1 (by omega), rget_out h2 (by omega)]
theorem two_len {ks : List Nat} {p1 p2 : Nat} (hk : ks.Pairwise (· < ·)) (h : ∀ k ∈ ks, k = p1 ∨ k = p2) : ks.length ≤ 2 := two_of (hk.imp (fun h => Nat.ne_of_lt h)) h
theorem few_spans {M Mc : Nat → Nat} {A : List Nat} {p1 p2 : Nat} (hA : A.Pairwise (· < ·)) (hM : ∀ x, x ∈ A ↔ M x ≠ Mc x) (hS : ∀ k, Apart M Mc k → k = p1 ∨ k = p2) : (spans A).length ≤ 10000 := by
  obtain ⟨ks, h1, h2⟩ := pages_rise p1 p2 hS
  have e : A = diffs M Mc ks := rise_one _ _ hA (diffs_rise M Mc ks h1) (fun x => by
    rw [hM, diffs_mem, h2]
    refine ⟨fun h => ⟨⟨x % 4096, Nat.mod_lt _ (by decide), ?_⟩, h⟩, fun h => h.2⟩
    rw [show x / 4096 * 4096 + x % 4096 = x from by omega]; exact h)
  have h3 := diffs_len M Mc ks
  have h4 : ks.length ≤ 2 := two_len h1 (fun k hk => hS k ((h2 k).1 hk))
  have h5 := spans_len A
  rw [e] at h5 ⊢
  omega
theorem same_later {w0 w5 X w6 : World} {ad av : Option Addr} {l2 cd cv : Nat} {l : List (Nat × Nat)} (hB : w0.heap.size ≤ X.heap.size) (h6 : SpanIn X.heap.size w6 (.slice ad l2 cd) l) (h5 : SpanIn w0.heap.size w5 (.slice av l2 cv) l) (hb : Below w5.heap.size w5 w6) (hl : l.length ≤ 1000000) : ∀ V, Below w6.heap.size w6 V → Calls Try.prog 39 #[.slice ad l2 cd, .slice av l2 cv] V fun e w' => e = .returned (.bool true) ∧ Below V.heap.size V w' := fun V hV =>
  (same_spans (B := w0.heap.size) ((h6.low hB).kept (fun g hg => hV.block g (h6.lt g hg).2)) ((h5.kept (fun g hg => hb.block g (h5.lt g hg).2)).kept (fun g hg => hV.block g (by have := (h5.lt g hg).2; have := hb.size; omega))) hl).mono fun e w' ⟨he, q, hq⟩ => ⟨he, by rw [hq]; exact below_drewN (Below.refl _ _) q⟩
structure Wq (W V : World) (n D A U b8 b10 rb rc : Nat) (a : Option Addr) (nn c : Nat) (bs : Nat → Nat × Nat) (M : Nat → Nat) (F Fc : Nat → Prop) (kc : Nat) (Mc : Nat → Nat) (ax : Option Addr) (nx cx : Nat) (bx : Nat → Nat × Nat) : Prop where
  lay : V.heap[W.heap.size]? = some (.cells #[.int .i64 (n : Int), .int .u64 (D : Int), .int .u64 (A : Int), .int .u64 (U : Int)] 24 (0, 0))
  box8 : V.heap[b8]? = some (.cells #[.int .u64 8192, .slice a nn c] 29 (0, 0))
  box10 : V.heap[b10]? = some (.cells #[.int .u64 8192, .slice ax nx cx] 29 (0, 0))
  ram : RamAt V F rb 8192 kc (.pointer none) Mc
  was : RamAt V Fc rc 8192 12000 (.pointer none) M
  ref : RefIn F V (.slice a nn c) nn bs
  refx : RefIn F V (.slice ax nx cx) nx bx
  low : ∀ k, F k → W.heap.size < k
  n8 : ¬ F b8
  n10 : ¬ F b10
  m10 : ¬ Fc b10
  apart : ∀ q, Fc q → ¬ F q
  below : Below W.heap.size W V
  h8 : W.heap.size < b8
  h10 : W.heap.size < b10
  ne : b8 ≠ b10
theorem Wq.step {W V : World} {n D A U b8 b10 rb rc : Nat} {a : Option Addr} {nn c : Nat} {bs : Nat → Nat × Nat} {M : Nat → Nat} {F Fc : Nat → Prop} {kc : Nat} {Mc : Nat → Nat} {ax : Option Addr} {nx cx : Nat} {bx : Nat → Nat × Nat} {V' : World} (h : Wq W V n D A U b8 b10 rb rc a nn c bs M F Fc kc Mc ax nx cx bx) (hb : Below V.heap.size V V') : Wq W V' n D A U b8 b10 rb rc a nn c bs M F Fc kc Mc ax nx cx bx :=
  ⟨below_box h.lay hb, below_box h.box8 hb, below_box h.box10 hb, h.ram.below hb, h.was.below hb, h.ref.below hb, h.refx.below hb, h.low, h.n8, h.n10, h.m10, h.apart, below_to h.below hb, h.h8, h.h10, h.ne⟩
theorem Wq.mono {W V : World} {n D A U b8 b10 rb rc : Nat} {a : Option Addr} {nn c : Nat} {bs : Nat → Nat × Nat} {M : Nat → Nat} {F Fc : Nat → Prop} {kc : Nat} {Mc : Nat → Nat} {ax : Option Addr} {nx cx : Nat} {bx : Nat → Nat × Nat} {k2 : Nat} (h : Wq W V n D A U b8 b10 rb rc a nn c bs M F Fc kc Mc ax nx cx bx) (hk : kc ≤ k2) : Wq W V n D A U b8 b10 rb rc a nn c bs M F Fc k2 Mc ax nx cx bx :=
  ⟨h.lay, h.box8, h.box10, h.ram.mono hk, h.was, h.ref, h.refx, h.low, h.n8, h.n10, h.m10, h.apart, h.below, h.h8, h.h10, h.ne⟩
/-- the program writes -/
theorem Wq.wrote {W V : World} {n D A U b8 b10 rb rc : Nat} {a : Option Addr} {nn c : Nat} {bs : Nat → Nat × Nat} {M : Nat → Nat} {F Fc : Nat → Prop} {kc : Nat} {Mc : Nat → Nat} {ax : Option Addr} {nx cx : Nat} {bx : Nat → Nat × Nat} {V' : World} {F' : Nat → Prop} {k2 : Nat} {M2 : Nat → Nat} (h : Wq W V n D A U b8 b10 rb rc a nn c bs M F Fc kc Mc ax nx cx bx) (hs : Step F V F' V') (hr : RamAt V' F' rb 8192 k2 (.pointer none) M2) : Wq W V' n D A U b8 b10 rb rc a nn c bs M F' Fc k2 M2 ax nx cx bx := by
  have l0 := (Array.getElem?_eq_some_iff.1 h.lay).1
  have l8 := (Array.getElem?_eq_some_iff.1 h.box8).1
  have l10 := (Array.getElem?_eq_some_iff.1 h.box10).1
  have nF : ∀ b, b < V.heap.size → ¬ F b → ¬ F' b := fun b hb hn hf => by
    rcases hs.old b hf with h1 | h1
    · exact hn h1
    · omega
  refine ⟨step_box hs h.lay (fun hf => by have := h.low _ hf; omega), step_box hs h.box8 h.n8, step_box hs h.box10 h.n10, hr, h.was.step hs h.apart, h.ref.step hs, h.refx.step hs, fun k hk => ?_, nF b8 l8 h.n8, nF b10 l10 h.n10, h.m10, fun q hq => nF q (h.was.lt q hq) (h.apart q hq), h.below.trans (hs.below h.below.size (fun k hk => Nat.le_of_lt (h.low k hk))), h.h8, h.h10, h.ne⟩
  rcases hs.old k hk with h1 | h1
  · exact h.low k h1
  · omega
/-- the document's answer is laid into its box -/
theorem Wq.set {W V : World} {n D A U b8 b10 rb rc : Nat} {a : Option Addr} {nn c : Nat} {bs : Nat → Nat × Nat} {M : Nat → Nat} {F Fc : Nat → Prop} {kc : Nat} {Mc : Nat → Nat} {ax : Option Addr} {nx cx : Nat} {bx : Nat → Nat × Nat} {a6 : Option Addr} {n6 c6 : Nat} {bs6 : Nat → Nat × Nat} (h : Wq W V n D A U b8 b10 rb rc a nn c bs M F Fc kc Mc ax nx cx bx) (hr : RefIn F V (.slice a6 n6 c6) n6 bs6) : Wq W ((V.setCell ⟨b10, 0, none⟩ (.int .u64 8192)).setCell ⟨b10, 1, none⟩ (.slice a6 n6 c6)) n D A U b8 b10 rb rc a nn c bs M F Fc kc Mc a6 n6 c6 bs6 := by
  have hq := (box_facts h.box10).2.1
  have hq' : (V.setCell ⟨b10, 0, none⟩ (.int .u64 8192)).cell? ⟨b10, 1, none⟩ = some (.slice ax nx cx) := by
    rw [World.cell?_setCell_other _ _ _ _ (fun h => by simp at h)]; exact hq
  have hle := Nat.le_of_lt h.h10
  exact ⟨box_other h.lay (Nat.ne_of_lt h.h10), box_other h.box8 h.ne, box_set h.box10, (h.ram.setCell h.n10 0 _).setCell h.n10 1 _, (h.was.setCell h.m10 0 _).setCell h.m10 1 _, (h.ref.setBox hq 0 _).setBox hq' 1 _, (hr.setBox hq 0 _).setBox hq' 1 _, h.low, h.n8, h.n10, h.m10, h.apart, (h.below.setCell (p := ⟨b10, 0, none⟩) hle _).setCell (p := ⟨b10, 1, none⟩) hle _, h.h8, h.h10, h.ne⟩
/-- what holds of the bytes -/
structure Pq (n U : Nat) (M Mc : Nat → Nat) (nx : Nat) (bx : Nat → Nat × Nat) (kx : Nat) : Prop where
  le : nx ≤ kx
  eq : ∀ q, rget bx nx q = Mc q
  rng : Rng bx nx 8192
  dif : ∀ q, M q ≠ Mc q → U ≤ q ∧ q < U + 6 + 8 * n
theorem Pq.wrote {n U : Nat} {M Mc : Nat → Nat} {nx kx n6 : Nat} {bx bs6 : Nat → Nat × Nat} (h : Pq n U M Mc nx bx kx) (x L : Nat) (f : Nat → Nat) (hx : U ≤ x ∧ x + L ≤ U + 6 + 8 * n) (h1 : n6 ≤ nx + L) (h2 : ∀ q, rget bs6 n6 q = over Mc x L f q) (h3 : Rng bs6 n6 8192) (hL : L ≤ 8) : Pq n U M (over Mc x L f) n6 bs6 (kx + 8) := by
  refine ⟨by have := h.le; omega, h2, h3, fun q hq => ?_⟩
  by_cases hin : x ≤ q ∧ q < x + L
  · omega
  · refine h.dif q (fun he => hq ?_)
    unfold over
    rw [if_neg hin]
    exact he
theorem snoc_ind {P : List Nat → Prop} (h0 : P []) (h1 : ∀ A x, P A → P (A ++ [x])) : ∀ A, P A := by
  intro A
  generalize hn : A.length = n
  induction n generalizing A with
  | zero => rw [List.eq_nil_of_length_eq_zero hn]; exact h0
  | succ n ih =>
    rcases List.eq_nil_or_concat A with rfl | ⟨B, x, rfl⟩
    · cases hn
    · rw [List.concat_eq_append]
      exact h1 B x (ih B (by simp at hn; exact hn))
theorem spans_in (A : List Nat) : ∀ p ∈ spans A, 1 ≤ p.2 ∧ ∀ i, i < p.2 → p.1 + i ∈ A := by
  refine snoc_ind (P := fun A => ∀ p ∈ spans A, 1 ≤ p.2 ∧ ∀ i, i < p.2 → p.1 + i ∈ A) ?_ ?_ A
  · intro p hp; simp [spans] at hp
  · intro A x ih
    intro p hp
    rw [spans_snoc] at hp
    rcases stretchL_cases (spans A) x with h | ⟨r, q, L, h1, h2, h3⟩
    · rw [h] at hp
      rcases List.mem_append.1 hp with h4 | h4
      · exact ⟨(ih p h4).1, fun i hi => List.mem_append.2 (.inl ((ih p h4).2 i hi))⟩
      · simp at h4
        subst h4
        refine ⟨Nat.le_refl _, fun i hi => List.mem_append.2 (.inr ?_)⟩
        simp at hi ⊢
        omega
    · rw [h3] at hp
      rcases List.mem_append.1 hp with h4 | h4
      · have h5 := ih p (by rw [h1]; exact List.mem_append.2 (.inl h4))
        exact ⟨h5.1, fun i hi => List.mem_append.2 (.inl (h5.2 i hi))⟩
      · simp at h4
        subst h4
        have h5 := ih (q, L) (by rw [h1]; simp)
        refine ⟨by simp, fun i hi => List.mem_append.2 ?_⟩
        simp at hi h5 ⊢
        by_cases hiL : i < L
        · exact .inl (h5.2 i hiL)
        · right; omega
theorem span_used {n U : Nat} {M Mc : Nat → Nat} {A : List Nat} (hM : ∀ x, x ∈ A ↔ M x ≠ Mc x) (hd : ∀ q, M q ≠ Mc q → U ≤ q ∧ q < U + 6 + 8 * n) : ∀ p ∈ spans A, 1 ≤ p.2 ∧ U ≤ p.1 ∧ p.1 + p.2 ≤ U + 6 + 8 * n := by
  intro p hp
  obtain ⟨h1, h2⟩ := spans_in A p hp
  have h3 := hd _ ((hM _).1 (h2 0 (by omega)))
  have h4 := hd _ ((hM _).1 (h2 (p.2 - 1) (by omega)))
  omega
end Go.Proofs.Ythnmoalomodbpaa
