/- The statements' call 'do': its state; reading and writing on both sides. -/
import Derived.Test.YtkalaojbmedhjaaSb
namespace Go.Proofs.Ytkalaojbmedhjaa
open Go.RowKit Go.Maps
set_option linter.unusedVariables false
set_option linter.unusedSimpArgs false
set_option maxRecDepth 100000
theorem DocAt.ne {w : World} {g N db bm : Nat} {K K2 : Dk} (h : DocAt w g N K) (hd : DiskAt w db bm K2) : g ≠ db ∧ g ≠ bm := by
  constructor
  · rintro rfl
    have h1 := hd.1
    unfold Box at h1
    rw [h.1] at h1
    simp at h1
  · rintro rfl
    obtain ⟨D, ⟨es, clock, e1, _⟩, _⟩ := hd.2.1
    rw [h.1] at e1
    cases e1
/-- the state of 'do': the document's disk, the call and the result in boxes, the disk -/
def Dz (w W : World) (db bm g N : Nat) (K Kp : Dk) (O R : Array Value) : Prop := Box 28 W w.heap.size (docC K g N) ∧ Box 39 W (w.heap.size + 1) O ∧ Box 28 W (w.heap.size + 2) R ∧ DiskAt W db bm Kp ∧ DocAt W g N K ∧ Two db bm w W ∧ db < w.heap.size ∧ bm < w.heap.size
/-- the document's next disk in a box -/
def Nx (w W : World) (g q gn N : Nat) (Kn : Dk) : Prop := Box 28 W q (docC Kn gn N) ∧ DocAt W gn N Kn ∧ w.heap.size + 2 < q ∧ (gn = g ∨ w.heap.size ≤ gn)
section
variable {w W W' : World} {db bm g N q gn : Nat} {K Kp Kq Kn : Dk} {O R c : Array Value}
theorem Dz.step (h : Dz w W db bm g N K Kp O R) (hb : Below W.heap.size W W') : Dz w W' db bm g N K Kp O R := by
  obtain ⟨h1, h2, h3, h4, h5, h6, h7⟩ := h
  exact ⟨h1.step hb, h2.step hb, h3.step hb, h4.step hb, h5.step hb, h6.trans (Two.of_below hb), h7⟩
theorem Dz.prog (h : Dz w W db bm g N K Kp O R) (hx : DiskAt W' db bm Kq) (ht : Two db bm W W') : Dz w W' db bm g N K Kq O R := by
  obtain ⟨h1, h2, h3, h4, h5, h6, h7, h8⟩ := h
  have hn := h5.ne h4
  exact ⟨ht.box h1 (by omega) (by omega), ht.box h2 (by omega) (by omega), ht.box h3 (by omega) (by omega), hx, h5.two ht hn.1 hn.2, h6.trans ht, h7, h8⟩
theorem Dz.lt (h : Dz w W db bm g N K Kp O R) : w.heap.size + 2 < W.heap.size := h.2.2.1.lt
/-- another block, new or the result's, is written -/
theorem Dz.new (h : Dz w W db bm g N K Kp O R) (hu : Upon q W W') (hq : w.heap.size + 2 < q) (hg : g ≠ q) : Dz w W' db bm g N K Kp O R := by
  obtain ⟨h1, h2, h3, h4, h5, h6, h7, h8⟩ := h
  have hs := h6.size
  exact ⟨hu.box h1 (by omega), hu.box h2 (by omega), hu.box h3 (by omega), h4.upon hu (by omega) (by omega), h5.upon hu hg, ⟨h6.1.trans hu.1, fun k hk ha hb => (hu.2 k (by omega) (by omega)).trans (h6.2 k hk ha hb)⟩, h7, h8⟩
theorem Dz.res (h : Dz w W db bm g N K Kp O R) (hx : Box 28 W' (w.heap.size + 2) c) (hu : Upon (w.heap.size + 2) W W') : Dz w W' db bm g N K Kp O c := by
  obtain ⟨h1, h2, h3, h4, h5, h6, h7, h8⟩ := h
  have hs := h6.size
  have hg : g ≠ w.heap.size + 2 := by
    rintro rfl
    have h9 := h3
    unfold Box at h9
    rw [h5.1] at h9
    simp at h9
  exact ⟨hu.box h1 (by omega), hu.box h2 (by omega), hx, h4.upon hu (by omega) (by omega), h5.upon hu hg, ⟨h6.1.trans hu.1, fun k hk ha hb => (hu.2 k (by omega) (by omega)).trans (h6.2 k hk ha hb)⟩, h7, h8⟩
theorem Nx.step (h : Nx w W g q gn N Kn) (hb : Below W.heap.size W W') : Nx w W' g q gn N Kn := ⟨h.1.step hb, h.2.1.step hb, h.2.2⟩
theorem Nx.prog (h : Nx w W g q gn N Kn) (hd : DiskAt W db bm Kp) (h1 : db < w.heap.size) (h2 : bm < w.heap.size) (ht : Two db bm W W') : Nx w W' g q gn N Kn := ⟨ht.box h.1 (by have := h.2.2.1; omega) (by have := h.2.2.1; omega), h.2.1.two ht (h.2.1.ne hd).1 (h.2.1.ne hd).2, h.2.2⟩
theorem doc_box_ne {b : Nat} (h : DocAt W gn N Kn) (hb : Box 28 W b c) : gn ≠ b := by
  rintro rfl
  unfold Box at hb
  rw [h.1] at hb
  simp at hb
theorem Nx.res (h : Nx w W g q gn N Kn) (hb : Box 28 W (w.heap.size + 2) R) (hu : Upon (w.heap.size + 2) W W') : Nx w W' g q gn N Kn := ⟨hu.box h.1 (by have := h.2.2.1; omega), h.2.1.upon hu (doc_box_ne h.2.1 hb), h.2.2⟩
end
theorem Dz.begin (w : World) (db bm g N : Nat) (K : Dk) (O : Array Value) (hd : DiskAt w db bm K) (hg : DocAt w g N K) : Dz w (((w.alloc (.cells (docC K g N) 28)).alloc (.cells O 39)).alloc (.cells zeroC 28)) db bm g N K K O zeroC := by
  have b1 : Below w.heap.size w (w.alloc (.cells (docC K g N) 28)) := (Below.refl _ _).alloc (Nat.le_refl _) _
  have b2 := b1.alloc b1.size (.cells O 39)
  have b3 := b2.alloc b2.size (.cells zeroC 28)
  have s1 : (w.alloc (.cells (docC K g N) 28)).heap.size = w.heap.size + 1 := by simp
  have s2 : ((w.alloc (.cells (docC K g N) 28)).alloc (.cells O 39)).heap.size = w.heap.size + 2 := by simp
  refine ⟨((Box.new 28 w _).alloc _).alloc _, ?_, ?_, hd.step b3, hg.step b3, Two.of_below b3, hd.lt.1, hd.lt.2⟩
  · have := (Box.new 39 (w.alloc (.cells (docC K g N) 28)) O).alloc (.cells zeroC 28)
    rwa [s1] at this
  · have := Box.new 28 ((w.alloc (.cells (docC K g N) 28)).alloc (.cells O 39)) zeroC
    rwa [s2] at this
theorem Nx.made {w W W' : World} {db bm g N gn : Nat} {K Kp Kn : Dk} {O R : Array Value} (h : Dz w W db bm g N K Kp O R) (hn : DocAt W gn N Kn) (hgn : gn = g ∨ w.heap.size ≤ gn) (hx : Box 28 W' W.heap.size (docC Kn gn N)) (hu : Upon W.heap.size (W.alloc (.cells zeroC 28)) W') : Dz w W' db bm g N K Kp O R ∧ Nx w W' g W.heap.size gn N Kn := by
  have b1 : Below W.heap.size W (W.alloc (.cells zeroC 28)) := (Below.refl _ _).alloc (Nat.le_refl _) _
  have hlt := h.lt
  have h1 := (h.step b1).new hu hlt (by have := h.2.2.2.2.1.lt; omega)
  exact ⟨h1, hx, (hn.step b1).upon hu (by have := hn.lt; omega), hlt, hgn⟩
/-- Read of both sides tells as much -/
def readM (K : Dk) (x n : Nat) : Nat := if readE K x n = 0 then n else 0
theorem read_any {w : World} {db bm : Nat} {K : Dk} (h : DiskAt w db bm K) (x n : Nat) (hx : x < 18446744073709551616) (hn : n < 18446744073709551616) :
    Calls Try.prog 21 #[.pointer (some ⟨db, 0, none⟩), .int .u64 (x : Nat), .int .u64 (n : Nat)] w fun e w' => ∃ a c, e = .returned (.tuple #[.slice a (readM K x n) c, .int .i64 (readE K x n : Nat)]) ∧ Reads .u8 w' (.slice a (readM K x n) c) (readM K x n) (fun i => K.M (x * 512 + i)) ∧ DiskAt w' db bm (askK K) ∧ Two db bm w w' := by
  by_cases hE : readE K x n = 0
  · have e : readM K x n = n := by unfold readM; rw [if_pos hE]
    rw [e, hE]
    exact (read_good h x n hx hn hE).mono fun e w' ⟨g, he, hr, _, hd, ht⟩ => ⟨_, _, he, hr.reads, hd, ht⟩
  · have e : readM K x n = 0 := by unfold readM; rw [if_neg hE]
    rw [e]
    exact (read_bad h x n hx hn hE).mono fun e w' ⟨he, hd, ht⟩ => ⟨_, _, he, .inl ⟨rfl, _, _, rfl⟩, hd, ht⟩
theorem dread_any {w : World} {g N : Nat} {K : Dk} (h : DocAt w g N K) (x n : Nat) (hx : x < 18446744073709551616) (hn : n < 18446744073709551616) :
    Calls Try.prog 34 #[.agg (docC K g N), .int .u64 (x : Nat), .int .u64 (n : Nat)] w fun e w' => ∃ a c, e = .returned (.tuple #[.agg (docC (askK K) g N), .slice a (readM K x n) c, .int .i64 (readE K x n : Nat)]) ∧ Reads .u8 w' (.slice a (readM K x n) c) (readM K x n) (fun i => K.M (x * 512 + i)) ∧ Below w.heap.size w w' := by
  by_cases hE : readE K x n = 0
  · have e : readM K x n = n := by unfold readM; rw [if_pos hE]
    rw [e, hE]
    exact (dread_good K g N x n w h hx hn hE).mono fun e w' ⟨q, he, hr, _, hb⟩ => ⟨_, _, he, hr.reads, hb⟩
  · have e : readM K x n = 0 := by unfold readM; rw [if_neg hE]
    rw [e]
    exact (dread_bad K g N x n w h hx hn hE).mono fun e w' ⟨he, hb⟩ => ⟨_, _, he, .inl ⟨rfl, _, _, rfl⟩, hb⟩
theorem reads_two {a b : Nat} {w w' : World} {v : Value} {n : Nat} {f : Nat → Nat} (h : ReadsF (fun k => k = a ∨ k = b) w v n f) (hs : Two a b w w') : Reads .u8 w' v n f := by
  rcases h.two hs with ⟨rfl, a', cap, _, rfl⟩ | ⟨g, off, cap, hv, _, _, _, hc⟩
  · exact .inl ⟨rfl, _, _, rfl⟩
  · exact .inr ⟨g, off, cap, hv, hc⟩
end Go.Proofs.Ytkalaojbmedhjaa
