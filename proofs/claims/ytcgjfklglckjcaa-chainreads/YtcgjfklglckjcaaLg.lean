/- A memory that is watched. -/
import Derived.Test.YtcgjfklglckjcaaCe
namespace Go.Proofs.Ytcgjfklglckjcaa
open Go.RowKit Go.Maps
set_option linter.unusedVariables false
set_option linter.unusedSimpArgs false
set_option maxRecDepth 100000
/-- A MEMORY WITH ITS LOG: block lb holds the two lists of pieces; G: blocks that are theirs. -/
def LogIn (B : Nat) (w : World) (G F : Nat → Prop) (rb n lb : Nat) (lw lr : Value) (M : Nat → Nat) (ws rs : List (Nat × Nat)) : Prop :=
  RamAt w F rb 8192 n (.pointer (some ⟨lb, 0, none⟩)) M ∧ w.heap[lb]? = some (.cells #[lw, lr] 56 (0, 0)) ∧ SpanIn B w lw ws ∧ SpanIn B w lr rs ∧
  (∀ g, lw.ownBlock = some g → ¬ F g ∧ g ≠ lb ∧ lr.ownBlock ≠ some g ∧ G g) ∧ (∀ g, lr.ownBlock = some g → ¬ F g ∧ g ≠ lb ∧ G g) ∧ (∀ k, F k → G k) ∧ G lb ∧ ¬ F lb ∧ (∀ k, G k → k < w.heap.size)
theorem LogIn.kept {B : Nat} {w w1 : World} {G F : Nat → Prop} {rb n lb : Nat} {lw lr : Value} {M : Nat → Nat} {ws rs : List (Nat × Nat)} (h : LogIn B w G F rb n lb lw lr M ws rs) (hs : w.heap.size ≤ w1.heap.size) (hk : ∀ k, G k → w1.heap[k]? = w.heap[k]?) : LogIn B w1 G F rb n lb lw lr M ws rs := by
  obtain ⟨h1, h2, h3, h4, h5, h6, h7, h8, h9, h10⟩ := h
  exact ⟨h1.kept hs (fun k hf => hk k (h7 k hf)), (hk lb h8).trans h2, h3.kept (fun g hg => hk g (h5 g hg).2.2.2), h4.kept (fun g hg => hk g (h6 g hg).2.2), h5, h6, h7, h8, h9, fun k hg => Nat.lt_of_lt_of_le (h10 k hg) hs⟩
theorem step_add {B : Nat} {w w1 : World} {G : Nat → Prop} {v v' : Value} {l : List (Nat × Nat)} {x L lb o : Nat} (ha : Added B w w1 v v' l x L) (hv : ∀ g, v.ownBlock = some g → G g) (hlb : G lb) : Step G w (fun k => G k ∨ v'.ownBlock = some k) (w1.setCell ⟨lb, o, none⟩ v') := by
  obtain ⟨a1, a2, a3⟩ := ha
  refine ⟨a2.os, a2.tape, a2.output, by have := a2.size; simp [World.setCell]; omega, fun k hk hg => ?_, fun k hk => ?_, fun k hk => .inl hk⟩
  · rw [heap_setCell w1 lb o v' k (fun e => hg (e ▸ hlb))]
    exact a2.block k hk (fun e => hg (hv k e.symm))
  · rcases hk with hk | hk
    · exact .inl hk
    · rcases a3 with h | ⟨g, h, hg⟩
      · exact .inl (hv k (h ▸ hk))
      · rw [h] at hk; cases hk; exact .inr hg
theorem box_set0 {w : World} {b : Nat} {p q u : Value} {t : TypeId} (h : w.heap[b]? = some (.cells #[p, q] t (0, 0))) : (w.setCell ⟨b, 0, none⟩ u).heap[b]? = some (.cells #[u, q] t (0, 0)) := by
  rw [setCell_eq_setRow w b 0 _ t (0, 0) u h, setRow_heap w b _ _ t _ h]; rfl
theorem box_set1 {w : World} {b : Nat} {p q u : Value} {t : TypeId} (h : w.heap[b]? = some (.cells #[p, q] t (0, 0))) : (w.setCell ⟨b, 1, none⟩ u).heap[b]? = some (.cells #[p, u] t (0, 0)) := by
  rw [setCell_eq_setRow w b 1 _ t (0, 0) u h, setRow_heap w b _ _ t _ h]; rfl
theorem LogIn.toldR {B : Nat} {w w1 : World} {G F : Nat → Prop} {rb n lb : Nat} {lw lr v' : Value} {M : Nat → Nat} {ws rs : List (Nat × Nat)} {x L : Nat} (h : LogIn B w G F rb n lb lw lr M ws rs) (ha : Added B w w1 lr v' rs x L) :
    LogIn B (w1.setCell ⟨lb, 1, none⟩ v') (fun k => G k ∨ v'.ownBlock = some k) F rb n lb lw v' M ws (rs ++ [(x, L)]) ∧ Step G w (fun k => G k ∨ v'.ownBlock = some k) (w1.setCell ⟨lb, 1, none⟩ v') := by
  obtain ⟨h1, h2, h3, h4, h5, h6, h7, h8, h9, h10⟩ := h
  have hst : Step G w (fun k => G k ∨ v'.ownBlock = some k) (w1.setCell ⟨lb, 1, none⟩ v') := step_add ha (fun g hg => (h6 g hg).2.2) h8
  obtain ⟨a1, a2, a3⟩ := ha
  have hlb : w1.heap[lb]? = some (.cells #[lw, lr] 56 (0, 0)) := (a2.block lb (h10 lb h8) (fun e => (h6 lb e.symm).2.1 rfl)).trans h2
  have hF : ∀ k, F k → (w1.setCell ⟨lb, 1, none⟩ v').heap[k]? = w.heap[k]? := fun k hk => by
    rw [heap_setCell w1 lb 1 v' k (fun e => h9 (e ▸ hk))]
    exact a2.block k (h1.lt k hk) (fun e => (h6 k e.symm).1 hk)
  have hlw : ∀ g, lw.ownBlock = some g → (w1.setCell ⟨lb, 1, none⟩ v').heap[g]? = w.heap[g]? := fun g hg => by
    rw [heap_setCell w1 lb 1 v' g (h5 g hg).2.1]
    exact a2.block g (h3.lt g hg).2 (fun e => (h5 g hg).2.2.1 e.symm)
  have hnew : ∀ g, v'.ownBlock = some g → ¬ F g ∧ g ≠ lb ∧ lw.ownBlock ≠ some g := fun g hg => by
    rcases a3 with e | ⟨g', e, hge⟩
    · have := h6 g (e ▸ hg); exact ⟨this.1, this.2.1, fun e2 => (h5 g e2).2.2.1 (e ▸ hg)⟩
    · rw [e] at hg; cases hg
      refine ⟨fun hf => by have := h1.lt _ hf; omega, fun e2 => by have := h10 lb h8; omega, fun e2 => by have := (h3.lt _ e2).2; omega⟩
  refine ⟨⟨h1.kept hst.size hF, box_set1 hlb, h3.kept hlw, ?_, fun g hg => ⟨(h5 g hg).1, (h5 g hg).2.1, fun e2 => (hnew g e2).2.2 hg, .inl (h5 g hg).2.2.2⟩, fun g hg => ⟨(hnew g hg).1, (hnew g hg).2.1, .inr hg⟩, fun k hk => .inl (h7 k hk), .inl h8, h9, fun k hk => ?_⟩, hst⟩
  · exact a1.kept (fun g hg => heap_setCell w1 lb 1 v' g (hnew g hg).2.1)
  · have hs1 : (w1.setCell ⟨lb, 1, none⟩ v').heap.size = w1.heap.size := by simp [World.setCell]
    rcases hk with hk | hk
    · have := h10 k hk; have := a2.size; omega
    · have := (a1.lt k hk).2; omega
theorem watched_log {w : World} {F : Nat → Prop} {rb size n lb : Nat} {M : Nat → Nat} (h : RamAt w F rb size n (.pointer (some ⟨lb, 0, none⟩)) M) (L : Nat) (hL : L < 18446744073709551616) :
    Calls Try.prog 68 #[.pointer (some ⟨rb, 0, none⟩), .int .u64 (L : Nat)] w fun e w' => e = .returned (.bool (decide (0 < L))) ∧ w' = w := by
  have hc := h.cells.2
  by_cases h0 : (0 : Int) < L
  · have e : decide (0 < L) = true := by simp; omega
    rw [e]
    go_enter Try.func68, Try.ntmps68
    go_wp2
    go_ret
    exact ⟨rfl, rfl⟩
  · have e : decide (0 < L) = false := by simp; omega
    rw [e]
    go_enter Try.func68, Try.ntmps68
    go_wp2
    go_ret
    exact ⟨rfl, rfl⟩
theorem RamAt.setLog {w : World} {F : Nat → Prop} {rb size n : Nat} {lg lg' : Value} {M : Nat → Nat} (h : RamAt w F rb size n lg M) : RamAt (w.setCell ⟨rb, 2, none⟩ lg') F rb size n lg' M := by
  obtain ⟨bm, pg, D, h1, h2, h3, h4, h5, h6, f1, f2, f3, f4, h7⟩ := h
  have hne : ∀ k, (∀ c, w.heap[k]? ≠ some (.cells c 103 (0, 0))) → k ≠ rb := fun k hk e => hk _ (e ▸ h1)
  have old : ∀ k, k ≠ rb → (w.setCell ⟨rb, 2, none⟩ lg').heap[k]? = w.heap[k]? := fun k hk => heap_setCell w rb 2 lg' k hk
  obtain ⟨es, c, e1, e2, e3, e4⟩ := h2
  refine ⟨bm, pg, D, ?_, ⟨es, c, (old bm (hne bm (fun q => by rw [e1]; simp))).trans e1, e2, e3, e4⟩, h3, fun k b hk => (old b (hne b (fun q => by rw [h4 k b hk]; simp))).trans (h4 k b hk), h5, h6, f1, f2, f3, fun k hk => by simp [World.setCell]; exact f4 k hk, h7⟩
  rw [setCell_eq_setRow w rb 2 _ 103 (0, 0) lg' h1, setRow_heap w rb _ _ 103 _ h1]; rfl
theorem RamAt.frozen {w : World} {F : Nat → Prop} {rb size n : Nat} {lg : Value} {M : Nat → Nat} (h : RamAt w F rb size n lg M) : w.frozen? ⟨rb, 2, none⟩ = false := by
  obtain ⟨bm, pg, D, h1, _⟩ := h
  simp [World.frozen?, h1]
theorem clip_nil (w : World) : Calls Try.prog 44 #[.slice none 0 0] w fun e w' => e = .returned (.slice none 0 0) ∧ w' = w := by
  go_enter Try.func44, Try.ntmps44
  go_wp2
  go_ret
  exact ⟨rfl, rfl⟩
theorem watch_log {w : World} {F : Nat → Prop} {rb size n lb : Nat} {M : Nat → Nat} (h : RamAt w F rb size n (.pointer none) M) (hlb : w.heap[lb]? = some (.cells #[.slice none 0 0, .slice none 0 0] 56 (0, 0))) (hF : ¬ F lb) :
    Calls Try.prog 18 #[.pointer (some ⟨rb, 0, none⟩), .pointer (some ⟨lb, 0, none⟩)] w fun e w' => e = .returned (.tuple #[]) ∧ RamAt w' F rb size n (.pointer (some ⟨lb, 0, none⟩)) M ∧ w'.heap[lb]? = some (.cells #[.slice none 0 0, .slice none 0 0] 56 (0, 0)) ∧ Step (fun k => k = rb ∨ k = lb) w (fun k => k = rb ∨ k = lb) w' := by
  have hc := h.cells.2
  have hf := h.frozen
  have hne : lb ≠ rb := fun e => hF (e ▸ h.own)
  have h1 := (h.setLog (lg' := .pointer (some ⟨lb, 0, none⟩)))
  have hb1 : (w.setCell ⟨rb, 2, none⟩ (.pointer (some ⟨lb, 0, none⟩))).heap[lb]? = some (.cells #[.slice none 0 0, .slice none 0 0] 56 (0, 0)) := (heap_setCell w rb 2 _ lb hne).trans hlb
  have s1 : Step (fun k => k = rb ∨ k = lb) w (fun k => k = rb ∨ k = lb) (w.setCell ⟨rb, 2, none⟩ (.pointer (some ⟨lb, 0, none⟩))) := ⟨rfl, rfl, rfl, by simp [World.setCell], fun k hk hn => heap_setCell w rb 2 _ k (fun e => hn (.inl e)), fun _ h => .inl h, fun _ h => h⟩
  generalize hw1 : w.setCell ⟨rb, 2, none⟩ (.pointer (some ⟨lb, 0, none⟩)) = w1 at *
  obtain ⟨p0, p1, p2, p3⟩ := box_facts hb1
  have hb2 := box_set0 (u := .slice none 0 0) hb1
  have X : Hid (_ ∧ _ ∧ _) := ⟨h1, hb1, s1⟩
  clear h1 hb1 s1
  obtain ⟨q0, q1, q2, q3⟩ := box_facts hb2
  have Y : Hid _ := hb2
  clear hb2
  go_enter Try.func18, Try.ntmps18
  go_wp2_with (first | (go_at_call 44; refine (clip_nil _).mono ?_; rintro e w' ⟨rfl, rfl⟩))
  go_end0
  refine ⟨rfl, (X.out.1.setCell hF 0 _).setCell hF 1 _, box_set1 Y.out, ?_⟩
  obtain ⟨o1, o2, o3, o4, o5, o6, o7⟩ := X.out.2.2
  exact ⟨o1, o2, o3, by simpa [World.setCell] using o4, fun k hk hn => by rw [heap_setCell _ lb 1 _ k (fun e => hn (.inr e)), heap_setCell _ lb 0 _ k (fun e => hn (.inr e))]; exact o5 k hk hn, fun _ h => .inl h, fun _ h => h⟩
theorem add_full {B : Nat} {w : World} {v : Value} {l : List (Nat × Nat)} (h : SpanIn B w v l) (x L : Nat) (hl : 4096 ≤ l.length) (hm : l.length ≤ 1000000) :
    Calls Try.prog 69 #[v, .int .u64 (x : Nat), .int .u64 (L : Nat)] w fun e w' => e = .returned v ∧ w' = w := by
  obtain ⟨a, c, rfl⟩ := h.form
  have hl2 : (4096 : Int) ≤ (l.length : Int) := by omega
  clear h
  generalize l.length = n at *
  go_enter Try.func69, Try.ntmps69
  go_wp2_with fail
  go_ret
  exact ⟨rfl, rfl⟩
theorem LogIn.same {B : Nat} {w : World} {G F : Nat → Prop} {rb n lb : Nat} {lw lr : Value} {M : Nat → Nat} {ws rs : List (Nat × Nat)} (h : LogIn B w G F rb n lb lw lr M ws rs) : LogIn B (w.setCell ⟨lb, 1, none⟩ lr) G F rb n lb lw lr M ws rs ∧ Step G w G (w.setCell ⟨lb, 1, none⟩ lr) := by
  have hsz : (w.setCell ⟨lb, 1, none⟩ lr).heap.size = w.heap.size := by simp [World.setCell]
  refine ⟨h.kept (by omega) (fun k hk => ?_), ⟨rfl, rfl, rfl, by omega, fun k hk hg => heap_setCell w lb 1 lr k (fun e => hg (e ▸ h.2.2.2.2.2.2.2.1)), fun _ h => .inl h, fun _ h => h⟩⟩
  by_cases e : k = lb
  · subst e
    rw [box_set1 h.2.1, h.2.1]
  · exact heap_setCell w lb 1 lr k e
theorem snoc_len (rs : List (Nat × Nat)) (p : Nat × Nat) : (rs ++ [p]).length = rs.length + 1 := by simp
/-- a watched memory that tells of reads of 16 bytes alone, at places that Q has -/
def LgI (rb n lb : Nat) (M : Nat → Nat) (Q : Nat → Prop) (G : Nat → Prop) (w : World) : Prop := ∃ F lw lr rs, LogIn 0 w G F rb n lb lw lr M [] rs ∧ rs.length ≤ 4096 ∧ ∀ p ∈ rs, p.2 = 16 ∧ Q p.1 ∧ p.1 < 18446744073709551616
set_option maxHeartbeats 2000000 in
theorem tellRead_16 {w : World} {G : Nat → Prop} {rb n lb : Nat} {M : Nat → Nat} {Q : Nat → Prop} (h : LgI rb n lb M Q G w) (x : Nat) (hx : x < 18446744073709551616) (hQ : Q x) :
    Calls Try.prog 64 #[.pointer (some ⟨rb, 0, none⟩), .int .u64 (x : Nat), .int .u64 16] w fun e w' => e = .returned (.tuple #[]) ∧ ∃ G', LgI rb n lb M Q G' w' ∧ Step G w G' w' := by
  obtain ⟨F, lw, lr, rs, h, hrl, hq⟩ := h
  have hc2 := h.1.cells.2
  obtain ⟨p0, p1, p2, p3⟩ := box_facts h.2.1
  obtain ⟨al, cl, rfl⟩ := h.2.2.2.1.form
  have hD : LogIn 0 w.drew G F rb n lb lw (.slice al rs.length cl) M [] rs := h.kept (Nat.le_refl _) (fun _ _ => rfl)
  have H : Hid (LogIn 0 w G F rb n lb lw (.slice al rs.length cl) M [] rs ∧ LogIn 0 w.drew G F rb n lb lw (.slice al rs.length cl) M [] rs ∧ (∀ p ∈ rs, p.2 = 16 ∧ Q p.1 ∧ p.1 < 18446744073709551616) ∧ x < 18446744073709551616 ∧ Q x ∧ rs.length ≤ 4096) := ⟨h, hD, hq, hx, hQ, hrl⟩
  have W68 : Hid (Calls Try.prog 68 #[.pointer (some ⟨rb, 0, none⟩), .int .u64 16] w fun e w' => e = .returned (.bool true) ∧ w' = w) := watched_log h.1 16 (by omega)
  clear h hD hq hx hQ hrl
  by_cases hl : rs.length < 4096
  · go_enter Try.func64, Try.ntmps64
    go_wp2_with (first | (go_at_call 68; refine (W68.out).mono ?_; rintro e w' ⟨rfl, hw⟩; rw [hw]; clear hw w'))
    go_region_with (first | (go_at_call 69; refine (add_any (B := 0) (w := w.drew) H.out.2.1.2.2.2.1 x 16 hl (Nat.zero_le _)).mono ?_; rintro e w1 ⟨v', rfl, ha⟩; have q2 : w1.cell? ⟨rb, 2, none⟩ = some (.pointer (some ⟨lb, 0, none⟩)) := (by rw [World.cell?_of_block (a := ⟨rb, 2, none⟩) (ha.2.1.block rb (H.out.1.1.lt _ H.out.1.1.own) (fun e => (H.out.1.2.2.2.2.2.1 rb e.symm).1 H.out.1.1.own))]; exact hc2); have hlb : w1.heap[lb]? = some (.cells #[lw, .slice al rs.length cl] 56 (0, 0)) := (ha.2.1.block lb (H.out.1.2.2.2.2.2.2.2.2.2 lb H.out.1.2.2.2.2.2.2.2.1) (fun e => (H.out.1.2.2.2.2.2.1 lb e.symm).2.1 rfl)).trans H.out.1.2.1; obtain ⟨r0, r1, r2, r3⟩ := box_facts hlb; obtain ⟨a', c', hv'⟩ := ha.1.form; rw [snoc_len] at hv'; subst hv'; have X : Hid _ := ha; clear ha hlb))
    all_goals
      go_wp2
      go_end0
      obtain ⟨hl2, hst⟩ := H.out.2.1.toldR X.out
      refine ⟨rfl, _, ⟨F, lw, _, rs ++ [(x, 16)], hl2, by simp; omega, fun p hp => ?_⟩, ⟨hst.os, hst.tape, hst.output, hst.size, hst.block, hst.old, hst.keep⟩⟩
      rcases List.mem_append.1 hp with hp | hp
      · exact H.out.2.2.1 p hp
      · have : p = (x, 16) := by simpa using hp
        subst this
        exact ⟨rfl, H.out.2.2.2.2.1, H.out.2.2.2.1⟩
  · go_enter Try.func64, Try.ntmps64
    go_wp2_with (first | (go_at_call 68; refine (W68.out).mono ?_; rintro e w' ⟨rfl, hw⟩; rw [hw]; clear hw w'))
    go_region_with (first | (go_at_call 69; refine (add_full (B := 0) (w := w.drew) H.out.2.1.2.2.2.1 x 16 (by omega) (by have := H.out.2.2.2.2.2; omega)).mono ?_; rintro e w1 ⟨rfl, hw⟩; rw [hw]; clear hw w1))
    all_goals
      go_wp2
      go_end0
      obtain ⟨hl2, hst⟩ := H.out.2.1.same
      exact ⟨rfl, _, ⟨F, lw, _, rs, hl2, H.out.2.2.2.2.2, H.out.2.2.1⟩, ⟨hst.os, hst.tape, hst.output, hst.size, hst.block, hst.old, hst.keep⟩⟩
theorem LgI.kept {rb n lb : Nat} {M : Nat → Nat} {Q : Nat → Prop} {G : Nat → Prop} {w w1 : World} (h : LgI rb n lb M Q G w) (hs : w.heap.size ≤ w1.heap.size) (hk : ∀ k, G k → w1.heap[k]? = w.heap[k]?) : LgI rb n lb M Q G w1 := by
  obtain ⟨F, lw, lr, rs, h, h2⟩ := h
  exact ⟨F, lw, lr, rs, h.kept hs hk, h2⟩
theorem LgI.lt {rb n lb : Nat} {M : Nat → Nat} {Q : Nat → Prop} {G : Nat → Prop} {w : World} (h : LgI rb n lb M Q G w) : ∀ k, G k → k < w.heap.size := by
  obtain ⟨F, lw, lr, rs, h, h2⟩ := h
  exact h.2.2.2.2.2.2.2.2.2
theorem LgI.below {rb n lb : Nat} {M : Nat → Nat} {Q : Nat → Prop} {G : Nat → Prop} {w w1 : World} (h : LgI rb n lb M Q G w) (hb : Below w.heap.size w w1) : LgI rb n lb M Q G w1 := h.kept hb.size (fun k hk => hb.block k (h.lt k hk))
theorem LgI.ram {rb n lb : Nat} {M : Nat → Nat} {Q : Nat → Prop} {G : Nat → Prop} {w : World} (h : LgI rb n lb M Q G w) : ∃ F, RamAt w F rb 8192 n (.pointer (some ⟨lb, 0, none⟩)) M ∧ ∀ k, F k → G k := by
  obtain ⟨F, lw, lr, rs, h, h2⟩ := h
  exact ⟨F, h.1, h.2.2.2.2.2.2.1⟩
theorem lg_mem (rb n lb : Nat) (M : Nat → Nat) (Q : Nat → Prop) : Wm rb M (LgI rb n lb M Q) :=
  ⟨fun F w h => by obtain ⟨F2, h2, _⟩ := h.ram; exact ⟨F2, n, _, h2⟩, fun F w h => h.lt, fun F w G G' w' h hs hd => h.kept hs.size (fun k hk => hs.block k (h.lt k hk) (hd k hk))⟩
set_option maxHeartbeats 2000000 in
theorem read_16 {w : World} {G : Nat → Prop} {rb n lb : Nat} {M : Nat → Nat} {Q : Nat → Prop} (h : LgI rb n lb M Q G w) (x : Nat) (hx : x < 18446744073709551616) (hQ : Q x) (hin : inB x 16 2147483648 8192 = true) :
    Calls Try.prog 46 #[.pointer (some ⟨rb, 0, none⟩), .int .u64 (x : Nat), .int .u64 16] w fun e w' => e = .returned (.tuple #[.slice (some ⟨w.heap.size, 0, none⟩) 16 16, .bool true]) ∧ Reads .u8 w' (.slice (some ⟨w.heap.size, 0, none⟩) 16 16) 16 (fun i => M (x + i)) ∧ ∃ G', LgI rb n lb M Q G' w' ∧ Step G w G' w' := by
  obtain ⟨i0, hi, hz0, hz1, hz2⟩ := info_parts Try.info5
  obtain ⟨F, hram, hFG⟩ := h.ram
  have K55 : Hid (Calls Try.prog 55 #[.pointer (some ⟨rb, 0, none⟩), .int .u64 (x : Int), .int .u64 16] w fun e w' => e = .returned (.bool true) ∧ w' = w) := by
    have := has_any hram (by omega) x 16 hx (by omega)
    have hin2 : inB (x : Int) ((16 : Nat) : Int) 2147483648 ((8192 : Nat) : Int) = true := hin
    rw [hin2] at this
    exact this
  have hxb : 2147483648 ≤ x ∧ x + 16 ≤ 2147491840 := by
    have : (2147483648 : Int) ≤ x ∧ (x : Int) + 16 ≤ 2147483648 + 8192 := by simpa [inB] using hin
    omega
  have H : Hid (LgI rb n lb M Q G w ∧ RamAt w F rb 8192 n (.pointer (some ⟨lb, 0, none⟩)) M ∧ (∀ k, F k → G k) ∧ x < 18446744073709551616 ∧ Q x ∧ x + 16 ≤ 2147491840) := ⟨h, hram, hFG, hx, hQ, hxb.2⟩
  clear h hram hFG hx hQ hin hxb
  go_enter Try.func46, Try.ntmps46
  go_wp2_with (first | (go_at_call 55; refine (K55.out).mono ?_; rintro e w' ⟨rfl, hw⟩; rw [hw]; clear hw w') | (at_make; refine wpList_make_full _ rfl _ _ 64 rfl w.heap.size 5 i0 (.int .u8 0) 1 Try.underlying64 hi hz0 hz1 _ _ _ _ 16 rfl rfl ?m1 ?m2 ?m3 ?m4 ?m5 ?_))
  case m1 => rfl
  case m2 => rfl
  case m3 => rw [hz2]; omega
  case m4 => unfold maxLen; omega
  case m5 => omega
  · intro w1 hown0 hgrow0
    have hb0 : Below w.heap.size w w1 := Below.grown (Below.refl _ _) hgrow0 (Nat.le_refl _) (by simp)
    rw [toList_madeCells_one, rowK_zero] at hown0
    have hrow := whole_row hown0
    have hG : ¬ G w.heap.size := fun hf => by have := H.out.1.lt _ hf; omega
    have X : Hid (w1.heap[w.heap.size]? = some (.cells (rowK .u8 (fun _ => 0) 16).toArray 5 (0, 0)) ∧ Below w.heap.size w w1 ∧ LgI rb n lb M Q G w1 ∧ ¬ G w.heap.size ∧ RamAt w1 F rb 8192 n (.pointer (some ⟨lb, 0, none⟩)) M) := ⟨hrow, hb0, H.out.1.below hb0, hG, H.out.2.1.below hb0⟩
    have hlt : w.heap.size < w1.heap.size := (Array.getElem?_eq_some_iff.1 hrow).1
    clear hown0 hgrow0 hrow hb0 hG
    have K63 : Hid (Calls Try.prog 63 #[.pointer (some ⟨rb, 0, none⟩), .int .u64 (x : Nat), .slice (some ⟨w.heap.size, 0, none⟩) 16 16] w1 fun e w' => e = .returned (.tuple #[]) ∧ w'.heap[w.heap.size]? = some (.cells (rowK .u8 (fun i => if i < 16 then M (x + i) else 0) 16).toArray 5 (0, 0)) ∧ Step (fun k => k = w.heap.size) w1 (fun k => k = w.heap.size) w') := get_any X.out.2.2.2.2 x 16 16 w.heap.size 16 5 _ (.inr rfl) (Nat.le_refl _) (by omega) (fun hf => X.out.2.2.2.1 (H.out.2.2.1 _ hf)) X.out.1 (by have := H.out.2.2.2.2.2; omega)
    go_wp2_with (first | (go_at_call 63; refine (K63.out).mono ?_; rintro e w2 ⟨rfl, hr2, hs2⟩; have Y : Hid (LgI rb n lb M Q G w2 ∧ Below w.heap.size w w2 ∧ w2.heap[w.heap.size]? = some (.cells (rowK .u8 (fun i => if i < 16 then M (x + i) else 0) 16).toArray 5 (0, 0))) := ⟨X.out.2.2.1.kept hs2.size (fun k hk => hs2.block k (X.out.2.2.1.lt k hk) (fun e => X.out.2.2.2.1 (e ▸ hk))), X.out.2.1.trans (hs2.below (by omega) (fun k hk => by omega)), hr2⟩; clear hr2 hs2) | (go_at_call 64; refine (tellRead_16 Y.out.1 x H.out.2.2.2.1 H.out.2.2.2.2.1).mono ?_; rintro e w3 ⟨rfl, G3, h3, hs3⟩))
    go_ret2
    have hrow3 : w3.heap[w.heap.size]? = some (.cells (rowK .u8 (fun i => if i < 16 then M (x + i) else 0) 16).toArray 5 (0, 0)) := (hs3.block _ (Array.getElem?_eq_some_iff.1 Y.out.2.2).1 X.out.2.2.2.1).trans Y.out.2.2
    refine ⟨rfl, .inr ⟨w.heap.size, 0, 16, rfl, fun i hi => ?_⟩, G3, h3, (Step.of_below Y.out.2.1).trans hs3⟩
    rw [Nat.zero_add]
    exact cellOf hrow3 i _ (by simp [rowK_get _ _ _ _ hi, hi])
def Lz (rb n lb : Nat) (M : Nat → Nat) (Q : Nat → Prop) (G : Nat → Prop) (w V : World) : Prop := ∃ G', LgI rb n lb M Q G' V ∧ Step G w G' V ∧ ¬ G' w.heap.size
theorem Lz.drew {rb n lb : Nat} {M : Nat → Nat} {Q : Nat → Prop} {G : Nat → Prop} {w V : World} (h : Lz rb n lb M Q G w V) : Lz rb n lb M Q G w V.drew := by
  obtain ⟨G', h1, h2, h3⟩ := h
  exact ⟨G', h1.below (Below.refl _ _).drew, h2.trans (Step.of_below (Below.refl _ _).drew), h3⟩
theorem Lz.setRow {rb n lb : Nat} {M : Nat → Nat} {Q : Nat → Prop} {G : Nat → Prop} {w V : World} (h : Lz rb n lb M Q G w V) (c : Array Value) : Lz rb n lb M Q G w (V.setRow w.heap.size c) := by
  obtain ⟨G', h1, h2, h3⟩ := h
  have hsz : (V.setRow w.heap.size c).heap.size = V.heap.size := by simp [World.setRow]
  refine ⟨G', h1.kept (by omega) (fun k hk => setRow_other _ _ _ _ (fun e => h3 (e ▸ hk))), ⟨h2.os, h2.tape, h2.output, by have := h2.size; omega, fun k hk hg => ?_, h2.old, h2.keep⟩, h3⟩
  rw [setRow_other _ _ _ _ (by omega)]
  exact h2.block k hk hg
set_option maxHeartbeats 1000000 in
theorem desc_log {w : World} {G : Nat → Prop} {rb n lb : Nat} {M : Nat → Nat} {Q : Nat → Prop} (h : LgI rb n lb M Q G w) (t x k : Nat) (hk : k ≤ 255) (hx : x = (t + 16 * k) % 18446744073709551616) (hin : inB x 16 2147483648 8192 = true) (v0 v1 v2 v3 : Nat) (hd : DescAt M x v0 v1 v2 v3) (hM : ∀ a, M a ≤ 255) (hQ : Q x) : Calls Try.prog 58 #[.pointer (some ⟨rb, 0, none⟩), .int .u64 (t : Nat), .int .i64 (k : Int)] w fun e w' => e = .returned (.tuple #[.agg #[.int .u64 (v0 : Int), .int .u32 (v1 : Int), .int .u16 (v2 : Int), .int .u16 (v3 : Int)], .bool true]) ∧ Lz rb n lb M Q G w w' := by
  have h1 : ¬ (256 : Int) ≤ (k : Int) := by omega
  have h2 : ¬ (k : Int) < 0 := by omega
  have h3 : IntKind.u64.wrap (k : Int) = (k : Int) := by rw [wrap_u64]; omega
  have h4 : IntKind.u64.wrap (16 * (k : Int)) = 16 * (k : Int) := by rw [wrap_u64]; omega
  have h5 : IntKind.u64.wrap ((t : Int) + 16 * (k : Int)) = (x : Int) := by rw [wrap_u64]; omega
  have HX : Hid (x < 18446744073709551616 ∧ inB x 16 2147483648 8192 = true ∧ Q x) := ⟨by omega, hin, hQ⟩
  have HR : Hid (LgI rb n lb M Q G (w.alloc (.cells #[.int .u64 0, .int .u32 0, .int .u16 0, .int .u16 0] 92)) ∧ (w.alloc (.cells #[.int .u64 0, .int .u32 0, .int .u16 0, .int .u16 0] 92)).heap[w.heap.size]? = some (.cells #[.int .u64 0, .int .u32 0, .int .u16 0, .int .u16 0] 92 (0, 0)) ∧ Step G w G (w.alloc (.cells #[.int .u64 0, .int .u32 0, .int .u16 0, .int .u16 0] 92)) ∧ ¬ G w.heap.size) := ⟨h.below ((Below.refl _ _).alloc (Nat.le_refl _) _), heap_alloc_new _ _, Step.of_below ((Below.refl _ _).alloc (Nat.le_refl _) _), fun hf => by have := h.lt _ hf; omega⟩
  have HM : Hid (∀ a, M a ≤ 255) := hM
  have HD : Hid (DescAt M x v0 v1 v2 v3) := hd
  have hlt := hd.lt hM
  have u1 : IntKind.u32.wrap (v1 : Int) = (v1 : Int) := by simp [IntKind.wrap, IntKind.signed, IntKind.bits]; omega
  have u2 : IntKind.u16.wrap (v2 : Int) = (v2 : Int) := by rw [wrap16]; omega
  have u3 : IntKind.u16.wrap (v3 : Int) = (v3 : Int) := by rw [wrap16]; omega
  clear hx hin hlt hd h hM hQ
  go_enter Try.func58, Try.ntmps58
  go_upto_region 3 with fail
  generalize (w.alloc (.cells #[.int .u64 0, .int .u32 0, .int .u16 0, .int .u16 0] 92)) = w0 at *
  go_wp2_with fail
  refine (read_16 HR.out.1 x HX.out.1 HX.out.2.2 HX.out.2.1).mono ?_
  rintro e w1 ⟨rfl, ho, G1, hb1, hs1⟩
  have X1 : Hid (w1.heap[w.heap.size]? = some (.cells #[.int .u64 0, .int .u32 0, .int .u16 0, .int .u16 0] 92 (0, 0)) ∧ Lz rb n lb M Q G w w1 ∧ Reads .u8 w1 (.slice (some ⟨w0.heap.size, 0, none⟩) 16 16) 16 (fun i => M (x + i))) := ⟨(hs1.block _ (Array.getElem?_eq_some_iff.1 HR.out.2.1).1 HR.out.2.2.2).trans HR.out.2.1, ⟨G1, hb1, HR.out.2.2.1.trans hs1, fun hf => by rcases hs1.old _ hf with h | h; exact HR.out.2.2.2 h; have := (Array.getElem?_eq_some_iff.1 HR.out.2.1).1; omega⟩, ho⟩
  clear ho hb1 hs1 HR
  generalize w0.heap.size = g at *
  go_upto_region 6 with fail
  have X2 : Hid (w1.drew.heap[w.heap.size]? = some (.cells #[.int .u64 0, .int .u32 0, .int .u16 0, .int .u16 0] 92 (0, 0)) ∧ Lz rb n lb M Q G w w1.drew ∧ Reads .u8 w1.drew (.slice (some ⟨g, 0, none⟩) 16 16) 16 (fun i => M (x + i))) := ⟨X1.out.1, X1.out.2.1.drew, reads_below X1.out.2.2 (Below.drew (Below.refl _ _))⟩
  clear X1
  refine wp_region_held_drew (S := fun _ => True) (by kernel_rfl) trivial ?_
  intro hS
  generalize w1.drew = w2 at *
  have X1 := X2
  clear X2
  refine wpAnyH_take (i := 0) (v := ?_) rfl (by kernel_rfl) (by kernel_rfl) (by kernel_rfl) (fun _ _ _ h => h) (Or.inl ⟨by kernel_rfl, ?_⟩) hS ?_
  rotate_left
  · intro w hSw; (try dsimp only at hSw); go_simp; try (with_reducible rfl)
  (try simp only [Act.put, List.getElem_toArray, List.getElem_cons_succ, List.getElem_cons_zero, List.setIfInBounds_toArray, List.set_cons_zero, List.set_cons_succ])
  refine wpAnyH_take (i := 1) (v := ?_) rfl (by kernel_rfl) (by kernel_rfl) (by kernel_rfl) (fun _ _ _ h => h) (Or.inl ⟨by kernel_rfl, ?_⟩) hS ?_
  rotate_left
  · intro w hSw; (try dsimp only at hSw); go_simp; try (with_reducible rfl)
  (try simp only [Act.put, List.getElem_toArray, List.getElem_cons_succ, List.getElem_cons_zero, List.setIfInBounds_toArray, List.set_cons_zero, List.set_cons_succ])
  refine wpAnyH_take (i := 3) (v := ?_) rfl (by kernel_rfl) (by kernel_rfl) (by kernel_rfl) (fun _ _ _ h => h) (Or.inl ⟨by kernel_rfl, ?_⟩) hS ?_
  rotate_left
  · intro w hSw; (try dsimp only at hSw); go_simp; try (with_reducible rfl)
  (try simp only [Act.put, List.getElem_toArray, List.getElem_cons_succ, List.getElem_cons_zero, List.setIfInBounds_toArray, List.set_cons_zero, List.set_cons_succ])
  refine wpAnyH_take (i := 4) (v := ?_) rfl (by kernel_rfl) (by kernel_rfl) (by kernel_rfl) (fun _ _ _ h => h) (Or.inl ⟨by kernel_rfl, ?_⟩) hS ?_
  rotate_left
  · intro w hSw; (try dsimp only at hSw); go_simp; try (with_reducible rfl)
  (try simp only [Act.put, List.getElem_toArray, List.getElem_cons_succ, List.getElem_cons_zero, List.setIfInBounds_toArray, List.set_cons_zero, List.set_cons_succ])
  refine wpAnyH_take (i := 7) (v := ?_) rfl (by kernel_rfl) (by kernel_rfl) (by kernel_rfl) (fun _ _ _ h => h) (Or.inl ⟨by kernel_rfl, ?_⟩) hS ?_
  rotate_left
  · intro w hSw; (try dsimp only at hSw); go_simp; try (with_reducible rfl)
  (try simp only [Act.put, List.getElem_toArray, List.getElem_cons_succ, List.getElem_cons_zero, List.setIfInBounds_toArray, List.set_cons_zero, List.set_cons_succ])
  refine wpAnyH_take (i := 8) (v := ?_) rfl (by kernel_rfl) (by kernel_rfl) (by kernel_rfl) (fun _ _ _ h => h) (Or.inl ⟨by kernel_rfl, ?_⟩) hS ?_
  rotate_left
  · intro w hSw; (try dsimp only at hSw); go_simp; try (with_reducible rfl)
  (try simp only [Act.put, List.getElem_toArray, List.getElem_cons_succ, List.getElem_cons_zero, List.setIfInBounds_toArray, List.set_cons_zero, List.set_cons_succ])
  refine wpAnyH_take (i := 11) (v := ?_) rfl (by kernel_rfl) (by kernel_rfl) (by kernel_rfl) (fun _ _ _ h => h) (Or.inl ⟨by kernel_rfl, ?_⟩) hS ?_
  rotate_left
  · intro w hSw; (try dsimp only at hSw); go_simp; try (with_reducible rfl)
  (try simp only [Act.put, List.getElem_toArray, List.getElem_cons_succ, List.getElem_cons_zero, List.setIfInBounds_toArray, List.set_cons_zero, List.set_cons_succ])
  refine wpAnyH_take (i := 12) (v := ?_) rfl (by kernel_rfl) (by kernel_rfl) (by kernel_rfl) (fun _ _ _ h => h) (Or.inl ⟨by kernel_rfl, ?_⟩) hS ?_
  rotate_left
  · intro w hSw; (try dsimp only at hSw); go_simp; try (with_reducible rfl)
  (try simp only [Act.put, List.getElem_toArray, List.getElem_cons_succ, List.getElem_cons_zero, List.setIfInBounds_toArray, List.set_cons_zero, List.set_cons_succ])
  refine wpAnyH_ready (rs := [2]) (by kernel_rfl) (by simp) ?_
  refine AllReadyH.cons rfl (fun K1 hK1 => ?_) AllReadyH.nil
  go_simp
  refine (of_any (fun i => M (x + i)) 8 8 _ (by decide) (by decide) (fun i _ => HM.out _) _ (reads_head X1.out.2.2 8 _ (by decide))).mono ?_
  rintro e w10 ⟨rfl, hw⟩
  rw [hw, HD.out.e0]
  clear hw w10
  refine hK1.out _ _ trivial (fun hS10 => ?_)
  clear hK1 K1 hS
  (try simp only [Act.put, List.getElem_toArray, List.getElem_cons_succ, List.getElem_cons_zero, List.setIfInBounds_toArray, List.set_cons_zero, List.set_cons_succ])
  refine wpAnyH_ready (rs := [5]) (by kernel_rfl) (by simp) ?_
  refine AllReadyH.cons rfl (fun K1 hK1 => ?_) AllReadyH.nil
  go_simp
  refine (of_any (fun i => M (x + (8 + i))) 4 4 _ (by decide) (by decide) (fun i _ => HM.out _) _ (reads_cut (n := 4) X1.out.2.2 8 _ (by decide))).mono ?_
  rintro e w11 ⟨rfl, hw⟩
  rw [hw, HD.out.e1]
  clear hw w11
  refine hK1.out _ _ trivial (fun hS11 => ?_)
  clear hK1 K1 hS10
  (try simp only [Act.put, List.getElem_toArray, List.getElem_cons_succ, List.getElem_cons_zero, List.setIfInBounds_toArray, List.set_cons_zero, List.set_cons_succ])
  refine wpAnyH_take (i := 6) (v := ?_) rfl (by kernel_rfl) (by kernel_rfl) (by kernel_rfl) (fun _ _ _ h => h) (Or.inl ⟨by kernel_rfl, ?_⟩) hS11 ?_
  rotate_left
  · intro w hSw; (try dsimp only at hSw); go_simp; try (with_reducible rfl)
  (try simp only [Act.put, List.getElem_toArray, List.getElem_cons_succ, List.getElem_cons_zero, List.setIfInBounds_toArray, List.set_cons_zero, List.set_cons_succ])
  refine wpAnyH_ready (rs := [9]) (by kernel_rfl) (by simp) ?_
  refine AllReadyH.cons rfl (fun K1 hK1 => ?_) AllReadyH.nil
  go_simp
  refine (of_any (fun i => M (x + (12 + i))) 2 2 _ (by decide) (by decide) (fun i _ => HM.out _) _ (reads_cut (n := 2) X1.out.2.2 12 _ (by decide))).mono ?_
  rintro e w12 ⟨rfl, hw⟩
  rw [hw, HD.out.e2]
  clear hw w12
  refine hK1.out _ _ trivial (fun hS12 => ?_)
  clear hK1 K1 hS11
  (try simp only [Act.put, List.getElem_toArray, List.getElem_cons_succ, List.getElem_cons_zero, List.setIfInBounds_toArray, List.set_cons_zero, List.set_cons_succ])
  refine wpAnyH_take (i := 10) (v := ?_) rfl (by kernel_rfl) (by kernel_rfl) (by kernel_rfl) (fun _ _ _ h => h) (Or.inl ⟨by kernel_rfl, ?_⟩) hS12 ?_
  rotate_left
  · intro w hSw; (try dsimp only at hSw); go_simp; try (with_reducible rfl)
  (try simp only [Act.put, List.getElem_toArray, List.getElem_cons_succ, List.getElem_cons_zero, List.setIfInBounds_toArray, List.set_cons_zero, List.set_cons_succ])
  refine wpAnyH_ready (rs := [13]) (by kernel_rfl) (by simp) ?_
  refine AllReadyH.cons rfl (fun K1 hK1 => ?_) AllReadyH.nil
  go_simp
  refine (of_any (fun i => M (x + (14 + i))) 2 2 _ (by decide) (by decide) (fun i _ => HM.out _) _ (reads_cut (n := 2) X1.out.2.2 14 _ (by decide))).mono ?_
  rintro e w13 ⟨rfl, hw⟩
  rw [hw, HD.out.e3]
  clear hw w13
  refine hK1.out _ _ trivial (fun hS13 => ?_)
  clear hK1 K1 hS12
  (try simp only [Act.put, List.getElem_toArray, List.getElem_cons_succ, List.getElem_cons_zero, List.setIfInBounds_toArray, List.set_cons_zero, List.set_cons_succ])
  refine wpAnyH_take (i := 14) (v := ?_) rfl (by kernel_rfl) (by kernel_rfl) (by kernel_rfl) (fun _ _ _ h => h) (Or.inl ⟨by kernel_rfl, ?_⟩) hS13 ?_
  rotate_left
  · intro w hSw; (try dsimp only at hSw); go_simp; try (with_reducible rfl)
  (try simp only [Act.put, List.getElem_toArray, List.getElem_cons_succ, List.getElem_cons_zero, List.setIfInBounds_toArray, List.set_cons_zero, List.set_cons_succ])
  refine wpAnyH_take (i := 15) (v := ?_) rfl (by kernel_rfl) (by kernel_rfl) (by kernel_rfl) (fun _ _ _ h => h) (Or.inl ⟨by kernel_rfl, ?_⟩) hS13 ?_
  rotate_left
  · intro w hSw; (try dsimp only at hSw); go_simp; try (with_reducible rfl)
  (try simp only [Act.put, List.getElem_toArray, List.getElem_cons_succ, List.getElem_cons_zero, List.setIfInBounds_toArray, List.set_cons_zero, List.set_cons_succ])
  refine wpAnyH_ready (rs := [16]) (by kernel_rfl) (by simp) ?_
  refine AllReadyH.cons rfl (fun K1 hK1 => ?_) AllReadyH.nil
  rw [if_pos (by kernel_rfl)]
  refine wp_store_row 92 _ _ rfl w.heap.size #[.int .u64 (v0 : Int), .int .u32 (v1 : Int), .int .u16 (v2 : Int), .int .u16 (v3 : Int)] rfl rfl 92 #[.int .u64 0, .int .u32 0, .int .u16 0, .int .u16 0] X1.out.1 info47 rfl (by simp [Value.oneCell']) ?_
  have Y : Hid ((w2.setRow w.heap.size #[.int .u64 (v0 : Int), .int .u32 (v1 : Int), .int .u16 (v2 : Int), .int .u16 (v3 : Int)]).heap[w.heap.size]? = some (.cells #[.int .u64 (v0 : Int), .int .u32 (v1 : Int), .int .u16 (v2 : Int), .int .u16 (v3 : Int)] 92 (0, 0)) ∧ Lz rb n lb M Q G w (w2.setRow w.heap.size #[.int .u64 (v0 : Int), .int .u32 (v1 : Int), .int .u16 (v2 : Int), .int .u16 (v3 : Int)])) := ⟨setRow_heap _ _ _ _ _ _ X1.out.1, X1.out.2.1.setRow _⟩
  generalize w2.setRow w.heap.size #[.int .u64 (v0 : Int), .int .u32 (v1 : Int), .int .u16 (v2 : Int), .int .u16 (v3 : Int)] = w9 at *
  refine hK1.out _ _ trivial (fun hS20 => ?_)
  clear hK1 K1 hS13
  (try simp only [Act.put, List.getElem_toArray, List.getElem_cons_succ, List.getElem_cons_zero, List.setIfInBounds_toArray, List.set_cons_zero, List.set_cons_succ])
  refine wpAnyH_take (i := 17) (v := ?_) rfl (by kernel_rfl) (by kernel_rfl) (by kernel_rfl) (fun _ _ _ h => h) (Or.inl ⟨by kernel_rfl, ?_⟩) hS20 ?_
  rotate_left
  · intro w hSw; (try dsimp only at hSw); go_simp; try (with_reducible rfl)
  (try simp only [Act.put, List.getElem_toArray, List.getElem_cons_succ, List.getElem_cons_zero, List.setIfInBounds_toArray, List.set_cons_zero, List.set_cons_succ])
  refine wpAnyH_done (by kernel_rfl) ?_ _
  clear hS20
  obtain ⟨c0, c1, c2, c3⟩ := box4_facts Y.out.1
  go_wp2_with fail
  refine bodyPost_ret (v := .tuple #[.agg #[.int .u64 (v0 : Int), .int .u32 (v1 : Int), .int .u16 (v2 : Int), .int .u16 (v3 : Int)], .bool true]) (by simp [results, Try.results58, go_sem, c0, c1, c2, c3]) rfl ⟨rfl, Y.out.2⟩
theorem desc_outl {w : World} {F : Nat → Prop} {rb n : Nat} {M : Nat → Nat} {lg : Value} (h : RamAt w F rb 8192 n lg M) (t x k : Nat) (hk : k ≤ 255) (hx : x = (t + 16 * k) % 18446744073709551616) (hin : inB x 16 2147483648 8192 = false) : Calls Try.prog 58 #[.pointer (some ⟨rb, 0, none⟩), .int .u64 (t : Nat), .int .i64 (k : Int)] w fun e w' => e = .returned (.tuple #[.agg #[.int .u64 0, .int .u32 0, .int .u16 0, .int .u16 0], .bool false]) ∧ Below w.heap.size w w' := by
  have h1 : ¬ (256 : Int) ≤ (k : Int) := by omega
  have h2 : ¬ (k : Int) < 0 := by omega
  have h3 : IntKind.u64.wrap (k : Int) = (k : Int) := by rw [wrap_u64]; omega
  have h4 : IntKind.u64.wrap (16 * (k : Int)) = 16 * (k : Int) := by rw [wrap_u64]; omega
  have h5 : IntKind.u64.wrap ((t : Int) + 16 * (k : Int)) = (x : Int) := by rw [wrap_u64]; omega
  have HX : Hid (x < 18446744073709551616 ∧ inB x 16 2147483648 8192 = false) := ⟨by omega, hin⟩
  have HR : Hid (RamAt (w.alloc (.cells #[.int .u64 0, .int .u32 0, .int .u16 0, .int .u16 0] 92)) F rb 8192 n lg M) := h.below ((Below.refl _ _).alloc (Nat.le_refl _) _)
  clear hx hin
  go_enter Try.func58, Try.ntmps58
  go_wp2_with fail
  refine (read_out HR.out (by omega) x 16 HX.out.1 (by omega) HX.out.2).mono ?_
  rintro e w1 ⟨rfl, hw⟩
  rw [hw]
  clear hw w1
  go_wp2_with fail
  refine bodyPost_ret (v := .tuple #[.agg #[.int .u64 0, .int .u32 0, .int .u16 0, .int .u16 0], .bool false]) (by simp [results, Try.results58, go_sem]) rfl ⟨rfl, ?_⟩
  exact (Below.refl _ _).alloc (Nat.le_refl _) _
theorem lg_desc (rb n lb : Nat) (M : Nat → Nat) (hM : ∀ a, M a ≤ 255) (Q : Nat → Prop) (t k : Nat) (hQ : ∀ i, i < k → deB t i = true → Q (deX t i)) : DescOk rb M (LgI rb n lb M Q) t k := by
  intro F w i hi h
  cases hb : deB t i with
  | false =>
    rw [deN_no hb]
    obtain ⟨F2, h2, _⟩ := h.ram
    by_cases h5 : i ≤ 255
    · have hin : inB (deX t i) 16 2147483648 8192 = false := by simpa [deB, h5] using hb
      exact (desc_outl h2 t (deX t i) i h5 rfl hin).mono fun e w' ⟨he, hw⟩ => ⟨he, F, h.below hw, Step.of_below hw⟩
    · exact (desc_no _ t (i : Int) (.inr (by omega)) w).mono fun e w' ⟨he, hw⟩ => ⟨he, F, h.below hw, Step.of_below hw⟩
  | true =>
    have h5 : i ≤ 255 := by simp only [deB, Bool.and_eq_true, decide_eq_true_iff] at hb; exact hb.1
    have hin : inB (deX t i) 16 2147483648 8192 = true := by simp only [deB, Bool.and_eq_true, decide_eq_true_iff] at hb; exact hb.2
    exact (desc_log h t (deX t i) i h5 rfl hin _ _ _ _ (deN_at hb) hM (hQ i hi hb)).mono fun e w' ⟨he, G', h1, h2, _⟩ => ⟨he, G', h1, h2⟩
end Go.Proofs.Ytcgjfklglckjcaa
