/- A row of bytes that wait, as it lies in the world: New, all, Len, Room, Lost, Taken, own, Peek, Clear. -/
import Derived.Test.YtjmgdhnjldimgaaGa
namespace Go.Proofs.Ytjmgdhnjldimgaa
open Go.RowKit
set_option linter.unusedVariables false
set_option linter.unusedSimpArgs false
set_option maxRecDepth 100000
/-- a row, plainly: what waits, for how many there is room, how many were dropped, were taken -/
structure Fi where
  l : List Nat
  room : Nat
  lost : Nat
  taken : Nat
structure Fi.Ok (K : Fi) : Prop where
  rm : 1 ≤ K.room ∧ K.room ≤ 4096
  len : K.l.length ≤ K.room
  le : ∀ x ∈ K.l, x ≤ 255
  lo : K.lost < 18446744073709551616
  ta : K.taken < 18446744073709551616
def newK (r : Nat) : Fi := ⟨[], r, 0, 0⟩
theorem newK_ok {r : Nat} (h1 : 1 ≤ r) (h2 : r ≤ 4096) : (newK r).Ok := ⟨⟨h1, h2⟩, Nat.zero_le _, fun x hx => (by cases hx), by show 0 < _; omega, by show 0 < _; omega⟩
def putN (K : Fi) (D : List Nat) : Nat := min D.length (K.room - K.l.length)
def putK (K : Fi) (D : List Nat) : Fi := ⟨K.l ++ D.take (putN K D), K.room, (K.lost + (D.length - putN K D)) % 18446744073709551616, K.taken⟩
theorem putK_ok {K : Fi} (h : K.Ok) (D : List Nat) (hD : ∀ x ∈ D, x ≤ 255) : (putK K D).Ok := by
  refine ⟨h.rm, ?_, ?_, Nat.mod_lt _ (by omega), h.ta⟩
  · have := h.len
    show (K.l ++ D.take (putN K D)).length ≤ K.room
    unfold putN
    rw [List.length_append, List.length_take]
    omega
  · intro x hx
    rcases List.mem_append.1 hx with hx | hx
    · exact h.le x hx
    · exact hD x (List.mem_of_mem_take hx)
/-- how many a call for n tells -/
def tookN (K : Fi) (n : Int) : Nat := min n.toNat K.l.length
def tookL (K : Fi) (n : Int) : List Nat := K.l.take (tookN K n)
def takeK (K : Fi) (n : Int) : Fi := ⟨K.l.drop (tookN K n), K.room, K.lost, (K.taken + tookN K n) % 18446744073709551616⟩
theorem takeK_ok {K : Fi} (h : K.Ok) (n : Int) : (takeK K n).Ok := by
  refine ⟨h.rm, ?_, fun x hx => h.le x (List.mem_of_mem_drop hx), h.lo, Nat.mod_lt _ (by omega)⟩
  have := h.len
  show (K.l.drop (tookN K n)).length ≤ K.room
  rw [List.length_drop]
  omega
theorem tookL_length (K : Fi) (n : Int) : (tookL K n).length = tookN K n := by unfold tookL; rw [List.length_take]; unfold tookN; omega
def clearK (K : Fi) : Fi := { K with l := [] }
theorem clearK_ok {K : Fi} (h : K.Ok) : (clearK K).Ok := ⟨h.rm, Nat.zero_le _, fun x hx => (by cases hx), h.lo, h.ta⟩
def fifoC (K : Fi) (v : Value) : Array Value := #[v, .int .i64 (K.room : Nat), .int .u64 (K.lost : Nat), .int .u64 (K.taken : Nat)]
/-- A ROW: block fb its cells, block g what waits -/
def FifoAt (w : World) (fb g : Nat) (K : Fi) : Prop := ∃ v, Box 53 w fb (fifoC K v) ∧ WA w v g K.l ∧ g < w.heap.size ∧ K.Ok
section
variable {w w' : World} {fb g a b : Nat} {K K2 : Fi}
theorem FifoAt.lt (h : FifoAt w fb g K) : fb < w.heap.size ∧ g < w.heap.size := by obtain ⟨v, h1, _, h2, _⟩ := h; exact ⟨h1.lt, h2⟩
theorem FifoAt.ok (h : FifoAt w fb g K) : K.Ok := by obtain ⟨v, _, _, _, h⟩ := h; exact h
theorem FifoAt.step (h : FifoAt w fb g K) (hb : Below w.heap.size w w') : FifoAt w' fb g K := by
  obtain ⟨v, h1, h2, h3, h4⟩ := h
  exact ⟨v, h1.step hb, h2.step hb, Nat.lt_of_lt_of_le h3 hb.size, h4⟩
theorem FifoAt.two (h : FifoAt w fb g K) (ht : Two a b w w') (h1 : fb ≠ a) (h2 : fb ≠ b) (h3 : g ≠ a) (h4 : g ≠ b) : FifoAt w' fb g K := by
  obtain ⟨v, k1, k2, k3, k4⟩ := h
  exact ⟨v, ht.box k1 h1 h2, k2.two ht h3 h4, Nat.lt_of_lt_of_le k3 ht.size, k4⟩
theorem FifoAt.upon (h : FifoAt w fb g K) (ht : Upon a w w') (h1 : fb ≠ a) (h3 : g ≠ a) : FifoAt w' fb g K := by
  obtain ⟨v, k1, k2, k3, k4⟩ := h
  exact ⟨v, ht.box k1 h1, k2.upon ht h3, Nat.lt_of_lt_of_le k3 ht.size, k4⟩
/-- what waits lies elsewhere than the row's own cells -/
theorem wa_cells {v : Value} {c : Array Value} {l : List Nat} (hx : Box 53 w fb c) (h : WA w v g l) (hu : Upon fb w w') : WA w' v g l := by
  rcases h with h | ⟨cap, cur, hv, hh, h3⟩
  · exact .inl h
  · refine .inr ⟨cap, cur, hv, (hu.2 g (Array.getElem?_eq_some_iff.1 hh).1 ?_).trans hh, h3⟩
    rintro rfl
    unfold Box at hx
    rw [hh] at hx
    simp at hx
end
set_option maxHeartbeats 1000000 in
theorem new_yes (r : Nat) (h1 : 1 ≤ r) (h2 : r ≤ 4096) (w : World) : Calls Try.prog 9 #[.int .i64 (r : Nat)] w fun e w' => ∃ fb, e = .returned (.tuple #[.pointer (some ⟨fb, 0, none⟩), .int .i64 0]) ∧ FifoAt w' fb fb (newK r) ∧ w.heap.size ≤ fb ∧ Below w.heap.size w w' := by
  have n1 : decide ((r : Int) < 1) = false := by simp; omega
  have n2 : decide ((4096 : Int) < (r : Int)) = false := by simp; omega
  have HK : Hid (newK r).Ok := newK_ok h1 h2
  clear h1 h2
  go_enter Try.func9, Try.ntmps9
  go_wp2
  go_ret2
  exact ⟨w.heap.size, rfl, ⟨_, Box.new 53 w _, WA.nil _ _, by simp, HK.out⟩, Nat.le_refl _, (Below.refl _ _).alloc (Nat.le_refl _) _⟩
theorem new_no (z : Int) (h : z < 1 ∨ 4096 < z) (w : World) : Calls Try.prog 9 #[.int .i64 z] w fun e w' => e = .returned (.tuple #[.pointer none, .int .i64 1]) ∧ w' = w := by
  by_cases h1 : z < 1
  · have n1 : decide (z < 1) = true := by simp; omega
    clear h
    go_enter Try.func9, Try.ntmps9
    go_wp2
    go_ret2
    exact ⟨rfl, rfl⟩
  · have n1 : decide (z < 1) = false := by simp; omega
    have n2 : decide (4096 < z) = true := by simp; omega
    clear h h1
    go_enter Try.func9, Try.ntmps9
    go_wp2
    go_ret2
    exact ⟨rfl, rfl⟩
section
variable {w : World} {fb g : Nat} {K : Fi}
theorem all_any (h : FifoAt w fb g K) : Calls Try.prog 22 #[.pointer (some ⟨fb, 0, none⟩)] w fun e w' => ∃ v, e = .returned v ∧ WA w v g K.l ∧ w' = w := by
  obtain ⟨v, hx, ha, _⟩ := h
  have c0 := hx.cell 0 v rfl
  have HA : Hid (WA w v g K.l) := ha
  clear ha hx
  obtain ⟨a, cap, hv⟩ := HA.out.reads.form
  subst hv
  go_enter Try.func22, Try.ntmps22
  go_wp2
  go_ret
  exact ⟨_, rfl, HA.out, rfl⟩
theorem len_any (h : FifoAt w fb g K) : Calls Try.prog 11 #[.pointer (some ⟨fb, 0, none⟩)] w fun e w' => e = .returned (.int .i64 (K.l.length : Nat)) ∧ w' = w := by
  have H : Hid (FifoAt w fb g K) := h
  clear h
  go_enter Try.func11, Try.ntmps11
  go_wp2_with fail
  refine (all_any H.out).mono ?_
  rintro e w1 ⟨v, rfl, ha, hw⟩
  obtain ⟨a, cap, hv⟩ := ha.reads.form
  subst hv
  clear ha
  rw [hw]
  clear hw w1
  go_wp2
  go_ret
  exact ⟨rfl, rfl⟩
theorem room_any (h : FifoAt w fb g K) : Calls Try.prog 10 #[.pointer (some ⟨fb, 0, none⟩)] w fun e w' => e = .returned (.int .i64 (K.room : Nat)) ∧ w' = w := by
  obtain ⟨v, hx, _⟩ := h
  have c1 := hx.cell 1 (.int .i64 (K.room : Nat)) rfl
  clear hx
  go_enter Try.func10, Try.ntmps10
  go_wp2
  go_ret
  exact ⟨rfl, rfl⟩
theorem lost_any (h : FifoAt w fb g K) : Calls Try.prog 21 #[.pointer (some ⟨fb, 0, none⟩)] w fun e w' => e = .returned (.int .u64 (K.lost : Nat)) ∧ w' = w := by
  obtain ⟨v, hx, _⟩ := h
  have c1 := hx.cell 2 (.int .u64 (K.lost : Nat)) rfl
  clear hx
  go_enter Try.func21, Try.ntmps21
  go_wp2
  go_ret
  exact ⟨rfl, rfl⟩
theorem taken_any (h : FifoAt w fb g K) : Calls Try.prog 15 #[.pointer (some ⟨fb, 0, none⟩)] w fun e w' => e = .returned (.int .u64 (K.taken : Nat)) ∧ w' = w := by
  obtain ⟨v, hx, _⟩ := h
  have c1 := hx.cell 3 (.int .u64 (K.taken : Nat)) rfl
  clear hx
  go_enter Try.func15, Try.ntmps15
  go_wp2
  go_ret
  exact ⟨rfl, rfl⟩
end
set_option maxHeartbeats 1000000 in
theorem own_any {w : World} {x : Value} {d : Nat} {l : List Nat} (g0 : Nat) (hr : RL w x d l) (hl : l.length ≤ 1000000) : Calls Try.prog 23 #[x] w fun e w' => ∃ v g', e = .returned v ∧ WA w' v g' l ∧ Below w.heap.size w w' ∧ (g' = g0 ∨ (w.heap.size ≤ g' ∧ g' < w'.heap.size)) := by
  have H : Hid (RL w x d l) := hr
  clear hr
  go_enter Try.func23, Try.ntmps23
  go_upto_region 1 with fail
  refine wp_region_list ?_
  (refine wpList_step (fun KK hKK => ?_); go_simp; refine hKK _ _ ?_; clear hKK KK)
  refine wpList_append_new g0 rfl _ _ rfl rfl rfl H.out hl ?_
  intro v w1 g' h1 h2 h3
  have X : Hid (WA w1 v g' l ∧ Below w.heap.size w w1 ∧ (g' = g0 ∨ (w.heap.size ≤ g' ∧ g' < w1.heap.size))) := ⟨h1, h2, h3⟩
  clear h1 h2 h3 H
  obtain ⟨a, cap, hv⟩ := X.out.1.reads.form
  subst hv
  go_upto_region 2 with fail
  refine wp_region_list ?_
  (refine wpList_step (fun KK hKK => ?_); go_simp; refine hKK _ _ ?_; clear hKK KK)
  (refine wpList_step (fun KK hKK => ?_); go_simp; refine hKK _ _ ?_; clear hKK KK)
  (refine wpList_step (fun KK hKK => ?_); go_simp; refine hKK _ _ ?_; clear hKK KK)
  (refine wpList_step (fun KK hKK => ?_); go_simp; refine hKK _ _ ?_; clear hKK KK)
  (refine wpList_step (fun KK hKK => ?_); go_simp; refine hKK _ _ ?_; clear hKK KK)
  refine wpList_cut rfl _ _ _ rfl rfl rfl rfl X.out.1 ?_
  intro v' h1
  have Y : Hid (WA w1 v' g' l) := h1
  clear h1
  obtain ⟨a', cap', hv⟩ := Y.out.reads.form
  subst hv
  go_wp2
  go_ret
  exact ⟨_, g', rfl, Y.out, X.out.2⟩
theorem min_cast (n : Int) (k : Nat) : (if (0 : Int) < (if (k : Int) < n then (k : Int) else n) then (if (k : Int) < n then (k : Int) else n) else 0) = ((min n.toNat k : Nat) : Int) := by
  split <;> split <;> omega
set_option maxHeartbeats 1000000 in
theorem peek_any {w : World} {fb g : Nat} {K : Fi} (h : FifoAt w fb g K) (n : Int) (g0 : Nat) : Calls Try.prog 19 #[.pointer (some ⟨fb, 0, none⟩), .int .i64 n] w fun e w' => ∃ v g', e = .returned v ∧ WA w' v g' (tookL K n) ∧ Below w.heap.size w w' ∧ (g' = g0 ∨ (w.heap.size ≤ g' ∧ g' < w'.heap.size)) := by
  have hl := h.ok.len
  have hr := h.ok.rm
  have H : Hid (FifoAt w fb g K) := h
  clear h
  have hm := min_cast n K.l.length
  have HM : Hid ((if (0 : Int) < (if (K.l.length : Int) < n then (K.l.length : Int) else n) then (if (K.l.length : Int) < n then (K.l.length : Int) else n) else 0) = ((min n.toNat K.l.length : Nat) : Int)) := hm
  clear hm
  go_enter Try.func19, Try.ntmps19
  go_wp2_with fail
  refine (all_any H.out).mono ?_
  rintro e w1 ⟨v, rfl, ha, hw⟩
  rw [hw]
  clear hw w1
  obtain ⟨a, cap, hv⟩ := ha.reads.form
  subst hv
  have A : Hid (RL w (.slice a K.l.length cap) g K.l) := ha.reads
  clear ha
  go_upto_region 2 with fail
  refine wp_region_list ?_
  (refine wpList_step (fun KK hKK => ?_); go_simp; refine hKK _ _ ?_; clear hKK KK)
  (refine wpList_step (fun KK hKK => ?_); go_simp; refine hKK _ _ ?_; clear hKK KK)
  (refine wpList_step (fun KK hKK => ?_); go_simp; refine hKK _ _ ?_; clear hKK KK)
  (refine wpList_step (fun KK hKK => ?_); go_simp; refine hKK _ _ ?_; clear hKK KK)
  (refine wpList_step (fun KK hKK => ?_); go_simp; refine hKK _ _ ?_; clear hKK KK)
  (refine wpList_step (fun KK hKK => ?_); go_simp; refine hKK _ _ ?_; clear hKK KK)
  generalize (if (0 : Int) < (if (K.l.length : Int) < n then (K.l.length : Int) else n) then (if (K.l.length : Int) < n then (K.l.length : Int) else n) else 0) = p at *
  generalize (if (K.l.length : Int) < n then (K.l.length : Int) else n) = p2 at *
  refine wpList_hi (k := min n.toNat K.l.length) rfl _ _ rfl rfl (by rw [← HM.out]; rfl) A.out (Nat.min_le_right _ _) ?_
  intro v' h1
  have B : Hid (RL w v' g (tookL K n)) := h1
  clear h1
  obtain ⟨a', cap', hv⟩ := B.out.form
  subst hv
  refine wpList_step (fun KK hKK => ?_)
  go_simp
  refine (own_any g0 B.out (by rw [tookL_length]; unfold tookN; omega)).mono ?_
  rintro e w2 ⟨v2, g2, rfl, h1, h2, h3⟩
  have X : Hid (WA w2 v2 g2 (tookL K n) ∧ Below w.heap.size w w2 ∧ (g2 = g0 ∨ (w.heap.size ≤ g2 ∧ g2 < w2.heap.size))) := ⟨h1, h2, h3⟩
  clear h1 h2 h3
  obtain ⟨a2, cap2, hv⟩ := X.out.1.reads.form
  subst hv
  refine hKK _ _ ?_
  clear hKK KK
  go_wp2
  go_ret
  exact ⟨_, g2, rfl, X.out⟩
set_option maxHeartbeats 1000000 in
theorem clear_any {w : World} {fb g : Nat} {K : Fi} (h : FifoAt w fb g K) : Calls Try.prog 28 #[.pointer (some ⟨fb, 0, none⟩)] w fun e w' => e = .returned (.tuple #[]) ∧ FifoAt w' fb g (clearK K) ∧ Upon fb w w' := by
  obtain ⟨v, hx, ha, hg, hk⟩ := h
  have c0 := hx.cell 0 v rfl
  have f0 := hx.frozen 0
  have X : Hid (FifoAt (w.setCell ⟨fb, 0, none⟩ (.slice none 0 0)) fb g (clearK K) ∧ Upon fb w (w.setCell ⟨fb, 0, none⟩ (.slice none 0 0))) := ⟨⟨_, hx.set 0 (.slice none 0 0), WA.nil _ _, by simpa using hg, clearK_ok hk⟩, (Upon.refl _ _).set 0 _⟩
  obtain ⟨a, cap, hv⟩ := ha.reads.form
  subst hv
  clear hx ha hg hk
  go_enter Try.func28, Try.ntmps28
  go_wp2_with fail
  go_end0
  exact ⟨rfl, X.out⟩
end Go.Proofs.Ytjmgdhnjldimgaa
