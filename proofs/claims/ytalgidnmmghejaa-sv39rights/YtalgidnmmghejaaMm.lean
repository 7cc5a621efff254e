/- The statements' memory: words are put into a memory and into the document's. -/
import Derived.Test.YtalgidnmmghejaaMh
import Derived.Test.YtalgidnmmghejaaSf
import Derived.Test.YtalgidnmmghejaaSt
namespace Go.Proofs.Ytalgidnmmghejaa
open Go.RowKit Go.Maps
set_option linter.unusedVariables false
set_option linter.unusedSimpArgs false
set_option maxRecDepth 100000
def Mem (W wr : World) (rb : Nat) (a : Option Addr) (n c : Nat) (F : Nat → Prop) (M : Nat → Nat) (j : Nat) : Prop :=
  wr.heap[W.heap.size]? = some (.cells #[.int .u64 0, .slice none 0 0] 30 (0, 0)) ∧ wr.heap[W.heap.size + 1]? = some (.cells #[.int .u64 32768, .slice a n c] 30 (0, 0)) ∧ Both F wr rb 32768 (.slice a n c) (8 * j) M ∧ (∀ k, F k → W.heap.size + 2 ≤ k) ∧ Below W.heap.size W wr
theorem Mem.step {W wr wr' : World} {rb : Nat} {a : Option Addr} {n c : Nat} {F : Nat → Prop} {M : Nat → Nat} {j : Nat} (h : Mem W wr rb a n c F M j) (hb : Below wr.heap.size wr wr') : Mem W wr' rb a n c F M j :=
  ⟨below_box h.1 hb, below_box h.2.1 hb, h.2.2.1.below hb, h.2.2.2.1, h.2.2.2.2.trans (hb.mono h.2.2.2.2.size)⟩
theorem new_32768 (w : World) : Calls Try.prog 29 #[.int .u64 32768] w fun e w' => ∃ rb F, e = .returned (.tuple #[.pointer (some ⟨rb, 0, none⟩), .int .i64 0]) ∧ RamAt w' F rb 32768 0 (.pointer none) (fun _ => 0) ∧ (∀ k, F k → w.heap.size ≤ k) ∧ Below w.heap.size w w' := new_yes 32768 (by decide) w
theorem two_cells (t s : TypeId) (w : World) (c d : Array Value) : ((w.alloc (.cells c t)).alloc (.cells d s)).heap.size = w.heap.size + 2 := by simp
theorem begun_mem (W w1 : World) (rb : Nat) (F : Nat → Prop) (h : RamAt w1 F rb 32768 0 (.pointer none) (fun _ => 0)) (hF : ∀ k, F k → ((W.alloc (.cells #[.int .u64 0, .slice none 0 0] 30)).alloc (.cells #[.int .u64 32768, .slice none 0 0] 30)).heap.size ≤ k) (hb : Below ((W.alloc (.cells #[.int .u64 0, .slice none 0 0] 30)).alloc (.cells #[.int .u64 32768, .slice none 0 0] 30)).heap.size ((W.alloc (.cells #[.int .u64 0, .slice none 0 0] 30)).alloc (.cells #[.int .u64 32768, .slice none 0 0] 30)) w1) :
    Mem W w1 rb none 0 0 F (fun _ => 0) 0 := by
  have T := (Two.new 30 30 W #[.int .u64 0, .slice none 0 0] #[.int .u64 32768, .slice none 0 0]).step hb
  rw [two_cells] at hF
  exact ⟨T.1, T.2.1, ⟨h, 0, fun _ => (0, 0), by omega, ⟨none, 0, rfl⟩, .inl ⟨rfl, _, _, rfl⟩, fun a => rfl, fun i hi => absurd hi (by omega)⟩, hF, T.2.2⟩
/-- behind both Stores -/
theorem mem_both {W wr w5 w6 : World} {rb : Nat} {a : Option Addr} {n c : Nat} {F F5 : Nat → Prop} {M M5 : Nat → Nat} {j : Nat} (h : Mem W wr rb a n c F M j) (h5 : RamAt w5 F5 rb 32768 (8 * j + 8) (.pointer none) M5) (hs : Step F wr F5 w5) : w5.heap[W.heap.size]? = some (.cells #[.int .u64 0, .slice none 0 0] 30 (0, 0)) ∧ w5.heap[W.heap.size + 1]? = some (.cells #[.int .u64 32768, .slice a n c] 30 (0, 0)) ∧ (∀ k, F5 k → W.heap.size + 2 ≤ k) ∧ Below W.heap.size W w5 := by
  obtain ⟨h1, h2, h3, h4, hb⟩ := h
  have hsz : W.heap.size + 2 ≤ wr.heap.size := by have := (Array.getElem?_eq_some_iff.1 h2).1; omega
  exact ⟨step_box hs h1 (fun hf => by have := h4 _ hf; omega), step_box hs h2 (fun hf => by have := h4 _ hf; omega), hs.base hsz h4, hb.trans (hs.below hb.size (fun k hk => by have := h4 k hk; omega))⟩
theorem st_any {w : World} {F : Nat → Prop} {rb n : Nat} {M : Nat → Nat} (h : RamAt w F rb 32768 n (.pointer none) M) (x y : Nat) (B : Bool) (hB : putB x 8 32768 = B) (hx : x < 18446744073709551616) (hy : y < 18446744073709551616) (hn : n + 8 ≤ 1000000) :
    Calls Try.prog 30 #[.pointer (some ⟨rb, 0, none⟩), .int .u64 (x : Nat), .int .i64 8, .int .u64 (y : Nat)] w fun e w' => e = .returned (.bool B) ∧ ∃ F', RamAt w' F' rb 32768 (n + 8) (.pointer none) (if B = true then over M x 8 (byteAt y) else M) ∧ Step F w F' w' := by
  subst hB
  exact store_any h (by omega) x 8 y hx hy hn
theorem rst_any (F : Nat → Prop) (w : World) (x y : Nat) (v : Value) (n : Nat) (bs : Nat → Nat × Nat) (B : Bool) (hB : putB x 8 32768 = B) (h : RefIn F w v n bs) (hF : ∀ k, F k → k < w.heap.size) (hn : n ≤ 1000000) (hx : x < 18446744073709551616) (hy : y < 18446744073709551616) :
    Calls Try.prog 31 #[.agg #[.int .u64 32768, v], .int .u64 (x : Nat), .int .i64 8, .int .u64 (y : Nat)] w fun e w' => ∃ a' n' c' bs', e = .returned (.tuple #[.agg #[.int .u64 32768, .slice a' n' c'], .bool B]) ∧ n' ≤ n + 8 ∧ RefIn F w' (.slice a' n' c') n' bs' ∧ ((∀ a, rget bs' n' a = (if B = true then over (rget bs n) x 8 (byteAt y) else rget bs n) a) ∧ (Rng bs n 32768 → Rng bs' n' 32768)) ∧ Below w.heap.size w w' := by
  subst hB
  exact rstore_any F w 32768 x y 8 v n bs h hF hn (by omega) hx hy
set_option maxHeartbeats 1000000 in
theorem memory_long (av : Option Addr) (len cap : Nat) (hlen : 60 < len) (W : World) : Calls Try.prog 9 #[.slice av len cap] W fun e w' => e = .returned (.tuple #[.pointer none, .agg #[.int .u64 32768, .slice none 0 0]]) ∧ Below W.heap.size W w' := by
  have hl : (60 : Int) < (len : Int) := by omega
  go_enter Try.func9, Try.ntmps9
  go_upto_region 2 with fail
  have HB : Hid (∀ w1 rb F, RamAt w1 F rb 32768 0 (.pointer none) (fun _ => 0) → (∀ k, F k → ((W.alloc (.cells #[.int .u64 0, .slice none 0 0] 30)).alloc (.cells #[.int .u64 32768, .slice none 0 0] 30)).heap.size ≤ k) → Below ((W.alloc (.cells #[.int .u64 0, .slice none 0 0] 30)).alloc (.cells #[.int .u64 32768, .slice none 0 0] 30)).heap.size ((W.alloc (.cells #[.int .u64 0, .slice none 0 0] 30)).alloc (.cells #[.int .u64 32768, .slice none 0 0] 30)) w1 → Mem W w1 rb none 0 0 F (fun _ => 0) 0) := fun w1 rb F h1 h2 h3 => begun_mem W w1 rb F h1 h2 h3
  generalize ((W.alloc (.cells #[.int .u64 0, .slice none 0 0] 30)).alloc (.cells #[.int .u64 32768, .slice none 0 0] 30)) = V2 at *
  go_wp2_with fail
  refine (new_32768 _).mono ?_
  rintro e w1 ⟨rb, F, rfl, h1, hF, hb1⟩
  have X1 : Hid (Mem W w1 rb none 0 0 F (fun _ => 0) 0) := HB.out _ _ _ h1 hF hb1
  clear h1 hF hb1 HB
  have q0 := cellOf X1.out.2.1 0 _ rfl
  have q1 := cellOf X1.out.2.1 1 _ rfl
  have p0 := cellOf X1.out.1 0 _ rfl
  have p1 := cellOf X1.out.1 1 _ rfl
  have z0 := frozenOf X1.out.1 0
  have z1 := frozenOf X1.out.1 1
  go_wp2_with fail
  go_region
  go_wp2_with fail
  refine bodyPost_ret (v := .tuple #[.pointer none, .agg #[.int .u64 32768, .slice none 0 0]]) (by simp [results, Try.results9, go_sem, p0, p1]) rfl ⟨rfl, ?_⟩
  exact ((X1.out.2.2.2.2.setCell (p := ⟨W.heap.size, 0, none⟩) (Nat.le_refl _) _).setCell (p := ⟨W.heap.size, 1, none⟩) (Nat.le_refl _) _).drew
set_option maxHeartbeats 4000000 in
theorem memory_any (av : Option Addr) (len cap : Nat) (ws : Nat → Nat × Nat) (hlen : len ≤ 60) (W : World) (hws : PutsIn W (.slice av len cap) len ws) : Calls Try.prog 9 #[.slice av len cap] W fun e w' => ∃ rb F a n c M, e = .returned (.tuple #[.pointer (some ⟨rb, 0, none⟩), .agg #[.int .u64 32768, .slice a n c]]) ∧ Both F w' rb 32768 (.slice a n c) 480 M ∧ (∀ k, F k → W.heap.size ≤ k) ∧ Below W.heap.size W w' := by
  have hl : ¬ (60 : Int) < (len : Int) := by omega
  have HW : Hid (PutsIn W (.slice av len cap) len ws) := hws
  have HL : Hid (len ≤ 60) := hlen
  clear hws hlen
  go_enter Try.func9, Try.ntmps9
  go_upto_region 2 with fail
  have HB : Hid (∀ w1 rb F, RamAt w1 F rb 32768 0 (.pointer none) (fun _ => 0) → (∀ k, F k → ((W.alloc (.cells #[.int .u64 0, .slice none 0 0] 30)).alloc (.cells #[.int .u64 32768, .slice none 0 0] 30)).heap.size ≤ k) → Below ((W.alloc (.cells #[.int .u64 0, .slice none 0 0] 30)).alloc (.cells #[.int .u64 32768, .slice none 0 0] 30)).heap.size ((W.alloc (.cells #[.int .u64 0, .slice none 0 0] 30)).alloc (.cells #[.int .u64 32768, .slice none 0 0] 30)) w1 → Mem W w1 rb none 0 0 F (fun _ => 0) 0) := fun w1 rb F h1 h2 h3 => begun_mem W w1 rb F h1 h2 h3
  generalize ((W.alloc (.cells #[.int .u64 0, .slice none 0 0] 30)).alloc (.cells #[.int .u64 32768, .slice none 0 0] 30)) = V2 at *
  go_wp2_with fail
  refine (new_32768 _).mono ?_
  rintro e w1 ⟨rb, F0, rfl, h1, hF, hb1⟩
  have X1 : Hid (Mem W w1 rb none 0 0 F0 (fun _ => 0) 0) := HB.out _ _ _ h1 hF hb1
  clear h1 hF hb1 HB
  go_wp2_with fail
  go_loopw [7] (fun i wr => ∃ (j : Nat) (a : Option Addr) (n c : Nat) (F : Nat → Prop) (M : Nat → Nat), j ≤ len ∧ i = .int .i64 j ∧ Mem W wr rb a n c F M j) (fun i _ => len - (intOf i).toNat)
  case atStart => exact ⟨0, none, 0, 0, F0, fun _ => 0, by omega, rfl, X1.out⟩
  case round =>
    obtain ⟨j, a, n, c, F, M, hj, rfl, hX⟩ := hrel
    have Xr : Hid (Mem W wr rb a n c F M j) := hX
    clear hX X1
    by_cases hlt : j < len
    case neg =>
      obtain rfl : j = len := by omega
      have q0 := cellOf Xr.out.2.1 0 _ rfl
      have q1 := cellOf Xr.out.2.1 1 _ rfl
      have p0 := cellOf Xr.out.1 0 _ rfl
      have p1 := cellOf Xr.out.1 1 _ rfl
      have z0 := frozenOf Xr.out.1 0
      have z1 := frozenOf Xr.out.1 1
      have P1 : Hid _ := p1
      go_wp2_with fail
      go_region
      go_wp2_with fail
      refine bodyPost_ret (v := .tuple #[.pointer (some ⟨rb, 0, none⟩), .agg #[.int .u64 32768, .slice a n c]]) (by simp [results, Try.results9, go_sem, p0, p1]) rfl ⟨rb, F, a, n, c, M, rfl, ?_, fun k hk => by have := Xr.out.2.2.2.1 k hk; omega, ?_⟩
      · have hB := Xr.out.2.2.1.setBox (b := W.heap.size) (u0 := .int .u64 32768) (u1 := .slice a n c) (fun hf => by have := Xr.out.2.2.2.1 _ hf; omega) P1.out
        have hB2 := hB.below (Below.drew (Below.refl _ _))
        obtain ⟨g1, nb, bs, g2, g3⟩ := hB2
        have := HL.out
        exact ⟨g1.mono (by omega), nb, bs, by omega, g3⟩
      · exact ((Xr.out.2.2.2.2.setCell (p := ⟨W.heap.size, 0, none⟩) (Nat.le_refl _) _).setCell (p := ⟨W.heap.size, 1, none⟩) (Nat.le_refl _) _).drew
    case pos =>
      have hji : (j : Int) < (len : Int) := by omega
      have hwr := HW.out.below Xr.out.2.2.2.2
      rcases HW.out with ⟨h0, _⟩ | ⟨b, off, cp, hv, hbW, hc⟩
      · omega
      simp only [Value.slice.injEq] at hv
      obtain ⟨rfl, -, rfl⟩ := hv
      obtain ⟨c1, c2, hx, hy⟩ := hc j hlt
      clear hwr hc
      generalize hx1 : (ws j).1 = x at *
      generalize hx2 : (ws j).2 = y at *
      clear hx1 hx2
      have HC : Hid (W.cell? ⟨b, off + j * 2, none⟩ = some (.int .u64 (x : Int)) ∧ W.cell? ⟨b, off + j * 2 + 1, none⟩ = some (.int .u64 (y : Int))) := ⟨c1, c2⟩
      have HP : Hid (∀ V, Below W.heap.size W V → V.cell? ⟨b, off + j * 2, none⟩ = some (.int .u64 (x : Int)) ∧ V.cell? ⟨b, off + j * 2 + 1, none⟩ = some (.int .u64 (y : Int))) := fun V hV => ⟨(hV.cell (p := ⟨b, off + j * 2, none⟩) hbW).trans c1, (hV.cell (p := ⟨b, off + j * 2 + 1, none⟩) hbW).trans c2⟩
      clear c1 c2
      obtain ⟨B, hB⟩ : ∃ B, putB x 8 32768 = B := ⟨_, rfl⟩
      have HV : Hid (putB x 8 32768 = B) := hB
      have hx' : Hid (x < 18446744073709551616 ∧ y < 18446744073709551616) := ⟨hx, hy⟩
      clear hB hx hy
      have e1 := (HP.out wr Xr.out.2.2.2.2).1
      have e2 := (HP.out wr Xr.out.2.2.2.2).2
      go_upto_region 8 with fail
      have Xd : Hid (Mem W wr.drew rb a n c F M j) := Xr.out.step (Below.drew (Below.refl _ _))
      refine wp_region_held_drew (S := fun V => V.cell? ⟨b, off + j * 2, none⟩ = some (.int .u64 (x : Int)) ∧ V.cell? ⟨b, off + j * 2 + 1, none⟩ = some (.int .u64 (y : Int))) (by kernel_rfl) (HP.out _ Xd.out.2.2.2.2) ?_
      intro hS
      refine wpAnyH_take (i := 0) (v := ?_) rfl (by kernel_rfl) (by kernel_rfl) (by kernel_rfl) (fun _ _ _ h => h) (Or.inl ⟨by kernel_rfl, ?_⟩) hS ?_
      rotate_left
      · intro w hSw; (try dsimp only at hSw); go_simp; try (with_reducible rfl)
      (try simp only [Act.put, List.getElem_toArray, List.getElem_cons_succ, List.getElem_cons_zero, List.setIfInBounds_toArray, List.set_cons_zero, List.set_cons_succ])
      refine wpAnyH_take (i := 1) (v := ?_) rfl (by kernel_rfl) (by kernel_rfl) (by kernel_rfl) (fun _ _ _ h => h) (Or.inl ⟨by kernel_rfl, ?_⟩) hS ?_
      rotate_left
      · intro w hSw; (try dsimp only at hSw); go_simp; try (with_reducible rfl)
      (try simp only [Act.put, List.getElem_toArray, List.getElem_cons_succ, List.getElem_cons_zero, List.setIfInBounds_toArray, List.set_cons_zero, List.set_cons_succ])
      refine wpAnyH_take (i := 2) (v := ?_) rfl (by kernel_rfl) (by kernel_rfl) (by kernel_rfl) (fun _ _ _ h => h) (Or.inl ⟨by kernel_rfl, ?_⟩) hS ?_
      rotate_left
      · intro w hSw; (try dsimp only at hSw); go_simp; try (with_reducible rfl)
      (try simp only [Act.put, List.getElem_toArray, List.getElem_cons_succ, List.getElem_cons_zero, List.setIfInBounds_toArray, List.set_cons_zero, List.set_cons_succ])
      refine wpAnyH_take (i := 3) (v := ?_) rfl (by kernel_rfl) (by kernel_rfl) (by kernel_rfl) (fun _ _ _ h => h) (Or.inl ⟨by kernel_rfl, ?_⟩) hS ?_
      rotate_left
      · intro w hSw; (try dsimp only at hSw); go_simp; try (with_reducible rfl)
      (try simp only [Act.put, List.getElem_toArray, List.getElem_cons_succ, List.getElem_cons_zero, List.setIfInBounds_toArray, List.set_cons_zero, List.set_cons_succ])
      refine wpAnyH_take (i := 4) (v := ?_) rfl (by kernel_rfl) (by kernel_rfl) (by kernel_rfl) (fun _ _ _ h => h) (Or.inl ⟨by kernel_rfl, ?_⟩) hS ?_
      rotate_left
      · intro w hSw; (try dsimp only at hSw); go_simp; try (with_reducible rfl)
      (try simp only [Act.put, List.getElem_toArray, List.getElem_cons_succ, List.getElem_cons_zero, List.setIfInBounds_toArray, List.set_cons_zero, List.set_cons_succ])
      refine wpAnyH_take (i := 5) (v := ?_) rfl (by kernel_rfl) (by kernel_rfl) (by kernel_rfl) (fun _ _ _ h => h) (Or.inl ⟨by kernel_rfl, ?_⟩) hS ?_
      rotate_left
      · intro w hSw; (try dsimp only at hSw); go_simp; try (with_reducible rfl)
      (try simp only [Act.put, List.getElem_toArray, List.getElem_cons_succ, List.getElem_cons_zero, List.setIfInBounds_toArray, List.set_cons_zero, List.set_cons_succ])
      refine wpAnyH_take (i := 6) (v := ?_) rfl (by kernel_rfl) (by kernel_rfl) (by kernel_rfl) (fun _ _ _ h => h) (Or.inl ⟨by kernel_rfl, ?_⟩) hS ?_
      rotate_left
      · intro w hSw; (try dsimp only at hSw); go_simp; try (with_reducible rfl)
      (try simp only [Act.put, List.getElem_toArray, List.getElem_cons_succ, List.getElem_cons_zero, List.setIfInBounds_toArray, List.set_cons_zero, List.set_cons_succ])
      refine wpAnyH_take (i := 7) (v := ?_) rfl (by kernel_rfl) (by kernel_rfl) (by kernel_rfl) (fun _ _ _ h => h) (Or.inl ⟨by kernel_rfl, ?_⟩) hS ?_
      rotate_left
      · intro w hSw; (try dsimp only at hSw); go_simp; try (with_reducible rfl)
      (try simp only [Act.put, List.getElem_toArray, List.getElem_cons_succ, List.getElem_cons_zero, List.setIfInBounds_toArray, List.set_cons_zero, List.set_cons_succ])
      refine wpAnyH_take (i := 8) (v := ?_) rfl (by kernel_rfl) (by kernel_rfl) (by kernel_rfl) (fun _ _ _ h => h) (Or.inl ⟨by kernel_rfl, ?_⟩) hS ?_
      rotate_left
      · intro w hSw; (try dsimp only at hSw); go_simp; try (with_reducible rfl)
      (try simp only [Act.put, List.getElem_toArray, List.getElem_cons_succ, List.getElem_cons_zero, List.setIfInBounds_toArray, List.set_cons_zero, List.set_cons_succ])
      refine wpAnyH_take (i := 9) (v := ?_) rfl (by kernel_rfl) (by kernel_rfl) (by kernel_rfl) (fun _ _ _ h => h) (Or.inl ⟨by kernel_rfl, ?_⟩) hS ?_
      rotate_left
      · intro w hSw; (try dsimp only at hSw); go_simp; try (with_reducible rfl)
      (try simp only [Act.put, List.getElem_toArray, List.getElem_cons_succ, List.getElem_cons_zero, List.setIfInBounds_toArray, List.set_cons_zero, List.set_cons_succ])
      refine wpAnyH_take (i := 10) (v := ?_) rfl (by kernel_rfl) (by kernel_rfl) (by kernel_rfl) (fun _ _ _ h => h) (Or.inl ⟨by kernel_rfl, ?_⟩) hS ?_
      rotate_left
      · intro w hSw; (try dsimp only at hSw); go_simp; try (with_reducible rfl)
      (try simp only [Act.put, List.getElem_toArray, List.getElem_cons_succ, List.getElem_cons_zero, List.setIfInBounds_toArray, List.set_cons_zero, List.set_cons_succ])
      refine wpAnyH_ready (rs := [11]) (by kernel_rfl) (by simp) ?_
      refine AllReadyH.cons rfl (fun K1 hK1 => ?_) AllReadyH.nil
      go_simp
      refine (st_any Xd.out.2.2.1.1 x y B HV.out hx'.out.1 hx'.out.2 (by have := HL.out; omega)).mono ?_
      rintro e w5 ⟨rfl, F5, h5, hs5⟩
      have X5 : Hid ((w5.heap[W.heap.size]? = some (.cells #[.int .u64 0, .slice none 0 0] 30 (0, 0)) ∧ w5.heap[W.heap.size + 1]? = some (.cells #[.int .u64 32768, .slice a n c] 30 (0, 0)) ∧ (∀ k, F5 k → W.heap.size + 2 ≤ k) ∧ Below W.heap.size W w5) ∧ RamAt w5 F5 rb 32768 (8 * j + 8) (.pointer none) (if B = true then over M x 8 (byteAt y) else M) ∧ ∃ nb bs, nb ≤ 8 * j ∧ (∃ a' c', Value.slice a n c = .slice a' nb c') ∧ RefIn F5 w5 (.slice a n c) nb bs ∧ (∀ q, rget bs nb q = M q) ∧ Rng bs nb 32768) := by
        refine ⟨mem_both (w6 := w5) Xd.out h5 hs5, h5, ?_⟩
        obtain ⟨-, nb, bs, g2, g3, g4, g5⟩ := Xd.out.2.2.1
        exact ⟨nb, bs, g2, g3, g4.step hs5, g5⟩
      clear h5 hs5
      refine hK1.out _ _ (HP.out _ X5.out.1.2.2.2) (fun hS5 => ?_)
      clear hK1 K1 hS
      (try simp only [Act.put, List.getElem_toArray, List.getElem_cons_succ, List.getElem_cons_zero, List.setIfInBounds_toArray, List.set_cons_zero, List.set_cons_succ])
      refine wpAnyH_done (by kernel_rfl) ?_ _
      clear hS5 e1 e2
      go_upto_region 9 with fail
      have e1 := (HP.out w5 X5.out.1.2.2.2).1
      have e2 := (HP.out w5 X5.out.1.2.2.2).2
      obtain ⟨nb, bs, g2, g3, g4, g5⟩ := X5.out.2.2
      have G : Hid (nb ≤ 8 * j ∧ (∃ a' c', Value.slice a n c = .slice a' nb c') ∧ RefIn F5 w5 (.slice a n c) nb bs ∧ (∀ q, rget bs nb q = M q) ∧ Rng bs nb 32768) := ⟨g2, g3, g4, g5⟩
      clear g2 g3 g4 g5
      have hd5 : Below w5.heap.size w5 w5.drew := Below.drew (Below.refl _ _)
      have D5 : Hid ((w5.drew.cell? ⟨b, off + j * 2, none⟩ = some (.int .u64 (x : Int)) ∧ w5.drew.cell? ⟨b, off + j * 2 + 1, none⟩ = some (.int .u64 (y : Int))) ∧ w5.drew.cell? ⟨W.heap.size + 1, 0, none⟩ = some (.int .u64 32768) ∧ w5.drew.cell? ⟨W.heap.size + 1, 1, none⟩ = some (.slice a n c)) := ⟨HP.out _ (X5.out.1.2.2.2.trans (hd5.mono X5.out.1.2.2.2.size)), cellOf (below_box X5.out.1.2.1 hd5) 0 _ rfl, cellOf (below_box X5.out.1.2.1 hd5) 1 _ rfl⟩
      clear hd5
      have f0 := D5.out.2.1
      have f1 := D5.out.2.2
      refine wp_region_held_drew (S := fun V => V.cell? ⟨b, off + j * 2, none⟩ = some (.int .u64 (x : Int)) ∧ V.cell? ⟨b, off + j * 2 + 1, none⟩ = some (.int .u64 (y : Int))) (by kernel_rfl) D5.out.1 ?_
      intro hS
      refine wpAnyH_take (i := 1) (v := ?_) rfl (by kernel_rfl) (by kernel_rfl) (by kernel_rfl) (fun _ _ _ h => h) (Or.inl ⟨by kernel_rfl, ?_⟩) hS ?_
      rotate_left
      · intro w hSw; (try dsimp only at hSw); go_simp; try (with_reducible rfl)
      (try simp only [Act.put, List.getElem_toArray, List.getElem_cons_succ, List.getElem_cons_zero, List.setIfInBounds_toArray, List.set_cons_zero, List.set_cons_succ])
      refine wpAnyH_take (i := 2) (v := ?_) rfl (by kernel_rfl) (by kernel_rfl) (by kernel_rfl) (fun _ _ _ h => h) (Or.inl ⟨by kernel_rfl, ?_⟩) hS ?_
      rotate_left
      · intro w hSw; (try dsimp only at hSw); go_simp; try (with_reducible rfl)
      (try simp only [Act.put, List.getElem_toArray, List.getElem_cons_succ, List.getElem_cons_zero, List.setIfInBounds_toArray, List.set_cons_zero, List.set_cons_succ])
      refine wpAnyH_take (i := 3) (v := ?_) rfl (by kernel_rfl) (by kernel_rfl) (by kernel_rfl) (fun _ _ _ h => h) (Or.inl ⟨by kernel_rfl, ?_⟩) hS ?_
      rotate_left
      · intro w hSw; (try dsimp only at hSw); go_simp; try (with_reducible rfl)
      (try simp only [Act.put, List.getElem_toArray, List.getElem_cons_succ, List.getElem_cons_zero, List.setIfInBounds_toArray, List.set_cons_zero, List.set_cons_succ])
      refine wpAnyH_take (i := 4) (v := ?_) rfl (by kernel_rfl) (by kernel_rfl) (by kernel_rfl) (fun _ _ _ h => h) (Or.inl ⟨by kernel_rfl, ?_⟩) hS ?_
      rotate_left
      · intro w hSw; (try dsimp only at hSw); go_simp; try (with_reducible rfl)
      (try simp only [Act.put, List.getElem_toArray, List.getElem_cons_succ, List.getElem_cons_zero, List.setIfInBounds_toArray, List.set_cons_zero, List.set_cons_succ])
      refine wpAnyH_take (i := 5) (v := ?_) rfl (by kernel_rfl) (by kernel_rfl) (by kernel_rfl) (fun _ _ _ h => h) (Or.inl ⟨by kernel_rfl, ?_⟩) hS ?_
      rotate_left
      · intro w hSw; (try dsimp only at hSw); go_simp; try (with_reducible rfl)
      (try simp only [Act.put, List.getElem_toArray, List.getElem_cons_succ, List.getElem_cons_zero, List.setIfInBounds_toArray, List.set_cons_zero, List.set_cons_succ])
      refine wpAnyH_take (i := 6) (v := ?_) rfl (by kernel_rfl) (by kernel_rfl) (by kernel_rfl) (fun _ _ _ h => h) (Or.inl ⟨by kernel_rfl, ?_⟩) hS ?_
      rotate_left
      · intro w hSw; (try dsimp only at hSw); go_simp; try (with_reducible rfl)
      (try simp only [Act.put, List.getElem_toArray, List.getElem_cons_succ, List.getElem_cons_zero, List.setIfInBounds_toArray, List.set_cons_zero, List.set_cons_succ])
      refine wpAnyH_take (i := 7) (v := ?_) rfl (by kernel_rfl) (by kernel_rfl) (by kernel_rfl) (fun _ _ _ h => h) (Or.inl ⟨by kernel_rfl, ?_⟩) hS ?_
      rotate_left
      · intro w hSw; (try dsimp only at hSw); go_simp; try (with_reducible rfl)
      (try simp only [Act.put, List.getElem_toArray, List.getElem_cons_succ, List.getElem_cons_zero, List.setIfInBounds_toArray, List.set_cons_zero, List.set_cons_succ])
      refine wpAnyH_take (i := 8) (v := ?_) rfl (by kernel_rfl) (by kernel_rfl) (by kernel_rfl) (fun _ _ _ h => h) (Or.inl ⟨by kernel_rfl, ?_⟩) hS ?_
      rotate_left
      · intro w hSw; (try dsimp only at hSw); go_simp; try (with_reducible rfl)
      (try simp only [Act.put, List.getElem_toArray, List.getElem_cons_succ, List.getElem_cons_zero, List.setIfInBounds_toArray, List.set_cons_zero, List.set_cons_succ])
      refine wpAnyH_take (i := 9) (v := ?_) rfl (by kernel_rfl) (by kernel_rfl) (by kernel_rfl) (fun _ _ _ h => h) (Or.inl ⟨by kernel_rfl, ?_⟩) hS ?_
      rotate_left
      · intro w hSw; (try dsimp only at hSw); go_simp; try (with_reducible rfl)
      (try simp only [Act.put, List.getElem_toArray, List.getElem_cons_succ, List.getElem_cons_zero, List.setIfInBounds_toArray, List.set_cons_zero, List.set_cons_succ])
      refine wpAnyH_take (i := 10) (v := ?_) rfl (by kernel_rfl) (by kernel_rfl) (by kernel_rfl) (fun _ _ _ h => h) (Or.inl ⟨by kernel_rfl, ?_⟩) hS ?_
      rotate_left
      · intro w hSw; (try dsimp only at hSw); go_simp; try (with_reducible rfl)
      (try simp only [Act.put, List.getElem_toArray, List.getElem_cons_succ, List.getElem_cons_zero, List.setIfInBounds_toArray, List.set_cons_zero, List.set_cons_succ])
      refine wpAnyH_ready (rs := [0]) (by kernel_rfl) (by simp) ?_
      refine AllReadyH.cons rfl (fun K1 hK1 => ?_) AllReadyH.nil
      go_simp
      refine hK1.out _ _ D5.out.1 (fun hS0 => ?_)
      clear hK1 K1 hS f0 f1
      (try simp only [Act.put, List.getElem_toArray, List.getElem_cons_succ, List.getElem_cons_zero, List.setIfInBounds_toArray, List.set_cons_zero, List.set_cons_succ])
      refine wpAnyH_ready (rs := [11]) (by kernel_rfl) (by simp) ?_
      refine AllReadyH.cons rfl (fun K1 hK1 => ?_) AllReadyH.nil
      go_simp
      refine (rst_any F5 _ x y (.slice a n c) nb bs B HV.out (G.out.2.2.1.below (Below.drew (Below.refl _ _))) (fun k hk => X5.out.2.1.lt k hk) (by have := HL.out; have := G.out.1; omega) hx'.out.1 hx'.out.2).mono ?_
      rintro e w6 ⟨a6, n6, c6, bs6, rfl, hn6, hr6, he6, hb6⟩
      have hb6' : Below w5.heap.size w5 w6 := (Below.drew (Below.refl _ _)).trans hb6
      have X6 : Hid ((w6.heap[W.heap.size]? = some (.cells #[.int .u64 0, .slice none 0 0] 30 (0, 0)) ∧ w6.heap[W.heap.size + 1]? = some (.cells #[.int .u64 32768, .slice a n c] 30 (0, 0)) ∧ (∀ k, F5 k → W.heap.size + 2 ≤ k) ∧ Below W.heap.size W w6) ∧ Both F5 w6 rb 32768 (.slice a6 n6 c6) (8 * (j + 1)) (if B = true then over M x 8 (byteAt y) else M)) := by
        refine ⟨⟨below_box X5.out.1.1 hb6', below_box X5.out.1.2.1 hb6', X5.out.1.2.2.1, X5.out.1.2.2.2.trans (hb6'.mono X5.out.1.2.2.2.size)⟩, (X5.out.2.1.below hb6').mono (by omega), n6, bs6, by have := G.out.1; omega, ⟨a6, c6, rfl⟩, hr6, fun q => ?_, he6.2 G.out.2.2.2.2⟩
        rw [he6.1 q]
        split
        · exact over_congr _ _ _ G.out.2.2.2.1 q
        · exact G.out.2.2.2.1 q
      clear hb6 hb6' he6 hr6
      refine hK1.out _ _ (HP.out _ X6.out.1.2.2.2) (fun hS6 => ?_)
      clear hK1 K1 hS0
      (try simp only [Act.put, List.getElem_toArray, List.getElem_cons_succ, List.getElem_cons_zero, List.setIfInBounds_toArray, List.set_cons_zero, List.set_cons_succ])
      refine wpAnyH_take (i := 12) (v := ?_) rfl (by kernel_rfl) (by kernel_rfl) (by kernel_rfl) (fun _ _ _ h => h) (Or.inl ⟨by kernel_rfl, ?_⟩) hS6 ?_
      rotate_left
      · intro w hSw; (try dsimp only at hSw); go_simp; try (with_reducible rfl)
      (try simp only [Act.put, List.getElem_toArray, List.getElem_cons_succ, List.getElem_cons_zero, List.setIfInBounds_toArray, List.set_cons_zero, List.set_cons_succ])
      refine wpAnyH_take (i := 13) (v := ?_) rfl (by kernel_rfl) (by kernel_rfl) (by kernel_rfl) (fun _ _ _ h => h) (Or.inl ⟨by kernel_rfl, ?_⟩) hS6 ?_
      rotate_left
      · intro w hSw; (try dsimp only at hSw); go_simp; try (with_reducible rfl)
      (try simp only [Act.put, List.getElem_toArray, List.getElem_cons_succ, List.getElem_cons_zero, List.setIfInBounds_toArray, List.set_cons_zero, List.set_cons_succ])
      refine wpAnyH_take (i := 14) (v := ?_) rfl (by kernel_rfl) (by kernel_rfl) (by kernel_rfl) (fun _ _ _ h => h) (Or.inl ⟨by kernel_rfl, ?_⟩) hS6 ?_
      rotate_left
      · intro w hSw; (try dsimp only at hSw); go_simp; try (with_reducible rfl)
      (try simp only [Act.put, List.getElem_toArray, List.getElem_cons_succ, List.getElem_cons_zero, List.setIfInBounds_toArray, List.set_cons_zero, List.set_cons_succ])
      have a0 := cellOf X6.out.1.2.1 0 _ rfl
      have a1 := cellOf X6.out.1.2.1 1 _ rfl
      have z0 := frozenOf X6.out.1.2.1 0
      have z1 := frozenOf X6.out.1.2.1 1
      refine wpAnyH_ready (rs := [15]) (by kernel_rfl) (by simp) ?_
      refine AllReadyH.cons rfl (fun K1 hK1 => ?_) AllReadyH.nil
      go_simp
      have X7 : Hid (Mem W ((w6.setCell ⟨W.heap.size + 1, 0, none⟩ (.int .u64 32768)).setCell ⟨W.heap.size + 1, 1, none⟩ (.slice a6 n6 c6)) rb a6 n6 c6 F5 (if B = true then over M x 8 (byteAt y) else M) (j + 1)) :=
        ⟨box_other X6.out.1.1 (by omega), box_set X6.out.1.2.1, X6.out.2.setBox (fun hf => by have := X6.out.1.2.2.1 _ hf; omega) (cellOf X6.out.1.2.1 1 _ rfl), X6.out.1.2.2.1, (X6.out.1.2.2.2.setCell (p := ⟨W.heap.size + 1, 0, none⟩) (by show W.heap.size ≤ W.heap.size + 1; omega) _).setCell (p := ⟨W.heap.size + 1, 1, none⟩) (by show W.heap.size ≤ W.heap.size + 1; omega) _⟩
      refine hK1.out _ ((w6.setCell ⟨W.heap.size + 1, 0, none⟩ (.int .u64 32768)).setCell ⟨W.heap.size + 1, 1, none⟩ (.slice a6 n6 c6)) (HP.out _ X7.out.2.2.2.2) (fun hS7 => ?_)
      clear hK1 K1 hS6 a0 a1 z0 z1 e1 e2
      (try simp only [Act.put, List.getElem_toArray, List.getElem_cons_succ, List.getElem_cons_zero, List.setIfInBounds_toArray, List.set_cons_zero, List.set_cons_succ])
      refine wpAnyH_done (by kernel_rfl) ?_ _
      clear hS7
      go_wp2_with fail
      go_roundw
      case rel => exact ⟨j + 1, a6, n6, c6, F5, _, by omega, by go_num, X7.out⟩
      case measure => simp [intOf]; omega
end Go.Proofs.Ytalgidnmmghejaa
