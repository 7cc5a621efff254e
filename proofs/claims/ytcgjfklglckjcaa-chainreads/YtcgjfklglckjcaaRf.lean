/- The statements' memory: bytes are put into a memory and into the document's. -/
import Derived.Test.YtcgjfklglckjcaaMh
import Derived.Test.YtcgjfklglckjcaaRe
import Derived.Test.YtcgjfklglckjcaaRd
namespace Go.Proofs.Ytcgjfklglckjcaa
open Go.RowKit Go.Maps
set_option linter.unusedVariables false
set_option linter.unusedSimpArgs false
set_option maxRecDepth 100000
def Mem (W wr : World) (rb : Nat) (a : Option Addr) (n c : Nat) (F : Nat → Prop) (M : Nat → Nat) (j : Nat) : Prop :=
  wr.heap[W.heap.size]? = some (.cells #[.int .u64 0, .slice none 0 0] 32 (0, 0)) ∧ wr.heap[W.heap.size + 1]? = some (.cells #[.int .u64 8192, .slice a n c] 32 (0, 0)) ∧ Both F wr rb 8192 (.slice a n c) (200 * j) M ∧ (∀ k, F k → W.heap.size + 2 ≤ k) ∧ Below W.heap.size W wr
theorem Mem.step {W wr wr' : World} {rb : Nat} {a : Option Addr} {n c : Nat} {F : Nat → Prop} {M : Nat → Nat} {j : Nat} (h : Mem W wr rb a n c F M j) (hb : Below wr.heap.size wr wr') : Mem W wr' rb a n c F M j :=
  ⟨below_box h.1 hb, below_box h.2.1 hb, h.2.2.1.below hb, h.2.2.2.1, h.2.2.2.2.trans (hb.mono h.2.2.2.2.size)⟩
theorem new_8192 (w : World) : Calls Try.prog 30 #[.int .u64 8192] w fun e w' => ∃ rb F, e = .returned (.tuple #[.pointer (some ⟨rb, 0, none⟩), .int .i64 0]) ∧ RamAt w' F rb 8192 0 (.pointer none) (fun _ => 0) ∧ (∀ k, F k → w.heap.size ≤ k) ∧ Below w.heap.size w w' := new_yes 8192 (by decide) w
theorem two_cells (t s : TypeId) (w : World) (c d : Array Value) : ((w.alloc (.cells c t)).alloc (.cells d s)).heap.size = w.heap.size + 2 := by simp
theorem begun_mem (W w1 : World) (rb : Nat) (F : Nat → Prop) (h : RamAt w1 F rb 8192 0 (.pointer none) (fun _ => 0)) (hF : ∀ k, F k → ((W.alloc (.cells #[.int .u64 0, .slice none 0 0] 32)).alloc (.cells #[.int .u64 8192, .slice none 0 0] 32)).heap.size ≤ k) (hb : Below ((W.alloc (.cells #[.int .u64 0, .slice none 0 0] 32)).alloc (.cells #[.int .u64 8192, .slice none 0 0] 32)).heap.size ((W.alloc (.cells #[.int .u64 0, .slice none 0 0] 32)).alloc (.cells #[.int .u64 8192, .slice none 0 0] 32)) w1) :
    Mem W w1 rb none 0 0 F (fun _ => 0) 0 := by
  have T := boxes hb
  rw [two_cells] at hF
  exact ⟨T.1, T.2.1, ⟨h, 0, fun _ => (0, 0), by omega, ⟨none, 0, rfl⟩, .inl ⟨rfl, _, _, rfl⟩, fun a => rfl, fun i hi => absurd hi (by omega)⟩, hF, T.2.2.1⟩
theorem mem_both {W wr w5 : World} {rb : Nat} {a : Option Addr} {n c : Nat} {F F5 : Nat → Prop} {M : Nat → Nat} {j : Nat} (h : Mem W wr rb a n c F M j) (hs : Step F wr F5 w5) : w5.heap[W.heap.size]? = some (.cells #[.int .u64 0, .slice none 0 0] 32 (0, 0)) ∧ w5.heap[W.heap.size + 1]? = some (.cells #[.int .u64 8192, .slice a n c] 32 (0, 0)) ∧ (∀ k, F5 k → W.heap.size + 2 ≤ k) ∧ Below W.heap.size W w5 := by
  obtain ⟨h1, h2, h3, h4, hb⟩ := h
  have hsz : W.heap.size + 2 ≤ wr.heap.size := by have := (Array.getElem?_eq_some_iff.1 h2).1; omega
  exact ⟨step_box hs h1 (fun hf => by have := h4 _ hf; omega), step_box hs h2 (fun hf => by have := h4 _ hf; omega), hs.base hsz h4, hb.trans (hs.below hb.size (fun k hk => by have := h4 k hk; omega))⟩
theorem wr_any {w : World} {F : Nat → Prop} {rb n : Nat} {M : Nat → Nat} (h : RamAt w F rb 8192 n (.pointer none) M) (x L : Nat) (f : Nat → Nat) (v : Value) (B : Bool) (hB : inB x L 2147483648 8192 = B) (hx : x < 18446744073709551616) (hr : ReadsF F w v L f) (hf : ∀ i, i < L → f i ≤ 255) (hn : n + L ≤ 1000000) :
    Calls Try.prog 32 #[.pointer (some ⟨rb, 0, none⟩), .int .u64 (x : Nat), v] w fun e w' => e = .returned (.bool B) ∧ ∃ F', RamAt w' F' rb 8192 (n + L) (.pointer none) (if B = true then over M x L f else M) ∧ Step F w F' w' := by
  subst hB
  exact write_any h (by omega) x L f v hx hr hf hn
theorem rwr_any (F : Nat → Prop) (w : World) (x L : Nat) (v d : Value) (n : Nat) (bs : Nat → Nat × Nat) (f : Nat → Nat) (B : Bool) (hB : inB x L 2147483648 8192 = B) (h : RefIn F w v n bs) (hd : Reads .u8 w d L f) (hF : ∀ k, F k → k < w.heap.size) (hn : n ≤ 1000000) (hx : x < 18446744073709551616) (hL : L ≤ 1000) :
    Calls Try.prog 33 #[.agg #[.int .u64 8192, v], .int .u64 (x : Nat), d] w fun e w' => ∃ a' n' c' bs', e = .returned (.tuple #[.agg #[.int .u64 8192, .slice a' n' c'], .bool B]) ∧ n' ≤ n + L ∧ RefIn F w' (.slice a' n' c') n' bs' ∧ ((∀ a, rget bs' n' a = (if B = true then over (rget bs n) x L f else rget bs n) a) ∧ (Rng bs n 8192 → Rng bs' n' 8192)) ∧ Below w.heap.size w w' := by
  subst hB
  exact rwrite_any F w 8192 x L v d n bs f h hd hF hn (by omega) hx hL
set_option maxHeartbeats 1000000 in
theorem memory_long (av : Option Addr) (len cap : Nat) (hlen : 60 < len) (W : World) : Calls Try.prog 10 #[.slice av len cap] W fun e w' => ∃ pv a n c, e = .returned (.tuple #[pv, .agg #[.int .u64 8192, .slice a n c]]) ∧ Below W.heap.size W w' ∧ ((pv = .pointer none ∧ 0 < len) ∨ ∃ rb F M, pv = .pointer (some ⟨rb, 0, none⟩) ∧ Both F w' rb 8192 (.slice a n c) 12000 M ∧ (∀ k, F k → W.heap.size ≤ k)) := by
  have hl : (60 : Int) < (len : Int) := by omega
  go_enter Try.func10, Try.ntmps10
  go_upto_region 2 with fail
  have HB : Hid (∀ w1 rb F, RamAt w1 F rb 8192 0 (.pointer none) (fun _ => 0) → (∀ k, F k → ((W.alloc (.cells #[.int .u64 0, .slice none 0 0] 32)).alloc (.cells #[.int .u64 8192, .slice none 0 0] 32)).heap.size ≤ k) → Below ((W.alloc (.cells #[.int .u64 0, .slice none 0 0] 32)).alloc (.cells #[.int .u64 8192, .slice none 0 0] 32)).heap.size ((W.alloc (.cells #[.int .u64 0, .slice none 0 0] 32)).alloc (.cells #[.int .u64 8192, .slice none 0 0] 32)) w1 → Mem W w1 rb none 0 0 F (fun _ => 0) 0) := fun w1 rb F h1 h2 h3 => begun_mem W w1 rb F h1 h2 h3
  generalize ((W.alloc (.cells #[.int .u64 0, .slice none 0 0] 32)).alloc (.cells #[.int .u64 8192, .slice none 0 0] 32)) = V2 at *
  go_wp2_with fail
  refine (new_8192 _).mono ?_
  rintro e w1 ⟨rb, F, rfl, h1, hF, hb1⟩
  have X1 : Hid (Mem W w1 rb none 0 0 F (fun _ => 0) 0) := HB.out _ _ _ h1 hF hb1
  clear h1 hF hb1 HB
  have q0 := cellOf X1.out.2.1 0 _ rfl
  have q1 := cellOf X1.out.2.1 1 _ rfl
  have p0 := cellOf X1.out.1 0 _ rfl
  have p1 := cellOf X1.out.1 1 _ rfl
  have z0 := frozenOf X1.out.1 0
  have z1 := frozenOf X1.out.1 1
  go_wp2_with fail
  go_region
  go_wp2_with fail
  refine bodyPost_ret (v := .tuple #[.pointer none, .agg #[.int .u64 8192, .slice none 0 0]]) (by simp [results, Try.results10, go_sem, p0, p1]) rfl ⟨_, _, _, _, rfl, ?_, .inl ⟨rfl, by omega⟩⟩
  exact ((X1.out.2.2.2.2.setCell (p := ⟨W.heap.size, 0, none⟩) (Nat.le_refl _) _).setCell (p := ⟨W.heap.size, 1, none⟩) (Nat.le_refl _) _).drew
set_option maxHeartbeats 4000000 in
theorem memory_short (av : Option Addr) (len cap : Nat) (ps : Nat → PutD) (hlen : len ≤ 60) (W : World) (hws : PutsIn W (.slice av len cap) len ps) : Calls Try.prog 10 #[.slice av len cap] W fun e w' => ∃ pv a n c, e = .returned (.tuple #[pv, .agg #[.int .u64 8192, .slice a n c]]) ∧ Below W.heap.size W w' ∧ ((pv = .pointer none ∧ 0 < len) ∨ ∃ rb F M, pv = .pointer (some ⟨rb, 0, none⟩) ∧ Both F w' rb 8192 (.slice a n c) 12000 M ∧ (∀ k, F k → W.heap.size ≤ k)) := by
  have hl : ¬ (60 : Int) < (len : Int) := by omega
  have HW : Hid (PutsIn W (.slice av len cap) len ps) := hws
  have HL : Hid (len ≤ 60) := hlen
  clear hws hlen
  go_enter Try.func10, Try.ntmps10
  go_upto_region 2 with fail
  have HB : Hid (∀ w1 rb F, RamAt w1 F rb 8192 0 (.pointer none) (fun _ => 0) → (∀ k, F k → ((W.alloc (.cells #[.int .u64 0, .slice none 0 0] 32)).alloc (.cells #[.int .u64 8192, .slice none 0 0] 32)).heap.size ≤ k) → Below ((W.alloc (.cells #[.int .u64 0, .slice none 0 0] 32)).alloc (.cells #[.int .u64 8192, .slice none 0 0] 32)).heap.size ((W.alloc (.cells #[.int .u64 0, .slice none 0 0] 32)).alloc (.cells #[.int .u64 8192, .slice none 0 0] 32)) w1 → Mem W w1 rb none 0 0 F (fun _ => 0) 0) := fun w1 rb F h1 h2 h3 => begun_mem W w1 rb F h1 h2 h3
  generalize ((W.alloc (.cells #[.int .u64 0, .slice none 0 0] 32)).alloc (.cells #[.int .u64 8192, .slice none 0 0] 32)) = V2 at *
  go_wp2_with fail
  refine (new_8192 _).mono ?_
  rintro e w1 ⟨rb, F0, rfl, h1, hF, hb1⟩
  have X1 : Hid (Mem W w1 rb none 0 0 F0 (fun _ => 0) 0) := HB.out _ _ _ h1 hF hb1
  clear h1 hF hb1 HB
  go_wp2_with fail
  go_loopw [7] (fun i wr => ∃ (j : Nat) (a : Option Addr) (n c : Nat) (F : Nat → Prop) (M : Nat → Nat), j ≤ len ∧ i = .int .i64 j ∧ Mem W wr rb a n c F M j) (fun i _ => len - (intOf i).toNat)
  case atStart => exact ⟨0, none, 0, 0, F0, fun _ => 0, by omega, rfl, X1.out⟩
  case round =>
    obtain ⟨j, a, n, c, F, M, hj, rfl, hX⟩ := hrel
    have Xr : Hid (Mem W wr rb a n c F M j) := hX
    clear hX X1
    by_cases hlt : j < len
    case neg =>
      obtain rfl : j = len := by omega
      have q0 := cellOf Xr.out.2.1 0 _ rfl
      have q1 := cellOf Xr.out.2.1 1 _ rfl
      have p0 := cellOf Xr.out.1 0 _ rfl
      have p1 := cellOf Xr.out.1 1 _ rfl
      have z0 := frozenOf Xr.out.1 0
      have z1 := frozenOf Xr.out.1 1
      have P1 : Hid _ := p1
      go_wp2_with fail
      go_region
      go_wp2_with fail
      refine bodyPost_ret (v := .tuple #[.pointer (some ⟨rb, 0, none⟩), .agg #[.int .u64 8192, .slice a n c]]) (by simp [results, Try.results10, go_sem, p0, p1]) rfl ⟨_, a, n, c, rfl, ?_, .inr ⟨rb, F, M, rfl, ?_, fun k hk => by have := Xr.out.2.2.2.1 k hk; omega⟩⟩
      · exact ((Xr.out.2.2.2.2.setCell (p := ⟨W.heap.size, 0, none⟩) (Nat.le_refl _) _).setCell (p := ⟨W.heap.size, 1, none⟩) (Nat.le_refl _) _).drew
      · have hB := Xr.out.2.2.1.setBox (b := W.heap.size) (u0 := .int .u64 8192) (u1 := .slice a n c) (fun hf => by have := Xr.out.2.2.2.1 _ hf; omega) P1.out
        have hB2 := hB.below (Below.drew (Below.refl _ _))
        obtain ⟨g1, nb, bs, g2, g3⟩ := hB2
        have := HL.out
        exact ⟨g1.mono (by omega), nb, bs, by omega, g3⟩
    case pos =>
      have hji : (j : Int) < (len : Int) := by omega
      rcases HW.out with ⟨h0, _⟩ | ⟨b, off, cp, hv, hbW, hl9, hc⟩
      · omega
      simp only [Value.slice.injEq] at hv
      obtain ⟨rfl, -, rfl⟩ := hv
      obtain ⟨c1, c2, hin⟩ := hc j hlt
      have HI : Hid (PutD.In (ps j) (fun q => W.heap.size ≤ q) W) := hin
      clear hc hin hl9
      obtain ⟨⟨x, da, dl, dc, f⟩, hps⟩ : ∃ o, ps j = o := ⟨_, rfl⟩
      rw [hps] at HI c1 c2
      simp only at c1 c2
      clear hps
      have HP : Hid (∀ V, Below W.heap.size W V → V.cell? ⟨b, off + j * 2, none⟩ = some (.int .u64 (x : Int)) ∧ V.cell? ⟨b, off + j * 2 + 1, none⟩ = some (.slice da dl dc)) := fun V hV => ⟨(hV.cell (p := ⟨b, off + j * 2, none⟩) hbW).trans c1, (hV.cell (p := ⟨b, off + j * 2 + 1, none⟩) hbW).trans c2⟩
      clear c1 c2
      have e1 := (HP.out wr Xr.out.2.2.2.2).1
      have e2 := (HP.out wr Xr.out.2.2.2.2).2
      by_cases hbig : 200 < dl
      · have hbi : (200 : Int) < (dl : Int) := by omega
        have q0 := cellOf Xr.out.2.1 0 _ rfl
        have q1 := cellOf Xr.out.2.1 1 _ rfl
        have p0 := cellOf Xr.out.1 0 _ rfl
        have p1 := cellOf Xr.out.1 1 _ rfl
        have z0 := frozenOf Xr.out.1 0
        have z1 := frozenOf Xr.out.1 1
        go_wp2_with fail
        go_region
        go_wp2_with fail
        refine bodyPost_ret (v := .tuple #[.pointer none, .agg #[.int .u64 8192, .slice a n c]]) (by simp [results, Try.results10, go_sem, p0, p1]) rfl ⟨_, _, _, _, rfl, ?_, .inl ⟨rfl, by omega⟩⟩
        exact ((Xr.out.2.2.2.2.setCell (p := ⟨W.heap.size, 0, none⟩) (Nat.le_refl _) _).setCell (p := ⟨W.heap.size, 1, none⟩) (Nat.le_refl _) _).drew
      have hbi : ¬ (200 : Int) < (dl : Int) := by omega
      obtain ⟨B, hB⟩ : ∃ B, inB x dl 2147483648 8192 = B := ⟨_, rfl⟩
      have HV : Hid (inB x dl 2147483648 8192 = B) := hB
      clear hB
      go_upto_region 10 with fail
      have Xd : Hid (Mem W wr.drew rb a n c F M j) := Xr.out.step (Below.drew (Below.refl _ _))
      refine wp_region_held_drew (S := fun V => V.cell? ⟨b, off + j * 2, none⟩ = some (.int .u64 (x : Int)) ∧ V.cell? ⟨b, off + j * 2 + 1, none⟩ = some (.slice da dl dc)) (by kernel_rfl) (HP.out _ Xd.out.2.2.2.2) ?_
      intro hS
      refine wpAnyH_take (i := 0) (v := ?_) rfl (by kernel_rfl) (by kernel_rfl) (by kernel_rfl) (fun _ _ _ h => h) (Or.inl ⟨by kernel_rfl, ?_⟩) hS ?_
      rotate_left
      · intro w hSw; (try dsimp only at hSw); go_simp; try (with_reducible rfl)
      (try simp only [Act.put, List.getElem_toArray, List.getElem_cons_succ, List.getElem_cons_zero, List.setIfInBounds_toArray, List.set_cons_zero, List.set_cons_succ])
      refine wpAnyH_take (i := 1) (v := ?_) rfl (by kernel_rfl) (by kernel_rfl) (by kernel_rfl) (fun _ _ _ h => h) (Or.inl ⟨by kernel_rfl, ?_⟩) hS ?_
      rotate_left
      · intro w hSw; (try dsimp only at hSw); go_simp; try (with_reducible rfl)
      (try simp only [Act.put, List.getElem_toArray, List.getElem_cons_succ, List.getElem_cons_zero, List.setIfInBounds_toArray, List.set_cons_zero, List.set_cons_succ])
      refine wpAnyH_take (i := 2) (v := ?_) rfl (by kernel_rfl) (by kernel_rfl) (by kernel_rfl) (fun _ _ _ h => h) (Or.inl ⟨by kernel_rfl, ?_⟩) hS ?_
      rotate_left
      · intro w hSw; (try dsimp only at hSw); go_simp; try (with_reducible rfl)
      (try simp only [Act.put, List.getElem_toArray, List.getElem_cons_succ, List.getElem_cons_zero, List.setIfInBounds_toArray, List.set_cons_zero, List.set_cons_succ])
      refine wpAnyH_take (i := 3) (v := ?_) rfl (by kernel_rfl) (by kernel_rfl) (by kernel_rfl) (fun _ _ _ h => h) (Or.inl ⟨by kernel_rfl, ?_⟩) hS ?_
      rotate_left
      · intro w hSw; (try dsimp only at hSw); go_simp; try (with_reducible rfl)
      (try simp only [Act.put, List.getElem_toArray, List.getElem_cons_succ, List.getElem_cons_zero, List.setIfInBounds_toArray, List.set_cons_zero, List.set_cons_succ])
      refine wpAnyH_take (i := 4) (v := ?_) rfl (by kernel_rfl) (by kernel_rfl) (by kernel_rfl) (fun _ _ _ h => h) (Or.inl ⟨by kernel_rfl, ?_⟩) hS ?_
      rotate_left
      · intro w hSw; (try dsimp only at hSw); go_simp; try (with_reducible rfl)
      (try simp only [Act.put, List.getElem_toArray, List.getElem_cons_succ, List.getElem_cons_zero, List.setIfInBounds_toArray, List.set_cons_zero, List.set_cons_succ])
      refine wpAnyH_take (i := 5) (v := ?_) rfl (by kernel_rfl) (by kernel_rfl) (by kernel_rfl) (fun _ _ _ h => h) (Or.inl ⟨by kernel_rfl, ?_⟩) hS ?_
      rotate_left
      · intro w hSw; (try dsimp only at hSw); go_simp; try (with_reducible rfl)
      (try simp only [Act.put, List.getElem_toArray, List.getElem_cons_succ, List.getElem_cons_zero, List.setIfInBounds_toArray, List.set_cons_zero, List.set_cons_succ])
      refine wpAnyH_take (i := 6) (v := ?_) rfl (by kernel_rfl) (by kernel_rfl) (by kernel_rfl) (fun _ _ _ h => h) (Or.inl ⟨by kernel_rfl, ?_⟩) hS ?_
      rotate_left
      · intro w hSw; (try dsimp only at hSw); go_simp; try (with_reducible rfl)
      (try simp only [Act.put, List.getElem_toArray, List.getElem_cons_succ, List.getElem_cons_zero, List.setIfInBounds_toArray, List.set_cons_zero, List.set_cons_succ])
      refine wpAnyH_take (i := 7) (v := ?_) rfl (by kernel_rfl) (by kernel_rfl) (by kernel_rfl) (fun _ _ _ h => h) (Or.inl ⟨by kernel_rfl, ?_⟩) hS ?_
      rotate_left
      · intro w hSw; (try dsimp only at hSw); go_simp; try (with_reducible rfl)
      (try simp only [Act.put, List.getElem_toArray, List.getElem_cons_succ, List.getElem_cons_zero, List.setIfInBounds_toArray, List.set_cons_zero, List.set_cons_succ])
      refine wpAnyH_take (i := 8) (v := ?_) rfl (by kernel_rfl) (by kernel_rfl) (by kernel_rfl) (fun _ _ _ h => h) (Or.inl ⟨by kernel_rfl, ?_⟩) hS ?_
      rotate_left
      · intro w hSw; (try dsimp only at hSw); go_simp; try (with_reducible rfl)
      (try simp only [Act.put, List.getElem_toArray, List.getElem_cons_succ, List.getElem_cons_zero, List.setIfInBounds_toArray, List.set_cons_zero, List.set_cons_succ])
      refine wpAnyH_take (i := 9) (v := ?_) rfl (by kernel_rfl) (by kernel_rfl) (by kernel_rfl) (fun _ _ _ h => h) (Or.inl ⟨by kernel_rfl, ?_⟩) hS ?_
      rotate_left
      · intro w hSw; (try dsimp only at hSw); go_simp; try (with_reducible rfl)
      (try simp only [Act.put, List.getElem_toArray, List.getElem_cons_succ, List.getElem_cons_zero, List.setIfInBounds_toArray, List.set_cons_zero, List.set_cons_succ])
      refine wpAnyH_take (i := 10) (v := ?_) rfl (by kernel_rfl) (by kernel_rfl) (by kernel_rfl) (fun _ _ _ h => h) (Or.inl ⟨by kernel_rfl, ?_⟩) hS ?_
      rotate_left
      · intro w hSw; (try dsimp only at hSw); go_simp; try (with_reducible rfl)
      (try simp only [Act.put, List.getElem_toArray, List.getElem_cons_succ, List.getElem_cons_zero, List.setIfInBounds_toArray, List.set_cons_zero, List.set_cons_succ])
      refine wpAnyH_ready (rs := [11]) (by kernel_rfl) (by simp) ?_
      refine AllReadyH.cons rfl (fun K1 hK1 => ?_) AllReadyH.nil
      go_simp
      have hin := PutD.In.later (F := F) HI.out Xd.out.2.2.2.2 (fun q hq => by have := Xd.out.2.2.2.1 q hq; omega)
      refine (wr_any Xd.out.2.2.1.1 x dl f (.slice da dl dc) B HV.out hin.1 hin.2.2 (fun i _ => hin.2.1 i) (by have := HL.out; omega)).mono ?_
      clear hin
      rintro e w5 ⟨rfl, F5, h5, hs5⟩
      have X5 : Hid ((w5.heap[W.heap.size]? = some (.cells #[.int .u64 0, .slice none 0 0] 32 (0, 0)) ∧ w5.heap[W.heap.size + 1]? = some (.cells #[.int .u64 8192, .slice a n c] 32 (0, 0)) ∧ (∀ k, F5 k → W.heap.size + 2 ≤ k) ∧ Below W.heap.size W w5) ∧ RamAt w5 F5 rb 8192 (200 * j + dl) (.pointer none) (if B = true then over M x dl f else M) ∧ ∃ nb bs, nb ≤ 200 * j ∧ (∃ a' c', Value.slice a n c = .slice a' nb c') ∧ RefIn F5 w5 (.slice a n c) nb bs ∧ (∀ q, rget bs nb q = M q) ∧ Rng bs nb 8192) := by
        refine ⟨mem_both Xd.out hs5, h5, ?_⟩
        obtain ⟨-, nb, bs, g2, g3, g4, g5⟩ := Xd.out.2.2.1
        exact ⟨nb, bs, g2, g3, g4.step hs5, g5⟩
      clear h5 hs5
      refine hK1.out _ _ (HP.out _ X5.out.1.2.2.2) (fun hS5 => ?_)
      clear hK1 K1 hS
      (try simp only [Act.put, List.getElem_toArray, List.getElem_cons_succ, List.getElem_cons_zero, List.setIfInBounds_toArray, List.set_cons_zero, List.set_cons_succ])
      refine wpAnyH_done (by kernel_rfl) ?_ _
      clear hS5 e1 e2
      go_upto_region 11 with fail
      have e1 := (HP.out w5 X5.out.1.2.2.2).1
      have e2 := (HP.out w5 X5.out.1.2.2.2).2
      obtain ⟨nb, bs, g2, g3, g4, g5⟩ := X5.out.2.2
      have G : Hid (nb ≤ 200 * j ∧ (∃ a' c', Value.slice a n c = .slice a' nb c') ∧ RefIn F5 w5 (.slice a n c) nb bs ∧ (∀ q, rget bs nb q = M q) ∧ Rng bs nb 8192) := ⟨g2, g3, g4, g5⟩
      clear g2 g3 g4 g5
      have hd5 : Below w5.heap.size w5 w5.drew := Below.drew (Below.refl _ _)
      have D5 : Hid ((w5.drew.cell? ⟨b, off + j * 2, none⟩ = some (.int .u64 (x : Int)) ∧ w5.drew.cell? ⟨b, off + j * 2 + 1, none⟩ = some (.slice da dl dc)) ∧ w5.drew.cell? ⟨W.heap.size + 1, 0, none⟩ = some (.int .u64 8192) ∧ w5.drew.cell? ⟨W.heap.size + 1, 1, none⟩ = some (.slice a n c)) := ⟨HP.out _ (X5.out.1.2.2.2.trans (hd5.mono X5.out.1.2.2.2.size)), cellOf (below_box X5.out.1.2.1 hd5) 0 _ rfl, cellOf (below_box X5.out.1.2.1 hd5) 1 _ rfl⟩
      have hin5 := PutD.In.later (F := F5) HI.out (X5.out.1.2.2.2.trans (hd5.mono X5.out.1.2.2.2.size)) (fun q hq => by have := X5.out.1.2.2.1 q hq; omega)
      have HI5 : Hid (x < 18446744073709551616 ∧ Reads .u8 w5.drew (.slice da dl dc) dl f) := ⟨hin5.1, hin5.2.2.reads⟩
      clear hd5 hin5
      have f0 := D5.out.2.1
      have f1 := D5.out.2.2
      refine wp_region_held_drew (S := fun V => V.cell? ⟨b, off + j * 2, none⟩ = some (.int .u64 (x : Int)) ∧ V.cell? ⟨b, off + j * 2 + 1, none⟩ = some (.slice da dl dc)) (by kernel_rfl) D5.out.1 ?_
      intro hS
      refine wpAnyH_take (i := 1) (v := ?_) rfl (by kernel_rfl) (by kernel_rfl) (by kernel_rfl) (fun _ _ _ h => h) (Or.inl ⟨by kernel_rfl, ?_⟩) hS ?_
      rotate_left
      · intro w hSw; (try dsimp only at hSw); go_simp; try (with_reducible rfl)
      (try simp only [Act.put, List.getElem_toArray, List.getElem_cons_succ, List.getElem_cons_zero, List.setIfInBounds_toArray, List.set_cons_zero, List.set_cons_succ])
      refine wpAnyH_take (i := 2) (v := ?_) rfl (by kernel_rfl) (by kernel_rfl) (by kernel_rfl) (fun _ _ _ h => h) (Or.inl ⟨by kernel_rfl, ?_⟩) hS ?_
      rotate_left
      · intro w hSw; (try dsimp only at hSw); go_simp; try (with_reducible rfl)
      (try simp only [Act.put, List.getElem_toArray, List.getElem_cons_succ, List.getElem_cons_zero, List.setIfInBounds_toArray, List.set_cons_zero, List.set_cons_succ])
      refine wpAnyH_take (i := 3) (v := ?_) rfl (by kernel_rfl) (by kernel_rfl) (by kernel_rfl) (fun _ _ _ h => h) (Or.inl ⟨by kernel_rfl, ?_⟩) hS ?_
      rotate_left
      · intro w hSw; (try dsimp only at hSw); go_simp; try (with_reducible rfl)
      (try simp only [Act.put, List.getElem_toArray, List.getElem_cons_succ, List.getElem_cons_zero, List.setIfInBounds_toArray, List.set_cons_zero, List.set_cons_succ])
      refine wpAnyH_take (i := 4) (v := ?_) rfl (by kernel_rfl) (by kernel_rfl) (by kernel_rfl) (fun _ _ _ h => h) (Or.inl ⟨by kernel_rfl, ?_⟩) hS ?_
      rotate_left
      · intro w hSw; (try dsimp only at hSw); go_simp; try (with_reducible rfl)
      (try simp only [Act.put, List.getElem_toArray, List.getElem_cons_succ, List.getElem_cons_zero, List.setIfInBounds_toArray, List.set_cons_zero, List.set_cons_succ])
      refine wpAnyH_take (i := 5) (v := ?_) rfl (by kernel_rfl) (by kernel_rfl) (by kernel_rfl) (fun _ _ _ h => h) (Or.inl ⟨by kernel_rfl, ?_⟩) hS ?_
      rotate_left
      · intro w hSw; (try dsimp only at hSw); go_simp; try (with_reducible rfl)
      (try simp only [Act.put, List.getElem_toArray, List.getElem_cons_succ, List.getElem_cons_zero, List.setIfInBounds_toArray, List.set_cons_zero, List.set_cons_succ])
      refine wpAnyH_take (i := 6) (v := ?_) rfl (by kernel_rfl) (by kernel_rfl) (by kernel_rfl) (fun _ _ _ h => h) (Or.inl ⟨by kernel_rfl, ?_⟩) hS ?_
      rotate_left
      · intro w hSw; (try dsimp only at hSw); go_simp; try (with_reducible rfl)
      (try simp only [Act.put, List.getElem_toArray, List.getElem_cons_succ, List.getElem_cons_zero, List.setIfInBounds_toArray, List.set_cons_zero, List.set_cons_succ])
      refine wpAnyH_take (i := 7) (v := ?_) rfl (by kernel_rfl) (by kernel_rfl) (by kernel_rfl) (fun _ _ _ h => h) (Or.inl ⟨by kernel_rfl, ?_⟩) hS ?_
      rotate_left
      · intro w hSw; (try dsimp only at hSw); go_simp; try (with_reducible rfl)
      (try simp only [Act.put, List.getElem_toArray, List.getElem_cons_succ, List.getElem_cons_zero, List.setIfInBounds_toArray, List.set_cons_zero, List.set_cons_succ])
      refine wpAnyH_take (i := 8) (v := ?_) rfl (by kernel_rfl) (by kernel_rfl) (by kernel_rfl) (fun _ _ _ h => h) (Or.inl ⟨by kernel_rfl, ?_⟩) hS ?_
      rotate_left
      · intro w hSw; (try dsimp only at hSw); go_simp; try (with_reducible rfl)
      (try simp only [Act.put, List.getElem_toArray, List.getElem_cons_succ, List.getElem_cons_zero, List.setIfInBounds_toArray, List.set_cons_zero, List.set_cons_succ])
      refine wpAnyH_take (i := 9) (v := ?_) rfl (by kernel_rfl) (by kernel_rfl) (by kernel_rfl) (fun _ _ _ h => h) (Or.inl ⟨by kernel_rfl, ?_⟩) hS ?_
      rotate_left
      · intro w hSw; (try dsimp only at hSw); go_simp; try (with_reducible rfl)
      (try simp only [Act.put, List.getElem_toArray, List.getElem_cons_succ, List.getElem_cons_zero, List.setIfInBounds_toArray, List.set_cons_zero, List.set_cons_succ])
      refine wpAnyH_take (i := 10) (v := ?_) rfl (by kernel_rfl) (by kernel_rfl) (by kernel_rfl) (fun _ _ _ h => h) (Or.inl ⟨by kernel_rfl, ?_⟩) hS ?_
      rotate_left
      · intro w hSw; (try dsimp only at hSw); go_simp; try (with_reducible rfl)
      (try simp only [Act.put, List.getElem_toArray, List.getElem_cons_succ, List.getElem_cons_zero, List.setIfInBounds_toArray, List.set_cons_zero, List.set_cons_succ])
      refine wpAnyH_ready (rs := [0]) (by kernel_rfl) (by simp) ?_
      refine AllReadyH.cons rfl (fun K1 hK1 => ?_) AllReadyH.nil
      go_simp
      refine hK1.out _ _ D5.out.1 (fun hS0 => ?_)
      clear hK1 K1 hS f0 f1
      (try simp only [Act.put, List.getElem_toArray, List.getElem_cons_succ, List.getElem_cons_zero, List.setIfInBounds_toArray, List.set_cons_zero, List.set_cons_succ])
      refine wpAnyH_ready (rs := [11]) (by kernel_rfl) (by simp) ?_
      refine AllReadyH.cons rfl (fun K1 hK1 => ?_) AllReadyH.nil
      go_simp
      refine (rwr_any F5 _ x dl (.slice a n c) (.slice da dl dc) nb bs f B HV.out (G.out.2.2.1.below (Below.drew (Below.refl _ _))) HI5.out.2 (fun k hk => X5.out.2.1.lt k hk) (by have := HL.out; have := G.out.1; omega) HI5.out.1 (by omega)).mono ?_
      rintro e w6 ⟨a6, n6, c6, bs6, rfl, hn6, hr6, he6, hb6⟩
      have hb6' : Below w5.heap.size w5 w6 := (Below.drew (Below.refl _ _)).trans hb6
      have X6 : Hid ((w6.heap[W.heap.size]? = some (.cells #[.int .u64 0, .slice none 0 0] 32 (0, 0)) ∧ w6.heap[W.heap.size + 1]? = some (.cells #[.int .u64 8192, .slice a n c] 32 (0, 0)) ∧ (∀ k, F5 k → W.heap.size + 2 ≤ k) ∧ Below W.heap.size W w6) ∧ Both F5 w6 rb 8192 (.slice a6 n6 c6) (200 * (j + 1)) (if B = true then over M x dl f else M)) := by
        refine ⟨⟨below_box X5.out.1.1 hb6', below_box X5.out.1.2.1 hb6', X5.out.1.2.2.1, X5.out.1.2.2.2.trans (hb6'.mono X5.out.1.2.2.2.size)⟩, (X5.out.2.1.below hb6').mono (by omega), n6, bs6, by have := G.out.1; omega, ⟨a6, c6, rfl⟩, hr6, fun q => ?_, he6.2 G.out.2.2.2.2⟩
        rw [he6.1 q]
        split
        · exact over_congr _ _ _ G.out.2.2.2.1 q
        · exact G.out.2.2.2.1 q
      clear hb6 hb6' he6 hr6
      refine hK1.out _ _ (HP.out _ X6.out.1.2.2.2) (fun hS6 => ?_)
      clear hK1 K1 hS0
      (try simp only [Act.put, List.getElem_toArray, List.getElem_cons_succ, List.getElem_cons_zero, List.setIfInBounds_toArray, List.set_cons_zero, List.set_cons_succ])
      refine wpAnyH_take (i := 12) (v := ?_) rfl (by kernel_rfl) (by kernel_rfl) (by kernel_rfl) (fun _ _ _ h => h) (Or.inl ⟨by kernel_rfl, ?_⟩) hS6 ?_
      rotate_left
      · intro w hSw; (try dsimp only at hSw); go_simp; try (with_reducible rfl)
      (try simp only [Act.put, List.getElem_toArray, List.getElem_cons_succ, List.getElem_cons_zero, List.setIfInBounds_toArray, List.set_cons_zero, List.set_cons_succ])
      refine wpAnyH_take (i := 13) (v := ?_) rfl (by kernel_rfl) (by kernel_rfl) (by kernel_rfl) (fun _ _ _ h => h) (Or.inl ⟨by kernel_rfl, ?_⟩) hS6 ?_
      rotate_left
      · intro w hSw; (try dsimp only at hSw); go_simp; try (with_reducible rfl)
      (try simp only [Act.put, List.getElem_toArray, List.getElem_cons_succ, List.getElem_cons_zero, List.setIfInBounds_toArray, List.set_cons_zero, List.set_cons_succ])
      refine wpAnyH_take (i := 14) (v := ?_) rfl (by kernel_rfl) (by kernel_rfl) (by kernel_rfl) (fun _ _ _ h => h) (Or.inl ⟨by kernel_rfl, ?_⟩) hS6 ?_
      rotate_left
      · intro w hSw; (try dsimp only at hSw); go_simp; try (with_reducible rfl)
      (try simp only [Act.put, List.getElem_toArray, List.getElem_cons_succ, List.getElem_cons_zero, List.setIfInBounds_toArray, List.set_cons_zero, List.set_cons_succ])
      have a0 := cellOf X6.out.1.2.1 0 _ rfl
      have a1 := cellOf X6.out.1.2.1 1 _ rfl
      have z0 := frozenOf X6.out.1.2.1 0
      have z1 := frozenOf X6.out.1.2.1 1
      refine wpAnyH_ready (rs := [15]) (by kernel_rfl) (by simp) ?_
      refine AllReadyH.cons rfl (fun K1 hK1 => ?_) AllReadyH.nil
      go_simp
      have X7 : Hid (Mem W ((w6.setCell ⟨W.heap.size + 1, 0, none⟩ (.int .u64 8192)).setCell ⟨W.heap.size + 1, 1, none⟩ (.slice a6 n6 c6)) rb a6 n6 c6 F5 (if B = true then over M x dl f else M) (j + 1)) :=
        ⟨box_other X6.out.1.1 (by omega), box_set X6.out.1.2.1, X6.out.2.setBox (fun hf => by have := X6.out.1.2.2.1 _ hf; omega) (cellOf X6.out.1.2.1 1 _ rfl), X6.out.1.2.2.1, (X6.out.1.2.2.2.setCell (p := ⟨W.heap.size + 1, 0, none⟩) (by show W.heap.size ≤ W.heap.size + 1; omega) _).setCell (p := ⟨W.heap.size + 1, 1, none⟩) (by show W.heap.size ≤ W.heap.size + 1; omega) _⟩
      refine hK1.out _ ((w6.setCell ⟨W.heap.size + 1, 0, none⟩ (.int .u64 8192)).setCell ⟨W.heap.size + 1, 1, none⟩ (.slice a6 n6 c6)) (HP.out _ X7.out.2.2.2.2) (fun hS7 => ?_)
      clear hK1 K1 hS6 a0 a1 z0 z1 e1 e2
      (try simp only [Act.put, List.getElem_toArray, List.getElem_cons_succ, List.getElem_cons_zero, List.setIfInBounds_toArray, List.set_cons_zero, List.set_cons_succ])
      refine wpAnyH_done (by kernel_rfl) ?_ _
      clear hS7
      go_wp2_with fail
      go_roundw
      case rel => exact ⟨j + 1, a6, n6, c6, F5, _, by omega, by go_num, X7.out⟩
      case measure => simp [intOf]; omega
theorem memory_any (v : Value) (len : Nat) (ps : Nat → PutD) (W : World) (hws : PutsIn W v len ps) : Calls Try.prog 10 #[v] W fun e w' => ∃ pv a n c, e = .returned (.tuple #[pv, .agg #[.int .u64 8192, .slice a n c]]) ∧ Below W.heap.size W w' ∧ ((pv = .pointer none ∧ 0 < len) ∨ ∃ rb F M, pv = .pointer (some ⟨rb, 0, none⟩) ∧ Both F w' rb 8192 (.slice a n c) 12000 M ∧ (∀ k, F k → W.heap.size ≤ k)) := by
  obtain ⟨a, c, rfl⟩ : ∃ a c, v = .slice a len c := by
    rcases hws with ⟨rfl, a, c, rfl⟩ | ⟨b, off, cap, rfl, _⟩
    · exact ⟨_, _, rfl⟩
    · exact ⟨_, _, rfl⟩
  by_cases h : len ≤ 60
  · exact memory_short a len c ps h W hws
  · exact memory_long a len c (by omega) W
end Go.Proofs.Ytcgjfklglckjcaa
