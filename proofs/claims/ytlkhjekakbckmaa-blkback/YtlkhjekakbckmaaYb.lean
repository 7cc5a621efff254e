/- Texts put together. -/
import Derived.Test.YtlkhjekakbckmaaYa
import Derived.Laws.Tables
import Derived.Laws.StructEq
import Derived.Deep.AppendLies
/- The statements' memory: bytes are put into a memory and into the document's. -/
namespace Go.Proofs.Ytlkhjekakbckmaa
open Go.RowKit Go.Maps
set_option linter.unusedVariables false
set_option linter.unusedSimpArgs false
set_option maxRecDepth 100000
def Mem (W wr : World) (rb : Nat) (a : Option Addr) (n c : Nat) (F : Nat → Prop) (M : Nat → Nat) (j : Nat) : Prop :=
  wr.heap[W.heap.size]? = some (.cells #[.int .u64 0, .slice none 0 0] 32 (0, 0)) ∧ wr.heap[W.heap.size + 1]? = some (.cells #[.int .u64 8192, .slice a n c] 32 (0, 0)) ∧ Both F wr rb 8192 (.slice a n c) (200 * j) M ∧ (∀ k, F k → W.heap.size + 2 ≤ k) ∧ Below W.heap.size W wr
theorem Mem.step {W wr wr' : World} {rb : Nat} {a : Option Addr} {n c : Nat} {F : Nat → Prop} {M : Nat → Nat} {j : Nat} (h : Mem W wr rb a n c F M j) (hb : Below wr.heap.size wr wr') : Mem W wr' rb a n c F M j :=
  ⟨below_box h.1 hb, below_box h.2.1 hb, h.2.2.1.below hb, h.2.2.2.1, h.2.2.2.2.trans (hb.mono h.2.2.2.2.size)⟩
theorem new_8192 (w : World) : Calls Try.prog 19 #[.int .u64 8192] w fun e w' => ∃ rb F, e = .returned (.tuple #[.pointer (some ⟨rb, 0, none⟩), .int .i64 0]) ∧ RamAt w' F rb 8192 0 (.pointer none) (fun _ => 0) ∧ (∀ k, F k → w.heap.size ≤ k) ∧ Below w.heap.size w w' := new_yes 8192 (by decide) w
theorem two_cells (t s : TypeId) (w : World) (c d : Array Value) : ((w.alloc (.cells c t)).alloc (.cells d s)).heap.size = w.heap.size + 2 := by simp
theorem begun_mem (W w1 : World) (rb : Nat) (F : Nat → Prop) (h : RamAt w1 F rb 8192 0 (.pointer none) (fun _ => 0)) (hF : ∀ k, F k → ((W.alloc (.cells #[.int .u64 0, .slice none 0 0] 32)).alloc (.cells #[.int .u64 8192, .slice none 0 0] 32)).heap.size ≤ k) (hb : Below ((W.alloc (.cells #[.int .u64 0, .slice none 0 0] 32)).alloc (.cells #[.int .u64 8192, .slice none 0 0] 32)).heap.size ((W.alloc (.cells #[.int .u64 0, .slice none 0 0] 32)).alloc (.cells #[.int .u64 8192, .slice none 0 0] 32)) w1) :
    Mem W w1 rb none 0 0 F (fun _ => 0) 0 := by
  have T := boxes hb
  rw [two_cells] at hF
  exact ⟨T.1, T.2.1, ⟨h, 0, fun _ => (0, 0), by omega, ⟨none, 0, rfl⟩, .inl ⟨rfl, _, _, rfl⟩, fun a => rfl, fun i hi => absurd hi (by omega)⟩, hF, T.2.2.1⟩
theorem mem_both {W wr w5 : World} {rb : Nat} {a : Option Addr} {n c : Nat} {F F5 : Nat → Prop} {M : Nat → Nat} {j : Nat} (h : Mem W wr rb a n c F M j) (hs : Step F wr F5 w5) : w5.heap[W.heap.size]? = some (.cells #[.int .u64 0, .slice none 0 0] 32 (0, 0)) ∧ w5.heap[W.heap.size + 1]? = some (.cells #[.int .u64 8192, .slice a n c] 32 (0, 0)) ∧ (∀ k, F5 k → W.heap.size + 2 ≤ k) ∧ Below W.heap.size W w5 := by
  obtain ⟨h1, h2, h3, h4, hb⟩ := h
  have hsz : W.heap.size + 2 ≤ wr.heap.size := by have := (Array.getElem?_eq_some_iff.1 h2).1; omega
  exact ⟨step_box hs h1 (fun hf => by have := h4 _ hf; omega), step_box hs h2 (fun hf => by have := h4 _ hf; omega), hs.base hsz h4, hb.trans (hs.below hb.size (fun k hk => by have := h4 k hk; omega))⟩
theorem wr_any {w : World} {F : Nat → Prop} {rb n : Nat} {M : Nat → Nat} (h : RamAt w F rb 8192 n (.pointer none) M) (x L : Nat) (f : Nat → Nat) (v : Value) (B : Bool) (hB : inB x L 2147483648 8192 = B) (hx : x < 18446744073709551616) (hr : ReadsF F w v L f) (hf : ∀ i, i < L → f i ≤ 255) (hn : n + L ≤ 1000000) :
    Calls Try.prog 21 #[.pointer (some ⟨rb, 0, none⟩), .int .u64 (x : Nat), v] w fun e w' => e = .returned (.bool B) ∧ ∃ F', RamAt w' F' rb 8192 (n + L) (.pointer none) (if B = true then over M x L f else M) ∧ Step F w F' w' := by
  subst hB
  exact write_any h (by omega) x L f v hx hr hf hn
theorem rwr_any (F : Nat → Prop) (w : World) (x L : Nat) (v d : Value) (n : Nat) (bs : Nat → Nat × Nat) (f : Nat → Nat) (B : Bool) (hB : inB x L 2147483648 8192 = B) (h : RefIn F w v n bs) (hd : Reads .u8 w d L f) (hF : ∀ k, F k → k < w.heap.size) (hn : n ≤ 1000000) (hx : x < 18446744073709551616) (hL : L ≤ 1000) :
    Calls Try.prog 40 #[.agg #[.int .u64 8192, v], .int .u64 (x : Nat), d] w fun e w' => ∃ a' n' c' bs', e = .returned (.tuple #[.agg #[.int .u64 8192, .slice a' n' c'], .bool B]) ∧ n' ≤ n + L ∧ RefIn F w' (.slice a' n' c') n' bs' ∧ ((∀ a, rget bs' n' a = (if B = true then over (rget bs n) x L f else rget bs n) a) ∧ (Rng bs n 8192 → Rng bs' n' 8192)) ∧ Below w.heap.size w w' := by
  subst hB
  exact rwrite_any F w 8192 x L v d n bs f h hd hF hn (by omega) hx hL
set_option maxHeartbeats 1000000 in
theorem memory_long (av : Option Addr) (len cap : Nat) (hlen : 60 < len) (W : World) : Calls Try.prog 10 #[.slice av len cap] W fun e w' => ∃ pv a n c, e = .returned (.tuple #[pv, .agg #[.int .u64 8192, .slice a n c]]) ∧ Below W.heap.size W w' ∧ ((pv = .pointer none ∧ 0 < len) ∨ ∃ rb F M, pv = .pointer (some ⟨rb, 0, none⟩) ∧ Both F w' rb 8192 (.slice a n c) 12000 M ∧ (∀ k, F k → W.heap.size ≤ k)) := by
  have hl : (60 : Int) < (len : Int) := by omega
  go_enter Try.func10, Try.ntmps10
  go_upto_region 2 with fail
  have HB : Hid (∀ w1 rb F, RamAt w1 F rb 8192 0 (.pointer none) (fun _ => 0) → (∀ k, F k → ((W.alloc (.cells #[.int .u64 0, .slice none 0 0] 32)).alloc (.cells #[.int .u64 8192, .slice none 0 0] 32)).heap.size ≤ k) → Below ((W.alloc (.cells #[.int .u64 0, .slice none 0 0] 32)).alloc (.cells #[.int .u64 8192, .slice none 0 0] 32)).heap.size ((W.alloc (.cells #[.int .u64 0, .slice none 0 0] 32)).alloc (.cells #[.int .u64 8192, .slice none 0 0] 32)) w1 → Mem W w1 rb none 0 0 F (fun _ => 0) 0) := fun w1 rb F h1 h2 h3 => begun_mem W w1 rb F h1 h2 h3
  generalize ((W.alloc (.cells #[.int .u64 0, .slice none 0 0] 32)).alloc (.cells #[.int .u64 8192, .slice none 0 0] 32)) = V2 at *
  go_wp2_with fail
  refine (new_8192 _).mono ?_
  rintro e w1 ⟨rb, F, rfl, h1, hF, hb1⟩
  have X1 : Hid (Mem W w1 rb none 0 0 F (fun _ => 0) 0) := HB.out _ _ _ h1 hF hb1
  clear h1 hF hb1 HB
  have q0 := cellOf X1.out.2.1 0 _ rfl
  have q1 := cellOf X1.out.2.1 1 _ rfl
  have p0 := cellOf X1.out.1 0 _ rfl
  have p1 := cellOf X1.out.1 1 _ rfl
  have z0 := frozenOf X1.out.1 0
  have z1 := frozenOf X1.out.1 1
  go_wp2_with fail
  go_region
  go_wp2_with fail
  refine bodyPost_ret (v := .tuple #[.pointer none, .agg #[.int .u64 8192, .slice none 0 0]]) (by simp [results, Try.results10, go_sem, p0, p1]) rfl ⟨_, _, _, _, rfl, ?_, .inl ⟨rfl, by omega⟩⟩
  exact ((X1.out.2.2.2.2.setCell (p := ⟨W.heap.size, 0, none⟩) (Nat.le_refl _) _).setCell (p := ⟨W.heap.size, 1, none⟩) (Nat.le_refl _) _).drew
set_option maxHeartbeats 4000000 in
theorem memory_short (av : Option Addr) (len cap : Nat) (ps : Nat → PutD) (hlen : len ≤ 60) (W : World) (hws : PutsIn W (.slice av len cap) len ps) : Calls Try.prog 10 #[.slice av len cap] W fun e w' => ∃ pv a n c, e = .returned (.tuple #[pv, .agg #[.int .u64 8192, .slice a n c]]) ∧ Below W.heap.size W w' ∧ ((pv = .pointer none ∧ 0 < len) ∨ ∃ rb F M, pv = .pointer (some ⟨rb, 0, none⟩) ∧ Both F w' rb 8192 (.slice a n c) 12000 M ∧ (∀ k, F k → W.heap.size ≤ k)) := by
  have hl : ¬ (60 : Int) < (len : Int) := by omega
  have HW : Hid (PutsIn W (.slice av len cap) len ps) := hws
  have HL : Hid (len ≤ 60) := hlen
  clear hws hlen
  go_enter Try.func10, Try.ntmps10
  go_upto_region 2 with fail
  have HB : Hid (∀ w1 rb F, RamAt w1 F rb 8192 0 (.pointer none) (fun _ => 0) → (∀ k, F k → ((W.alloc (.cells #[.int .u64 0, .slice none 0 0] 32)).alloc (.cells #[.int .u64 8192, .slice none 0 0] 32)).heap.size ≤ k) → Below ((W.alloc (.cells #[.int .u64 0, .slice none 0 0] 32)).alloc (.cells #[.int .u64 8192, .slice none 0 0] 32)).heap.size ((W.alloc (.cells #[.int .u64 0, .slice none 0 0] 32)).alloc (.cells #[.int .u64 8192, .slice none 0 0] 32)) w1 → Mem W w1 rb none 0 0 F (fun _ => 0) 0) := fun w1 rb F h1 h2 h3 => begun_mem W w1 rb F h1 h2 h3
  generalize ((W.alloc (.cells #[.int .u64 0, .slice none 0 0] 32)).alloc (.cells #[.int .u64 8192, .slice none 0 0] 32)) = V2 at *
  go_wp2_with fail
  refine (new_8192 _).mono ?_
  rintro e w1 ⟨rb, F0, rfl, h1, hF, hb1⟩
  have X1 : Hid (Mem W w1 rb none 0 0 F0 (fun _ => 0) 0) := HB.out _ _ _ h1 hF hb1
  clear h1 hF hb1 HB
  go_wp2_with fail
  go_loopw [7] (fun i wr => ∃ (j : Nat) (a : Option Addr) (n c : Nat) (F : Nat → Prop) (M : Nat → Nat), j ≤ len ∧ i = .int .i64 j ∧ Mem W wr rb a n c F M j) (fun i _ => len - (intOf i).toNat)
  case atStart => exact ⟨0, none, 0, 0, F0, fun _ => 0, by omega, rfl, X1.out⟩
  case round =>
    obtain ⟨j, a, n, c, F, M, hj, rfl, hX⟩ := hrel
    have Xr : Hid (Mem W wr rb a n c F M j) := hX
    clear hX X1
    by_cases hlt : j < len
    case neg =>
      obtain rfl : j = len := by omega
      have q0 := cellOf Xr.out.2.1 0 _ rfl
      have q1 := cellOf Xr.out.2.1 1 _ rfl
      have p0 := cellOf Xr.out.1 0 _ rfl
      have p1 := cellOf Xr.out.1 1 _ rfl
      have z0 := frozenOf Xr.out.1 0
      have z1 := frozenOf Xr.out.1 1
      have P1 : Hid _ := p1
      go_wp2_with fail
      go_region
      go_wp2_with fail
      refine bodyPost_ret (v := .tuple #[.pointer (some ⟨rb, 0, none⟩), .agg #[.int .u64 8192, .slice a n c]]) (by simp [results, Try.results10, go_sem, p0, p1]) rfl ⟨_, a, n, c, rfl, ?_, .inr ⟨rb, F, M, rfl, ?_, fun k hk => by have := Xr.out.2.2.2.1 k hk; omega⟩⟩
      · exact ((Xr.out.2.2.2.2.setCell (p := ⟨W.heap.size, 0, none⟩) (Nat.le_refl _) _).setCell (p := ⟨W.heap.size, 1, none⟩) (Nat.le_refl _) _).drew
      · have hB := Xr.out.2.2.1.setBox (b := W.heap.size) (u0 := .int .u64 8192) (u1 := .slice a n c) (fun hf => by have := Xr.out.2.2.2.1 _ hf; omega) P1.out
        have hB2 := hB.below (Below.drew (Below.refl _ _))
        obtain ⟨g1, nb, bs, g2, g3⟩ := hB2
        have := HL.out
        exact ⟨g1.mono (by omega), nb, bs, by omega, g3⟩
    case pos =>
      have hji : (j : Int) < (len : Int) := by omega
      rcases HW.out with ⟨h0, _⟩ | ⟨b, off, cp, hv, hbW, hl9, hc⟩
      · omega
      simp only [Value.slice.injEq] at hv
      obtain ⟨rfl, -, rfl⟩ := hv
      obtain ⟨c1, c2, hin⟩ := hc j hlt
      have HI : Hid (PutD.In (ps j) (fun q => W.heap.size ≤ q) W) := hin
      clear hc hin hl9
      obtain ⟨⟨x, da, dl, dc, f⟩, hps⟩ : ∃ o, ps j = o := ⟨_, rfl⟩
      rw [hps] at HI c1 c2
      simp only at c1 c2
      clear hps
      have HP : Hid (∀ V, Below W.heap.size W V → V.cell? ⟨b, off + j * 2, none⟩ = some (.int .u64 (x : Int)) ∧ V.cell? ⟨b, off + j * 2 + 1, none⟩ = some (.slice da dl dc)) := fun V hV => ⟨(hV.cell (p := ⟨b, off + j * 2, none⟩) hbW).trans c1, (hV.cell (p := ⟨b, off + j * 2 + 1, none⟩) hbW).trans c2⟩
      clear c1 c2
      have e1 := (HP.out wr Xr.out.2.2.2.2).1
      have e2 := (HP.out wr Xr.out.2.2.2.2).2
      by_cases hbig : 200 < dl
      · have hbi : (200 : Int) < (dl : Int) := by omega
        have q0 := cellOf Xr.out.2.1 0 _ rfl
        have q1 := cellOf Xr.out.2.1 1 _ rfl
        have p0 := cellOf Xr.out.1 0 _ rfl
        have p1 := cellOf Xr.out.1 1 _ rfl
        have z0 := frozenOf Xr.out.1 0
        have z1 := frozenOf Xr.out.1 1
        go_wp2_with fail
        go_region
        go_wp2_with fail
        refine bodyPost_ret (v := .tuple #[.pointer none, .agg #[.int .u64 8192, .slice a n c]]) (by simp [results, Try.results10, go_sem, p0, p1]) rfl ⟨_, _, _, _, rfl, ?_, .inl ⟨rfl, by omega⟩⟩
        exact ((Xr.out.2.2.2.2.setCell (p := ⟨W.heap.size, 0, none⟩) (Nat.le_refl _) _).setCell (p := ⟨W.heap.size, 1, none⟩) (Nat.le_refl _) _).drew
      have hbi : ¬ (200 : Int) < (dl : Int) := by omega
      obtain ⟨B, hB⟩ : ∃ B, inB x dl 2147483648 8192 = B := ⟨_, rfl⟩
      have HV : Hid (inB x dl 2147483648 8192 = B) := hB
      clear hB
      go_upto_region 10 with fail
      have Xd : Hid (Mem W wr.drew rb a n c F M j) := Xr.out.step (Below.drew (Below.refl _ _))
      refine wp_region_held_drew (S := fun V => V.cell? ⟨b, off + j * 2, none⟩ = some (.int .u64 (x : Int)) ∧ V.cell? ⟨b, off + j * 2 + 1, none⟩ = some (.slice da dl dc)) (by kernel_rfl) (HP.out _ Xd.out.2.2.2.2) ?_
      intro hS
      refine wpAnyH_take (i := 0) (v := ?_) rfl (by kernel_rfl) (by kernel_rfl) (by kernel_rfl) (fun _ _ _ h => h) (Or.inl ⟨by kernel_rfl, ?_⟩) hS ?_
      rotate_left
      · intro w hSw; (try dsimp only at hSw); go_simp; try (with_reducible rfl)
      (try simp only [Act.put, List.getElem_toArray, List.getElem_cons_succ, List.getElem_cons_zero, List.setIfInBounds_toArray, List.set_cons_zero, List.set_cons_succ])
      refine wpAnyH_take (i := 1) (v := ?_) rfl (by kernel_rfl) (by kernel_rfl) (by kernel_rfl) (fun _ _ _ h => h) (Or.inl ⟨by kernel_rfl, ?_⟩) hS ?_
      rotate_left
      · intro w hSw; (try dsimp only at hSw); go_simp; try (with_reducible rfl)
      (try simp only [Act.put, List.getElem_toArray, List.getElem_cons_succ, List.getElem_cons_zero, List.setIfInBounds_toArray, List.set_cons_zero, List.set_cons_succ])
      refine wpAnyH_take (i := 2) (v := ?_) rfl (by kernel_rfl) (by kernel_rfl) (by kernel_rfl) (fun _ _ _ h => h) (Or.inl ⟨by kernel_rfl, ?_⟩) hS ?_
      rotate_left
      · intro w hSw; (try dsimp only at hSw); go_simp; try (with_reducible rfl)
      (try simp only [Act.put, List.getElem_toArray, List.getElem_cons_succ, List.getElem_cons_zero, List.setIfInBounds_toArray, List.set_cons_zero, List.set_cons_succ])
      refine wpAnyH_take (i := 3) (v := ?_) rfl (by kernel_rfl) (by kernel_rfl) (by kernel_rfl) (fun _ _ _ h => h) (Or.inl ⟨by kernel_rfl, ?_⟩) hS ?_
      rotate_left
      · intro w hSw; (try dsimp only at hSw); go_simp; try (with_reducible rfl)
      (try simp only [Act.put, List.getElem_toArray, List.getElem_cons_succ, List.getElem_cons_zero, List.setIfInBounds_toArray, List.set_cons_zero, List.set_cons_succ])
      refine wpAnyH_take (i := 4) (v := ?_) rfl (by kernel_rfl) (by kernel_rfl) (by kernel_rfl) (fun _ _ _ h => h) (Or.inl ⟨by kernel_rfl, ?_⟩) hS ?_
      rotate_left
      · intro w hSw; (try dsimp only at hSw); go_simp; try (with_reducible rfl)
      (try simp only [Act.put, List.getElem_toArray, List.getElem_cons_succ, List.getElem_cons_zero, List.setIfInBounds_toArray, List.set_cons_zero, List.set_cons_succ])
      refine wpAnyH_take (i := 5) (v := ?_) rfl (by kernel_rfl) (by kernel_rfl) (by kernel_rfl) (fun _ _ _ h => h) (Or.inl ⟨by kernel_rfl, ?_⟩) hS ?_
      rotate_left
      · intro w hSw; (try dsimp only at hSw); go_simp; try (with_reducible rfl)
      (try simp only [Act.put, List.getElem_toArray, List.getElem_cons_succ, List.getElem_cons_zero, List.setIfInBounds_toArray, List.set_cons_zero, List.set_cons_succ])
      refine wpAnyH_take (i := 6) (v := ?_) rfl (by kernel_rfl) (by kernel_rfl) (by kernel_rfl) (fun _ _ _ h => h) (Or.inl ⟨by kernel_rfl, ?_⟩) hS ?_
      rotate_left
      · intro w hSw; (try dsimp only at hSw); go_simp; try (with_reducible rfl)
      (try simp only [Act.put, List.getElem_toArray, List.getElem_cons_succ, List.getElem_cons_zero, List.setIfInBounds_toArray, List.set_cons_zero, List.set_cons_succ])
      refine wpAnyH_take (i := 7) (v := ?_) rfl (by kernel_rfl) (by kernel_rfl) (by kernel_rfl) (fun _ _ _ h => h) (Or.inl ⟨by kernel_rfl, ?_⟩) hS ?_
      rotate_left
      · intro w hSw; (try dsimp only at hSw); go_simp; try (with_reducible rfl)
      (try simp only [Act.put, List.getElem_toArray, List.getElem_cons_succ, List.getElem_cons_zero, List.setIfInBounds_toArray, List.set_cons_zero, List.set_cons_succ])
      refine wpAnyH_take (i := 8) (v := ?_) rfl (by kernel_rfl) (by kernel_rfl) (by kernel_rfl) (fun _ _ _ h => h) (Or.inl ⟨by kernel_rfl, ?_⟩) hS ?_
      rotate_left
      · intro w hSw; (try dsimp only at hSw); go_simp; try (with_reducible rfl)
      (try simp only [Act.put, List.getElem_toArray, List.getElem_cons_succ, List.getElem_cons_zero, List.setIfInBounds_toArray, List.set_cons_zero, List.set_cons_succ])
      refine wpAnyH_take (i := 9) (v := ?_) rfl (by kernel_rfl) (by kernel_rfl) (by kernel_rfl) (fun _ _ _ h => h) (Or.inl ⟨by kernel_rfl, ?_⟩) hS ?_
      rotate_left
      · intro w hSw; (try dsimp only at hSw); go_simp; try (with_reducible rfl)
      (try simp only [Act.put, List.getElem_toArray, List.getElem_cons_succ, List.getElem_cons_zero, List.setIfInBounds_toArray, List.set_cons_zero, List.set_cons_succ])
      refine wpAnyH_take (i := 10) (v := ?_) rfl (by kernel_rfl) (by kernel_rfl) (by kernel_rfl) (fun _ _ _ h => h) (Or.inl ⟨by kernel_rfl, ?_⟩) hS ?_
      rotate_left
      · intro w hSw; (try dsimp only at hSw); go_simp; try (with_reducible rfl)
      (try simp only [Act.put, List.getElem_toArray, List.getElem_cons_succ, List.getElem_cons_zero, List.setIfInBounds_toArray, List.set_cons_zero, List.set_cons_succ])
      refine wpAnyH_ready (rs := [11]) (by kernel_rfl) (by simp) ?_
      refine AllReadyH.cons rfl (fun K1 hK1 => ?_) AllReadyH.nil
      go_simp
      have hin := PutD.In.later (F := F) HI.out Xd.out.2.2.2.2 (fun q hq => by have := Xd.out.2.2.2.1 q hq; omega)
      refine (wr_any Xd.out.2.2.1.1 x dl f (.slice da dl dc) B HV.out hin.1 hin.2.2 (fun i _ => hin.2.1 i) (by have := HL.out; omega)).mono ?_
      clear hin
      rintro e w5 ⟨rfl, F5, h5, hs5⟩
      have X5 : Hid ((w5.heap[W.heap.size]? = some (.cells #[.int .u64 0, .slice none 0 0] 32 (0, 0)) ∧ w5.heap[W.heap.size + 1]? = some (.cells #[.int .u64 8192, .slice a n c] 32 (0, 0)) ∧ (∀ k, F5 k → W.heap.size + 2 ≤ k) ∧ Below W.heap.size W w5) ∧ RamAt w5 F5 rb 8192 (200 * j + dl) (.pointer none) (if B = true then over M x dl f else M) ∧ ∃ nb bs, nb ≤ 200 * j ∧ (∃ a' c', Value.slice a n c = .slice a' nb c') ∧ RefIn F5 w5 (.slice a n c) nb bs ∧ (∀ q, rget bs nb q = M q) ∧ Rng bs nb 8192) := by
        refine ⟨mem_both Xd.out hs5, h5, ?_⟩
        obtain ⟨-, nb, bs, g2, g3, g4, g5⟩ := Xd.out.2.2.1
        exact ⟨nb, bs, g2, g3, g4.step hs5, g5⟩
      clear h5 hs5
      refine hK1.out _ _ (HP.out _ X5.out.1.2.2.2) (fun hS5 => ?_)
      clear hK1 K1 hS
      (try simp only [Act.put, List.getElem_toArray, List.getElem_cons_succ, List.getElem_cons_zero, List.setIfInBounds_toArray, List.set_cons_zero, List.set_cons_succ])
      refine wpAnyH_done (by kernel_rfl) ?_ _
      clear hS5 e1 e2
      go_upto_region 11 with fail
      have e1 := (HP.out w5 X5.out.1.2.2.2).1
      have e2 := (HP.out w5 X5.out.1.2.2.2).2
      obtain ⟨nb, bs, g2, g3, g4, g5⟩ := X5.out.2.2
      have G : Hid (nb ≤ 200 * j ∧ (∃ a' c', Value.slice a n c = .slice a' nb c') ∧ RefIn F5 w5 (.slice a n c) nb bs ∧ (∀ q, rget bs nb q = M q) ∧ Rng bs nb 8192) := ⟨g2, g3, g4, g5⟩
      clear g2 g3 g4 g5
      have hd5 : Below w5.heap.size w5 w5.drew := Below.drew (Below.refl _ _)
      have D5 : Hid ((w5.drew.cell? ⟨b, off + j * 2, none⟩ = some (.int .u64 (x : Int)) ∧ w5.drew.cell? ⟨b, off + j * 2 + 1, none⟩ = some (.slice da dl dc)) ∧ w5.drew.cell? ⟨W.heap.size + 1, 0, none⟩ = some (.int .u64 8192) ∧ w5.drew.cell? ⟨W.heap.size + 1, 1, none⟩ = some (.slice a n c)) := ⟨HP.out _ (X5.out.1.2.2.2.trans (hd5.mono X5.out.1.2.2.2.size)), cellOf (below_box X5.out.1.2.1 hd5) 0 _ rfl, cellOf (below_box X5.out.1.2.1 hd5) 1 _ rfl⟩
      have hin5 := PutD.In.later (F := F5) HI.out (X5.out.1.2.2.2.trans (hd5.mono X5.out.1.2.2.2.size)) (fun q hq => by have := X5.out.1.2.2.1 q hq; omega)
      have HI5 : Hid (x < 18446744073709551616 ∧ Reads .u8 w5.drew (.slice da dl dc) dl f) := ⟨hin5.1, hin5.2.2.reads⟩
      clear hd5 hin5
      have f0 := D5.out.2.1
      have f1 := D5.out.2.2
      refine wp_region_held_drew (S := fun V => V.cell? ⟨b, off + j * 2, none⟩ = some (.int .u64 (x : Int)) ∧ V.cell? ⟨b, off + j * 2 + 1, none⟩ = some (.slice da dl dc)) (by kernel_rfl) D5.out.1 ?_
      intro hS
      refine wpAnyH_take (i := 1) (v := ?_) rfl (by kernel_rfl) (by kernel_rfl) (by kernel_rfl) (fun _ _ _ h => h) (Or.inl ⟨by kernel_rfl, ?_⟩) hS ?_
      rotate_left
      · intro w hSw; (try dsimp only at hSw); go_simp; try (with_reducible rfl)
      (try simp only [Act.put, List.getElem_toArray, List.getElem_cons_succ, List.getElem_cons_zero, List.setIfInBounds_toArray, List.set_cons_zero, List.set_cons_succ])
      refine wpAnyH_take (i := 2) (v := ?_) rfl (by kernel_rfl) (by kernel_rfl) (by kernel_rfl) (fun _ _ _ h => h) (Or.inl ⟨by kernel_rfl, ?_⟩) hS ?_
      rotate_left
      · intro w hSw; (try dsimp only at hSw); go_simp; try (with_reducible rfl)
      (try simp only [Act.put, List.getElem_toArray, List.getElem_cons_succ, List.getElem_cons_zero, List.setIfInBounds_toArray, List.set_cons_zero, List.set_cons_succ])
      refine wpAnyH_take (i := 3) (v := ?_) rfl (by kernel_rfl) (by kernel_rfl) (by kernel_rfl) (fun _ _ _ h => h) (Or.inl ⟨by kernel_rfl, ?_⟩) hS ?_
      rotate_left
      · intro w hSw; (try dsimp only at hSw); go_simp; try (with_reducible rfl)
      (try simp only [Act.put, List.getElem_toArray, List.getElem_cons_succ, List.getElem_cons_zero, List.setIfInBounds_toArray, List.set_cons_zero, List.set_cons_succ])
      refine wpAnyH_take (i := 4) (v := ?_) rfl (by kernel_rfl) (by kernel_rfl) (by kernel_rfl) (fun _ _ _ h => h) (Or.inl ⟨by kernel_rfl, ?_⟩) hS ?_
      rotate_left
      · intro w hSw; (try dsimp only at hSw); go_simp; try (with_reducible rfl)
      (try simp only [Act.put, List.getElem_toArray, List.getElem_cons_succ, List.getElem_cons_zero, List.setIfInBounds_toArray, List.set_cons_zero, List.set_cons_succ])
      refine wpAnyH_take (i := 5) (v := ?_) rfl (by kernel_rfl) (by kernel_rfl) (by kernel_rfl) (fun _ _ _ h => h) (Or.inl ⟨by kernel_rfl, ?_⟩) hS ?_
      rotate_left
      · intro w hSw; (try dsimp only at hSw); go_simp; try (with_reducible rfl)
      (try simp only [Act.put, List.getElem_toArray, List.getElem_cons_succ, List.getElem_cons_zero, List.setIfInBounds_toArray, List.set_cons_zero, List.set_cons_succ])
      refine wpAnyH_take (i := 6) (v := ?_) rfl (by kernel_rfl) (by kernel_rfl) (by kernel_rfl) (fun _ _ _ h => h) (Or.inl ⟨by kernel_rfl, ?_⟩) hS ?_
      rotate_left
      · intro w hSw; (try dsimp only at hSw); go_simp; try (with_reducible rfl)
      (try simp only [Act.put, List.getElem_toArray, List.getElem_cons_succ, List.getElem_cons_zero, List.setIfInBounds_toArray, List.set_cons_zero, List.set_cons_succ])
      refine wpAnyH_take (i := 7) (v := ?_) rfl (by kernel_rfl) (by kernel_rfl) (by kernel_rfl) (fun _ _ _ h => h) (Or.inl ⟨by kernel_rfl, ?_⟩) hS ?_
      rotate_left
      · intro w hSw; (try dsimp only at hSw); go_simp; try (with_reducible rfl)
      (try simp only [Act.put, List.getElem_toArray, List.getElem_cons_succ, List.getElem_cons_zero, List.setIfInBounds_toArray, List.set_cons_zero, List.set_cons_succ])
      refine wpAnyH_take (i := 8) (v := ?_) rfl (by kernel_rfl) (by kernel_rfl) (by kernel_rfl) (fun _ _ _ h => h) (Or.inl ⟨by kernel_rfl, ?_⟩) hS ?_
      rotate_left
      · intro w hSw; (try dsimp only at hSw); go_simp; try (with_reducible rfl)
      (try simp only [Act.put, List.getElem_toArray, List.getElem_cons_succ, List.getElem_cons_zero, List.setIfInBounds_toArray, List.set_cons_zero, List.set_cons_succ])
      refine wpAnyH_take (i := 9) (v := ?_) rfl (by kernel_rfl) (by kernel_rfl) (by kernel_rfl) (fun _ _ _ h => h) (Or.inl ⟨by kernel_rfl, ?_⟩) hS ?_
      rotate_left
      · intro w hSw; (try dsimp only at hSw); go_simp; try (with_reducible rfl)
      (try simp only [Act.put, List.getElem_toArray, List.getElem_cons_succ, List.getElem_cons_zero, List.setIfInBounds_toArray, List.set_cons_zero, List.set_cons_succ])
      refine wpAnyH_take (i := 10) (v := ?_) rfl (by kernel_rfl) (by kernel_rfl) (by kernel_rfl) (fun _ _ _ h => h) (Or.inl ⟨by kernel_rfl, ?_⟩) hS ?_
      rotate_left
      · intro w hSw; (try dsimp only at hSw); go_simp; try (with_reducible rfl)
      (try simp only [Act.put, List.getElem_toArray, List.getElem_cons_succ, List.getElem_cons_zero, List.setIfInBounds_toArray, List.set_cons_zero, List.set_cons_succ])
      refine wpAnyH_ready (rs := [0]) (by kernel_rfl) (by simp) ?_
      refine AllReadyH.cons rfl (fun K1 hK1 => ?_) AllReadyH.nil
      go_simp
      refine hK1.out _ _ D5.out.1 (fun hS0 => ?_)
      clear hK1 K1 hS f0 f1
      (try simp only [Act.put, List.getElem_toArray, List.getElem_cons_succ, List.getElem_cons_zero, List.setIfInBounds_toArray, List.set_cons_zero, List.set_cons_succ])
      refine wpAnyH_ready (rs := [11]) (by kernel_rfl) (by simp) ?_
      refine AllReadyH.cons rfl (fun K1 hK1 => ?_) AllReadyH.nil
      go_simp
      refine (rwr_any F5 _ x dl (.slice a n c) (.slice da dl dc) nb bs f B HV.out (G.out.2.2.1.below (Below.drew (Below.refl _ _))) HI5.out.2 (fun k hk => X5.out.2.1.lt k hk) (by have := HL.out; have := G.out.1; omega) HI5.out.1 (by omega)).mono ?_
      rintro e w6 ⟨a6, n6, c6, bs6, rfl, hn6, hr6, he6, hb6⟩
      have hb6' : Below w5.heap.size w5 w6 := (Below.drew (Below.refl _ _)).trans hb6
      have X6 : Hid ((w6.heap[W.heap.size]? = some (.cells #[.int .u64 0, .slice none 0 0] 32 (0, 0)) ∧ w6.heap[W.heap.size + 1]? = some (.cells #[.int .u64 8192, .slice a n c] 32 (0, 0)) ∧ (∀ k, F5 k → W.heap.size + 2 ≤ k) ∧ Below W.heap.size W w6) ∧ Both F5 w6 rb 8192 (.slice a6 n6 c6) (200 * (j + 1)) (if B = true then over M x dl f else M)) := by
        refine ⟨⟨below_box X5.out.1.1 hb6', below_box X5.out.1.2.1 hb6', X5.out.1.2.2.1, X5.out.1.2.2.2.trans (hb6'.mono X5.out.1.2.2.2.size)⟩, (X5.out.2.1.below hb6').mono (by omega), n6, bs6, by have := G.out.1; omega, ⟨a6, c6, rfl⟩, hr6, fun q => ?_, he6.2 G.out.2.2.2.2⟩
        rw [he6.1 q]
        split
        · exact over_congr _ _ _ G.out.2.2.2.1 q
        · exact G.out.2.2.2.1 q
      clear hb6 hb6' he6 hr6
      refine hK1.out _ _ (HP.out _ X6.out.1.2.2.2) (fun hS6 => ?_)
      clear hK1 K1 hS0
      (try simp only [Act.put, List.getElem_toArray, List.getElem_cons_succ, List.getElem_cons_zero, List.setIfInBounds_toArray, List.set_cons_zero, List.set_cons_succ])
      refine wpAnyH_take (i := 12) (v := ?_) rfl (by kernel_rfl) (by kernel_rfl) (by kernel_rfl) (fun _ _ _ h => h) (Or.inl ⟨by kernel_rfl, ?_⟩) hS6 ?_
      rotate_left
      · intro w hSw; (try dsimp only at hSw); go_simp; try (with_reducible rfl)
      (try simp only [Act.put, List.getElem_toArray, List.getElem_cons_succ, List.getElem_cons_zero, List.setIfInBounds_toArray, List.set_cons_zero, List.set_cons_succ])
      refine wpAnyH_take (i := 13) (v := ?_) rfl (by kernel_rfl) (by kernel_rfl) (by kernel_rfl) (fun _ _ _ h => h) (Or.inl ⟨by kernel_rfl, ?_⟩) hS6 ?_
      rotate_left
      · intro w hSw; (try dsimp only at hSw); go_simp; try (with_reducible rfl)
      (try simp only [Act.put, List.getElem_toArray, List.getElem_cons_succ, List.getElem_cons_zero, List.setIfInBounds_toArray, List.set_cons_zero, List.set_cons_succ])
      refine wpAnyH_take (i := 14) (v := ?_) rfl (by kernel_rfl) (by kernel_rfl) (by kernel_rfl) (fun _ _ _ h => h) (Or.inl ⟨by kernel_rfl, ?_⟩) hS6 ?_
      rotate_left
      · intro w hSw; (try dsimp only at hSw); go_simp; try (with_reducible rfl)
      (try simp only [Act.put, List.getElem_toArray, List.getElem_cons_succ, List.getElem_cons_zero, List.setIfInBounds_toArray, List.set_cons_zero, List.set_cons_succ])
      have a0 := cellOf X6.out.1.2.1 0 _ rfl
      have a1 := cellOf X6.out.1.2.1 1 _ rfl
      have z0 := frozenOf X6.out.1.2.1 0
      have z1 := frozenOf X6.out.1.2.1 1
      refine wpAnyH_ready (rs := [15]) (by kernel_rfl) (by simp) ?_
      refine AllReadyH.cons rfl (fun K1 hK1 => ?_) AllReadyH.nil
      go_simp
      have X7 : Hid (Mem W ((w6.setCell ⟨W.heap.size + 1, 0, none⟩ (.int .u64 8192)).setCell ⟨W.heap.size + 1, 1, none⟩ (.slice a6 n6 c6)) rb a6 n6 c6 F5 (if B = true then over M x dl f else M) (j + 1)) :=
        ⟨box_other X6.out.1.1 (by omega), box_set X6.out.1.2.1, X6.out.2.setBox (fun hf => by have := X6.out.1.2.2.1 _ hf; omega) (cellOf X6.out.1.2.1 1 _ rfl), X6.out.1.2.2.1, (X6.out.1.2.2.2.setCell (p := ⟨W.heap.size + 1, 0, none⟩) (by show W.heap.size ≤ W.heap.size + 1; omega) _).setCell (p := ⟨W.heap.size + 1, 1, none⟩) (by show W.heap.size ≤ W.heap.size + 1; omega) _⟩
      refine hK1.out _ ((w6.setCell ⟨W.heap.size + 1, 0, none⟩ (.int .u64 8192)).setCell ⟨W.heap.size + 1, 1, none⟩ (.slice a6 n6 c6)) (HP.out _ X7.out.2.2.2.2) (fun hS7 => ?_)
      clear hK1 K1 hS6 a0 a1 z0 z1 e1 e2
      (try simp only [Act.put, List.getElem_toArray, List.getElem_cons_succ, List.getElem_cons_zero, List.setIfInBounds_toArray, List.set_cons_zero, List.set_cons_succ])
      refine wpAnyH_done (by kernel_rfl) ?_ _
      clear hS7
      go_wp2_with fail
      go_roundw
      case rel => exact ⟨j + 1, a6, n6, c6, F5, _, by omega, by go_num, X7.out⟩
      case measure => simp [intOf]; omega
theorem memory_any (v : Value) (len : Nat) (ps : Nat → PutD) (W : World) (hws : PutsIn W v len ps) : Calls Try.prog 10 #[v] W fun e w' => ∃ pv a n c, e = .returned (.tuple #[pv, .agg #[.int .u64 8192, .slice a n c]]) ∧ Below W.heap.size W w' ∧ ((pv = .pointer none ∧ 0 < len) ∨ ∃ rb F M, pv = .pointer (some ⟨rb, 0, none⟩) ∧ Both F w' rb 8192 (.slice a n c) 12000 M ∧ (∀ k, F k → W.heap.size ≤ k)) := by
  obtain ⟨a, c, rfl⟩ : ∃ a c, v = .slice a len c := by
    rcases hws with ⟨rfl, a, c, rfl⟩ | ⟨b, off, cap, rfl, _⟩
    · exact ⟨_, _, rfl⟩
    · exact ⟨_, _, rfl⟩
  by_cases h : len ≤ 60
  · exact memory_short a len c ps h W hws
  · exact memory_long a len c (by omega) W
end Go.Proofs.Ytlkhjekakbckmaa

/- The bytes of a descriptor on both sides; RingBytes. -/
namespace Go.Proofs.Ytlkhjekakbckmaa
open Go.RowKit Go.Maps
set_option linter.unusedVariables false
set_option linter.unusedSimpArgs false
set_option maxRecDepth 100000
theorem own_below {B : Nat} {e : TypeId} {k : Nat} {v : Value} {n : Nat} {xs : List Value} {w w' : World} (h : w.ownsRow B e k v n xs) (hb : Below w.heap.size w w') : w'.ownsRow B e k v n xs :=
  h.kept (row := none) ⟨hb.os, hb.tape, hb.output, hb.size, fun k hk _ => hb.block k hk⟩ (by cases v.ownBlock <;> simp)
theorem own_low {B B2 : Nat} {e : TypeId} {k : Nat} {v : Value} {n : Nat} {xs : List Value} {w : World} (h : w.ownsRow B e k v n xs) (hb : B2 ≤ B) : w.ownsRow B2 e k v n xs := by
  refine ⟨h.1, ?_⟩
  rcases h.2 with h | ⟨g, cap, cur, h1, h2, h3⟩
  · exact .inl h
  · exact .inr ⟨g, cap, cur, h1, Nat.le_trans hb h2, h3⟩
theorem below_to {w w1 w2 : World} (h1 : Below w.heap.size w w1) (h2 : Below w1.heap.size w1 w2) : Below w.heap.size w w2 := h1.trans (h2.mono h1.size)
/-- one row behind another -/
def catF (f : Nat → Nat) (n : Nat) (g : Nat → Nat) (i : Nat) : Nat := if i < n then f i else g (i - n)
theorem rowK_cat (k : IntKind) (f g : Nat → Nat) (n : Nat) : ∀ L, rowK k f n ++ rowK k g L = rowK k (catF f n g) (n + L)
  | 0 => by
    rw [show rowK k g 0 = [] from rfl, List.append_nil, Nat.add_zero]
    exact rowK_congr k f _ n (fun i hi => by unfold catF; rw [if_pos hi])
  | L + 1 => by
    rw [rowK_succ, ← List.append_assoc, rowK_cat k f g n L, show n + (L + 1) = n + L + 1 from rfl, rowK_succ]
    unfold catF
    rw [if_neg (by omega), show n + L - n = L from by omega]
theorem wpList_append_more {w : World} {ops : Array Oper} {rest : List Oper} {o : Oper} {a : Act} {Q : Exit → Act → World → Prop} (hgd : o.guard = none) (s x : Operand) (ho : o.op = .call { callee := .builtin .append, args := #[s, x], argTypes := #[22, 22] })
    (B n : Nat) (f : Nat → Nat) (v : Value) (hs : a.eval s = v) (hown : w.ownsRow B 5 1 v n (rowK .u8 f n)) (v2 : Value) (hx : a.eval x = v2) (L : Nat) (f2 : Nat → Nat) (hr : Reads .u8 w v2 L f2) (h0 : 0 < L) (hL : n + L ≤ 1000) (hB : B ≤ w.heap.size)
    (h : ∀ g' cap w', w'.ownsRow B 5 1 (.slice (some ⟨g', 0, none⟩) (n + L) cap) (n + L) (rowK .u8 (catF f n f2) (n + L)) → Below B w w' → wpList Try.prog ops Q rest (a.put o.dst (.slice (some ⟨g', 0, none⟩) (n + L) cap)) w') : wpList Try.prog ops Q (o :: rest) a w := by
  obtain ⟨i0, hi, hz0, hz1, hz2⟩ := info_parts Try.info5
  rcases hr with ⟨rfl, ax, c, rfl⟩ | ⟨b, off, c, rfl, hc⟩
  · omega
  · refine wpList_append_own w hgd s x 22 ho B 5 i0 (.int .u8 0) 1 1 Try.underlying22 hi hz0 hz1 hz2 rfl (by decide) _ n (rowK .u8 f n) hs hown ⟨b, off, none⟩ L c (rowK .u8 f2 L) hx (by rw [rowK_length]; omega) (fun j u hu => by obtain ⟨h1, rfl⟩ := rowK_at _ _ _ _ _ hu; rw [addr_add]; exact hc j h1) (rowK_one _ _ _) (by unfold maxLen; omega) (by omega) hB ?_
    intro v' w' hown' hgrow hnil
    rw [rowK_cat] at hown'
    have hlow : ∀ g, v.ownBlock = some g → B ≤ g := fun g hg => (hown.lt g hg).1
    rcases hown'.2 with ⟨rfl, _⟩ | ⟨g', cap, cur, rfl, hb', _⟩
    · have := hnil.1 rfl; omega
    · exact h g' cap w' hown' (Below.grown (Below.refl _ _) hgrow hB hlow)
/-- the bytes of a descriptor -/
def dB (ad ln fl nx : Nat) : Nat → Nat := catF (catF (catF (byteAt ad) 8 (byteAt ln)) 12 (byteAt fl)) 14 (byteAt nx)
theorem own_form {B n : Nat} {v : Value} {w : World} {xs : List Value} (h : w.ownsRow B 5 1 v n xs) : ∃ a c, v = .slice a n c := by
  rcases h.2 with ⟨rfl, rfl, _⟩ | ⟨g, cap, cur, rfl, _⟩
  · exact ⟨_, _, rfl⟩
  · exact ⟨_, _, rfl⟩
theorem rbytes_desc (ad ln fl nx : Nat) (had : ad < 18446744073709551616) (hln : ln ≤ 4294967295) (hfl : fl ≤ 65535) (hnx : nx ≤ 65535) (w : World) :
    Calls Try.prog 31 #[.agg #[.int .u64 (ad : Int), .int .u32 (ln : Int), .int .u16 (fl : Int), .int .u16 (nx : Int)]] w fun e w' => ∃ g c, e = .returned (.slice (some ⟨g, 0, none⟩) 16 c) ∧ w'.ownsRow w.heap.size 5 1 (.slice (some ⟨g, 0, none⟩) 16 c) 16 (rowK .u8 (dB ad ln fl nx) 16) ∧ Below w.heap.size w w' := by
  have e1 : IntKind.u64.wrap (ln : Int) = (ln : Int) := by rw [wrap_u64]; omega
  have e2 : IntKind.u64.wrap (fl : Int) = (fl : Int) := by rw [wrap_u64]; omega
  have e3 : IntKind.u64.wrap (nx : Int) = (nx : Int) := by rw [wrap_u64]; omega
  have H : Hid (ad < 18446744073709551616 ∧ ln < 18446744073709551616 ∧ fl < 18446744073709551616 ∧ nx < 18446744073709551616) := ⟨had, by omega, by omega, by omega⟩
  clear had hln hfl hnx
  have B0 : Hid ((w.alloc (.cells #[.int .u64 (ad : Int), .int .u32 (ln : Int), .int .u16 (fl : Int), .int .u16 (nx : Int)] 94)).heap[w.heap.size]? = some (.cells #[.int .u64 (ad : Int), .int .u32 (ln : Int), .int .u16 (fl : Int), .int .u16 (nx : Int)] 94 (0, 0)) ∧ Below w.heap.size w (w.alloc (.cells #[.int .u64 (ad : Int), .int .u32 (ln : Int), .int .u16 (fl : Int), .int .u16 (nx : Int)] 94))) := ⟨heap_alloc_new _ _, (Below.refl _ _).alloc (Nat.le_refl _) _⟩
  go_enter Try.func31, Try.ntmps31
  go_upto_region 1 with fail
  generalize w.alloc (.cells #[.int .u64 (ad : Int), .int .u32 (ln : Int), .int .u16 (fl : Int), .int .u16 (nx : Int)] 94) = w0 at *
  obtain ⟨c0, c1, c2, c3⟩ := box4_facts B0.out.1
  go_wp2_with fail
  refine (rbytes_any ad 8 8 H.out.1 (by decide) _).mono ?_
  rintro e w1 ⟨v1, rfl, ho1, hb1⟩
  have Y1 : Hid (w1.heap[w.heap.size]? = some (.cells #[.int .u64 (ad : Int), .int .u32 (ln : Int), .int .u16 (fl : Int), .int .u16 (nx : Int)] 94 (0, 0)) ∧ Below w.heap.size w w1 ∧ w1.ownsRow (w.heap.size + 1) 5 1 v1 8 (rowK .u8 (byteAt ad) 8)) := ⟨below_box B0.out.1 hb1, B0.out.2.trans (hb1.mono B0.out.2.size), own_low ho1 (Array.getElem?_eq_some_iff.1 B0.out.1).1⟩
  clear ho1 hb1 B0 c0 c1 c2 c3
  obtain ⟨a1, k1, hv1⟩ := own_form Y1.out.2.2
  subst hv1
  obtain ⟨c0, c1, c2, c3⟩ := box4_facts Y1.out.1
  go_wp2_with fail
  refine (rbytes_any ln 4 4 H.out.2.1 (by decide) _).mono ?_
  rintro e w2 ⟨v2, rfl, ho, hb⟩
  have Y2 : Hid (w2.heap[w.heap.size]? = some (.cells #[.int .u64 (ad : Int), .int .u32 (ln : Int), .int .u16 (fl : Int), .int .u16 (nx : Int)] 94 (0, 0)) ∧ Below w.heap.size w w2 ∧ w2.ownsRow (w.heap.size + 1) 5 1 (.slice a1 8 k1) 8 (rowK .u8 (byteAt ad) 8) ∧ Reads .u8 w2 v2 4 (byteAt ln)) := ⟨below_box Y1.out.1 hb, Y1.out.2.1.trans (hb.mono Y1.out.2.1.size), own_below Y1.out.2.2 hb, reads_own ho⟩
  clear ho hb Y1 c0 c1 c2 c3
  obtain ⟨a2, k2, hv⟩ := reads_form Y2.out.2.2.2
  subst hv
  go_wp2_with (first | (at_builtin; refine wpList_append_more rfl _ _ rfl (w.heap.size + 1) 8 (byteAt ad) (.slice a1 8 k1) rfl Y2.out.2.2.1 (.slice a2 4 k2) rfl 4 (byteAt ln) Y2.out.2.2.2 (by decide) (by decide) (Array.getElem?_eq_some_iff.1 Y2.out.1).1 ?_; intro g2 q2 w3 ho hb; have Y3 : Hid (w3.heap[w.heap.size]? = some (.cells #[.int .u64 (ad : Int), .int .u32 (ln : Int), .int .u16 (fl : Int), .int .u16 (nx : Int)] 94 (0, 0)) ∧ Below w.heap.size w w3 ∧ w3.ownsRow (w.heap.size + 1) 5 1 (.slice (some ⟨g2, 0, none⟩) 12 q2) 12 (rowK .u8 (catF (byteAt ad) 8 (byteAt ln)) 12)) := ⟨(hb.block _ (Nat.lt_succ_self _)).trans Y2.out.1, Y2.out.2.1.trans (hb.mono (Nat.le_succ _)), ho⟩; clear ho hb Y2; obtain ⟨c0, c1, c2, c3⟩ := box4_facts Y3.out.1))
  refine (rbytes_any fl 2 2 H.out.2.2.1 (by decide) _).mono ?_
  rintro e w4 ⟨v4, rfl, ho, hb⟩
  have Y4 : Hid (w4.heap[w.heap.size]? = some (.cells #[.int .u64 (ad : Int), .int .u32 (ln : Int), .int .u16 (fl : Int), .int .u16 (nx : Int)] 94 (0, 0)) ∧ Below w.heap.size w w4 ∧ w4.ownsRow (w.heap.size + 1) 5 1 (.slice (some ⟨g2, 0, none⟩) 12 q2) 12 (rowK .u8 (catF (byteAt ad) 8 (byteAt ln)) 12) ∧ Reads .u8 w4 v4 2 (byteAt fl)) := ⟨below_box Y3.out.1 hb, Y3.out.2.1.trans (hb.mono Y3.out.2.1.size), own_below Y3.out.2.2 hb, reads_own ho⟩
  clear ho hb Y3 c0 c1 c2 c3
  obtain ⟨a4, k4, hv⟩ := reads_form Y4.out.2.2.2
  subst hv
  go_wp2_with (first | (at_builtin; refine wpList_append_more rfl _ _ rfl (w.heap.size + 1) 12 (catF (byteAt ad) 8 (byteAt ln)) (.slice (some ⟨g2, 0, none⟩) 12 q2) rfl Y4.out.2.2.1 (.slice a4 2 k4) rfl 2 (byteAt fl) Y4.out.2.2.2 (by decide) (by decide) (Array.getElem?_eq_some_iff.1 Y4.out.1).1 ?_; intro g4 q4 w5 ho hb; have Y5 : Hid (w5.heap[w.heap.size]? = some (.cells #[.int .u64 (ad : Int), .int .u32 (ln : Int), .int .u16 (fl : Int), .int .u16 (nx : Int)] 94 (0, 0)) ∧ Below w.heap.size w w5 ∧ w5.ownsRow (w.heap.size + 1) 5 1 (.slice (some ⟨g4, 0, none⟩) 14 q4) 14 (rowK .u8 (catF (catF (byteAt ad) 8 (byteAt ln)) 12 (byteAt fl)) 14)) := ⟨(hb.block _ (Nat.lt_succ_self _)).trans Y4.out.1, Y4.out.2.1.trans (hb.mono (Nat.le_succ _)), ho⟩; clear ho hb Y4; obtain ⟨c0, c1, c2, c3⟩ := box4_facts Y5.out.1))
  refine (rbytes_any nx 2 2 H.out.2.2.2 (by decide) _).mono ?_
  rintro e w6 ⟨v6, rfl, ho, hb⟩
  have Y6 : Hid (w6.heap[w.heap.size]? = some (.cells #[.int .u64 (ad : Int), .int .u32 (ln : Int), .int .u16 (fl : Int), .int .u16 (nx : Int)] 94 (0, 0)) ∧ Below w.heap.size w w6 ∧ w6.ownsRow (w.heap.size + 1) 5 1 (.slice (some ⟨g4, 0, none⟩) 14 q4) 14 (rowK .u8 (catF (catF (byteAt ad) 8 (byteAt ln)) 12 (byteAt fl)) 14) ∧ Reads .u8 w6 v6 2 (byteAt nx)) := ⟨below_box Y5.out.1 hb, Y5.out.2.1.trans (hb.mono Y5.out.2.1.size), own_below Y5.out.2.2 hb, reads_own ho⟩
  clear ho hb Y5 c0 c1 c2 c3
  obtain ⟨a6, k6, hv⟩ := reads_form Y6.out.2.2.2
  subst hv
  go_wp2_with (first | (at_builtin; refine wpList_append_more rfl _ _ rfl (w.heap.size + 1) 14 (catF (catF (byteAt ad) 8 (byteAt ln)) 12 (byteAt fl)) (.slice (some ⟨g4, 0, none⟩) 14 q4) rfl Y6.out.2.2.1 (.slice a6 2 k6) rfl 2 (byteAt nx) Y6.out.2.2.2 (by decide) (by decide) (Array.getElem?_eq_some_iff.1 Y6.out.1).1 ?_; intro g6 q6 w7 ho hb))
  go_ret
  exact ⟨_, _, rfl, own_low ho (Nat.le_succ _), Y6.out.2.1.trans (hb.mono (Nat.le_succ _))⟩
end Go.Proofs.Ytlkhjekakbckmaa

/- The document's Word; Desc on both sides. -/
namespace Go.Proofs.Ytlkhjekakbckmaa
open Go.RowKit Go.Maps
set_option linter.unusedVariables false
set_option linter.unusedSimpArgs false
set_option maxRecDepth 100000
/-- the word of L bytes at a place, 0 of none -/
def wordN (M : Nat → Nat) (x L s : Nat) : Nat := if inB x L 2147483648 s = true then h256 (fun i => M (x + i)) L 0 else 0
theorem wordN_lt {M : Nat → Nat} (hM : ∀ a, M a ≤ 255) (x L s : Nat) : wordN M x L s < 256 ^ L := by
  unfold wordN
  split
  · exact h256_lt _ L 0 (fun j _ => hM _)
  · exact Nat.pow_pos (by decide)
theorem reads_cut {w : World} {g n N c : Nat} {f : Nat → Nat} (h : Reads .u8 w (.slice (some ⟨g, 0, none⟩) N c) N f) (o cc : Nat) (ho : o + n ≤ N) : Reads .u8 w (.slice (some ⟨g, o, none⟩) n cc) n (fun i => f (o + i)) := by
  by_cases hn : n = 0
  · subst hn; exact .inl ⟨rfl, _, _, rfl⟩
  · obtain ⟨b, off, cap, hv, hc⟩ := reads_some h (by omega)
    simp only [Value.slice.injEq, Option.some.injEq, Addr.mk.injEq, and_true, true_and] at hv
    obtain ⟨⟨rfl, rfl⟩, rfl⟩ := hv
    refine .inr ⟨g, o, cc, rfl, fun i hi => ?_⟩
    have := hc (o + i) (by omega)
    rwa [Nat.zero_add] at this
theorem byteAt_h256 (f : Nat → Nat) (hf : ∀ j, f j ≤ 255) : ∀ (m k i : Nat), i < m → byteAt (h256 f m k) i = f (k + i)
  | 0, k, i, h => by omega
  | m + 1, k, 0, _ => by
    have := hf k
    simp only [byteAt, h256, Nat.pow_zero, Nat.div_one, Nat.add_zero]
    omega
  | m + 1, k, i + 1, h => by
    have h1 := byteAt_h256 f hf m (k + 1) i (by omega)
    have := hf k
    rw [show k + (i + 1) = k + 1 + i from by omega, ← h1]
    simp only [byteAt, h256]
    rw [Nat.pow_succ, Nat.mul_comm (256 ^ i) 256, ← Nat.div_div_eq_div_mul]
    rw [show (h256 f m (k + 1) * 256 + f k) / 256 = h256 f m (k + 1) from by omega]
/-- a descriptor that lies at a place -/
structure DescAt (M : Nat → Nat) (x v0 v1 v2 v3 : Nat) : Prop where
  e0 : h256 (fun i => M (x + i)) 8 0 = v0
  e1 : h256 (fun i => M (x + (8 + i))) 4 0 = v1
  e2 : h256 (fun i => M (x + (12 + i))) 2 0 = v2
  e3 : h256 (fun i => M (x + (14 + i))) 2 0 = v3
theorem DescAt.lt {M : Nat → Nat} {x v0 v1 v2 v3 : Nat} (h : DescAt M x v0 v1 v2 v3) (hM : ∀ a, M a ≤ 255) : v0 < 18446744073709551616 ∧ v1 ≤ 4294967295 ∧ v2 ≤ 65535 ∧ v3 ≤ 65535 := by
  have h0 := h256_lt (fun i => M (x + i)) 8 0 (fun j _ => hM _)
  have h1 := h256_lt (fun i => M (x + (8 + i))) 4 0 (fun j _ => hM _)
  have h2 := h256_lt (fun i => M (x + (12 + i))) 2 0 (fun j _ => hM _)
  have h3 := h256_lt (fun i => M (x + (14 + i))) 2 0 (fun j _ => hM _)
  rw [h.e0] at h0
  rw [h.e1] at h1
  rw [h.e2] at h2
  rw [h.e3] at h3
  exact ⟨by omega, by omega, by omega, by omega⟩
theorem DescAt.bytes {M : Nat → Nat} {x v0 v1 v2 v3 : Nat} (h : DescAt M x v0 v1 v2 v3) (hM : ∀ a, M a ≤ 255) : ∀ i, i < 16 → dB v0 v1 v2 v3 i = M (x + i) := by
  intro i hi
  unfold dB catF
  split
  · split
    · split
      · rw [← h.e0, byteAt_h256 _ (fun _ => hM _) 8 0 i (by omega)]; simp
      · rw [← h.e1, byteAt_h256 _ (fun _ => hM _) 4 0 _ (by omega)]; congr 1; omega
    · rw [← h.e2, byteAt_h256 _ (fun _ => hM _) 2 0 _ (by omega)]; congr 1; omega
  · rw [← h.e3, byteAt_h256 _ (fun _ => hM _) 2 0 _ (by omega)]; congr 1; omega
theorem info47 : (Try.prog.info? 94).map (·.size) = some 4 := by kernel_rfl
theorem desc_no (p : Value) (t : Nat) (i : Int) (hi : i < 0 ∨ 255 < i) (w : World) : Calls Try.prog 164 #[p, .int .u64 (t : Nat), .int .i64 i] w fun e w' => e = .returned (.tuple #[.agg #[.int .u64 0, .int .u32 0, .int .u16 0, .int .u16 0], .bool false]) ∧ Below w.heap.size w w' := by
  rcases hi with hi | hi
  · go_enter Try.func164, Try.ntmps164
    go_wp2_with fail
    refine bodyPost_ret (v := .tuple #[.agg #[.int .u64 0, .int .u32 0, .int .u16 0, .int .u16 0], .bool false]) (by simp [results, Try.results164, go_sem]) rfl ⟨rfl, ?_⟩
    exact (Below.refl _ _).alloc (Nat.le_refl _) _
  · have h0 : ¬ i < 0 := by omega
    have h1 : (256 : Int) ≤ i := by omega
    go_enter Try.func164, Try.ntmps164
    go_wp2_with fail
    refine bodyPost_ret (v := .tuple #[.agg #[.int .u64 0, .int .u32 0, .int .u16 0, .int .u16 0], .bool false]) (by simp [results, Try.results164, go_sem]) rfl ⟨rfl, ?_⟩
    exact (Below.refl _ _).alloc (Nat.le_refl _) _
theorem desc_out {w : World} {F : Nat → Prop} {rb n : Nat} {M : Nat → Nat} (h : RamAt w F rb 8192 n (.pointer none) M) (t x k : Nat) (hk : k ≤ 255) (hx : x = (t + 16 * k) % 18446744073709551616) (hin : inB x 16 2147483648 8192 = false) : Calls Try.prog 164 #[.pointer (some ⟨rb, 0, none⟩), .int .u64 (t : Nat), .int .i64 (k : Int)] w fun e w' => e = .returned (.tuple #[.agg #[.int .u64 0, .int .u32 0, .int .u16 0, .int .u16 0], .bool false]) ∧ Below w.heap.size w w' := by
  have h1 : ¬ (256 : Int) ≤ (k : Int) := by omega
  have h2 : ¬ (k : Int) < 0 := by omega
  have h3 : IntKind.u64.wrap (k : Int) = (k : Int) := by rw [wrap_u64]; omega
  have h4 : IntKind.u64.wrap (16 * (k : Int)) = 16 * (k : Int) := by rw [wrap_u64]; omega
  have h5 : IntKind.u64.wrap ((t : Int) + 16 * (k : Int)) = (x : Int) := by rw [wrap_u64]; omega
  have HX : Hid (x < 18446744073709551616 ∧ inB x 16 2147483648 8192 = false) := ⟨by omega, hin⟩
  have HR : Hid (RamAt (w.alloc (.cells #[.int .u64 0, .int .u32 0, .int .u16 0, .int .u16 0] 94)) F rb 8192 n (.pointer none) M) := h.below ((Below.refl _ _).alloc (Nat.le_refl _) _)
  clear hx hin
  go_enter Try.func164, Try.ntmps164
  go_wp2_with fail
  refine (read_out HR.out (by omega) x 16 HX.out.1 (by omega) HX.out.2).mono ?_
  rintro e w1 ⟨rfl, hw⟩
  rw [hw]
  clear hw w1
  go_wp2_with fail
  refine bodyPost_ret (v := .tuple #[.agg #[.int .u64 0, .int .u32 0, .int .u16 0, .int .u16 0], .bool false]) (by simp [results, Try.results164, go_sem]) rfl ⟨rfl, ?_⟩
  exact (Below.refl _ _).alloc (Nat.le_refl _) _
theorem reads_head {w : World} {g N c : Nat} {f : Nat → Nat} (h : Reads .u8 w (.slice (some ⟨g, 0, none⟩) N c) N f) (n cc : Nat) (ho : n ≤ N) : Reads .u8 w (.slice (some ⟨g, 0, none⟩) n cc) n f := by
  have := reads_cut (n := n) h 0 cc (by omega)
  have e : (fun i => f (0 + i)) = f := funext fun i => by rw [Nat.zero_add]
  rwa [e] at this
set_option maxHeartbeats 1000000 in
theorem desc_in {w : World} {F : Nat → Prop} {rb n : Nat} {M : Nat → Nat} (h : RamAt w F rb 8192 n (.pointer none) M) (t x k : Nat) (hk : k ≤ 255) (hx : x = (t + 16 * k) % 18446744073709551616) (hin : inB x 16 2147483648 8192 = true) (v0 v1 v2 v3 : Nat) (hd : DescAt M x v0 v1 v2 v3) : Calls Try.prog 164 #[.pointer (some ⟨rb, 0, none⟩), .int .u64 (t : Nat), .int .i64 (k : Int)] w fun e w' => e = .returned (.tuple #[.agg #[.int .u64 (v0 : Int), .int .u32 (v1 : Int), .int .u16 (v2 : Int), .int .u16 (v3 : Int)], .bool true]) ∧ Below w.heap.size w w' := by
  have h1 : ¬ (256 : Int) ≤ (k : Int) := by omega
  have h2 : ¬ (k : Int) < 0 := by omega
  have h3 : IntKind.u64.wrap (k : Int) = (k : Int) := by rw [wrap_u64]; omega
  have h4 : IntKind.u64.wrap (16 * (k : Int)) = 16 * (k : Int) := by rw [wrap_u64]; omega
  have h5 : IntKind.u64.wrap ((t : Int) + 16 * (k : Int)) = (x : Int) := by rw [wrap_u64]; omega
  have HX : Hid (x < 18446744073709551616 ∧ inB x 16 2147483648 8192 = true) := ⟨by omega, hin⟩
  have HR : Hid (RamAt (w.alloc (.cells #[.int .u64 0, .int .u32 0, .int .u16 0, .int .u16 0] 94)) F rb 8192 n (.pointer none) M ∧ (w.alloc (.cells #[.int .u64 0, .int .u32 0, .int .u16 0, .int .u16 0] 94)).heap[w.heap.size]? = some (.cells #[.int .u64 0, .int .u32 0, .int .u16 0, .int .u16 0] 94 (0, 0)) ∧ Below w.heap.size w (w.alloc (.cells #[.int .u64 0, .int .u32 0, .int .u16 0, .int .u16 0] 94))) := ⟨h.below ((Below.refl _ _).alloc (Nat.le_refl _) _), heap_alloc_new _ _, (Below.refl _ _).alloc (Nat.le_refl _) _⟩
  have HM : Hid (∀ a, M a ≤ 255) := h.le
  have HD : Hid (DescAt M x v0 v1 v2 v3) := hd
  have hlt := hd.lt h.le
  have u1 : IntKind.u32.wrap (v1 : Int) = (v1 : Int) := by simp [IntKind.wrap, IntKind.signed, IntKind.bits]; omega
  have u2 : IntKind.u16.wrap (v2 : Int) = (v2 : Int) := by rw [wrap16]; omega
  have u3 : IntKind.u16.wrap (v3 : Int) = (v3 : Int) := by rw [wrap16]; omega
  clear hx hin hlt hd h
  go_enter Try.func164, Try.ntmps164
  go_upto_region 3 with fail
  generalize (w.alloc (.cells #[.int .u64 0, .int .u32 0, .int .u16 0, .int .u16 0] 94)) = w0 at *
  go_wp2_with fail
  refine (read_in HR.out.1 (by omega) x 16 HX.out.1 (by omega) HX.out.2).mono ?_
  rintro e w1 ⟨rfl, ho, hb1⟩
  have X1 : Hid (w1.heap[w.heap.size]? = some (.cells #[.int .u64 0, .int .u32 0, .int .u16 0, .int .u16 0] 94 (0, 0)) ∧ Below w.heap.size w w1 ∧ Reads .u8 w1 (.slice (some ⟨w0.heap.size, 0, none⟩) 16 16) 16 (fun i => M (x + i))) := ⟨below_box HR.out.2.1 hb1, below_to HR.out.2.2 hb1, reads_own ho⟩
  clear ho hb1 HR
  generalize w0.heap.size = g at *
  go_upto_region 6 with fail
  have X2 : Hid (w1.drew.heap[w.heap.size]? = some (.cells #[.int .u64 0, .int .u32 0, .int .u16 0, .int .u16 0] 94 (0, 0)) ∧ Below w.heap.size w w1.drew ∧ Reads .u8 w1.drew (.slice (some ⟨g, 0, none⟩) 16 16) 16 (fun i => M (x + i))) := ⟨X1.out.1, X1.out.2.1.drew, reads_below X1.out.2.2 (Below.drew (Below.refl _ _))⟩
  clear X1
  refine wp_region_held_drew (S := fun _ => True) (by kernel_rfl) trivial ?_
  intro hS
  generalize w1.drew = w2 at *
  have X1 := X2
  clear X2
  refine wpAnyH_take (i := 0) (v := ?_) rfl (by kernel_rfl) (by kernel_rfl) (by kernel_rfl) (fun _ _ _ h => h) (Or.inl ⟨by kernel_rfl, ?_⟩) hS ?_
  rotate_left
  · intro w hSw; (try dsimp only at hSw); go_simp; try (with_reducible rfl)
  (try simp only [Act.put, List.getElem_toArray, List.getElem_cons_succ, List.getElem_cons_zero, List.setIfInBounds_toArray, List.set_cons_zero, List.set_cons_succ])
  refine wpAnyH_take (i := 1) (v := ?_) rfl (by kernel_rfl) (by kernel_rfl) (by kernel_rfl) (fun _ _ _ h => h) (Or.inl ⟨by kernel_rfl, ?_⟩) hS ?_
  rotate_left
  · intro w hSw; (try dsimp only at hSw); go_simp; try (with_reducible rfl)
  (try simp only [Act.put, List.getElem_toArray, List.getElem_cons_succ, List.getElem_cons_zero, List.setIfInBounds_toArray, List.set_cons_zero, List.set_cons_succ])
  refine wpAnyH_take (i := 3) (v := ?_) rfl (by kernel_rfl) (by kernel_rfl) (by kernel_rfl) (fun _ _ _ h => h) (Or.inl ⟨by kernel_rfl, ?_⟩) hS ?_
  rotate_left
  · intro w hSw; (try dsimp only at hSw); go_simp; try (with_reducible rfl)
  (try simp only [Act.put, List.getElem_toArray, List.getElem_cons_succ, List.getElem_cons_zero, List.setIfInBounds_toArray, List.set_cons_zero, List.set_cons_succ])
  refine wpAnyH_take (i := 4) (v := ?_) rfl (by kernel_rfl) (by kernel_rfl) (by kernel_rfl) (fun _ _ _ h => h) (Or.inl ⟨by kernel_rfl, ?_⟩) hS ?_
  rotate_left
  · intro w hSw; (try dsimp only at hSw); go_simp; try (with_reducible rfl)
  (try simp only [Act.put, List.getElem_toArray, List.getElem_cons_succ, List.getElem_cons_zero, List.setIfInBounds_toArray, List.set_cons_zero, List.set_cons_succ])
  refine wpAnyH_take (i := 7) (v := ?_) rfl (by kernel_rfl) (by kernel_rfl) (by kernel_rfl) (fun _ _ _ h => h) (Or.inl ⟨by kernel_rfl, ?_⟩) hS ?_
  rotate_left
  · intro w hSw; (try dsimp only at hSw); go_simp; try (with_reducible rfl)
  (try simp only [Act.put, List.getElem_toArray, List.getElem_cons_succ, List.getElem_cons_zero, List.setIfInBounds_toArray, List.set_cons_zero, List.set_cons_succ])
  refine wpAnyH_take (i := 8) (v := ?_) rfl (by kernel_rfl) (by kernel_rfl) (by kernel_rfl) (fun _ _ _ h => h) (Or.inl ⟨by kernel_rfl, ?_⟩) hS ?_
  rotate_left
  · intro w hSw; (try dsimp only at hSw); go_simp; try (with_reducible rfl)
  (try simp only [Act.put, List.getElem_toArray, List.getElem_cons_succ, List.getElem_cons_zero, List.setIfInBounds_toArray, List.set_cons_zero, List.set_cons_succ])
  refine wpAnyH_take (i := 11) (v := ?_) rfl (by kernel_rfl) (by kernel_rfl) (by kernel_rfl) (fun _ _ _ h => h) (Or.inl ⟨by kernel_rfl, ?_⟩) hS ?_
  rotate_left
  · intro w hSw; (try dsimp only at hSw); go_simp; try (with_reducible rfl)
  (try simp only [Act.put, List.getElem_toArray, List.getElem_cons_succ, List.getElem_cons_zero, List.setIfInBounds_toArray, List.set_cons_zero, List.set_cons_succ])
  refine wpAnyH_take (i := 12) (v := ?_) rfl (by kernel_rfl) (by kernel_rfl) (by kernel_rfl) (fun _ _ _ h => h) (Or.inl ⟨by kernel_rfl, ?_⟩) hS ?_
  rotate_left
  · intro w hSw; (try dsimp only at hSw); go_simp; try (with_reducible rfl)
  (try simp only [Act.put, List.getElem_toArray, List.getElem_cons_succ, List.getElem_cons_zero, List.setIfInBounds_toArray, List.set_cons_zero, List.set_cons_succ])
  refine wpAnyH_ready (rs := [2]) (by kernel_rfl) (by simp) ?_
  refine AllReadyH.cons rfl (fun K1 hK1 => ?_) AllReadyH.nil
  go_simp
  refine (of_any (fun i => M (x + i)) 8 8 _ (by decide) (by decide) (fun i _ => HM.out _) _ (reads_head X1.out.2.2 8 _ (by decide))).mono ?_
  rintro e w10 ⟨rfl, hw⟩
  rw [hw, HD.out.e0]
  clear hw w10
  refine hK1.out _ _ trivial (fun hS10 => ?_)
  clear hK1 K1 hS
  (try simp only [Act.put, List.getElem_toArray, List.getElem_cons_succ, List.getElem_cons_zero, List.setIfInBounds_toArray, List.set_cons_zero, List.set_cons_succ])
  refine wpAnyH_ready (rs := [5]) (by kernel_rfl) (by simp) ?_
  refine AllReadyH.cons rfl (fun K1 hK1 => ?_) AllReadyH.nil
  go_simp
  refine (of_any (fun i => M (x + (8 + i))) 4 4 _ (by decide) (by decide) (fun i _ => HM.out _) _ (reads_cut (n := 4) X1.out.2.2 8 _ (by decide))).mono ?_
  rintro e w11 ⟨rfl, hw⟩
  rw [hw, HD.out.e1]
  clear hw w11
  refine hK1.out _ _ trivial (fun hS11 => ?_)
  clear hK1 K1 hS10
  (try simp only [Act.put, List.getElem_toArray, List.getElem_cons_succ, List.getElem_cons_zero, List.setIfInBounds_toArray, List.set_cons_zero, List.set_cons_succ])
  refine wpAnyH_take (i := 6) (v := ?_) rfl (by kernel_rfl) (by kernel_rfl) (by kernel_rfl) (fun _ _ _ h => h) (Or.inl ⟨by kernel_rfl, ?_⟩) hS11 ?_
  rotate_left
  · intro w hSw; (try dsimp only at hSw); go_simp; try (with_reducible rfl)
  (try simp only [Act.put, List.getElem_toArray, List.getElem_cons_succ, List.getElem_cons_zero, List.setIfInBounds_toArray, List.set_cons_zero, List.set_cons_succ])
  refine wpAnyH_ready (rs := [9]) (by kernel_rfl) (by simp) ?_
  refine AllReadyH.cons rfl (fun K1 hK1 => ?_) AllReadyH.nil
  go_simp
  refine (of_any (fun i => M (x + (12 + i))) 2 2 _ (by decide) (by decide) (fun i _ => HM.out _) _ (reads_cut (n := 2) X1.out.2.2 12 _ (by decide))).mono ?_
  rintro e w12 ⟨rfl, hw⟩
  rw [hw, HD.out.e2]
  clear hw w12
  refine hK1.out _ _ trivial (fun hS12 => ?_)
  clear hK1 K1 hS11
  (try simp only [Act.put, List.getElem_toArray, List.getElem_cons_succ, List.getElem_cons_zero, List.setIfInBounds_toArray, List.set_cons_zero, List.set_cons_succ])
  refine wpAnyH_take (i := 10) (v := ?_) rfl (by kernel_rfl) (by kernel_rfl) (by kernel_rfl) (fun _ _ _ h => h) (Or.inl ⟨by kernel_rfl, ?_⟩) hS12 ?_
  rotate_left
  · intro w hSw; (try dsimp only at hSw); go_simp; try (with_reducible rfl)
  (try simp only [Act.put, List.getElem_toArray, List.getElem_cons_succ, List.getElem_cons_zero, List.setIfInBounds_toArray, List.set_cons_zero, List.set_cons_succ])
  refine wpAnyH_ready (rs := [13]) (by kernel_rfl) (by simp) ?_
  refine AllReadyH.cons rfl (fun K1 hK1 => ?_) AllReadyH.nil
  go_simp
  refine (of_any (fun i => M (x + (14 + i))) 2 2 _ (by decide) (by decide) (fun i _ => HM.out _) _ (reads_cut (n := 2) X1.out.2.2 14 _ (by decide))).mono ?_
  rintro e w13 ⟨rfl, hw⟩
  rw [hw, HD.out.e3]
  clear hw w13
  refine hK1.out _ _ trivial (fun hS13 => ?_)
  clear hK1 K1 hS12
  (try simp only [Act.put, List.getElem_toArray, List.getElem_cons_succ, List.getElem_cons_zero, List.setIfInBounds_toArray, List.set_cons_zero, List.set_cons_succ])
  refine wpAnyH_take (i := 14) (v := ?_) rfl (by kernel_rfl) (by kernel_rfl) (by kernel_rfl) (fun _ _ _ h => h) (Or.inl ⟨by kernel_rfl, ?_⟩) hS13 ?_
  rotate_left
  · intro w hSw; (try dsimp only at hSw); go_simp; try (with_reducible rfl)
  (try simp only [Act.put, List.getElem_toArray, List.getElem_cons_succ, List.getElem_cons_zero, List.setIfInBounds_toArray, List.set_cons_zero, List.set_cons_succ])
  refine wpAnyH_take (i := 15) (v := ?_) rfl (by kernel_rfl) (by kernel_rfl) (by kernel_rfl) (fun _ _ _ h => h) (Or.inl ⟨by kernel_rfl, ?_⟩) hS13 ?_
  rotate_left
  · intro w hSw; (try dsimp only at hSw); go_simp; try (with_reducible rfl)
  (try simp only [Act.put, List.getElem_toArray, List.getElem_cons_succ, List.getElem_cons_zero, List.setIfInBounds_toArray, List.set_cons_zero, List.set_cons_succ])
  refine wpAnyH_ready (rs := [16]) (by kernel_rfl) (by simp) ?_
  refine AllReadyH.cons rfl (fun K1 hK1 => ?_) AllReadyH.nil
  rw [if_pos (by kernel_rfl)]
  refine wp_store_row 94 _ _ rfl w.heap.size #[.int .u64 (v0 : Int), .int .u32 (v1 : Int), .int .u16 (v2 : Int), .int .u16 (v3 : Int)] rfl rfl 94 #[.int .u64 0, .int .u32 0, .int .u16 0, .int .u16 0] X1.out.1 info47 rfl (by simp [Value.oneCell']) ?_
  have Y : Hid ((w2.setRow w.heap.size #[.int .u64 (v0 : Int), .int .u32 (v1 : Int), .int .u16 (v2 : Int), .int .u16 (v3 : Int)]).heap[w.heap.size]? = some (.cells #[.int .u64 (v0 : Int), .int .u32 (v1 : Int), .int .u16 (v2 : Int), .int .u16 (v3 : Int)] 94 (0, 0)) ∧ Below w.heap.size w (w2.setRow w.heap.size #[.int .u64 (v0 : Int), .int .u32 (v1 : Int), .int .u16 (v2 : Int), .int .u16 (v3 : Int)])) := ⟨setRow_heap _ _ _ _ _ _ X1.out.1, below_setRow X1.out.2.1 (Nat.le_refl _) _⟩
  generalize w2.setRow w.heap.size #[.int .u64 (v0 : Int), .int .u32 (v1 : Int), .int .u16 (v2 : Int), .int .u16 (v3 : Int)] = w9 at *
  refine hK1.out _ _ trivial (fun hS20 => ?_)
  clear hK1 K1 hS13
  (try simp only [Act.put, List.getElem_toArray, List.getElem_cons_succ, List.getElem_cons_zero, List.setIfInBounds_toArray, List.set_cons_zero, List.set_cons_succ])
  refine wpAnyH_take (i := 17) (v := ?_) rfl (by kernel_rfl) (by kernel_rfl) (by kernel_rfl) (fun _ _ _ h => h) (Or.inl ⟨by kernel_rfl, ?_⟩) hS20 ?_
  rotate_left
  · intro w hSw; (try dsimp only at hSw); go_simp; try (with_reducible rfl)
  (try simp only [Act.put, List.getElem_toArray, List.getElem_cons_succ, List.getElem_cons_zero, List.setIfInBounds_toArray, List.set_cons_zero, List.set_cons_succ])
  refine wpAnyH_done (by kernel_rfl) ?_ _
  clear hS20
  obtain ⟨c0, c1, c2, c3⟩ := box4_facts Y.out.1
  go_wp2_with fail
  refine bodyPost_ret (v := .tuple #[.agg #[.int .u64 (v0 : Int), .int .u32 (v1 : Int), .int .u16 (v2 : Int), .int .u16 (v3 : Int)], .bool true]) (by simp [results, Try.results164, go_sem, c0, c1, c2, c3]) rfl ⟨rfl, Y.out.2⟩
end Go.Proofs.Ytlkhjekakbckmaa

/- RingChecks. -/
namespace Go.Proofs.Ytlkhjekakbckmaa
open Go.RowKit Go.Maps
set_option linter.unusedVariables false
set_option linter.unusedSimpArgs false
set_option maxRecDepth 100000
theorem below_call {w w1 w2 : World} (h1 : Below w.heap.size w w1) (h2 : Below w1.heap.size w1 w2) : Below w.heap.size w w2 := h1.trans (h2.mono h1.size)
theorem cells_alloc {w : World} {b : Nat} {o o2 : Obj} (h : w.heap[b]? = some o) : (w.alloc o2).heap[b]? = some o := below_box h ((Below.refl _ _).alloc (Nat.le_refl _) _)
theorem zero38 (w : World) : (zeroValue 240).run Try.prog w = .ok (.agg #[.int .u64 0, .int .u64 0, .int .u64 0, .int .u64 0, .int .u64 0, .int .u64 0]) w := by kernel_rfl
theorem infoR38 : (Try.prog.info? 240).map (·.size) = some 6 := by kernel_rfl
/-- the state behind the memory is made: the layout's box, the document's memory's box -/
def St (W V : World) (s : Int) (D A U : Nat) (p : Value) (b : Nat) (rb : Nat) (a : Option Addr) (nn c : Nat) (F : Nat → Prop) (M : Nat → Nat) : Prop :=
  V.heap[W.heap.size]? = some (.cells #[.int .i64 s, .int .u64 (D : Int), .int .u64 (A : Int), .int .u64 (U : Int)] 198 (0, 0)) ∧ V.heap[b]? = some (.cells #[.int .u64 8192, .slice a nn c] 32 (0, 0)) ∧ Both F V rb 8192 (.slice a nn c) 12000 M ∧ (∀ k, F k → W.heap.size < k) ∧ ¬ F b ∧ W.heap.size < b ∧ Below W.heap.size W V
theorem St.step {W V V' : World} {s : Int} {D A U : Nat} {p : Value} {b rb : Nat} {a : Option Addr} {nn c : Nat} {F : Nat → Prop} {M : Nat → Nat} (h : St W V s D A U p b rb a nn c F M) (hb : Below V.heap.size V V') : St W V' s D A U p b rb a nn c F M :=
  ⟨below_box h.1 hb, below_box h.2.1 hb, h.2.2.1.below hb, h.2.2.2.1, h.2.2.2.2.1, h.2.2.2.2.2.1, below_call h.2.2.2.2.2.2 hb⟩
theorem St.made {W w1 w2 : World} {s : Int} {D A U : Nat} {p : Value} {rb : Nat} {a : Option Addr} {nn c : Nat} {F : Nat → Prop} {M : Nat → Nat} (h1 : Below (W.alloc (.cells #[.int .i64 s, .int .u64 (D : Int), .int .u64 (A : Int), .int .u64 (U : Int)] 198)).heap.size (W.alloc (.cells #[.int .i64 s, .int .u64 (D : Int), .int .u64 (A : Int), .int .u64 (U : Int)] 198)) w1) (h2 : Below w1.heap.size w1 w2) (hb : Both F w2 rb 8192 (.slice a nn c) 12000 M) (hF : ∀ k, F k → w1.heap.size ≤ k) : St W (w2.alloc (.cells #[.int .u64 8192, .slice a nn c] 32)) s D A U p w2.heap.size rb a nn c F M := by
  have e1 := heap_alloc_new W (.cells #[.int .i64 s, .int .u64 (D : Int), .int .u64 (A : Int), .int .u64 (U : Int)] 198)
  have hsz : (W.alloc (.cells #[.int .i64 s, .int .u64 (D : Int), .int .u64 (A : Int), .int .u64 (U : Int)] 198)).heap.size = W.heap.size + 1 := by simp
  have h12 := below_call h1 h2
  have hs1 := h1.size
  have hs2 := h2.size
  have hlt := hb.1.lt
  exact ⟨cells_alloc (below_box e1 h12), heap_alloc_new _ _, hb.below ((Below.refl _ _).alloc (Nat.le_refl _) _), fun k hk => by have := hF k hk; omega, fun hf => by have := hlt _ hf; omega, by omega, below_call (below_call ((Below.refl _ _).alloc (Nat.le_refl _) _) h12) ((Below.refl _ _).alloc (Nat.le_refl _) _)⟩
theorem ne_types {w : World} {b p : Nat} {c d : Array Value} {t u : TypeId} {x y : Nat × Nat} (h1 : w.heap[b]? = some (.cells c t x)) (h2 : w.heap[p]? = some (.cells d u y)) (hne : t ≠ u) : b ≠ p := fun h => by
  subst h
  rw [h1] at h2
  injection h2 with h2
  injection h2 with _ h3
  exact hne h3
end Go.Proofs.Ytlkhjekakbckmaa

/- The document's Desc; RingDescs. -/
namespace Go.Proofs.Ytlkhjekakbckmaa
open Go.RowKit Go.Maps
set_option linter.unusedVariables false
set_option linter.unusedSimpArgs false
set_option maxRecDepth 100000
/-- what Desc tells on both sides -/
def DescR (M : Nat → Nat) (t : Nat) (i : Int) (ok : Bool) (v0 v1 v2 v3 : Nat) : Prop :=
  (ok = false ∧ v0 = 0 ∧ v1 = 0 ∧ v2 = 0 ∧ v3 = 0) ∨ ∃ k x : Nat, i = k ∧ k ≤ 255 ∧ x = (t + 16 * k) % 18446744073709551616 ∧ inB x 16 2147483648 8192 = true ∧ ok = true ∧ DescAt M x v0 v1 v2 v3
end Go.Proofs.Ytlkhjekakbckmaa

/- What a walk along descriptors is, in plain numbers. -/
namespace Go.Proofs.Ytlkhjekakbckmaa
open Go.RowKit Go.Maps
set_option linter.unusedVariables false
set_option linter.unusedSimpArgs false
set_option maxRecDepth 100000
/-- a descriptor -/
structure De where
  a : Nat
  l : Nat
  f : Nat
  x : Nat
def De.zero : De := ⟨0, 0, 0, 0⟩
def De.v (d : De) : Value := .agg #[.int .u64 (d.a : Int), .int .u32 (d.l : Int), .int .u16 (d.f : Int), .int .u16 (d.x : Int)]
def De.c (d : De) : Array Value := #[.int .u64 (d.a : Int), .int .u32 (d.l : Int), .int .u16 (d.f : Int), .int .u16 (d.x : Int)]
structure De.Ok (d : De) : Prop where
  a : d.a < 18446744073709551616
  l : d.l ≤ 4294967295
  f : d.f ≤ 65535
  x : d.x ≤ 65535
theorem De.zero_ok : De.zero.Ok := ⟨by decide, by decide, by decide, by decide⟩
/-- where a descriptor lies -/
def deX (t i : Nat) : Nat := (t + 16 * i) % 18446744073709551616
def deB (t i : Nat) : Bool := decide (i ≤ 255) && inB (deX t i) 16 2147483648 8192
def deN (M : Nat → Nat) (t i : Nat) : De := if deB t i = true then ⟨h256 (fun j => M (deX t i + j)) 8 0, h256 (fun j => M (deX t i + (8 + j))) 4 0, h256 (fun j => M (deX t i + (12 + j))) 2 0, h256 (fun j => M (deX t i + (14 + j))) 2 0⟩ else De.zero
/-- a segment -/
structure Seg where
  a : Nat
  l : Nat
  wr : Bool
/-- has a descriptor a flag (1, 2 or 4)? -/
def fl (f n : Nat) : Bool := decide (f / n % 2 = 1)
def De.seg (d : De) : Seg := ⟨d.a, d.l, fl d.f 2⟩
def lastW (l : List Seg) : Bool := match l.getLast? with | some s => s.wr | none => false
/-- a segment more: its error -/
def addE (l : List Seg) (d : De) : Nat := if inB d.a d.l 2147483648 8192 = true then (if (lastW l && !fl d.f 2) = true then 155 else 0) else 21
/-- how a walk along one table ends: its error, its last descriptor, the segments -/
structure Res where
  e : Nat
  d : De
  l : List Seg
def alongR (M : Nat → Nat) (t n : Nat) : Nat → Int → List Seg → Res
  | 0, i, l => if 0 ≤ i ∧ i < n then ⟨152, De.zero, l⟩ else ⟨151, De.zero, l⟩
  | k + 1, i, l => if 0 ≤ i ∧ i < n then (if deB t i.toNat = true then (if fl (deN M t i.toNat).f 4 = true then ⟨0, deN M t i.toNat, l⟩ else (if addE l (deN M t i.toNat) = 0 then (if fl (deN M t i.toNat).f 1 = true then alongR M t n k ((deN M t i.toNat).x : Int) (l ++ [(deN M t i.toNat).seg]) else ⟨0, deN M t i.toNat, l ++ [(deN M t i.toNat).seg]⟩) else ⟨addE l (deN M t i.toNat), De.zero, l⟩)) else ⟨21, De.zero, l⟩) else ⟨151, De.zero, l⟩
section
variable {M : Nat → Nat} {t n k : Nat} {i : Int} {l : List Seg}
theorem along_out (h : ¬ (0 ≤ i ∧ i < n)) : alongR M t n k i l = ⟨151, De.zero, l⟩ := by cases k <;> simp [alongR, h]
theorem along_loop (h : 0 ≤ i ∧ i < n) : alongR M t n 0 i l = ⟨152, De.zero, l⟩ := by simp [alongR, h]
theorem along_not {j : Nat} (h : j < n) (h1 : deB t j = false) : alongR M t n (k + 1) (j : Int) l = ⟨21, De.zero, l⟩ := by
  have : (0 : Int) ≤ j ∧ (j : Int) < n := by omega
  simp [alongR, this, h1, h]
theorem along_ind {j : Nat} {d : De} (h : j < n) (h1 : deB t j = true) (hd : deN M t j = d) (h2 : fl d.f 4 = true) : alongR M t n (k + 1) (j : Int) l = ⟨0, d, l⟩ := by
  subst hd
  simp [alongR, h1, h2, h]
theorem along_err {j : Nat} {d : De} (h : j < n) (h1 : deB t j = true) (hd : deN M t j = d) (h2 : fl d.f 4 = false) {e : Nat} (h3 : addE l d = e) (h4 : e ≠ 0) : alongR M t n (k + 1) (j : Int) l = ⟨e, De.zero, l⟩ := by
  subst hd h3
  simp [alongR, h1, h2, h, h4]
theorem along_end {j : Nat} {d : De} (h : j < n) (h1 : deB t j = true) (hd : deN M t j = d) (h2 : fl d.f 4 = false) (h3 : addE l d = 0) (h4 : fl d.f 1 = false) : alongR M t n (k + 1) (j : Int) l = ⟨0, d, l ++ [d.seg]⟩ := by
  subst hd
  simp [alongR, h1, h2, h, h3, h4]
theorem along_next {j : Nat} {d : De} (h : j < n) (h1 : deB t j = true) (hd : deN M t j = d) (h2 : fl d.f 4 = false) (h3 : addE l d = 0) (h4 : fl d.f 1 = true) : alongR M t n (k + 1) (j : Int) l = alongR M t n k (d.x : Int) (l ++ [d.seg]) := by
  subst hd
  simp [alongR, h1, h2, h, h3, h4]
end
theorem deN_ok {M : Nat → Nat} (hM : ∀ a, M a ≤ 255) (t i : Nat) : (deN M t i).Ok := by
  unfold deN
  split
  · have := DescAt.lt (M := M) (x := deX t i) ⟨rfl, rfl, rfl, rfl⟩ hM
    exact ⟨this.1, this.2.1, this.2.2.1, this.2.2.2⟩
  · exact De.zero_ok
theorem deN_at {M : Nat → Nat} {t i : Nat} (h : deB t i = true) : DescAt M (deX t i) (deN M t i).a (deN M t i).l (deN M t i).f (deN M t i).x := by
  simp only [deN, h, if_true]
  exact ⟨rfl, rfl, rfl, rfl⟩
theorem deN_no {M : Nat → Nat} {t i : Nat} (h : deB t i = false) : deN M t i = De.zero := by simp [deN, h]
theorem fl_and (f k : Nat) : decide (f &&& 2 ^ k = 0) = !fl f (2 ^ k) := by
  have h2 : f.testBit k = decide (f / 2 ^ k % 2 = 1) := by rw [Nat.testBit_eq_decide_div_mod_eq]
  unfold fl
  rw [← h2]
  cases hb : f.testBit k with
  | true =>
    have : ¬ (f &&& 2 ^ k = 0) := fun h => by
      have h3 := congrArg (fun x => Nat.testBit x k) h
      simp [Nat.testBit_and, hb] at h3
    simp [this]
  | false =>
    have : f &&& 2 ^ k = 0 := by
      apply Nat.eq_of_testBit_eq
      intro i
      rw [Nat.testBit_and, Nat.testBit_two_pow, Nat.zero_testBit]
      by_cases hi : k = i
      · subst hi; simp [hb]
      · simp [hi]
    simp [this]
theorem lastW_snoc (l : List Seg) (s : Seg) : lastW (l ++ [s]) = s.wr := by simp [lastW]
/-- the table that a descriptor names: its error -/
def tabE (d : De) (al : Bool) : Nat := if (!al || fl d.f 1) = true then 153 else (if (decide (d.l = 0) || decide (4096 < d.l) || decide (¬ d.l % 16 = 0)) = true then 154 else (if inB d.a d.l 2147483648 8192 = true then 0 else 21))
/-- a chain: its error, its segments, its table -/
structure Cn where
  e : Nat
  l : List Seg
  ta : Nat
  tl : Nat
def walkR (M : Nat → Nat) (D n : Nat) (h : Int) (al : Bool) : Cn :=
  if (alongR M D n n h []).e ≠ 0 then ⟨(alongR M D n n h []).e, [], 0, 0⟩
  else if fl (alongR M D n n h []).d.f 4 = false then ⟨0, (alongR M D n n h []).l, 0, 0⟩
  else if tabE (alongR M D n n h []).d al ≠ 0 then ⟨tabE (alongR M D n n h []).d al, [], 0, 0⟩
  else if (alongR M (alongR M D n n h []).d.a ((alongR M D n n h []).d.l / 16) ((alongR M D n n h []).d.l / 16) 0 (alongR M D n n h []).l).e ≠ 0 then ⟨(alongR M (alongR M D n n h []).d.a ((alongR M D n n h []).d.l / 16) ((alongR M D n n h []).d.l / 16) 0 (alongR M D n n h []).l).e, [], 0, 0⟩
  else if fl (alongR M (alongR M D n n h []).d.a ((alongR M D n n h []).d.l / 16) ((alongR M D n n h []).d.l / 16) 0 (alongR M D n n h []).l).d.f 4 = true then ⟨153, [], 0, 0⟩
  else ⟨0, (alongR M (alongR M D n n h []).d.a ((alongR M D n n h []).d.l / 16) ((alongR M D n n h []).d.l / 16) 0 (alongR M D n n h []).l).l, (alongR M D n n h []).d.a, (alongR M D n n h []).d.l⟩
section
variable {M : Nat → Nat} {D n : Nat} {h : Int} {al : Bool} {r s : Res}
theorem walk_err (hr : alongR M D n n h [] = r) (he : r.e ≠ 0) : walkR M D n h al = ⟨r.e, [], 0, 0⟩ := by subst hr; simp [walkR, he]
theorem walk_plain (hr : alongR M D n n h [] = r) (he : r.e = 0) (hf : fl r.d.f 4 = false) : walkR M D n h al = ⟨0, r.l, 0, 0⟩ := by subst hr; simp [walkR, he, hf]
theorem walk_tab (hr : alongR M D n n h [] = r) (he : r.e = 0) (hf : fl r.d.f 4 = true) {e : Nat} (ht : tabE r.d al = e) (h0 : e ≠ 0) : walkR M D n h al = ⟨e, [], 0, 0⟩ := by subst hr ht; simp [walkR, he, hf, h0]
theorem walk_err2 (hr : alongR M D n n h [] = r) (he : r.e = 0) (hf : fl r.d.f 4 = true) (ht : tabE r.d al = 0) (hs : alongR M r.d.a (r.d.l / 16) (r.d.l / 16) 0 r.l = s) (h2 : s.e ≠ 0) : walkR M D n h al = ⟨s.e, [], 0, 0⟩ := by subst hr hs; simp [walkR, he, hf, ht, h2]
theorem walk_nest (hr : alongR M D n n h [] = r) (he : r.e = 0) (hf : fl r.d.f 4 = true) (ht : tabE r.d al = 0) (hs : alongR M r.d.a (r.d.l / 16) (r.d.l / 16) 0 r.l = s) (h2 : s.e = 0) (h3 : fl s.d.f 4 = true) : walkR M D n h al = ⟨153, [], 0, 0⟩ := by subst hr hs; simp [walkR, he, hf, ht, h2, h3]
theorem walk_two (hr : alongR M D n n h [] = r) (he : r.e = 0) (hf : fl r.d.f 4 = true) (ht : tabE r.d al = 0) (hs : alongR M r.d.a (r.d.l / 16) (r.d.l / 16) 0 r.l = s) (h2 : s.e = 0) (h3 : fl s.d.f 4 = false) : walkR M D n h al = ⟨0, s.l, r.d.a, r.d.l⟩ := by subst hr hs; simp [walkR, he, hf, ht, h2, h3]
end
/-- what holds of a walk's segments -/
structure SegOk (sz : Nat) (s : Seg) : Prop where
  a : s.a < 18446744073709551616
  l : s.l ≤ 8192
  i : inB s.a s.l 2147483648 (sz : Nat) = true
theorem addE_in {l : List Seg} {d : De} (h : addE l d = 0) : inB d.a d.l 2147483648 8192 = true ∧ (lastW l && !fl d.f 2) = false := by
  unfold addE at h
  split at h
  · rename_i h1
    split at h
    · cases h
    · rename_i h2; exact ⟨h1, by simpa using h2⟩
  · cases h
theorem in_len {a l : Nat} (h : inB a l 2147483648 8192 = true) : l ≤ 8192 ∧ 2147483648 ≤ a ∧ a + l ≤ 2147491840 := by
  have : (2147483648 : Int) ≤ a ∧ (a : Int) + l ≤ 2147483648 + 8192 := by simpa [inB] using h
  omega
theorem along_all {M : Nat → Nat} (hM : ∀ a, M a ≤ 255) (t n : Nat) : ∀ (k : Nat) (i : Int) (l : List Seg), (∀ s ∈ l, SegOk 8192 s) → (∀ s ∈ (alongR M t n k i l).l, SegOk 8192 s) ∧ (alongR M t n k i l).d.Ok ∧ (alongR M t n k i l).l.length ≤ l.length + k := by
  intro k
  induction k with
  | zero =>
    intro i l hl
    unfold alongR
    split <;> exact ⟨hl, De.zero_ok, by simp⟩
  | succ k ih =>
    intro i l hl
    by_cases hi : 0 ≤ i ∧ i < n
    · obtain ⟨j, rfl⟩ : ∃ j : Nat, i = j := ⟨i.toNat, by omega⟩
      cases h1 : deB t j with
      | false => rw [along_not (by omega) h1]; exact ⟨hl, De.zero_ok, by simp⟩
      | true =>
        obtain ⟨d, hd⟩ : ∃ d, deN M t j = d := ⟨_, rfl⟩
        have hdo : d.Ok := hd ▸ deN_ok hM t j
        cases h2 : fl d.f 4 with
        | true => rw [along_ind (by omega) h1 hd h2]; exact ⟨hl, hdo, by simp⟩
        | false =>
          by_cases h3 : addE l d = 0
          · have hl2 : ∀ s ∈ l ++ [d.seg], SegOk 8192 s := by
              intro s hs
              rcases List.mem_append.1 hs with hs | hs
              · exact hl s hs
              · have : s = d.seg := by simpa using hs
                subst this
                exact ⟨hdo.a, (in_len (addE_in h3).1).1, (addE_in h3).1⟩
            cases h4 : fl d.f 1 with
            | false => rw [along_end (by omega) h1 hd h2 h3 h4]; exact ⟨hl2, hdo, by simp⟩
            | true =>
              rw [along_next (by omega) h1 hd h2 h3 h4]
              have := ih (d.x : Int) (l ++ [d.seg]) hl2
              refine ⟨this.1, this.2.1, ?_⟩
              have h5 := this.2.2
              simp at h5
              omega
          · rw [along_err (by omega) h1 hd h2 rfl h3]; exact ⟨hl, De.zero_ok, by simp⟩
    · rw [along_out hi]; exact ⟨hl, De.zero_ok, by simp⟩
theorem tab_in {d : De} {al : Bool} (h : tabE d al = 0) : al = true ∧ fl d.f 1 = false ∧ d.l % 16 = 0 ∧ 16 ≤ d.l ∧ d.l ≤ 4096 ∧ inB d.a d.l 2147483648 8192 = true := by
  unfold tabE at h
  split at h
  · cases h
  · rename_i h1
    split at h
    · cases h
    · rename_i h2
      split at h
      · rename_i h3
        simp only [Bool.or_eq_true, decide_eq_true_iff, not_or, Bool.not_eq_true, Bool.not_eq_false'] at h1 h2
        refine ⟨by simpa using h1.1, by simpa using h1.2, by omega, by omega, by omega, h3⟩
      · cases h
/-- what holds of a chain -/
theorem walk_all {M : Nat → Nat} (hM : ∀ a, M a ≤ 255) (D n : Nat) (hn : n ≤ 256) (h : Int) (al : Bool) : (∀ s ∈ (walkR M D n h al).l, SegOk 8192 s) ∧ (walkR M D n h al).l.length ≤ 512 ∧ ((walkR M D n h al).e ≠ 0 → (walkR M D n h al).l = [] ∧ (walkR M D n h al).ta = 0 ∧ (walkR M D n h al).tl = 0) ∧ ((walkR M D n h al).tl = 0 ∨ al = true ∧ inB (walkR M D n h al).ta (walkR M D n h al).tl 2147483648 8192 = true) ∧ (walkR M D n h al).ta < 18446744073709551616 ∧ (walkR M D n h al).tl ≤ 4096 ∧ ((walkR M D n h al).tl = 0 → (walkR M D n h al).ta = 0) := by
  obtain ⟨r, hr⟩ : ∃ r, alongR M D n n h [] = r := ⟨_, rfl⟩
  have h1 := along_all hM D n n h [] (by simp)
  rw [hr] at h1
  simp only [List.length_nil, Nat.zero_add] at h1
  by_cases he : r.e = 0
  · cases hf : fl r.d.f 4 with
    | false => rw [walk_plain hr he hf]; exact ⟨h1.1, by show r.l.length ≤ 512; omega, fun hh => absurd rfl hh, .inl rfl, Nat.succ_pos _, Nat.zero_le _, fun _ => rfl⟩
    | true =>
      by_cases ht : tabE r.d al = 0
      · obtain ⟨s, hs⟩ : ∃ s, alongR M r.d.a (r.d.l / 16) (r.d.l / 16) 0 r.l = s := ⟨_, rfl⟩
        have h2 := along_all hM r.d.a (r.d.l / 16) (r.d.l / 16) 0 r.l h1.1
        rw [hs] at h2
        obtain ⟨t1, t2, t3, t4, t5, t6⟩ := tab_in ht
        by_cases h3 : s.e = 0
        · cases h4 : fl s.d.f 4 with
          | true => rw [walk_nest hr he hf ht hs h3 h4]; exact ⟨by simp, by simp, fun _ => ⟨rfl, rfl, rfl⟩, .inl rfl, Nat.succ_pos _, Nat.zero_le _, fun _ => rfl⟩
          | false => rw [walk_two hr he hf ht hs h3 h4]; exact ⟨h2.1, by show s.l.length ≤ 512; have := h2.2.2; have := h1.2.2; omega, fun hh => absurd rfl hh, .inr ⟨t1, t6⟩, h1.2.1.a, t5, fun hh => by have : r.d.l = 0 := hh; omega⟩
        · rw [walk_err2 hr he hf ht hs h3]; exact ⟨by simp, by simp, fun _ => ⟨rfl, rfl, rfl⟩, .inl rfl, Nat.succ_pos _, Nat.zero_le _, fun _ => rfl⟩
      · rw [walk_tab hr he hf rfl ht]; exact ⟨by simp, by simp, fun _ => ⟨rfl, rfl, rfl⟩, .inl rfl, Nat.succ_pos _, Nat.zero_le _, fun _ => rfl⟩
  · rw [walk_err hr he]; exact ⟨by simp, by simp, fun _ => ⟨rfl, rfl, rfl⟩, .inl rfl, Nat.succ_pos _, Nat.zero_le _, fun _ => rfl⟩
end Go.Proofs.Ytlkhjekakbckmaa

/- The bytes that a chain names, in plain lists. -/
namespace Go.Proofs.Ytlkhjekakbckmaa
open Go.RowKit Go.Maps
set_option linter.unusedVariables false
set_option linter.unusedSimpArgs false
set_option maxRecDepth 100000
/-- the addresses of all that is to be read, or written -/
def addrs (b : Bool) (l : List Seg) : List Nat := l.flatMap fun s => if s.wr = b then (List.range s.l).map (s.a + ·) else []
def sizeN (b : Bool) (l : List Seg) : Nat := (l.map fun s => if s.wr = b then s.l else 0).sum
theorem addrs_length (b : Bool) (l : List Seg) : (addrs b l).length = sizeN b l := by
  induction l with
  | nil => rfl
  | cons s l ih =>
    have e : addrs b (s :: l) = (if s.wr = b then (List.range s.l).map (s.a + ·) else []) ++ addrs b l := by simp [addrs]
    have e2 : sizeN b (s :: l) = (if s.wr = b then s.l else 0) + sizeN b l := by simp [sizeN]
    rw [e, e2, List.length_append, ih]
    split <;> simp
theorem sizeN_cons (b : Bool) (s : Seg) (l : List Seg) : sizeN b (s :: l) = (if s.wr = b then s.l else 0) + sizeN b l := by simp [sizeN]
theorem addrs_cons (b : Bool) (s : Seg) (l : List Seg) : addrs b (s :: l) = (if s.wr = b then (List.range s.l).map (s.a + ·) else []) ++ addrs b l := by simp [addrs]
theorem sizeN_take (b : Bool) (l : List Seg) (i : Nat) (hi : i < l.length) : sizeN b (l.take (i + 1)) = sizeN b (l.take i) + (if (l[i]).wr = b then (l[i]).l else 0) := by
  rw [List.take_add_one, List.getElem?_eq_getElem hi]
  simp only [sizeN, List.map_append, List.sum_append, Option.toList_some, List.map_cons, List.map_nil, List.sum_cons, List.sum_nil, Nat.add_zero]
theorem sizeN_le {sz : Nat} (b : Bool) (l : List Seg) (h : ∀ s ∈ l, SegOk sz s) : sizeN b l ≤ l.length * 8192 := by
  induction l with
  | nil => simp [sizeN]
  | cons s l ih =>
    have h1 := ih (fun x hx => h x (List.mem_cons_of_mem _ hx))
    have h2 := (h s (List.mem_cons_self)).l
    rw [sizeN_cons, List.length_cons]
    split <;> omega
def pcs (b : Bool) : List Seg → Nat → Nat → List (Nat × Nat) × Nat × Nat
  | [], f, n => ([], f, n)
  | s :: l, f, n => if s.wr = b then ((if min n (s.l - min f s.l) = 0 then (pcs b l (f - min f s.l) (n - min n (s.l - min f s.l))).1 else (s.a + min f s.l, min n (s.l - min f s.l)) :: (pcs b l (f - min f s.l) (n - min n (s.l - min f s.l))).1), (pcs b l (f - min f s.l) (n - min n (s.l - min f s.l))).2) else pcs b l f n
theorem pcs_other {b : Bool} {s : Seg} {l : List Seg} {f n : Nat} (h : ¬ s.wr = b) : pcs b (s :: l) f n = pcs b l f n := by simp [pcs, h]
theorem pcs_none {b : Bool} {s : Seg} {l : List Seg} {f n sk tk : Nat} (h : s.wr = b) (h1 : sk = min f s.l) (h2 : tk = min n (s.l - sk)) (h0 : tk = 0) : pcs b (s :: l) f n = pcs b l (f - sk) (n - tk) := by
  subst h1
  rw [h0] at h2
  subst h0
  simp only [pcs, h, if_true, ← h2]
theorem pcs_some {b : Bool} {s : Seg} {l : List Seg} {f n sk tk : Nat} (h : s.wr = b) (h1 : sk = min f s.l) (h2 : tk = min n (s.l - sk)) (h0 : ¬ tk = 0) : pcs b (s :: l) f n = ((s.a + sk, tk) :: (pcs b l (f - sk) (n - tk)).1, (pcs b l (f - sk) (n - tk)).2) := by
  subst h1 h2
  simp only [pcs, h, if_true, h0, if_false]
theorem pcs_rest (b : Bool) : ∀ (l : List Seg) (f n : Nat), (pcs b l f n).2 = (f - sizeN b l, n - (sizeN b l - f)) := by
  intro l
  induction l with
  | nil => intro f n; simp [pcs, sizeN]
  | cons s l ih =>
    intro f n
    rw [sizeN_cons]
    by_cases h : s.wr = b
    · simp only [pcs, h, if_true]
      rw [ih]
      simp only [Prod.mk.injEq]
      omega
    · rw [pcs_other h, ih, if_neg h, Nat.zero_add]
def spanA (ps : List (Nat × Nat)) : List Nat := ps.flatMap fun p => (List.range p.2).map (p.1 + ·)
theorem spanA_cons (p : Nat × Nat) (l : List (Nat × Nat)) : spanA (p :: l) = (List.range p.2).map (p.1 + ·) ++ spanA l := by simp [spanA]
theorem spanA_append (k l : List (Nat × Nat)) : spanA (k ++ l) = spanA k ++ spanA l := by simp [spanA]
theorem range_cut (a L f n : Nat) : ((((List.range L).map (a + ·)).drop f).take n) = (List.range (min n (L - f))).map (a + f + ·) := by
  apply List.ext_getElem?
  intro i
  simp only [List.getElem?_take, List.getElem?_drop, List.getElem?_map, List.getElem?_range']
  by_cases h : i < min n (L - f)
  · rw [if_pos (by omega), List.getElem?_range (by omega), List.getElem?_range h]
    simp; omega
  · rw [List.getElem?_eq_none (l := List.range (min n (L - f))) (by simp; omega)]
    split
    · rw [List.getElem?_eq_none (by simp; omega)]; rfl
    · rfl
theorem pcs_span (b : Bool) : ∀ (l : List Seg) (f n : Nat), spanA (pcs b l f n).1 = ((addrs b l).drop f).take n := by
  intro l
  induction l with
  | nil => intro f n; simp [pcs, addrs, spanA]
  | cons s l ih =>
    intro f n
    rw [addrs_cons]
    by_cases h : s.wr = b
    · rw [if_pos h, List.drop_append, List.take_append, range_cut]
      have e1 : f - ((List.range s.l).map (s.a + ·)).length = f - min f s.l := by simp; omega
      have e2 : n - (((List.range s.l).map (s.a + ·)).drop f).length = n - min n (s.l - min f s.l) := by simp; omega
      rw [e1, e2, ← ih]
      have e3 : min n (s.l - f) = min n (s.l - min f s.l) := by omega
      rw [e3]
      by_cases h0 : min n (s.l - min f s.l) = 0
      · rw [pcs_none h rfl rfl h0, h0]; simp
      · rw [pcs_some h rfl rfl h0, spanA_cons]
        have e4 : min f s.l = f := by omega
        simp only [e4]
    · rw [if_neg h, List.nil_append, pcs_other h]
      exact ih f n
theorem in_lenS {a l sz : Nat} (h : inB a l 2147483648 (sz : Nat) = true) : l ≤ sz ∧ 2147483648 ≤ a ∧ a + l ≤ 2147483648 + sz := by
  simp only [inB, decide_eq_true_iff] at h
  omega
theorem pcs_ok {sz : Nat} (hz : sz ≤ 8192) {b : Bool} {l : List Seg} (h : ∀ s ∈ l, SegOk sz s) : ∀ (f n : Nat), ∀ p ∈ (pcs b l f n).1, inB p.1 p.2 2147483648 (sz : Nat) = true ∧ 0 < p.2 ∧ p.1 < 18446744073709551616 ∧ p.2 ≤ 8192 := by
  induction l with
  | nil => intro f n p hp; simp [pcs] at hp
  | cons s l ih =>
    intro f n p hp
    have ih2 := ih (fun x hx => h x (List.mem_cons_of_mem _ hx))
    by_cases hb : s.wr = b
    · by_cases h0 : min n (s.l - min f s.l) = 0
      · rw [pcs_none hb rfl rfl h0] at hp
        exact ih2 _ _ p hp
      · rw [pcs_some hb rfl rfl h0] at hp
        rcases List.mem_cons.1 hp with rfl | hp
        · have hs := h s List.mem_cons_self
          have h1 := in_lenS hs.i
          have h3 : min f s.l + min n (s.l - min f s.l) ≤ s.l := by omega
          refine ⟨?_, by simp only; omega, by simp only; omega, by simp only; omega⟩
          simp only [inB, Bool.and_eq_true, decide_eq_true_iff]
          omega
        · exact ih2 _ _ p hp
    · rw [pcs_other hb] at hp
      exact ih2 _ _ p hp
theorem pcs_len (b : Bool) : ∀ (l : List Seg) (f n : Nat), (pcs b l f n).1.length ≤ l.length := by
  intro l
  induction l with
  | nil => intro f n; simp [pcs]
  | cons s l ih =>
    intro f n
    by_cases hb : s.wr = b
    · by_cases h0 : min n (s.l - min f s.l) = 0
      · rw [pcs_none hb rfl rfl h0]
        have := ih (f - min f s.l) (n - min n (s.l - min f s.l))
        simp only [List.length_cons]
        omega
      · rw [pcs_some hb rfl rfl h0]
        have := ih (f - min f s.l) (n - min n (s.l - min f s.l))
        simp only [List.length_cons]
        omega
    · rw [pcs_other hb]
      have := ih f n
      simp only [List.length_cons]
      omega
/-- is there so much? -/
def roomB (b : Bool) (l : List Seg) (f n : Nat) : Bool := decide (f ≤ sizeN b l ∧ n ≤ sizeN b l - f)
theorem room_iff (b : Bool) (l : List Seg) (f n : Nat) : roomB b l f n = true ↔ (pcs b l f n).2 = (0, 0) := by
  rw [pcs_rest]
  simp only [roomB, decide_eq_true_iff, Prod.mk.injEq]
  omega
end Go.Proofs.Ytlkhjekakbckmaa

/- Lists of pieces: the call add of layer 2, and the document's call Same. -/
namespace Go.Proofs.Ytlkhjekakbckmaa
open Go.RowKit Go.Maps
set_option linter.unusedVariables false
/-- pieces, as cells -/
def spanRow (l : List (Nat × Nat)) : List Value := l.flatMap fun p => [.int .u64 (p.1 : Nat), .int .u64 (p.2 : Nat)]
theorem spanRow_snoc (l : List (Nat × Nat)) (x L : Nat) : spanRow (l ++ [(x, L)]) = spanRow l ++ [.int .u64 (x : Nat), .int .u64 (L : Nat)] := by simp [spanRow]
theorem spanRow_get (l : List (Nat × Nat)) : ∀ i (h : i < l.length), (spanRow l)[i * 2]? = some (.int .u64 ((l[i]).1 : Nat)) ∧ (spanRow l)[i * 2 + 1]? = some (.int .u64 ((l[i]).2 : Nat)) := by
  induction l with
  | nil => intro i h; simp at h
  | cons p r ih =>
    intro i h
    cases i with
    | zero => simp [spanRow]
    | succ j =>
      have := ih j (by simpa using h)
      have e : spanRow (p :: r) = .int .u64 (p.1 : Nat) :: .int .u64 (p.2 : Nat) :: spanRow r := by simp [spanRow]
      rw [e, show (j + 1) * 2 = j * 2 + 1 + 1 from by omega]
      simpa using this
/-- a list of pieces that lies in blocks from B on -/
def SpanIn (B : Nat) (w : World) (v : Value) (l : List (Nat × Nat)) : Prop := w.ownsRow B 42 2 v l.length (spanRow l)
theorem SpanIn.kept {B : Nat} {w w' : World} {v : Value} {l : List (Nat × Nat)} (h : SpanIn B w v l) (hk : ∀ g, v.ownBlock = some g → w'.heap[g]? = w.heap[g]?) : SpanIn B w' v l := by
  refine ⟨h.1, ?_⟩
  rcases h.2 with hn | ⟨g, cap, cur, rfl, hb, hgg, rest⟩
  · exact .inl hn
  · exact .inr ⟨g, cap, cur, rfl, hb, (hk g rfl).trans hgg, rest⟩
theorem SpanIn.form {B : Nat} {w : World} {v : Value} {l : List (Nat × Nat)} (h : SpanIn B w v l) : ∃ a c, v = .slice a l.length c := by
  rcases h.2 with ⟨rfl, h0⟩ | ⟨g, cap, cur, rfl, _⟩
  · exact ⟨none, 0, by rw [h0]⟩
  · exact ⟨_, cap, rfl⟩
theorem SpanIn.lt {B : Nat} {w : World} {v : Value} {l : List (Nat × Nat)} (h : SpanIn B w v l) : ∀ g, v.ownBlock = some g → B ≤ g ∧ g < w.heap.size := World.ownsRow.lt h
theorem Try.info42 : (Try.prog.info? 42).map (fun i => (i.zero, i.size, i.bytes)) = some (some (.agg #[.int .u64 0, .int .u64 0]), 2, 16) := by kernel_rfl
theorem two_new (w : World) (x y : Value) (t : TypeId) : ∀ j u, [x, y][j]? = some u → (w.alloc (.cells #[x, y] t)).cell? ((⟨w.heap.size, 0, none⟩ : Addr).add j) = some u := by
  intro j u hj
  rw [addr_add, Nat.zero_add]
  simp only [World.cell?, heap_alloc_new]
  match j, hj with
  | 0, hj => simpa using hj
  | 1, hj => simpa using hj
/-- what an append to a list of pieces leaves -/
def Added (B : Nat) (w w' : World) (v v' : Value) (l : List (Nat × Nat)) (x L : Nat) : Prop :=
  SpanIn B w' v' (l ++ [(x, L)]) ∧ w.grownBy w' v.ownBlock ∧ (v'.ownBlock = v.ownBlock ∨ ∃ g, v'.ownBlock = some g ∧ w.heap.size ≤ g)
theorem added_of {B : Nat} {w w1 : World} {v v' : Value} {l : List (Nat × Nat)} {x L : Nat} {o : Obj} (hown' : w1.ownsRow B 42 2 v' (l.length + 1) (spanRow l ++ [.int .u64 (x : Nat), .int .u64 (L : Nat)])) (hg : (w.alloc o).grownBy w1 v.ownBlock) (hat : v'.ownBlock = v.ownBlock ∨ v'.ownBlock = some (w.alloc o).heap.size) : Added B w w1 v v' l x L := by
  refine ⟨?_, (World.grownBy_alloc w o _).trans hg, ?_⟩
  · unfold SpanIn
    rw [spanRow_snoc, List.length_append]
    exact hown'
  · rcases hat with h | h
    · exact .inl h
    · exact .inr ⟨_, h, by simp⟩
set_option maxRecDepth 100000 in
theorem add_any {B : Nat} {w : World} {v : Value} {l : List (Nat × Nat)} (h : SpanIn B w v l) (x L : Nat) (hl : l.length < 4096) (hB : B ≤ w.heap.size) :
    Calls Try.prog 99 #[v, .int .u64 (x : Nat), .int .u64 (L : Nat)] w fun e w' => ∃ v', e = .returned v' ∧ Added B w w' v v' l x L := by
  obtain ⟨i0, hi, hz0, hz1, hz2⟩ := info_parts Try.info42
  obtain ⟨a, c, rfl⟩ := h.form
  have hl2 : (l.length : Int) < 4096 := by omega
  have H : Hid _ := h
  clear h
  generalize hn : l.length = n at *
  have HN : Hid (l.length = n) := hn
  clear hn
  go_enter Try.func99, Try.ntmps99
  go_wp2_with (first | (at_builtin; refine wpList_append_own_at _ rfl _ _ 182 rfl B 42 i0 (.agg #[.int .u64 0, .int .u64 0]) 2 16 Try.underlying182 hi hz0 hz1 hz2 rfl (by decide) _ n (spanRow l) rfl (World.ownsRow.alloc H.out _) ⟨w.heap.size, 0, none⟩ 1 1 [.int .u64 (x : Nat), .int .u64 (L : Nat)] rfl rfl (two_new _ _ _ _) (by intro u hu; simp at hu; rcases hu with rfl | rfl <;> rfl) (by unfold maxLen; omega) (by omega) (by simp; omega) ?_; intro v' w1 hown' hgrow hnil hat))
  go_ret
  exact ⟨v', rfl, added_of (by rw [HN.out]; exact hown') hgrow hat⟩
theorem SpanIn.cells {B : Nat} {w : World} {v : Value} {l : List (Nat × Nat)} (h : SpanIn B w v l) (h0 : 0 < l.length) : ∃ g c, v = .slice (some ⟨g, 0, none⟩) l.length c ∧ ∀ i, i < l.length → w.cell? ⟨g, i * 2, none⟩ = some (.int .u64 ((l.getD i (0, 0)).1 : Nat)) ∧ w.cell? ⟨g, i * 2 + 1, none⟩ = some (.int .u64 ((l.getD i (0, 0)).2 : Nat)) := by
  have h' := h
  rcases h'.2 with ⟨_, h1⟩ | ⟨g, cap, cur, rfl, hb, hgg, rest⟩
  · omega
  · refine ⟨g, cap, rfl, fun i hi => ?_⟩
    have hc := World.ownsRow.cells h (g := g) rfl
    obtain ⟨e1, e2⟩ := spanRow_get l i hi
    have c1 := hc _ _ e1
    have c2 := hc _ _ e2
    rw [addr_add, Nat.zero_add] at c1 c2
    have e3 : l.getD i (0, 0) = l[i] := by simp [List.getD, hi]
    rw [e3]
    exact ⟨c1, c2⟩
end Go.Proofs.Ytlkhjekakbckmaa

/- Flags; what a walker has. -/
namespace Go.Proofs.Ytlkhjekakbckmaa
open Go.RowKit Go.Maps
set_option linter.unusedVariables false
set_option linter.unusedSimpArgs false
set_option maxRecDepth 100000
theorem ne_cast (m : Nat) : (((m : Int)) != 0) = !decide (m = 0) := by
  by_cases h : m = 0
  · subst h; rfl
  · simp [h]
theorem hasf1 (da dl df dx : Nat) (hf : df ≤ 65535) (w : World) : Calls Try.prog 162 #[.agg #[.int .u64 (da : Int), .int .u32 (dl : Int), .int .u16 (df : Int), .int .u16 (dx : Int)], .int .u16 1] w fun e w' => e = .returned (.bool (fl df 1)) ∧ Below w.heap.size w w' := by
  have hb : Below w.heap.size w (w.alloc (.cells #[.int .u64 (da : Int), .int .u32 (dl : Int), .int .u16 (df : Int), .int .u16 (dx : Int)] 94)) := (Below.refl _ _).alloc (Nat.le_refl _) _
  have HB : Hid (Below w.heap.size w (w.alloc (.cells #[.int .u64 (da : Int), .int .u32 (dl : Int), .int .u16 (df : Int), .int .u16 (dx : Int)] 94))) := hb
  have h1 := fl_and df 0
  obtain ⟨m, hm⟩ : ∃ m, m = df &&& 1 := ⟨_, rfl⟩
  have e1 : bits .and .u16 (df : Int) 1 = (m : Int) := by rw [hm]; exact u16_and_nat df 1 (by omega) (by omega)
  have h2 : fl df 1 = !decide (m = 0) := by rw [hm]; simp only [Nat.reducePow] at h1; rw [h1]; simp
  rw [h2]
  have h3 : decide ((m : Int) = 0) = decide (m = 0) := by
    by_cases hh : m = 0
    · simp [hh]
    · simp [hh]
  clear hb hm h1 h2 hf
  go_enter Try.func162, Try.ntmps162
  go_wp2_with fail
  go_ret
  exact ⟨by rw [ne_cast]; rfl, HB.out⟩
theorem hasf2 (da dl df dx : Nat) (hf : df ≤ 65535) (w : World) : Calls Try.prog 162 #[.agg #[.int .u64 (da : Int), .int .u32 (dl : Int), .int .u16 (df : Int), .int .u16 (dx : Int)], .int .u16 2] w fun e w' => e = .returned (.bool (fl df 2)) ∧ Below w.heap.size w w' := by
  have hb : Below w.heap.size w (w.alloc (.cells #[.int .u64 (da : Int), .int .u32 (dl : Int), .int .u16 (df : Int), .int .u16 (dx : Int)] 94)) := (Below.refl _ _).alloc (Nat.le_refl _) _
  have HB : Hid (Below w.heap.size w (w.alloc (.cells #[.int .u64 (da : Int), .int .u32 (dl : Int), .int .u16 (df : Int), .int .u16 (dx : Int)] 94))) := hb
  have h1 := fl_and df 1
  obtain ⟨m, hm⟩ : ∃ m, m = df &&& 2 := ⟨_, rfl⟩
  have e1 : bits .and .u16 (df : Int) 2 = (m : Int) := by rw [hm]; exact u16_and_nat df 2 (by omega) (by omega)
  have h2 : fl df 2 = !decide (m = 0) := by rw [hm]; simp only [Nat.reducePow] at h1; rw [h1]; simp
  rw [h2]
  have h3 : decide ((m : Int) = 0) = decide (m = 0) := by
    by_cases hh : m = 0
    · simp [hh]
    · simp [hh]
  clear hb hm h1 h2 hf
  go_enter Try.func162, Try.ntmps162
  go_wp2_with fail
  go_ret
  exact ⟨by rw [ne_cast]; rfl, HB.out⟩
theorem hasf4 (da dl df dx : Nat) (hf : df ≤ 65535) (w : World) : Calls Try.prog 162 #[.agg #[.int .u64 (da : Int), .int .u32 (dl : Int), .int .u16 (df : Int), .int .u16 (dx : Int)], .int .u16 4] w fun e w' => e = .returned (.bool (fl df 4)) ∧ Below w.heap.size w w' := by
  have hb : Below w.heap.size w (w.alloc (.cells #[.int .u64 (da : Int), .int .u32 (dl : Int), .int .u16 (df : Int), .int .u16 (dx : Int)] 94)) := (Below.refl _ _).alloc (Nat.le_refl _) _
  have HB : Hid (Below w.heap.size w (w.alloc (.cells #[.int .u64 (da : Int), .int .u32 (dl : Int), .int .u16 (df : Int), .int .u16 (dx : Int)] 94))) := hb
  have h1 := fl_and df 2
  obtain ⟨m, hm⟩ : ∃ m, m = df &&& 4 := ⟨_, rfl⟩
  have e1 : bits .and .u16 (df : Int) 4 = (m : Int) := by rw [hm]; exact u16_and_nat df 4 (by omega) (by omega)
  have h2 : fl df 4 = !decide (m = 0) := by rw [hm]; simp only [Nat.reducePow] at h1; rw [h1]; simp
  rw [h2]
  have h3 : decide ((m : Int) = 0) = decide (m = 0) := by
    by_cases hh : m = 0
    · simp [hh]
    · simp [hh]
  clear hb hm h1 h2 hf
  go_enter Try.func162, Try.ntmps162
  go_wp2_with fail
  go_ret
  exact ⟨by rw [ne_cast]; rfl, HB.out⟩
end Go.Proofs.Ytlkhjekakbckmaa

/- A walker: its memory, its segments; a segment more. -/
namespace Go.Proofs.Ytlkhjekakbckmaa
open Go.RowKit Go.Maps
set_option linter.unusedVariables false
set_option linter.unusedSimpArgs false
set_option maxRecDepth 100000
/-- what a memory is to a walk: Inv F w: it lies there, F: its blocks -/
structure Wm (rb : Nat) (M : Nat → Nat) (Inv : (Nat → Prop) → World → Prop) : Prop where
  ram : ∀ F w, Inv F w → ∃ G n lg, RamAt w G rb 8192 n lg M
  lt : ∀ F w, Inv F w → ∀ k, F k → k < w.heap.size
  step : ∀ F w G G' w', Inv F w → Step G w G' w' → (∀ k, F k → ¬ G k) → Inv F w'
theorem Wm.below {rb : Nat} {M : Nat → Nat} {Inv : (Nat → Prop) → World → Prop} (m : Wm rb M Inv) {F : Nat → Prop} {w w' : World} (h : Inv F w) (hb : Below w.heap.size w w') : Inv F w' := m.step F w (fun _ => False) (fun _ => False) w' h (Step.of_below hb) (fun _ _ h => h)
/-- all blocks of O but F's are as they were; F' has F's and none more of O's -/
structure Fly (O F : Nat → Prop) (w : World) (F' : Nat → Prop) (w' : World) : Prop where
  os : w'.os = w.os
  tape : w'.tape = w.tape
  output : w'.output = w.output
  size : w.heap.size ≤ w'.heap.size
  block : ∀ k, O k → ¬ F k → w'.heap[k]? = w.heap[k]?
  old : ∀ k, F' k → F k ∨ ¬ O k
  keep : ∀ k, F k → F' k
theorem Fly.trans {O F F' F'' : Nat → Prop} {w w' w'' : World} (h : Fly O F w F' w') (g : Fly O F' w' F'' w'') : Fly O F w F'' w'' :=
  ⟨g.os.trans h.os, g.tape.trans h.tape, g.output.trans h.output, Nat.le_trans h.size g.size,
   fun k hk hf => (g.block k hk (fun hf' => by rcases h.old k hf' with h1 | h1; exact hf h1; exact h1 hk)).trans (h.block k hk hf),
   fun k hf => by rcases g.old k hf with h1 | h1; exact h.old k h1; exact .inr h1,
   fun k hf => g.keep k (h.keep k hf)⟩
theorem Fly.of_step {O F F' : Nat → Prop} {w w' : World} (h : Step F w F' w') (hO : ∀ k, O k → k < w.heap.size) : Fly O F w F' w' :=
  ⟨h.os, h.tape, h.output, h.size, fun k hk hf => h.block k (hO k hk) hf, fun k hf => by rcases h.old k hf with h1 | h1; exact .inl h1; exact .inr (fun ho => by have := hO k ho; omega), h.keep⟩
theorem Fly.of_below {O F : Nat → Prop} {w w' : World} (h : Below w.heap.size w w') (hO : ∀ k, O k → k < w.heap.size) : Fly O F w F w' :=
  ⟨h.os, h.tape, h.output, h.size, fun k hk _ => h.block k (hO k hk), fun _ h => .inl h, fun _ h => h⟩
theorem Fly.refl (O F : Nat → Prop) (w : World) : Fly O F w F w := ⟨rfl, rfl, rfl, Nat.le_refl _, fun _ _ _ => rfl, fun _ h => .inl h, fun _ h => h⟩
theorem Fly.mono {O O' F F' : Nat → Prop} {w w' : World} (h : Fly O F w F' w') (ho : ∀ k, O' k → O k) : Fly O' F w F' w' := ⟨h.os, h.tape, h.output, h.size, fun k hk => h.block k (ho k hk), fun k hf => (h.old k hf).imp id (fun hn hh => hn (ho k hh)), h.keep⟩
theorem Fly.step {F F' : Nat → Prop} {w w' : World} (h : Fly (fun k => k < w.heap.size) F w F' w') : Step F w F' w' := ⟨h.os, h.tape, h.output, h.size, h.block, fun k hf => (h.old k hf).imp id (fun hn => by omega), h.keep⟩
/-- segments, as cells -/
def segRow (l : List Seg) : List Value := l.flatMap fun s => [.int .u64 (s.a : Nat), .int .u64 (s.l : Nat), .bool s.wr]
theorem segRow_snoc (l : List Seg) (s : Seg) : segRow (l ++ [s]) = segRow l ++ [.int .u64 (s.a : Nat), .int .u64 (s.l : Nat), .bool s.wr] := by simp [segRow]
theorem segRow_get (l : List Seg) : ∀ i (h : i < l.length), (segRow l)[i * 3]? = some (.int .u64 ((l[i]).a : Nat)) ∧ (segRow l)[i * 3 + 1]? = some (.int .u64 ((l[i]).l : Nat)) ∧ (segRow l)[i * 3 + 2]? = some (.bool (l[i]).wr) := by
  induction l with
  | nil => intro i h; simp at h
  | cons p r ih =>
    intro i h
    cases i with
    | zero => simp [segRow]
    | succ j =>
      have := ih j (by simpa using h)
      have e : segRow (p :: r) = .int .u64 (p.a : Nat) :: .int .u64 (p.l : Nat) :: .bool p.wr :: segRow r := by simp [segRow]
      rw [e, show (j + 1) * 3 = j * 3 + 1 + 1 + 1 from by omega]
      simpa using this
/-- segments that lie in blocks from B on -/
def SegIn (B : Nat) (w : World) (v : Value) (l : List Seg) : Prop := w.ownsRow B 62 3 v l.length (segRow l)
theorem SegIn.kept {B : Nat} {w w' : World} {v : Value} {l : List Seg} (h : SegIn B w v l) (hk : ∀ g, v.ownBlock = some g → w'.heap[g]? = w.heap[g]?) : SegIn B w' v l := by
  refine ⟨h.1, ?_⟩
  rcases h.2 with hn | ⟨g, cap, cur, rfl, hb, hgg, rest⟩
  · exact .inl hn
  · exact .inr ⟨g, cap, cur, rfl, hb, (hk g rfl).trans hgg, rest⟩
theorem SegIn.form {B : Nat} {w : World} {v : Value} {l : List Seg} (h : SegIn B w v l) : ∃ a c, v = .slice a l.length c := by
  rcases h.2 with ⟨rfl, h0⟩ | ⟨g, cap, cur, rfl, _⟩
  · exact ⟨none, 0, by rw [h0]⟩
  · exact ⟨_, cap, rfl⟩
theorem SegIn.lt {B : Nat} {w : World} {v : Value} {l : List Seg} (h : SegIn B w v l) : ∀ g, v.ownBlock = some g → B ≤ g ∧ g < w.heap.size := World.ownsRow.lt h
theorem SegIn.cells {B : Nat} {w : World} {v : Value} {l : List Seg} (h : SegIn B w v l) (h0 : 0 < l.length) : ∃ g c, v = .slice (some ⟨g, 0, none⟩) l.length c ∧ ∀ i (hi : i < l.length), w.cell? ⟨g, i * 3, none⟩ = some (.int .u64 ((l[i]).a : Nat)) ∧ w.cell? ⟨g, i * 3 + 1, none⟩ = some (.int .u64 ((l[i]).l : Nat)) ∧ w.cell? ⟨g, i * 3 + 2, none⟩ = some (.bool (l[i]).wr) := by
  have h' := h
  rcases h'.2 with ⟨_, h1⟩ | ⟨g, cap, cur, rfl, hb, hgg, rest⟩
  · omega
  · refine ⟨g, cap, rfl, fun i hi => ?_⟩
    have hc := World.ownsRow.cells h (g := g) rfl
    obtain ⟨e1, e2, e3⟩ := segRow_get l i hi
    have c1 := hc _ _ e1
    have c2 := hc _ _ e2
    have c3 := hc _ _ e3
    rw [addr_add, Nat.zero_add] at c1 c2 c3
    exact ⟨c1, c2, c3⟩
theorem lastW_get {l : List Seg} {i : Nat} (hi : i < l.length) (he : i + 1 = l.length) : lastW l = (l[i]).wr := by
  have : l.getLast? = some l[i] := by rw [List.getLast?_eq_getElem?, show l.length - 1 = i from by omega]; simp [hi]
  simp [lastW, this]
theorem Try.info52s : (Try.prog.info? 62).map (fun i => (i.zero, i.size, i.bytes)) = some (some (.agg #[.int .u64 0, .int .u64 0, .bool false]), 3, 24) := by kernel_rfl
theorem info52 : (Try.prog.info? 62).map (·.size) = some 3 := by kernel_rfl
theorem three_new (w : World) (x y z : Value) (t : TypeId) : ∀ j u, [x, y, z][j]? = some u → (w.alloc (.cells #[x, y, z] t)).cell? ((⟨w.heap.size, 0, none⟩ : Addr).add j) = some u := by
  intro j u hj
  rw [addr_add, Nat.zero_add]
  simp only [World.cell?, heap_alloc_new]
  match j, hj with
  | 0, hj => simpa using hj
  | 1, hj => simpa using hj
  | 2, hj => simpa using hj
theorem box3_facts {w : World} {b : Nat} {x0 x1 x2 : Value} {t : TypeId} (h : w.heap[b]? = some (.cells #[x0, x1, x2] t (0, 0))) : w.cell? ⟨b, 0, none⟩ = some x0 ∧ w.cell? ⟨b, 1, none⟩ = some x1 ∧ w.cell? ⟨b, 2, none⟩ = some x2 := ⟨cellOf h 0 _ rfl, cellOf h 1 _ rfl, cellOf h 2 _ rfl⟩
/-- a walker that lies in block wb: its memory, its segments -/
def Wd (Inv : (Nat → Prop) → World → Prop) (O F : Nat → Prop) (w : World) (rb wb : Nat) (l : List Seg) : Prop :=
  Inv F w ∧ ((∀ k, O k → k < w.heap.size) ∧ ¬ O wb) ∧ ¬ F wb ∧ ∃ v, w.heap[wb]? = some (.cells #[.pointer (some ⟨rb, 0, none⟩), v] 260 (0, 0)) ∧ SegIn 0 w v l ∧ ∀ g, v.ownBlock = some g → g ≠ wb ∧ ¬ F g ∧ ¬ O g
section
variable {rb wb : Nat} {M : Nat → Nat} {Inv : (Nat → Prop) → World → Prop} {O F : Nat → Prop} {w w' : World} {l : List Seg}
theorem Wd.lt (h : Wd Inv O F w rb wb l) : wb < w.heap.size := by
  obtain ⟨_, _, _, v, h4, _⟩ := h
  exact (Array.getElem?_eq_some_iff.1 h4).1
theorem Wd.old (h : Wd Inv O F w rb wb l) : ∀ k, O k → k < w.heap.size := h.2.1.1
theorem Wd.below (m : Wm rb M Inv) (h : Wd Inv O F w rb wb l) (hb : Below w.heap.size w w') : Wd Inv O F w' rb wb l := by
  obtain ⟨h1, h2, h3, v, h4, h5, h6⟩ := h
  exact ⟨m.below h1 hb, ⟨fun k hk => Nat.lt_of_lt_of_le (h2.1 k hk) hb.size, h2.2⟩, h3, v, below_box h4 hb, h5.kept (fun g hg => hb.block g (h5.lt g hg).2), h6⟩
theorem Wd.told (h : Wd Inv O F w rb wb l) {F' : Nat → Prop} (hi : Inv F' w') (hs : Step F w F' w') : Wd Inv O F' w' rb wb l := by
  have hlt := h.lt
  obtain ⟨h1, h2, h3, v, h4, h5, h6⟩ := h
  have hn : ∀ g, g < w.heap.size → ¬ F g → ¬ F' g := fun g hg hf hf' => by
    rcases hs.old g hf' with h | h
    · exact hf h
    · omega
  exact ⟨hi, ⟨fun k hk => Nat.lt_of_lt_of_le (h2.1 k hk) hs.size, h2.2⟩, hn wb hlt h3, v, (hs.block wb hlt h3).trans h4, h5.kept (fun g hg => hs.block g (h5.lt g hg).2 (h6 g hg).2.1), fun g hg => ⟨(h6 g hg).1, hn g (h5.lt g hg).2 (h6 g hg).2.1, (h6 g hg).2.2⟩⟩
theorem Wd.boxes (h : Wd Inv O F w rb wb l) : ∃ a c, w.heap[wb]? = some (.cells #[.pointer (some ⟨rb, 0, none⟩), .slice a l.length c] 260 (0, 0)) ∧ SegIn 0 w (.slice a l.length c) l ∧ (∀ g, (Value.slice a l.length c).ownBlock = some g → g ≠ wb ∧ ¬ F g ∧ ¬ O g) := by
  obtain ⟨h1, h2, h3, v, h4, h5, h6⟩ := h
  obtain ⟨a, c, rfl⟩ := h5.form
  exact ⟨a, c, h4, h5, h6⟩
theorem setw_box {w : World} {b : Nat} {p q u : Value} {t : TypeId} (h : w.heap[b]? = some (.cells #[p, q] t (0, 0))) : (w.setCell ⟨b, 1, none⟩ u).heap[b]? = some (.cells #[p, u] t (0, 0)) := by
  rw [setCell_eq_setRow w b 1 _ t (0, 0) u h, setRow_heap w b _ _ t _ h]; rfl
/-- a segment was appended, the walker tells it -/
theorem Wd.more (m : Wm rb M Inv) (h : Wd Inv O F w rb wb l) {a : Option Addr} {c : Nat} (hv : w.heap[wb]? = some (.cells #[.pointer (some ⟨rb, 0, none⟩), .slice a l.length c] 260 (0, 0))) {w1 : World} {g cap : Nat} {s : Seg} (hown : w1.ownsRow 0 62 3 (.slice (some ⟨g, 0, none⟩) (l.length + 1) cap) (l.length + 1) (segRow l ++ [.int .u64 (s.a : Nat), .int .u64 (s.l : Nat), .bool s.wr])) (hgr : w.grownBy w1 (Value.slice a l.length c).ownBlock) (hat : (Value.slice a l.length c).ownBlock = some g ∨ w.heap.size ≤ g) :
    Wd Inv O F (w1.setCell ⟨wb, 1, none⟩ (.slice (some ⟨g, 0, none⟩) (l.length + 1) cap)) rb wb (l ++ [s]) ∧ Fly O F w F (w1.setCell ⟨wb, 1, none⟩ (.slice (some ⟨g, 0, none⟩) (l.length + 1) cap)) := by
  have hlt := h.lt
  obtain ⟨h1, h2, h3, v, h4, h5, h6⟩ := h
  rw [hv] at h4
  simp only [Option.some.injEq, Obj.cells.injEq, Array.mk.injEq, List.cons.injEq, true_and, and_true] at h4
  subst h4
  have hF : ∀ k, F k → (w1.setCell ⟨wb, 1, none⟩ (.slice (some ⟨g, 0, none⟩) (l.length + 1) cap)).heap[k]? = w.heap[k]? := fun k hk => by
    rw [heap_setCell w1 wb 1 _ k (fun e => h3 (e ▸ hk))]
    exact hgr.block k (m.lt F w h1 k hk) (fun e => (h6 k e.symm).2.1 hk)
  have hwb : w1.heap[wb]? = some (.cells #[.pointer (some ⟨rb, 0, none⟩), .slice a l.length c] 260 (0, 0)) := (hgr.block wb hlt (fun e => (h6 wb e.symm).1 rfl)).trans hv
  have hgw : g ≠ wb := by
    rcases hat with h | h
    · exact (h6 g h).1
    · omega
  have hgF : ¬ F g := by
    rcases hat with h | h
    · exact (h6 g h).2.1
    · intro hf; have := m.lt F w h1 g hf; omega
  have hgO : ¬ O g := by
    rcases hat with h | h
    · exact (h6 g h).2.2
    · intro hf; have := h2.1 g hf; omega
  have hsz : (w1.setCell ⟨wb, 1, none⟩ (.slice (some ⟨g, 0, none⟩) (l.length + 1) cap)).heap.size = w1.heap.size := by simp [World.setCell]
  have hstep : Step (fun k => k = wb ∨ (Value.slice a l.length c).ownBlock = some k) w (fun k => k = wb ∨ (Value.slice a l.length c).ownBlock = some k) (w1.setCell ⟨wb, 1, none⟩ (.slice (some ⟨g, 0, none⟩) (l.length + 1) cap)) := by
    refine ⟨hgr.os, hgr.tape, hgr.output, by rw [hsz]; exact hgr.size, fun k hk hn => ?_, fun k hk => .inl hk, fun k hk => hk⟩
    rw [heap_setCell w1 wb 1 _ k (fun e => hn (.inl e))]
    exact hgr.block k hk (fun e => hn (.inr e.symm))
  refine ⟨⟨m.step F w _ _ _ h1 hstep (fun k hk hh => ?_), ⟨fun k hk => Nat.lt_of_lt_of_le (h2.1 k hk) hstep.size, h2.2⟩, h3, _, setw_box hwb, ?_, fun g' hg' => ?_⟩, ⟨hstep.os, hstep.tape, hstep.output, hstep.size, fun k hk hf => ?_, fun k hk => .inl hk, fun k hk => hk⟩⟩
  · rcases hh with hh | hh
    · exact h3 (hh ▸ hk)
    · exact (h6 k hh).2.1 hk
  · have e : (l ++ [s]).length = l.length + 1 := by simp
    unfold SegIn
    rw [segRow_snoc, e]
    refine ⟨hown.1, ?_⟩
    rcases hown.2 with ⟨hn, _⟩ | ⟨g', cap', cur, he, hb, hgg, rest⟩
    · cases hn
    · simp only [Value.slice.injEq, Option.some.injEq, Addr.mk.injEq, and_true, true_and] at he
      obtain ⟨rfl, rfl⟩ := he
      exact .inr ⟨_, _, cur, rfl, hb, (heap_setCell w1 wb 1 _ _ hgw).trans hgg, rest⟩
  · have : g' = g := by simpa [Value.ownBlock] using hg'.symm
    subst this
    exact ⟨hgw, hgF, hgO⟩
  · refine hstep.block k (h2.1 k hk) (fun hh => ?_)
    rcases hh with hh | hh
    · exact h2.2 (hh ▸ hk)
    · exact (h6 k hh).2.2 hk
theorem Wd.mono {O' : Nat → Prop} (h : Wd Inv O F w rb wb l) (ho : ∀ k, O' k → O k) : Wd Inv O' F w rb wb l := by
  obtain ⟨h1, h2, h3, v, h4, h5, h6⟩ := h
  exact ⟨h1, ⟨fun k hk => h2.1 k (ho k hk), fun hk => h2.2 (ho _ hk)⟩, h3, v, h4, h5, fun g hg => ⟨(h6 g hg).1, (h6 g hg).2.1, fun hk => (h6 g hg).2.2 (ho _ hk)⟩⟩
/-- a block that was made since is the walker's no more than O's -/
theorem Wd.box (m : Wm rb M Inv) (h : Wd Inv O F w rb wb l) (hb : Below w.heap.size w w') {b : Nat} (hlt : w.heap.size ≤ b) (hb2 : b < w'.heap.size) : Wd Inv (fun k => O k ∨ k = b) F w' rb wb l := by
  have hl := h.lt
  have hB := h.below m hb
  obtain ⟨h1, h2, h3, v, h4, h5, h6⟩ := hB
  obtain ⟨k1, k2, k3, v', k4, k5, k6⟩ := h
  have hv : v = v' := by
    have := h4
    rw [below_box k4 hb] at this
    simp only [Option.some.injEq, Obj.cells.injEq, Array.mk.injEq, List.cons.injEq, true_and, and_true] at this
    exact this.symm
  subst hv
  refine ⟨h1, ⟨fun k hk => hk.elim (h2.1 k) (fun e => e ▸ hb2), fun hk => hk.elim h2.2 (fun e => by omega)⟩, h3, v, h4, h5, fun g hg => ⟨(h6 g hg).1, (h6 g hg).2.1, fun hk => hk.elim (h6 g hg).2.2 (fun e => ?_)⟩⟩
  have := (k5.lt g hg).2
  omega
end
end Go.Proofs.Ytlkhjekakbckmaa

/- A segment more. -/
namespace Go.Proofs.Ytlkhjekakbckmaa
open Go.RowKit Go.Maps
set_option linter.unusedVariables false
set_option linter.unusedSimpArgs false
set_option maxRecDepth 100000
def Tw (da dl df dx : Nat) (w V : World) (q : Nat) : Prop := V.heap[q]? = some (.cells #[.int .u64 (da : Int), .int .u32 (dl : Int), .int .u16 (df : Int), .int .u16 (dx : Int)] 94 (0, 0)) ∧ q < V.heap.size ∧ Below w.heap.size w V
def Tw2 (da dl df dx : Nat) (w V : World) (q p : Nat) (c : Array Value) : Prop := V.heap[q]? = some (.cells #[.int .u64 (da : Int), .int .u32 (dl : Int), .int .u16 (df : Int), .int .u16 (dx : Int)] 94 (0, 0)) ∧ V.heap[p]? = some (.cells c 62 (0, 0)) ∧ q ≠ p ∧ w.heap.size ≤ p ∧ Below w.heap.size w V
section
variable {da dl df dx q p : Nat} {w V V' : World} {c : Array Value}
theorem Tw.below (h : Tw da dl df dx w V q) (hb : Below V.heap.size V V') : Tw da dl df dx w V' q := ⟨below_box h.1 hb, Nat.lt_of_lt_of_le h.2.1 hb.size, below_to h.2.2 hb⟩
theorem Tw2.below (h : Tw2 da dl df dx w V q p c) (hb : Below V.heap.size V V') : Tw2 da dl df dx w V' q p c := ⟨below_box h.1 hb, below_box h.2.1 hb, h.2.2.1, h.2.2.2.1, below_to h.2.2.2.2 hb⟩
theorem Tw.alloc (h : Tw da dl df dx w V q) (c : Array Value) : Tw2 da dl df dx w (V.alloc (.cells c 62)) q V.heap.size c := by
  have hb : Below V.heap.size V (V.alloc (.cells c 62)) := (Below.refl _ _).alloc (Nat.le_refl _) _
  exact ⟨below_box h.1 hb, heap_alloc_new _ _, Nat.ne_of_lt h.2.1, h.2.2.size, below_to h.2.2 hb⟩
theorem Tw2.set (h : Tw2 da dl df dx w V q p c) (c' : Array Value) : Tw2 da dl df dx w (V.setRow p c') q p c' := ⟨(setRow_other _ _ _ _ h.2.2.1).trans h.1, setRow_heap _ _ _ _ _ _ h.2.1, h.2.2.1, h.2.2.2.1, below_setRow h.2.2.2.2 h.2.2.2.1 _⟩
end
set_option maxHeartbeats 2000000 in
theorem seg_any {rb wb : Nat} {M : Nat → Nat} {Inv : (Nat → Prop) → World → Prop} {O F : Nat → Prop} {w : World} {l : List Seg} (m : Wm rb M Inv) (h : Wd Inv O F w rb wb l) (da dl df dx : Nat) (hd : (De.mk da dl df dx).Ok) (hl : l.length ≤ 1000) :
    Calls Try.prog 165 #[.pointer (some ⟨wb, 0, none⟩), .agg #[.int .u64 (da : Int), .int .u32 (dl : Int), .int .u16 (df : Int), .int .u16 (dx : Int)]] w fun e w' => e = .returned (.int .i64 (addE l ⟨da, dl, df, dx⟩ : Int)) ∧ Wd Inv O F w' rb wb (if addE l ⟨da, dl, df, dx⟩ = 0 then l ++ [⟨da, dl, fl df 2⟩] else l) ∧ Fly O F w F w' := by
  obtain ⟨i0, hi, hz0, hz1, hz2⟩ := info_parts Try.info52s
  have hf : df ≤ 65535 := hd.f
  have hwr : IntKind.u64.wrap (dl : Int) = (dl : Int) := by have := hd.l; rw [wrap_u64]; simp at this; omega
  obtain ⟨sb, hsb⟩ : ∃ sb, fl df 2 = sb := ⟨_, rfl⟩
  have HH : Hid (∀ V, Below w.heap.size w V → Calls Try.prog 57 #[.pointer (some ⟨rb, 0, none⟩), .int .u64 (da : Int), .int .u64 (dl : Int)] V fun e w' => e = .returned (.bool (inB da dl 2147483648 8192)) ∧ w' = V) := by
    intro V hV
    obtain ⟨G, n, lg, hr⟩ := m.ram F V (m.below h.1 hV)
    exact has_any hr (by omega) da dl hd.a (by have := hd.l; simp at this; omega)
  have X0 : Hid (Tw da dl df dx w (w.alloc (.cells #[.int .u64 (da : Int), .int .u32 (dl : Int), .int .u16 (df : Int), .int .u16 (dx : Int)] 94)) w.heap.size) := ⟨heap_alloc_new _ _, by simp, (Below.refl _ _).alloc (Nat.le_refl _) _⟩
  have HW : Hid (Wd Inv O F w rb wb l) := h
  obtain ⟨a, c, hwb, hseg, hne⟩ := h.boxes
  have HA : Hid (w.heap[wb]? = some (.cells #[.pointer (some ⟨rb, 0, none⟩), .slice a l.length c] 260 (0, 0)) ∧ SegIn 0 w (.slice a l.length c) l ∧ ∀ g, (Value.slice a l.length c).ownBlock = some g → g ≠ wb ∧ ¬ F g ∧ ¬ O g) := ⟨hwb, hseg, hne⟩
  clear hwb hseg hne
  clear h hd
  go_enter Try.func165, Try.ntmps165
  go_upto_region 1 with fail
  generalize w.alloc (.cells #[.int .u64 (da : Int), .int .u32 (dl : Int), .int .u16 (df : Int), .int .u16 (dx : Int)] 94) = v0 at *
  go_cut [5] (fun x wx => ∃ p : Nat, x = .pointer (some ⟨p, 0, none⟩) ∧ Tw2 da dl df dx w wx w.heap.size p #[.int .u64 (da : Int), .int .u64 (dl : Int), .bool sb])
  case first =>
    have Xd : Hid (Tw da dl df dx w v0.drew w.heap.size) := X0.out.below (Below.refl _ _).drew
    refine wp_region_held_drew (S := fun V => V.cell? ⟨w.heap.size, 0, none⟩ = some (.int .u64 (da : Int)) ∧ V.cell? ⟨w.heap.size, 1, none⟩ = some (.int .u32 (dl : Int)) ∧ V.cell? ⟨w.heap.size, 2, none⟩ = some (.int .u16 (df : Int)) ∧ V.cell? ⟨w.heap.size, 3, none⟩ = some (.int .u16 (dx : Int))) (by kernel_rfl) ⟨cellOf Xd.out.1 0 _ rfl, cellOf Xd.out.1 1 _ rfl, cellOf Xd.out.1 2 _ rfl, cellOf Xd.out.1 3 _ rfl⟩ ?_
    intro hS
    generalize v0.drew = wd at *
    clear X0
    refine wpAnyH_take (i := 0) (v := ?_) rfl (by kernel_rfl) (by kernel_rfl) (by kernel_rfl) (fun _ _ _ h => h) (Or.inl ⟨by kernel_rfl, ?_⟩) hS ?_
    rotate_left
    · intro w hSw; (try dsimp only at hSw); go_simp; try (with_reducible rfl)
    (try simp only [Act.put, List.getElem_toArray, List.getElem_cons_succ, List.getElem_cons_zero, List.setIfInBounds_toArray, List.set_cons_zero, List.set_cons_succ])
    refine wpAnyH_take (i := 1) (v := ?_) rfl (by kernel_rfl) (by kernel_rfl) (by kernel_rfl) (fun _ _ _ h => h) (Or.inl ⟨by kernel_rfl, ?_⟩) hS ?_
    rotate_left
    · intro w hSw; (try dsimp only at hSw); go_simp; try (with_reducible rfl)
    (try simp only [Act.put, List.getElem_toArray, List.getElem_cons_succ, List.getElem_cons_zero, List.setIfInBounds_toArray, List.set_cons_zero, List.set_cons_succ])
    refine wpAnyH_take (i := 2) (v := ?_) rfl (by kernel_rfl) (by kernel_rfl) (by kernel_rfl) (fun _ _ _ h => h) (Or.inl ⟨by kernel_rfl, ?_⟩) hS ?_
    rotate_left
    · intro w hSw; (try dsimp only at hSw); go_simp; try (with_reducible rfl)
    (try simp only [Act.put, List.getElem_toArray, List.getElem_cons_succ, List.getElem_cons_zero, List.setIfInBounds_toArray, List.set_cons_zero, List.set_cons_succ])
    refine wpAnyH_take (i := 3) (v := ?_) rfl (by kernel_rfl) (by kernel_rfl) (by kernel_rfl) (fun _ _ _ h => h) (Or.inl ⟨by kernel_rfl, ?_⟩) hS ?_
    rotate_left
    · intro w hSw; (try dsimp only at hSw); go_simp; try (with_reducible rfl)
    (try simp only [Act.put, List.getElem_toArray, List.getElem_cons_succ, List.getElem_cons_zero, List.setIfInBounds_toArray, List.set_cons_zero, List.set_cons_succ])
    refine wpAnyH_take (i := 4) (v := ?_) rfl (by kernel_rfl) (by kernel_rfl) (by kernel_rfl) (fun _ _ _ h => h) (Or.inl ⟨by kernel_rfl, ?_⟩) hS ?_
    rotate_left
    · intro w hSw; (try dsimp only at hSw); go_simp; try (with_reducible rfl)
    (try simp only [Act.put, List.getElem_toArray, List.getElem_cons_succ, List.getElem_cons_zero, List.setIfInBounds_toArray, List.set_cons_zero, List.set_cons_succ])
    refine wpAnyH_take (i := 5) (v := ?_) rfl (by kernel_rfl) (by kernel_rfl) (by kernel_rfl) (fun _ _ _ h => h) (Or.inl ⟨by kernel_rfl, ?_⟩) hS ?_
    rotate_left
    · intro w hSw; (try dsimp only at hSw); go_simp; try (with_reducible rfl)
    (try simp only [Act.put, List.getElem_toArray, List.getElem_cons_succ, List.getElem_cons_zero, List.setIfInBounds_toArray, List.set_cons_zero, List.set_cons_succ])
    refine wpAnyH_ready (rs := [6, 8]) (by kernel_rfl) (by simp) ?_
    refine AllReadyH.cons rfl (fun K1 hK1 => ?_) (AllReadyH.cons rfl (fun K1 hK1 => ?_) AllReadyH.nil)
    · have _hm : True := trivial
      go_simp
      refine (hasf2 da dl df dx hf _).mono ?_
      rintro e w2 ⟨rfl, hb⟩
      rw [hsb]
      have X2 : Hid (Tw da dl df dx w w2 w.heap.size) := Xd.out.below hb
      clear hb Xd
      refine hK1.out _ _ ⟨cellOf X2.out.1 0 _ rfl, cellOf X2.out.1 1 _ rfl, cellOf X2.out.1 2 _ rfl, cellOf X2.out.1 3 _ rfl⟩ (fun h2 => ?_)
      clear hK1 K1 hS
      (try simp only [Act.put, List.getElem_toArray, List.getElem_cons_succ, List.getElem_cons_zero, List.setIfInBounds_toArray, List.set_cons_zero, List.set_cons_succ])
      refine wpAnyH_take (i := 7) (v := ?_) rfl (by kernel_rfl) (by kernel_rfl) (by kernel_rfl) (fun _ _ _ h => h) (Or.inl ⟨by kernel_rfl, ?_⟩) h2 ?_
      rotate_left
      · intro w hSw; (try dsimp only at hSw); go_simp; try (with_reducible rfl)
      (try simp only [Act.put, List.getElem_toArray, List.getElem_cons_succ, List.getElem_cons_zero, List.setIfInBounds_toArray, List.set_cons_zero, List.set_cons_succ])
      refine wpAnyH_ready (rs := [8]) (by kernel_rfl) (by simp) ?_
      refine AllReadyH.cons rfl (fun K1 hK1 => ?_) AllReadyH.nil
      go_simp
      have X3 : Hid (Tw2 da dl df dx w (w2.alloc (.cells #[.int .u64 0, .int .u64 0, .bool false] 62)) w.heap.size w2.heap.size #[.int .u64 0, .int .u64 0, .bool false]) := X2.out.alloc _
      clear X2
      generalize w2.alloc (.cells #[.int .u64 0, .int .u64 0, .bool false] 62) = w3 at *
      generalize w2.heap.size = p at *
      refine hK1.out _ _ ⟨cellOf X3.out.1 0 _ rfl, cellOf X3.out.1 1 _ rfl, cellOf X3.out.1 2 _ rfl, cellOf X3.out.1 3 _ rfl⟩ (fun h3 => ?_)
      clear hK1 K1 h2
      (try simp only [Act.put, List.getElem_toArray, List.getElem_cons_succ, List.getElem_cons_zero, List.setIfInBounds_toArray, List.set_cons_zero, List.set_cons_succ])
      refine wpAnyH_ready (rs := [9]) (by kernel_rfl) (by simp) ?_
      refine AllReadyH.cons rfl (fun K1 hK1 => ?_) AllReadyH.nil
      rw [if_pos (by kernel_rfl)]
      refine wp_store_row 62 _ _ rfl p #[.int .u64 (da : Int), .int .u64 (dl : Int), .bool sb] rfl rfl 62 #[.int .u64 0, .int .u64 0, .bool false] X3.out.2.1 info52 rfl (by simp [Value.oneCell']) ?_
      have Y : Hid (Tw2 da dl df dx w (w3.setRow p #[.int .u64 (da : Int), .int .u64 (dl : Int), .bool sb]) w.heap.size p #[.int .u64 (da : Int), .int .u64 (dl : Int), .bool sb]) := X3.out.set _
      clear X3
      generalize w3.setRow p #[.int .u64 (da : Int), .int .u64 (dl : Int), .bool sb] = w9 at *
      refine hK1.out _ _ ⟨cellOf Y.out.1 0 _ rfl, cellOf Y.out.1 1 _ rfl, cellOf Y.out.1 2 _ rfl, cellOf Y.out.1 3 _ rfl⟩ (fun h9 => ?_)
      clear hK1 K1 h3
      (try simp only [Act.put, List.getElem_toArray, List.getElem_cons_succ, List.getElem_cons_zero, List.setIfInBounds_toArray, List.set_cons_zero, List.set_cons_succ])
      refine wpAnyH_done (by kernel_rfl) ?_ _
      go_wp2_with fail
      go_meet
      exact ⟨p, rfl, Y.out⟩

    · have _hm : True := trivial
      go_simp
      have X2 : Hid (Tw2 da dl df dx w (wd.alloc (.cells #[.int .u64 0, .int .u64 0, .bool false] 62)) w.heap.size wd.heap.size #[.int .u64 0, .int .u64 0, .bool false]) := Xd.out.alloc _
      clear Xd
      generalize wd.alloc (.cells #[.int .u64 0, .int .u64 0, .bool false] 62) = w2 at *
      generalize wd.heap.size = p at *
      refine hK1.out _ _ ⟨cellOf X2.out.1 0 _ rfl, cellOf X2.out.1 1 _ rfl, cellOf X2.out.1 2 _ rfl, cellOf X2.out.1 3 _ rfl⟩ (fun h2 => ?_)
      clear hK1 K1 hS
      (try simp only [Act.put, List.getElem_toArray, List.getElem_cons_succ, List.getElem_cons_zero, List.setIfInBounds_toArray, List.set_cons_zero, List.set_cons_succ])
      refine wpAnyH_ready (rs := [6]) (by kernel_rfl) (by simp) ?_
      refine AllReadyH.cons rfl (fun K1 hK1 => ?_) AllReadyH.nil
      go_simp
      refine (hasf2 da dl df dx hf _).mono ?_
      rintro e w3 ⟨rfl, hb⟩
      rw [hsb]
      have X3 : Hid (Tw2 da dl df dx w w3 w.heap.size p #[.int .u64 0, .int .u64 0, .bool false]) := X2.out.below hb
      clear hb X2
      refine hK1.out _ _ ⟨cellOf X3.out.1 0 _ rfl, cellOf X3.out.1 1 _ rfl, cellOf X3.out.1 2 _ rfl, cellOf X3.out.1 3 _ rfl⟩ (fun h3 => ?_)
      clear hK1 K1 h2
      (try simp only [Act.put, List.getElem_toArray, List.getElem_cons_succ, List.getElem_cons_zero, List.setIfInBounds_toArray, List.set_cons_zero, List.set_cons_succ])
      refine wpAnyH_take (i := 7) (v := ?_) rfl (by kernel_rfl) (by kernel_rfl) (by kernel_rfl) (fun _ _ _ h => h) (Or.inl ⟨by kernel_rfl, ?_⟩) h3 ?_
      rotate_left
      · intro w hSw; (try dsimp only at hSw); go_simp; try (with_reducible rfl)
      (try simp only [Act.put, List.getElem_toArray, List.getElem_cons_succ, List.getElem_cons_zero, List.setIfInBounds_toArray, List.set_cons_zero, List.set_cons_succ])
      refine wpAnyH_ready (rs := [9]) (by kernel_rfl) (by simp) ?_
      refine AllReadyH.cons rfl (fun K1 hK1 => ?_) AllReadyH.nil
      rw [if_pos (by kernel_rfl)]
      refine wp_store_row 62 _ _ rfl p #[.int .u64 (da : Int), .int .u64 (dl : Int), .bool sb] rfl rfl 62 #[.int .u64 0, .int .u64 0, .bool false] X3.out.2.1 info52 rfl (by simp [Value.oneCell']) ?_
      have Y : Hid (Tw2 da dl df dx w (w3.setRow p #[.int .u64 (da : Int), .int .u64 (dl : Int), .bool sb]) w.heap.size p #[.int .u64 (da : Int), .int .u64 (dl : Int), .bool sb]) := X3.out.set _
      clear X3
      generalize w3.setRow p #[.int .u64 (da : Int), .int .u64 (dl : Int), .bool sb] = w9 at *
      refine hK1.out _ _ ⟨cellOf Y.out.1 0 _ rfl, cellOf Y.out.1 1 _ rfl, cellOf Y.out.1 2 _ rfl, cellOf Y.out.1 3 _ rfl⟩ (fun h9 => ?_)
      clear hK1 K1 h3
      (try simp only [Act.put, List.getElem_toArray, List.getElem_cons_succ, List.getElem_cons_zero, List.setIfInBounds_toArray, List.set_cons_zero, List.set_cons_succ])
      refine wpAnyH_done (by kernel_rfl) ?_ _
      go_wp2_with fail
      go_meet
      exact ⟨p, rfl, Y.out⟩

  case rest =>
  obtain ⟨p, rfl, ht⟩ := hcut
  have X1 : Hid (Tw2 da dl df dx w wc w.heap.size p #[.int .u64 (da : Int), .int .u64 (dl : Int), .bool sb]) := ht
  clear ht
  go_upto_region 2 with fail
  have Xd : Hid (Tw2 da dl df dx w wc.drew w.heap.size p #[.int .u64 (da : Int), .int .u64 (dl : Int), .bool sb]) := X1.out.below (Below.refl _ _).drew
  have W1 : Hid (Wd Inv O F wc.drew rb wb l) := HW.out.below m Xd.out.2.2.2.2
  have HB : Hid (wc.drew.heap[wb]? = some (.cells #[.pointer (some ⟨rb, 0, none⟩), .slice a l.length c] 260 (0, 0)) ∧ SegIn 0 wc.drew (.slice a l.length c) l) := ⟨below_box HA.out.1 Xd.out.2.2.2.2, HA.out.2.1.kept (fun g hg => Xd.out.2.2.2.2.block g (HA.out.2.1.lt g hg).2)⟩
  have HP : Hid (∀ g, (Value.slice a l.length c).ownBlock = some g → g ≠ wb ∧ g ≠ p) := fun g hg => ⟨(HA.out.2.2 g hg).1, fun e => by have := (HA.out.2.1.lt g hg).2; have := Xd.out.2.2.2.1; omega⟩
  clear X0 X1 HA
  obtain ⟨n, hn⟩ : ∃ n, l.length = n := ⟨_, rfl⟩
  rw [hn] at HB HP
  have HPW : Hid (p ≠ wb) := fun e => by have := HW.out.lt; have := Xd.out.2.2.2.1; omega
  have hS5 : (fun Z : World => Z.cell? ⟨wb, 0, none⟩ = some (.pointer (some ⟨rb, 0, none⟩)) ∧ Z.cell? ⟨wb, 1, none⟩ = some (.slice a n c) ∧ Z.cell? ⟨p, 0, none⟩ = some (.int .u64 (da : Int)) ∧ Z.cell? ⟨p, 1, none⟩ = some (.int .u64 (dl : Int)) ∧ Z.cell? ⟨p, 2, none⟩ = some (.bool sb)) wc.drew := ⟨cellOf HB.out.1 0 _ rfl, cellOf HB.out.1 1 _ rfl, cellOf Xd.out.2.1 0 _ rfl, cellOf Xd.out.2.1 1 _ rfl, cellOf Xd.out.2.1 2 _ rfl⟩
  obtain ⟨ib, hin⟩ : ∃ ib, inB da dl 2147483648 8192 = ib := ⟨_, rfl⟩
  have HI : Hid (inB da dl 2147483648 8192 = ib) := hin
  have HN : Hid (l.length = n ∧ l.length ≤ 1000) := ⟨hn, hl⟩
  have hn2 : n ≤ 1000 := by omega
  clear hin hn hl
  go_region_held3 (fun Z => Z.cell? ⟨wb, 0, none⟩ = some (.pointer (some ⟨rb, 0, none⟩)) ∧ Z.cell? ⟨wb, 1, none⟩ = some (.slice a n c) ∧ Z.cell? ⟨p, 0, none⟩ = some (.int .u64 (da : Int)) ∧ Z.cell? ⟨p, 1, none⟩ = some (.int .u64 (dl : Int)) ∧ Z.cell? ⟨p, 2, none⟩ = some (.bool sb)) (go_keep) (first | (go_at_call 57; refine (HH.out _ Xd.out.2.2.2.2).mono ?_; rintro e w2 ⟨rfl, hw⟩; rw [hw]; clear hw w2; rw [HI.out]))
  generalize wc.drew = V at *
  cases ib with
  | false =>
    have he : addE l ⟨da, dl, df, dx⟩ = 21 := by simp [addE, HI.out]
    go_wp2_with fail
    go_ret
    exact ⟨rfl, W1.out, Fly.of_below Xd.out.2.2.2.2 HW.out.old⟩
  | true =>
    obtain ⟨lb, hlb⟩ : ∃ lb, (lastW l && !sb) = lb := ⟨_, rfl⟩
    have HL : Hid ((lastW l && !sb) = lb) := hlb
    clear hlb
    go_upto_region 5 with fail
    go_cut [47] (fun x wx => x = .bool lb ∧ wx = V)
    case first =>
      by_cases h0 : n = 0
      · have e1 : decide ((0 : Int) < n) = false := by simp [h0]
        have e2 : decide (0 < n) = false := by simp [h0]
        have e3 : ¬ (0 : Int) < n := by omega
        have el : lb = false := by
          have : l = [] := List.length_eq_zero_iff.1 (HN.out.1.trans h0)
          rw [← HL.out, this]; rfl
        subst el
        clear h0
        go_wp2_with fail
        go_meet
        exact ⟨rfl, rfl⟩
      · obtain ⟨k, hk⟩ : ∃ k, n = k + 1 := ⟨n - 1, by omega⟩
        have hkl : k < l.length := by have := HN.out.1; omega
        have hb2 := HB.out.2
        rw [← HN.out.1] at hb2
        obtain ⟨g, c', hsl, hcl⟩ := hb2.cells (by omega)
        simp only [Value.slice.injEq, true_and] at hsl
        obtain ⟨rfl, rfl⟩ := hsl
        have hlast := (hcl k hkl).2.2
        rw [← lastW_get hkl (by have := HN.out.1; omega)] at hlast
        have e1 : (0 : Int) < n := by omega
        have e4 : (n : Int) - 1 = (k : Int) := by omega
        have e5 : wrap64 (k : Int) = (k : Int) := by unfold wrap64; omega
        have e6 : (k : Int) < n := by omega
        have hL2 := HL.out
        obtain ⟨lw, hlw⟩ : ∃ lw, lastW l = lw := ⟨_, rfl⟩
        rw [hlw] at hlast hL2
        clear hk h0 hcl hb2 hkl hlw
        cases lw with
        | false =>
          have el : lb = false := by simpa using hL2.symm
          subst el
          clear hL2
          go_wp2_with fail
          go_meet
          exact ⟨rfl, rfl⟩
        | true =>
          cases sb with
          | false =>
            have el : lb = true := by simpa using hL2.symm
            subst el
            clear hL2
            go_wp2_with fail
            go_meet
            exact ⟨rfl, rfl⟩
          | true =>
            have el : lb = false := by simpa using hL2.symm
            subst el
            clear hL2
            go_wp2_with fail
            go_meet
            exact ⟨rfl, rfl⟩
    case rest =>
    obtain ⟨rfl, hw⟩ := hcut
    rw [hw]
    clear hw
    cases lb with
    | true =>
      have he : addE l ⟨da, dl, df, dx⟩ = 155 := by
        have := HL.out
        simp only [addE, HI.out, if_true, hsb, this]
      go_wp2_with fail
      go_ret
      exact ⟨rfl, W1.out, Fly.of_below Xd.out.2.2.2.2 HW.out.old⟩
    | false =>
      have he : addE l ⟨da, dl, df, dx⟩ = 0 := by
        have := HL.out
        simp [addE, HI.out, hsb, this]
      go_upto_region 7 with fail
      have Xe : Hid (Tw2 da dl df dx w V.drew w.heap.size p #[.int .u64 (da : Int), .int .u64 (dl : Int), .bool sb]) := Xd.out.below (Below.refl _ _).drew
      have W2 : Hid (Wd Inv O F V.drew rb wb l) := W1.out.below m (Below.refl _ _).drew
      have HB2 : Hid (V.drew.heap[wb]? = some (.cells #[.pointer (some ⟨rb, 0, none⟩), .slice a n c] 260 (0, 0)) ∧ SegIn 0 V.drew (.slice a n c) l) := HB.out
      clear HB hS5
      refine wp_region_held_drew (S := fun Z => Z.cell? ⟨wb, 0, none⟩ = some (.pointer (some ⟨rb, 0, none⟩)) ∧ Z.cell? ⟨p, 0, none⟩ = some (.int .u64 (da : Int)) ∧ Z.cell? ⟨p, 1, none⟩ = some (.int .u64 (dl : Int)) ∧ Z.cell? ⟨p, 2, none⟩ = some (.bool sb)) (by kernel_rfl) ⟨cellOf HB2.out.1 0 _ rfl, cellOf Xe.out.2.1 0 _ rfl, cellOf Xe.out.2.1 1 _ rfl, cellOf Xe.out.2.1 2 _ rfl⟩ ?_
      intro hS
      clear Xd W1
      generalize V.drew = V2 at *
      refine wpAnyH_take (i := 0) (v := ?_) rfl (by kernel_rfl) (by kernel_rfl) (by kernel_rfl) (fun _ _ _ h => h) (Or.inl ⟨by kernel_rfl, ?_⟩) hS ?_
      rotate_left
      · intro w hSw; (try dsimp only at hSw); go_simp; try (with_reducible rfl)
      (try simp only [Act.put, List.getElem_toArray, List.getElem_cons_succ, List.getElem_cons_zero, List.setIfInBounds_toArray, List.set_cons_zero, List.set_cons_succ])
      refine wpAnyH_take (i := 1) (v := ?_) rfl (by kernel_rfl) (by kernel_rfl) (by kernel_rfl) (fun _ _ _ h => h) (Or.inl ⟨by kernel_rfl, ?_⟩) hS ?_
      rotate_left
      · intro w hSw; (try dsimp only at hSw); go_simp; try (with_reducible rfl)
      (try simp only [Act.put, List.getElem_toArray, List.getElem_cons_succ, List.getElem_cons_zero, List.setIfInBounds_toArray, List.set_cons_zero, List.set_cons_succ])
      refine wpAnyH_take (i := 2) (v := ?_) rfl (by kernel_rfl) (by kernel_rfl) (by kernel_rfl) (fun _ _ _ h => h) (Or.inl ⟨by kernel_rfl, ?_⟩) hS ?_
      rotate_left
      · intro w hSw; (try dsimp only at hSw); go_simp; try (with_reducible rfl)
      (try simp only [Act.put, List.getElem_toArray, List.getElem_cons_succ, List.getElem_cons_zero, List.setIfInBounds_toArray, List.set_cons_zero, List.set_cons_succ])
      refine wpAnyH_take (i := 3) (v := ?_) rfl (by kernel_rfl) (by kernel_rfl) (by kernel_rfl) (fun _ _ _ h => h) (Or.inl ⟨by kernel_rfl, ?_⟩) hS ?_
      rotate_left
      · intro w hSw; (try dsimp only at hSw); go_simp; try (with_reducible rfl)
      (try simp only [Act.put, List.getElem_toArray, List.getElem_cons_succ, List.getElem_cons_zero, List.setIfInBounds_toArray, List.set_cons_zero, List.set_cons_succ])
      refine wpAnyH_take (i := 5) (v := ?_) rfl (by kernel_rfl) (by kernel_rfl) (by kernel_rfl) (fun _ _ _ h => h) (Or.inl ⟨by kernel_rfl, ?_⟩) hS ?_
      rotate_left
      · intro w hSw; (try dsimp only at hSw); go_simp; try (with_reducible rfl)
      (try simp only [Act.put, List.getElem_toArray, List.getElem_cons_succ, List.getElem_cons_zero, List.setIfInBounds_toArray, List.set_cons_zero, List.set_cons_succ])
      refine wpAnyH_ready (rs := [4, 6]) (by kernel_rfl) (by simp) ?_
      refine AllReadyH.cons rfl (fun K1 hK1 => ?_) (AllReadyH.cons rfl (fun K1 hK1 => ?_) AllReadyH.nil)
      · have m1 := cellOf HB2.out.1 1 _ rfl
        go_simp
        refine hK1.out _ _ ⟨cellOf HB2.out.1 0 _ rfl, cellOf Xe.out.2.1 0 _ rfl, cellOf Xe.out.2.1 1 _ rfl, cellOf Xe.out.2.1 2 _ rfl⟩ (fun h2 => ?_)
        clear hK1 K1 hS m1
        (try simp only [Act.put, List.getElem_toArray, List.getElem_cons_succ, List.getElem_cons_zero, List.setIfInBounds_toArray, List.set_cons_zero, List.set_cons_succ])
        refine wpAnyH_ready (rs := [6]) (by kernel_rfl) (by simp) ?_
        refine AllReadyH.cons rfl (fun K1 hK1 => ?_) AllReadyH.nil
        go_simp
        have hb3 : Below V2.heap.size V2 (V2.alloc (.cells #[.int .u64 (da : Int), .int .u64 (dl : Int), .bool sb] 62)) := (Below.refl _ _).alloc (Nat.le_refl _) _
        have W3 : Hid (Wd Inv O F (V2.alloc (.cells #[.int .u64 (da : Int), .int .u64 (dl : Int), .bool sb] 62)) rb wb l) := W2.out.below m hb3
        have Xf : Hid (Tw2 da dl df dx w (V2.alloc (.cells #[.int .u64 (da : Int), .int .u64 (dl : Int), .bool sb] 62)) w.heap.size p #[.int .u64 (da : Int), .int .u64 (dl : Int), .bool sb]) := Xe.out.below hb3
        have HB3 : Hid ((V2.alloc (.cells #[.int .u64 (da : Int), .int .u64 (dl : Int), .bool sb] 62)).heap[wb]? = some (.cells #[.pointer (some ⟨rb, 0, none⟩), .slice a n c] 260 (0, 0)) ∧ SegIn 0 (V2.alloc (.cells #[.int .u64 (da : Int), .int .u64 (dl : Int), .bool sb] 62)) (.slice a n c) l) := ⟨below_box HB2.out.1 hb3, HB2.out.2.kept (fun g hg => hb3.block g (HB2.out.2.lt g hg).2)⟩
        have N3 := three_new V2 (.int .u64 (da : Int)) (.int .u64 (dl : Int)) (.bool sb) 62
        have HN3 : Hid (∀ j u, [Value.int .u64 (da : Int), .int .u64 (dl : Int), .bool sb][j]? = some u → (V2.alloc (.cells #[.int .u64 (da : Int), .int .u64 (dl : Int), .bool sb] 62)).cell? ((⟨V2.heap.size, 0, none⟩ : Addr).add j) = some u) := N3
        clear hb3 N3 W2 Xe HB2
        generalize V2.alloc (.cells #[.int .u64 (da : Int), .int .u64 (dl : Int), .bool sb] 62) = V3 at *
        generalize V2.heap.size = gb at *
        refine hK1.out _ _ ⟨cellOf HB3.out.1 0 _ rfl, cellOf Xf.out.2.1 0 _ rfl, cellOf Xf.out.2.1 1 _ rfl, cellOf Xf.out.2.1 2 _ rfl⟩ (fun h3 => ?_)
        clear hK1 K1 h2
        (try simp only [Act.put, List.getElem_toArray, List.getElem_cons_succ, List.getElem_cons_zero, List.setIfInBounds_toArray, List.set_cons_zero, List.set_cons_succ])
        refine wpAnyH_ready (rs := [7]) (by kernel_rfl) (by simp) ?_
        refine AllReadyH.cons rfl (fun K1 hK1 => ?_) AllReadyH.nil
        rw [if_pos (by kernel_rfl)]
        refine wp_append_lies V3 _ _ 40 rfl 0 62 i0 (.agg #[.int .u64 0, .int .u64 0, .bool false]) 3 24 Try.underlying40 hi hz0 hz1 hz2 rfl (by decide) (.slice a n c) n (segRow l) rfl (by have := HB3.out.2; unfold SegIn at this; rw [HN.out.1] at this; exact this) ⟨gb, 0, none⟩ 1 1 [.int .u64 (da : Int), .int .u64 (dl : Int), .bool sb] rfl rfl HN3.out (by intro u hu; simp at hu; rcases hu with rfl | rfl | rfl <;> rfl) (by omega) (by unfold maxLen; omega) (by omega) (Nat.zero_le _) V3.heap.size rfl ?_
        intro g cap w1 hown hgrow hat hlt
        have D1 : Hid (w1.heap[wb]? = some (.cells #[.pointer (some ⟨rb, 0, none⟩), .slice a n c] 260 (0, 0)) ∧ w1.heap[p]? = some (.cells #[.int .u64 (da : Int), .int .u64 (dl : Int), .bool sb] 62 (0, 0))) := ⟨(hgrow.block wb W3.out.lt (fun e => (HP.out wb e.symm).1 rfl)).trans HB3.out.1, (hgrow.block p (Array.getElem?_eq_some_iff.1 Xf.out.2.1).1 (fun e => (HP.out p e.symm).2 rfl)).trans Xf.out.2.1⟩
        have HM : Hid (Wd Inv O F (w1.setCell ⟨wb, 1, none⟩ (.slice (some ⟨g, 0, none⟩) (n + 1) cap)) rb wb (l ++ [⟨da, dl, sb⟩]) ∧ Fly O F V3 F (w1.setCell ⟨wb, 1, none⟩ (.slice (some ⟨g, 0, none⟩) (n + 1) cap))) := by
          obtain ⟨hn, _⟩ := HN.out
          subst hn
          exact W3.out.more m HB3.out.1 (s := ⟨da, dl, sb⟩) hown hgrow (hat.imp id (fun e => by omega))
        clear hown hgrow hat hlt
        refine hK1.out _ _ ⟨cellOf D1.out.1 0 _ rfl, cellOf D1.out.2 0 _ rfl, cellOf D1.out.2 1 _ rfl, cellOf D1.out.2 2 _ rfl⟩ (fun h4 => ?_)
        clear hK1 K1 h3
        (try simp only [Act.put, List.getElem_toArray, List.getElem_cons_succ, List.getElem_cons_zero, List.setIfInBounds_toArray, List.set_cons_zero, List.set_cons_succ])
        refine wpAnyH_take (i := 8) (v := ?_) rfl (by kernel_rfl) (by kernel_rfl) (by kernel_rfl) (fun _ _ _ h => h) (Or.inl ⟨by kernel_rfl, ?_⟩) h4 ?_
        rotate_left
        · intro w hSw; (try dsimp only at hSw); go_simp; try (with_reducible rfl)
        (try simp only [Act.put, List.getElem_toArray, List.getElem_cons_succ, List.getElem_cons_zero, List.setIfInBounds_toArray, List.set_cons_zero, List.set_cons_succ])
        refine wpAnyH_take (i := 9) (v := ?_) rfl (by kernel_rfl) (by kernel_rfl) (by kernel_rfl) (fun _ _ _ h => h) (Or.inl ⟨by kernel_rfl, ?_⟩) h4 ?_
        rotate_left
        · intro w hSw; (try dsimp only at hSw); go_simp; try (with_reducible rfl)
        (try simp only [Act.put, List.getElem_toArray, List.getElem_cons_succ, List.getElem_cons_zero, List.setIfInBounds_toArray, List.set_cons_zero, List.set_cons_succ])
        refine wpAnyH_ready (rs := [10]) (by kernel_rfl) (by simp) ?_
        refine AllReadyH.cons rfl (fun K1 hK1 => ?_) AllReadyH.nil
        have m1 := cellOf D1.out.1 1 _ rfl
        have m2 := frozenOf D1.out.1 1
        go_simp
        have HF : Hid (Fly O F w F (w1.setCell ⟨wb, 1, none⟩ (.slice (some ⟨g, 0, none⟩) (n + 1) cap))) := (Fly.of_below Xf.out.2.2.2.2 HW.out.old).trans HM.out.2
        have HM2 : Hid (Wd Inv O F (w1.setCell ⟨wb, 1, none⟩ (.slice (some ⟨g, 0, none⟩) (n + 1) cap)) rb wb (l ++ [⟨da, dl, sb⟩]) ∧ (w1.setCell ⟨wb, 1, none⟩ (.slice (some ⟨g, 0, none⟩) (n + 1) cap)).heap[wb]? = some (.cells #[.pointer (some ⟨rb, 0, none⟩), .slice (some ⟨g, 0, none⟩) (n + 1) cap] 260 (0, 0)) ∧ (w1.setCell ⟨wb, 1, none⟩ (.slice (some ⟨g, 0, none⟩) (n + 1) cap)).heap[p]? = some (.cells #[.int .u64 (da : Int), .int .u64 (dl : Int), .bool sb] 62 (0, 0))) := ⟨HM.out.1, setw_box D1.out.1, (heap_setCell _ _ _ _ _ HPW.out).trans D1.out.2⟩
        clear HM m1 m2
        generalize w1.setCell ⟨wb, 1, none⟩ (.slice (some ⟨g, 0, none⟩) (n + 1) cap) = w4 at *
        refine hK1.out _ _ ⟨cellOf HM2.out.2.1 0 _ rfl, cellOf HM2.out.2.2 0 _ rfl, cellOf HM2.out.2.2 1 _ rfl, cellOf HM2.out.2.2 2 _ rfl⟩ (fun h5 => ?_)
        clear hK1 K1 h4
        (try simp only [Act.put, List.getElem_toArray, List.getElem_cons_succ, List.getElem_cons_zero, List.setIfInBounds_toArray, List.set_cons_zero, List.set_cons_succ])
        refine wpAnyH_done (by kernel_rfl) ?_ _
        clear h5
        go_wp2_with fail
        go_ret
        exact ⟨rfl, HM2.out.1, HF.out⟩
      · have _hm : True := trivial
        go_simp
        have hb3 : Below V2.heap.size V2 (V2.alloc (.cells #[.int .u64 (da : Int), .int .u64 (dl : Int), .bool sb] 62)) := (Below.refl _ _).alloc (Nat.le_refl _) _
        have W3 : Hid (Wd Inv O F (V2.alloc (.cells #[.int .u64 (da : Int), .int .u64 (dl : Int), .bool sb] 62)) rb wb l) := W2.out.below m hb3
        have Xf : Hid (Tw2 da dl df dx w (V2.alloc (.cells #[.int .u64 (da : Int), .int .u64 (dl : Int), .bool sb] 62)) w.heap.size p #[.int .u64 (da : Int), .int .u64 (dl : Int), .bool sb]) := Xe.out.below hb3
        have HB3 : Hid ((V2.alloc (.cells #[.int .u64 (da : Int), .int .u64 (dl : Int), .bool sb] 62)).heap[wb]? = some (.cells #[.pointer (some ⟨rb, 0, none⟩), .slice a n c] 260 (0, 0)) ∧ SegIn 0 (V2.alloc (.cells #[.int .u64 (da : Int), .int .u64 (dl : Int), .bool sb] 62)) (.slice a n c) l) := ⟨below_box HB2.out.1 hb3, HB2.out.2.kept (fun g hg => hb3.block g (HB2.out.2.lt g hg).2)⟩
        have N3 := three_new V2 (.int .u64 (da : Int)) (.int .u64 (dl : Int)) (.bool sb) 62
        have HN3 : Hid (∀ j u, [Value.int .u64 (da : Int), .int .u64 (dl : Int), .bool sb][j]? = some u → (V2.alloc (.cells #[.int .u64 (da : Int), .int .u64 (dl : Int), .bool sb] 62)).cell? ((⟨V2.heap.size, 0, none⟩ : Addr).add j) = some u) := N3
        clear hb3 N3 W2 Xe HB2
        generalize V2.alloc (.cells #[.int .u64 (da : Int), .int .u64 (dl : Int), .bool sb] 62) = V3 at *
        generalize V2.heap.size = gb at *
        refine hK1.out _ _ ⟨cellOf HB3.out.1 0 _ rfl, cellOf Xf.out.2.1 0 _ rfl, cellOf Xf.out.2.1 1 _ rfl, cellOf Xf.out.2.1 2 _ rfl⟩ (fun h3 => ?_)
        clear hK1 K1 hS
        (try simp only [Act.put, List.getElem_toArray, List.getElem_cons_succ, List.getElem_cons_zero, List.setIfInBounds_toArray, List.set_cons_zero, List.set_cons_succ])
        refine wpAnyH_ready (rs := [4]) (by kernel_rfl) (by simp) ?_
        refine AllReadyH.cons rfl (fun K1 hK1 => ?_) AllReadyH.nil
        have m1 := cellOf HB3.out.1 1 _ rfl
        go_simp
        refine hK1.out _ _ ⟨cellOf HB3.out.1 0 _ rfl, cellOf Xf.out.2.1 0 _ rfl, cellOf Xf.out.2.1 1 _ rfl, cellOf Xf.out.2.1 2 _ rfl⟩ (fun h33 => ?_)
        clear hK1 K1 h3 m1
        (try simp only [Act.put, List.getElem_toArray, List.getElem_cons_succ, List.getElem_cons_zero, List.setIfInBounds_toArray, List.set_cons_zero, List.set_cons_succ])
        have h3 := h33
        clear h33
        refine wpAnyH_ready (rs := [7]) (by kernel_rfl) (by simp) ?_
        refine AllReadyH.cons rfl (fun K1 hK1 => ?_) AllReadyH.nil
        rw [if_pos (by kernel_rfl)]
        refine wp_append_lies V3 _ _ 40 rfl 0 62 i0 (.agg #[.int .u64 0, .int .u64 0, .bool false]) 3 24 Try.underlying40 hi hz0 hz1 hz2 rfl (by decide) (.slice a n c) n (segRow l) rfl (by have := HB3.out.2; unfold SegIn at this; rw [HN.out.1] at this; exact this) ⟨gb, 0, none⟩ 1 1 [.int .u64 (da : Int), .int .u64 (dl : Int), .bool sb] rfl rfl HN3.out (by intro u hu; simp at hu; rcases hu with rfl | rfl | rfl <;> rfl) (by omega) (by unfold maxLen; omega) (by omega) (Nat.zero_le _) V3.heap.size rfl ?_
        intro g cap w1 hown hgrow hat hlt
        have D1 : Hid (w1.heap[wb]? = some (.cells #[.pointer (some ⟨rb, 0, none⟩), .slice a n c] 260 (0, 0)) ∧ w1.heap[p]? = some (.cells #[.int .u64 (da : Int), .int .u64 (dl : Int), .bool sb] 62 (0, 0))) := ⟨(hgrow.block wb W3.out.lt (fun e => (HP.out wb e.symm).1 rfl)).trans HB3.out.1, (hgrow.block p (Array.getElem?_eq_some_iff.1 Xf.out.2.1).1 (fun e => (HP.out p e.symm).2 rfl)).trans Xf.out.2.1⟩
        have HM : Hid (Wd Inv O F (w1.setCell ⟨wb, 1, none⟩ (.slice (some ⟨g, 0, none⟩) (n + 1) cap)) rb wb (l ++ [⟨da, dl, sb⟩]) ∧ Fly O F V3 F (w1.setCell ⟨wb, 1, none⟩ (.slice (some ⟨g, 0, none⟩) (n + 1) cap))) := by
          obtain ⟨hn, _⟩ := HN.out
          subst hn
          exact W3.out.more m HB3.out.1 (s := ⟨da, dl, sb⟩) hown hgrow (hat.imp id (fun e => by omega))
        clear hown hgrow hat hlt
        refine hK1.out _ _ ⟨cellOf D1.out.1 0 _ rfl, cellOf D1.out.2 0 _ rfl, cellOf D1.out.2 1 _ rfl, cellOf D1.out.2 2 _ rfl⟩ (fun h4 => ?_)
        clear hK1 K1 h3
        (try simp only [Act.put, List.getElem_toArray, List.getElem_cons_succ, List.getElem_cons_zero, List.setIfInBounds_toArray, List.set_cons_zero, List.set_cons_succ])
        refine wpAnyH_take (i := 8) (v := ?_) rfl (by kernel_rfl) (by kernel_rfl) (by kernel_rfl) (fun _ _ _ h => h) (Or.inl ⟨by kernel_rfl, ?_⟩) h4 ?_
        rotate_left
        · intro w hSw; (try dsimp only at hSw); go_simp; try (with_reducible rfl)
        (try simp only [Act.put, List.getElem_toArray, List.getElem_cons_succ, List.getElem_cons_zero, List.setIfInBounds_toArray, List.set_cons_zero, List.set_cons_succ])
        refine wpAnyH_take (i := 9) (v := ?_) rfl (by kernel_rfl) (by kernel_rfl) (by kernel_rfl) (fun _ _ _ h => h) (Or.inl ⟨by kernel_rfl, ?_⟩) h4 ?_
        rotate_left
        · intro w hSw; (try dsimp only at hSw); go_simp; try (with_reducible rfl)
        (try simp only [Act.put, List.getElem_toArray, List.getElem_cons_succ, List.getElem_cons_zero, List.setIfInBounds_toArray, List.set_cons_zero, List.set_cons_succ])
        refine wpAnyH_ready (rs := [10]) (by kernel_rfl) (by simp) ?_
        refine AllReadyH.cons rfl (fun K1 hK1 => ?_) AllReadyH.nil
        have m1 := cellOf D1.out.1 1 _ rfl
        have m2 := frozenOf D1.out.1 1
        go_simp
        have HF : Hid (Fly O F w F (w1.setCell ⟨wb, 1, none⟩ (.slice (some ⟨g, 0, none⟩) (n + 1) cap))) := (Fly.of_below Xf.out.2.2.2.2 HW.out.old).trans HM.out.2
        have HM2 : Hid (Wd Inv O F (w1.setCell ⟨wb, 1, none⟩ (.slice (some ⟨g, 0, none⟩) (n + 1) cap)) rb wb (l ++ [⟨da, dl, sb⟩]) ∧ (w1.setCell ⟨wb, 1, none⟩ (.slice (some ⟨g, 0, none⟩) (n + 1) cap)).heap[wb]? = some (.cells #[.pointer (some ⟨rb, 0, none⟩), .slice (some ⟨g, 0, none⟩) (n + 1) cap] 260 (0, 0)) ∧ (w1.setCell ⟨wb, 1, none⟩ (.slice (some ⟨g, 0, none⟩) (n + 1) cap)).heap[p]? = some (.cells #[.int .u64 (da : Int), .int .u64 (dl : Int), .bool sb] 62 (0, 0))) := ⟨HM.out.1, setw_box D1.out.1, (heap_setCell _ _ _ _ _ HPW.out).trans D1.out.2⟩
        clear HM m1 m2
        generalize w1.setCell ⟨wb, 1, none⟩ (.slice (some ⟨g, 0, none⟩) (n + 1) cap) = w4 at *
        refine hK1.out _ _ ⟨cellOf HM2.out.2.1 0 _ rfl, cellOf HM2.out.2.2 0 _ rfl, cellOf HM2.out.2.2 1 _ rfl, cellOf HM2.out.2.2 2 _ rfl⟩ (fun h5 => ?_)
        clear hK1 K1 h4
        (try simp only [Act.put, List.getElem_toArray, List.getElem_cons_succ, List.getElem_cons_zero, List.setIfInBounds_toArray, List.set_cons_zero, List.set_cons_succ])
        refine wpAnyH_done (by kernel_rfl) ?_ _
        clear h5
        go_wp2_with fail
        go_ret
        exact ⟨rfl, HM2.out.1, HF.out⟩
end Go.Proofs.Ytlkhjekakbckmaa

/- A walk along one table. -/
namespace Go.Proofs.Ytlkhjekakbckmaa
open Go.RowKit Go.Maps
set_option linter.unusedVariables false
set_option linter.unusedSimpArgs false
set_option maxRecDepth 100000
theorem wrapi (y : Nat) (h : y < 9223372036854775808) : IntKind.i64.wrap (y : Int) = (y : Int) := by
  simp [IntKind.wrap, IntKind.signed, IntKind.bits]
  omega
/-- what Desc tells of the descriptors of one table -/
def DescOk (rb : Nat) (M : Nat → Nat) (Inv : (Nat → Prop) → World → Prop) (t n : Nat) : Prop := ∀ (F : Nat → Prop) (w : World) (i : Nat), i < n → Inv F w → Calls Try.prog 164 #[.pointer (some ⟨rb, 0, none⟩), .int .u64 (t : Int), .int .i64 (i : Int)] w fun e w' => e = .returned (.tuple #[.agg #[.int .u64 ((deN M t i).a : Int), .int .u32 ((deN M t i).l : Int), .int .u16 ((deN M t i).f : Int), .int .u16 ((deN M t i).x : Int)], .bool (deB t i)]) ∧ ∃ F', Inv F' w' ∧ Step F w F' w'
def AlS (rb wb : Nat) (M : Nat → Nat) (Inv : (Nat → Prop) → World → Prop) (O F : Nat → Prop) (w w1 : World) (t n : Nat) (i : Int) (l : List Seg) (k : Nat) (i' : Int) (l' : List Seg) (F' : Nat → Prop) (V : World) : Prop := alongR M t n n i l = alongR M t n (n - k) i' l' ∧ Wd Inv (fun k => O k ∨ k = w.heap.size) F' V rb wb l' ∧ Fly (fun k => O k ∨ k = w.heap.size) F w1 F' V ∧ V.heap[w.heap.size]? = some (.cells #[.int .u64 0, .int .u32 0, .int .u16 0, .int .u16 0] 94 (0, 0)) ∧ ¬ F' w.heap.size ∧ l'.length ≤ 300 + k
theorem AlS.told {rb wb : Nat} {M : Nat → Nat} {Inv : (Nat → Prop) → World → Prop} {O F : Nat → Prop} {w w1 : World} {t n : Nat} {i : Int} {l : List Seg} {k : Nat} {i' : Int} {l' : List Seg} {F' F2 : Nat → Prop} {V V2 : World} (h : AlS rb wb M Inv O F w w1 t n i l k i' l' F' V) (hi : Inv F2 V2) (hs : Step F' V F2 V2) : AlS rb wb M Inv O F w w1 t n i l k i' l' F2 V2 := by
  obtain ⟨h1, h2, h3, h4, h5, h6⟩ := h
  have hlt : w.heap.size < V.heap.size := (Array.getElem?_eq_some_iff.1 h4).1
  refine ⟨h1, h2.told hi hs, h3.trans (Fly.of_step hs h2.old), (hs.block _ hlt h5).trans h4, fun hf => ?_, h6⟩
  rcases hs.old _ hf with h | h
  · exact h5 h
  · omega
theorem AlS.below {rb wb : Nat} {M : Nat → Nat} {Inv : (Nat → Prop) → World → Prop} {O F : Nat → Prop} {w w1 : World} {t n : Nat} {i : Int} {l : List Seg} {k : Nat} {i' : Int} {l' : List Seg} {F' : Nat → Prop} {V V2 : World} (m : Wm rb M Inv) (h : AlS rb wb M Inv O F w w1 t n i l k i' l' F' V) (hb : Below V.heap.size V V2) : AlS rb wb M Inv O F w w1 t n i l k i' l' F' V2 := h.told (m.below h.2.1.1 hb) (Step.of_below hb)
theorem AlS.ret {rb wb : Nat} {M : Nat → Nat} {Inv : (Nat → Prop) → World → Prop} {O F : Nat → Prop} {w w1 : World} {t n : Nat} {i : Int} {l : List Seg} {k : Nat} {i' : Int} {l' : List Seg} {F' : Nat → Prop} {V : World} (m : Wm rb M Inv) (hO : ∀ k, O k → k < w.heap.size) (h : AlS rb wb M Inv O F w w1 t n i l k i' l' F' V) (c : Array Value) : Wd Inv O F' (V.setRow w.heap.size c) rb wb l' ∧ Fly O F w1 F' (V.setRow w.heap.size c) ∧ (V.setRow w.heap.size c).heap[w.heap.size]? = some (.cells c 94 (0, 0)) := by
  obtain ⟨h1, h2, h3, h4, h5, h6⟩ := h
  have hsz : (V.setRow w.heap.size c).heap.size = V.heap.size := by simp [World.setRow]
  have hst : Step (fun k => k = w.heap.size) V (fun k => k = w.heap.size) (V.setRow w.heap.size c) := ⟨rfl, rfl, rfl, by omega, fun k _ hk => setRow_other _ _ _ _ hk, fun _ h => .inl h, fun _ h => h⟩
  obtain ⟨k1, k2, k3, v, k4, k5, k6⟩ := h2
  refine ⟨⟨m.step F' V _ _ _ k1 hst (fun k hk e => h5 (e ▸ hk)), ⟨fun k hk => by rw [hsz]; exact k2.1 k (.inl hk), fun hk => k2.2 (.inl hk)⟩, k3, v, (setRow_other _ _ _ _ (fun e => k2.2 (.inr e))).trans k4, k5.kept (fun g hg => setRow_other _ _ _ _ (fun e => (k6 g hg).2.2 (.inr e))), fun g hg => ⟨(k6 g hg).1, (k6 g hg).2.1, fun hk => (k6 g hg).2.2 (.inl hk)⟩⟩, (h3.mono (fun k hk => .inl hk)).trans ⟨rfl, rfl, rfl, by omega, fun k hk _ => setRow_other _ _ _ _ (fun e => by have := hO k hk; omega), fun _ h => .inl h, fun _ h => h⟩, setRow_heap _ _ _ _ _ _ h4⟩
def Al3 (rb wb : Nat) (Inv : (Nat → Prop) → World → Prop) (O F : Nat → Prop) (w w1 : World) (l' : List Seg) (F' : Nat → Prop) (V : World) (p da dl df dx : Nat) : Prop :=
  (True ∧ Wd Inv (fun k => O k ∨ k = w.heap.size) F' V rb wb l' ∧ Fly (fun k => O k ∨ k = w.heap.size) F w1 F' V ∧ V.heap[w.heap.size]? = some (.cells #[.int .u64 0, .int .u32 0, .int .u16 0, .int .u16 0] 94 (0, 0)) ∧ ¬ F' w.heap.size) ∧ V.heap[p]? = some (.cells #[.int .u64 (da : Int), .int .u32 (dl : Int), .int .u16 (df : Int), .int .u16 (dx : Int)] 94 (0, 0))
def Al2 (rb wb : Nat) (M : Nat → Nat) (Inv : (Nat → Prop) → World → Prop) (O F : Nat → Prop) (w w1 : World) (t n : Nat) (i : Int) (l : List Seg) (k : Nat) (i' : Int) (l' : List Seg) (F' : Nat → Prop) (V : World) (p da dl df dx : Nat) : Prop :=
  AlS rb wb M Inv O F w w1 t n i l k i' l' F' V ∧ V.heap[p]? = some (.cells #[.int .u64 (da : Int), .int .u32 (dl : Int), .int .u16 (df : Int), .int .u16 (dx : Int)] 94 (0, 0)) ∧ Wd Inv (fun z => (O z ∨ z = w.heap.size) ∨ z = p) F' V rb wb l' ∧ ¬ F' p
section
variable {rb wb : Nat} {M : Nat → Nat} {Inv : (Nat → Prop) → World → Prop} {O F : Nat → Prop} {w w1 : World} {t n : Nat} {i : Int} {l : List Seg} {k k' : Nat} {i' i2 : Int} {l' l2 : List Seg} {F' : Nat → Prop} {V V2 : World} {p da dl df dx : Nat}
theorem Al2.below (m : Wm rb M Inv) (h : Al2 rb wb M Inv O F w w1 t n i l k i' l' F' V p da dl df dx) (hb : Below V.heap.size V V2) : Al2 rb wb M Inv O F w w1 t n i l k i' l' F' V2 p da dl df dx := ⟨h.1.below m hb, below_box h.2.1 hb, h.2.2.1.below m hb, h.2.2.2⟩
theorem Al2.flew (h : Al2 rb wb M Inv O F w w1 t n i l k i' l' F' V p da dl df dx) (hw : Wd Inv (fun z => (O z ∨ z = w.heap.size) ∨ z = p) F' V2 rb wb l2) (hf : Fly (fun z => (O z ∨ z = w.heap.size) ∨ z = p) F' V F' V2) (he : alongR M t n n i l = alongR M t n (n - k') i2 l2) (hl : l2.length ≤ 300 + k') : Al2 rb wb M Inv O F w w1 t n i l k' i2 l2 F' V2 p da dl df dx :=
  ⟨⟨he, hw.mono (fun _ h => .inl h), h.1.2.2.1.trans (hf.mono (fun _ h => .inl h)), (hf.block _ (.inl (.inr rfl)) h.1.2.2.2.2.1).trans h.1.2.2.2.1, h.1.2.2.2.2.1, hl⟩, (hf.block _ (.inr rfl) h.2.2.2).trans h.2.1, hw, h.2.2.2⟩
theorem Al2.flew3 (h : Al2 rb wb M Inv O F w w1 t n i l k i' l' F' V p da dl df dx) (hw : Wd Inv (fun z => (O z ∨ z = w.heap.size) ∨ z = p) F' V2 rb wb l2) (hf : Fly (fun z => (O z ∨ z = w.heap.size) ∨ z = p) F' V F' V2) : Al3 rb wb Inv O F w w1 l2 F' V2 p da dl df dx :=
  ⟨⟨trivial, hw.mono (fun _ h => .inl h), h.1.2.2.1.trans (hf.mono (fun _ h => .inl h)), (hf.block _ (.inl (.inr rfl)) h.1.2.2.2.2.1).trans h.1.2.2.2.1, h.1.2.2.2.2.1⟩, (hf.block _ (.inr rfl) h.2.2.2).trans h.2.1⟩
theorem Al3.below (m : Wm rb M Inv) (h : Al3 rb wb Inv O F w w1 l' F' V p da dl df dx) (hb : Below V.heap.size V V2) : Al3 rb wb Inv O F w w1 l' F' V2 p da dl df dx :=
  ⟨⟨trivial, h.1.2.1.below m hb, h.1.2.2.1.trans (Fly.of_below hb h.1.2.1.old), below_box h.1.2.2.2.1 hb, h.1.2.2.2.2⟩, below_box h.2 hb⟩
theorem Al3.ret (m : Wm rb M Inv) (hO : ∀ k, O k → k < w.heap.size) (h : Al3 rb wb Inv O F w w1 l' F' V p da dl df dx) (c : Array Value) : Wd Inv O F' (V.setRow w.heap.size c) rb wb l' ∧ Fly O F w1 F' (V.setRow w.heap.size c) ∧ (V.setRow w.heap.size c).heap[w.heap.size]? = some (.cells c 94 (0, 0)) := by
  obtain ⟨⟨_, h2, h3, h4, h5⟩, _⟩ := h
  have hsz : (V.setRow w.heap.size c).heap.size = V.heap.size := by simp [World.setRow]
  have hst : Step (fun k => k = w.heap.size) V (fun k => k = w.heap.size) (V.setRow w.heap.size c) := ⟨rfl, rfl, rfl, by omega, fun k _ hk => setRow_other _ _ _ _ hk, fun _ h => .inl h, fun _ h => h⟩
  obtain ⟨k1, k2, k3, v, k4, k5, k6⟩ := h2
  refine ⟨⟨m.step F' V _ _ _ k1 hst (fun k hk e => h5 (e ▸ hk)), ⟨fun k hk => by rw [hsz]; exact k2.1 k (.inl hk), fun hk => k2.2 (.inl hk)⟩, k3, v, (setRow_other _ _ _ _ (fun e => k2.2 (.inr e))).trans k4, k5.kept (fun g hg => setRow_other _ _ _ _ (fun e => (k6 g hg).2.2 (.inr e))), fun g hg => ⟨(k6 g hg).1, (k6 g hg).2.1, fun hk => (k6 g hg).2.2 (.inl hk)⟩⟩, (h3.mono (fun k hk => .inl hk)).trans ⟨rfl, rfl, rfl, by omega, fun k hk _ => setRow_other _ _ _ _ (fun e => by have := hO k hk; omega), fun _ h => .inl h, fun _ h => h⟩, setRow_heap _ _ _ _ _ _ h4⟩
theorem Al2.to3 (h : Al2 rb wb M Inv O F w w1 t n i l k i' l' F' V p da dl df dx) : Al3 rb wb Inv O F w w1 l' F' V p da dl df dx := ⟨⟨trivial, h.1.2.1, h.1.2.2.1, h.1.2.2.2.1, h.1.2.2.2.2.1⟩, h.2.1⟩
theorem AlS.to (h : AlS rb wb M Inv O F w w1 t n i l k i' l' F' V) : True ∧ Wd Inv (fun k => O k ∨ k = w.heap.size) F' V rb wb l' ∧ Fly (fun k => O k ∨ k = w.heap.size) F w1 F' V ∧ V.heap[w.heap.size]? = some (.cells #[.int .u64 0, .int .u32 0, .int .u16 0, .int .u16 0] 94 (0, 0)) ∧ ¬ F' w.heap.size := ⟨trivial, h.2.1, h.2.2.1, h.2.2.2.1, h.2.2.2.2.1⟩
end
set_option maxHeartbeats 4000000 in
theorem along_any {rb wb : Nat} {M : Nat → Nat} {Inv : (Nat → Prop) → World → Prop} {O F : Nat → Prop} {w : World} {l : List Seg} (m : Wm rb M Inv) (hM : ∀ a, M a ≤ 255) (t n : Nat) (hn : n ≤ 256) (hD : DescOk rb M Inv t n) (h : Wd Inv O F w rb wb l) (hl : l.length ≤ 300) (i : Int) :
    Calls Try.prog 161 #[.pointer (some ⟨wb, 0, none⟩), .int .u64 (t : Int), .int .i64 (n : Int), .int .i64 i] w fun e w' => e = .returned (.tuple #[.agg #[.int .u64 ((alongR M t n n i l).d.a : Int), .int .u32 ((alongR M t n n i l).d.l : Int), .int .u16 ((alongR M t n n i l).d.f : Int), .int .u16 ((alongR M t n n i l).d.x : Int)], .int .i64 ((alongR M t n n i l).e : Int)]) ∧ ∃ F', Wd Inv O F' w' rb wb (alongR M t n n i l).l ∧ Fly O F w F' w' := by
  obtain ⟨r, hr⟩ : ∃ r, alongR M t n n i l = r := ⟨_, rfl⟩
  rw [hr]
  have hb0 : Below w.heap.size w (w.alloc (.cells #[.int .u64 0, .int .u32 0, .int .u16 0, .int .u16 0] 94)) := (Below.refl _ _).alloc (Nat.le_refl _) _
  have A0 : Hid (AlS rb wb M Inv O F w (w.alloc (.cells #[.int .u64 0, .int .u32 0, .int .u16 0, .int .u16 0] 94)) t n i l 0 i l F (w.alloc (.cells #[.int .u64 0, .int .u32 0, .int .u16 0, .int .u16 0] 94))) := ⟨rfl, h.box m hb0 (Nat.le_refl _) (by simp), Fly.refl _ _ _, heap_alloc_new _ _, fun hf => by have := m.lt F w h.1 _ hf; omega, by omega⟩
  have HF0 : Hid (Fly O F w F (w.alloc (.cells #[.int .u64 0, .int .u32 0, .int .u16 0, .int .u16 0] 94))) := Fly.of_below hb0 h.old
  have HR : Hid (alongR M t n n i l = r) := hr
  have HOO : Hid (∀ k, O k → k < w.heap.size) := h.old
  have HMD : Hid ((∀ a, M a ≤ 255) ∧ DescOk rb M Inv t n) := ⟨hM, hD⟩
  clear hr hb0 h hM hD hl
  go_enter Try.func161, Try.ntmps161
  go_upto_region 1 with fail
  generalize w.alloc (.cells #[.int .u64 0, .int .u32 0, .int .u16 0, .int .u16 0] 94) = w1 at *
  go_wp2_with fail
  go_loopw [3, 10] (fun v3 v10 wr => ∃ (k : Nat) (i' : Int) (l' : List Seg) (F' : Nat → Prop), v3 = .int .i64 i' ∧ v10 = .int .i64 (k : Int) ∧ k ≤ n ∧ AlS rb wb M Inv O F w w1 t n i l k i' l' F' wr) (fun _ v10 _ => n - (intOf v10).toNat)
  case atStart => exact ⟨0, i, l, F, rfl, rfl, Nat.zero_le _, A0.out⟩
  case round =>
    obtain ⟨k, i', l', F', rfl, rfl, hk, ha⟩ := hrel
    have A1 : Hid (AlS rb wb M Inv O F w w1 t n i l k i' l' F' wr) := ha
    clear ha A0
    by_cases hi : 0 ≤ i' ∧ i' < (n : Int)
    case neg =>
      have HRR : Hid (r = ⟨151, De.zero, l'⟩) := by
        show r = _
        rw [← HR.out, A1.out.1]
        exact along_out hi
      by_cases h1 : i' < 0
      · clear hi
        go_upto_region 4 with fail
        refine wp_region_list ?_
        (refine wpList_step (fun KK hKK => ?_); go_simp; refine hKK _ _ ?_; clear hKK KK)
        refine wpList_store_row rfl 94 _ _ rfl w.heap.size #[.int .u64 0, .int .u32 0, .int .u16 0, .int .u16 0] rfl rfl 94 #[.int .u64 0, .int .u32 0, .int .u16 0, .int .u16 0] A1.out.2.2.2.1 info47 rfl (by simp [Value.oneCell']) ?_
        have Y := (A1.out).ret m HOO.out #[.int .u64 0, .int .u32 0, .int .u16 0, .int .u16 0]
        have HY : Hid (Wd Inv O F' (wr.setRow w.heap.size #[.int .u64 0, .int .u32 0, .int .u16 0, .int .u16 0]) rb wb l' ∧ Fly O F w1 F' (wr.setRow w.heap.size #[.int .u64 0, .int .u32 0, .int .u16 0, .int .u16 0]) ∧ (wr.setRow w.heap.size #[.int .u64 0, .int .u32 0, .int .u16 0, .int .u16 0]).heap[w.heap.size]? = some (.cells #[.int .u64 0, .int .u32 0, .int .u16 0, .int .u16 0] 94 (0, 0))) := Y
        clear Y
        generalize wr.setRow w.heap.size #[.int .u64 0, .int .u32 0, .int .u16 0, .int .u16 0] = w9 at *
        obtain ⟨c0, c1, c2, c3⟩ := box4_facts HY.out.2.2
        go_wp2_with fail
        refine bodyPost_ret (v := .tuple #[.agg #[.int .u64 0, .int .u32 0, .int .u16 0, .int .u16 0], .int .i64 151]) (by simp [results, Try.results161, go_sem, c0, c1, c2, c3]) rfl ?_
        rw [HRR.out]
        exact ⟨rfl, F', HY.out.1, HF0.out.trans HY.out.2.1⟩
      · have h2 : (n : Int) ≤ i' := by omega
        clear hi
        go_upto_region 4 with fail
        refine wp_region_list ?_
        (refine wpList_step (fun KK hKK => ?_); go_simp; refine hKK _ _ ?_; clear hKK KK)
        refine wpList_store_row rfl 94 _ _ rfl w.heap.size #[.int .u64 0, .int .u32 0, .int .u16 0, .int .u16 0] rfl rfl 94 #[.int .u64 0, .int .u32 0, .int .u16 0, .int .u16 0] A1.out.2.2.2.1 info47 rfl (by simp [Value.oneCell']) ?_
        have Y := (A1.out).ret m HOO.out #[.int .u64 0, .int .u32 0, .int .u16 0, .int .u16 0]
        have HY : Hid (Wd Inv O F' (wr.setRow w.heap.size #[.int .u64 0, .int .u32 0, .int .u16 0, .int .u16 0]) rb wb l' ∧ Fly O F w1 F' (wr.setRow w.heap.size #[.int .u64 0, .int .u32 0, .int .u16 0, .int .u16 0]) ∧ (wr.setRow w.heap.size #[.int .u64 0, .int .u32 0, .int .u16 0, .int .u16 0]).heap[w.heap.size]? = some (.cells #[.int .u64 0, .int .u32 0, .int .u16 0, .int .u16 0] 94 (0, 0))) := Y
        clear Y
        generalize wr.setRow w.heap.size #[.int .u64 0, .int .u32 0, .int .u16 0, .int .u16 0] = w9 at *
        obtain ⟨c0, c1, c2, c3⟩ := box4_facts HY.out.2.2
        go_wp2_with fail
        refine bodyPost_ret (v := .tuple #[.agg #[.int .u64 0, .int .u32 0, .int .u16 0, .int .u16 0], .int .i64 151]) (by simp [results, Try.results161, go_sem, c0, c1, c2, c3]) rfl ?_
        rw [HRR.out]
        exact ⟨rfl, F', HY.out.1, HF0.out.trans HY.out.2.1⟩
    obtain ⟨j, hj⟩ : ∃ j : Nat, i' = j := ⟨i'.toNat, by omega⟩
    subst hj
    have h1 : ¬ (j : Int) < 0 := by omega
    have h2 : ¬ (n : Int) ≤ (j : Int) := by omega
    have hjn : j < n := by omega
    clear hi
    by_cases hkn : k = n
    case pos =>
      have HRR : Hid (r = ⟨152, De.zero, l'⟩) := by
        show r = _
        rw [← HR.out, A1.out.1, hkn, Nat.sub_self]
        exact along_loop (by omega)
      have h3 : (n : Int) ≤ (k : Int) := by omega
      clear hkn
      go_upto_region 6 with fail
      refine wp_region_list ?_
      (refine wpList_step (fun KK hKK => ?_); go_simp; refine hKK _ _ ?_; clear hKK KK)
      refine wpList_store_row rfl 94 _ _ rfl w.heap.size #[.int .u64 0, .int .u32 0, .int .u16 0, .int .u16 0] rfl rfl 94 #[.int .u64 0, .int .u32 0, .int .u16 0, .int .u16 0] A1.out.2.2.2.1 info47 rfl (by simp [Value.oneCell']) ?_
      have Y := (A1.out).ret m HOO.out #[.int .u64 0, .int .u32 0, .int .u16 0, .int .u16 0]
      have HY : Hid (Wd Inv O F' (wr.setRow w.heap.size #[.int .u64 0, .int .u32 0, .int .u16 0, .int .u16 0]) rb wb l' ∧ Fly O F w1 F' (wr.setRow w.heap.size #[.int .u64 0, .int .u32 0, .int .u16 0, .int .u16 0]) ∧ (wr.setRow w.heap.size #[.int .u64 0, .int .u32 0, .int .u16 0, .int .u16 0]).heap[w.heap.size]? = some (.cells #[.int .u64 0, .int .u32 0, .int .u16 0, .int .u16 0] 94 (0, 0))) := Y
      clear Y
      generalize wr.setRow w.heap.size #[.int .u64 0, .int .u32 0, .int .u16 0, .int .u16 0] = w9 at *
      obtain ⟨c0, c1, c2, c3⟩ := box4_facts HY.out.2.2
      go_wp2_with fail
      refine bodyPost_ret (v := .tuple #[.agg #[.int .u64 0, .int .u32 0, .int .u16 0, .int .u16 0], .int .i64 152]) (by simp [results, Try.results161, go_sem, c0, c1, c2, c3]) rfl ?_
      rw [HRR.out]
      exact ⟨rfl, F', HY.out.1, HF0.out.trans HY.out.2.1⟩
    have h3 : ¬ (n : Int) ≤ (k : Int) := by omega
    obtain ⟨q, hq⟩ : ∃ q, n - k = q + 1 := ⟨n - k - 1, by omega⟩
    have A1' : Hid (AlS rb wb M Inv O F w w1 t n i l k (j : Int) l' F' wr ∧ n - k = q + 1) := ⟨A1.out, hq⟩
    clear A1 hq
    have p0 : wr.cell? ⟨wb, 0, none⟩ = some (.pointer (some ⟨rb, 0, none⟩)) := by
      obtain ⟨a, c, hwb, _⟩ := A1'.out.1.2.1.boxes
      exact cellOf hwb 0 _ rfl
    obtain ⟨⟨da, dl, df, dx⟩, hde⟩ : ∃ d, deN M t j = d := ⟨_, rfl⟩
    obtain ⟨ok, hok⟩ : ∃ ok, deB t j = ok := ⟨_, rfl⟩
    have HO : Hid (deN M t j = ⟨da, dl, df, dx⟩ ∧ deB t j = ok ∧ (De.mk da dl df dx).Ok) := ⟨hde, hok, hde ▸ deN_ok HMD.out.1 t j⟩
    have hf : df ≤ 65535 := HO.out.2.2.f
    have hx5 : dx ≤ 65535 := HO.out.2.2.x
    have hdc := HMD.out.2 F' wr j hjn A1'.out.1.2.1.1
    rw [hde, hok] at hdc
    have HDD : Hid (_root_.True ∧ Calls Try.prog 164 #[.pointer (some ⟨rb, 0, none⟩), .int .u64 (t : Int), .int .i64 (j : Int)] wr fun e w' => e = .returned (.tuple #[.agg #[.int .u64 (da : Int), .int .u32 (dl : Int), .int .u16 (df : Int), .int .u16 (dx : Int)], .bool ok]) ∧ ∃ F2, Inv F2 w' ∧ Step F' wr F2 w') := ⟨trivial, hdc⟩
    clear hdc hde hok
    go_upto_region 7 with fail
    go_upto_region 8 with (go_at_call 164; refine (HDD.out.2).mono ?_; rintro e w2 ⟨rfl, F2, hi2, hs2⟩; have A2 : Hid (AlS rb wb M Inv O F w w1 t n i l k (j : Int) l' F2 w2 ∧ n - k = q + 1) := ⟨A1'.out.1.told hi2 hs2, A1'.out.2⟩; clear hi2 hs2 HDD)
    clear A1' p0
    have hb3 : Below w2.heap.size w2 (w2.alloc (.cells #[.int .u64 (da : Int), .int .u32 (dl : Int), .int .u16 (df : Int), .int .u16 (dx : Int)] 94)) := (Below.refl _ _).alloc (Nat.le_refl _) _
    have A3 : Hid (Al2 rb wb M Inv O F w w1 t n i l k (j : Int) l' F2 (w2.alloc (.cells #[.int .u64 (da : Int), .int .u32 (dl : Int), .int .u16 (df : Int), .int .u16 (dx : Int)] 94)) w2.heap.size da dl df dx) := ⟨A2.out.1.below m hb3, heap_alloc_new _ _, A2.out.1.2.1.box m hb3 (Nat.le_refl _) (by simp), fun hf => by have := m.lt F2 w2 A2.out.1.2.1.1 _ hf; omega⟩
    have HQ : Hid (n - k = q + 1) := A2.out.2
    clear hb3 A2
    generalize w2.alloc (.cells #[.int .u64 (da : Int), .int .u32 (dl : Int), .int .u16 (df : Int), .int .u16 (dx : Int)] 94) = w3 at *
    generalize w2.heap.size = p at *
    cases ok with
    | false =>
      have HRR : Hid (r = ⟨21, De.zero, l'⟩) := by
        show r = _
        rw [← HR.out, A3.out.1.1, HQ.out]
        exact along_not hjn HO.out.2.1
      go_upto_region 9 with fail
      refine wp_region_list ?_
      (refine wpList_step (fun KK hKK => ?_); go_simp; refine hKK _ _ ?_; clear hKK KK)
      refine wpList_store_row rfl 94 _ _ rfl w.heap.size #[.int .u64 0, .int .u32 0, .int .u16 0, .int .u16 0] rfl rfl 94 #[.int .u64 0, .int .u32 0, .int .u16 0, .int .u16 0] A3.out.1.2.2.2.1 info47 rfl (by simp [Value.oneCell']) ?_
      have Y := (A3.out.to3).ret m HOO.out #[.int .u64 0, .int .u32 0, .int .u16 0, .int .u16 0]
      have HY : Hid (Wd Inv O F2 (w3.setRow w.heap.size #[.int .u64 0, .int .u32 0, .int .u16 0, .int .u16 0]) rb wb l' ∧ Fly O F w1 F2 (w3.setRow w.heap.size #[.int .u64 0, .int .u32 0, .int .u16 0, .int .u16 0]) ∧ (w3.setRow w.heap.size #[.int .u64 0, .int .u32 0, .int .u16 0, .int .u16 0]).heap[w.heap.size]? = some (.cells #[.int .u64 0, .int .u32 0, .int .u16 0, .int .u16 0] 94 (0, 0))) := Y
      clear Y
      generalize w3.setRow w.heap.size #[.int .u64 0, .int .u32 0, .int .u16 0, .int .u16 0] = w9 at *
      obtain ⟨c0, c1, c2, c3⟩ := box4_facts HY.out.2.2
      go_wp2_with fail
      refine bodyPost_ret (v := .tuple #[.agg #[.int .u64 0, .int .u32 0, .int .u16 0, .int .u16 0], .int .i64 21]) (by simp [results, Try.results161, go_sem, c0, c1, c2, c3]) rfl ?_
      rw [HRR.out]
      exact ⟨rfl, F2, HY.out.1, HF0.out.trans HY.out.2.1⟩
    | true =>
      obtain ⟨f4, hf4⟩ : ∃ b, fl df 4 = b := ⟨_, rfl⟩
      have H4 : Hid (∀ V, Calls Try.prog 162 #[.agg #[.int .u64 (da : Int), .int .u32 (dl : Int), .int .u16 (df : Int), .int .u16 (dx : Int)], .int .u16 4] V fun e w' => e = .returned (.bool f4) ∧ Below V.heap.size V w') := by
        intro V; rw [← hf4]; exact hasf4 da dl df dx hf V
      have HF4 : Hid (fl df 4 = f4) := hf4
      clear hf4
      obtain ⟨d0, d1, d2, d3⟩ := box4_facts A3.out.2.1
      cases f4 with
      | true =>
        have HRR : Hid (r = ⟨0, ⟨da, dl, df, dx⟩, l'⟩) := by
          show r = _
          rw [← HR.out, A3.out.1.1, HQ.out]
          exact along_ind hjn HO.out.2.1 HO.out.1 HF4.out
        go_upto_region 11 with (go_at_call 162; refine (H4.out _).mono ?_; rintro e w4 ⟨rfl, hb4⟩; have A4 : Hid (Al2 rb wb M Inv O F w w1 t n i l k (j : Int) l' F2 w4 p da dl df dx) := A3.out.below m hb4; clear hb4 A3 d0 d1 d2 d3; obtain ⟨d0, d1, d2, d3⟩ := box4_facts A4.out.2.1)
        go_upto_region 11 with fail
        refine wp_region_list ?_
        (refine wpList_step (fun KK hKK => ?_); go_simp; refine hKK _ _ ?_; clear hKK KK)
        refine wpList_store_row rfl 94 _ _ rfl w.heap.size #[.int .u64 (da : Int), .int .u32 (dl : Int), .int .u16 (df : Int), .int .u16 (dx : Int)] rfl rfl 94 #[.int .u64 0, .int .u32 0, .int .u16 0, .int .u16 0] A4.out.1.2.2.2.1 info47 rfl (by simp [Value.oneCell']) ?_
        have Y := (A4.out.to3).ret m HOO.out #[.int .u64 (da : Int), .int .u32 (dl : Int), .int .u16 (df : Int), .int .u16 (dx : Int)]
        have HY : Hid (Wd Inv O F2 (w4.setRow w.heap.size #[.int .u64 (da : Int), .int .u32 (dl : Int), .int .u16 (df : Int), .int .u16 (dx : Int)]) rb wb l' ∧ Fly O F w1 F2 (w4.setRow w.heap.size #[.int .u64 (da : Int), .int .u32 (dl : Int), .int .u16 (df : Int), .int .u16 (dx : Int)]) ∧ (w4.setRow w.heap.size #[.int .u64 (da : Int), .int .u32 (dl : Int), .int .u16 (df : Int), .int .u16 (dx : Int)]).heap[w.heap.size]? = some (.cells #[.int .u64 (da : Int), .int .u32 (dl : Int), .int .u16 (df : Int), .int .u16 (dx : Int)] 94 (0, 0))) := Y
        clear Y
        generalize w4.setRow w.heap.size #[.int .u64 (da : Int), .int .u32 (dl : Int), .int .u16 (df : Int), .int .u16 (dx : Int)] = w9 at *
        obtain ⟨c0, c1, c2, c3⟩ := box4_facts HY.out.2.2
        go_wp2_with fail
        refine bodyPost_ret (v := .tuple #[.agg #[.int .u64 (da : Int), .int .u32 (dl : Int), .int .u16 (df : Int), .int .u16 (dx : Int)], .int .i64 0]) (by simp [results, Try.results161, go_sem, c0, c1, c2, c3]) rfl ?_
        rw [HRR.out]
        exact ⟨rfl, F2, HY.out.1, HF0.out.trans HY.out.2.1⟩
      | false =>
        by_cases hz : addE l' ⟨da, dl, df, dx⟩ = 0
        case neg =>
          obtain ⟨ae, hae⟩ : ∃ ae, addE l' ⟨da, dl, df, dx⟩ = ae := ⟨_, rfl⟩
          rw [hae] at hz
          have HRR : Hid (r = ⟨ae, De.zero, l'⟩) := by
            show r = _
            rw [← HR.out, A3.out.1.1, HQ.out]
            exact along_err hjn HO.out.2.1 HO.out.1 HF4.out hae hz
          have H59 : Hid (∀ V, Wd Inv (fun z => (O z ∨ z = w.heap.size) ∨ z = p) F2 V rb wb l' → Calls Try.prog 165 #[.pointer (some ⟨wb, 0, none⟩), .agg #[.int .u64 (da : Int), .int .u32 (dl : Int), .int .u16 (df : Int), .int .u16 (dx : Int)]] V fun e w' => e = .returned (.int .i64 (ae : Int)) ∧ Wd Inv (fun z => (O z ∨ z = w.heap.size) ∨ z = p) F2 w' rb wb l' ∧ Fly (fun z => (O z ∨ z = w.heap.size) ∨ z = p) F2 V F2 w') := by
            intro V hV
            have := seg_any m hV da dl df dx HO.out.2.2 (by have := A3.out.1.2.2.2.2.2; omega)
            rw [hae, if_neg hz] at this
            exact this
          have hz1 : ((ae : Int) != 0) = true := by simp; omega
          have hz2 : ¬ (ae : Int) = 0 := by omega
          clear hz hae
          go_upto_region 14 with (first | (go_at_call 162; refine (H4.out _).mono ?_; rintro e w4 ⟨rfl, hb4⟩; have A4 : Hid (Al2 rb wb M Inv O F w w1 t n i l k (j : Int) l' F2 w4 p da dl df dx) := A3.out.below m hb4; clear hb4 A3 d0 d1 d2 d3; obtain ⟨d0, d1, d2, d3⟩ := box4_facts A4.out.2.1) | (go_at_call 165; refine (H59.out _ A4.out.2.2.1).mono ?_; rintro e w5 ⟨rfl, hw5, hy5⟩; have A5 : Hid (Al2 rb wb M Inv O F w w1 t n i l k (j : Int) l' F2 w5 p da dl df dx) := A4.out.flew hw5 hy5 A4.out.1.1 A4.out.1.2.2.2.2.2; clear hw5 hy5 A4 d0 d1 d2 d3; obtain ⟨d0, d1, d2, d3⟩ := box4_facts A5.out.2.1))
          go_upto_region 14 with fail
          refine wp_region_list ?_
          (refine wpList_step (fun KK hKK => ?_); go_simp; refine hKK _ _ ?_; clear hKK KK)
          (refine wpList_step (fun KK hKK => ?_); go_simp; refine hKK _ _ ?_; clear hKK KK)
          refine wpList_store_row rfl 94 _ _ rfl w.heap.size #[.int .u64 0, .int .u32 0, .int .u16 0, .int .u16 0] rfl rfl 94 #[.int .u64 0, .int .u32 0, .int .u16 0, .int .u16 0] A5.out.1.2.2.2.1 info47 rfl (by simp [Value.oneCell']) ?_
          have Y := (A5.out.to3).ret m HOO.out #[.int .u64 0, .int .u32 0, .int .u16 0, .int .u16 0]
          have HY : Hid (Wd Inv O F2 (w5.setRow w.heap.size #[.int .u64 0, .int .u32 0, .int .u16 0, .int .u16 0]) rb wb l' ∧ Fly O F w1 F2 (w5.setRow w.heap.size #[.int .u64 0, .int .u32 0, .int .u16 0, .int .u16 0]) ∧ (w5.setRow w.heap.size #[.int .u64 0, .int .u32 0, .int .u16 0, .int .u16 0]).heap[w.heap.size]? = some (.cells #[.int .u64 0, .int .u32 0, .int .u16 0, .int .u16 0] 94 (0, 0))) := Y
          clear Y
          generalize w5.setRow w.heap.size #[.int .u64 0, .int .u32 0, .int .u16 0, .int .u16 0] = w9 at *
          obtain ⟨c0, c1, c2, c3⟩ := box4_facts HY.out.2.2
          go_wp2_with fail
          refine bodyPost_ret (v := .tuple #[.agg #[.int .u64 0, .int .u32 0, .int .u16 0, .int .u16 0], .int .i64 (ae : Int)]) (by simp [results, Try.results161, go_sem, c0, c1, c2, c3]) rfl ?_
          rw [HRR.out]
          exact ⟨rfl, F2, HY.out.1, HF0.out.trans HY.out.2.1⟩
        case pos =>
          have H59 : Hid (∀ V, Wd Inv (fun z => (O z ∨ z = w.heap.size) ∨ z = p) F2 V rb wb l' → Calls Try.prog 165 #[.pointer (some ⟨wb, 0, none⟩), .agg #[.int .u64 (da : Int), .int .u32 (dl : Int), .int .u16 (df : Int), .int .u16 (dx : Int)]] V fun e w' => e = .returned (.int .i64 0) ∧ Wd Inv (fun z => (O z ∨ z = w.heap.size) ∨ z = p) F2 w' rb wb (l' ++ [⟨da, dl, fl df 2⟩]) ∧ Fly (fun z => (O z ∨ z = w.heap.size) ∨ z = p) F2 V F2 w') := by
            intro V hV
            have := seg_any m hV da dl df dx HO.out.2.2 (by have := A3.out.1.2.2.2.2.2; omega)
            rw [hz, if_pos rfl] at this
            exact this
          obtain ⟨f1, hf1⟩ : ∃ b, fl df 1 = b := ⟨_, rfl⟩
          have H1 : Hid (∀ V, Calls Try.prog 162 #[.agg #[.int .u64 (da : Int), .int .u32 (dl : Int), .int .u16 (df : Int), .int .u16 (dx : Int)], .int .u16 1] V fun e w' => e = .returned (.bool f1) ∧ Below V.heap.size V w') := by
            intro V; rw [← hf1]; exact hasf1 da dl df dx hf V
          have HF1 : Hid (fl df 1 = f1 ∧ addE l' ⟨da, dl, df, dx⟩ = 0) := ⟨hf1, hz⟩
          clear hf1 hz
          go_upto_region 15 with (first | (go_at_call 162; refine (H4.out _).mono ?_; rintro e w4 ⟨rfl, hb4⟩; have A4 : Hid (Al2 rb wb M Inv O F w w1 t n i l k (j : Int) l' F2 w4 p da dl df dx) := A3.out.below m hb4; clear hb4 A3 d0 d1 d2 d3; obtain ⟨d0, d1, d2, d3⟩ := box4_facts A4.out.2.1) | (go_at_call 165; refine (H59.out _ A4.out.2.2.1).mono ?_; rintro e w5 ⟨rfl, hw5, hy5⟩))
          cases f1 with
          | false =>
            have HRR : Hid (r = ⟨0, ⟨da, dl, df, dx⟩, l' ++ [⟨da, dl, fl df 2⟩]⟩) := by
              show r = _
              rw [← HR.out, A4.out.1.1, HQ.out]
              exact along_end hjn HO.out.2.1 HO.out.1 HF4.out HF1.out.2 HF1.out.1
            have A5 : Hid (Al3 rb wb Inv O F w w1 (l' ++ [⟨da, dl, fl df 2⟩]) F2 w5 p da dl df dx) := A4.out.flew3 hw5 hy5
            clear hw5 hy5 A4 d0 d1 d2 d3
            obtain ⟨d0, d1, d2, d3⟩ := box4_facts A5.out.2
            go_upto_region 16 with (go_at_call 162; refine (H1.out _).mono ?_; rintro e w6 ⟨rfl, hb6⟩; have A6 : Hid (Al3 rb wb Inv O F w w1 (l' ++ [⟨da, dl, fl df 2⟩]) F2 w6 p da dl df dx) := A5.out.below m hb6; clear hb6 A5 d0 d1 d2 d3; obtain ⟨d0, d1, d2, d3⟩ := box4_facts A6.out.2)
            go_upto_region 16 with fail
            refine wp_region_list ?_
            (refine wpList_step (fun KK hKK => ?_); go_simp; refine hKK _ _ ?_; clear hKK KK)
            refine wpList_store_row rfl 94 _ _ rfl w.heap.size #[.int .u64 (da : Int), .int .u32 (dl : Int), .int .u16 (df : Int), .int .u16 (dx : Int)] rfl rfl 94 #[.int .u64 0, .int .u32 0, .int .u16 0, .int .u16 0] A6.out.1.2.2.2.1 info47 rfl (by simp [Value.oneCell']) ?_
            have Y := (A6.out).ret m HOO.out #[.int .u64 (da : Int), .int .u32 (dl : Int), .int .u16 (df : Int), .int .u16 (dx : Int)]
            have HY : Hid (Wd Inv O F2 (w6.setRow w.heap.size #[.int .u64 (da : Int), .int .u32 (dl : Int), .int .u16 (df : Int), .int .u16 (dx : Int)]) rb wb (l' ++ [⟨da, dl, fl df 2⟩]) ∧ Fly O F w1 F2 (w6.setRow w.heap.size #[.int .u64 (da : Int), .int .u32 (dl : Int), .int .u16 (df : Int), .int .u16 (dx : Int)]) ∧ (w6.setRow w.heap.size #[.int .u64 (da : Int), .int .u32 (dl : Int), .int .u16 (df : Int), .int .u16 (dx : Int)]).heap[w.heap.size]? = some (.cells #[.int .u64 (da : Int), .int .u32 (dl : Int), .int .u16 (df : Int), .int .u16 (dx : Int)] 94 (0, 0))) := Y
            clear Y
            generalize w6.setRow w.heap.size #[.int .u64 (da : Int), .int .u32 (dl : Int), .int .u16 (df : Int), .int .u16 (dx : Int)] = w9 at *
            obtain ⟨c0, c1, c2, c3⟩ := box4_facts HY.out.2.2
            go_wp2_with fail
            refine bodyPost_ret (v := .tuple #[.agg #[.int .u64 (da : Int), .int .u32 (dl : Int), .int .u16 (df : Int), .int .u16 (dx : Int)], .int .i64 0]) (by simp [results, Try.results161, go_sem, c0, c1, c2, c3]) rfl ?_
            rw [HRR.out]
            exact ⟨rfl, F2, HY.out.1, HF0.out.trans HY.out.2.1⟩
          | true =>
            have A5 : Hid (Al2 rb wb M Inv O F w w1 t n i l (k + 1) (dx : Int) (l' ++ [⟨da, dl, fl df 2⟩]) F2 w5 p da dl df dx) := A4.out.flew hw5 hy5 (by
              rw [A4.out.1.1, HQ.out, show n - (k + 1) = q from by have := HQ.out; omega]
              exact along_next hjn HO.out.2.1 HO.out.1 HF4.out HF1.out.2 HF1.out.1) (by have := A4.out.1.2.2.2.2.2; simp; omega)
            clear hw5 hy5 A4 d0 d1 d2 d3
            obtain ⟨d0, d1, d2, d3⟩ := box4_facts A5.out.2.1
            have e3 : IntKind.i64.wrap (dx : Int) = (dx : Int) := wrapi dx (by omega)
            go_wp2_with (go_at_call 162; refine (H1.out _).mono ?_; rintro e w6 ⟨rfl, hb6⟩; have A6 : Hid (Al2 rb wb M Inv O F w w1 t n i l (k + 1) (dx : Int) (l' ++ [⟨da, dl, fl df 2⟩]) F2 w6 p da dl df dx) := A5.out.below m hb6; clear hb6 A5 d0 d1 d2 d3; obtain ⟨d0, d1, d2, d3⟩ := box4_facts A6.out.2.1)
            go_roundw
            case rel => exact ⟨k + 1, (dx : Int), l' ++ [⟨da, dl, fl df 2⟩], F2, rfl, by go_num, by omega, A6.out.1⟩
            case measure => simp [intOf]; omega
end Go.Proofs.Ytlkhjekakbckmaa
