/- The law ClintPlays. -/
import Derived.Test.YtaiagfdlglidfaaOp
import Derived.Test.YtaiagfdlglidfaaDc
import Derived.Test.YtaiagfdlglidfaaDd
namespace Go.Proofs.Ytaiagfdlglidfaa
open Go.RowKit
set_option linter.unusedVariables false
set_option linter.unusedSimpArgs false
set_option maxRecDepth 100000
/-- the two states, in blocks of their own, alike -/
def Two2 (W V : World) (p q : Nat) (C : Array Value) : Prop := Box 26 V p C ∧ Box 28 V q C ∧ W.heap.size ≤ p ∧ W.heap.size ≤ q ∧ p ≠ q ∧ Below W.heap.size W V
theorem Two2.step {W V V' : World} {p q : Nat} {C : Array Value} (h : Two2 W V p q C) (hb : Below V.heap.size V V') : Two2 W V' p q C := ⟨h.1.step hb, h.2.1.step hb, h.2.2.1, h.2.2.2.1, h.2.2.2.2.1, h.2.2.2.2.2.trans (hb.mono h.2.2.2.2.2.size)⟩
/-- the states, and a call in a block of its own -/
def Pla (W V : World) (p q r : Nat) (C D O : Array Value) : Prop := Box 26 V p C ∧ Box 28 V q D ∧ Box 30 V r O ∧ W.heap.size ≤ p ∧ W.heap.size ≤ q ∧ W.heap.size ≤ r ∧ p ≠ q ∧ p ≠ r ∧ q ≠ r ∧ Below W.heap.size W V
theorem Pla.step {W V V' : World} {p q r : Nat} {C D O : Array Value} (h : Pla W V p q r C D O) (hb : Below V.heap.size V V') : Pla W V' p q r C D O := by
  obtain ⟨h1, h2, h3, h4, h5, h6, h7, h8, h9, h10⟩ := h
  exact ⟨h1.step hb, h2.step hb, h3.step hb, h4, h5, h6, h7, h8, h9, h10.trans (hb.mono h10.size)⟩
theorem Pla.upon {W V V' : World} {p q r : Nat} {C C' D O : Array Value} (h : Pla W V p q r C D O) (hx : Box 26 V' p C') (hu : Upon p V V') : Pla W V' p q r C' D O := by
  obtain ⟨h1, h2, h3, h4, h5, h6, h7, h8, h9, h10⟩ := h
  exact ⟨hx, hu.box h2 (Ne.symm h7), hu.box h3 (Ne.symm h8), h4, h5, h6, h7, h8, h9, h10.trans (hu.below h4 h10.size)⟩
theorem Pla.set {W V : World} {p q r : Nat} {C D O : Array Value} (h : Pla W V p q r C D O) (i : Nat) (v : Value) : Pla W (V.setCell ⟨q, i, none⟩ v) p q r C (D.setIfInBounds i v) O := by
  obtain ⟨h1, h2, h3, h4, h5, h6, h7, h8, h9, h10⟩ := h
  exact ⟨h1.other i v h7, h2.set i v, h3.other i v (Ne.symm h9), h4, h5, h6, h7, h8, h9, h10.setCell (p := ⟨q, i, none⟩) h5 v⟩
theorem Pla.new {W V : World} {p q : Nat} {C : Array Value} (h : Two2 W V p q C) (O : Array Value) : Pla W (V.alloc (.cells O 30)) p q V.heap.size C C O := by
  obtain ⟨h1, h2, h3, h4, h5, h6⟩ := h
  have a1 := h1.lt
  have a2 := h2.lt
  exact ⟨h1.alloc _, h2.alloc _, Box.new 30 V O, h3, h4, h6.size, h5, by omega, by omega, h6.alloc h6.size _⟩
/-- .. and the document's next state in a block of its own -/
def Nxt (W V : World) (p q r nb : Nat) (C D O E : Array Value) : Prop := Pla W V p q r C D O ∧ Box 28 V nb E ∧ nb ≠ p ∧ nb ≠ q
theorem Nxt.new {W V : World} {p q r : Nat} {C D O : Array Value} (h : Pla W V p q r C D O) (E : Array Value) : Nxt W (V.alloc (.cells E 28)) p q r V.heap.size C D O E := by
  have a1 := h.1.lt
  have a2 := h.2.1.lt
  exact ⟨h.step ((Below.refl _ _).alloc (Nat.le_refl _) _), Box.new 28 V E, by omega, by omega⟩
theorem Nxt.upon {W V V' : World} {p q r nb : Nat} {C C' D O E : Array Value} (h : Nxt W V p q r nb C D O E) (hx : Box 26 V' p C') (hu : Upon p V V') : Nxt W V' p q r nb C' D O E := ⟨h.1.upon hx hu, hu.box h.2.1 h.2.2.1, h.2.2.1, h.2.2.2⟩
theorem both_store (s : Bool) (c t a : Nat) (n : Int) (v : Nat) (hc : c < 18446744073709551616) (ht : t < 18446744073709551616) (ha : a < 18446744073709551616) (hv : v < 18446744073709551616) : ∃ (M : Bool) (s2 : Bool) (c2 t2 : Nat), c2 < 18446744073709551616 ∧ t2 < 18446744073709551616 ∧
    (∀ V, Calls Try.prog 9 #[.agg #[.bool s, .int .u64 (c : Int), .int .u64 (t : Int)], .int .u64 (a : Int), .int .i64 n, .int .u64 (v : Int)] V fun e w' => e = .returned (.tuple #[.agg #[.bool s2, .int .u64 (c2 : Int), .int .u64 (t2 : Int)], .bool M]) ∧ Below V.heap.size V w') ∧
    (∀ p V, Box 26 V p #[.bool s, .int .u64 (c : Int), .int .u64 (t : Int)] → Calls Try.prog 10 #[.pointer (some ⟨p, 0, none⟩), .int .u64 (a : Int), .int .i64 n, .int .u64 (v : Int)] V fun e w' => e = .returned (.bool M) ∧ Box 26 w' p #[.bool s2, .int .u64 (c2 : Int), .int .u64 (t2 : Int)] ∧ Upon p V w') := by
  cases h : mayB a n
  · refine ⟨false, s, c, t, hc, ht, fun V => dstore_no s c t a v n ha h V, fun p V hx => ?_⟩
    refine (store_no p a v n ha h V).mono ?_
    rintro e w' ⟨rfl, rfl⟩
    exact ⟨rfl, hx, Upon.refl _ _⟩
  · obtain ⟨k, rfl, _⟩ := mayB_k h
    exact ⟨true, softR s a k v, wordR c 16384 a k v, wordR t 49144 a k v, wordR_lt _ _ _ _ _ hc, wordR_lt _ _ _ _ _ ht, fun V => dstore_yes s c t a k v hc ht hv h V, fun p V hx => store_yes p s c t a v k hc ht hv h V hx⟩
theorem Pla.two {W V : World} {p q r : Nat} {C O : Array Value} (h : Pla W V p q r C C O) : Two2 W V p q C := by
  obtain ⟨h1, h2, h3, h4, h5, h6, h7, h8, h9, h10⟩ := h
  exact ⟨h1, h2, h4, h5, h7, h10⟩
theorem start_two {W V : World} (h : Below W.heap.size W V) (C : Array Value) : Two2 W ((V.alloc (.cells C 26)).alloc (.cells C 28)) V.heap.size (V.heap.size + 1) C := by
  have h1 := Box.new 26 V C
  have h2 := Box.new 28 (V.alloc (.cells C 26)) C
  rw [show (V.alloc (.cells C 26)).heap.size = V.heap.size + 1 from by simp] at h2
  have := h.size
  exact ⟨h1.alloc _, h2, this, by omega, by omega, (h.alloc h.size _).alloc (h.alloc h.size _).size _⟩
set_option maxHeartbeats 4000000 in
theorem plays_core (av : Option Addr) (len cap : Nat) (os : Nat → Int × Nat × Int × Nat) (W : World) (hos : OpsIn W (.slice av len cap) len os) : Calls Try.prog 3 #[.slice av len cap] W fun e w' => e = .returned (.bool true) ∧ Below W.heap.size W w' := by
  have HO : Hid (OpsIn W (.slice av len cap) len os) := hos
  clear hos
  go_enter Try.func3, Try.ntmps3
  go_wp2_with fail
  refine (awake_any _).mono ?_
  rintro e w0 ⟨rfl, hb0⟩
  go_wp2_with fail
  refine (begin_any _).mono ?_
  rintro e w1 ⟨rfl, hb1⟩
  have hbA : Below W.heap.size W w1 := hb0.trans (hb1.mono hb0.size)
  clear hb0 hb1
  go_upto_region 5 with fail
  have X0 : Hid (Two2 W ((w1.alloc (.cells #[.bool false, .int .u64 18446744073709551615, .int .u64 0] 26)).alloc (.cells #[.bool false, .int .u64 18446744073709551615, .int .u64 0] 28)) w1.heap.size (w1.heap.size + 1) #[.bool false, .int .u64 18446744073709551615, .int .u64 0]) := start_two hbA _
  generalize (w1.alloc (.cells #[.bool false, .int .u64 18446744073709551615, .int .u64 0] 26)).alloc (.cells #[.bool false, .int .u64 18446744073709551615, .int .u64 0] 28) = w2 at *
  clear hbA
  generalize w1.heap.size + 1 = q at *
  generalize w1.heap.size = p at *
  go_wp2_with fail
  go_loopw [5] (fun i wr => ∃ (j : Nat) (s : Bool) (c t : Nat), j ≤ len ∧ j ≤ 60 ∧ i = .int .i64 j ∧ c < 18446744073709551616 ∧ t < 18446744073709551616 ∧ Two2 W wr p q #[.bool s, .int .u64 (c : Int), .int .u64 (t : Int)]) (fun i _ => 60 - (intOf i).toNat)
  case atStart => exact ⟨0, false, 18446744073709551615, 0, by omega, by omega, rfl, by decide, by decide, X0.out⟩
  case round =>
    obtain ⟨j, s, c, t, hj, hj6, rfl, hc, ht, hX⟩ := hrel
    have X : Hid (Two2 W wr p q #[.bool s, .int .u64 (c : Int), .int .u64 (t : Int)]) := hX
    clear hX X0
    by_cases hlt : j < len
    case neg =>
      have hl1 : ¬ (j : Int) < (len : Int) := by omega
      clear hc ht
      go_wp2_with fail
      go_ret
      exact ⟨rfl, X.out.2.2.2.2.2⟩
    have hl1 : (j : Int) < (len : Int) := by omega
    by_cases h60 : j < 60
    case neg =>
      have hl2 : ¬ (j : Int) < 60 := by omega
      clear hc ht
      go_wp2_with fail
      go_ret
      exact ⟨rfl, X.out.2.2.2.2.2⟩
    have hl2 : (j : Int) < 60 := by omega
    rcases HO.out with ⟨h0, _⟩ | ⟨b, off, cp, hv, hbW, hcs⟩
    · omega
    simp only [Value.slice.injEq] at hv
    obtain ⟨rfl, -, rfl⟩ := hv
    obtain ⟨hce, ha, hv⟩ := hcs j hlt
    have e0 := hce 0 (by omega)
    have e1 := hce 1 (by omega)
    have e2 := hce 2 (by omega)
    have e3 := hce 3 (by omega)
    clear hce hcs
    generalize hq1 : (os j).1 = kd at *
    generalize hq2 : (os j).2.1 = a at *
    generalize hq3 : (os j).2.2.1 = n at *
    generalize hq4 : (os j).2.2.2 = v at *
    clear hq1 hq2 hq3 hq4
    simp only [List.getElem?_cons_zero, List.getElem?_cons_succ] at e0 e1 e2 e3
    have f0 : wr.cell? ⟨b, off + j * 4, none⟩ = some (.int .i64 kd) := (X.out.2.2.2.2.2.cell (p := ⟨b, off + j * 4, none⟩) hbW).trans e0
    have f1 : wr.cell? ⟨b, off + j * 4 + 1, none⟩ = some (.int .u64 (a : Int)) := (X.out.2.2.2.2.2.cell (p := ⟨b, off + j * 4 + 1, none⟩) hbW).trans e1
    have f2 : wr.cell? ⟨b, off + j * 4 + 2, none⟩ = some (.int .i64 n) := (X.out.2.2.2.2.2.cell (p := ⟨b, off + j * 4 + 2, none⟩) hbW).trans e2
    have f3 : wr.cell? ⟨b, off + j * 4 + 3, none⟩ = some (.int .u64 (v : Int)) := (X.out.2.2.2.2.2.cell (p := ⟨b, off + j * 4 + 3, none⟩) hbW).trans e3
    clear e0 e1 e2 e3
    have Y : Hid (Pla W (wr.alloc (.cells #[.int .i64 kd, .int .u64 (a : Int), .int .i64 n, .int .u64 (v : Int)] 30)) p q wr.heap.size #[.bool s, .int .u64 (c : Int), .int .u64 (t : Int)] #[.bool s, .int .u64 (c : Int), .int .u64 (t : Int)] #[.int .i64 kd, .int .u64 (a : Int), .int .i64 n, .int .u64 (v : Int)]) := Pla.new X.out _
    have HLT : Hid (c < 18446744073709551616 ∧ t < 18446744073709551616) := ⟨hc, ht⟩
    have HAV : Hid (a < 18446744073709551616 ∧ v < 18446744073709551616) := ⟨ha, hv⟩
    clear hc ht ha hv
    go_upto_region 9 with fail
    generalize wr.alloc (.cells #[.int .i64 kd, .int .u64 (a : Int), .int .i64 n, .int .u64 (v : Int)] 30) = w3 at *
    generalize wr.heap.size = r at *
    clear f0 f1 f2 f3 X
    have f0 := Y.out.2.2.1.cell 0 _ rfl
    have f1 := Y.out.2.2.1.cell 1 _ rfl
    have f2 := Y.out.2.2.1.cell 2 _ rfl
    have f3 := Y.out.2.2.1.cell 3 _ rfl
    by_cases k0 : kd = 0
    case pos =>
      have k0b : (kd == 0) = true := by simp [k0]
      clear k0
      obtain ⟨M, s2, c2, t2, hc2, ht2, cd, cs⟩ := both_store s c t a n v HLT.out.1 HLT.out.2 HAV.out.1 HAV.out.2
      have HLT2 : Hid (c2 < 18446744073709551616 ∧ t2 < 18446744073709551616) := ⟨hc2, ht2⟩
      have hMM : (M != M) = false := by simp
      clear hc2 ht2
      have g0 := Y.out.2.1.cell 0 _ rfl
      have g1 := Y.out.2.1.cell 1 _ rfl
      have g2 := Y.out.2.1.cell 2 _ rfl
      have zg0 := Y.out.2.1.frozen 0
      have zg1 := Y.out.2.1.frozen 1
      have zg2 := Y.out.2.1.frozen 2
      go_wp2_with fail
      refine (cd _).mono ?_
      rintro e w4 ⟨rfl, hb⟩
      have X4 : Hid (Pla W w4 p q r #[.bool s, .int .u64 (c : Int), .int .u64 (t : Int)] #[.bool s, .int .u64 (c : Int), .int .u64 (t : Int)] #[.int .i64 kd, .int .u64 (a : Int), .int .i64 n, .int .u64 (v : Int)]) := Y.out.step hb
      clear hb cd Y
      clear f0 f1 f2 f3
      clear g0 g1 g2 zg0 zg1 zg2
      go_upto_region 12 with fail
      have X5 : Hid (Nxt W (w4.alloc (.cells #[.bool s2, .int .u64 (c2 : Int), .int .u64 (t2 : Int)] 28)) p q r w4.heap.size #[.bool s, .int .u64 (c : Int), .int .u64 (t : Int)] #[.bool s, .int .u64 (c : Int), .int .u64 (t : Int)] #[.int .i64 kd, .int .u64 (a : Int), .int .i64 n, .int .u64 (v : Int)] #[.bool s2, .int .u64 (c2 : Int), .int .u64 (t2 : Int)]) := Nxt.new X4.out _
      generalize w4.alloc (.cells #[.bool s2, .int .u64 (c2 : Int), .int .u64 (t2 : Int)] 28) = w5 at *
      generalize w4.heap.size = nb at *
      clear X4
      have f1 := X5.out.1.2.2.1.cell 1 _ rfl
      have f2 := X5.out.1.2.2.1.cell 2 _ rfl
      have f3 := X5.out.1.2.2.1.cell 3 _ rfl
      go_wp2_with fail
      refine (cs _ _ X5.out.1.1).mono ?_
      rintro e w6 ⟨rfl, hx, hu⟩
      have X6 : Hid (Nxt W w6 p q r nb #[.bool s2, .int .u64 (c2 : Int), .int .u64 (t2 : Int)] #[.bool s, .int .u64 (c : Int), .int .u64 (t : Int)] #[.int .i64 kd, .int .u64 (a : Int), .int .i64 n, .int .u64 (v : Int)] #[.bool s2, .int .u64 (c2 : Int), .int .u64 (t2 : Int)]) := X5.out.upon hx hu
      clear hx hu cs X5 f1 f2 f3
      have h0 := X6.out.2.1.cell 0 _ rfl
      have h1 := X6.out.2.1.cell 1 _ rfl
      have h2 := X6.out.2.1.cell 2 _ rfl
      have g0 := X6.out.1.2.1.cell 0 _ rfl
      have g1 := X6.out.1.2.1.cell 1 _ rfl
      have g2 := X6.out.1.2.1.cell 2 _ rfl
      have zg0 := X6.out.1.2.1.frozen 0
      have zg1 := X6.out.1.2.1.frozen 1
      have zg2 := X6.out.1.2.1.frozen 2
      go_upto_region 23 with fail
      have X7 : Hid (Pla W (((w6.setCell ⟨q, 0, none⟩ (.bool s2)).setCell ⟨q, 1, none⟩ (.int .u64 (c2 : Int))).setCell ⟨q, 2, none⟩ (.int .u64 (t2 : Int))) p q r #[.bool s2, .int .u64 (c2 : Int), .int .u64 (t2 : Int)] #[.bool s2, .int .u64 (c2 : Int), .int .u64 (t2 : Int)] #[.int .i64 kd, .int .u64 (a : Int), .int .i64 n, .int .u64 (v : Int)]) := ((X6.out.1.set 0 _).set 1 _).set 2 _
      generalize ((w6.setCell ⟨q, 0, none⟩ (.bool s2)).setCell ⟨q, 1, none⟩ (.int .u64 (c2 : Int))).setCell ⟨q, 2, none⟩ (.int .u64 (t2 : Int)) = w7 at *
      clear X6 h0 h1 h2 g0 g1 g2 zg0 zg1 zg2
      go_upto_region 23 with fail
      have Xd : Hid (Pla W w7.drew p q r #[.bool s2, .int .u64 (c2 : Int), .int .u64 (t2 : Int)] #[.bool s2, .int .u64 (c2 : Int), .int .u64 (t2 : Int)] #[.int .i64 kd, .int .u64 (a : Int), .int .i64 n, .int .u64 (v : Int)]) := X7.out.step (Below.drew (Below.refl _ _))
      refine wp_region_held_drew (S := fun V => (V.cell? ⟨p, 0, none⟩ = some (.bool s2) ∧ V.cell? ⟨p, 1, none⟩ = some (.int .u64 (c2 : Int)) ∧ V.cell? ⟨p, 2, none⟩ = some (.int .u64 (t2 : Int))) ∧ V.cell? ⟨q, 0, none⟩ = some (.bool s2) ∧ V.cell? ⟨q, 1, none⟩ = some (.int .u64 (c2 : Int)) ∧ V.cell? ⟨q, 2, none⟩ = some (.int .u64 (t2 : Int))) (by kernel_rfl) ⟨⟨Xd.out.1.cell 0 _ rfl, Xd.out.1.cell 1 _ rfl, Xd.out.1.cell 2 _ rfl⟩, Xd.out.2.1.cell 0 _ rfl, Xd.out.2.1.cell 1 _ rfl, Xd.out.2.1.cell 2 _ rfl⟩ ?_
      intro hS
      refine wpAnyH_take (i := 0) (v := ?_) rfl (by kernel_rfl) (by kernel_rfl) (by kernel_rfl) (fun _ _ _ h => h) (Or.inl ⟨by kernel_rfl, ?_⟩) hS ?_
      rotate_left
      · intro w hSw; (try dsimp only at hSw); go_simp; try (with_reducible rfl)
      (try simp only [Act.put, List.getElem_toArray, List.getElem_cons_succ, List.getElem_cons_zero, List.setIfInBounds_toArray, List.set_cons_zero, List.set_cons_succ])
      refine wpAnyH_take (i := 1) (v := ?_) rfl (by kernel_rfl) (by kernel_rfl) (by kernel_rfl) (fun _ _ _ h => h) (Or.inl ⟨by kernel_rfl, ?_⟩) hS ?_
      rotate_left
      · intro w hSw; (try dsimp only at hSw); go_simp; try (with_reducible rfl)
      (try simp only [Act.put, List.getElem_toArray, List.getElem_cons_succ, List.getElem_cons_zero, List.setIfInBounds_toArray, List.set_cons_zero, List.set_cons_succ])
      refine wpAnyH_ready (rs := [2]) (by kernel_rfl) (by simp) ?_
      refine AllReadyH.cons rfl (fun K1 hK1 => ?_) AllReadyH.nil
      go_simp
      refine (is_any s2 c2 t2 _).mono ?_
      rintro e w21 ⟨rfl, hb⟩
      have X21 : Hid (Pla W w21 p q r #[.bool s2, .int .u64 (c2 : Int), .int .u64 (t2 : Int)] #[.bool s2, .int .u64 (c2 : Int), .int .u64 (t2 : Int)] #[.int .i64 kd, .int .u64 (a : Int), .int .i64 n, .int .u64 (v : Int)]) := Xd.out.step hb
      clear hb
      refine hK1.out _ _ ⟨⟨X21.out.1.cell 0 _ rfl, X21.out.1.cell 1 _ rfl, X21.out.1.cell 2 _ rfl⟩, X21.out.2.1.cell 0 _ rfl, X21.out.2.1.cell 1 _ rfl, X21.out.2.1.cell 2 _ rfl⟩ (fun hS21 => ?_)
      clear hK1 K1 hS
      (try simp only [Act.put, List.getElem_toArray, List.getElem_cons_succ, List.getElem_cons_zero, List.setIfInBounds_toArray, List.set_cons_zero, List.set_cons_succ])
      refine wpAnyH_take (i := 3) (v := ?_) rfl (by kernel_rfl) (by kernel_rfl) (by kernel_rfl) (fun _ _ _ h => h) (Or.inl ⟨by kernel_rfl, ?_⟩) hS21 ?_
      rotate_left
      · intro w hSw; (try dsimp only at hSw); go_simp; try (with_reducible rfl)
      (try simp only [Act.put, List.getElem_toArray, List.getElem_cons_succ, List.getElem_cons_zero, List.setIfInBounds_toArray, List.set_cons_zero, List.set_cons_succ])
      refine wpAnyH_take (i := 4) (v := ?_) rfl (by kernel_rfl) (by kernel_rfl) (by kernel_rfl) (fun _ _ _ h => h) (Or.inl ⟨by kernel_rfl, ?_⟩) hS21 ?_
      rotate_left
      · intro w hSw; (try dsimp only at hSw); go_simp; try (with_reducible rfl)
      (try simp only [Act.put, List.getElem_toArray, List.getElem_cons_succ, List.getElem_cons_zero, List.setIfInBounds_toArray, List.set_cons_zero, List.set_cons_succ])
      refine wpAnyH_take (i := 6) (v := ?_) rfl (by kernel_rfl) (by kernel_rfl) (by kernel_rfl) (fun _ _ _ h => h) (Or.inl ⟨by kernel_rfl, ?_⟩) hS21 ?_
      rotate_left
      · intro w hSw; (try dsimp only at hSw); go_simp; try (with_reducible rfl)
      (try simp only [Act.put, List.getElem_toArray, List.getElem_cons_succ, List.getElem_cons_zero, List.setIfInBounds_toArray, List.set_cons_zero, List.set_cons_succ])
      refine wpAnyH_ready (rs := [5]) (by kernel_rfl) (by simp) ?_
      refine AllReadyH.cons rfl (fun K1 hK1 => ?_) AllReadyH.nil
      go_simp
      refine (lines_any p s2 c2 t2 _ X21.out.1).mono ?_
      rintro e w22 ⟨rfl, hb⟩
      have X22 : Hid (Pla W w22 p q r #[.bool s2, .int .u64 (c2 : Int), .int .u64 (t2 : Int)] #[.bool s2, .int .u64 (c2 : Int), .int .u64 (t2 : Int)] #[.int .i64 kd, .int .u64 (a : Int), .int .i64 n, .int .u64 (v : Int)]) := X21.out.step hb
      clear hb
      refine hK1.out _ _ ⟨⟨X22.out.1.cell 0 _ rfl, X22.out.1.cell 1 _ rfl, X22.out.1.cell 2 _ rfl⟩, X22.out.2.1.cell 0 _ rfl, X22.out.2.1.cell 1 _ rfl, X22.out.2.1.cell 2 _ rfl⟩ (fun hS22 => ?_)
      clear hK1 K1 hS21
      (try simp only [Act.put, List.getElem_toArray, List.getElem_cons_succ, List.getElem_cons_zero, List.setIfInBounds_toArray, List.set_cons_zero, List.set_cons_succ])
      refine wpAnyH_ready (rs := [7]) (by kernel_rfl) (by simp) ?_
      refine AllReadyH.cons rfl (fun K1 hK1 => ?_) AllReadyH.nil
      go_simp
      refine (dlines_any s2 c2 t2 _).mono ?_
      rintro e w23 ⟨rfl, hb⟩
      have X23 : Hid (Pla W w23 p q r #[.bool s2, .int .u64 (c2 : Int), .int .u64 (t2 : Int)] #[.bool s2, .int .u64 (c2 : Int), .int .u64 (t2 : Int)] #[.int .i64 kd, .int .u64 (a : Int), .int .i64 n, .int .u64 (v : Int)]) := X22.out.step hb
      clear hb
      refine hK1.out _ _ ⟨⟨X23.out.1.cell 0 _ rfl, X23.out.1.cell 1 _ rfl, X23.out.1.cell 2 _ rfl⟩, X23.out.2.1.cell 0 _ rfl, X23.out.2.1.cell 1 _ rfl, X23.out.2.1.cell 2 _ rfl⟩ (fun hS23 => ?_)
      clear hK1 K1 hS22
      (try simp only [Act.put, List.getElem_toArray, List.getElem_cons_succ, List.getElem_cons_zero, List.setIfInBounds_toArray, List.set_cons_zero, List.set_cons_succ])
      refine wpAnyH_take (i := 8) (v := ?_) rfl (by kernel_rfl) (by kernel_rfl) (by kernel_rfl) (fun _ _ _ h => h) (Or.inl ⟨by kernel_rfl, ?_⟩) hS23 ?_
      rotate_left
      · intro w hSw; (try dsimp only at hSw); go_simp; try (with_reducible rfl)
      (try simp only [Act.put, List.getElem_toArray, List.getElem_cons_succ, List.getElem_cons_zero, List.setIfInBounds_toArray, List.set_cons_zero, List.set_cons_succ])
      refine wpAnyH_take (i := 9) (v := ?_) rfl (by kernel_rfl) (by kernel_rfl) (by kernel_rfl) (fun _ _ _ h => h) (Or.inl ⟨by kernel_rfl, ?_⟩) hS23 ?_
      rotate_left
      · intro w hSw; (try dsimp only at hSw); go_simp; try (with_reducible rfl)
      (try simp only [Act.put, List.getElem_toArray, List.getElem_cons_succ, List.getElem_cons_zero, List.setIfInBounds_toArray, List.set_cons_zero, List.set_cons_succ])
      refine wpAnyH_done (by kernel_rfl) ?_ _
      clear hS23
      have hneL : ((linesR s2 c2 t2 : Int) != (linesR s2 c2 t2 : Int)) = false := by simp
      go_wp2_with fail
      go_roundw
      case rel => exact ⟨j + 1, s2, c2, t2, by omega, by omega, by go_num, HLT2.out.1, HLT2.out.2, X23.out.two⟩
      case measure => simp [intOf]; omega
    have k0b : (kd == 0) = false := by simp [k0]
    by_cases k1 : kd = 1
    case pos =>
      have k1b : (kd == 1) = true := by simp [k1]
      clear k0 k1
      have cl := fun V hx => load_any p s c t a n HLT.out.1 HLT.out.2 HAV.out.1 V hx
      have cd := fun V => dload_any s c t a n HLT.out.1 HLT.out.2 HAV.out.1 V
      generalize loadR s c t a n = R at *
      generalize mayB a n = M at *
      have hRR : ((R : Int) != (R : Int)) = false := by simp
      have hMM : (M != M) = false := by simp
      go_wp2_with fail
      refine (cl _ Y.out.1).mono ?_
      rintro e w4 ⟨rfl, hb⟩
      have X4 : Hid (Pla W w4 p q r #[.bool s, .int .u64 (c : Int), .int .u64 (t : Int)] #[.bool s, .int .u64 (c : Int), .int .u64 (t : Int)] #[.int .i64 kd, .int .u64 (a : Int), .int .i64 n, .int .u64 (v : Int)]) := Y.out.step hb
      clear hb cl Y
      clear f0 f1 f2 f3
      have f0 := X4.out.2.2.1.cell 0 _ rfl
      have f1 := X4.out.2.2.1.cell 1 _ rfl
      have f2 := X4.out.2.2.1.cell 2 _ rfl
      have f3 := X4.out.2.2.1.cell 3 _ rfl
      have g0 := X4.out.2.1.cell 0 _ rfl
      have g1 := X4.out.2.1.cell 1 _ rfl
      have g2 := X4.out.2.1.cell 2 _ rfl
      have zg0 := X4.out.2.1.frozen 0
      have zg1 := X4.out.2.1.frozen 1
      have zg2 := X4.out.2.1.frozen 2
      go_wp2_with fail
      refine (cd _).mono ?_
      rintro e w5 ⟨rfl, hb⟩
      have X5 : Hid (Pla W w5 p q r #[.bool s, .int .u64 (c : Int), .int .u64 (t : Int)] #[.bool s, .int .u64 (c : Int), .int .u64 (t : Int)] #[.int .i64 kd, .int .u64 (a : Int), .int .i64 n, .int .u64 (v : Int)]) := X4.out.step hb
      clear hb cd X4
      clear f0 f1 f2 f3
      clear g0 g1 g2 zg0 zg1 zg2
      go_upto_region 23 with fail
      have Xd : Hid (Pla W w5.drew p q r #[.bool s, .int .u64 (c : Int), .int .u64 (t : Int)] #[.bool s, .int .u64 (c : Int), .int .u64 (t : Int)] #[.int .i64 kd, .int .u64 (a : Int), .int .i64 n, .int .u64 (v : Int)]) := X5.out.step (Below.drew (Below.refl _ _))
      refine wp_region_held_drew (S := fun V => (V.cell? ⟨p, 0, none⟩ = some (.bool s) ∧ V.cell? ⟨p, 1, none⟩ = some (.int .u64 (c : Int)) ∧ V.cell? ⟨p, 2, none⟩ = some (.int .u64 (t : Int))) ∧ V.cell? ⟨q, 0, none⟩ = some (.bool s) ∧ V.cell? ⟨q, 1, none⟩ = some (.int .u64 (c : Int)) ∧ V.cell? ⟨q, 2, none⟩ = some (.int .u64 (t : Int))) (by kernel_rfl) ⟨⟨Xd.out.1.cell 0 _ rfl, Xd.out.1.cell 1 _ rfl, Xd.out.1.cell 2 _ rfl⟩, Xd.out.2.1.cell 0 _ rfl, Xd.out.2.1.cell 1 _ rfl, Xd.out.2.1.cell 2 _ rfl⟩ ?_
      intro hS
      refine wpAnyH_take (i := 0) (v := ?_) rfl (by kernel_rfl) (by kernel_rfl) (by kernel_rfl) (fun _ _ _ h => h) (Or.inl ⟨by kernel_rfl, ?_⟩) hS ?_
      rotate_left
      · intro w hSw; (try dsimp only at hSw); go_simp; try (with_reducible rfl)
      (try simp only [Act.put, List.getElem_toArray, List.getElem_cons_succ, List.getElem_cons_zero, List.setIfInBounds_toArray, List.set_cons_zero, List.set_cons_succ])
      refine wpAnyH_take (i := 1) (v := ?_) rfl (by kernel_rfl) (by kernel_rfl) (by kernel_rfl) (fun _ _ _ h => h) (Or.inl ⟨by kernel_rfl, ?_⟩) hS ?_
      rotate_left
      · intro w hSw; (try dsimp only at hSw); go_simp; try (with_reducible rfl)
      (try simp only [Act.put, List.getElem_toArray, List.getElem_cons_succ, List.getElem_cons_zero, List.setIfInBounds_toArray, List.set_cons_zero, List.set_cons_succ])
      refine wpAnyH_ready (rs := [2]) (by kernel_rfl) (by simp) ?_
      refine AllReadyH.cons rfl (fun K1 hK1 => ?_) AllReadyH.nil
      go_simp
      refine (is_any s c t _).mono ?_
      rintro e w21 ⟨rfl, hb⟩
      have X21 : Hid (Pla W w21 p q r #[.bool s, .int .u64 (c : Int), .int .u64 (t : Int)] #[.bool s, .int .u64 (c : Int), .int .u64 (t : Int)] #[.int .i64 kd, .int .u64 (a : Int), .int .i64 n, .int .u64 (v : Int)]) := Xd.out.step hb
      clear hb
      refine hK1.out _ _ ⟨⟨X21.out.1.cell 0 _ rfl, X21.out.1.cell 1 _ rfl, X21.out.1.cell 2 _ rfl⟩, X21.out.2.1.cell 0 _ rfl, X21.out.2.1.cell 1 _ rfl, X21.out.2.1.cell 2 _ rfl⟩ (fun hS21 => ?_)
      clear hK1 K1 hS
      (try simp only [Act.put, List.getElem_toArray, List.getElem_cons_succ, List.getElem_cons_zero, List.setIfInBounds_toArray, List.set_cons_zero, List.set_cons_succ])
      refine wpAnyH_take (i := 3) (v := ?_) rfl (by kernel_rfl) (by kernel_rfl) (by kernel_rfl) (fun _ _ _ h => h) (Or.inl ⟨by kernel_rfl, ?_⟩) hS21 ?_
      rotate_left
      · intro w hSw; (try dsimp only at hSw); go_simp; try (with_reducible rfl)
      (try simp only [Act.put, List.getElem_toArray, List.getElem_cons_succ, List.getElem_cons_zero, List.setIfInBounds_toArray, List.set_cons_zero, List.set_cons_succ])
      refine wpAnyH_take (i := 4) (v := ?_) rfl (by kernel_rfl) (by kernel_rfl) (by kernel_rfl) (fun _ _ _ h => h) (Or.inl ⟨by kernel_rfl, ?_⟩) hS21 ?_
      rotate_left
      · intro w hSw; (try dsimp only at hSw); go_simp; try (with_reducible rfl)
      (try simp only [Act.put, List.getElem_toArray, List.getElem_cons_succ, List.getElem_cons_zero, List.setIfInBounds_toArray, List.set_cons_zero, List.set_cons_succ])
      refine wpAnyH_take (i := 6) (v := ?_) rfl (by kernel_rfl) (by kernel_rfl) (by kernel_rfl) (fun _ _ _ h => h) (Or.inl ⟨by kernel_rfl, ?_⟩) hS21 ?_
      rotate_left
      · intro w hSw; (try dsimp only at hSw); go_simp; try (with_reducible rfl)
      (try simp only [Act.put, List.getElem_toArray, List.getElem_cons_succ, List.getElem_cons_zero, List.setIfInBounds_toArray, List.set_cons_zero, List.set_cons_succ])
      refine wpAnyH_ready (rs := [5]) (by kernel_rfl) (by simp) ?_
      refine AllReadyH.cons rfl (fun K1 hK1 => ?_) AllReadyH.nil
      go_simp
      refine (lines_any p s c t _ X21.out.1).mono ?_
      rintro e w22 ⟨rfl, hb⟩
      have X22 : Hid (Pla W w22 p q r #[.bool s, .int .u64 (c : Int), .int .u64 (t : Int)] #[.bool s, .int .u64 (c : Int), .int .u64 (t : Int)] #[.int .i64 kd, .int .u64 (a : Int), .int .i64 n, .int .u64 (v : Int)]) := X21.out.step hb
      clear hb
      refine hK1.out _ _ ⟨⟨X22.out.1.cell 0 _ rfl, X22.out.1.cell 1 _ rfl, X22.out.1.cell 2 _ rfl⟩, X22.out.2.1.cell 0 _ rfl, X22.out.2.1.cell 1 _ rfl, X22.out.2.1.cell 2 _ rfl⟩ (fun hS22 => ?_)
      clear hK1 K1 hS21
      (try simp only [Act.put, List.getElem_toArray, List.getElem_cons_succ, List.getElem_cons_zero, List.setIfInBounds_toArray, List.set_cons_zero, List.set_cons_succ])
      refine wpAnyH_ready (rs := [7]) (by kernel_rfl) (by simp) ?_
      refine AllReadyH.cons rfl (fun K1 hK1 => ?_) AllReadyH.nil
      go_simp
      refine (dlines_any s c t _).mono ?_
      rintro e w23 ⟨rfl, hb⟩
      have X23 : Hid (Pla W w23 p q r #[.bool s, .int .u64 (c : Int), .int .u64 (t : Int)] #[.bool s, .int .u64 (c : Int), .int .u64 (t : Int)] #[.int .i64 kd, .int .u64 (a : Int), .int .i64 n, .int .u64 (v : Int)]) := X22.out.step hb
      clear hb
      refine hK1.out _ _ ⟨⟨X23.out.1.cell 0 _ rfl, X23.out.1.cell 1 _ rfl, X23.out.1.cell 2 _ rfl⟩, X23.out.2.1.cell 0 _ rfl, X23.out.2.1.cell 1 _ rfl, X23.out.2.1.cell 2 _ rfl⟩ (fun hS23 => ?_)
      clear hK1 K1 hS22
      (try simp only [Act.put, List.getElem_toArray, List.getElem_cons_succ, List.getElem_cons_zero, List.setIfInBounds_toArray, List.set_cons_zero, List.set_cons_succ])
      refine wpAnyH_take (i := 8) (v := ?_) rfl (by kernel_rfl) (by kernel_rfl) (by kernel_rfl) (fun _ _ _ h => h) (Or.inl ⟨by kernel_rfl, ?_⟩) hS23 ?_
      rotate_left
      · intro w hSw; (try dsimp only at hSw); go_simp; try (with_reducible rfl)
      (try simp only [Act.put, List.getElem_toArray, List.getElem_cons_succ, List.getElem_cons_zero, List.setIfInBounds_toArray, List.set_cons_zero, List.set_cons_succ])
      refine wpAnyH_take (i := 9) (v := ?_) rfl (by kernel_rfl) (by kernel_rfl) (by kernel_rfl) (fun _ _ _ h => h) (Or.inl ⟨by kernel_rfl, ?_⟩) hS23 ?_
      rotate_left
      · intro w hSw; (try dsimp only at hSw); go_simp; try (with_reducible rfl)
      (try simp only [Act.put, List.getElem_toArray, List.getElem_cons_succ, List.getElem_cons_zero, List.setIfInBounds_toArray, List.set_cons_zero, List.set_cons_succ])
      refine wpAnyH_done (by kernel_rfl) ?_ _
      clear hS23
      have hneL : ((linesR s c t : Int) != (linesR s c t : Int)) = false := by simp
      go_wp2_with fail
      go_roundw
      case rel => exact ⟨j + 1, s, c, t, by omega, by omega, by go_num, HLT.out.1, HLT.out.2, X23.out.two⟩
      case measure => simp [intOf]; omega
    have k1b : (kd == 1) = false := by simp [k1]
    by_cases k2 : kd = 2
    case pos =>
      have k2b : (kd == 2) = true := by simp [k2]
      clear k0 k1 k2
      have ct := fun V hV => tick_any p s c t v V hV
      have hnum := tick_num t v
      have HLT2 : Hid (c < 18446744073709551616 ∧ tickR t v < 18446744073709551616) := ⟨HLT.out.1, tickR_lt _ _⟩
      generalize tickR t v = t2 at *
      go_wp2_with fail
      refine (ct _ Y.out.1).mono ?_
      rintro e w4 ⟨rfl, hx, hu⟩
      have X4 : Hid (Pla W w4 p q r #[.bool s, .int .u64 (c : Int), .int .u64 (t2 : Int)] #[.bool s, .int .u64 (c : Int), .int .u64 (t : Int)] #[.int .i64 kd, .int .u64 (a : Int), .int .i64 n, .int .u64 (v : Int)]) := Y.out.upon hx hu
      clear hx hu ct Y
      clear f0 f1 f2 f3
      have f0 := X4.out.2.2.1.cell 0 _ rfl
      have f1 := X4.out.2.2.1.cell 1 _ rfl
      have f2 := X4.out.2.2.1.cell 2 _ rfl
      have f3 := X4.out.2.2.1.cell 3 _ rfl
      have g0 := X4.out.2.1.cell 0 _ rfl
      have g1 := X4.out.2.1.cell 1 _ rfl
      have g2 := X4.out.2.1.cell 2 _ rfl
      have zg0 := X4.out.2.1.frozen 0
      have zg1 := X4.out.2.1.frozen 1
      have zg2 := X4.out.2.1.frozen 2
      go_upto_region 23 with fail
      have X5 : Hid (Pla W (w4.setCell ⟨q, 2, none⟩ (.int .u64 (t2 : Int))) p q r #[.bool s, .int .u64 (c : Int), .int .u64 (t2 : Int)] #[.bool s, .int .u64 (c : Int), .int .u64 (t2 : Int)] #[.int .i64 kd, .int .u64 (a : Int), .int .i64 n, .int .u64 (v : Int)]) := X4.out.set 2 _
      generalize w4.setCell ⟨q, 2, none⟩ (.int .u64 (t2 : Int)) = w5 at *
      clear X4
      clear f0 f1 f2 f3
      clear g0 g1 g2 zg0 zg1 zg2
      go_upto_region 23 with fail
      have Xd : Hid (Pla W w5.drew p q r #[.bool s, .int .u64 (c : Int), .int .u64 (t2 : Int)] #[.bool s, .int .u64 (c : Int), .int .u64 (t2 : Int)] #[.int .i64 kd, .int .u64 (a : Int), .int .i64 n, .int .u64 (v : Int)]) := X5.out.step (Below.drew (Below.refl _ _))
      refine wp_region_held_drew (S := fun V => (V.cell? ⟨p, 0, none⟩ = some (.bool s) ∧ V.cell? ⟨p, 1, none⟩ = some (.int .u64 (c : Int)) ∧ V.cell? ⟨p, 2, none⟩ = some (.int .u64 (t2 : Int))) ∧ V.cell? ⟨q, 0, none⟩ = some (.bool s) ∧ V.cell? ⟨q, 1, none⟩ = some (.int .u64 (c : Int)) ∧ V.cell? ⟨q, 2, none⟩ = some (.int .u64 (t2 : Int))) (by kernel_rfl) ⟨⟨Xd.out.1.cell 0 _ rfl, Xd.out.1.cell 1 _ rfl, Xd.out.1.cell 2 _ rfl⟩, Xd.out.2.1.cell 0 _ rfl, Xd.out.2.1.cell 1 _ rfl, Xd.out.2.1.cell 2 _ rfl⟩ ?_
      intro hS
      refine wpAnyH_take (i := 0) (v := ?_) rfl (by kernel_rfl) (by kernel_rfl) (by kernel_rfl) (fun _ _ _ h => h) (Or.inl ⟨by kernel_rfl, ?_⟩) hS ?_
      rotate_left
      · intro w hSw; (try dsimp only at hSw); go_simp; try (with_reducible rfl)
      (try simp only [Act.put, List.getElem_toArray, List.getElem_cons_succ, List.getElem_cons_zero, List.setIfInBounds_toArray, List.set_cons_zero, List.set_cons_succ])
      refine wpAnyH_take (i := 1) (v := ?_) rfl (by kernel_rfl) (by kernel_rfl) (by kernel_rfl) (fun _ _ _ h => h) (Or.inl ⟨by kernel_rfl, ?_⟩) hS ?_
      rotate_left
      · intro w hSw; (try dsimp only at hSw); go_simp; try (with_reducible rfl)
      (try simp only [Act.put, List.getElem_toArray, List.getElem_cons_succ, List.getElem_cons_zero, List.setIfInBounds_toArray, List.set_cons_zero, List.set_cons_succ])
      refine wpAnyH_ready (rs := [2]) (by kernel_rfl) (by simp) ?_
      refine AllReadyH.cons rfl (fun K1 hK1 => ?_) AllReadyH.nil
      go_simp
      refine (is_any s c t2 _).mono ?_
      rintro e w21 ⟨rfl, hb⟩
      have X21 : Hid (Pla W w21 p q r #[.bool s, .int .u64 (c : Int), .int .u64 (t2 : Int)] #[.bool s, .int .u64 (c : Int), .int .u64 (t2 : Int)] #[.int .i64 kd, .int .u64 (a : Int), .int .i64 n, .int .u64 (v : Int)]) := Xd.out.step hb
      clear hb
      refine hK1.out _ _ ⟨⟨X21.out.1.cell 0 _ rfl, X21.out.1.cell 1 _ rfl, X21.out.1.cell 2 _ rfl⟩, X21.out.2.1.cell 0 _ rfl, X21.out.2.1.cell 1 _ rfl, X21.out.2.1.cell 2 _ rfl⟩ (fun hS21 => ?_)
      clear hK1 K1 hS
      (try simp only [Act.put, List.getElem_toArray, List.getElem_cons_succ, List.getElem_cons_zero, List.setIfInBounds_toArray, List.set_cons_zero, List.set_cons_succ])
      refine wpAnyH_take (i := 3) (v := ?_) rfl (by kernel_rfl) (by kernel_rfl) (by kernel_rfl) (fun _ _ _ h => h) (Or.inl ⟨by kernel_rfl, ?_⟩) hS21 ?_
      rotate_left
      · intro w hSw; (try dsimp only at hSw); go_simp; try (with_reducible rfl)
      (try simp only [Act.put, List.getElem_toArray, List.getElem_cons_succ, List.getElem_cons_zero, List.setIfInBounds_toArray, List.set_cons_zero, List.set_cons_succ])
      refine wpAnyH_take (i := 4) (v := ?_) rfl (by kernel_rfl) (by kernel_rfl) (by kernel_rfl) (fun _ _ _ h => h) (Or.inl ⟨by kernel_rfl, ?_⟩) hS21 ?_
      rotate_left
      · intro w hSw; (try dsimp only at hSw); go_simp; try (with_reducible rfl)
      (try simp only [Act.put, List.getElem_toArray, List.getElem_cons_succ, List.getElem_cons_zero, List.setIfInBounds_toArray, List.set_cons_zero, List.set_cons_succ])
      refine wpAnyH_take (i := 6) (v := ?_) rfl (by kernel_rfl) (by kernel_rfl) (by kernel_rfl) (fun _ _ _ h => h) (Or.inl ⟨by kernel_rfl, ?_⟩) hS21 ?_
      rotate_left
      · intro w hSw; (try dsimp only at hSw); go_simp; try (with_reducible rfl)
      (try simp only [Act.put, List.getElem_toArray, List.getElem_cons_succ, List.getElem_cons_zero, List.setIfInBounds_toArray, List.set_cons_zero, List.set_cons_succ])
      refine wpAnyH_ready (rs := [5]) (by kernel_rfl) (by simp) ?_
      refine AllReadyH.cons rfl (fun K1 hK1 => ?_) AllReadyH.nil
      go_simp
      refine (lines_any p s c t2 _ X21.out.1).mono ?_
      rintro e w22 ⟨rfl, hb⟩
      have X22 : Hid (Pla W w22 p q r #[.bool s, .int .u64 (c : Int), .int .u64 (t2 : Int)] #[.bool s, .int .u64 (c : Int), .int .u64 (t2 : Int)] #[.int .i64 kd, .int .u64 (a : Int), .int .i64 n, .int .u64 (v : Int)]) := X21.out.step hb
      clear hb
      refine hK1.out _ _ ⟨⟨X22.out.1.cell 0 _ rfl, X22.out.1.cell 1 _ rfl, X22.out.1.cell 2 _ rfl⟩, X22.out.2.1.cell 0 _ rfl, X22.out.2.1.cell 1 _ rfl, X22.out.2.1.cell 2 _ rfl⟩ (fun hS22 => ?_)
      clear hK1 K1 hS21
      (try simp only [Act.put, List.getElem_toArray, List.getElem_cons_succ, List.getElem_cons_zero, List.setIfInBounds_toArray, List.set_cons_zero, List.set_cons_succ])
      refine wpAnyH_ready (rs := [7]) (by kernel_rfl) (by simp) ?_
      refine AllReadyH.cons rfl (fun K1 hK1 => ?_) AllReadyH.nil
      go_simp
      refine (dlines_any s c t2 _).mono ?_
      rintro e w23 ⟨rfl, hb⟩
      have X23 : Hid (Pla W w23 p q r #[.bool s, .int .u64 (c : Int), .int .u64 (t2 : Int)] #[.bool s, .int .u64 (c : Int), .int .u64 (t2 : Int)] #[.int .i64 kd, .int .u64 (a : Int), .int .i64 n, .int .u64 (v : Int)]) := X22.out.step hb
      clear hb
      refine hK1.out _ _ ⟨⟨X23.out.1.cell 0 _ rfl, X23.out.1.cell 1 _ rfl, X23.out.1.cell 2 _ rfl⟩, X23.out.2.1.cell 0 _ rfl, X23.out.2.1.cell 1 _ rfl, X23.out.2.1.cell 2 _ rfl⟩ (fun hS23 => ?_)
      clear hK1 K1 hS22
      (try simp only [Act.put, List.getElem_toArray, List.getElem_cons_succ, List.getElem_cons_zero, List.setIfInBounds_toArray, List.set_cons_zero, List.set_cons_succ])
      refine wpAnyH_take (i := 8) (v := ?_) rfl (by kernel_rfl) (by kernel_rfl) (by kernel_rfl) (fun _ _ _ h => h) (Or.inl ⟨by kernel_rfl, ?_⟩) hS23 ?_
      rotate_left
      · intro w hSw; (try dsimp only at hSw); go_simp; try (with_reducible rfl)
      (try simp only [Act.put, List.getElem_toArray, List.getElem_cons_succ, List.getElem_cons_zero, List.setIfInBounds_toArray, List.set_cons_zero, List.set_cons_succ])
      refine wpAnyH_take (i := 9) (v := ?_) rfl (by kernel_rfl) (by kernel_rfl) (by kernel_rfl) (fun _ _ _ h => h) (Or.inl ⟨by kernel_rfl, ?_⟩) hS23 ?_
      rotate_left
      · intro w hSw; (try dsimp only at hSw); go_simp; try (with_reducible rfl)
      (try simp only [Act.put, List.getElem_toArray, List.getElem_cons_succ, List.getElem_cons_zero, List.setIfInBounds_toArray, List.set_cons_zero, List.set_cons_succ])
      refine wpAnyH_done (by kernel_rfl) ?_ _
      clear hS23
      have hneL : ((linesR s c t2 : Int) != (linesR s c t2 : Int)) = false := by simp
      go_wp2_with fail
      go_roundw
      case rel => exact ⟨j + 1, s, c, t2, by omega, by omega, by go_num, HLT2.out.1, HLT2.out.2, X23.out.two⟩
      case measure => simp [intOf]; omega
    have k2b : (kd == 2) = false := by simp [k2]
    clear k0 k1 k2
    go_upto_region 23 with fail
    have Xd : Hid (Pla W w3.drew p q r #[.bool s, .int .u64 (c : Int), .int .u64 (t : Int)] #[.bool s, .int .u64 (c : Int), .int .u64 (t : Int)] #[.int .i64 kd, .int .u64 (a : Int), .int .i64 n, .int .u64 (v : Int)]) := Y.out.step (Below.drew (Below.refl _ _))
    refine wp_region_held_drew (S := fun V => (V.cell? ⟨p, 0, none⟩ = some (.bool s) ∧ V.cell? ⟨p, 1, none⟩ = some (.int .u64 (c : Int)) ∧ V.cell? ⟨p, 2, none⟩ = some (.int .u64 (t : Int))) ∧ V.cell? ⟨q, 0, none⟩ = some (.bool s) ∧ V.cell? ⟨q, 1, none⟩ = some (.int .u64 (c : Int)) ∧ V.cell? ⟨q, 2, none⟩ = some (.int .u64 (t : Int))) (by kernel_rfl) ⟨⟨Xd.out.1.cell 0 _ rfl, Xd.out.1.cell 1 _ rfl, Xd.out.1.cell 2 _ rfl⟩, Xd.out.2.1.cell 0 _ rfl, Xd.out.2.1.cell 1 _ rfl, Xd.out.2.1.cell 2 _ rfl⟩ ?_
    intro hS
    refine wpAnyH_take (i := 0) (v := ?_) rfl (by kernel_rfl) (by kernel_rfl) (by kernel_rfl) (fun _ _ _ h => h) (Or.inl ⟨by kernel_rfl, ?_⟩) hS ?_
    rotate_left
    · intro w hSw; (try dsimp only at hSw); go_simp; try (with_reducible rfl)
    (try simp only [Act.put, List.getElem_toArray, List.getElem_cons_succ, List.getElem_cons_zero, List.setIfInBounds_toArray, List.set_cons_zero, List.set_cons_succ])
    refine wpAnyH_take (i := 1) (v := ?_) rfl (by kernel_rfl) (by kernel_rfl) (by kernel_rfl) (fun _ _ _ h => h) (Or.inl ⟨by kernel_rfl, ?_⟩) hS ?_
    rotate_left
    · intro w hSw; (try dsimp only at hSw); go_simp; try (with_reducible rfl)
    (try simp only [Act.put, List.getElem_toArray, List.getElem_cons_succ, List.getElem_cons_zero, List.setIfInBounds_toArray, List.set_cons_zero, List.set_cons_succ])
    refine wpAnyH_ready (rs := [2]) (by kernel_rfl) (by simp) ?_
    refine AllReadyH.cons rfl (fun K1 hK1 => ?_) AllReadyH.nil
    go_simp
    refine (is_any s c t _).mono ?_
    rintro e w21 ⟨rfl, hb⟩
    have X21 : Hid (Pla W w21 p q r #[.bool s, .int .u64 (c : Int), .int .u64 (t : Int)] #[.bool s, .int .u64 (c : Int), .int .u64 (t : Int)] #[.int .i64 kd, .int .u64 (a : Int), .int .i64 n, .int .u64 (v : Int)]) := Xd.out.step hb
    clear hb
    refine hK1.out _ _ ⟨⟨X21.out.1.cell 0 _ rfl, X21.out.1.cell 1 _ rfl, X21.out.1.cell 2 _ rfl⟩, X21.out.2.1.cell 0 _ rfl, X21.out.2.1.cell 1 _ rfl, X21.out.2.1.cell 2 _ rfl⟩ (fun hS21 => ?_)
    clear hK1 K1 hS
    (try simp only [Act.put, List.getElem_toArray, List.getElem_cons_succ, List.getElem_cons_zero, List.setIfInBounds_toArray, List.set_cons_zero, List.set_cons_succ])
    refine wpAnyH_take (i := 3) (v := ?_) rfl (by kernel_rfl) (by kernel_rfl) (by kernel_rfl) (fun _ _ _ h => h) (Or.inl ⟨by kernel_rfl, ?_⟩) hS21 ?_
    rotate_left
    · intro w hSw; (try dsimp only at hSw); go_simp; try (with_reducible rfl)
    (try simp only [Act.put, List.getElem_toArray, List.getElem_cons_succ, List.getElem_cons_zero, List.setIfInBounds_toArray, List.set_cons_zero, List.set_cons_succ])
    refine wpAnyH_take (i := 4) (v := ?_) rfl (by kernel_rfl) (by kernel_rfl) (by kernel_rfl) (fun _ _ _ h => h) (Or.inl ⟨by kernel_rfl, ?_⟩) hS21 ?_
    rotate_left
    · intro w hSw; (try dsimp only at hSw); go_simp; try (with_reducible rfl)
    (try simp only [Act.put, List.getElem_toArray, List.getElem_cons_succ, List.getElem_cons_zero, List.setIfInBounds_toArray, List.set_cons_zero, List.set_cons_succ])
    refine wpAnyH_take (i := 6) (v := ?_) rfl (by kernel_rfl) (by kernel_rfl) (by kernel_rfl) (fun _ _ _ h => h) (Or.inl ⟨by kernel_rfl, ?_⟩) hS21 ?_
    rotate_left
    · intro w hSw; (try dsimp only at hSw); go_simp; try (with_reducible rfl)
    (try simp only [Act.put, List.getElem_toArray, List.getElem_cons_succ, List.getElem_cons_zero, List.setIfInBounds_toArray, List.set_cons_zero, List.set_cons_succ])
    refine wpAnyH_ready (rs := [5]) (by kernel_rfl) (by simp) ?_
    refine AllReadyH.cons rfl (fun K1 hK1 => ?_) AllReadyH.nil
    go_simp
    refine (lines_any p s c t _ X21.out.1).mono ?_
    rintro e w22 ⟨rfl, hb⟩
    have X22 : Hid (Pla W w22 p q r #[.bool s, .int .u64 (c : Int), .int .u64 (t : Int)] #[.bool s, .int .u64 (c : Int), .int .u64 (t : Int)] #[.int .i64 kd, .int .u64 (a : Int), .int .i64 n, .int .u64 (v : Int)]) := X21.out.step hb
    clear hb
    refine hK1.out _ _ ⟨⟨X22.out.1.cell 0 _ rfl, X22.out.1.cell 1 _ rfl, X22.out.1.cell 2 _ rfl⟩, X22.out.2.1.cell 0 _ rfl, X22.out.2.1.cell 1 _ rfl, X22.out.2.1.cell 2 _ rfl⟩ (fun hS22 => ?_)
    clear hK1 K1 hS21
    (try simp only [Act.put, List.getElem_toArray, List.getElem_cons_succ, List.getElem_cons_zero, List.setIfInBounds_toArray, List.set_cons_zero, List.set_cons_succ])
    refine wpAnyH_ready (rs := [7]) (by kernel_rfl) (by simp) ?_
    refine AllReadyH.cons rfl (fun K1 hK1 => ?_) AllReadyH.nil
    go_simp
    refine (dlines_any s c t _).mono ?_
    rintro e w23 ⟨rfl, hb⟩
    have X23 : Hid (Pla W w23 p q r #[.bool s, .int .u64 (c : Int), .int .u64 (t : Int)] #[.bool s, .int .u64 (c : Int), .int .u64 (t : Int)] #[.int .i64 kd, .int .u64 (a : Int), .int .i64 n, .int .u64 (v : Int)]) := X22.out.step hb
    clear hb
    refine hK1.out _ _ ⟨⟨X23.out.1.cell 0 _ rfl, X23.out.1.cell 1 _ rfl, X23.out.1.cell 2 _ rfl⟩, X23.out.2.1.cell 0 _ rfl, X23.out.2.1.cell 1 _ rfl, X23.out.2.1.cell 2 _ rfl⟩ (fun hS23 => ?_)
    clear hK1 K1 hS22
    (try simp only [Act.put, List.getElem_toArray, List.getElem_cons_succ, List.getElem_cons_zero, List.setIfInBounds_toArray, List.set_cons_zero, List.set_cons_succ])
    refine wpAnyH_take (i := 8) (v := ?_) rfl (by kernel_rfl) (by kernel_rfl) (by kernel_rfl) (fun _ _ _ h => h) (Or.inl ⟨by kernel_rfl, ?_⟩) hS23 ?_
    rotate_left
    · intro w hSw; (try dsimp only at hSw); go_simp; try (with_reducible rfl)
    (try simp only [Act.put, List.getElem_toArray, List.getElem_cons_succ, List.getElem_cons_zero, List.setIfInBounds_toArray, List.set_cons_zero, List.set_cons_succ])
    refine wpAnyH_take (i := 9) (v := ?_) rfl (by kernel_rfl) (by kernel_rfl) (by kernel_rfl) (fun _ _ _ h => h) (Or.inl ⟨by kernel_rfl, ?_⟩) hS23 ?_
    rotate_left
    · intro w hSw; (try dsimp only at hSw); go_simp; try (with_reducible rfl)
    (try simp only [Act.put, List.getElem_toArray, List.getElem_cons_succ, List.getElem_cons_zero, List.setIfInBounds_toArray, List.set_cons_zero, List.set_cons_succ])
    refine wpAnyH_done (by kernel_rfl) ?_ _
    clear hS23
    have hneL : ((linesR s c t : Int) != (linesR s c t : Int)) = false := by simp
    go_wp2_with fail
    go_roundw
    case rel => exact ⟨j + 1, s, c, t, by omega, by omega, by go_num, HLT.out.1, HLT.out.2, X23.out.two⟩
    case measure => simp [intOf]; omega
theorem plays_walk (W : World) (v : Value) (len : Nat) (os : Nat → Int × Nat × Int × Nat) (hos : OpsIn W v len os) : Calls Try.prog 3 #[v] W fun e w' => e = .returned (.bool true) ∧ Below W.heap.size W w' := by
  have hv : ∃ g cap, v = .slice g len cap := by
    rcases hos with ⟨rfl, a, cap, rfl⟩ | ⟨b, off, cap, rfl, _⟩
    · exact ⟨_, _, rfl⟩
    · exact ⟨_, _, rfl⟩
  obtain ⟨g, cap, rfl⟩ := hv
  exact plays_core g len cap os W hos
end Go.Proofs.Ytaiagfdlglidfaa
