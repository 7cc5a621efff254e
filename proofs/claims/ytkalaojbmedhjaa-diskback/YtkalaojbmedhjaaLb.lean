/- DiskRefuses: a request that is refused leaves all sectors; it is a request all the same. -/
import Derived.Test.YtkalaojbmedhjaaLa
namespace Go.Proofs.Ytkalaojbmedhjaa
open Go.RowKit Go.Maps
set_option linter.unusedVariables false
set_option linter.unusedSimpArgs false
set_option maxRecDepth 100000
theorem open_agg {P : Program} {W : World} {r : Reach} {b0 : Nat} {t : TypeId} {fs : Array Field} {v : Value} (ht : P.underlying t = some (.struct fs)) (hv : Value.okWide P W r b0 t v) : ∃ cs, v = .agg cs := by
  obtain ⟨cs, rfl, _⟩ : ∃ cs, v = .agg cs ∧ cs.size = P.cellsOf t ∧ Row.okWide P W r b0 t cs := by
    simpa [Value.okWide, ht] using hv
  exact ⟨cs, rfl⟩
/-- a disk, and a call in a box -/
def Rq (w V : World) (db bm : Nat) (K : Dk) (O : Array Value) : Prop := DiskAt V db bm K ∧ Box 39 V w.heap.size O ∧ Below w.heap.size w V ∧ w.heap.size < db ∧ w.heap.size < bm
/-- .. and another disk -/
def Rc (w V : World) (db bm d2 m2 : Nat) (K Kb : Dk) (O : Array Value) : Prop := Rq w V db bm K O ∧ DiskAt V d2 m2 Kb ∧ d2 ≠ db ∧ d2 ≠ bm ∧ m2 ≠ db ∧ m2 ≠ bm
section
variable {w V V' : World} {db bm d2 m2 : Nat} {K Kb K2 : Dk} {O : Array Value}
theorem Rq.step (h : Rq w V db bm K O) (hb : Below V.heap.size V V') : Rq w V' db bm K O := ⟨h.1.step hb, h.2.1.step hb, h.2.2.1.trans (hb.mono h.2.2.1.size), h.2.2.2⟩
theorem Rq.two (h : Rq w V db bm K O) (hd : DiskAt V' db bm K2) (ht : Two db bm V V') : Rq w V' db bm K2 O := ⟨hd, ht.box h.2.1 (by have := h.2.2.2.1; omega) (by have := h.2.2.2.2; omega), h.2.2.1.trans (ht.below (Nat.le_of_lt h.2.2.2.1) (Nat.le_of_lt h.2.2.2.2) h.2.2.1.size), h.2.2.2⟩
theorem Rc.step (h : Rc w V db bm d2 m2 K Kb O) (hb : Below V.heap.size V V') : Rc w V' db bm d2 m2 K Kb O := ⟨h.1.step hb, h.2.1.step hb, h.2.2⟩
theorem Rc.two (h : Rc w V db bm d2 m2 K Kb O) (hd : DiskAt V' db bm K2) (ht : Two db bm V V') : Rc w V' db bm d2 m2 K2 Kb O := ⟨h.1.two hd ht, h.2.1.two ht h.2.2.1 h.2.2.2.1 h.2.2.2.2.1 h.2.2.2.2.2, h.2.2⟩
theorem Rc.new (h : Rq w V db bm K O) (hd : DiskAt V' d2 m2 Kb) (h1 : V.heap.size ≤ d2) (h2 : V.heap.size ≤ m2) (hb : Below V.heap.size V V') : Rc w V' db bm d2 m2 K Kb O := by
  have := h.1.lt
  exact ⟨h.step hb, hd, by omega, by omega, by omega, by omega⟩
end
theorem writeE_zero {K : Dk} {x L : Nat} (h : writeE K x L = 0) : K.fail ≠ 1 ∧ K.locked = false ∧ pieceE K.count x L = 0 := by
  unfold writeE at h
  split at h
  · cases h
  · rename_i h1
    split at h
    · cases h
    · rename_i h2
      exact ⟨h1, by cases hl : K.locked <;> simp_all, h⟩
theorem writeK_bad {K : Dk} {x L : Nat} {f : Nat → Nat} (h : writeE K x L ≠ 0) : (writeK K x L f).M = K.M := by unfold writeK; rw [if_neg h]; rfl
theorem writeK_reqs (K : Dk) (x L : Nat) (f : Nat → Nat) : (writeK K x L f).reqs = inc K.reqs := by unfold writeK; split <;> rfl
set_option maxHeartbeats 8000000 in
theorem refuses_core (w : World) (lk : Bool) (v : Value) (len : Nat) (ops : Nat → OpD) (hsc : ScriptIn w v len ops) (o : OpD) (ho : o.In (fun q => w.heap.size ≤ q) w) (hl : o.l ≤ 9223372036854775807) : Calls Try.prog 5 #[.bool lk, v, .agg o.cells] w fun e w' => e = .returned (.bool true) ∧ Below w.heap.size w w' := by
  obtain ⟨av, cap, rfl⟩ := script_form hsc
  obtain ⟨z, x, n, a, l, c⟩ := o
  simp only at hl
  have HS : Hid (ScriptIn w (.slice av len cap) len ops) := hsc
  have HI : Hid (OpD.In ⟨z, x, n, a, l, c⟩ (fun q => w.heap.size ≤ q) w) := ho
  clear hsc ho
  show Calls Try.prog 5 #[.bool lk, .slice av len cap, .agg #[.int .i64 z, .int .u64 (x : Nat), .int .i64 n, .slice a l c]] w _
  go_enter Try.func5, Try.ntmps5
  go_upto_region 0 with fail
  refine wp_region_list ?_
  refine wpList_box_agg 39 #[.int .i64 z, .int .u64 (x : Nat), .int .i64 n, .slice a l c] _ rfl rfl rfl ?_
  have b1 : Below w.heap.size w (w.alloc (.cells #[.int .i64 z, .int .u64 (x : Nat), .int .i64 n, .slice a l c] 39)) := (Below.refl _ _).alloc (Nat.le_refl _) _
  have B0 : Hid (Box 39 (w.alloc (.cells #[.int .i64 z, .int .u64 (x : Nat), .int .i64 n, .slice a l c] 39)) w.heap.size #[.int .i64 z, .int .u64 (x : Nat), .int .i64 n, .slice a l c] ∧ Below w.heap.size w (w.alloc (.cells #[.int .i64 z, .int .u64 (x : Nat), .int .i64 n, .slice a l c] 39))) := ⟨Box.new 39 w _, b1⟩
  have HS1 : Hid (ScriptIn (w.alloc (.cells #[.int .i64 z, .int .u64 (x : Nat), .int .i64 n, .slice a l c] 39)) (.slice av len cap) len ops) := HS.out.up b1
  clear b1
  generalize w.alloc (.cells #[.int .i64 z, .int .u64 (x : Nat), .int .i64 n, .slice a l c] 39) = w1 at *
  go_wp2_with fail
  refine (awake_any _).mono ?_
  rintro e w0 ⟨rfl, hb0⟩
  have Z0 : Hid (Below w1.heap.size w1 w0) := hb0
  clear hb0
  go_upto_region 3 with fail
  refine wp_region_list ?_
  (refine wpList_step (fun KK hKK => ?_); go_simp; refine hKK _ _ ?_; clear hKK KK)
  (refine wpList_step (fun KK hKK => ?_); go_simp; refine hKK _ _ ?_; clear hKK KK)
  refine wpList_step (fun KK hKK => ?_)
  go_simp
  refine (played_any lk av len cap ops w0 (HS1.out.up Z0.out)).mono ?_
  rintro e w2 ⟨pv, g, K, rfl, hL⟩
  have Z2 : Hid (Left w0 w2 lk pv g K) := hL
  clear hL
  refine hKK _ _ ?_
  clear hKK KK
  (refine wpList_step (fun KK hKK => ?_); go_simp; refine hKK _ _ ?_; clear hKK KK)
  refine wpList_extract_at rfl _ _ _ _ rfl rfl rfl ?_
  refine wpList_extract_at rfl _ _ _ _ rfl rfl rfl ?_
  refine wpList_extract_at rfl _ _ _ _ rfl rfl rfl ?_
  refine wpList_alloc_zero 28 zeroC 5 zinfo28 rfl rfl ?_
  (refine wpList_step (fun KK hKK => ?_); go_simp; refine hKK _ _ ?_; clear hKK KK)
  refine wpList_store28 rfl _ _ rfl w2.heap.size K g 2048 zeroC rfl rfl (Box.new 28 w2 _) rfl ?_
  intro W3 B3 U3
  have Y0 : Hid (Bg w1 W3 w2.heap.size lk pv g K) := bg_new Z0.out Z2.out B3 U3
  clear B3 U3 Z2 Z0
  generalize w2.heap.size = fb at *
  rcases Y0.out.2.2.2.2.2 with rfl | ⟨db, bm, rfl, hd, hg, hd1, hd2, _⟩
  · go_wp2_with fail
    go_ret
    exact ⟨rfl, B0.out.2.trans (Y0.out.2.1.mono B0.out.2.size)⟩
  · have X : Hid (Rq w W3 db bm K #[.int .i64 z, .int .u64 (x : Nat), .int .i64 n, .slice a l c]) := by
      have h0 := B0.out.1.lt
      exact ⟨hd, B0.out.1.step Y0.out.2.1, B0.out.2.trans (Y0.out.2.1.mono B0.out.2.size), by omega, by omega⟩
    have HC : Hid (K.count = 4 ∧ K.locked = lk) := ⟨Y0.out.2.2.2.1, Y0.out.2.2.2.2.1⟩
    clear hd hg hd1 hd2 Y0 B0 HS HS1
    have c0 := X.out.2.1.cell 0 (.int .i64 z) rfl
    have c1 := X.out.2.1.cell 1 (.int .u64 (x : Nat)) rfl
    have c2 := X.out.2.1.cell 2 (.int .i64 n) rfl
    have c3 := X.out.2.1.cell 3 (.slice a l c) rfl
    have CS : Hid (∀ V, Calls Try.prog 15 #[.agg #[.int .i64 z, .int .u64 (x : Nat), .int .i64 n, .slice a l c]] V fun e w' => e = .returned (.bool (smallB n l)) ∧ Below V.heap.size V w') := fun V => small_any ⟨z, x, n, a, l, c⟩ hl V
    cases hsm : smallB n l with
    | false =>
      have HSm : Hid (smallB n l = false) := hsm
      clear hsm
      go_wp2_with fail
      refine (CS.out _).mono ?_
      rw [HSm.out]
      rintro e w3 ⟨rfl, hb3⟩
      have X3 : Hid (Rq w w3 db bm K #[.int .i64 z, .int .u64 (x : Nat), .int .i64 n, .slice a l c]) := X.out.step hb3
      clear hb3
      go_wp2
      go_ret
      exact ⟨rfl, X3.out.2.2.1⟩
    | true =>
      have hs2 := hsm
      simp only [smallB, decide_eq_true_eq] at hs2
      obtain ⟨s1, s2, s3, s4⟩ := hs2
      have HSm : Hid (smallB n l = true) := hsm
      clear hsm
      go_wp2_with fail
      refine (CS.out _).mono ?_
      rw [HSm.out]
      rintro e w3 ⟨rfl, hb3⟩
      have X3 : Hid (Rq w w3 db bm K #[.int .i64 z, .int .u64 (x : Nat), .int .i64 n, .slice a l c]) := X.out.step hb3
      clear hb3 X c0 c1 c2 c3 CS HSm
      obtain ⟨m, rfl⟩ : ∃ m : Nat, n = m := ⟨n.toNat, by omega⟩
      have s5 : m * l ≤ 4096 := by exact_mod_cast s4
      have s6 : m ≤ 2048 := by omega
      clear s1 s2 s4
      obtain ⟨hx, f, hf, hr⟩ := HI.out
      simp only at hx hr
      have HR : Hid (ReadsF (fun q => w.heap.size ≤ q) w (.slice a l c) l f) := hr
      obtain ⟨L, hLL⟩ : ∃ L, m * l = L := ⟨_, rfl⟩
      obtain ⟨F, hFF⟩ : ∃ F, overF f l = F := ⟨_, rfl⟩
      have hF2 : ∀ i, F i ≤ 255 := by rw [← hFF]; exact overF_le l hf
      have OC : Hid (∀ V, Reads .u8 V (.slice a l c) l f → Calls Try.prog 18 #[.agg #[.int .i64 z, .int .u64 (x : Nat), .int .i64 (m : Nat), .slice a l c]] V fun e w' => ∃ va vc, e = .returned (.slice va L vc) ∧ w'.ownsRow V.heap.size 5 1 (.slice va L vc) L (rowK .u8 F L) ∧ Below V.heap.size V w') := fun V h => (over_any z x m a l c f V h s6 s3 s5).mono fun e w' ⟨v, he, ho, hb⟩ => by
        obtain ⟨va, vc, rfl⟩ := owns_form ho
        subst hLL hFF
        exact ⟨va, vc, he, ho, hb⟩
      rw [hLL] at s5
      have RD : Hid (∀ V, Below w.heap.size w V → Reads .u8 V (.slice a l c) l f) := fun V hV => by
        rcases HR.out with ⟨e1, a', cap, _, e2⟩ | ⟨b, off, cap, hv, hn, _, _, hc⟩
        · exact .inl ⟨e1, _, _, by rw [e1]⟩
        · exact .inr ⟨b, off, cap, hv, fun i hi => by rw [hV.cell (p := ⟨b, off + i, none⟩) (by simp; omega)]; exact hc i hi⟩
      obtain ⟨E, hE⟩ : ∃ E, writeE K x L = E := ⟨_, rfl⟩
      obtain ⟨K2, hK2⟩ : ∃ K2, writeK K x L F = K2 := ⟨_, rfl⟩
      have PC : Hid (∀ V v, DiskAt V db bm K → ReadsF (fun k => k = db ∨ k = bm) V v L F → Calls Try.prog 17 #[.pointer (some ⟨db, 0, none⟩), .int .u64 (x : Nat), v] V fun e w' => e = .returned (.int .i64 (E : Nat)) ∧ DiskAt w' db bm K2 ∧ Two db bm V w') := fun V v h1 h2 => by rw [← hE, ← hK2]; exact write_any h1 x L F v hx h2 hF2
      have HE : Hid (writeE K x L = E ∧ writeK K x L F = K2) := ⟨hE, hK2⟩
      have CR : Hid (∀ V, DiskAt V db bm K2 → Calls Try.prog 14 #[.pointer (some ⟨db, 0, none⟩)] V fun e w' => e = .returned (.int .u64 (inc K.reqs : Nat)) ∧ w' = V) := fun V h => by rw [← writeK_reqs K x L F, hK2]; exact requests_any h
      have hi := inc_num K.reqs
      clear hf hr hLL hFF hE hK2
      go_wp2_with fail
      refine (copy_any X3.out.1).mono ?_
      rintro e w4 ⟨d2, m2, rfl, hd4, g1, g2, hb4⟩
      have X4 : Hid (Rc w w4 db bm d2 m2 K K #[.int .i64 z, .int .u64 (x : Nat), .int .i64 (m : Nat), .slice a l c]) := Rc.new X3.out hd4 g1 g2 hb4
      clear hd4 g1 g2 hb4 X3
      go_wp2_with fail
      refine (requests_any X4.out.1.1).mono ?_
      rintro e w5 ⟨rfl, hw⟩
      rw [hw]
      clear hw w5
      go_upto_region 8 with fail
      have Xd : Hid (Rc w w4.drew db bm d2 m2 K K #[.int .i64 z, .int .u64 (x : Nat), .int .i64 (m : Nat), .slice a l c]) := X4.out.step (Below.drew (Below.refl _ _))
      refine wp_region_held_drew (S := fun V => V.cell? ⟨w.heap.size, 0, none⟩ = some (.int .i64 z) ∧ V.cell? ⟨w.heap.size, 1, none⟩ = some (.int .u64 (x : Nat)) ∧ V.cell? ⟨w.heap.size, 2, none⟩ = some (.int .i64 (m : Nat)) ∧ V.cell? ⟨w.heap.size, 3, none⟩ = some (.slice a l c)) (by kernel_rfl) ⟨Xd.out.1.2.1.cell 0 _ rfl, Xd.out.1.2.1.cell 1 _ rfl, Xd.out.1.2.1.cell 2 _ rfl, Xd.out.1.2.1.cell 3 _ rfl⟩ ?_
      intro hS
      clear X4
      generalize w4.drew = Vd at *
      refine wpAnyH_take (i := 0) (v := ?_) rfl (by kernel_rfl) (by kernel_rfl) (by kernel_rfl) (fun _ _ _ h => h) (Or.inl ⟨by kernel_rfl, ?_⟩) hS ?_
      rotate_left
      · intro w hSw; (try dsimp only at hSw); go_simp; try (with_reducible rfl)
      (try simp only [Act.put, List.getElem_toArray, List.getElem_cons_succ, List.getElem_cons_zero, List.setIfInBounds_toArray, List.set_cons_zero, List.set_cons_succ])
      refine wpAnyH_take (i := 1) (v := ?_) rfl (by kernel_rfl) (by kernel_rfl) (by kernel_rfl) (fun _ _ _ h => h) (Or.inl ⟨by kernel_rfl, ?_⟩) hS ?_
      rotate_left
      · intro w hSw; (try dsimp only at hSw); go_simp; try (with_reducible rfl)
      (try simp only [Act.put, List.getElem_toArray, List.getElem_cons_succ, List.getElem_cons_zero, List.setIfInBounds_toArray, List.set_cons_zero, List.set_cons_succ])
      refine wpAnyH_take (i := 2) (v := ?_) rfl (by kernel_rfl) (by kernel_rfl) (by kernel_rfl) (fun _ _ _ h => h) (Or.inl ⟨by kernel_rfl, ?_⟩) hS ?_
      rotate_left
      · intro w hSw; (try dsimp only at hSw); go_simp; try (with_reducible rfl)
      (try simp only [Act.put, List.getElem_toArray, List.getElem_cons_succ, List.getElem_cons_zero, List.setIfInBounds_toArray, List.set_cons_zero, List.set_cons_succ])
      refine wpAnyH_take (i := 3) (v := ?_) rfl (by kernel_rfl) (by kernel_rfl) (by kernel_rfl) (fun _ _ _ h => h) (Or.inl ⟨by kernel_rfl, ?_⟩) hS ?_
      rotate_left
      · intro w hSw; (try dsimp only at hSw); go_simp; try (with_reducible rfl)
      (try simp only [Act.put, List.getElem_toArray, List.getElem_cons_succ, List.getElem_cons_zero, List.setIfInBounds_toArray, List.set_cons_zero, List.set_cons_succ])
      refine wpAnyH_ready (rs := [4]) (by kernel_rfl) (by simp) ?_
      refine AllReadyH.cons rfl (fun HH0 HH1 => ?_) AllReadyH.nil
      go_simp
      refine (OC.out _ (RD.out _ Xd.out.1.2.2.1)).mono ?_
      rintro e w6 ⟨va, vc, rfl, ho, hb⟩
      have X6 : Hid (Rc w w6 db bm d2 m2 K K #[.int .i64 z, .int .u64 (x : Nat), .int .i64 (m : Nat), .slice a l c] ∧ ReadsF (fun k => k = db ∨ k = bm) w6 (.slice va L vc) L F) := ⟨Xd.out.step hb, owns_readsF ho (fun k hk => by have h1 := Xd.out.1.1.lt; rcases hk with rfl | rfl <;> omega)⟩
      clear ho hb Xd
      refine HH1.out _ _ ⟨X6.out.1.1.2.1.cell 0 _ rfl, X6.out.1.1.2.1.cell 1 _ rfl, X6.out.1.1.2.1.cell 2 _ rfl, X6.out.1.1.2.1.cell 3 _ rfl⟩ (fun hS1 => ?_)
      clear HH1 HH0 hS
      (try simp only [Act.put, List.getElem_toArray, List.getElem_cons_succ, List.getElem_cons_zero, List.setIfInBounds_toArray, List.set_cons_zero, List.set_cons_succ])
      refine wpAnyH_ready (rs := [5]) (by kernel_rfl) (by simp) ?_
      refine AllReadyH.cons rfl (fun HH0 HH1 => ?_) AllReadyH.nil
      go_simp
      refine (PC.out _ _ X6.out.1.1.1 X6.out.2).mono ?_
      rintro e w7 ⟨rfl, hd7, ht7⟩
      have X7 : Hid (Rc w w7 db bm d2 m2 K2 K #[.int .i64 z, .int .u64 (x : Nat), .int .i64 (m : Nat), .slice a l c]) := X6.out.1.two hd7 ht7
      clear hd7 ht7 X6
      refine HH1.out _ _ ⟨X7.out.1.2.1.cell 0 _ rfl, X7.out.1.2.1.cell 1 _ rfl, X7.out.1.2.1.cell 2 _ rfl, X7.out.1.2.1.cell 3 _ rfl⟩ (fun hS2 => ?_)
      clear HH1 HH0 hS1
      (try simp only [Act.put, List.getElem_toArray, List.getElem_cons_succ, List.getElem_cons_zero, List.setIfInBounds_toArray, List.set_cons_zero, List.set_cons_succ])
      refine wpAnyH_take (i := 6) (v := ?_) rfl (by kernel_rfl) (by kernel_rfl) (by kernel_rfl) (fun _ _ _ h => h) (Or.inl ⟨by kernel_rfl, ?_⟩) hS2 ?_
      rotate_left
      · intro w hSw; (try dsimp only at hSw); go_simp; try (with_reducible rfl)
      (try simp only [Act.put, List.getElem_toArray, List.getElem_cons_succ, List.getElem_cons_zero, List.setIfInBounds_toArray, List.set_cons_zero, List.set_cons_succ])
      refine wpAnyH_done (by kernel_rfl) ?_ _
      clear hS2
      go_wp2_with fail
      refine (CR.out _ X7.out.1.1).mono ?_
      rintro e w8 ⟨rfl, hw⟩
      rw [hw]
      clear hw w8
      by_cases hE0 : E = 0
      · have hz := writeE_zero (HE.out.1.trans hE0)
        subst hE0
        have hlk : lk = false := by rw [← HC.out.2]; exact hz.2.1
        subst hlk
        have hm5 : (L : Int) % 512 = 0 := by have := (piece_zero hz.2.2).1; omega
        have c0 := X7.out.1.2.1.cell 0 (.int .i64 z) rfl
        have c1 := X7.out.1.2.1.cell 1 (.int .u64 (x : Nat)) rfl
        have c2 := X7.out.1.2.1.cell 2 (.int .i64 (m : Nat)) rfl
        have c3 := X7.out.1.2.1.cell 3 (.slice a l c) rfl
        clear hz
        go_wp2_with fail
        refine (OC.out _ (RD.out _ X7.out.1.2.2.1)).mono ?_
        rintro e w9 ⟨va2, vc2, rfl, ho, hb⟩
        have X9 : Hid (Rc w w9 db bm d2 m2 K2 K #[.int .i64 z, .int .u64 (x : Nat), .int .i64 (m : Nat), .slice a l c]) := X7.out.step hb
        clear ho hb X7 c0 c1 c2 c3
        go_wp2
        go_ret
        exact ⟨rfl, X9.out.1.2.2.1⟩
      · have n1 : ((E : Int) == 0) = false := by simp; omega
        have n2 : (E : Int) ≠ 0 := by omega
        have hM : ∀ b, K2.M b = K.M b := fun b => by rw [← HE.out.2, writeK_bad (by rw [HE.out.1]; exact hE0)]
        have SM : Hid (Calls Try.prog 19 #[.pointer (some ⟨db, 0, none⟩), .pointer (some ⟨d2, 0, none⟩)] w7 fun e w' => e = .returned (.bool true) ∧ Below w7.heap.size w7 w') := (same_any X7.out.1.1 X7.out.2.1 (by rw [← HE.out.2]; exact (writeK_same K x L F).1)).mono fun e w' ⟨r, he, hr, hb⟩ => ⟨by rw [he, hr.2 hM], hb⟩
        clear hE0 hM
        go_wp2_with fail
        refine (show Calls Try.prog 19 _ _ _ from SM.out).mono ?_
        rintro e w9 ⟨rfl, hb⟩
        have X9 : Hid (Rc w w9 db bm d2 m2 K2 K #[.int .i64 z, .int .u64 (x : Nat), .int .i64 (m : Nat), .slice a l c]) := X7.out.step hb
        clear hb X7
        go_wp2
        go_ret
        exact ⟨rfl, X9.out.1.2.2.1⟩
end Go.Proofs.Ytkalaojbmedhjaa
