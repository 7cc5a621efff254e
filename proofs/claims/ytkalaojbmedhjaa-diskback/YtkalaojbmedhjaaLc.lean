/- DiskBack: what was written is read, and changes no other sector. -/
import Derived.Test.YtkalaojbmedhjaaLb
namespace Go.Proofs.Ytkalaojbmedhjaa
open Go.RowKit Go.Maps
set_option linter.unusedVariables false
set_option linter.unusedSimpArgs false
set_option maxRecDepth 100000
theorem back_read {K : Dk} {x L : Nat} {f : Nat → Nat} (h : pieceE K.count x L = 0) (i : Nat) (hi : i < L) : (putK (askK K) x L f).M (x * 512 + i) = f i := by
  have hp := piece_zero h
  show layN K.M (K.count * 512) (x * 512) (up L) L f (x * 512 + i) = f i
  rw [layN_at _ _ _ _ _ _ _ (by omega), up_whole hp.1, if_pos (by omega), if_pos (by omega)]
  congr 1; omega
theorem back_other {K : Dk} {x L : Nat} {f : Nat → Nat} (h : pieceE K.count x L = 0) (k : Nat) (hk : k < K.count) (ho : k < x ∨ L / 512 ≤ k - x) (i : Nat) (hi : i < 512) : secF (putK (askK K) x L f).M k i = secF K.M k i := by
  have hp := piece_zero h
  show layN K.M (K.count * 512) (x * 512) (up L) L f (k * 512 + i) = K.M (k * 512 + i)
  rw [layN_at _ _ _ _ _ _ _ (by omega), up_whole hp.1, if_neg (by omega)]
theorem read_own {K : Dk} {x L : Nat} {f : Nat → Nat} (h : pieceE K.count x L = 0) (hf : K.fail = 0) : readE (putK (askK K) x L f) x L = 0 := by
  unfold readE
  rw [if_neg (by show ¬ K.fail - 1 = 1; omega)]
  exact h
set_option maxHeartbeats 8000000 in
theorem back_core (w : World) (v : Value) (len : Nat) (ops : Nat → OpD) (hsc : ScriptIn w v len ops) (o : OpD) (ho : o.In (fun q => w.heap.size ≤ q) w) (hl : o.l ≤ 9223372036854775807) : Calls Try.prog 6 #[v, .agg o.cells] w fun e w' => e = .returned (.bool true) ∧ Below w.heap.size w w' := by
  obtain ⟨av, cap, rfl⟩ := script_form hsc
  obtain ⟨z, x, n, a, l, c⟩ := o
  simp only at hl
  have HS : Hid (ScriptIn w (.slice av len cap) len ops) := hsc
  have HI : Hid (OpD.In ⟨z, x, n, a, l, c⟩ (fun q => w.heap.size ≤ q) w) := ho
  clear hsc ho
  show Calls Try.prog 6 #[.slice av len cap, .agg #[.int .i64 z, .int .u64 (x : Nat), .int .i64 n, .slice a l c]] w _
  go_enter Try.func6, Try.ntmps6
  go_upto_region 0 with fail
  refine wp_region_list ?_
  refine wpList_box_agg 39 #[.int .i64 z, .int .u64 (x : Nat), .int .i64 n, .slice a l c] _ rfl rfl rfl ?_
  have b1 : Below w.heap.size w (w.alloc (.cells #[.int .i64 z, .int .u64 (x : Nat), .int .i64 n, .slice a l c] 39)) := (Below.refl _ _).alloc (Nat.le_refl _) _
  have B0 : Hid (Box 39 (w.alloc (.cells #[.int .i64 z, .int .u64 (x : Nat), .int .i64 n, .slice a l c] 39)) w.heap.size #[.int .i64 z, .int .u64 (x : Nat), .int .i64 n, .slice a l c] ∧ Below w.heap.size w (w.alloc (.cells #[.int .i64 z, .int .u64 (x : Nat), .int .i64 n, .slice a l c] 39))) := ⟨Box.new 39 w _, b1⟩
  have HS1 : Hid (ScriptIn (w.alloc (.cells #[.int .i64 z, .int .u64 (x : Nat), .int .i64 n, .slice a l c] 39)) (.slice av len cap) len ops) := HS.out.up b1
  clear b1
  generalize w.alloc (.cells #[.int .i64 z, .int .u64 (x : Nat), .int .i64 n, .slice a l c] 39) = w1 at *
  go_wp2_with fail
  refine (awake_any _).mono ?_
  rintro e w0 ⟨rfl, hb0⟩
  have Z0 : Hid (Below w1.heap.size w1 w0) := hb0
  clear hb0
  go_upto_region 3 with fail
  refine wp_region_list ?_
  (refine wpList_step (fun KK hKK => ?_); go_simp; refine hKK _ _ ?_; clear hKK KK)
  refine wpList_step (fun KK hKK => ?_)
  go_simp
  refine (played_any false av len cap ops w0 (HS1.out.up Z0.out)).mono ?_
  rintro e w2 ⟨pv, g, K, rfl, hL⟩
  have Z2 : Hid (Left w0 w2 false pv g K) := hL
  clear hL
  refine hKK _ _ ?_
  clear hKK KK
  (refine wpList_step (fun KK hKK => ?_); go_simp; refine hKK _ _ ?_; clear hKK KK)
  refine wpList_extract_at rfl _ _ _ _ rfl rfl rfl ?_
  refine wpList_extract_at rfl _ _ _ _ rfl rfl rfl ?_
  refine wpList_extract_at rfl _ _ _ _ rfl rfl rfl ?_
  refine wpList_alloc_zero 28 zeroC 5 zinfo28 rfl rfl ?_
  (refine wpList_step (fun KK hKK => ?_); go_simp; refine hKK _ _ ?_; clear hKK KK)
  refine wpList_store28 rfl _ _ rfl w2.heap.size K g 2048 zeroC rfl rfl (Box.new 28 w2 _) rfl ?_
  intro W3 B3 U3
  have Y0 : Hid (Bg w1 W3 w2.heap.size false pv g K) := bg_new Z0.out Z2.out B3 U3
  clear B3 U3 Z2 Z0
  generalize w2.heap.size = fb at *
  rcases Y0.out.2.2.2.2.2 with rfl | ⟨db, bm, rfl, hd, hg, hd1, hd2, _⟩
  · go_wp2_with fail
    go_ret
    exact ⟨rfl, B0.out.2.trans (Y0.out.2.1.mono B0.out.2.size)⟩
  · have X : Hid (Rq w W3 db bm K #[.int .i64 z, .int .u64 (x : Nat), .int .i64 n, .slice a l c]) := by
      have h0 := B0.out.1.lt
      exact ⟨hd, B0.out.1.step Y0.out.2.1, B0.out.2.trans (Y0.out.2.1.mono B0.out.2.size), by omega, by omega⟩
    have HC : Hid (K.count = 4 ∧ K.locked = false) := ⟨Y0.out.2.2.2.1, Y0.out.2.2.2.2.1⟩
    clear hd hg hd1 hd2 Y0 B0 HS HS1
    have c0 := X.out.2.1.cell 0 (.int .i64 z) rfl
    have c1 := X.out.2.1.cell 1 (.int .u64 (x : Nat)) rfl
    have c2 := X.out.2.1.cell 2 (.int .i64 n) rfl
    have c3 := X.out.2.1.cell 3 (.slice a l c) rfl
    have CS : Hid (∀ V, Calls Try.prog 15 #[.agg #[.int .i64 z, .int .u64 (x : Nat), .int .i64 n, .slice a l c]] V fun e w' => e = .returned (.bool (smallB n l)) ∧ Below V.heap.size V w') := fun V => small_any ⟨z, x, n, a, l, c⟩ hl V
    cases hsm : smallB n l with
    | false =>
      have HSm : Hid (smallB n l = false) := hsm
      clear hsm
      go_wp2_with fail
      refine (CS.out _).mono ?_
      rw [HSm.out]
      rintro e w3 ⟨rfl, hb3⟩
      have X3 : Hid (Rq w w3 db bm K #[.int .i64 z, .int .u64 (x : Nat), .int .i64 n, .slice a l c]) := X.out.step hb3
      clear hb3
      go_wp2
      go_ret
      exact ⟨rfl, X3.out.2.2.1⟩
    | true =>
      have hs2 := hsm
      simp only [smallB, decide_eq_true_eq] at hs2
      obtain ⟨s1, s2, s3, s4⟩ := hs2
      have HSm : Hid (smallB n l = true) := hsm
      clear hsm
      go_wp2_with fail
      refine (CS.out _).mono ?_
      rw [HSm.out]
      rintro e w3 ⟨rfl, hb3⟩
      have X3 : Hid (Rq w w3 db bm K #[.int .i64 z, .int .u64 (x : Nat), .int .i64 n, .slice a l c]) := X.out.step hb3
      clear hb3 X c0 c1 c2 c3 CS HSm
      obtain ⟨m, rfl⟩ : ∃ m : Nat, n = m := ⟨n.toNat, by omega⟩
      have s5 : m * l ≤ 4096 := by exact_mod_cast s4
      have s6 : m ≤ 2048 := by omega
      clear s1 s2 s4
      obtain ⟨hx, f, hf, hr⟩ := HI.out
      simp only at hx hr
      have HR : Hid (ReadsF (fun q => w.heap.size ≤ q) w (.slice a l c) l f) := hr
      obtain ⟨L, hLL⟩ : ∃ L, m * l = L := ⟨_, rfl⟩
      obtain ⟨F, hFF⟩ : ∃ F, overF f l = F := ⟨_, rfl⟩
      have hF2 : ∀ i, F i ≤ 255 := by rw [← hFF]; exact overF_le l hf
      have OC : Hid (∀ V, Reads .u8 V (.slice a l c) l f → Calls Try.prog 18 #[.agg #[.int .i64 z, .int .u64 (x : Nat), .int .i64 (m : Nat), .slice a l c]] V fun e w' => ∃ va vc, e = .returned (.slice va L vc) ∧ w'.ownsRow V.heap.size 5 1 (.slice va L vc) L (rowK .u8 F L) ∧ Below V.heap.size V w') := fun V h => (over_any z x m a l c f V h s6 s3 s5).mono fun e w' ⟨v, he, ho, hb⟩ => by
        obtain ⟨va, vc, rfl⟩ := owns_form ho
        subst hLL hFF
        exact ⟨va, vc, he, ho, hb⟩
      rw [hLL] at s5
      have RD : Hid (∀ V, Below w.heap.size w V → Reads .u8 V (.slice a l c) l f) := fun V hV => by
        rcases HR.out with ⟨e1, a', cap, _, e2⟩ | ⟨b, off, cap, hv, hn, _, _, hc⟩
        · exact .inl ⟨e1, _, _, by rw [e1]⟩
        · exact .inr ⟨b, off, cap, hv, fun i hi => by rw [hV.cell (p := ⟨b, off + i, none⟩) (by simp; omega)]; exact hc i hi⟩
      obtain ⟨K1, hK1⟩ : ∃ K1, failK K 0 = K1 := ⟨_, rfl⟩
      obtain ⟨E, hE⟩ : ∃ E, writeE K1 x L = E := ⟨_, rfl⟩
      obtain ⟨K2, hK2⟩ : ∃ K2, writeK K1 x L F = K2 := ⟨_, rfl⟩
      have FC : Hid (∀ V, DiskAt V db bm K → Calls Try.prog 20 #[.pointer (some ⟨db, 0, none⟩), .int .u64 0] V fun e w' => e = .returned (.tuple #[]) ∧ DiskAt w' db bm K1 ∧ Two db bm V w') := fun V h => by rw [← hK1]; exact fail_any h 0 (by omega)
      have PC : Hid (∀ V v, DiskAt V db bm K1 → ReadsF (fun k => k = db ∨ k = bm) V v L F → Calls Try.prog 17 #[.pointer (some ⟨db, 0, none⟩), .int .u64 (x : Nat), v] V fun e w' => e = .returned (.int .i64 (E : Nat)) ∧ DiskAt w' db bm K2 ∧ Two db bm V w') := fun V v h1 h2 => by rw [← hE, ← hK2]; exact write_any h1 x L F v hx h2 hF2
      have HE : Hid (writeE K1 x L = E ∧ writeK K1 x L F = K2 ∧ K1.fail = 0 ∧ K1.count = 4) := ⟨hE, hK2, by rw [← hK1]; rfl, by rw [← hK1]; exact HC.out.1⟩
      have hwL : IntKind.u64.wrap (L : Int) = (L : Int) := by rw [wrap_u64]; omega
      clear hf hr hLL hFF hE hK2 hK1
      go_wp2_with fail
      refine (FC.out _ X3.out.1).mono ?_
      rintro e w4 ⟨rfl, hd4, ht4⟩
      have X4 : Hid (Rq w w4 db bm K1 #[.int .i64 z, .int .u64 (x : Nat), .int .i64 (m : Nat), .slice a l c]) := X3.out.two hd4 ht4
      clear hd4 ht4 X3
      go_wp2_with fail
      refine (copy_any X4.out.1).mono ?_
      rintro e w5 ⟨d2, m2, rfl, hd5, g1, g2, hb5⟩
      have X5 : Hid (Rc w w5 db bm d2 m2 (K1) (K1) #[.int .i64 z, .int .u64 (x : Nat), .int .i64 (m : Nat), .slice a l c]) := Rc.new X4.out hd5 g1 g2 hb5
      clear hd5 g1 g2 hb5 X4
      have c0 := X5.out.1.2.1.cell 0 (.int .i64 z) rfl
      have c1 := X5.out.1.2.1.cell 1 (.int .u64 (x : Nat)) rfl
      have c2 := X5.out.1.2.1.cell 2 (.int .i64 (m : Nat)) rfl
      have c3 := X5.out.1.2.1.cell 3 (.slice a l c) rfl
      go_wp2_with fail
      refine (OC.out _ (RD.out _ X5.out.1.2.2.1)).mono ?_
      rintro e w6 ⟨va, vc, rfl, ho, hb⟩
      have X6 : Hid (Rc w w6 db bm d2 m2 (K1) (K1) #[.int .i64 z, .int .u64 (x : Nat), .int .i64 (m : Nat), .slice a l c] ∧ ReadsF (fun k => k = db ∨ k = bm) w6 (.slice va L vc) L F) := ⟨X5.out.step hb, owns_readsF ho (fun k hk => by have h1 := X5.out.1.1.lt; rcases hk with rfl | rfl <;> omega)⟩
      clear ho hb X5 c0 c1 c2 c3
      have c1 := X6.out.1.1.2.1.cell 1 (.int .u64 (x : Nat)) rfl
      go_wp2_with fail
      refine (PC.out _ _ X6.out.1.1.1 X6.out.2).mono ?_
      rintro e w7 ⟨rfl, hd7, ht7⟩
      have X7 : Hid (Rc w w7 db bm d2 m2 (K2) (K1) #[.int .i64 z, .int .u64 (x : Nat), .int .i64 (m : Nat), .slice a l c] ∧ ReadsF (fun k => k = db ∨ k = bm) w7 (.slice va L vc) L F) := ⟨X6.out.1.two hd7 ht7, X6.out.2.two ht7⟩
      clear hd7 ht7 X6 c1
      by_cases hE0 : E = 0
      · obtain ⟨e1, e2, e3, e4⟩ := HE.out
        have hz := writeE_zero (e1.trans hE0)
        have eK : K2 = putK (askK K1) x L F := by rw [← e2]; unfold writeK; rw [e1, hE0]; rfl
        have hre : readE K2 x L = 0 := by rw [eK]; exact read_own hz.2.2 e3
        obtain ⟨K3, hK3⟩ : ∃ K3, askK K2 = K3 := ⟨_, rfl⟩
        have hM3 : ∀ b, K3.M b = (putK (askK K1) x L F).M b := fun b => by rw [← hK3, ← eK]; rfl
        have HC1 : Hid (K1.count = 4) := e4
        have HC3 : Hid (K3.count = 4) := by show K3.count = 4; rw [← hK3, eK]; exact e4
        obtain ⟨q, hq⟩ : ∃ q, L / 512 = q := ⟨_, rfl⟩
        have hq2 : (L : Int) / 512 = (q : Nat) := by omega
        have HO2 : Hid (∀ k, k < 4 → (k < x ∨ q ≤ k - x) → ∀ i, i < 512 → secF K3.M k i = secF K1.M k i) := fun k hk ho i hi => by
          have := back_other (f := F) hz.2.2 k (by omega) (by rw [hq]; exact ho) i hi
          rw [← this]
          exact hM3 _
        have RC2 : Hid (∀ V, DiskAt V db bm K2 → Calls Try.prog 21 #[.pointer (some ⟨db, 0, none⟩), .int .u64 (x : Nat), .int .u64 (L : Nat)] V fun e w' => ∃ g, e = .returned (.tuple #[.slice (some ⟨g, 0, none⟩) L L, .int .i64 0]) ∧ RowAt w' g L F ∧ V.heap.size ≤ g ∧ DiskAt w' db bm K3 ∧ Two db bm V w') := fun V h => (read_good h x L hx (by omega) hre).mono fun e w' ⟨g, h1, h2, h3, h4, h5⟩ => ⟨g, h1, h2.congr (fun i hi => by rw [eK]; exact back_read hz.2.2 i hi), h3, by rw [← hK3]; exact h4, h5⟩
        subst hE0
        clear e1 e2 e3 e4 hz eK hre hK3 hM3 hq HE PC FC
        have c1 := X7.out.1.1.2.1.cell 1 (.int .u64 (x : Nat)) rfl
        go_wp2_with fail
        refine (RC2.out _ X7.out.1.1.1).mono ?_
        rintro e w8 ⟨g, rfl, hr8, hg8, hd8, ht8⟩
        have X8 : Hid (Rc w w8 db bm d2 m2 (K3) (K1) #[.int .i64 z, .int .u64 (x : Nat), .int .i64 (m : Nat), .slice a l c] ∧ Reads .u8 w8 (.slice (some ⟨g, 0, none⟩) L L) L F ∧ Reads .u8 w8 (.slice va L vc) L F) := ⟨X7.out.1.two hd8 ht8, hr8.reads, reads_two X7.out.2 ht8⟩
        clear hr8 hg8 hd8 ht8 X7 c1
        go_wp2_with fail
        refine (bytes_same F L _ _ (by omega) _ X8.out.2.1 X8.out.2.2).mono ?_
        rintro e w9 ⟨rfl, qq, hqq⟩
        have X9 : Hid (Rc w w9 db bm d2 m2 (K3) (K1) #[.int .i64 z, .int .u64 (x : Nat), .int .i64 (m : Nat), .slice a l c]) := X8.out.1.step (by rw [hqq]; exact below_drewN _ _)
        clear hqq X8
        go_wp2_with fail
        go_loopw [12] (fun i wr => ∃ k : Nat, k ≤ 4 ∧ i = .int .u64 k ∧ Rc w wr db bm d2 m2 (K3) (K1) #[.int .i64 z, .int .u64 (x : Nat), .int .i64 (m : Nat), .slice a l c]) (fun i _ => 4 - (intOf i).toNat)
        case atStart => exact ⟨0, by omega, rfl, X9.out⟩
        case round =>
          obtain ⟨k, hk, rfl, hx9⟩ := hrel
          clear X9
          have X : Hid (Rc w wr db bm d2 m2 (K3) (K1) #[.int .i64 z, .int .u64 (x : Nat), .int .i64 (m : Nat), .slice a l c]) := hx9
          clear hx9
          by_cases hlt : k < 4
          · have hk4 : (k : Int) < 4 := by omega
            go_wp2_with fail
            refine (sector_yes X.out.2.1 k (by have := HC1.out; omega)).mono ?_
            rintro e v1 ⟨rfl, hr1, hb1⟩
            have Y1 : Hid (Rc w v1 db bm d2 m2 (K3) (K1) #[.int .i64 z, .int .u64 (x : Nat), .int .i64 (m : Nat), .slice a l c] ∧ RowAt v1 wr.heap.size 512 (secF K1.M k)) := ⟨X.out.step hb1, hr1⟩
            clear hr1 hb1 X
            generalize wr.heap.size = r1 at *
            go_wp2_with fail
            refine (sector_yes Y1.out.1.1.1 k (by have := HC3.out; omega)).mono ?_
            rintro e v2 ⟨rfl, hr2, hb2⟩
            have Y2 : Hid (Rc w v2 db bm d2 m2 (K3) (K1) #[.int .i64 z, .int .u64 (x : Nat), .int .i64 (m : Nat), .slice a l c] ∧ RowAt v2 r1 512 (secF K1.M k) ∧ RowAt v2 v1.heap.size 512 (secF K3.M k)) := ⟨Y1.out.1.step hb2, Y1.out.2.step hb2, hr2⟩
            clear hr2 hb2 Y1
            generalize v1.heap.size = r2 at *
            have c1 := Y2.out.1.1.2.1.cell 1 (.int .u64 (x : Nat)) rfl
            by_cases hin : x ≤ k ∧ k - x < q
            · have i1 : decide (x ≤ k) = true := by simp; omega
              obtain ⟨d, hd⟩ : ∃ d, k - x = d := ⟨_, rfl⟩
              have i2 : IntKind.u64.wrap ((k : Int) - (x : Int)) = (d : Nat) := by rw [wrap_u64]; omega
              have i3 : (d : Int) < (q : Nat) := by omega
              have i4 : d < q := by omega
              have i5 : (x : Int) ≤ (k : Int) := by omega
              clear hin hd
              go_wp2_with fail
              go_roundw
              case rel => exact ⟨k + 1, by omega, by go_num, Y2.out.1⟩
              case measure => simp [intOf]; omega
            · have ho : k < x ∨ q ≤ k - x := by omega
              have SE : Hid (Reads .u8 v2 (.slice (some ⟨r1, 0, none⟩) 512 512) 512 (secF K1.M k) ∧ Reads .u8 v2 (.slice (some ⟨r2, 0, none⟩) 512 512) 512 (secF K1.M k)) := ⟨Y2.out.2.1.reads, (Y2.out.2.2.congr (fun i hi => HO2.out k hlt ho i hi)).reads⟩
              by_cases hxk : x ≤ k
              · have i1 : decide (x ≤ k) = true := by simp; omega
                obtain ⟨d, hd⟩ : ∃ d, k - x = d := ⟨_, rfl⟩
                have i2 : IntKind.u64.wrap ((k : Int) - (x : Int)) = (d : Nat) := by rw [wrap_u64]; omega
                have i3 : ¬ (d : Int) < (q : Nat) := by omega
                have i4 : ¬ d < q := by omega
                have i5 : (x : Int) ≤ (k : Int) := by omega
                clear hin hd ho hxk
                go_wp2_with fail
                refine (bytes_same (secF K1.M k) 512 _ _ (by omega) _ SE.out.1 SE.out.2).mono ?_
                rintro e v3 ⟨rfl, qq, hqq⟩
                have Y3 : Hid (Rc w v3 db bm d2 m2 (K3) (K1) #[.int .i64 z, .int .u64 (x : Nat), .int .i64 (m : Nat), .slice a l c]) := Y2.out.1.step (by rw [hqq]; exact below_drewN _ _)
                clear hqq Y2 SE c1
                go_wp2_with fail
                go_roundw
                case rel => exact ⟨k + 1, by omega, by go_num, Y3.out⟩
                case measure => simp [intOf]; omega
              · have i1 : decide (x ≤ k) = false := by simp; omega
                have i5 : ¬ (x : Int) ≤ (k : Int) := by omega
                clear hin ho
                go_wp2_with fail
                refine (bytes_same (secF K1.M k) 512 _ _ (by omega) _ SE.out.1 SE.out.2).mono ?_
                rintro e v3 ⟨rfl, qq, hqq⟩
                have Y3 : Hid (Rc w v3 db bm d2 m2 (K3) (K1) #[.int .i64 z, .int .u64 (x : Nat), .int .i64 (m : Nat), .slice a l c]) := Y2.out.1.step (by rw [hqq]; exact below_drewN _ _)
                clear hqq Y2 SE c1
                go_wp2_with fail
                go_roundw
                case rel => exact ⟨k + 1, by omega, by go_num, Y3.out⟩
                case measure => simp [intOf]; omega
          · go_wp2
            go_ret
            exact ⟨rfl, X.out.1.2.2.1⟩
      · have n1 : ((E : Int) == 0) = false := by simp; omega
        have n2 : (E : Int) ≠ 0 := by omega
        clear hE0
        go_wp2
        go_ret
        exact ⟨rfl, X7.out.1.1.2.2.1⟩
end Go.Proofs.Ytkalaojbmedhjaa
