/- FifoOrder: the walk. -/
import Derived.Test.YtjmgdhnjldimgaaLb
namespace Go.Proofs.Ytjmgdhnjldimgaa
open Go.RowKit
set_option linter.unusedVariables false
set_option linter.unusedSimpArgs false
set_option maxRecDepth 100000
theorem RowsIn.form {W : World} {v : Value} {len : Nat} {ps : Nat → ByD} (h : RowsIn W v len ps) : ∃ a c, v = .slice a len c ∧ len ≤ 9223372036854775807 := by
  rcases h with ⟨rfl, a, c, rfl⟩ | ⟨b, off, cap, rfl, h, _⟩
  · exact ⟨a, c, rfl, by omega⟩
  · exact ⟨_, cap, rfl, h⟩
theorem NumsIn.form {W : World} {v : Value} {len : Nat} {f : Nat → Int} (h : NumsIn W v len f) : ∃ a c, v = .slice a len c ∧ len ≤ 9223372036854775807 := by
  rcases h with ⟨rfl, a, c, rfl⟩ | ⟨b, off, cap, rfl, h, _⟩
  · exact ⟨a, c, rfl, by omega⟩
  · exact ⟨_, cap, rfl, h⟩
theorem RowsIn.cell {W : World} {a : Option Addr} {len c i : Nat} {ps : Nat → ByD} (h : RowsIn W (.slice a len c) len ps) (hi : i < len) : ∃ b off, a = some ⟨b, off, none⟩ ∧ W.cell? ⟨b, off + i, none⟩ = some (.slice (ps i).a (ps i).D.length (ps i).c) ∧ (ps i).In W := by
  rcases h with ⟨h0, _⟩ | ⟨b, off, cap, hv, _, hc⟩
  · omega
  · simp only [Value.slice.injEq] at hv
    exact ⟨b, off, hv.1, (hc i hi).1, (hc i hi).2⟩
theorem NumsIn.cell {W : World} {a : Option Addr} {len c i : Nat} {f : Nat → Int} (h : NumsIn W (.slice a len c) len f) (hi : i < len) : ∃ b off, a = some ⟨b, off, none⟩ ∧ W.cell? ⟨b, off + i, none⟩ = some (.int .i64 (f i)) := by
  rcases h with ⟨h0, _⟩ | ⟨b, off, cap, hv, _, hc⟩
  · omega
  · simp only [Value.slice.injEq] at hv
    exact ⟨b, off, hv.1, hc i hi⟩
theorem cell_later {W w : World} {p : Addr} {v : Value} (h : W.cell? p = some v) (hb : Below W.heap.size W w) : w.cell? p = some v := (hb.cell (block_lt_of_cell h)).trans h
set_option maxHeartbeats 8000000 in
theorem order_core (W : World) (z : Int) (hz : (Lit.int .i64 z).wf = true) (vp : Value) (lp : Nat) (ps : Nat → ByD) (hp : RowsIn W vp lp ps) (vt : Value) (lt : Nat) (ts : Nat → Int) (ht : NumsIn W vt lt ts) : Calls Try.prog 5 #[.int .i64 z, vp, vt] W fun e w' => e = .returned (.bool true) ∧ Below W.heap.size W w' := by
  obtain ⟨ap, cpp, rfl, hlp⟩ := hp.form
  obtain ⟨at', ctt, rfl, hlt⟩ := ht.form
  have HP : Hid (RowsIn W (.slice ap lp cpp) lp ps) := hp
  have HT : Hid (NumsIn W (.slice at' lt ctt) lt ts) := ht
  clear hp ht hz
  by_cases h1 : z < 1
  · have n1 : decide (z < 1) = true := by simp; omega
    clear HP HT
    go_enter Try.func5, Try.ntmps5
    go_wp2_with fail
    refine (awake_any _).mono ?_
    rintro e w1 ⟨rfl, b1⟩
    go_wp2
    go_ret
    exact ⟨rfl, b1⟩
  by_cases h2 : 4096 < z
  · have n1 : decide (z < 1) = false := by simp; omega
    have n2 : decide (4096 < z) = true := by simp; omega
    clear HP HT
    go_enter Try.func5, Try.ntmps5
    go_wp2_with fail
    refine (awake_any _).mono ?_
    rintro e w1 ⟨rfl, b1⟩
    go_wp2
    go_ret
    exact ⟨rfl, b1⟩
  by_cases h3 : 30 < lp
  · have n1 : decide (z < 1) = false := by simp; omega
    have n2 : decide (4096 < z) = false := by simp; omega
    have n3 : decide ((30 : Int) < (lp : Int)) = true := by simp; omega
    have n4 : decide (30 < lp) = true := by simp; omega
    clear HP HT
    go_enter Try.func5, Try.ntmps5
    go_wp2_with fail
    refine (awake_any _).mono ?_
    rintro e w1 ⟨rfl, b1⟩
    go_wp2
    go_ret
    exact ⟨rfl, b1⟩
  by_cases h4 : 30 < lt
  · have n1 : decide (z < 1) = false := by simp; omega
    have n2 : decide (4096 < z) = false := by simp; omega
    have n3 : decide ((30 : Int) < (lp : Int)) = false := by simp; omega
    have n4 : decide (30 < lp) = false := by simp; omega
    have n5 : decide ((30 : Int) < (lt : Int)) = true := by simp; omega
    have n6 : decide (30 < lt) = true := by simp; omega
    clear HP HT
    go_enter Try.func5, Try.ntmps5
    go_wp2_with fail
    refine (awake_any _).mono ?_
    rintro e w1 ⟨rfl, b1⟩
    go_wp2
    go_ret
    exact ⟨rfl, b1⟩
  obtain ⟨r, hr⟩ : ∃ r : Nat, z = r := ⟨z.toNat, by omega⟩
  subst hr
  have n1 : decide ((r : Int) < 1) = false := by simp; omega
  have n2 : decide ((4096 : Int) < (r : Int)) = false := by simp; omega
  have n3 : decide ((30 : Int) < (lp : Int)) = false := by simp; omega
  have n4 : decide (30 < lp) = false := by simp; omega
  have n5 : decide ((30 : Int) < (lt : Int)) = false := by simp; omega
  have n6 : decide (30 < lt) = false := by simp; omega
  have CN : Hid (∀ V, Calls Try.prog 9 #[.int .i64 (r : Nat)] V fun e w' => ∃ fb, e = .returned (.tuple #[.pointer (some ⟨fb, 0, none⟩), .int .i64 0]) ∧ FifoAt w' fb fb (newK r) ∧ V.heap.size ≤ fb ∧ Below V.heap.size V w') := fun V => new_yes r (by omega) (by omega) V
  have hp30 : lp ≤ 30 := by omega
  have ht30 : lt ≤ 30 := by omega
  clear h1 h2 h3 h4 hlp hlt
  go_enter Try.func5, Try.ntmps5
  go_wp2_with fail
  refine (awake_any _).mono ?_
  rintro e w1 ⟨rfl, b1⟩
  have B1 : Hid (Below W.heap.size W w1) := b1
  clear b1
  go_wp2_with fail
  refine (CN.out _).mono ?_
  rintro e w2 ⟨fb, rfl, h1, g1, b2⟩
  have X0 : Hid (Or W w2 fb fb 0 0 (newK r) [] [] (.slice none 0 0) (.slice none 0 0)) := by
    have hs := B1.out.size
    exact ⟨h1, WA.nil _ _, WA.nil _ _, B1.out.trans (b2.mono hs), ⟨by omega, by omega⟩, .inl ⟨rfl, rfl⟩, .inl ⟨rfl, rfl⟩, .inl ⟨rfl, rfl⟩⟩
  clear h1 g1 b2 B1 CN
  go_wp2_with fail
  go_loopw [9, 10, 11] (fun x9 x10 vi wr => ∃ (i g ga gw : Nat) (K : Fi) (A G : List Nat) (va vw : Value), va = x9 ∧ vw = x10 ∧ i ≤ 30 ∧ (i ≤ lp ∨ i ≤ lt) ∧ vi = .int .i64 ((i : Nat) : Int) ∧ Or W wr fb g ga gw K A G va vw ∧ Nu r i K A G) (fun _ _ i _ => 30 - (intOf i).toNat)
  case atStart => exact ⟨0, fb, 0, 0, newK r, [], [], _, _, rfl, rfl, by omega, .inl (Nat.zero_le _), rfl, X0.out, ⟨rfl, rfl, rfl, Nat.zero_le _⟩⟩
  case round =>
    obtain ⟨i, g, ga, gw, K, A, G, va, vw, rfl, rfl, hi30, hil, rfl, hor, hnu⟩ := hrel
    clear X0
    have X : Hid (Or W wr fb g ga gw K A G va vw) := hor
    have M : Hid (Nu r i K A G) := hnu
    clear hor hnu
    by_cases hip : i < lp
    · have k1 : decide ((i : Int) < (lp : Int)) = true := by simp; omega
      have k2 : decide (i < lp) = true := by simp; omega
      have k0 : (i : Int) < lp := by omega
      obtain ⟨pb, po, hpa, hpc, hin⟩ := HP.out.cell hip
      subst hpa
      generalize ps i = o at *
      obtain ⟨ax, cx, D, dd⟩ := o
      simp only at hpc
      have HI : Hid (RL W (.slice ax D.length cx) dd D ∧ (∀ x ∈ D, x ≤ 255)) := ⟨hin.1, hin.2.1⟩
      have hdl0 : D.length ≤ 9223372036854775807 := hin.2.2
      obtain ⟨dl, hdl⟩ : ∃ dl, D.length = dl := ⟨_, rfl⟩
      rw [hdl] at hpc hdl0 HI
      have HDl : Hid (D.length = dl) := hdl
      have CP : Hid (W.cell? ⟨pb, po + i, none⟩ = some (.slice ax dl cx)) := hpc
      clear hin hpc hdl
      have cp := cell_later CP.out X.out.b
      by_cases hbig : 300 < dl
      · have q1 : decide ((300 : Int) < (dl : Int)) = true := by simp; omega
        have q2 : decide (300 < dl) = true := by simp; omega
        go_wp2
        go_ret
        exact ⟨rfl, X.out.b⟩
      have q1 : decide ((300 : Int) < (dl : Int)) = false := by simp; omega
      have q2 : decide (300 < dl) = false := by simp; omega
      have hfa := X.out.a.reads.form
      generalize A.length = la at hfa
      obtain ⟨aa, ca, hva⟩ := hfa
      subst hva
      go_upto_region 15 with fail
      refine wp_region_list ?_
      (refine wpList_step (fun KK hKK => ?_); go_simp; refine hKK _ _ ?_; clear hKK KK)
      (refine wpList_step (fun KK hKK => ?_); go_simp; refine hKK _ _ ?_; clear hKK KK)
      (refine wpList_step (fun KK hKK => ?_); go_simp; refine hKK _ _ ?_; clear hKK KK)
      (refine wpList_step (fun KK hKK => ?_); go_simp; refine hKK _ _ ?_; clear hKK KK)
      (refine wpList_step (fun KK hKK => ?_); go_simp; refine hKK _ _ ?_; clear hKK KK)
      refine wpList_step (fun KK hKK => ?_)
      go_simp
      have PC := put_any X.out.f (.slice ax dl cx) D (HI.out.1.step X.out.b) HI.out.2 (by rw [HDl.out]; omega)
      refine PC.mono ?_
      rintro e w1 ⟨g1, rfl, h1, h2, h3⟩
      have X1 : Hid (Or W w1 fb g1 ga gw (putK K D) A G (.slice aa la ca) vw) := X.out.prog h1 h2 h3
      have M1 : Hid (G ++ (putK K D).l = A ++ D.take (putN K D) ∧ (putK K D).taken = G.length ∧ (putK K D).room = r ∧ (A ++ D.take (putN K D)).length ≤ 300 * (i + 1)) := (M.out.put D (by rw [HDl.out]; omega)).2
      have hpn : putN K D ≤ dl := by rw [← HDl.out]; exact Nat.min_le_left _ _
      have hAl : A.length ≤ 300 * i := M.out.n
      have L1 : Hid (A.length + (D.take (putN K D)).length ≤ 1000000) := by show _ ≤ _; rw [List.length_take, HDl.out]; omega
      clear PC h1 h2 h3 X cp M hAl
      generalize putK K D = K1 at *
      generalize putN K D = p at *
      refine hKK _ _ ?_
      clear hKK KK
      have cp := cell_later CP.out X1.out.b
      have q3 : decide ((p : Int) < 0) = false := by simp
      have q4 : decide ((dl : Int) < (p : Int)) = false := by simp; omega
      have q5 : decide (dl < p) = false := by simp; omega
      go_upto_region 18 with fail
      refine wp_region_list ?_
      (refine wpList_step (fun KK hKK => ?_); go_simp; refine hKK _ _ ?_; clear hKK KK)
      (refine wpList_step (fun KK hKK => ?_); go_simp; refine hKK _ _ ?_; clear hKK KK)
      (refine wpList_step (fun KK hKK => ?_); go_simp; refine hKK _ _ ?_; clear hKK KK)
      (refine wpList_step (fun KK hKK => ?_); go_simp; refine hKK _ _ ?_; clear hKK KK)
      (refine wpList_step (fun KK hKK => ?_); go_simp; refine hKK _ _ ?_; clear hKK KK)
      (refine wpList_step (fun KK hKK => ?_); go_simp; refine hKK _ _ ?_; clear hKK KK)
      refine wpList_hi (k := p) rfl _ _ rfl rfl rfl (HI.out.1.step X1.out.b) (by rw [HDl.out]; exact hpn) ?_
      intro v2 h2
      have R2 : Hid (RL w1 v2 dd (D.take p)) := h2
      clear h2
      have hf2 := R2.out.form
      generalize (D.take p).length = l2 at hf2
      obtain ⟨a2, c2, hv2⟩ := hf2
      subst hv2
      refine wpList_append_fr rfl _ _ rfl rfl rfl X1.out.a X1.out.nb.1 R2.out L1.out ?_
      intro v3 w3 g3 Y3
      have X3 : Hid (Or W w3 fb g1 g3 gw K1 (A ++ D.take p) G v3 vw) := X1.out.came Y3.out.1 Y3.out.2
      clear Y3 X1 R2 cp L1 q3 q4 q5
      generalize A ++ D.take p = A3 at *
      have hf3 := X3.out.a.reads.form
      generalize A3.length = l3 at hf3
      obtain ⟨a3, c3, hv3⟩ := hf3
      subst hv3
      by_cases hit : i < lt
      · have k3 : decide ((i : Int) < (lt : Int)) = true := by simp; omega
        have k4 : decide (i < lt) = true := by simp; omega
        have k5 : (i : Int) < lt := by omega
        obtain ⟨tb, tof, hta, htc⟩ := HT.out.cell hit
        subst hta
        have CT : Hid (W.cell? ⟨tb, tof + i, none⟩ = some (.int .i64 (ts i)) ∧ True) := ⟨htc, trivial⟩
        clear htc
        have ct := cell_later CT.out.1 X3.out.b
        have hfw := X3.out.w.reads.form
        generalize G.length = lw at hfw
        obtain ⟨aw, cw, hvw⟩ := hfw
        subst hvw
        go_upto_region 20 with fail
        refine wp_region_list ?_
        (refine wpList_step (fun KK hKK => ?_); go_simp; refine hKK _ _ ?_; clear hKK KK)
        (refine wpList_step (fun KK hKK => ?_); go_simp; refine hKK _ _ ?_; clear hKK KK)
        (refine wpList_step (fun KK hKK => ?_); go_simp; refine hKK _ _ ?_; clear hKK KK)
        (refine wpList_step (fun KK hKK => ?_); go_simp; refine hKK _ _ ?_; clear hKK KK)
        (refine wpList_step (fun KK hKK => ?_); go_simp; refine hKK _ _ ?_; clear hKK KK)
        (refine wpList_step (fun KK hKK => ?_); go_simp; refine hKK _ _ ?_; clear hKK KK)
        refine wpList_step (fun KK hKK => ?_)
        go_simp
        refine (take_any X3.out.f _).mono ?_
        rintro e w6 ⟨v6, d6, g6, rfl, h1, h2, h3, h4⟩
        have X6 : Hid (Or W w6 fb g6 g3 gw (takeK K1 (ts i)) A3 G (.slice a3 l3 c3) (.slice aw lw cw) ∧ RL w6 v6 d6 (tookL K1 (ts i))) := ⟨X3.out.prog h2 (Two.of_upon h3) h4, h1⟩
        have hkt := tookL_length K1 (ts i)
        have N6 : Hid ((G ++ tookL K1 (ts i)) ++ (takeK K1 (ts i)).l = A3 ∧ (takeK K1 (ts i)).taken = (G ++ tookL K1 (ts i)).length ∧ (takeK K1 (ts i)).room = r) := take_nu M1.out.1 M1.out.2.1 M1.out.2.2.1 M1.out.2.2.2 (by omega) _
        have L6 : Hid (G.length + (tookL K1 (ts i)).length ≤ 1000000) := by
          have q := congrArg List.length N6.out.1
          have q2 := M1.out.2.2.2
          rw [List.length_append, List.length_append] at q
          show _ ≤ _
          omega
        clear h1 h2 h3 h4 X3 ct hkt
        generalize tookL K1 (ts i) = T6 at *
        generalize takeK K1 (ts i) = K6 at *
        have hft := X6.out.2.form
        generalize T6.length = lt6 at hft
        obtain ⟨a6, c6, hv6⟩ := hft
        subst hv6
        refine hKK _ _ ?_
        clear hKK KK
        refine wpList_append_fr rfl _ _ rfl rfl rfl X6.out.1.w X6.out.1.nb.2 X6.out.2 L6.out ?_
        intro v7 w7 g7 Y7
        have X7 : Hid (Or W w7 fb g6 g3 g7 K6 A3 (G ++ T6) (.slice a3 l3 c3) v7) := (X6.out.1.swap.came Y7.out.1 Y7.out.2).swap
        have N7 : Hid (Nu r (i + 1) K6 A3 (G ++ T6)) := ⟨N6.out.1, N6.out.2.1, N6.out.2.2, M1.out.2.2.2⟩
        clear Y7 X6 N6 M1 L6
        have hf7 := X7.out.w.reads.form
        generalize (G ++ T6).length = l7 at hf7
        obtain ⟨a7, c7, hv7⟩ := hf7
        subst hv7
        go_wp2_with fail
        go_roundw
        case rel => exact ⟨i + 1, g6, g3, g7, K6, A3, G ++ T6, _, _, rfl, rfl, by omega, by omega, by go_num, X7.out, N7.out⟩
        case measure => simp [intOf]; omega
      · have k3 : decide ((i : Int) < (lt : Int)) = false := by simp; omega
        have k4 : decide (i < lt) = false := by simp; omega
        have hfw := X3.out.w.reads.form
        generalize G.length = lw at hfw
        obtain ⟨aw, cw, hvw⟩ := hfw
        subst hvw
        go_wp2_with fail
        go_roundw
        case rel => exact ⟨i + 1, g1, g3, gw, K1, A3, G, _, _, rfl, rfl, by omega, by omega, by go_num, X3.out, ⟨M1.out.1, M1.out.2.1, M1.out.2.2.1, M1.out.2.2.2⟩⟩
        case measure => simp [intOf]; omega
    · have k1 : decide ((i : Int) < (lp : Int)) = false := by simp; omega
      have k2 : decide (i < lp) = false := by simp; omega
      by_cases hit : i < lt
      · have k3 : decide ((i : Int) < (lt : Int)) = true := by simp; omega
        have k4 : decide (i < lt) = true := by simp; omega
        have k5 : (i : Int) < lt := by omega
        have M1 : Hid (G ++ K.l = A ∧ K.taken = G.length ∧ K.room = r ∧ A.length ≤ 300 * (i + 1)) := ⟨M.out.l, M.out.t, M.out.r, by have := M.out.n; omega⟩
        have hfa := X.out.a.reads.form
        generalize A.length = la at hfa
        obtain ⟨aa, ca, hva⟩ := hfa
        subst hva
        clear M
        obtain ⟨tb, tof, hta, htc⟩ := HT.out.cell hit
        subst hta
        have CT : Hid (W.cell? ⟨tb, tof + i, none⟩ = some (.int .i64 (ts i)) ∧ True) := ⟨htc, trivial⟩
        clear htc
        have ct := cell_later CT.out.1 X.out.b
        have hfw := X.out.w.reads.form
        generalize G.length = lw at hfw
        obtain ⟨aw, cw, hvw⟩ := hfw
        subst hvw
        go_upto_region 20 with fail
        refine wp_region_list ?_
        (refine wpList_step (fun KK hKK => ?_); go_simp; refine hKK _ _ ?_; clear hKK KK)
        (refine wpList_step (fun KK hKK => ?_); go_simp; refine hKK _ _ ?_; clear hKK KK)
        (refine wpList_step (fun KK hKK => ?_); go_simp; refine hKK _ _ ?_; clear hKK KK)
        (refine wpList_step (fun KK hKK => ?_); go_simp; refine hKK _ _ ?_; clear hKK KK)
        (refine wpList_step (fun KK hKK => ?_); go_simp; refine hKK _ _ ?_; clear hKK KK)
        (refine wpList_step (fun KK hKK => ?_); go_simp; refine hKK _ _ ?_; clear hKK KK)
        refine wpList_step (fun KK hKK => ?_)
        go_simp
        refine (take_any X.out.f _).mono ?_
        rintro e w6 ⟨v6, d6, g6, rfl, h1, h2, h3, h4⟩
        have X6 : Hid (Or W w6 fb g6 ga gw (takeK K (ts i)) A G (.slice aa la ca) (.slice aw lw cw) ∧ RL w6 v6 d6 (tookL K (ts i))) := ⟨X.out.prog h2 (Two.of_upon h3) h4, h1⟩
        have hkt := tookL_length K (ts i)
        have N6 : Hid ((G ++ tookL K (ts i)) ++ (takeK K (ts i)).l = A ∧ (takeK K (ts i)).taken = (G ++ tookL K (ts i)).length ∧ (takeK K (ts i)).room = r) := take_nu M1.out.1 M1.out.2.1 M1.out.2.2.1 M1.out.2.2.2 (by omega) _
        have L6 : Hid (G.length + (tookL K (ts i)).length ≤ 1000000) := by
          have q := congrArg List.length N6.out.1
          have q2 := M1.out.2.2.2
          rw [List.length_append, List.length_append] at q
          show _ ≤ _
          omega
        clear h1 h2 h3 h4 X ct hkt
        generalize tookL K (ts i) = T6 at *
        generalize takeK K (ts i) = K6 at *
        have hft := X6.out.2.form
        generalize T6.length = lt6 at hft
        obtain ⟨a6, c6, hv6⟩ := hft
        subst hv6
        refine hKK _ _ ?_
        clear hKK KK
        refine wpList_append_fr rfl _ _ rfl rfl rfl X6.out.1.w X6.out.1.nb.2 X6.out.2 L6.out ?_
        intro v7 w7 g7 Y7
        have X7 : Hid (Or W w7 fb g6 ga g7 K6 A (G ++ T6) (.slice aa la ca) v7) := (X6.out.1.swap.came Y7.out.1 Y7.out.2).swap
        have N7 : Hid (Nu r (i + 1) K6 A (G ++ T6)) := ⟨N6.out.1, N6.out.2.1, N6.out.2.2, M1.out.2.2.2⟩
        clear Y7 X6 N6 M1 L6
        have hf7 := X7.out.w.reads.form
        generalize (G ++ T6).length = l7 at hf7
        obtain ⟨a7, c7, hv7⟩ := hf7
        subst hv7
        go_wp2_with fail
        go_roundw
        case rel => exact ⟨i + 1, g6, ga, g7, K6, A, G ++ T6, _, _, rfl, rfl, by omega, by omega, by go_num, X7.out, N7.out⟩
        case measure => simp [intOf]; omega
      · have k3 : decide ((i : Int) < (lt : Int)) = false := by simp; omega
        have k4 : decide (i < lt) = false := by simp; omega
        have hfw := X.out.w.reads.form
        generalize G.length = lw at hfw
        obtain ⟨aw, cw, hvw⟩ := hfw
        subst hvw
        have hfa := X.out.a.reads.form
        obtain ⟨la, hla⟩ : ∃ la, A.length = la := ⟨_, rfl⟩
        have HLa : Hid (A.length = la) := hla
        rw [hla] at hfa
        clear hla
        obtain ⟨aa, ca, hva⟩ := hfa
        subst hva
        go_upto_region 21 with fail
        refine wp_region_list ?_
        (refine wpList_step (fun KK hKK => ?_); go_simp; refine hKK _ _ ?_; clear hKK KK)
        (refine wpList_step (fun KK hKK => ?_); go_simp; refine hKK _ _ ?_; clear hKK KK)
        (refine wpList_step (fun KK hKK => ?_); go_simp; refine hKK _ _ ?_; clear hKK KK)
        refine wpList_step (fun KK hKK => ?_)
        go_simp
        refine (take_any X.out.f _).mono ?_
        rintro e w6 ⟨v6, d6, g6, rfl, h1, h2, h3, h4⟩
        have X6 : Hid (Or W w6 fb g6 ga gw (takeK K (r : Nat)) A G (.slice aa la ca) (.slice aw lw cw) ∧ RL w6 v6 d6 (tookL K (r : Nat))) := ⟨X.out.prog h2 (Two.of_upon h3) h4, h1⟩
        have N6 : Hid ((G ++ tookL K (r : Nat)) ++ (takeK K (r : Nat)).l = A ∧ (takeK K (r : Nat)).taken = (G ++ tookL K (r : Nat)).length ∧ (takeK K (r : Nat)).l = []) := by
          have q := take_nu M.out.l M.out.t M.out.r M.out.n (by omega) (r : Nat)
          exact ⟨q.1, q.2.1, (take_all X.out.f.ok M.out.r).2⟩
        have L6 : Hid (G.length + (tookL K (r : Nat)).length ≤ 1000000 ∧ A.length ≤ 1000000) := by
          have q := congrArg List.length N6.out.1
          have q2 := M.out.n
          rw [List.length_append, List.length_append] at q
          exact ⟨by omega, by omega⟩
        clear h1 h2 h3 h4 X
        generalize tookL K (r : Nat) = T6 at *
        generalize takeK K (r : Nat) = K6 at *
        have hft := X6.out.2.form
        generalize T6.length = lt6 at hft
        obtain ⟨a6, c6, hv6⟩ := hft
        subst hv6
        refine hKK _ _ ?_
        clear hKK KK
        refine wpList_append_fr rfl _ _ rfl rfl rfl X6.out.1.w X6.out.1.nb.2 X6.out.2 L6.out.1 ?_
        intro v7 w7 g7 Y7
        have e7 : G ++ T6 = A := by have q := N6.out.1; rw [N6.out.2.2, List.append_nil] at q; exact q
        have X7 : Hid (Or W w7 fb g6 ga g7 K6 A A (.slice aa la ca) v7 ∧ K6.taken = la ∧ K6.l.length = 0) := by
          have q := (X6.out.1.swap.came Y7.out.1 Y7.out.2).swap
          rw [e7] at q
          exact ⟨q, by rw [N6.out.2.1, e7]; exact HLa.out, by rw [N6.out.2.2]; rfl⟩
        clear Y7 X6 N6
        have hf7 := X7.out.1.w.reads.form
        rw [HLa.out] at hf7
        obtain ⟨a7, c7, hv7⟩ := hf7
        subst hv7
        go_wp2_with fail
        refine (bytes_any X7.out.1.w.reads X7.out.1.a.reads L6.out.2).mono ?_
        rintro e w8 ⟨rfl, hb8⟩
        rw [decide_eq_true (rfl : A = A)]
        have X8 : Hid (FifoAt w8 fb g6 K6 ∧ Below W.heap.size W w8) := ⟨X7.out.1.f.step hb8, X7.out.1.b.trans (hb8.mono X7.out.1.b.size)⟩
        clear hb8
        have CE := len_any X8.out.1
        rw [X7.out.2.2] at CE
        have CT2 := taken_any X8.out.1
        rw [X7.out.2.1] at CT2
        have CC : Hid ((Calls Try.prog 11 #[.pointer (some ⟨fb, 0, none⟩)] w8 fun e w' => e = .returned (.int .i64 ((0 : Nat) : Int)) ∧ w' = w8) ∧ (Calls Try.prog 15 #[.pointer (some ⟨fb, 0, none⟩)] w8 fun e w' => e = .returned (.int .u64 ((la : Nat) : Int)) ∧ w' = w8)) := ⟨CE, CT2⟩
        have hla6 : la ≤ 1000000 := by rw [← HLa.out]; exact L6.out.2
        have hwl : IntKind.u64.wrap (la : Int) = (la : Int) := by rw [wrap_u64]; omega
        clear X7 CE CT2
        go_wp2_with fail
        refine CC.out.1.mono ?_
        rintro e wq ⟨rfl, hw⟩
        rw [hw]
        clear hw wq
        go_wp2_with fail
        refine CC.out.2.mono ?_
        rintro e wq ⟨rfl, hw⟩
        rw [hw]
        clear hw wq
        go_wp2
        go_ret
        exact ⟨rfl, X8.out.2⟩
end Go.Proofs.Ytjmgdhnjldimgaa
