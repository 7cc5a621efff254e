/- RingWrites. -/
import Derived.Test.YthnmoalomodbpaaRq
namespace Go.Proofs.Ythnmoalomodbpaa
open Go.RowKit Go.Maps
set_option linter.unusedVariables false
set_option linter.unusedSimpArgs false
set_option maxRecDepth 100000
theorem wq_new {W w4 w5 : World} {n D A U b8 rb rc : Nat} {a : Option Addr} {nn c : Nat} {bs : Nat → Nat × Nat} {M : Nat → Nat} {F Fc : Nat → Prop} (h : St W w4 (n : Int) D A U (.pointer none) b8 rb a nn c F M) (hr : RefIn F w4 (.slice a nn c) nn bs) (hc : RamAt w5 Fc rc 8192 12000 (.pointer none) M) (hF : ∀ k, Fc k → w4.heap.size ≤ k) (hb : Below w4.heap.size w4 w5) : Wq W (w5.alloc (.cells #[.int .u64 8192, .slice a nn c] 29)) n D A U b8 w5.heap.size rb rc a nn c bs M F Fc 12000 M a nn c bs := by
  obtain ⟨h1, h2, h3, h4, h5, h6, h7⟩ := h
  have l0 := (Array.getElem?_eq_some_iff.1 h1).1
  have l8 := (Array.getElem?_eq_some_iff.1 h2).1
  have hs := hb.size
  have hal := one_box w5 (.cells #[.int .u64 8192, .slice a nn c] 29)
  exact ⟨cells_alloc (below_box h1 hb), cells_alloc (below_box h2 hb), heap_alloc_new _ _, (h3.1.below hb).below hal, hc.below hal, (hr.below hb).below hal, (hr.below hb).below hal, h4, h5, fun hf => by have := h3.1.lt _ hf; omega, fun hf => by have := hc.lt _ hf; omega, fun q hq hf => by have := hF q hq; have := h3.1.lt q hf; omega, below_to (below_to h7 hb) hal, h6, by omega, by omega⟩
theorem tolds_form {W : World} {v : Value} {len : Nat} {ts : Nat → ToldD} (h : ToldsIn W v len ts) : ∃ a c, v = .slice a len c := by
  rcases h with ⟨rfl, a, c, rfl⟩ | ⟨b, off, cap, rfl, _⟩
  · exact ⟨_, _, rfl⟩
  · exact ⟨_, _, rfl⟩
theorem getD_in (l : List (Nat × Nat)) (k : Nat) (h : k < l.length) : l.getD k (0, 0) ∈ l := by
  rw [List.getD_eq_getElem?_getD, List.getElem?_eq_getElem h]
  exact List.getElem_mem h
theorem take_len {α : Type} (l : List α) (k m : Nat) (h : l.length ≤ m) : (l.take k).length ≤ m := by
  have := List.length_take_le' k l
  omega
set_option maxHeartbeats 16000000 in
theorem writes_core (W : World) (pa : Option Addr) (len pc : Nat) (ps : Nat → PutD) (hps : PutsIn W (.slice pa len pc) len ps) (s : Int) (D A U : Nat) (hD : D < 18446744073709551616) (hA : A < 18446744073709551616) (hU : U < 18446744073709551616) (ta : Option Addr) (tlen tc : Nat) (ts : Nat → ToldD) (hts : ToldsIn W (.slice ta tlen tc) tlen ts) : Calls Try.prog 7 #[.slice pa len pc, .agg #[.int .i64 s, .int .u64 (D : Int), .int .u64 (A : Int), .int .u64 (U : Int)], .slice ta tlen tc] W fun e w' => e = .returned (.bool true) ∧ Below W.heap.size W w' := by
  have HP : Hid (PutsIn W (.slice pa len pc) len ps) := hps
  have HT : Hid (ToldsIn W (.slice ta tlen tc) tlen ts) := hts
  have HD : Hid (D < 18446744073709551616 ∧ A < 18446744073709551616 ∧ U < 18446744073709551616) := ⟨hD, hA, hU⟩
  clear hps hD hA hU hts
  go_enter Try.func7, Try.ntmps7
  go_wp2_with fail
  refine (awake_any _).mono ?_
  rintro e w1 ⟨rfl, hb1⟩
  have H1 : Hid (Below (W.alloc (.cells #[.int .i64 s, .int .u64 (D : Int), .int .u64 (A : Int), .int .u64 (U : Int)] 24)).heap.size (W.alloc (.cells #[.int .i64 s, .int .u64 (D : Int), .int .u64 (A : Int), .int .u64 (U : Int)] 24)) w1) := hb1
  clear hb1
  go_wp2_with fail
  refine (memory_any (.slice pa len pc) len ps _ (HP.out.up (below_to (one_box _ _) H1.out))).mono ?_
  rintro e w2 ⟨pv, a, nn, c, rfl, hb2, ⟨rfl, h0⟩ | ⟨rb, F, M, rfl, hboth, hF⟩⟩
  · have HE : Hid (Below W.heap.size W w2) := below_to (below_to (one_box _ _) H1.out) hb2
    clear hb2 h0
    go_wp2_with fail
    go_ret
    exact ⟨rfl, HE.out.alloc HE.out.size _⟩
  have X3 : Hid (St W (w2.alloc (.cells #[.int .u64 8192, .slice a nn c] 29)) s D A U (.pointer none) w2.heap.size rb a nn c F M) := St.made H1.out hb2 hboth hF
  clear hb2 hboth hF H1
  go_upto_region 4 with fail
  generalize w2.heap.size = b8 at *
  generalize w2.alloc (.cells #[.int .u64 8192, .slice a nn c] 29) = w3 at *
  obtain ⟨c0, c1, c2, c3⟩ := box4_facts X3.out.1; obtain ⟨d0, d1, _, _⟩ := box_facts X3.out.2.1
  have K12 : Hid (Calls Try.prog 12 #[.agg #[.int .u64 8192, .slice a nn c], .agg #[.int .i64 s, .int .u64 (D : Int), .int .u64 (A : Int), .int .u64 (U : Int)]] w3 fun e w' => e = .returned (.int .i64 (chkN s D A U 8192)) ∧ St W w' s D A U (.pointer none) b8 rb a nn c F M) := (rcheck_any HD.out.1 HD.out.2.1 HD.out.2.2 8192 (by omega) a nn c w3).mono fun e w' ⟨he, hb⟩ => ⟨he, X3.out.step hb⟩
  obtain ⟨kk, hkk⟩ : ∃ kk, chkN s D A U 8192 = kk := ⟨_, rfl⟩
  have HK : Hid (chkN s D A U 8192 = kk) := hkk
  rw [hkk] at K12
  clear hkk
  by_cases hk0 : kk = 0
  case neg =>
    have hk1 : (kk == 0) = false := by simp [hk0]
    go_wp2_with fail
    refine Calls.mono K12.out ?_
    rintro e w4 ⟨rfl, h4⟩
    have X4 : Hid (St W w4 s D A U (.pointer none) b8 rb a nn c F M) := h4
    clear h4
    go_wp2_with fail
    go_ret
    exact ⟨rfl, X4.out.2.2.2.2.2.2⟩
  subst hk0
  obtain ⟨n, hs, hg⟩ := gd_of HK.out HD.out.1
  subst hs
  have HG : Hid (Gd n D A U) := hg
  clear hg HK
  have K12b : Hid (Calls Try.prog 12 #[.agg #[.int .u64 8192, .slice a nn c], .agg #[.int .i64 (n : Int), .int .u64 (D : Int), .int .u64 (A : Int), .int .u64 (U : Int)]] w3 fun e w' => e = .returned (.int .i64 0) ∧ (St W w' (n : Int) D A U (.pointer none) b8 rb a nn c F M ∧ Below w3.heap.size w3 w')) := (rcheck_any HD.out.1 HD.out.2.1 HD.out.2.2 8192 (by omega) a nn c w3).mono fun e w' ⟨he, hb⟩ => ⟨by rw [he, HG.out.chk], X3.out.step hb, hb⟩
  clear K12
  by_cases hbig : 20 < tlen
  · have hbi : (20 : Int) < (tlen : Int) := by omega
    go_wp2_with fail
    refine Calls.mono K12b.out ?_
    rintro e w4 ⟨rfl, h4⟩
    have X4 : Hid (St W w4 (n : Int) D A U (.pointer none) b8 rb a nn c F M ∧ Below w3.heap.size w3 w4) := h4
    clear h4
    go_wp2_with fail
    go_ret
    exact ⟨rfl, X4.out.1.2.2.2.2.2.2⟩
  have hbi : ¬ (20 : Int) < (tlen : Int) := by omega
  go_wp2_with fail
  refine Calls.mono K12b.out ?_
  rintro e w4 ⟨rfl, h4⟩
  have X4 : Hid (St W w4 (n : Int) D A U (.pointer none) b8 rb a nn c F M ∧ Below w3.heap.size w3 w4) := h4
  clear h4 K12b c0 c1 c2 c3 d0 d1
  obtain ⟨nb, bs, g1, ⟨a', c', hsl⟩, g3, g4, g5⟩ := X4.out.1.2.2.1.2
  simp only [Value.slice.injEq] at hsl
  obtain ⟨rfl, rfl, rfl⟩ := hsl
  have PB : Hid (nn ≤ 12000 ∧ (∀ q, rget bs nn q = M q) ∧ Rng bs nn 8192) := ⟨g1, g4, g5⟩
  have RF : Hid (RefIn F w4 (.slice a nn c) nn bs) := g3
  clear g1 g3 g4 g5
  go_wp2_with fail
  refine (copy_any X4.out.1.2.2.1.1 (by decide)).mono ?_
  rintro e w5 ⟨rc, Fc, rfl, hcr, hcF, hb5⟩
  have X5 : Hid (RamAt w5 Fc rc 8192 12000 (.pointer none) M ∧ (∀ k, Fc k → w4.heap.size ≤ k) ∧ Below w4.heap.size w4 w5) := ⟨hcr, hcF, hb5⟩
  clear hcr hcF hb5
  obtain ⟨d0, d1, _, _⟩ := box_facts (below_box X4.out.1.2.1 X5.out.2.2)
  go_upto_region 8 with fail
  have X6 : Hid (Wq W (w5.alloc (.cells #[.int .u64 8192, .slice a nn c] 29)) n D A U b8 w5.heap.size rb rc a nn c bs M F Fc 12000 M a nn c bs) := wq_new X4.out.1 RF.out X5.out.1 X5.out.2.1 X5.out.2.2
  clear X4 X5 RF d0 d1
  generalize w5.heap.size = b10 at *
  generalize w5.alloc (.cells #[.int .u64 8192, .slice a nn c] 29) = w6 at *
  go_wp2_with fail
  go_loopw [11] (fun iv wr => ∃ (j : Nat) (F : Nat → Prop) (Mc : Nat → Nat) (ax : Option Addr) (nx cx : Nat) (bx : Nat → Nat × Nat), j ≤ tlen ∧ iv = .int .i64 j ∧ Wq W wr n D A U b8 b10 rb rc a nn c bs M F Fc (12000 + 8 * j) Mc ax nx cx bx ∧ Pq n U M Mc nx bx (12000 + 8 * j)) (fun iv _ => tlen - (intOf iv).toNat)
  case atStart => exact ⟨0, F, M, a, nn, c, bs, by omega, rfl, X6.out, ⟨PB.out.1, PB.out.2.1, PB.out.2.2, fun q hq => absurd rfl hq⟩⟩
  case round =>
    obtain ⟨j, F, Mc, ax, nx, cx, bx, hj, rfl, hX, hP⟩ := hrel
    have Xr : Hid (Wq W wr n D A U b8 b10 rb rc a nn c bs M F Fc (12000 + 8 * j) Mc ax nx cx bx) := hX
    have PQ : Hid (Pq n U M Mc nx bx (12000 + 8 * j)) := hP
    clear hX hP X6
    by_cases hlt : j < tlen
    case pos =>
      have hji : (j : Int) < (tlen : Int) := by omega
      rcases HT.out with ⟨q0, _⟩ | ⟨sb, so, cp, hv, hsb, hl9, hc⟩
      · omega
      simp only [Value.slice.injEq] at hv
      obtain ⟨rfl, -, rfl⟩ := hv
      obtain ⟨t0, t1, t2, t3, hok⟩ := hc j hlt
      have hbW := Xr.out.below
      have y0 := (hbW.cell (p := ⟨sb, so + j * 4, none⟩) hsb).trans t0
      have y1 := (hbW.cell (p := ⟨sb, so + j * 4 + 1, none⟩) hsb).trans t1
      have y2 := (hbW.cell (p := ⟨sb, so + j * 4 + 2, none⟩) hsb).trans t2
      have y3 := (hbW.cell (p := ⟨sb, so + j * 4 + 3, none⟩) hsb).trans t3
      have OK : Hid ((ts j).Ok) := hok
      clear hc t0 t1 t2 t3 hok hbW hl9
      obtain ⟨⟨z, tn, ti, tk⟩, hts⟩ : ∃ o, ts j = o := ⟨_, rfl⟩
      rw [hts] at y0 y1 y2 y3 OK
      simp only at y0 y1 y2 y3
      clear hts
      have hok := OK.out
      have k1 : wrap64 (tn : Int) = (tn : Int) := by have := hok.1; simp only at this; unfold wrap64; omega
      have k2 : IntKind.i64.wrap (tn : Int) = (tn : Int) := wrapi tn (Nat.lt_of_le_of_lt hok.1 (by decide))
      have k3 : wrap64 (ti : Int) = (ti : Int) := by have := hok.2.1; simp only at this; unfold wrap64; omega
      have k4 : IntKind.i64.wrap (ti : Int) = (ti : Int) := wrapi ti (Nat.lt_of_le_of_lt hok.2.1 (by decide))
      clear hok
      go_upto_region 12 with fail
      have X2 : Hid (Wq W (wr.alloc (.cells #[.int .i64 z, .int .u16 (tn : Int), .int .u16 (ti : Int), .int .u32 (tk : Int)] 65)) n D A U b8 b10 rb rc a nn c bs M F Fc (12000 + 8 * j) Mc ax nx cx bx) := Xr.out.step (one_box _ _)
      have TB : Hid ((wr.alloc (.cells #[.int .i64 z, .int .u16 (tn : Int), .int .u16 (ti : Int), .int .u32 (tk : Int)] 65)).heap[wr.heap.size]? = some (.cells #[.int .i64 z, .int .u16 (tn : Int), .int .u16 (ti : Int), .int .u32 (tk : Int)] 65 (0, 0)) ∧ ¬ F wr.heap.size) := ⟨heap_alloc_new _ _, fun hf => by have := Xr.out.ram.lt _ hf; omega⟩
      clear Xr y0 y1 y2 y3
      generalize wr.heap.size = b12 at *
      generalize wr.alloc (.cells #[.int .i64 z, .int .u16 (tn : Int), .int .u16 (ti : Int), .int .u32 (tk : Int)] 65) = V2 at *
      obtain ⟨r, hr⟩ : ∃ r, r = tn % n := ⟨_, rfl⟩
      have hrn : Hid (r < n) := by show r < n; rw [hr]; exact Nat.mod_lt _ HG.out.n1
      by_cases hz : z = 0
      · subst hz
        obtain ⟨c0, c1, c2, c3⟩ := box4_facts X2.out.lay
        obtain ⟨e0, e1, e2, e3⟩ := box4_facts TB.out.1
        go_wp2_with fail
        refine (put15_any X2.out.ram HG.out tn r ti tk OK.out.1 hr OK.out.2.1 OK.out.2.2 (by omega)).mono ?_
        rintro e w7 ⟨rfl, F7, h7, hs7⟩
        have X7 : Hid (Wq W w7 n D A U b8 b10 rb rc a nn c bs M F7 Fc (12000 + 8 * j + 8) (over Mc (U + 4 + 8 * r) 8 (eB ti tk)) ax nx cx bx) := X2.out.wrote hs7 h7
        have TB7 : Hid (w7.heap[b12]? = some (.cells #[.int .i64 0, .int .u16 (tn : Int), .int .u16 (ti : Int), .int .u32 (tk : Int)] 65 (0, 0))) := step_box hs7 TB.out.1 TB.out.2
        have ML : Hid (∀ q, Mc q ≤ 255) := X2.out.ram.le
        clear h7 hs7 c0 c1 c2 c3 e0 e1 e2 e3 TB X2
        obtain ⟨c0, c1, c2, c3⟩ := box4_facts X7.out.lay
        obtain ⟨d0, d1, _, _⟩ := box_facts X7.out.box10
        obtain ⟨e0, e1, e2, e3⟩ := box4_facts TB7.out
        go_wp2_with fail
        refine (rput15_any X7.out.refx PQ.out.eq ML.out (by have := PQ.out.le; omega) (fun q hq => X7.out.ram.lt q hq) PQ.out.rng HG.out tn r ti tk OK.out.1 hr OK.out.2.1 OK.out.2.2).mono ?_
        rintro e w8 ⟨a6, n6, c6, bs6, rfl, hn6, hr6, he6, hg6, hb6⟩
        have X8 : Hid (Wq W w8 n D A U b8 b10 rb rc a nn c bs M F7 Fc (12000 + 8 * j + 8) (over Mc (U + 4 + 8 * r) 8 (eB ti tk)) ax nx cx bx) := X7.out.step hb6
        have P8 : Hid (RefIn F7 w8 (.slice a6 n6 c6) n6 bs6 ∧ Pq n U M (over Mc (U + 4 + 8 * r) 8 (eB ti tk)) n6 bs6 (12000 + 8 * j + 8)) := ⟨hr6, PQ.out.wrote (U + 4 + 8 * r) 8 (eB ti tk) ⟨by omega, by have := hrn.out; omega⟩ hn6 he6 hg6 (by decide)⟩
        clear hn6 hr6 he6 hg6 hb6 c0 c1 c2 c3 d0 d1 e0 e1 e2 e3 X7 TB7
        have a0 := cellOf X8.out.box10 0 _ rfl
        have a1 := cellOf X8.out.box10 1 _ rfl
        have z0 := frozenOf X8.out.box10 0
        have z1 := frozenOf X8.out.box10 1
        have X9 := X8.out.set P8.out.1
        have H9 : Hid (Wq W ((w8.setCell ⟨b10, 0, none⟩ (.int .u64 8192)).setCell ⟨b10, 1, none⟩ (.slice a6 n6 c6)) n D A U b8 b10 rb rc a nn c bs M F7 Fc (12000 + 8 * j + 8) (over Mc (U + 4 + 8 * r) 8 (eB ti tk)) a6 n6 c6 bs6) := X9.mono (by omega)
        clear X9
        go_wp2_with fail
        go_roundw
        case rel => exact ⟨j + 1, F7, _, a6, n6, c6, bs6, by omega, by go_num, by rw [show 12000 + 8 * (j + 1) = 12000 + 8 * j + 8 from by omega]; exact H9.out, by rw [show 12000 + 8 * (j + 1) = 12000 + 8 * j + 8 from by omega]; exact P8.out.2⟩
        case measure => simp [intOf]; omega
      by_cases hz : z = 1
      · subst hz
        obtain ⟨c0, c1, c2, c3⟩ := box4_facts X2.out.lay
        obtain ⟨e0, e1, e2, e3⟩ := box4_facts TB.out.1
        go_wp2_with fail
        refine (publish_any X2.out.ram HG.out tn OK.out.1 (by omega)).mono ?_
        rintro e w7 ⟨rfl, F7, h7, hs7⟩
        have X7 : Hid (Wq W w7 n D A U b8 b10 rb rc a nn c bs M F7 Fc (12000 + 8 * j + 2) (over Mc (U + 2) 2 (byteAt tn)) ax nx cx bx) := X2.out.wrote hs7 h7
        have TB7 : Hid (w7.heap[b12]? = some (.cells #[.int .i64 1, .int .u16 (tn : Int), .int .u16 (ti : Int), .int .u32 (tk : Int)] 65 (0, 0))) := step_box hs7 TB.out.1 TB.out.2
        have ML : Hid (∀ q, Mc q ≤ 255) := X2.out.ram.le
        clear h7 hs7 c0 c1 c2 c3 e0 e1 e2 e3 TB X2
        obtain ⟨c0, c1, c2, c3⟩ := box4_facts X7.out.lay
        obtain ⟨d0, d1, _, _⟩ := box_facts X7.out.box10
        obtain ⟨e0, e1, e2, e3⟩ := box4_facts TB7.out
        go_wp2_with fail
        refine (rpublish_any X7.out.refx PQ.out.eq ML.out (by have := PQ.out.le; omega) (fun q hq => X7.out.ram.lt q hq) PQ.out.rng HG.out tn OK.out.1).mono ?_
        rintro e w8 ⟨a6, n6, c6, bs6, rfl, hn6, hr6, he6, hg6, hb6⟩
        have X8 : Hid (Wq W w8 n D A U b8 b10 rb rc a nn c bs M F7 Fc (12000 + 8 * j + 2) (over Mc (U + 2) 2 (byteAt tn)) ax nx cx bx) := X7.out.step hb6
        have P8 : Hid (RefIn F7 w8 (.slice a6 n6 c6) n6 bs6 ∧ Pq n U M (over Mc (U + 2) 2 (byteAt tn)) n6 bs6 (12000 + 8 * j + 8)) := ⟨hr6, PQ.out.wrote (U + 2) 2 (byteAt tn) ⟨by omega, by omega⟩ hn6 he6 hg6 (by decide)⟩
        clear hn6 hr6 he6 hg6 hb6 c0 c1 c2 c3 d0 d1 e0 e1 e2 e3 X7 TB7
        have a0 := cellOf X8.out.box10 0 _ rfl
        have a1 := cellOf X8.out.box10 1 _ rfl
        have z0 := frozenOf X8.out.box10 0
        have z1 := frozenOf X8.out.box10 1
        have X9 := X8.out.set P8.out.1
        have H9 : Hid (Wq W ((w8.setCell ⟨b10, 0, none⟩ (.int .u64 8192)).setCell ⟨b10, 1, none⟩ (.slice a6 n6 c6)) n D A U b8 b10 rb rc a nn c bs M F7 Fc (12000 + 8 * j + 8) (over Mc (U + 2) 2 (byteAt tn)) a6 n6 c6 bs6) := X9.mono (by omega)
        clear X9
        go_wp2_with fail
        go_roundw
        case rel => exact ⟨j + 1, F7, _, a6, n6, c6, bs6, by omega, by go_num, by rw [show 12000 + 8 * (j + 1) = 12000 + 8 * j + 8 from by omega]; exact H9.out, by rw [show 12000 + 8 * (j + 1) = 12000 + 8 * j + 8 from by omega]; exact P8.out.2⟩
        case measure => simp [intOf]; omega
      by_cases hz : z = 2
      · subst hz
        obtain ⟨c0, c1, c2, c3⟩ := box4_facts X2.out.lay
        obtain ⟨e0, e1, e2, e3⟩ := box4_facts TB.out.1
        go_wp2_with fail
        refine (want_any X2.out.ram HG.out tn OK.out.1 (by omega)).mono ?_
        rintro e w7 ⟨rfl, F7, h7, hs7⟩
        have X7 : Hid (Wq W w7 n D A U b8 b10 rb rc a nn c bs M F7 Fc (12000 + 8 * j + 2) (over Mc (U + 4 + 8 * n) 2 (byteAt tn)) ax nx cx bx) := X2.out.wrote hs7 h7
        have TB7 : Hid (w7.heap[b12]? = some (.cells #[.int .i64 2, .int .u16 (tn : Int), .int .u16 (ti : Int), .int .u32 (tk : Int)] 65 (0, 0))) := step_box hs7 TB.out.1 TB.out.2
        have ML : Hid (∀ q, Mc q ≤ 255) := X2.out.ram.le
        clear h7 hs7 c0 c1 c2 c3 e0 e1 e2 e3 TB X2
        obtain ⟨c0, c1, c2, c3⟩ := box4_facts X7.out.lay
        obtain ⟨d0, d1, _, _⟩ := box_facts X7.out.box10
        obtain ⟨e0, e1, e2, e3⟩ := box4_facts TB7.out
        go_wp2_with fail
        refine (rwant_any X7.out.refx PQ.out.eq ML.out (by have := PQ.out.le; omega) (fun q hq => X7.out.ram.lt q hq) PQ.out.rng HG.out tn OK.out.1).mono ?_
        rintro e w8 ⟨a6, n6, c6, bs6, rfl, hn6, hr6, he6, hg6, hb6⟩
        have X8 : Hid (Wq W w8 n D A U b8 b10 rb rc a nn c bs M F7 Fc (12000 + 8 * j + 2) (over Mc (U + 4 + 8 * n) 2 (byteAt tn)) ax nx cx bx) := X7.out.step hb6
        have P8 : Hid (RefIn F7 w8 (.slice a6 n6 c6) n6 bs6 ∧ Pq n U M (over Mc (U + 4 + 8 * n) 2 (byteAt tn)) n6 bs6 (12000 + 8 * j + 8)) := ⟨hr6, PQ.out.wrote (U + 4 + 8 * n) 2 (byteAt tn) ⟨by omega, by omega⟩ hn6 he6 hg6 (by decide)⟩
        clear hn6 hr6 he6 hg6 hb6 c0 c1 c2 c3 d0 d1 e0 e1 e2 e3 X7 TB7
        have a0 := cellOf X8.out.box10 0 _ rfl
        have a1 := cellOf X8.out.box10 1 _ rfl
        have z0 := frozenOf X8.out.box10 0
        have z1 := frozenOf X8.out.box10 1
        have X9 := X8.out.set P8.out.1
        have H9 : Hid (Wq W ((w8.setCell ⟨b10, 0, none⟩ (.int .u64 8192)).setCell ⟨b10, 1, none⟩ (.slice a6 n6 c6)) n D A U b8 b10 rb rc a nn c bs M F7 Fc (12000 + 8 * j + 8) (over Mc (U + 4 + 8 * n) 2 (byteAt tn)) a6 n6 c6 bs6) := X9.mono (by omega)
        clear X9
        go_wp2_with fail
        go_roundw
        case rel => exact ⟨j + 1, F7, _, a6, n6, c6, bs6, by omega, by go_num, by rw [show 12000 + 8 * (j + 1) = 12000 + 8 * j + 8 from by omega]; exact H9.out, by rw [show 12000 + 8 * (j + 1) = 12000 + 8 * j + 8 from by omega]; exact P8.out.2⟩
        case measure => simp [intOf]; omega
      rename_i hz0 hz1
      have l0 : (z == 0) = false := by simp [hz0]
      have l1 : (z == 1) = false := by simp [hz1]
      have l2 : (z == 2) = false := by simp [hz]
      obtain ⟨e0, e1, e2, e3⟩ := box4_facts TB.out.1
      go_wp2_with fail
      go_roundw
      case rel => exact ⟨j + 1, F, Mc, ax, nx, cx, bx, by omega, by go_num, X2.out.mono (by omega), ⟨by have := PQ.out.le; omega, PQ.out.eq, PQ.out.rng, PQ.out.dif⟩⟩
      case measure => simp [intOf]; omega
    case neg =>
      rename World => wz
      obtain rfl : tlen = j := by omega
      have hlt2 : ¬ (tlen : Int) < (tlen : Int) := by omega
      have hS := two_pages PB.out.2.2 PQ.out.rng PB.out.2.1 PQ.out.eq
      obtain ⟨Al, hA, hM⟩ := addresses_rise 524288 524289 hS
      have hMr : ∀ x, x ∈ Al ↔ rget bs nn x ≠ rget bx nx x := by intro x; rw [hM, PB.out.2.1, PQ.out.eq]
      have LA : Hid ((spans Al).length ≤ 10000 ∧ ∀ p ∈ spans Al, 1 ≤ p.2 ∧ U ≤ p.1 ∧ p.1 + p.2 ≤ U + 6 + 8 * n) := ⟨few_spans hA hM hS, span_used hM PQ.out.dif⟩
      have DF : Hid (Calls Try.prog 38 #[.pointer (some ⟨rc, 0, none⟩), .pointer (some ⟨rb, 0, none⟩), .int .i64 1000] wz fun e w' => ∃ v, e = .returned v ∧ SpanIn wz.heap.size w' v ((spans Al).take (1000 : Int).toNat) ∧ Below wz.heap.size wz w') := differ_any Xr.out.was Xr.out.ram (by omega) (by omega) (by omega) 524288 524289 (by omega) (by omega) hS 1000 Al hA hM
      have AP : Hid (∀ V, Below wz.heap.size wz V → Calls Try.prog 40 #[.agg #[.int .u64 8192, .slice a nn c], .agg #[.int .u64 8192, .slice ax nx cx], .int .i64 1000] V fun e w' => ∃ v, e = .returned v ∧ SpanIn V.heap.size w' v ((spans Al).take (1000 : Int).toNat) ∧ Below V.heap.size V w') := fun V hV => apart_any (F := F) 8192 1000 (Xr.out.ref.below hV) (Xr.out.refx.below hV) (by have := PB.out.1; omega) (by have := PQ.out.le; omega) (fun i hi => by have := PB.out.2.2 i hi; omega) (fun i hi => by have := PQ.out.rng i hi; omega) Al hA hMr
      clear hS hA hM hMr
      obtain ⟨l, hl⟩ : ∃ l, (spans Al).take (1000 : Int).toNat = l := ⟨_, rfl⟩
      rw [hl] at DF AP
      have LL : Hid (l.length ≤ 10000 ∧ ∀ p ∈ l, 1 ≤ p.2 ∧ U ≤ p.1 ∧ p.1 + p.2 ≤ U + 6 + 8 * n) := by rw [← hl]; exact ⟨take_len _ _ _ LA.out.1, fun p hp => LA.out.2 p (List.mem_of_mem_take hp)⟩
      clear hl LA
      go_wp2_with fail
      refine Calls.mono DF.out ?_
      rintro e w5 ⟨v5, rfl, hsp, hb5⟩
      obtain ⟨ad, cd, rfl⟩ := hsp.form
      have X5 : Hid (SpanIn wz.heap.size w5 (.slice ad l.length cd) l ∧ Below wz.heap.size wz w5) := ⟨hsp, hb5⟩
      clear hsp hb5 DF
      obtain ⟨c0, c1, c2, c3⟩ := box4_facts (below_box Xr.out.lay X5.out.2)
      go_wp2_with fail
      refine (rareas_any n D A U (by have := HG.out.n2; omega) _).mono ?_
      rintro e w6 ⟨g, rfl, hg, hcl, hb6⟩
      have X6 : Hid (SpanIn wz.heap.size w6 (.slice ad l.length cd) l ∧ Below wz.heap.size wz w6 ∧ w6.heap[g]? = some (.cells #[.int .u64 (D : Int), .int .u64 (16 * (n : Int)), .int .u64 (A : Int), .int .u64 (6 + 2 * (n : Int)), .int .u64 (U : Int), .int .u64 (6 + 8 * (n : Int))] 37 (0, 0))) := ⟨X5.out.1.kept (fun q hq => hb6.block q (X5.out.1.lt q hq).2), below_to X5.out.2 hb6, hcl⟩
      clear hg hcl hb6 c0 c1 c2 c3 X5
      obtain ⟨ld, hld⟩ : ∃ ld, l.length = ld := ⟨_, rfl⟩
      have HLD : Hid (l.length = ld ∧ ld ≤ 10000) := ⟨hld, by rw [← hld]; exact LL.out.1⟩
      rw [hld] at X6 ⊢
      clear hld
      go_wp2_with fail
      go_loopw [16] (fun v wq => ∃ k : Nat, k ≤ ld ∧ v = .int .i64 k ∧ Below w6.heap.size w6 wq) (fun v _ => ld - (intOf v).toNat)
      case atStart => exact ⟨0, by omega, rfl, Below.refl _ _⟩
      case round =>
        obtain ⟨k, hk, rfl, hbq⟩ := hrel
        have XQ : Hid (Below w6.heap.size w6 wr) := hbq
        clear hbq
        by_cases hkl : k < ld
        · have hki : (k : Int) < (ld : Int) := by omega
          have hk0 : (0 : Int) ≤ (k : Int) := by omega
          have hkb : (k : Int) < 10000 := by have := HLD.out.2; omega
          obtain ⟨g5, c5, hv, hc⟩ := X6.out.1.cells (by rw [HLD.out.1]; omega)
          simp only [Value.slice.injEq] at hv
          obtain ⟨hv1, -, hv2⟩ := hv
          subst hv1 hv2
          obtain ⟨y0, y1⟩ := hc k (by rw [HLD.out.1]; exact hkl)
          have hin := LL.out.2 _ (getD_in l k (by rw [HLD.out.1]; exact hkl))
          obtain ⟨⟨p, Lp⟩, hpr⟩ : ∃ pr, l.getD k (0, 0) = pr := ⟨_, rfl⟩
          rw [hpr] at y0 y1 hin
          simp only at y0 y1 hin
          have hlt5 := block_lt_of_cell y0
          have y2 := (XQ.out.cell (p := ⟨g5, k * 2, none⟩) hlt5).trans y0
          have y3 := (XQ.out.cell (p := ⟨g5, k * 2 + 1, none⟩) hlt5).trans y1
          obtain ⟨_, _, _, _, u4, u5⟩ := box6_facts (below_box X6.out.2.2 XQ.out)
          obtain ⟨e1, he1⟩ : ∃ q : Nat, q = p - U := ⟨_, rfl⟩
          obtain ⟨e2, he2⟩ : ∃ q : Nat, q = 6 + 8 * n - Lp := ⟨_, rfl⟩
          have q2 := HG.out.u2
          have v1 : ¬ (p : Int) < (U : Int) := by omega
          have v2 : IntKind.u64.wrap ((p : Int) - (U : Int)) = (e1 : Int) := by rw [wrap_u64]; omega
          have v3 : IntKind.u64.wrap (6 + 8 * (n : Int) - (Lp : Int)) = (e2 : Int) := by rw [wrap_u64]; omega
          have v4 : ¬ (e2 : Int) < (e1 : Int) := by omega
          have v5 : ¬ e2 < e1 := by omega
          have v6 : ¬ p < U := by omega
          clear hc y0 y1 hpr hin hlt5 he1 he2 q2
          go_upto_region 30 with fail
          go_quiet (fail)
          have XQ2 : Hid (Below w6.heap.size w6 (wr.drewN nq)) := below_drewN XQ.out nq
          clear XQ y2 y3 u4 u5
          generalize wr.drewN nq = wy at *
          go_wp2_with fail
          go_roundw
          case rel => exact ⟨k + 1, by omega, by go_num, XQ2.out⟩
          case measure => simp [intOf]; omega
        · obtain rfl : ld = k := by omega
          have hki : ¬ (ld : Int) < (ld : Int) := by omega
          have hBz : Below wz.heap.size wz wr := below_to X6.out.2.1 XQ.out
          have HBZ : Hid (Below wz.heap.size wz wr ∧ SpanIn wz.heap.size wr (.slice ad ld cd) l) := ⟨hBz, X6.out.1.kept (fun q hq => XQ.out.block q (X6.out.1.lt q hq).2)⟩
          obtain ⟨d0, d1, _, _⟩ := box_facts (below_box Xr.out.box8 hBz)
          obtain ⟨f0, f1, _, _⟩ := box_facts (below_box Xr.out.box10 hBz)
          clear hBz X6 XQ
          go_wp2_with fail
          refine (AP.out _ HBZ.out.1).mono ?_
          rintro e w7 ⟨v7, rfl, hsp7, hb7⟩
          obtain ⟨av, cv, rfl⟩ := hsp7.form
          have X7 : Hid (SpanIn wz.heap.size w7 (.slice ad ld cd) l ∧ SpanIn wz.heap.size w7 (.slice av l.length cv) l ∧ Below wz.heap.size wz w7) := ⟨HBZ.out.2.kept (fun q hq => hb7.block q (HBZ.out.2.lt q hq).2), hsp7.low HBZ.out.1.size, below_to HBZ.out.1 hb7⟩
          clear hsp7 hb7
          go_wp2_with fail
          refine (same_spans X7.out.1 X7.out.2.1 (by have := LL.out.1; omega)).mono ?_
          rintro e w8 ⟨rfl, q, rfl⟩
          go_wp2_with fail
          go_ret
          exact ⟨rfl, below_drewN (below_to Xr.out.below X7.out.2.2) q⟩
theorem writes_walk (W : World) (v : Value) (len : Nat) (ps : Nat → PutD) (hps : PutsIn W v len ps) (s : Int) (D A U : Nat) (hD : D < 18446744073709551616) (hA : A < 18446744073709551616) (hU : U < 18446744073709551616) (v2 : Value) (tlen : Nat) (ts : Nat → ToldD) (hts : ToldsIn W v2 tlen ts) : Calls Try.prog 7 #[v, .agg #[.int .i64 s, .int .u64 (D : Int), .int .u64 (A : Int), .int .u64 (U : Int)], v2] W fun e w' => e = .returned (.bool true) ∧ Below W.heap.size W w' := by
  obtain ⟨a, c, rfl⟩ := puts_form hps
  obtain ⟨a2, c2, rfl⟩ := tolds_form hts
  exact writes_core W a len c ps hps s D A U hD hA hU a2 tlen c2 ts hts
end Go.Proofs.Ythnmoalomodbpaa
