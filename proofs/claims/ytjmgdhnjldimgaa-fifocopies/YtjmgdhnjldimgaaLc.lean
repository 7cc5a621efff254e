/- A copy is alike, and goes its own way: FifoCopies. -/
import Derived.Test.YtjmgdhnjldimgaaLa
import Derived.Laws.BitsAllLaws
namespace Go.Proofs.Ytjmgdhnjldimgaa
open Go.RowKit
set_option linter.unusedVariables false
set_option linter.unusedSimpArgs false
set_option maxRecDepth 100000
theorem open_agg {P : Program} {W : World} {r : Reach} {b0 : Nat} {t : TypeId} {fs : Array Field} {v : Value} (ht : P.underlying t = some (.struct fs)) (hv : Value.okWide P W r b0 t v) : ∃ cs, v = .agg cs := by
  obtain ⟨cs, rfl, _⟩ : ∃ cs, v = .agg cs ∧ cs.size = P.cellsOf t ∧ Row.okWide P W r b0 t cs := by
    simpa [Value.okWide, ht] using hv
  exact ⟨cs, rfl⟩
/-- a told row: its first n cells are bytes -/
def Pk (V : World) (gp n : Nat) : Prop := ∃ cur, V.heap[gp]? = some (.cells cur 5 (0, 0)) ∧ ∀ i, i < n → ∃ x : Nat, x ≤ 255 ∧ cur[i]? = some (.int .u8 (x : Nat))
theorem Pk.of {w : World} {v : Value} {g : Nat} {l : List Nat} (h : WA w v g l) (h0 : l ≠ []) (hb : ∀ x ∈ l, x ≤ 255) : ∃ cap, v = .slice (some ⟨g, 0, none⟩) l.length cap ∧ Pk w g l.length := by
  rcases h with ⟨h, _⟩ | ⟨cap, cur, hv, hh, h1, h2, h3, h4⟩
  · exact absurd h h0
  · refine ⟨cap, hv, cur, hh, fun i hi => ?_⟩
    have hx := get_cast hi
    refine ⟨_, hb _ (List.mem_of_getElem? hx), ?_⟩
    have := row8_get hx
    rw [← h4, List.getElem?_take, if_pos hi] at this
    simpa using this
theorem Pk.set {V : World} {gp n i x : Nat} (h : Pk V gp n) (hx : x ≤ 255) : Pk (V.setCell ⟨gp, i, none⟩ (.int .u8 (x : Nat))) gp n := by
  obtain ⟨cur, hh, hc⟩ := h
  refine ⟨_, heap_setCell_same V gp i cur 5 _ hh, fun j hj => ?_⟩
  obtain ⟨y, hy, he⟩ := hc j hj
  by_cases e : i = j
  · subst e
    refine ⟨x, hx, ?_⟩
    rw [Array.getElem?_setIfInBounds_self_of_lt]
    exact (Array.getElem?_eq_some_iff.1 he).1
  · refine ⟨y, hy, ?_⟩
    rw [Array.getElem?_setIfInBounds_ne e]
    exact he
theorem xor_byte (x : Nat) (h : x ≤ 255) : ∃ y : Nat, y ≤ 255 ∧ bits .xor .u8 (x : Int) 255 = (y : Int) := by
  have h1 : x ^^^ 255 < 2 ^ 8 := Nat.xor_lt_two_pow (by omega) (by decide)
  exact ⟨x ^^^ 255, by omega, u8_xor_nat x 255 (by omega) (by omega)⟩
theorem info45 : (Try.prog.info? 45).map (·.size) = some 3 := by kernel_rfl
/-- the state of FifoCopies: the call's box, the row, the document's one and its box -/
structure Ca (W V : World) (O : Array Value) (fb g d q8 : Nat) (K : Fi) (v : Value) : Prop where
  o : Box 45 V W.heap.size O
  f : FifoAt V fb g K
  r : RL V v d K.l
  x : Box 28 V q8 (fifoC K v)
  b : Below W.heap.size W V
  n : W.heap.size < fb ∧ W.heap.size < g ∧ fb < q8 ∧ g < q8 ∧ (K.l = [] ∨ d < q8)
section
variable {W V V' : World} {O : Array Value} {fb g d q8 a b : Nat} {K : Fi} {v : Value}
theorem Ca.two (h : Ca W V O fb g d q8 K v) (ht : Two a b V V') (h1 : q8 < a) (h2 : q8 < b) : Ca W V' O fb g d q8 K v := by
  obtain ⟨o, f, r, x, bb, n1, n2, n3, n4, n5⟩ := h
  have hs := bb.size
  refine ⟨ht.box o (by omega) (by omega), f.two ht (by omega) (by omega) (by omega) (by omega), r.two_off ht (n5.imp id (fun q => ⟨by omega, by omega⟩)), ht.box x (by omega) (by omega), bb.trans (ht.below (by omega) (by omega) hs), n1, n2, n3, n4, n5⟩
theorem Ca.step (h : Ca W V O fb g d q8 K v) (hb : Below V.heap.size V V') : Ca W V' O fb g d q8 K v := by
  obtain ⟨o, f, r, x, bb, n⟩ := h
  exact ⟨o.step hb, f.step hb, r.step hb, x.step hb, bb.trans (hb.mono bb.size), n⟩
theorem Ca.upon (h : Ca W V O fb g d q8 K v) (hu : Upon a V V') (h1 : q8 < a) : Ca W V' O fb g d q8 K v := h.two (b := a) (Two.of_upon hu) h1 h1
theorem Ca.lt (h : Ca W V O fb g d q8 K v) : q8 < V.heap.size := h.x.lt
end
set_option maxHeartbeats 8000000 in
theorem copies_core (W : World) (zr : Int) (hz : (Lit.int .i64 zr).wf = true) (sv : Value) (len : Nat) (ops : Nat → OpD) (hsc : ScriptIn W sv len ops) (op : OpD) (hin : op.In W) (hl : op.D.length ≤ 9223372036854775807) : Calls Try.prog 6 #[.int .i64 zr, sv, .agg op.cells] W fun e w' => e = .returned (.bool true) ∧ Below W.heap.size W w' := by
  have HS : Hid (ScriptIn W sv len ops) := hsc
  obtain ⟨sa, scp, rfl⟩ := hsc.form
  have HI : Hid (op.In W) := hin
  obtain ⟨z, n, a, c, D, dd⟩ := op
  have hcl : (⟨z, n, a, c, D, dd⟩ : OpD).cells = #[.int .i64 z, .int .i64 n, .slice a D.length c] := rfl
  rw [hcl]
  simp only at hl
  obtain ⟨dl, hdl⟩ : ∃ dl, D.length = dl := ⟨_, rfl⟩
  rw [hdl] at hl ⊢
  have HDl : Hid (D.length = dl) := hdl
  clear hsc hin hz hcl hdl
  go_enter Try.func6, Try.ntmps6
  go_upto_region 0 with fail
  refine wp_region_list ?_
  refine wpList_box_agg 45 #[.int .i64 z, .int .i64 n, .slice a dl c] _ rfl rfl rfl ?_
  have X0 : Hid (Box 45 (W.alloc (.cells #[.int .i64 z, .int .i64 n, .slice a dl c] 45)) W.heap.size #[.int .i64 z, .int .i64 n, .slice a dl c] ∧ Below W.heap.size W (W.alloc (.cells #[.int .i64 z, .int .i64 n, .slice a dl c] 45))) := ⟨Box.new 45 W _, (Below.refl _ _).alloc (Nat.le_refl _) _⟩
  generalize W.alloc (.cells #[.int .i64 z, .int .i64 n, .slice a dl c] 45) = w0 at *
  go_wp2_with fail
  refine (awake_any _).mono ?_
  rintro e w1 ⟨rfl, b1⟩
  have X1 : Hid (Box 45 w1 W.heap.size #[.int .i64 z, .int .i64 n, .slice a dl c] ∧ Below W.heap.size W w1) := ⟨X0.out.1.step b1, X0.out.2.trans (b1.mono X0.out.2.size)⟩
  clear b1 X0
  go_upto_region 3 with fail
  refine wp_region_list ?_
  (refine wpList_step (fun KK hKK => ?_); go_simp; refine hKK _ _ ?_; clear hKK KK)
  (refine wpList_step (fun KK hKK => ?_); go_simp; refine hKK _ _ ?_; clear hKK KK)
  refine wpList_step (fun KK hKK => ?_)
  go_simp
  refine (played_any zr _ len ops _ (HS.out.up X1.out.2)).mono ?_
  rintro e w2 ⟨pv, cs, rfl, hs, h1, hb, hor⟩
  have X2 : Hid (cs.size = 4 ∧ cs.all (·.oneCell') = true ∧ Box 45 w2 W.heap.size #[.int .i64 z, .int .i64 n, .slice a dl c] ∧ Below W.heap.size W w2) := ⟨hs, h1, X1.out.1.step hb, X1.out.2.trans (hb.mono X1.out.2.size)⟩
  have hlt1 : W.heap.size < w1.heap.size := X1.out.1.lt
  clear hs h1 hb HS X1
  rcases hor with hpv | ⟨fb, g, d, K, va, vc, hpv, hcs, hf, hr, ho, hg1, hg2⟩
  · subst hpv
    refine hKK _ _ ?_
    clear hKK KK
    (refine wpList_step (fun KK hKK => ?_); go_simp; refine hKK _ _ ?_; clear hKK KK)
    refine wpList_extract_at rfl _ _ _ _ rfl rfl rfl ?_
    refine wpList_extract_at rfl _ _ _ _ rfl rfl rfl ?_
    refine wpList_extract_at rfl _ _ _ _ rfl rfl rfl ?_
    refine wpList_alloc_zero 28 zeroC 4 zinfo28 rfl rfl ?_
    (refine wpList_step (fun KK hKK => ?_); go_simp; refine hKK _ _ ?_; clear hKK KK)
    refine wpList_store28c rfl _ _ rfl w2.heap.size cs zeroC X2.out.1 X2.out.2.1 rfl rfl (Box.new 28 w2 _) rfl ?_
    intro W3 B3 U3
    have Y : Hid (Below W.heap.size W W3) := (X2.out.2.2.2.alloc X2.out.2.2.2.size _).trans (U3.below X2.out.2.2.2.size (by have := X2.out.2.2.2.size; simp; omega))
    clear B3 U3 X2
    go_wp2
    go_ret
    exact ⟨rfl, Y.out⟩
  · subst hpv hcs
    have hK := hf.ok
    obtain ⟨k, hk⟩ : ∃ k, K.l.length = k := ⟨_, rfl⟩
    rw [hk] at hr X2
    rw [hk]
    have hfl := hf.lt
    have hdl2 : K.l = [] ∨ d < w2.heap.size := by
      by_cases e : K.l = []
      · exact .inl e
      · exact .inr (hr.old e)
    refine hKK _ _ ?_
    clear hKK KK
    (refine wpList_step (fun KK hKK => ?_); go_simp; refine hKK _ _ ?_; clear hKK KK)
    refine wpList_extract_at rfl _ _ _ _ rfl rfl rfl ?_
    refine wpList_extract_at rfl _ _ _ _ rfl rfl rfl ?_
    refine wpList_extract_at rfl _ _ _ _ rfl rfl rfl ?_
    refine wpList_alloc_zero 28 zeroC 4 zinfo28 rfl rfl ?_
    (refine wpList_step (fun KK hKK => ?_); go_simp; refine hKK _ _ ?_; clear hKK KK)
    refine wpList_store28 rfl _ _ rfl w2.heap.size K _ _ _ zeroC rfl rfl (Box.new 28 w2 _) rfl ?_
    intro W3 B3 U3
    have Y : Hid (Ca W W3 #[.int .i64 z, .int .i64 n, .slice a dl c] fb g d w2.heap.size K (.slice va k vc)) := by
      have b1 : Below w2.heap.size w2 (w2.alloc (.cells zeroC 28)) := (Below.refl _ _).alloc (Nat.le_refl _) _
      have b2 := b1.trans (U3.below (Nat.le_refl _) b1.size)
      exact ⟨X2.out.2.2.1.step b2, hf.step b2, hr.step b2, B3, X2.out.2.2.2.trans (b2.mono X2.out.2.2.2.size), by omega, by omega, hfl.1, hfl.2, hdl2⟩
    have HK : Hid (K.Ok ∧ K.l.length = k) := ⟨hK, hk⟩
    have hk4 : k ≤ 4096 := by have h1 := hK.len; have h2 := hK.rm; omega
    clear B3 U3 X2 hf hr ho hg1 hg2 hK hk hfl hdl2 hlt1
    generalize w2.heap.size = q8 at *
    have co := Y.out.o.cell 2 (.slice a dl c) rfl
    by_cases hbig : 200 < dl
    · have q1 : decide ((200 : Int) < (dl : Int)) = true := by simp; omega
      have q2 : decide (200 < dl) = true := by simp; omega
      go_wp2
      go_ret
      exact ⟨rfl, Y.out.b⟩
    have q1 : decide ((200 : Int) < (dl : Int)) = false := by simp; omega
    have q2 : decide (200 < dl) = false := by simp; omega
    go_wp2_with fail
    refine (copy_any Y.out.f).mono ?_
    rintro e w4 ⟨cb, gc, rfl, hcf, hb4, hc1, hc2⟩
    have Z4 : Hid (Ca W w4 #[.int .i64 z, .int .i64 n, .slice a dl c] fb g d q8 K (.slice va k vc) ∧ FifoAt w4 cb gc K ∧ q8 < cb ∧ q8 < gc) := by
      have := Y.out.lt
      exact ⟨Y.out.step hb4, hcf, by omega, by omega⟩
    clear hcf hb4 hc1 hc2 Y co
    have SC : Hid (∀ V f g, FifoAt V f g K → RL V (.slice va k vc) d K.l → Calls Try.prog 17 #[.pointer (some ⟨f, 0, none⟩), .agg (fifoC K (.slice va k vc))] V fun e w' => e = .returned (.bool true) ∧ Below V.heap.size V w') := fun V f g h1 h2 => by
      have := law_same K f g d va vc V h1
      rw [HK.out.2] at this
      exact this h2
    go_upto_region 7 with fail
    refine wp_region_list ?_
    (refine wpList_step (fun KK hKK => ?_); go_simp; refine hKK _ _ ?_; clear hKK KK)
    (refine wpList_step (fun KK hKK => ?_); go_simp; refine hKK _ _ ?_; clear hKK KK)
    (refine wpList_step (fun KK hKK => ?_); go_simp; refine hKK _ _ ?_; clear hKK KK)
    (refine wpList_step (fun KK hKK => ?_); go_simp; refine hKK _ _ ?_; clear hKK KK)
    refine wpList_load28G (by kernel_rfl) _ rfl q8 K _ _ _ rfl Z4.out.1.x ?_
    refine wpList_step (fun KK hKK => ?_)
    go_simp
    refine (SC.out _ _ _ Z4.out.2.1 Z4.out.1.r).mono ?_
    rintro e w5 ⟨rfl, hb5⟩
    have Z5 : Hid (Ca W w5 #[.int .i64 z, .int .i64 n, .slice a dl c] fb g d q8 K (.slice va k vc) ∧ FifoAt w5 cb gc K ∧ q8 < cb ∧ q8 < gc) := ⟨Z4.out.1.step hb5, Z4.out.2.1.step hb5, Z4.out.2.2⟩
    clear hb5 Z4
    refine hKK _ _ ?_
    clear hKK KK
    have CS := same_any Z5.out.2.1 Z5.out.1.f
    rw [decide_eq_true (rfl : K.l = K.l)] at CS
    have HCS : Hid (Calls Try.prog 18 #[.pointer (some ⟨cb, 0, none⟩), .pointer (some ⟨fb, 0, none⟩)] w5 fun e w' => e = .returned (.bool true) ∧ w' = w5) := CS
    clear CS
    go_wp2_with fail
    refine HCS.out.mono ?_
    rintro e wq ⟨rfl, hw⟩
    rw [hw]
    clear hw wq HCS
    go_wp2_with fail
    refine (peek_any Z5.out.2.1 9 w5.heap.size).mono ?_
    rintro e w6 ⟨vp, gp, rfl, hwp, hb6, hgp⟩
    have Z6 : Hid (Ca W w6 #[.int .i64 z, .int .i64 n, .slice a dl c] fb g d q8 K (.slice va k vc) ∧ FifoAt w6 cb gc K ∧ q8 < cb ∧ q8 < gc ∧ cb < gp ∧ gc < gp ∧ q8 < gp) := by
      have h1 := Z5.out.2.1.lt
      have h2 := Z5.out.1.lt
      exact ⟨Z5.out.1.step hb6, Z5.out.2.1.step hb6, Z5.out.2.2.1, Z5.out.2.2.2, by omega, by omega, by omega⟩
    have HL : Hid ((tookL K 9).length ≤ 9 ∧ ∀ x ∈ tookL K 9, x ≤ 255) := by
      refine ⟨?_, fun x hx => HK.out.1.le x (List.mem_of_mem_take hx)⟩
      rw [tookL_length]
      exact Nat.min_le_left _ _
    have P6 : Hid (WA w6 vp gp (tookL K 9)) := hwp
    clear hwp hb6 hgp Z5
    generalize tookL K 9 = L9 at *
    obtain ⟨m, hm⟩ : ∃ m, L9.length = m := ⟨_, rfl⟩
    have hm9 : m ≤ 9 := by rw [← hm]; exact HL.out.1
    have hfp := P6.out.reads.form
    rw [hm] at hfp
    obtain ⟨apv, cpv, hvp⟩ := hfp
    have hPk : m = 0 ∨ (apv = some ⟨gp, 0, none⟩ ∧ Pk w6 gp m) := by
      by_cases e : L9 = []
      · subst e; exact .inl hm.symm
      · obtain ⟨cap, e1, e2⟩ := Pk.of P6.out e HL.out.2
        rw [hvp, hm] at e1
        rw [hm] at e2
        simp only [Value.slice.injEq] at e1
        exact .inr ⟨e1.1, e2⟩
    subst hvp
    have HPk : Hid (m = 0 ∨ (apv = some ⟨gp, 0, none⟩ ∧ Pk w6 gp m)) := hPk
    clear hPk P6 hm HL
    go_wp2_with fail
    go_loopw [12] (fun i wr => ∃ j : Nat, j ≤ m ∧ i = .int .i64 j ∧ Ca W wr #[.int .i64 z, .int .i64 n, .slice a dl c] fb g d q8 K (.slice va k vc) ∧ FifoAt wr cb gc K ∧ (m = 0 ∨ (apv = some ⟨gp, 0, none⟩ ∧ Pk wr gp m))) (fun i _ => m - (intOf i).toNat)
    case atStart => exact ⟨0, Nat.zero_le _, rfl, Z6.out.1, Z6.out.2.1, HPk.out⟩
    case round =>
      obtain ⟨j, hj, rfl, hca, hcf, hpk⟩ := hrel
      have N6 : Hid (q8 < cb ∧ q8 < gc ∧ cb < gp ∧ gc < gp ∧ q8 < gp) := Z6.out.2.2
      clear Z6 HPk
      have Z : Hid (Ca W wr #[.int .i64 z, .int .i64 n, .slice a dl c] fb g d q8 K (.slice va k vc) ∧ FifoAt wr cb gc K) := ⟨hca, hcf⟩
      clear hca hcf
      by_cases hjm : j < m
      · obtain ⟨ea, hpk2⟩ := hpk.resolve_left (by omega)
        clear hpk
        subst ea
        have HP : Hid (Pk wr gp m) := hpk2
        obtain ⟨cur, hh, hc⟩ := hpk2
        obtain ⟨x, hx, he⟩ := hc j hjm
        have cx := cellOf hh j _ he
        have fx := frozenOf hh j
        have k0 : (j : Int) < m := by omega
        clear hh hc he
        obtain ⟨y, hy, ey⟩ := xor_byte x hx
        go_upto_region 12 with fail
        have Z1 : Hid (Ca W (wr.setCell ⟨gp, j, none⟩ (.int .u8 (y : Nat))) #[.int .i64 z, .int .i64 n, .slice a dl c] fb g d q8 K (.slice va k vc) ∧ FifoAt (wr.setCell ⟨gp, j, none⟩ (.int .u8 (y : Nat))) cb gc K ∧ Pk (wr.setCell ⟨gp, j, none⟩ (.int .u8 (y : Nat))) gp m) := by
          have hu : Upon gp wr (wr.setCell ⟨gp, j, none⟩ (.int .u8 (y : Nat))) := (Upon.refl _ _).set j _
          have nn := N6.out
          exact ⟨Z.out.1.upon hu nn.2.2.2.2, Z.out.2.upon hu (by omega) (by omega), HP.out.set hy⟩
        clear Z HP cx fx ey
        generalize wr.setCell ⟨gp, j, none⟩ (.int .u8 (y : Nat)) = w7 at *
        go_wp2_with fail
        go_roundw
        case rel => first | exact ⟨j + 1, by omega, by go_num, Z1.out.1, Z1.out.2.1, .inr Z1.out.2.2⟩ | exact ⟨j + 1, by omega, by go_num, Z1.out.1, Z1.out.2.1, .inr ⟨trivial, Z1.out.2.2⟩⟩
        case measure => simp [intOf]; omega
      · clear hpk
        have DC0 : ∀ V, FifoAt V cb gc K → RL V (.slice va K.l.length vc) d K.l → Off d cb gc K.l → Below W.heap.size W V → Calls Try.prog 20 #[.pointer (some ⟨cb, 0, none⟩), .agg (fifoC K (.slice va K.l.length vc)), .agg #[.int .i64 z, .int .i64 n, .slice a D.length c]] V fun e w' => DoP V w' cb gc d (doK K ⟨z, n, a, c, D, dd⟩) e := fun V h1 h2 h3 h4 => do_any h1 h2 h3 ⟨z, n, a, c, D, dd⟩ (HI.out.step h4) (by have := HDl.out; simp only; omega)
        have hK2 := doK_ok HK.out.1 ⟨z, n, a, c, D, dd⟩ HI.out
        unfold DoP at DC0
        generalize doK K ⟨z, n, a, c, D, dd⟩ = K2 at *
        obtain ⟨k2, hk2⟩ : ∃ k2, K2.l.length = k2 := ⟨_, rfl⟩
        rw [HK.out.2, hk2, HDl.out] at DC0
        have DC : Hid (∀ V, FifoAt V cb gc K → RL V (.slice va k vc) d K.l → Off d cb gc K.l → Below W.heap.size W V → Calls Try.prog 20 #[.pointer (some ⟨cb, 0, none⟩), .agg (fifoC K (.slice va k vc)), .agg #[.int .i64 z, .int .i64 n, .slice a dl c]] V fun e w' => ∃ v2 c2 d2 g2, e = .returned (.tuple #[.agg (fifoC K2 (.slice v2 k2 c2)), .bool true]) ∧ FifoAt w' cb g2 K2 ∧ RL w' (.slice v2 k2 c2) d2 K2.l ∧ Two cb gc V w' ∧ (g2 = gc ∨ V.heap.size ≤ g2) ∧ (d2 = d ∨ V.heap.size ≤ d2) ∧ Off d2 cb g2 K2.l) := DC0
        have SC2 : Hid (∀ V g d v2 c2, FifoAt V cb g K2 → RL V (.slice v2 k2 c2) d K2.l → Calls Try.prog 17 #[.pointer (some ⟨cb, 0, none⟩), .agg (fifoC K2 (.slice v2 k2 c2))] V fun e w' => e = .returned (.bool true) ∧ Below V.heap.size V w') := fun V g d v2 c2 h1 h2 => by
          have := law_same K2 cb g d v2 c2 V h1
          rw [hk2] at this
          exact this h2
        have HB2 : Hid (K2.l.length ≤ 1000000) := by
          have h1 := hK2.len
          have h2 := hK2.rm
          show _ ≤ _
          omega
        clear DC0 hK2 hk2
        go_upto_region 14 with fail
        refine wp_region_list ?_
        (refine wpList_step (fun KK hKK => ?_); go_simp; refine hKK _ _ ?_; clear hKK KK)
        refine wpList_load28 rfl _ rfl q8 K _ _ _ rfl Z.out.1.x ?_
        refine wpList_load_row rfl 45 _ rfl W.heap.size rfl 45 _ (0, 0) _ Z.out.1.o Try.underlying45 rfl info45 ?_
        refine wpList_step (fun KK hKK => ?_)
        go_simp
        refine (DC.out _ Z.out.2 Z.out.1.r (Z.out.1.n.2.2.2.2.imp id (fun q => ⟨by have := N6.out; omega, by have := N6.out; omega⟩)) Z.out.1.b).mono ?_
        rintro e w8 ⟨v2, c2, d2, gc2, rfl, hf8, hr8, ht8, _, _, _⟩
        have Z8 : Hid (Ca W w8 #[.int .i64 z, .int .i64 n, .slice a dl c] fb g d q8 K (.slice va k vc) ∧ FifoAt w8 cb gc2 K2 ∧ RL w8 (.slice v2 k2 c2) d2 K2.l) := ⟨Z.out.1.two ht8 N6.out.1 N6.out.2.1, hf8, hr8⟩
        clear hf8 hr8 ht8 Z
        refine hKK _ _ ?_
        clear hKK KK
        (refine wpList_step (fun KK hKK => ?_); go_simp; refine hKK _ _ ?_; clear hKK KK)
        refine wpList_extract_at rfl _ _ _ _ rfl rfl rfl ?_
        refine wpList_extract_at rfl _ _ _ _ rfl rfl rfl ?_
        refine wpList_alloc_zero 28 zeroC 4 zinfo28 rfl rfl ?_
        refine wpList_store28 rfl _ _ rfl w8.heap.size K2 _ _ _ zeroC rfl rfl (Box.new 28 w8 _) rfl ?_
        intro W9 B9 U9
        have Z9 : Hid (Ca W W9 #[.int .i64 z, .int .i64 n, .slice a dl c] fb g d q8 K (.slice va k vc) ∧ FifoAt W9 cb gc2 K2 ∧ RL W9 (.slice v2 k2 c2) d2 K2.l ∧ Box 28 W9 w8.heap.size (fifoC K2 (.slice v2 k2 c2))) := by
          have b1 : Below w8.heap.size w8 (w8.alloc (.cells zeroC 28)) := (Below.refl _ _).alloc (Nat.le_refl _) _
          have b2 := b1.trans (U9.below (Nat.le_refl _) b1.size)
          exact ⟨Z8.out.1.step b2, Z8.out.2.1.step b2, Z8.out.2.2.step b2, B9⟩
        clear B9 U9 Z8
        generalize w8.heap.size = q9 at *
        go_upto_region 15 with fail
        have Xd : Hid (Ca W W9.drew #[.int .i64 z, .int .i64 n, .slice a dl c] fb g d q8 K (.slice va k vc) ∧ FifoAt W9.drew cb gc2 K2 ∧ RL W9.drew (.slice v2 k2 c2) d2 K2.l ∧ Box 28 W9.drew q9 (fifoC K2 (.slice v2 k2 c2))) := ⟨Z9.out.1.step (Below.drew (Below.refl _ _)), Z9.out.2.1.step (Below.drew (Below.refl _ _)), Z9.out.2.2.1.step (Below.drew (Below.refl _ _)), Z9.out.2.2.2.step (Below.drew (Below.refl _ _))⟩
        refine wp_region_held_drew (S := fun V => Box 28 V q8 (fifoC K (.slice va k vc)) ∧ Box 28 V q9 (fifoC K2 (.slice v2 k2 c2)) ∧ V.cell? ⟨q9, 0, none⟩ = some (.slice v2 k2 c2) ∧ V.cell? ⟨q8, 0, none⟩ = some (.slice va k vc)) (by kernel_rfl) ⟨Xd.out.1.x, Xd.out.2.2.2, Xd.out.2.2.2.cell 0 _ rfl, Xd.out.1.x.cell 0 _ rfl⟩ ?_
        intro hS
        clear Z9
        generalize W9.drew = Vd at *
        refine wpAnyH_take (i := 0) (v := ?_) rfl (by kernel_rfl) (by kernel_rfl) (by kernel_rfl) (fun _ _ _ h => h) (Or.inl ⟨by kernel_rfl, ?_⟩) hS ?_
        rotate_left
        · intro w hSw; (try dsimp only at hSw); go_simp; try (with_reducible rfl)
        (try simp only [Act.put, List.getElem_toArray, List.getElem_cons_succ, List.getElem_cons_zero, List.setIfInBounds_toArray, List.set_cons_zero, List.set_cons_succ])
        refine wpAnyH_take (i := 1) (v := ?_) rfl (by kernel_rfl) (by kernel_rfl) (by kernel_rfl) (fun _ _ _ h => h) (Or.inl ⟨by kernel_rfl, ?_⟩) hS ?_
        rotate_left
        · intro w hSw; (try dsimp only at hSw); go_simp; try (with_reducible rfl)
        (try simp only [Act.put, List.getElem_toArray, List.getElem_cons_succ, List.getElem_cons_zero, List.setIfInBounds_toArray, List.set_cons_zero, List.set_cons_succ])
        refine wpAnyH_take (i := 2) (v := ?_) rfl (by kernel_rfl) (by kernel_rfl) (by kernel_rfl) (fun _ _ _ h => h) (Or.inl ⟨by kernel_rfl, ?_⟩) hS ?_
        rotate_left
        · intro w hSw; (try dsimp only at hSw); go_simp; try (with_reducible rfl)
        (try simp only [Act.put, List.getElem_toArray, List.getElem_cons_succ, List.getElem_cons_zero, List.setIfInBounds_toArray, List.set_cons_zero, List.set_cons_succ])
        refine wpAnyH_take (i := 3) (v := .agg (fifoC K (.slice va k vc))) rfl (by kernel_rfl) (by kernel_rfl) (by kernel_rfl) (fun _ _ _ h => h) (Or.inl ⟨by kernel_rfl, fun V hV => yield28 hV.1 _ rfl rfl⟩) hS ?_
        (try simp only [Act.put, List.getElem_toArray, List.getElem_cons_succ, List.getElem_cons_zero, List.setIfInBounds_toArray, List.set_cons_zero, List.set_cons_succ])

        refine wpAnyH_ready (rs := [4]) (by kernel_rfl) (by simp) ?_
        refine AllReadyH.cons rfl (fun HH0 HH1 => ?_) AllReadyH.nil
        go_simp
        refine (SC.out _ _ _ Xd.out.1.f Xd.out.1.r).mono ?_
        rintro e w10 ⟨rfl, hb10⟩
        have X10 : Hid (Ca W w10 #[.int .i64 z, .int .i64 n, .slice a dl c] fb g d q8 K (.slice va k vc) ∧ FifoAt w10 cb gc2 K2 ∧ RL w10 (.slice v2 k2 c2) d2 K2.l ∧ Box 28 w10 q9 (fifoC K2 (.slice v2 k2 c2))) := ⟨Xd.out.1.step hb10, Xd.out.2.1.step hb10, Xd.out.2.2.1.step hb10, Xd.out.2.2.2.step hb10⟩
        clear hb10 Xd
        refine HH1.out _ _ ⟨X10.out.1.x, X10.out.2.2.2, X10.out.2.2.2.cell 0 _ rfl, X10.out.1.x.cell 0 _ rfl⟩ (fun hS1 => ?_)
        clear HH1 HH0 hS
        (try simp only [Act.put, List.getElem_toArray, List.getElem_cons_succ, List.getElem_cons_zero, List.setIfInBounds_toArray, List.set_cons_zero, List.set_cons_succ])
        refine wpAnyH_take (i := 5) (v := ?_) rfl (by kernel_rfl) (by kernel_rfl) (by kernel_rfl) (fun _ _ _ h => h) (Or.inl ⟨by kernel_rfl, ?_⟩) hS1 ?_
        rotate_left
        · intro w hSw; (try dsimp only at hSw); go_simp; try (with_reducible rfl)
        (try simp only [Act.put, List.getElem_toArray, List.getElem_cons_succ, List.getElem_cons_zero, List.setIfInBounds_toArray, List.set_cons_zero, List.set_cons_succ])
        refine wpAnyH_take (i := 6) (v := ?_) rfl (by kernel_rfl) (by kernel_rfl) (by kernel_rfl) (fun _ _ _ h => h) (Or.inl ⟨by kernel_rfl, ?_⟩) hS1 ?_
        rotate_left
        · intro w hSw; (try dsimp only at hSw); go_simp; try (with_reducible rfl)
        (try simp only [Act.put, List.getElem_toArray, List.getElem_cons_succ, List.getElem_cons_zero, List.setIfInBounds_toArray, List.set_cons_zero, List.set_cons_succ])
        refine wpAnyH_take (i := 7) (v := ?_) rfl (by kernel_rfl) (by kernel_rfl) (by kernel_rfl) (fun _ _ _ h => h) (Or.inl ⟨by kernel_rfl, ?_⟩) hS1 ?_
        rotate_left
        · intro w hSw; (try dsimp only at hSw); go_simp; try (with_reducible rfl)
        (try simp only [Act.put, List.getElem_toArray, List.getElem_cons_succ, List.getElem_cons_zero, List.setIfInBounds_toArray, List.set_cons_zero, List.set_cons_succ])
        refine wpAnyH_take (i := 8) (v := .agg (fifoC K2 (.slice v2 k2 c2))) rfl (by kernel_rfl) (by kernel_rfl) (by kernel_rfl) (fun _ _ _ h => h) (Or.inl ⟨by kernel_rfl, fun V hV => yield28 hV.2.1 _ rfl rfl⟩) hS1 ?_
        (try simp only [Act.put, List.getElem_toArray, List.getElem_cons_succ, List.getElem_cons_zero, List.setIfInBounds_toArray, List.set_cons_zero, List.set_cons_succ])

        refine wpAnyH_ready (rs := [9]) (by kernel_rfl) (by simp) ?_
        refine AllReadyH.cons rfl (fun HH0 HH1 => ?_) AllReadyH.nil
        go_simp
        refine (SC2.out _ _ _ _ _ X10.out.2.1 X10.out.2.2.1).mono ?_
        rintro e w11 ⟨rfl, hb11⟩
        have X11 : Hid (Ca W w11 #[.int .i64 z, .int .i64 n, .slice a dl c] fb g d q8 K (.slice va k vc) ∧ FifoAt w11 cb gc2 K2 ∧ RL w11 (.slice v2 k2 c2) d2 K2.l ∧ Box 28 w11 q9 (fifoC K2 (.slice v2 k2 c2))) := ⟨X10.out.1.step hb11, X10.out.2.1.step hb11, X10.out.2.2.1.step hb11, X10.out.2.2.2.step hb11⟩
        clear hb11 X10
        refine HH1.out _ _ ⟨X11.out.1.x, X11.out.2.2.2, X11.out.2.2.2.cell 0 _ rfl, X11.out.1.x.cell 0 _ rfl⟩ (fun hS2 => ?_)
        clear HH1 HH0 hS1
        (try simp only [Act.put, List.getElem_toArray, List.getElem_cons_succ, List.getElem_cons_zero, List.setIfInBounds_toArray, List.set_cons_zero, List.set_cons_succ])
        refine wpAnyH_take (i := 10) (v := ?_) rfl (by kernel_rfl) (by kernel_rfl) (by kernel_rfl) (fun _ _ _ h => h) (Or.inl ⟨by kernel_rfl, ?_⟩) hS2 ?_
        rotate_left
        · intro w hSw; (try dsimp only at hSw); go_simp; try (with_reducible rfl)
        (try simp only [Act.put, List.getElem_toArray, List.getElem_cons_succ, List.getElem_cons_zero, List.setIfInBounds_toArray, List.set_cons_zero, List.set_cons_succ])
        refine wpAnyH_take (i := 11) (v := ?_) rfl (by kernel_rfl) (by kernel_rfl) (by kernel_rfl) (fun _ _ _ h => h) (Or.inl ⟨by kernel_rfl, ?_⟩) hS2 ?_
        rotate_left
        · intro w hSw; (try dsimp only at hSw); go_simp; try (with_reducible rfl)
        (try simp only [Act.put, List.getElem_toArray, List.getElem_cons_succ, List.getElem_cons_zero, List.setIfInBounds_toArray, List.set_cons_zero, List.set_cons_succ])
        refine wpAnyH_take (i := 12) (v := ?_) rfl (by kernel_rfl) (by kernel_rfl) (by kernel_rfl) (fun _ _ _ h => h) (Or.inl ⟨by kernel_rfl, ?_⟩) hS2 ?_
        rotate_left
        · intro w hSw; (try dsimp only at hSw); go_simp; try (with_reducible rfl)
        (try simp only [Act.put, List.getElem_toArray, List.getElem_cons_succ, List.getElem_cons_zero, List.setIfInBounds_toArray, List.set_cons_zero, List.set_cons_succ])
        refine wpAnyH_take (i := 13) (v := ?_) rfl (by kernel_rfl) (by kernel_rfl) (by kernel_rfl) (fun _ _ _ h => h) (Or.inl ⟨by kernel_rfl, ?_⟩) hS2 ?_
        rotate_left
        · intro w hSw; (try dsimp only at hSw); go_simp; try (with_reducible rfl)
        (try simp only [Act.put, List.getElem_toArray, List.getElem_cons_succ, List.getElem_cons_zero, List.setIfInBounds_toArray, List.set_cons_zero, List.set_cons_succ])
        refine wpAnyH_take (i := 15) (v := ?_) rfl (by kernel_rfl) (by kernel_rfl) (by kernel_rfl) (fun _ _ _ h => h) (Or.inl ⟨by kernel_rfl, ?_⟩) hS2 ?_
        rotate_left
        · intro w hSw; (try dsimp only at hSw); go_simp; try (with_reducible rfl)
        (try simp only [Act.put, List.getElem_toArray, List.getElem_cons_succ, List.getElem_cons_zero, List.setIfInBounds_toArray, List.set_cons_zero, List.set_cons_succ])
        refine wpAnyH_take (i := 16) (v := ?_) rfl (by kernel_rfl) (by kernel_rfl) (by kernel_rfl) (fun _ _ _ h => h) (Or.inl ⟨by kernel_rfl, ?_⟩) hS2 ?_
        rotate_left
        · intro w hSw; (try dsimp only at hSw); go_simp; try (with_reducible rfl)
        (try simp only [Act.put, List.getElem_toArray, List.getElem_cons_succ, List.getElem_cons_zero, List.setIfInBounds_toArray, List.set_cons_zero, List.set_cons_succ])
        refine wpAnyH_take (i := 17) (v := ?_) rfl (by kernel_rfl) (by kernel_rfl) (by kernel_rfl) (fun _ _ _ h => h) (Or.inl ⟨by kernel_rfl, ?_⟩) hS2 ?_
        rotate_left
        · intro w hSw; (try dsimp only at hSw); go_simp; try (with_reducible rfl)
        (try simp only [Act.put, List.getElem_toArray, List.getElem_cons_succ, List.getElem_cons_zero, List.setIfInBounds_toArray, List.set_cons_zero, List.set_cons_succ])
        refine wpAnyH_take (i := 18) (v := ?_) rfl (by kernel_rfl) (by kernel_rfl) (by kernel_rfl) (fun _ _ _ h => h) (Or.inl ⟨by kernel_rfl, ?_⟩) hS2 ?_
        rotate_left
        · intro w hSw; (try dsimp only at hSw); go_simp; try (with_reducible rfl)
        (try simp only [Act.put, List.getElem_toArray, List.getElem_cons_succ, List.getElem_cons_zero, List.setIfInBounds_toArray, List.set_cons_zero, List.set_cons_succ])
        refine wpAnyH_ready (rs := [14]) (by kernel_rfl) (by simp) ?_
        refine AllReadyH.cons rfl (fun HH0 HH1 => ?_) AllReadyH.nil
        go_simp
        refine (same_any X11.out.2.1 X11.out.1.f).mono ?_
        rintro e wq ⟨rfl, hw⟩
        rw [hw]
        clear hw wq
        refine HH1.out _ _ ⟨X11.out.1.x, X11.out.2.2.2, X11.out.2.2.2.cell 0 _ rfl, X11.out.1.x.cell 0 _ rfl⟩ (fun hS3 => ?_)
        clear HH1 HH0 hS2
        (try simp only [Act.put, List.getElem_toArray, List.getElem_cons_succ, List.getElem_cons_zero, List.setIfInBounds_toArray, List.set_cons_zero, List.set_cons_succ])
        refine wpAnyH_ready (rs := [19]) (by kernel_rfl) (by simp) ?_
        refine AllReadyH.cons rfl (fun HH0 HH1 => ?_) AllReadyH.nil
        go_simp
        refine (bytes_any X11.out.2.2.1 X11.out.1.r HB2.out).mono ?_
        rintro e w12 ⟨rfl, hb12⟩
        have X12 : Hid (Ca W w12 #[.int .i64 z, .int .i64 n, .slice a dl c] fb g d q8 K (.slice va k vc) ∧ FifoAt w12 cb gc2 K2 ∧ RL w12 (.slice v2 k2 c2) d2 K2.l ∧ Box 28 w12 q9 (fifoC K2 (.slice v2 k2 c2))) := ⟨X11.out.1.step hb12, X11.out.2.1.step hb12, X11.out.2.2.1.step hb12, X11.out.2.2.2.step hb12⟩
        clear hb12 X11
        have hrr : (decide (K2.l = K.l) == decide (K2.l = K.l)) = true := by simp
        generalize decide (K2.l = K.l) = rb at *
        refine HH1.out _ _ ⟨X12.out.1.x, X12.out.2.2.2, X12.out.2.2.2.cell 0 _ rfl, X12.out.1.x.cell 0 _ rfl⟩ (fun hS4 => ?_)
        clear HH1 HH0 hS3
        (try simp only [Act.put, List.getElem_toArray, List.getElem_cons_succ, List.getElem_cons_zero, List.setIfInBounds_toArray, List.set_cons_zero, List.set_cons_succ])
        refine wpAnyH_take (i := 20) (v := ?_) rfl (by kernel_rfl) (by kernel_rfl) (by kernel_rfl) (fun _ _ _ h => h) (Or.inl ⟨by kernel_rfl, ?_⟩) hS4 ?_
        rotate_left
        · intro w hSw; (try dsimp only at hSw); go_simp; try (with_reducible rfl)
        (try simp only [Act.put, List.getElem_toArray, List.getElem_cons_succ, List.getElem_cons_zero, List.setIfInBounds_toArray, List.set_cons_zero, List.set_cons_succ])
        refine wpAnyH_take (i := 21) (v := ?_) rfl (by kernel_rfl) (by kernel_rfl) (by kernel_rfl) (fun _ _ _ h => h) (Or.inl ⟨by kernel_rfl, ?_⟩) hS4 ?_
        rotate_left
        · intro w hSw; (try dsimp only at hSw); go_simp; try (with_reducible rfl)
        (try simp only [Act.put, List.getElem_toArray, List.getElem_cons_succ, List.getElem_cons_zero, List.setIfInBounds_toArray, List.set_cons_zero, List.set_cons_succ])
        refine wpAnyH_take (i := 22) (v := ?_) rfl (by kernel_rfl) (by kernel_rfl) (by kernel_rfl) (fun _ _ _ h => h) (Or.inl ⟨by kernel_rfl, ?_⟩) hS4 ?_
        rotate_left
        · intro w hSw; (try dsimp only at hSw); go_simp; try (with_reducible rfl)
        (try simp only [Act.put, List.getElem_toArray, List.getElem_cons_succ, List.getElem_cons_zero, List.setIfInBounds_toArray, List.set_cons_zero, List.set_cons_succ])
        refine wpAnyH_done (by kernel_rfl) ?_ _
        clear hS4
        go_wp2_with fail
        go_ret
        exact ⟨rfl, X12.out.1.b⟩
end Go.Proofs.Ytjmgdhnjldimgaa
