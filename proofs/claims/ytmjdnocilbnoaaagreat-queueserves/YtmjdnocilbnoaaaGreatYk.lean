/- Texts put together. -/
import Derived.Test.YtmjdnocilbnoaaaGreatYj
import Derived.Test.YtmjdnocilbnoaaaGreatYh
/- The queue: Serve. -/
namespace Go.Proofs.YtmjdnocilbnoaaaGreat
open Go.RowKit Go.Maps
set_option linter.unusedVariables false
set_option linter.unusedSimpArgs false
set_option maxRecDepth 100000
section
variable {σ : Type} {I : σ → (Nat → Prop) → World → Prop} {bud : σ → Nat} {rb qb df : Nat} {cap : Array Value} {dev : σ → (Nat → Nat) → Nat → Cn → Option (σ × (Nat → Nat) × Nat)}
theorem give_le {s : Int} {D A U : Nat} {rd al : Bool} : ∀ (k : Nat) (t : σ) (M : Nat → Nat) (fe us : Nat), fe ≤ 65535 → us ≤ 65535 → (giveR dev s D A U rd al k t M fe us).fe ≤ 65535 ∧ (giveR dev s D A U rd al k t M fe us).us ≤ 65535 := by
  intro k
  induction k with
  | zero => intro t M fe us h1 h2; exact ⟨h1, h2⟩
  | succ k ih =>
    intro t M fe us h1 h2
    obtain ⟨ft, hft⟩ : ∃ ft, fetchR M s D A U rd fe al = ft := ⟨_, rfl⟩
    cases ft with
    | non e => rw [give_non hft]; exact ⟨h1, h2⟩
    | got h c =>
      by_cases hz : c.e = 0
      case neg => rw [give_err hft hz]; exact ⟨up_le _, h2⟩
      case pos =>
        obtain ⟨dv, hdv⟩ : ∃ dv, dev t M h c = dv := ⟨_, rfl⟩
        cases dv with
        | none => rw [give_stay hft hz hdv]; exact ⟨h1, h2⟩
        | some tr =>
          obtain ⟨t', M', cnt⟩ := tr
          rw [give_more hft hz hdv]
          exact ih _ _ _ _ (up_le _) (up_le _)
theorem serve_off {w : World} {s : Int} {D A U : Nat} {ev al : Bool} {fe us : Nat} (hq : w.heap[qb]? = some (.cells #[.int .i64 s, .int .u64 (D : Int), .int .u64 (A : Int), .int .u64 (U : Int), .bool false, .int .u16 (fe : Int), .int .u16 (us : Int), .bool ev, .bool al] 40 (0, 0))) (v : Value) (m : Value) : Calls Tryz.prog 32 #[.pointer (some ⟨qb, 0, none⟩), m, v] w fun e w' => e = .returned (.tuple #[.bool false, .int .i64 0]) ∧ w' = w := by
  have HQ : Hid (w.heap[qb]? = some (.cells #[.int .i64 s, .int .u64 (D : Int), .int .u64 (A : Int), .int .u64 (U : Int), .bool false, .int .u16 (fe : Int), .int .u16 (us : Int), .bool ev, .bool al] 40 (0, 0))) := hq
  clear hq
  go_enter Tryz.func32, Tryz.ntmps32
  go_wp2_with (go_at_call 42; refine (ready_any HQ.out).mono ?_; rintro e w1 ⟨rfl, rfl⟩)
  go_ret2
  exact ⟨rfl, rfl⟩
theorem serve_bad (hd : Dvc rb df cap dev bud I) {s : Int} {D A U : Nat} {ev al : Bool} (hD : D < 18446744073709551616) (hA : A < 18446744073709551616) (hU : U < 18446744073709551616) {w0 : World} {F0 O0 : Nat → Prop} {t0 : σ} {M0 : Nat → Nat} {fe0 us0 κ0 : Nat} (hfe : fe0 ≤ 65535) (hus : us0 ≤ 65535) (h0 : Gl I bud rb qb s D A U true ev al w0 F0 O0 w0 t0 M0 fe0 us0 F0 O0 κ0) (hc : chkN s D A U 8192 ≠ 0) :
    Calls Tryz.prog 32 #[.pointer (some ⟨qb, 0, none⟩), .pointer (some ⟨rb, 0, none⟩), .func (.func df) #[] cap] w0 fun e w' => e = .returned (.tuple #[.bool false, .int .i64 (chkN s D A U 8192)]) ∧ Gend I rb qb s D A U true ev al w0 F0 O0 ⟨t0, M0, fe0, us0, chkN s D A U 8192⟩ w' := by
  obtain ⟨ce, hce⟩ : ∃ ce, chkN s D A U 8192 = ce := ⟨_, rfl⟩
  have hR : giveR dev s D A U true al 65537 t0 M0 fe0 us0 = ⟨t0, M0, fe0, us0, ce⟩ := by rw [give_non (fetch_bad hc), hce]
  have KG : Hid (Calls Tryz.prog 72 #[.pointer (some ⟨qb, 0, none⟩), .pointer (some ⟨rb, 0, none⟩), .func (.func df) #[] cap] w0 fun e w' => e = .returned (.int .i64 ce) ∧ Gend I rb qb s D A U true ev al w0 F0 O0 ⟨t0, M0, fe0, us0, ce⟩ w') := give_any hd hD hA hU hfe hus h0 _ hR
  have HQ : Hid (w0.heap[qb]? = some (.cells #[.int .i64 s, .int .u64 (D : Int), .int .u64 (A : Int), .int .u64 (U : Int), .bool true, .int .u16 (fe0 : Int), .int .u16 (us0 : Int), .bool ev, .bool al] 40 (0, 0)) ∧ D < 18446744073709551616 ∧ A < 18446744073709551616 ∧ U < 18446744073709551616 ∧ chkN s D A U 8192 ≠ 0 ∧ Dvc rb df cap dev bud I) := ⟨h0.2.1, hD, hA, hU, hc, hd⟩
  obtain ⟨f0, f1, f2, f3, f4, f5, f6, f7, f8⟩ := box9_facts h0.2.1
  have q1 : (ce == 0) = false := by rw [← hce]; simpa using hc
  rw [hce]
  clear hd hD hA hU h0 hR hfe hus hc hce
  go_enter Tryz.func32, Tryz.ntmps32
  go_wp2_with (first | (go_at_call 42; refine (ready_any HQ.out.1).mono ?_; rintro e w1 ⟨rfl, rfl⟩) | (go_at_call 72; refine (KG.out).mono ?_; rintro e w2 ⟨rfl, F, O, κ, hr, hq, hi, hO, hn, hk, hs⟩; have X2 : Hid (RamAt w2 F rb 8192 κ (.pointer none) M0 ∧ w2.heap[qb]? = some (.cells #[.int .i64 s, .int .u64 (D : Int), .int .u64 (A : Int), .int .u64 (U : Int), .bool true, .int .u16 (fe0 : Int), .int .u16 (us0 : Int), .bool ev, .bool al] 40 (0, 0)) ∧ I t0 O w2 ∧ (∀ k, O k → ¬ F k ∧ k ≠ qb) ∧ ¬ F qb ∧ κ ≤ 900000 ∧ Step (fun k => (F0 k ∨ O0 k) ∨ k = qb) w1 (fun k => (F k ∨ O k) ∨ k = qb) w2) := ⟨hr, hq, hi, hO, hn, hk, hs⟩; clear hr hq hi hO hn hk hs f0 f1 f2 f3 f4 f5 f6 f7 f8; obtain ⟨f0, f1, f2, f3, f4, f5, f6, f7, f8⟩ := box9_facts X2.out.2.1) | (go_at_call 23; refine (tells_bad X2.out.1 X2.out.2.1 HQ.out.2.1 HQ.out.2.2.1 HQ.out.2.2.2.1 HQ.out.2.2.2.2.1 _).mono ?_; rintro e w3 ⟨rfl, hb3⟩; have X3 : Hid (Below w2.heap.size w2 w3) := hb3; clear hb3))
  go_ret2
  refine ⟨rfl, ?_⟩
  obtain ⟨h1, h2, h3, h4, h5, h6, h7⟩ := X2.out
  exact ⟨F, O, κ, h1.below X3.out, below_box h2 X3.out, HQ.out.2.2.2.2.2.kept h3 X3.out.size (fun k hk => X3.out.block k (HQ.out.2.2.2.2.2.lt h3 k hk)), h4, h5, h6, h7.trans (Step.of_below X3.out)⟩
def endM (R : Gv σ) (n U : Nat) (ev : Bool) : Nat → Nat := if R.e = 0 then askM R.M n U R.fe ev else R.M
/-- what Serve leaves -/
def Send (I : σ → (Nat → Prop) → World → Prop) (rb qb : Nat) (n : Nat) (D A U : Nat) (ev al : Bool) (w0 : World) (F0 O0 : Nat → Prop) (R : Gv σ) (w' : World) : Prop := ∃ (F O : Nat → Prop) (κ : Nat), RamAt w' F rb 8192 κ (.pointer none) (endM R n U ev) ∧ w'.heap[qb]? = some (.cells #[.int .i64 (n : Int), .int .u64 (D : Int), .int .u64 (A : Int), .int .u64 (U : Int), .bool true, .int .u16 (R.fe : Int), .int .u16 (R.us : Int), .bool ev, .bool al] 40 (0, 0)) ∧ I R.s O w' ∧ (∀ k, O k → ¬ F k ∧ k ≠ qb) ∧ ¬ F qb ∧ κ ≤ 900002 ∧ Step (fun k => (F0 k ∨ O0 k) ∨ k = qb) w0 (fun k => (F k ∨ O k) ∨ k = qb) w'
set_option maxHeartbeats 2000000 in
theorem serve_any (hd : Dvc rb df cap dev bud I) {n D A U : Nat} {ev al : Bool} (hg : Gd n D A U) {w0 : World} {F0 O0 : Nat → Prop} {t0 : σ} {M0 : Nat → Nat} {fe0 us0 κ0 : Nat} (hfe : fe0 ≤ 65535) (hus : us0 ≤ 65535) (h0 : Gl I bud rb qb (n : Int) D A U true ev al w0 F0 O0 w0 t0 M0 fe0 us0 F0 O0 κ0) (R : Gv σ) (hR : giveR dev (n : Int) D A U true al 65537 t0 M0 fe0 us0 = R) :
    Calls Tryz.prog 32 #[.pointer (some ⟨qb, 0, none⟩), .pointer (some ⟨rb, 0, none⟩), .func (.func df) #[] cap] w0 fun e w' => e = .returned (.tuple #[.bool (tellB (endM R n U ev) n A R.us us0 ev), .int .i64 R.e]) ∧ Send I rb qb n D A U ev al w0 F0 O0 R w' := by
  have KG : Hid (Calls Tryz.prog 72 #[.pointer (some ⟨qb, 0, none⟩), .pointer (some ⟨rb, 0, none⟩), .func (.func df) #[] cap] w0 fun e w' => e = .returned (.int .i64 R.e) ∧ Gend I rb qb (n : Int) D A U true ev al w0 F0 O0 R w') := give_any hd (gd_bounds hg).1 (gd_bounds hg).2.1 (gd_bounds hg).2.2 hfe hus h0 R hR
  have hle := give_le (dev := dev) (s := (n : Int)) (D := D) (A := A) (U := U) (rd := true) (al := al) 65537 t0 M0 fe0 us0 hfe hus
  rw [hR] at hle
  have HQ : Hid (w0.heap[qb]? = some (.cells #[.int .i64 (n : Int), .int .u64 (D : Int), .int .u64 (A : Int), .int .u64 (U : Int), .bool true, .int .u16 (fe0 : Int), .int .u16 (us0 : Int), .bool ev, .bool al] 40 (0, 0)) ∧ Gd n D A U ∧ us0 ≤ 65535 ∧ R.fe ≤ 65535 ∧ R.us ≤ 65535 ∧ Dvc rb df cap dev bud I) := ⟨h0.2.1, hg, hus, hle.1, hle.2, hd⟩
  obtain ⟨f0, f1, f2, f3, f4, f5, f6, f7, f8⟩ := box9_facts h0.2.1
  clear hd hg h0 hR hfe hus hle
  obtain ⟨t, M, fe, us, re⟩ := R
  have CALLG : Hid (Calls Tryz.prog 72 #[.pointer (some ⟨qb, 0, none⟩), .pointer (some ⟨rb, 0, none⟩), .func (.func df) #[] cap] w0 fun e w' => e = .returned (.int .i64 re) ∧ ∃ (F O : Nat → Prop) (κ : Nat), RamAt w' F rb 8192 κ (.pointer none) M ∧ w'.heap[qb]? = some (.cells #[.int .i64 (n : Int), .int .u64 (D : Int), .int .u64 (A : Int), .int .u64 (U : Int), .bool true, .int .u16 (fe : Int), .int .u16 (us : Int), .bool ev, .bool al] 40 (0, 0)) ∧ I t O w' ∧ (∀ k, O k → ¬ F k ∧ k ≠ qb) ∧ ¬ F qb ∧ κ ≤ 900000 ∧ Step (fun k => (F0 k ∨ O0 k) ∨ k = qb) w0 (fun k => (F k ∨ O k) ∨ k = qb) w') := KG.out
  clear KG
  by_cases hz : re = 0
  case neg =>
    have q1 : (re == 0) = false := by simpa using hz
    have HM : Hid (endM ⟨t, M, fe, us, re⟩ n U ev = M) := if_neg hz
    clear hz
    go_enter Tryz.func32, Tryz.ntmps32
    go_wp2_with (first | (go_at_call 42; refine (ready_any HQ.out.1).mono ?_; rintro e w1 ⟨rfl, rfl⟩) | (go_at_call 72; refine (CALLG.out).mono ?_; rintro e w2 ⟨rfl, F, O, κ, hr, hq, hi, hO, hn, hk, hs⟩; have X2 : Hid (RamAt w2 F rb 8192 κ (.pointer none) M ∧ w2.heap[qb]? = some (.cells #[.int .i64 (n : Int), .int .u64 (D : Int), .int .u64 (A : Int), .int .u64 (U : Int), .bool true, .int .u16 (fe : Int), .int .u16 (us : Int), .bool ev, .bool al] 40 (0, 0)) ∧ I t O w2 ∧ (∀ k, O k → ¬ F k ∧ k ≠ qb) ∧ ¬ F qb ∧ κ ≤ 900000 ∧ Step (fun k => (F0 k ∨ O0 k) ∨ k = qb) w1 (fun k => (F k ∨ O k) ∨ k = qb) w2) := ⟨hr, hq, hi, hO, hn, hk, hs⟩; clear hr hq hi hO hn hk hs f0 f1 f2 f3 f4 f5 f6 f7 f8; obtain ⟨f0, f1, f2, f3, f4, f5, f6, f7, f8⟩ := box9_facts X2.out.2.1) | (go_at_call 23; refine (tells_any X2.out.1 X2.out.2.1 HQ.out.2.1 us0 HQ.out.2.2.1 HQ.out.2.2.2.2.1).mono ?_; rintro e w3 ⟨rfl, hb3⟩; have X3 : Hid (Below w2.heap.size w2 w3) := hb3; clear hb3))
    go_ret2
    refine ⟨by rw [HM.out]; rfl, ?_⟩
    obtain ⟨h1, h2, h3, h4, h5, h6, h7⟩ := X2.out
    refine ⟨F, O, κ, ?_, below_box h2 X3.out, HQ.out.2.2.2.2.2.kept h3 X3.out.size (fun k hk => X3.out.block k (HQ.out.2.2.2.2.2.lt h3 k hk)), h4, h5, by omega, h7.trans (Step.of_below X3.out)⟩
    rw [HM.out]
    exact h1.below X3.out
  subst hz
  have HM : Hid (endM ⟨t, M, fe, us, 0⟩ n U ev = askM M n U fe ev) := if_pos rfl
  go_enter Tryz.func32, Tryz.ntmps32
  go_wp2_with (first | (go_at_call 42; refine (ready_any HQ.out.1).mono ?_; rintro e w1 ⟨rfl, rfl⟩) | (go_at_call 72; refine (CALLG.out).mono ?_; rintro e w2 ⟨rfl, F, O, κ, hr, hq, hi, hO, hn, hk, hs⟩; have X2 : Hid (RamAt w2 F rb 8192 κ (.pointer none) M ∧ w2.heap[qb]? = some (.cells #[.int .i64 (n : Int), .int .u64 (D : Int), .int .u64 (A : Int), .int .u64 (U : Int), .bool true, .int .u16 (fe : Int), .int .u16 (us : Int), .bool ev, .bool al] 40 (0, 0)) ∧ I t O w2 ∧ (∀ k, O k → ¬ F k ∧ k ≠ qb) ∧ ¬ F qb ∧ κ ≤ 900000 ∧ Step (fun k => (F0 k ∨ O0 k) ∨ k = qb) w1 (fun k => (F k ∨ O k) ∨ k = qb) w2) := ⟨hr, hq, hi, hO, hn, hk, hs⟩; clear hr hq hi hO hn hk hs f0 f1 f2 f3 f4 f5 f6 f7 f8; obtain ⟨f0, f1, f2, f3, f4, f5, f6, f7, f8⟩ := box9_facts X2.out.2.1) | (go_at_call 25; refine (ask_any X2.out.1 X2.out.2.1 HQ.out.2.1 X2.out.2.2.2.2.1 HQ.out.2.2.2.1 (by have := X2.out.2.2.2.2.2.1; omega)).mono ?_; rintro e w3 ⟨rfl, F3, hr3, hs3⟩; have X3 : Hid (RamAt w3 F3 rb 8192 (κ + 2) (.pointer none) (askM M n U fe ev) ∧ Step F w2 F3 w3 ∧ w3.heap[qb]? = some (.cells #[.int .i64 (n : Int), .int .u64 (D : Int), .int .u64 (A : Int), .int .u64 (U : Int), .bool true, .int .u16 (fe : Int), .int .u16 (us : Int), .bool ev, .bool al] 40 (0, 0))) := ⟨hr3, hs3, step_box hs3 X2.out.2.1 X2.out.2.2.2.2.1⟩; clear hr3 hs3) | (go_at_call 23; refine (tells_any X3.out.1 X3.out.2.2 HQ.out.2.1 us0 HQ.out.2.2.1 HQ.out.2.2.2.2.1).mono ?_; rintro e w4 ⟨rfl, hb4⟩; have X4 : Hid (Below w3.heap.size w3 w4) := hb4; clear hb4))
  go_ret2
  refine ⟨by rw [HM.out]; rfl, ?_⟩
  obtain ⟨h1, h2, h3, h4, h5, h6, h7⟩ := X2.out
  obtain ⟨g1, g2, g3⟩ := X3.out
  have hlt := fun k hk => HQ.out.2.2.2.2.2.lt h3 k hk
  have hqlt := (Array.getElem?_eq_some_iff.1 h2).1
  have i3 := HQ.out.2.2.2.2.2.kept h3 g2.size (fun k hk => g2.block k (hlt k hk) (h4 k hk).1)
  refine ⟨F3, O, κ + 2, ?_, below_box g3 X4.out, HQ.out.2.2.2.2.2.kept i3 X4.out.size (fun k hk => X4.out.block k (HQ.out.2.2.2.2.2.lt i3 k hk)), fun k hk => ⟨not_later g2 (hlt k hk) (h4 k hk).1, (h4 k hk).2⟩, not_later g2 hqlt h5, by omega, (h7.trans ?_).trans (Step.of_below X4.out)⟩
  · rw [HM.out]
    exact g1.below X4.out
  · exact step_or (step_or g2 (fun k hk => hlt k hk)) (fun k hk => by omega)
end
end Go.Proofs.YtmjdnocilbnoaaaGreat

/- The statements' device: it writes a byte to all that is to be written. -/
namespace Go.Proofs.YtmjdnocilbnoaaaGreat
open Go.RowKit Go.Maps
set_option linter.unusedVariables false
set_option linter.unusedSimpArgs false
set_option maxRecDepth 100000
/-- how the device's state lies: its own three boxes -/
def If (rb b ro mo bo : Nat) (t : Nat) (O : Nat → Prop) (w : World) : Prop := O = (fun k => k = ro ∨ k = mo ∨ k = bo) ∧ w.heap[ro]? = some (.cells #[.int .i64 (t : Int)] 3 (0, 0)) ∧ w.heap[mo]? = some (.cells #[.pointer (some ⟨rb, 0, none⟩)] 30 (0, 0)) ∧ w.heap[bo]? = some (.cells #[.int .u8 (b : Int)] 5 (0, 0)) ∧ ro ≠ mo ∧ ro ≠ bo ∧ t ≤ 40
def budF (t : Nat) : Nat := 4010 * t
theorem dev_no {b t : Nat} {M : Nat → Nat} {h : Nat} {c : Cn} (hn : devF b t M h c = none) : t = 0 := by
  unfold devF at hn
  by_cases h0 : t = 0
  · exact h0
  · rw [if_neg h0] at hn; cases hn
theorem dev_yes {b t : Nat} {M : Nat → Nat} {h : Nat} {c : Cn} {t' : Nat} {M' : Nat → Nat} {n : Nat} (hn : devF b t M h c = some (t', M', n)) : t ≠ 0 ∧ t' = t - 1 ∧ M' = fillM b c.l M ∧ n = cntN c.l := by
  unfold devF at hn
  by_cases h0 : t = 0
  · rw [if_pos h0] at hn; cases hn
  · rw [if_neg h0] at hn
    simp only [Option.some.injEq, Prod.mk.injEq] at hn
    exact ⟨h0, hn.1.symm, hn.2.1.symm, hn.2.2.symm⟩
theorem less_wrap (t : Nat) (h : t ≤ 40) (h0 : t ≠ 0) : wrap64 ((t : Int) - 1) = ((t - 1 : Nat) : Int) := by unfold wrap64; omega
theorem cnt_le (l : List Seg) : cntN l ≤ 4294967295 := by unfold cntN; split <;> omega
theorem dev_serve (rb b ro mo bo : Nat) (hb : b ≤ 255) : Dvc rb 33 #[.pointer (some ⟨ro, 0, none⟩), .pointer (some ⟨mo, 0, none⟩), .pointer (some ⟨bo, 0, none⟩)] (devF b) budF (If rb b ro mo bo) where
  cf := fun args V => by simp [go_sem]
  lt := by
    rintro t O w ⟨rfl, h1, h2, h3, _⟩ k (rfl | rfl | rfl)
    · exact (Array.getElem?_eq_some_iff.1 h1).1
    · exact (Array.getElem?_eq_some_iff.1 h2).1
    · exact (Array.getElem?_eq_some_iff.1 h3).1
  kept := by
    rintro t O w w' ⟨rfl, h1, h2, h3, h4⟩ _ hk
    exact ⟨rfl, (hk ro (.inl rfl)).trans h1, (hk mo (.inr (.inl rfl))).trans h2, (hk bo (.inr (.inr rfl))).trans h3, h4⟩
  le := by
    intro t M h c t' M' n hn _
    rw [(dev_yes hn).2.2.2]
    exact cnt_le _
  no := by
    intro t M h c F O κ w a cc hn hr hi hO hs
    have h0 := dev_no hn
    subst h0
    obtain ⟨rfl, h1, h2, h3, _⟩ := hi
    obtain ⟨L, hL⟩ : ∃ L, c.l.length = L := ⟨_, rfl⟩
    rw [hL]
    generalize c.ta = ta
    generalize c.tl = tl
    have XB : Hid (Below w.heap.size w (w.alloc (.cells #[.slice a L cc, .int .u64 (ta : Int), .int .u64 (tl : Int)] 59)) ∧ (w.alloc (.cells #[.slice a L cc, .int .u64 (ta : Int), .int .u64 (tl : Int)] 59)).heap[ro]? = some (.cells #[.int .i64 ((0 : Nat) : Int)] 3 (0, 0))) := ⟨one_box _ _, below_box h1 (one_box _ _)⟩
    clear h1 h2 h3 hn hr hO hs hL
    show Calls Tryz.prog 33 #[.agg #[.slice a L cc, .int .u64 (ta : Int), .int .u64 (tl : Int)], .pointer (some ⟨ro, 0, none⟩), .pointer (some ⟨mo, 0, none⟩), .pointer (some ⟨bo, 0, none⟩)] w _
    go_enter Tryz.func33, Tryz.ntmps33
    go_upto_region 1 with fail
    generalize w.alloc (.cells #[.slice a L cc, .int .u64 (ta : Int), .int .u64 (tl : Int)] 59) = v0 at *
    obtain ⟨r0, r1⟩ := box1_facts XB.out.2
    go_wp2_with fail
    go_ret2
    exact ⟨rfl, XB.out.1⟩
  yes := by
    intro t M h c F O κ w a cc t' M' n hn hr hκ hi hO hs hg hl hok
    obtain ⟨h0, rfl, rfl, rfl⟩ := dev_yes hn
    obtain ⟨rfl, h1, h2, h3, hne1, hne2, ht⟩ := hi
    have hw := less_wrap t ht h0
    have hz : ((t : Int) == 0) = false := by simp; omega
    have HX : Hid (t - 1 ≤ 40 ∧ ro ≠ mo ∧ ro ≠ bo ∧ ¬ F ro ∧ ¬ F mo ∧ ¬ F bo ∧ κ + 4010 * t ≤ 900000 ∧ t - 1 + 1 = t) := ⟨by omega, hne1, hne2, hO ro (.inl rfl), hO mo (.inr (.inl rfl)), hO bo (.inr (.inr rfl)), hκ, by omega⟩
    obtain ⟨t1, ht1⟩ : ∃ t1, t - 1 = t1 := ⟨_, rfl⟩
    rw [ht1] at hw HX ⊢
    obtain ⟨L, hL⟩ : ∃ L, c.l.length = L := ⟨_, rfl⟩
    have HL : Hid (c.l.length = L) := hL
    rw [hL] at hs hg ⊢
    generalize c.ta = ta
    generalize c.tl = tl
    have hbx : Below w.heap.size w (w.alloc (.cells #[.slice a L cc, .int .u64 (ta : Int), .int .u64 (tl : Int)] 59)) := one_box _ _
    have XB : Hid (Below w.heap.size w (w.alloc (.cells #[.slice a L cc, .int .u64 (ta : Int), .int .u64 (tl : Int)] 59)) ∧ (w.alloc (.cells #[.slice a L cc, .int .u64 (ta : Int), .int .u64 (tl : Int)] 59)).heap[ro]? = some (.cells #[.int .i64 (t : Int)] 3 (0, 0)) ∧ (w.alloc (.cells #[.slice a L cc, .int .u64 (ta : Int), .int .u64 (tl : Int)] 59)).heap[mo]? = some (.cells #[.pointer (some ⟨rb, 0, none⟩)] 30 (0, 0)) ∧ (w.alloc (.cells #[.slice a L cc, .int .u64 (ta : Int), .int .u64 (tl : Int)] 59)).heap[bo]? = some (.cells #[.int .u8 (b : Int)] 5 (0, 0)) ∧ (w.alloc (.cells #[.slice a L cc, .int .u64 (ta : Int), .int .u64 (tl : Int)] 59)).heap[w.heap.size]? = some (.cells #[.slice a L cc, .int .u64 (ta : Int), .int .u64 (tl : Int)] 59 (0, 0)) ∧ RamAt (w.alloc (.cells #[.slice a L cc, .int .u64 (ta : Int), .int .u64 (tl : Int)] 59)) F rb 8192 κ (.pointer none) M ∧ SegIn 0 (w.alloc (.cells #[.slice a L cc, .int .u64 (ta : Int), .int .u64 (tl : Int)] 59)) (.slice a L cc) c.l ∧ ro < w.heap.size) := ⟨hbx, below_box h1 hbx, below_box h2 hbx, below_box h3 hbx, heap_alloc_new _ _, hr.below hbx, hs.kept (fun g hg => hbx.block g (hs.lt g hg).2), (Array.getElem?_eq_some_iff.1 h1).1⟩
    have HS : Hid ((∀ g, (Value.slice a L cc).ownBlock = some g → g ≠ ro) ∧ c.l.length ≤ 1000 ∧ ∀ s ∈ c.l, SegOk s) := ⟨fun g hg' e => (hg g hg').2 (.inl e), hl, hok⟩
    clear h1 h2 h3 hn hr hO hs hL hbx hg hl hok hκ ht h0 ht1
    show Calls Tryz.prog 33 #[.agg #[.slice a L cc, .int .u64 (ta : Int), .int .u64 (tl : Int)], .pointer (some ⟨ro, 0, none⟩), .pointer (some ⟨mo, 0, none⟩), .pointer (some ⟨bo, 0, none⟩)] w _
    go_enter Tryz.func33, Tryz.ntmps33
    go_upto_region 1 with fail
    generalize w.alloc (.cells #[.slice a L cc, .int .u64 (ta : Int), .int .u64 (tl : Int)] 59) = v0 at *
    obtain ⟨r0, r1⟩ := box1_facts XB.out.2.1
    go_upto_region 4 with fail
    have X1 : Hid ((v0.setCell ⟨ro, 0, none⟩ (.int .i64 (t1 : Int))).heap[ro]? = some (.cells #[.int .i64 (t1 : Int)] 3 (0, 0)) ∧ (v0.setCell ⟨ro, 0, none⟩ (.int .i64 (t1 : Int))).heap[mo]? = some (.cells #[.pointer (some ⟨rb, 0, none⟩)] 30 (0, 0)) ∧ (v0.setCell ⟨ro, 0, none⟩ (.int .i64 (t1 : Int))).heap[bo]? = some (.cells #[.int .u8 (b : Int)] 5 (0, 0)) ∧ (v0.setCell ⟨ro, 0, none⟩ (.int .i64 (t1 : Int))).heap[w.heap.size]? = some (.cells #[.slice a L cc, .int .u64 (ta : Int), .int .u64 (tl : Int)] 59 (0, 0)) ∧ RamAt (v0.setCell ⟨ro, 0, none⟩ (.int .i64 (t1 : Int))) F rb 8192 κ (.pointer none) M ∧ SegIn 0 (v0.setCell ⟨ro, 0, none⟩ (.int .i64 (t1 : Int))) (.slice a L cc) c.l ∧ Step (fun k => F k ∨ (k = ro ∨ k = mo ∨ k = bo)) w (fun k => F k ∨ (k = ro ∨ k = mo ∨ k = bo)) (v0.setCell ⟨ro, 0, none⟩ (.int .i64 (t1 : Int)))) := by
      obtain ⟨x1, x2, x3, x4, x5, x6, x7, x8⟩ := XB.out
      obtain ⟨y1, y2, y3, y4, y5, y6, y7⟩ := HX.out
      refine ⟨set_box x2 0 _, (heap_setCell _ _ _ _ _ (fun e => y2 e.symm)).trans x3, (heap_setCell _ _ _ _ _ (fun e => y3 e.symm)).trans x4, (heap_setCell _ _ _ _ _ (by omega)).trans x5, x6.setCell y4 _ _, x7.kept (fun g hg => heap_setCell _ _ _ _ _ (HS.out.1 g hg)), (Step.of_below x1).trans ?_⟩
      have := step_set v0 ro 0 (.int .i64 (t1 : Int))
      exact ⟨this.os, this.tape, this.output, this.size, fun k hk hn => this.block k hk (fun e => hn (.inr (.inl e))), fun k hk => .inl hk, fun k hk => hk⟩
    clear XB r0 r1
    generalize v0.setCell ⟨ro, 0, none⟩ (.int .i64 (t1 : Int)) = w1 at *
    obtain ⟨m0, m1⟩ := box1_facts X1.out.2.1
    obtain ⟨n0, n1⟩ := box1_facts X1.out.2.2.1
    obtain ⟨p0, p1, p2⟩ := box3_facts X1.out.2.2.2.1
    go_wp2_with (go_at_call 34; refine (fill_any X1.out.2.2.2.2.1 (by have := HX.out; omega) X1.out.2.2.2.2.2.1 HS.out.2.1 HS.out.2.2 ta tl b hb).mono ?_; rintro e w2 ⟨rfl, F2, hr2, hs2⟩; have X2 : Hid (RamAt w2 F2 rb 8192 (κ + 4000) (.pointer none) (fillM b c.l M) ∧ Step F w1 F2 w2) := ⟨hr2, hs2⟩; clear hr2 hs2)
    go_ret2
    obtain ⟨y1, y2, y3, y4, y5, y6, y7, y8⟩ := HX.out
    obtain ⟨x1, x2, x3, x4, x5, x6, x7⟩ := X1.out
    obtain ⟨z1, z2⟩ := X2.out
    have l1 := (Array.getElem?_eq_some_iff.1 x1).1
    have l2 := (Array.getElem?_eq_some_iff.1 x2).1
    have l3 := (Array.getElem?_eq_some_iff.1 x3).1
    refine ⟨rfl, F2, fun k => k = ro ∨ k = mo ∨ k = bo, κ + 4000, z1, ⟨rfl, step_box z2 x1 y4, step_box z2 x2 y5, step_box z2 x3 y6, y2, y3, y1⟩, ?_, x7.trans (step_or z2 ?_), ?_⟩
    · rintro k (rfl | rfl | rfl)
      · exact not_later z2 l1 y4
      · exact not_later z2 l2 y5
      · exact not_later z2 l3 y6
    · rintro k (rfl | rfl | rfl)
      · exact l1
      · exact l2
      · exact l3
    · unfold budF; omega
end Go.Proofs.YtmjdnocilbnoaaaGreat

/- The statements' serve. -/
namespace Go.Proofs.YtmjdnocilbnoaaaGreat
open Go.RowKit Go.Maps
set_option linter.unusedVariables false
set_option linter.unusedSimpArgs false
set_option maxRecDepth 100000
theorem RamAt.more {w : World} {F G : Nat → Prop} {rb size n : Nat} {lg : Value} {M : Nat → Nat} (h : RamAt w F rb size n lg M) (hG : ∀ k, F k → G k) (hl : ∀ k, G k → k < w.heap.size) : RamAt w G rb size n lg M := by
  obtain ⟨bm, pg, D, h1, h2, h3, h4, h5, h6, f1, f2, f3, f4, h7⟩ := h
  exact ⟨bm, pg, D, h1, h2, h3, h4, h5, h6, hG _ f1, hG _ f2, fun k b hk => hG _ (f3 k b hk), hl, h7⟩
/-- behind the device's own boxes -/
theorem serve_end {w v0 w' : World} {F F' O O' : Nat → Prop} {qb : Nat} (hb : Below w.heap.size w v0) (hO : ∀ k, O k → w.heap.size ≤ k) (hs : Step (fun k => (F k ∨ O k) ∨ k = qb) v0 (fun k => (F' k ∨ O' k) ∨ k = qb) w') : Step (fun k => F k ∨ k = qb) w (fun k => (F' k ∨ O' k) ∨ k = qb) w' :=
  ⟨hs.os.trans hb.os, hs.tape.trans hb.tape, hs.output.trans hb.output, Nat.le_trans hb.size hs.size, fun k hk hn => (hs.block k (Nat.lt_of_lt_of_le hk hb.size) (fun hc => by
      rcases hc with (hc | hc) | hc
      · exact hn (.inl hc)
      · have := hO k hc; omega
      · exact hn (.inr hc))).trans (hb.block k hk), fun k hk => by
      rcases hs.old k hk with ((h | h) | h) | h
      · exact .inl (.inl h)
      · exact .inr (hO k h)
      · exact .inl (.inr h)
      · exact .inr (Nat.le_trans hb.size h), fun k hk => by
      rcases hk with hk | hk
      · exact hs.keep k (.inl (.inl hk))
      · exact .inr hk⟩
theorem if_lt {rb b ro mo bo t : Nat} {O : Nat → Prop} {w : World} (h : If rb b ro mo bo t O w) : ∀ k, O k → k < w.heap.size := by
  obtain ⟨rfl, h1, h2, h3, _⟩ := h
  rintro k (rfl | rfl | rfl)
  · exact (Array.getElem?_eq_some_iff.1 h1).1
  · exact (Array.getElem?_eq_some_iff.1 h2).1
  · exact (Array.getElem?_eq_some_iff.1 h3).1
theorem law_off {w : World} {rb qb : Nat} {s : Int} {D A U : Nat} {ev al : Bool} {fe us : Nat} (hq : w.heap[qb]? = some (.cells #[.int .i64 s, .int .u64 (D : Int), .int .u64 (A : Int), .int .u64 (U : Int), .bool false, .int .u16 (fe : Int), .int .u16 (us : Int), .bool ev, .bool al] 40 (0, 0))) (b t : Nat) : Calls Tryz.prog 11 #[.pointer (some ⟨rb, 0, none⟩), .pointer (some ⟨qb, 0, none⟩), .int .u8 (b : Int), .int .i64 (t : Int)] w fun r w' => r = .returned (.tuple #[.bool false, .int .i64 0]) ∧ Below w.heap.size w w' := by
  have hmf : ∀ (fn : Fn) (first cap : Array Value) (w : World), (Instr.makeFunc fn first cap).run Tryz.prog w = .ok (.func fn first cap) w := fun _ _ _ _ => rfl
  have h3 := three_in w (.cells #[.pointer (some ⟨rb, 0, none⟩)] 30) (.cells #[.int .u8 (b : Int)] 5) (.cells #[.int .i64 (t : Int)] 3)
  have XB : Hid (Below w.heap.size w (((w.alloc (.cells #[.pointer (some ⟨rb, 0, none⟩)] 30)).alloc (.cells #[.int .u8 (b : Int)] 5)).alloc (.cells #[.int .i64 (t : Int)] 3)) ∧ (((w.alloc (.cells #[.pointer (some ⟨rb, 0, none⟩)] 30)).alloc (.cells #[.int .u8 (b : Int)] 5)).alloc (.cells #[.int .i64 (t : Int)] 3)).heap[w.heap.size]? = some (.cells #[.pointer (some ⟨rb, 0, none⟩)] 30 (0, 0)) ∧ (((w.alloc (.cells #[.pointer (some ⟨rb, 0, none⟩)] 30)).alloc (.cells #[.int .u8 (b : Int)] 5)).alloc (.cells #[.int .i64 (t : Int)] 3)).heap[qb]? = some (.cells #[.int .i64 s, .int .u64 (D : Int), .int .u64 (A : Int), .int .u64 (U : Int), .bool false, .int .u16 (fe : Int), .int .u16 (us : Int), .bool ev, .bool al] 40 (0, 0))) := ⟨h3.2.2.2, h3.1, below_box hq h3.2.2.2⟩
  clear h3 hq
  go_enter Tryz.func11, Tryz.ntmps11
  go_upto_region 1 with fail
  generalize ((w.alloc (.cells #[.pointer (some ⟨rb, 0, none⟩)] 30)).alloc (.cells #[.int .u8 (b : Int)] 5)).alloc (.cells #[.int .i64 (t : Int)] 3) = v0 at *
  obtain ⟨m0, m1⟩ := box1_facts XB.out.2.1
  go_wp2_with (go_at_call 32; refine (serve_off XB.out.2.2 _ _).mono ?_; rintro e w1 ⟨rfl, rfl⟩)
  go_ret2
  exact ⟨rfl, XB.out.1⟩
theorem law_bad {w : World} {F : Nat → Prop} {rb κ : Nat} {M : Nat → Nat} (hr : RamAt w F rb 8192 κ (.pointer none) M) {qb : Nat} {s : Int} {D A U : Nat} {ev al : Bool} {fe us : Nat} (hq : w.heap[qb]? = some (.cells #[.int .i64 s, .int .u64 (D : Int), .int .u64 (A : Int), .int .u64 (U : Int), .bool true, .int .u16 (fe : Int), .int .u16 (us : Int), .bool ev, .bool al] 40 (0, 0))) (hF : ¬ F qb) (hD : D < 18446744073709551616) (hA : A < 18446744073709551616) (hU : U < 18446744073709551616) (hfe : fe ≤ 65535) (hus : us ≤ 65535) (hc : chkN s D A U 8192 ≠ 0) (b t : Nat) (hb : b ≤ 255) (ht : t ≤ 40) (hκ : κ + budF t ≤ 900000) : Calls Tryz.prog 11 #[.pointer (some ⟨rb, 0, none⟩), .pointer (some ⟨qb, 0, none⟩), .int .u8 (b : Int), .int .i64 (t : Int)] w fun r w' => r = .returned (.tuple #[.bool false, .int .i64 (chkN s D A U 8192)]) ∧ ∃ (F' : Nat → Prop) (κ' : Nat), RamAt w' F' rb 8192 κ' (.pointer none) M ∧ w'.heap[qb]? = some (.cells #[.int .i64 s, .int .u64 (D : Int), .int .u64 (A : Int), .int .u64 (U : Int), .bool true, .int .u16 (fe : Int), .int .u16 (us : Int), .bool ev, .bool al] 40 (0, 0)) ∧ ¬ F' qb ∧ κ' ≤ 900002 ∧ Step (fun k => F k ∨ k = qb) w (fun k => F' k ∨ k = qb) w' := by
  have hmf : ∀ (fn : Fn) (first cap : Array Value) (w : World), (Instr.makeFunc fn first cap).run Tryz.prog w = .ok (.func fn first cap) w := fun _ _ _ _ => rfl
  have h3 := three_in w (.cells #[.pointer (some ⟨rb, 0, none⟩)] 30) (.cells #[.int .u8 (b : Int)] 5) (.cells #[.int .i64 (t : Int)] 3)
  have XB : Hid (Below w.heap.size w (((w.alloc (.cells #[.pointer (some ⟨rb, 0, none⟩)] 30)).alloc (.cells #[.int .u8 (b : Int)] 5)).alloc (.cells #[.int .i64 (t : Int)] 3)) ∧ (((w.alloc (.cells #[.pointer (some ⟨rb, 0, none⟩)] 30)).alloc (.cells #[.int .u8 (b : Int)] 5)).alloc (.cells #[.int .i64 (t : Int)] 3)).heap[w.heap.size]? = some (.cells #[.pointer (some ⟨rb, 0, none⟩)] 30 (0, 0)) ∧ 0 = 0) := ⟨h3.2.2.2, h3.1, rfl⟩
  have hgl : Gl (If rb b (w.heap.size + 2) (w.heap.size) (w.heap.size + 1)) budF rb qb s D A U true ev al (((w.alloc (.cells #[.pointer (some ⟨rb, 0, none⟩)] 30)).alloc (.cells #[.int .u8 (b : Int)] 5)).alloc (.cells #[.int .i64 (t : Int)] 3)) F (fun k => k = w.heap.size + 2 ∨ k = w.heap.size ∨ k = w.heap.size + 1) (((w.alloc (.cells #[.pointer (some ⟨rb, 0, none⟩)] 30)).alloc (.cells #[.int .u8 (b : Int)] 5)).alloc (.cells #[.int .i64 (t : Int)] 3)) t M fe us F (fun k => k = w.heap.size + 2 ∨ k = w.heap.size ∨ k = w.heap.size + 1) κ := ⟨hr.below h3.2.2.2, below_box hq h3.2.2.2, ⟨rfl, h3.2.2.1, h3.1, h3.2.1, by omega, by omega, ht⟩, by
    have hql := (Array.getElem?_eq_some_iff.1 hq).1
    rintro k (rfl | rfl | rfl)
    · exact ⟨fun hf => by have := hr.lt _ hf; omega, by omega⟩
    · exact ⟨fun hf => by have := hr.lt _ hf; omega, by omega⟩
    · exact ⟨fun hf => by have := hr.lt _ hf; omega, by omega⟩, hF, hκ, Step.refl _ _⟩
  have KS : Hid (Calls Tryz.prog 32 #[.pointer (some ⟨qb, 0, none⟩), .pointer (some ⟨rb, 0, none⟩), .func (.func 33) #[] #[.pointer (some ⟨w.heap.size + 2, 0, none⟩), .pointer (some ⟨w.heap.size, 0, none⟩), .pointer (some ⟨w.heap.size + 1, 0, none⟩)]] (((w.alloc (.cells #[.pointer (some ⟨rb, 0, none⟩)] 30)).alloc (.cells #[.int .u8 (b : Int)] 5)).alloc (.cells #[.int .i64 (t : Int)] 3)) fun e w' => e = .returned (.tuple #[.bool false, .int .i64 (chkN s D A U 8192)]) ∧ Gend (If rb b (w.heap.size + 2) (w.heap.size) (w.heap.size + 1)) rb qb s D A U true ev al (((w.alloc (.cells #[.pointer (some ⟨rb, 0, none⟩)] 30)).alloc (.cells #[.int .u8 (b : Int)] 5)).alloc (.cells #[.int .i64 (t : Int)] 3)) F (fun k => k = w.heap.size + 2 ∨ k = w.heap.size ∨ k = w.heap.size + 1) ⟨t, M, fe, us, chkN s D A U 8192⟩ w') := serve_bad (dev_serve rb b _ _ _ hb) hD hA hU hfe hus hgl hc
  clear hr hq hF hD hA hU hfe hus hc hb ht hκ hgl h3
  go_enter Tryz.func11, Tryz.ntmps11
  go_upto_region 1 with fail
  generalize ((w.alloc (.cells #[.pointer (some ⟨rb, 0, none⟩)] 30)).alloc (.cells #[.int .u8 (b : Int)] 5)).alloc (.cells #[.int .i64 (t : Int)] 3) = v0 at *
  obtain ⟨m0, m1⟩ := box1_facts XB.out.2.1
  go_wp2_with (go_at_call 32; refine (KS.out).mono ?_; rintro e w1 ⟨rfl, F1, O1, κ1, hr1, hq1, hi1, hO1, hn1, hk1, hs1⟩; have X1 : Hid (RamAt w1 F1 rb 8192 κ1 (.pointer none) M ∧ w1.heap[qb]? = some (.cells #[.int .i64 s, .int .u64 (D : Int), .int .u64 (A : Int), .int .u64 (U : Int), .bool true, .int .u16 (fe : Int), .int .u16 (us : Int), .bool ev, .bool al] 40 (0, 0)) ∧ If rb b (w.heap.size + 2) (w.heap.size) (w.heap.size + 1) t O1 w1 ∧ (∀ k, O1 k → ¬ F1 k ∧ k ≠ qb) ∧ ¬ F1 qb ∧ κ1 ≤ 900000 ∧ Step (fun k => (F k ∨ (fun k => k = w.heap.size + 2 ∨ k = w.heap.size ∨ k = w.heap.size + 1) k) ∨ k = qb) v0 (fun k => (F1 k ∨ O1 k) ∨ k = qb) w1) := ⟨hr1, hq1, hi1, hO1, hn1, hk1, hs1⟩; clear hr1 hq1 hi1 hO1 hn1 hk1 hs1)
  go_ret2
  obtain ⟨x1, x2, x3, x4, x5, x6, x7⟩ := X1.out
  exact ⟨rfl, fun k => F1 k ∨ O1 k, κ1, x1.more (fun k hk => .inl hk) (fun k hk => hk.elim (x1.lt k) (if_lt x3 k)), x2, fun hc => hc.elim x5 (fun ho => (x4 qb ho).2 rfl), by omega, serve_end XB.out.1 (by rintro k (rfl | rfl | rfl) <;> omega) x7⟩
set_option maxHeartbeats 1000000 in
theorem law_good {w : World} {F : Nat → Prop} {rb κ : Nat} {M : Nat → Nat} (hr : RamAt w F rb 8192 κ (.pointer none) M) {qb : Nat} {n D A U : Nat} {ev al : Bool} {fe us : Nat} (hq : w.heap[qb]? = some (.cells #[.int .i64 (n : Int), .int .u64 (D : Int), .int .u64 (A : Int), .int .u64 (U : Int), .bool true, .int .u16 (fe : Int), .int .u16 (us : Int), .bool ev, .bool al] 40 (0, 0))) (hg : Gd n D A U) (hF : ¬ F qb) (hfe : fe ≤ 65535) (hus : us ≤ 65535) (b t : Nat) (hb : b ≤ 255) (ht : t ≤ 40) (hκ : κ + budF t ≤ 900000) (R : Gv Nat) (hR : giveR (devF b) (n : Int) D A U true al 65537 t M fe us = R) : Calls Tryz.prog 11 #[.pointer (some ⟨rb, 0, none⟩), .pointer (some ⟨qb, 0, none⟩), .int .u8 (b : Int), .int .i64 (t : Int)] w fun r w' => r = .returned (.tuple #[.bool (tellB (endM R n U ev) n A R.us us ev), .int .i64 R.e]) ∧ ∃ (F' : Nat → Prop) (κ' : Nat), RamAt w' F' rb 8192 κ' (.pointer none) (endM R n U ev) ∧ w'.heap[qb]? = some (.cells #[.int .i64 (n : Int), .int .u64 (D : Int), .int .u64 (A : Int), .int .u64 (U : Int), .bool true, .int .u16 (R.fe : Int), .int .u16 (R.us : Int), .bool ev, .bool al] 40 (0, 0)) ∧ ¬ F' qb ∧ κ' ≤ 900002 ∧ Step (fun k => F k ∨ k = qb) w (fun k => F' k ∨ k = qb) w' := by
  have hmf : ∀ (fn : Fn) (first cap : Array Value) (w : World), (Instr.makeFunc fn first cap).run Tryz.prog w = .ok (.func fn first cap) w := fun _ _ _ _ => rfl
  have h3 := three_in w (.cells #[.pointer (some ⟨rb, 0, none⟩)] 30) (.cells #[.int .u8 (b : Int)] 5) (.cells #[.int .i64 (t : Int)] 3)
  have XB : Hid (Below w.heap.size w (((w.alloc (.cells #[.pointer (some ⟨rb, 0, none⟩)] 30)).alloc (.cells #[.int .u8 (b : Int)] 5)).alloc (.cells #[.int .i64 (t : Int)] 3)) ∧ (((w.alloc (.cells #[.pointer (some ⟨rb, 0, none⟩)] 30)).alloc (.cells #[.int .u8 (b : Int)] 5)).alloc (.cells #[.int .i64 (t : Int)] 3)).heap[w.heap.size]? = some (.cells #[.pointer (some ⟨rb, 0, none⟩)] 30 (0, 0)) ∧ 0 = 0) := ⟨h3.2.2.2, h3.1, rfl⟩
  have hgl : Gl (If rb b (w.heap.size + 2) (w.heap.size) (w.heap.size + 1)) budF rb qb (n : Int) D A U true ev al (((w.alloc (.cells #[.pointer (some ⟨rb, 0, none⟩)] 30)).alloc (.cells #[.int .u8 (b : Int)] 5)).alloc (.cells #[.int .i64 (t : Int)] 3)) F (fun k => k = w.heap.size + 2 ∨ k = w.heap.size ∨ k = w.heap.size + 1) (((w.alloc (.cells #[.pointer (some ⟨rb, 0, none⟩)] 30)).alloc (.cells #[.int .u8 (b : Int)] 5)).alloc (.cells #[.int .i64 (t : Int)] 3)) t M fe us F (fun k => k = w.heap.size + 2 ∨ k = w.heap.size ∨ k = w.heap.size + 1) κ := ⟨hr.below h3.2.2.2, below_box hq h3.2.2.2, ⟨rfl, h3.2.2.1, h3.1, h3.2.1, by omega, by omega, ht⟩, by
    have hql := (Array.getElem?_eq_some_iff.1 hq).1
    rintro k (rfl | rfl | rfl)
    · exact ⟨fun hf => by have := hr.lt _ hf; omega, by omega⟩
    · exact ⟨fun hf => by have := hr.lt _ hf; omega, by omega⟩
    · exact ⟨fun hf => by have := hr.lt _ hf; omega, by omega⟩, hF, hκ, Step.refl _ _⟩
  have KS : Hid (Calls Tryz.prog 32 #[.pointer (some ⟨qb, 0, none⟩), .pointer (some ⟨rb, 0, none⟩), .func (.func 33) #[] #[.pointer (some ⟨w.heap.size + 2, 0, none⟩), .pointer (some ⟨w.heap.size, 0, none⟩), .pointer (some ⟨w.heap.size + 1, 0, none⟩)]] (((w.alloc (.cells #[.pointer (some ⟨rb, 0, none⟩)] 30)).alloc (.cells #[.int .u8 (b : Int)] 5)).alloc (.cells #[.int .i64 (t : Int)] 3)) fun e w' => e = .returned (.tuple #[.bool (tellB (endM R n U ev) n A R.us us ev), .int .i64 R.e]) ∧ Send (If rb b (w.heap.size + 2) (w.heap.size) (w.heap.size + 1)) rb qb n D A U ev al (((w.alloc (.cells #[.pointer (some ⟨rb, 0, none⟩)] 30)).alloc (.cells #[.int .u8 (b : Int)] 5)).alloc (.cells #[.int .i64 (t : Int)] 3)) F (fun k => k = w.heap.size + 2 ∨ k = w.heap.size ∨ k = w.heap.size + 1) R w') := serve_any (dev_serve rb b _ _ _ hb) hg hfe hus hgl R hR
  clear hr hq hF hg hfe hus hb ht hκ hgl h3 hR
  obtain ⟨tb, htb⟩ : ∃ tb, tellB (endM R n U ev) n A R.us us ev = tb := ⟨_, rfl⟩
  rw [htb] at KS ⊢
  clear htb
  go_enter Tryz.func11, Tryz.ntmps11
  go_upto_region 1 with fail
  generalize ((w.alloc (.cells #[.pointer (some ⟨rb, 0, none⟩)] 30)).alloc (.cells #[.int .u8 (b : Int)] 5)).alloc (.cells #[.int .i64 (t : Int)] 3) = v0 at *
  obtain ⟨m0, m1⟩ := box1_facts XB.out.2.1
  go_wp2_with (go_at_call 32; refine (KS.out).mono ?_; rintro e w1 ⟨rfl, F1, O1, κ1, hr1, hq1, hi1, hO1, hn1, hk1, hs1⟩; have X1 : Hid (RamAt w1 F1 rb 8192 κ1 (.pointer none) (endM R n U ev) ∧ w1.heap[qb]? = some (.cells #[.int .i64 (n : Int), .int .u64 (D : Int), .int .u64 (A : Int), .int .u64 (U : Int), .bool true, .int .u16 (R.fe : Int), .int .u16 (R.us : Int), .bool ev, .bool al] 40 (0, 0)) ∧ If rb b (w.heap.size + 2) (w.heap.size) (w.heap.size + 1) R.s O1 w1 ∧ (∀ k, O1 k → ¬ F1 k ∧ k ≠ qb) ∧ ¬ F1 qb ∧ κ1 ≤ 900002 ∧ Step (fun k => (F k ∨ (fun k => k = w.heap.size + 2 ∨ k = w.heap.size ∨ k = w.heap.size + 1) k) ∨ k = qb) v0 (fun k => (F1 k ∨ O1 k) ∨ k = qb) w1) := ⟨hr1, hq1, hi1, hO1, hn1, hk1, hs1⟩; clear hr1 hq1 hi1 hO1 hn1 hk1 hs1)
  go_ret2
  obtain ⟨x1, x2, x3, x4, x5, x6, x7⟩ := X1.out
  exact ⟨rfl, fun k => F1 k ∨ O1 k, κ1, x1.more (fun k hk => .inl hk) (fun k hk => hk.elim (x1.lt k) (if_lt x3 k)), x2, fun hc => hc.elim x5 (fun ho => (x4 qb ho).2 rfl), x6, serve_end XB.out.1 (by rintro k (rfl | rfl | rfl) <;> omega) x7⟩
end Go.Proofs.YtmjdnocilbnoaaaGreat

/- The document's Serve: ground. -/
namespace Go.Proofs.YtmjdnocilbnoaaaGreat
open Go.RowKit Go.Maps
set_option linter.unusedVariables false
set_option linter.unusedSimpArgs false
set_option maxRecDepth 100000
theorem infoSV : (Tryz.prog.info? 48).map (·.size) = some 14 := by kernel_rfl
theorem own_shape {B n k : Nat} {v : Value} {w : World} {xs : List Value} {e : TypeId} (h : w.ownsRow B e k v n xs) : ∃ a c, v = .slice a n c := by
  rcases h.2 with ⟨rfl, rfl⟩ | ⟨g, cap, cur, rfl, _⟩
  · exact ⟨none, 0, rfl⟩
  · exact ⟨_, _, rfl⟩
theorem own_setRow {B n k q : Nat} {v : Value} {w : World} {xs : List Value} {e : TypeId} {cs : Array Value} (h : w.ownsRow B e k v n xs) (hq : q < B) : (w.setRow q cs).ownsRow B e k v n xs := by
  refine ⟨h.1, ?_⟩
  rcases h.2 with hn | ⟨g, cap, cur, hv, hb, hg, rest⟩
  · exact .inl hn
  · exact .inr ⟨g, cap, cur, hv, hb, (setRow_other _ _ _ _ (by omega)).trans hg, rest⟩
/-- while the document's Serve runs: the memory's box, the queue's box, the result's box, the heads -/
def Hs (w V : World) (F : Nat → Prop) (xa : Option Addr) (xn xc : Nat) (xs : Nat → Nat × Nat) (s : Int) (D A U : Nat) (rd : Bool) (fe us : Nat) (ev al : Bool) (ha : Option Addr) (m hc : Nat) (hs : List Value) (c2 : Array Value) : Prop :=
  Below w.heap.size w V ∧ V.heap[w.heap.size]? = some (.cells #[.int .u64 8192, .slice xa xn xc] 33 (0, 0)) ∧ V.heap[w.heap.size + 1]? = some (.cells #[.int .i64 s, .int .u64 (D : Int), .int .u64 (A : Int), .int .u64 (U : Int), .bool rd, .int .i64 (fe : Int), .int .i64 (us : Int), .bool ev, .bool al] 27 (0, 0)) ∧ V.heap[w.heap.size + 2]? = some (.cells c2 48 (0, 0)) ∧ RefIn (fun k => F k ∨ (Value.slice ha m hc).ownBlock = some k) V (.slice xa xn xc) xn xs ∧ V.ownsRow (w.heap.size + 3) 3 1 (.slice ha m hc) m hs
section
variable {w V V2 : World} {F : Nat → Prop} {xa ya : Option Addr} {xn xc yn yc : Nat} {xs ys : Nat → Nat × Nat} {s : Int} {D A U : Nat} {rd ev al : Bool} {fe us : Nat} {ha : Option Addr} {m hc : Nat} {hs : List Value} {c2 : Array Value}
theorem Hs.below (h : Hs w V F xa xn xc xs s D A U rd fe us ev al ha m hc hs c2) (hb : Below V.heap.size V V2) : Hs w V2 F xa xn xc xs s D A U rd fe us ev al ha m hc hs c2 := ⟨below_to h.1 hb, below_box h.2.1 hb, below_box h.2.2.1 hb, below_box h.2.2.2.1 hb, h.2.2.2.2.1.below hb, own_below h.2.2.2.2.2 hb⟩
theorem Hs.put0 (h : Hs w V F xa xn xc xs s D A U rd fe us ev al ha m hc hs c2) (hr : RefIn (fun k => F k ∨ (Value.slice ha m hc).ownBlock = some k) V (.slice ya yn yc) yn ys) : Hs w (V.setRow (w.heap.size) #[.int .u64 8192, .slice ya yn yc]) F ya yn yc ys s D A U rd fe us ev al ha m hc hs c2 := ⟨below_setRow h.1 (by omega) _, setRow_heap _ _ _ _ _ _ h.2.1, (setRow_other _ _ _ _ (by omega)).trans h.2.2.1, (setRow_other _ _ _ _ (by omega)).trans h.2.2.2.1, hr.setRow (fun z hz h0 => ref_ne hr h.2.1 _ rfl not_byte_slice hz h0), own_setRow h.2.2.2.2.2 (by omega)⟩
theorem Hs.put1 (h : Hs w V F xa xn xc xs s D A U rd fe us ev al ha m hc hs c2) (f u : Nat) : Hs w (V.setRow (w.heap.size + 1) #[.int .i64 s, .int .u64 (D : Int), .int .u64 (A : Int), .int .u64 (U : Int), .bool rd, .int .i64 (f : Int), .int .i64 (u : Int), .bool ev, .bool al]) F xa xn xc xs s D A U rd f u ev al ha m hc hs c2 := ⟨below_setRow h.1 (by omega) _, (setRow_other _ _ _ _ (by omega)).trans h.2.1, setRow_heap _ _ _ _ _ _ h.2.2.1, (setRow_other _ _ _ _ (by omega)).trans h.2.2.2.1, h.2.2.2.2.1.setRow (fun z hz h0 => ref_ne h.2.2.2.2.1 h.2.2.1 _ rfl not_byte_word hz h0), own_setRow h.2.2.2.2.2 (by omega)⟩
theorem Hs.put2 (h : Hs w V F xa xn xc xs s D A U rd fe us ev al ha m hc hs #[.int .u64 0, .slice none 0 0, .int .i64 0, .int .u64 0, .int .u64 0, .int .u64 0, .bool false, .int .i64 0, .int .i64 0, .bool false, .bool false, .slice none 0 0, .bool false, .int .i64 0]) (c : Array Value) : Hs w (V.setRow (w.heap.size + 2) c) F xa xn xc xs s D A U rd fe us ev al ha m hc hs c := ⟨below_setRow h.1 (by omega) _, (setRow_other _ _ _ _ (by omega)).trans h.2.1, (setRow_other _ _ _ _ (by omega)).trans h.2.2.1, setRow_heap _ _ _ _ _ _ h.2.2.2.1, h.2.2.2.2.1.setRow (fun z hz h0 => ref_ne h.2.2.2.2.1 h.2.2.2.1 _ rfl not_byte_slice hz h0), own_setRow h.2.2.2.2.2 (by omega)⟩
theorem Hs.lt (h : Hs w V F xa xn xc xs s D A U rd fe us ev al ha m hc hs c2) (hF : ∀ k, F k → k < w.heap.size) : ∀ k, (fun k => F k ∨ (Value.slice ha m hc).ownBlock = some k) k → k < V.heap.size := fun k hk => hk.elim (fun hf => Nat.lt_of_lt_of_le (hF k hf) h.1.size) (fun ho => (h.2.2.2.2.2.lt k ho).2)
end
theorem hs_new {F : Nat → Prop} {w : World} {va : Option Addr} {nn vc : Nat} {bs : Nat → Nat × Nat} (href : RefIn F w (.slice va nn vc) nn bs) {s : Int} {D A U : Nat} {rd ev al : Bool} {fe us : Nat} : Hs w (((w.alloc (.cells #[.int .u64 8192, .slice va nn vc] 33)).alloc (.cells #[.int .i64 s, .int .u64 (D : Int), .int .u64 (A : Int), .int .u64 (U : Int), .bool rd, .int .i64 (fe : Int), .int .i64 (us : Int), .bool ev, .bool al] 27)).alloc (.cells #[.int .u64 0, .slice none 0 0, .int .i64 0, .int .u64 0, .int .u64 0, .int .u64 0, .bool false, .int .i64 0, .int .i64 0, .bool false, .bool false, .slice none 0 0, .bool false, .int .i64 0] 48)) F va nn vc bs s D A U rd fe us ev al none 0 0 [] #[.int .u64 0, .slice none 0 0, .int .i64 0, .int .u64 0, .int .u64 0, .int .u64 0, .bool false, .int .i64 0, .int .i64 0, .bool false, .bool false, .slice none 0 0, .bool false, .int .i64 0] := by
  have h3 := three_in w (.cells #[.int .u64 8192, .slice va nn vc] 33) (.cells #[.int .i64 s, .int .u64 (D : Int), .int .u64 (A : Int), .int .u64 (U : Int), .bool rd, .int .i64 (fe : Int), .int .i64 (us : Int), .bool ev, .bool al] 27) (.cells #[.int .u64 0, .slice none 0 0, .int .i64 0, .int .u64 0, .int .u64 0, .int .u64 0, .bool false, .int .i64 0, .int .i64 0, .bool false, .bool false, .slice none 0 0, .bool false, .int .i64 0] 48)
  refine ⟨h3.2.2.2, h3.1, h3.2.1, h3.2.2.1, (href.mono ?_).below h3.2.2.2, ⟨rfl, .inl ⟨rfl, rfl⟩⟩⟩
  intro k hk
  rcases hk with hk | hk
  · exact hk
  · simp [Value.ownBlock] at hk
theorem fill_byte {b : Nat} (hb : b ≤ 255) (l : List Seg) {M : Nat → Nat} (hM : ∀ a, M a ≤ 255) : ∀ a, fillM b l M a ≤ 255 := by
  intro a
  unfold fillM
  split
  · exact hM a
  · exact layS_le (fun _ => hb) _ _ _ hM a
theorem ret_byte {n U us h c : Nat} {M : Nat → Nat} (hM : ∀ a, M a ≤ 255) : ∀ a, retM M n U us h c a ≤ 255 := over_byte (over_byte hM _ _ (eB_le h c)) _ _ (fun i _ => byteAt_le _ _)
theorem ask_byte {n U fe : Nat} {ev : Bool} {M : Nat → Nat} (hM : ∀ a, M a ≤ 255) : ∀ a, askM M n U fe ev a ≤ 255 := by
  intro a
  unfold askM
  split
  · exact over_byte hM _ _ (fun i _ => byteAt_le _ _) a
  · exact hM a
/-- one round of the document's Serve, plain -/
theorem dstep {M : Nat → Nat} {n D A U fe us j t b : Nat} {al : Bool} (hle : ∀ a, M a ≤ 255) (hg : Gd n D A U) (hfe : fe ≤ 65535) {R : Gv Nat} (hR : giveR (devF b) (n : Int) D A U true al (j + 1) t M fe us = R) : ∃ (hi : Int) (l : List Seg) (ta tl : Nat) (bo : Bool) (e : Int) (f1 : Nat), f1 ≤ 65535 ∧
    (∀ (w : World) (F : Nat → Prop) (va : Option Addr) (nn vc : Nat) (bs : Nat → Nat × Nat) (ev : Bool), RefIn F w (.slice va nn vc) nn bs → (∀ q, rget bs nn q = M q) → nn ≤ 900000 → Calls Tryz.prog 17 #[.agg #[.int .u64 8192, .slice va nn vc], .agg #[.int .i64 (n : Int), .int .u64 (D : Int), .int .u64 (A : Int), .int .u64 (U : Int), .bool true, .int .i64 (fe : Int), .int .i64 (us : Int), .bool ev, .bool al]] w fun r w' => ∃ a1 c1, r = .returned (.tuple #[.agg #[.int .i64 (n : Int), .int .u64 (D : Int), .int .u64 (A : Int), .int .u64 (U : Int), .bool true, .int .i64 (f1 : Int), .int .i64 (us : Int), .bool ev, .bool al], .int .i64 hi, .agg #[.slice a1 l.length c1, .int .u64 (ta : Int), .int .u64 (tl : Int)], .bool bo, .int .i64 e]) ∧ SegIn w.heap.size w' (.slice a1 l.length c1) l ∧ Below w.heap.size w w') ∧
    ((e ≠ 0 ∧ R = ⟨t, M, f1, us, e⟩) ∨ (e = 0 ∧ (bo = false ∨ t = 0) ∧ R = ⟨t, M, fe, us, 0⟩) ∨ (e = 0 ∧ bo = true ∧ t ≠ 0 ∧ f1 = upN fe ∧ ∃ h : Nat, hi = (h : Int) ∧ h ≤ 65535 ∧ l.length ≤ 1000 ∧ (∀ s ∈ l, SegOk s) ∧ giveR (devF b) (n : Int) D A U true al j (t - 1) (retM (fillM b l M) n U us h (cntN l)) f1 (upN us) = R)) := by
  obtain ⟨hD, hA, hU⟩ := gd_bounds hg
  obtain ⟨ft, hft⟩ : ∃ ft, fetchR M (n : Int) D A U true fe al = ft := ⟨_, rfl⟩
  cases ft with
  | non e =>
    rw [give_non hft] at hR
    refine ⟨-1, [], 0, 0, false, e, fe, hfe, ?_, ?_⟩
    · intro w F va nn vc bs ev h1 h2 h3
      refine (dfetch_non h1 h2 hle h3 hD hA hU hfe hft).mono ?_
      rintro r w' ⟨rfl, hb⟩
      exact ⟨none, 0, rfl, segs_nil _ _, hb⟩
    · by_cases he : e = 0
      · subst he
        exact .inr (.inl ⟨rfl, .inl rfl, hR.symm⟩)
      · exact .inl ⟨he, hR.symm⟩
  | got h c =>
    have hh := head_le hle hD hft
    refine ⟨h, c.l, c.ta, c.tl, (c.e : Int) == 0, c.e, upN fe, up_le _, ?_, ?_⟩
    · intro w F va nn vc bs ev h1 h2 h3
      exact dfetch_any h1 h2 hle h3 hD hfe hft
    · by_cases he : c.e = 0
      · by_cases ht : t = 0
        · rw [give_stay hft he (by simp [devF, ht])] at hR
          exact .inr (.inl ⟨by rw [he]; rfl, .inr ht, hR.symm⟩)
        · rw [give_more hft he (t' := t - 1) (M' := fillM b c.l M) (cnt := cntN c.l) (by simp [devF, ht])] at hR
          exact .inr (.inr ⟨by rw [he]; rfl, by rw [he]; rfl, ht, rfl, h, rfl, hh.1, hh.2.2, hh.2.1, hR⟩)
      · rw [give_err hft he] at hR
        exact .inl ⟨by omega, hR.symm⟩
/-- the heads grow -/
theorem ref_grow {w V V2 : World} {F : Nat → Prop} {xa : Option Addr} {xn xc : Nat} {xs : Nat → Nat × Nat} {v v' : Value} (h : RefIn (fun k => F k ∨ v.ownBlock = some k) V (.slice xa xn xc) xn xs) (hg : V.grownBy V2 v.ownBlock) (hat : v'.ownBlock = v.ownBlock ∨ v'.ownBlock = some V.heap.size) : RefIn (fun k => F k ∨ v'.ownBlock = some k) V2 (.slice xa xn xc) xn xs := by
  rcases h with h | ⟨g, cc, he, hF, hc⟩
  · exact .inl h
  · by_cases h0 : xn = 0
    · exact .inl ⟨h0, xa, xc, by rw [h0]⟩
    · have hl : g < V.heap.size := by
        have h1 := (hc 0 (by omega)).1
        by_cases hl : g < V.heap.size
        · exact hl
        · exfalso
          have hn : V.heap[g]? = none := Array.getElem?_eq_none (by omega)
          simp [World.cell?, hn] at h1
      have hne : v.ownBlock ≠ some g := fun e => hF (.inr e)
      have hb := hg.block g hl (fun e => hne e.symm)
      refine .inr ⟨g, cc, he, fun hx => ?_, fun i hi => ⟨(World.cell?_of_block hb).trans (hc i hi).1, (World.cell?_of_block hb).trans (hc i hi).2⟩⟩
      rcases hx with hx | hx
      · exact hF (.inl hx)
      · rcases hat with hat | hat
        · rw [hat] at hx; exact hne hx
        · rw [hat] at hx; simp at hx; omega
end Go.Proofs.YtmjdnocilbnoaaaGreat

/- The document's Serve: its end. -/
namespace Go.Proofs.YtmjdnocilbnoaaaGreat
open Go.RowKit Go.Maps
set_option linter.unusedVariables false
set_option linter.unusedSimpArgs false
set_option maxRecDepth 100000
def He (w V : World) (F : Nat → Prop) (xa : Option Addr) (xn xc : Nat) (xs : Nat → Nat × Nat) (q pb : Nat) (s : Int) (D A U : Nat) (rd : Bool) (fe us : Nat) (ev al : Bool) (c2 sv : Array Value) : Prop :=
  Below w.heap.size w V ∧ V.heap[w.heap.size]? = some (.cells #[.int .u64 8192, .slice xa xn xc] 33 (0, 0)) ∧ V.heap[q]? = some (.cells #[.int .i64 s, .int .u64 (D : Int), .int .u64 (A : Int), .int .u64 (U : Int), .bool rd, .int .i64 (fe : Int), .int .i64 (us : Int), .bool ev, .bool al] 27 (0, 0)) ∧ V.heap[w.heap.size + 2]? = some (.cells c2 48 (0, 0)) ∧ V.heap[pb]? = some (.cells sv 48 (0, 0)) ∧ RefIn F V (.slice xa xn xc) xn xs ∧ w.heap.size + 3 ≤ pb ∧ pb ≠ q
section
variable {w V V2 : World} {F : Nat → Prop} {xa ya : Option Addr} {xn xc yn yc : Nat} {xs ys : Nat → Nat × Nat} {s : Int} {D A U : Nat} {rd ev al : Bool} {fe us : Nat} {ha : Option Addr} {m hc q pb : Nat} {hs : List Value} {c2 sv : Array Value}
theorem he_new {f1 f2 : Nat} (h : Hs w V F xa xn xc xs s D A U rd f2 us ev al ha m hc hs #[.int .u64 0, .slice none 0 0, .int .i64 0, .int .u64 0, .int .u64 0, .int .u64 0, .bool false, .int .i64 0, .int .i64 0, .bool false, .bool false, .slice none 0 0, .bool false, .int .i64 0]) (hq : V.heap[q]? = some (.cells #[.int .i64 s, .int .u64 (D : Int), .int .u64 (A : Int), .int .u64 (U : Int), .bool rd, .int .i64 (f1 : Int), .int .i64 (us : Int), .bool ev, .bool al] 27 (0, 0))) (sv : Array Value) : He w (V.alloc (.cells sv 48)) F xa xn xc xs q V.heap.size s D A U rd f1 us ev al #[.int .u64 0, .slice none 0 0, .int .i64 0, .int .u64 0, .int .u64 0, .int .u64 0, .bool false, .int .i64 0, .int .i64 0, .bool false, .bool false, .slice none 0 0, .bool false, .int .i64 0] sv := by
  have hb : Below V.heap.size V (V.alloc (.cells sv 48)) := one_box _ _
  refine ⟨below_to h.1 hb, below_box h.2.1 hb, below_box hq hb, below_box h.2.2.2.1 hb, heap_alloc_new _ _, (h.2.2.2.2.1.mono (fun k hk => .inl hk)).below hb, ?_, ?_⟩
  · have := (Array.getElem?_eq_some_iff.1 h.2.2.2.1).1
    omega
  · have := (Array.getElem?_eq_some_iff.1 hq).1
    omega
theorem He.below (h : He w V F xa xn xc xs q pb s D A U rd fe us ev al c2 sv) (hb : Below V.heap.size V V2) : He w V2 F xa xn xc xs q pb s D A U rd fe us ev al c2 sv := ⟨below_to h.1 hb, below_box h.2.1 hb, below_box h.2.2.1 hb, below_box h.2.2.2.1 hb, below_box h.2.2.2.2.1 hb, h.2.2.2.2.2.1.below hb, h.2.2.2.2.2.2⟩
theorem He.tell (h : He w V F xa xn xc xs q pb s D A U rd fe us ev al c2 sv) (b : Bool) {a0 : Option Addr} {n0 c0 : Nat} (h1 : sv[1]? = some (.slice a0 n0 c0)) : He w (V.setCell ⟨pb, 12, none⟩ (.bool b)) F xa xn xc xs q pb s D A U rd fe us ev al c2 (sv.setIfInBounds 12 (.bool b)) := by
  obtain ⟨x1, x2, x3, x4, x5, x6, x7, x8⟩ := h
  exact ⟨x1.setCell (p := ⟨pb, 12, none⟩) (by show w.heap.size ≤ pb; omega) _, (heap_setCell _ _ _ _ _ (by omega)).trans x2, (heap_setCell _ _ _ _ _ (by omega)).trans x3, (heap_setCell _ _ _ _ _ (by omega)).trans x4, set_box x5 12 _, x6.setC (fun z hz h0 => ref_ne x6 x5 _ h1 not_byte_slice hz h0), x7, x8⟩
theorem He.put2 (h : He w V F xa xn xc xs q pb s D A U rd fe us ev al #[.int .u64 0, .slice none 0 0, .int .i64 0, .int .u64 0, .int .u64 0, .int .u64 0, .bool false, .int .i64 0, .int .i64 0, .bool false, .bool false, .slice none 0 0, .bool false, .int .i64 0] sv) (c : Array Value) : (V.setRow (w.heap.size + 2) c).heap[w.heap.size + 2]? = some (.cells c 48 (0, 0)) ∧ RefIn F (V.setRow (w.heap.size + 2) c) (.slice xa xn xc) xn xs ∧ Below w.heap.size w (V.setRow (w.heap.size + 2) c) := ⟨setRow_heap _ _ _ _ _ _ h.2.2.2.1, h.2.2.2.2.2.1.setRow (fun z hz h0 => ref_ne h.2.2.2.2.2.1 h.2.2.2.1 _ rfl not_byte_slice hz h0), below_setRow h.1 (by omega) _⟩
end
theorem int_neq {a b : Nat} (h : ¬ a = b) : ((a : Int) != (b : Int)) = true := by simp; omega
theorem tell_same {M : Nat → Nat} {n A u : Nat} {ev : Bool} : tellB M n A u u ev = false := by simp [tellB]
end Go.Proofs.YtmjdnocilbnoaaaGreat
