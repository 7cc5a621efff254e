/- Texts put together. -/
import Derived.Test.YtmjdnocilbnoaaaGreatZi
import Derived.Test.YtmjdnocilbnoaaaGreatZa
import Derived.Test.YtmjdnocilbnoaaaGreatZb
import Derived.ProofKit
import Derived.OpenShut
import Derived.Deep.Slices
import Derived.Deep.MidRow
import Derived.ChangeKeysEq
import Derived.Laws.StructEq
import Derived.Test.YtmjdnocilbnoaaaGreatZc
import Derived.Laws.OwnMore
import Derived.Test.YtmjdnocilbnoaaaGreatRows
import Derived.Shelf.Small.Bits
import Derived.Shelf.Strconv.Itoa0
import Derived.BigQuiet
import Derived.Deep.QuietTactic
import Derived.Deep.RegionHeld3
import Derived.Deep.DeepMust
/- The queue: Serve. -/
namespace Go.Proofs.YtmjdnocilbnoaaaGreat
open Go.RowKit Go.Maps
set_option linter.unusedVariables false
set_option linter.unusedSimpArgs false
set_option maxRecDepth 100000
section
variable {σ : Type} {I : σ → (Nat → Prop) → World → Prop} {bud : σ → Nat} {rb qb df : Nat} {cap : Array Value} {dev : σ → (Nat → Nat) → Nat → Cn → Option (σ × (Nat → Nat) × Nat)}
theorem give_le {s : Int} {D A U : Nat} {rd al : Bool} : ∀ (k : Nat) (t : σ) (M : Nat → Nat) (fe us : Nat), fe ≤ 65535 → us ≤ 65535 → (giveR dev s D A U rd al k t M fe us).fe ≤ 65535 ∧ (giveR dev s D A U rd al k t M fe us).us ≤ 65535 := by
  intro k
  induction k with
  | zero => intro t M fe us h1 h2; exact ⟨h1, h2⟩
  | succ k ih =>
    intro t M fe us h1 h2
    obtain ⟨ft, hft⟩ : ∃ ft, fetchR M s D A U rd fe al = ft := ⟨_, rfl⟩
    cases ft with
    | non e => rw [give_non hft]; exact ⟨h1, h2⟩
    | got h c =>
      by_cases hz : c.e = 0
      case neg => rw [give_err hft hz]; exact ⟨up_le _, h2⟩
      case pos =>
        obtain ⟨dv, hdv⟩ : ∃ dv, dev t M h c = dv := ⟨_, rfl⟩
        cases dv with
        | none => rw [give_stay hft hz hdv]; exact ⟨h1, h2⟩
        | some tr =>
          obtain ⟨t', M', cnt⟩ := tr
          rw [give_more hft hz hdv]
          exact ih _ _ _ _ (up_le _) (up_le _)
def endM (R : Gv σ) (n U : Nat) (ev : Bool) : Nat → Nat := if R.e = 0 then askM R.M n U R.fe ev else R.M
/-- what Serve leaves -/
def Send (I : σ → (Nat → Prop) → World → Prop) (rb qb : Nat) (n : Nat) (D A U : Nat) (ev al : Bool) (w0 : World) (F0 O0 : Nat → Prop) (R : Gv σ) (w' : World) : Prop := ∃ (F O : Nat → Prop) (κ : Nat), RamAt w' F rb 8192 κ (.pointer none) (endM R n U ev) ∧ w'.heap[qb]? = some (.cells #[.int .i64 (n : Int), .int .u64 (D : Int), .int .u64 (A : Int), .int .u64 (U : Int), .bool true, .int .u16 (R.fe : Int), .int .u16 (R.us : Int), .bool ev, .bool al] 40 (0, 0)) ∧ I R.s O w' ∧ (∀ k, O k → ¬ F k ∧ k ≠ qb) ∧ ¬ F qb ∧ κ ≤ 900002 ∧ Step (fun k => (F0 k ∨ O0 k) ∨ k = qb) w0 (fun k => (F k ∨ O k) ∨ k = qb) w'
set_option maxHeartbeats 2000000 in
theorem serve_any (hd : Dvc rb df cap dev bud I) {n D A U : Nat} {ev al : Bool} (hg : Gd n D A U) {w0 : World} {F0 O0 : Nat → Prop} {t0 : σ} {M0 : Nat → Nat} {fe0 us0 κ0 : Nat} (hfe : fe0 ≤ 65535) (hus : us0 ≤ 65535) (h0 : Gl I bud rb qb (n : Int) D A U true ev al w0 F0 O0 w0 t0 M0 fe0 us0 F0 O0 κ0) (R : Gv σ) (hR : giveR dev (n : Int) D A U true al 65537 t0 M0 fe0 us0 = R) :
    Calls Tryz.prog 32 #[.pointer (some ⟨qb, 0, none⟩), .pointer (some ⟨rb, 0, none⟩), .func (.func df) #[] cap] w0 fun e w' => e = .returned (.tuple #[.bool (tellB (endM R n U ev) n A R.us us0 ev), .int .i64 R.e]) ∧ Send I rb qb n D A U ev al w0 F0 O0 R w' := by
  have KG : Hid (Calls Tryz.prog 72 #[.pointer (some ⟨qb, 0, none⟩), .pointer (some ⟨rb, 0, none⟩), .func (.func df) #[] cap] w0 fun e w' => e = .returned (.int .i64 R.e) ∧ Gend I rb qb (n : Int) D A U true ev al w0 F0 O0 R w') := give_any hd (gd_bounds hg).1 (gd_bounds hg).2.1 (gd_bounds hg).2.2 hfe hus h0 R hR
  have hle := give_le (dev := dev) (s := (n : Int)) (D := D) (A := A) (U := U) (rd := true) (al := al) 65537 t0 M0 fe0 us0 hfe hus
  rw [hR] at hle
  have HQ : Hid (w0.heap[qb]? = some (.cells #[.int .i64 (n : Int), .int .u64 (D : Int), .int .u64 (A : Int), .int .u64 (U : Int), .bool true, .int .u16 (fe0 : Int), .int .u16 (us0 : Int), .bool ev, .bool al] 40 (0, 0)) ∧ Gd n D A U ∧ us0 ≤ 65535 ∧ R.fe ≤ 65535 ∧ R.us ≤ 65535 ∧ Dvc rb df cap dev bud I) := ⟨h0.2.1, hg, hus, hle.1, hle.2, hd⟩
  obtain ⟨f0, f1, f2, f3, f4, f5, f6, f7, f8⟩ := box9_facts h0.2.1
  clear hd hg h0 hR hfe hus hle
  obtain ⟨t, M, fe, us, re⟩ := R
  have CALLG : Hid (Calls Tryz.prog 72 #[.pointer (some ⟨qb, 0, none⟩), .pointer (some ⟨rb, 0, none⟩), .func (.func df) #[] cap] w0 fun e w' => e = .returned (.int .i64 re) ∧ ∃ (F O : Nat → Prop) (κ : Nat), RamAt w' F rb 8192 κ (.pointer none) M ∧ w'.heap[qb]? = some (.cells #[.int .i64 (n : Int), .int .u64 (D : Int), .int .u64 (A : Int), .int .u64 (U : Int), .bool true, .int .u16 (fe : Int), .int .u16 (us : Int), .bool ev, .bool al] 40 (0, 0)) ∧ I t O w' ∧ (∀ k, O k → ¬ F k ∧ k ≠ qb) ∧ ¬ F qb ∧ κ ≤ 900000 ∧ Step (fun k => (F0 k ∨ O0 k) ∨ k = qb) w0 (fun k => (F k ∨ O k) ∨ k = qb) w') := KG.out
  clear KG
  by_cases hz : re = 0
  case neg =>
    have q1 : (re == 0) = false := by simpa using hz
    have HM : Hid (endM ⟨t, M, fe, us, re⟩ n U ev = M) := if_neg hz
    clear hz
    go_enter Tryz.func32, Tryz.ntmps32
    go_wp2_with (first | (go_at_call 42; refine (ready_any HQ.out.1).mono ?_; rintro e w1 ⟨rfl, rfl⟩) | (go_at_call 72; refine (CALLG.out).mono ?_; rintro e w2 ⟨rfl, F, O, κ, hr, hq, hi, hO, hn, hk, hs⟩; have X2 : Hid (RamAt w2 F rb 8192 κ (.pointer none) M ∧ w2.heap[qb]? = some (.cells #[.int .i64 (n : Int), .int .u64 (D : Int), .int .u64 (A : Int), .int .u64 (U : Int), .bool true, .int .u16 (fe : Int), .int .u16 (us : Int), .bool ev, .bool al] 40 (0, 0)) ∧ I t O w2 ∧ (∀ k, O k → ¬ F k ∧ k ≠ qb) ∧ ¬ F qb ∧ κ ≤ 900000 ∧ Step (fun k => (F0 k ∨ O0 k) ∨ k = qb) w1 (fun k => (F k ∨ O k) ∨ k = qb) w2) := ⟨hr, hq, hi, hO, hn, hk, hs⟩; clear hr hq hi hO hn hk hs f0 f1 f2 f3 f4 f5 f6 f7 f8; obtain ⟨f0, f1, f2, f3, f4, f5, f6, f7, f8⟩ := box9_facts X2.out.2.1) | (go_at_call 23; refine (tells_any X2.out.1 X2.out.2.1 HQ.out.2.1 us0 HQ.out.2.2.1 HQ.out.2.2.2.2.1).mono ?_; rintro e w3 ⟨rfl, hb3⟩; have X3 : Hid (Below w2.heap.size w2 w3) := hb3; clear hb3))
    go_ret2
    refine ⟨by rw [HM.out]; rfl, ?_⟩
    obtain ⟨h1, h2, h3, h4, h5, h6, h7⟩ := X2.out
    refine ⟨F, O, κ, ?_, below_box h2 X3.out, HQ.out.2.2.2.2.2.kept h3 X3.out.size (fun k hk => X3.out.block k (HQ.out.2.2.2.2.2.lt h3 k hk)), h4, h5, by omega, h7.trans (Step.of_below X3.out)⟩
    rw [HM.out]
    exact h1.below X3.out
  subst hz
  have HM : Hid (endM ⟨t, M, fe, us, 0⟩ n U ev = askM M n U fe ev) := if_pos rfl
  go_enter Tryz.func32, Tryz.ntmps32
  go_wp2_with (first | (go_at_call 42; refine (ready_any HQ.out.1).mono ?_; rintro e w1 ⟨rfl, rfl⟩) | (go_at_call 72; refine (CALLG.out).mono ?_; rintro e w2 ⟨rfl, F, O, κ, hr, hq, hi, hO, hn, hk, hs⟩; have X2 : Hid (RamAt w2 F rb 8192 κ (.pointer none) M ∧ w2.heap[qb]? = some (.cells #[.int .i64 (n : Int), .int .u64 (D : Int), .int .u64 (A : Int), .int .u64 (U : Int), .bool true, .int .u16 (fe : Int), .int .u16 (us : Int), .bool ev, .bool al] 40 (0, 0)) ∧ I t O w2 ∧ (∀ k, O k → ¬ F k ∧ k ≠ qb) ∧ ¬ F qb ∧ κ ≤ 900000 ∧ Step (fun k => (F0 k ∨ O0 k) ∨ k = qb) w1 (fun k => (F k ∨ O k) ∨ k = qb) w2) := ⟨hr, hq, hi, hO, hn, hk, hs⟩; clear hr hq hi hO hn hk hs f0 f1 f2 f3 f4 f5 f6 f7 f8; obtain ⟨f0, f1, f2, f3, f4, f5, f6, f7, f8⟩ := box9_facts X2.out.2.1) | (go_at_call 25; refine (ask_any X2.out.1 X2.out.2.1 HQ.out.2.1 X2.out.2.2.2.2.1 HQ.out.2.2.2.1 (by have := X2.out.2.2.2.2.2.1; omega)).mono ?_; rintro e w3 ⟨rfl, F3, hr3, hs3⟩; have X3 : Hid (RamAt w3 F3 rb 8192 (κ + 2) (.pointer none) (askM M n U fe ev) ∧ Step F w2 F3 w3 ∧ w3.heap[qb]? = some (.cells #[.int .i64 (n : Int), .int .u64 (D : Int), .int .u64 (A : Int), .int .u64 (U : Int), .bool true, .int .u16 (fe : Int), .int .u16 (us : Int), .bool ev, .bool al] 40 (0, 0))) := ⟨hr3, hs3, step_box hs3 X2.out.2.1 X2.out.2.2.2.2.1⟩; clear hr3 hs3) | (go_at_call 23; refine (tells_any X3.out.1 X3.out.2.2 HQ.out.2.1 us0 HQ.out.2.2.1 HQ.out.2.2.2.2.1).mono ?_; rintro e w4 ⟨rfl, hb4⟩; have X4 : Hid (Below w3.heap.size w3 w4) := hb4; clear hb4))
  go_ret2
  refine ⟨by rw [HM.out]; rfl, ?_⟩
  obtain ⟨h1, h2, h3, h4, h5, h6, h7⟩ := X2.out
  obtain ⟨g1, g2, g3⟩ := X3.out
  have hlt := fun k hk => HQ.out.2.2.2.2.2.lt h3 k hk
  have hqlt := (Array.getElem?_eq_some_iff.1 h2).1
  have i3 := HQ.out.2.2.2.2.2.kept h3 g2.size (fun k hk => g2.block k (hlt k hk) (h4 k hk).1)
  refine ⟨F3, O, κ + 2, ?_, below_box g3 X4.out, HQ.out.2.2.2.2.2.kept i3 X4.out.size (fun k hk => X4.out.block k (HQ.out.2.2.2.2.2.lt i3 k hk)), fun k hk => ⟨not_later g2 (hlt k hk) (h4 k hk).1, (h4 k hk).2⟩, not_later g2 hqlt h5, by omega, (h7.trans ?_).trans (Step.of_below X4.out)⟩
  · rw [HM.out]
    exact g1.below X4.out
  · exact step_or (step_or g2 (fun k hk => hlt k hk)) (fun k hk => by omega)
end
end Go.Proofs.YtmjdnocilbnoaaaGreat

/- The statements' device: it writes a byte to all that is to be written. -/
namespace Go.Proofs.YtmjdnocilbnoaaaGreat
open Go.RowKit Go.Maps
set_option linter.unusedVariables false
set_option linter.unusedSimpArgs false
set_option maxRecDepth 100000
/-- how the device's state lies: its own three boxes -/
def If (rb b ro mo bo : Nat) (t : Nat) (O : Nat → Prop) (w : World) : Prop := O = (fun k => k = ro ∨ k = mo ∨ k = bo) ∧ w.heap[ro]? = some (.cells #[.int .i64 (t : Int)] 3 (0, 0)) ∧ w.heap[mo]? = some (.cells #[.pointer (some ⟨rb, 0, none⟩)] 30 (0, 0)) ∧ w.heap[bo]? = some (.cells #[.int .u8 (b : Int)] 5 (0, 0)) ∧ ro ≠ mo ∧ ro ≠ bo ∧ t ≤ 40
def budF (t : Nat) : Nat := 4010 * t
theorem dev_no {b t : Nat} {M : Nat → Nat} {h : Nat} {c : Cn} (hn : devF b t M h c = none) : t = 0 := by
  unfold devF at hn
  by_cases h0 : t = 0
  · exact h0
  · rw [if_neg h0] at hn; cases hn
theorem dev_yes {b t : Nat} {M : Nat → Nat} {h : Nat} {c : Cn} {t' : Nat} {M' : Nat → Nat} {n : Nat} (hn : devF b t M h c = some (t', M', n)) : t ≠ 0 ∧ t' = t - 1 ∧ M' = fillM b c.l M ∧ n = cntN c.l := by
  unfold devF at hn
  by_cases h0 : t = 0
  · rw [if_pos h0] at hn; cases hn
  · rw [if_neg h0] at hn
    simp only [Option.some.injEq, Prod.mk.injEq] at hn
    exact ⟨h0, hn.1.symm, hn.2.1.symm, hn.2.2.symm⟩
theorem less_wrap (t : Nat) (h : t ≤ 40) (h0 : t ≠ 0) : wrap64 ((t : Int) - 1) = ((t - 1 : Nat) : Int) := by unfold wrap64; omega
theorem cnt_le (l : List Seg) : cntN l ≤ 4294967295 := by unfold cntN; split <;> omega
theorem dev_serve (rb b ro mo bo : Nat) (hb : b ≤ 255) : Dvc rb 33 #[.pointer (some ⟨ro, 0, none⟩), .pointer (some ⟨mo, 0, none⟩), .pointer (some ⟨bo, 0, none⟩)] (devF b) budF (If rb b ro mo bo) where
  cf := fun args V => by simp [go_sem]
  lt := by
    rintro t O w ⟨rfl, h1, h2, h3, _⟩ k (rfl | rfl | rfl)
    · exact (Array.getElem?_eq_some_iff.1 h1).1
    · exact (Array.getElem?_eq_some_iff.1 h2).1
    · exact (Array.getElem?_eq_some_iff.1 h3).1
  kept := by
    rintro t O w w' ⟨rfl, h1, h2, h3, h4⟩ _ hk
    exact ⟨rfl, (hk ro (.inl rfl)).trans h1, (hk mo (.inr (.inl rfl))).trans h2, (hk bo (.inr (.inr rfl))).trans h3, h4⟩
  le := by
    intro t M h c t' M' n hn _
    rw [(dev_yes hn).2.2.2]
    exact cnt_le _
  no := by
    intro t M h c F O κ w a cc hn hr hi hO hs
    have h0 := dev_no hn
    subst h0
    obtain ⟨rfl, h1, h2, h3, _⟩ := hi
    obtain ⟨L, hL⟩ : ∃ L, c.l.length = L := ⟨_, rfl⟩
    rw [hL]
    generalize c.ta = ta
    generalize c.tl = tl
    have XB : Hid (Below w.heap.size w (w.alloc (.cells #[.slice a L cc, .int .u64 (ta : Int), .int .u64 (tl : Int)] 59)) ∧ (w.alloc (.cells #[.slice a L cc, .int .u64 (ta : Int), .int .u64 (tl : Int)] 59)).heap[ro]? = some (.cells #[.int .i64 ((0 : Nat) : Int)] 3 (0, 0))) := ⟨one_box _ _, below_box h1 (one_box _ _)⟩
    clear h1 h2 h3 hn hr hO hs hL
    show Calls Tryz.prog 33 #[.agg #[.slice a L cc, .int .u64 (ta : Int), .int .u64 (tl : Int)], .pointer (some ⟨ro, 0, none⟩), .pointer (some ⟨mo, 0, none⟩), .pointer (some ⟨bo, 0, none⟩)] w _
    go_enter Tryz.func33, Tryz.ntmps33
    go_upto_region 1 with fail
    generalize w.alloc (.cells #[.slice a L cc, .int .u64 (ta : Int), .int .u64 (tl : Int)] 59) = v0 at *
    obtain ⟨r0, r1⟩ := box1_facts XB.out.2
    go_wp2_with fail
    go_ret2
    exact ⟨rfl, XB.out.1⟩
  yes := by
    intro t M h c F O κ w a cc t' M' n hn hr hκ hi hO hs hg hl hok
    obtain ⟨h0, rfl, rfl, rfl⟩ := dev_yes hn
    obtain ⟨rfl, h1, h2, h3, hne1, hne2, ht⟩ := hi
    have hw := less_wrap t ht h0
    have hz : ((t : Int) == 0) = false := by simp; omega
    have HX : Hid (t - 1 ≤ 40 ∧ ro ≠ mo ∧ ro ≠ bo ∧ ¬ F ro ∧ ¬ F mo ∧ ¬ F bo ∧ κ + 4010 * t ≤ 900000 ∧ t - 1 + 1 = t) := ⟨by omega, hne1, hne2, hO ro (.inl rfl), hO mo (.inr (.inl rfl)), hO bo (.inr (.inr rfl)), hκ, by omega⟩
    obtain ⟨t1, ht1⟩ : ∃ t1, t - 1 = t1 := ⟨_, rfl⟩
    rw [ht1] at hw HX ⊢
    obtain ⟨L, hL⟩ : ∃ L, c.l.length = L := ⟨_, rfl⟩
    have HL : Hid (c.l.length = L) := hL
    rw [hL] at hs hg ⊢
    generalize c.ta = ta
    generalize c.tl = tl
    have hbx : Below w.heap.size w (w.alloc (.cells #[.slice a L cc, .int .u64 (ta : Int), .int .u64 (tl : Int)] 59)) := one_box _ _
    have XB : Hid (Below w.heap.size w (w.alloc (.cells #[.slice a L cc, .int .u64 (ta : Int), .int .u64 (tl : Int)] 59)) ∧ (w.alloc (.cells #[.slice a L cc, .int .u64 (ta : Int), .int .u64 (tl : Int)] 59)).heap[ro]? = some (.cells #[.int .i64 (t : Int)] 3 (0, 0)) ∧ (w.alloc (.cells #[.slice a L cc, .int .u64 (ta : Int), .int .u64 (tl : Int)] 59)).heap[mo]? = some (.cells #[.pointer (some ⟨rb, 0, none⟩)] 30 (0, 0)) ∧ (w.alloc (.cells #[.slice a L cc, .int .u64 (ta : Int), .int .u64 (tl : Int)] 59)).heap[bo]? = some (.cells #[.int .u8 (b : Int)] 5 (0, 0)) ∧ (w.alloc (.cells #[.slice a L cc, .int .u64 (ta : Int), .int .u64 (tl : Int)] 59)).heap[w.heap.size]? = some (.cells #[.slice a L cc, .int .u64 (ta : Int), .int .u64 (tl : Int)] 59 (0, 0)) ∧ RamAt (w.alloc (.cells #[.slice a L cc, .int .u64 (ta : Int), .int .u64 (tl : Int)] 59)) F rb 8192 κ (.pointer none) M ∧ SegIn 0 (w.alloc (.cells #[.slice a L cc, .int .u64 (ta : Int), .int .u64 (tl : Int)] 59)) (.slice a L cc) c.l ∧ ro < w.heap.size) := ⟨hbx, below_box h1 hbx, below_box h2 hbx, below_box h3 hbx, heap_alloc_new _ _, hr.below hbx, hs.kept (fun g hg => hbx.block g (hs.lt g hg).2), (Array.getElem?_eq_some_iff.1 h1).1⟩
    have HS : Hid ((∀ g, (Value.slice a L cc).ownBlock = some g → g ≠ ro) ∧ c.l.length ≤ 1000 ∧ ∀ s ∈ c.l, SegOk s) := ⟨fun g hg' e => (hg g hg').2 (.inl e), hl, hok⟩
    clear h1 h2 h3 hn hr hO hs hL hbx hg hl hok hκ ht h0 ht1
    show Calls Tryz.prog 33 #[.agg #[.slice a L cc, .int .u64 (ta : Int), .int .u64 (tl : Int)], .pointer (some ⟨ro, 0, none⟩), .pointer (some ⟨mo, 0, none⟩), .pointer (some ⟨bo, 0, none⟩)] w _
    go_enter Tryz.func33, Tryz.ntmps33
    go_upto_region 1 with fail
    generalize w.alloc (.cells #[.slice a L cc, .int .u64 (ta : Int), .int .u64 (tl : Int)] 59) = v0 at *
    obtain ⟨r0, r1⟩ := box1_facts XB.out.2.1
    go_upto_region 4 with fail
    have X1 : Hid ((v0.setCell ⟨ro, 0, none⟩ (.int .i64 (t1 : Int))).heap[ro]? = some (.cells #[.int .i64 (t1 : Int)] 3 (0, 0)) ∧ (v0.setCell ⟨ro, 0, none⟩ (.int .i64 (t1 : Int))).heap[mo]? = some (.cells #[.pointer (some ⟨rb, 0, none⟩)] 30 (0, 0)) ∧ (v0.setCell ⟨ro, 0, none⟩ (.int .i64 (t1 : Int))).heap[bo]? = some (.cells #[.int .u8 (b : Int)] 5 (0, 0)) ∧ (v0.setCell ⟨ro, 0, none⟩ (.int .i64 (t1 : Int))).heap[w.heap.size]? = some (.cells #[.slice a L cc, .int .u64 (ta : Int), .int .u64 (tl : Int)] 59 (0, 0)) ∧ RamAt (v0.setCell ⟨ro, 0, none⟩ (.int .i64 (t1 : Int))) F rb 8192 κ (.pointer none) M ∧ SegIn 0 (v0.setCell ⟨ro, 0, none⟩ (.int .i64 (t1 : Int))) (.slice a L cc) c.l ∧ Step (fun k => F k ∨ (k = ro ∨ k = mo ∨ k = bo)) w (fun k => F k ∨ (k = ro ∨ k = mo ∨ k = bo)) (v0.setCell ⟨ro, 0, none⟩ (.int .i64 (t1 : Int)))) := by
      obtain ⟨x1, x2, x3, x4, x5, x6, x7, x8⟩ := XB.out
      obtain ⟨y1, y2, y3, y4, y5, y6, y7⟩ := HX.out
      refine ⟨set_box x2 0 _, (heap_setCell _ _ _ _ _ (fun e => y2 e.symm)).trans x3, (heap_setCell _ _ _ _ _ (fun e => y3 e.symm)).trans x4, (heap_setCell _ _ _ _ _ (by omega)).trans x5, x6.setCell y4 _ _, x7.kept (fun g hg => heap_setCell _ _ _ _ _ (HS.out.1 g hg)), (Step.of_below x1).trans ?_⟩
      have := step_set v0 ro 0 (.int .i64 (t1 : Int))
      exact ⟨this.os, this.tape, this.output, this.size, fun k hk hn => this.block k hk (fun e => hn (.inr (.inl e))), fun k hk => .inl hk, fun k hk => hk⟩
    clear XB r0 r1
    generalize v0.setCell ⟨ro, 0, none⟩ (.int .i64 (t1 : Int)) = w1 at *
    obtain ⟨m0, m1⟩ := box1_facts X1.out.2.1
    obtain ⟨n0, n1⟩ := box1_facts X1.out.2.2.1
    obtain ⟨p0, p1, p2⟩ := box3_facts X1.out.2.2.2.1
    go_wp2_with (go_at_call 34; refine (fill_any X1.out.2.2.2.2.1 (by have := HX.out; omega) X1.out.2.2.2.2.2.1 HS.out.2.1 HS.out.2.2 ta tl b hb).mono ?_; rintro e w2 ⟨rfl, F2, hr2, hs2⟩; have X2 : Hid (RamAt w2 F2 rb 8192 (κ + 4000) (.pointer none) (fillM b c.l M) ∧ Step F w1 F2 w2) := ⟨hr2, hs2⟩; clear hr2 hs2)
    go_ret2
    obtain ⟨y1, y2, y3, y4, y5, y6, y7, y8⟩ := HX.out
    obtain ⟨x1, x2, x3, x4, x5, x6, x7⟩ := X1.out
    obtain ⟨z1, z2⟩ := X2.out
    have l1 := (Array.getElem?_eq_some_iff.1 x1).1
    have l2 := (Array.getElem?_eq_some_iff.1 x2).1
    have l3 := (Array.getElem?_eq_some_iff.1 x3).1
    refine ⟨rfl, F2, fun k => k = ro ∨ k = mo ∨ k = bo, κ + 4000, z1, ⟨rfl, step_box z2 x1 y4, step_box z2 x2 y5, step_box z2 x3 y6, y2, y3, y1⟩, ?_, x7.trans (step_or z2 ?_), ?_⟩
    · rintro k (rfl | rfl | rfl)
      · exact not_later z2 l1 y4
      · exact not_later z2 l2 y5
      · exact not_later z2 l3 y6
    · rintro k (rfl | rfl | rfl)
      · exact l1
      · exact l2
      · exact l3
    · unfold budF; omega
end Go.Proofs.YtmjdnocilbnoaaaGreat

/- The statements' serve. -/
namespace Go.Proofs.YtmjdnocilbnoaaaGreat
open Go.RowKit Go.Maps
set_option linter.unusedVariables false
set_option linter.unusedSimpArgs false
set_option maxRecDepth 100000
theorem RamAt.more {w : World} {F G : Nat → Prop} {rb size n : Nat} {lg : Value} {M : Nat → Nat} (h : RamAt w F rb size n lg M) (hG : ∀ k, F k → G k) (hl : ∀ k, G k → k < w.heap.size) : RamAt w G rb size n lg M := by
  obtain ⟨bm, pg, D, h1, h2, h3, h4, h5, h6, f1, f2, f3, f4, h7⟩ := h
  exact ⟨bm, pg, D, h1, h2, h3, h4, h5, h6, hG _ f1, hG _ f2, fun k b hk => hG _ (f3 k b hk), hl, h7⟩
/-- behind the device's own boxes -/
theorem serve_end {w v0 w' : World} {F F' O O' : Nat → Prop} {qb : Nat} (hb : Below w.heap.size w v0) (hO : ∀ k, O k → w.heap.size ≤ k) (hs : Step (fun k => (F k ∨ O k) ∨ k = qb) v0 (fun k => (F' k ∨ O' k) ∨ k = qb) w') : Step (fun k => F k ∨ k = qb) w (fun k => (F' k ∨ O' k) ∨ k = qb) w' :=
  ⟨hs.os.trans hb.os, hs.tape.trans hb.tape, hs.output.trans hb.output, Nat.le_trans hb.size hs.size, fun k hk hn => (hs.block k (Nat.lt_of_lt_of_le hk hb.size) (fun hc => by
      rcases hc with (hc | hc) | hc
      · exact hn (.inl hc)
      · have := hO k hc; omega
      · exact hn (.inr hc))).trans (hb.block k hk), fun k hk => by
      rcases hs.old k hk with ((h | h) | h) | h
      · exact .inl (.inl h)
      · exact .inr (hO k h)
      · exact .inl (.inr h)
      · exact .inr (Nat.le_trans hb.size h), fun k hk => by
      rcases hk with hk | hk
      · exact hs.keep k (.inl (.inl hk))
      · exact .inr hk⟩
theorem if_lt {rb b ro mo bo t : Nat} {O : Nat → Prop} {w : World} (h : If rb b ro mo bo t O w) : ∀ k, O k → k < w.heap.size := by
  obtain ⟨rfl, h1, h2, h3, _⟩ := h
  rintro k (rfl | rfl | rfl)
  · exact (Array.getElem?_eq_some_iff.1 h1).1
  · exact (Array.getElem?_eq_some_iff.1 h2).1
  · exact (Array.getElem?_eq_some_iff.1 h3).1
set_option maxHeartbeats 1000000 in
theorem law_good {w : World} {F : Nat → Prop} {rb κ : Nat} {M : Nat → Nat} (hr : RamAt w F rb 8192 κ (.pointer none) M) {qb : Nat} {n D A U : Nat} {ev al : Bool} {fe us : Nat} (hq : w.heap[qb]? = some (.cells #[.int .i64 (n : Int), .int .u64 (D : Int), .int .u64 (A : Int), .int .u64 (U : Int), .bool true, .int .u16 (fe : Int), .int .u16 (us : Int), .bool ev, .bool al] 40 (0, 0))) (hg : Gd n D A U) (hF : ¬ F qb) (hfe : fe ≤ 65535) (hus : us ≤ 65535) (b t : Nat) (hb : b ≤ 255) (ht : t ≤ 40) (hκ : κ + budF t ≤ 900000) (R : Gv Nat) (hR : giveR (devF b) (n : Int) D A U true al 65537 t M fe us = R) : Calls Tryz.prog 11 #[.pointer (some ⟨rb, 0, none⟩), .pointer (some ⟨qb, 0, none⟩), .int .u8 (b : Int), .int .i64 (t : Int)] w fun r w' => r = .returned (.tuple #[.bool (tellB (endM R n U ev) n A R.us us ev), .int .i64 R.e]) ∧ ∃ (F' : Nat → Prop) (κ' : Nat), RamAt w' F' rb 8192 κ' (.pointer none) (endM R n U ev) ∧ w'.heap[qb]? = some (.cells #[.int .i64 (n : Int), .int .u64 (D : Int), .int .u64 (A : Int), .int .u64 (U : Int), .bool true, .int .u16 (R.fe : Int), .int .u16 (R.us : Int), .bool ev, .bool al] 40 (0, 0)) ∧ ¬ F' qb ∧ κ' ≤ 900002 ∧ Step (fun k => F k ∨ k = qb) w (fun k => F' k ∨ k = qb) w' := by
  have hmf : ∀ (fn : Fn) (first cap : Array Value) (w : World), (Instr.makeFunc fn first cap).run Tryz.prog w = .ok (.func fn first cap) w := fun _ _ _ _ => rfl
  have h3 := three_in w (.cells #[.pointer (some ⟨rb, 0, none⟩)] 30) (.cells #[.int .u8 (b : Int)] 5) (.cells #[.int .i64 (t : Int)] 3)
  have XB : Hid (Below w.heap.size w (((w.alloc (.cells #[.pointer (some ⟨rb, 0, none⟩)] 30)).alloc (.cells #[.int .u8 (b : Int)] 5)).alloc (.cells #[.int .i64 (t : Int)] 3)) ∧ (((w.alloc (.cells #[.pointer (some ⟨rb, 0, none⟩)] 30)).alloc (.cells #[.int .u8 (b : Int)] 5)).alloc (.cells #[.int .i64 (t : Int)] 3)).heap[w.heap.size]? = some (.cells #[.pointer (some ⟨rb, 0, none⟩)] 30 (0, 0)) ∧ 0 = 0) := ⟨h3.2.2.2, h3.1, rfl⟩
  have hgl : Gl (If rb b (w.heap.size + 2) (w.heap.size) (w.heap.size + 1)) budF rb qb (n : Int) D A U true ev al (((w.alloc (.cells #[.pointer (some ⟨rb, 0, none⟩)] 30)).alloc (.cells #[.int .u8 (b : Int)] 5)).alloc (.cells #[.int .i64 (t : Int)] 3)) F (fun k => k = w.heap.size + 2 ∨ k = w.heap.size ∨ k = w.heap.size + 1) (((w.alloc (.cells #[.pointer (some ⟨rb, 0, none⟩)] 30)).alloc (.cells #[.int .u8 (b : Int)] 5)).alloc (.cells #[.int .i64 (t : Int)] 3)) t M fe us F (fun k => k = w.heap.size + 2 ∨ k = w.heap.size ∨ k = w.heap.size + 1) κ := ⟨hr.below h3.2.2.2, below_box hq h3.2.2.2, ⟨rfl, h3.2.2.1, h3.1, h3.2.1, by omega, by omega, ht⟩, by
    have hql := (Array.getElem?_eq_some_iff.1 hq).1
    rintro k (rfl | rfl | rfl)
    · exact ⟨fun hf => by have := hr.lt _ hf; omega, by omega⟩
    · exact ⟨fun hf => by have := hr.lt _ hf; omega, by omega⟩
    · exact ⟨fun hf => by have := hr.lt _ hf; omega, by omega⟩, hF, hκ, Step.refl _ _⟩
  have KS : Hid (Calls Tryz.prog 32 #[.pointer (some ⟨qb, 0, none⟩), .pointer (some ⟨rb, 0, none⟩), .func (.func 33) #[] #[.pointer (some ⟨w.heap.size + 2, 0, none⟩), .pointer (some ⟨w.heap.size, 0, none⟩), .pointer (some ⟨w.heap.size + 1, 0, none⟩)]] (((w.alloc (.cells #[.pointer (some ⟨rb, 0, none⟩)] 30)).alloc (.cells #[.int .u8 (b : Int)] 5)).alloc (.cells #[.int .i64 (t : Int)] 3)) fun e w' => e = .returned (.tuple #[.bool (tellB (endM R n U ev) n A R.us us ev), .int .i64 R.e]) ∧ Send (If rb b (w.heap.size + 2) (w.heap.size) (w.heap.size + 1)) rb qb n D A U ev al (((w.alloc (.cells #[.pointer (some ⟨rb, 0, none⟩)] 30)).alloc (.cells #[.int .u8 (b : Int)] 5)).alloc (.cells #[.int .i64 (t : Int)] 3)) F (fun k => k = w.heap.size + 2 ∨ k = w.heap.size ∨ k = w.heap.size + 1) R w') := serve_any (dev_serve rb b _ _ _ hb) hg hfe hus hgl R hR
  clear hr hq hF hg hfe hus hb ht hκ hgl h3 hR
  obtain ⟨tb, htb⟩ : ∃ tb, tellB (endM R n U ev) n A R.us us ev = tb := ⟨_, rfl⟩
  rw [htb] at KS ⊢
  clear htb
  go_enter Tryz.func11, Tryz.ntmps11
  go_upto_region 1 with fail
  generalize ((w.alloc (.cells #[.pointer (some ⟨rb, 0, none⟩)] 30)).alloc (.cells #[.int .u8 (b : Int)] 5)).alloc (.cells #[.int .i64 (t : Int)] 3) = v0 at *
  obtain ⟨m0, m1⟩ := box1_facts XB.out.2.1
  go_wp2_with (go_at_call 32; refine (KS.out).mono ?_; rintro e w1 ⟨rfl, F1, O1, κ1, hr1, hq1, hi1, hO1, hn1, hk1, hs1⟩; have X1 : Hid (RamAt w1 F1 rb 8192 κ1 (.pointer none) (endM R n U ev) ∧ w1.heap[qb]? = some (.cells #[.int .i64 (n : Int), .int .u64 (D : Int), .int .u64 (A : Int), .int .u64 (U : Int), .bool true, .int .u16 (R.fe : Int), .int .u16 (R.us : Int), .bool ev, .bool al] 40 (0, 0)) ∧ If rb b (w.heap.size + 2) (w.heap.size) (w.heap.size + 1) R.s O1 w1 ∧ (∀ k, O1 k → ¬ F1 k ∧ k ≠ qb) ∧ ¬ F1 qb ∧ κ1 ≤ 900002 ∧ Step (fun k => (F k ∨ (fun k => k = w.heap.size + 2 ∨ k = w.heap.size ∨ k = w.heap.size + 1) k) ∨ k = qb) v0 (fun k => (F1 k ∨ O1 k) ∨ k = qb) w1) := ⟨hr1, hq1, hi1, hO1, hn1, hk1, hs1⟩; clear hr1 hq1 hi1 hO1 hn1 hk1 hs1)
  go_ret2
  obtain ⟨x1, x2, x3, x4, x5, x6, x7⟩ := X1.out
  exact ⟨rfl, fun k => F1 k ∨ O1 k, κ1, x1.more (fun k hk => .inl hk) (fun k hk => hk.elim (x1.lt k) (if_lt x3 k)), x2, fun hc => hc.elim x5 (fun ho => (x4 qb ho).2 rfl), x6, serve_end XB.out.1 (by rintro k (rfl | rfl | rfl) <;> omega) x7⟩
end Go.Proofs.YtmjdnocilbnoaaaGreat

/- Store of a memory that is not watched. -/
namespace Go.Proofs.YtmjdnocilbnoaaaGreat
open Go.RowKit Go.Maps
set_option linter.unusedVariables false
set_option linter.unusedSimpArgs false
set_option maxRecDepth 100000
theorem width_any (n : Int) (w : World) : Calls Tryz.prog 67 #[.int .i64 n] w fun e w' => e = .returned (.bool (widB n)) ∧ w' = w := by
  go_enter Tryz.func67, Tryz.ntmps67
  go_wp2
  all_goals (go_ret; exact ⟨ret_bool (by rw [Bool.eq_iff_iff]; simp [widB, *]; try omega), rfl⟩)
set_option maxHeartbeats 400000 in
theorem store_any {w : World} {F : Nat → Prop} {rb size n : Nat} {M : Nat → Nat} (h : RamAt w F rb size n (.pointer none) M) (hs : size ≤ 268435456) (x : Nat) (k : Int) (y : Nat) (hx : x < 18446744073709551616) (hy : y < 18446744073709551616) (hn : n + 8 ≤ 1000000) :
    Calls Tryz.prog 29 #[.pointer (some ⟨rb, 0, none⟩), .int .u64 (x : Nat), .int .i64 k, .int .u64 (y : Nat)] w fun e w' => e = .returned (.bool (widB k && inB x k 2147483648 size)) ∧ ∃ F', RamAt w' F' rb size (n + 8) (.pointer none) (if (widB k && inB x k 2147483648 size) = true then over M x k.toNat (byteAt y) else M) ∧ Step F w F' w' := by
  cases hw : widB k with
  | false =>
    rw [Bool.false_and, if_neg (by simp)]
    have H : Hid (widB k = false) := hw
    clear hw
    go_enter Tryz.func29, Tryz.ntmps29
    go_wp2_with (first | (go_at_call 67; refine (width_any k _).mono ?_; rintro e w' ⟨rfl, rfl⟩; rw [H.out]))
    go_ret
    exact ⟨rfl, F, h.mono (by omega), Step.refl _ _⟩
  | true =>
    rw [Bool.true_and]
    have hk : k = 1 ∨ k = 2 ∨ k = 4 ∨ k = 8 := by simpa [widB] using hw
    obtain ⟨L, rfl⟩ : ∃ L : Nat, k = L := ⟨k.toNat, by omega⟩
    have hL : L ≤ 8 := by omega
    have H : Hid (widB L = true) := hw
    clear hw hk
    rw [Int.toNat_natCast]
    obtain ⟨Q, hQ⟩ : ∃ Q, Q = (if inB x L 2147483648 size = true then over M x L (byteAt y) else M) := ⟨_, rfl⟩
    rw [← hQ]
    have HQ : Hid (Q = (if inB x L 2147483648 size = true then over M x L (byteAt y) else M)) := hQ
    clear hQ
    go_enter Tryz.func29, Tryz.ntmps29
    go_wp2_with (first | (go_at_call 67; refine (width_any _ _).mono ?_; rintro e w' ⟨rfl, rfl⟩; rw [H.out]) | (go_at_call 68; refine (bytes_any y L L hy (by omega) _).mono ?_; rintro e w1 ⟨v, rfl, hown, hb⟩) | (go_at_call 30; refine (write_any (h.below hb) hs x L (byteAt y) _ hx (reads_ownF hown h.lt) (fun i _ => byteAt_le y i) (by omega)).mono ?_; rintro e w2 ⟨rfl, F2, h2, hs2⟩))
    go_ret
    exact ⟨rfl, F2, by rw [HQ.out]; exact h2.mono (by omega), (Step.of_below hb).trans hs2⟩
end Go.Proofs.YtmjdnocilbnoaaaGreat

/- The example, plain. -/
namespace Go.Proofs.YtmjdnocilbnoaaaGreat
open Go.RowKit Go.Maps
set_option linter.unusedVariables false
set_option linter.unusedSimpArgs false
set_option maxRecDepth 100000
theorem ex_gd : Gd 2 2147483648 2147483904 2147484160 := ⟨by kernel_rfl, by decide, by decide, by kernel_rfl, by decide, by decide, by decide, by decide, by decide⟩
theorem ex_e : (giveR (devF 7) ((2 : Nat) : Int) 2147483648 2147483904 2147484160 true false 65537 9 (over (over (fun _ => 0) 2147483648 8 (byteAt 2147487744)) 2147483906 2 (byteAt 2)) 0 0).e = 0 := by kernel_rfl
theorem ex_fe : (giveR (devF 7) ((2 : Nat) : Int) 2147483648 2147483904 2147484160 true false 65537 9 (over (over (fun _ => 0) 2147483648 8 (byteAt 2147487744)) 2147483906 2 (byteAt 2)) 0 0).fe = 2 := by kernel_rfl
theorem ex_us : (giveR (devF 7) ((2 : Nat) : Int) 2147483648 2147483904 2147484160 true false 65537 9 (over (over (fun _ => 0) 2147483648 8 (byteAt 2147487744)) 2147483906 2 (byteAt 2)) 0 0).us = 2 := by kernel_rfl
theorem ex_tell : tellB (endM (giveR (devF 7) ((2 : Nat) : Int) 2147483648 2147483904 2147484160 true false 65537 9 (over (over (fun _ => 0) 2147483648 8 (byteAt 2147487744)) 2147483906 2 (byteAt 2)) 0 0) 2 2147484160 false) 2 2147483904 2 0 false = true := by kernel_rfl
theorem ex_new : rightB 8192 = true := by decide
theorem ex_p1 : (widB 8 && inB (2147483648 : Nat) 8 2147483648 (8192 : Nat)) = true := by decide
theorem ex_p2 : (widB 2 && inB (2147483906 : Nat) 2 2147483648 (8192 : Nat)) = true := by decide
end Go.Proofs.YtmjdnocilbnoaaaGreat

/- The example: two chains offered are used, and told. -/
namespace Go.Proofs.YtmjdnocilbnoaaaGreat
open Go.RowKit Go.Maps
set_option linter.unusedVariables false
set_option linter.unusedSimpArgs false
set_option maxRecDepth 100000
def Aq (w V : World) (F : Nat → Prop) (rb k : Nat) (M : Nat → Nat) (p : Nat) (fe us : Int) : Prop := RamAt V F rb 8192 k (.pointer none) M ∧ (∀ z, F z → w.heap.size ≤ z) ∧ Below w.heap.size w V ∧ V.heap[p]? = some (.cells #[.int .i64 2, .int .u64 2147483648, .int .u64 2147483904, .int .u64 2147484160, .bool true, .int .u16 fe, .int .u16 us, .bool false, .bool false] 40 (0, 0)) ∧ ¬ F p ∧ w.heap.size ≤ p
theorem Aq.step {w V V2 : World} {F F2 : Nat → Prop} {rb k k2 p : Nat} {M M2 : Nat → Nat} {fe us : Int} (h : Aq w V F rb k M p fe us) (hr : RamAt V2 F2 rb 8192 k2 (.pointer none) M2) (hs : Step F V F2 V2) : Aq w V2 F2 rb k2 M2 p fe us := by
  have hlt := (Array.getElem?_eq_some_iff.1 h.2.2.2.1).1
  have hw := h.2.2.1.size
  exact ⟨hr, hs.base hw h.2.1, h.2.2.1.trans (hs.below hw h.2.1), (hs.block p hlt h.2.2.2.2.1).trans h.2.2.2.1, not_later hs hlt h.2.2.2.2.1, h.2.2.2.2.2⟩
set_option maxHeartbeats 2000000 in
theorem awake_any (w : World) : Calls Tryz.prog 6 #[] w fun e w' => e = .returned (.bool true) ∧ Below w.heap.size w w' := by
  have KN : Hid (Calls Tryz.prog 28 #[.int .u64 8192] w fun e w' => ∃ rb F, e = .returned (.tuple #[.pointer (some ⟨rb, 0, none⟩), .int .i64 0]) ∧ RamAt w' F rb 8192 0 (.pointer none) (fun _ => 0) ∧ (∀ k, F k → w.heap.size ≤ k) ∧ Below w.heap.size w w') := new_yes 8192 ex_new w
  have K1 : Hid (∀ V F rb p, Aq w V F rb 0 (fun _ => 0) p 0 0 → Calls Tryz.prog 29 #[.pointer (some ⟨rb, 0, none⟩), .int .u64 2147483648, .int .i64 8, .int .u64 2147487744] V fun e w' => e = .returned (.bool true) ∧ ∃ F', Aq w w' F' rb 8 (over (fun _ => 0) 2147483648 8 (byteAt 2147487744)) p 0 0) := by
    intro V F rb p h
    have := store_any h.1 (by omega) 2147483648 8 2147487744 (by omega) (by omega) (by omega)
    rw [ex_p1, if_pos rfl] at this
    refine this.mono ?_
    rintro e w' ⟨he, F', hr, hs⟩
    exact ⟨he, F', h.step hr hs⟩
  have K2 : Hid (∀ V F rb p, Aq w V F rb 8 (over (fun _ => 0) 2147483648 8 (byteAt 2147487744)) p 0 0 → Calls Tryz.prog 29 #[.pointer (some ⟨rb, 0, none⟩), .int .u64 2147483906, .int .i64 2, .int .u64 2] V fun e w' => e = .returned (.bool true) ∧ ∃ F', Aq w w' F' rb 16 (over (over (fun _ => 0) 2147483648 8 (byteAt 2147487744)) 2147483906 2 (byteAt 2)) p 0 0) := by
    intro V F rb p h
    have := store_any h.1 (by omega) 2147483906 2 2 (by omega) (by omega) (by omega)
    rw [ex_p2, if_pos rfl] at this
    refine this.mono ?_
    rintro e w' ⟨he, F', hr, hs⟩
    exact ⟨he, F', h.step hr hs⟩
  have KS : Hid (∀ V F rb p, Aq w V F rb 16 (over (over (fun _ => 0) 2147483648 8 (byteAt 2147487744)) 2147483906 2 (byteAt 2)) p 0 0 → Calls Tryz.prog 11 #[.pointer (some ⟨rb, 0, none⟩), .pointer (some ⟨p, 0, none⟩), .int .u8 7, .int .i64 9] V fun e w' => e = .returned (.tuple #[.bool true, .int .i64 0]) ∧ w'.heap[p]? = some (.cells #[.int .i64 2, .int .u64 2147483648, .int .u64 2147483904, .int .u64 2147484160, .bool true, .int .u16 2, .int .u16 2, .bool false, .bool false] 40 (0, 0)) ∧ Below w.heap.size w w') := by
    intro V F rb p h
    have := law_good (n := 2) (D := 2147483648) (A := 2147483904) (U := 2147484160) (ev := false) (al := false) (fe := 0) (us := 0) h.1 h.2.2.2.1 ex_gd h.2.2.2.2.1 (by decide) (by decide) 7 9 (by decide) (by decide) (by decide) _ rfl
    rw [ex_e, ex_us, ex_fe, ex_tell] at this
    refine this.mono ?_
    rintro e w' ⟨he, F', κ', hr, hq, hF, hk, hs⟩
    refine ⟨he, hq, h.2.2.1.trans (hs.below h.2.2.1.size (fun k hk => ?_))⟩
    rcases hk with hk | hk
    · exact h.2.1 k hk
    · rw [hk]; exact h.2.2.2.2.2
  go_enter Tryz.func6, Tryz.ntmps6
  go_upto_region 4 with (go_at_call 28; refine (KN.out).mono ?_; rintro e w1 ⟨rb, F, rfl, hr, hF, hb⟩)
  go_upto_region 5 with fail
  have X1 : Hid (Aq w (w1.alloc (.cells #[.int .i64 2, .int .u64 2147483648, .int .u64 2147483904, .int .u64 2147484160, .bool true, .int .u16 0, .int .u16 0, .bool false, .bool false] 40)) F rb 0 (fun _ => 0) w1.heap.size 0 0) := ⟨hr.below (one_box _ _), hF, hb.trans ((Below.refl _ _).alloc hb.size _), heap_alloc_new _ _, fun hf => by have := hr.lt _ hf; omega, hb.size⟩
  clear hr hF hb KN
  generalize w1.alloc (.cells #[.int .i64 2, .int .u64 2147483648, .int .u64 2147483904, .int .u64 2147484160, .bool true, .int .u16 0, .int .u16 0, .bool false, .bool false] 40) = w2 at *
  generalize w1.heap.size = p at *
  go_upto_region 6 with (go_at_call 29; refine (K1.out _ _ _ _ X1.out).mono ?_; rintro e w3 ⟨rfl, F3, h3⟩; have X2 : Hid (Aq w w3 F3 rb 8 (over (fun _ => 0) 2147483648 8 (byteAt 2147487744)) p 0 0) := h3; clear h3 X1)
  clear K1
  go_upto_region 7 with (go_at_call 29; refine (K2.out _ _ _ _ X2.out).mono ?_; rintro e w4 ⟨rfl, F4, h4⟩; have X3 : Hid (Aq w w4 F4 rb 16 (over (over (fun _ => 0) 2147483648 8 (byteAt 2147487744)) 2147483906 2 (byteAt 2)) p 0 0) := h4; clear h4 X2)
  clear K2
  go_wp2_with (go_at_call 11; refine (KS.out _ _ _ _ X3.out).mono ?_; rintro e w5 ⟨rfl, hq5, hb5⟩; have X5 : Hid (w5.heap[p]? = some (.cells #[.int .i64 2, .int .u64 2147483648, .int .u64 2147483904, .int .u64 2147484160, .bool true, .int .u16 2, .int .u16 2, .bool false, .bool false] 40 (0, 0)) ∧ Below w.heap.size w w5) := ⟨hq5, hb5⟩; clear hq5 hb5 X3; obtain ⟨c0, c1, c2, c3, c4, c5, c6, c7, c8⟩ := box9_facts X5.out.1)
  go_ret
  exact ⟨rfl, X5.out.2⟩
end Go.Proofs.YtmjdnocilbnoaaaGreat

/- What the statements are handed: a queue, numbers. -/
namespace Go.Proofs.YtmjdnocilbnoaaaGreat
open Go.RowKit Go.ChangeShapes Go.WideShapes Go.ChangeAt
set_option linter.unusedVariables false
set_option linter.unusedSimpArgs false
set_option maxRecDepth 100000
theorem cellsQ : Tryz.prog.cellsOf 27 = 9 := by kernel_rfl
theorem cellsL17 : Tryz.prog.cellsOf 25 = 4 := by kernel_rfl
theorem cellsI17 : Tryz.prog.cellsOf 3 = 1 := by kernel_rfl
theorem cellsB17 : Tryz.prog.cellsOf 4 = 1 := by kernel_rfl
theorem cellsU17 : Tryz.prog.cellsOf 23 = 1 := by kernel_rfl
theorem list_nine {α : Type} (l : List α) (h : l.length = 9) : ∃ a b c d e f g h i, l = [a, b, c, d, e, f, g, h, i] := by
  match l, h with
  | [a, b, c, d, e, f, g, h, i], _ => exact ⟨a, b, c, d, e, f, g, h, i, rfl⟩
theorem list_six {α : Type} (l : List α) (h : l.length = 6) : ∃ a b c d e f, l = [a, b, c, d, e, f] := by
  match l, h with
  | [a, b, c, d, e, f], _ => exact ⟨a, b, c, d, e, f, rfl⟩
theorem list_three {α : Type} (l : List α) (h : l.length = 3) : ∃ a b c, l = [a, b, c] := by
  match l, h with
  | [a, b, c], _ => exact ⟨a, b, c, rfl⟩
section
variable {H : Type} {enc : TypeId × Value → H} {W : World} {spare : Nat → Bool} {held : Bool}
theorem open_lays {n : Nat} {cs : List Value} {x : DataW H × List MemPlace} (h : DataW.trod enc Tryz.prog W 0 (fun _ => true) held n 25 cs = some x) :
    ∃ (s : Int) (D A Uu : Nat), cs = [.int .i64 s, .int .u64 (D : Int), .int .u64 (A : Int), .int .u64 (Uu : Int)] ∧ (Lit.int .i64 s).wf = true ∧ D < 18446744073709551616 ∧ A < 18446744073709551616 ∧ Uu < 18446744073709551616 := by
  obtain ⟨xs, m, _, _, hl, hlen, hff⟩ := DataW.trod_struct Tryz.underlying25 h
  rw [cellsL17] at hl
  obtain ⟨c0, c1, c2, c3, rfl⟩ := list_four _ hl
  obtain ⟨y0, y1, y2, y3, rfl⟩ := list_four xs hlen
  have h0 := hff 0 _ rfl
  have h1 := hff 1 _ rfl
  have h2 := hff 2 _ rfl
  have h3 := hff 3 _ rfl
  simp [cellsI17, cellsU17] at h0 h1 h2 h3
  obtain ⟨z0, e0, _, w0⟩ := DataW.trod_int Tryz.underlying3 h0
  obtain ⟨z1, e1, _, w1⟩ := DataW.trod_int Tryz.underlying23 h1
  obtain ⟨z2, e2, _, w2⟩ := DataW.trod_int Tryz.underlying23 h2
  obtain ⟨z3, e3, _, w3⟩ := DataW.trod_int Tryz.underlying23 h3
  simp at e0 e1 e2 e3
  obtain ⟨n1, rfl, g1⟩ := nat_u64 w1
  obtain ⟨n2, rfl, g2⟩ := nat_u64 w2
  obtain ⟨n3, rfl, g3⟩ := nat_u64 w3
  subst e0 e1 e2 e3
  exact ⟨z0, n1, n2, n3, rfl, w0, g1, g2, g3⟩
theorem open_queue {r : Reach} {b0 : Nat} {x : Value} {d : DataW H} {p : List MemPlace} (hv : Value.okWide Tryz.prog W r b0 27 x) (h : DataW.Trod enc Tryz.prog W 0 (fun _ => true) held 27 x d p) :
    ∃ (s : Int) (D A U : Nat) (rd : Bool) (fi ui : Int) (ev al : Bool), x = .agg #[.int .i64 s, .int .u64 (D : Int), .int .u64 (A : Int), .int .u64 (U : Int), .bool rd, .int .i64 fi, .int .i64 ui, .bool ev, .bool al] ∧ D < 18446744073709551616 ∧ A < 18446744073709551616 ∧ U < 18446744073709551616 := by
  obtain ⟨cs, rfl⟩ := open_agg Tryz.underlying27 hv
  obtain ⟨fuel, hf⟩ := h
  obtain ⟨xs, m, _, _, hl, hlen, hff⟩ := DataW.trod_struct Tryz.underlying27 hf
  rw [cellsQ] at hl
  obtain ⟨c0, c1, c2, c3, c4, c5, c6, c7, c8, hcs⟩ := list_nine _ hl
  simp only [Value.cells] at hcs hff
  rw [hcs] at hff
  obtain ⟨y0, y1, y2, y3, y4, y5, rfl⟩ := list_six xs hlen
  have h0 := hff 0 _ rfl
  have h1 := hff 1 _ rfl
  have h2 := hff 2 _ rfl
  have h3 := hff 3 _ rfl
  have h4 := hff 4 _ rfl
  have h5 := hff 5 _ rfl
  simp [cellsL17, cellsI17, cellsB17] at h0 h1 h2 h3 h4 h5
  obtain ⟨s, D, A, Uu, e0, _, hD, hA, hU⟩ := open_lays h0
  obtain ⟨z1, e1, _⟩ := DataW.trod_bool Tryz.underlying4 h1
  obtain ⟨z2, e2, _, w2⟩ := DataW.trod_int Tryz.underlying3 h2
  obtain ⟨z3, e3, _, w3⟩ := DataW.trod_int Tryz.underlying3 h3
  obtain ⟨z4, e4, _⟩ := DataW.trod_bool Tryz.underlying4 h4
  obtain ⟨z5, e5, _⟩ := DataW.trod_bool Tryz.underlying4 h5
  simp at e0 e1 e2 e3 e4 e5
  obtain ⟨rfl, rfl, rfl, rfl⟩ := e0
  subst e1 e2 e3 e4 e5
  refine ⟨s, D, A, Uu, z1, z2, z3, z4, z5, ?_, hD, hA, hU⟩
  cases cs; simp_all
theorem open_u323 {r : Reach} {b0 : Nat} {x : Value} {d : DataW H} {p : List MemPlace} (hv : Value.okWide Tryz.prog W r b0 71 x) (h : DataW.Trod enc Tryz.prog W 0 (fun _ => true) held 71 x d p) :
    ∃ (a b c : Nat), x = .agg #[.int .u32 (a : Int), .int .u32 (b : Int), .int .u32 (c : Int)] ∧ a ≤ 4294967295 ∧ b ≤ 4294967295 ∧ c ≤ 4294967295 := by
  obtain ⟨cs, rfl, hsz, _⟩ : ∃ cs, x = .agg cs ∧ cs.size = Tryz.prog.cellsOf 71 ∧ Row.okWide Tryz.prog W r b0 71 cs := by
    simpa [Value.okWide, Tryz.underlying71] using hv
  rw [show Tryz.prog.cellsOf 71 = 3 from by kernel_rfl] at hsz
  obtain ⟨l⟩ := cs
  obtain ⟨c0, c1, c2, rfl⟩ := list_three l hsz
  obtain ⟨fuel, hf⟩ := h
  obtain ⟨xs, m, rfl, hx, _, hl, hi⟩ := DataW.trod_array Tryz.underlying71 hf
  obtain ⟨y0, y1, y2, rfl⟩ := list_three xs hl
  have h0 := hi 0 (by omega)
  have h1 := hi 1 (by omega)
  have h2 := hi 2 (by omega)
  simp [Value.cells, show Tryz.prog.cellsOf 70 = 1 from by kernel_rfl] at h0 h1 h2
  obtain ⟨x0, e0, _, w0⟩ := DataW.trod_int Tryz.underlying70 h0
  obtain ⟨x1, e1, _, w1⟩ := DataW.trod_int Tryz.underlying70 h1
  obtain ⟨x2, e2, _, w2⟩ := DataW.trod_int Tryz.underlying70 h2
  simp at e0 e1 e2
  obtain ⟨n0, rfl, g0⟩ := nat_u32 w0
  obtain ⟨n1, rfl, g1⟩ := nat_u32 w1
  obtain ⟨n2, rfl, g2⟩ := nat_u32 w2
  subst e0 e1 e2
  exact ⟨n0, n1, n2, rfl, by omega, by omega, by omega⟩
end
end Go.Proofs.YtmjdnocilbnoaaaGreat

/- Pages as a whole: loaded, stored; the call look of layer 2. -/
namespace Go.Proofs.YtmjdnocilbnoaaaGreat
open Go.RowKit Go.Maps
set_option linter.unusedVariables false
theorem size81 : (Tryz.prog.info? 96).map (·.size) = some 4096 := by kernel_rfl
theorem pageRow_list (f : Nat → Nat) : (pageRow f).toList = rowK .u8 f 4096 := by simp [pageRow]
theorem pageRow_all (f : Nat → Nat) : ∀ v ∈ (pageRow f).toList, v.oneCell' = true := by rw [pageRow_list]; exact rowK_one _ _ _
theorem run_load81 {w : World} {b : Nat} {f : Nat → Nat} (hb : w.heap[b]? = some (.cells (pageRow f) 96 (0, 0))) : (Instr.loadAt 96 (.pointer (some ⟨b, 0, none⟩))).run Tryz.prog w = .ok (.agg (pageRow f)) w := by
  have h := run_loadAt_mid (P := Tryz.prog) w b 0 96 (rowK .u8 f 4096) _ (fun j v hv => ?_) Tryz.underlying96 rfl (by rw [rowK_length]; exact size81)
  · rw [h, pageRow]
  · obtain ⟨hj, rfl⟩ := rowK_at _ _ _ _ _ hv
    simp only [World.cell?, hb]
    rw [Nat.zero_add]
    exact pageRow_get f j hj
theorem run_store81 {w : World} {g : Nat} {cur : Array Value} (f : Nat → Nat) (hg : w.heap[g]? = some (.cells cur 96 (0, 0))) (hs : cur.size = 4096) : (Instr.storeAt 96 (.pointer (some ⟨g, 0, none⟩)) (.agg (pageRow f))).run Tryz.prog w = .ok () (w.setRow g (pageRow f)) := by
  have hst := run_storeCells_at Tryz.prog g 0 96 (pageRow f).toList 0 cur w hg (by rw [pageRow_list, rowK_length]; omega) (pageRow_all f)
  have e : (cur.toList.take (0 + 0) ++ (pageRow f).toList ++ cur.toList.drop (0 + 0 + (pageRow f).toList.length)).toArray = pageRow f := by
    rw [pageRow_list, rowK_length, List.take_zero, List.nil_append, List.drop_eq_nil_of_le (by simp; omega), List.append_nil]
    rfl
  rw [e] at hst
  cases hq : Tryz.prog.info? 96 with
  | none => have := size81; simp [hq] at this
  | some i =>
    have hi : i.size = 4096 := by have := size81; simpa [hq] using this
    have hne : ¬ (pageRow f).size ≠ 4096 := by rw [pageRow_size]; simp
    simp only [Instr.storeAt, Instr.sureAddr, Sem.run_bind, Sem.run_pure, Result.andThen_ok, storeVar, sizeOf, typeInfo, Value.cells, run_program, hq, hi, hne, if_false, hst]
section
variable {w : World} {ops : Array Oper} {rest : List Oper} {o : Oper} {a : Act} {Q : Exit → Act → World → Prop}
theorem wpList_load81 (hg : o.guard = none) (x : Operand) (hop : o.op = Op.load 96 x) (b : Nat) (f : Nat → Nat) (hx : a.eval x = .pointer (some ⟨b, 0, none⟩)) (hb : w.heap[b]? = some (.cells (pageRow f) 96 (0, 0))) (h : wpList Tryz.prog ops Q rest (a.put o.dst (.agg (pageRow f))) w) : wpList Tryz.prog ops Q (o :: rest) a w := by
  refine wpList_plain hg fun K hK => ?_
  unfold Oper.wp
  simp [execOp, hop, hx, run_load81 hb, Result.andThen]
  exact hK _ _ h
theorem wpList_store81 (hg : o.guard = none) (p x : Operand) (hop : o.op = Op.store 96 p x) (g : Nat) (f : Nat → Nat) (cur : Array Value) (hp : a.eval p = .pointer (some ⟨g, 0, none⟩)) (hx : a.eval x = .agg (pageRow f)) (hgg : w.heap[g]? = some (.cells cur 96 (0, 0))) (hs : cur.size = 4096) (h : wpList Tryz.prog ops Q rest (a.put o.dst undef) (w.setRow g (pageRow f))) : wpList Tryz.prog ops Q (o :: rest) a w := by
  refine wpList_plain hg fun K hK => ?_
  unfold Oper.wp
  simp [execOp, hop, hp, hx, run_store81 f hgg hs, Result.andThen]
  exact hK _ _ h
end
theorem look_any {w : World} {F : Nat → Prop} {rb size n : Nat} {lg : Value} {M : Nat → Nat} (h : RamAt w F rb size n lg M) (k : Nat) (hk : k < 18446744073709551616) :
    Calls Tryz.prog 38 #[.pointer (some ⟨rb, 0, none⟩), .int .u64 (k : Nat)] w fun e w' => ∃ b, e = .returned (.pointer (some ⟨b, 0, none⟩)) ∧ w'.heap[b]? = some (.cells (pageRow (fun i => M (k * 4096 + i))) 96 (0, 0)) ∧ Below w.heap.size w w' := by
  obtain ⟨bm, pg, D, h⟩ := h
  have hlk := pages_look h.2.1 h.2.2.1 k hk
  have hc1 := h.cell1
  cases hp : pg k with
  | some b =>
    rw [hp, ptrOf_some] at hlk
    have X : Hid _ := h.2.2.2.1 k b hp
    clear h hp
    go_enter Tryz.func38, Tryz.ntmps38
    go_wp2_with (first | (at_lookup; refine wpList_lookup_run rfl _ _ 90 rfl rfl rfl hlk ?_))
    go_ret
    exact ⟨b, rfl, X.out, Below.refl _ _⟩
  | none =>
    rw [hp, ptrOf_none] at hlk
    have X : Hid _ := h.2.2.2.2.1 k hp
    clear h hp
    go_enter Tryz.func38, Tryz.ntmps38
    go_wp2_with (first | (at_lookup; refine wpList_lookup_run rfl _ _ 90 rfl rfl rfl hlk ?_) | (refine wpList_alloc81 rfl rfl ?_))
    go_ret
    refine ⟨w.heap.size, rfl, ?_, (Below.refl _ _).alloc (Nat.le_refl _) _⟩
    rw [heap_alloc_new, zeroPage_row, pageRow_congr _ _ (fun i hi => (X.out i hi).symm)]
end Go.Proofs.YtmjdnocilbnoaaaGreat

/- The call Copy of layer 2: a memory with the same bytes, of its own. -/
namespace Go.Proofs.YtmjdnocilbnoaaaGreat
open Go.RowKit Go.Maps
set_option linter.unusedVariables false
theorem lit_same {j k : Nat} (hk : k < 18446744073709551616) : (Lit.int .u64 (j : Nat)).sameKey (.int .u64 (k : Nat)) = decide (j = k) := by
  by_cases e : j = k
  · subst e
    rw [WideAt.sameKey_self (keyed25.key (key25 hk))]; simp
  · rw [Maps.sameKey_ne (fun h => e (by simp at h; omega))]; simp [e]
theorem paged_has {D : DataW Unit} {pg : Nat → Option Nat} (hp : Paged D pg) (k : Nat) : Maps.has D (.int .u64 (k : Nat)) = (pg k).isSome := by
  rcases hp k with ⟨e, h⟩ | ⟨b, e, h⟩
  · rw [e, Maps.has_false_of_atKey h]; rfl
  · rw [e, Maps.has_true_of_atKey h]; rfl
section
variable (w : World) {ops : Array Oper} {rest : List Oper} {o : Oper} {a : Act} {Q : Exit → Act → World → Prop}
/-- the next page of a map that is ranged over, whichever it is -/
theorem wpList_next_pages (hg : o.guard = none) (it : Operand) (hop : o.op = Op.next it false) (b r n : Nat) (D : DataW Unit) (pg : Nat → Option Nat) (left : Lit → Bool) (cnt : Nat) (hit : a.eval it = .pointer (some ⟨r, 0, none⟩)) (h : w.ranges Tryz.prog 23 ptrElem b r n D left cnt) (hp : Paged D pg)
    (hDone : (∀ k : Nat, left (.int .u64 (k : Nat)) = false) → wpList Tryz.prog ops Q rest (a.put o.dst (.tuple #[.bool false])) w)
    (hMore : ∀ (k c : Nat) (w' : World) (cnt' : Nat), k < 18446744073709551616 → left (.int .u64 (k : Nat)) = true → pg k = some c → w'.ranges Tryz.prog 23 ptrElem b r n D (fun z => left z && !z.sameKey (.int .u64 (k : Nat))) cnt' → cnt' < cnt →
      w.grownBy w' (some r) → w'.heap.size = w.heap.size → (Instr.entry (.pointer (some ⟨r, 0, none⟩))).run Tryz.prog w' = .ok (.tuple #[.int .u64 (k : Nat), .pointer (some ⟨c, 0, none⟩)]) w' → wpList Tryz.prog ops Q rest (a.put o.dst (.tuple #[.bool true, .int .u64 (k : Nat), .pointer (some ⟨c, 0, none⟩)])) w') :
    wpList Tryz.prog ops Q (o :: rest) a w := by
  refine wpList_next_ranges w hg it hop 23 keyed25 ptrElem (Value.int .u64) (fun c : Nat => Value.pointer (some ⟨c, 0, none⟩)) (fun key kl hkey => by obtain ⟨x, rfl, _⟩ := Maps.keyOf_int_inv Tryz.underlying23 hkey; exact ⟨x, rfl⟩) (fun v y hv => by obtain ⟨c, rfl, _⟩ := ptrElem_inv hv; exact ⟨c, rfl⟩) b r n D left cnt hit h (fun _ hl => hDone (fun k => hl _)) ?_
  intro x c kl y w' cnt' hkey hlk hv hat hrg hlt hgr hsz hen
  obtain ⟨x', ex, rfl, hwx⟩ := Maps.keyOf_int_inv Tryz.underlying23 hkey
  cases ex
  have hb := bounds_u64 hwx
  obtain ⟨k, rfl⟩ : ∃ k : Nat, x = k := ⟨x.toNat, by omega⟩
  obtain ⟨c', ec, rfl⟩ := ptrElem_inv hv
  have ec2 : c = c' := by simpa using ec
  subst ec2
  have hpk : pg k = some c := by
    rcases hp k with ⟨e, h2⟩ | ⟨b', e, h2⟩
    · have := (hat .nil).symm.trans (h2 .nil); cases this
    · have := lit_inj ((hat .nil).symm.trans (h2 .nil)); rw [e, this]
  exact hMore k c w' cnt' (by omega) hlk hpk hrg hlt hgr hsz hen
end
theorem run_makeMap_hint (w : World) (c : Int) : (Instr.makeMap 90 (some (.int .i64 c))).run Tryz.prog w = .ok (.map (some w.heap.size)) (w.alloc (.map #[] 0)) := by
  have hu := run_underlying (w := w) Tryz.underlying90
  simp only [Instr.makeMap, Sem.run_bind, hu, Result.andThen_ok, asInt, asIntOf, Sem.run_pure]
  rfl
/-- a copy that is being made: pages that are no longer to come lie in it -/
def Copying (w wr : World) (bm size n : Nat) (D : DataW Unit) (pg : Nat → Option Nat) (M : Nat → Nat) (left : Lit → Bool) (cnt : Nat) : Prop :=
  ∃ n2 D2 pg2, wr.ranges Tryz.prog 23 ptrElem bm (w.heap.size + 2) n D left cnt ∧ wr.heap[w.heap.size + 1]? = some (.cells #[.int .u64 (size : Nat), .map (some w.heap.size), .pointer none] 93 (0, 0)) ∧ wr.ownsMap Tryz.prog 23 ptrElem w.heap.size n2 D2 ∧ Paged D2 pg2 ∧ n2 + cnt ≤ n ∧ Below w.heap.size w wr ∧ w.heap.size + 3 ≤ wr.heap.size ∧
    (∀ k b, pg2 k = some b → w.heap.size + 3 ≤ b ∧ b < wr.heap.size ∧ wr.heap[b]? = some (.cells (pageRow (fun i => M (k * 4096 + i))) 96 (0, 0))) ∧ (∀ k k' b, pg2 k = some b → pg2 k' = some b → k = k') ∧ (∀ k : Nat, left (.int .u64 (k : Nat)) = true → pg2 k = none) ∧ (∀ k : Nat, left (.int .u64 (k : Nat)) = false → (pg2 k).isSome = (pg k).isSome)
theorem grown_setRow (w : World) (g : Nat) (row : Array Value) : w.grownBy (w.setRow g row) (some g) := ⟨rfl, rfl, rfl, by simp [World.setRow], fun k hk hne => setRow_other w g k row (fun e => hne (by rw [e]))⟩
theorem Below.of_grown {B : Nat} {w w' : World} {row : Option Nat} (h : w.grownBy w' row) (hB : B ≤ w.heap.size) (hr : ∀ k, row = some k → B ≤ k) : Below B w w' := Below.grown (Below.refl _ _) h hB hr
/-- a page has come, and was laid -/
theorem copying_step {w wr w1 : World} {bm size n : Nat} {D : DataW Unit} {pg : Nat → Option Nat} {M : Nat → Nat} {left : Lit → Bool} {cnt cnt' k : Nat} (h : Copying w wr bm size n D pg M left cnt) (hn : n ≤ 1000000) (hbm : bm < w.heap.size) (hk : k < 18446744073709551616) (hlk : left (.int .u64 (k : Nat)) = true) (hpk : (pg k).isSome = true)
    (hrg : w1.ranges Tryz.prog 23 ptrElem bm (w.heap.size + 2) n D (fun z => left z && !z.sameKey (.int .u64 (k : Nat))) cnt') (hlt : cnt' < cnt) (hg : wr.grownBy w1 (some (w.heap.size + 2))) (hsz : w1.heap.size = wr.heap.size) :
    w1.heap[w.heap.size + 1]? = some (.cells #[.int .u64 (size : Nat), .map (some w.heap.size), .pointer none] 93 (0, 0)) ∧ Below w.heap.size w w1 ∧ w.heap.size + 3 ≤ w1.heap.size ∧
    ∃ w4, (Instr.mapUpdate 90 (.map (some w.heap.size)) (.int .u64 (k : Nat)) (.pointer (some ⟨w1.heap.size, 0, none⟩))).run Tryz.prog ((w1.alloc (.cells zeroPage 96)).setRow w1.heap.size (pageRow (fun i => M (k * 4096 + i)))) = .ok () w4 ∧
      Copying w w4 bm size n D pg M (fun z => left z && !z.sameKey (.int .u64 (k : Nat))) cnt' := by
  obtain ⟨n2, D2, pg2, h1, h2, h3, h4, h5, h6, h7, h8, h9, h10, h11⟩ := h
  have hne : ∀ q, q ≠ w.heap.size + 2 → q < wr.heap.size → w1.heap[q]? = wr.heap[q]? := fun q hq hl => hg.block q hl (fun e => hq (by cases e; rfl))
  have o1 := h3.kept hg (by simp)
  have hB1 : Below w.heap.size w w1 := Below.grown h6 hg h6.size (fun q hq => by cases hq; omega)
  have hb1 := (hne _ (by omega) (by omega)).trans h2
  have a1 := World.grownBy_alloc w1 (.cells zeroPage 96) none
  have e1 : (w1.alloc (.cells zeroPage 96)).heap.size = w1.heap.size + 1 := by simp
  have a2 := grown_setRow (w1.alloc (.cells zeroPage 96)) w1.heap.size (pageRow (fun i => M (k * 4096 + i)))
  have hnew : ((w1.alloc (.cells zeroPage 96)).setRow w1.heap.size (pageRow (fun i => M (k * 4096 + i)))).heap[w1.heap.size]? = some (.cells (pageRow (fun i => M (k * 4096 + i))) 96 (0, 0)) := setRow_heap _ _ _ _ 96 _ (heap_alloc_new w1 _)
  have o2 := (o1.alloc (.cells zeroPage 96)).kept a2 (fun e => by have := Option.some.inj e; omega)
  have r2 := (hrg.alloc (.cells zeroPage 96)).kept a2 (fun e => by have := Option.some.inj e; omega) (fun e => by have := Option.some.inj e; omega)
  obtain ⟨w4, D4, hrun, p1, p2, p3⟩ := pages_put o2 h4 k w1.heap.size hk (by unfold maxLen; omega)
  have e3 : ((w1.alloc (.cells zeroPage 96)).setRow w1.heap.size (pageRow (fun i => M (k * 4096 + i)))).heap.size = w1.heap.size + 1 := by simp [World.setRow]
  have old : ∀ q, q < w1.heap.size → q ≠ w.heap.size → w4.heap[q]? = w1.heap[q]? := fun q hq hq2 => by
    rw [p3.block q (by omega) (fun e => hq2 (by cases e; rfl)), a2.block q (by omega) (fun e => by have := Option.some.inj e; omega)]
    exact a1.block q hq (by simp)
  refine ⟨hb1, hB1, by omega, w4, hrun, n2 + 1, D4, _, r2.kept p3 (fun e => by have := Option.some.inj e; omega) (fun e => by have := Option.some.inj e; omega), (old _ (by omega) (by omega)).trans hb1, p1, p2, by omega, ?_, by have := p3.size; omega, ?_, ?_, ?_, ?_⟩
  · exact ((hB1.trans (Below.of_grown a1 hB1.size (by simp))).trans (Below.of_grown a2 (by have := hB1.size; omega) (fun q hq => by cases hq; exact hB1.size))).trans (Below.of_grown p3 (by have := hB1.size; omega) (fun q hq => by cases hq; exact Nat.le_refl _))
  · intro j b hj
    by_cases e : j = k
    · subst e
      simp only [if_true] at hj
      cases hj
      exact ⟨by omega, by have := p3.size; omega, (p3.block _ (by omega) (fun e => by have := Option.some.inj e; omega)).trans hnew⟩
    · simp only [e, if_false] at hj
      obtain ⟨x1, x2, x3⟩ := h8 j b hj
      exact ⟨x1, by have := p3.size; omega, ((old b (by omega) (by omega)).trans (hne b (by omega) x2)).trans x3⟩
  · intro j j' b hj hj'
    by_cases e : j = k <;> by_cases e' : j' = k
    · omega
    · simp only [e, e', if_true, if_false] at hj hj'
      cases hj; have := (h8 _ _ hj').2.1; omega
    · simp only [e, e', if_true, if_false] at hj hj'
      cases hj'; have := (h8 _ _ hj).2.1; omega
    · simp only [e, e', if_false] at hj hj'
      exact h9 _ _ _ hj hj'
  · intro j hj
    simp only [Bool.and_eq_true, lit_same hk, Bool.not_eq_true', decide_eq_false_iff_not] at hj
    simp only [hj.2, if_false]
    exact h10 j hj.1
  · intro j hj
    by_cases e : j = k
    · subst e; simp [hpk]
    · simp only [lit_same hk, e, decide_false, Bool.not_false, Bool.and_true] at hj
      simp only [e, if_false]
      exact h11 j hj
theorem copying_done {w wr : World} {F : Nat → Prop} {rb bm size n : Nat} {lg : Value} {D : DataW Unit} {pg : Nat → Option Nat} {M : Nat → Nat} {left : Lit → Bool} {cnt : Nat} (h : Copying w wr bm size n D pg M left cnt) (hl : ∀ k : Nat, left (.int .u64 (k : Nat)) = false) (h0 : RamIn w F rb size n lg M bm pg D) :
    ∃ F2, RamAt wr F2 (w.heap.size + 1) size n (.pointer none) M ∧ (∀ k, F2 k → w.heap.size ≤ k) ∧ Below w.heap.size w wr := by
  obtain ⟨n2, D2, pg2, h1, h2, h3, h4, h5, h6, h7, h8, h9, h10, h11⟩ := h
  refine ⟨fun k => k = w.heap.size ∨ k = w.heap.size + 1 ∨ ∃ j, pg2 j = some k, ⟨w.heap.size, pg2, D2, h2, h3.mono (by omega), h4, fun k b hk => (h8 k b hk).2.2, fun k hk i hi => ?_, h9, .inr (.inl rfl), .inl rfl, fun k b hk => .inr (.inr ⟨k, hk⟩), ?_, h0.2.2.2.2.2.2.2.2.2.2⟩, ?_, h6⟩
  · have e := h11 k (hl k)
    rw [hk] at e
    have hn : pg k = none := by cases hp : pg k with | none => rfl | some b => rw [hp] at e; cases e
    exact h0.2.2.2.2.1 k hn i hi
  · rintro k (rfl | rfl | ⟨j, hj⟩)
    · omega
    · omega
    · exact (h8 j k hj).2.1
  · rintro k (rfl | rfl | ⟨j, hj⟩)
    · omega
    · omega
    · have := (h8 j k hj).1; omega
set_option maxRecDepth 100000 in
set_option maxHeartbeats 1000000 in
theorem copy_any {w : World} {F : Nat → Prop} {rb size n : Nat} {lg : Value} {M : Nat → Nat} (h : RamAt w F rb size n lg M) (hn : n ≤ 1000000) :
    Calls Tryz.prog 9 #[.pointer (some ⟨rb, 0, none⟩)] w fun e w' => ∃ rb2 F2, e = .returned (.pointer (some ⟨rb2, 0, none⟩)) ∧ RamAt w' F2 rb2 size n (.pointer none) M ∧ (∀ k, F2 k → w.heap.size ≤ k) ∧ Below w.heap.size w w' := by
  obtain ⟨bm, pg, D, h⟩ := h
  have hc1 := h.cell1
  have hc0 : w.cell? ⟨rb, 0, none⟩ = some (.int .u64 (size : Nat)) := by have := h.1; simp [World.cell?, this]
  have hmm := run_makeMap_hint
  have hlen : (Builtin.len_ #[90] 3 #[.map (some bm)]).run Tryz.prog w.drew = .ok (.int .i64 (Maps.size D)) w.drew := (World.ownsMap.drew h.2.1).len Tryz.underlying90 3
  have hrb : rb < w.heap.size := h.2.2.2.2.2.2.2.2.2.1 rb h.2.2.2.2.2.2.1
  have H : Hid _ := h
  clear h
  go_enter Tryz.func9, Tryz.ntmps9
  go_wp2
  go_region
  all_goals go_wp2_with (first | (at_range; refine wpList_range_own _ rfl _ 90 rfl 23 94 keyed25 Tryz.underlying90 ptrElem bm n D rfl (by exact ((H.out.2.1.alloc _).alloc _)) ?_; intro w0 hrg0 hg0 hs0))
  go_frame
  have er : ((w.alloc (.map #[] 0)).alloc (.cells #[.int .u64 (size : Nat), .map (some w.heap.size), .pointer none] 93)).drew.heap.size = w.heap.size + 2 := by simp
  rw [er]
  have hbm : bm < w.heap.size := H.out.2.1.lt
  have hstart : Copying w w0 bm size n D pg M (Maps.has D) (Maps.size D) := by
    rw [er] at hrg0 hs0
    have f1 : Below w.heap.size w ((w.alloc (.map #[] 0)).alloc (.cells #[.int .u64 (size : Nat), .map (some w.heap.size), .pointer none] 93)).drew := (two_boxes _ _ _).drew
    refine ⟨0, .map [], fun _ => none, hrg0, ?_, ?_, paged_made, by rw [Nat.zero_add]; exact H.out.2.1.size_le, f1.trans (Below.of_grown hg0 f1.size (by simp)), by omega, fun k b hk => (by cases hk), fun k k' b hk => (by cases hk), fun k _ => rfl, fun k hk => (by rw [← paged_has H.out.2.2.1 k, hk]; rfl)⟩
    · rw [hg0.block _ (by omega) (by simp)]
      have := heap_alloc_new (w.alloc (.map #[] 0)) (.cells #[.int .u64 (size : Nat), .map (some w.heap.size), .pointer none] 93)
      rw [show w.heap.size + 1 = (w.alloc (.map #[] 0)).heap.size from by simp]
      exact this
    · exact (((World.ownsMap_made w Tryz.prog 23 ptrElem).alloc _).drew).kept hg0 (by simp)
  clear hrg0 hg0 hs0
  go_loopw [4] (fun _ wr => ∃ left cnt, Copying w wr bm size n D pg M left cnt) (fun _ wr => wr.rangeLeft bm (w.heap.size + 2))
  case atStart => exact ⟨_, _, hstart⟩
  case round =>
    obtain ⟨left, cnt, hco⟩ := hrel
    clear hstart
    have hrg : wr.ranges Tryz.prog 23 ptrElem bm (w.heap.size + 2) n D left cnt := by obtain ⟨n2, D2, pg2, h1, _⟩ := hco; exact h1
    have C : Hid _ := hco
    clear hco
    go_wp2_with (first | (at_next; refine wpList_next_pages _ rfl _ rfl bm (w.heap.size + 2) n D pg left cnt rfl hrg H.out.2.2.1 ?_ ?_))
    · intro hl0
      have L : Hid _ := hl0
      clear hl0
      go_wp2
      go_ret
      obtain ⟨F2, r1, r2, r3⟩ := copying_done C.out L.out H.out
      exact ⟨_, F2, rfl, r1, r2, r3⟩
    · intro k c w1 cnt1 hk hlk hpk hrg1 hlt hg1 hs1 hen
      obtain ⟨hb1, hB1, hsz1, w4, hrun, hco4⟩ := copying_step C.out hn hbm hk hlk (by rw [hpk]; rfl) hrg1 hlt hg1 hs1
      have hpage : w1.heap[c]? = some (.cells (pageRow (fun i => M (k * 4096 + i))) 96 (0, 0)) := (hB1.block c (H.out.2.2.2.2.2.2.2.2.2.1 c (H.out.2.2.2.2.2.2.2.2.1 k c hpk))).trans (H.out.2.2.2.1 k c hpk)
      have hcell : ((w1.alloc (.cells zeroPage 96)).setRow w1.heap.size (pageRow (fun i => M (k * 4096 + i)))).cell? ⟨w.heap.size + 1, 1, none⟩ = some (.map (some w.heap.size)) := by
        have e : ((w1.alloc (.cells zeroPage 96)).setRow w1.heap.size (pageRow (fun i => M (k * 4096 + i)))).heap[w.heap.size + 1]? = some (.cells #[.int .u64 (size : Nat), .map (some w.heap.size), .pointer none] 93 (0, 0)) := by
          rw [setRow_other _ _ _ _ (by omega), (World.grownBy_alloc w1 _ none).block _ (by omega) (by simp)]; exact hb1
        simp only [World.cell?, e]; rfl
      have hzp : (w1.alloc (.cells zeroPage 96)).heap[w1.heap.size]? = some (.cells zeroPage 96 (0, 0)) := heap_alloc_new w1 _
      have hzs : zeroPage.size = 4096 := by rw [zeroPage_row, pageRow_size]
      have X : Hid (_ ∧ _ ∧ _ ∧ _ ∧ _ ∧ _ ∧ _) := ⟨hpage, hzp, hzs, hrun, hco4, hrg, hlt⟩
      clear hpage hzp hzs hrun hco4 hrg hlt hrg1 hg1 hs1 hpk hlk hb1 hB1
      go_wp2_with (first | (refine wpList_load81 rfl _ rfl c (fun i => M (k * 4096 + i)) rfl X.out.1 ?_) | (refine wpList_alloc81 rfl rfl ?_) | (refine wpList_store81 rfl _ _ rfl w1.heap.size (fun i => M (k * 4096 + i)) zeroPage rfl rfl X.out.2.1 X.out.2.2.1 ?_) | (at_mapUpdate; refine wpList_mapUpdate_run rfl _ _ _ 90 rfl rfl rfl rfl X.out.2.2.2.1 ?_))
      go_frame
      go_roundw
      case rel => exact ⟨_, _, X.out.2.2.2.2.1⟩
      case measure =>
        obtain ⟨n2, D2, pg2, h1, _⟩ := X.out.2.2.2.2.1
        rw [h1.left_eq, X.out.2.2.2.2.2.1.left_eq]
        exact X.out.2.2.2.2.2.2
end Go.Proofs.YtmjdnocilbnoaaaGreat

/- Two pages compared whole. -/
namespace Go.Proofs.YtmjdnocilbnoaaaGreat
open Go.RowKit Go.Maps
set_option linter.unusedVariables false
def pageEq (f g : Nat → Nat) : Bool := (List.range 4096).all fun i => f i == g i
theorem pageEq_iff (f g : Nat → Nat) : pageEq f g = true ↔ ∀ i, i < 4096 → f i = g i := by simp [pageEq, List.all_eq_true]
theorem plain5 : Tryz.prog.plainKey 5 = true := by kernel_rfl
theorem under5 : Tryz.prog.underlying 5 = some (.int .u8) := by kernel_rfl
theorem cells5 : Tryz.prog.cellsOf 5 = 1 := by kernel_rfl
theorem guard81 : Tryz.prog.eqGuardType Tryz.prog.depth 96 = false := by kernel_rfl
theorem run_items (d : Nat) (f g : Nat → Nat) (w : World) : ∀ is : List Nat, (∀ i ∈ is, i < 4096) → (Op.eqItems (d + 1) 5 1 (pageRow f) (pageRow g) is).run Tryz.prog w = .ok (is.all fun i => f i == g i) w
  | [], _ => by simp [Op.eqItems]
  | i :: is, h => by
    have hi : i < 4096 := h i (by simp)
    have p1 := run_part_plain (P := Tryz.prog) w plain5 (pageRow_get f i hi)
    have p2 := run_part_plain (P := Tryz.prog) w plain5 (pageRow_get g i hi)
    have p3 := run_equalIn_int (P := Tryz.prog) w d 5 .u8 .u8 (f i : Nat) (g i : Nat) under5
    have ih := run_items d f g w is (fun j hj => h j (by simp [hj]))
    have e : ((f i : Int) == (g i : Int)) = (f i == g i) := by rw [Bool.eq_iff_iff]; simp; omega
    rw [e] at p3
    simp only [Op.eqItems, Sem.run_bind, Nat.mul_one, p1, p2, p3, Result.andThen_ok, List.all_cons]
    cases f i == g i
    · simp
    · simpa using ih
theorem run_neq81 (f g : Nat → Nat) (w : World) : (binOp .neq 96 (.agg (pageRow f)) (.agg (pageRow g))).run Tryz.prog w = .ok (.bool (!pageEq f g)) w := by
  rw [run_neq_struct]
  cases hq : Tryz.prog.info? 5 with
  | none => have : (Tryz.prog.info? 5).isSome = true := by kernel_rfl
            simp [hq] at this
  | some i =>
    rw [run_equalIn_array (P := Tryz.prog) w 9999 (pageRow f) (pageRow g) Tryz.underlying96 hq, cells5, run_items 9998 f g w _ (by simp)]
    rfl
section
variable {w : World} {ops : Array Oper} {rest : List Oper} {o : Oper} {a : Act} {Q : Exit → Act → World → Prop}
end
end Go.Proofs.YtmjdnocilbnoaaaGreat

/- The call stretch of layer 2: a list of pieces with a byte more. -/
namespace Go.Proofs.YtmjdnocilbnoaaaGreat
open Go.RowKit Go.Maps
set_option linter.unusedVariables false
/-- the pieces with a byte more, whose address lies above them -/
def stretchL (l : List (Nat × Nat)) (x : Nat) : List (Nat × Nat) :=
  match l.getLast? with
  | some p => if p.1 + p.2 = x then l.dropLast ++ [(p.1, p.2 + 1)] else l ++ [(x, 1)]
  | none => [(x, 1)]
theorem stretchL_nil (x : Nat) : stretchL [] x = [(x, 1)] := rfl
theorem stretchL_join (l : List (Nat × Nat)) (p L : Nat) : stretchL (l ++ [(p, L)]) (p + L) = l ++ [(p, L + 1)] := by simp [stretchL]
theorem stretchL_new (l : List (Nat × Nat)) (p L x : Nat) (h : p + L ≠ x) : stretchL (l ++ [(p, L)]) x = l ++ [(p, L)] ++ [(x, 1)] := by simp [stretchL, h]
/-- what stretch leaves -/
def Stretched (B : Nat) (w w' : World) (v v' : Value) (l : List (Nat × Nat)) (x : Nat) : Prop :=
  SpanIn B w' v' (stretchL l x) ∧ w.grownBy w' v.ownBlock ∧ (v'.ownBlock = v.ownBlock ∨ ∃ g, v'.ownBlock = some g ∧ w.heap.size ≤ g)
theorem stretched_of_added {B : Nat} {w w' : World} {v v' : Value} {l : List (Nat × Nat)} {x : Nat} (h : Added B w w' v v' l x 1) (e : stretchL l x = l ++ [(x, 1)]) : Stretched B w w' v v' l x := by
  unfold Stretched; rw [e]; exact h
theorem grown_drews (w : World) (n : Nat) (row : Option Nat) : w.grownBy (w.drewN n) row := ⟨rfl, rfl, rfl, Nat.le_refl _, fun _ _ _ => rfl⟩
theorem stretched_drew {B : Nat} {w w' : World} {q : Nat} {v v' : Value} {l : List (Nat × Nat)} {x : Nat} (h : Added B (w.drewN q) w' v v' l x 1) (e : stretchL l x = l ++ [(x, 1)]) : Stretched B w w' v v' l x :=
  stretched_of_added (w := w) ⟨h.1, (grown_drews w q _).trans h.2.1, by simpa using h.2.2⟩ e
theorem spanRow_length (l : List (Nat × Nat)) : (spanRow l).length = l.length * 2 := by
  induction l with
  | nil => rfl
  | cons p r ih => simp [spanRow] at ih ⊢; omega
theorem spanRow_set (l : List (Nat × Nat)) (p L L' : Nat) : (spanRow (l ++ [(p, L)])).set (l.length * 2 + 1) (.int .u64 (L' : Nat)) = spanRow (l ++ [(p, L')]) := by
  rw [spanRow_snoc, spanRow_snoc, List.set_append_right _ _ (by rw [spanRow_length]; omega), spanRow_length, show l.length * 2 + 1 - l.length * 2 = 1 from by omega]
  rfl
set_option maxRecDepth 100000 in
set_option maxHeartbeats 1000000 in
theorem stretch_any {B : Nat} {w : World} {v : Value} {l : List (Nat × Nat)} (h : SpanIn B w v l) (x : Nat) (hx : x < 18446744073709551616) (hl : l.length < 10000) (hB : B ≤ w.heap.size) (hlo : ∀ p ∈ l, p.1 + p.2 < 18446744073709551615) :
    Calls Tryz.prog 39 #[v, .int .u64 (x : Nat)] w fun e w' => ∃ v', e = .returned v' ∧ Stretched B w w' v v' l x := by
  obtain ⟨i0, hi, hz0, hz1, hz2⟩ := info_parts Tryz.info57
  rcases List.eq_nil_or_concat l with rfl | ⟨r, ⟨p, L⟩, rfl⟩
  · obtain ⟨a, c, rfl⟩ := h.form
    have H : Hid _ := h
    clear h
    go_enter Tryz.func39, Tryz.ntmps39
    go_wp2
    go_quiet (fail)
    go_wp2_with (first | (at_builtin; refine wpList_append_own_at _ rfl _ _ 51 rfl B 57 i0 (.agg #[.int .u64 0, .int .u64 0]) 2 16 Tryz.underlying51 hi hz0 hz1 hz2 rfl (by decide) _ 0 (spanRow []) rfl (World.ownsRow.alloc H.out _) ⟨w.heap.size, 0, none⟩ 1 1 [.int .u64 (x : Nat), .int .u64 (1 : Nat)] rfl rfl (two_new _ _ _ _) (by intro u hu; simp at hu; rcases hu with rfl | rfl <;> rfl) (by unfold maxLen; omega) (by omega) (by simp; omega) ?_; intro v' w1 hown' hgrow hnil hat))
    go_ret
    exact ⟨v', rfl, stretched_drew (added_of hown' hgrow hat) (stretchL_nil x)⟩
  · rw [List.concat_eq_append] at *
    obtain ⟨g, c, rfl, hc⟩ := h.cells (by simp)
    have hL := hlo (p, L) (by simp)
    have hlen : (r ++ [(p, L)]).length = r.length + 1 := by simp
    obtain ⟨c1, c2⟩ := hc r.length (by omega)
    have e1 : (r ++ [(p, L)]).getD r.length (0, 0) = (p, L) := by simp [List.getD]
    rw [e1] at c1 c2
    have hfz := World.ownsRow.frozenAt h (r.length * 2 + 1)
    have H : Hid _ := h
    clear h hc hlo e1
    rw [hlen] at hl H ⊢
    generalize hm : r.length = m at *
    have hm1 : (m : Int) < 10000 := by omega
    by_cases hjo : p + L = x
    · subst hjo
      go_enter Tryz.func39, Tryz.ntmps39
      go_wp2
      go_quiet (fail)
      go_wp2
      go_ret
      have hs := World.ownsRow.stored (w := w.drewN nq) H.out (m * 2 + 1) (.int .u64 ((L : Int) + 1))
      refine ⟨_, rfl, ?_, (grown_drews w nq _).trans hs.2, .inl rfl⟩
      have h1 := hs.1
      rw [show ((L : Int) + 1) = ((L + 1 : Nat) : Int) from by omega, ← hm, spanRow_set] at h1
      unfold SpanIn
      rw [stretchL_join]
      simp only [List.length_append, List.length_cons, List.length_nil, Nat.zero_add]
      rw [← hm]
      exact h1
    · go_enter Tryz.func39, Tryz.ntmps39
      go_wp2
      go_quiet (fail)
      go_wp2_with (first | (at_builtin; refine wpList_append_own_at _ rfl _ _ 51 rfl B 57 i0 (.agg #[.int .u64 0, .int .u64 0]) 2 16 Tryz.underlying51 hi hz0 hz1 hz2 rfl (by decide) _ (m + 1) (spanRow (r ++ [(p, L)])) rfl (World.ownsRow.alloc H.out _) ⟨w.heap.size, 0, none⟩ 1 1 [.int .u64 (x : Nat), .int .u64 (1 : Nat)] rfl rfl (two_new _ _ _ _) (by intro u hu; simp at hu; rcases hu with rfl | rfl <;> rfl) (by unfold maxLen; omega) (by omega) (by simp; omega) ?_; intro v' w1 hown' hgrow hnil hat))
      go_ret
      exact ⟨v', rfl, stretched_drew (added_of (by rw [hlen]; exact hown') hgrow hat) (stretchL_new r p L x hjo)⟩
end Go.Proofs.YtmjdnocilbnoaaaGreat

/- The call unlike of layer 2, its two rounds: the numbers of pages that were found so far. -/
namespace Go.Proofs.YtmjdnocilbnoaaaGreat
open Go.RowKit Go.Maps
set_option linter.unusedVariables false
def numRow (ks : List Nat) : List Value := ks.map fun k => .int .u64 (k : Nat)
theorem numRow_snoc (ks : List Nat) (k : Nat) : numRow (ks ++ [k]) = numRow ks ++ [.int .u64 (k : Nat)] := by simp [numRow]
/-- numbers, as a list that lies in blocks from B on -/
def Nums (B : Nat) (w : World) (v : Value) (ks : List Nat) : Prop := w.ownsRow B 23 1 v ks.length (numRow ks)
theorem Nums.kept {B : Nat} {w w' : World} {v : Value} {ks : List Nat} (h : Nums B w v ks) (hk : ∀ g, v.ownBlock = some g → w'.heap[g]? = w.heap[g]?) : Nums B w' v ks := by
  refine ⟨h.1, ?_⟩
  rcases h.2 with hn | ⟨g, cap, cur, rfl, hb, hgg, rest⟩
  · exact .inl hn
  · exact .inr ⟨g, cap, cur, rfl, hb, (hk g rfl).trans hgg, rest⟩
theorem Nums.form {B : Nat} {w : World} {v : Value} {ks : List Nat} (h : Nums B w v ks) : ∃ a c, v = .slice a ks.length c := by
  rcases h.2 with ⟨rfl, h0⟩ | ⟨g, cap, cur, rfl, _⟩
  · exact ⟨none, 0, by rw [h0]⟩
  · exact ⟨_, cap, rfl⟩
theorem grown_none {w w' : World} (h : Below w.heap.size w w') : w.grownBy w' none := ⟨h.os, h.tape, h.output, h.size, fun k hk _ => h.block k hk⟩
/-- under way over the pages of a map: those told by O were found before, those that T tells are looked for -/
def Hunting (w wr : World) (bm r n N : Nat) (D : DataW Unit) (pg : Nat → Option Nat) (O T : Nat → Prop) (v : Value) (left : Lit → Bool) (cnt : Nat) (ks : List Nat) : Prop :=
  wr.ranges Tryz.prog 23 ptrElem bm r n D left cnt ∧ Nums w.heap.size wr v ks ∧ Below w.heap.size w wr ∧ w.heap.size ≤ r ∧ (∀ g, v.ownBlock = some g → g ≠ r) ∧ ks.Nodup ∧ ks.length + cnt ≤ N ∧ (∀ k ∈ ks, k < 18446744073709551616) ∧
    (∀ k : Nat, k ∈ ks ↔ O k ∨ ((pg k).isSome = true ∧ left (.int .u64 (k : Nat)) = false ∧ T k))
/-- a page has come, and other memory was made meanwhile -/
theorem hunting_next {w wr w1 w2 : World} {bm r n N : Nat} {D : DataW Unit} {pg : Nat → Option Nat} {O T : Nat → Prop} {v : Value} {left left' : Lit → Bool} {cnt cnt' : Nat} {ks : List Nat} (h : Hunting w wr bm r n N D pg O T v left cnt ks) (hbm : bm < w.heap.size)
    (hrg : w1.ranges Tryz.prog 23 ptrElem bm r n D left' cnt') (hg : wr.grownBy w1 (some r)) (h2 : Below w1.heap.size w1 w2) :
    w2.ranges Tryz.prog 23 ptrElem bm r n D left' cnt' ∧ Nums w.heap.size w2 v ks ∧ Below w.heap.size w w2 := by
  obtain ⟨p1, p2, p3, p4, p5, p6⟩ := h
  have hB1 : Below w.heap.size w w1 := Below.grown p3 hg p3.size (fun q hq => by cases hq; exact p4)
  refine ⟨hrg.kept (grown_none h2) (by simp) (by simp), ?_, hB1.trans ⟨h2.os, h2.tape, h2.output, h2.size, fun k hk => h2.block k (by have := hB1.size; omega)⟩⟩
  refine (p2.kept (w' := w1) fun g hgg => hg.block g (World.ownsRow.lt p2 g hgg).2 (fun e => p5 g hgg (by cases e; rfl))).kept fun g hgg => h2.block g ?_
  have := (World.ownsRow.lt p2 g hgg).2
  have := hg.size
  omega
theorem left_step {left : Lit → Bool} {k : Nat} (hk : k < 18446744073709551616) (j : Nat) : (left (.int .u64 (j : Nat)) && !(Lit.int .u64 (j : Nat)).sameKey (.int .u64 (k : Nat))) = false ↔ left (.int .u64 (j : Nat)) = false ∨ j = k := by
  rw [lit_same hk]
  by_cases e : j = k <;> simp [e]
theorem hunting_skip {w wr w1 w2 : World} {bm r n N : Nat} {D : DataW Unit} {pg : Nat → Option Nat} {O T : Nat → Prop} {v : Value} {left : Lit → Bool} {cnt cnt' : Nat} {ks : List Nat} (h : Hunting w wr bm r n N D pg O T v left cnt ks) (hbm : bm < w.heap.size) {k : Nat} (hk : k < 18446744073709551616) (hT : ¬ T k) (hlt : cnt' < cnt)
    (hrg : w1.ranges Tryz.prog 23 ptrElem bm r n D (fun z => left z && !z.sameKey (.int .u64 (k : Nat))) cnt') (hg : wr.grownBy w1 (some r)) (h2 : Below w1.heap.size w1 w2) :
    Hunting w w2 bm r n N D pg O T v (fun z => left z && !z.sameKey (.int .u64 (k : Nat))) cnt' ks := by
  obtain ⟨q1, q2, q3⟩ := hunting_next h hbm hrg hg h2
  obtain ⟨p1, p2, p3, p4, p5, p6, p7, p8, p9⟩ := h
  refine ⟨q1, q2, q3, p4, p5, p6, by omega, p8, fun j => ?_⟩
  rw [p9 j, left_step hk]
  constructor
  · rintro (h | ⟨a, b, c⟩)
    · exact .inl h
    · exact .inr ⟨a, .inl b, c⟩
  · rintro (h | ⟨a, b | rfl, c⟩)
    · exact .inl h
    · exact .inr ⟨a, b, c⟩
    · exact absurd c hT
theorem hunting_take {w wr w1 w2 w3 : World} {bm r n N : Nat} {D : DataW Unit} {pg : Nat → Option Nat} {O T : Nat → Prop} {v v' : Value} {left : Lit → Bool} {cnt cnt' : Nat} {ks : List Nat} (h : Hunting w wr bm r n N D pg O T v left cnt ks) (hbm : bm < w.heap.size) (hO : ∀ k, O k → ¬ ((pg k).isSome = true ∧ T k)) {k : Nat} (hk : k < 18446744073709551616) (hlk : left (.int .u64 (k : Nat)) = true) (hpk : (pg k).isSome = true) (hT : T k) (hlt : cnt' < cnt)
    (hrg : w1.ranges Tryz.prog 23 ptrElem bm r n D (fun z => left z && !z.sameKey (.int .u64 (k : Nat))) cnt') (hg : wr.grownBy w1 (some r)) (h2 : Below w1.heap.size w1 w2)
    (hown : Nums w.heap.size w3 v' (ks ++ [k])) (hg3 : w2.grownBy w3 v.ownBlock) (hat : v'.ownBlock = v.ownBlock ∨ ∃ g, v'.ownBlock = some g ∧ w2.heap.size ≤ g) :
    Hunting w w3 bm r n N D pg O T v' (fun z => left z && !z.sameKey (.int .u64 (k : Nat))) cnt' (ks ++ [k]) := by
  obtain ⟨q1, q2, q3⟩ := hunting_next h hbm hrg hg h2
  obtain ⟨p1, p2, p3, p4, p5, p6, p7, p8, p9⟩ := h
  have hv : ∀ g, v.ownBlock = some g → w.heap.size ≤ g := fun g hgg => (World.ownsRow.lt p2 g hgg).1
  have hnk : k ∉ ks := by
    rw [p9 k]
    rintro (h | ⟨a, b, c⟩)
    · exact hO k h ⟨hpk, hT⟩
    · rw [hlk] at b; cases b
  refine ⟨q1.kept hg3 (fun e => ?_) (fun e => p5 r e.symm rfl), hown, Below.grown q3 hg3 q3.size hv, p4, ?_, ?_, ?_, ?_, fun j => ?_⟩
  · have := hv bm e.symm; omega
  · intro g hgg
    rcases hat with e | ⟨g', e, hl⟩
    · exact p5 g (by rw [← e, hgg])
    · rw [hgg] at e; cases e; have := q1.lt; omega
  · rw [List.nodup_append]
    exact ⟨p6, by simp, fun a ha b hb e => by simp at hb; subst hb; subst e; exact hnk ha⟩
  · simp; omega
  · intro j hj
    rcases List.mem_append.1 hj with hj | hj
    · exact p8 j hj
    · simp at hj; omega
  · rw [List.mem_append, p9 j, left_step hk]
    constructor
    · rintro ((h | ⟨a, b, c⟩) | h)
      · exact .inl h
      · exact .inr ⟨a, .inl b, c⟩
      · simp at h; subst h; exact .inr ⟨hpk, .inr rfl, hT⟩
    · rintro (h | ⟨a, b | rfl, c⟩)
      · exact .inl (.inl h)
      · exact .inl (.inr ⟨a, b, c⟩)
      · exact .inr (by simp)
end Go.Proofs.YtmjdnocilbnoaaaGreat

/- The library's call bits.Len by the contract of the shelf. -/
namespace Go.Proofs.YtmjdnocilbnoaaaGreat
open Go.Shelf
set_option maxRecDepth 100000
def Tryz.lays125_ren : Go.Shelf.Ren := ⟨fun | 125 => 101 | 128 => 122 | 129 => 123 | n => n, fun | 46 => 175 | 3 => 3 | 51 => 70 | 53 => 23 | 4 => 4 | 5 => 5 | 9 => 9 | n => n, fun | n => n⟩
theorem Tryz.lays125 : Go.Proofs.Lays.n125 Tryz.prog Tryz.lays125_ren := {
  mixed := by kernel_rfl
  f125 := Tryz.func101.trans (congrArg some (by kernel_rfl))
  f128 := Tryz.func122.trans (congrArg some (by kernel_rfl))
  f129 := Tryz.func123.trans (congrArg some (by kernel_rfl))
  t3 := Tryz.underlying3
  a3 := Tryz.isAgg3
  z3 := Tryz.sizeOf3
  v3 := Tryz.zeroValue3
  t4 := Tryz.underlying4
  a4 := Tryz.isAgg4
  z4 := Tryz.sizeOf4
  v4 := Tryz.zeroValue4
  t5 := Tryz.underlying5
  a5 := Tryz.isAgg5
  z5 := Tryz.sizeOf5
  v5 := Tryz.zeroValue5
  t9 := Tryz.underlying9
  a9 := Tryz.isAgg9
  z9 := Tryz.sizeOf9
  v9 := Tryz.zeroValue9
  t46 := Tryz.underlying175
  a46 := Tryz.isAgg175
  z46 := Tryz.sizeOf175
  v46 := Tryz.zeroValue175
  t51 := Tryz.underlying70
  a51 := Tryz.isAgg70
  z51 := Tryz.sizeOf70
  v51 := Tryz.zeroValue70
  t53 := Tryz.underlying23
  a53 := Tryz.isAgg23
  z53 := Tryz.sizeOf23
  v53 := Tryz.zeroValue23 }
theorem Tryz.bits_Len (x : Int) (w : World) (h0 : 0 ≤ x) (h1 : x ≤ 18446744073709551615) :
    Calls Tryz.prog 101 #[.int .u64 x] w fun e w' => e = .returned (.int .i64 (Lib.bitLen x.toNat)) ∧ w' = w := Any.bits_Len Tryz.lays125 x w h0 h1
end Go.Proofs.YtmjdnocilbnoaaaGreat

/- The library's call Sort at a list of at most two numbers. -/
namespace Go.Proofs.YtmjdnocilbnoaaaGreat
open Go.RowKit Go.Maps
set_option linter.unusedVariables false
theorem nan_any {w : World} (x : Nat) : Calls Tryz.prog 132 #[.int .u64 (x : Nat)] w fun e w' => e = .returned (.bool false) ∧ w' = w := by
  go_enter Tryz.func132, Tryz.ntmps132
  go_wp2
  go_ret
  exact ⟨by simp, rfl⟩
theorem ord_any {w : World} (x y : Nat) : Calls Tryz.prog 119 #[.int .u64 (x : Nat), .int .u64 (y : Nat)] w fun e w' => e = .returned (.bool (decide (x < y))) ∧ w' = w := by
  go_enter Tryz.func119, Tryz.ntmps119
  go_wp2_with (first | (go_at_call 132; refine (nan_any _).mono ?_; rintro e w' ⟨rfl, rfl⟩))
  go_ret
  exact ⟨by simp, rfl⟩
/-- the world with two numbers laid in their order -/
def sortW (w : World) (g x y : Nat) : World := if y < x then ((w.setCell ⟨g, 1, none⟩ (.int .u64 (x : Nat))).setCell ⟨g, 0, none⟩ (.int .u64 (y : Nat))) else w
set_option maxHeartbeats 1000000 in
theorem ins_two {w : World} {g c x y : Nat} (c0 : w.cell? ⟨g, 0, none⟩ = some (.int .u64 (x : Nat))) (c1 : w.cell? ⟨g, 1, none⟩ = some (.int .u64 (y : Nat))) (f0 : w.frozen? ⟨g, 0, none⟩ = false) (f1 : w.frozen? ⟨g, 1, none⟩ = false) :
    Calls Tryz.prog 113 #[.slice (some ⟨g, 0, none⟩) 2 c, .int .i64 0, .int .i64 2] w fun e w' => e = .returned (.tuple #[]) ∧ ∃ q, w' = (sortW w g x y).drewN q := by
  go_enter Tryz.func113, Tryz.ntmps113
  go_wp2
  go_loopw [6] (fun i wr => (i = .int .i64 1 ∧ w = wr) ∨ (i = .int .i64 2 ∧ ∃ q, wr = (sortW w g x y).drewN q)) (fun i _ => 2 - (intOf i).toNat)
  case atStart => exact .inl ⟨rfl, rfl⟩
  case round =>
    rcases hrel with ⟨rfl, rfl⟩ | ⟨rfl, q, rfl⟩
    · go_wp2
      go_loopw [7] (fun j wr => (j = .int .i64 1 ∧ w = wr) ∨ (j = .int .i64 0 ∧ y < x ∧ ∃ q, wr = ((w.setCell ⟨g, 1, none⟩ (.int .u64 (x : Nat))).setCell ⟨g, 0, none⟩ (.int .u64 (y : Nat))).drewN q)) (fun i _ => (intOf i).toNat)
      case atStart => exact .inl ⟨rfl, rfl⟩
      case round =>
        rcases hrel with ⟨rfl, rfl⟩ | ⟨rfl, hlt, q, rfl⟩
        · by_cases hlt : y < x
          · have hd : decide (y < x) = true := by simp [hlt]
            go_wp2
            go_quiet (first | (go_at_call 119; refine Calls.quiet_of_same (ord_any _ _)))
            go_wp2
            go_region
            all_goals go_wp2
            exact ⟨.inr ⟨rfl, hlt, nq + 1, rfl⟩, by simp [intOf]⟩
          · have hd : decide (y < x) = false := by simp [hlt]
            go_wp2
            go_quiet (first | (go_at_call 119; refine Calls.quiet_of_same (ord_any _ _)))
            go_wp2
            exact ⟨.inr ⟨rfl, nq, by rw [sortW, if_neg hlt]⟩, by simp [intOf]⟩
        · go_wp2
          go_quiet (fail)
          go_wp2
          exact ⟨.inr ⟨rfl, q + nq, by rw [sortW, if_pos hlt]⟩, by simp [intOf]⟩
    · go_wp2
      go_end0
      exact ⟨rfl, q, rfl⟩
theorem ins_one {w : World} {a : Option Addr} {n c : Nat} (hn : n ≤ 1) :
    Calls Tryz.prog 113 #[.slice a n c, .int .i64 0, .int .i64 n] w fun e w' => e = .returned (.tuple #[]) ∧ w' = w := by
  have hn2 : (n : Int) ≤ 1 := by omega
  go_enter Tryz.func113, Tryz.ntmps113
  go_wp2
  go_loopw [6] (fun i wr => i = .int .i64 1 ∧ w = wr) (fun _ _ => 0)
  case atStart => exact ⟨rfl, rfl⟩
  case round =>
    obtain ⟨rfl, rfl⟩ := hrel
    go_wp2
    go_end0
    exact ⟨rfl, rfl⟩
theorem pdq_two {w : World} {g c x y : Nat} (c0 : w.cell? ⟨g, 0, none⟩ = some (.int .u64 (x : Nat))) (c1 : w.cell? ⟨g, 1, none⟩ = some (.int .u64 (y : Nat))) (f0 : w.frozen? ⟨g, 0, none⟩ = false) (f1 : w.frozen? ⟨g, 1, none⟩ = false) (m : Int) :
    Calls Tryz.prog 100 #[.slice (some ⟨g, 0, none⟩) 2 c, .int .i64 0, .int .i64 2, .int .i64 m] w fun e w' => e = .returned (.tuple #[]) ∧ ∃ q, w' = (sortW w g x y).drewN q := by
  go_enter Tryz.func100, Tryz.ntmps100
  go_wp2_with (fail)
  go_loopw [1, 2] (fun a b wr => a = .int .i64 0 ∧ b = .int .i64 2 ∧ w = wr) (fun _ _ _ => 0)
  case atStart => exact ⟨rfl, rfl, rfl⟩
  case round =>
    obtain ⟨rfl, rfl, rfl⟩ := hrel
    go_wp2_with (first | (go_at_call 113; refine (ins_two c0 c1 f0 f1).mono ?_; rintro e w' ⟨rfl, q, rfl⟩))
    (try simp only [Exit.inBlock, Exit.then]); refine bodyPost_ret (results_none rfl _ _ _) rfl ?_
    exact ⟨rfl, q, rfl⟩
theorem pdq_one {w : World} {a : Option Addr} {n c : Nat} (hn : n ≤ 1) (m : Int) :
    Calls Tryz.prog 100 #[.slice a n c, .int .i64 0, .int .i64 n, .int .i64 m] w fun e w' => e = .returned (.tuple #[]) ∧ w' = w := by
  have hn2 : (n : Int) ≤ 1 := by omega
  go_enter Tryz.func100, Tryz.ntmps100
  go_wp2_with (fail)
  go_loopw [1, 2] (fun a b wr => a = .int .i64 0 ∧ b = .int .i64 n ∧ w = wr) (fun _ _ _ => 0)
  case atStart => exact ⟨rfl, rfl, rfl⟩
  case round =>
    obtain ⟨rfl, rfl, rfl⟩ := hrel
    go_wp2_with (first | (go_at_call 113; refine (ins_one hn).mono ?_; rintro e w' ⟨rfl, rfl⟩))
    (try simp only [Exit.inBlock, Exit.then]); refine bodyPost_ret (results_none rfl _ _ _) rfl ?_
    exact ⟨rfl, rfl⟩
/-- Sort at two numbers -/
theorem sort_two {w : World} {g c x y : Nat} (c0 : w.cell? ⟨g, 0, none⟩ = some (.int .u64 (x : Nat))) (c1 : w.cell? ⟨g, 1, none⟩ = some (.int .u64 (y : Nat))) (f0 : w.frozen? ⟨g, 0, none⟩ = false) (f1 : w.frozen? ⟨g, 1, none⟩ = false) :
    Calls Tryz.prog 77 #[.slice (some ⟨g, 0, none⟩) 2 c] w fun e w' => e = .returned (.tuple #[]) ∧ ∃ q, w' = (sortW w g x y).drewN q := by
  go_enter Tryz.func77, Tryz.ntmps77
  go_wp2_with (first | (go_at_call 101; refine (Tryz.bits_Len _ _ (by omega) (by omega)).mono ?_; rintro e w' ⟨rfl, rfl⟩) | (go_at_call 100; refine (pdq_two c0 c1 f0 f1 _).mono ?_; rintro e w' ⟨rfl, q, rfl⟩))
  go_end0
  exact ⟨rfl, q, rfl⟩
/-- Sort at one number, or none -/
theorem sort_one {w : World} {a : Option Addr} {n c : Nat} (hn : n ≤ 1) :
    Calls Tryz.prog 77 #[.slice a n c] w fun e w' => e = .returned (.tuple #[]) ∧ w' = w := by
  have hn2 : (n : Int) ≤ 1 := by omega
  go_enter Tryz.func77, Tryz.ntmps77
  go_wp2_with (first | (go_at_call 101; refine (Tryz.bits_Len _ _ (by omega) (by omega)).mono ?_; rintro e w' ⟨rfl, rfl⟩) | (go_at_call 100; refine (pdq_one hn _).mono ?_; rintro e w' ⟨rfl, rfl⟩))
  go_end0
  exact ⟨rfl, rfl⟩
end Go.Proofs.YtmjdnocilbnoaaaGreat

/- The call unlike of layer 2: laws for pages in an open order. -/
namespace Go.Proofs.YtmjdnocilbnoaaaGreat
open Go.RowKit Go.Maps
set_option linter.unusedVariables false
/-- the pages with that number differ -/
def Apart (Ma Mb : Nat → Nat) (k : Nat) : Prop := ∃ i, i < 4096 ∧ Ma (k * 4096 + i) ≠ Mb (k * 4096 + i)
theorem apart_iff (Ma Mb : Nat → Nat) (k : Nat) : pageEq (fun i => Ma (k * 4096 + i)) (fun i => Mb (k * 4096 + i)) = false ↔ Apart Ma Mb k := by
  rw [Bool.eq_false_iff, Ne, pageEq_iff]
  unfold Apart
  constructor
  · intro h
    refine Classical.byContradiction fun hn => h fun i hi => Classical.byContradiction fun hc => hn ⟨i, hi, hc⟩
  · rintro ⟨i, hi, hne⟩ h
    exact hne (h i hi)
theorem yield81 {w : World} {o : Oper} {a : Act} {c : Nat} {f : Nat → Nat} (hw : w.heap[c]? = some (.cells (pageRow f) 96 (0, 0))) (x : Operand) (hop : o.op = Op.load 96 x) (hx : a.eval x = .pointer (some ⟨c, 0, none⟩)) : (execOp a.eval o).run Tryz.prog w = .ok (.value (.agg (pageRow f))) w := by
  simp [execOp, hop, hx, run_load81 hw, Result.andThen]
section
variable {w : World} {o : Oper} {a : Act} {K : Act → World → Prop} {Q : Exit → Act → World → Prop}
theorem wp_load81 (x : Operand) (hop : o.op = Op.load 96 x) (b : Nat) (f : Nat → Nat) (hx : a.eval x = .pointer (some ⟨b, 0, none⟩)) (hb : w.heap[b]? = some (.cells (pageRow f) 96 (0, 0))) (h : K (a.put o.dst (.agg (pageRow f))) w) : Oper.wp Tryz.prog o a w K Q := by
  unfold Oper.wp
  simp [execOp, hop, hx, run_load81 hb, Result.andThen]
  exact h
theorem wp_neq81 (x y : Operand) (r : TypeId) (hop : o.op = Op.binOp .neq 96 x y r) (f g : Nat → Nat) (hx : a.eval x = .agg (pageRow f)) (hy : a.eval y = .agg (pageRow g)) (h : K (a.put o.dst (.bool (!pageEq f g))) w) : Oper.wp Tryz.prog o a w K Q := by
  unfold Oper.wp
  simp [execOp, hop, hx, hy, run_neq81 f g, run_eqGuard_agg (P := Tryz.prog) w _ _ _ _ _ _ guard81, Result.andThen]
  exact h
theorem wp_call41 (x y : Operand) (hop : o.op = Op.call { callee := .value (.func 38), args := #[x, y], argTypes := #[30, 23] }) (vx vy : Value) (hx : a.eval x = vx) (hy : a.eval y = vy) (R : Ending → World → Prop) (h : Calls Tryz.prog 38 #[vx, vy] w R) (hR : ∀ e w', R e w' → ∃ v, e = .returned v ∧ K (a.put o.dst v) w') : Oper.wp Tryz.prog o a w K Q := by
  unfold Oper.wp
  subst hx hy
  have hf : a.eval (.func 38) = Value.func (Fn.func 38) #[] #[] := rfl
  generalize a.eval = ρ at h hf ⊢
  simp [execOp, hop, resolve, Deferred.ofValue, hf, go_sem]
  refine Calls.mono h ?_
  intro e w' hr
  obtain ⟨v, rfl, hk⟩ := hR e w' hr
  exact hk
end
section
variable {w : World} {ops : Array Oper} {rest : List Oper} {o : Oper} {a : Act} {Q : Exit → Act → World → Prop}
theorem wpList_of_wp (hw : Region.wanted o (yielded ops a.tmps) = true) (h : ∀ K : Act → World → Prop, (∀ a w, wpList Tryz.prog ops Q rest a w → K a w) → o.wp Tryz.prog a w K Q) : wpList Tryz.prog ops Q (o :: rest) a w :=
  wpList_step fun K hK => by rw [if_pos hw]; exact h K hK
theorem wpList_gload81 (x : Operand) (hop : o.op = Op.load 96 x) (hw : Region.wanted o (yielded ops a.tmps) = true) (b : Nat) (f : Nat → Nat) (hx : a.eval x = .pointer (some ⟨b, 0, none⟩)) (hb : w.heap[b]? = some (.cells (pageRow f) 96 (0, 0))) (h : wpList Tryz.prog ops Q rest (a.put o.dst (.agg (pageRow f))) w) : wpList Tryz.prog ops Q (o :: rest) a w :=
  wpList_of_wp hw fun K hK => wp_load81 x hop b f hx hb (hK _ _ h)
theorem wpList_gneq81 (x y : Operand) (r : TypeId) (hop : o.op = Op.binOp .neq 96 x y r) (hw : Region.wanted o (yielded ops a.tmps) = true) (f g : Nat → Nat) (hx : a.eval x = .agg (pageRow f)) (hy : a.eval y = .agg (pageRow g)) (h : wpList Tryz.prog ops Q rest (a.put o.dst (.bool (!pageEq f g))) w) : wpList Tryz.prog ops Q (o :: rest) a w :=
  wpList_of_wp hw fun K hK => wp_neq81 x y r hop f g hx hy (hK _ _ h)
theorem run_build81 (w : World) : (Instr.build 96 #[]).run Tryz.prog w = .ok (.agg (pageRow (fun _ => 0))) w := by
  have h := zero81
  have h5 : (sizeOf 5).run Tryz.prog w = .ok 1 w := by kernel_rfl
  cases hq : Tryz.prog.info? 96 with
  | none => simp [hq] at h
  | some i =>
    have hz : i.zero = some (.agg zeroPage) := by simp [hq] at h; exact h.1
    have hzv : (zeroValue 96).run Tryz.prog w = .ok (.agg zeroPage) w := by simp [zeroValue, typeInfo, hq, hz]
    have hu : Tryz.prog.underlying 96 = some (.array 4096 5) := Tryz.underlying96
    simp only [Instr.build, Sem.run_bind, hzv, Result.andThen_ok, run_underlying hu, h5, Value.cells, Instr.fill, Sem.run_pure, zeroPage_row]
theorem wpList_gbuild81 (hop : o.op = Op.build 96 #[]) (hw : Region.wanted o (yielded ops a.tmps) = true) (h : wpList Tryz.prog ops Q rest (a.put o.dst (.agg (pageRow (fun _ => 0)))) w) : wpList Tryz.prog ops Q (o :: rest) a w :=
  wpList_of_wp hw fun K hK => by
    unfold Oper.wp
    simp [execOp, hop, run_build81, Result.andThen]
    exact hK _ _ h
end
end Go.Proofs.YtmjdnocilbnoaaaGreat

/- The call unlike of layer 2: the first of its rounds. -/
namespace Go.Proofs.YtmjdnocilbnoaaaGreat
open Go.RowKit Go.Maps
set_option linter.unusedVariables false
set_option linter.unusedSimpArgs false
theorem RamIn.below_map {w w' : World} {F : Nat → Prop} {rb size n : Nat} {lg : Value} {M : Nat → Nat} {bm : Nat} {pg : Nat → Option Nat} {D : DataW Unit} (h : RamIn w F rb size n lg M bm pg D) (hb : Below w.heap.size w w') : w'.ownsMap Tryz.prog 23 ptrElem bm n D := by
  obtain ⟨h1, h2, h3, h4, h5, h6, f1, f2, f3, f4, h7⟩ := h
  obtain ⟨es, c, e1, e2, e3, e4⟩ := h2
  exact ⟨es, c, (hb.block bm (f4 bm f2)).trans e1, e2, e3, e4⟩
theorem two_of {ks : List Nat} {p q : Nat} (hn : ks.Nodup) (h : ∀ k ∈ ks, k = p ∨ k = q) : ks.length ≤ 2 := by
  match ks, hn, h with
  | [], _, _ => simp
  | [_], _, _ => simp
  | [_, _], _, _ => simp
  | a :: b :: c :: r, hn, h =>
    have ha := h a (by simp)
    have hb := h b (by simp)
    have hc := h c (by simp)
    simp at hn
    omega
theorem pair_short (ks : List Nat) (h : ks.length ≤ 1) : ks.Pairwise (· < ·) := by
  match ks, h with
  | [], _ => exact List.Pairwise.nil
  | [_], _ => simp
theorem two_list (ks : List Nat) (h : ks.length = 2) : ∃ x y, ks = [x, y] := by
  match ks, h with
  | [x, y], _ => exact ⟨x, y, rfl⟩
theorem nums_two {B : Nat} {w : World} {av : Option Addr} {cv x y : Nat} (h : Nums B w (.slice av 2 cv) [x, y]) : ∃ g, av = some ⟨g, 0, none⟩ ∧ w.cell? ⟨g, 0, none⟩ = some (.int .u64 (x : Nat)) ∧ w.cell? ⟨g, 1, none⟩ = some (.int .u64 (y : Nat)) ∧ w.frozen? ⟨g, 0, none⟩ = false ∧ w.frozen? ⟨g, 1, none⟩ = false := by
  have h' := h
  rcases h'.2 with ⟨_, h1⟩ | ⟨g, cap, cur, hv, hb, hgg, rest⟩
  · simp at h1
  · cases hv
    have hc := World.ownsRow.cells h (g := g) rfl
    have c0 := hc 0 (.int .u64 (x : Nat)) rfl
    have c1 := hc 1 (.int .u64 (y : Nat)) rfl
    rw [addr_add, Nat.zero_add] at c0 c1
    exact ⟨g, rfl, c0, c1, World.ownsRow.frozenAt h 0, World.ownsRow.frozenAt h 1⟩
theorem sorted_nums {B : Nat} {w : World} {g c x y : Nat} (h : Nums B w (.slice (some ⟨g, 0, none⟩) 2 c) [x, y]) (hxy : ¬ x = y) (q : Nat) : ∃ ks : List Nat, ks.Pairwise (· < ·) ∧ (∀ k, k ∈ ks ↔ k = x ∨ k = y) ∧ Nums B ((sortW w g x y).drewN q) (.slice (some ⟨g, 0, none⟩) 2 c) ks ∧ w.grownBy ((sortW w g x y).drewN q) (some g) := by
  unfold sortW
  by_cases hlt : y < x
  · rw [if_pos hlt]
    have h1 := World.ownsRow.stored h 1 (.int .u64 (x : Nat))
    have h2 := World.ownsRow.stored h1.1 0 (.int .u64 (y : Nat))
    exact ⟨[y, x], by simp [hlt], fun k => by simp [or_comm], h2.1, (h1.2.trans h2.2).trans (grown_drews _ q _)⟩
  · rw [if_neg hlt]
    exact ⟨[x, y], by simp; omega, fun k => by simp, h, grown_drews w q _⟩
theorem Tryz.info23 : (Tryz.prog.info? 23).map (fun i => (i.zero, i.size, i.bytes)) = some (some (.int .u64 0), 1, 8) := by kernel_rfl
theorem one_new (w : World) (x : Value) (t : TypeId) : ∀ j u, [x][j]? = some u → (w.alloc (.cells #[x] t)).cell? ((⟨w.heap.size, 0, none⟩ : Addr).add j) = some u := by
  intro j u hj
  rw [addr_add, Nat.zero_add]
  simp only [World.cell?, heap_alloc_new]
  match j, hj with
  | 0, hj => simpa using hj
set_option maxRecDepth 100000 in
set_option maxHeartbeats 2000000 in
theorem unlike_any {w : World} {Fa Fb : Nat → Prop} {ra rb size na nb : Nat} {lga lgb : Value} {Ma Mb : Nat → Nat} (ha : RamAt w Fa ra size na lga Ma) (hb : RamAt w Fb rb size nb lgb Mb) (hs : 0 < size) (hna : na ≤ 1000000) (hnb : nb ≤ 1000000) (p1 p2 : Nat) (hS : ∀ k, Apart Ma Mb k → k = p1 ∨ k = p2) :
    Calls Tryz.prog 37 #[.pointer (some ⟨ra, 0, none⟩), .pointer (some ⟨rb, 0, none⟩)] w fun e w' => ∃ v ks, e = .returned v ∧ Nums w.heap.size w' v ks ∧ ks.Pairwise (· < ·) ∧ (∀ k, k ∈ ks ↔ Apart Ma Mb k) ∧ (∀ k ∈ ks, k < 18446744073709551616) ∧ Below w.heap.size w w' := by
  have HS : Hid _ := hS
  clear hS
  have ha0 := ha
  have hb0 := hb
  obtain ⟨bma, pga, Da, ha⟩ := ha
  obtain ⟨bmb, pgb, Db, hb⟩ := hb
  have hca := ha.cell1
  have hcb := hb.cell1
  have hz : ((size : Int) == 0) = false := by simp; omega
  have A : Hid _ := ha
  have B : Hid _ := hb
  have A0 : Hid (RamAt w Fa ra size na lga Ma) := ha0
  have B0 : Hid (RamAt w Fb rb size nb lgb Mb) := hb0
  clear ha hb ha0 hb0
  obtain ⟨i0, hinf, hz0, hz1, hz2⟩ := info_parts Tryz.info23
  go_enter Tryz.func37, Tryz.ntmps37
  go_wp2_with (first | (go_at_call 36; first | (refine (size_any A0.out).mono ?_; rintro e w' ⟨rfl, hw⟩; rw [hw]; clear hw) | (refine (size_any B0.out).mono ?_; rintro e w' ⟨rfl, hw⟩; rw [hw]; clear hw)) | (at_range; refine wpList_range_own _ rfl _ 90 rfl 23 94 keyed25 Tryz.underlying90 ptrElem bma na Da rfl A.out.2.1 ?_; intro w0 hrg0 hg0 hs0))
  go_frame
  have hba : bma < w.heap.size := A.out.2.1.lt
  have hstart : Hunting w w0 bma w.heap.size na na Da pga (fun _ => False) (Apart Ma Mb) (.slice none 0 0) (Maps.has Da) (Maps.size Da) [] := by
    refine ⟨hrg0, ⟨rfl, .inl ⟨rfl, rfl⟩⟩, Below.of_grown hg0 (Nat.le_refl _) (by simp), Nat.le_refl _, by simp [Value.ownBlock], List.nodup_nil, by simpa using A.out.2.1.size_le, by simp, fun k => ?_⟩
    simp
    intro h1 h2
    rw [paged_has A.out.2.2.1, h1] at h2
    cases h2
  clear hrg0 hg0 hs0
  go_loopw [5] (fun v wr => ∃ left cnt ks, Hunting w wr bma w.heap.size na na Da pga (fun _ => False) (Apart Ma Mb) v left cnt ks) (fun _ wr => wr.rangeLeft bma w.heap.size)
  case atStart => exact ⟨_, _, _, hstart⟩
  case round =>
    obtain ⟨left, cnt, ks, hco⟩ := hrel
    clear hstart
    have hrg : wr.ranges Tryz.prog 23 ptrElem bma w.heap.size na Da left cnt := hco.1
    obtain ⟨av, cv, rfl⟩ := Nums.form hco.2.1
    have HKL : Hid (ks.length + cnt ≤ na) := hco.2.2.2.2.2.2.1
    have C : Hid (Hunting w wr bma w.heap.size na na Da pga (fun _ => False) (Apart Ma Mb) (.slice av ks.length cv) left cnt ks) := hco
    clear hco
    go_wp2_with (first | (at_next; refine wpList_next_pages _ rfl _ rfl bma w.heap.size na Da pga left cnt rfl hrg A.out.2.2.1 ?_ ?_))
    · intro hdone
      have E : Hid (Nums w.heap.size wr (.slice av ks.length cv) ks ∧ Below w.heap.size w wr ∧ ks.Nodup ∧ ks.length ≤ na ∧ (∀ k ∈ ks, k < 18446744073709551616) ∧ ∀ k, k ∈ ks ↔ ((pga k).isSome = true ∧ Apart Ma Mb k)) := ⟨C.out.2.1, C.out.2.2.1, C.out.2.2.2.2.2.1, by have := HKL.out; omega, C.out.2.2.2.2.2.2.2.1, fun k => by rw [C.out.2.2.2.2.2.2.2.2 k]; simp [hdone k]⟩
      have hrb : wr.cell? ⟨rb, 1, none⟩ = some (.map (some bmb)) := by rw [E.out.2.1.cell (p := ⟨rb, 1, none⟩) (B.out.2.2.2.2.2.2.2.2.2.1 rb B.out.2.2.2.2.2.2.1)]; exact hcb
      have hmb : wr.ownsMap Tryz.prog 23 ptrElem bmb nb Db := (RamIn.below_map B.out E.out.2.1)
      clear hdone hrg C
      go_wp2_with (first | (at_range; refine wpList_range_own _ rfl _ 90 rfl 23 94 keyed25 Tryz.underlying90 ptrElem bmb nb Db rfl hmb ?_; intro w5 hrg5 hg5 hs5))
      go_frame
      have hbb : bmb < w.heap.size := B.out.2.1.lt
      have hstart2 : Hunting w w5 bmb wr.heap.size nb (na + nb) Db pgb (fun k => (pga k).isSome = true ∧ Apart Ma Mb k) (fun k => pga k = none ∧ Apart Ma Mb k) (.slice av ks.length cv) (Maps.has Db) (Maps.size Db) ks := by
        refine ⟨hrg5, E.out.1.kept (fun g hg => hg5.block g (World.ownsRow.lt E.out.1 g hg).2 (by simp)), Below.grown E.out.2.1 hg5 E.out.2.1.size (fun q hq => by cases hq), E.out.2.1.size, fun g hg => Nat.ne_of_lt (World.ownsRow.lt E.out.1 g hg).2, E.out.2.2.1, by have h1 := E.out.2.2.2.1; have h2 := B.out.2.1.size_le; omega, E.out.2.2.2.2.1, fun k => ?_⟩
        rw [E.out.2.2.2.2.2 k]
        constructor
        · exact .inl
        · rintro (h | ⟨h1, h2, _⟩)
          · exact h
          · rw [paged_has B.out.2.2.1, h1] at h2; cases h2
      have hr5 : wr.heap.size < w5.heap.size := hrg5.lt
      clear hrg5 hg5 hs5 hmb E hrb
      generalize hr2 : wr.heap.size = r2 at *
      clear hr2
      go_loopw [5] (fun v wq => ∃ left cnt ks, Hunting w wq bmb r2 nb (na + nb) Db pgb (fun k => (pga k).isSome = true ∧ Apart Ma Mb k) (fun k => pga k = none ∧ Apart Ma Mb k) v left cnt ks) (fun _ wq => wq.rangeLeft bmb r2)
      case atStart => exact ⟨_, _, _, hstart2⟩
      case round =>
        obtain ⟨left, cnt, ks, hco⟩ := hrel
        clear hstart2
        obtain ⟨av, cv, rfl⟩ := Nums.form hco.2.1
        have hrg : World.ranges _ Tryz.prog 23 ptrElem bmb r2 nb Db left cnt := hco.1
        have HKL : Hid (ks.length + cnt ≤ na + nb) := hco.2.2.2.2.2.2.1
        have C : Hid (Hunting w _ bmb r2 nb (na + nb) Db pgb (fun k => (pga k).isSome = true ∧ Apart Ma Mb k) (fun k => pga k = none ∧ Apart Ma Mb k) (.slice av ks.length cv) left cnt ks) := hco
        clear hco
        go_wp2_with (first | (at_next; refine wpList_next_pages _ rfl _ rfl bmb r2 nb Db pgb left cnt rfl hrg B.out.2.2.1 ?_ ?_))
        · intro hdone
          have E : Hid (Nums w.heap.size wr (.slice av ks.length cv) ks ∧ Below w.heap.size w wr ∧ ks.Nodup ∧ (∀ k ∈ ks, k < 18446744073709551616) ∧ ∀ k, k ∈ ks ↔ Apart Ma Mb k) := ⟨C.out.2.1, C.out.2.2.1, C.out.2.2.2.2.2.1, C.out.2.2.2.2.2.2.2.1, fun k => by
            rw [C.out.2.2.2.2.2.2.2.2 k, hdone k]
            constructor
            · rintro (h | ⟨_, _, _, h⟩)
              · exact h.2
              · exact h
            · intro h
              cases ha : pga k with
              | some b => exact .inl ⟨by rw [ha]; rfl, h⟩
              | none =>
                cases hb : pgb k with
                | some b => exact .inr ⟨rfl, rfl, ha, h⟩
                | none =>
                  obtain ⟨i, hi, hne⟩ := h
                  exact absurd ((A.out.2.2.2.2.1 k ha i hi).trans (B.out.2.2.2.2.1 k hb i hi).symm) hne⟩
          have hlen : ks.length ≤ 2 := two_of E.out.2.2.1 (fun k hk => HS.out k ((E.out.2.2.2.2 k).1 hk))
          clear hdone hrg C
          by_cases h1 : ks.length ≤ 1
          · go_wp2_with (first | (go_at_call 77; refine (sort_one h1).mono ?_; rintro e w' ⟨rfl, hw⟩; rw [hw]; clear hw))
            go_ret
            exact ⟨_, ks, rfl, E.out.1, pair_short ks h1, E.out.2.2.2.2, E.out.2.2.2.1, E.out.2.1⟩
          · obtain ⟨x, y, rfl⟩ := two_list ks (by omega)
            obtain ⟨g, rfl, c0, c1, f0, f1⟩ := nums_two E.out.1
            go_wp2_with (first | (go_at_call 77; refine (sort_two c0 c1 f0 f1).mono ?_; rintro e w' ⟨rfl, q, hw⟩; rw [hw]; clear hw))
            go_ret
            obtain ⟨ks', r1, r2, r3, r4⟩ := sorted_nums E.out.1 (by have := E.out.2.2.1; simpa using this) q
            exact ⟨_, ks', rfl, r3, r1, fun k => by rw [r2 k]; simpa using E.out.2.2.2.2 k, fun k hk => E.out.2.2.2.1 k (by simpa using (r2 k).1 hk), Below.grown E.out.2.1 r4 E.out.2.1.size (fun q hq => by cases hq; exact (World.ownsRow.lt E.out.1 _ rfl).1)⟩
        · intro k c w1 cnt' hk hlk hpk hrg1 hlt hg1 hs1 hent
          have hB1 : Below w.heap.size w w1 := Below.grown C.out.2.2.1 hg1 C.out.2.2.1.size (fun q hq => by cases hq; exact C.out.2.2.2.1)
          have hpage : w1.heap[c]? = some (.cells (pageRow (fun i => Mb (k * 4096 + i))) 96 (0, 0)) := (hB1.block c (B.out.2.2.2.2.2.2.2.2.2.1 c (B.out.2.2.2.2.2.2.2.2.1 k c hpk))).trans (B.out.2.2.2.1 k c hpk)
          have hra : w1.cell? ⟨ra, 1, none⟩ = some (.map (some bma)) := by rw [hB1.cell (p := ⟨ra, 1, none⟩) (A.out.2.2.2.2.2.2.2.2.2.1 ra A.out.2.2.2.2.2.2.1)]; exact hca
          have hlook := pages_look (RamIn.below_map A.out hB1) A.out.2.2.1 k hk
          have X : Hid (_ ∧ _ ∧ _ ∧ _ ∧ _ ∧ _ ∧ _) := ⟨hB1, hpage, hrg1, hlt, hg1, hlk, hpk⟩
          have Y : Hid (Below w1.heap.size w1 w1) := Below.refl _ _
          clear hB1 hpage hrg1 hlt hg1 hs1 hlk hpk
          cases hp : pga k with
          | some b =>
            rw [hp, ptrOf_some] at hlook
            have HT : Hid (¬ (pga k = none ∧ Apart Ma Mb k)) := fun h => by rw [hp] at h; cases h.1
            clear hp
            go_wp2_with (first | (at_lookup; refine wpList_lookup_run rfl _ _ 90 rfl rfl rfl hlook ?_))
            go_roundw
            case rel => exact ⟨_, _, _, hunting_skip C.out hbb hk HT.out X.out.2.2.2.1 X.out.2.2.1 X.out.2.2.2.2.1 Y.out⟩
            case measure =>
              have h1 := (hunting_next C.out hbb X.out.2.2.1 X.out.2.2.2.2.1 Y.out).1
              rw [h1.left_eq, hrg.left_eq]
              exact X.out.2.2.2.1
          | none =>
            rw [hp, ptrOf_none] at hlook
            have HP : Hid (pga k = none) := hp
            have HZ : Hid (∀ i, i < 4096 → Ma (k * 4096 + i) = 0) := A.out.2.2.2.2.1 k hp
            clear hp
            cases hpe : pageEq (fun i => Mb (k * 4096 + i)) (fun _ => 0)
            · have hT : Apart Ma Mb k := by
                rw [Bool.eq_false_iff, Ne, pageEq_iff] at hpe
                refine Classical.byContradiction fun hn => hpe fun i hi => ?_
                have : Ma (k * 4096 + i) = Mb (k * 4096 + i) := Classical.byContradiction fun hc => hn ⟨i, hi, hc⟩
                rw [← this]; exact HZ.out i hi
              have HT : Hid (pga k = none ∧ Apart Ma Mb k) := ⟨HP.out, hT⟩
              clear hT
              go_wp2_with (first | (at_lookup; refine wpList_lookup_run rfl _ _ 90 rfl rfl rfl hlook ?_) | (refine wpList_gload81 _ rfl (by rfl) c (fun i => Mb (k * 4096 + i)) rfl X.out.2.1 ?_) | (refine wpList_gbuild81 rfl (by rfl) ?_) | (refine wpList_gneq81 _ _ _ rfl (by rfl) (fun i => Mb (k * 4096 + i)) (fun _ => 0) rfl rfl ?_) | (at_builtin; go_must (refine wpList_append_own_at _ rfl _ _ 103 rfl w.heap.size 23 i0 (.int .u64 0) 1 8 Tryz.underlying103 hinf hz0 hz1 hz2 rfl (by decide) _ ks.length (numRow ks) rfl (World.ownsRow.alloc (hunting_next C.out hbb X.out.2.2.1 X.out.2.2.2.2.1 Y.out).2.1 _) ⟨w1.heap.size, 0, none⟩ 1 1 [.int .u64 (k : Nat)] rfl rfl (one_new _ _ _) (by intro u hu; simp at hu; subst hu; rfl) (by have q1 := HKL.out; have q2 := (hunting_next C.out hbb X.out.2.2.1 X.out.2.2.2.2.1 Y.out).2.2.size; unfold maxLen; omega) (by have q1 := HKL.out; have q2 := (hunting_next C.out hbb X.out.2.2.1 X.out.2.2.2.2.1 Y.out).2.2.size; first | omega | (simp; omega)) (by have q1 := HKL.out; have q2 := (hunting_next C.out hbb X.out.2.2.1 X.out.2.2.2.2.1 Y.out).2.2.size; simp; omega) ?_); intro v' w3 hown' hgrow hnil hat))
              have hh := hunting_take C.out hbb (fun _ h h2 => by rw [h2.2.1] at h; cases h.1) hk X.out.2.2.2.2.2.1 (by rw [X.out.2.2.2.2.2.2]; rfl) HT.out X.out.2.2.2.1 X.out.2.2.1 X.out.2.2.2.2.1 Y.out (v' := v') (w3 := w3) (by unfold Nums; rw [numRow_snoc, List.length_append]; exact hown') ((World.grownBy_alloc w1 (.cells #[.int .u64 (k : Nat)] 23) _).trans hgrow) (hat.imp id fun h => ⟨_, h, by simp⟩)
              exact ⟨⟨_, _, _, hh⟩, by rw [hh.1.left_eq, hrg.left_eq]; exact X.out.2.2.2.1⟩
            · have HT : Hid (¬ (pga k = none ∧ Apart Ma Mb k)) := fun h => by
                obtain ⟨i, hi, hne⟩ := h.2
                have := (pageEq_iff _ _).1 hpe i hi
                exact hne ((HZ.out i hi).trans this.symm)
              go_wp2_with (first | (at_lookup; refine wpList_lookup_run rfl _ _ 90 rfl rfl rfl hlook ?_) | (refine wpList_gload81 _ rfl (by rfl) c (fun i => Mb (k * 4096 + i)) rfl X.out.2.1 ?_) | (refine wpList_gbuild81 rfl (by rfl) ?_) | (refine wpList_gneq81 _ _ _ rfl (by rfl) (fun i => Mb (k * 4096 + i)) (fun _ => 0) rfl rfl ?_))
              go_roundw
              case rel => exact ⟨_, _, _, hunting_skip C.out hbb hk HT.out X.out.2.2.2.1 X.out.2.2.1 X.out.2.2.2.2.1 Y.out⟩
              case measure =>
                have h1 := (hunting_next C.out hbb X.out.2.2.1 X.out.2.2.2.2.1 Y.out).1
                rw [h1.left_eq, hrg.left_eq]
                exact X.out.2.2.2.1
    · intro k c w1 cnt' hk hlk hpk hrg1 hlt hg1 hs1 hent
      have hB1 : Below w.heap.size w w1 := Below.grown C.out.2.2.1 hg1 C.out.2.2.1.size (fun q hq => by cases hq; exact C.out.2.2.2.1)
      have hpage : w1.heap[c]? = some (.cells (pageRow (fun i => Ma (k * 4096 + i))) 96 (0, 0)) := (hB1.block c (A.out.2.2.2.2.2.2.2.2.2.1 c (A.out.2.2.2.2.2.2.2.2.1 k c hpk))).trans (A.out.2.2.2.1 k c hpk)
      have X : Hid (_ ∧ _ ∧ _ ∧ _ ∧ _ ∧ _ ∧ _) := ⟨hB1, hpage, hrg1, hlt, hg1, hlk, hpk⟩
      have L : Hid _ := look_any ((B0.out.below hB1).below ((Below.refl w1.heap.size w1).drew)) k hk
      clear hB1 hpage hrg1 hlt hg1 hs1 hlk hpk
      go_wp2_with fail
      refine wp_region_noPanic ?_
      refine wp_region_held_drew (S := fun V => V.heap[c]? = some (.cells (pageRow (fun i => Ma (k * 4096 + i))) 96 (0, 0))) (by kernel_rfl) X.out.2.1 ?_
      intro hS
      refine wpAnyH_take (i := 0) (oi := { dst := some 30, op := Op.move (Operand.tmp 7), type := 94, pos := "differ.go:41", after := #[], guard := none }) (v := .pointer (some ⟨c, 0, none⟩)) rfl (by kernel_rfl) (by kernel_rfl) (by kernel_rfl) (fun _ _ _ h => h) (Or.inl ⟨by rfl, fun w _ => rfl⟩) hS ?_
      (try simp only [Act.put, List.setIfInBounds_toArray, List.set_cons_zero, List.set_cons_succ])
      refine wpAnyH_take (i := 1) (oi := { dst := some 31, op := Op.nilCheck (Operand.tmp 30), type := 0, pos := "differ.go:41", after := #[{ on := 0, ground := Ground.data }], guard := none }) (v := .pointer (some ⟨c, 0, none⟩)) rfl (by kernel_rfl) (by kernel_rfl) (by kernel_rfl) (fun _ _ _ h => h) (Or.inl ⟨by rfl, fun w _ => rfl⟩) hS ?_
      (try simp only [Act.put, List.setIfInBounds_toArray, List.set_cons_zero, List.set_cons_succ])
      refine wpAnyH_take (i := 2) (oi := { dst := some 32, op := Op.load 96 (Operand.tmp 31), type := 96, pos := "differ.go:41", after := #[{ on := 1, ground := Ground.data }], guard := none }) (v := .agg (pageRow (fun i => Ma (k * 4096 + i)))) rfl (by kernel_rfl) (by kernel_rfl) (by kernel_rfl) (fun _ _ _ h => h) (Or.inl ⟨by rfl, fun w hw => yield81 hw _ rfl rfl⟩) hS ?_
      (try simp only [Act.put, List.setIfInBounds_toArray, List.set_cons_zero, List.set_cons_succ])
      refine wpAnyH_take (i := 3) (oi := { dst := some 33, op := Op.move (Operand.tmp 1), type := 30, pos := "differ.go:41", after := #[], guard := none }) (v := .pointer (some ⟨rb, 0, none⟩)) rfl (by kernel_rfl) (by kernel_rfl) (by kernel_rfl) (fun _ _ _ h => h) (Or.inl ⟨by rfl, fun w _ => rfl⟩) hS ?_
      (try simp only [Act.put, List.setIfInBounds_toArray, List.set_cons_zero, List.set_cons_succ])
      refine wpAnyH_take (i := 4) (oi := { dst := some 34, op := Op.move (Operand.tmp 6), type := 23, pos := "differ.go:41", after := #[], guard := none }) (v := .int .u64 (k : Nat)) rfl (by kernel_rfl) (by kernel_rfl) (by kernel_rfl) (fun _ _ _ h => h) (Or.inl ⟨by rfl, fun w _ => rfl⟩) hS ?_
      (try simp only [Act.put, List.setIfInBounds_toArray, List.set_cons_zero, List.set_cons_succ])
      refine wpAnyH_all (rs := [5]) (by kernel_rfl) (by simp) ?_
      intro i hi
      obtain rfl : i = 5 := by simpa using hi
      refine wpOp_step (o := { dst := some 35, op := Op.call { callee := Callee.value (Operand.func 38), args := #[Operand.tmp 33, Operand.tmp 34], argTypes := #[30, 23] }, type := 94, pos := "differ.go:41", after := #[{ on := 3, ground := Ground.data }, { on := 4, ground := Ground.data }], guard := none }) rfl (fun K' hK => ?_)
      rw [if_pos (by rfl)]
      refine wp_call41 _ _ rfl _ _ rfl rfl _ L.out ?_
      rintro e w2 ⟨b2, rfl, hpg2, hbl2⟩
      refine ⟨_, rfl, hK _ _ ⟨below_box (by exact X.out.2.1) hbl2, ?_⟩⟩
      clear hK
      have hS2 : w2.heap[c]? = some (.cells (pageRow (fun i => Ma (k * 4096 + i))) 96 (0, 0)) := below_box (by exact X.out.2.1) hbl2
      (try simp only [Act.put, List.setIfInBounds_toArray, List.set_cons_zero, List.set_cons_succ])
      refine wpAnyH_take (i := 6) (oi := { dst := some 36, op := Op.nilCheck (Operand.tmp 35), type := 0, pos := "differ.go:41", after := #[{ on := 5, ground := Ground.data }], guard := none }) (v := .pointer (some ⟨b2, 0, none⟩)) rfl (by kernel_rfl) (by kernel_rfl) (by kernel_rfl) (fun _ _ _ h => h) (Or.inl ⟨by rfl, fun w _ => rfl⟩) hS2 ?_
      (try simp only [Act.put, List.setIfInBounds_toArray, List.set_cons_zero, List.set_cons_succ])
      refine wpAnyH_all (rs := [7]) (by kernel_rfl) (by simp) ?_
      intro i hi
      obtain rfl : i = 7 := by simpa using hi
      refine wpOp_step (o := { dst := some 37, op := Op.load 96 (Operand.tmp 36), type := 96, pos := "differ.go:41", after := #[{ on := 6, ground := Ground.data }], guard := none }) rfl (fun K' hK => ?_)
      rw [if_pos (by rfl)]
      refine wp_load81 _ rfl b2 (fun i => Mb (k * 4096 + i)) rfl hpg2 ?_
      refine hK _ _ ⟨hS2, ?_⟩
      clear hK
      (try simp only [Act.put, List.setIfInBounds_toArray, List.set_cons_zero, List.set_cons_succ])
      refine wpAnyH_all (rs := [8]) (by kernel_rfl) (by simp) ?_
      intro i hi
      obtain rfl : i = 8 := by simpa using hi
      refine wpOp_step (o := { dst := some 38, op := Op.binOp BinOp.neq 96 (Operand.tmp 32) (Operand.tmp 37) 96, type := 4, pos := "differ.go:41", after := #[{ on := 2, ground := Ground.data }, { on := 7, ground := Ground.data }], guard := none }) rfl (fun K' hK => ?_)
      rw [if_pos (by rfl)]
      refine wp_neq81 _ _ _ rfl (fun i => Ma (k * 4096 + i)) (fun i => Mb (k * 4096 + i)) rfl rfl ?_
      refine hK _ _ ⟨hS2, ?_⟩
      clear hK
      (try simp only [Act.put, List.setIfInBounds_toArray, List.set_cons_zero, List.set_cons_succ])
      refine wpAnyH_done (by kernel_rfl) ?_ _
      refine NoPanic.normal ?_
      have hB2 : Below w1.heap.size w1 w2 := ((Below.refl w1.heap.size w1).drew).trans hbl2
      have Y : Hid _ := hB2
      clear hpg2 hbl2 hS2 hS hB2 L
      cases hpe : pageEq (fun i => Ma (k * 4096 + i)) (fun i => Mb (k * 4096 + i))
      · have hT : Apart Ma Mb k := (apart_iff Ma Mb k).1 hpe
        have HT : Hid _ := hT
        clear hT hpe
        go_wp2_with (first | (at_builtin; go_must (refine wpList_append_own_at _ rfl _ _ 103 rfl w.heap.size 23 i0 (.int .u64 0) 1 8 Tryz.underlying103 hinf hz0 hz1 hz2 rfl (by decide) _ ks.length (numRow ks) rfl (World.ownsRow.alloc (hunting_next C.out hba X.out.2.2.1 X.out.2.2.2.2.1 Y.out).2.1 _) ⟨w2.heap.size, 0, none⟩ 1 1 [.int .u64 (k : Nat)] rfl rfl (one_new _ _ _) (by intro u hu; simp at hu; subst hu; rfl) (by have q1 := HKL.out; have q2 := (hunting_next C.out hba X.out.2.2.1 X.out.2.2.2.2.1 Y.out).2.2.size; unfold maxLen; omega) (by have q1 := HKL.out; have q2 := (hunting_next C.out hba X.out.2.2.1 X.out.2.2.2.2.1 Y.out).2.2.size; first | omega | (simp; omega)) (by have q1 := HKL.out; have q2 := (hunting_next C.out hba X.out.2.2.1 X.out.2.2.2.2.1 Y.out).2.2.size; simp; omega) ?_); intro v' w3 hown' hgrow hnil hat))
        have hh := hunting_take C.out hba (fun _ h => h.elim) hk X.out.2.2.2.2.2.1 (by rw [X.out.2.2.2.2.2.2]; rfl) HT.out X.out.2.2.2.1 X.out.2.2.1 X.out.2.2.2.2.1 Y.out (v' := v') (w3 := w3) (by unfold Nums; rw [numRow_snoc, List.length_append]; exact hown') ((World.grownBy_alloc w2 (.cells #[.int .u64 (k : Nat)] 23) _).trans hgrow) (hat.imp id fun h => ⟨_, h, by simp⟩)
        exact ⟨⟨_, _, _, hh⟩, by rw [hh.1.left_eq, hrg.left_eq]; exact X.out.2.2.2.1⟩
      · have hT : ¬ Apart Ma Mb k := fun h => by rw [(apart_iff Ma Mb k).2 h] at hpe; cases hpe
        have HT : Hid _ := hT
        clear hT hpe
        go_wp2
        go_roundw
        case rel => exact ⟨_, _, _, hunting_skip C.out hba hk HT.out X.out.2.2.2.1 X.out.2.2.1 X.out.2.2.2.2.1 Y.out⟩
        case measure =>
          have h1 := (hunting_next C.out hba X.out.2.2.1 X.out.2.2.2.2.1 Y.out).1
          rw [h1.left_eq, hrg.left_eq]
          exact X.out.2.2.2.1
end Go.Proofs.YtmjdnocilbnoaaaGreat

/- The call Same of layer 2: have two memories the same bytes? -/
namespace Go.Proofs.YtmjdnocilbnoaaaGreat
open Go.RowKit Go.Maps
set_option linter.unusedVariables false
theorem not_apart {Ma Mb : Nat → Nat} (h : ∀ k, ¬ Apart Ma Mb k) (a : Nat) : Ma a = Mb a := by
  refine Classical.byContradiction fun hc => h (a / 4096) ⟨a % 4096, Nat.mod_lt _ (by decide), ?_⟩
  rw [show a / 4096 * 4096 + a % 4096 = a from by omega]
  exact hc
end Go.Proofs.YtmjdnocilbnoaaaGreat

/- Same: two memories of one size. -/
namespace Go.Proofs.YtmjdnocilbnoaaaGreat
open Go.RowKit Go.Maps
set_option linter.unusedVariables false
set_option linter.unusedSimpArgs false
set_option maxRecDepth 100000
set_option maxRecDepth 100000 in
set_option maxHeartbeats 1000000 in
theorem same_any {w : World} {Fa Fb : Nat → Prop} {ra rb size na nb : Nat} {lga lgb : Value} {Ma Mb : Nat → Nat} (ha : RamAt w Fa ra size na lga Ma) (hb : RamAt w Fb rb size nb lgb Mb) (hs : 0 < size) (hna : na ≤ 1000000) (hnb : nb ≤ 1000000) (p1 p2 : Nat) (hS : ∀ k, Apart Ma Mb k → k = p1 ∨ k = p2) (r : Bool) (hr : r = true ↔ ∀ a, Ma a = Mb a) :
    Calls Tryz.prog 18 #[.pointer (some ⟨ra, 0, none⟩), .pointer (some ⟨rb, 0, none⟩)] w fun e w' => e = .returned (.bool r) ∧ Below w.heap.size w w' := by
  have A0 : Hid (RamAt w Fa ra size na lga Ma) := ha
  have B0 : Hid (RamAt w Fb rb size nb lgb Mb) := hb
  have U : Hid _ := unlike_any ha hb hs hna hnb p1 p2 hS
  have HR : Hid _ := hr
  clear ha hb hS hr
  go_enter Tryz.func18, Tryz.ntmps18
  go_wp2_with fail
  refine (size_any A0.out).mono ?_
  rintro e w' ⟨rfl, hw⟩
  rw [hw]
  clear hw
  go_wp2_with fail
  refine (size_any B0.out).mono ?_
  rintro e w' ⟨rfl, hw⟩
  rw [hw]
  clear hw
  go_wp2_with fail
  refine Calls.mono (by exact U.out) ?_
  rintro e w1 ⟨v, ks, rfl, hn, hp, hk, hl, hb⟩
  obtain ⟨av, cv, rfl⟩ := hn.form
  have E : Hid (_ ∧ _) := ⟨hk, hb⟩
  clear hn hp hk hl hb
  go_wp2
  go_ret
  refine ⟨?_, E.out.2⟩
  have : r = ((ks.length : Int) == 0) := by
    rw [Bool.eq_iff_iff, HR.out]
    simp
    constructor
    · intro h
      match ks, E.out.1 with
      | [], _ => rfl
      | k :: r, hk =>
        obtain ⟨i, hi, hne⟩ := (hk k).1 (by simp)
        exact absurd (h _) hne
    · intro h a
      refine not_apart (fun k hk => ?_) a
      have := (E.out.1 k).2 hk
      rw [h] at this
      simp at this
  rw [this]
  rfl
end Go.Proofs.YtmjdnocilbnoaaaGreat
