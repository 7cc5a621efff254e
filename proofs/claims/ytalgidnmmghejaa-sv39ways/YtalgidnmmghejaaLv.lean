/- The law Sv39Ways: how an access is made as a program runs. -/
import Derived.Test.YtalgidnmmghejaaWv
import Derived.Test.YtalgidnmmghejaaOp
import Derived.Test.YtalgidnmmghejaaRp
namespace Go.Proofs.Ytalgidnmmghejaa.E
open Go.RowKit Go.Maps
set_option linter.unusedVariables false
set_option linter.unusedSimpArgs false
set_option maxRecDepth 100000
/-- both files, and the way's box -/
def Vy (w V : World) (fb db : Nat) (mo : Int) (K : Nat → Nat) (p : Nat) (c : Array Value) : Prop := Tw w V fb db mo mo K K ∧ Box 40 V p c
/-- .. and the document's way's -/
def Vz (w V : World) (fb db : Nat) (mo : Int) (K : Nat → Nat) (p : Nat) (c : Array Value) (q : Nat) (d : Array Value) : Prop := Vy w V fb db mo K p c ∧ Box 25 V q d ∧ fb ≠ q ∧ db ≠ q ∧ p ≠ q ∧ w.heap.size ≤ q
section
variable {w V V' : World} {fb db p q : Nat} {mo : Int} {K : Nat → Nat} {c d d' : Array Value}
theorem Vy.step (h : Vy w V fb db mo K p c) (hb : Below V.heap.size V V') : Vy w V' fb db mo K p c := ⟨h.1.step hb, h.2.step hb⟩
theorem Vy.new (h : Tw w V fb db mo mo K K) (c : Array Value) : Vy w (V.alloc (.cells c 40)) fb db mo K V.heap.size c := ⟨h.step ((Below.refl _ _).alloc (Nat.le_refl _) _), Box.new _ _ _⟩
theorem Vz.step (h : Vz w V fb db mo K p c q d) (hb : Below V.heap.size V V') : Vz w V' fb db mo K p c q d := ⟨h.1.step hb, h.2.1.step hb, h.2.2⟩
theorem Vz.new (h : Vy w V fb db mo K p c) (d : Array Value) : Vz w (V.alloc (.cells d 25)) fb db mo K p c V.heap.size d := by
  have h1 := h.1.1.lt
  have h2 := h.1.2.1.lt
  have h3 := h.2.lt
  exact ⟨h.step ((Below.refl _ _).alloc (Nat.le_refl _) _), Box.new _ _ _, by omega, by omega, by omega, h.1.2.2.2.2.size⟩
theorem Vz.upon (h : Vz w V fb db mo K p c q d) (hb : Box 25 V' q d') (hu : Upon q V V') : Vz w V' fb db mo K p c q d' := by
  obtain ⟨⟨⟨a1, a2, a3, a4, a5⟩, a6⟩, b1, b2, b3, b4, b5⟩ := h
  exact ⟨⟨⟨hu.box a1 b2, hu.box a2 b3, a3, a4, a5.trans (hu.below b5 a5.size)⟩, hu.box a6 b4⟩, hb, b2, b3, b4, b5⟩
end
set_option maxHeartbeats 16000000 in
theorem ways_core (mo : Int) (g : Option Addr) (len cap ln : Nat) (ws : Nat → Int × Nat) (hln : ln < 18446744073709551616) (kind : Int) (va : Nat) (hva : va < 18446744073709551616) (w : World) (hws : WritesIn w (.slice g len cap) len ws) : Calls Try.prog 4 #[.agg #[.int .i64 mo, .slice g len cap, .int .u64 (ln : Nat)], .int .i64 kind, .int .u64 (va : Int)] w fun e w' => e = .returned (.bool true) ∧ Below w.heap.size w w' := by
  have HVA : Hid (va < 18446744073709551616) := hva
  clear hva
  have HWS : Hid (WritesIn w (.slice g len cap) len ws) := hws
  have HLN : Hid (ln < 18446744073709551616) := hln
  clear hws hln
  have A0 : Hid (Box 47 (w.alloc (.cells #[.int .i64 mo, .slice g len cap, .int .u64 (ln : Nat)] 47)) w.heap.size #[.int .i64 mo, .slice g len cap, .int .u64 (ln : Nat)] ∧ Below w.heap.size w (w.alloc (.cells #[.int .i64 mo, .slice g len cap, .int .u64 (ln : Nat)] 47))) := ⟨Box.new _ _ _, (Below.refl _ _).alloc (Nat.le_refl _) _⟩
  go_enter Try.func4, Try.ntmps4
  go_upto_region 1 with fail
  generalize (w.alloc (.cells #[.int .i64 mo, .slice g len cap, .int .u64 (ln : Nat)] 47)) = W at *
  go_wp2_with fail
  refine (awake_any _).mono ?_
  rintro e w1 ⟨rfl, hb1⟩
  have A1 : Hid (Box 47 w1 w.heap.size #[.int .i64 mo, .slice g len cap, .int .u64 (ln : Nat)] ∧ Below w.heap.size w w1) := ⟨A0.out.1.step hb1, A0.out.2.trans (hb1.mono A0.out.2.size)⟩
  clear hb1 A0
  go_upto_region 3 with fail
  refine wp_region_list ?_
  have a0 : w1.cell? ⟨w.heap.size, 0, none⟩ = some (.int .i64 mo) := A1.out.1.cell 0 _ rfl
  have a1 : w1.cell? ⟨w.heap.size, 1, none⟩ = some (.slice g len cap) := A1.out.1.cell 1 _ rfl
  have a2 : w1.cell? ⟨w.heap.size, 2, none⟩ = some (.int .u64 (ln : Nat)) := A1.out.1.cell 2 _ rfl
  (refine wpList_step (fun KK hKK => ?_); go_simp; refine hKK _ _ ?_; clear hKK KK)
  clear a0 a1 a2
  refine wpList_step (fun KK hKK => ?_)
  go_simp
  by_cases h : mo < 0 ∨ 3 < mo ∨ mo = 2 ∨ 40 < (len : Int)
  · refine (begun_no mo g len cap ln h _).mono ?_
    rintro e w2 ⟨rfl, hb2⟩
    have A2 : Hid (Below w.heap.size w w2) := A1.out.2.trans (hb2.mono A1.out.2.size)
    clear hb2
    refine hKK _ _ ?_
    clear hKK KK
    (refine wpList_step (fun KK hKK => ?_); go_simp; refine hKK _ _ ?_; clear hKK KK)
    refine wpList_extract_at rfl _ _ _ _ rfl rfl rfl ?_
    refine wpList_extract_at rfl _ _ _ _ rfl rfl rfl ?_
    refine wpList_extract_at rfl _ _ _ _ rfl rfl rfl ?_
    refine wpList_alloc_file rfl rfl ?_
    intro W0 hW0
    have B0 : Box 49 W0 w2.heap.size zeroC := by rw [hW0]; exact Box.new _ _ _
    have L0 : Below w2.heap.size w2 W0 := by rw [hW0]; exact (Below.refl _ _).alloc (Nat.le_refl _) _
    have Z0 : W0.heap.size = w2.heap.size + 1 := by rw [hW0]; simp
    clear hW0
    refine wpList_alloc_doc rfl rfl ?_
    intro W3 hW3
    have B3 : Box 52 W3 W0.heap.size zeroD := by rw [hW3]; exact Box.new _ _ _
    have L3 : Below W0.heap.size W0 W3 := by rw [hW3]; exact (Below.refl _ _).alloc (Nat.le_refl _) _
    clear hW3
    refine wpList_store_file rfl _ _ rfl w2.heap.size 3 (fun _ => 0) zeroC rfl rfl (B0.step L3) zeroC_size ?_
    intro W4 B4 U4
    refine wpList_store_doc rfl _ _ rfl W0.heap.size 3 (fun _ => 0) zeroD rfl rfl (U4.box B3 (by omega)) zeroD_size ?_
    intro W5 B5 U5
    have X5 : Hid (Tw w W5 w2.heap.size W0.heap.size 3 3 (fun _ => 0) (fun _ => 0)) := by
      have l2 : Below w2.heap.size w2 W4 := (L0.trans (L3.mono L0.size)).trans (U4.below (Nat.le_refl _) (Nat.le_trans L0.size L3.size))
      have l5 : Below w2.heap.size w2 W5 := l2.trans (U5.below (by omega) l2.size)
      exact ⟨U5.box B4 (by omega), B5, A2.out.size, by omega, A2.out.trans (l5.mono A2.out.size)⟩
    clear B0 L0 B3 L3 B4 U4 B5 U5 Z0
    generalize w2.heap.size = fb at *
    generalize W0.heap.size = db at *
    go_wp2_with fail
    go_ret
    exact ⟨rfl, X5.out.2.2.2.2⟩
  · refine (begun_yes mo g len cap ln ws (by omega) (by omega) (by omega) (by omega) HLN.out _ (HWS.out.below A1.out.2)).mono ?_
    rintro e w2 ⟨K, hK, rfl, hb2⟩
    have A2 : Hid (Below w.heap.size w w2) := A1.out.2.trans (hb2.mono A1.out.2.size)
    clear hb2
    refine hKK _ _ ?_
    clear hKK KK
    (refine wpList_step (fun KK hKK => ?_); go_simp; refine hKK _ _ ?_; clear hKK KK)
    refine wpList_extract_at rfl _ _ _ _ rfl rfl rfl ?_
    refine wpList_extract_at rfl _ _ _ _ rfl rfl rfl ?_
    refine wpList_extract_at rfl _ _ _ _ rfl rfl rfl ?_
    refine wpList_alloc_file rfl rfl ?_
    intro W0 hW0
    have B0 : Box 49 W0 w2.heap.size zeroC := by rw [hW0]; exact Box.new _ _ _
    have L0 : Below w2.heap.size w2 W0 := by rw [hW0]; exact (Below.refl _ _).alloc (Nat.le_refl _) _
    have Z0 : W0.heap.size = w2.heap.size + 1 := by rw [hW0]; simp
    clear hW0
    refine wpList_alloc_doc rfl rfl ?_
    intro W3 hW3
    have B3 : Box 52 W3 W0.heap.size zeroD := by rw [hW3]; exact Box.new _ _ _
    have L3 : Below W0.heap.size W0 W3 := by rw [hW3]; exact (Below.refl _ _).alloc (Nat.le_refl _) _
    clear hW3
    refine wpList_store_file rfl _ _ rfl w2.heap.size mo K zeroC rfl rfl (B0.step L3) zeroC_size ?_
    intro W4 B4 U4
    refine wpList_store_doc rfl _ _ rfl W0.heap.size mo K zeroD rfl rfl (U4.box B3 (by omega)) zeroD_size ?_
    intro W5 B5 U5
    have X5 : Hid (Tw w W5 w2.heap.size W0.heap.size mo mo K K) := by
      have l2 : Below w2.heap.size w2 W4 := (L0.trans (L3.mono L0.size)).trans (U4.below (Nat.le_refl _) (Nat.le_trans L0.size L3.size))
      have l5 : Below w2.heap.size w2 W5 := l2.trans (U5.below (by omega) l2.size)
      exact ⟨U5.box B4 (by omega), B5, A2.out.size, by omega, A2.out.trans (l5.mono A2.out.size)⟩
    clear B0 L0 B3 L3 B4 U4 B5 U5 Z0
    generalize w2.heap.size = fb at *
    generalize W0.heap.size = db at *
    have HK : Hid (Ok K) := hK
    clear hK
    have c0 : W5.cell? ⟨db, 0, none⟩ = some (.int .i64 mo) := X5.out.2.1.cell 0 _ rfl
    obtain ⟨md, hmd⟩ : ∃ md, md = wmode kind mo K := ⟨_, rfl⟩
    obtain ⟨tb0, htb⟩ : ∃ t, t = (!(kind == 0) && (mo == 3) && isB K 17) := ⟨_, rfl⟩
    have HMD : Hid (md = wmode kind mo K) := hmd
    have HTB : Hid (tb0 = (!(kind == 0) && (mo == 3) && isB K 17)) := htb
    clear hmd htb
    have HD : Hid (∀ (j : Int) V, Calls Try.prog 16 #[.agg (docC mo K), .int .i64 j] V fun e w' => e = .returned (.bool (isB K j)) ∧ Below V.heap.size V w') := fun j V => dis_any mo K j HK.out V
    go_upto_region 7 with fail
    go_cut [35] (fun x wx => x = .bool tb0 ∧ Tw w wx fb db mo mo K K)
    case first =>
      by_cases k0 : kind = 0
      · have k1 : (kind == 0) = true := by simp [k0]
        have k2 : (kind != 0) = false := by simp [k0]
        have HR : Hid (tb0 = false) := by show tb0 = false; rw [HTB.out]; simp [k0]
        clear k0
        go_wp2_with fail
        go_meet
        exact ⟨by rw [HR.out], X5.out⟩
      have k1 : (kind == 0) = false := by simp [k0]
      have k2 : (kind != 0) = true := by simp [k0]
      by_cases m3 : mo = 3
      case neg =>
        have m1 : (mo == 3) = false := by simp [m3]
        have HR : Hid (tb0 = false) := by show tb0 = false; rw [HTB.out]; simp [m3]
        clear m3 k0
        go_wp2_with fail
        go_meet
        exact ⟨by rw [HR.out], X5.out⟩
      have m1 : (mo == 3) = true := by simp [m3]
      have HR : Hid (tb0 = isB K 17) := by show tb0 = _; rw [HTB.out]; simp [m3, k0]
      clear m3 k0
      have H17 := HD.out 17
      generalize isB K 17 = i17 at *
      refine wp_region_list ?_
      (refine wpList_step (fun KK hKK => ?_); go_simp; refine hKK _ _ ?_; clear hKK KK)
      (refine wpList_step (fun KK hKK => ?_); go_simp; refine hKK _ _ ?_; clear hKK KK)
      (refine wpList_step (fun KK hKK => ?_); go_simp; refine hKK _ _ ?_; clear hKK KK)
      (refine wpList_step (fun KK hKK => ?_); go_simp; refine hKK _ _ ?_; clear hKK KK)
      (refine wpList_step (fun KK hKK => ?_); go_simp; refine hKK _ _ ?_; clear hKK KK)
      (refine wpList_step (fun KK hKK => ?_); go_simp; refine hKK _ _ ?_; clear hKK KK)
      (refine wpList_step (fun KK hKK => ?_); go_simp; refine hKK _ _ ?_; clear hKK KK)
      (refine wpList_step (fun KK hKK => ?_); go_simp; refine hKK _ _ ?_; clear hKK KK)
      refine wpList_load_docG (by first | rfl | kernel_rfl) _ rfl db mo K rfl X5.out.2.1 ?_
      refine wpList_step (fun KK hKK => ?_)
      go_simp
      refine (H17 _).mono ?_
      rintro e w6 ⟨rfl, hb⟩
      have X6 : Hid (Tw w w6 fb db mo mo K K) := X5.out.step hb
      clear hb
      refine hKK _ _ ?_
      clear hKK KK
      go_wp2_with fail
      go_meet
      exact ⟨by rw [HR.out], X6.out⟩
    case rest =>
    obtain ⟨rfl, ht⟩ := hcut
    have X6 : Hid (Tw w wc fb db mo mo K K) := ht
    clear ht X5 c0
    go_upto_if 35 with fail
    go_cut [10] (fun x wx => x = .int .i64 md ∧ Tw w wx fb db mo mo K K)
    case first =>
      cases tb0
      · have HR : Hid (md = mo) := by show md = mo; rw [HMD.out]; unfold wmode; rw [if_neg (by rw [← HTB.out]; simp)]
        go_wp2_with fail
        go_meet
        exact ⟨by rw [HR.out], X6.out⟩
      · have HR : Hid (md = (getN (K 0) 11 2 : Nat)) := by show md = _; rw [HMD.out]; unfold wmode; rw [if_pos (by rw [← HTB.out])]
        have c1 : wc.cell? ⟨fb, 1, none⟩ = some (.int .u64 (K 0 : Nat)) := X6.out.1.cell 1 _ rfl
        have hg : ∀ V, Calls Try.prog 17 #[.int .u64 (K 0 : Nat), .int .i64 11, .int .i64 2] V fun e w' => e = .returned (.int .u64 (getN (K 0) 11 2 : Nat)) ∧ Below V.heap.size V w' := fun V => rget_all (K 0) 11 2 (HK.out 0) V V (Below.refl _ _)
        have hle := get2_le (K 0)
        generalize getN (K 0) 11 2 = gg at *
        have hw : IntKind.i64.wrap (gg : Int) = gg := by simp [IntKind.wrap, IntKind.signed, IntKind.bits]; omega
        go_wp2_with fail
        refine (hg _).mono ?_
        rintro e w7 ⟨rfl, hb⟩
        have X7 : Hid (Tw w w7 fb db mo mo K K) := X6.out.step hb
        clear hb
        go_wp2_with fail
        go_meet
        exact ⟨by rw [HR.out], X7.out⟩
    case rest =>
    obtain ⟨rfl, ht⟩ := hcut
    clear X6
    have X8 : Hid (Tw w wc fb db mo mo K K) := ht
    clear ht
    go_wp2_with fail
    refine (sof_any mo kind K fb HK.out _ X8.out.1 md HMD.out).mono ?_
    rintro e w9 ⟨rfl, hb⟩
    have X9 : Hid (Tw w w9 fb db mo mo K K) := X8.out.step hb
    clear hb X8
    go_upto_region 10 with fail
    have X10 : Hid (Vy w (w9.alloc (.cells #[.int .u64 (K 18 : Nat), .int .i64 kind, .int .i64 md, .bool (isB K 18), .bool (isB K 19)] 40)) fb db mo K w9.heap.size #[.int .u64 (K 18 : Nat), .int .i64 kind, .int .i64 md, .bool (isB K 18), .bool (isB K 19)]) := Vy.new X9.out _
    generalize w9.heap.size = p11 at *
    generalize w9.alloc (.cells #[.int .u64 (K 18 : Nat), .int .i64 kind, .int .i64 md, .bool (isB K 18), .bool (isB K 19)] 40) = V10 at *
    clear X9
    go_cut [12] (fun x wx => ∃ p12 : Nat, x = .pointer (some ⟨p12, 0, none⟩) ∧ Vz w wx fb db mo K p11 #[.int .u64 (K 18 : Nat), .int .i64 kind, .int .i64 md, .bool (isB K 18), .bool (isB K 19)] p12 #[.int .u64 (K 18 : Nat), .int .i64 kind, .int .i64 md, .bool (isB K 18), .bool (isB K 19)])
    case first =>
      have Xd : Hid (Vy w V10.drew fb db mo K p11 #[.int .u64 (K 18 : Nat), .int .i64 kind, .int .i64 md, .bool (isB K 18), .bool (isB K 19)]) := X10.out.step (Below.drew (Below.refl _ _))
      refine wp_region_held_drew (S := fun V => V.cell? ⟨fb, 19, none⟩ = some (.int .u64 (K 18 : Nat)) ∧ Box 52 V db (docC mo K)) (by kernel_rfl) ⟨Xd.out.1.1.cell 19 _ rfl, Xd.out.1.2.1⟩ ?_
      intro hS
      generalize V10.drew = wd at *
      refine wpAnyH_take (i := 0) (v := ?_) rfl (by kernel_rfl) (by kernel_rfl) (by kernel_rfl) (fun _ _ _ h => h) (Or.inl ⟨by kernel_rfl, ?_⟩) hS ?_
      rotate_left
      · intro w hSw; (try dsimp only at hSw); go_simp; try (with_reducible rfl)
      (try simp only [Act.put, List.getElem_toArray, List.getElem_cons_succ, List.getElem_cons_zero, List.setIfInBounds_toArray, List.set_cons_zero, List.set_cons_succ])
      refine wpAnyH_take (i := 1) (v := ?_) rfl (by kernel_rfl) (by kernel_rfl) (by kernel_rfl) (fun _ _ _ h => h) (Or.inl ⟨by kernel_rfl, ?_⟩) hS ?_
      rotate_left
      · intro w hSw; (try dsimp only at hSw); go_simp; try (with_reducible rfl)
      (try simp only [Act.put, List.getElem_toArray, List.getElem_cons_succ, List.getElem_cons_zero, List.setIfInBounds_toArray, List.set_cons_zero, List.set_cons_succ])
      refine wpAnyH_take (i := 2) (v := ?_) rfl (by kernel_rfl) (by kernel_rfl) (by kernel_rfl) (fun _ _ _ h => h) (Or.inl ⟨by kernel_rfl, ?_⟩) hS ?_
      rotate_left
      · intro w hSw; (try dsimp only at hSw); go_simp; try (with_reducible rfl)
      (try simp only [Act.put, List.getElem_toArray, List.getElem_cons_succ, List.getElem_cons_zero, List.setIfInBounds_toArray, List.set_cons_zero, List.set_cons_succ])
      refine wpAnyH_take (i := 3) (v := ?_) rfl (by kernel_rfl) (by kernel_rfl) (by kernel_rfl) (fun _ _ _ h => h) (Or.inl ⟨by kernel_rfl, ?_⟩) hS ?_
      rotate_left
      · intro w hSw; (try dsimp only at hSw); go_simp; try (with_reducible rfl)
      (try simp only [Act.put, List.getElem_toArray, List.getElem_cons_succ, List.getElem_cons_zero, List.setIfInBounds_toArray, List.set_cons_zero, List.set_cons_succ])
      refine wpAnyH_take (i := 4) (v := .agg (docC mo K)) rfl (by kernel_rfl) (by kernel_rfl) (by kernel_rfl) (fun _ _ _ h => h) (Or.inl ⟨by kernel_rfl, fun V hV => yield_docB hV.2 _ rfl rfl⟩) hS ?_
      (try simp only [Act.put, List.getElem_toArray, List.getElem_cons_succ, List.getElem_cons_zero, List.setIfInBounds_toArray, List.set_cons_zero, List.set_cons_succ])
      refine wpAnyH_take (i := 6) (v := .agg (docC mo K)) rfl (by kernel_rfl) (by kernel_rfl) (by kernel_rfl) (fun _ _ _ h => h) (Or.inl ⟨by kernel_rfl, fun V hV => yield_docB hV.2 _ rfl rfl⟩) hS ?_
      (try simp only [Act.put, List.getElem_toArray, List.getElem_cons_succ, List.getElem_cons_zero, List.setIfInBounds_toArray, List.set_cons_zero, List.set_cons_succ])
      refine wpAnyH_ready (rs := [5, 9]) (by kernel_rfl) (by simp) ?_
      refine AllReadyH.cons rfl (fun K1 hK1 => ?_) (AllReadyH.cons rfl (fun K1 hK1 => ?_) AllReadyH.nil)
      · go_simp
        refine (HD.out 18 _).mono ?_
        rintro e w21 ⟨rfl, hb⟩
        have X21 : Hid (Vy w w21 fb db mo K p11 #[.int .u64 (K 18 : Nat), .int .i64 kind, .int .i64 md, .bool (isB K 18), .bool (isB K 19)]) := Xd.out.step hb
        clear hb
        refine hK1.out _ _ ⟨X21.out.1.1.cell 19 _ rfl, X21.out.1.2.1⟩ (fun hS21 => ?_)
        clear hK1 K1 hS
        (try simp only [Act.put, List.getElem_toArray, List.getElem_cons_succ, List.getElem_cons_zero, List.setIfInBounds_toArray, List.set_cons_zero, List.set_cons_succ])
        refine wpAnyH_ready (rs := [7, 9]) (by kernel_rfl) (by simp) ?_
        refine AllReadyH.cons rfl (fun K1 hK1 => ?_) (AllReadyH.cons rfl (fun K1 hK1 => ?_) AllReadyH.nil)
        · go_simp
          refine (HD.out 19 _).mono ?_
          rintro e w22 ⟨rfl, hb⟩
          have X22 : Hid (Vy w w22 fb db mo K p11 #[.int .u64 (K 18 : Nat), .int .i64 kind, .int .i64 md, .bool (isB K 18), .bool (isB K 19)]) := X21.out.step hb
          clear hb
          refine hK1.out _ _ ⟨X22.out.1.1.cell 19 _ rfl, X22.out.1.2.1⟩ (fun hS22 => ?_)
          clear hK1 K1 hS21
          (try simp only [Act.put, List.getElem_toArray, List.getElem_cons_succ, List.getElem_cons_zero, List.setIfInBounds_toArray, List.set_cons_zero, List.set_cons_succ])
          refine wpAnyH_take (i := 8) (v := ?_) rfl (by kernel_rfl) (by kernel_rfl) (by kernel_rfl) (fun _ _ _ h => h) (Or.inl ⟨by kernel_rfl, ?_⟩) hS22 ?_
          rotate_left
          · intro w hSw; (try dsimp only at hSw); go_simp; try (with_reducible rfl)
          (try simp only [Act.put, List.getElem_toArray, List.getElem_cons_succ, List.getElem_cons_zero, List.setIfInBounds_toArray, List.set_cons_zero, List.set_cons_succ])
          refine wpAnyH_ready (rs := [9]) (by kernel_rfl) (by simp) ?_
          refine AllReadyH.cons rfl (fun K1 hK1 => ?_) AllReadyH.nil
          go_simp
          have X23 : Hid (Vz w (w22.alloc (.cells zw 25)) fb db mo K p11 #[.int .u64 (K 18 : Nat), .int .i64 kind, .int .i64 md, .bool (isB K 18), .bool (isB K 19)] w22.heap.size zw) := Vz.new X22.out _
          refine hK1.out _ (w22.alloc (.cells zw 25)) ⟨X23.out.1.1.1.cell 19 _ rfl, X23.out.1.1.2.1⟩ (fun hS23 => ?_)
          clear hK1 K1 hS22
          (try simp only [Act.put, List.getElem_toArray, List.getElem_cons_succ, List.getElem_cons_zero, List.setIfInBounds_toArray, List.set_cons_zero, List.set_cons_succ])
          generalize w22.heap.size = p12 at *
          generalize w22.alloc (.cells zw 25) = w23 at *
          refine wpAnyH_ready (rs := [10]) (by kernel_rfl) (by simp) ?_
          refine AllReadyH.cons rfl (fun K1 hK1 => ?_) AllReadyH.nil
          have y0 := X23.out.2.1.cell 0 _ rfl
          have z0 := X23.out.2.1.frozen 0
          have y1 := X23.out.2.1.cell 1 _ rfl
          have z1 := X23.out.2.1.frozen 1
          have y2 := X23.out.2.1.cell 2 _ rfl
          have z2 := X23.out.2.1.frozen 2
          have y3 := X23.out.2.1.cell 3 _ rfl
          have z3 := X23.out.2.1.frozen 3
          have y4 := X23.out.2.1.cell 4 _ rfl
          have z4 := X23.out.2.1.frozen 4
          go_simp
          have X24 : Hid (Vz w (((((w23.setCell ⟨p12, 0, none⟩ (.int .u64 (K 18 : Nat))).setCell ⟨p12, 1, none⟩ (.int .i64 kind)).setCell ⟨p12, 2, none⟩ (.int .i64 md)).setCell ⟨p12, 3, none⟩ (.bool (isB K 18))).setCell ⟨p12, 4, none⟩ (.bool (isB K 19))) fb db mo K p11 #[.int .u64 (K 18 : Nat), .int .i64 kind, .int .i64 md, .bool (isB K 18), .bool (isB K 19)] p12 #[.int .u64 (K 18 : Nat), .int .i64 kind, .int .i64 md, .bool (isB K 18), .bool (isB K 19)]) := X23.out.upon (((((X23.out.2.1.set 0 _).set 1 _).set 2 _).set 3 _).set 4 _) ((((((Upon.refl _ _).set 0 _).set 1 _).set 2 _).set 3 _).set 4 _)
          refine hK1.out _ (((((w23.setCell ⟨p12, 0, none⟩ (.int .u64 (K 18 : Nat))).setCell ⟨p12, 1, none⟩ (.int .i64 kind)).setCell ⟨p12, 2, none⟩ (.int .i64 md)).setCell ⟨p12, 3, none⟩ (.bool (isB K 18))).setCell ⟨p12, 4, none⟩ (.bool (isB K 19))) ⟨X24.out.1.1.1.cell 19 _ rfl, X24.out.1.1.2.1⟩ (fun hS24 => ?_)
          clear hK1 K1 hS23 y0 z0 y1 z1 y2 z2 y3 z3 y4 z4
          (try simp only [Act.put, List.getElem_toArray, List.getElem_cons_succ, List.getElem_cons_zero, List.setIfInBounds_toArray, List.set_cons_zero, List.set_cons_succ])
          generalize ((((w23.setCell ⟨p12, 0, none⟩ (.int .u64 (K 18 : Nat))).setCell ⟨p12, 1, none⟩ (.int .i64 kind)).setCell ⟨p12, 2, none⟩ (.int .i64 md)).setCell ⟨p12, 3, none⟩ (.bool (isB K 18))).setCell ⟨p12, 4, none⟩ (.bool (isB K 19)) = w24 at *
          refine wpAnyH_done (by kernel_rfl) ?_ _
          clear hS24
          go_wp2_with fail
          go_meet
          exact ⟨p12, rfl, X24.out⟩
        · go_simp
          have X22 : Hid (Vz w (w21.alloc (.cells zw 25)) fb db mo K p11 #[.int .u64 (K 18 : Nat), .int .i64 kind, .int .i64 md, .bool (isB K 18), .bool (isB K 19)] w21.heap.size zw) := Vz.new X21.out _
          refine hK1.out _ (w21.alloc (.cells zw 25)) ⟨X22.out.1.1.1.cell 19 _ rfl, X22.out.1.1.2.1⟩ (fun hS22 => ?_)
          clear hK1 K1 hS21
          (try simp only [Act.put, List.getElem_toArray, List.getElem_cons_succ, List.getElem_cons_zero, List.setIfInBounds_toArray, List.set_cons_zero, List.set_cons_succ])
          generalize w21.heap.size = p12 at *
          generalize w21.alloc (.cells zw 25) = w22 at *
          refine wpAnyH_ready (rs := [7]) (by kernel_rfl) (by simp) ?_
          refine AllReadyH.cons rfl (fun K1 hK1 => ?_) AllReadyH.nil
          go_simp
          refine (HD.out 19 _).mono ?_
          rintro e w23 ⟨rfl, hb⟩
          have X23 : Hid (Vz w w23 fb db mo K p11 #[.int .u64 (K 18 : Nat), .int .i64 kind, .int .i64 md, .bool (isB K 18), .bool (isB K 19)] p12 zw) := X22.out.step hb
          clear hb
          refine hK1.out _ _ ⟨X23.out.1.1.1.cell 19 _ rfl, X23.out.1.1.2.1⟩ (fun hS23 => ?_)
          clear hK1 K1 hS22
          (try simp only [Act.put, List.getElem_toArray, List.getElem_cons_succ, List.getElem_cons_zero, List.setIfInBounds_toArray, List.set_cons_zero, List.set_cons_succ])
          refine wpAnyH_take (i := 8) (v := ?_) rfl (by kernel_rfl) (by kernel_rfl) (by kernel_rfl) (fun _ _ _ h => h) (Or.inl ⟨by kernel_rfl, ?_⟩) hS23 ?_
          rotate_left
          · intro w hSw; (try dsimp only at hSw); go_simp; try (with_reducible rfl)
          (try simp only [Act.put, List.getElem_toArray, List.getElem_cons_succ, List.getElem_cons_zero, List.setIfInBounds_toArray, List.set_cons_zero, List.set_cons_succ])
          refine wpAnyH_ready (rs := [10]) (by kernel_rfl) (by simp) ?_
          refine AllReadyH.cons rfl (fun K1 hK1 => ?_) AllReadyH.nil
          have y0 := X23.out.2.1.cell 0 _ rfl
          have z0 := X23.out.2.1.frozen 0
          have y1 := X23.out.2.1.cell 1 _ rfl
          have z1 := X23.out.2.1.frozen 1
          have y2 := X23.out.2.1.cell 2 _ rfl
          have z2 := X23.out.2.1.frozen 2
          have y3 := X23.out.2.1.cell 3 _ rfl
          have z3 := X23.out.2.1.frozen 3
          have y4 := X23.out.2.1.cell 4 _ rfl
          have z4 := X23.out.2.1.frozen 4
          go_simp
          have X24 : Hid (Vz w (((((w23.setCell ⟨p12, 0, none⟩ (.int .u64 (K 18 : Nat))).setCell ⟨p12, 1, none⟩ (.int .i64 kind)).setCell ⟨p12, 2, none⟩ (.int .i64 md)).setCell ⟨p12, 3, none⟩ (.bool (isB K 18))).setCell ⟨p12, 4, none⟩ (.bool (isB K 19))) fb db mo K p11 #[.int .u64 (K 18 : Nat), .int .i64 kind, .int .i64 md, .bool (isB K 18), .bool (isB K 19)] p12 #[.int .u64 (K 18 : Nat), .int .i64 kind, .int .i64 md, .bool (isB K 18), .bool (isB K 19)]) := X23.out.upon (((((X23.out.2.1.set 0 _).set 1 _).set 2 _).set 3 _).set 4 _) ((((((Upon.refl _ _).set 0 _).set 1 _).set 2 _).set 3 _).set 4 _)
          refine hK1.out _ (((((w23.setCell ⟨p12, 0, none⟩ (.int .u64 (K 18 : Nat))).setCell ⟨p12, 1, none⟩ (.int .i64 kind)).setCell ⟨p12, 2, none⟩ (.int .i64 md)).setCell ⟨p12, 3, none⟩ (.bool (isB K 18))).setCell ⟨p12, 4, none⟩ (.bool (isB K 19))) ⟨X24.out.1.1.1.cell 19 _ rfl, X24.out.1.1.2.1⟩ (fun hS24 => ?_)
          clear hK1 K1 hS23 y0 z0 y1 z1 y2 z2 y3 z3 y4 z4
          (try simp only [Act.put, List.getElem_toArray, List.getElem_cons_succ, List.getElem_cons_zero, List.setIfInBounds_toArray, List.set_cons_zero, List.set_cons_succ])
          generalize ((((w23.setCell ⟨p12, 0, none⟩ (.int .u64 (K 18 : Nat))).setCell ⟨p12, 1, none⟩ (.int .i64 kind)).setCell ⟨p12, 2, none⟩ (.int .i64 md)).setCell ⟨p12, 3, none⟩ (.bool (isB K 18))).setCell ⟨p12, 4, none⟩ (.bool (isB K 19)) = w24 at *
          refine wpAnyH_done (by kernel_rfl) ?_ _
          clear hS24
          go_wp2_with fail
          go_meet
          exact ⟨p12, rfl, X24.out⟩
      · go_simp
        have X21 : Hid (Vz w (wd.alloc (.cells zw 25)) fb db mo K p11 #[.int .u64 (K 18 : Nat), .int .i64 kind, .int .i64 md, .bool (isB K 18), .bool (isB K 19)] wd.heap.size zw) := Vz.new Xd.out _
        refine hK1.out _ (wd.alloc (.cells zw 25)) ⟨X21.out.1.1.1.cell 19 _ rfl, X21.out.1.1.2.1⟩ (fun hS21 => ?_)
        clear hK1 K1 hS
        (try simp only [Act.put, List.getElem_toArray, List.getElem_cons_succ, List.getElem_cons_zero, List.setIfInBounds_toArray, List.set_cons_zero, List.set_cons_succ])
        generalize wd.heap.size = p12 at *
        generalize wd.alloc (.cells zw 25) = w21 at *
        refine wpAnyH_ready (rs := [5]) (by kernel_rfl) (by simp) ?_
        refine AllReadyH.cons rfl (fun K1 hK1 => ?_) AllReadyH.nil
        go_simp
        refine (HD.out 18 _).mono ?_
        rintro e w22 ⟨rfl, hb⟩
        have X22 : Hid (Vz w w22 fb db mo K p11 #[.int .u64 (K 18 : Nat), .int .i64 kind, .int .i64 md, .bool (isB K 18), .bool (isB K 19)] p12 zw) := X21.out.step hb
        clear hb
        refine hK1.out _ _ ⟨X22.out.1.1.1.cell 19 _ rfl, X22.out.1.1.2.1⟩ (fun hS22 => ?_)
        clear hK1 K1 hS21
        (try simp only [Act.put, List.getElem_toArray, List.getElem_cons_succ, List.getElem_cons_zero, List.setIfInBounds_toArray, List.set_cons_zero, List.set_cons_succ])
        refine wpAnyH_ready (rs := [7]) (by kernel_rfl) (by simp) ?_
        refine AllReadyH.cons rfl (fun K1 hK1 => ?_) AllReadyH.nil
        go_simp
        refine (HD.out 19 _).mono ?_
        rintro e w23 ⟨rfl, hb⟩
        have X23 : Hid (Vz w w23 fb db mo K p11 #[.int .u64 (K 18 : Nat), .int .i64 kind, .int .i64 md, .bool (isB K 18), .bool (isB K 19)] p12 zw) := X22.out.step hb
        clear hb
        refine hK1.out _ _ ⟨X23.out.1.1.1.cell 19 _ rfl, X23.out.1.1.2.1⟩ (fun hS23 => ?_)
        clear hK1 K1 hS22
        (try simp only [Act.put, List.getElem_toArray, List.getElem_cons_succ, List.getElem_cons_zero, List.setIfInBounds_toArray, List.set_cons_zero, List.set_cons_succ])
        refine wpAnyH_take (i := 8) (v := ?_) rfl (by kernel_rfl) (by kernel_rfl) (by kernel_rfl) (fun _ _ _ h => h) (Or.inl ⟨by kernel_rfl, ?_⟩) hS23 ?_
        rotate_left
        · intro w hSw; (try dsimp only at hSw); go_simp; try (with_reducible rfl)
        (try simp only [Act.put, List.getElem_toArray, List.getElem_cons_succ, List.getElem_cons_zero, List.setIfInBounds_toArray, List.set_cons_zero, List.set_cons_succ])
        refine wpAnyH_ready (rs := [10]) (by kernel_rfl) (by simp) ?_
        refine AllReadyH.cons rfl (fun K1 hK1 => ?_) AllReadyH.nil
        have y0 := X23.out.2.1.cell 0 _ rfl
        have z0 := X23.out.2.1.frozen 0
        have y1 := X23.out.2.1.cell 1 _ rfl
        have z1 := X23.out.2.1.frozen 1
        have y2 := X23.out.2.1.cell 2 _ rfl
        have z2 := X23.out.2.1.frozen 2
        have y3 := X23.out.2.1.cell 3 _ rfl
        have z3 := X23.out.2.1.frozen 3
        have y4 := X23.out.2.1.cell 4 _ rfl
        have z4 := X23.out.2.1.frozen 4
        go_simp
        have X24 : Hid (Vz w (((((w23.setCell ⟨p12, 0, none⟩ (.int .u64 (K 18 : Nat))).setCell ⟨p12, 1, none⟩ (.int .i64 kind)).setCell ⟨p12, 2, none⟩ (.int .i64 md)).setCell ⟨p12, 3, none⟩ (.bool (isB K 18))).setCell ⟨p12, 4, none⟩ (.bool (isB K 19))) fb db mo K p11 #[.int .u64 (K 18 : Nat), .int .i64 kind, .int .i64 md, .bool (isB K 18), .bool (isB K 19)] p12 #[.int .u64 (K 18 : Nat), .int .i64 kind, .int .i64 md, .bool (isB K 18), .bool (isB K 19)]) := X23.out.upon (((((X23.out.2.1.set 0 _).set 1 _).set 2 _).set 3 _).set 4 _) ((((((Upon.refl _ _).set 0 _).set 1 _).set 2 _).set 3 _).set 4 _)
        refine hK1.out _ (((((w23.setCell ⟨p12, 0, none⟩ (.int .u64 (K 18 : Nat))).setCell ⟨p12, 1, none⟩ (.int .i64 kind)).setCell ⟨p12, 2, none⟩ (.int .i64 md)).setCell ⟨p12, 3, none⟩ (.bool (isB K 18))).setCell ⟨p12, 4, none⟩ (.bool (isB K 19))) ⟨X24.out.1.1.1.cell 19 _ rfl, X24.out.1.1.2.1⟩ (fun hS24 => ?_)
        clear hK1 K1 hS23 y0 z0 y1 z1 y2 z2 y3 z3 y4 z4
        (try simp only [Act.put, List.getElem_toArray, List.getElem_cons_succ, List.getElem_cons_zero, List.setIfInBounds_toArray, List.set_cons_zero, List.set_cons_succ])
        generalize ((((w23.setCell ⟨p12, 0, none⟩ (.int .u64 (K 18 : Nat))).setCell ⟨p12, 1, none⟩ (.int .i64 kind)).setCell ⟨p12, 2, none⟩ (.int .i64 md)).setCell ⟨p12, 3, none⟩ (.bool (isB K 18))).setCell ⟨p12, 4, none⟩ (.bool (isB K 19)) = w24 at *
        refine wpAnyH_done (by kernel_rfl) ?_ _
        clear hS24
        go_wp2_with fail
        go_meet
        exact ⟨p12, rfl, X24.out⟩
    case rest =>
    obtain ⟨p12, rfl, ht⟩ := hcut
    have X11 : Hid (Vz w wc fb db mo K p11 #[.int .u64 (K 18 : Nat), .int .i64 kind, .int .i64 md, .bool (isB K 18), .bool (isB K 19)] p12 #[.int .u64 (K 18 : Nat), .int .i64 kind, .int .i64 md, .bool (isB K 18), .bool (isB K 19)]) := ht
    clear ht X10 HD
    have HBa : Hid (∀ V, Calls Try.prog 19 #[.agg #[.int .u64 (K 18 : Nat), .int .i64 kind, .int .i64 md, .bool (isB K 18), .bool (isB K 19)]] V fun e w' => e = .returned (.bool (bareB (K 18) md)) ∧ Below V.heap.size V w') := fun V => bare_any (K 18) kind md (isB K 18) (isB K 19) (HK.out 18) V V (Below.refl _ _)
    have HBd : Hid (∀ V, Calls Try.prog 20 #[.agg #[.int .u64 (K 18 : Nat), .int .i64 kind, .int .i64 md, .bool (isB K 18), .bool (isB K 19)]] V fun e w' => e = .returned (.bool (bareB (K 18) md)) ∧ Below V.heap.size V w') := fun V => dbare_any (K 18) kind md (isB K 18) (isB K 19) (HK.out 18) V V (Below.refl _ _)
    have HPa : Hid (∀ V, Calls Try.prog 21 #[.int .u64 (va : Int)] V fun e w' => e = .returned (.bool (propB va)) ∧ Below V.heap.size V w') := fun V => proper_any va HVA.out V V (Below.refl _ _)
    have HPd : Hid (∀ V, Calls Try.prog 22 #[.int .u64 (va : Int)] V fun e w' => e = .returned (.bool (propB va)) ∧ Below V.heap.size V w') := fun V => dproper_any va HVA.out V V (Below.refl _ _)
    have HWy : Hid (∀ V, Calls Try.prog 13 #[.agg #[.int .u64 (K 18 : Nat), .int .i64 kind, .int .i64 md, .bool (isB K 18), .bool (isB K 19)]] V fun e w' => e = .returned (.agg #[.int .u64 (K 18 : Nat), .int .i64 kind, .int .i64 md, .bool (isB K 18), .bool (isB K 19)]) ∧ Below V.heap.size V w') := fun V => way_any (K 18) kind md (isB K 18) (isB K 19) V V (Below.refl _ _)
    have HIs : Hid (∀ V, Vz w V fb db mo K p11 #[.int .u64 (K 18 : Nat), .int .i64 kind, .int .i64 md, .bool (isB K 18), .bool (isB K 19)] p12 #[.int .u64 (K 18 : Nat), .int .i64 kind, .int .i64 md, .bool (isB K 18), .bool (isB K 19)] → Calls Try.prog 23 #[.pointer (some ⟨fb, 0, none⟩), .int .i64 18] V fun e w' => e = .returned (.bool (isB K 18)) ∧ Below V.heap.size V w') := fun V h => is_any mo K 18 fb HK.out V h.1.1.1
    generalize bareB (K 18) md = bb at *
    generalize propB va = pp at *
    generalize isB K 18 = i18 at *
    generalize isB K 19 = i19 at *
    generalize K 18 = k18 at *
    have q1 : ((k18 : Int) == (k18 : Int)) = true := by simp
    have q2 : (kind == kind) = true := by simp
    have q3 : (md == md) = true := by simp
    have q4 : (i18 == i18) = true := by simp
    have q5 : (i19 == i19) = true := by simp
    have q6 : (bb == bb) = true := by simp
    have q7 : (pp == pp) = true := by simp
    go_upto_region 11 with fail
    have Xd : Hid (Vz w wc.drew fb db mo K p11 #[.int .u64 (k18 : Nat), .int .i64 kind, .int .i64 md, .bool i18, .bool i19] p12 #[.int .u64 (k18 : Nat), .int .i64 kind, .int .i64 md, .bool i18, .bool i19]) := X11.out.step (Below.drew (Below.refl _ _))
    refine wp_region_held_drew (S := fun V => (V.cell? ⟨p11, 0, none⟩ = some (.int .u64 (k18 : Nat)) ∧ V.cell? ⟨p11, 1, none⟩ = some (.int .i64 kind) ∧ V.cell? ⟨p11, 2, none⟩ = some (.int .i64 md) ∧ V.cell? ⟨p11, 3, none⟩ = some (.bool i18) ∧ V.cell? ⟨p11, 4, none⟩ = some (.bool i19)) ∧ V.cell? ⟨p12, 0, none⟩ = some (.int .u64 (k18 : Nat)) ∧ V.cell? ⟨p12, 1, none⟩ = some (.int .i64 kind) ∧ V.cell? ⟨p12, 2, none⟩ = some (.int .i64 md) ∧ V.cell? ⟨p12, 3, none⟩ = some (.bool i18) ∧ V.cell? ⟨p12, 4, none⟩ = some (.bool i19)) (by kernel_rfl) ⟨⟨Xd.out.1.2.cell 0 _ rfl, Xd.out.1.2.cell 1 _ rfl, Xd.out.1.2.cell 2 _ rfl, Xd.out.1.2.cell 3 _ rfl, Xd.out.1.2.cell 4 _ rfl⟩, Xd.out.2.1.cell 0 _ rfl, Xd.out.2.1.cell 1 _ rfl, Xd.out.2.1.cell 2 _ rfl, Xd.out.2.1.cell 3 _ rfl, Xd.out.2.1.cell 4 _ rfl⟩ ?_
    intro hS
    refine wpAnyH_take (i := 0) (v := ?_) rfl (by kernel_rfl) (by kernel_rfl) (by kernel_rfl) (fun _ _ _ h => h) (Or.inl ⟨by kernel_rfl, ?_⟩) hS ?_
    rotate_left
    · intro w hSw; (try dsimp only at hSw); go_simp; try (with_reducible rfl)
    (try simp only [Act.put, List.getElem_toArray, List.getElem_cons_succ, List.getElem_cons_zero, List.setIfInBounds_toArray, List.set_cons_zero, List.set_cons_succ])
    refine wpAnyH_take (i := 1) (v := ?_) rfl (by kernel_rfl) (by kernel_rfl) (by kernel_rfl) (fun _ _ _ h => h) (Or.inl ⟨by kernel_rfl, ?_⟩) hS ?_
    rotate_left
    · intro w hSw; (try dsimp only at hSw); go_simp; try (with_reducible rfl)
    (try simp only [Act.put, List.getElem_toArray, List.getElem_cons_succ, List.getElem_cons_zero, List.setIfInBounds_toArray, List.set_cons_zero, List.set_cons_succ])
    refine wpAnyH_ready (rs := [2]) (by kernel_rfl) (by simp) ?_
    refine AllReadyH.cons rfl (fun K1 hK1 => ?_) AllReadyH.nil
    go_simp
    refine (HWy.out _).mono ?_
    rintro e w41 ⟨rfl, hb⟩
    have X41 : Hid (Vz w w41 fb db mo K p11 #[.int .u64 (k18 : Nat), .int .i64 kind, .int .i64 md, .bool i18, .bool i19] p12 #[.int .u64 (k18 : Nat), .int .i64 kind, .int .i64 md, .bool i18, .bool i19]) := Xd.out.step hb
    clear hb
    refine hK1.out _ _ ⟨⟨X41.out.1.2.cell 0 _ rfl, X41.out.1.2.cell 1 _ rfl, X41.out.1.2.cell 2 _ rfl, X41.out.1.2.cell 3 _ rfl, X41.out.1.2.cell 4 _ rfl⟩, X41.out.2.1.cell 0 _ rfl, X41.out.2.1.cell 1 _ rfl, X41.out.2.1.cell 2 _ rfl, X41.out.2.1.cell 3 _ rfl, X41.out.2.1.cell 4 _ rfl⟩ (fun hS41 => ?_)
    clear hK1 K1 hS
    (try simp only [Act.put, List.getElem_toArray, List.getElem_cons_succ, List.getElem_cons_zero, List.setIfInBounds_toArray, List.set_cons_zero, List.set_cons_succ])
    refine wpAnyH_take (i := 3) (v := ?_) rfl (by kernel_rfl) (by kernel_rfl) (by kernel_rfl) (fun _ _ _ h => h) (Or.inl ⟨by kernel_rfl, ?_⟩) hS41 ?_
    rotate_left
    · intro w hSw; (try dsimp only at hSw); go_simp; try (with_reducible rfl)
    (try simp only [Act.put, List.getElem_toArray, List.getElem_cons_succ, List.getElem_cons_zero, List.setIfInBounds_toArray, List.set_cons_zero, List.set_cons_succ])
    refine wpAnyH_take (i := 4) (v := ?_) rfl (by kernel_rfl) (by kernel_rfl) (by kernel_rfl) (fun _ _ _ h => h) (Or.inl ⟨by kernel_rfl, ?_⟩) hS41 ?_
    rotate_left
    · intro w hSw; (try dsimp only at hSw); go_simp; try (with_reducible rfl)
    (try simp only [Act.put, List.getElem_toArray, List.getElem_cons_succ, List.getElem_cons_zero, List.setIfInBounds_toArray, List.set_cons_zero, List.set_cons_succ])
    refine wpAnyH_take (i := 5) (v := ?_) rfl (by kernel_rfl) (by kernel_rfl) (by kernel_rfl) (fun _ _ _ h => h) (Or.inl ⟨by kernel_rfl, ?_⟩) hS41 ?_
    rotate_left
    · intro w hSw; (try dsimp only at hSw); go_simp; try (with_reducible rfl)
    (try simp only [Act.put, List.getElem_toArray, List.getElem_cons_succ, List.getElem_cons_zero, List.setIfInBounds_toArray, List.set_cons_zero, List.set_cons_succ])
    refine wpAnyH_take (i := 7) (v := ?_) rfl (by kernel_rfl) (by kernel_rfl) (by kernel_rfl) (fun _ _ _ h => h) (Or.inl ⟨by kernel_rfl, ?_⟩) hS41 ?_
    rotate_left
    · intro w hSw; (try dsimp only at hSw); go_simp; try (with_reducible rfl)
    (try simp only [Act.put, List.getElem_toArray, List.getElem_cons_succ, List.getElem_cons_zero, List.setIfInBounds_toArray, List.set_cons_zero, List.set_cons_succ])
    refine wpAnyH_ready (rs := [6]) (by kernel_rfl) (by simp) ?_
    refine AllReadyH.cons rfl (fun K1 hK1 => ?_) AllReadyH.nil
    go_simp
    refine (HBa.out _).mono ?_
    rintro e w42 ⟨rfl, hb⟩
    have X42 : Hid (Vz w w42 fb db mo K p11 #[.int .u64 (k18 : Nat), .int .i64 kind, .int .i64 md, .bool i18, .bool i19] p12 #[.int .u64 (k18 : Nat), .int .i64 kind, .int .i64 md, .bool i18, .bool i19]) := X41.out.step hb
    clear hb
    refine hK1.out _ _ ⟨⟨X42.out.1.2.cell 0 _ rfl, X42.out.1.2.cell 1 _ rfl, X42.out.1.2.cell 2 _ rfl, X42.out.1.2.cell 3 _ rfl, X42.out.1.2.cell 4 _ rfl⟩, X42.out.2.1.cell 0 _ rfl, X42.out.2.1.cell 1 _ rfl, X42.out.2.1.cell 2 _ rfl, X42.out.2.1.cell 3 _ rfl, X42.out.2.1.cell 4 _ rfl⟩ (fun hS42 => ?_)
    clear hK1 K1 hS41
    (try simp only [Act.put, List.getElem_toArray, List.getElem_cons_succ, List.getElem_cons_zero, List.setIfInBounds_toArray, List.set_cons_zero, List.set_cons_succ])
    refine wpAnyH_ready (rs := [8]) (by kernel_rfl) (by simp) ?_
    refine AllReadyH.cons rfl (fun K1 hK1 => ?_) AllReadyH.nil
    go_simp
    refine (HBd.out _).mono ?_
    rintro e w43 ⟨rfl, hb⟩
    have X43 : Hid (Vz w w43 fb db mo K p11 #[.int .u64 (k18 : Nat), .int .i64 kind, .int .i64 md, .bool i18, .bool i19] p12 #[.int .u64 (k18 : Nat), .int .i64 kind, .int .i64 md, .bool i18, .bool i19]) := X42.out.step hb
    clear hb
    refine hK1.out _ _ ⟨⟨X43.out.1.2.cell 0 _ rfl, X43.out.1.2.cell 1 _ rfl, X43.out.1.2.cell 2 _ rfl, X43.out.1.2.cell 3 _ rfl, X43.out.1.2.cell 4 _ rfl⟩, X43.out.2.1.cell 0 _ rfl, X43.out.2.1.cell 1 _ rfl, X43.out.2.1.cell 2 _ rfl, X43.out.2.1.cell 3 _ rfl, X43.out.2.1.cell 4 _ rfl⟩ (fun hS43 => ?_)
    clear hK1 K1 hS42
    (try simp only [Act.put, List.getElem_toArray, List.getElem_cons_succ, List.getElem_cons_zero, List.setIfInBounds_toArray, List.set_cons_zero, List.set_cons_succ])
    refine wpAnyH_take (i := 9) (v := ?_) rfl (by kernel_rfl) (by kernel_rfl) (by kernel_rfl) (fun _ _ _ h => h) (Or.inl ⟨by kernel_rfl, ?_⟩) hS43 ?_
    rotate_left
    · intro w hSw; (try dsimp only at hSw); go_simp; try (with_reducible rfl)
    (try simp only [Act.put, List.getElem_toArray, List.getElem_cons_succ, List.getElem_cons_zero, List.setIfInBounds_toArray, List.set_cons_zero, List.set_cons_succ])
    refine wpAnyH_take (i := 10) (v := ?_) rfl (by kernel_rfl) (by kernel_rfl) (by kernel_rfl) (fun _ _ _ h => h) (Or.inl ⟨by kernel_rfl, ?_⟩) hS43 ?_
    rotate_left
    · intro w hSw; (try dsimp only at hSw); go_simp; try (with_reducible rfl)
    (try simp only [Act.put, List.getElem_toArray, List.getElem_cons_succ, List.getElem_cons_zero, List.setIfInBounds_toArray, List.set_cons_zero, List.set_cons_succ])
    refine wpAnyH_take (i := 11) (v := ?_) rfl (by kernel_rfl) (by kernel_rfl) (by kernel_rfl) (fun _ _ _ h => h) (Or.inl ⟨by kernel_rfl, ?_⟩) hS43 ?_
    rotate_left
    · intro w hSw; (try dsimp only at hSw); go_simp; try (with_reducible rfl)
    (try simp only [Act.put, List.getElem_toArray, List.getElem_cons_succ, List.getElem_cons_zero, List.setIfInBounds_toArray, List.set_cons_zero, List.set_cons_succ])
    refine wpAnyH_take (i := 12) (v := ?_) rfl (by kernel_rfl) (by kernel_rfl) (by kernel_rfl) (fun _ _ _ h => h) (Or.inl ⟨by kernel_rfl, ?_⟩) hS43 ?_
    rotate_left
    · intro w hSw; (try dsimp only at hSw); go_simp; try (with_reducible rfl)
    (try simp only [Act.put, List.getElem_toArray, List.getElem_cons_succ, List.getElem_cons_zero, List.setIfInBounds_toArray, List.set_cons_zero, List.set_cons_succ])
    refine wpAnyH_take (i := 14) (v := ?_) rfl (by kernel_rfl) (by kernel_rfl) (by kernel_rfl) (fun _ _ _ h => h) (Or.inl ⟨by kernel_rfl, ?_⟩) hS43 ?_
    rotate_left
    · intro w hSw; (try dsimp only at hSw); go_simp; try (with_reducible rfl)
    (try simp only [Act.put, List.getElem_toArray, List.getElem_cons_succ, List.getElem_cons_zero, List.setIfInBounds_toArray, List.set_cons_zero, List.set_cons_succ])
    refine wpAnyH_ready (rs := [13]) (by kernel_rfl) (by simp) ?_
    refine AllReadyH.cons rfl (fun K1 hK1 => ?_) AllReadyH.nil
    go_simp
    refine (HPa.out _).mono ?_
    rintro e w44 ⟨rfl, hb⟩
    have X44 : Hid (Vz w w44 fb db mo K p11 #[.int .u64 (k18 : Nat), .int .i64 kind, .int .i64 md, .bool i18, .bool i19] p12 #[.int .u64 (k18 : Nat), .int .i64 kind, .int .i64 md, .bool i18, .bool i19]) := X43.out.step hb
    clear hb
    refine hK1.out _ _ ⟨⟨X44.out.1.2.cell 0 _ rfl, X44.out.1.2.cell 1 _ rfl, X44.out.1.2.cell 2 _ rfl, X44.out.1.2.cell 3 _ rfl, X44.out.1.2.cell 4 _ rfl⟩, X44.out.2.1.cell 0 _ rfl, X44.out.2.1.cell 1 _ rfl, X44.out.2.1.cell 2 _ rfl, X44.out.2.1.cell 3 _ rfl, X44.out.2.1.cell 4 _ rfl⟩ (fun hS44 => ?_)
    clear hK1 K1 hS43
    (try simp only [Act.put, List.getElem_toArray, List.getElem_cons_succ, List.getElem_cons_zero, List.setIfInBounds_toArray, List.set_cons_zero, List.set_cons_succ])
    refine wpAnyH_ready (rs := [15]) (by kernel_rfl) (by simp) ?_
    refine AllReadyH.cons rfl (fun K1 hK1 => ?_) AllReadyH.nil
    go_simp
    refine (HPd.out _).mono ?_
    rintro e w45 ⟨rfl, hb⟩
    have X45 : Hid (Vz w w45 fb db mo K p11 #[.int .u64 (k18 : Nat), .int .i64 kind, .int .i64 md, .bool i18, .bool i19] p12 #[.int .u64 (k18 : Nat), .int .i64 kind, .int .i64 md, .bool i18, .bool i19]) := X44.out.step hb
    clear hb
    refine hK1.out _ _ ⟨⟨X45.out.1.2.cell 0 _ rfl, X45.out.1.2.cell 1 _ rfl, X45.out.1.2.cell 2 _ rfl, X45.out.1.2.cell 3 _ rfl, X45.out.1.2.cell 4 _ rfl⟩, X45.out.2.1.cell 0 _ rfl, X45.out.2.1.cell 1 _ rfl, X45.out.2.1.cell 2 _ rfl, X45.out.2.1.cell 3 _ rfl, X45.out.2.1.cell 4 _ rfl⟩ (fun hS45 => ?_)
    clear hK1 K1 hS44
    (try simp only [Act.put, List.getElem_toArray, List.getElem_cons_succ, List.getElem_cons_zero, List.setIfInBounds_toArray, List.set_cons_zero, List.set_cons_succ])
    refine wpAnyH_take (i := 16) (v := ?_) rfl (by kernel_rfl) (by kernel_rfl) (by kernel_rfl) (fun _ _ _ h => h) (Or.inl ⟨by kernel_rfl, ?_⟩) hS45 ?_
    rotate_left
    · intro w hSw; (try dsimp only at hSw); go_simp; try (with_reducible rfl)
    (try simp only [Act.put, List.getElem_toArray, List.getElem_cons_succ, List.getElem_cons_zero, List.setIfInBounds_toArray, List.set_cons_zero, List.set_cons_succ])
    refine wpAnyH_take (i := 17) (v := ?_) rfl (by kernel_rfl) (by kernel_rfl) (by kernel_rfl) (fun _ _ _ h => h) (Or.inl ⟨by kernel_rfl, ?_⟩) hS45 ?_
    rotate_left
    · intro w hSw; (try dsimp only at hSw); go_simp; try (with_reducible rfl)
    (try simp only [Act.put, List.getElem_toArray, List.getElem_cons_succ, List.getElem_cons_zero, List.setIfInBounds_toArray, List.set_cons_zero, List.set_cons_succ])
    refine wpAnyH_take (i := 18) (v := ?_) rfl (by kernel_rfl) (by kernel_rfl) (by kernel_rfl) (fun _ _ _ h => h) (Or.inl ⟨by kernel_rfl, ?_⟩) hS45 ?_
    rotate_left
    · intro w hSw; (try dsimp only at hSw); go_simp; try (with_reducible rfl)
    (try simp only [Act.put, List.getElem_toArray, List.getElem_cons_succ, List.getElem_cons_zero, List.setIfInBounds_toArray, List.set_cons_zero, List.set_cons_succ])
    refine wpAnyH_take (i := 20) (v := ?_) rfl (by kernel_rfl) (by kernel_rfl) (by kernel_rfl) (fun _ _ _ h => h) (Or.inl ⟨by kernel_rfl, ?_⟩) hS45 ?_
    rotate_left
    · intro w hSw; (try dsimp only at hSw); go_simp; try (with_reducible rfl)
    (try simp only [Act.put, List.getElem_toArray, List.getElem_cons_succ, List.getElem_cons_zero, List.setIfInBounds_toArray, List.set_cons_zero, List.set_cons_succ])
    refine wpAnyH_take (i := 21) (v := ?_) rfl (by kernel_rfl) (by kernel_rfl) (by kernel_rfl) (fun _ _ _ h => h) (Or.inl ⟨by kernel_rfl, ?_⟩) hS45 ?_
    rotate_left
    · intro w hSw; (try dsimp only at hSw); go_simp; try (with_reducible rfl)
    (try simp only [Act.put, List.getElem_toArray, List.getElem_cons_succ, List.getElem_cons_zero, List.setIfInBounds_toArray, List.set_cons_zero, List.set_cons_succ])
    refine wpAnyH_ready (rs := [19]) (by kernel_rfl) (by simp) ?_
    refine AllReadyH.cons rfl (fun K1 hK1 => ?_) AllReadyH.nil
    go_simp
    refine (HIs.out _ X45.out).mono ?_
    rintro e w46 ⟨rfl, hb⟩
    have X46 : Hid (Vz w w46 fb db mo K p11 #[.int .u64 (k18 : Nat), .int .i64 kind, .int .i64 md, .bool i18, .bool i19] p12 #[.int .u64 (k18 : Nat), .int .i64 kind, .int .i64 md, .bool i18, .bool i19]) := X45.out.step hb
    clear hb
    refine hK1.out _ _ ⟨⟨X46.out.1.2.cell 0 _ rfl, X46.out.1.2.cell 1 _ rfl, X46.out.1.2.cell 2 _ rfl, X46.out.1.2.cell 3 _ rfl, X46.out.1.2.cell 4 _ rfl⟩, X46.out.2.1.cell 0 _ rfl, X46.out.2.1.cell 1 _ rfl, X46.out.2.1.cell 2 _ rfl, X46.out.2.1.cell 3 _ rfl, X46.out.2.1.cell 4 _ rfl⟩ (fun hS46 => ?_)
    clear hK1 K1 hS45
    (try simp only [Act.put, List.getElem_toArray, List.getElem_cons_succ, List.getElem_cons_zero, List.setIfInBounds_toArray, List.set_cons_zero, List.set_cons_succ])
    refine wpAnyH_take (i := 22) (v := ?_) rfl (by kernel_rfl) (by kernel_rfl) (by kernel_rfl) (fun _ _ _ h => h) (Or.inl ⟨by kernel_rfl, ?_⟩) hS46 ?_
    rotate_left
    · intro w hSw; (try dsimp only at hSw); go_simp; try (with_reducible rfl)
    (try simp only [Act.put, List.getElem_toArray, List.getElem_cons_succ, List.getElem_cons_zero, List.setIfInBounds_toArray, List.set_cons_zero, List.set_cons_succ])
    refine wpAnyH_take (i := 23) (v := ?_) rfl (by kernel_rfl) (by kernel_rfl) (by kernel_rfl) (fun _ _ _ h => h) (Or.inl ⟨by kernel_rfl, ?_⟩) hS46 ?_
    rotate_left
    · intro w hSw; (try dsimp only at hSw); go_simp; try (with_reducible rfl)
    (try simp only [Act.put, List.getElem_toArray, List.getElem_cons_succ, List.getElem_cons_zero, List.setIfInBounds_toArray, List.set_cons_zero, List.set_cons_succ])
    refine wpAnyH_take (i := 24) (v := ?_) rfl (by kernel_rfl) (by kernel_rfl) (by kernel_rfl) (fun _ _ _ h => h) (Or.inl ⟨by kernel_rfl, ?_⟩) hS46 ?_
    rotate_left
    · intro w hSw; (try dsimp only at hSw); go_simp; try (with_reducible rfl)
    (try simp only [Act.put, List.getElem_toArray, List.getElem_cons_succ, List.getElem_cons_zero, List.setIfInBounds_toArray, List.set_cons_zero, List.set_cons_succ])
    refine wpAnyH_done (by kernel_rfl) ?_ _
    clear hS46
    go_wp2_with fail
    go_ret
    exact ⟨by simp, X46.out.1.1.2.2.2.2⟩
end Go.Proofs.Ytalgidnmmghejaa.E
