/- The call get of layer 2: a piece is filled with a memory's bytes. -/
import Derived.Test.YtcgjfklglckjcaaPut
import Derived.Deep.RegionLaw
import Derived.BigRegion
namespace Go.Proofs.Ytcgjfklglckjcaa
open Go.RowKit Go.Maps
set_option linter.unusedVariables false
theorem step_copy_at {P : Program} {ops : Array Oper} {o : Oper} {a : Act} {w : World} {K : Act → World → Prop} {Q : Exit → Act → World → Prop} {E : Prop} (hgd : o.guard = none) (d s : Operand) (dT sT : TypeId)
    (ho : o.op = .call { callee := .builtin .copy, args := #[d, s], argTypes := #[dT, sT] }) (elem : TypeId) (hu : P.underlying dT = some (.slice elem)) (hsz : (P.info? elem).map (·.size) = some 1)
    (g off dLen dCap : Nat) (ad : Addr) (sLen sCap : Nat) (hd : a.eval d = .slice (some ⟨g, off, none⟩) dLen dCap) (hs : a.eval s = .slice (some ad) sLen sCap)
    (cur : Array Value) (t : TypeId) (hg : w.heap[g]? = some (.cells cur t (0, 0))) (cs : List Value) (m : Nat) (hm : cs.length = m) (hn : m = Nat.min sLen dLen)
    (hsrc : ∀ j v, cs[j]? = some v → w.cell? (ad.add j) = some v) (hfit : off + m ≤ cur.size) (h1 : ∀ v ∈ cs, v.oneCell' = true)
    (h : ∀ w', Hid (w' = w.setRow g (cur.toList.take off ++ (cs ++ cur.toList.drop (off + cs.length))).toArray) → K (a.put o.dst (.int .i64 (m : Nat))) w') :
    if Region.wanted o (yielded ops a.tmps) = true then Oper.wp P o a w K Q else E := by
  subst hm
  have hw : Region.wanted o (yielded ops a.tmps) = true := by simp [Region.wanted, hgd]
  rw [if_pos hw]
  have hrun := run_copy_row (P := P) w dT sT o.type elem g off dLen dCap ad sLen sCap cur t cs hu hsz hg hn hsrc hfit h1
  unfold Oper.wp
  simp [execOp, ho, resolve, invoke, builtin, hd, hs, hrun, Result.andThen]
  exact h _ (show _ = _ by simp)
theorem step_setRow (w : World) (g : Nat) (row : Array Value) : Step (fun k => k = g) w (fun k => k = g) (w.drew.setRow g row) :=
  ⟨rfl, rfl, rfl, by simp [World.setRow], fun k hk hne => (setRow_other w.drew g k row hne), fun _ h => .inl h, fun _ h => h⟩
theorem piece_cut {g j L cap R C m : Nat} (hR : L - j = R) (hC : cap - j = C) (hm : m ≤ R) (hRC : R ≤ C) :
    (L - (j + m) = 0 ∧ ∃ a c, Value.slice (if C = m then some ⟨g, j, none⟩ else some ⟨g, j + m, none⟩) (R - m) (C - m) = .slice a 0 c) ∨ Value.slice (if C = m then some ⟨g, j, none⟩ else some ⟨g, j + m, none⟩) (R - m) (C - m) = .slice (some ⟨g, j + m, none⟩) (L - (j + m)) (cap - (j + m)) := by
  by_cases h : R = m
  · left
    refine ⟨by omega, _, C - m, by rw [show R - m = 0 from by omega]⟩
  · right
    rw [if_neg (by omega), show R - m = L - (j + m) from by omega, show C - m = cap - (j + m) from by omega]
set_option maxRecDepth 100000 in
set_option maxHeartbeats 1000000 in
theorem get_any {w : World} {F : Nat → Prop} {rb size n : Nat} {lg : Value} {M : Nat → Nat} (h : RamAt w F rb size n lg M) (x L N g cap : Nat) (t : TypeId) (v : Value) (hv : (L = 0 ∧ ∃ a c, v = .slice a 0 c) ∨ v = .slice (some ⟨g, 0, none⟩) L cap) (hN : L ≤ N) (hc : L ≤ cap ∧ cap < 9223372036854775808) (hg : ¬ F g)
    (hrow : w.heap[g]? = some (.cells (rowK .u8 (fun _ => 0) N).toArray t (0, 0))) (hx : x + L < 9223372036854775808) :
    Calls Try.prog 63 #[.pointer (some ⟨rb, 0, none⟩), .int .u64 (x : Nat), v] w fun e w' => e = .returned (.tuple #[]) ∧ w'.heap[g]? = some (.cells (rowK .u8 (fun i => if i < L then M (x + i) else 0) N).toArray t (0, 0)) ∧ Step (fun k => k = g) w (fun k => k = g) w' := by
  go_enter Try.func63, Try.ntmps63
  go_wp2
  go_loopw [1, 2] (fun a d wr => ∃ j, j ≤ L ∧ a = .int .u64 ((x + j : Nat) : Int) ∧ ((L - j = 0 ∧ ∃ a c, d = .slice a 0 c) ∨ d = .slice (some ⟨g, j, none⟩) (L - j) (cap - j)) ∧ wr.heap[g]? = some (.cells (rowK .u8 (fun i => if i < j then M (x + i) else 0) N).toArray t (0, 0)) ∧ Step (fun k => k = g) w (fun k => k = g) wr) (fun a _ _ => (x + L) - (intOf a).toNat)
  case atStart => exact ⟨0, by omega, rfl, by simpa using hv, by simpa using hrow, Step.refl _ _⟩
  case round =>
    obtain ⟨j, hj, rfl, hd, hrw, hst⟩ := hrel
    have hram : RamAt wr F rb size n lg M := h.step hst (fun k hk e => hg (e ▸ hk))
    by_cases hlt : j < L
    · rcases hd with ⟨h0, _⟩ | rfl
      · omega
      obtain ⟨bm, pg, D, hin⟩ := hram
      obtain ⟨y, hy⟩ : ∃ y, x + j = y := ⟨_, rfl⟩
      obtain ⟨q, r, hqr, hr4⟩ : ∃ q r, y = q * 4096 + r ∧ r < 4096 := ⟨y / 4096, y % 4096, by omega, by omega⟩
      obtain ⟨m, hm⟩ : ∃ m, min (L - j) (4096 - r) = m := ⟨_, rfl⟩
      obtain ⟨R, hR⟩ : ∃ R, L - j = R := ⟨_, rfl⟩
      obtain ⟨C, hC⟩ : ∃ C, cap - j = C := ⟨_, rfl⟩
      have hmin : (if (4096 : Int) - r < (R : Int) then (4096 : Int) - r else (R : Int)) = (m : Nat) := by split <;> omega
      have hq : q < 18446744073709551616 := by omega
      have hy2 : y < 9223372036854775808 := by omega
      have hlk := pages_look hin.2.1 hin.2.2.1 q hq
      have hc1 := hin.cell1
      rw [hy, hR, hC]
      have hR0 : 0 < R ∧ R < 9223372036854775808 ∧ R ≤ C ∧ C < 9223372036854775808 := by omega
      have hm1 : m ≤ R ∧ r + m ≤ 4096 ∧ 0 < m := by omega
      have X : Hid (_ ∧ _ ∧ _ ∧ _ ∧ _ ∧ _ ∧ _ ∧ _) := ⟨hrw, hst, hqr, hm, hR, hC, hy, hin⟩
      clear hrw hst hqr hm hR hC hy hin
      cases hp : pg q with
      | none =>
        rw [hp, ptrOf_none] at hlk
        have P0 : Hid (pg q = none) := hp
        clear hp
        go_wp2_with (first | (go_at_call 66; refine (split_any y q r (by omega) X.out.2.2.1 hr4 _).mono ?_; rintro e w' ⟨rfl, rfl⟩) | (at_lookup; refine wpList_lookup_run rfl _ _ 101 rfl rfl rfl hlk ?_))
        obtain ⟨hrw, hst, hqr, hm, hR, hC, hy, hin⟩ := X.out
        refine ⟨⟨j + m, by omega, by rw [← hy]; congr 1; omega, piece_cut hR hC hm1.1 hR0.2.2.1, ?_, hst⟩, by simp [intOf]; omega⟩
        rw [hrw, rowK_congr .u8 _ (fun i => if i < j + m then M (x + i) else 0) N]
        intro i hi
        by_cases h1 : i < j
        · rw [if_pos h1, if_pos (by omega)]
        · rw [if_neg h1]
          by_cases h2 : i < j + m
          · rw [if_pos h2]
            have := hin.2.2.2.2.1 q P0.out (r + (i - j)) (by omega)
            rw [← this]; congr 1; omega
          · rw [if_neg h2]
      | some b =>
        rw [hp, ptrOf_some] at hlk
        have P0 : Hid (pg q = some b) := hp
        clear hp
        go_wp2_with (first | (go_at_call 66; refine (split_any y q r (by omega) X.out.2.2.1 hr4 _).mono ?_; rintro e w' ⟨rfl, rfl⟩) | (at_lookup; refine wpList_lookup_run rfl _ _ 101 rfl rfl rfl hlk ?_))
        have T1 : Hid (w'.heap[g]? = some (.cells (rowK .u8 (fun i => if i < j then M (x + i) else 0) N).toArray t (0, 0))) := X.out.1
        have T2 : Hid (m = Nat.min (4096 - r) m) := by show m = min _ _; omega
        have T3 : Hid (∀ i v, (rowK .u8 (fun i => M (q * 4096 + r + i)) m)[i]? = some v → w'.cell? ((⟨b, r, none⟩ : Addr).add i) = some v) := by
          intro i v hv
          obtain ⟨hi, rfl⟩ := rowK_at _ _ _ _ _ hv
          rw [addr_add]
          have hb := X.out.2.2.2.2.2.2.2.2.2.2.1 q b P0.out
          simp only [World.cell?, hb]
          rw [pageRow_get _ _ (by omega)]
          simp [Nat.add_assoc]
        have T4 : Hid (j + m ≤ ((rowK .u8 (fun i => if i < j then M (x + i) else 0) N).toArray).size) := by show _ ≤ _; rw [List.size_toArray, rowK_length]; have := X.out.2.2.2.2.1; omega
        have q1 : m ≤ C := by omega
        have q2 : (m : Int) ≤ (C : Int) := by omega
        have q3 : r ≤ 4096 := by omega
        have q4 : (r : Int) ≤ 4096 := by omega
        have q5 : ¬ 4096 = r := by omega
        have q6 : C ≠ 0 := by omega
        go_region_law (refine step_copy_at rfl (.tmp 36) (.tmp 40) 64 64 rfl 5 Try.underlying64 size5 g j m C ⟨b, r, none⟩ (4096 - r) (4096 - r) (by simp [Act.eval, Act.put]) (by simp [Act.eval, Act.put]) (rowK .u8 (fun i => if i < j then M (x + i) else 0) N).toArray t T1.out (rowK .u8 (fun i => M (q * 4096 + r + i)) m) m (rowK_length _ _ _) T2.out T3.out T4.out (rowK_one _ _ _) ?_; intro w2 hw2)
        go_wp2
        obtain ⟨hrw, hst, hqr, hm, hR, hC, hy, hin⟩ := X.out
        have hs2 : Step (fun k => k = g) w' (fun k => k = g) w2 := by rw [hw2.out]; exact step_setRow _ _ _
        refine ⟨⟨j + m, by omega, by rw [← hy]; congr 1; omega, piece_cut hR hC hm1.1 hR0.2.2.1, ?_, hst.trans hs2⟩, by simp [intOf]; omega⟩
        have hh := setRow_heap w'.drew g _ (List.take j (rowK .u8 (fun i => if i < j then M (x + i) else 0) N).toArray.toList ++ (rowK .u8 (fun i => M (q * 4096 + r + i)) m ++ List.drop (j + (rowK .u8 (fun i => M (q * 4096 + r + i)) m).length) (rowK .u8 (fun i => if i < j then M (x + i) else 0) N).toArray.toList)).toArray t _ hrw
        rw [← hw2.out] at hh
        rw [hh, rowK_length]
        show some (Obj.cells (List.take j (rowK .u8 (fun i => if i < j then M (x + i) else 0) N) ++ (rowK .u8 (fun i => M (q * 4096 + r + i)) m ++ List.drop (j + m) (rowK .u8 (fun i => if i < j then M (x + i) else 0) N))).toArray t (0, 0)) = _
        rw [row_copyN N _ _ j m (by omega), rowK_congr .u8 _ (fun i => if i < j + m then M (x + i) else 0) N]
        intro i hi
        by_cases h1 : i < j
        · rw [if_neg (by omega), if_pos h1, if_pos (by omega)]
        · by_cases h2 : i < j + m
          · rw [if_pos (by omega), if_pos h2]; show M _ = M _; congr 1; omega
          · rw [if_neg (by omega), if_neg h1, if_neg h2]
    · obtain rfl : j = L := by omega
      have e : j - j = 0 := by omega
      rw [e] at hd
      rcases hd with ⟨_, a0, c0, rfl⟩ | rfl
      all_goals
        go_wp2
        go_end0
        exact ⟨rfl, hrw, hst⟩
end Go.Proofs.Ytcgjfklglckjcaa
