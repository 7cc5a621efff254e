/- The calls split, own and put of layer 2: bytes are laid into a memory's pages. -/
import Derived.Test.YtcgjfklglckjcaaBase
namespace Go.Proofs.Ytcgjfklglckjcaa
open Go.RowKit Go.Maps
set_option linter.unusedVariables false
theorem split_any (x q r : Nat) (hx : x < 18446744073709551616) (h : x = q * 4096 + r) (hr : r < 4096) (w : World) :
    Calls Try.prog 66 #[.int .u64 (x : Nat)] w fun e w' => e = .returned (.tuple #[.int .u64 (q : Nat), .int .i64 (r : Nat)]) ∧ w' = w := by
  have H : Hid (((x : Int) / 4096 = (q : Nat)) ∧ ((x : Int) % 4096 = (r : Nat))) := by constructor <;> omega
  clear h
  go_enter Try.func66, Try.ntmps66
  go_wp2
  go_ret2
  rw [H.out.1, H.out.2]
  exact ⟨rfl, rfl⟩
theorem ptrOf_some (b : Nat) : ptrOf (some b) = .pointer (some ⟨b, 0, none⟩) := rfl
theorem ptrOf_none : ptrOf none = .pointer none := rfl
theorem RamIn.cell1 {w : World} {F : Nat → Prop} {rb size n : Nat} {lg : Value} {M : Nat → Nat} {bm : Nat} {pg : Nat → Option Nat} {D : DataW Unit} (h : RamIn w F rb size n lg M bm pg D) : w.cell? ⟨rb, 1, none⟩ = some (.map (some bm)) := by
  obtain ⟨h1, _⟩ := h
  simp [World.cell?, h1]
theorem own_any {w : World} {F : Nat → Prop} {rb size n : Nat} {lg : Value} {M : Nat → Nat} (h : RamAt w F rb size n lg M) (k : Nat) (hk : k < 18446744073709551616) (hn : n < maxLen) :
    Calls Try.prog 67 #[.pointer (some ⟨rb, 0, none⟩), .int .u64 (k : Nat)] w fun e w' => ∃ b F' bm pg D, e = .returned (.pointer (some ⟨b, 0, none⟩)) ∧ RamIn w' F' rb size (n + 1) lg M bm pg D ∧ pg k = some b ∧ Step F w F' w' := by
  obtain ⟨bm, pg, D, h⟩ := h
  have hlk := pages_look h.2.1 h.2.2.1 k hk
  have hc1 := h.cell1
  cases hp : pg k with
  | some b =>
    rw [hp, ptrOf_some] at hlk
    have X : Hid (_ ∧ _) := ⟨h, hp⟩
    clear h hp
    go_enter Try.func67, Try.ntmps67
    go_wp2_with (first | (at_lookup; refine wpList_lookup_run rfl _ _ 101 rfl rfl rfl hlk ?_))
    go_ret
    obtain ⟨h, hp⟩ := X.out
    exact ⟨b, F, bm, pg, D, rfl, ⟨h.1, h.2.1.mono (Nat.le_succ _), h.2.2⟩, hp, Step.refl _ _⟩
  | none =>
    rw [hp, ptrOf_none] at hlk
    obtain ⟨w2, D2, hrun, h2, hs⟩ := h.newPage k hk hn hp
    have hc2 : (w.alloc (.cells zeroPage 106)).cell? ⟨rb, 1, none⟩ = some (.map (some bm)) := by
      have hl := h.2.2.2.2.2.2.2.2.2.1 rb h.2.2.2.2.2.2.1
      rw [← hc1]
      exact World.cell?_of_block ((World.grownBy_alloc w _ none).block rb hl (by simp))
    have X : Hid (_ ∧ _) := ⟨h2, hs⟩
    clear h hp h2 hs
    go_enter Try.func67, Try.ntmps67
    go_wp2_with (first | (at_lookup; refine wpList_lookup_run rfl _ _ 101 rfl rfl rfl hlk ?_) | (refine wpList_alloc81 rfl rfl ?_) | (at_mapUpdate; refine wpList_mapUpdate_run rfl _ _ _ 101 rfl rfl rfl rfl hrun ?_))
    go_ret
    obtain ⟨h2, hs⟩ := X.out
    exact ⟨w.heap.size, _, bm, _, D2, rfl, h2, by simp, hs⟩
/-- a slice of n bytes that is read, and lies in no block of F -/
def ReadsF (F : Nat → Prop) (w : World) (v : Value) (n : Nat) (f : Nat → Nat) : Prop :=
  (n = 0 ∧ ∃ a cap, cap ≤ 9223372036854775807 ∧ v = .slice a 0 cap) ∨ ∃ b off cap, v = .slice (some ⟨b, off, none⟩) n cap ∧ ¬ F b ∧ n ≤ cap ∧ cap ≤ 9223372036854775807 ∧ ∀ i, i < n → w.cell? ⟨b, off + i, none⟩ = some (.int .u8 (f i : Nat))
/-- bytes laid over others from an address on -/
def over (M : Nat → Nat) (at_ L : Nat) (f : Nat → Nat) (a : Nat) : Nat := if at_ ≤ a ∧ a < at_ + L then f (a - at_) else M a
theorem over_zero (M : Nat → Nat) (at_ : Nat) (f : Nat → Nat) : over M at_ 0 f = M := by
  funext a; unfold over; rw [if_neg (by omega)]
theorem over_over (M : Nat → Nat) (at_ j m : Nat) (f : Nat → Nat) : over (over M at_ j f) (at_ + j) m (fun i => f (j + i)) = over M at_ (j + m) f := by
  funext a; unfold over
  by_cases h1 : at_ + j ≤ a ∧ a < at_ + j + m
  · rw [if_pos h1, if_pos (by omega)]
    show f _ = f _
    congr 1; omega
  · rw [if_neg h1]
    by_cases h2 : at_ ≤ a ∧ a < at_ + j
    · rw [if_pos h2, if_pos (by omega)]
    · rw [if_neg h2, if_neg (by omega)]
theorem over_le {M : Nat → Nat} (at_ L : Nat) {f : Nat → Nat} (h : ∀ a, M a ≤ 255) (hf : ∀ i, i < L → f i ≤ 255) : ∀ a, over M at_ L f a ≤ 255 := by
  intro a; unfold over; split
  · exact hf _ (by omega)
  · exact h a
theorem row_copyN (N : Nat) (f g : Nat → Nat) (r m : Nat) (hm : r + m ≤ N) :
    (rowK .u8 f N).take r ++ (rowK .u8 g m ++ (rowK .u8 f N).drop (r + m)) = rowK .u8 (fun i => if r ≤ i ∧ i < r + m then g (i - r) else f i) N := by
  apply List.ext_getElem?
  intro i
  simp only [List.getElem?_append, List.getElem?_take, List.getElem?_drop, List.length_take, rowK_length]
  have hmin : min r N = r := by omega
  rw [hmin]
  by_cases h1 : i < r
  · simp only [h1, if_true]
    rw [rowK_get _ _ _ _ (by omega), rowK_get _ _ _ _ (by omega), if_neg (by omega)]
  · simp only [h1, if_false]
    by_cases h2 : i - r < m
    · simp only [h2, if_true]
      rw [rowK_get _ _ _ _ h2, rowK_get _ _ _ _ (by omega), if_pos (by omega)]
    · simp only [h2, if_false]
      rw [show r + m + (i - r - m) = i from by omega]
      by_cases h3 : i < N
      · rw [rowK_get _ _ _ _ h3, rowK_get _ _ _ _ h3, if_neg (by omega)]
      · rw [List.getElem?_eq_none (by rw [rowK_length]; omega), List.getElem?_eq_none (by rw [rowK_length]; omega)]
theorem row_copy (f g : Nat → Nat) (r m : Nat) (hm : r + m ≤ 4096) :
    ((pageRow f).toList.take r ++ (rowK .u8 g m ++ (pageRow f).toList.drop (r + (rowK .u8 g m).length))).toArray = pageRow (fun i => if r ≤ i ∧ i < r + m then g (i - r) else f i) := by
  have e : (pageRow f).toList = rowK .u8 f 4096 := by simp [pageRow]
  rw [e, rowK_length, row_copyN 4096 f g r m hm, pageRow]
theorem rowK_one (k : IntKind) (f : Nat → Nat) (n : Nat) : ∀ v ∈ rowK k f n, v.oneCell' = true := by
  intro v hv
  obtain ⟨i, _, rfl⟩ := List.mem_map.1 hv
  rfl
theorem rowK_at (k : IntKind) (f : Nat → Nat) (n j : Nat) (v : Value) (h : (rowK k f n)[j]? = some v) : j < n ∧ v = .int k (f j : Nat) := by
  by_cases hj : j < n
  · rw [rowK_get _ _ _ _ hj] at h; cases h; exact ⟨hj, rfl⟩
  · rw [List.getElem?_eq_none (by rw [rowK_length]; omega)] at h; cases h
/-- a piece of a page is laid anew -/
theorem RamIn.laid {w : World} {F : Nat → Prop} {rb size n : Nat} {lg : Value} {M : Nat → Nat} {bm : Nat} {pg : Nat → Option Nat} {D : DataW Unit} (h : RamIn w F rb size n lg M bm pg D) (k b r m : Nat) (g : Nat → Nat) (hb : pg k = some b) (hm : r + m ≤ 4096) (hg : ∀ i, i < m → g i ≤ 255) :
    RamIn (w.setRow b ((pageRow (fun i => M (k * 4096 + i))).toList.take r ++ (rowK .u8 g m ++ (pageRow (fun i => M (k * 4096 + i))).toList.drop (r + (rowK .u8 g m).length))).toArray) F rb size n lg (over M (k * 4096 + r) m g) bm pg D ∧
      Step F w F (w.setRow b ((pageRow (fun i => M (k * 4096 + i))).toList.take r ++ (rowK .u8 g m ++ (pageRow (fun i => M (k * 4096 + i))).toList.drop (r + (rowK .u8 g m).length))).toArray) := by
  have hle := h.2.2.2.2.2.2.2.2.2.2
  refine h.setPage k b hb _ ?_ ?_ (over_le _ _ hle hg)
  · rw [row_copy _ _ _ _ hm]
    apply pageRow_congr
    intro i hi
    unfold over
    by_cases h1 : r ≤ i ∧ i < r + m
    · rw [if_pos h1, if_pos (by omega)]; congr 1; omega
    · rw [if_neg h1, if_neg (by omega)]
  · intro j hj i hi
    unfold over
    rw [if_neg (by omega)]
theorem ReadsF.step {F F' : Nat → Prop} {w w' : World} {v : Value} {n : Nat} {f : Nat → Nat} (h : ReadsF F w v n f) (hs : Step F w F' w') : ReadsF F' w' v n f := by
  rcases h with h | ⟨b, off, cap, hv, hb, h1, h2, hc⟩
  · exact .inl h
  · by_cases h0 : n = 0
    · subst h0; exact .inl ⟨rfl, _, cap, h2, hv⟩
    · have hlt := block_lt_of_cell (hc 0 (by omega))
      refine .inr ⟨b, off, cap, hv, fun hf => ?_, h1, h2, fun i hi => ?_⟩
      · rcases hs.old b hf with h3 | h3
        · exact hb h3
        · have : b < w.heap.size := hlt
          omega
      · rw [World.cell?_of_block (a := ⟨b, off + i, none⟩) (hs.block b hlt hb)]; exact hc i hi
/-- 'copy' into a row that is known whole: how many go over is named, the world behind it too -/
theorem wpList_copy_at {P : Program} {w : World} {ops : Array Oper} {rest : List Oper} {o : Oper} {a : Act} {Q : Exit → Act → World → Prop} (hgd : o.guard = none) (d s : Operand) (dT sT : TypeId)
    (ho : o.op = .call { callee := .builtin .copy, args := #[d, s], argTypes := #[dT, sT] }) (elem : TypeId) (hu : P.underlying dT = some (.slice elem)) (hsz : (P.info? elem).map (·.size) = some 1)
    (g off dLen dCap : Nat) (ad : Addr) (sLen sCap : Nat) (hd : a.eval d = .slice (some ⟨g, off, none⟩) dLen dCap) (hs : a.eval s = .slice (some ad) sLen sCap)
    (cur : Array Value) (t : TypeId) (hg : w.heap[g]? = some (.cells cur t (0, 0))) (cs : List Value) (m : Nat) (hm : cs.length = m) (hn : m = Nat.min sLen dLen)
    (hsrc : ∀ j v, cs[j]? = some v → w.cell? (ad.add j) = some v) (hfit : off + m ≤ cur.size) (h1 : ∀ v ∈ cs, v.oneCell' = true)
    (h : ∀ w', Hid (w' = w.setRow g (cur.toList.take off ++ (cs ++ cur.toList.drop (off + cs.length))).toArray) → wpList P ops Q rest (a.put o.dst (.int .i64 (m : Nat))) w') : wpList P ops Q (o :: rest) a w := by
  subst hm
  exact wpList_copy_own hgd d s dT sT ho elem hu hsz g off dLen dCap ad sLen sCap hd hs cur t hg cs hn hsrc hfit h1 (h _ rfl)
theorem size5 : (Try.prog.info? 5).map (·.size) = some 1 := by kernel_rfl
theorem addr_add (b o j : Nat) : (⟨b, o, none⟩ : Addr).add j = ⟨b, o + j, none⟩ := by unfold Addr.add; split <;> simp_all
theorem ReadsF.cut {F : Nat → Prop} {w : World} {b off cap n m : Nat} {f : Nat → Nat} (hF : ¬ F b) (h1 : n ≤ cap) (h2 : cap ≤ 9223372036854775807) (hm : m ≤ n) (hc : ∀ i, i < n → w.cell? ⟨b, off + i, none⟩ = some (.int .u8 (f i : Nat))) :
    ReadsF F w (.slice (if cap = m then some ⟨b, off, none⟩ else some ⟨b, off + m, none⟩) (n - m) (cap - m)) (n - m) (fun i => f (m + i)) := by
  by_cases h0 : n = m
  · subst h0
    refine .inl ⟨by omega, _, cap - n, by omega, by rw [Nat.sub_self]⟩
  · rw [if_neg (by omega)]
    refine .inr ⟨b, off + m, cap - m, rfl, hF, by omega, by omega, fun i hi => ?_⟩
    rw [Nat.add_assoc]
    exact hc (m + i) (by omega)
set_option maxRecDepth 100000 in
set_option maxHeartbeats 1000000 in
theorem put_any {w : World} {F : Nat → Prop} {rb size n : Nat} {lg : Value} {M : Nat → Nat} (h : RamAt w F rb size n lg M) (x L : Nat) (f : Nat → Nat) (v : Value) (hr : ReadsF F w v L f) (hf : ∀ i, i < L → f i ≤ 255) (hx : x + L < 9223372036854775808) (hn : n + L ≤ 1000000) :
    Calls Try.prog 56 #[.pointer (some ⟨rb, 0, none⟩), .int .u64 (x : Nat), v] w fun e w' => e = .returned (.tuple #[]) ∧ ∃ F', RamAt w' F' rb size (n + L) lg (over M x L f) ∧ Step F w F' w' := by
  go_enter Try.func56, Try.ntmps56
  go_wp2
  go_loopw [1, 2] (fun a d wr => ∃ j G, j ≤ L ∧ a = .int .u64 ((x + j : Nat) : Int) ∧ ReadsF G wr d (L - j) (fun i => f (j + i)) ∧ RamAt wr G rb size (n + j) lg (over M x j f) ∧ Step F w G wr) (fun a _ _ => (x + L) - (intOf a).toNat)
  case atStart => exact ⟨0, F, by omega, rfl, by simpa using hr, by rw [over_zero]; exact h, Step.refl _ _⟩
  case round =>
    obtain ⟨j, G, hj, rfl, hrd, hram, hst⟩ := hrel
    by_cases hlt : j < L
    · rcases hrd with ⟨h0, _⟩ | ⟨bd, od, cd, rfl, hG, hc1, hc2, hcell⟩
      · omega
      obtain ⟨y, hy⟩ : ∃ y, x + j = y := ⟨_, rfl⟩
      obtain ⟨q, r, hqr, hr4⟩ : ∃ q r, y = q * 4096 + r ∧ r < 4096 := ⟨y / 4096, y % 4096, by omega, by omega⟩
      obtain ⟨m, hm⟩ : ∃ m, min (L - j) (4096 - r) = m := ⟨_, rfl⟩
      obtain ⟨R, hR⟩ : ∃ R, L - j = R := ⟨_, rfl⟩
      have hq : q < 18446744073709551616 := by omega
      have hy2 : y < 9223372036854775808 := by omega
      have hle := hram.le
      rw [hy, hR]
      rw [hR] at hcell hc1
      have hR0 : 0 < R ∧ R < 9223372036854775808 := by omega
      have hm1 : m ≤ R ∧ r + m ≤ 4096 ∧ 0 < m := by omega
      have X : Hid (_ ∧ _ ∧ _ ∧ _ ∧ _ ∧ _) := ⟨hcell, hst, hqr, hm, hR, hy⟩
      have hfj : ∀ i, i < m → f (j + i) ≤ 255 := fun i hi => hf _ (by omega)
      have Z : Hid (∀ i, i < m → f (j + i) ≤ 255) := hfj
      clear hcell hst hqr hm hR hy hfj
      go_wp2_with (first | (go_at_call 66; refine (split_any y q r (by omega) X.out.2.2.1 hr4 _).mono ?_; rintro e w' ⟨rfl, rfl⟩))
      refine (own_any hram q (by omega) (by unfold maxLen; omega)).mono ?_
      rintro e w1 ⟨b, G1, bm, pg, D, rfl, hin, hpk, hs1⟩
      have Y : Hid (_ ∧ _ ∧ _) := ⟨hin, hpk, hs1⟩
      clear hram hin hpk hs1
      obtain ⟨c, hc⟩ : ∃ c, c = 4096 - r := ⟨_, rfl⟩
      have HC : Hid (c = 4096 - r) := hc
      clear hc
      have T1 : Hid (w1.heap[b]? = some (.cells (pageRow (fun i => over M x j f (q * 4096 + i))) 106 (0, 0))) := Y.out.1.2.2.2.1 q b Y.out.2.1
      have T2 : Hid (m = Nat.min R c) := by have := HC.out; have := X.out.2.2.2.1; have := X.out.2.2.2.2.1; show m = min R c; omega
      have T3 : Hid (∀ i v, (rowK .u8 (fun i => f (j + i)) m)[i]? = some v → w1.cell? ((⟨bd, od, none⟩ : Addr).add i) = some v) := by
        intro i v hv
        obtain ⟨hi, rfl⟩ := rowK_at _ _ _ _ _ hv
        rw [addr_add]
        have hb := X.out.1 i (by omega)
        rw [World.cell?_of_block (a := ⟨bd, od + i, none⟩) (Y.out.2.2.block bd (block_lt_of_cell hb) hG)]
        exact hb
      have T4 : Hid (r + m ≤ (pageRow (fun i => over M x j f (q * 4096 + i))).size) := by show _ ≤ _; rw [pageRow_size]; omega
      go_wp2_with (first | (refine wpList_slice81 rfl _ _ rfl b r c rfl rfl hr4 HC.out ?_) | (refine wpList_copy_at rfl _ _ 64 64 rfl 5 Try.underlying64 size5 b r c c ⟨bd, od, none⟩ R cd rfl rfl (pageRow (fun i => over M x j f (q * 4096 + i))) 106 T1.out (rowK .u8 (fun i => f (j + i)) m) m (rowK_length _ _ _) T2.out T3.out T4.out (rowK_one _ _ _) ?_; intro w2 hw2))
      obtain ⟨hcell, hst, hqr, hm, hR, hy⟩ := X.out
      obtain ⟨hin, hpk, hs1⟩ := Y.out
      obtain ⟨hl, hs2⟩ := hin.laid q b r m (fun i => f (j + i)) hpk hm1.2.1 Z.out
      rw [← hw2.out] at hl hs2
      have hs12 := hs1.trans hs2
      refine ⟨⟨j + m, G1, by omega, by rw [← hy]; congr 1; omega, ?_, ?_, hst.trans hs12⟩, by simp [intOf]; omega⟩
      · have hc3 : ReadsF G w' (.slice (if cd = m then some ⟨bd, od, none⟩ else some ⟨bd, od + m, none⟩) (R - m) (cd - m)) (R - m) (fun i => f (j + (m + i))) := ReadsF.cut (f := fun i => f (j + i)) hG hc1 hc2 hm1.1 hcell
        rw [show L - (j + m) = R - m from by omega]
        have hc4 := hc3.step hs12
        simpa [Nat.add_assoc] using hc4
      · refine RamAt.mono (n := n + j + 1) ⟨bm, pg, D, ?_⟩ (by omega)
        rw [← over_over, show x + j = q * 4096 + r from by omega]
        exact hl
    · obtain rfl : j = L := by omega
      have e : j - j = 0 := by omega
      rw [e] at hrd
      rcases hrd with ⟨_, a0, c0, _, rfl⟩ | ⟨b0, o0, c0, rfl, _⟩
      all_goals
        go_wp2
        go_end0
        exact ⟨rfl, G, hram, hst⟩
end Go.Proofs.Ytcgjfklglckjcaa
