/- Package disk: keep and put: a sector holds this; bytes are laid from a sector on. -/
import Derived.Test.YtkalaojbmedhjaaPa
namespace Go.Proofs.Ytkalaojbmedhjaa
open Go.RowKit Go.Maps
set_option linter.unusedVariables false
set_option linter.unusedSimpArgs false
set_option maxRecDepth 100000
/-- a slice of n bytes that is read, and lies in no block of F -/
def ReadsF (F : Nat → Prop) (w : World) (v : Value) (n : Nat) (f : Nat → Nat) : Prop :=
  (n = 0 ∧ ∃ a cap, cap ≤ 9223372036854775807 ∧ v = .slice a 0 cap) ∨ ∃ b off cap, v = .slice (some ⟨b, off, none⟩) n cap ∧ ¬ F b ∧ n ≤ cap ∧ cap ≤ 9223372036854775807 ∧ ∀ i, i < n → w.cell? ⟨b, off + i, none⟩ = some (.int .u8 (f i : Nat))
theorem ReadsF.cut {F : Nat → Prop} {w : World} {b off cap n m : Nat} {f : Nat → Nat} (hF : ¬ F b) (h1 : n ≤ cap) (h2 : cap ≤ 9223372036854775807) (hm : m ≤ n) (hc : ∀ i, i < n → w.cell? ⟨b, off + i, none⟩ = some (.int .u8 (f i : Nat))) :
    ReadsF F w (.slice (if cap = m then some ⟨b, off, none⟩ else some ⟨b, off + m, none⟩) (n - m) (cap - m)) (n - m) (fun i => f (m + i)) := by
  by_cases h0 : n = m
  · subst h0
    refine .inl ⟨by omega, _, cap - n, by omega, by rw [Nat.sub_self]⟩
  · rw [if_neg (by omega)]
    refine .inr ⟨b, off + m, cap - m, rfl, hF, by omega, by omega, fun i hi => ?_⟩
    rw [Nat.add_assoc]
    exact hc (m + i) (by omega)
theorem ReadsF.two {a b : Nat} {w w' : World} {v : Value} {n : Nat} {f : Nat → Nat} (h : ReadsF (fun k => k = a ∨ k = b) w v n f) (hs : Two a b w w') : ReadsF (fun k => k = a ∨ k = b) w' v n f := by
  rcases h with h | ⟨g, off, cap, hv, hb, h1, h2, hc⟩
  · exact .inl h
  · exact .inr ⟨g, off, cap, hv, hb, h1, h2, fun i hi => hs.cell (hc i hi) (fun e => hb (.inl e)) (fun e => hb (.inr e))⟩
theorem ReadsF.form {F : Nat → Prop} {w : World} {v : Value} {n : Nat} {f : Nat → Nat} (h : ReadsF F w v n f) : ∃ a cap, v = .slice a n cap ∧ n ≤ 9223372036854775807 := by
  rcases h with ⟨rfl, a, cap, _, rfl⟩ | ⟨b, off, cap, rfl, _, h1, h2, _⟩
  · exact ⟨a, cap, rfl, by omega⟩
  · exact ⟨_, _, rfl, by omega⟩
theorem load63 {w : World} {b : Nat} {f : Nat → Nat} (h : Box 63 w b (secRow f)) : (loadVar 63 ⟨b, 0, none⟩).run Try.prog w = .ok (.agg (secRow f)) w := run_loadVar_row w b 63 63 _ (0, 0) _ h Try.underlying63 rfl (info63 f)
theorem yield63 {w : World} {o : Oper} {a : Act} {b : Nat} {f : Nat → Nat} (hw : Box 63 w b (secRow f)) (x : Operand) (hop : o.op = Op.load 63 x) (hx : a.eval x = .pointer (some ⟨b, 0, none⟩)) : (execOp a.eval o).run Try.prog w = .ok (.value (.agg (secRow f))) w := by
  simp only [execOp, hop, hx, Instr.loadAt, Instr.sureAddr, Sem.run_bind, Sem.run_pure, Result.andThen_ok, load63 hw]
theorem wp_mapUpdate_run {w w' : World} {o : Oper} {a : Act} {KK : Act → World → Prop} {Q : Exit → Act → World → Prop} (m x v : Operand) (hop : o.op = Op.mapUpdate 58 m x v) {mv key val : Value} (hm : a.eval m = mv) (hx : a.eval x = key) (hv : a.eval v = val) (hrun : (Instr.mapUpdate 58 mv key val).run Try.prog w = .ok () w') (h : KK (a.put o.dst undef) w') : o.wp Try.prog a w KK Q := by
  unfold Oper.wp
  simp [execOp, hop, hm, hx, hv, hrun, Result.andThen]
  exact h
def keepK (K : Dk) (n : Nat) (f : Nat → Nat) : Dk := { K with M := setS K.M n f }
theorem keepK_ok {K : Dk} (h : K.Ok) (n : Nat) (f : Nat → Nat) (hn : n < K.count) (hf : ∀ i, f i ≤ 255) : (keepK K n f).Ok := by
  refine ⟨h.cnt, h.req, h.flu, h.fai, fun a => ?_, fun a ha => ?_⟩
  · show setS K.M n f a ≤ 255
    unfold setS
    split
    · exact hf _
    · exact h.le a
  · show setS K.M n f a = 0
    have ha2 : K.count * 512 ≤ a := ha
    unfold setS
    rw [if_neg (by omega)]
    exact h.out a ha
/-- the map is another one, the disk's own cells are as they were -/
theorem DiskAt.map {w w' : World} {db bm n : Nat} {K : Dk} {f : Nat → Nat} {D : DataW Unit} {c : Nat} (h : DiskAt w db bm K) (hn : n < K.count) (hf : ∀ i, f i ≤ 255) (ho : w'.ownsMap Try.prog 26 secElem bm c D) (hp : Sect D (setS K.M n f)) (hg : w.grownBy w' (some bm)) : DiskAt w' db bm (keepK K n f) := by
  have hk := keepK_ok h.2.2 n f hn hf
  refine ⟨(Two.of_grown (a := w.heap.size) hg).box h.1 (by have := h.lt.1; omega) h.ne, ⟨D, ?_, hp⟩, hk⟩
  exact owns_tight ho hp (fun a ha => hk.out a ha)
set_option maxHeartbeats 2000000 in
theorem keep_any {w : World} {db bm : Nat} {K : Dk} (h : DiskAt w db bm K) (n : Nat) (f : Nat → Nat) (hn : n < K.count) (hf : ∀ i, f i ≤ 255) :
    Calls Try.prog 42 #[.pointer (some ⟨db, 0, none⟩), .int .u64 (n : Nat), .agg (secRow f)] w fun e w' => e = .returned (.tuple #[]) ∧ DiskAt w' db bm (keepK K n f) ∧ Two db bm w w' := by
  have hc := h.2.2.cnt
  have h1 : DiskAt (w.alloc (.cells (secRow f) 63)) db bm K := h.step ((Below.refl _ _).alloc (Nat.le_refl _) _)
  have hT : Two db bm w (w.alloc (.cells (secRow f) 63)) := Two.of_below ((Below.refl _ _).alloc (Nat.le_refl _) _)
  have hB : Box 63 (w.alloc (.cells (secRow f) 63)) w.heap.size (secRow f) := Box.new 63 w _
  have hlt := h.lt
  have X : Hid (DiskAt (w.alloc (.cells (secRow f) 63)) db bm K ∧ Two db bm w (w.alloc (.cells (secRow f) 63)) ∧ Box 63 (w.alloc (.cells (secRow f) 63)) w.heap.size (secRow f)) := ⟨h1, hT, hB⟩
  have HF : Hid (∀ i, f i ≤ 255) := hf
  clear h h1 hT hB hf
  cases hz : secEq f (fun _ => 0) with
  | true =>
    obtain ⟨D, ho, hp⟩ := X.out.1.2.1
    obtain ⟨w2, D2, hrun, ho2, hp2, hg2⟩ := sect_del ho hp n f (by omega) hz 0
    have Y : Hid _ := And.intro (X.out.1.map hn HF.out ho2 hp2 hg2) (X.out.2.1.trans (Two.of_grown hg2))
    clear ho hp ho2 hp2 hg2
    have HZ : Hid (secEq f (fun _ => 0) = true) := hz
    clear hz
    go_enter Try.func42, Try.ntmps42
    go_upto_region 0 with fail
    refine wp_region_list ?_
    refine wpList_box63 rfl _ rfl f rfl ?_
    have c2 := X.out.1.c2
    generalize w.alloc (.cells (secRow f) 63) = w1 at *
    go_upto_region 1 with fail
    refine wp_region_list ?_
    refine wpList_load63 rfl _ rfl w.heap.size f rfl X.out.2.2 ?_
    refine wpList_build63 rfl rfl ?_
    refine wpList_eql63 rfl _ _ _ rfl f (fun _ => 0) rfl rfl ?_
    rw [HZ.out]
    go_upto_region 2 with fail
    refine wp_region_list ?_
    (refine wpList_step (fun KK hKK => ?_); go_simp; refine hKK _ _ ?_; clear hKK KK)
    (refine wpList_step (fun KK hKK => ?_); go_simp; refine hKK _ _ ?_; clear hKK KK)
    (refine wpList_step (fun KK hKK => ?_); go_simp; refine hKK _ _ ?_; clear hKK KK)
    (refine wpList_step (fun KK hKK => ?_); go_simp; refine hKK _ _ ?_; clear hKK KK)
    (refine wpList_step (fun KK hKK => ?_); go_simp; refine hKK _ _ ?_; clear hKK KK)
    refine wpList_delete_run rfl _ _ rfl rfl rfl hrun ?_
    go_wp2_with fail
    refine bodyPost_ret (results_none rfl _ _ _) rfl ?_
    exact ⟨rfl, Y.out.1, Y.out.2⟩
  | false =>
    obtain ⟨D, ho, hp⟩ := X.out.1.2.1
    have ho := World.ownsMap.drew ho
    obtain ⟨w2, D2, hrun, ho2, hp2, hg2⟩ := sect_put ho hp n f (by omega) (by unfold maxLen; omega) hz
    have hd : DiskAt (w.alloc (.cells (secRow f) 63)).drew db bm K := X.out.1.step (Below.drew (Below.refl _ _))
    have Y : Hid (DiskAt w2 db bm (keepK K n f) ∧ Two db bm w w2 ∧ Box 63 w2 w.heap.size (secRow f)) := by
      have t2 : Two db bm (w.alloc (.cells (secRow f) 63)).drew w2 := Two.of_grown hg2
      have b2 : Box 63 (w.alloc (.cells (secRow f) 63)).drew w.heap.size (secRow f) := X.out.2.2.drew
      exact ⟨hd.map hn HF.out ho2 hp2 hg2, (X.out.2.1.trans (Two.of_below (Below.drew (Below.refl _ _)))).trans t2, t2.box b2 (by omega) (by omega)⟩
    clear ho hp ho2 hp2 hg2 hd
    have HZ : Hid (secEq f (fun _ => 0) = false) := hz
    clear hz
    go_enter Try.func42, Try.ntmps42
    go_upto_region 0 with fail
    refine wp_region_list ?_
    refine wpList_box63 rfl _ rfl f rfl ?_
    have c2 := X.out.1.c2
    generalize w.alloc (.cells (secRow f) 63) = w1 at *
    go_upto_region 1 with fail
    refine wp_region_list ?_
    refine wpList_load63 rfl _ rfl w.heap.size f rfl X.out.2.2 ?_
    refine wpList_build63 rfl rfl ?_
    refine wpList_eql63 rfl _ _ _ rfl f (fun _ => 0) rfl rfl ?_
    rw [HZ.out]
    go_upto_region 3 with fail
    refine wp_region_held_drew (S := fun V => Box 63 V w.heap.size (secRow f) ∧ V.cell? ⟨db, 2, none⟩ = some (.map (some bm))) (by kernel_rfl) ⟨X.out.2.2.drew, c2⟩ ?_
    intro hS
    refine wpAnyH_take (i := 0) (v := ?_) rfl (by kernel_rfl) (by kernel_rfl) (by kernel_rfl) (fun _ _ _ h => h) (Or.inl ⟨by kernel_rfl, ?_⟩) hS ?_
    rotate_left
    · intro w hSw; (try dsimp only at hSw); go_simp; try (with_reducible rfl)
    (try simp only [Act.put, List.getElem_toArray, List.getElem_cons_succ, List.getElem_cons_zero, List.setIfInBounds_toArray, List.set_cons_zero, List.set_cons_succ])
    refine wpAnyH_take (i := 1) (v := ?_) rfl (by kernel_rfl) (by kernel_rfl) (by kernel_rfl) (fun _ _ _ h => h) (Or.inl ⟨by kernel_rfl, ?_⟩) hS ?_
    rotate_left
    · intro w hSw; (try dsimp only at hSw); go_simp; try (with_reducible rfl)
    (try simp only [Act.put, List.getElem_toArray, List.getElem_cons_succ, List.getElem_cons_zero, List.setIfInBounds_toArray, List.set_cons_zero, List.set_cons_succ])
    refine wpAnyH_take (i := 2) (v := ?_) rfl (by kernel_rfl) (by kernel_rfl) (by kernel_rfl) (fun _ _ _ h => h) (Or.inl ⟨by kernel_rfl, ?_⟩) hS ?_
    rotate_left
    · intro w hSw; (try dsimp only at hSw); go_simp; try (with_reducible rfl)
    (try simp only [Act.put, List.getElem_toArray, List.getElem_cons_succ, List.getElem_cons_zero, List.setIfInBounds_toArray, List.set_cons_zero, List.set_cons_succ])
    refine wpAnyH_take (i := 3) (v := ?_) rfl (by kernel_rfl) (by kernel_rfl) (by kernel_rfl) (fun _ _ _ h => h) (Or.inl ⟨by kernel_rfl, ?_⟩) hS ?_
    rotate_left
    · intro w hSw; (try dsimp only at hSw); go_simp; try (with_reducible rfl)
    (try simp only [Act.put, List.getElem_toArray, List.getElem_cons_succ, List.getElem_cons_zero, List.setIfInBounds_toArray, List.set_cons_zero, List.set_cons_succ])
    refine wpAnyH_take (i := 4) (v := ?_) rfl (by kernel_rfl) (by kernel_rfl) (by kernel_rfl) (fun _ _ _ h => h) (Or.inl ⟨by kernel_rfl, ?_⟩) hS ?_
    rotate_left
    · intro w hSw; (try dsimp only at hSw); go_simp; try (with_reducible rfl)
    (try simp only [Act.put, List.getElem_toArray, List.getElem_cons_succ, List.getElem_cons_zero, List.setIfInBounds_toArray, List.set_cons_zero, List.set_cons_succ])
    refine wpAnyH_take (i := 5) (v := .agg (secRow f)) rfl (by kernel_rfl) (by kernel_rfl) (by kernel_rfl) (fun _ _ _ h => h) (Or.inl ⟨by kernel_rfl, fun V hV => yield63 hV.1 _ rfl rfl⟩) hS ?_
    (try simp only [Act.put, List.getElem_toArray, List.getElem_cons_succ, List.getElem_cons_zero, List.setIfInBounds_toArray, List.set_cons_zero, List.set_cons_succ])
    refine wpAnyH_ready (rs := [6]) (by kernel_rfl) (by simp) ?_
    refine AllReadyH.cons rfl (fun K1 hK1 => ?_) AllReadyH.nil
    rw [if_pos (by kernel_rfl)]
    refine wp_mapUpdate_run _ _ _ rfl rfl rfl rfl hrun ?_
    refine hK1.out _ _ ⟨Y.out.2.2, Y.out.1.c2⟩ (fun hS2 => ?_)
    clear hK1 K1 hS
    (try simp only [Act.put, List.getElem_toArray, List.getElem_cons_succ, List.getElem_cons_zero, List.setIfInBounds_toArray, List.set_cons_zero, List.set_cons_succ])
    refine wpAnyH_done (by kernel_rfl) ?_ _
    clear hS2
    go_wp2_with fail
    go_end0
    exact ⟨rfl, Y.out.1, Y.out.2.1⟩
/-- laid up to a sector, and that one -/
theorem layN_next (M : Nat → Nat) (N x j L : Nat) (f : Nat → Nat) (hN : x * 512 + 512 * j + 512 ≤ N) (m : Nat) (hm : m = min (L - 512 * j) 512) : setS (layN M N (x * 512) (512 * j) L f) (x + j) (fun i => if i < m then f (512 * j + i) else 0) = layN M N (x * 512) (512 * (j + 1)) L f := by
  funext a
  unfold setS layN
  by_cases h1 : (x + j) * 512 ≤ a ∧ a < (x + j) * 512 + 512
  · have g1 : a < N := by omega
    have g2 : x * 512 ≤ a ∧ a < x * 512 + 512 * (j + 1) := by omega
    rw [if_pos h1, if_pos g1, if_pos g2]
    show (if a - (x + j) * 512 < m then f (512 * j + (a - (x + j) * 512)) else 0) = _
    by_cases h2 : a - x * 512 < L
    · have g3 : a - (x + j) * 512 < m := by omega
      rw [if_pos g3, if_pos h2]
      congr 1; omega
    · have g3 : ¬ a - (x + j) * 512 < m := by omega
      rw [if_neg g3, if_neg h2]
  · rw [if_neg h1]
    by_cases h2 : a < N
    · rw [if_pos h2, if_pos h2]
      by_cases h3 : x * 512 ≤ a ∧ a < x * 512 + 512 * j
      · have g2 : x * 512 ≤ a ∧ a < x * 512 + 512 * (j + 1) := by omega
        rw [if_pos h3, if_pos g2]
      · have g2 : ¬ (x * 512 ≤ a ∧ a < x * 512 + 512 * (j + 1)) := by omega
        rw [if_neg h3, if_neg g2]
    · rw [if_neg h2, if_neg h2]
theorem layN_none (M : Nat → Nat) (N x L : Nat) (f : Nat → Nat) (h : ∀ a, N ≤ a → M a = 0) : layN M N x 0 L f = M := by
  funext a
  unfold layN
  by_cases h1 : a < N
  · rw [if_pos h1, if_neg (by omega)]
  · rw [if_neg h1, h a (by omega)]
def partK (K : Dk) (x n L : Nat) (f : Nat → Nat) : Dk := { K with M := layN K.M (K.count * 512) (x * 512) n L f }
theorem partK_next (K : Dk) (x j L m : Nat) (f : Nat → Nat) (hN : x * 512 + 512 * j + 512 ≤ K.count * 512) (hm : m = min (L - 512 * j) 512) : keepK (partK K x (512 * j) L f) (x + j) (fun i => if i < m then f (512 * j + i) else 0) = partK K x (512 * (j + 1)) L f := by
  unfold keepK partK
  simp only [layN_next K.M (K.count * 512) x j L f hN m hm]
theorem reads_cut0 {F : Nat → Prop} {w : World} {v : Value} {n : Nat} {f : Nat → Nat} (h : ReadsF F w v n f) (h0 : 0 < n) : ∃ b off cap, v = .slice (some ⟨b, off, none⟩) n cap ∧ ¬ F b ∧ n ≤ cap ∧ cap ≤ 9223372036854775807 ∧ ∀ i, i < n → w.cell? ⟨b, off + i, none⟩ = some (.int .u8 (f i : Nat)) := by
  rcases h with ⟨h, _⟩ | h
  · omega
  · exact h
set_option maxHeartbeats 4000000 in
theorem put_any {w : World} {db bm : Nat} {K : Dk} (h : DiskAt w db bm K) (x L : Nat) (f : Nat → Nat) (v : Value) (hr : ReadsF (fun k => k = db ∨ k = bm) w v L f) (hf : ∀ i, f i ≤ 255) (hL : x * 512 + L ≤ K.count * 512) :
    Calls Try.prog 31 #[.pointer (some ⟨db, 0, none⟩), .int .u64 (x : Nat), v] w fun e w' => e = .returned (.tuple #[]) ∧ DiskAt w' db bm (putK K x L f) ∧ Two db bm w w' := by
  have hc := h.2.2.cnt
  have hfin : ∀ j, L ≤ 512 * j → 512 * j ≤ up L → partK K x (512 * j) L f = putK K x L f := fun j h1 h2 => by
    unfold partK putK
    rw [show 512 * j = up L from by unfold up at *; omega]
  have H : Hid (DiskAt w db bm K ∧ ReadsF (fun k => k = db ∨ k = bm) w v L f ∧ ∀ j, L ≤ 512 * j → 512 * j ≤ up L → partK K x (512 * j) L f = putK K x L f) := ⟨h, hr, hfin⟩
  clear hfin h hr
  go_enter Try.func31, Try.ntmps31
  go_wp2
  go_loopw [1, 2] (fun a d wr => ∃ j, 512 * j ≤ up L ∧ a = .int .u64 ((x + j : Nat) : Int) ∧ ReadsF (fun k => k = db ∨ k = bm) wr d (L - 512 * j) (fun i => f (512 * j + i)) ∧ DiskAt wr db bm (partK K x (512 * j) L f) ∧ Two db bm w wr) (fun a _ _ => (x + 65537) - (intOf a).toNat)
  case atStart => exact ⟨0, Nat.zero_le _, rfl, by simpa using H.out.2.1, by unfold partK; rw [layN_none _ _ _ _ _ H.out.1.2.2.out]; exact H.out.1, Two.refl _ _ _⟩
  case round =>
    obtain ⟨j, hj, rfl, hrd, hd, ht⟩ := hrel
    by_cases hlt : 512 * j < L
    · obtain ⟨bd, od, cd, rfl, hG, hc1, hc2, hcell⟩ := reads_cut0 hrd (by omega)
      obtain ⟨y, hy⟩ : ∃ y, x + j = y := ⟨_, rfl⟩
      obtain ⟨R, hR⟩ : ∃ R, L - 512 * j = R := ⟨_, rfl⟩
      obtain ⟨m, hm⟩ : ∃ m, m = min R 512 := ⟨_, rfl⟩
      have hy2 : y < 65536 := by unfold up at hj; omega
      rw [hy, hR]
      rw [hR] at hcell hc1 hrd
      have hR0 : 0 < R ∧ R ≤ 33554432 := by omega
      have hm1 : m ≤ R ∧ 0 < m ∧ m ≤ 512 := by omega
      have hnx := partK_next K x j L m f (by omega) (by rw [hR]; exact hm)
      have X : Hid (DiskAt wr db bm (partK K x (512 * j) L f) ∧ Two db bm w wr ∧ ReadsF (fun k => k = db ∨ k = bm) wr (.slice (some ⟨bd, od, none⟩) R cd) R (fun i => f (512 * j + i)) ∧ (∀ i, i < R → wr.cell? ⟨bd, od + i, none⟩ = some (.int .u8 (f (512 * j + i) : Nat))) ∧ keepK (partK K x (512 * j) L f) (x + j) (fun i => if i < m then f (512 * j + i) else 0) = partK K x (512 * (j + 1)) L f ∧ m = min R 512 ∧ L - 512 * j = R ∧ x + j = y) := ⟨hd, ht, hrd, hcell, hnx, hm, hR, hy⟩
      clear hd ht hrd hcell hnx hm hR hy
      go_upto_region 2 with fail
      refine wp_region_list ?_
      refine wpList_alloc63 rfl rfl ?_
      have b1 : Below wr.heap.size wr (wr.alloc (.cells (secRow fun _ => 0) 63)) := (Below.refl _ _).alloc (Nat.le_refl _) _
      have T1 : Hid ((wr.alloc (.cells (secRow fun _ => 0) 63)).heap[wr.heap.size]? = some (.cells (secRow fun _ => 0) 63 (0, 0))) := heap_alloc_new wr _
      have T2 : Hid (m = Nat.min R 512) := X.out.2.2.2.2.2.1
      have T3 : Hid (∀ i v, (rowK .u8 (fun i => f (512 * j + i)) m)[i]? = some v → (wr.alloc (.cells (secRow fun _ => 0) 63)).cell? ((⟨bd, od, none⟩ : Addr).add i) = some v) := by
        intro i v hv
        obtain ⟨hi, rfl⟩ := rowK_at _ _ _ _ _ hv
        rw [addr_add]
        have hb := X.out.2.2.2.1 i (by omega)
        rw [World.cell?_of_block (a := ⟨bd, od + i, none⟩) (b1.block bd (block_lt_of_cell hb))]
        exact hb
      have T4 : Hid (0 + m ≤ (secRow fun _ => 0).size) := by show _ ≤ _; rw [secRow_size]; omega
      have Y : Hid (DiskAt (wr.alloc (.cells (secRow fun _ => 0) 63)) db bm (partK K x (512 * j) L f) ∧ Two db bm w (wr.alloc (.cells (secRow fun _ => 0) 63))) := ⟨X.out.1.step b1, X.out.2.1.trans (Two.of_below b1)⟩
      have hsz : wr.heap.size < (wr.alloc (.cells (secRow fun _ => 0) 63)).heap.size := by simp
      have hdb := X.out.1.lt
      have B1 : Hid (Below wr.heap.size wr (wr.alloc (.cells (secRow fun _ => 0) 63))) := b1
      clear b1
      generalize wr.alloc (.cells (secRow fun _ => 0) 63) = w1 at *
      go_upto_region 3 with fail
      refine wp_region_list ?_
      (refine wpList_step (fun KK hKK => ?_); go_simp; refine hKK _ _ ?_; clear hKK KK)
      refine wpList_slice63 rfl _ rfl wr.heap.size rfl ?_
      (refine wpList_step (fun KK hKK => ?_); go_simp; refine hKK _ _ ?_; clear hKK KK)
      refine wpList_copy_at rfl _ _ 25 25 rfl 5 Try.underlying25 size5 wr.heap.size 0 512 512 ⟨bd, od, none⟩ R cd rfl rfl (secRow fun _ => 0) 63 T1.out (rowK .u8 (fun i => f (512 * j + i)) m) m (rowK_length _ _ _) T2.out T3.out T4.out (rowK_one _ _ _) ?_
      intro w2 hw2
      have hB2 : Box 63 w2 wr.heap.size (secRow (fun i => if i < m then f (512 * j + i) else 0)) := by
        have hh := setRow_heap w1 wr.heap.size _ (List.take 0 (secRow fun _ => 0).toList ++ (rowK .u8 (fun i => f (512 * j + i)) m ++ List.drop (0 + (rowK .u8 (fun i => f (512 * j + i)) m).length) (secRow fun _ => 0).toList)).toArray 63 _ T1.out
        rw [← hw2.out] at hh
        unfold Box
        rw [hh, rowK_length]
        show some (Obj.cells (List.take 0 (rowK .u8 (fun _ => 0) 512) ++ (rowK .u8 (fun i => f (512 * j + i)) m ++ List.drop (0 + m) (rowK .u8 (fun _ => 0) 512))).toArray 63 (0, 0)) = _
        rw [row_copyN 512 _ _ 0 m (by omega)]
        unfold secRow
        rw [rowK_congr .u8 _ (fun i => if i < m then f (512 * j + i) else 0) 512]
        intro i hi
        by_cases hi2 : i < m
        · rw [if_pos (by omega), if_pos hi2, Nat.sub_zero]
        · rw [if_neg (by omega), if_neg hi2]
      have hU2 : Upon wr.heap.size w1 w2 := by rw [hw2.out]; exact upon_row (Upon.refl _ _) _
      have Z : Hid (DiskAt w2 db bm (partK K x (512 * j) L f) ∧ Two db bm w w2 ∧ Box 63 w2 wr.heap.size (secRow (fun i => if i < m then f (512 * j + i) else 0)) ∧ Two db bm wr w2) := by
        have g2 : Below wr.heap.size wr w2 := B1.out.trans (hU2.below (Nat.le_refl _) (by omega))
        exact ⟨X.out.1.step g2, X.out.2.1.trans (Two.of_below g2), hB2, Two.of_below g2⟩
      clear hw2 hB2 hU2 T1 T2 T3 T4 Y
      go_upto_region 4 with fail
      refine wp_region_list ?_
      (refine wpList_step (fun KK hKK => ?_); go_simp; refine hKK _ _ ?_; clear hKK KK)
      (refine wpList_step (fun KK hKK => ?_); go_simp; refine hKK _ _ ?_; clear hKK KK)
      refine wpList_load63 rfl _ rfl wr.heap.size _ rfl Z.out.2.2.1 ?_
      refine wpList_step (fun KK hKK => ?_)
      go_simp
      refine (keep_any Z.out.1 y (fun i => if i < m then f (512 * j + i) else 0) (by show y < K.count; have := X.out.2.2.2.2.2.2.1; have := X.out.2.2.2.2.2.2.2; omega) (fun i => by show (if i < m then f (512 * j + i) else 0) ≤ 255; split; exact hf _; omega)).mono ?_
      rintro e w3 ⟨rfl, hd3, ht3⟩
      have V : Hid (DiskAt w3 db bm (partK K x (512 * (j + 1)) L f) ∧ Two db bm w w3 ∧ Two db bm wr w3) := by
        have e := X.out.2.2.2.2.1
        rw [X.out.2.2.2.2.2.2.2] at e
        rw [e] at hd3
        exact ⟨hd3, Z.out.2.1.trans ht3, Z.out.2.2.2.trans ht3⟩
      clear hd3 ht3
      refine hKK _ _ ?_
      clear hKK KK Z
      go_wp2
      obtain ⟨_, _, hrd, hcell, _, hm, hR, hy⟩ := X.out
      refine ⟨⟨j + 1, by unfold up at *; omega, by rw [← hy]; go_num, ?_, V.out.1, V.out.2.1⟩, by simp [intOf]; omega⟩
      have hc3 : ReadsF (fun k => k = db ∨ k = bm) wr (.slice (if cd = m then some ⟨bd, od, none⟩ else some ⟨bd, od + m, none⟩) (R - m) (cd - m)) (R - m) (fun i => f (512 * j + (m + i))) := ReadsF.cut (f := fun i => f (512 * j + i)) hG hc1 hc2 hm1.1 hcell
      have hc4 := hc3.two V.out.2.2
      rw [show L - 512 * (j + 1) = R - m from by omega]
      by_cases hq : R ≤ 512
      · have hz : R - m = 0 := by omega
        rw [hz] at hc4 ⊢
        rcases hc4 with ⟨_, a, cap, e1, e2⟩ | ⟨_, _, cap, e2, _, _, e3, _⟩
        · exact .inl ⟨rfl, a, cap, e1, e2⟩
        · exact .inl ⟨rfl, _, cap, e3, e2⟩
      · have hm5 : m = 512 := by omega
        have : (fun i => f (512 * j + (m + i))) = (fun i => f (512 * (j + 1) + i)) := by funext i; congr 1; omega
        rw [← this]
        exact hc4
    · have e : L - 512 * j = 0 := by omega
      rw [e] at hrd
      have E := H.out.2.2 j (by omega) hj
      rw [E] at hd
      rcases hrd with ⟨_, a0, c0, _, rfl⟩ | ⟨b0, o0, c0, rfl, _⟩
      all_goals
        go_wp2
        go_end0
        exact ⟨rfl, hd, ht⟩
end Go.Proofs.Ytkalaojbmedhjaa
