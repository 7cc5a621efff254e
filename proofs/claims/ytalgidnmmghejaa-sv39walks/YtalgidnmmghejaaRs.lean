/- The document's Walk comes to what the plain numbers say. -/
import Derived.Test.YtalgidnmmghejaaRr
namespace Go.Proofs.Ytalgidnmmghejaa
open Go.RowKit Go.Maps
set_option linter.unusedVariables false
set_option linter.unusedSimpArgs false
set_option maxRecDepth 100000
theorem align_eq (p l : Nat) (hl : l ≤ 2) : (E.getN (p * 4096) 0 (12 + 9 * l : Nat) == 0) = (E.getN p 0 (9 * l : Nat) == 0) := by
  rw [getN0 _ _ (by omega), getN0 _ _ (by omega), Nat.pow_add, show (2 : Nat) ^ 12 = 4096 from rfl, Nat.mul_comm p, Nat.mul_mod_mul_left]
  generalize p % 2 ^ (9 * l) = q
  rw [Bool.eq_iff_iff]
  simp
  omega
theorem down_all (M : Nat → Nat) (s : Nat) (kind mode : Int) (sum mxr : Bool) (va t l : Nat) (hl : l ≤ 2) : downR M s kind mode sum mxr va t l = (if putB (plcN t va l) 8 s = false then (0, true, false, 2 - l) else if oddB (loadV M (plcN t va l) 8 s) = true then badR (3 - l) else if leadsB (loadV M (plcN t va l) 8 s) = true then (if (alwB kind mode sum mxr (loadV M (plcN t va l) 8 s) && (E.getN (numN (loadV M (plcN t va l) 8 s) * 4096) 0 (12 + 9 * l : Nat) == 0)) = true then (numN (loadV M (plcN t va l) 8 s) * 4096 + E.getN va 0 (12 + 9 * l : Nat), false, false, 3 - l) else badR (3 - l)) else if l = 0 then badR 3 else downR M s kind mode sum mxr va (numN (loadV M (plcN t va l) 8 s)) (l - 1)) := by
  rw [align_eq _ _ hl]
  cases hp : putB (plcN t va l) 8 s with
  | false => rw [if_pos rfl]; exact down_out M s kind mode sum mxr va t l hp
  | true =>
    rw [if_neg (by simp)]
    cases ho : oddB (loadV M (plcN t va l) 8 s) with
    | true => rw [if_pos rfl]; exact down_odd M s kind mode sum mxr va t l hl hp ho
    | false =>
      rw [if_neg (by simp)]
      cases hb : leadsB (loadV M (plcN t va l) 8 s) with
      | true => rw [if_pos rfl]; exact down_leads M s kind mode sum mxr va t l hp ho hb
      | false =>
        rw [if_neg (by simp)]
        cases l with
        | zero => rw [if_pos rfl]; exact down_zero M s kind mode sum mxr va t hp ho hb
        | succ l => rw [if_neg (by omega)]; exact down_next M s kind mode sum mxr va t l hp ho hb
theorem low_lt (va l : Nat) (hl : l ≤ 2) : E.getN va 0 (12 + 9 * l : Nat) < 1073741824 := by
  rw [getN0 _ _ (by omega)]
  have h := Nat.pow_le_pow_right (show 0 < 2 by omega) (show 12 + 9 * l ≤ 30 by omega)
  exact Nat.lt_of_lt_of_le (Nat.mod_lt _ (Nat.two_pow_pos _)) h
theorem ddown_any (satp : Nat) (kind mode : Int) (sum mxr : Bool) (va s nb : Nat) (a : Option Addr) (n c : Nat) (bs : Nat → Nat × Nat) (F : Nat → Prop) (M : Nat → Nat) (hva : va < 18446744073709551616) (hs : s ≤ 268435456) (hn : nb ≤ 1000000) (hM : ∀ q, rget bs nb q = M q) (hle : ∀ q, M q ≤ 255) :
    ∀ (l : Nat), l ≤ 2 → ∀ (t : Nat), t < 17592186044416 → ∀ (w : World), RefIn F w (.slice a n c) nb bs → Calls Try.prog 40 #[.agg #[.int .u64 (s : Nat), .slice a n c], .agg #[.int .u64 (satp : Nat), .int .i64 kind, .int .i64 mode, .bool sum, .bool mxr], .int .u64 (va : Int), .int .u64 ((t : Int) * 4096), .int .i64 (l : Int)] w fun e w' => e = .returned (.agg (resC (downR M s kind mode sum mxr va t l))) ∧ Below w.heap.size w w' := by
  intro l
  induction l with
  | zero =>
    intro hl t ht w hw
    have h12 : ((12 + 9 * (0) : Nat) : Int) = 12 + 9 * ((0 : Nat) : Int) := by omega
    have hlv := loadV_lt M (plcN t va (0)) s hle
    have hpl := plcN_lt t va (0) hl ht
    have hpc : ((plcN t va (0) : Nat) : Int) = (t : Int) * 4096 + 8 * ((E.getN va (12 + 9 * (0) : Nat) 9 : Nat) : Int) := by unfold plcN; omega
    have hM' : rget bs nb = M := funext hM
    refine ddown_core satp kind mode sum mxr s a n c va t (0) (E.getN va (12 + 9 * (0) : Nat) 9) (loadV M (plcN t va (0)) 8 s) (numN (loadV M (plcN t va (0)) 8 s)) (E.getN (numN (loadV M (plcN t va (0)) 8 s) * 4096) 0 (12 + 9 * (0) : Nat)) (E.getN va 0 (12 + 9 * (0) : Nat)) (putB (plcN t va (0)) 8 s) (oddB (loadV M (plcN t va (0)) 8 s)) (leadsB (loadV M (plcN t va (0)) 8 s)) (alwB kind mode sum mxr (loadV M (plcN t va (0)) 8 s)) (downR M s kind mode sum mxr va (numN (loadV M (plcN t va (0)) 8 s)) (0 - 1)) hl ht (getN9_lt va _ (by omega)) (numN_lt _) (low_lt va (0) hl) w
      (fun V => RefIn F V (.slice a n c) nb bs) (fun V V' h hb => h.below hb) hw
      (fun V => by rw [← h12]; exact E.rget_all va _ 9 hva V V (Below.refl _ _))
      (fun V hV => by
        rw [← hpc, ← hM']
        exact rload_any F V s (plcN t va (0)) nb 8 (.slice a n c) bs hV (fun q => by rw [hM q]; exact hle q) hn hs hpl)
      (fun V => E.rget_all _ 10 44 hlv V V (Below.refl _ _)) (fun V => dodd_any _ hlv V V (Below.refl _ _)) (fun V => dleads_any _ hlv V V (Below.refl _ _)) (fun V => dallowed_any satp kind mode sum mxr _ hlv V V (Below.refl _ _))
      (fun V => by
        rw [← h12, show ((numN (loadV M (plcN t va (0)) 8 s) : Nat) : Int) * 4096 = ((numN (loadV M (plcN t va (0)) 8 s) * 4096 : Nat) : Int) from by omega]
        exact E.rget_all _ 0 _ (by have := numN_lt (loadV M (plcN t va (0)) 8 s); omega) V V (Below.refl _ _))
      (fun V => by rw [← h12]; exact E.rget_all va 0 _ hva V V (Below.refl _ _))
      (fun h0 V hV => absurd rfl h0) _ (down_all M s kind mode sum mxr va t (0) hl)
  | succ l ih =>
    intro hl t ht w hw
    have h12 : ((12 + 9 * (l + 1) : Nat) : Int) = 12 + 9 * ((l + 1 : Nat) : Int) := by omega
    have hlv := loadV_lt M (plcN t va (l + 1)) s hle
    have hpl := plcN_lt t va (l + 1) hl ht
    have hpc : ((plcN t va (l + 1) : Nat) : Int) = (t : Int) * 4096 + 8 * ((E.getN va (12 + 9 * (l + 1) : Nat) 9 : Nat) : Int) := by unfold plcN; omega
    have hM' : rget bs nb = M := funext hM
    refine ddown_core satp kind mode sum mxr s a n c va t (l + 1) (E.getN va (12 + 9 * (l + 1) : Nat) 9) (loadV M (plcN t va (l + 1)) 8 s) (numN (loadV M (plcN t va (l + 1)) 8 s)) (E.getN (numN (loadV M (plcN t va (l + 1)) 8 s) * 4096) 0 (12 + 9 * (l + 1) : Nat)) (E.getN va 0 (12 + 9 * (l + 1) : Nat)) (putB (plcN t va (l + 1)) 8 s) (oddB (loadV M (plcN t va (l + 1)) 8 s)) (leadsB (loadV M (plcN t va (l + 1)) 8 s)) (alwB kind mode sum mxr (loadV M (plcN t va (l + 1)) 8 s)) (downR M s kind mode sum mxr va (numN (loadV M (plcN t va (l + 1)) 8 s)) (l + 1 - 1)) hl ht (getN9_lt va _ (by omega)) (numN_lt _) (low_lt va (l + 1) hl) w
      (fun V => RefIn F V (.slice a n c) nb bs) (fun V V' h hb => h.below hb) hw
      (fun V => by rw [← h12]; exact E.rget_all va _ 9 hva V V (Below.refl _ _))
      (fun V hV => by
        rw [← hpc, ← hM']
        exact rload_any F V s (plcN t va (l + 1)) nb 8 (.slice a n c) bs hV (fun q => by rw [hM q]; exact hle q) hn hs hpl)
      (fun V => E.rget_all _ 10 44 hlv V V (Below.refl _ _)) (fun V => dodd_any _ hlv V V (Below.refl _ _)) (fun V => dleads_any _ hlv V V (Below.refl _ _)) (fun V => dallowed_any satp kind mode sum mxr _ hlv V V (Below.refl _ _))
      (fun V => by
        rw [← h12, show ((numN (loadV M (plcN t va (l + 1)) 8 s) : Nat) : Int) * 4096 = ((numN (loadV M (plcN t va (l + 1)) 8 s) * 4096 : Nat) : Int) from by omega]
        exact E.rget_all _ 0 _ (by have := numN_lt (loadV M (plcN t va (l + 1)) 8 s); omega) V V (Below.refl _ _))
      (fun V => by rw [← h12]; exact E.rget_all va 0 _ hva V V (Below.refl _ _))
      (fun h0 V hV => by
        rw [show ((l + 1 : Nat) : Int) - 1 = (l : Int) from by omega]
        exact ih (by omega) _ (numN_lt _) V hV) _ (down_all M s kind mode sum mxr va t (l + 1) hl)
set_option maxHeartbeats 1000000 in
theorem dwalk_any (satp : Nat) (kind mode : Int) (sum mxr : Bool) (va s nb : Nat) (a : Option Addr) (n c : Nat) (bs : Nat → Nat × Nat) (F : Nat → Prop) (M : Nat → Nat) (hsat : satp < 18446744073709551616) (hva : va < 18446744073709551616) (hs : s ≤ 268435456) (hn : nb ≤ 1000000) (hM : ∀ q, rget bs nb q = M q) (hle : ∀ q, M q ≤ 255) (w : World) (hw : RefIn F w (.slice a n c) nb bs) :
    Calls Try.prog 14 #[.agg #[.int .u64 (s : Nat), .slice a n c], .agg #[.int .u64 (satp : Nat), .int .i64 kind, .int .i64 mode, .bool sum, .bool mxr], .int .u64 (va : Int)] w fun e w' => e = .returned (.agg (resC (walkR M s satp kind mode sum mxr va))) ∧ Below w.heap.size w w' := by
  have cb : ∀ V, Calls Try.prog 20 #[.agg #[.int .u64 (satp : Nat), .int .i64 kind, .int .i64 mode, .bool sum, .bool mxr]] V fun e w' => e = .returned (.bool (bareB satp mode)) ∧ Below V.heap.size V w' := fun V => dbare_any satp kind mode sum mxr hsat V V (Below.refl _ _)
  have cpr : ∀ V, Calls Try.prog 22 #[.int .u64 (va : Int)] V fun e w' => e = .returned (.bool (propB va)) ∧ Below V.heap.size V w' := fun V => dproper_any va hva V V (Below.refl _ _)
  have cs : ∀ V, Calls Try.prog 17 #[.int .u64 (satp : Int), .int .i64 0, .int .i64 44] V fun e w' => e = .returned (.int .u64 (E.getN satp 0 44 : Nat)) ∧ Below V.heap.size V w' := fun V => E.rget_all satp 0 44 hsat V V (Below.refl _ _)
  have hT := satp_lt satp
  have cd : ∀ V, Below w.heap.size w V → Calls Try.prog 40 #[.agg #[.int .u64 (s : Nat), .slice a n c], .agg #[.int .u64 (satp : Nat), .int .i64 kind, .int .i64 mode, .bool sum, .bool mxr], .int .u64 (va : Int), .int .u64 ((E.getN satp 0 44 : Nat) * 4096 : Int), .int .i64 2] V fun e w' => e = .returned (.agg (resC (downR M s kind mode sum mxr va (E.getN satp 0 44) 2))) ∧ Below V.heap.size V w' := fun V hV => ddown_any satp kind mode sum mxr va s nb a n c bs F M hva hs hn hM hle 2 (by omega) _ hT V (hw.below hV)
  clear hM hle hw hva hsat hs hn
  unfold walkR
  generalize E.getN satp 0 44 = T at *
  generalize bareB satp mode = B at *
  generalize propB va = P at *
  generalize downR M s kind mode sum mxr va T 2 = r at *
  have hw4 : IntKind.u64.wrap ((T : Int) * 4096) = (T : Int) * 4096 := by rw [E.wrap_u64]; omega
  cases B
  case true =>
    rw [if_pos rfl]
    clear cpr cs cd
    have X0 : Hid (Thr w (((w.alloc (.cells #[.int .u64 (s : Nat), .slice a n c] 30)).alloc (.cells #[.int .u64 (satp : Nat), .int .i64 kind, .int .i64 mode, .bool sum, .bool mxr] 25)).alloc (.cells #[.int .u64 0, .bool false, .bool false, .int .i64 0] 42)) #[.int .u64 (s : Nat), .slice a n c] #[.int .u64 (satp : Nat), .int .i64 kind, .int .i64 mode, .bool sum, .bool mxr] #[.int .u64 0, .bool false, .bool false, .int .i64 0]) := Thr.new _ _ _ _
    go_enter Try.func14, Try.ntmps14
    go_upto_region 1 with fail
    generalize (((w.alloc (.cells #[.int .u64 (s : Nat), .slice a n c] 30)).alloc (.cells #[.int .u64 (satp : Nat), .int .i64 kind, .int .i64 mode, .bool sum, .bool mxr] 25)).alloc (.cells #[.int .u64 0, .bool false, .bool false, .int .i64 0] 42)) = V0 at *
    have f0 := cellOf X0.out.2.1 0 _ rfl
    have f1 := cellOf X0.out.2.1 1 _ rfl
    have f2 := cellOf X0.out.2.1 2 _ rfl
    have f3 := cellOf X0.out.2.1 3 _ rfl
    have f4 := cellOf X0.out.2.1 4 _ rfl
    go_wp2_with fail
    refine (cb _).mono ?_
    rintro e w1 ⟨rfl, hb⟩
    have X1 : Hid (Thr w w1 #[.int .u64 (s : Nat), .slice a n c] #[.int .u64 (satp : Nat), .int .i64 kind, .int .i64 mode, .bool sum, .bool mxr] #[.int .u64 0, .bool false, .bool false, .int .i64 0]) := X0.out.step hb
    clear hb
    have d0 := cellOf X1.out.2.2.1 0 _ rfl
    have z0 := frozenOf X1.out.2.2.1 0
    have d1 := cellOf X1.out.2.2.1 1 _ rfl
    have z1 := frozenOf X1.out.2.2.1 1
    have d2 := cellOf X1.out.2.2.1 2 _ rfl
    have z2 := frozenOf X1.out.2.2.1 2
    have d3 := cellOf X1.out.2.2.1 3 _ rfl
    have z3 := frozenOf X1.out.2.2.1 3
    go_wp2_with fail
    refine bodyPost_ret (v := .agg #[.int .u64 (va : Int), .bool false, .bool false, .int .i64 0]) (by simp [results, Try.results14, go_sem, d0, d1, d2, d3]) rfl ⟨rfl, ?_⟩
    exact set_four X1.out.2.2.2 (by omega) _ _ _ _
  rw [if_neg (by simp)]
  cases P
  case false =>
    rw [if_pos rfl]
    clear cs cd
    have X0 : Hid (Thr w (((w.alloc (.cells #[.int .u64 (s : Nat), .slice a n c] 30)).alloc (.cells #[.int .u64 (satp : Nat), .int .i64 kind, .int .i64 mode, .bool sum, .bool mxr] 25)).alloc (.cells #[.int .u64 0, .bool false, .bool false, .int .i64 0] 42)) #[.int .u64 (s : Nat), .slice a n c] #[.int .u64 (satp : Nat), .int .i64 kind, .int .i64 mode, .bool sum, .bool mxr] #[.int .u64 0, .bool false, .bool false, .int .i64 0]) := Thr.new _ _ _ _
    go_enter Try.func14, Try.ntmps14
    go_upto_region 1 with fail
    generalize (((w.alloc (.cells #[.int .u64 (s : Nat), .slice a n c] 30)).alloc (.cells #[.int .u64 (satp : Nat), .int .i64 kind, .int .i64 mode, .bool sum, .bool mxr] 25)).alloc (.cells #[.int .u64 0, .bool false, .bool false, .int .i64 0] 42)) = V0 at *
    have f0 := cellOf X0.out.2.1 0 _ rfl
    have f1 := cellOf X0.out.2.1 1 _ rfl
    have f2 := cellOf X0.out.2.1 2 _ rfl
    have f3 := cellOf X0.out.2.1 3 _ rfl
    have f4 := cellOf X0.out.2.1 4 _ rfl
    go_wp2_with fail
    refine (cb _).mono ?_
    rintro e w1 ⟨rfl, hb⟩
    have X1 : Hid (Thr w w1 #[.int .u64 (s : Nat), .slice a n c] #[.int .u64 (satp : Nat), .int .i64 kind, .int .i64 mode, .bool sum, .bool mxr] #[.int .u64 0, .bool false, .bool false, .int .i64 0]) := X0.out.step hb
    clear hb
    go_wp2_with fail
    refine (cpr _).mono ?_
    rintro e w2 ⟨rfl, hb⟩
    have X2 : Hid (Thr w w2 #[.int .u64 (s : Nat), .slice a n c] #[.int .u64 (satp : Nat), .int .i64 kind, .int .i64 mode, .bool sum, .bool mxr] #[.int .u64 0, .bool false, .bool false, .int .i64 0]) := X1.out.step hb
    clear hb
    have d0 := cellOf X2.out.2.2.1 0 _ rfl
    have z0 := frozenOf X2.out.2.2.1 0
    have d1 := cellOf X2.out.2.2.1 1 _ rfl
    have z1 := frozenOf X2.out.2.2.1 1
    have d2 := cellOf X2.out.2.2.1 2 _ rfl
    have z2 := frozenOf X2.out.2.2.1 2
    have d3 := cellOf X2.out.2.2.1 3 _ rfl
    have z3 := frozenOf X2.out.2.2.1 3
    go_wp2_with fail
    refine bodyPost_ret (v := .agg #[.int .u64 0, .bool true, .bool true, .int .i64 0]) (by simp [results, Try.results14, go_sem, d0, d1, d2, d3]) rfl ⟨rfl, ?_⟩
    exact set_four X2.out.2.2.2 (by omega) _ _ _ _
  rw [if_neg (by simp)]
  obtain ⟨r0, r1, r2, r3⟩ := r
  rw [show resC (r0, r1, r2, r3) = #[.int .u64 (r0 : Nat), .bool r1, .bool r2, .int .i64 (r3 : Nat)] from rfl] at cd ⊢
  have X0 : Hid (Thr w (((w.alloc (.cells #[.int .u64 (s : Nat), .slice a n c] 30)).alloc (.cells #[.int .u64 (satp : Nat), .int .i64 kind, .int .i64 mode, .bool sum, .bool mxr] 25)).alloc (.cells #[.int .u64 0, .bool false, .bool false, .int .i64 0] 42)) #[.int .u64 (s : Nat), .slice a n c] #[.int .u64 (satp : Nat), .int .i64 kind, .int .i64 mode, .bool sum, .bool mxr] #[.int .u64 0, .bool false, .bool false, .int .i64 0]) := Thr.new _ _ _ _
  go_enter Try.func14, Try.ntmps14
  go_upto_region 1 with fail
  generalize (((w.alloc (.cells #[.int .u64 (s : Nat), .slice a n c] 30)).alloc (.cells #[.int .u64 (satp : Nat), .int .i64 kind, .int .i64 mode, .bool sum, .bool mxr] 25)).alloc (.cells #[.int .u64 0, .bool false, .bool false, .int .i64 0] 42)) = V0 at *
  have f0 := cellOf X0.out.2.1 0 _ rfl
  have f1 := cellOf X0.out.2.1 1 _ rfl
  have f2 := cellOf X0.out.2.1 2 _ rfl
  have f3 := cellOf X0.out.2.1 3 _ rfl
  have f4 := cellOf X0.out.2.1 4 _ rfl
  go_wp2_with fail
  refine (cb _).mono ?_
  rintro e w1 ⟨rfl, hb⟩
  have X1 : Hid (Thr w w1 #[.int .u64 (s : Nat), .slice a n c] #[.int .u64 (satp : Nat), .int .i64 kind, .int .i64 mode, .bool sum, .bool mxr] #[.int .u64 0, .bool false, .bool false, .int .i64 0]) := X0.out.step hb
  clear hb
  go_wp2_with fail
  refine (cpr _).mono ?_
  rintro e w2 ⟨rfl, hb⟩
  have X2 : Hid (Thr w w2 #[.int .u64 (s : Nat), .slice a n c] #[.int .u64 (satp : Nat), .int .i64 kind, .int .i64 mode, .bool sum, .bool mxr] #[.int .u64 0, .bool false, .bool false, .int .i64 0]) := X1.out.step hb
  clear hb
  go_upto_region 5 with fail
  have X2d : Hid (Thr w w2.drew #[.int .u64 (s : Nat), .slice a n c] #[.int .u64 (satp : Nat), .int .i64 kind, .int .i64 mode, .bool sum, .bool mxr] #[.int .u64 0, .bool false, .bool false, .int .i64 0]) := X2.out.step (Below.drew (Below.refl _ _))
  refine wp_region_held_drew (S := fun V => (V.cell? ⟨w.heap.size, 0, none⟩ = some (.int .u64 (s : Nat)) ∧ V.cell? ⟨w.heap.size, 1, none⟩ = some (.slice a n c)) ∧ V.cell? ⟨w.heap.size + 1, 0, none⟩ = some (.int .u64 (satp : Nat)) ∧ V.cell? ⟨w.heap.size + 1, 1, none⟩ = some (.int .i64 kind) ∧ V.cell? ⟨w.heap.size + 1, 2, none⟩ = some (.int .i64 mode) ∧ V.cell? ⟨w.heap.size + 1, 3, none⟩ = some (.bool sum) ∧ V.cell? ⟨w.heap.size + 1, 4, none⟩ = some (.bool mxr)) (by kernel_rfl) ⟨⟨cellOf X2d.out.1 0 _ rfl, cellOf X2d.out.1 1 _ rfl⟩, cellOf X2d.out.2.1 0 _ rfl, cellOf X2d.out.2.1 1 _ rfl, cellOf X2d.out.2.1 2 _ rfl, cellOf X2d.out.2.1 3 _ rfl, cellOf X2d.out.2.1 4 _ rfl⟩ ?_
  intro hS
  refine wpAnyH_take (i := 0) (v := ?_) rfl (by kernel_rfl) (by kernel_rfl) (by kernel_rfl) (fun _ _ _ h => h) (Or.inl ⟨by kernel_rfl, ?_⟩) hS ?_
  rotate_left
  · intro w hSw; (try dsimp only at hSw); go_simp; try (with_reducible rfl)
  (try simp only [Act.put, List.getElem_toArray, List.getElem_cons_succ, List.getElem_cons_zero, List.setIfInBounds_toArray, List.set_cons_zero, List.set_cons_succ])
  refine wpAnyH_take (i := 1) (v := ?_) rfl (by kernel_rfl) (by kernel_rfl) (by kernel_rfl) (fun _ _ _ h => h) (Or.inl ⟨by kernel_rfl, ?_⟩) hS ?_
  rotate_left
  · intro w hSw; (try dsimp only at hSw); go_simp; try (with_reducible rfl)
  (try simp only [Act.put, List.getElem_toArray, List.getElem_cons_succ, List.getElem_cons_zero, List.setIfInBounds_toArray, List.set_cons_zero, List.set_cons_succ])
  refine wpAnyH_take (i := 2) (v := ?_) rfl (by kernel_rfl) (by kernel_rfl) (by kernel_rfl) (fun _ _ _ h => h) (Or.inl ⟨by kernel_rfl, ?_⟩) hS ?_
  rotate_left
  · intro w hSw; (try dsimp only at hSw); go_simp; try (with_reducible rfl)
  (try simp only [Act.put, List.getElem_toArray, List.getElem_cons_succ, List.getElem_cons_zero, List.setIfInBounds_toArray, List.set_cons_zero, List.set_cons_succ])
  refine wpAnyH_take (i := 3) (v := ?_) rfl (by kernel_rfl) (by kernel_rfl) (by kernel_rfl) (fun _ _ _ h => h) (Or.inl ⟨by kernel_rfl, ?_⟩) hS ?_
  rotate_left
  · intro w hSw; (try dsimp only at hSw); go_simp; try (with_reducible rfl)
  (try simp only [Act.put, List.getElem_toArray, List.getElem_cons_succ, List.getElem_cons_zero, List.setIfInBounds_toArray, List.set_cons_zero, List.set_cons_succ])
  refine wpAnyH_take (i := 4) (v := ?_) rfl (by kernel_rfl) (by kernel_rfl) (by kernel_rfl) (fun _ _ _ h => h) (Or.inl ⟨by kernel_rfl, ?_⟩) hS ?_
  rotate_left
  · intro w hSw; (try dsimp only at hSw); go_simp; try (with_reducible rfl)
  (try simp only [Act.put, List.getElem_toArray, List.getElem_cons_succ, List.getElem_cons_zero, List.setIfInBounds_toArray, List.set_cons_zero, List.set_cons_succ])
  refine wpAnyH_ready (rs := [5]) (by kernel_rfl) (by simp) ?_
  refine AllReadyH.cons rfl (fun K1 hK1 => ?_) AllReadyH.nil
  go_simp
  refine (cs _).mono ?_
  rintro e w11 ⟨rfl, hb⟩
  have X11 : Hid (Thr w w11 #[.int .u64 (s : Nat), .slice a n c] #[.int .u64 (satp : Nat), .int .i64 kind, .int .i64 mode, .bool sum, .bool mxr] #[.int .u64 0, .bool false, .bool false, .int .i64 0]) := X2d.out.step hb
  clear hb
  refine hK1.out _ _ ⟨⟨cellOf X11.out.1 0 _ rfl, cellOf X11.out.1 1 _ rfl⟩, cellOf X11.out.2.1 0 _ rfl, cellOf X11.out.2.1 1 _ rfl, cellOf X11.out.2.1 2 _ rfl, cellOf X11.out.2.1 3 _ rfl, cellOf X11.out.2.1 4 _ rfl⟩ (fun hS11 => ?_)
  clear hK1 K1 hS
  (try simp only [Act.put, List.getElem_toArray, List.getElem_cons_succ, List.getElem_cons_zero, List.setIfInBounds_toArray, List.set_cons_zero, List.set_cons_succ])
  refine wpAnyH_take (i := 6) (v := ?_) rfl (by kernel_rfl) (by kernel_rfl) (by kernel_rfl) (fun _ _ _ h => h) (Or.inl ⟨by kernel_rfl, ?_⟩) hS11 ?_
  rotate_left
  · intro w hSw; (try dsimp only at hSw); go_simp; try (with_reducible rfl)
  (try simp only [Act.put, List.getElem_toArray, List.getElem_cons_succ, List.getElem_cons_zero, List.setIfInBounds_toArray, List.set_cons_zero, List.set_cons_succ])
  refine wpAnyH_ready (rs := [7]) (by kernel_rfl) (by simp) ?_
  refine AllReadyH.cons rfl (fun K1 hK1 => ?_) AllReadyH.nil
  go_simp
  refine (cd _ X11.out.2.2.2).mono ?_
  rintro e w12 ⟨rfl, hb⟩
  have X12 : Hid (Thr w w12 #[.int .u64 (s : Nat), .slice a n c] #[.int .u64 (satp : Nat), .int .i64 kind, .int .i64 mode, .bool sum, .bool mxr] #[.int .u64 0, .bool false, .bool false, .int .i64 0]) := X11.out.step hb
  clear hb
  refine hK1.out _ _ ⟨⟨cellOf X12.out.1 0 _ rfl, cellOf X12.out.1 1 _ rfl⟩, cellOf X12.out.2.1 0 _ rfl, cellOf X12.out.2.1 1 _ rfl, cellOf X12.out.2.1 2 _ rfl, cellOf X12.out.2.1 3 _ rfl, cellOf X12.out.2.1 4 _ rfl⟩ (fun hS12 => ?_)
  clear hK1 K1 hS11
  (try simp only [Act.put, List.getElem_toArray, List.getElem_cons_succ, List.getElem_cons_zero, List.setIfInBounds_toArray, List.set_cons_zero, List.set_cons_succ])
  have d0 := cellOf X12.out.2.2.1 0 _ rfl
  have d1 := cellOf X12.out.2.2.1 1 _ rfl
  have d2 := cellOf X12.out.2.2.1 2 _ rfl
  have d3 := cellOf X12.out.2.2.1 3 _ rfl
  have z0 := frozenOf X12.out.2.2.1 0
  have z1 := frozenOf X12.out.2.2.1 1
  have z2 := frozenOf X12.out.2.2.1 2
  have z3 := frozenOf X12.out.2.2.1 3
  refine wpAnyH_ready (rs := [8]) (by kernel_rfl) (by simp) ?_
  refine AllReadyH.cons rfl (fun K1 hK1 => ?_) AllReadyH.nil
  go_simp
  have hoth : ∀ b', b' ≠ w.heap.size + 1 + 1 → ((((w12.setCell ⟨w.heap.size + 1 + 1, 0, none⟩ (.int .u64 (r0 : Nat))).setCell ⟨w.heap.size + 1 + 1, 1, none⟩ (.bool r1)).setCell ⟨w.heap.size + 1 + 1, 2, none⟩ (.bool r2)).setCell ⟨w.heap.size + 1 + 1, 3, none⟩ (.int .i64 (r3 : Nat))).heap[b']? = w12.heap[b']? := fun b' hne => by
    rw [Below.heap_setCell _ _ _ _ hne, Below.heap_setCell _ _ _ _ hne, Below.heap_setCell _ _ _ _ hne, Below.heap_setCell _ _ _ _ hne]
  have e0 : ((((w12.setCell ⟨w.heap.size + 1 + 1, 0, none⟩ (.int .u64 (r0 : Nat))).setCell ⟨w.heap.size + 1 + 1, 1, none⟩ (.bool r1)).setCell ⟨w.heap.size + 1 + 1, 2, none⟩ (.bool r2)).setCell ⟨w.heap.size + 1 + 1, 3, none⟩ (.int .i64 (r3 : Nat))).heap[w.heap.size]? = some (.cells #[.int .u64 (s : Nat), .slice a n c] 30 (0, 0)) := (hoth _ (by omega)).trans X12.out.1
  have e1 : ((((w12.setCell ⟨w.heap.size + 1 + 1, 0, none⟩ (.int .u64 (r0 : Nat))).setCell ⟨w.heap.size + 1 + 1, 1, none⟩ (.bool r1)).setCell ⟨w.heap.size + 1 + 1, 2, none⟩ (.bool r2)).setCell ⟨w.heap.size + 1 + 1, 3, none⟩ (.int .i64 (r3 : Nat))).heap[w.heap.size + 1]? = some (.cells #[.int .u64 (satp : Nat), .int .i64 kind, .int .i64 mode, .bool sum, .bool mxr] 25 (0, 0)) := (hoth _ (by omega)).trans X12.out.2.1
  refine hK1.out _ ((((w12.setCell ⟨w.heap.size + 1 + 1, 0, none⟩ (.int .u64 (r0 : Nat))).setCell ⟨w.heap.size + 1 + 1, 1, none⟩ (.bool r1)).setCell ⟨w.heap.size + 1 + 1, 2, none⟩ (.bool r2)).setCell ⟨w.heap.size + 1 + 1, 3, none⟩ (.int .i64 (r3 : Nat))) ⟨⟨cellOf e0 0 _ rfl, cellOf e0 1 _ rfl⟩, cellOf e1 0 _ rfl, cellOf e1 1 _ rfl, cellOf e1 2 _ rfl, cellOf e1 3 _ rfl, cellOf e1 4 _ rfl⟩ (fun hS9 => ?_)
  clear hK1 K1 hS12 hoth e0 e1
  (try simp only [Act.put, List.getElem_toArray, List.getElem_cons_succ, List.getElem_cons_zero, List.setIfInBounds_toArray, List.set_cons_zero, List.set_cons_succ])
  refine wpAnyH_done (by kernel_rfl) ?_ _
  clear hS9
  go_wp2_with fail
  refine bodyPost_ret (v := .agg #[.int .u64 (r0 : Nat), .bool r1, .bool r2, .int .i64 (r3 : Nat)]) (by simp [results, Try.results14, go_sem, d0, d1, d2, d3]) rfl ⟨rfl, ?_⟩
  exact set_four X12.out.2.2.2 (by omega) _ _ _ _
end Go.Proofs.Ytalgidnmmghejaa
