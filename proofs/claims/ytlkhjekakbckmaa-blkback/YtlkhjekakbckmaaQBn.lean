/- Layer 19: what a request writes another one reads: the plain part. -/
import Derived.Test.YtlkhjekakbckmaaYe
namespace Go.Proofs.Ytlkhjekakbckmaa
open Go.RowKit Go.Maps
set_option linter.unusedVariables false
set_option linter.unusedSimpArgs false
set_option maxRecDepth 100000
def outL : List Seg := [⟨2147483648, 16, false⟩, ⟨2147483904, 512, false⟩, ⟨2147487488, 1, true⟩]
def inL : List Seg := [⟨2147483648, 16, false⟩, ⟨2147487744, 512, true⟩, ⟨2147487488, 1, true⟩]
theorem outL_ok : ∀ s ∈ outL, SegOk 8192 s := by
  intro s hs
  simp only [outL, List.mem_cons, List.not_mem_nil, or_false] at hs
  rcases hs with rfl | rfl | rfl <;> exact ⟨by decide, by decide, by decide⟩
theorem inL_ok : ∀ s ∈ inL, SegOk 8192 s := by
  intro s hs
  simp only [inL, List.mem_cons, List.not_mem_nil, or_false] at hs
  rcases hs with rfl | rfl | rfl <;> exact ⟨by decide, by decide, by decide⟩
theorem range_getD (g : Nat → Nat) (n i : Nat) (h : i < n) : ((List.range n).map g).getD i 0 = g i := by simp [List.getD_eq_getElem?_getD, h]
theorem gat_first (M : Nat → Nat) (a n : Nat) (l : List Seg) (i : Nat) (h : i < n) : (gatL M (⟨a, n, false⟩ :: l) 0 n).getD i 0 = M (a + i) := by
  unfold gatL
  rw [addrs_cons, if_pos rfl, List.drop_zero, List.take_left' (by simp), List.map_map]
  exact range_getD _ n i h
theorem gat_second (M : Nat → Nat) (a n b m : Nat) (l : List Seg) (i : Nat) (h : i < m) : (gatL M (⟨a, n, false⟩ :: ⟨b, m, false⟩ :: l) n m).getD i 0 = M (b + i) := by
  unfold gatL
  rw [addrs_cons, if_pos rfl, List.drop_left' (by simp), addrs_cons, if_pos rfl, List.take_left' (by simp), List.map_map]
  exact range_getD _ m i h
/-- memory ahead of the request -/
def bM (s L : Nat) (f : Nat → Nat) : Nat → Nat := over (over (over (fun _ => 0) 2147483648 1 (byteAt 1)) 2147483656 8 (byteAt s)) 2147483904 L f
/-- behind it, and as it is ahead of the second one -/
def bM4 (s L u : Nat) (f : Nat → Nat) : Nat → Nat := over (bM s L f) 2147487488 1 (fun _ => u)
def bM5 (s L u : Nat) (f : Nat → Nat) : Nat → Nat := over (bM4 s L u f) 2147483648 1 (byteAt 0)
theorem four (j : Nat) (h : j < 4) : j = 0 ∨ j = 1 ∨ j = 2 ∨ j = 3 := by omega
theorem out_kd (s L : Nat) (f : Nat → Nat) : h256 (fun i => (gatL (bM s L f) outL 0 16).getD i 0) 4 0 = 1 := by
  rw [h256_congr _ (byteAt 1) 4 0 (fun j hj => by
    refine (gat_first _ _ 16 _ (0 + j) (by omega)).trans ?_
    rcases four j hj with rfl | rfl | rfl | rfl <;> simp [bM, over, byteAt])]
  rfl
theorem out_sec (s L : Nat) (f : Nat → Nat) (hs : s < 18446744073709551616) : h256 (fun i => (gatL (bM s L f) outL 0 16).getD (8 + i) 0) 8 0 = s := by
  rw [h256_congr _ (byteAt s) 8 0 (fun j hj => by
    refine (gat_first _ _ 16 _ (8 + (0 + j)) (by omega)).trans ?_
    show over (over _ 2147483656 8 (byteAt s)) 2147483904 L f _ = _
    unfold over
    rw [if_neg (by omega), if_pos (by omega)]
    exact congrArg (byteAt s) (by omega))]
  exact h256_word s hs
theorem in_kd (s L u : Nat) (f : Nat → Nat) : h256 (fun i => (gatL (bM5 s L u f) inL 0 16).getD i 0) 4 0 = 0 := by
  rw [h256_congr _ (byteAt 0) 4 0 (fun j hj => by
    refine (gat_first _ _ 16 _ (0 + j) (by omega)).trans ?_
    rcases four j hj with rfl | rfl | rfl | rfl <;> simp [bM5, bM4, bM, over, byteAt])]
  rfl
theorem in_sec (s L u : Nat) (f : Nat → Nat) (hs : s < 18446744073709551616) : h256 (fun i => (gatL (bM5 s L u f) inL 0 16).getD (8 + i) 0) 8 0 = s := by
  rw [h256_congr _ (byteAt s) 8 0 (fun j hj => by
    refine (gat_first _ _ 16 _ (8 + (0 + j)) (by omega)).trans ?_
    show over (over (over (over _ 2147483656 8 (byteAt s)) 2147483904 L f) 2147487488 1 _) 2147483648 1 _ _ = _
    unfold over
    rw [if_neg (by omega), if_neg (by omega), if_neg (by omega), if_pos (by omega)]
    exact congrArg (byteAt s) (by omega))]
  exact h256_word s hs
theorem out_mem (u : Nat) (g M : Nat → Nat) : layS (fun _ => u) (scaL outL 0 1) 0 (layS g (scaL outL 0 0) 0 M) = over M 2147487488 1 (fun _ => u) := rfl
theorem in_lay (n : Nat) (rest : List Seg) : scaL (⟨2147483648, 16, false⟩ :: ⟨2147487744, n, true⟩ :: rest) 0 n = (List.range n).map (2147487744 + ·) := by
  unfold scaL
  rw [addrs_cons, if_neg (by decide), addrs_cons, if_pos rfl, List.nil_append, List.drop_zero, List.take_left' (by simp)]
theorem in_lay2 (n : Nat) : scaL [⟨2147483648, 16, false⟩, ⟨2147487744, n, true⟩, ⟨2147487488, 1, true⟩] n 1 = [2147487488] := by
  unfold scaL
  rw [addrs_cons, if_neg (by decide), addrs_cons, if_pos rfl, List.nil_append, List.drop_left' (by simp)]
  rfl
theorem in_mem (u : Nat) (g M : Nat → Nat) : layS (fun _ => u) (scaL inL 512 1) 0 (layS g (scaL inL 0 512) 0 M) = over (over M 2147487744 512 (fun i => g (0 + i))) 2147487488 1 (fun _ => u) := by
  have e1 : scaL inL 512 1 = [2147487488] := in_lay2 512
  have e2 : scaL inL 0 512 = (List.range 512).map (2147487744 + ·) := in_lay 512 _
  rw [e1, e2, layS_range]
  rfl
theorem end_load (u : Nat) (M : Nat → Nat) : h256 (fun i => over M 2147487488 1 (fun _ => u) (2147487488 + i)) 1 0 = u := by
  show 0 * 256 + over M 2147487488 1 (fun _ => u) (2147487488 + 0) = u
  rw [over_in M 2147487488 1 _ 0 (by omega)]
  omega
section
variable {K : D.Dk} {sec : Nat} (hc : K.count = 4) (hl : K.locked = false) (hf : K.fail = 0) (fo nm : Nat → Nat)
include hc hl hf
theorem out_low (h : sec < 4) : doK 1 sec 512 0 fo nm K = ⟨0, fun _ => 0, 0, D.putK (D.askK K) sec 512 fo⟩ := by
  have e : D.writeE K sec 512 = 0 := by
    unfold D.writeE D.pieceE
    rw [hf, hl, hc, if_neg (by decide), if_neg (by decide), if_neg (by decide), if_pos (by omega)]
  unfold doK
  rw [if_neg (by decide), if_pos rfl, if_pos ⟨rfl, rfl⟩]
  unfold D.writeK
  rw [if_pos e, e]
  rfl
theorem out_high (h : ¬ sec < 4) : doK 1 sec 512 0 fo nm K = ⟨0, fun _ => 0, 1, D.askK K⟩ := by
  have e : D.writeE K sec 512 = 131 := by
    unfold D.writeE D.pieceE
    rw [hf, hl, hc, if_neg (by decide), if_neg (by decide), if_neg (by decide), if_neg (by omega)]
  unfold doK
  rw [if_neg (by decide), if_pos rfl, if_pos ⟨rfl, rfl⟩]
  unfold D.writeK
  rw [if_neg (by rw [e]; decide), e]
  rfl
omit hl
theorem in_low (h : sec < 4) : doK 0 sec 0 512 fo nm K = ⟨512, fun i => K.M (sec * 512 + i), 0, D.askK K⟩ := by
  have e : D.readE K sec 512 = 0 := by
    unfold D.readE D.pieceE
    rw [hf, hc, if_neg (by decide), if_neg (by decide), if_pos (by omega)]
  unfold doK
  rw [if_pos rfl, if_pos ⟨rfl, rfl⟩, if_pos e]
theorem in_high (h : ¬ sec < 4) : doK 0 sec 0 512 fo nm K = ⟨0, fun _ => 0, 1, D.askK K⟩ := by
  have e : D.readE K sec 512 = 131 := by
    unfold D.readE D.pieceE
    rw [hf, hc, if_neg (by decide), if_neg (by decide), if_neg (by omega)]
  unfold doK
  rw [if_pos rfl, if_pos ⟨rfl, rfl⟩, if_neg (by rw [e]; decide)]
omit hf
theorem put_back (h : sec < 4) (i : Nat) (hi : i < 512) : (D.putK (D.askK K) sec 512 fo).M (sec * 512 + i) = fo i := by
  show D.layN (D.askK K).M ((D.askK K).count * 512) (sec * 512) (D.up 512) 512 fo (sec * 512 + i) = fo i
  have e : (D.askK K).count = 4 := hc
  have e2 : D.up 512 = 512 := rfl
  rw [D.layN_at _ _ _ _ _ _ _ (by rw [e]; omega), e2, if_pos (by omega), if_pos (by omega)]
  congr 1
  omega
end
/-- what is read is what was written -/
theorem back_at {K : D.Dk} {s L u : Nat} (f : Nat → Nat) (hc : K.count = 4) (hf : K.fail = 0) (h : s < 4) (hL : L ≤ 64) (M : Nat → Nat) (i : Nat) (hi : i < L) : (over (over M 2147487744 512 (fun i => (D.putK (D.askK K) s 512 (fun i => (gatL (bM s L f) outL 16 512).getD i 0)).M (s * 512 + (0 + i)))) 2147487488 1 (fun _ => u)) (2147487744 + i) = f i := by
  have e1 : over (over M 2147487744 512 (fun i => (D.putK (D.askK K) s 512 (fun i => (gatL (bM s L f) outL 16 512).getD i 0)).M (s * 512 + (0 + i)))) 2147487488 1 (fun _ => u) (2147487744 + i) = over M 2147487744 512 (fun i => (D.putK (D.askK K) s 512 (fun i => (gatL (bM s L f) outL 16 512).getD i 0)).M (s * 512 + (0 + i))) (2147487744 + i) := by
    conv => lhs; unfold over
    rw [if_neg (by omega)]
    rfl
  rw [e1, over_in _ _ _ _ i (by omega), Nat.zero_add, put_back hc _ h i (by omega)]
  refine (gat_second _ _ 16 _ 512 _ i (by omega)).trans ?_
  exact over_in _ _ _ _ i hi
end Go.Proofs.Ytlkhjekakbckmaa
