/- What a walk along descriptors is, in plain numbers. -/
import Derived.Test.YtcgjfklglckjcaaRj
namespace Go.Proofs.Ytcgjfklglckjcaa
open Go.RowKit Go.Maps
set_option linter.unusedVariables false
set_option linter.unusedSimpArgs false
set_option maxRecDepth 100000
/-- a descriptor -/
structure De where
  a : Nat
  l : Nat
  f : Nat
  x : Nat
def De.zero : De := ⟨0, 0, 0, 0⟩
def De.v (d : De) : Value := .agg #[.int .u64 (d.a : Int), .int .u32 (d.l : Int), .int .u16 (d.f : Int), .int .u16 (d.x : Int)]
def De.c (d : De) : Array Value := #[.int .u64 (d.a : Int), .int .u32 (d.l : Int), .int .u16 (d.f : Int), .int .u16 (d.x : Int)]
structure De.Ok (d : De) : Prop where
  a : d.a < 18446744073709551616
  l : d.l ≤ 4294967295
  f : d.f ≤ 65535
  x : d.x ≤ 65535
theorem De.zero_ok : De.zero.Ok := ⟨by decide, by decide, by decide, by decide⟩
/-- where a descriptor lies -/
def deX (t i : Nat) : Nat := (t + 16 * i) % 18446744073709551616
def deB (t i : Nat) : Bool := decide (i ≤ 255) && inB (deX t i) 16 2147483648 8192
def deN (M : Nat → Nat) (t i : Nat) : De := if deB t i = true then ⟨h256 (fun j => M (deX t i + j)) 8 0, h256 (fun j => M (deX t i + (8 + j))) 4 0, h256 (fun j => M (deX t i + (12 + j))) 2 0, h256 (fun j => M (deX t i + (14 + j))) 2 0⟩ else De.zero
/-- a segment -/
structure Seg where
  a : Nat
  l : Nat
  wr : Bool
/-- has a descriptor a flag (1, 2 or 4)? -/
def fl (f n : Nat) : Bool := decide (f / n % 2 = 1)
def De.seg (d : De) : Seg := ⟨d.a, d.l, fl d.f 2⟩
def lastW (l : List Seg) : Bool := match l.getLast? with | some s => s.wr | none => false
/-- a segment more: its error -/
def addE (l : List Seg) (d : De) : Nat := if inB d.a d.l 2147483648 8192 = true then (if (lastW l && !fl d.f 2) = true then 155 else 0) else 21
/-- how a walk along one table ends: its error, its last descriptor, the segments -/
structure Res where
  e : Nat
  d : De
  l : List Seg
def alongR (M : Nat → Nat) (t n : Nat) : Nat → Int → List Seg → Res
  | 0, i, l => if 0 ≤ i ∧ i < n then ⟨152, De.zero, l⟩ else ⟨151, De.zero, l⟩
  | k + 1, i, l => if 0 ≤ i ∧ i < n then (if deB t i.toNat = true then (if fl (deN M t i.toNat).f 4 = true then ⟨0, deN M t i.toNat, l⟩ else (if addE l (deN M t i.toNat) = 0 then (if fl (deN M t i.toNat).f 1 = true then alongR M t n k ((deN M t i.toNat).x : Int) (l ++ [(deN M t i.toNat).seg]) else ⟨0, deN M t i.toNat, l ++ [(deN M t i.toNat).seg]⟩) else ⟨addE l (deN M t i.toNat), De.zero, l⟩)) else ⟨21, De.zero, l⟩) else ⟨151, De.zero, l⟩
section
variable {M : Nat → Nat} {t n k : Nat} {i : Int} {l : List Seg}
theorem along_out (h : ¬ (0 ≤ i ∧ i < n)) : alongR M t n k i l = ⟨151, De.zero, l⟩ := by cases k <;> simp [alongR, h]
theorem along_loop (h : 0 ≤ i ∧ i < n) : alongR M t n 0 i l = ⟨152, De.zero, l⟩ := by simp [alongR, h]
theorem along_not {j : Nat} (h : j < n) (h1 : deB t j = false) : alongR M t n (k + 1) (j : Int) l = ⟨21, De.zero, l⟩ := by
  have : (0 : Int) ≤ j ∧ (j : Int) < n := by omega
  simp [alongR, this, h1, h]
theorem along_ind {j : Nat} {d : De} (h : j < n) (h1 : deB t j = true) (hd : deN M t j = d) (h2 : fl d.f 4 = true) : alongR M t n (k + 1) (j : Int) l = ⟨0, d, l⟩ := by
  subst hd
  simp [alongR, h1, h2, h]
theorem along_err {j : Nat} {d : De} (h : j < n) (h1 : deB t j = true) (hd : deN M t j = d) (h2 : fl d.f 4 = false) {e : Nat} (h3 : addE l d = e) (h4 : e ≠ 0) : alongR M t n (k + 1) (j : Int) l = ⟨e, De.zero, l⟩ := by
  subst hd h3
  simp [alongR, h1, h2, h, h4]
theorem along_end {j : Nat} {d : De} (h : j < n) (h1 : deB t j = true) (hd : deN M t j = d) (h2 : fl d.f 4 = false) (h3 : addE l d = 0) (h4 : fl d.f 1 = false) : alongR M t n (k + 1) (j : Int) l = ⟨0, d, l ++ [d.seg]⟩ := by
  subst hd
  simp [alongR, h1, h2, h, h3, h4]
theorem along_next {j : Nat} {d : De} (h : j < n) (h1 : deB t j = true) (hd : deN M t j = d) (h2 : fl d.f 4 = false) (h3 : addE l d = 0) (h4 : fl d.f 1 = true) : alongR M t n (k + 1) (j : Int) l = alongR M t n k (d.x : Int) (l ++ [d.seg]) := by
  subst hd
  simp [alongR, h1, h2, h, h3, h4]
end
theorem deN_ok {M : Nat → Nat} (hM : ∀ a, M a ≤ 255) (t i : Nat) : (deN M t i).Ok := by
  unfold deN
  split
  · have := DescAt.lt (M := M) (x := deX t i) ⟨rfl, rfl, rfl, rfl⟩ hM
    exact ⟨this.1, this.2.1, this.2.2.1, this.2.2.2⟩
  · exact De.zero_ok
theorem deN_at {M : Nat → Nat} {t i : Nat} (h : deB t i = true) : DescAt M (deX t i) (deN M t i).a (deN M t i).l (deN M t i).f (deN M t i).x := by
  simp only [deN, h, if_true]
  exact ⟨rfl, rfl, rfl, rfl⟩
theorem deN_no {M : Nat → Nat} {t i : Nat} (h : deB t i = false) : deN M t i = De.zero := by simp [deN, h]
theorem fl_and (f k : Nat) : decide (f &&& 2 ^ k = 0) = !fl f (2 ^ k) := by
  have h2 : f.testBit k = decide (f / 2 ^ k % 2 = 1) := by rw [Nat.testBit_eq_decide_div_mod_eq]
  unfold fl
  rw [← h2]
  cases hb : f.testBit k with
  | true =>
    have : ¬ (f &&& 2 ^ k = 0) := fun h => by
      have h3 := congrArg (fun x => Nat.testBit x k) h
      simp [Nat.testBit_and, hb] at h3
    simp [this]
  | false =>
    have : f &&& 2 ^ k = 0 := by
      apply Nat.eq_of_testBit_eq
      intro i
      rw [Nat.testBit_and, Nat.testBit_two_pow, Nat.zero_testBit]
      by_cases hi : k = i
      · subst hi; simp [hb]
      · simp [hi]
    simp [this]
theorem lastW_snoc (l : List Seg) (s : Seg) : lastW (l ++ [s]) = s.wr := by simp [lastW]
/-- the table that a descriptor names: its error -/
def tabE (d : De) (al : Bool) : Nat := if (!al || fl d.f 1) = true then 153 else (if (decide (d.l = 0) || decide (4096 < d.l) || decide (¬ d.l % 16 = 0)) = true then 154 else (if inB d.a d.l 2147483648 8192 = true then 0 else 21))
/-- a chain: its error, its segments, its table -/
structure Cn where
  e : Nat
  l : List Seg
  ta : Nat
  tl : Nat
def walkR (M : Nat → Nat) (D n : Nat) (h : Int) (al : Bool) : Cn :=
  if (alongR M D n n h []).e ≠ 0 then ⟨(alongR M D n n h []).e, [], 0, 0⟩
  else if fl (alongR M D n n h []).d.f 4 = false then ⟨0, (alongR M D n n h []).l, 0, 0⟩
  else if tabE (alongR M D n n h []).d al ≠ 0 then ⟨tabE (alongR M D n n h []).d al, [], 0, 0⟩
  else if (alongR M (alongR M D n n h []).d.a ((alongR M D n n h []).d.l / 16) ((alongR M D n n h []).d.l / 16) 0 (alongR M D n n h []).l).e ≠ 0 then ⟨(alongR M (alongR M D n n h []).d.a ((alongR M D n n h []).d.l / 16) ((alongR M D n n h []).d.l / 16) 0 (alongR M D n n h []).l).e, [], 0, 0⟩
  else if fl (alongR M (alongR M D n n h []).d.a ((alongR M D n n h []).d.l / 16) ((alongR M D n n h []).d.l / 16) 0 (alongR M D n n h []).l).d.f 4 = true then ⟨153, [], 0, 0⟩
  else ⟨0, (alongR M (alongR M D n n h []).d.a ((alongR M D n n h []).d.l / 16) ((alongR M D n n h []).d.l / 16) 0 (alongR M D n n h []).l).l, (alongR M D n n h []).d.a, (alongR M D n n h []).d.l⟩
section
variable {M : Nat → Nat} {D n : Nat} {h : Int} {al : Bool} {r s : Res}
theorem walk_err (hr : alongR M D n n h [] = r) (he : r.e ≠ 0) : walkR M D n h al = ⟨r.e, [], 0, 0⟩ := by subst hr; simp [walkR, he]
theorem walk_plain (hr : alongR M D n n h [] = r) (he : r.e = 0) (hf : fl r.d.f 4 = false) : walkR M D n h al = ⟨0, r.l, 0, 0⟩ := by subst hr; simp [walkR, he, hf]
theorem walk_tab (hr : alongR M D n n h [] = r) (he : r.e = 0) (hf : fl r.d.f 4 = true) {e : Nat} (ht : tabE r.d al = e) (h0 : e ≠ 0) : walkR M D n h al = ⟨e, [], 0, 0⟩ := by subst hr ht; simp [walkR, he, hf, h0]
theorem walk_err2 (hr : alongR M D n n h [] = r) (he : r.e = 0) (hf : fl r.d.f 4 = true) (ht : tabE r.d al = 0) (hs : alongR M r.d.a (r.d.l / 16) (r.d.l / 16) 0 r.l = s) (h2 : s.e ≠ 0) : walkR M D n h al = ⟨s.e, [], 0, 0⟩ := by subst hr hs; simp [walkR, he, hf, ht, h2]
theorem walk_nest (hr : alongR M D n n h [] = r) (he : r.e = 0) (hf : fl r.d.f 4 = true) (ht : tabE r.d al = 0) (hs : alongR M r.d.a (r.d.l / 16) (r.d.l / 16) 0 r.l = s) (h2 : s.e = 0) (h3 : fl s.d.f 4 = true) : walkR M D n h al = ⟨153, [], 0, 0⟩ := by subst hr hs; simp [walkR, he, hf, ht, h2, h3]
theorem walk_two (hr : alongR M D n n h [] = r) (he : r.e = 0) (hf : fl r.d.f 4 = true) (ht : tabE r.d al = 0) (hs : alongR M r.d.a (r.d.l / 16) (r.d.l / 16) 0 r.l = s) (h2 : s.e = 0) (h3 : fl s.d.f 4 = false) : walkR M D n h al = ⟨0, s.l, r.d.a, r.d.l⟩ := by subst hr hs; simp [walkR, he, hf, ht, h2, h3]
end
/-- what holds of a walk's segments -/
structure SegOk (s : Seg) : Prop where
  a : s.a < 18446744073709551616
  l : s.l ≤ 8192
  i : inB s.a s.l 2147483648 8192 = true
theorem addE_in {l : List Seg} {d : De} (h : addE l d = 0) : inB d.a d.l 2147483648 8192 = true ∧ (lastW l && !fl d.f 2) = false := by
  unfold addE at h
  split at h
  · rename_i h1
    split at h
    · cases h
    · rename_i h2; exact ⟨h1, by simpa using h2⟩
  · cases h
theorem in_len {a l : Nat} (h : inB a l 2147483648 8192 = true) : l ≤ 8192 ∧ 2147483648 ≤ a ∧ a + l ≤ 2147491840 := by
  have : (2147483648 : Int) ≤ a ∧ (a : Int) + l ≤ 2147483648 + 8192 := by simpa [inB] using h
  omega
theorem along_all {M : Nat → Nat} (hM : ∀ a, M a ≤ 255) (t n : Nat) : ∀ (k : Nat) (i : Int) (l : List Seg), (∀ s ∈ l, SegOk s) → (∀ s ∈ (alongR M t n k i l).l, SegOk s) ∧ (alongR M t n k i l).d.Ok ∧ (alongR M t n k i l).l.length ≤ l.length + k := by
  intro k
  induction k with
  | zero =>
    intro i l hl
    unfold alongR
    split <;> exact ⟨hl, De.zero_ok, by simp⟩
  | succ k ih =>
    intro i l hl
    by_cases hi : 0 ≤ i ∧ i < n
    · obtain ⟨j, rfl⟩ : ∃ j : Nat, i = j := ⟨i.toNat, by omega⟩
      cases h1 : deB t j with
      | false => rw [along_not (by omega) h1]; exact ⟨hl, De.zero_ok, by simp⟩
      | true =>
        obtain ⟨d, hd⟩ : ∃ d, deN M t j = d := ⟨_, rfl⟩
        have hdo : d.Ok := hd ▸ deN_ok hM t j
        cases h2 : fl d.f 4 with
        | true => rw [along_ind (by omega) h1 hd h2]; exact ⟨hl, hdo, by simp⟩
        | false =>
          by_cases h3 : addE l d = 0
          · have hl2 : ∀ s ∈ l ++ [d.seg], SegOk s := by
              intro s hs
              rcases List.mem_append.1 hs with hs | hs
              · exact hl s hs
              · have : s = d.seg := by simpa using hs
                subst this
                exact ⟨hdo.a, (in_len (addE_in h3).1).1, (addE_in h3).1⟩
            cases h4 : fl d.f 1 with
            | false => rw [along_end (by omega) h1 hd h2 h3 h4]; exact ⟨hl2, hdo, by simp⟩
            | true =>
              rw [along_next (by omega) h1 hd h2 h3 h4]
              have := ih (d.x : Int) (l ++ [d.seg]) hl2
              refine ⟨this.1, this.2.1, ?_⟩
              have h5 := this.2.2
              simp at h5
              omega
          · rw [along_err (by omega) h1 hd h2 rfl h3]; exact ⟨hl, De.zero_ok, by simp⟩
    · rw [along_out hi]; exact ⟨hl, De.zero_ok, by simp⟩
theorem tab_in {d : De} {al : Bool} (h : tabE d al = 0) : al = true ∧ fl d.f 1 = false ∧ d.l % 16 = 0 ∧ 16 ≤ d.l ∧ d.l ≤ 4096 ∧ inB d.a d.l 2147483648 8192 = true := by
  unfold tabE at h
  split at h
  · cases h
  · rename_i h1
    split at h
    · cases h
    · rename_i h2
      split at h
      · rename_i h3
        simp only [Bool.or_eq_true, decide_eq_true_iff, not_or, Bool.not_eq_true, Bool.not_eq_false'] at h1 h2
        refine ⟨by simpa using h1.1, by simpa using h1.2, by omega, by omega, by omega, h3⟩
      · cases h
/-- what holds of a chain -/
theorem walk_all {M : Nat → Nat} (hM : ∀ a, M a ≤ 255) (D n : Nat) (hn : n ≤ 256) (h : Int) (al : Bool) : (∀ s ∈ (walkR M D n h al).l, SegOk s) ∧ (walkR M D n h al).l.length ≤ 512 ∧ ((walkR M D n h al).e ≠ 0 → (walkR M D n h al).l = [] ∧ (walkR M D n h al).ta = 0 ∧ (walkR M D n h al).tl = 0) ∧ ((walkR M D n h al).tl = 0 ∨ al = true ∧ inB (walkR M D n h al).ta (walkR M D n h al).tl 2147483648 8192 = true) ∧ (walkR M D n h al).ta < 18446744073709551616 ∧ (walkR M D n h al).tl ≤ 4096 ∧ ((walkR M D n h al).tl = 0 → (walkR M D n h al).ta = 0) := by
  obtain ⟨r, hr⟩ : ∃ r, alongR M D n n h [] = r := ⟨_, rfl⟩
  have h1 := along_all hM D n n h [] (by simp)
  rw [hr] at h1
  simp only [List.length_nil, Nat.zero_add] at h1
  by_cases he : r.e = 0
  · cases hf : fl r.d.f 4 with
    | false => rw [walk_plain hr he hf]; exact ⟨h1.1, by show r.l.length ≤ 512; omega, fun hh => absurd rfl hh, .inl rfl, Nat.succ_pos _, Nat.zero_le _, fun _ => rfl⟩
    | true =>
      by_cases ht : tabE r.d al = 0
      · obtain ⟨s, hs⟩ : ∃ s, alongR M r.d.a (r.d.l / 16) (r.d.l / 16) 0 r.l = s := ⟨_, rfl⟩
        have h2 := along_all hM r.d.a (r.d.l / 16) (r.d.l / 16) 0 r.l h1.1
        rw [hs] at h2
        obtain ⟨t1, t2, t3, t4, t5, t6⟩ := tab_in ht
        by_cases h3 : s.e = 0
        · cases h4 : fl s.d.f 4 with
          | true => rw [walk_nest hr he hf ht hs h3 h4]; exact ⟨by simp, by simp, fun _ => ⟨rfl, rfl, rfl⟩, .inl rfl, Nat.succ_pos _, Nat.zero_le _, fun _ => rfl⟩
          | false => rw [walk_two hr he hf ht hs h3 h4]; exact ⟨h2.1, by show s.l.length ≤ 512; have := h2.2.2; have := h1.2.2; omega, fun hh => absurd rfl hh, .inr ⟨t1, t6⟩, h1.2.1.a, t5, fun hh => by have : r.d.l = 0 := hh; omega⟩
        · rw [walk_err2 hr he hf ht hs h3]; exact ⟨by simp, by simp, fun _ => ⟨rfl, rfl, rfl⟩, .inl rfl, Nat.succ_pos _, Nat.zero_le _, fun _ => rfl⟩
      · rw [walk_tab hr he hf rfl ht]; exact ⟨by simp, by simp, fun _ => ⟨rfl, rfl, rfl⟩, .inl rfl, Nat.succ_pos _, Nat.zero_le _, fun _ => rfl⟩
  · rw [walk_err hr he]; exact ⟨by simp, by simp, fun _ => ⟨rfl, rfl, rfl⟩, .inl rfl, Nat.succ_pos _, Nat.zero_le _, fun _ => rfl⟩
end Go.Proofs.Ytcgjfklglckjcaa
