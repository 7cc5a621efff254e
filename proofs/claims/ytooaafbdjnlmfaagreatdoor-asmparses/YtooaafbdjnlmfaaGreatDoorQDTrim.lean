/- The document's blank and Trim: a text without blanks at its ends. -/
import Derived.Test.YtooaafbdjnlmfaaGreatDoorQBackL
namespace Go.Proofs.YtooaafbdjnlmfaaGreatDoor
open Go.RowKit
set_option linter.unusedVariables false
set_option linter.unusedSimpArgs false
def isBl (b : UInt8) : Bool := ([32, 9] : List UInt8).contains b
set_option maxRecDepth 100000 in
theorem isBl_nat (b : UInt8) : isBl b = (((b.toNat : Int) == 32) || ((b.toNat : Int) == 9)) := by
  have h : ∀ n : Fin 256, isBl (UInt8.ofNat n.val) = (((n.val : Int) == 32) || ((n.val : Int) == 9)) := by decide
  have := h ⟨b.toNat, b.toNat_lt⟩
  simp only [UInt8.ofNat_toNat] at this
  exact this
theorem blank_any (b : UInt8) (w : World) : Calls Tryz.prog 44 #[.int .u8 (b.toNat : Int)] w fun e w' => e = .returned (.bool (isBl b)) ∧ w' = w := by
  have hb := b.toNat_lt
  have HB : Hid (isBl b = (((b.toNat : Int) == 32) || ((b.toNat : Int) == 9))) := isBl_nat b
  generalize isBl b = r at *
  generalize b.toNat = n at *
  go_enter Tryz.func44, Tryz.ntmps44
  go_wp2
  all_goals
    go_ret
    refine ⟨?_, rfl⟩
    rw [HB.out]
    simp_all
theorem drop_all (p : UInt8 → Bool) : ∀ (a b : List UInt8), (∀ x ∈ a, p x = true) → (a ++ b).dropWhile p = b.dropWhile p
  | [], b, h => rfl
  | x :: a, b, h => by
    rw [List.cons_append, List.dropWhile_cons, if_pos (h x (by simp))]
    exact drop_all p a b fun y hy => h y (by simp [hy])
theorem trim_three (p m q : List UInt8) (hp : ∀ b ∈ p, isBl b = true) (hq : ∀ b ∈ q, isBl b = true) (h1 : ∀ b r, m = b :: r → isBl b = false) (h2 : ∀ b r, m.reverse = b :: r → isBl b = false) : Lib.trimS (p ++ m ++ q) [32, 9] = m := by
  unfold Lib.trimS Lib.trimLeftS Lib.trimRightS
  rw [List.reverse_append, List.reverse_append]
  rw [drop_all (fun x => ([32, 9] : List UInt8).contains x) q.reverse _ (fun x hx => hq x (List.mem_reverse.1 hx))]
  cases hm : m.reverse with
  | nil =>
    have e : m = [] := by simpa using hm
    subst e
    rw [List.nil_append]
    have := drop_all (fun x => ([32, 9] : List UInt8).contains x) p.reverse [] (fun x hx => hp x (List.mem_reverse.1 hx))
    rw [List.append_nil] at this
    rw [this]; rfl
  | cons b r =>
    have hb := h2 b r hm
    rw [List.cons_append, List.dropWhile_cons, if_neg (by rw [show ([32, 9] : List UInt8).contains b = false from hb]; decide)]
    have e : (b :: (r ++ p.reverse)).reverse = p ++ m := by
      rw [← List.cons_append, ← hm]; simp
    rw [e, drop_all (fun x => ([32, 9] : List UInt8).contains x) p _ hp]
    cases m with
    | nil => rfl
    | cons c s => rw [List.dropWhile_cons, if_neg (by rw [show ([32, 9] : List UInt8).contains c = false from h1 c s rfl]; decide)]
/-- where the blanks at a text's ends end -/
theorem trim_at (l : List UInt8) (a b : Nat) (hab : a ≤ b) (hb : b ≤ l.length) (hp : ∀ i (h : i < l.length), i < a → isBl l[i] = true) (hq : ∀ i (h : i < l.length), b ≤ i → isBl l[i] = true)
    (h1 : ∀ (h : a < l.length), a < b → isBl l[a] = false) (h2 : ∀ (h : b - 1 < l.length), a < b → isBl (l[b-1]) = false) : Lib.trimS l [32, 9] = (l.take b).drop a := by
  have e : l = l.take a ++ (l.take b).drop a ++ l.drop b := by
    have : l.take a = (l.take b).take a := by rw [List.take_take, Nat.min_eq_left hab]
    rw [this, List.take_append_drop, List.take_append_drop]
  conv => lhs; rw [e]
  apply trim_three
  · intro x hx
    obtain ⟨i, hi, rfl⟩ := List.getElem_of_mem hx
    have hi2 := hi
    rw [List.length_take] at hi2
    rw [List.getElem_take]
    exact hp i (by omega) (by omega)
  · intro x hx
    obtain ⟨i, hi, rfl⟩ := List.getElem_of_mem hx
    have hi2 := hi
    rw [List.length_drop] at hi2
    rw [List.getElem_drop]
    exact hq (b + i) (by omega) (by omega)
  · intro c r h
    have hlen : 0 < ((l.take b).drop a).length := by rw [h]; simp
    have hl2 := hlen
    rw [List.length_drop, List.length_take] at hl2
    have : ((l.take b).drop a)[0] = c := by simp [h]
    rw [← this, List.getElem_drop, List.getElem_take]
    exact h1 (by omega) (by omega)
  · intro c r h
    have hlen : 0 < ((l.take b).drop a).length := by
      have : ((l.take b).drop a).reverse.length = (c :: r).length := by rw [h]
      rw [List.length_reverse] at this; rw [this]; simp
    have hl2 := hlen
    rw [List.length_drop, List.length_take] at hl2
    have : ((l.take b).drop a).reverse[0]'(by rw [List.length_reverse]; exact hlen) = c := by simp [h]
    rw [← this, List.getElem_reverse, List.getElem_drop, List.getElem_take]
    have hi : a + (((l.take b).drop a).length - 1 - 0) = b - 1 := by rw [List.length_drop, List.length_take]; omega
    simp only [hi]
    exact h2 (by omega) (by omega)
theorem ext_mid (l : List UInt8) (a b : Nat) : (mk l).extract a b = mk ((l.take b).drop a) := by
  apply ByteArray.ext
  rw [ByteArray.data_extract]
  simp only [mk, List.extract_toArray, List.extract_eq_take_drop]
  rw [List.drop_take]
theorem mk_get (l : List UInt8) (k : Nat) (h : k < (mk l).size) (h2 : k < l.length) : (mk l)[k] = l[k] := rfl
set_option maxRecDepth 100000 in
set_option maxHeartbeats 2000000 in
theorem dtrim_core (s : ByteArray) (l t : List UInt8) (HS : Hid (s.size = l.length)) (hs6 : s.size ≤ 1000000) (HE : Hid (∀ a b : Nat, s.extract a b = mk ((l.take b).drop a))) (HG : Hid (∀ k (h : k < s.size) (h2 : k < l.length), s[k] = l[k]))
    (HT : Hid (∀ a b : Nat, a ≤ b → b ≤ l.length → (∀ i (h : i < l.length), i < a → isBl l[i] = true) → (∀ i (h : i < l.length), b ≤ i → isBl l[i] = true) → (∀ (h : a < l.length), a < b → isBl l[a] = false) → (∀ (h : b - 1 < l.length), a < b → isBl (l[b-1]) = false) → t = (l.take b).drop a)) (w : World) : Calls Tryz.prog 15 #[.string s] w fun e w' => e = .returned (.string (mk t)) ∧ w' = w := by
  have HL : Hid (∀ V, Calls Tryz.prog 15 #[.string s] V (fun e w' => e = .returned (.string (mk t)) ∧ w' = V) → True) := fun _ _ => trivial
  clear HL
  go_enter Tryz.func15, Tryz.ntmps15
  go_wp2
  go_loop [3] (fun i => ∃ k : Nat, k ≤ s.size ∧ i = .int .i64 k ∧ Hid (∀ i (h : i < l.length), i < k → isBl l[i] = true)) (fun i => s.size - (intOf i).toNat)
  case atStart => exact ⟨0, by omega, rfl, fun i h h2 => absurd h2 (by omega)⟩
  case round =>
    obtain ⟨k, hk, rfl, HP⟩ := hrel
    by_cases hlt : k < s.size
    · have hkk : (k : Int) < s.size := by omega
      have hk0 : (0 : Int) ≤ k := by omega
      have hl2 : k < l.length := by rw [← HS.out]; exact hlt
      have hget : s[k] = l[k] := HG.out k hlt hl2
      have hcall : ∀ w, Calls Tryz.prog 44 #[.int .u8 (s[k].toNat : Int)] w fun e w' => e = .returned (.bool (isBl s[k])) ∧ w' = w := fun w => blank_any _ w
      cases hB : isBl s[k]
      · rw [hB] at hcall
        have HB : Hid (isBl l[k] = false) := by show _ = _; rw [← hget]; exact hB
        clear hB hget
        go_wp2_with (go_at_call 44; refine (hcall _).mono ?_; rintro e w' ⟨rfl, rfl⟩)
        go_loop [4] (fun i => ∃ b : Nat, k < b ∧ b ≤ s.size ∧ i = .int .i64 b ∧ Hid (∀ i (h : i < l.length), b ≤ i → isBl l[i] = true)) (fun i => (intOf i).toNat)
        case atStart => exact ⟨s.size, hlt, by omega, rfl, fun i h h2 => absurd (HS.out ▸ h2) (by omega)⟩
        case round =>
          obtain ⟨b, hkb, hbs, rfl, HQ⟩ := hrel
          clear hcall
          obtain ⟨c, rfl⟩ : ∃ c, b = c + 1 := ⟨b - 1, by omega⟩
          have hc : c < s.size := by omega
          have hcc : (c : Int) < s.size := by omega
          have hc0 : (0 : Int) ≤ c := by omega
          have hkc : (k : Int) < (c : Int) + 1 := by omega
          have hl3 : c < l.length := by rw [← HS.out]; exact hc
          have hget : s[c] = l[c] := HG.out c hc hl3
          have hcall : ∀ w, Calls Tryz.prog 44 #[.int .u8 (s[c].toNat : Int)] w fun e w' => e = .returned (.bool (isBl s[c])) ∧ w' = w := fun w => blank_any _ w
          cases hC : isBl s[c]
          · rw [hC] at hcall
            have HC : Hid (isBl l[c] = false) := by show _ = _; rw [← hget]; exact hC
            clear hC hget
            go_wp2_with (go_at_call 44; refine (hcall _).mono ?_; rintro e w' ⟨rfl, rfl⟩)
            go_ret
            refine ⟨?_, rfl⟩
            have ht := HT.out k (c + 1) (by omega) (by rw [← HS.out]; exact hc) HP.out HQ.out (fun _ _ => HB.out) (fun _ _ => HC.out)
            rw [ht, ← HE.out]
            rfl
          · rw [hC] at hcall
            have HC : Hid (isBl l[c] = true) := by show _ = _; rw [← hget]; exact hC
            clear hC hget
            go_wp2_with (go_at_call 44; refine (hcall _).mono ?_; rintro e w' ⟨rfl, rfl⟩)
            go_round
            case rel =>
              have hne : c ≠ k := fun e => by subst e; exact absurd HB.out (by rw [HC.out]; decide)
              refine ⟨c, by omega, by omega, by go_num, fun i h h2 => ?_⟩
              by_cases he : i = c
              · subst he; exact HC.out
              · exact HQ.out i h (by omega)
            case measure => simp [intOf]
      · rw [hB] at hcall
        have HB : Hid (isBl l[k] = true) := by show _ = _; rw [← hget]; exact hB
        clear hB hget
        go_wp2_with (go_at_call 44; refine (hcall _).mono ?_; rintro e w' ⟨rfl, rfl⟩)
        go_round
        case rel =>
          refine ⟨k + 1, by omega, by go_num, fun i h h2 => ?_⟩
          by_cases he : i = k
          · subst he; exact HB.out
          · exact HP.out i h (by omega)
        case measure => simp [intOf]; omega
    · obtain rfl : k = s.size := by omega
      go_wp2
      go_loop [4] (fun i => i = .int .i64 s.size) (fun _ => 0)
      case atStart => rfl
      case round =>
        obtain rfl := hrel
        go_wp2
        go_ret
        refine ⟨?_, rfl⟩
        have hs2 := HS.out
        have ht := HT.out s.size s.size (Nat.le_refl _) (by omega) HP.out (fun i h h2 => absurd h (by omega)) (fun _ h => absurd h (by omega)) (fun _ h => absurd h (by omega))
        have hz : t = [] := by rw [ht, List.drop_eq_nil_iff, List.length_take]; omega
        rw [hz]; rfl
theorem dtrim_any (l : List UInt8) (hl : l.length ≤ 1000000) (w : World) : Calls Tryz.prog 15 #[.string (mk l)] w fun e w' => e = .returned (.string (mk (Lib.trimS l [32, 9]))) ∧ w' = w :=
  dtrim_core (mk l) l _ (mk_size l) (by rw [mk_size]; exact hl) (ext_mid l) (mk_get l) (trim_at l) w
end Go.Proofs.YtooaafbdjnlmfaaGreatDoor
