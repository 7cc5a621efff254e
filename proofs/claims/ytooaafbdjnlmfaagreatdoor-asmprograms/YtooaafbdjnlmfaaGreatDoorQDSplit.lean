/- The document's Split: a text's name, and what stands between commas. -/
import Derived.Test.YtooaafbdjnlmfaaGreatDoorQDTrim
import Derived.Test.YtooaafbdjnlmfaaGreatDoorQDInt
namespace Go.Proofs.YtooaafbdjnlmfaaGreatDoor
open Go.RowKit
set_option linter.unusedVariables false
set_option linter.unusedSimpArgs false
theorem Tryz.info9 : (Tryz.prog.info? 9).map (fun i => (i.zero, i.size, i.bytes)) = some (some (.string ⟨#[]⟩), 1, 16) := by kernel_rfl
/-- what stands between commas -/
def cutsL : List UInt8 → List (List UInt8)
  | [] => [[]]
  | b :: l => if b = 44 then [] :: cutsL l else match cutsL l with
    | [] => [[b]]
    | p :: ps => (b :: p) :: ps
theorem cuts_end : ∀ m : List UInt8, (∀ b ∈ m, b ≠ 44) → cutsL m = [m]
  | [], _ => rfl
  | b :: m, h => by
    have e : cutsL (b :: m) = match cutsL m with
      | [] => [[b]]
      | p :: ps => (b :: p) :: ps := by
      conv => lhs; unfold cutsL
      rw [if_neg (h b (by simp))]
    rw [e, cuts_end m fun x hx => h x (by simp [hx])]
theorem cuts_at : ∀ m r : List UInt8, (∀ b ∈ m, b ≠ 44) → cutsL (m ++ 44 :: r) = m :: cutsL r
  | [], r, _ => by
    show cutsL (44 :: r) = _
    conv => lhs; unfold cutsL
    rw [if_pos rfl]
  | b :: m, r, h => by
    have e : cutsL (b :: (m ++ 44 :: r)) = match cutsL (m ++ 44 :: r) with
      | [] => [[b]]
      | p :: ps => (b :: p) :: ps := by
      conv => lhs; unfold cutsL
      rw [if_neg (h b (by simp))]
    rw [List.cons_append, e, cuts_at m r fun x hx => h x (by simp [hx])]
theorem cuts_from_end (r : List UInt8) (a : Nat) (h : ∀ j (hj : j < r.length), a ≤ j → r[j] ≠ 44) : cutsL (r.drop a) = [(r.take r.length).drop a] := by
  rw [List.take_length]
  apply cuts_end
  intro b hb
  obtain ⟨i, hi, rfl⟩ := List.getElem_of_mem hb
  have hi2 := hi
  rw [List.length_drop] at hi2
  rw [List.getElem_drop]
  exact h (a + i) (by omega) (by omega)
theorem cuts_from (r : List UInt8) (a k : Nat) (hak : a ≤ k) (hk : k < r.length) (e : r[k] = 44) (h : ∀ j (hj : j < r.length), a ≤ j → j < k → r[j] ≠ 44) : cutsL (r.drop a) = (r.take k).drop a :: cutsL (r.drop (k + 1)) := by
  have e2 : r.drop a = (r.take k).drop a ++ 44 :: r.drop (k + 1) := by
    rw [← e, ← List.drop_eq_getElem_cons hk]
    conv => lhs; rw [← List.take_append_drop k r]
    rw [List.drop_append_of_le_length (by rw [List.length_take]; omega)]
  rw [e2]
  apply cuts_at
  intro b hb
  obtain ⟨i, hi, rfl⟩ := List.getElem_of_mem hb
  have hi2 := hi
  rw [List.length_drop, List.length_take] at hi2
  rw [List.getElem_drop, List.getElem_take]
  exact h (a + i) (by omega) (by omega) (by omega)
/-- parts without blanks at their ends, as cells -/
def trimRow (D : List (List UInt8)) : List Value := D.map fun p => Value.string (mk (Lib.trimS p [32, 9]))
theorem trimRow_add (D : List (List UInt8)) (p : List UInt8) : trimRow (D ++ [p]) = trimRow D ++ [Value.string (mk (Lib.trimS p [32, 9]))] := by simp [trimRow]
theorem trimRow_len (D : List (List UInt8)) : (trimRow D).length = D.length := by simp [trimRow]
theorem u8_44 (b : UInt8) : ((b.toNat : Int) == 44) = (b == 44) := by
  by_cases h : b = 44
  · subst h; rfl
  · have h2 : b.toNat ≠ 44 := fun e => h (UInt8.toNat_inj.1 e)
    have h3 : (b == 44) = false := by simpa using h
    rw [h3]; simp; omega
theorem head_at (l : List UInt8) (k : Nat) (hk : k ≤ l.length) (hn : ∀ i (h : i < l.length), i < k → isBl l[i] = false) (he : ∀ h : k < l.length, isBl l[k] = true) : headW [32, 9] l = l.take k ∧ tailW [32, 9] l = l.drop k := by
  have hall : ∀ b ∈ l.take k, (!([32, 9] : List UInt8).contains b) = true := by
    intro b hb
    obtain ⟨i, hi, rfl⟩ := List.getElem_of_mem hb
    have hi2 := hi
    rw [List.length_take] at hi2
    rw [List.getElem_take]
    have := hn i (by omega) (by omega)
    rw [show ([32, 9] : List UInt8).contains l[i] = false from this]; rfl
  unfold headW tailW
  by_cases h : k < l.length
  · have e : l = l.take k ++ l[k] :: l.drop (k + 1) := by rw [← List.drop_eq_getElem_cons h, List.take_append_drop]
    have hb : ([32, 9] : List UInt8).contains l[k] = true := he h
    constructor
    · conv => lhs; rw [e]
      rw [List.takeWhile_append_of_pos hall, List.takeWhile_cons, hb]; simp
    · conv => lhs; rw [e]
      rw [drop_all _ _ _ hall, List.dropWhile_cons, hb]
      rw [List.drop_eq_getElem_cons h]; rfl
  · have e : k = l.length := by omega
    subst e
    rw [List.take_length] at hall
    rw [List.take_length, List.drop_length]
    have h1 := drop_all (fun b => !([32, 9] : List UInt8).contains b) l [] hall
    rw [List.append_nil] at h1
    refine ⟨?_, h1⟩
    have h2 := List.takeWhile_append_of_pos (l₂ := []) hall
    rw [List.append_nil] at h2
    rw [h2]; simp
end Go.Proofs.YtooaafbdjnlmfaaGreatDoor

namespace Go.Proofs.YtooaafbdjnlmfaaGreatDoor
open Go.RowKit
set_option linter.unusedVariables false
set_option linter.unusedSimpArgs false
/-- how far Split's second loop has come -/
def Cut (rest : List UInt8) (D : List (List UInt8)) (a k : Nat) : Prop := (k ≤ rest.length → cutsL rest = D ++ cutsL (rest.drop a) ∧ ∀ j (hj : j < rest.length), a ≤ j → j < k → rest[j] ≠ 44) ∧ (k = rest.length + 1 → cutsL rest = D)
theorem Cut.start (rest : List UInt8) : Cut rest [] 0 0 := ⟨fun _ => ⟨by simp, fun j _ _ h => absurd h (by omega)⟩, fun h => absurd h (by omega)⟩
theorem Cut.skip {rest : List UInt8} {D : List (List UInt8)} {a k : Nat} (h : Cut rest D a k) (hk : k < rest.length) (hn : rest[k] ≠ 44) : Cut rest D a (k + 1) := by
  refine ⟨fun _ => ⟨(h.1 (by omega)).1, fun j hj haj hjk => ?_⟩, fun e => absurd e (by omega)⟩
  by_cases e : j = k
  · subst e; exact hn
  · exact (h.1 (by omega)).2 j hj haj (by omega)
theorem Cut.comma {rest : List UInt8} {D : List (List UInt8)} {a k : Nat} (h : Cut rest D a k) (hak : a ≤ k) (hk : k < rest.length) (he : rest[k] = 44) : Cut rest (D ++ [(rest.take k).drop a]) (k + 1) (k + 1) := by
  have h1 := h.1 (by omega)
  refine ⟨fun _ => ⟨?_, fun j hj haj hjk => absurd hjk (by omega)⟩, fun e => absurd e (by omega)⟩
  rw [h1.1, cuts_from rest a k hak hk he h1.2]; simp
theorem Cut.last {rest : List UInt8} {D : List (List UInt8)} {a k : Nat} (h : Cut rest D a k) (hk : k = rest.length) : Cut rest (D ++ [(rest.take k).drop a]) (k + 1) (k + 1) := by
  have h1 := h.1 (by omega)
  refine ⟨fun e => absurd e (by omega), fun _ => ?_⟩
  rw [h1.1, cuts_from_end rest a (fun j hj haj => h1.2 j hj haj (by omega)), hk]
set_option maxRecDepth 100000 in
set_option maxHeartbeats 4000000 in
theorem dsplit_core (s0 s r : ByteArray) (T nm tl rest : List UInt8) (hs6 : s.size ≤ 1000) (HS : Hid (s.size = T.length)) (HG : Hid (∀ k (h : k < s.size) (h2 : k < T.length), s[k] = T[k]))
    (H0 : Hid (∀ V, Calls Tryz.prog 15 #[.string s0] V fun e w' => e = .returned (.string s) ∧ w' = V))
    (HH : Hid (∀ k, k ≤ T.length → (∀ i (h : i < T.length), i < k → isBl T[i] = false) → (∀ h : k < T.length, isBl T[k] = true) → s.extract 0 k = mk nm ∧ ∀ V, Calls Tryz.prog 15 #[.string (s.extract k s.size)] V fun e w' => e = .returned (.string r) ∧ w' = V))
    (hr6 : r.size ≤ 1000) (RS : Hid (r.size = rest.length)) (RG : Hid (∀ k (h : k < r.size) (h2 : k < rest.length), r[k] = rest[k]))
    (TR : Hid (∀ a b, a ≤ b → b ≤ r.size → ∀ V, Calls Tryz.prog 15 #[.string (r.extract a b)] V fun e w' => e = .returned (.string (mk (Lib.trimS ((rest.take b).drop a) [32, 9]))) ∧ w' = V))
    (HZ : Hid ((∀ i (h : i < T.length), isBl T[i] = false) → r.toList.isEmpty = true)) (L : List (List UInt8)) (HL0 : Hid (r.toList.isEmpty = true → L = [])) (HL1 : Hid (r.toList.isEmpty = false → L = cutsL rest))
    (w : World) : Calls Tryz.prog 39 #[.string s0] w fun e w' => ∃ v, e = .returned (.tuple #[.string (mk nm), v]) ∧ w'.ownsRow w.heap.size 9 1 v L.length (trimRow L) ∧ Below w.heap.size w w' := by
  obtain ⟨i0, hi, hz0, hz1, hz2⟩ := info_parts Tryz.info9
  go_enter Tryz.func39, Tryz.ntmps39
  go_wp2_with (go_at_call 15; (with_reducible refine Calls.mono (H0.out _) ?_); rintro e w1 ⟨rfl, rfl⟩)
  go_loop [4] (fun i => ∃ k : Nat, k ≤ s.size ∧ i = .int .i64 k ∧ Hid (∀ i (h : i < T.length), i < k → isBl T[i] = false)) (fun i => s.size - (intOf i).toNat)
  case atStart => exact ⟨0, by omega, rfl, fun i h h2 => absurd h2 (by omega)⟩
  case round =>
    obtain ⟨k, hk, rfl, HP⟩ := hrel
    by_cases hlt : k < s.size
    · have hkk : (k : Int) < s.size := by omega
      have hk0 : (0 : Int) ≤ k := by omega
      have hkk2 : (k : Int) ≤ s.size := by omega
      have hl2 : k < T.length := by rw [← HS.out]; exact hlt
      have hget : s[k] = T[k] := HG.out k hlt hl2
      have hcall : ∀ w, Calls Tryz.prog 44 #[.int .u8 (s[k].toNat : Int)] w fun e w' => e = .returned (.bool (isBl s[k])) ∧ w' = w := fun w => blank_any _ w
      cases hB : isBl s[k]
      · rw [hB] at hcall
        have HB : Hid (isBl T[k] = false) := by show _ = _; rw [← hget]; exact hB
        clear hB hget
        go_wp2_with (go_at_call 44; refine (hcall _).mono ?_; rintro e w' ⟨rfl, rfl⟩)
        go_round
        case rel =>
          refine ⟨k + 1, by omega, by go_num, fun i h h2 => ?_⟩
          by_cases he : i = k
          · subst he; exact HB.out
          · exact HP.out i h (by omega)
        case measure => simp [intOf]; omega
      · rw [hB] at hcall
        have HB : Hid (isBl T[k] = true) := by show _ = _; rw [← hget]; exact hB
        obtain ⟨hn1, ht1⟩ := HH.out k (by omega) HP.out (fun _ => HB.out)
        have E1 : Hid (s.extract 0 k = mk nm) := hn1
        have T1 : Hid (∀ V, Calls Tryz.prog 15 #[.string (s.extract k s.size)] V fun e w' => e = .returned (.string r) ∧ w' = V) := ht1
        clear hB hget hn1 ht1
        cases hE : r.toList.isEmpty
        · have HL : Hid (L = cutsL rest) := HL1.out hE
          go_wp2_with (first | (go_at_call 44; refine (hcall _).mono ?_; rintro e w' ⟨rfl, rfl⟩) | (go_at_call 15; (with_reducible refine Calls.mono (T1.out _) ?_); rintro e w2 ⟨rfl, rfl⟩))
          clear hcall
          go_loopw [6, 7, 8] (fun v fv iv wr => ∃ (j a : Nat) (D : List (List UInt8)), j ≤ r.size + 1 ∧ a ≤ j ∧ D.length ≤ j ∧ iv = .int .i64 j ∧ fv = .int .i64 a ∧ wr.ownsRow w2.heap.size 9 1 v D.length (trimRow D) ∧ Below w2.heap.size w2 wr ∧ Cut rest D a j) (fun _ _ iv _ => r.size + 1 - (intOf iv).toNat)
          case atStart => exact ⟨0, 0, [], by omega, by omega, by simp, rfl, rfl, World.ownsRow_nil _ _ _ _, Below.refl _ _, Cut.start rest⟩
          case round =>
            obtain ⟨j, a, D, hj, haj, hDj, rfl, rfl, hown, hb, hcut⟩ := hrel
            have HO : Hid (_ ∧ _) := ⟨hown, hb⟩
            have HC : Hid (Cut rest D a j) := hcut
            clear hown hb hcut
            have hj0 : (0 : Int) ≤ j := by omega
            have ha0 : (0 : Int) ≤ a := by omega
            have haj1 : (a : Int) ≤ j := by omega
            by_cases hjn : j ≤ r.size
            · have hjn1 : (j : Int) ≤ r.size := by omega
              have TK : Hid (∀ V, Calls Tryz.prog 15 #[.string (r.extract a j)] V fun e w' => e = .returned (.string (mk (Lib.trimS ((rest.take j).drop a) [32, 9]))) ∧ w' = V) := TR.out a j haj hjn
              by_cases hje : j = r.size
              · have HNX : Hid (Cut rest (D ++ [(rest.take j).drop a]) (j + 1) (j + 1)) := HC.out.last (hje.trans RS.out)
                subst hje
                generalize (rest.take r.size).drop a = p at *
                have hlen : D.length ≤ 2000 := by omega
                go_wp2_with (first | (go_at_call 15; (with_reducible refine Calls.mono (TK.out _) ?_); rintro e w3 ⟨rfl, rfl⟩) | (at_builtin; refine wpList_append_own _ rfl _ _ 34 rfl w2.heap.size 9 i0 (.string ⟨#[]⟩) 1 16 Tryz.underlying34 hi hz0 hz1 hz2 rfl (by decide) _ _ _ rfl (HO.out.1.alloc _) ⟨_, 0, none⟩ 1 1 _ rfl rfl (cell_one_new _ _ _) ?c2 ?c3 ?c4 ?c5 ?_))
                case c2 => intro u hu; simp at hu; subst hu; rfl
                case c3 => unfold maxLen; omega
                case c4 => omega
                case c5 => have := HO.out.2.size; simp; omega
                · intro v' w5 hown' hgrow _
                  have hb5 := grow_step HO.out.2 HO.out.2.size HO.out.1 hgrow
                  have hown5 : w5.ownsRow w2.heap.size 9 1 v' (D ++ [p]).length (trimRow (D ++ [p])) := by rw [trimRow_add, List.length_append]; exact hown'
                  clear hown' hgrow
                  go_wp2_with fail
                  go_roundw
                  case rel => exact ⟨r.size + 1, r.size + 1, D ++ [p], by omega, by omega, by simp; omega, by go_num, by go_num, hown5, hb5, HNX.out⟩
                  case measure => (simp [intOf]) <;> omega
              · have hjl : j < r.size := by omega
                have hje1 : ((j : Int) == r.size) = false := by simp; omega
                have hjl1 : (j : Int) < r.size := by omega
                have hl3 : j < rest.length := by rw [← RS.out]; exact hjl
                have hget : r[j] = rest[j] := RG.out j hjl hl3
                have hb4 := u8_44 r[j]
                cases hC4 : (r[j] == 44)
                · rw [hC4] at hb4
                  have HNX : Hid (Cut rest D a (j + 1)) := HC.out.skip hl3 (by rw [← hget]; simpa using hC4)
                  clear hC4 hget
                  go_wp2_with fail
                  go_roundw
                  case rel => exact ⟨j + 1, a, D, by omega, by omega, by omega, by go_num, by go_num, HO.out.1, HO.out.2, HNX.out⟩
                  case measure => simp [intOf]; omega
                · rw [hC4] at hb4
                  have HNX : Hid (Cut rest (D ++ [(rest.take j).drop a]) (j + 1) (j + 1)) := HC.out.comma haj hl3 (by rw [← hget]; simpa using hC4)
                  clear hC4 hget
                  generalize (rest.take j).drop a = p at *
                  have hlen : D.length ≤ 2000 := by omega
                  go_wp2_with (first | (go_at_call 15; (with_reducible refine Calls.mono (TK.out _) ?_); rintro e w3 ⟨rfl, rfl⟩) | (at_builtin; refine wpList_append_own _ rfl _ _ 34 rfl w2.heap.size 9 i0 (.string ⟨#[]⟩) 1 16 Tryz.underlying34 hi hz0 hz1 hz2 rfl (by decide) _ _ _ rfl (HO.out.1.alloc _) ⟨_, 0, none⟩ 1 1 _ rfl rfl (cell_one_new _ _ _) ?c2 ?c3 ?c4 ?c5 ?_))
                  case c2 => intro u hu; simp at hu; subst hu; rfl
                  case c3 => unfold maxLen; omega
                  case c4 => omega
                  case c5 => have := HO.out.2.size; simp; omega
                  · intro v' w5 hown' hgrow _
                    have hb5 := grow_step HO.out.2 HO.out.2.size HO.out.1 hgrow
                    have hown5 : w5.ownsRow w2.heap.size 9 1 v' (D ++ [p]).length (trimRow (D ++ [p])) := by rw [trimRow_add, List.length_append]; exact hown'
                    clear hown' hgrow
                    go_wp2_with fail
                    go_roundw
                    case rel => exact ⟨j + 1, j + 1, D ++ [p], by omega, by omega, by simp; omega, by go_num, by go_num, hown5, hb5, HNX.out⟩
                    case measure => (simp [intOf]) <;> omega
            · obtain rfl : j = r.size + 1 := by omega
              have hD : L = D := by rw [HL.out]; exact HC.out.2 (by rw [RS.out])
              subst hD
              go_wp2_with fail
              go_ret2
              exact ⟨_, by rw [← E1.out]; rfl, HO.out.1, HO.out.2⟩
        · have HL : Hid (L = []) := HL0.out hE
          go_wp2_with (first | (go_at_call 44; refine (hcall _).mono ?_; rintro e w' ⟨rfl, rfl⟩) | (go_at_call 15; (with_reducible refine Calls.mono (T1.out _) ?_); rintro e w2 ⟨rfl, rfl⟩))
          go_ret2
          exact ⟨_, by rw [← E1.out]; rfl, by rw [HL.out]; exact World.ownsRow_nil _ _ _ _, Below.refl _ _⟩
    · obtain rfl : k = s.size := by omega
      obtain ⟨hn1, ht1⟩ := HH.out s.size (by rw [HS.out]; exact Nat.le_refl _) HP.out (fun h => absurd h (by rw [← HS.out]; omega))
      have E1 : Hid (s.extract 0 s.size = mk nm) := hn1
      have T1 : Hid (∀ V, Calls Tryz.prog 15 #[.string (s.extract s.size s.size)] V fun e w' => e = .returned (.string r) ∧ w' = V) := ht1
      clear hn1 ht1
      have hE : r.toList.isEmpty = true := HZ.out (fun i h => HP.out i h (by rw [HS.out]; exact h))
      have hem : s.extract s.size s.size = ByteArray.empty := by
        apply ByteArray.ext
        rw [ByteArray.data_extract]
        simp
      rw [hem] at T1
      · have HL : Hid (L = []) := HL0.out hE
        clear hem
        go_wp2_with (go_at_call 15; (with_reducible refine Calls.mono (T1.out _) ?_); rintro e w2 ⟨rfl, rfl⟩)
        have hsf : s.extract 0 s.size = s := by
          apply ByteArray.ext
          rw [ByteArray.data_extract]
          exact Array.extract_size
        have hsn : s = mk nm := hsf.symm.trans E1.out
        go_ret2
        exact ⟨_, by rw [← hsn]; rfl, by rw [HL.out]; exact World.ownsRow_nil _ _ _ _, Below.refl _ _⟩
/-- a text's parts, as they stand between commas -/
def partsD (l : List UInt8) : List (List UInt8) := if (Lib.trimS (tailW [32, 9] (Lib.trimS l [32, 9])) [32, 9]).isEmpty = true then [] else cutsL (Lib.trimS (tailW [32, 9] (Lib.trimS l [32, 9])) [32, 9])
theorem dsplit_any (l : List UInt8) (hl : l.length ≤ 1000) (w : World) : Calls Tryz.prog 39 #[.string (mk l)] w fun e w' => ∃ v, e = .returned (.tuple #[.string (mk (headW [32, 9] (Lib.trimS l [32, 9]))), v]) ∧ w'.ownsRow w.heap.size 9 1 v (partsD l).length (trimRow (partsD l)) ∧ Below w.heap.size w w' := by
  have l1 := trimS_len l
  have l2 : (tailW [32, 9] (Lib.trimS l [32, 9])).length ≤ (Lib.trimS l [32, 9]).length := (List.dropWhile_sublist _).length_le
  have l3 := trimS_len (tailW [32, 9] (Lib.trimS l [32, 9]))
  unfold partsD
  generalize hT : Lib.trimS l [32, 9] = T at *
  generalize hR : Lib.trimS (tailW [32, 9] T) [32, 9] = rest at *
  refine dsplit_core (mk l) (mk T) (mk rest) T (headW [32, 9] T) (tailW [32, 9] T) rest (by rw [mk_size]; omega) (mk_size T) (mk_get T) ?_ ?_ (by rw [mk_size]; omega) (mk_size rest) (mk_get rest) ?_ ?_ _ ?_ ?_ w
  · intro V
    have := dtrim_any l (by omega) V
    rw [hT] at this
    exact this
  · intro k hk h1 h2
    obtain ⟨e1, e2⟩ := head_at T k hk h1 h2
    refine ⟨by rw [ext_take, e1], fun V => ?_⟩
    rw [ext_drop T k _ (mk_size T).symm, ← e2]
    have := dtrim_any (tailW [32, 9] T) (by omega) V
    rw [hR] at this
    exact this
  · intro a b hab hb V
    rw [ext_mid]
    rw [mk_size] at hb
    exact dtrim_any _ (by rw [List.length_drop, List.length_take]; omega) V
  · intro h
    obtain ⟨e1, e2⟩ := head_at T T.length (Nat.le_refl _) (fun i hi _ => h i hi) (fun h => absurd h (by omega))
    rw [mk_empty, ← hR, e2, List.drop_length]
    rfl
  · intro h
    rw [mk_empty] at h
    rw [if_pos h]
  · intro h
    rw [mk_empty] at h
    rw [if_neg (by rw [h]; decide)]
end Go.Proofs.YtooaafbdjnlmfaaGreatDoor
