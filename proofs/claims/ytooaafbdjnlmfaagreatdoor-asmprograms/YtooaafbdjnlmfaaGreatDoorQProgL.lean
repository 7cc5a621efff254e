/- The law AsmPrograms, on lines of which what both sides tell is known. -/
import Derived.Test.YtooaafbdjnlmfaaGreatDoorQProgB
import Derived.Test.YtooaafbdjnlmfaaGreatDoorQWordB
import Derived.Test.YtooaafbdjnlmfaaGreatDoorQDTrim
import Derived.Deep.QuietTactic
import Derived.BigQuiet
import Derived.Test.YtooaafbdjnlmfaaGreatDoorQLooked
import Derived.ProofKit
import Derived.OpenShut
import Derived.Deep.Slices
namespace Go.Proofs.YtooaafbdjnlmfaaGreatDoor
open Go.RowKit
set_option linter.unusedVariables false
set_option linter.unusedSimpArgs false
theorem own_u32 {w : World} {B : Nat} {v : Value} {L : List Nat} (h : w.ownsRow B 37 1 v L.length (u32Row L)) : ∃ a cap, v = .slice a L.length cap ∧ (L.length = 0 ∨ ∃ g, a = some ⟨g, 0, none⟩ ∧ ∀ i (h : i < L.length), w.cell? ⟨g, i, none⟩ = some (.int .u32 ((L[i] : Nat) : Int))) := by
  have h2 := h.2
  rcases h2 with ⟨rfl, h0⟩ | ⟨g, cap, cur, rfl, hg, hbl, hnc, hcm, _, _⟩
  · exact ⟨none, 0, by rw [h0], .inl h0⟩
  · refine ⟨_, cap, rfl, .inr ⟨g, rfl, fun i hi => ?_⟩⟩
    rw [h.cellAt i (by omega)]
    simp [u32Row, hi]
structure Lines (n : Nat) (tx : Nat → ByteArray) (bl ok : Nat → Bool) (Y : Nat → Ins) (f : Nat → Nat) : Prop where
  small : ∀ i, f i < 4294967296
  trim : ∀ i, i < n → (tx i).size ≤ 80 → ∃ tr : ByteArray, (∀ V, Calls Tryz.prog 15 #[.string (tx i)] V fun e w' => e = .returned (.string tr) ∧ w' = V) ∧ (∀ V, Calls Tryz.prog 36 #[.string (tx i), .string ⟨#[32, 9]⟩] V fun e w' => e = .returned (.string tr) ∧ Below V.heap.size V w') ∧ tr.toList.isEmpty = bl i
  doc : ∀ i, i < n → (tx i).size ≤ 80 → ∀ V, Calls Tryz.prog 14 #[.string (tx i)] V fun e w' => e = .returned (.tuple #[.agg (Y i).c, .bool (ok i)]) ∧ Below V.heap.size V w'
  prog : ∀ i, i < n → (tx i).size ≤ 80 → ∀ V, Laid V → Calls Tryz.prog 13 #[.string (tx i)] V fun e w' => e = .returned (.tuple #[.agg (Y i).c, .int .i64 (if ok i then 0 else 40)]) ∧ Below V.heap.size V w'
  enc : ∀ i, i < n → ok i = true → ∀ V, TabsE V → Calls Tryz.prog 25 #[.agg (Y i).c] V fun e w' => e = .returned (.tuple #[.int .u32 (f i : Nat), .int .i64 0]) ∧ Below V.heap.size V w'
  word : ∀ i, i < n → ∀ V, Calls Tryz.prog 16 #[.agg (Y i).c] V fun e w' => e = .returned (.int .i64 (f i : Nat)) ∧ Below V.heap.size V w'
/-- what Program tells of such lines -/
theorem program_lines {n : Nat} {tx : Nat → ByteArray} {bl ok : Nat → Bool} {Y : Nat → Ins} {f : Nat → Nat} (D : Lines n tx bl ok Y f) (hn : n ≤ 12) (b : Nat) (hb : b ≤ n) (hsz : ∀ i, i < b → (tx i).size ≤ 80) (hstop : b < n → ∃ j, j < b ∧ bl j = false ∧ ok j = false) (a : Option Addr) (cap : Nat) (W : World) (hT : TabsE W ∧ Laid W) (hrow : n = 0 ∨ ∃ g off, a = some ⟨g, off, none⟩ ∧ ∀ i, i < n → W.cell? ⟨g, off + i, none⟩ = some (.string (tx i))) (w : World) (hw : Below W.heap.size W w) :
    Calls Tryz.prog 17 #[.slice a n cap] w fun e w' => (((∀ i, i < n → bl i = false → ok i = true) ∧ ∃ v, e = .returned (.tuple #[v, .int .i64 0, .int .i64 0]) ∧ w'.ownsRow w.heap.size 37 1 v (wordsTo f bl n).length (u32Row (wordsTo f bl n))) ∨ ∃ j : Nat, j < b ∧ bl j = false ∧ ok j = false ∧ (∀ i, i < j → bl i = false → ok i = true) ∧ e = .returned (.tuple #[.slice none 0 0, .int .i64 40, .int .i64 j])) ∧ Below w.heap.size w w' := by
  have hex : ∀ i, ∃ tr : ByteArray, i < b → (∀ V, Calls Tryz.prog 36 #[.string (tx i), .string ⟨#[32, 9]⟩] V fun e w' => e = .returned (.string tr) ∧ Below V.heap.size V w') ∧ tr.toList.isEmpty = bl i := fun i => by
    by_cases h : i < b
    · obtain ⟨tr, _, h2, h3⟩ := D.trim i (by omega) (hsz i h)
      exact ⟨tr, fun _ => ⟨h2, h3⟩⟩
    · exact ⟨⟨#[]⟩, fun h' => absurd h' h⟩
  obtain ⟨tr, htr⟩ := Classical.axiomOfChoice hex
  have hE : ∀ i, (if ok i then (0 : Int) else 40) = 0 ↔ ok i = true := fun i => by cases ok i <;> simp
  refine (program_all W a n b cap (by omega) hb f bl tx tr Y (fun i => if ok i then 0 else 40) ?_ htr (fun i hi hbl V hV => D.prog i (by omega) (hsz i hi) V (hT.2.below hV)) (fun i hi hbl he V hV => D.enc i (by omega) ((hE i).1 he) V (hT.1.below hV)) ?_ w hw).mono ?_
  · rcases hrow with h | ⟨g, off, h1, h2⟩
    · exact .inl h
    · exact .inr ⟨g, off, h1, fun i hi => h2 i (by omega)⟩
  · intro h
    obtain ⟨j, h1, h2, h3⟩ := hstop h
    exact ⟨j, h1, h2, by rw [h3]; decide⟩
  · rintro e w' ⟨⟨h1, v, rfl, h2⟩ | ⟨j, h1, h2, h3, h4, rfl⟩, hb'⟩
    · exact ⟨.inl ⟨fun i hi hbl => (hE i).1 (h1 i hi hbl), v, rfl, h2⟩, hb'⟩
    · refine ⟨.inr ⟨j, h1, h2, ?_, fun i hi hbl => (hE i).1 (h4 i hi hbl), rfl⟩, hb'⟩
      cases ho : ok j
      · rfl
      · exact absurd ((hE j).2 ho) h3
end Go.Proofs.YtooaafbdjnlmfaaGreatDoor

namespace Go.Proofs.YtooaafbdjnlmfaaGreatDoor
open Go.RowKit
set_option linter.unusedVariables false
set_option linter.unusedSimpArgs false
theorem bytes_get : ∀ (L : List Nat) (i j : Nat) (h : i < L.length), j < 4 → (bytesRow L)[4 * i + j]? = some (.int .u8 ((byteAt L[i] j : Nat) : Int))
  | [], i, j, h, _ => absurd h (Nat.not_lt_zero _)
  | x :: L, 0, j, _, hj => by
    rw [show bytesRow (x :: L) = rowK .u8 (byteAt x) 4 ++ bytesRow L from by simp [bytesRow], List.getElem?_append_left (by rw [rowK_len]; omega)]
    rw [Nat.mul_zero, Nat.zero_add]
    exact rowK_get _ _ _ _ hj
  | x :: L, i + 1, j, h, hj => by
    rw [show bytesRow (x :: L) = rowK .u8 (byteAt x) 4 ++ bytesRow L from by simp [bytesRow], List.getElem?_append_right (by rw [rowK_len]; omega), rowK_len, show 4 * (i + 1) + j - 4 = 4 * i + j from by omega]
    exact bytes_get L i j (by simpa using h) hj
set_option maxRecDepth 100000 in
set_option maxHeartbeats 4000000 in
theorem programs_walk {n : Nat} {tx : Nat → ByteArray} {bl ok : Nat → Bool} {Y : Nat → Ins} {f : Nat → Nat} (D : Lines n tx bl ok Y f) (hn : n ≤ 12) (a : Option Addr) (cap : Nat) (w : World) (hT : TabsE w ∧ Laid w) (hrow : n = 0 ∨ ∃ g off, a = some ⟨g, off, none⟩ ∧ ∀ i, i < n → w.cell? ⟨g, off + i, none⟩ = some (.string (tx i))) :
    Calls Tryz.prog 5 #[.slice a n cap] w fun e w' => e = .returned (.bool true) ∧ Below w.heap.size w w' := by
  obtain ⟨i0, hi, hz0, hz1, hz2⟩ := info_parts Tryz.info37
  have HA : Hid (∀ V, Laid V → Calls Tryz.prog 8 #[] V fun e w' => e = .returned (.bool true) ∧ Below V.heap.size V w') := fun V hV => awake_any V hV
  have HT : Hid _ := hT
  have HR : Hid _ := hrow
  have HD : Hid _ := D
  have hni : ¬ (12 : Int) < n := by omega
  clear hT hrow D
  go_enter Tryz.func5, Tryz.ntmps5
  go_wp2_with fail
  refine Calls.mono (HA.out _ HT.out.2) ?_
  rintro e w1 ⟨rfl, hb1⟩
  have B1 : Hid (Below w.heap.size w w1) := hb1
  clear hb1
  go_wp2_with fail
  go_loopw [3, 4, 5, 6, 7] (fun v bad iv xv kv wr => ∃ k : Nat, k ≤ n ∧ iv = .int .i64 k ∧ Below w1.heap.size w1 wr ∧ (∀ i, i < k → (tx i).size ≤ 80) ∧ ((bad = .int .i64 (-1) ∧ (∀ i, i < k → bl i = false → ok i = true) ∧ wr.ownsRow w1.heap.size 37 1 v (wordsTo f bl k).length (u32Row (wordsTo f bl k))) ∨ ∃ j : Nat, k = j + 1 ∧ bad = .int .i64 j ∧ (∀ i, i < j → bl i = false → ok i = true) ∧ bl j = false ∧ ok j = false)) (fun _ _ iv _ _ _ => n - (intOf iv).toNat)
  case atStart => exact ⟨0, by omega, rfl, Below.refl _ _, fun i h => absurd h (Nat.not_lt_zero _), .inl ⟨rfl, fun i h => absurd h (Nat.not_lt_zero _), World.ownsRow_nil _ _ _ _⟩⟩
  case round =>
    obtain ⟨k, hk, rfl, hb, hsz, hst⟩ := hrel
    rcases hst with ⟨rfl, hall, hown⟩ | ⟨j, rfl, rfl, hall, hbj, hoj⟩
    · by_cases hlt : k < n
      · have hlt1 : (k : Int) < n := by omega
        obtain ⟨g, off, rfl, hcell⟩ : ∃ g off, a = some ⟨g, off, none⟩ ∧ ∀ i, i < n → w.cell? ⟨g, off + i, none⟩ = some (.string (tx i)) := by
          rcases HR.out with h | h
          · omega
          · exact h
        have q1 : wr.cell? ⟨g, off + k, none⟩ = some (.string (tx k)) := ((below_call B1.out hb).cell (p := ⟨g, off + k, none⟩) (block_lt_of_cell (hcell k hlt))).trans (hcell k hlt)
        have HS : Hid (_ ∧ _ ∧ _) := ⟨hb, hsz, hall⟩
        have HO : Hid _ := hown
        have HC : Hid (∀ i, i < n → w.cell? ⟨g, off + i, none⟩ = some (.string (tx i))) := hcell
        clear hb hsz hall hown hcell
        by_cases h80 : (tx k).size ≤ 80
        · have h80i : ¬ (80 : Int) < (tx k).size := by omega
          obtain ⟨tr, ht1, ht2, ht3⟩ := HD.out.trim k hlt h80
          have T1 : Hid _ := ht1
          have P1 : Hid _ := HD.out.doc k hlt h80
          have W1 : Hid _ := HD.out.word k hlt
          have hfk := HD.out.small k
          have HWT : Hid _ := wordsTo_succ f bl k
          have hwl := wordsTo_len f bl k
          have HSZ : Hid (∀ i, i < k + 1 → (tx i).size ≤ 80) := fun i h => by
            by_cases e : i = k
            · rw [e]; exact h80
            · exact HS.out.2.1 i (by omega)
          clear ht1 ht2 h80
          obtain ⟨bk, ebk⟩ : ∃ bk, bl k = bk := ⟨_, rfl⟩
          obtain ⟨okk, eok⟩ : ∃ okk, ok k = okk := ⟨_, rfl⟩
          have EBK : Hid (bl k = bk) := ebk
          have EOK : Hid (ok k = okk) := eok
          rw [ebk] at ht3 HWT
          rw [eok] at P1
          clear ebk eok
          cases bk
          · obtain ⟨y, ey⟩ : ∃ y, Y k = y := ⟨_, rfl⟩
            rw [ey] at P1 W1
            clear ey
            obtain ⟨yo, y1, y2, y3, y4, y5, y6, y7⟩ := y
            have hyc : Ins.c ⟨yo, y1, y2, y3, y4, y5, y6, y7⟩ = #[.int .i64 yo, .int .i64 y1, .int .i64 y2, .int .i64 y3, .int .i64 y4, .int .i64 y5, .bool y6, .bool y7] := rfl
            rw [hyc] at P1 W1
            clear hyc
            have hcv : IntKind.u32.wrap ((f k : Nat) : Int) = ((f k : Nat) : Int) := by simp [IntKind.wrap, IntKind.signed, IntKind.bits]; omega
            have hcv2 : ((f k : Nat) : Int) % 4294967296 = ((f k : Nat) : Int) := by omega
            generalize f k = fk at *
            generalize tx k = txk at *
            cases okk
            · go_wp2_with (go_at_call 15; (with_reducible refine Calls.mono (T1.out _) ?_); rintro e w9 ⟨rfl, rfl⟩)
              refine Calls.mono (P1.out _) ?_
              rintro e w2 ⟨rfl, hb2⟩
              have C2 : Hid (Below w9.heap.size w9 (w2.alloc (.cells #[.int .i64 yo, .int .i64 y1, .int .i64 y2, .int .i64 y3, .int .i64 y4, .int .i64 y5, .bool y6, .bool y7] 23))) := hb2.alloc hb2.size _
              have X2 : Hid ((w2.alloc (.cells #[.int .i64 yo, .int .i64 y1, .int .i64 y2, .int .i64 y3, .int .i64 y4, .int .i64 y5, .bool y6, .bool y7] 23)).heap[w2.heap.size]? = some (.cells #[.int .i64 yo, .int .i64 y1, .int .i64 y2, .int .i64 y3, .int .i64 y4, .int .i64 y5, .bool y6, .bool y7] 23 (0, 0))) := heap_alloc_new w2 _
              obtain ⟨p0, p1, p2, p3, p4, p5, p6, p7⟩ := box8_facts X2.out
              clear hb2
              go_wp2_with fail
              refine Calls.mono (W1.out _) ?_
              rintro e w3 ⟨rfl, hb3⟩
              have hb4 : Below w9.heap.size w9 w3 := below_call C2.out hb3
              have hown4 := World.ownsRow.kept HO.out (below_grownBy hb4 none) (Classical.em _)
              have hb5 : Below w1.heap.size w1 w3 := below_call HS.out.1 hb4
              clear hb3 hb4 p0 p1 p2 p3 p4 p5 p6 p7
              go_wp2_with (first | (at_builtin; refine wpList_append_own _ rfl _ _ 35 rfl w1.heap.size 37 i0 (.int .u32 0) 1 4 Tryz.underlying35 hi hz0 hz1 hz2 rfl (by decide) _ _ _ rfl (hown4.alloc _) ⟨w3.heap.size, 0, none⟩ 1 1 _ rfl rfl (cell_one_new _ _ _) ?c2 ?c3 ?c4 ?c5 ?_))
              case c2 => intro u hu; simp at hu; subst hu; rfl
              case c3 => unfold maxLen; omega
              case c4 => omega
              case c5 => have := hb5.size; simp; omega
              intro v6 w6 hown6 hgrow _
              have hb6 := grow_step hb5 hb5.size hown4 hgrow
              have hown7 : w6.ownsRow w1.heap.size 37 1 v6 (wordsTo f bl (k + 1)).length (u32Row (wordsTo f bl (k + 1))) := by
                rw [HWT.out, if_neg (by first | decide | simp), u32Row_app, List.length_append]; exact hown6
              have H8 : Hid (_ ∧ _) := ⟨hown7, hb6⟩
              clear hown6 hgrow hown7 hb6 hown4 hb5
              go_wp2_with fail
              go_roundw
              case rel =>
                exact ⟨k + 1, by omega, by go_num, H8.out.2, HSZ.out, .inr ⟨k, rfl, rfl, HS.out.2.2, EBK.out, EOK.out⟩⟩
              case measure => (simp [intOf]) <;> omega
            · go_wp2_with (go_at_call 15; (with_reducible refine Calls.mono (T1.out _) ?_); rintro e w9 ⟨rfl, rfl⟩)
              refine Calls.mono (P1.out _) ?_
              rintro e w2 ⟨rfl, hb2⟩
              have C2 : Hid (Below w9.heap.size w9 (w2.alloc (.cells #[.int .i64 yo, .int .i64 y1, .int .i64 y2, .int .i64 y3, .int .i64 y4, .int .i64 y5, .bool y6, .bool y7] 23))) := hb2.alloc hb2.size _
              have X2 : Hid ((w2.alloc (.cells #[.int .i64 yo, .int .i64 y1, .int .i64 y2, .int .i64 y3, .int .i64 y4, .int .i64 y5, .bool y6, .bool y7] 23)).heap[w2.heap.size]? = some (.cells #[.int .i64 yo, .int .i64 y1, .int .i64 y2, .int .i64 y3, .int .i64 y4, .int .i64 y5, .bool y6, .bool y7] 23 (0, 0))) := heap_alloc_new w2 _
              obtain ⟨p0, p1, p2, p3, p4, p5, p6, p7⟩ := box8_facts X2.out
              clear hb2
              go_wp2_with fail
              refine Calls.mono (W1.out _) ?_
              rintro e w3 ⟨rfl, hb3⟩
              have hb4 : Below w9.heap.size w9 w3 := below_call C2.out hb3
              have hown4 := World.ownsRow.kept HO.out (below_grownBy hb4 none) (Classical.em _)
              have hb5 : Below w1.heap.size w1 w3 := below_call HS.out.1 hb4
              clear hb3 hb4 p0 p1 p2 p3 p4 p5 p6 p7
              go_wp2_with (first | (at_builtin; refine wpList_append_own _ rfl _ _ 35 rfl w1.heap.size 37 i0 (.int .u32 0) 1 4 Tryz.underlying35 hi hz0 hz1 hz2 rfl (by decide) _ _ _ rfl (hown4.alloc _) ⟨w3.heap.size, 0, none⟩ 1 1 _ rfl rfl (cell_one_new _ _ _) ?c2 ?c3 ?c4 ?c5 ?_))
              case c2 => intro u hu; simp at hu; subst hu; rfl
              case c3 => unfold maxLen; omega
              case c4 => omega
              case c5 => have := hb5.size; simp; omega
              intro v6 w6 hown6 hgrow _
              have hb6 := grow_step hb5 hb5.size hown4 hgrow
              have hown7 : w6.ownsRow w1.heap.size 37 1 v6 (wordsTo f bl (k + 1)).length (u32Row (wordsTo f bl (k + 1))) := by
                rw [HWT.out, if_neg (by first | decide | simp), u32Row_app, List.length_append]; exact hown6
              have H8 : Hid (_ ∧ _) := ⟨hown7, hb6⟩
              clear hown6 hgrow hown7 hb6 hown4 hb5
              go_wp2_with fail
              go_roundw
              case rel =>
                refine ⟨k + 1, by omega, by go_num, H8.out.2, HSZ.out, .inl ⟨rfl, fun i h hb9 => ?_, H8.out.1⟩⟩
                by_cases e : i = k
                · rw [e]; exact EOK.out
                · exact HS.out.2.2 i (by omega) hb9
              case measure => (simp [intOf]) <;> omega
          · generalize tx k = txk at *
            go_wp2_with (go_at_call 15; (with_reducible refine Calls.mono (T1.out _) ?_); rintro e w9 ⟨rfl, rfl⟩)
            go_roundw
            case rel =>
              refine ⟨k + 1, by omega, by go_num, HS.out.1, HSZ.out, .inl ⟨rfl, fun i h hb9 => ?_, ?_⟩⟩
              · by_cases e : i = k
                · rw [e, EBK.out] at hb9; cases hb9
                · exact HS.out.2.2 i (by omega) hb9
              · rw [HWT.out, if_pos (by first | rfl | trivial), List.append_nil]
                exact HO.out
            case measure => (simp [intOf]) <;> omega
        · have h80i : (80 : Int) < (tx k).size := by omega
          have BF : Hid (Below w.heap.size w wr) := below_call B1.out HS.out.1
          generalize tx k = txk at *
          go_wp2_with fail
          go_ret
          exact ⟨rfl, BF.out⟩
      · obtain rfl : k = n := by omega
        have hki : ¬ ((k : Nat) : Int) < k := by omega
        have PL : Hid _ := program_lines HD.out hn k (Nat.le_refl _) hsz (fun h => absurd h (Nat.lt_irrefl _)) a cap w HT.out HR.out wr (below_call B1.out hb)
        have HALL : Hid _ := hall
        have HF : Hid (∀ x ∈ wordsTo f bl k, x < 4294967296) := fun x hx => by
          unfold wordsTo at hx
          obtain ⟨i, _, rfl⟩ := List.mem_map.1 hx
          exact HD.out.small i
        have hwl := wordsTo_len f bl k
        have HO : Hid (_ ∧ _) := ⟨hown, hb⟩
        clear hall hown hb hsz
        go_wp2_with fail
        refine Calls.mono PL.out ?_
        rintro e w5 ⟨⟨h1, v8, rfl, h2⟩ | ⟨j, hj1, hj2, hj3, _, rfl⟩, hb5⟩
        · obtain ⟨a8, cap8, rfl, hr8⟩ := own_u32 h2
          have hown5 := World.ownsRow.kept HO.out.1 (below_grownBy hb5 none) (Classical.em _)
          obtain ⟨a3, cap3, hv3, hr3⟩ := own_u32 hown5
          have B5 : Hid (Below w1.heap.size w1 w5) := below_call HO.out.2 hb5
          generalize wordsTo f bl k = L at *
          have hLn : L.length ≤ 12 := by omega
          have AB : Hid _ := abytes_any L HF.out hLn a3 cap3 w5 hr3
          have R8 : Hid _ := hr8
          have R3 : Hid _ := hr3
          clear h1 h2 hown5 hb5 HO PL HALL hr8 hr3
          subst hv3
          have h4 : IntKind.i64.wrap (4 * (L.length : Int)) = 4 * (L.length : Int) := by simp [IntKind.wrap, IntKind.signed, IntKind.bits]; omega
          go_wp2_with fail
          refine Calls.mono AB.out ?_
          rintro e w6 ⟨v11, rfl, hown6, hb6⟩
          have hl6 : (bytesRow L).length = 4 * L.length := bytesRow_len L
          have HO6 : Hid _ := hown6
          have B6 : Hid (Below w5.heap.size w5 w6) := hb6
          have BF : Hid (Below w.heap.size w w6) := below_call B1.out (below_call B5.out hb6)
          have hv11 : ∃ b11 c11, v11 = .slice b11 (4 * L.length) c11 ∧ 4 * L.length ≤ c11 := by
            rcases hown6.2 with ⟨h9, h0⟩ | ⟨g, cp, cur, h9, _, _, hcp, _⟩
            · exact ⟨none, 0, by rw [h9, h0], by omega⟩
            · exact ⟨_, cp, h9, hcp⟩
          obtain ⟨b11, c11, rfl, hc11⟩ := hv11
          have hc11i : 4 * (L.length : Int) ≤ c11 := by omega
          clear hown6 hb6 AB
          go_wp2_with fail
          go_loopw [12] (fun iv wq => ∃ i : Nat, i ≤ L.length ∧ iv = .int .i64 i ∧ Below w6.heap.size w6 wq) (fun iv _ => L.length - (intOf iv).toNat)
          case atStart => exact ⟨0, by omega, rfl, Below.refl _ _⟩
          case round =>
            obtain ⟨i, hil, rfl, hbq⟩ := hrel
            have BQ : Hid (Below w6.heap.size w6 wr) := hbq
            by_cases hlt2 : i < L.length
            · have hlt2i : (i : Int) < L.length := by omega
              obtain ⟨g8, rfl, hc8⟩ : ∃ g, a8 = some ⟨g, 0, none⟩ ∧ ∀ j (h : j < L.length), w5.cell? ⟨g, j, none⟩ = some (.int .u32 ((L[j] : Nat) : Int)) := by
                rcases R8.out with h | h
                · omega
                · exact h
              obtain ⟨g3, rfl, hc3⟩ : ∃ g, a3 = some ⟨g, 0, none⟩ ∧ ∀ j (h : j < L.length), w5.cell? ⟨g, j, none⟩ = some (.int .u32 ((L[j] : Nat) : Int)) := by
                rcases R3.out with h | h
                · omega
                · exact h
              have bq5 : Below w5.heap.size w5 wr := below_call B6.out hbq
              have q8 : wr.cell? ⟨g8, i, none⟩ = some (.int .u32 ((L[i] : Nat) : Int)) := (bq5.cell (p := ⟨g8, i, none⟩) (block_lt_of_cell (hc8 i hlt2))).trans (hc8 i hlt2)
              have q3 : wr.cell? ⟨g3, i, none⟩ = some (.int .u32 ((L[i] : Nat) : Int)) := (bq5.cell (p := ⟨g3, i, none⟩) (block_lt_of_cell (hc3 i hlt2))).trans (hc3 i hlt2)
              obtain ⟨g11, hg11⟩ : ∃ g11, b11 = some ⟨g11, 0, none⟩ := by
                rcases (World.ownsRow.kept HO6.out (below_grownBy hbq none) (Classical.em _)).2 with ⟨_, h0⟩ | ⟨g, cp, cur, h9, _⟩
                · omega
                · exact ⟨g, by cases h9; rfl⟩
              subst hg11
              have hx := HF.out L[i] (List.getElem_mem hlt2)
              have hbc : ∀ j, j < 4 → wr.cell? ⟨g11, 4 * i + j, none⟩ = some (.int .u8 ((byteAt L[i] j : Nat) : Int)) := fun j hj => by
                have ho := World.ownsRow.kept HO6.out (below_grownBy hbq none) (Classical.em _)
                rw [World.ownsRow.cellAt ho (4 * i + j) (by omega)]
                exact bytes_get L i j hlt2 hj
              clear hc8 hc3 hbq bq5
              generalize L[i] = x at *
              have hof : ∀ m c, Calls Tryz.prog 19 #[.slice (some ⟨g11, 4 * i, none⟩) 4 c] (wr.drewN m) fun e w' => e = .returned (.int .u64 (x : Int)) ∧ w' = wr.drewN m := fun m c => by
                have h := rof_any (byteAt x) 4 4 (.slice (some ⟨g11, 4 * i, none⟩) 4 c) (by decide) (by decide) (fun i _ => byteAt_le x i) (wr.drewN m) (.inr ⟨g11, 4 * i, c, rfl, fun j hj => hbc j hj⟩)
                rw [h256_byteAt, Nat.mod_eq_of_lt (by omega)] at h
                exact h
              have HOF : Hid _ := hof
              have h4i : IntKind.i64.wrap (4 * (i : Int)) = 4 * (i : Int) := by simp [IntKind.wrap, IntKind.signed, IntKind.bits]; omega
              have h4j : IntKind.i64.wrap (4 * (i : Int) + 4) = 4 * (i : Int) + 4 := by simp [IntKind.wrap, IntKind.signed, IntKind.bits]; omega
              have hle1 : 4 * (i : Int) ≤ 4 * (i : Int) + 4 := by omega
              have hle2 : 4 * (i : Int) + 4 ≤ c11 := by omega
              have hge : (0 : Int) ≤ 4 * (i : Int) := by omega
              have hxx : (((x : Nat) : Int) != ((x : Nat) : Int)) = false := by simp
              have hxc : IntKind.u64.wrap ((x : Nat) : Int) = ((x : Nat) : Int) := by rw [wrap_u64]; omega
              clear hof hbc
              go_wp2_with fail
              go_quiet ((go_at_call 19; exact Calls.quiet_of_same (HOF.out _ _)))
              go_wp2_with fail
              go_roundw
              case rel => exact ⟨i + 1, by omega, by go_num, below_drewN BQ.out nq⟩
              case measure => (simp [intOf]) <;> omega
            · obtain rfl : i = L.length := by omega
              have hli : ¬ ((L.length : Nat) : Int) < L.length := by omega
              clear hbq
              go_wp2_with fail
              go_ret
              exact ⟨rfl, below_call BF.out BQ.out⟩
        · have := HALL.out j (by omega) hj2
          rw [hj3] at this
          cases this
    · have hjn : j + 1 ≤ n := hk
      have PL : Hid _ := program_lines HD.out hn (j + 1) hk hsz (fun h => ⟨j, by omega, hbj, hoj⟩) a cap w HT.out HR.out wr (below_call B1.out hb)
      have HALL : Hid _ := hall
      have BJ : Hid (bl j = false ∧ ok j = false) := ⟨hbj, hoj⟩
      have BW : Hid (Below w1.heap.size w1 wr) := hb
      clear hall hsz hbj hoj hb
      have hj0 : ¬ ((j : Nat) : Int) < 0 := by omega
      have hj1i : (0 : Int) ≤ (j : Nat) := by omega
      by_cases hend : j + 1 < n
      · have hei : ((j + 1 : Nat) : Int) < n := by omega
        go_wp2_with fail
        refine Calls.mono PL.out ?_
        rintro e w5 ⟨⟨h1, v8, rfl, h2⟩ | ⟨j', hj1, hj2, hj3, hj4, rfl⟩, hb5⟩
        · have := h1 j (by omega) BJ.out.1
          rw [BJ.out.2] at this
          cases this
        · obtain rfl : j' = j := by
            by_cases e : j' < j
            · have := HALL.out j' e hj2
              rw [hj3] at this; cases this
            · omega
          have B9 : Hid (Below w.heap.size w w5) := below_call B1.out (below_call BW.out hb5)
          clear hj1 hj2 hj3 hj4 hb5
          go_wp2_with fail
          go_ret
          exact ⟨ret_bool (by first | rfl | simp), B9.out⟩
      · have hei : ¬ ((j + 1 : Nat) : Int) < n := by omega
        go_wp2_with fail
        refine Calls.mono PL.out ?_
        rintro e w5 ⟨⟨h1, v8, rfl, h2⟩ | ⟨j', hj1, hj2, hj3, hj4, rfl⟩, hb5⟩
        · have := h1 j (by omega) BJ.out.1
          rw [BJ.out.2] at this
          cases this
        · obtain rfl : j' = j := by
            by_cases e : j' < j
            · have := HALL.out j' e hj2
              rw [hj3] at this; cases this
            · omega
          have B9 : Hid (Below w.heap.size w w5) := below_call B1.out (below_call BW.out hb5)
          clear hj1 hj2 hj3 hj4 hb5
          go_wp2_with fail
          go_ret
          exact ⟨ret_bool (by first | rfl | simp), B9.out⟩
end Go.Proofs.YtooaafbdjnlmfaaGreatDoor

namespace Go.Proofs.YtooaafbdjnlmfaaGreatDoor
open Go.ChangeShapes Go.WideShapes Go.ChangeAt Go.RowKit
set_option linter.unusedVariables false
set_option linter.unusedSimpArgs false
theorem right_of_parse {l : List UInt8} {x : Ins} (h : parseR l = (x, true)) : x.right = true := by
  unfold parseR at h
  split at h
  · rename_i hc
    have e : (partsO l).1 = x := congrArg Prod.fst h
    rw [← e]; exact hc.2.2
  · cases h
theorem zero_of_parse {l : List UInt8} {x : Ins} (h : parseR l = (x, false)) : x = Ins.zero := by
  unfold parseR at h
  split at h
  · cases h
  · exact (congrArg Prod.fst h).symm
theorem lines_of (hW : ∀ l k aq rl, 1 ≤ k → k ≤ 98 → l.length ≤ 1000 → (PLof l).length ≤ 3 → WithTells k aq rl (RofL (PLof l)) (NofL (PLof l)) (PLof l)) (n : Nat) (tx : Nat → ByteArray) : ∃ f, Lines n tx (fun i => (Lib.trimS (tx i).data.toList [32, 9]).isEmpty) (fun i => (parseR (tx i).data.toList).2) (fun i => (parseR (tx i).data.toList).1) f := by
  have hmk : ∀ i, tx i = mk (tx i).data.toList := fun i => by unfold mk; simp
  have hsz : ∀ i, (tx i).size = (tx i).data.toList.length := fun i => Lib.size_eq (tx i)
  have hex : ∀ i, ∃ v : Nat, v < 4294967296 ∧ ((parseR (tx i).data.toList).2 = true → ∀ V, TabsE V → Calls Tryz.prog 25 #[.agg (parseR (tx i).data.toList).1.c] V fun e w' => e = .returned (.tuple #[.int .u32 (v : Int), .int .i64 0]) ∧ Below V.heap.size V w') ∧ (∀ V, Calls Tryz.prog 16 #[.agg (parseR (tx i).data.toList).1.c] V fun e w' => e = .returned (.int .i64 (v : Int)) ∧ Below V.heap.size V w') := fun i => by
    obtain ⟨x, ok, hx⟩ : ∃ x ok, parseR (tx i).data.toList = (x, ok) := ⟨_, _, rfl⟩
    rw [hx]
    cases ok
    · have e := zero_of_parse hx
      subst e
      exact ⟨0, by decide, fun h => absurd h (by decide), fun V => dword_zero V⟩
    · obtain ⟨v, h1, h2, h3⟩ := word_both x (right_of_parse hx)
      exact ⟨v, h1, fun _ => h2, h3⟩
  obtain ⟨f, hf⟩ := Classical.axiomOfChoice hex
  refine ⟨f, ⟨fun i => (hf i).1, fun i hi h80 => ?_, fun i hi h80 V => ?_, fun i hi h80 V hV => ?_, fun i hi hok => (hf i).2.1 hok, fun i hi => (hf i).2.2⟩⟩
  · have hl : (tx i).data.toList.length ≤ 80 := by rw [← hsz i]; exact h80
    refine ⟨mk (Lib.trimS (tx i).data.toList [32, 9]), fun V => ?_, fun V => ?_, ?_⟩
    · have := dtrim_any (tx i).data.toList (by omega) V
      rw [← hmk i] at this
      exact this
    · exact Tryz.strings_Trim_blanks (tx i) V (by omega)
    · exact mk_empty _
  · have hl : (tx i).data.toList.length ≤ 80 := by rw [← hsz i]; exact h80
    have := dparse_same (tx i).data.toList (by omega) (fun k aq rl h1 h2 h3 => hW _ k aq rl h1 h2 (by omega) h3) V
    rw [← hmk i] at this
    exact this
  · have hl : (tx i).data.toList.length ≤ 80 := by rw [← hsz i]; exact h80
    have := parseT_any_u (tx i).data.toList (by omega) trivial V hV
    rw [← hmk i] at this
    exact this
theorem programs_out (n : Nat) (hn : 12 < n) (a : Option Addr) (cap : Nat) (w : World) (hL : Laid w) : Calls Tryz.prog 5 #[.slice a n cap] w fun e w' => e = .returned (.bool true) ∧ Below w.heap.size w w' := by
  have HA : Hid (∀ V, Laid V → Calls Tryz.prog 8 #[] V fun e w' => e = .returned (.bool true) ∧ Below V.heap.size V w') := fun V hV => awake_any V hV
  have HL : Hid (Laid w) := hL
  have hni : (12 : Int) < n := by omega
  clear hL
  go_enter Tryz.func5, Tryz.ntmps5
  go_wp2_with fail
  refine Calls.mono (HA.out _ HL.out) ?_
  rintro e w1 ⟨rfl, hb1⟩
  have B1 : Hid (Below w.heap.size w w1) := hb1
  clear hb1
  go_wp2_with fail
  go_ret
  exact ⟨rfl, B1.out⟩
/-- lines that come in -/
def LinesIn (W : World) (a : Option Addr) (n : Nat) (tx : Nat → ByteArray) : Prop := n = 0 ∨ ∃ g off, a = some ⟨g, off, none⟩ ∧ ∀ i, i < n → W.cell? ⟨g, off + i, none⟩ = some (.string (tx i))
theorem programs_any (hW : ∀ l k aq rl, 1 ≤ k → k ≤ 98 → l.length ≤ 1000 → (PLof l).length ≤ 3 → WithTells k aq rl (RofL (PLof l)) (NofL (PLof l)) (PLof l)) {W0 : World} (a : Option Addr) (n cap : Nat) (tx : Nat → ByteArray) (hl : LinesIn W0 a n tx) (W : World) (hWW : W = W0) (hT : TabsE W ∧ Laid W) : Calls Tryz.prog 5 #[.slice a n cap] W fun e w' => e = .returned (.bool true) ∧ Below W.heap.size W w' := by
  subst hWW
  by_cases hn : n ≤ 12
  · obtain ⟨f, D⟩ := lines_of hW n tx
    exact programs_walk D hn a cap W hT hl
  · exact programs_out n (by omega) a cap W hT.2
section
variable {H : Type} {enc : TypeId × Value → H} {W : World} {spare : Nat → Bool} {held : Bool}
theorem cells9 : Tryz.prog.cellsOf 9 = 1 := by kernel_rfl
theorem spot_noneL {a : Addr} {v : Value} (h : W.cell? a = some v) : a.spot = none := by
  unfold World.cell? at h
  split at h
  · split at h
    · cases h
    · rename_i hs; simpa using hs
  · cases h
theorem addr_addL (b o j : Nat) : (⟨b, o, none⟩ : Addr).add j = ⟨b, o + j, none⟩ := by unfold Addr.add; split <;> simp_all
theorem open_strs {v : Value} {d : DataW H} {p : List MemPlace} {a : Option Addr} {len cap : Nat} (hv : v = .slice a len cap) (h : DataW.Trod enc Tryz.prog W 0 (fun _ => true) held 34 v d p) : ∃ tx, LinesIn W a len tx := by
  subst hv
  obtain ⟨fuel, hf⟩ := h
  rcases Deep.open_slice Tryz.underlying34 hf with ⟨hcs, _⟩ | ⟨ad, l, c, m, n, D, Pl, hcs, _, hl, hm, hmm, _, hx⟩
  · simp [Value.cells] at hcs
    obtain ⟨rfl, rfl, rfl⟩ := hcs
    exact ⟨fun _ => ⟨#[]⟩, .inl rfl⟩
  · simp [Value.cells] at hcs
    obtain ⟨rfl, rfl, rfl⟩ := hcs
    simp at hmm
    subst hmm
    unfold maxLen at hm
    by_cases h0 : len = 0
    · subst h0; exact ⟨fun _ => ⟨#[]⟩, .inl rfl⟩
    rw [cells9] at hx
    obtain ⟨tx, htx⟩ := @Deep.choose_lt ByteArray ⟨⟨#[]⟩⟩ len (fun i s => W.cell? (ad.add i) = some (.string s)) (fun i hi => by
      obtain ⟨cs', h1, h2⟩ := hx i (by omega)
      obtain ⟨s, rfl, _, _⟩ := DataW.trod_string Tryz.underlying9 h2
      obtain ⟨_, _, h5⟩ := World.cells?_some h1
      refine ⟨s, ?_⟩
      have h6 := h5 0 (by omega)
      rw [Deep.add_add] at h6
      simpa using h6)
    have hsp : ad.spot = none := by
      have := htx 0 (by omega)
      have e0 : ad.add 0 = ad := by unfold Addr.add; simp
      rw [e0] at this
      exact spot_noneL this
    obtain ⟨b, off, sp⟩ := ad
    simp only at hsp
    subst hsp
    refine ⟨tx, .inr ⟨b, off, rfl, fun i hi => ?_⟩⟩
    have := htx i hi
    rwa [addr_addL] at this
end
end Go.Proofs.YtooaafbdjnlmfaaGreatDoor
