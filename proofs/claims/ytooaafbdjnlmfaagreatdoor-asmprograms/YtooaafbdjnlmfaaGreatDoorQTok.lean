/- A text as words and marks: what readParts reads of it, and what stands between its commas. -/
import Derived.Test.YtooaafbdjnlmfaaGreatDoorQBackL
import Derived.Test.YtooaafbdjnlmfaaGreatDoorQDSplit
import Derived.Test.YtooaafbdjnlmfaaGreatDoorQDInt
import Derived.Test.YtooaafbdjnlmfaaGreatDoorQDIs
import Derived.Test.YtooaafbdjnlmfaaGreatDoorQTakes0
namespace Go.Proofs.YtooaafbdjnlmfaaGreatDoor
open Go.RowKit
set_option linter.unusedVariables false
set_option linter.unusedSimpArgs false
theorem mem_tw (p : UInt8 → Bool) : ∀ (l : List UInt8) (c : UInt8), c ∈ l.takeWhile p → p c = true
  | [], c, h => by simp at h
  | d :: l, c, h => by
    rw [List.takeWhile_cons] at h
    split at h
    · rcases List.mem_cons.1 h with rfl | h
      · assumption
      · exact mem_tw p l c h
    · simp at h
theorem dw_head (p : UInt8 → Bool) : ∀ (l : List UInt8) (c : UInt8) (r : List UInt8), l.dropWhile p = c :: r → p c = false
  | [], c, r, h => by simp at h
  | d :: l, c, r, h => by
    rw [List.dropWhile_cons] at h
    split at h
    · exact dw_head p l c r h
    · rename_i hp
      cases h
      simpa using hp
def blk (c : UInt8) : Bool := ([32, 9] : List UInt8).contains c
def flush (acc : List UInt8) : List (List UInt8) := if acc = [] then [] else [acc]
/-- the words and marks of a text, behind a word that has begun -/
def tok : List UInt8 → List UInt8 → List (List UInt8)
  | acc, [] => flush acc
  | acc, c :: l => if blk c = true then flush acc ++ tok [] l else if isMark c = true then flush acc ++ [c] :: tok [] l else tok (acc ++ [c]) l
theorem flush_nil : flush [] = [] := rfl
theorem flush_ne {a : List UInt8} (h : a ≠ []) : flush a = [a] := by unfold flush; rw [if_neg h]
theorem blk_mark {c : UInt8} (h : isMark c = true) : blk c = false := mark_blank c h
theorem tok_nil (acc : List UInt8) : tok acc [] = flush acc := rfl
theorem tok_blk (acc l : List UInt8) {c : UInt8} (h : blk c = true) : tok acc (c :: l) = flush acc ++ tok [] l := by rw [tok, if_pos h]
theorem tok_mk (acc l : List UInt8) {c : UInt8} (h : isMark c = true) : tok acc (c :: l) = flush acc ++ [c] :: tok [] l := by rw [tok, if_neg (by rw [blk_mark h]; decide), if_pos h]
theorem tok_ch (acc l : List UInt8) {c : UInt8} (h1 : blk c = false) (h2 : isMark c = false) : tok acc (c :: l) = tok (acc ++ [c]) l := by rw [tok, if_neg (by rw [h1]; decide), if_neg (by rw [h2]; decide)]
theorem tok_mark {c : UInt8} (hc : isMark c = true) (b : List UInt8) : ∀ (a acc : List UInt8), tok acc (a ++ c :: b) = tok acc a ++ [c] :: tok [] b
  | [], acc => by rw [List.nil_append, tok_mk acc b hc, tok_nil]
  | d :: a, acc => by
    rw [List.cons_append]
    cases h1 : blk d
    · cases h2 : isMark d
      · rw [tok_ch _ _ h1 h2, tok_ch _ _ h1 h2, tok_mark hc b a]
      · rw [tok_mk _ _ h2, tok_mk _ _ h2, tok_mark hc b a]; simp
    · rw [tok_blk _ _ h1, tok_blk _ _ h1, tok_mark hc b a]; simp
theorem tok_left : ∀ (bl a : List UInt8), (∀ c ∈ bl, blk c = true) → tok [] (bl ++ a) = tok [] a
  | [], a, _ => rfl
  | c :: bl, a, h => by
    rw [List.cons_append, tok_blk _ _ (h c (by simp)), flush_nil, List.nil_append, tok_left bl a (fun x hx => h x (by simp [hx]))]
theorem tok_right (bl : List UInt8) (h : ∀ c ∈ bl, blk c = true) : ∀ (a acc : List UInt8), tok acc (a ++ bl) = tok acc a
  | [], acc => by
    rw [List.nil_append]
    cases bl with
    | nil => rfl
    | cons c t =>
      rw [tok_blk _ _ (h c (by simp)), tok_nil]
      have := tok_left t [] (fun x hx => h x (by simp [hx]))
      rw [List.append_nil] at this
      rw [this, tok_nil, flush_nil, List.append_nil]
  | d :: a, acc => by
    rw [List.cons_append]
    cases h1 : blk d
    · cases h2 : isMark d
      · rw [tok_ch _ _ h1 h2, tok_ch _ _ h1 h2, tok_right bl h a]
      · rw [tok_mk _ _ h2, tok_mk _ _ h2, tok_right bl h a]
    · rw [tok_blk _ _ h1, tok_blk _ _ h1, tok_right bl h a]
def Word (w : List UInt8) : Prop := w ≠ [] ∧ ∀ b ∈ w, blk b = false ∧ isMark b = false
theorem tok_run : ∀ (w acc l : List UInt8), (∀ b ∈ w, blk b = false ∧ isMark b = false) → tok acc (w ++ l) = tok (acc ++ w) l
  | [], acc, l, _ => by simp
  | c :: w, acc, l, h => by
    have hc := h c (by simp)
    rw [List.cons_append, tok_ch _ _ hc.1 hc.2, tok_run w _ l (fun x hx => h x (by simp [hx]))]
    simp
theorem tok_word {w : List UInt8} (h : Word w) : tok [] w = [w] := by
  have := tok_run w [] [] h.2
  rw [List.append_nil, List.nil_append, tok_nil, flush_ne h.1] at this
  exact this
theorem trim_parts (l : List UInt8) : ∃ b1 b2, l = b1 ++ Lib.trimS l [32, 9] ++ b2 ∧ (∀ c ∈ b1, blk c = true) ∧ ∀ c ∈ b2, blk c = true := by
  refine ⟨(Lib.trimRightS l [32, 9]).takeWhile (fun b => ([32, 9] : List UInt8).contains b), (l.reverse.takeWhile (fun b => ([32, 9] : List UInt8).contains b)).reverse, ?_, ?_, ?_⟩
  · have h1 : (Lib.trimRightS l [32, 9]).takeWhile (fun b => ([32, 9] : List UInt8).contains b) ++ Lib.trimS l [32, 9] = Lib.trimRightS l [32, 9] := List.takeWhile_append_dropWhile
    rw [h1]
    have h2 := congrArg List.reverse (List.takeWhile_append_dropWhile (p := fun b => ([32, 9] : List UInt8).contains b) (l := l.reverse))
    rw [List.reverse_append, List.reverse_reverse] at h2
    exact h2.symm
  · intro c hc; exact mem_tw _ _ _ hc
  · intro c hc; rw [List.mem_reverse] at hc; exact mem_tw _ _ _ hc
theorem tok_trim (l : List UInt8) : tok [] (Lib.trimS l [32, 9]) = tok [] l := by
  obtain ⟨b1, b2, h, h1, h2⟩ := trim_parts l
  conv => rhs; rw [h]
  rw [List.append_assoc, tok_left _ _ h1, tok_right _ h2]
theorem tok_none : ∀ (l acc : List UInt8), tok acc l = [] → acc = [] ∧ ∀ c ∈ l, blk c = true
  | [], acc, h => by
    refine ⟨?_, fun c hc => by simp at hc⟩
    rw [tok_nil] at h
    unfold flush at h
    split at h
    · assumption
    · cases h
  | c :: l, acc, h => by
    cases h1 : blk c
    · cases h2 : isMark c
      · rw [tok_ch _ _ h1 h2] at h
        have := (tok_none l _ h).1
        simp at this
      · rw [tok_mk _ _ h2] at h
        simp at h
    · rw [tok_blk _ _ h1, List.append_eq_nil_iff] at h
      obtain ⟨ha, hl⟩ := h
      have h3 := tok_none l [] hl
      refine ⟨?_, fun x hx => ?_⟩
      · unfold flush at ha
        split at ha
        · assumption
        · cases ha
      · rcases List.mem_cons.1 hx with rfl | hx
        · exact h1
        · exact h3.2 x hx
/-- no blank stands at its end -/
def Shut (l : List UInt8) : Prop := ∀ b r, l.reverse = b :: r → blk b = false
theorem shut_nil {l : List UInt8} (h : Shut l) (ht : tok [] l = []) : l = [] := by
  cases hr : l.reverse with
  | nil => simpa using hr
  | cons b r =>
    have h1 := h b r hr
    have h2 := (tok_none l [] ht).2 b (by rw [← List.mem_reverse, hr]; simp)
    rw [h1] at h2; cases h2
theorem shut_suffix {l a b : List UInt8} (h : Shut l) (hl : l = a ++ b) : Shut b := by
  intro c r hr
  refine h c (r ++ a.reverse) ?_
  rw [hl, List.reverse_append, hr, List.cons_append]
theorem bare_tok (l : List UInt8) : tok [] (bare l) = tok [] l ∧ ∃ b1, l = b1 ++ bare l := by
  have h : l = l.takeWhile (fun b => ([32, 9] : List UInt8).contains b) ++ bare l := List.takeWhile_append_dropWhile.symm
  refine ⟨?_, _, h⟩
  conv => rhs; rw [h]
  exact (tok_left _ _ (fun c hc => mem_tw (fun b => ([32, 9] : List UInt8).contains b) _ _ hc)).symm
theorem bare_head (l : List UInt8) (c : UInt8) (r : List UInt8) (h : bare l = c :: r) : blk c = false := by
  exact dw_head (fun b => ([32, 9] : List UInt8).contains b) l c r h
theorem five (c : UInt8) : ([44, 40, 41, 32, 9] : List UInt8).contains c = (isMark c || blk c) := by
  unfold isMark blk
  simp only [List.contains_eq_mem, List.mem_cons, List.not_mem_nil, or_false]
  rw [Bool.eq_iff_iff]; simp only [decide_eq_true_eq, Bool.or_eq_true]
  constructor
  · rintro (h | h | h | h | h) <;> simp [h]
  · rintro ((h | h | h) | (h | h)) <;> simp [h]
theorem piece_tok (m : List UInt8) (c : UInt8) (r : List UInt8) (hm : m = c :: r) (hc : blk c = false) : tok [] m = pieceL m :: tok [] (m.drop (pieceL m).length) ∧ pieceL m ≠ [] := by
  have hsplit : m = headW [44, 40, 41, 32, 9] m ++ tailW [44, 40, 41, 32, 9] m := List.takeWhile_append_dropWhile.symm
  have hin : ∀ b ∈ headW [44, 40, 41, 32, 9] m, blk b = false ∧ isMark b = false := fun b hb => by
    have := mem_tw _ _ _ hb
    simp only [five] at this
    cases h1 : blk b <;> cases h2 : isMark b <;> simp [h1, h2] at this ⊢
  unfold pieceL
  by_cases h : headW [44, 40, 41, 32, 9] m = []
  · rw [if_pos h]
    have hk : isMark c = true := by
      rw [hm] at h
      unfold headW at h
      rw [List.takeWhile_cons] at h
      cases h3 : isMark c
      · rw [five, h3, hc] at h; simp at h
      · rfl
    subst hm
    refine ⟨?_, by simp⟩
    rw [tok_mk _ _ hk, flush_nil]
    simp
  · rw [if_neg h]
    refine ⟨?_, h⟩
    have hd : m.drop (headW [44, 40, 41, 32, 9] m).length = tailW [44, 40, 41, 32, 9] m := by
      conv => lhs; arg 2; rw [hsplit]
      simp
    rw [hd]
    conv => lhs; rw [hsplit]
    rw [tok_run _ _ _ hin, List.nil_append]
    cases ht : tailW [44, 40, 41, 32, 9] m with
    | nil => rw [tok_nil, tok_nil, flush_ne h]; rfl
    | cons d t =>
      have hd2 : ([44, 40, 41, 32, 9] : List UInt8).contains d = true := by
        have := dw_head (fun b => !([44, 40, 41, 32, 9] : List UInt8).contains b) m d t ht
        simpa only [Bool.not_eq_false'] using this
      rw [five] at hd2
      cases h1 : blk d
      · have h2 : isMark d = true := by rw [h1] at hd2; simpa using hd2
        rw [tok_mk _ _ h2, tok_mk _ _ h2, flush_ne h, flush_nil]; rfl
      · rw [tok_blk _ _ h1, tok_blk _ _ h1, flush_ne h, flush_nil]; rfl
/-- what a shape reads of words and marks -/
def readT : List UInt8 → List (List UInt8) → Ins → Ins × Bool
  | [], ts, x => (x, ts.isEmpty)
  | _ :: _, [], _ => (Ins.zero, false)
  | c :: sh, t :: ts, x => if (readS c (mk t) x).2 = true then readT sh ts (readS c (mk t) x).1 else (Ins.zero, false)
theorem none_bad : (letters.all fun c => !(readS c (mk []) Ins.zero).2) = true := by decide +kernel
theorem read_ind (c : UInt8) (s : ByteArray) (x y : Ins) : (readS c s x).2 = (readS c s y).2 := by
  unfold readS; split; rfl; split; rfl; split; rfl; split; rfl; split; rfl; split <;> rfl
theorem parts_tok : ∀ (sh l : List UInt8) (x : Ins), (∀ c ∈ sh, c ∈ letters) → Shut l → partsR sh l x = readT sh (tok [] l) x
  | [], l, x, _, hs => by
    rw [partsR, readT]
    cases l with
    | nil => rfl
    | cons c r =>
      cases ht : tok [] (c :: r) with
      | nil => have := shut_nil hs ht; cases this
      | cons => rfl
  | c :: sh, l, x, hc, hs => by
    obtain ⟨h1, b1, hb⟩ := bare_tok l
    rw [partsR, ← h1]
    cases hm : bare l with
    | nil =>
      have : (readS c (mk (pieceL [])) x).2 = false := by
        rw [read_ind _ _ x Ins.zero]
        have := List.all_eq_true.1 none_bad c (hc c (by simp))
        simpa [pieceL, headW] using this
      rw [if_neg (by rw [this]; decide), tok_nil, flush_nil, readT]
    | cons d r =>
      obtain ⟨h2, h3⟩ := piece_tok (d :: r) d r rfl (bare_head l d r hm)
      rw [h2, readT]
      split
      · refine parts_tok sh _ _ (fun x hx => hc x (by simp [hx])) ?_
        refine shut_suffix hs (a := b1 ++ (d :: r).take (pieceL (d :: r)).length) ?_
        rw [List.append_assoc, List.take_append_drop, ← hm]; exact hb
      · rfl
end Go.Proofs.YtooaafbdjnlmfaaGreatDoor

namespace Go.Proofs.YtooaafbdjnlmfaaGreatDoor
open Go.RowKit
set_option linter.unusedVariables false
set_option linter.unusedSimpArgs false
def inter : List (List (List UInt8)) → List (List UInt8)
  | [] => []
  | [a] => a
  | a :: b :: t => a ++ [44] :: inter (b :: t)
theorem inter_app (X a : List (List UInt8)) (t : List (List (List UInt8))) : inter ((X ++ a) :: t) = X ++ inter (a :: t) := by
  cases t with
  | nil => rfl
  | cons b t => simp [inter]
theorem mark44 : isMark 44 = true := by decide
theorem cuts_tok : ∀ (l acc : List UInt8), ∃ p ps, cutsL l = p :: ps ∧ tok acc l = inter (tok acc p :: ps.map (tok [])) ∧ (∀ q ∈ p :: ps, (44 : UInt8) ∉ q)
  | [], acc => ⟨[], [], rfl, rfl, by simp⟩
  | c :: l, acc => by
    by_cases hc : c = 44
    · subst hc
      obtain ⟨p, ps, h1, h2, h3⟩ := cuts_tok l []
      refine ⟨[], p :: ps, by rw [cutsL, if_pos rfl, h1], ?_, ?_⟩
      · rw [tok_mk _ _ mark44, h2]
        rfl
      · intro q hq
        rcases List.mem_cons.1 hq with rfl | hq
        · simp
        · exact h3 q hq
    · have hcut : ∀ p ps, cutsL l = p :: ps → cutsL (c :: l) = (c :: p) :: ps := fun p ps h => by rw [cutsL, if_neg hc, h]
      have hmem : ∀ p ps, (∀ q ∈ p :: ps, (44 : UInt8) ∉ q) → ∀ q ∈ (c :: p) :: ps, (44 : UInt8) ∉ q := fun p ps h q hq => by
        rcases List.mem_cons.1 hq with rfl | hq
        · intro hm
          rcases List.mem_cons.1 hm with h2 | h2
          · exact hc h2.symm
          · exact h p (by simp) h2
        · exact h q (by simp [hq])
      cases h1 : blk c
      · cases h2 : isMark c
        · obtain ⟨p, ps, g1, g2, g3⟩ := cuts_tok l (acc ++ [c])
          exact ⟨c :: p, ps, hcut p ps g1, by rw [tok_ch _ _ h1 h2, g2, tok_ch _ _ h1 h2], hmem p ps g3⟩
        · obtain ⟨p, ps, g1, g2, g3⟩ := cuts_tok l []
          refine ⟨c :: p, ps, hcut p ps g1, ?_, hmem p ps g3⟩
          rw [tok_mk _ _ h2, g2, tok_mk _ _ h2]
          rw [show flush acc ++ [c] :: tok [] p = (flush acc ++ [[c]]) ++ tok [] p from by simp, inter_app]
          simp
      · obtain ⟨p, ps, g1, g2, g3⟩ := cuts_tok l []
        refine ⟨c :: p, ps, hcut p ps g1, ?_, hmem p ps g3⟩
        rw [tok_blk _ _ h1, g2, tok_blk _ _ h1, inter_app]
theorem tok_comma : ∀ (l acc : List UInt8), [44] ∈ tok acc l → (44 : UInt8) ∈ acc ∨ (44 : UInt8) ∈ l
  | [], acc, h => by
    rw [tok_nil] at h
    unfold flush at h
    split at h
    · simp at h
    · simp at h; left; rw [← h]; simp
  | c :: l, acc, h => by
    have hf : [44] ∈ flush acc → (44 : UInt8) ∈ acc := fun h => by
      unfold flush at h
      split at h
      · simp at h
      · simp at h; rw [← h]; simp
    cases h1 : blk c
    · cases h2 : isMark c
      · rw [tok_ch _ _ h1 h2] at h
        rcases tok_comma l _ h with h | h
        · rcases List.mem_append.1 h with h | h
          · exact .inl h
          · simp at h; right; simp [h]
        · right; simp [h]
      · rw [tok_mk _ _ h2] at h
        rcases List.mem_append.1 h with h | h
        · exact .inl (hf h)
        · rcases List.mem_cons.1 h with h | h
          · right; simp at h; simp [h]
          · rcases tok_comma l _ h with h | h
            · simp at h
            · right; simp [h]
    · rw [tok_blk _ _ h1] at h
      rcases List.mem_append.1 h with h | h
      · exact .inl (hf h)
      · rcases tok_comma l _ h with h | h
        · simp at h
        · right; simp [h]
def splitT : List (List UInt8) → List (List (List UInt8))
  | [] => [[]]
  | t :: ts => if t = [44] then [] :: splitT ts else match splitT ts with
    | [] => [[t]]
    | a :: r => (t :: a) :: r
theorem split_run : ∀ (a ts : List (List UInt8)) (b : List (List UInt8)) (r : List (List (List UInt8))), [44] ∉ a → splitT ts = b :: r → splitT (a ++ ts) = (a ++ b) :: r
  | [], ts, b, r, _, h => h
  | x :: a, ts, b, r, hx, h => by
    have h2 := split_run a ts b r (fun hm => hx (by simp [hm])) h
    rw [List.cons_append, splitT, if_neg (fun e => hx (by simp [e])), h2]
    rfl
theorem split_inter : ∀ (t : List (List (List UInt8))) (a : List (List UInt8)), (∀ x ∈ a :: t, [44] ∉ x) → splitT (inter (a :: t)) = a :: t
  | [], a, h => by
    have := split_run a [] [] [] (h a (by simp)) rfl
    rw [List.append_nil] at this
    exact this
  | b :: t, a, h => by
    have h2 := split_inter t b (fun x hx => h x (by simp at hx ⊢; right; exact hx))
    rw [inter, split_run a _ [] (b :: t) (h a (by simp)) (by rw [splitT, if_pos rfl, h2])]
    simp
theorem byte_free : ((List.range 256).all fun n => !(decide (dg n < 16) || n == 45 || n == 120) || (!blk (UInt8.ofNat n) && !isMark (UInt8.ofNat n))) = true := by decide +kernel
theorem dg_free (b : UInt8) (h : dg b.toNat < 16 ∨ b.toNat = 45 ∨ b.toNat = 120) : blk b = false ∧ isMark b = false := by
  have h1 := List.all_eq_true.1 byte_free b.toNat (List.mem_range.2 b.toNat_lt)
  have h2 : UInt8.ofNat b.toNat = b := by simp
  rw [h2] at h1
  cases g1 : blk b <;> cases g2 : isMark b <;> simp [g1, g2] at h1 ⊢ <;> omega
theorem pdig_all {base : Nat} {s : ByteArray} : ∀ (n : Nat), (pdig base s n).isSome = true → ∀ k, k < n → dg (fB s k) < base
  | 0, _, k, hk => absurd hk (Nat.not_lt_zero _)
  | n + 1, h, k, hk => by
    rw [pdig] at h
    cases hp : pdig base s n with
    | none => rw [hp] at h; simp at h
    | some v =>
      rw [hp] at h
      simp only at h
      split at h
      · rename_i hc
        by_cases e : k = n
        · subst e; exact hc.1
        · exact pdig_all n (by rw [hp]; rfl) k (by omega)
      · simp at h
theorem fB_mkL (w : List UInt8) (k : Nat) (h : k < w.length) : fB (mk w) k = (w[k]).toNat := by
  rw [fB_at (mk w) k (by rw [mk_size]; exact h)]
  rfl
theorem pok_all (base : Nat) (w : List UInt8) (h : pok base (mk w) = true) : w ≠ [] ∧ ∀ b ∈ w, dg b.toNat < base := by
  unfold pok at h
  simp only [Bool.and_eq_true, decide_eq_true_eq] at h
  refine ⟨fun e => h.2 (by rw [e, mk_size]; rfl), fun b hb => ?_⟩
  obtain ⟨k, hk, rfl⟩ := List.getElem_of_mem hb
  have := pdig_all _ h.1 k (by rw [mk_size]; exact hk)
  rwa [fB_mkL w k hk] at this
theorem word_of_dg {w : List UInt8} (h0 : w ≠ []) (h : ∀ b ∈ w, dg b.toNat < 16 ∨ b.toNat = 45 ∨ b.toNat = 120) : Word w := ⟨h0, fun b hb => dg_free b (h b hb)⟩
theorem take_cons {w p : List UInt8} {n : Nat} (h : ((mk w).extract 0 n).toList = p) : w.take n = p := by
  rw [ext_take, list_mk] at h; exact h
theorem parseOk_dg (w : List UInt8) (h : parseOk (mk w) = true) : w ≠ [] ∧ ∀ b ∈ w, dg b.toNat < 16 ∨ b.toNat = 45 ∨ b.toNat = 120 := by
  unfold parseOk at h
  split at h
  · rename_i hh
    rw [mk_size] at h
    rw [ext_drop w 2 _ rfl] at h
    obtain ⟨h1, h2⟩ := pok_all 16 _ h
    have ht := take_cons hh.2
    have hw : w = [48, 120] ++ w.drop 2 := by rw [← ht, List.take_append_drop]
    refine ⟨by rw [hw]; simp, fun b hb => ?_⟩
    rw [hw] at hb
    simp only [List.cons_append, List.nil_append, List.mem_cons] at hb
    rcases hb with rfl | rfl | hb
    · left; decide
    · right; right; rfl
    · left; exact h2 b hb
  · obtain ⟨h1, h2⟩ := pok_all 10 _ h
    exact ⟨h1, fun b hb => .inl (by have := h2 b hb; omega)⟩
theorem int_word (w : List UInt8) (h : intOk (mk w) = true) : Word w := by
  unfold intOk at h
  split at h
  · rename_i hh
    have h := (of_decide_eq_true h).1
    unfold tailS at h
    rw [mk_size, ext_drop w 1 _ rfl] at h
    obtain ⟨h1, h2⟩ := parseOk_dg _ h
    have ht := take_cons hh.2
    have hw : w = [45] ++ w.drop 1 := by rw [← ht, List.take_append_drop]
    refine word_of_dg (by rw [hw]; simp) fun b hb => ?_
    rw [hw] at hb
    simp only [List.cons_append, List.nil_append, List.mem_cons] at hb
    rcases hb with rfl | hb
    · right; left; rfl
    · exact h2 b hb
  · obtain ⟨h1, h2⟩ := parseOk_dg w (of_decide_eq_true h).1
    exact word_of_dg h1 h2
end Go.Proofs.YtooaafbdjnlmfaaGreatDoor

namespace Go.Proofs.YtooaafbdjnlmfaaGreatDoor
open Go.RowKit
set_option linter.unusedVariables false
set_option linter.unusedSimpArgs false
theorem word_of_goods {w : List UInt8} (h : Goods w) : Word w := ⟨h.1, fun b hb => by
  have := good_free b (h.2 b hb)
  rw [five] at this
  cases h1 : blk b <;> cases h2 : isMark b <;> simp [h1, h2] at this ⊢⟩
theorem word_no {w : List UInt8} (h : Word w) {c : UInt8} (hc : isMark c = true) : c ∉ w := fun hm => by
  have := (h.2 c hm).2
  rw [hc] at this; cases this
def In64 (n : Int) : Prop := -9223372036854775808 ≤ n ∧ n ≤ 9223372036854775807
theorem itoa_int {m : Int} (h : In64 m) : intOk (mk (Lib.itoa m)) = true ∧ intN (mk (Lib.itoa m)) = m := by
  have := dec_back m h.1 h.2
  rw [decS_mk] at this
  exact ⟨this.2, this.1⟩
theorem itoa_inj {a b : Int} (ha : In64 a) (hb : In64 b) (h : Lib.itoa a = Lib.itoa b) : a = b := by
  rw [← (itoa_int ha).2, ← (itoa_int hb).2, h]
theorem x_not (w : List UInt8) : intOk (mk (120 :: w)) = false := by
  cases h : intOk (mk (120 :: w))
  · rfl
  · exfalso
    unfold intOk at h
    split at h
    · rename_i hh
      have := take_cons hh.2
      simp at this
    · have h := (of_decide_eq_true h).1
      unfold parseOk at h
      split at h
      · rename_i hh
        have := take_cons hh.2
        simp at this
      · have := (pok_all 10 _ h).2 120 (by simp)
        exact absurd this (by decide)
theorem in64_intN (w : List UInt8) : In64 (intN (mk w)) := intN_fits _
theorem plain2_num {A : List UInt8} {m : Int} (hm : In64 m) (h : plain2L A = Lib.itoa m) : intOk (mk A) = true ∧ intN (mk A) = m := by
  unfold plain2L at h
  split at h
  · rename_i hi
    exact ⟨hi, itoa_inj (in64_intN A) hm h⟩
  · rename_i hi
    rw [h] at hi
    exact absurd (itoa_int hm).1 hi
theorem reg_word (n : Int) (h : In64 n) : Word (regL n) := word_of_goods (reg_good n h.1 h.2)
theorem itoa_word (n : Int) (h : In64 n) : Word (Lib.itoa n) := word_of_goods (itoa_good n h.1 h.2)
theorem mark40 : isMark 40 = true := by decide
theorem mark41 : isMark 41 = true := by decide
theorem plain_word {w : List UInt8} (h : Word w) (hi : intOk (mk w) = false) : plainL w = w := by
  unfold plainL
  rw [if_neg (by rw [hi]; decide), if_neg]
  rintro ⟨h1, _⟩
  exact word_no h mark40 (by simpa using h1)
theorem plain_int {w : List UInt8} (hi : intOk (mk w) = true) : plainL w = Lib.itoa (intN (mk w)) := by
  unfold plainL; rw [if_pos hi]
theorem has40 (a b c : List UInt8) : (40 : UInt8) ∈ a ++ [40] ++ b ++ c := by simp
theorem reg_d1 {p : List UInt8} {n : Int} (hn : In64 n) (h : plainL p = regL n) : p = regL n := by
  unfold plainL at h
  split at h
  · have := (itoa_int (in64_intN p)).1
    rw [h] at this
    have h2 := x_not (Lib.itoa n)
    rw [show (120 :: Lib.itoa n) = regL n from rfl, this] at h2
    cases h2
  · split at h
    · have := has40 (plain2L (Lib.trimS (aheadL p) [32, 9])) (Lib.trimS (insideL p) [32, 9]) [41]
      rw [h] at this
      exact absurd this (word_no (reg_word n hn) mark40)
    · exact h
theorem num_d1 {p : List UInt8} {m : Int} (hm : In64 m) (h : plainL p = Lib.itoa m) : intOk (mk p) = true ∧ intN (mk p) = m := by
  unfold plainL at h
  split at h
  · rename_i hi
    exact ⟨hi, itoa_inj (in64_intN p) hm h⟩
  · split at h
    · have := has40 (plain2L (Lib.trimS (aheadL p) [32, 9])) (Lib.trimS (insideL p) [32, 9]) [41]
      rw [h] at this
      exact absurd this (word_no (itoa_word m hm) mark40)
    · rename_i hi _
      rw [h] at hi
      exact absurd (itoa_int hm).1 hi
theorem app_first {c : UInt8} : ∀ (a a' b b' : List UInt8), c ∉ a → c ∉ a' → a ++ c :: b = a' ++ c :: b' → a = a' ∧ b = b'
  | [], [], b, b', _, _, h => by simp at h; exact ⟨rfl, h⟩
  | [], d :: a', b, b', _, h2, h => by
    simp at h
    exact absurd (by simp [h.1]) h2
  | d :: a, [], b, b', h1, _, h => by
    simp at h
    exact absurd (by simp [h.1]) h1
  | d :: a, d' :: a', b, b', h1, h2, h => by
    simp at h
    obtain ⟨e1, e2⟩ := h
    have := app_first a a' b b' (fun x => h1 (by simp [x])) (fun x => h2 (by simp [x])) e2
    exact ⟨by rw [e1, this.1], this.2⟩
theorem ahead_no (p : List UInt8) : (40 : UInt8) ∉ aheadL p := fun h => by
  have := mem_tw _ _ _ h
  simp at this
theorem last_cons (a r : List UInt8) (x : UInt8) : (a ++ 40 :: (r ++ [x])).getLast? = some x := by
  rw [show a ++ 40 :: (r ++ [x]) = (a ++ 40 :: r) ++ [x] from by simp]
  simp only [List.getLast?_append, List.getLast?_singleton, Option.some_or]
theorem split_br (p : List UInt8) (h1 : p.contains 40 = true) (h2 : p.getLast? = some 41) : p = aheadL p ++ 40 :: (insideL p ++ [41]) := by
  have hd : p = aheadL p ++ p.dropWhile (fun b => b != 40) := List.takeWhile_append_dropWhile.symm
  cases ht : p.dropWhile (fun b => b != 40) with
  | nil =>
    rw [ht, List.append_nil] at hd
    rw [hd] at h1
    exact absurd (by simpa using h1) (ahead_no p)
  | cons c r =>
    have hc := dw_head _ _ _ _ ht
    have hc : c = 40 := by simpa using hc
    subst hc
    rw [ht] at hd
    have hr : r ≠ [] := by
      rintro rfl
      rw [hd] at h2
      simp at h2
    obtain ⟨r', x, rfl⟩ : ∃ r' x, r = r' ++ [x] := ⟨r.dropLast, r.getLast hr, (List.dropLast_concat_getLast hr).symm⟩
    have hx : x = 41 := by
      rw [hd, last_cons] at h2
      simpa using h2
    subst hx
    have hin : insideL p = r' := by
      unfold insideL
      generalize aheadL p = A at *
      subst hd
      have e1 : A ++ 40 :: (r' ++ [41]) = (A ++ 40 :: r') ++ [41] := by simp
      rw [e1]
      have e2 : ((A ++ 40 :: r') ++ [41]).length - 1 = (A ++ 40 :: r').length := by simp
      rw [e2, List.take_left]
      simp
    rw [hin]; exact hd
theorem no_trim {c : UInt8} {l : List UInt8} (h : c ∉ l) : c ∉ Lib.trimS l [32, 9] := fun hm => by
  obtain ⟨b1, b2, e, _, _⟩ := trim_parts l
  exact h (by rw [e]; simp [hm])
theorem no_plain2 {A : List UInt8} (h : (40 : UInt8) ∉ A) : (40 : UInt8) ∉ plain2L A := by
  unfold plain2L
  split
  · exact word_no (itoa_word _ (in64_intN A)) mark40
  · exact h
theorem br_d1 {p X r : List UInt8} (hX : (40 : UInt8) ∉ X) (h : plainL p = X ++ [40] ++ r ++ [41]) : p.contains 40 = true ∧ p.getLast? = some 41 ∧ intOk (mk p) = false ∧ plain2L (Lib.trimS (aheadL p) [32, 9]) = X ∧ Lib.trimS (insideL p) [32, 9] = r := by
  unfold plainL at h
  split at h
  · exact absurd (by rw [h]; exact has40 X r [41]) (word_no (itoa_word _ (in64_intN p)) mark40)
  · rename_i hi
    split at h
    · rename_i hc
      have e : plain2L (Lib.trimS (aheadL p) [32, 9]) ++ 40 :: (Lib.trimS (insideL p) [32, 9] ++ [41]) = X ++ 40 :: (r ++ [41]) := by simpa using h
      obtain ⟨h1, h2⟩ := app_first _ _ _ _ (no_plain2 (no_trim (ahead_no p))) hX e
      exact ⟨hc.1, hc.2, by simpa using hi, h1, List.append_cancel_right h2⟩
    · rename_i hc
      exfalso
      apply hc
      rw [h]
      exact ⟨by simp, by rw [show X ++ [40] ++ r ++ [41] = X ++ 40 :: (r ++ [41]) from by simp]; exact last_cons X r 41⟩
theorem br_tok {p : List UInt8} (h1 : p.contains 40 = true) (h2 : p.getLast? = some 41) : tok [] p = tok [] (Lib.trimS (aheadL p) [32, 9]) ++ [40] :: (tok [] (Lib.trimS (insideL p) [32, 9]) ++ [[41]]) := by
  conv => lhs; rw [split_br p h1 h2]
  rw [tok_mark mark40, tok_mark mark41, tok_trim, tok_trim]
  rfl
/-- no blank stands at its ends -/
def Trimmed (p : List UInt8) : Prop := (∀ c r, p = c :: r → blk c = false) ∧ Shut p
theorem trimmed_trim (l : List UInt8) : Trimmed (Lib.trimS l [32, 9]) := by
  refine ⟨fun c r h => dw_head (fun b => ([32, 9] : List UInt8).contains b) _ c r h, ?_⟩
  have hr : Shut (Lib.trimRightS l [32, 9]) := by
    intro b r h
    have e : (Lib.trimRightS l [32, 9]).reverse = l.reverse.dropWhile (fun b => ([32, 9] : List UInt8).contains b) := List.reverse_reverse _
    rw [e] at h
    exact dw_head _ _ b r h
  refine shut_suffix hr (a := (Lib.trimRightS l [32, 9]).takeWhile (fun b => ([32, 9] : List UInt8).contains b)) ?_
  exact List.takeWhile_append_dropWhile.symm
theorem single {p t : List UInt8} (h : Trimmed p) (ht : tok [] p = [t]) : p = t := by
  cases hp : p with
  | nil => rw [hp] at ht; simp [tok, flush] at ht
  | cons c r =>
    obtain ⟨h1, h2⟩ := piece_tok p c r hp (h.1 c r hp)
    rw [h1] at ht
    simp at ht
    have hd : p.drop (pieceL p).length = [] := shut_nil (shut_suffix h.2 (List.take_append_drop (pieceL p).length p).symm) ht.2
    have hl := piece_len p
    have hlen : p.length ≤ (pieceL p).length := by simpa using hd
    have hpre : pieceL p = p.take (pieceL p).length := by
      unfold pieceL
      split
      · rw [hp]; simp
      · have : p = headW [44, 40, 41, 32, 9] p ++ tailW [44, 40, 41, 32, 9] p := List.takeWhile_append_dropWhile.symm
        conv => rhs; arg 2; rw [this]
        simp
    rw [← hp, ← ht.1, hpre, List.take_of_length_le hlen]
theorem tok_in : ∀ (l acc : List UInt8) (t : List UInt8) (c : UInt8), t ∈ tok acc l → c ∈ t → c ∈ acc ∨ c ∈ l
  | [], acc, t, c, h, hc => by
    rw [tok_nil] at h
    unfold flush at h
    split at h
    · simp at h
    · simp at h; rw [h] at hc; exact .inl hc
  | d :: l, acc, t, c, h, hc => by
    have hf : t ∈ flush acc → c ∈ acc := fun h => by
      unfold flush at h
      split at h
      · simp at h
      · simp at h; rwa [h] at hc
    cases h1 : blk d
    · cases h2 : isMark d
      · rw [tok_ch _ _ h1 h2] at h
        rcases tok_in l _ t c h hc with h | h
        · rcases List.mem_append.1 h with h | h
          · exact .inl h
          · simp at h; right; simp [h]
        · right; simp [h]
      · rw [tok_mk _ _ h2] at h
        rcases List.mem_append.1 h with h | h
        · exact .inl (hf h)
        · rcases List.mem_cons.1 h with h | h
          · right; rw [h] at hc; simp at hc; simp [hc]
          · rcases tok_in l _ t c h hc with h | h
            · simp at h
            · right; simp [h]
    · rw [tok_blk _ _ h1] at h
      rcases List.mem_append.1 h with h | h
      · exact .inl (hf h)
      · rcases tok_in l _ t c h hc with h | h
        · simp at h
        · right; simp [h]
theorem tok_last {c : UInt8} (h1 : blk c = false) (h2 : isMark c = false) : ∀ (l acc : List UInt8), ∃ ts w, tok acc (l ++ [c]) = ts ++ [w ++ [c]]
  | [], acc => ⟨[], acc, by rw [List.nil_append, tok_ch _ _ h1 h2, tok_nil, flush_ne (by simp)]; rfl⟩
  | d :: l, acc => by
    rw [List.cons_append]
    cases g1 : blk d
    · cases g2 : isMark d
      · rw [tok_ch _ _ g1 g2]; exact tok_last h1 h2 l _
      · obtain ⟨ts, w, h⟩ := tok_last h1 h2 l []
        exact ⟨flush acc ++ [d] :: ts, w, by rw [tok_mk _ _ g2, h]; simp⟩
    · obtain ⟨ts, w, h⟩ := tok_last h1 h2 l []
      exact ⟨flush acc ++ ts, w, by rw [tok_blk _ _ g1, h]; simp⟩
theorem list_first {c : List UInt8} : ∀ (a a' b b' : List (List UInt8)), c ∉ a → c ∉ a' → a ++ c :: b = a' ++ c :: b' → a = a' ∧ b = b'
  | [], [], b, b', _, _, h => by simp at h; exact ⟨rfl, h⟩
  | [], d :: a', b, b', _, h2, h => by simp at h; exact absurd (by simp [h.1]) h2
  | d :: a, [], b, b', h1, _, h => by simp at h; exact absurd (by simp [h.1]) h1
  | d :: a, d' :: a', b, b', h1, h2, h => by
    simp at h
    obtain ⟨e1, e2⟩ := h
    have := list_first a a' b b' (fun x => h1 (by simp [x])) (fun x => h2 (by simp [x])) e2
    exact ⟨by rw [e1, this.1], this.2⟩
theorem br_d2 {p q : List UInt8} {X : List (List UInt8)} (h : Trimmed p) (hX : [40] ∉ X) (ht : tok [] p = X ++ [40] :: [q, [41]]) : p.contains 40 = true ∧ p.getLast? = some 41 ∧ tok [] (Lib.trimS (aheadL p) [32, 9]) = X ∧ Lib.trimS (insideL p) [32, 9] = q := by
  have h40 : p.contains 40 = true := by
    have := tok_in p [] [40] 40 (by rw [ht]; simp) (by simp)
    simpa using this
  have hne : p ≠ [] := by rintro rfl; simp at h40
  obtain ⟨r, c, hr⟩ : ∃ r c, p = r ++ [c] := ⟨p.dropLast, p.getLast hne, (List.dropLast_concat_getLast hne).symm⟩
  have hb : blk c = false := h.2 c r.reverse (by rw [hr]; simp)
  have h41 : p.getLast? = some 41 := by
    cases hm : isMark c
    · exfalso
      obtain ⟨ts, w, e⟩ := tok_last hb hm r []
      rw [← hr, ht] at e
      have e2 := congrArg List.getLast? e
      simp at e2
      have e3 := congrArg List.getLast? e2
      simp at e3
      rw [← e3] at hm
      exact absurd hm (by decide)
    · have e := tok_mark hm [] r []
      rw [← hr, ht] at e
      have e2 := congrArg List.getLast? e
      simp [tok, flush] at e2
      rw [hr]; simp [← e2]
  have e := br_tok h40 h41
  rw [ht] at e
  have hA : [40] ∉ tok [] (Lib.trimS (aheadL p) [32, 9]) := fun hm => by
    have := tok_in _ _ _ 40 hm (by simp)
    simp at this
    exact no_trim (ahead_no p) this
  obtain ⟨e1, e2⟩ := list_first _ _ _ _ hX hA e
  refine ⟨h40, h41, e1.symm, ?_⟩
  have e3 : tok [] (Lib.trimS (insideL p) [32, 9]) = [q] := by
    have : [q] ++ [[41]] = tok [] (Lib.trimS (insideL p) [32, 9]) ++ [[41]] := e2
    exact (List.append_cancel_right this).symm
  exact single (trimmed_trim _) e3
theorem not_int_40 {p : List UInt8} (h : p.contains 40 = true) : intOk (mk p) = false := by
  cases hi : intOk (mk p)
  · rfl
  · exact absurd (by simpa using h) (word_no (int_word p hi) mark40)
theorem br_plain {p : List UInt8} (h1 : p.contains 40 = true) (h2 : p.getLast? = some 41) : plainL p = plain2L (Lib.trimS (aheadL p) [32, 9]) ++ [40] ++ Lib.trimS (insideL p) [32, 9] ++ [41] ∧ bracketL p = Lib.trimS (insideL p) [32, 9] ∧ numberL p = (intN (mk (Lib.trimS (aheadL p) [32, 9])), intOk (mk (Lib.trimS (aheadL p) [32, 9]))) := by
  have hi := not_int_40 h1
  refine ⟨?_, ?_, ?_⟩
  · unfold plainL; rw [if_neg (by rw [hi]; decide), if_pos ⟨h1, h2⟩]
  · unfold bracketL; rw [if_pos ⟨h1, h2⟩]
  · unfold numberL; rw [if_neg (by rw [hi]; decide), if_pos h1]
end Go.Proofs.YtooaafbdjnlmfaaGreatDoor

namespace Go.Proofs.YtooaafbdjnlmfaaGreatDoor
open Go.RowKit
set_option linter.unusedVariables false
set_option linter.unusedSimpArgs false
/-- a piece tells an instruction's part -/
def OKt (y : Ins) (c : UInt8) (t : List UInt8) : Prop := ∀ x, readS c (mk t) x = (setP y x c, true)
def All2 (y : Ins) : List UInt8 → List (List UInt8) → Prop
  | [], [] => True
  | c :: sh, t :: ts => OKt y c t ∧ All2 y sh ts
  | _, _ => False
theorem all2_read (y : Ins) : ∀ (sh : List UInt8) (ts : List (List UInt8)) (x : Ins), All2 y sh ts → readT sh ts x = (sh.foldl (setP y) x, true)
  | [], [], x, _ => rfl
  | [], _ :: _, x, h => h.elim
  | _ :: _, [], x, h => h.elim
  | c :: sh, t :: ts, x, h => by
    have h1 := h.1 x
    rw [readT, h1, if_pos rfl]
    exact all2_read y sh ts _ h.2
theorem all2_app (y : Ins) : ∀ (s1 : List UInt8) (t1 : List (List UInt8)) (s2 : List UInt8) (t2 : List (List UInt8)), All2 y s1 t1 → All2 y s2 t2 → All2 y (s1 ++ s2) (t1 ++ t2)
  | [], [], s2, t2, _, h => h
  | [], _ :: _, _, _, h, _ => h.elim
  | _ :: _, [], _, _, h, _ => h.elim
  | c :: s1, t :: t1, s2, t2, h, g => ⟨h.1, all2_app y s1 t1 s2 t2 h.2 g⟩
theorem okt_mark (y : Ins) (c : UInt8) (h : c = 44 ∨ c = 40 ∨ c = 41) : OKt y c [c] := by
  intro x
  rcases h with rfl | rfl | rfl
  · show (x, (mk [44]).toList == [44]) = _
    rw [show (mk [44]).toList = [44] from list_mk [44]]; rfl
  · show (x, (mk [40]).toList == [40]) = _
    rw [show (mk [40]).toList = [40] from list_mk [40]]; rfl
  · show (x, (mk [41]).toList == [41]) = _
    rw [show (mk [41]).toList = [41] from list_mk [41]]; rfl
def subsF : Nat → List (List UInt8)
  | 1 => [[100], [117]]
  | 2 => [[100], [110]]
  | 3 => [[100], [97], [110]]
  | 4 => [[97], [98], [110]]
  | 5 => [[100], [110, 40, 97, 41]]
  | 6 => [[98], [110, 40, 97, 41]]
  | 7 => [[100], [97], [110]]
  | 8 => [[100], [97], [110]]
  | 9 => [[100], [97], [98]]
  | 10 => [[100], [97], [110]]
  | 11 => []
  | 12 => [[100], [99], [97]]
  | 13 => [[100], [99], [110]]
  | 14 => [[100], [40, 97, 41]]
  | 15 => [[100], [98], [40, 97, 41]]
  | 16 => [[97], [98]]
  | _ => []
def join44 : List (List UInt8) → List UInt8
  | [] => []
  | [a] => a
  | a :: b :: t => a ++ 44 :: join44 (b :: t)
theorem shape_subs : ∀ g, g ≤ 16 → shapeF g = join44 (subsF g) := by decide +kernel
def partI (y : Ins) (c : UInt8) : List UInt8 := partL y.rd y.rs1 y.rs2 y.imm y.csr c
theorem takes_subs (y : Ins) (x : Nat) (hx : y.csr = x) (g : Nat) (h0 : 1 ≤ g) (h1 : g ≤ 16) : takesL y.rd y.rs1 y.rs2 y.imm x g = (subsF g).map fun s => s.flatMap (partI y) := by
  have e : y.csr.toNat = x := by omega
  match g, h0, h1 with
  | 1, _, _ => simp [takesL, subsF, partI, partL, e]
  | 2, _, _ => simp [takesL, subsF, partI, partL, e]
  | 3, _, _ => simp [takesL, subsF, partI, partL, e]
  | 4, _, _ => simp [takesL, subsF, partI, partL, e]
  | 5, _, _ => simp [takesL, subsF, partI, partL, e]
  | 6, _, _ => simp [takesL, subsF, partI, partL, e]
  | 7, _, _ => simp [takesL, subsF, partI, partL, e]
  | 8, _, _ => simp [takesL, subsF, partI, partL, e]
  | 9, _, _ => simp [takesL, subsF, partI, partL, e]
  | 10, _, _ => simp [takesL, subsF, partI, partL, e]
  | 11, _, _ => simp [takesL, subsF, partI, partL, e]
  | 12, _, _ => simp [takesL, subsF, partI, partL, e]
  | 13, _, _ => simp [takesL, subsF, partI, partL, e]
  | 14, _, _ => simp [takesL, subsF, partI, partL, e]
  | 15, _, _ => simp [takesL, subsF, partI, partL, e]
  | 16, _, _ => simp [takesL, subsF, partI, partL, e]
  | n + 17, _, h => omega
def kinds : List (List UInt8) := [[100], [97], [98], [110], [117], [99], [110, 40, 97, 41], [40, 97, 41]]
theorem subs_kinds : ∀ g, g ≤ 16 → ((subsF g).all fun s => kinds.contains s) = true := by decide +kernel
theorem subs_up : ∀ g, g ≤ 16 → (!(subsF g).any (fun s => s.contains 117) || (shapeF g).contains 117) = true := by decide +kernel
theorem in64_reg {n : Int} (h : 0 ≤ n ∧ n ≤ 31) : In64 n := ⟨by omega, by omega⟩
theorem okt_part (y : Ins) (hf : Fits y.rd y.rs1 y.rs2 y.imm y.csr) (c : UInt8) (hc : c ∈ letters) (hu : c = 117 → y.imm % 4096 = 0) : OKt y c (partI y c) := fun x => read_back y x hf c hc hu
theorem okt_int (y : Ins) (hf : Fits y.rd y.rs1 y.rs2 y.imm y.csr) (c : UInt8) (hc : c = 110 ∨ c = 117 ∨ c = 99) (hu : c = 117 → y.imm % 4096 = 0) (p : List UInt8) (h1 : intOk (mk p) = intOk (mk (partI y c))) (h2 : intN (mk p) = intN (mk (partI y c))) : OKt y c p := by
  intro x
  rw [← okt_part y hf c (by rcases hc with rfl | rfl | rfl <;> decide) hu x]
  rcases hc with rfl | rfl | rfl
  · show (({x with imm := intN (mk p)} : Ins), intOk (mk p)) = ({x with imm := intN (mk (partI y 110))}, intOk (mk (partI y 110)))
    rw [h1, h2]
  · show (({x with imm := upN (mk p)} : Ins), upOk (mk p)) = ({x with imm := upN (mk (partI y 117))}, upOk (mk (partI y 117)))
    unfold upOk upN
    rw [h1, h2]
  · show (({x with csr := intN (mk p)} : Ins), intOk (mk p)) = ({x with csr := intN (mk (partI y 99))}, intOk (mk (partI y 99)))
    rw [h1, h2]
theorem part_num (y : Ins) (hf : Fits y.rd y.rs1 y.rs2 y.imm y.csr) (c : UInt8) (hc : c = 110 ∨ c = 117 ∨ c = 99) : ∃ m, In64 m ∧ intOk (mk (partI y c)) = true ∧ intN (mk (partI y c)) = m := by
  have h4 := hf.n; have h5 := hf.c
  rcases hc with rfl | rfl | rfl
  · exact ⟨_, ⟨by omega, by omega⟩, itoa_int (m := y.imm) ⟨by omega, by omega⟩⟩
  · exact ⟨_, tdiv_bounds y.imm h4, itoa_int (m := y.imm.tdiv 4096) (tdiv_bounds y.imm h4)⟩
  · have := csr_back y.csr.toNat (by omega)
    exact ⟨(y.csr.toNat : Int), ⟨by omega, by omega⟩, this.2, this.1⟩
theorem num_tok (y : Ins) (hf : Fits y.rd y.rs1 y.rs2 y.imm y.csr) (c : UInt8) (hc : c = 110 ∨ c = 117 ∨ c = 99) (hu : c = 117 → y.imm % 4096 = 0) (p : List UInt8) (h : plainL p = plainL (partI y c)) : OKt y c p ∧ tok [] p = [p] := by
  obtain ⟨m, hm, i1, i2⟩ := part_num y hf c hc
  rw [plain_int i1, i2] at h
  obtain ⟨j1, j2⟩ := num_d1 hm h
  exact ⟨okt_int y hf c hc hu p (j1.trans i1.symm) (j2.trans i2.symm), tok_word (int_word p j1)⟩
theorem reg_tok (y : Ins) (hf : Fits y.rd y.rs1 y.rs2 y.imm y.csr) (c : UInt8) (n : Int) (hn : In64 n) (hp : partI y c = regL n) (p : List UInt8) (h : plainL p = plainL (partI y c)) : p = partI y c ∧ tok [] p = [p] := by
  rw [hp, plain_word (reg_word n hn) (x_not _)] at h
  have := reg_d1 hn h
  exact ⟨by rw [this, hp], by rw [this]; exact tok_word (reg_word n hn)⟩
theorem kind_tok (y : Ins) (hf : Fits y.rd y.rs1 y.rs2 y.imm y.csr) (s : List UInt8) (hs : s ∈ kinds) (hu : 117 ∈ s → y.imm % 4096 = 0) (p : List UInt8) (h : plainL p = plainL (s.flatMap (partI y))) : All2 y s (tok [] p) := by
  have h1 := in64_reg hf.d; have h2 := in64_reg hf.a; have h3 := in64_reg hf.b
  have regk : ∀ c n, In64 n → partI y c = regL n → c ∈ letters → c ≠ 117 → plainL p = plainL (partI y c) → All2 y [c] (tok [] p) := fun c n hn hp hl hc h => by
    obtain ⟨e1, e2⟩ := reg_tok y hf c n hn hp p h
    rw [e2, e1]
    exact ⟨okt_part y hf c hl (fun e => absurd e hc), trivial⟩
  have numk : ∀ c, (c = 110 ∨ c = 117 ∨ c = 99) → (c = 117 → y.imm % 4096 = 0) → plainL p = plainL (partI y c) → All2 y [c] (tok [] p) := fun c hc hu h => by
    obtain ⟨e1, e2⟩ := num_tok y hf c hc hu p h
    rw [e2]
    exact ⟨e1, trivial⟩
  have hone : ∀ c, [c].flatMap (partI y) = partI y c := fun c => by simp
  simp only [kinds, List.mem_cons, List.not_mem_nil, or_false] at hs
  rcases hs with rfl | rfl | rfl | rfl | rfl | rfl | rfl | rfl
  · rw [hone] at h; exact regk 100 y.rd h1 rfl (by decide) (by decide) h
  · rw [hone] at h; exact regk 97 y.rs1 h2 rfl (by decide) (by decide) h
  · rw [hone] at h; exact regk 98 y.rs2 h3 rfl (by decide) (by decide) h
  · rw [hone] at h; exact numk 110 (by simp) (fun e => absurd e (by decide)) h
  · rw [hone] at h; exact numk 117 (by simp) (fun _ => hu (by simp)) h
  · rw [hone] at h; exact numk 99 (by simp) (fun e => absurd e (by decide)) h
  · obtain ⟨m, hm, i1, i2⟩ := part_num y hf 110 (by simp)
    have hmm : partI y 110 = Lib.itoa m := by
      have h4 := hf.n
      have e := (itoa_int (m := y.imm) ⟨by omega, by omega⟩).2
      have e2 : m = y.imm := by rw [← i2]; exact e
      rw [e2]; rfl
    have hfl : [110, 40, 97, 41].flatMap (partI y) = Lib.itoa m ++ [40] ++ regL y.rs1 ++ [41] := by
      simp [← hmm]; rfl
    have hpl : plainL (Lib.itoa m ++ [40] ++ regL y.rs1 ++ [41]) = Lib.itoa m ++ [40] ++ regL y.rs1 ++ [41] := by
      have hc : (Lib.itoa m ++ [40] ++ regL y.rs1 ++ [41]).contains 40 = true := by simp
      have hl : (Lib.itoa m ++ [40] ++ regL y.rs1 ++ [41]).getLast? = some 41 := by
        rw [show Lib.itoa m ++ [40] ++ regL y.rs1 ++ [41] = Lib.itoa m ++ 40 :: (regL y.rs1 ++ [41]) from by simp]; exact last_cons _ _ _
      have hsp := split_br _ hc hl
      have e : Lib.itoa m ++ 40 :: (regL y.rs1 ++ [41]) = aheadL (Lib.itoa m ++ [40] ++ regL y.rs1 ++ [41]) ++ 40 :: (insideL (Lib.itoa m ++ [40] ++ regL y.rs1 ++ [41]) ++ [41]) := by rw [← hsp]; simp
      obtain ⟨a1, a2⟩ := app_first _ _ _ _ (word_no (itoa_word m hm) mark40) (ahead_no _) e
      have a3 := List.append_cancel_right a2
      rw [(br_plain hc hl).1, ← a1, ← a3]
      have t1 : Lib.trimS (Lib.itoa m) [32, 9] = Lib.itoa m := single (trimmed_trim _) (by rw [tok_trim]; exact tok_word (itoa_word m hm))
      have t2 : Lib.trimS (regL y.rs1) [32, 9] = regL y.rs1 := single (trimmed_trim _) (by rw [tok_trim]; exact tok_word (reg_word _ h2))
      rw [t1, t2]
      unfold plain2L
      rw [if_pos (itoa_int hm).1, (itoa_int hm).2]
    rw [hfl, hpl] at h
    obtain ⟨c1, c2, c3, c4, c5⟩ := br_d1 (word_no (itoa_word m hm) mark40) h
    obtain ⟨n1, n2⟩ := plain2_num hm c4
    rw [br_tok c1 c2, c5, tok_word (int_word _ n1), tok_word (reg_word _ h2)]
    exact ⟨okt_int y hf 110 (by simp) (fun e => absurd e (by decide)) _ (n1.trans i1.symm) (n2.trans i2.symm), okt_mark y 40 (by simp), okt_part y hf 97 (by decide) (fun e => absurd e (by decide)), okt_mark y 41 (by simp), trivial⟩
  · have hfl : [40, 97, 41].flatMap (partI y) = [] ++ [40] ++ regL y.rs1 ++ [41] := by
      simp; rfl
    have hpl : plainL ([] ++ [40] ++ regL y.rs1 ++ [41]) = [] ++ [40] ++ regL y.rs1 ++ [41] := by
      have hc : ([] ++ [40] ++ regL y.rs1 ++ [41]).contains 40 = true := by simp
      have hl : ([] ++ [40] ++ regL y.rs1 ++ [41]).getLast? = some 41 := by
        rw [show [] ++ [40] ++ regL y.rs1 ++ [41] = [] ++ 40 :: (regL y.rs1 ++ [41]) from by simp]; exact last_cons _ _ _
      have hsp := split_br _ hc hl
      have e : [] ++ 40 :: (regL y.rs1 ++ [41]) = aheadL ([] ++ [40] ++ regL y.rs1 ++ [41]) ++ 40 :: (insideL ([] ++ [40] ++ regL y.rs1 ++ [41]) ++ [41]) := by rw [← hsp]; simp
      obtain ⟨a1, a2⟩ := app_first _ _ _ _ (by simp) (ahead_no _) e
      have a3 := List.append_cancel_right a2
      rw [(br_plain hc hl).1, ← a1, ← a3]
      have t2 : Lib.trimS (regL y.rs1) [32, 9] = regL y.rs1 := single (trimmed_trim _) (by rw [tok_trim]; exact tok_word (reg_word _ h2))
      rw [show Lib.trimS [] [32, 9] = [] from rfl, t2]
      have e0 : plain2L [] = [] := by decide +kernel
      rw [e0]
    rw [hfl, hpl] at h
    obtain ⟨c1, c2, c3, c4, c5⟩ := br_d1 (by simp) h
    have hA : Lib.trimS (aheadL p) [32, 9] = [] := by
      unfold plain2L at c4
      split at c4
      · exact absurd c4 (itoa_word _ (in64_intN _)).1
      · exact c4
    rw [br_tok c1 c2, c5, hA, tok_nil, flush_nil, tok_word (reg_word _ h2)]
    exact ⟨okt_mark y 40 (by simp), okt_part y hf 97 (by decide) (fun e => absurd e (by decide)), okt_mark y 41 (by simp), trivial⟩
theorem all_join (y : Ins) (hf : Fits y.rd y.rs1 y.rs2 y.imm y.csr) : ∀ (S : List (List UInt8)) (PL : List (List UInt8)), (∀ s ∈ S, s ∈ kinds) → (∀ s ∈ S, 117 ∈ s → y.imm % 4096 = 0) → (S.map fun s => plainL (s.flatMap (partI y))) = PL.map plainL → All2 y (join44 S) (inter (PL.map (tok [])))
  | [], [], _, _, _ => trivial
  | [], _ :: _, _, _, h => by simp at h
  | _ :: _, [], _, _, h => by simp at h
  | [s], [p], hk, hu, h => by
    simp at h
    exact kind_tok y hf s (hk s (by simp)) (hu s (by simp)) p h.symm
  | [s], _ :: _ :: _, _, _, h => by simp at h
  | _ :: _ :: _, [_], _, _, h => by simp at h
  | s :: s2 :: S, p :: p2 :: PL, hk, hu, h => by
    have h2 : (((s2 :: S).map fun s => plainL (s.flatMap (partI y))) = (p2 :: PL).map plainL) ∧ plainL (s.flatMap (partI y)) = plainL p := by
      rw [List.map_cons, List.map_cons (f := plainL)] at h
      simp only [List.cons.injEq] at h
      exact ⟨h.2, h.1⟩
    have r := all_join y hf (s2 :: S) (p2 :: PL) (fun x hx => hk x (by simp at hx ⊢; right; exact hx)) (fun x hx => hu x (by simp at hx ⊢; right; exact hx)) h2.1
    have k := kind_tok y hf s (hk s (by simp)) (hu s (by simp)) p h2.2.symm
    exact all2_app y s (tok [] p) (44 :: join44 (s2 :: S)) ([44] :: inter ((p2 :: PL).map (tok []))) k ⟨okt_mark y 44 (by simp), r⟩
end Go.Proofs.YtooaafbdjnlmfaaGreatDoor

namespace Go.Proofs.YtooaafbdjnlmfaaGreatDoor
open Go.RowKit
set_option linter.unusedVariables false
set_option linter.unusedSimpArgs false
/-- the parts of a text, as the document cuts them -/
def PLof (l : List UInt8) : List (List UInt8) := (partsD l).map fun p => Lib.trimS p [32, 9]
theorem pl_trimmed (l : List UInt8) : ∀ p ∈ PLof l, Trimmed p := fun p hp => by
  obtain ⟨q, _, rfl⟩ := List.mem_map.1 hp
  exact trimmed_trim q
theorem rest_tok (l : List UInt8) : tok [] (tailW [32, 9] (Lib.trimS l [32, 9])) = inter ((PLof l).map (tok [])) ∧ (∀ x ∈ (PLof l).map (tok []), [44] ∉ x) ∧ (tok [] (tailW [32, 9] (Lib.trimS l [32, 9])) = [] → PLof l = []) := by
  rw [← tok_trim]
  unfold PLof partsD
  have hT := trimmed_trim (tailW [32, 9] (Lib.trimS l [32, 9]))
  generalize Lib.trimS (tailW [32, 9] (Lib.trimS l [32, 9])) [32, 9] = r at *
  by_cases hr : r.isEmpty = true
  · rw [if_pos hr]
    have : r = [] := by simpa using hr
    subst this
    exact ⟨rfl, by simp, fun _ => rfl⟩
  · rw [if_neg hr]
    obtain ⟨p, ps, h1, h2, h3⟩ := cuts_tok r []
    have hm : ((cutsL r).map fun p => Lib.trimS p [32, 9]).map (tok []) = (cutsL r).map (tok []) := by
      rw [List.map_map]
      apply List.map_congr_left
      intro q _
      exact tok_trim q
    rw [hm, h1]
    refine ⟨h2, ?_, ?_⟩
    · intro x hx
      obtain ⟨q, hq, rfl⟩ := List.mem_map.1 hx
      intro hc
      rcases tok_comma q [] hc with h | h
      · simp at h
      · exact h3 q hq h
    · intro h
      have := shut_nil hT.2 h
      subst this
      exact absurd rfl hr
theorem tail_shut (l : List UInt8) : Shut (tailW [32, 9] (Lib.trimS l [32, 9])) :=
  shut_suffix (trimmed_trim l).2 (a := headW [32, 9] (Lib.trimS l [32, 9])) List.takeWhile_append_dropWhile.symm
theorem name_at (k : Nat) (h1 : 1 ≤ k) (h2 : k ≤ 98) (aq rl : Bool) : nameR (dNames.getD (k - 1) [] ++ markL aq rl) = (⟨(k : Int), 0, 0, 0, 0, 0, aq, rl⟩, true) := by
  have g1 := List.all_eq_true.1 names_all (k - 1) (List.mem_range.2 (by omega))
  have g2 := List.all_eq_true.1 g1 (aq, rl) (by cases aq <;> cases rl <;> simp)
  have g3 := of_decide_eq_true g2
  rw [show ((k - 1 : Nat) : Int) + 1 = (k : Int) from by omega] at g3
  exact g3
theorem shape_letters (g : Nat) (h : g ≤ 16) : ∀ c ∈ shapeF g, c ∈ letters := by
  have : ∀ g, g ≤ 16 → ((shapeF g).all fun c => letters.contains c) = true := by decide +kernel
  intro c hc
  have := List.all_eq_true.1 (this g h) c hc
  simpa using this
theorem sound (l : List UInt8) (y : Ins) (k : Nat) (h1 : 1 ≤ k) (h2 : k ≤ 98) (hk : y.op = k) (hr : y.right = true) (hn : headW [32, 9] (Lib.trimS l [32, 9]) = dNames.getD (k - 1) [] ++ markL y.aq y.rl) (ht : (takesL y.rd y.rs1 y.rs2 y.imm y.csr.toNat (dForm k)).map plainL = (PLof l).map plainL) : parseR l = (y, true) := by
  obtain ⟨hf, _, _⟩ := fits_of _ _ _ _ _ _ _ _ hr
  have hc := hf.c
  obtain ⟨sf1, sf2, sf3⟩ := shape_form k (by omega) h1
  have hset := set_all y hr
  have hko : y.op.toNat = k := by omega
  rw [hko, sf1] at hset
  have hj : All2 y (shapeF (dForm k)) (tok [] (tailW [32, 9] (Lib.trimS l [32, 9]))) := by
    rw [(rest_tok l).1, shape_subs _ sf3]
    refine all_join y hf _ _ ?_ ?_ ?_
    · intro s hs
      have := List.all_eq_true.1 (subs_kinds _ sf3) s hs
      simpa using this
    · intro s hs hu
      apply hset.2
      have := subs_up _ sf3
      have ha : (subsF (dForm k)).any (fun s => s.contains 117) = true := List.any_eq_true.2 ⟨s, hs, by simpa using hu⟩
      rw [ha] at this
      simpa using this
    · rw [← ht, takes_subs y y.csr.toNat (by omega) _ sf2 sf3, List.map_map]
      rfl
  have hpo : partsO l = (y, true) := by
    unfold partsO
    rw [hn, name_at k h1 h2]
    simp only [Int.toNat_natCast]
    rw [sf1, parts_tok _ _ _ (shape_letters _ sf3) (tail_shut l), all2_read y _ _ _ hj]
    have := hset.1
    rw [hk] at this
    rw [this]
  unfold parseR
  rw [hpo, hn, name_at k h1 h2, if_pos ⟨rfl, rfl, hr⟩]
/-- what a piece tells of an instruction -/
def Tell (z : Ins) (c : UInt8) (t : List UInt8) : Prop :=
  (c = 100 → regOk (mk t) = true ∧ intN (regT (mk t)) = z.rd) ∧ (c = 97 → regOk (mk t) = true ∧ intN (regT (mk t)) = z.rs1) ∧ (c = 98 → regOk (mk t) = true ∧ intN (regT (mk t)) = z.rs2) ∧
  (c = 110 → intOk (mk t) = true ∧ intN (mk t) = z.imm) ∧ (c = 117 → upOk (mk t) = true ∧ upN (mk t) = z.imm) ∧ (c = 99 → intOk (mk t) = true ∧ intN (mk t) = z.csr) ∧ (isMark c = true → t = [c])
def All3 (z : Ins) : List UInt8 → List (List UInt8) → Prop
  | [], [] => True
  | c :: sh, t :: ts => Tell z c t ∧ All3 z sh ts
  | _, _ => False
def Keeps (x z : Ins) (sh : List UInt8) : Prop := (100 ∉ sh → z.rd = x.rd) ∧ (97 ∉ sh → z.rs1 = x.rs1) ∧ (98 ∉ sh → z.rs2 = x.rs2) ∧ (110 ∉ sh → 117 ∉ sh → z.imm = x.imm) ∧ (99 ∉ sh → z.csr = x.csr) ∧ z.op = x.op ∧ z.aq = x.aq ∧ z.rl = x.rl
theorem read_keep (c : UInt8) (s : ByteArray) (x : Ins) : Keeps x (readS c s x).1 [c] := by
  unfold Keeps readS
  by_cases h1 : c = 100
  · subst h1; simp
  by_cases h2 : c = 97
  · subst h2; simp
  by_cases h3 : c = 98
  · subst h3; simp
  by_cases h4 : c = 110
  · subst h4; simp
  by_cases h5 : c = 117
  · subst h5; simp
  by_cases h6 : c = 99
  · subst h6; simp
  simp [h1, h2, h3, h4, h5, h6]
theorem keep_trans {x y z : Ins} {c : UInt8} {sh : List UInt8} (h : Keeps x y [c]) (g : Keeps y z sh) : Keeps x z (c :: sh) := by
  obtain ⟨h1, h2, h3, h4, h5, h6, h7, h8⟩ := h
  obtain ⟨g1, g2, g3, g4, g5, g6, g7, g8⟩ := g
  refine ⟨fun n => ?_, fun n => ?_, fun n => ?_, fun n m => ?_, fun n => ?_, g6.trans h6, g7.trans h7, g8.trans h8⟩
  · simp only [List.mem_cons, not_or] at n; exact (g1 n.2).trans (h1 (by simpa using n.1))
  · simp only [List.mem_cons, not_or] at n; exact (g2 n.2).trans (h2 (by simpa using n.1))
  · simp only [List.mem_cons, not_or] at n; exact (g3 n.2).trans (h3 (by simpa using n.1))
  · simp only [List.mem_cons, not_or] at n m; exact (g4 n.2 m.2).trans (h4 (by simpa using n.1) (by simpa using m.1))
  · simp only [List.mem_cons, not_or] at n; exact (g5 n.2).trans (h5 (by simpa using n.1))
theorem readT_keep : ∀ (sh : List UInt8) (ts : List (List UInt8)) (x z : Ins), readT sh ts x = (z, true) → Keeps x z sh
  | [], ts, x, z, h => by
    rw [readT] at h
    have : x = z := congrArg Prod.fst h
    subst this
    exact ⟨fun _ => rfl, fun _ => rfl, fun _ => rfl, fun _ _ => rfl, fun _ => rfl, rfl, rfl, rfl⟩
  | c :: sh, [], x, z, h => by rw [readT] at h; cases h
  | c :: sh, t :: ts, x, z, h => by
    rw [readT] at h
    split at h
    · exact keep_trans (read_keep c (mk t) x) (readT_keep sh ts _ z h)
    · cases h
/-- each letter once -/
def onceB : List UInt8 → Bool
  | [] => true
  | c :: sh => (isMark c || (!sh.contains c && !(c == 110 && sh.contains 117) && !(c == 117 && sh.contains 110))) && onceB sh
theorem once_all : ∀ g, g ≤ 16 → onceB (shapeF g) = true := by decide +kernel
theorem readT_all : ∀ (sh : List UInt8) (ts : List (List UInt8)) (x z : Ins), onceB sh = true → (∀ c ∈ sh, c ∈ letters) → readT sh ts x = (z, true) → All3 z sh ts
  | [], [], x, z, _, _, h => trivial
  | [], t :: ts, x, z, _, _, h => by rw [readT] at h; cases h
  | c :: sh, [], x, z, _, _, h => by rw [readT] at h; cases h
  | c :: sh, t :: ts, x, z, ho, hl, h => by
    rw [readT] at h
    split at h
    · rename_i hok
      rw [onceB, Bool.and_eq_true] at ho
      refine ⟨?_, readT_all sh ts _ z ho.2 (fun a ha => hl a (by simp [ha])) h⟩
      have hk := readT_keep sh ts _ z h
      have hc := hl c (by simp)
      have ho1 := ho.1
      simp only [letters, List.mem_cons, List.not_mem_nil, or_false] at hc
      unfold Tell
      rcases hc with rfl | rfl | rfl | rfl | rfl | rfl | rfl | rfl | rfl
      · have hn : (100 : UInt8) ∉ sh := by simpa [isMark] using ho1
        have e := hk.1 hn
        simp [readS] at e hok ⊢
        exact ⟨⟨hok, e.symm⟩, fun h => absurd h (by decide)⟩
      · have hn : (97 : UInt8) ∉ sh := by simpa [isMark] using ho1
        have e := hk.2.1 hn
        simp [readS] at e hok ⊢
        exact ⟨⟨hok, e.symm⟩, fun h => absurd h (by decide)⟩
      · have hn : (98 : UInt8) ∉ sh := by simpa [isMark] using ho1
        have e := hk.2.2.1 hn
        simp [readS] at e hok ⊢
        exact ⟨⟨hok, e.symm⟩, fun h => absurd h (by decide)⟩
      · have hn : (110 : UInt8) ∉ sh ∧ (117 : UInt8) ∉ sh := by simpa [isMark] using ho1
        have e := hk.2.2.2.1 hn.1 hn.2
        simp [readS] at e hok ⊢
        exact ⟨⟨hok, e.symm⟩, fun h => absurd h (by decide)⟩
      · have hn : (117 : UInt8) ∉ sh ∧ (110 : UInt8) ∉ sh := by simpa [isMark] using ho1
        have e := hk.2.2.2.1 hn.2 hn.1
        simp [readS] at e hok ⊢
        exact ⟨⟨hok, e.symm⟩, fun h => absurd h (by decide)⟩
      · have hn : (99 : UInt8) ∉ sh := by simpa [isMark] using ho1
        have e := hk.2.2.2.2.1 hn
        simp [readS] at e hok ⊢
        exact ⟨⟨hok, e.symm⟩, fun h => absurd h (by decide)⟩
      · have e : (mk t).toList = [44] := by
          have h9 : ((mk t).toList == [44]) = true := hok
          simpa only [beq_iff_eq] using h9
        rw [list_mk] at e
        have e2 : t = [44] := e
        simp [e2]
      · have e : (mk t).toList = [40] := by
          have h9 : ((mk t).toList == [40]) = true := hok
          simpa only [beq_iff_eq] using h9
        rw [list_mk] at e
        have e2 : t = [40] := e
        simp [e2]
      · have e : (mk t).toList = [41] := by
          have h9 : ((mk t).toList == [41]) = true := hok
          simpa only [beq_iff_eq] using h9
        rw [list_mk] at e
        have e2 : t = [41] := e
        simp [e2]
    · cases h
theorem bad44 : intOk (mk [44]) = false ∧ regOk (mk [44]) = false := by decide +kernel
theorem tell_44 {z : Ins} {c : UInt8} (hc : c ∈ letters) (h : Tell z c [44]) : c = 44 := by
  obtain ⟨b1, b2⟩ := bad44
  obtain ⟨h1, h2, h3, h4, h5, h6, h7⟩ := h
  simp only [letters, List.mem_cons, List.not_mem_nil, or_false] at hc
  rcases hc with rfl | rfl | rfl | rfl | rfl | rfl | rfl | rfl | rfl
  · exact absurd (h1 rfl).1 (by rw [b2]; decide)
  · exact absurd (h2 rfl).1 (by rw [b2]; decide)
  · exact absurd (h3 rfl).1 (by rw [b2]; decide)
  · exact absurd (h4 rfl).1 (by rw [b1]; decide)
  · have := (h5 rfl).1; unfold upOk at this; rw [b1] at this; exact absurd this (by simp)
  · exact absurd (h6 rfl).1 (by rw [b1]; decide)
  · rfl
  · exact absurd (h7 (by decide)) (by decide)
  · exact absurd (h7 (by decide)) (by decide)
theorem align (z : Ins) : ∀ (s : List UInt8) (x : List (List UInt8)) (J : List UInt8) (I : List (List UInt8)), (∀ c ∈ s, c ∈ letters) → 44 ∉ s → [44] ∉ x → All3 z (s ++ 44 :: J) (x ++ [44] :: I) → All3 z s x ∧ All3 z J I
  | [], [], J, I, _, _, _, h => ⟨trivial, h.2⟩
  | [], t :: x, J, I, _, _, hx, h => by
    have := h.1.2.2.2.2.2.2 (by decide)
    exact absurd (by simp [this]) hx
  | c :: s, [], J, I, hl, hs, _, h => by
    have := tell_44 (hl c (by simp)) h.1
    exact absurd (by simp [this]) hs
  | c :: s, t :: x, J, I, hl, hs, hx, h => by
    have r := align z s x J I (fun a ha => hl a (by simp [ha])) (fun e => hs (by simp [e])) (fun e => hx (by simp [e])) h.2
    exact ⟨⟨h.1, r.1⟩, r.2⟩
theorem align_no1 (z : Ins) : ∀ (s : List UInt8) (x : List (List UInt8)) (I : List (List UInt8)), (∀ c ∈ s, c ∈ letters) → 44 ∉ s → All3 z s (x ++ [44] :: I) → False
  | [], [], I, _, _, h => h
  | [], t :: x, I, _, _, h => h
  | c :: s, [], I, hl, hs, h => hs (by simp [tell_44 (hl c (by simp)) h.1])
  | c :: s, t :: x, I, hl, hs, h => align_no1 z s x I (fun a ha => hl a (by simp [ha])) (fun e => hs (by simp [e])) h.2
theorem align_no2 (z : Ins) : ∀ (s : List UInt8) (x : List (List UInt8)) (J : List UInt8), [44] ∉ x → All3 z (s ++ 44 :: J) x → False
  | [], [], J, _, h => h
  | [], t :: x, J, hx, h => hx (by simp [h.1.2.2.2.2.2.2 (by decide)])
  | c :: s, [], J, _, h => h
  | c :: s, t :: x, J, hx, h => align_no2 z s x J (fun e => hx (by simp [e])) h.2
def Pairs (z : Ins) : List (List UInt8) → List (List (List UInt8)) → Prop
  | [], [] => True
  | s :: S, x :: X => All3 z s x ∧ Pairs z S X
  | _, _ => False
theorem pairs_of (z : Ins) : ∀ (S : List (List UInt8)) (X : List (List (List UInt8))), S ≠ [] → X ≠ [] → (∀ s ∈ S, (∀ c ∈ s, c ∈ letters) ∧ 44 ∉ s) → (∀ x ∈ X, [44] ∉ x) → All3 z (join44 S) (inter X) → Pairs z S X
  | [], _, h, _, _, _, _ => absurd rfl h
  | _, [], _, h, _, _, _ => absurd rfl h
  | [s], [x], _, _, hs, hx, h => ⟨h, trivial⟩
  | [s], x :: y :: X, _, _, hs, hx, h => (align_no1 z s x _ (hs s (by simp)).1 (hs s (by simp)).2 h).elim
  | s :: s2 :: S, [x], _, _, hs, hx, h => (align_no2 z s x _ (hx x (by simp)) h).elim
  | s :: s2 :: S, x :: y :: X, _, _, hs, hx, h => by
    have r := align z s x _ _ (hs s (by simp)).1 (hs s (by simp)).2 (hx x (by simp)) h
    exact ⟨r.1, pairs_of z (s2 :: S) (y :: X) (by simp) (by simp) (fun a ha => hs a (by simp at ha ⊢; right; exact ha)) (fun a ha => hx a (by simp at ha ⊢; right; exact ha)) r.2⟩
end Go.Proofs.YtooaafbdjnlmfaaGreatDoor

namespace Go.Proofs.YtooaafbdjnlmfaaGreatDoor
open Go.RowKit
set_option linter.unusedVariables false
set_option linter.unusedSimpArgs false
theorem reg_is {t : List UInt8} {n : Int} (h : regOk (mk t) = true ∧ intN (regT (mk t)) = n) : t = regL n := by
  obtain ⟨h1, h2⟩ := h
  unfold regOk at h1
  rw [Bool.and_eq_true, h2] at h1
  have h3 : (mk (regL n)).toList = (mk t).toList := by simpa only [beq_iff_eq] using h1.2
  rw [list_mk, list_mk] at h3
  exact h3.symm
theorem wrap_in {x : Int} (h : In64 x) : wrap64 x = x := by unfold In64 at h; unfold wrap64; omega
theorem all3_one {z : Ins} {c : UInt8} {ts : List (List UInt8)} (h : All3 z [c] ts) : ∃ t, ts = [t] ∧ Tell z c t := by
  match ts, h with
  | [t], h => exact ⟨t, rfl, h.1⟩
theorem reg_bracket {n : Int} (hn : In64 n) : bracketL (regL n) = regL n := by
  unfold bracketL
  rw [if_neg]
  rintro ⟨h1, _⟩
  exact word_no (reg_word n hn) mark40 (by simpa using h1)
theorem num_number {p : List UInt8} {n : Int} (h : intOk (mk p) = true ∧ intN (mk p) = n) : numberL p = (n, true) := by
  unfold numberL; rw [if_pos h.1, h.2]
/-- what a part tells of an instruction -/
def Told (z : Ins) (s p : List UInt8) : Prop := plainL p = plainL (s.flatMap (partI z)) ∧ (100 ∈ s → bracketL p = regL z.rd) ∧ (97 ∈ s → bracketL p = regL z.rs1) ∧ (98 ∈ s → bracketL p = regL z.rs2) ∧ (110 ∈ s → numberL p = (z.imm, true)) ∧ (117 ∈ s → numberL p = (z.imm.tdiv 4096, true)) ∧ (99 ∈ s → numberL p = (z.csr, true))
theorem kind_back (z : Ins) (hf : Fits z.rd z.rs1 z.rs2 z.imm z.csr) (s : List UInt8) (hs : s ∈ kinds) (p : List UInt8) (hp : Trimmed p) (h : All3 z s (tok [] p)) : Told z s p := by
  have h1 := in64_reg hf.d; have h2 := in64_reg hf.a; have h3 := in64_reg hf.b
  have h4 := hf.n; have h5 := hf.c
  have hi : In64 z.imm := ⟨by omega, by omega⟩
  have hone : ∀ c, [c].flatMap (partI z) = partI z c := fun c => by simp
  unfold Told
  simp only [kinds, List.mem_cons, List.not_mem_nil, or_false] at hs
  rcases hs with rfl | rfl | rfl | rfl | rfl | rfl | rfl | rfl
  · obtain ⟨t, ht, tl⟩ := all3_one h
    have e := single hp ht
    have r := reg_is (tl.1 rfl)
    subst e; subst r
    simp [partI, partL, reg_bracket h1]
  · obtain ⟨t, ht, tl⟩ := all3_one h
    have e := single hp ht
    have r := reg_is (tl.2.1 rfl)
    subst e; subst r
    simp [partI, partL, reg_bracket h2]
  · obtain ⟨t, ht, tl⟩ := all3_one h
    have e := single hp ht
    have r := reg_is (tl.2.2.1 rfl)
    subst e; subst r
    simp [partI, partL, reg_bracket h3]
  · obtain ⟨t, ht, tl⟩ := all3_one h
    have e := single hp ht
    have r := tl.2.2.2.1 rfl
    subst e
    rw [hone]
    refine ⟨?_, by simp, by simp, by simp, fun _ => num_number r, by simp, by simp⟩
    rw [plain_int r.1, r.2]
    show _ = plainL (Lib.itoa z.imm)
    rw [plain_int (itoa_int hi).1, (itoa_int hi).2]
  · obtain ⟨t, ht, tl⟩ := all3_one h
    have e := single hp ht
    have r := tl.2.2.2.2.1 rfl
    subst e
    rw [hone]
    have hb := tdiv_bounds z.imm h4
    have r1 := r.1
    unfold upOk at r1
    rw [r.2, Bool.and_eq_true, wrap_in hb] at r1
    have r2 : intOk (mk p) = true ∧ intN (mk p) = z.imm.tdiv 4096 := ⟨r1.1, by have := r1.2; simp only [beq_iff_eq] at this; exact this.symm⟩
    refine ⟨?_, by simp, by simp, by simp, by simp, fun _ => num_number r2, by simp⟩
    rw [plain_int r2.1, r2.2]
    show _ = plainL (Lib.itoa (z.imm.tdiv 4096))
    rw [plain_int (itoa_int hb).1, (itoa_int hb).2]
  · obtain ⟨t, ht, tl⟩ := all3_one h
    have e := single hp ht
    have r := tl.2.2.2.2.2.1 rfl
    subst e
    rw [hone]
    refine ⟨?_, by simp, by simp, by simp, by simp, by simp, fun _ => num_number r⟩
    rw [plain_int r.1, r.2]
    show _ = plainL (hexL z.csr.toNat)
    have hb := csr_back z.csr.toNat (by omega)
    rw [plain_int hb.2, hb.1, show ((z.csr.toNat : Nat) : Int) = z.csr from by omega]
  · obtain ⟨a, b, q, d, ht, ta, tb, tq, td⟩ : ∃ a b q d, tok [] p = [a, b, q, d] ∧ Tell z 110 a ∧ Tell z 40 b ∧ Tell z 97 q ∧ Tell z 41 d := by
      match hts : tok [] p, h with
      | [a, b, q, d], h => exact ⟨a, b, q, d, rfl, h.1, h.2.1, h.2.2.1, h.2.2.2.1⟩
    have eb := tb.2.2.2.2.2.2 (by decide)
    have ed := td.2.2.2.2.2.2 (by decide)
    have ra := ta.2.2.2.1 rfl
    have rq := reg_is (tq.2.1 rfl)
    subst eb; subst ed; subst rq
    have haw := int_word a ra.1
    obtain ⟨c1, c2, c3, c4⟩ := br_d2 (X := [a]) hp (by
      intro hm
      simp at hm
      exact word_no haw mark40 (by simp [← hm])) ht
    have ea := single (trimmed_trim _) c3
    obtain ⟨p1, p2, p3⟩ := br_plain c1 c2
    rw [c4] at p1 p2
    rw [ea] at p1 p3
    have hfl : [110, 40, 97, 41].flatMap (partI z) = Lib.itoa z.imm ++ [40] ++ regL z.rs1 ++ [41] := by
      simp; rfl
    refine ⟨?_, by simp, fun _ => p2, by simp, fun _ => by rw [p3, ra.1, ra.2], by simp, by simp⟩
    rw [p1, hfl]
    have hc : (Lib.itoa z.imm ++ [40] ++ regL z.rs1 ++ [41]).contains 40 = true := by simp
    have hl : (Lib.itoa z.imm ++ [40] ++ regL z.rs1 ++ [41]).getLast? = some 41 := by
      rw [show Lib.itoa z.imm ++ [40] ++ regL z.rs1 ++ [41] = Lib.itoa z.imm ++ 40 :: (regL z.rs1 ++ [41]) from by simp]; exact last_cons _ _ _
    have hsp := split_br _ hc hl
    have e : Lib.itoa z.imm ++ 40 :: (regL z.rs1 ++ [41]) = aheadL (Lib.itoa z.imm ++ [40] ++ regL z.rs1 ++ [41]) ++ 40 :: (insideL (Lib.itoa z.imm ++ [40] ++ regL z.rs1 ++ [41]) ++ [41]) := by rw [← hsp]; simp
    obtain ⟨a1, a2⟩ := app_first _ _ _ _ (word_no (itoa_word _ hi) mark40) (ahead_no _) e
    have a3 := List.append_cancel_right a2
    rw [(br_plain hc hl).1, ← a1, ← a3]
    have t1 : Lib.trimS (Lib.itoa z.imm) [32, 9] = Lib.itoa z.imm := single (trimmed_trim _) (by rw [tok_trim]; exact tok_word (itoa_word _ hi))
    have t2 : Lib.trimS (regL z.rs1) [32, 9] = regL z.rs1 := single (trimmed_trim _) (by rw [tok_trim]; exact tok_word (reg_word _ h2))
    rw [t1, t2]
    unfold plain2L
    rw [if_pos (itoa_int hi).1, (itoa_int hi).2, if_pos ra.1, ra.2]
  · obtain ⟨b, q, d, ht, tb, tq, td⟩ : ∃ b q d, tok [] p = [b, q, d] ∧ Tell z 40 b ∧ Tell z 97 q ∧ Tell z 41 d := by
      match hts : tok [] p, h with
      | [b, q, d], h => exact ⟨b, q, d, rfl, h.1, h.2.1, h.2.2.1⟩
    have eb := tb.2.2.2.2.2.2 (by decide)
    have ed := td.2.2.2.2.2.2 (by decide)
    have rq := reg_is (tq.2.1 rfl)
    subst eb; subst ed; subst rq
    obtain ⟨c1, c2, c3, c4⟩ := br_d2 (X := []) hp (by simp) ht
    have ea := shut_nil (trimmed_trim _).2 c3
    obtain ⟨p1, p2, p3⟩ := br_plain c1 c2
    rw [c4] at p1 p2
    rw [ea] at p1
    have hfl : [40, 97, 41].flatMap (partI z) = [] ++ [40] ++ regL z.rs1 ++ [41] := by
      simp; rfl
    refine ⟨?_, by simp, fun _ => p2, by simp, by simp, by simp, by simp⟩
    rw [p1, hfl]
    have hc : ([] ++ [40] ++ regL z.rs1 ++ [41]).contains 40 = true := by simp
    have hl : ([] ++ [40] ++ regL z.rs1 ++ [41]).getLast? = some 41 := by
      rw [show [] ++ [40] ++ regL z.rs1 ++ [41] = [] ++ 40 :: (regL z.rs1 ++ [41]) from by simp]; exact last_cons _ _ _
    have hsp := split_br _ hc hl
    have e : [] ++ 40 :: (regL z.rs1 ++ [41]) = aheadL ([] ++ [40] ++ regL z.rs1 ++ [41]) ++ 40 :: (insideL ([] ++ [40] ++ regL z.rs1 ++ [41]) ++ [41]) := by rw [← hsp]; simp
    obtain ⟨a1, a2⟩ := app_first _ _ _ _ (by simp) (ahead_no _) e
    have a3 := List.append_cancel_right a2
    rw [(br_plain hc hl).1, ← a1, ← a3]
    have t2 : Lib.trimS (regL z.rs1) [32, 9] = regL z.rs1 := single (trimmed_trim _) (by rw [tok_trim]; exact tok_word (reg_word _ h2))
    rw [show Lib.trimS [] [32, 9] = [] from rfl, t2]
theorem pairs_told (z : Ins) (hf : Fits z.rd z.rs1 z.rs2 z.imm z.csr) : ∀ (S : List (List UInt8)) (PL : List (List UInt8)), (∀ s ∈ S, s ∈ kinds) → (∀ p ∈ PL, Trimmed p) → Pairs z S (PL.map (tok [])) → (S.map fun s => plainL (s.flatMap (partI z))) = PL.map plainL ∧ PL.length = S.length ∧ ∀ s ∈ S, ∃ p ∈ PL, Told z s p
  | [], [], _, _, _ => ⟨rfl, rfl, by simp⟩
  | [], _ :: _, _, _, h => h.elim
  | _ :: _, [], _, _, h => h.elim
  | s :: S, p :: PL, hk, ht, h => by
    have a := kind_back z hf s (hk s (by simp)) p (ht p (by simp)) h.1
    obtain ⟨b, b3, b2⟩ := pairs_told z hf S PL (fun x hx => hk x (by simp [hx])) (fun x hx => ht x (by simp [hx])) h.2
    refine ⟨?_, by simp [b3], ?_⟩
    · rw [List.map_cons, List.map_cons, b, a.1]
    · intro x hx
      rcases List.mem_cons.1 hx with rfl | hx
      · exact ⟨p, by simp, a⟩
      · obtain ⟨q, hq, hw⟩ := b2 x hx
        exact ⟨q, by simp [hq], hw⟩
theorem suffix_cut (l m : List UInt8) (h : Lib.hasSuffix l m = true) : l = Lib.trimSuffix l m ++ m := by
  unfold Lib.trimSuffix
  rw [if_pos h]
  unfold Lib.hasSuffix at h
  have hs : m <:+ l := List.isSuffixOf_iff_suffix.1 h
  obtain ⟨t, rfl⟩ := hs
  simp
theorem find_name (l : List UInt8) (h : findI l ≠ 0) : l = dNames.getD ((findI l).toNat - 1) [] := by
  unfold findI at *
  cases hm : dNames.findIdx? (fun d => d == l) with
  | none => rw [hm] at h; exact absurd rfl h
  | some m =>
    obtain ⟨h1, h2, _⟩ := List.findIdx?_eq_some_iff_getElem.1 hm
    simp only [beq_iff_eq] at h2
    have e : ((m : Int) + 1).toNat - 1 = m := by omega
    simp only [e]
    rw [List.getD_eq_getElem?_getD, List.getElem?_eq_getElem h1]
    exact h2.symm
theorem step_name (l : List UInt8) : ∀ (t : List (Bool × Bool)) (y : Ins), nameStep l t = (y, true) → 1 ≤ y.op ∧ y.op ≤ 98 ∧ l = dNames.getD (y.op.toNat - 1) [] ++ markL y.aq y.rl ∧ y = ⟨y.op, 0, 0, 0, 0, 0, y.aq, y.rl⟩
  | [], y, h => by rw [nameStep] at h; cases h
  | (a, r) :: t, y, h => by
    rw [nameStep] at h
    split at h
    · rename_i hc
      have e : y = ⟨findI (Lib.trimSuffix l (markL a r)), 0, 0, 0, 0, 0, a, r⟩ := (congrArg Prod.fst h).symm
      subst e
      have hr := find_range _ hc.2
      refine ⟨hr.1, hr.2, ?_, rfl⟩
      show l = dNames.getD ((findI (Lib.trimSuffix l (markL a r))).toNat - 1) [] ++ markL a r
      rw [← find_name _ hc.2]
      exact suffix_cut l _ hc.1
    · exact step_name l t y h
theorem subs_letters : ∀ g, g ≤ 16 → ((subsF g).all fun s => (s.all fun c => letters.contains c) && !s.contains 44) = true := by decide +kernel
/-- what a text that is read tells -/
structure Found (l : List UInt8) (z : Ins) (k : Nat) : Prop where
  k1 : 1 ≤ k
  k2 : k ≤ 98
  op : z.op = k
  right : z.right = true
  name : headW [32, 9] (Lib.trimS l [32, 9]) = dNames.getD (k - 1) [] ++ markL z.aq z.rl
  takes : (takesL z.rd z.rs1 z.rs2 z.imm z.csr.toNat (dForm k)).map plainL = (PLof l).map plainL
  len : (PLof l).length ≤ 3
  told : ∀ s ∈ subsF (dForm k), ∃ p ∈ PLof l, Told z s p
  keep : Keeps ⟨(k : Int), 0, 0, 0, 0, 0, z.aq, z.rl⟩ z (shapeF (dForm k))
theorem subs_len : ∀ g, g ≤ 16 → (subsF g).length ≤ 3 := by decide +kernel
theorem found (l : List UInt8) (z : Ins) (h : parseR l = (z, true)) : ∃ k, Found l z k := by
  unfold parseR at h
  split at h
  · rename_i hc
    obtain ⟨c1, c2, c3⟩ := hc
    have ez : (partsO l).1 = z := congrArg Prod.fst h
    rw [ez] at c3
    have hpo : partsO l = (z, true) := by rw [← ez, ← c2]
    obtain ⟨y, ey⟩ : ∃ y, nameR (headW [32, 9] (Lib.trimS l [32, 9])) = (y, true) := ⟨(nameR (headW [32, 9] (Lib.trimS l [32, 9]))).1, by rw [← c1]⟩
    obtain ⟨n1, n2, n3, n4⟩ := step_name _ _ y ey
    unfold partsO at hpo
    rw [ey] at hpo
    simp only at hpo
    obtain ⟨k, hk⟩ : ∃ k : Nat, y.op = k := ⟨y.op.toNat, by omega⟩
    rw [hk, Int.toNat_natCast] at hpo n3
    have k1 : 1 ≤ k := by omega
    have k2 : k ≤ 98 := by omega
    obtain ⟨sf1, sf2, sf3⟩ := shape_form k (by omega) k1
    rw [sf1, parts_tok _ _ _ (shape_letters _ sf3) (tail_shut l)] at hpo
    have hkeep := readT_keep _ _ _ _ hpo
    obtain ⟨_, _, _, _, _, ko, ka, kr⟩ := id hkeep
    have h3 := readT_all _ _ _ _ (once_all _ sf3) (shape_letters _ sf3) hpo
    obtain ⟨hf, _, _⟩ := fits_of _ _ _ _ _ _ _ _ c3
    obtain ⟨t1, t2, t3⟩ := rest_tok l
    have hsk : ∀ s ∈ subsF (dForm k), s ∈ kinds := fun s hs => by
      have := List.all_eq_true.1 (subs_kinds _ sf3) s hs
      simpa using this
    have hsl : ∀ s ∈ subsF (dForm k), (∀ c ∈ s, c ∈ letters) ∧ 44 ∉ s := fun s hs => by
      have := List.all_eq_true.1 (subs_letters _ sf3) s hs
      rw [Bool.and_eq_true] at this
      refine ⟨fun c hc => ?_, by simpa using this.2⟩
      have := List.all_eq_true.1 this.1 c hc
      simpa using this
    have hpairs : Pairs z (subsF (dForm k)) ((PLof l).map (tok [])) := by
      rw [shape_subs _ sf3] at h3
      by_cases hS : subsF (dForm k) = []
      · rw [hS] at h3 ⊢
        have e0 : tok [] (tailW [32, 9] (Lib.trimS l [32, 9])) = [] := by
          match htk : tok [] (tailW [32, 9] (Lib.trimS l [32, 9])), h3 with
          | [], _ => rfl
        rw [t3 e0]
        trivial
      · rw [t1] at h3
        refine pairs_of z _ _ hS ?_ hsl t2 h3
        intro e
        rw [e] at h3
        cases hj : join44 (subsF (dForm k)) with
        | nil =>
          have hjj : ∀ g, g ≤ 16 → (decide (subsF g = []) || !decide (join44 (subsF g) = [])) = true := by decide +kernel
          have := hjj _ sf3
          rw [hj] at this
          simp at this
          exact hS this
        | cons c sh => rw [hj] at h3; exact h3
    obtain ⟨p1, p3, p2⟩ := pairs_told z hf _ _ hsk (pl_trimmed l) hpairs
    refine ⟨k, k1, k2, by rw [ko, hk], c3, ?_, ?_, ?_, p2, ?_⟩
    · rw [ka, kr]; exact n3
    · rw [takes_subs z z.csr.toNat (by have := hf.c; omega) _ sf2 sf3, List.map_map, ← p1]
      rfl
    · rw [p3]; exact subs_len _ sf3
    · have e : y = ⟨(k : Int), 0, 0, 0, 0, 0, z.aq, z.rl⟩ := by rw [n4, hk, ka, kr]
      rw [← e]; exact hkeep
  · cases h
end Go.Proofs.YtooaafbdjnlmfaaGreatDoor
