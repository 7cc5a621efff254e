/- What Print writes Parse reads: an instruction that is right is read from its own text. -/
import Derived.Test.YtooaafbdjnlmfaaGreatDoorQParseA
import Derived.Test.YtooaafbdjnlmfaaGreatDoorQPart
namespace Go.Proofs.YtooaafbdjnlmfaaGreatDoor
open Go.RowKit
set_option linter.unusedVariables false
set_option linter.unusedSimpArgs false
/-- bytes that stand in numbers and registers -/
def good (b : UInt8) : Bool := b.toNat == 45 || (decide (48 ≤ b.toNat ∧ b.toNat ≤ 57) || (decide (97 ≤ b.toNat ∧ b.toNat ≤ 102) || b.toNat == 120))
def Goods (t : List UInt8) : Prop := t ≠ [] ∧ ∀ b ∈ t, good b = true
theorem good_free (b : UInt8) (h : good b = true) : ([44, 40, 41, 32, 9] : List UInt8).contains b = false := by
  have : ∀ n : Fin 256, good (UInt8.ofNat n.val) = true → ([44, 40, 41, 32, 9] : List UInt8).contains (UInt8.ofNat n.val) = false := by decide +kernel
  have h2 := this ⟨b.toNat, b.toNat_lt⟩
  rw [UInt8.ofNat_toNat] at h2
  exact h2 h
theorem good_blank (b : UInt8) (h : good b = true) : ([32, 9] : List UInt8).contains b = false := by
  have : ∀ n : Fin 256, good (UInt8.ofNat n.val) = true → ([32, 9] : List UInt8).contains (UInt8.ofNat n.val) = false := by decide +kernel
  have h2 := this ⟨b.toNat, b.toNat_lt⟩
  rw [UInt8.ofNat_toNat] at h2
  exact h2 h
theorem good_ascii (b : UInt8) (h : good b = true) : b.toNat < 128 := by
  unfold good at h; simp at h; omega
theorem dch_good (d : Nat) (h : d < 16) : good (dch d) = true := by
  have : ∀ d : Fin 16, good (dch d.val) = true := by decide +kernel
  exact this ⟨d, h⟩
theorem dtext_good (b : Nat) (hb : b ≤ 16) (hb0 : 0 < b) : ∀ f x, ∀ c ∈ dtext b f x, good c = true
  | 0, _, c, h => by simp [dtext] at h
  | f + 1, x, c, h => by
    rw [dtext] at h
    split at h
    · simp at h; rw [h]; exact dch_good _ (by omega)
    · rw [List.mem_append] at h
      rcases h with h | h
      · exact dtext_good b hb hb0 f _ c h
      · simp at h; rw [h]; exact dch_good _ (Nat.lt_of_lt_of_le (Nat.mod_lt _ hb0) hb)
theorem dec_good (u : Nat) (hu : u < 100000000000000000000) : Goods (Lib.decDigits u) := by
  rw [← dtext_dec 19 u (by simpa using hu)]
  refine ⟨fun h => ?_, dtext_good 10 (by decide) (by decide) _ _⟩
  have := dtext_pos 10 19 u
  rw [h] at this
  simp at this
theorem itoa_good (n : Int) (h0 : -9223372036854775808 ≤ n) (h1 : n ≤ 9223372036854775807) : Goods (Lib.itoa n) := by
  unfold Lib.itoa
  split
  · have h := dec_good n.natAbs (by omega)
    refine ⟨by simp, fun b hb => ?_⟩
    rcases List.mem_cons.1 hb with rfl | hb
    · decide
    · exact h.2 b hb
  · exact dec_good _ (by omega)
theorem reg_good (n : Int) (h0 : -9223372036854775808 ≤ n) (h1 : n ≤ 9223372036854775807) : Goods (regL n) := by
  have h := itoa_good n h0 h1
  refine ⟨by simp [regL], fun b hb => ?_⟩
  rcases List.mem_cons.1 hb with rfl | hb
  · decide
  · exact h.2 b hb
theorem hex_good (x : Nat) : Goods (hexL x) := by
  refine ⟨by simp [hexL], fun b hb => ?_⟩
  rcases List.mem_cons.1 hb with rfl | hb
  · decide
  rcases List.mem_cons.1 hb with rfl | hb
  · decide
  exact dtext_good 16 (by decide) (by decide) _ _ b hb
def isMark (c : UInt8) : Bool := ([44, 40, 41] : List UInt8).contains c
theorem part_good (rd rs1 rs2 imm csr : Int) (hf : Fits rd rs1 rs2 imm csr) (c : UInt8) (hc : c ∈ letters) (hm : isMark c = false) : Goods (partL rd rs1 rs2 imm csr c) := by
  have h1 := hf.d; have h2 := hf.a; have h3 := hf.b; have h4 := hf.n
  have h5 := tdiv_bounds imm h4
  simp only [letters, List.mem_cons, List.not_mem_nil, or_false] at hc
  unfold partL
  rcases hc with rfl | rfl | rfl | rfl | rfl | rfl | rfl | rfl | rfl
  · exact reg_good rd (by omega) (by omega)
  · exact reg_good rs1 (by omega) (by omega)
  · exact reg_good rs2 (by omega) (by omega)
  · exact itoa_good imm (by omega) (by omega)
  · exact itoa_good _ h5.1 h5.2
  · exact hex_good _
  · exact absurd hm (by decide)
  · exact absurd hm (by decide)
  · exact absurd hm (by decide)
theorem part_mark (rd rs1 rs2 imm csr : Int) (c : UInt8) (hc : c ∈ letters) (hm : isMark c = true) : partL rd rs1 rs2 imm csr c = [c] := by
  simp only [letters, List.mem_cons, List.not_mem_nil, or_false] at hc
  rcases hc with rfl | rfl | rfl | rfl | rfl | rfl | rfl | rfl | rfl <;> first | rfl | exact absurd hm (by decide)
/-- a text that is empty or begins with a mark -/
def Ends (l : List UInt8) : Prop := l = [] ∨ ∃ c r, l = c :: r ∧ isMark c = true
theorem head_ends (l : List UInt8) (h : Ends l) : headW [44, 40, 41, 32, 9] l = [] := by
  rcases h with rfl | ⟨c, r, rfl, hm⟩
  · rfl
  · unfold headW
    rw [List.takeWhile_cons]
    have : ([44, 40, 41, 32, 9] : List UInt8).contains c = true := by
      unfold isMark at hm
      simp at hm ⊢
      rcases hm with h | h | h <;> simp [h]
    rw [this]; rfl
theorem head_goods : ∀ (t l : List UInt8), (∀ b ∈ t, good b = true) → Ends l → headW [44, 40, 41, 32, 9] (t ++ l) = t
  | [], l, _, h => head_ends l h
  | b :: t, l, ht, h => by
    have := head_goods t l (fun c hc => ht c (List.mem_cons_of_mem _ hc)) h
    unfold headW at *
    rw [List.cons_append, List.takeWhile_cons, good_free b (ht b List.mem_cons_self)]
    simp only [Bool.not_false, if_true]
    rw [this]
theorem bare_good (b : UInt8) (l : List UInt8) (h : ([32, 9] : List UInt8).contains b = false) : bare (b :: l) = b :: l := by
  unfold bare Lib.trimLeftS
  rw [List.dropWhile_cons, h]; rfl
theorem mark_blank (c : UInt8) (h : isMark c = true) : ([32, 9] : List UInt8).contains c = false := by
  unfold isMark at h
  simp at h ⊢
  rcases h with h | h | h <;> simp [h]
theorem piece_goods (t l : List UInt8) (ht : Goods t) (h : Ends l) : bare (t ++ l) = t ++ l ∧ pieceL (t ++ l) = t := by
  obtain ⟨b, t', rfl⟩ : ∃ b t', t = b :: t' := List.exists_cons_of_ne_nil ht.1
  refine ⟨bare_good b _ (good_blank b (ht.2 b List.mem_cons_self)), ?_⟩
  unfold pieceL
  rw [head_goods _ l ht.2 h, if_neg ht.1]
theorem piece_mark (c : UInt8) (l : List UInt8) (h : isMark c = true) : bare (c :: l) = c :: l ∧ pieceL (c :: l) = [c] := by
  refine ⟨bare_good c _ (mark_blank c h), ?_⟩
  unfold pieceL
  rw [head_ends _ (.inr ⟨c, l, rfl, h⟩), if_pos rfl]
  rfl
/-- one field of an instruction, told by a letter -/
def setP (x : Ins) (y : Ins) (c : UInt8) : Ins := if c = 100 then {y with rd := x.rd} else if c = 97 then {y with rs1 := x.rs1} else if c = 98 then {y with rs2 := x.rs2} else if c = 110 then {y with imm := x.imm} else if c = 117 then {y with imm := x.imm} else if c = 99 then {y with csr := x.csr} else y
theorem reg_back (n : Int) (h0 : 0 ≤ n) (h1 : n ≤ 31) : intN (regT (mk (regL n))) = n ∧ regOk (mk (regL n)) = true := by
  have e : regT (mk (regL n)) = decS n := by
    rw [decS_mk]
    unfold regT
    rw [show (mk (regL n)).data.toList = 120 :: Lib.itoa n from rfl]
    rfl
  have hb := dec_back n (by omega) (by omega)
  refine ⟨by rw [e]; exact hb.1, ?_⟩
  unfold regOk
  rw [e, hb.1, hb.2]
  simp
theorem csr_back (x : Nat) (hx : x ≤ 4095) : intN (mk (hexL x)) = x ∧ intOk (mk (hexL x)) = true := by
  rw [← hexS_mk]
  have hb := hex_back x (by omega)
  have hn : ¬ isNeg (hexS x) := by
    rw [hexS_eq]
    unfold isNeg
    rw [ext_list, list_mk]
    simp
  unfold intN intOk
  rw [if_neg hn, if_neg hn, hb.1, hb.2]
  rw [if_pos ⟨rfl, by omega⟩]
  exact ⟨rfl, decide_eq_true ⟨rfl, by omega⟩⟩
theorem up_back (imm : Int) (h : -2147483648 ≤ imm ∧ imm ≤ 2147483647) (h4 : imm % 4096 = 0) : upN (mk (Lib.itoa (imm.tdiv 4096))) = imm ∧ upOk (mk (Lib.itoa (imm.tdiv 4096))) = true := by
  have hb := dec_back (imm.tdiv 4096) (tdiv_bounds imm h).1 (tdiv_bounds imm h).2
  rw [decS_mk] at hb
  have e : imm.tdiv 4096 * 4096 = imm := Int.tdiv_mul_cancel (Int.dvd_of_emod_eq_zero h4)
  have e2 : upN (mk (Lib.itoa (imm.tdiv 4096))) = imm := by
    unfold upN; rw [hb.1, e]; unfold wrap64; omega
  refine ⟨e2, ?_⟩
  unfold upOk
  rw [e2, hb.1, hb.2]
  have : wrap64 (imm.tdiv 4096) = imm.tdiv 4096 := by
    have := tdiv_bounds imm h
    unfold wrap64; omega
  rw [this]; simp
theorem read_back (x y : Ins) (hf : Fits x.rd x.rs1 x.rs2 x.imm x.csr) (c : UInt8) (hc : c ∈ letters) (hu : c = 117 → x.imm % 4096 = 0) : readS c (mk (partL x.rd x.rs1 x.rs2 x.imm x.csr c)) y = (setP x y c, true) := by
  have h1 := hf.d; have h2 := hf.a; have h3 := hf.b; have h4 := hf.n; have h5 := hf.c
  simp only [letters, List.mem_cons, List.not_mem_nil, or_false] at hc
  rcases hc with rfl | rfl | rfl | rfl | rfl | rfl | rfl | rfl | rfl
  · have := reg_back x.rd h1.1 h1.2
    show (({y with rd := intN (regT (mk (regL x.rd)))} : Ins), regOk (mk (regL x.rd))) = _
    rw [this.1, this.2]; rfl
  · have := reg_back x.rs1 h2.1 h2.2
    show (({y with rs1 := intN (regT (mk (regL x.rs1)))} : Ins), regOk (mk (regL x.rs1))) = _
    rw [this.1, this.2]; rfl
  · have := reg_back x.rs2 h3.1 h3.2
    show (({y with rs2 := intN (regT (mk (regL x.rs2)))} : Ins), regOk (mk (regL x.rs2))) = _
    rw [this.1, this.2]; rfl
  · have := dec_back x.imm (by omega) (by omega)
    rw [decS_mk] at this
    show (({y with imm := intN (mk (Lib.itoa x.imm))} : Ins), intOk (mk (Lib.itoa x.imm))) = _
    rw [this.1, this.2]; rfl
  · have := up_back x.imm h4 (hu rfl)
    show (({y with imm := upN (mk (Lib.itoa (x.imm.tdiv 4096)))} : Ins), upOk (mk (Lib.itoa (x.imm.tdiv 4096)))) = _
    rw [this.1, this.2]; rfl
  · have := csr_back x.csr.toNat (by omega)
    show (({y with csr := intN (mk (hexL x.csr.toNat))} : Ins), intOk (mk (hexL x.csr.toNat))) = _
    rw [this.1, this.2]
    rw [show ((x.csr.toNat : Nat) : Int) = x.csr from by omega]
    rfl
  · show (y, (mk [44]).toList == [44]) = _
    rw [show (mk [44]).toList = [44] from list_mk [44]]; rfl
  · show (y, (mk [40]).toList == [40]) = _
    rw [show (mk [40]).toList = [40] from list_mk [40]]; rfl
  · show (y, (mk [41]).toList == [41]) = _
    rw [show (mk [41]).toList = [41] from list_mk [41]]; rfl
/-- marks stand between letters -/
def firstMark : List UInt8 → Bool
  | [] => true
  | d :: _ => isMark d
def goodShape : List UInt8 → Bool
  | [] => true
  | c :: sh => (isMark c || firstMark sh) && goodShape sh
theorem ends_of (P : UInt8 → List UInt8) (sh : List UInt8) (hP : ∀ c ∈ sh, isMark c = true → P c = [c]) (h : firstMark sh = true) : Ends (sh.flatMap P) := by
  cases sh with
  | nil => exact .inl rfl
  | cons d r => exact .inr ⟨d, r.flatMap P, by rw [List.flatMap_cons, hP d List.mem_cons_self h]; rfl, h⟩
theorem parts_back (x : Ins) (hf : Fits x.rd x.rs1 x.rs2 x.imm x.csr) : ∀ (sh : List UInt8) (y : Ins), goodShape sh = true → (∀ c ∈ sh, c ∈ letters) → (117 ∈ sh → x.imm % 4096 = 0) → partsR sh (sh.flatMap (partL x.rd x.rs1 x.rs2 x.imm x.csr)) y = (sh.foldl (setP x) y, true)
  | [], y, _, _, _ => rfl
  | c :: sh, y, hg, hl, hu => by
    simp only [goodShape, Bool.and_eq_true] at hg
    have hc := hl c List.mem_cons_self
    have hr := read_back x y hf c hc (fun e => hu (by rw [e]; exact List.mem_cons_self))
    have ih := parts_back x hf sh (setP x y c) hg.2 (fun d hd => hl d (List.mem_cons_of_mem _ hd)) (fun h => hu (List.mem_cons_of_mem _ h))
    have key : bare (partL x.rd x.rs1 x.rs2 x.imm x.csr c ++ sh.flatMap (partL x.rd x.rs1 x.rs2 x.imm x.csr)) = partL x.rd x.rs1 x.rs2 x.imm x.csr c ++ sh.flatMap (partL x.rd x.rs1 x.rs2 x.imm x.csr) ∧ pieceL (partL x.rd x.rs1 x.rs2 x.imm x.csr c ++ sh.flatMap (partL x.rd x.rs1 x.rs2 x.imm x.csr)) = partL x.rd x.rs1 x.rs2 x.imm x.csr c := by
      cases hm : isMark c
      · have he := ends_of (partL x.rd x.rs1 x.rs2 x.imm x.csr) sh (fun d hd h => part_mark _ _ _ _ _ d (hl d (List.mem_cons_of_mem _ hd)) h) (by have h := hg.1; rw [hm, Bool.false_or] at h; exact h)
        exact piece_goods _ _ (part_good _ _ _ _ _ hf c hc hm) he
      · rw [part_mark _ _ _ _ _ c hc hm]
        exact piece_mark c _ hm
    rw [List.flatMap_cons]
    unfold partsR
    rw [key.1, key.2, hr]
    rw [if_pos rfl, List.drop_left, ih]
    rfl
theorem parts_blank (sh l : List UInt8) (y : Ins) (h : sh ≠ []) : partsR sh (32 :: l) y = partsR sh l y := by
  obtain ⟨c, r, rfl⟩ : ∃ c r, sh = c :: r := List.exists_cons_of_ne_nil h
  have e : bare (32 :: l) = bare l := by unfold bare Lib.trimLeftS; rw [List.dropWhile_cons]; rfl
  unfold partsR
  rw [e]
theorem shapes_good : ((List.range 99).all fun k => goodShape (shapesT.getD k [])) = true := by decide +kernel
theorem fold_op (x : Ins) : ∀ (sh : List UInt8) (y : Ins), (sh.foldl (setP x) y).op = y.op ∧ (sh.foldl (setP x) y).aq = y.aq ∧ (sh.foldl (setP x) y).rl = y.rl
  | [], y => ⟨rfl, rfl, rfl⟩
  | c :: sh, y => by
    rw [List.foldl_cons]
    have h := fold_op x sh (setP x y c)
    have e : (setP x y c).op = y.op ∧ (setP x y c).aq = y.aq ∧ (setP x y c).rl = y.rl := by
      unfold setP; repeat' split
      all_goals exact ⟨rfl, rfl, rfl⟩
    rw [h.1, h.2.1, h.2.2]; exact e
theorem fold_f (x : Ins) (g : Ins → Int) (S : List UInt8) (h1 : ∀ y c, c ∈ S → g (setP x y c) = g x) (h2 : ∀ y c, c ∉ S → g (setP x y c) = g y) : ∀ (sh : List UInt8) (y : Ins), g (sh.foldl (setP x) y) = if (∃ c ∈ sh, c ∈ S) then g x else g y
  | [], y => by simp
  | c :: sh, y => by
    rw [List.foldl_cons, fold_f x g S h1 h2 sh]
    by_cases hs : ∃ d ∈ sh, d ∈ S
    · rw [if_pos hs, if_pos]
      obtain ⟨d, hd, hS⟩ := hs
      exact ⟨d, List.mem_cons_of_mem _ hd, hS⟩
    · rw [if_neg hs]
      by_cases hc : c ∈ S
      · rw [if_pos ⟨c, List.mem_cons_self, hc⟩, h1 y c hc]
      · rw [if_neg, h2 y c hc]
        rintro ⟨d, hd, hS⟩
        rcases List.mem_cons.1 hd with rfl | hd
        · exact hc hS
        · exact hs ⟨d, hd, hS⟩
def hasAny (sh S : List UInt8) : Bool := sh.any fun c => S.contains c
theorem hasAny_iff (sh S : List UInt8) : (∃ c ∈ sh, c ∈ S) ↔ hasAny sh S = true := by
  unfold hasAny; simp
/-- what a shape leaves out a right instruction has not -/
def leftB (k : Nat) : Bool :=
  (hasAny (shapesT.getD k []) [100] || mostN (formsT.getD k 0) 1 31 == 0) && ((hasAny (shapesT.getD k []) [97] || mostN (formsT.getD k 0) 2 31 == 0) && ((hasAny (shapesT.getD k []) [98] || mostN (formsT.getD k 0) 4 31 == 0) && ((hasAny (shapesT.getD k []) [99] || mostN (formsT.getD k 0) 8 4095 == 0) && ((hasAny (shapesT.getD k []) [110, 117] || ((spanN (formsT.getD k 0)).1 == 0 && (spanN (formsT.getD k 0)).2.1 == 0)) && (!hasAny (shapesT.getD k []) [117] || (spanN (formsT.getD k 0)).2.2 == 4096)))))
theorem left_all : ((List.range 99).all fun k => k == 0 || leftB k) = true := by decide +kernel
theorem set_ne (x y : Ins) (c : UInt8) :
    ((setP x y c).rd = if c ∈ ([100] : List UInt8) then x.rd else y.rd) ∧ ((setP x y c).rs1 = if c ∈ ([97] : List UInt8) then x.rs1 else y.rs1) ∧ ((setP x y c).rs2 = if c ∈ ([98] : List UInt8) then x.rs2 else y.rs2) ∧ ((setP x y c).imm = if c ∈ ([110, 117] : List UInt8) then x.imm else y.imm) ∧ ((setP x y c).csr = if c ∈ ([99] : List UInt8) then x.csr else y.csr) := by
  unfold setP
  by_cases e1 : c = 100
  · subst e1; simp
  by_cases e2 : c = 97
  · subst e2; simp
  by_cases e3 : c = 98
  · subst e3; simp
  by_cases e4 : c = 110
  · subst e4; simp
  by_cases e5 : c = 117
  · subst e5; simp
  by_cases e6 : c = 99
  · subst e6; simp
  simp [e1, e2, e3, e4, e5, e6]
theorem set_all (x : Ins) (hr : x.right = true) : (shapesT.getD x.op.toNat []).foldl (setP x) ⟨x.op, 0, 0, 0, 0, 0, x.aq, x.rl⟩ = x ∧ (117 ∈ shapesT.getD x.op.toNat [] → x.imm % 4096 = 0) := by
  obtain ⟨hf, ho1, ho2⟩ := fits_of _ _ _ _ _ _ _ _ hr
  have hk : x.op.toNat < 99 := by omega
  have hl : leftB x.op.toNat = true := by
    have := List.all_eq_true.1 left_all x.op.toNat (List.mem_range.2 hk)
    simp at this
    rcases this with h | h
    · omega
    · exact h
  have hfm : formI x.op = formsT.getD x.op.toNat 0 := by unfold formI; rw [if_pos ⟨ho1, ho2⟩]
  unfold Ins.right rightB partsB at hr
  rw [hfm] at hr
  simp only [Bool.and_eq_true, decide_eq_true_eq, amongB, immB, mostI] at hr
  obtain ⟨h0, ⟨h1, h2, h3, h4, _⟩, h5, h6, h7⟩ := hr
  have h1 : 0 ≤ x.rd ∧ x.rd ≤ mostN (formsT.getD x.op.toNat 0) 1 31 := of_decide_eq_true h1
  have h2 : 0 ≤ x.rs1 ∧ x.rs1 ≤ mostN (formsT.getD x.op.toNat 0) 2 31 := of_decide_eq_true h2
  have h3 : 0 ≤ x.rs2 ∧ x.rs2 ≤ mostN (formsT.getD x.op.toNat 0) 4 31 := of_decide_eq_true h3
  have h4 : 0 ≤ x.csr ∧ x.csr ≤ mostN (formsT.getD x.op.toNat 0) 8 4095 := of_decide_eq_true h4
  unfold leftB at hl
  simp only [Bool.and_eq_true, Bool.or_eq_true, beq_iff_eq, Bool.not_eq_true'] at hl
  obtain ⟨l1, l2, l3, l4, l5, l6⟩ := hl
  have F1 := fold_f x (·.rd) [100] (fun y c h => by rw [(set_ne x y c).1, if_pos h]) (fun y c h => by rw [(set_ne x y c).1, if_neg h]) (shapesT.getD x.op.toNat []) ⟨x.op, 0, 0, 0, 0, 0, x.aq, x.rl⟩
  have F2 := fold_f x (·.rs1) [97] (fun y c h => by rw [(set_ne x y c).2.1, if_pos h]) (fun y c h => by rw [(set_ne x y c).2.1, if_neg h]) (shapesT.getD x.op.toNat []) ⟨x.op, 0, 0, 0, 0, 0, x.aq, x.rl⟩
  have F3 := fold_f x (·.rs2) [98] (fun y c h => by rw [(set_ne x y c).2.2.1, if_pos h]) (fun y c h => by rw [(set_ne x y c).2.2.1, if_neg h]) (shapesT.getD x.op.toNat []) ⟨x.op, 0, 0, 0, 0, 0, x.aq, x.rl⟩
  have F4 := fold_f x (·.imm) [110, 117] (fun y c h => by rw [(set_ne x y c).2.2.2.1, if_pos h]) (fun y c h => by rw [(set_ne x y c).2.2.2.1, if_neg h]) (shapesT.getD x.op.toNat []) ⟨x.op, 0, 0, 0, 0, 0, x.aq, x.rl⟩
  have F5 := fold_f x (·.csr) [99] (fun y c h => by rw [(set_ne x y c).2.2.2.2, if_pos h]) (fun y c h => by rw [(set_ne x y c).2.2.2.2, if_neg h]) (shapesT.getD x.op.toNat []) ⟨x.op, 0, 0, 0, 0, 0, x.aq, x.rl⟩
  have F0 := fold_op x (shapesT.getD x.op.toNat []) ⟨x.op, 0, 0, 0, 0, 0, x.aq, x.rl⟩
  simp only [hasAny_iff] at F1 F2 F3 F4 F5
  refine ⟨?_, ?_⟩
  · have G1 : (List.foldl (setP x) ⟨x.op, 0, 0, 0, 0, 0, x.aq, x.rl⟩ (shapesT.getD x.op.toNat [])).rd = x.rd := by
      rw [F1]; split
      · rfl
      · next h => rcases l1 with l | l
                  · exact absurd l h
                  · rw [l] at h1; show (0 : Int) = x.rd; omega
    have G2 : (List.foldl (setP x) ⟨x.op, 0, 0, 0, 0, 0, x.aq, x.rl⟩ (shapesT.getD x.op.toNat [])).rs1 = x.rs1 := by
      rw [F2]; split
      · rfl
      · next h => rcases l2 with l | l
                  · exact absurd l h
                  · rw [l] at h2; show (0 : Int) = x.rs1; omega
    have G3 : (List.foldl (setP x) ⟨x.op, 0, 0, 0, 0, 0, x.aq, x.rl⟩ (shapesT.getD x.op.toNat [])).rs2 = x.rs2 := by
      rw [F3]; split
      · rfl
      · next h => rcases l3 with l | l
                  · exact absurd l h
                  · rw [l] at h3; show (0 : Int) = x.rs2; omega
    have G4 : (List.foldl (setP x) ⟨x.op, 0, 0, 0, 0, 0, x.aq, x.rl⟩ (shapesT.getD x.op.toNat [])).imm = x.imm := by
      rw [F4]; split
      · rfl
      · next h => rcases l5 with l | l
                  · exact absurd l h
                  · rw [l.1] at h5; rw [l.2] at h6; show (0 : Int) = x.imm; omega
    have G5 : (List.foldl (setP x) ⟨x.op, 0, 0, 0, 0, 0, x.aq, x.rl⟩ (shapesT.getD x.op.toNat [])).csr = x.csr := by
      rw [F5]; split
      · rfl
      · next h => rcases l4 with l | l
                  · exact absurd l h
                  · rw [l] at h4; show (0 : Int) = x.csr; omega
    generalize List.foldl (setP x) ⟨x.op, 0, 0, 0, 0, 0, x.aq, x.rl⟩ (shapesT.getD x.op.toNat []) = r at *
    cases r; cases x
    simp only at F0 G1 G2 G3 G4 G5
    obtain ⟨e1, e2, e3⟩ := F0
    subst e1 e2 e3 G1 G2 G3 G4 G5
    rfl
  · intro h
    rcases l6 with l | l
    · exact absurd ((hasAny_iff _ [117]).1 ⟨117, h, List.mem_cons_self⟩) (by rw [l]; exact Bool.false_ne_true)
    · rw [l] at h7; exact h7
/-- every name with every order is read as itself -/
def namesB : Bool := (List.range 98).all fun k => [(false, false), (true, false), (false, true), (true, true)].all fun p => decide (nameR (dNames.getD k [] ++ markL p.1 p.2) = (⟨(k : Int) + 1, 0, 0, 0, 0, 0, p.1, p.2⟩, true))
theorem names_all : namesB = true := by decide +kernel
/-- no name has a blank -/
def plainB : Bool := (List.range 98).all fun k => decide (dNames.getD k [] ≠ []) && (dNames.getD k []).all fun b => !([32, 9] : List UInt8).contains b && decide (b.toNat < 128)
theorem plain_all : plainB = true := by decide +kernel
theorem mark_plain (aq rl : Bool) : ∀ b ∈ markL aq rl, ([32, 9] : List UInt8).contains b = false ∧ b.toNat < 128 := by
  cases aq <;> cases rl <;> decide
theorem name_plain (k : Nat) (h : k < 98) (aq rl : Bool) : dNames.getD k [] ++ markL aq rl ≠ [] ∧ ∀ b ∈ dNames.getD k [] ++ markL aq rl, ([32, 9] : List UInt8).contains b = false ∧ b.toNat < 128 := by
  have h1 := List.all_eq_true.1 plain_all k (List.mem_range.2 h)
  simp only [Bool.and_eq_true, decide_eq_true_eq] at h1
  refine ⟨fun e => h1.1 (List.append_eq_nil_iff.1 e).1, fun b hb => ?_⟩
  rcases List.mem_append.1 hb with hb | hb
  · have h2 := List.all_eq_true.1 h1.2 b hb
    simp only [Bool.and_eq_true, decide_eq_true_eq, Bool.not_eq_true'] at h2
    exact h2
  · exact mark_plain aq rl b hb
theorem takeW_all (p : UInt8 → Bool) : ∀ (n r : List UInt8), (∀ b ∈ n, p b = true) → (∀ b r', r = b :: r' → p b = false) → (n ++ r).takeWhile p = n ∧ (n ++ r).dropWhile p = r
  | [], r, _, h => by
    cases r with
    | nil => exact ⟨rfl, rfl⟩
    | cons b r' => simp [List.takeWhile_cons, List.dropWhile_cons, h b r' rfl]
  | b :: n, r, hn, h => by
    have ih := takeW_all p n r (fun c hc => hn c (List.mem_cons_of_mem _ hc)) h
    simp only [List.cons_append, List.takeWhile_cons, List.dropWhile_cons, hn b List.mem_cons_self, if_true]
    exact ⟨by rw [ih.1], ih.2⟩
theorem drop_none (p : UInt8 → Bool) (l : List UInt8) (h : ∀ b r, l = b :: r → p b = false) : l.dropWhile p = l := by
  cases l with
  | nil => rfl
  | cons b r => simp [List.dropWhile_cons, h b r rfl]
/-- what stands behind a name: nothing, or a blank and good bytes and marks -/
def bodyOf (x : Ins) : List UInt8 := if shapesT.getD x.op.toNat [] = [] then [] else 32 :: (shapesT.getD x.op.toNat []).flatMap (partL x.rd x.rs1 x.rs2 x.imm x.csr)
theorem body_bytes (x : Ins) (hf : Fits x.rd x.rs1 x.rs2 x.imm x.csr) (sh : List UInt8) (hl : ∀ c ∈ sh, c ∈ letters) : ∀ b ∈ sh.flatMap (partL x.rd x.rs1 x.rs2 x.imm x.csr), ([32, 9] : List UInt8).contains b = false ∧ b.toNat < 128 := by
  intro b hb
  obtain ⟨c, hc, hb⟩ := List.mem_flatMap.1 hb
  cases hm : isMark c
  · have := (part_good _ _ _ _ _ hf c (hl c hc) hm).2 b hb
    exact ⟨good_blank b this, good_ascii b this⟩
  · rw [part_mark _ _ _ _ _ c (hl c hc) hm] at hb
    simp at hb; subst hb
    refine ⟨mark_blank b hm, ?_⟩
    unfold isMark at hm; simp at hm
    rcases hm with rfl | rfl | rfl <;> decide
theorem part_ne (x : Ins) (hf : Fits x.rd x.rs1 x.rs2 x.imm x.csr) (c : UInt8) (hc : c ∈ letters) : partL x.rd x.rs1 x.rs2 x.imm x.csr c ≠ [] := by
  cases hm : isMark c
  · exact (part_good _ _ _ _ _ hf c hc hm).1
  · rw [part_mark _ _ _ _ _ c hc hm]; simp
theorem trim_same (l : List UInt8) (h1 : ∀ b r, l = b :: r → ([32, 9] : List UInt8).contains b = false) (h2 : ∀ b r, l.reverse = b :: r → ([32, 9] : List UInt8).contains b = false) : Lib.trimS l [32, 9] = l := by
  unfold Lib.trimS Lib.trimLeftS Lib.trimRightS
  rw [drop_none _ l.reverse h2, List.reverse_reverse, drop_none _ l h1]
theorem print_text (x : Ins) : printL x.op x.rd x.rs1 x.rs2 x.imm x.csr x.aq x.rl = (dNames.getD (x.op.toNat - 1) [] ++ markL x.aq x.rl) ++ bodyOf x := rfl
theorem parse_print (x : Ins) (hr : x.right = true) : parseR (printL x.op x.rd x.rs1 x.rs2 x.imm x.csr x.aq x.rl) = (x, true) ∧ Ascii (printL x.op x.rd x.rs1 x.rs2 x.imm x.csr x.aq x.rl) := by
  obtain ⟨hf, ho1, ho2⟩ := fits_of _ _ _ _ _ _ _ _ hr
  have hk : x.op.toNat < 99 := by omega
  have hn := name_plain (x.op.toNat - 1) (by omega) x.aq x.rl
  have hso := shape_ok x.op.toNat hk
  have hb := body_bytes x hf _ hso.1
  have hnm : nameR (dNames.getD (x.op.toNat - 1) [] ++ markL x.aq x.rl) = (⟨x.op, 0, 0, 0, 0, 0, x.aq, x.rl⟩, true) := by
    have h1 := List.all_eq_true.1 names_all (x.op.toNat - 1) (List.mem_range.2 (by omega))
    have h2 := List.all_eq_true.1 h1 (x.aq, x.rl) (by cases x.aq <;> cases x.rl <;> simp)
    have h3 := of_decide_eq_true h2
    rw [show ((x.op.toNat - 1 : Nat) : Int) + 1 = x.op from by omega] at h3
    exact h3
  have hset := set_all x hr
  have hgs := List.all_eq_true.1 shapes_good x.op.toNat (List.mem_range.2 hk)
  have hpb := parts_back x hf (shapesT.getD x.op.toNat []) ⟨x.op, 0, 0, 0, 0, 0, x.aq, x.rl⟩ hgs hso.1 hset.2
  rw [hset.1] at hpb
  rw [print_text]
  generalize dNames.getD (x.op.toNat - 1) [] ++ markL x.aq x.rl = nm at *
  have hbody : ∀ b r', bodyOf x = b :: r' → b = 32 := by
    intro b r' h
    unfold bodyOf at h
    split at h
    · cases h
    · exact (List.cons.inj h).1.symm
  have hpo : partsR (shapesT.getD x.op.toNat []) (bodyOf x) ⟨x.op, 0, 0, 0, 0, 0, x.aq, x.rl⟩ = (x, true) := by
    unfold bodyOf
    split
    · next h => rw [h] at hpb ⊢; exact hpb
    · next h => rw [parts_blank _ _ _ h]; exact hpb
  have htr : Lib.trimS (nm ++ bodyOf x) [32, 9] = nm ++ bodyOf x := by
    apply trim_same
    · intro b r h
      obtain ⟨c, n', rfl⟩ : ∃ c n', nm = c :: n' := List.exists_cons_of_ne_nil hn.1
      rw [List.cons_append] at h
      rw [← (List.cons.inj h).1]
      exact (hn.2 c List.mem_cons_self).1
    · intro b r h
      have hmem : b ∈ nm ++ bodyOf x := by
        have : b ∈ (nm ++ bodyOf x).reverse := by rw [h]; exact List.mem_cons_self
        exact List.mem_reverse.1 this
      have hlast : (nm ++ bodyOf x).getLast? = some b := by rw [← List.head?_reverse, h]; rfl
      unfold bodyOf at hlast hmem
      by_cases he : shapesT.getD x.op.toNat [] = []
      · rw [if_pos he, List.append_nil] at hmem
        exact (hn.2 b hmem).1
      · rw [if_neg he] at hlast
        obtain ⟨c, sh', hsh⟩ : ∃ c sh', shapesT.getD x.op.toNat [] = c :: sh' := List.exists_cons_of_ne_nil he
        have hne : (shapesT.getD x.op.toNat []).flatMap (partL x.rd x.rs1 x.rs2 x.imm x.csr) ≠ [] := by
          rw [hsh, List.flatMap_cons]
          exact fun h => part_ne x hf c (hso.1 c (by rw [hsh]; exact List.mem_cons_self)) (List.append_eq_nil_iff.1 h).1
        rw [List.getLast?_append, List.getLast?_cons] at hlast
        obtain ⟨d, hd⟩ : ∃ d, ((shapesT.getD x.op.toNat []).flatMap (partL x.rd x.rs1 x.rs2 x.imm x.csr)).getLast? = some d := ⟨_, List.getLast?_eq_some_getLast hne⟩
        rw [hd] at hlast
        simp at hlast
        subst hlast
        exact (hb d (List.mem_of_getLast? hd)).1
  have hhd := takeW_all (fun b => !([32, 9] : List UInt8).contains b) nm (bodyOf x) (fun b h => by rw [(hn.2 b h).1]; rfl) (fun b r' h => by rw [hbody b r' h]; rfl)
  refine ⟨?_, ?_⟩
  · unfold parseR partsO headW tailW
    rw [htr, hhd.1, hhd.2, hnm]
    simp only
    rw [hpo]
    rw [if_pos (by simp [hr])]
  · intro b h
    rcases List.mem_append.1 h with h | h
    · exact (hn.2 b h).2
    · unfold bodyOf at h
      split at h
      · cases h
      · rcases List.mem_cons.1 h with rfl | h
        · decide
        · exact (hb b h).2
theorem print_len (x : Ins) (hr : x.right = true) : (printL x.op x.rd x.rs1 x.rs2 x.imm x.csr x.aq x.rl).length ≤ 1000 := by
  obtain ⟨hf, ho1, ho2⟩ := fits_of _ _ _ _ _ _ _ _ hr
  have h1 := List.all_eq_true.1 name_len (x.op.toNat - 1) (List.mem_range.2 (by omega))
  have h1 := of_decide_eq_true h1
  have h2 := mark_len x.aq x.rl
  have h3 := (shape_ok x.op.toNat (by omega)).2
  have h4 := flat_len (partL x.rd x.rs1 x.rs2 x.imm x.csr) (partL_len x.rd x.rs1 x.rs2 x.imm x.csr hf) (shapesT.getD x.op.toNat [])
  unfold printL
  rw [List.length_append, List.length_append]
  split
  · rw [List.length_nil]; omega
  · rw [List.length_cons]; omega
end Go.Proofs.YtooaafbdjnlmfaaGreatDoor
