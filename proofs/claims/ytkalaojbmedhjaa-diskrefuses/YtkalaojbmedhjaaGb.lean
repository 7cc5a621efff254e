/- Sectors as values; a map of sectors: what is looked up, kept and left out. -/
import Derived.Test.YtkalaojbmedhjaaGa
namespace Go.Proofs.Ytkalaojbmedhjaa
open Go.RowKit Go.Maps
set_option linter.unusedVariables false
set_option linter.unusedSimpArgs false
set_option maxRecDepth 100000
/-- a sector's cells -/
def secRow (f : Nat → Nat) : Array Value := (rowK .u8 f 512).toArray
theorem secRow_congr (f g : Nat → Nat) (h : ∀ i, i < 512 → f i = g i) : secRow f = secRow g := by unfold secRow; rw [rowK_congr .u8 f g 512 h]
theorem secRow_get (f : Nat → Nat) (i : Nat) (h : i < 512) : (secRow f)[i]? = some (.int .u8 (f i : Nat)) := by unfold secRow; rw [List.getElem?_toArray]; exact rowK_get _ _ _ _ h
theorem secRow_size (f : Nat → Nat) : (secRow f).size = 512 := by unfold secRow; rw [List.size_toArray, rowK_length]
theorem secRow_one (f : Nat → Nat) : (secRow f).all (·.oneCell') = true := by
  rw [Array.all_eq_true_iff_forall_mem]
  intro v hv
  exact rowK_one _ _ _ v (by simpa [secRow] using hv)
/-- a value's datum -/
def valD (v : Value) : DataW Unit := match v with
  | .int k n => .lit (.int k n)
  | _ => .nil
def secD (f : Nat → Nat) : DataW Unit := .agg ((rowK .u8 f 512).map valD)
def secElem (v : Value) : Option (DataW Unit × List MemPlace) := match v with
  | .agg cs => some (.agg (cs.toList.map valD), [])
  | _ => none
theorem secElem_mk (f : Nat → Nat) : secElem (.agg (secRow f)) = some (secD f, []) := by simp [secElem, secRow, secD]
theorem valD_int {v : Value} {k : IntKind} {n : Int} (h : valD v = .lit (.int k n)) : v = .int k n := by
  unfold valD at h
  split at h
  · simp at h; obtain ⟨rfl, rfl⟩ := h; rfl
  · cases h
theorem row_inv (l : List Value) (f : Nat → Nat) (n : Nat) (h : l.map valD = (rowK .u8 f n).map valD) : l = rowK .u8 f n := by
  have hl : l.length = n := by have := congrArg List.length h; simpa [rowK_length] using this
  apply List.ext_getElem?
  intro i
  by_cases hi : i < n
  · have h1 := congrArg (fun x => x[i]?) h
    simp only [List.getElem?_map, rowK_get _ _ _ _ hi, Option.map_some] at h1
    cases hq : l[i]? with
    | none => rw [hq] at h1; simp at h1
    | some v =>
      rw [hq] at h1
      simp only [Option.map_some, Option.some.injEq] at h1
      rw [rowK_get _ _ _ _ hi, valD_int h1]
  · rw [List.getElem?_eq_none (by omega), List.getElem?_eq_none (by rw [rowK_length]; omega)]
theorem secElem_inv {v : Value} {z : DataW Unit × List MemPlace} {f : Nat → Nat} (h : secElem v = some z) (hz : z.1 = secD f) : v = .agg (secRow f) := by
  unfold secElem at h
  split at h
  · cases h
    simp only [secD, DataW.agg.injEq] at hz
    rename_i cs
    have := row_inv _ _ _ hz
    rw [show cs = (rowK .u8 f 512).toArray from by rw [← this]]
    rfl
  · cases h
theorem secD_eq {f g : Nat → Nat} (h : secD f = secD g) : ∀ i, i < 512 → f i = g i := fun i hi => by
  simp only [secD, DataW.agg.injEq] at h
  have h1 := row_inv _ _ _ h
  have h2 := congrArg (fun x => x[i]?) h1
  simp only [rowK_get _ _ _ _ hi] at h2
  simp at h2
  omega
theorem secD_congr {f g : Nat → Nat} (h : ∀ i, i < 512 → f i = g i) : secD f = secD g := by unfold secD; rw [rowK_congr .u8 f g 512 h]
/-- are two sectors alike? -/
def secEq (f g : Nat → Nat) : Bool := (List.range 512).all fun i => f i == g i
theorem secEq_iff (f g : Nat → Nat) : secEq f g = true ↔ ∀ i, i < 512 → f i = g i := by simp [secEq, List.all_eq_true]
theorem secEq_no {f g : Nat → Nat} (h : secEq f g = false) : ¬ ∀ i, i < 512 → f i = g i := fun e => by rw [(secEq_iff f g).2 e] at h; cases h
/-- sector k of a row of bytes -/
def secF (M : Nat → Nat) (k i : Nat) : Nat := M (k * 512 + i)
/-- is it all 0? -/
def zeroB (M : Nat → Nat) (k : Nat) : Bool := secEq (secF M k) (fun _ => 0)
theorem zeroB_congr {M M' : Nat → Nat} {k : Nat} (h : ∀ i, i < 512 → M (k * 512 + i) = M' (k * 512 + i)) : zeroB M k = zeroB M' k := by
  rw [Bool.eq_iff_iff]
  unfold zeroB
  rw [secEq_iff, secEq_iff]
  unfold secF
  exact ⟨fun e i hi => by rw [← h i hi]; exact e i hi, fun e i hi => by rw [h i hi]; exact e i hi⟩
/-- the map's datum holds just the sectors that are not all 0 -/
def Sect (D : DataW Unit) (M : Nat → Nat) : Prop :=
  ∀ k : Nat, (zeroB M k = true ∧ ∀ zd, D.atKey (.int .u64 (k : Nat)) zd = zd) ∨ (zeroB M k = false ∧ ∀ zd, D.atKey (.int .u64 (k : Nat)) zd = secD (secF M k))
theorem keyed26 : Keyed Try.prog 26 := int_keyed Try.underlying26
theorem key26 {k : Nat} (h : k < 18446744073709551616) : keyOf Try.prog 26 (.int .u64 (k : Nat)) = some (.int .u64 (k : Nat)) := keyOf_int_mk Try.underlying26 (wf_u64 h)
theorem lit_ne {j k : Nat} (h : j ≠ k) : Lit.int .u64 (j : Nat) ≠ Lit.int .u64 (k : Nat) := fun e => h (by simp at e; omega)
theorem zinfo63 : (Try.prog.info? 63).map (fun i => (i.zero, i.size)) = some (some (.agg (secRow fun _ => 0)), 512) := by kernel_rfl
theorem zero63 (w : World) : (zeroValue 63).run Try.prog w = .ok (.agg (secRow fun _ => 0)) w := by
  have h := zinfo63
  cases hq : Try.prog.info? 63 with
  | none => simp [hq] at h
  | some i =>
    have hz : i.zero = some (.agg (secRow fun _ => 0)) := by simp [hq] at h; exact h.1
    simp [zeroValue, typeInfo, hq, hz]
theorem info63 (f : Nat → Nat) : (Try.prog.info? 63).map (·.size) = some (secRow f).size := by rw [secRow_size]; kernel_rfl
theorem secRow_zero {M : Nat → Nat} {k : Nat} (h : zeroB M k = true) : secRow (secF M k) = secRow fun _ => 0 := secRow_congr _ _ ((secEq_iff _ _).1 h)
theorem secD_nil (f : Nat → Nat) : secD f ≠ .nil := by intro h; cases h
theorem sect_look {w : World} {bm n : Nat} {D : DataW Unit} {M : Nat → Nat} (h : w.ownsMap Try.prog 26 secElem bm n D) (hp : Sect D M) (k : Nat) (hk : k < 18446744073709551616) :
    (Instr.lookup 58 (.map (some bm)) (.int .u64 (k : Nat)) false).run Try.prog w = .ok (.agg (secRow (secF M k))) w := by
  obtain ⟨es, clock, hb, F, _, rfl⟩ := h
  rcases Maps.fit_look false keyed26 Try.underlying58 (zero63 w) hb F (key26 hk) with ⟨hrun, _, hat⟩ | ⟨e0, y, _, _, hrun, hRv, hat, _⟩
  · rcases hp k with ⟨e, _⟩ | ⟨_, h2⟩
    · rw [hrun, secRow_zero e]; rfl
    · exact absurd ((hat .nil).symm.trans (h2 .nil)).symm (secD_nil _)
  · rcases hp k with ⟨e, h2⟩ | ⟨_, h2⟩
    · have h3 : y.1 = .nil := (hat .nil).symm.trans (h2 .nil)
      have h4 : y.1 = secD fun _ => 0 := (hat (secD fun _ => 0)).symm.trans (h2 _)
      exact absurd (h4.symm.trans h3) (secD_nil _)
    · rw [hrun, secElem_inv hRv ((hat .nil).symm.trans (h2 .nil))]; rfl
theorem sect_look_ok {w : World} {bm n : Nat} {D : DataW Unit} {M : Nat → Nat} (h : w.ownsMap Try.prog 26 secElem bm n D) (hp : Sect D M) (k : Nat) (hk : k < 18446744073709551616) :
    (Instr.lookup 58 (.map (some bm)) (.int .u64 (k : Nat)) true).run Try.prog w = .ok (.tuple #[.agg (secRow (secF M k)), .bool (!zeroB M k)]) w := by
  obtain ⟨es, clock, hb, F, _, rfl⟩ := h
  rcases Maps.fit_look true keyed26 Try.underlying58 (zero63 w) hb F (key26 hk) with ⟨hrun, _, hat⟩ | ⟨e0, y, _, _, hrun, hRv, hat, _⟩
  · rcases hp k with ⟨e, _⟩ | ⟨_, h2⟩
    · rw [hrun, secRow_zero e, e]; rfl
    · exact absurd ((hat .nil).symm.trans (h2 .nil)).symm (secD_nil _)
  · rcases hp k with ⟨e, h2⟩ | ⟨e, h2⟩
    · have h3 : y.1 = .nil := (hat .nil).symm.trans (h2 .nil)
      have h4 : y.1 = secD fun _ => 0 := (hat (secD fun _ => 0)).symm.trans (h2 _)
      exact absurd (h4.symm.trans h3) (secD_nil _)
    · rw [hrun, secElem_inv hRv ((hat .nil).symm.trans (h2 .nil)), e]; rfl
/-- one sector is another one -/
def setS (M : Nat → Nat) (k : Nat) (f : Nat → Nat) (a : Nat) : Nat := if k * 512 ≤ a ∧ a < k * 512 + 512 then f (a - k * 512) else M a
theorem setS_same (M : Nat → Nat) (k : Nat) (f : Nat → Nat) (i : Nat) (hi : i < 512) : secF (setS M k f) k i = f i := by
  unfold secF setS; rw [if_pos (by omega)]; congr 1; omega
theorem setS_other (M : Nat → Nat) (k j : Nat) (f : Nat → Nat) (i : Nat) (hi : i < 512) (h : j ≠ k) : secF (setS M k f) j i = secF M j i := by
  unfold secF setS; rw [if_neg (by omega)]
theorem zeroB_same (M : Nat → Nat) (k : Nat) (f : Nat → Nat) : zeroB (setS M k f) k = secEq f (fun _ => 0) := by
  rw [Bool.eq_iff_iff]; unfold zeroB; rw [secEq_iff, secEq_iff]
  exact ⟨fun e i hi => by rw [← setS_same M k f i hi]; exact e i hi, fun e i hi => by rw [setS_same M k f i hi]; exact e i hi⟩
theorem zeroB_other (M : Nat → Nat) (k j : Nat) (f : Nat → Nat) (h : j ≠ k) : zeroB (setS M k f) j = zeroB M j := by
  rw [Bool.eq_iff_iff]; unfold zeroB; rw [secEq_iff, secEq_iff]
  exact ⟨fun e i hi => by rw [← setS_other M k j f i hi h]; exact e i hi, fun e i hi => by rw [setS_other M k j f i hi h]; exact e i hi⟩
theorem sect_put {w : World} {bm n : Nat} {D : DataW Unit} {M : Nat → Nat} (h : w.ownsMap Try.prog 26 secElem bm n D) (hp : Sect D M) (k : Nat) (f : Nat → Nat) (hk : k < 18446744073709551616) (hn : n < maxLen) (h0 : secEq f (fun _ => 0) = false) :
    ∃ w' D', (Instr.mapUpdate 58 (.map (some bm)) (.int .u64 (k : Nat)) (.agg (secRow f))).run Try.prog w = .ok () w' ∧ w'.ownsMap Try.prog 26 secElem bm (n + 1) D' ∧ Sect D' (setS M k f) ∧ w.grownBy w' (some bm) := by
  obtain ⟨w', hrun, r1, r2⟩ := h.update keyed26 Try.underlying58 hn (key26 hk) (val := .agg (secRow f)) (secElem_mk f)
  refine ⟨w', _, hrun, r1, fun j => ?_, r2⟩
  by_cases e : j = k
  · subst e
    refine .inr ⟨by rw [zeroB_same]; exact h0, fun zd => ?_⟩
    rw [atKey_put_same h.isMap (keyed26.key (key26 hk))]
    exact secD_congr fun i hi => (setS_same M j f i hi).symm
  · rcases hp j with ⟨e1, h2⟩ | ⟨e1, h2⟩
    · exact .inl ⟨by rw [zeroB_other M k j f e]; exact e1, fun zd => by rw [atKey_put_other (lit_ne e)]; exact h2 zd⟩
    · exact .inr ⟨by rw [zeroB_other M k j f e]; exact e1, fun zd => by rw [atKey_put_other (lit_ne e), h2 zd]; exact secD_congr fun i hi => (setS_other M k j f i hi e).symm⟩
theorem sect_del {w : World} {bm n : Nat} {D : DataW Unit} {M : Nat → Nat} (h : w.ownsMap Try.prog 26 secElem bm n D) (hp : Sect D M) (k : Nat) (f : Nat → Nat) (hk : k < 18446744073709551616) (h0 : secEq f (fun _ => 0) = true) (ty : TypeId) :
    ∃ w' D', (Builtin.delete_ #[58, 26] ty #[.map (some bm), .int .u64 (k : Nat)]).run Try.prog w = .ok (.tuple #[]) w' ∧ w'.ownsMap Try.prog 26 secElem bm n D' ∧ Sect D' (setS M k f) ∧ w.grownBy w' (some bm) := by
  obtain ⟨w', hrun, r1, r2⟩ := h.drop keyed26 Try.underlying58 (key26 hk) ty
  refine ⟨w', _, hrun, r1, fun j => ?_, r2.grown⟩
  by_cases e : j = k
  · subst e
    exact .inl ⟨by rw [zeroB_same]; exact h0, fun zd => atKey_del_same zd⟩
  · rcases hp j with ⟨e1, h2⟩ | ⟨e1, h2⟩
    · exact .inl ⟨by rw [zeroB_other M k j f e]; exact e1, fun zd => by rw [atKey_del_other (lit_ne e)]; exact h2 zd⟩
    · exact .inr ⟨by rw [zeroB_other M k j f e]; exact e1, fun zd => by rw [atKey_del_other (lit_ne e), h2 zd]; exact secD_congr fun i hi => (setS_other M k j f i hi e).symm⟩
theorem sect_has {D : DataW Unit} {M : Nat → Nat} (h : Sect D M) (k : Nat) : Maps.has D (.int .u64 (k : Nat)) = !zeroB M k := by
  rcases h k with ⟨e, h2⟩ | ⟨e, h2⟩
  · rw [e, Maps.has_false_of_atKey h2]; rfl
  · rw [e, Maps.has_true_of_atKey h2]; rfl
theorem sect_made : Sect (.map []) (fun _ => 0) := fun k => .inl ⟨(secEq_iff _ _).2 fun i _ => rfl, fun zd => rfl⟩
/-- a list without doubles within another one is no longer -/
theorem nodup_len : ∀ (l₁ l₂ : List Nat), l₁.Nodup → (∀ x ∈ l₁, x ∈ l₂) → l₁.length ≤ l₂.length
  | [], l₂, _, _ => Nat.zero_le _
  | x :: l₁, l₂, hn, hs => by
    have hx : x ∈ l₂ := hs x (by simp)
    have hn2 := List.nodup_cons.1 hn
    have h1 := nodup_len l₁ (l₂.erase x) hn2.2 (fun y hy => (List.mem_erase_of_ne (fun (e : y = x) => hn2.1 (by rw [← e]; exact hy))).2 (hs y (by simp [hy])))
    rw [List.length_erase_of_mem hx] at h1
    have h2 : 0 < l₂.length := List.length_pos_of_mem hx
    simp only [List.length_cons]
    omega
def litN (l : Lit) : Nat := match l with
  | .int _ n => n.toNat
  | _ => 0
def keysN (D : DataW Unit) : List Nat := match D with
  | .map es => es.map fun p => litN p.1
  | _ => []
theorem keys_nodup : ∀ es : List (Lit × DataW Unit), es.Pairwise (fun p q => p.1 ≠ q.1) → (∀ p ∈ es, ∃ x : Nat, p.1 = .int .u64 (x : Nat)) → (es.map fun p => litN p.1).Nodup
  | [], _, _ => by simp
  | p :: es, hp, hf => by
    have hp2 := List.pairwise_cons.1 hp
    have ih := keys_nodup es hp2.2 (fun q hq => hf q (by simp [hq]))
    simp only [List.map_cons, List.nodup_cons]
    refine ⟨fun hm => ?_, ih⟩
    obtain ⟨q, hq, e⟩ := List.mem_map.1 hm
    obtain ⟨x, hx⟩ := hf p (by simp)
    obtain ⟨y, hy⟩ := hf q (by simp [hq])
    rw [hx, hy] at e
    simp [litN] at e
    exact hp2.1 q hq (by rw [hx, hy, e])
theorem owns_lits {w : World} {bm n : Nat} {D : DataW Unit} (h : w.ownsMap Try.prog 26 secElem bm n D) : ∃ es, D = .map es ∧ es.Pairwise (fun p q => p.1 ≠ q.1) ∧ (∀ p ∈ es, WideAt.IsKeyLit p.1) ∧ ∀ p ∈ es, ∃ x : Nat, p.1 = .int .u64 (x : Nat) ∧ x < 18446744073709551616 := by
  obtain ⟨es, rfl, h1, h2⟩ := h.entries keyed26
  refine ⟨es, rfl, h1, h2, fun p hp => ?_⟩
  obtain ⟨es', clock, _, F, _, hD⟩ := h
  simp only [DataW.map.injEq] at hD
  rw [hD, mem_sorted] at hp
  obtain ⟨x, hx, rfl⟩ := List.mem_map.1 hp
  obtain ⟨y, hy⟩ := F.reads x hx
  rw [WideElems.rg_of hy]
  obtain ⟨z, _, e, hw⟩ := Maps.keyOf_int_inv Try.underlying26 (WideElems.rd_key hy)
  have := bounds_u64 hw
  exact ⟨z.toNat, by rw [e]; congr 1; omega, by omega⟩
theorem owns_keys {w : World} {bm n : Nat} {D : DataW Unit} (h : w.ownsMap Try.prog 26 secElem bm n D) : (keysN D).Nodup ∧ (∀ k : Nat, k ∈ keysN D ↔ Maps.has D (.int .u64 (k : Nat)) = true) ∧ Maps.size D = (keysN D).length := by
  obtain ⟨es, rfl, h1, h2, h3⟩ := owns_lits h
  refine ⟨keys_nodup es h1 (fun p hp => by obtain ⟨x, hx, _⟩ := h3 p hp; exact ⟨x, hx⟩), fun k => ?_, by simp [keysN, Maps.size]⟩
  rw [Maps.has_eq, List.any_eq_true]
  constructor
  · intro hm
    obtain ⟨p, hp, e⟩ := List.mem_map.1 hm
    obtain ⟨x, hx, _⟩ := h3 p hp
    rw [hx] at e
    simp [litN] at e
    subst e
    exact ⟨p, hp, by rw [← hx]; exact WideAt.sameKey_self (h2 p hp)⟩
  · rintro ⟨p, hp, e⟩
    have := WideAt.sameKey_eq e
    exact List.mem_map.2 ⟨p, hp, by rw [this]; simp [litN]⟩
/-- so many sectors at most, if all others are 0 -/
theorem owns_tight {w : World} {bm n c : Nat} {D : DataW Unit} {M : Nat → Nat} (h : w.ownsMap Try.prog 26 secElem bm n D) (hp : Sect D M) (hM : ∀ a, c * 512 ≤ a → M a = 0) : w.ownsMap Try.prog 26 secElem bm c D := by
  obtain ⟨h1, h2, h3⟩ := owns_keys h
  have hlen := nodup_len (keysN D) (List.range c) h1 (fun k hk => by
    have e := (h2 k).1 hk
    rw [sect_has hp k] at e
    by_cases hc : k < c
    · simpa using hc
    · have : zeroB M k = true := (secEq_iff _ _).2 fun i hi => hM _ (by omega)
      rw [this] at e; cases e)
  rw [List.length_range, ← h3] at hlen
  obtain ⟨es, clock, e1, e2, e3, e4⟩ := h
  refine ⟨es, clock, e1, e2, ?_, e4⟩
  rw [e4] at hlen
  simpa [Maps.size, length_sorted] using hlen
/-- maps of as many sectors, the one's among the other's, hold the same -/
theorem sect_same {w : World} {b1 b2 n1 n2 : Nat} {D1 D2 : DataW Unit} {M1 M2 : Nat → Nat} (h1 : w.ownsMap Try.prog 26 secElem b1 n1 D1) (h2 : w.ownsMap Try.prog 26 secElem b2 n2 D2) (p1 : Sect D1 M1) (p2 : Sect D2 M2) (hsz : Maps.size D1 = Maps.size D2)
    (hall : ∀ k, zeroB M1 k = false → ∀ i, i < 512 → secF M1 k i = secF M2 k i) : ∀ a, M1 a = M2 a := by
  obtain ⟨a1, a2, a3⟩ := owns_keys h1
  obtain ⟨c1, c2, c3⟩ := owns_keys h2
  have hsub : ∀ k ∈ keysN D1, k ∈ keysN D2 := fun k hk => by
    have e := (a2 k).1 hk
    rw [sect_has p1 k] at e
    have e1 : zeroB M1 k = false := by simpa using e
    refine (c2 k).2 ?_
    rw [sect_has p2 k]
    have : zeroB M2 k = zeroB M1 k := zeroB_congr fun i hi => (hall k e1 i hi).symm
    rw [this, e1]; rfl
  have hback : ∀ k, zeroB M1 k = true → zeroB M2 k = true := fun k hk => by
    cases hz : zeroB M2 k with
    | true => rfl
    | false =>
      have hin : k ∈ keysN D2 := (c2 k).2 (by rw [sect_has p2 k, hz]; rfl)
      have hout : k ∉ keysN D1 := fun hm => by
        have e := (a2 k).1 hm
        rw [sect_has p1 k, hk] at e; cases e
      have := nodup_len (k :: keysN D1) (keysN D2) (List.nodup_cons.2 ⟨hout, a1⟩) (fun x hx => by
        rcases List.mem_cons.1 hx with rfl | hx
        · exact hin
        · exact hsub x hx)
      simp only [List.length_cons] at this
      omega
  intro a
  have ea : a / 512 * 512 + a % 512 = a := by omega
  cases hz : zeroB M1 (a / 512) with
  | false =>
    have := hall _ hz (a % 512) (by omega)
    unfold secF at this
    rwa [ea] at this
  | true =>
    have e1 := (secEq_iff _ _).1 hz (a % 512) (by omega)
    have e2 := (secEq_iff _ _).1 (hback _ hz) (a % 512) (by omega)
    unfold secF at e1 e2
    rw [ea] at e1 e2
    rw [e1, e2]
end Go.Proofs.Ytkalaojbmedhjaa
