/- Texts put together. -/
import Derived.Test.YtmjdnocilbnoaaaYb
import Derived.Test.YtmjdnocilbnoaaaYe
import Derived.Deep.AppendSrc
import Derived.Maps.AppendAt
import Derived.Test.YtmjdnocilbnoaaaYd
import Derived.Deep.RegionHeld3
import Derived.Test.YtmjdnocilbnoaaaYa
import Derived.Test.YtmjdnocilbnoaaaYc
import Derived.Laws.OwnMore
import Derived.ChangeKeysEq
import Derived.Laws.StructEq
import Derived.Deep.MidRow
import Derived.Test.YtmjdnocilbnoaaaRows
import Derived.Deep.DeepMust
import Derived.BigQuiet
import Derived.Deep.QuietTactic
import Derived.Shelf.Small.Bits
import Derived.Shelf.Strconv.Itoa0
import Derived.ProofKit
import Derived.OpenShut
import Derived.Deep.Slices
/- The device of QueueHeads: ground. -/
namespace Go.Proofs.Ytmjdnocilbnoaaa
open Go.RowKit Go.Maps
set_option linter.unusedVariables false
set_option linter.unusedSimpArgs false
set_option maxRecDepth 100000
def headsRow (hs : List Nat) : List Value := hs.map fun (h : Nat) => Value.int .u16 ((h : Nat) : Int)
theorem infoU16 : (Try.prog.info? 38).map (fun i => (i.zero, i.size, i.bytes)) = some (some (.int .u16 0), 1, 2) := by kernel_rfl
def devH (room n A fe0 : Nat) (M0 : Nat → Nat) (hs : List Nat) (M : Nat → Nat) (h : Nat) (c : Cn) : Option (List Nat × (Nat → Nat) × Nat) := if hs.length = room then none else some (hs ++ [headN M0 n A ((fe0 + hs.length) % 65536)], M, 0)
def budH (room : Nat) (hs : List Nat) : Nat := 10 * (room - hs.length)
/-- the row of bytes as it was -/
def Rbk (xa : Option Addr) (xn xc : Nat) (rob : Nat → Option Obj) (V : World) : Prop := ∀ g, (Value.slice xa xn xc).ownBlock = some g → 0 < xn → g < V.heap.size ∧ V.heap[g]? = rob g
/-- how the device's state lies: the boxes of the heads, of the number, of the document's memory and queue; the row of heads, the row of bytes -/
def Ih (room n D A U fe0 us0 : Nat) (ev al : Bool) (xa : Option Addr) (xn xc : Nat) (xs : Nat → Nat × Nat) (rob : Nat → Option Obj) (base ho ro xo wo : Nat) (hs : List Nat) (O : Nat → Prop) (w : World) : Prop := ∃ (va : Option Addr) (vc : Nat), (O ho ∧ O ro ∧ O xo ∧ O wo ∧ (∀ k, (Value.slice va hs.length vc).ownBlock = some k → O k) ∧ (∀ k, (Value.slice xa xn xc).ownBlock = some k → 0 < xn → O k) ∧ ∀ k, O k → k < w.heap.size) ∧ w.heap[ho]? = some (.cells #[.slice va hs.length vc] 42 (0, 0)) ∧ w.heap[ro]? = some (.cells #[.int .i64 (room : Int)] 3 (0, 0)) ∧ w.heap[xo]? = some (.cells #[.int .u64 8192, .slice xa xn xc] 32 (0, 0)) ∧ w.heap[wo]? = some (.cells #[.int .i64 (n : Int), .int .u64 (D : Int), .int .u64 (A : Int), .int .u64 (U : Int), .bool true, .int .i64 (fe0 : Int), .int .i64 (us0 : Int), .bool ev, .bool al] 27 (0, 0)) ∧ w.ownsRow base 38 1 (.slice va hs.length vc) hs.length (headsRow hs) ∧ RefIn (fun k => (Value.slice va hs.length vc).ownBlock = some k) w (.slice xa xn xc) xn xs ∧ (ho ≠ ro ∧ ho ≠ xo ∧ ho ≠ wo ∧ ho < base ∧ ro < base ∧ xo < base ∧ wo < base) ∧ base ≤ w.heap.size ∧ hs.length ≤ room ∧ room ≤ 40 ∧ (∀ z, (Value.slice xa xn xc).ownBlock = some z → 0 < xn → z ≠ ho) ∧ Rbk xa xn xc rob w
theorem ref_apart {w : World} {F : Nat → Prop} {xa : Option Addr} {xn xc : Nat} {xs : Nat → Nat × Nat} (h : RefIn F w (.slice xa xn xc) xn xs) (h0 : 0 < xn) : ∀ g, (Value.slice xa xn xc).ownBlock = some g → ¬ F g := by
  intro g hg
  rcases h with h | ⟨g', cc, he, hF, _⟩
  · omega
  · rw [he] at hg
    simp [Value.ownBlock] at hg
    subst hg
    exact hF
theorem Rbk.keep {xa : Option Addr} {xn xc : Nat} {rob : Nat → Option Obj} {V V2 : World} (h : Rbk xa xn xc rob V) (hs : V.heap.size ≤ V2.heap.size) (hk : 0 < xn → ∀ g, (Value.slice xa xn xc).ownBlock = some g → g < V.heap.size → V2.heap[g]? = V.heap[g]?) : Rbk xa xn xc rob V2 := fun g hg h0 => ⟨Nat.lt_of_lt_of_le (h g hg h0).1 hs, (hk h0 g hg (h g hg h0).1).trans (h g hg h0).2⟩
theorem ref_kept {w w' : World} {F : Nat → Prop} {xa : Option Addr} {xn xc : Nat} {xs : Nat → Nat × Nat} (h : RefIn F w (.slice xa xn xc) xn xs) (hk : 0 < xn → ∀ g, (Value.slice xa xn xc).ownBlock = some g → w'.heap[g]? = w.heap[g]?) : RefIn F w' (.slice xa xn xc) xn xs := by
  rcases h with h | ⟨g, cc, he, hF, hc⟩
  · exact .inl h
  · refine .inr ⟨g, cc, he, hF, fun i hi => ?_⟩
    have hb := hk (by omega) g (by rw [he]; rfl)
    exact ⟨(World.cell?_of_block hb).trans (hc i hi).1, (World.cell?_of_block hb).trans (hc i hi).2⟩
/-- the heads grow -/
theorem ref_grow {w w' : World} {xa : Option Addr} {xn xc : Nat} {xs : Nat → Nat × Nat} {v v' : Value} (h : RefIn (fun k => v.ownBlock = some k) w (.slice xa xn xc) xn xs) (hl : 0 < xn → ∀ k, (Value.slice xa xn xc).ownBlock = some k → k < w.heap.size) (hg : w.grownBy w' v.ownBlock) (hat : v'.ownBlock = v.ownBlock ∨ v'.ownBlock = some w.heap.size) : RefIn (fun k => v'.ownBlock = some k) w' (.slice xa xn xc) xn xs := by
  rcases h with h | ⟨g, cc, he, hF, hc⟩
  · exact .inl h
  · by_cases hx0 : xn = 0
    · exact .inl ⟨hx0, xa, xc, by rw [hx0]⟩
    have hlt := hl (by omega) g (by rw [he]; rfl)
    have hb := hg.block g hlt (fun e => hF e.symm)
    refine .inr ⟨g, cc, he, fun hx => ?_, fun i hi => ⟨(World.cell?_of_block hb).trans (hc i hi).1, (World.cell?_of_block hb).trans (hc i hi).2⟩⟩
    rcases hat with e | e
    · exact hF (e ▸ hx)
    · rw [e] at hx
      simp only [Option.some.injEq] at hx
      omega
theorem devh_no {room n A fe0 : Nat} {M0 : Nat → Nat} {hs : List Nat} {M : Nat → Nat} {h : Nat} {c : Cn} (hn : devH room n A fe0 M0 hs M h c = none) : hs.length = room := by
  unfold devH at hn
  by_cases h0 : hs.length = room
  · exact h0
  · rw [if_neg h0] at hn; cases hn
theorem devh_yes {room n A fe0 : Nat} {M0 : Nat → Nat} {hs : List Nat} {M : Nat → Nat} {h : Nat} {c : Cn} {hs' : List Nat} {M' : Nat → Nat} {cn : Nat} (hn : devH room n A fe0 M0 hs M h c = some (hs', M', cn)) : hs.length ≠ room ∧ hs' = hs ++ [headN M0 n A ((fe0 + hs.length) % 65536)] ∧ M' = M ∧ cn = 0 := by
  unfold devH at hn
  by_cases h0 : hs.length = room
  · rw [if_pos h0] at hn; cases hn
  · rw [if_neg h0] at hn
    simp only [Option.some.injEq, Prod.mk.injEq] at hn
    exact ⟨h0, hn.1.symm, hn.2.1.symm, hn.2.2.symm⟩
theorem ih_lt {room n D A U fe0 us0 : Nat} {ev al : Bool} {xa : Option Addr} {xn xc : Nat} {xs : Nat → Nat × Nat} {rob : Nat → Option Obj} {base ho ro xo wo : Nat} {hs : List Nat} {O : Nat → Prop} {w : World} (h : Ih room n D A U fe0 us0 ev al xa xn xc xs rob base ho ro xo wo hs O w) : ∀ k, O k → k < w.heap.size := by
  obtain ⟨va, vc, h0, _⟩ := h
  exact h0.2.2.2.2.2.2
theorem headsRow_snoc (hs : List Nat) (h : Nat) : headsRow (hs ++ [h]) = headsRow hs ++ [.int .u16 (h : Int)] := by simp [headsRow]
theorem at_fetch {fe0 k m : Nat} (hf : fe0 ≤ 65535) (hk : k ≤ 40) (hm : (fe0 + k) % 65536 = m) : ∃ sm : Nat, wrap64 ((fe0 : Int) + (k : Int)) = (sm : Int) ∧ IntKind.i64.wrap ((fe0 : Int) + (k : Int)) = (sm : Int) ∧ (sm : Int).tmod 65536 = (m : Int) ∧ (sm : Int) % 65536 = (m : Int) := by
  refine ⟨fe0 + k, ?_, wrapRl (fe0 + k) (by omega), ?_, ?_⟩
  · unfold wrap64; omega
  · rw [Int.tmod_eq_emod_of_nonneg (by omega)]; omega
  · omega
theorem own_kept {B n k : Nat} {v : Value} {w w' : World} {xs : List Value} {e : TypeId} (h : w.ownsRow B e k v n xs) (hk : ∀ g, v.ownBlock = some g → w'.heap[g]? = w.heap[g]?) : w'.ownsRow B e k v n xs := by
  refine ⟨h.1, ?_⟩
  rcases h.2 with hn | ⟨g, cap, cur, rfl, hb, hg, rest⟩
  · exact .inl hn
  · exact .inr ⟨g, cap, cur, rfl, hb, (hk g rfl).trans hg, rest⟩

/-- while the device is asked -/
def Wh (V : World) (F : Nat → Prop) (rb κ : Nat) (M : Nat → Nat) (room n D A U fe0 us0 : Nat) (ev al : Bool) (xa : Option Addr) (xn xc : Nat) (xs : Nat → Nat × Nat) (rob : Nat → Option Obj) (base ho ro xo wo : Nat) (va : Option Addr) (k vc : Nat) (hs : List Nat) : Prop := V.heap[ho]? = some (.cells #[.slice va k vc] 42 (0, 0)) ∧ V.heap[ro]? = some (.cells #[.int .i64 (room : Int)] 3 (0, 0)) ∧ V.heap[xo]? = some (.cells #[.int .u64 8192, .slice xa xn xc] 32 (0, 0)) ∧ V.heap[wo]? = some (.cells #[.int .i64 (n : Int), .int .u64 (D : Int), .int .u64 (A : Int), .int .u64 (U : Int), .bool true, .int .i64 (fe0 : Int), .int .i64 (us0 : Int), .bool ev, .bool al] 27 (0, 0)) ∧ V.ownsRow base 38 1 (.slice va k vc) k (headsRow hs) ∧ RefIn (fun z => (Value.slice va k vc).ownBlock = some z) V (.slice xa xn xc) xn xs ∧ RamAt V F rb 8192 κ (.pointer none) M ∧ Rbk xa xn xc rob V
theorem Wh.below {V V2 : World} {F : Nat → Prop} {rb κ : Nat} {M : Nat → Nat} {room n D A U fe0 us0 : Nat} {ev al : Bool} {xa : Option Addr} {xn xc : Nat} {xs : Nat → Nat × Nat} {rob : Nat → Option Obj} {base ho ro xo wo : Nat} {va : Option Addr} {k vc : Nat} {hs : List Nat} (h : Wh V F rb κ M room n D A U fe0 us0 ev al xa xn xc xs rob base ho ro xo wo va k vc hs) (hb : Below V.heap.size V V2) : Wh V2 F rb κ M room n D A U fe0 us0 ev al xa xn xc xs rob base ho ro xo wo va k vc hs := ⟨below_box h.1 hb, below_box h.2.1 hb, below_box h.2.2.1 hb, below_box h.2.2.2.1 hb, own_below h.2.2.2.2.1 hb, h.2.2.2.2.2.1.below hb, h.2.2.2.2.2.2.1.below hb, h.2.2.2.2.2.2.2.keep hb.size (fun _ g _ hl => hb.block g hl)⟩

/-- behind append: the heads' row is the new one, the heads' box the old one -/
def Wg (w V : World) (F : Nat → Prop) (rb κ : Nat) (M : Nat → Nat) (room n D A U fe0 us0 : Nat) (ev al : Bool) (xa : Option Addr) (xn xc : Nat) (xs : Nat → Nat × Nat) (rob : Nat → Option Obj) (base ho ro xo wo : Nat) (va' : Option Addr) (k' vc' : Nat) (va : Option Addr) (k vc : Nat) (hs' : List Nat) (O : Nat → Prop) : Prop := V.heap[ho]? = some (.cells #[.slice va k vc] 42 (0, 0)) ∧ V.heap[ro]? = some (.cells #[.int .i64 (room : Int)] 3 (0, 0)) ∧ V.heap[xo]? = some (.cells #[.int .u64 8192, .slice xa xn xc] 32 (0, 0)) ∧ V.heap[wo]? = some (.cells #[.int .i64 (n : Int), .int .u64 (D : Int), .int .u64 (A : Int), .int .u64 (U : Int), .bool true, .int .i64 (fe0 : Int), .int .i64 (us0 : Int), .bool ev, .bool al] 27 (0, 0)) ∧ V.ownsRow base 38 1 (.slice va' k' vc') k' (headsRow hs') ∧ RefIn (fun z => (Value.slice va' k' vc').ownBlock = some z) V (.slice xa xn xc) xn xs ∧ RamAt V F rb 8192 κ (.pointer none) M ∧ Step (fun z => F z ∨ O z) w (fun z => F z ∨ (O z ∨ (Value.slice va' k' vc').ownBlock = some z)) V ∧ (∀ z, (Value.slice va' k' vc').ownBlock = some z → ¬ F z) ∧ ¬ F ho ∧ (∀ z, (Value.slice xa xn xc).ownBlock = some z → 0 < xn → z ≠ ho) ∧ Rbk xa xn xc rob V
def Wz (w V : World) (F : Nat → Prop) (rb κ : Nat) (M : Nat → Nat) (room n D A U fe0 us0 : Nat) (ev al : Bool) (xa : Option Addr) (xn xc : Nat) (xs : Nat → Nat × Nat) (rob : Nat → Option Obj) (base ho ro xo wo : Nat) (va' : Option Addr) (k' vc' : Nat) (hs' : List Nat) (O : Nat → Prop) : Prop := V.heap[ho]? = some (.cells #[.slice va' k' vc'] 42 (0, 0)) ∧ V.heap[ro]? = some (.cells #[.int .i64 (room : Int)] 3 (0, 0)) ∧ V.heap[xo]? = some (.cells #[.int .u64 8192, .slice xa xn xc] 32 (0, 0)) ∧ V.heap[wo]? = some (.cells #[.int .i64 (n : Int), .int .u64 (D : Int), .int .u64 (A : Int), .int .u64 (U : Int), .bool true, .int .i64 (fe0 : Int), .int .i64 (us0 : Int), .bool ev, .bool al] 27 (0, 0)) ∧ V.ownsRow base 38 1 (.slice va' k' vc') k' (headsRow hs') ∧ RefIn (fun z => (Value.slice va' k' vc').ownBlock = some z) V (.slice xa xn xc) xn xs ∧ RamAt V F rb 8192 κ (.pointer none) M ∧ Step (fun z => F z ∨ O z) w (fun z => F z ∨ (O z ∨ (Value.slice va' k' vc').ownBlock = some z)) V ∧ (∀ z, (Value.slice va' k' vc').ownBlock = some z → ¬ F z) ∧ Rbk xa xn xc rob V
/-- what O is to the boxes -/
def Oh (w : World) (F O : Nat → Prop) (room n D A U fe0 us0 : Nat) (ev al : Bool) (xa : Option Addr) (xn xc : Nat) (xs : Nat → Nat × Nat) (rob : Nat → Option Obj) (base ho ro xo wo : Nat) (va : Option Addr) (k vc : Nat) : Prop := (O ho ∧ O ro ∧ O xo ∧ O wo ∧ (∀ z, (Value.slice va k vc).ownBlock = some z → O z) ∧ (∀ z, (Value.slice xa xn xc).ownBlock = some z → 0 < xn → O z) ∧ ∀ z, O z → z < w.heap.size) ∧ (∀ z, O z → ¬ F z) ∧ (∀ z, (Value.slice xa xn xc).ownBlock = some z → 0 < xn → z ≠ ho) ∧ (∀ z, (Value.slice va k vc).ownBlock = some z → base ≤ z)
theorem own_shp {B k : Nat} {w : World} {v : Value} {xs : List Value} {e : TypeId} (h : w.ownsRow B e 1 v k xs) : ∃ a c, v = .slice a k c := by
  rcases h.2 with ⟨rfl, rfl⟩ | ⟨g, cap, cur, rfl, _⟩
  · exact ⟨none, 0, rfl⟩
  · exact ⟨_, _, rfl⟩
theorem own_set {B n k q i : Nat} {u v : Value} {w : World} {xs : List Value} {e : TypeId} (h : w.ownsRow B e k v n xs) (hq : q < B) : (w.setCell ⟨q, i, none⟩ u).ownsRow B e k v n xs := by
  refine ⟨h.1, ?_⟩
  rcases h.2 with hn | ⟨g, cap, cur, hv, hb, hg, rest⟩
  · exact .inl hn
  · exact .inr ⟨g, cap, cur, hv, hb, (heap_setCell _ _ _ _ _ (by omega)).trans hg, rest⟩
theorem base_le {w V : World} {F G : Nat → Prop} {b : Nat} (h : Step F w G V) (hb : b ≤ w.heap.size) : b ≤ V.heap.size := Nat.le_trans hb h.size
theorem wp_append_head {w : World} {o : Oper} {a : Act} {KK : Act → World → Prop} {Q : Exit → Act → World → Prop} (s x : Operand) (ho : o.op = .call { callee := .builtin .append, args := #[s, x], argTypes := #[42, 42] }) (B : Nat) (hs : List Nat) (hd : Nat) (v : Value) (hs' : a.eval s = v) {k : Nat} (hown : w.ownsRow B 38 1 v k (headsRow hs)) (hk : hs.length = k) (pn c : Nat) (hx : a.eval x = .slice (some ⟨pn, 0, none⟩) 1 c) (hnew : ∀ j u, [Value.int .u16 (hd : Int)][j]? = some u → w.cell? ((⟨pn, 0, none⟩ : Addr).add j) = some u) (hlen : k ≤ 1000) (hB : B ≤ w.heap.size)
    (h : ∀ v' w', w'.ownsRow B 38 1 v' (k + 1) (headsRow (hs ++ [hd])) → w.grownBy w' v.ownBlock → (v'.ownBlock = v.ownBlock ∨ v'.ownBlock = some w.heap.size) → KK (a.put o.dst v') w') : o.wp Try.prog a w KK Q := by
  obtain ⟨i0, hi0, hz0, hz1, hz2⟩ := info_parts infoU16
  obtain ⟨v', w', hr, h2, h3, _, h5⟩ := run_append_own_at (P := Try.prog) w B 42 o.type 38 i0 (.int .u16 0) 1 2 Try.underlying42 hi0 hz0 hz1 hz2 rfl (by decide) v k (headsRow hs) hown ⟨pn, 0, none⟩ 1 c [.int .u16 (hd : Int)] rfl hnew (by intro u hu; simp at hu; subst hu; rfl) (by unfold maxLen; omega) (by omega) hB
  unfold Oper.wp execOp
  simp only [ho, resolve, invoke, builtin, Sem.run_bind, Sem.run_pure, Result.andThen_ok, List.map_toArray, List.map_cons, List.map_nil, hs', hx, hr]
  exact h v' w' (by rw [headsRow_snoc]; exact h2) h3 h5
section
variable {w V V2 : World} {F O : Nat → Prop} {rb κ : Nat} {M : Nat → Nat} {room n D A U fe0 us0 : Nat} {ev al : Bool} {xa : Option Addr} {xn xc : Nat} {xs : Nat → Nat × Nat} {rob : Nat → Option Obj} {base ho ro xo wo : Nat} {va va' : Option Addr} {k vc vc' : Nat} {hs : List Nat} {hd cc : Nat}
theorem wh_grow (h : Wh V F rb κ M room n D A U fe0 us0 ev al xa xn xc xs rob base ho ro xo wo va k vc hs) (hst : Step (fun z => F z ∨ O z) w (fun z => F z ∨ O z) V) (hO : Oh w F O room n D A U fe0 us0 ev al xa xn xc xs rob base ho ro xo wo va k vc ∧ (ho < base ∧ ro < base ∧ xo < base ∧ wo < base)) (hown : V2.ownsRow base 38 1 (.slice va' (k + 1) vc') (k + 1) (headsRow (hs ++ [hd]))) (hg : V.grownBy V2 (Value.slice va k vc).ownBlock) (hat : (Value.slice va' (k + 1) vc').ownBlock = (Value.slice va k vc).ownBlock ∨ (Value.slice va' (k + 1) vc').ownBlock = some V.heap.size) : Wg w V2 F rb κ M room n D A U fe0 us0 ev al xa xn xc xs rob base ho ro xo wo va' (k + 1) vc' va k vc (hs ++ [hd]) O := by
  obtain ⟨h1, h2, h3, h4, h5, h6, h7, hrb⟩ := h
  obtain ⟨⟨⟨o1, o2, o3, o4, o5, o6, o7⟩, o8, o9, o10⟩, b1, b2, b3, b4⟩ := hO
  have hkeep : ∀ z ob, V.heap[z]? = some ob → z < base → V2.heap[z]? = some ob := fun z ob hz hlt => (hg.block z (Array.getElem?_eq_some_iff.1 hz).1 (fun e => by have := o10 z e.symm; omega)).trans hz
  have hnF : ∀ z, (Value.slice va' (k + 1) vc').ownBlock = some z → ¬ F z := by
    intro z hz hf
    rcases hat with e | e
    · exact o8 z (o5 z (e ▸ hz)) hf
    · rw [e] at hz
      simp only [Option.some.injEq] at hz
      have := h7.lt z hf
      omega
  refine ⟨hkeep _ _ h1 b1, hkeep _ _ h2 b2, hkeep _ _ h3 b3, hkeep _ _ h4 b4, hown, ref_grow h6 (fun hx z hz => Nat.lt_of_lt_of_le (o7 z (o6 z hz hx)) hst.size) hg hat, h7.kept hg.size (fun z hz => hg.block z (h7.lt z hz) (fun e => o8 z (o5 z e.symm) hz)), hst.trans ⟨hg.os, hg.tape, hg.output, hg.size, fun z hz hn => hg.block z hz (fun e => hn (.inr (o5 z e.symm))), fun z hz => ?_, fun z hz => hz.elim .inl (fun h => .inr (.inl h))⟩, hnF, o8 ho o1, o9, hrb.keep hg.size (fun h0 g hz hl => hg.block g hl (fun e => ref_apart h6 h0 g hz e.symm))⟩
  rcases hz with hz | hz | hz
  · exact .inl (.inl hz)
  · exact .inl (.inr hz)
  · rcases hat with e | e
    · exact .inl (.inr (o5 z (e ▸ hz)))
    · rw [e] at hz
      simp only [Option.some.injEq] at hz
      exact .inr (by omega)
theorem wg_set (h : Wg w V F rb κ M room n D A U fe0 us0 ev al xa xn xc xs rob base ho ro xo wo va' k vc' va cc vc hs O) (hd : ho ≠ ro ∧ ho ≠ xo ∧ ho ≠ wo ∧ ho < base) (hO : O ho) : Wz w (V.setCell ⟨ho, 0, none⟩ (.slice va' k vc')) F rb κ M room n D A U fe0 us0 ev al xa xn xc xs rob base ho ro xo wo va' k vc' hs O := by
  obtain ⟨h1, h2, h3, h4, h5, h6, h7, h8, h9, h10, h11, hrb⟩ := h
  refine ⟨set_box h1 0 _, (heap_setCell _ _ _ _ _ (fun e => hd.1 e.symm)).trans h2, (heap_setCell _ _ _ _ _ (fun e => hd.2.1 e.symm)).trans h3, (heap_setCell _ _ _ _ _ (fun e => hd.2.2.1 e.symm)).trans h4, own_set h5 hd.2.2.2, ref_kept h6 (fun h0 g hg => heap_setCell _ _ _ _ _ (h11 g hg h0)), h7.setCell h10 _ _, h8.trans ?_, h9, hrb.keep (by simp [World.setCell]) (fun h0 g hz _ => heap_setCell _ _ _ _ _ (h11 g hz h0))⟩
  have := step_set V ho 0 (.slice va' k vc')
  exact ⟨this.os, this.tape, this.output, this.size, fun z hz hn => this.block z hz (fun e => hn (.inr (.inl (e ▸ hO)))), fun z hz => .inl hz, fun z hz => hz⟩
theorem wz_end (h : Wz w V F rb κ M room n D A U fe0 us0 ev al xa xn xc xs rob base ho ro xo wo va' (k + 1) vc' (hs ++ [hd]) O) (hk : hs.length = k ∧ k ≤ 40) (hO : Oh w F O room n D A U fe0 us0 ev al xa xn xc xs rob base ho ro xo wo va k vc ∧ (ho < base ∧ ro < base ∧ xo < base ∧ wo < base)) (hE : (ho ≠ ro ∧ ho ≠ xo ∧ ho ≠ wo) ∧ base ≤ w.heap.size ∧ k + 1 ≤ room ∧ room ≤ 40) : ∃ (F' O' : Nat → Prop) (κ' : Nat), RamAt V F' rb 8192 κ' (.pointer none) M ∧ Ih room n D A U fe0 us0 ev al xa xn xc xs rob base ho ro xo wo (hs ++ [hd]) O' V ∧ (∀ z, O' z → ¬ F' z) ∧ Step (fun z => F z ∨ O z) w (fun z => F' z ∨ O' z) V ∧ κ' + 10 + budH room (hs ++ [hd]) ≤ κ + budH room hs := by
  obtain ⟨h1, h2, h3, h4, h5, h6, h7, h8, h9, hrb⟩ := h
  obtain ⟨⟨⟨o1, o2, o3, o4, o5, o6, o7⟩, o8, o9, o10⟩, b1, b2, b3, b4⟩ := hO
  obtain ⟨⟨d1, d2, d3⟩, e1, e2, e3⟩ := hE
  have hl : (hs ++ [hd]).length = k + 1 := by rw [List.length_append, hk.1]; rfl
  have hlt : ∀ z, (O z ∨ (Value.slice va' (k + 1) vc').ownBlock = some z) → z < V.heap.size := fun z hz => hz.elim (fun ho => Nat.lt_of_lt_of_le (o7 z ho) h8.size) (fun hv => (h5.lt z hv).2)
  refine ⟨F, fun z => O z ∨ (Value.slice va' (k + 1) vc').ownBlock = some z, κ, h7, ⟨va', vc', ?_⟩, fun z hz => hz.elim (o8 z) (h9 z), h8, ?_⟩
  · rw [hl]
    exact ⟨⟨.inl o1, .inl o2, .inl o3, .inl o4, fun z hz => .inr hz, fun z hz hx => .inl (o6 z hz hx), hlt⟩, h1, h2, h3, h4, h5, h6, ⟨d1, d2, d3, b1, b2, b3, b4⟩, Nat.le_trans e1 h8.size, e2, e3, o9, hrb⟩
  · unfold budH
    rw [hl, hk.1]
    omega
end
end Go.Proofs.Ytmjdnocilbnoaaa

/- The device of QueueHeads. -/
namespace Go.Proofs.Ytmjdnocilbnoaaa
open Go.RowKit Go.Maps
set_option linter.unusedVariables false
set_option linter.unusedSimpArgs false
set_option maxRecDepth 100000
set_option maxHeartbeats 8000000 in
theorem dev_heads {M0 : Nat → Nat} (hM0 : ∀ z, M0 z ≤ 255) {room n D A U fe0 us0 : Nat} {ev al : Bool} {xa : Option Addr} {xn xc : Nat} {xs : Nat → Nat × Nat} {rob : Nat → Option Obj} {base ho ro xo wo : Nat} (hg : Gd n D A U) (hfe : fe0 ≤ 65535) (hxn : xn ≤ 1000000) (hgt : ∀ z, rget xs xn z = M0 z) (rb : Nat) : Dvc rb 12 #[.pointer (some ⟨ho, 0, none⟩), .pointer (some ⟨ro, 0, none⟩), .pointer (some ⟨xo, 0, none⟩), .pointer (some ⟨wo, 0, none⟩)] (devH room n A fe0 M0) (budH room) (Ih room n D A U fe0 us0 ev al xa xn xc xs rob base ho ro xo wo) where
  cf := fun args V => by simp [go_sem]
  lt := fun h => ih_lt h
  kept := by
    rintro hs O w w' ⟨va, vc, h0, h1, h2, h3, h4, h5, h6, h7, h8, h9⟩ hsz hk
    exact ⟨va, vc, ⟨h0.1, h0.2.1, h0.2.2.1, h0.2.2.2.1, h0.2.2.2.2.1, h0.2.2.2.2.2.1, fun k ho => Nat.lt_of_lt_of_le (h0.2.2.2.2.2.2 k ho) hsz⟩, (hk ho h0.1).trans h1, (hk ro h0.2.1).trans h2, (hk xo h0.2.2.1).trans h3, (hk wo h0.2.2.2.1).trans h4, own_kept h5 (fun g hg => hk g (h0.2.2.2.2.1 g hg)), ref_kept h6 (fun hx g hg => hk g (h0.2.2.2.2.2.1 g hg hx)), h7, Nat.le_trans h8 hsz, h9.1, h9.2.1, h9.2.2.1, h9.2.2.2.keep hsz (fun hx g hg _ => hk g (h0.2.2.2.2.2.1 g hg hx))⟩
  le := by
    intro t M h c t' M' n' hn _
    rw [(devh_yes hn).2.2.2]
    omega
  no := by
    rintro hs M h c F O κ w a cc hn hr hi hO hs0
    have h0 := devh_no hn
    obtain ⟨va, vc, _, h1, h2, _⟩ := hi
    rw [h0] at h1
    obtain ⟨L, hL⟩ : ∃ L, c.l.length = L := ⟨_, rfl⟩
    rw [hL]
    generalize c.ta = ta
    generalize c.tl = tl
    have XB : Hid (Below w.heap.size w (w.alloc (.cells #[.slice a L cc, .int .u64 (ta : Int), .int .u64 (tl : Int)] 50)) ∧ (w.alloc (.cells #[.slice a L cc, .int .u64 (ta : Int), .int .u64 (tl : Int)] 50)).heap[ho]? = some (.cells #[.slice va room vc] 42 (0, 0)) ∧ (w.alloc (.cells #[.slice a L cc, .int .u64 (ta : Int), .int .u64 (tl : Int)] 50)).heap[ro]? = some (.cells #[.int .i64 (room : Int)] 3 (0, 0))) := ⟨one_box _ _, below_box h1 (one_box _ _), below_box h2 (one_box _ _)⟩
    clear h0 h1 h2 hn hr hO hs0 hL
    show Calls Try.prog 12 #[.agg #[.slice a L cc, .int .u64 (ta : Int), .int .u64 (tl : Int)], .pointer (some ⟨ho, 0, none⟩), .pointer (some ⟨ro, 0, none⟩), .pointer (some ⟨xo, 0, none⟩), .pointer (some ⟨wo, 0, none⟩)] w _
    go_enter Try.func12, Try.ntmps12
    go_upto_region 1 with fail
    generalize w.alloc (.cells #[.slice a L cc, .int .u64 (ta : Int), .int .u64 (tl : Int)] 50) = v0 at *
    obtain ⟨k0, k1⟩ := box1_facts XB.out.2.1
    obtain ⟨m0, m1⟩ := box1_facts XB.out.2.2
    go_wp2_with fail
    go_ret2
    exact ⟨rfl, XB.out.1⟩
  yes := by
    rintro hs M h c F O κ w a cc t' M' n' hn hr hκ hi hO hs0 hg0 hl hok
    obtain ⟨h0, rfl, hMM, rfl⟩ := devh_yes hn
    have hMM2 := hMM.symm
    subst hMM2
    obtain ⟨va, vc, h00, h1, h2, h3, h4, h5, h6, h7, h8, h9, h10, h11, hrb⟩ := hi
    obtain ⟨k, hk⟩ : ∃ k, hs.length = k := ⟨_, rfl⟩
    rw [hk] at h0 h00 h1 h5 h6 h9 ⊢
    obtain ⟨L, hL⟩ : ∃ L, c.l.length = L := ⟨_, rfl⟩
    rw [hL]
    generalize c.ta = ta
    generalize c.tl = tl
    obtain ⟨hd, hhd⟩ : ∃ hd, headN M0 n A ((fe0 + k) % 65536) = hd := ⟨_, rfl⟩
    obtain ⟨m, hm, hfm⟩ : ∃ m, m ≤ 65535 ∧ (fe0 + k) % 65536 = m := ⟨_, by omega, rfl⟩
    have hhl : hd ≤ 65535 := by rw [← hhd]; exact rd_lt hM0 _
    rw [hhd]
    have HK : Hid (hs.length = k ∧ k ≤ 40) := ⟨hk, by omega⟩
    have HB : Hid (base ≤ w.heap.size) := h8
    have HO : Hid (Oh w F O room n D A U fe0 us0 ev al xa xn xc xs rob base ho ro xo wo va k vc ∧ (ho < base ∧ ro < base ∧ xo < base ∧ wo < base)) := ⟨⟨h00, hO, h11, fun z hz => (h5.lt z hz).1⟩, h7.2.2.2⟩
    have HD : Hid ((ho ≠ ro ∧ ho ≠ xo ∧ ho ≠ wo ∧ ho < base) ∧ O ho) := ⟨⟨h7.1, h7.2.1, h7.2.2.1, h7.2.2.2.1⟩, h00.1⟩
    have HE : Hid ((ho ≠ ro ∧ ho ≠ xo ∧ ho ≠ wo) ∧ base ≤ w.heap.size ∧ k + 1 ≤ room ∧ room ≤ 40) := ⟨⟨h7.1, h7.2.1, h7.2.2.1⟩, h8, by omega, h10⟩
    have hne : ¬ k = room := h0
    obtain ⟨sm, e8, e8i, e9, e9b⟩ := at_fetch hfe (HK.out.2) hfm
    have e16 : IntKind.u16.wrap (hd : Int) = (hd : Int) := u16_id hhl
    have KH : Hid (∀ V, (Wh V F rb κ M room n D A U fe0 us0 ev al xa xn xc xs rob base ho ro xo wo va k vc hs) → Calls Try.prog 13 #[.agg #[.int .u64 8192, .slice xa xn xc], .agg #[.int .i64 (n : Int), .int .u64 (D : Int), .int .u64 (A : Int), .int .u64 (U : Int)], .int .i64 (m : Int)] V fun e w' => e = .returned (.int .i64 (hd : Int)) ∧ Below V.heap.size V w') := by
      intro V hV
      have := rhead_any hV.2.2.2.2.2.1 hgt hM0 hxn hg m (m % n) hm rfl
      rw [← hhd, hfm]
      exact this
    have hbx : Below w.heap.size w (w.alloc (.cells #[.slice a L cc, .int .u64 (ta : Int), .int .u64 (tl : Int)] 50)) := one_box _ _
    have XB : Hid ((Wh (w.alloc (.cells #[.slice a L cc, .int .u64 (ta : Int), .int .u64 (tl : Int)] 50)) F rb κ M room n D A U fe0 us0 ev al xa xn xc xs rob base ho ro xo wo va k vc hs) ∧ Step (fun z => F z ∨ O z) w (fun z => F z ∨ O z) (w.alloc (.cells #[.slice a L cc, .int .u64 (ta : Int), .int .u64 (tl : Int)] 50))) := ⟨⟨below_box h1 hbx, below_box h2 hbx, below_box h3 hbx, below_box h4 hbx, own_below h5 hbx, h6.below hbx, hr.below hbx, hrb.keep hbx.size (fun _ g _ hl => hbx.block g hl)⟩, Step.of_below hbx⟩
    clear h0 h00 h1 h2 h3 h4 h5 h6 h7 h8 h9 h10 h11 hrb hn hr hO hs0 hL hbx hg0 hl hok hκ hm hfm hhd hhl hk
    show Calls Try.prog 12 #[.agg #[.slice a L cc, .int .u64 (ta : Int), .int .u64 (tl : Int)], .pointer (some ⟨ho, 0, none⟩), .pointer (some ⟨ro, 0, none⟩), .pointer (some ⟨xo, 0, none⟩), .pointer (some ⟨wo, 0, none⟩)] w _
    go_enter Try.func12, Try.ntmps12
    go_upto_region 1 with fail
    generalize w.alloc (.cells #[.slice a L cc, .int .u64 (ta : Int), .int .u64 (tl : Int)] 50) = v0 at *
    obtain ⟨k0, k1⟩ := box1_facts XB.out.1.1
    obtain ⟨m0, m1⟩ := box1_facts XB.out.1.2.1
    go_upto_region 3 with fail
    clear k0 k1 m0 m1
    have Xd : Hid ((Wh v0.drew F rb κ M room n D A U fe0 us0 ev al xa xn xc xs rob base ho ro xo wo va k vc hs) ∧ Step (fun z => F z ∨ O z) w (fun z => F z ∨ O z) v0.drew) := ⟨XB.out.1.below (Below.drew (Below.refl _ _)), XB.out.2.trans (Step.of_below (Below.drew (Below.refl _ _)))⟩
    clear XB
    refine wp_region_held_drew (S := fun Z => Z.cell? ⟨xo, 0, none⟩ = some (.int .u64 8192) ∧ Z.cell? ⟨xo, 1, none⟩ = some (.slice xa xn xc) ∧ Z.cell? ⟨wo, 0, none⟩ = some (.int .i64 (n : Int)) ∧ Z.cell? ⟨wo, 1, none⟩ = some (.int .u64 (D : Int)) ∧ Z.cell? ⟨wo, 2, none⟩ = some (.int .u64 (A : Int)) ∧ Z.cell? ⟨wo, 3, none⟩ = some (.int .u64 (U : Int)) ∧ Z.cell? ⟨wo, 5, none⟩ = some (.int .i64 (fe0 : Int))) (by kernel_rfl) ⟨cellOf Xd.out.1.2.2.1 0 _ rfl, cellOf Xd.out.1.2.2.1 1 _ rfl, cellOf Xd.out.1.2.2.2.1 0 _ rfl, cellOf Xd.out.1.2.2.2.1 1 _ rfl, cellOf Xd.out.1.2.2.2.1 2 _ rfl, cellOf Xd.out.1.2.2.2.1 3 _ rfl, cellOf Xd.out.1.2.2.2.1 5 _ rfl⟩ ?_
    intro hS
    generalize v0.drew = wd at *
    refine wpAnyH_take (i := 1) (v := ?_) rfl (by kernel_rfl) (by kernel_rfl) (by kernel_rfl) (fun _ _ _ h => h) (Or.inl ⟨by kernel_rfl, ?_⟩) hS ?_
    rotate_left
    · intro w hSw; (try dsimp only at hSw); go_simp; try (with_reducible rfl)
    (try simp only [Act.put, List.getElem_toArray, List.getElem_cons_succ, List.getElem_cons_zero, List.setIfInBounds_toArray, List.set_cons_zero, List.set_cons_succ])
    refine wpAnyH_take (i := 2) (v := ?_) rfl (by kernel_rfl) (by kernel_rfl) (by kernel_rfl) (fun _ _ _ h => h) (Or.inl ⟨by kernel_rfl, ?_⟩) hS ?_
    rotate_left
    · intro w hSw; (try dsimp only at hSw); go_simp; try (with_reducible rfl)
    (try simp only [Act.put, List.getElem_toArray, List.getElem_cons_succ, List.getElem_cons_zero, List.setIfInBounds_toArray, List.set_cons_zero, List.set_cons_succ])
    refine wpAnyH_take (i := 3) (v := ?_) rfl (by kernel_rfl) (by kernel_rfl) (by kernel_rfl) (fun _ _ _ h => h) (Or.inl ⟨by kernel_rfl, ?_⟩) hS ?_
    rotate_left
    · intro w hSw; (try dsimp only at hSw); go_simp; try (with_reducible rfl)
    (try simp only [Act.put, List.getElem_toArray, List.getElem_cons_succ, List.getElem_cons_zero, List.setIfInBounds_toArray, List.set_cons_zero, List.set_cons_succ])
    refine wpAnyH_take (i := 4) (v := ?_) rfl (by kernel_rfl) (by kernel_rfl) (by kernel_rfl) (fun _ _ _ h => h) (Or.inl ⟨by kernel_rfl, ?_⟩) hS ?_
    rotate_left
    · intro w hSw; (try dsimp only at hSw); go_simp; try (with_reducible rfl)
    (try simp only [Act.put, List.getElem_toArray, List.getElem_cons_succ, List.getElem_cons_zero, List.setIfInBounds_toArray, List.set_cons_zero, List.set_cons_succ])
    refine wpAnyH_take (i := 5) (v := ?_) rfl (by kernel_rfl) (by kernel_rfl) (by kernel_rfl) (fun _ _ _ h => h) (Or.inl ⟨by kernel_rfl, ?_⟩) hS ?_
    rotate_left
    · intro w hSw; (try dsimp only at hSw); go_simp; try (with_reducible rfl)
    (try simp only [Act.put, List.getElem_toArray, List.getElem_cons_succ, List.getElem_cons_zero, List.setIfInBounds_toArray, List.set_cons_zero, List.set_cons_succ])
    refine wpAnyH_ready (rs := [0, 6]) (by kernel_rfl) (by simp) ?_
    refine AllReadyH.cons rfl (fun K1 hK1 => ?_) (AllReadyH.cons rfl (fun K1 hK1 => ?_) AllReadyH.nil)
    · have hz : wd.cell? ⟨ho, 0, none⟩ = some (.slice va k vc) := cellOf Xd.out.1.1 0 _ rfl
      go_simp
      clear hz
      refine hK1.out _ _ ⟨cellOf Xd.out.1.2.2.1 0 _ rfl, cellOf Xd.out.1.2.2.1 1 _ rfl, cellOf Xd.out.1.2.2.2.1 0 _ rfl, cellOf Xd.out.1.2.2.2.1 1 _ rfl, cellOf Xd.out.1.2.2.2.1 2 _ rfl, cellOf Xd.out.1.2.2.2.1 3 _ rfl, cellOf Xd.out.1.2.2.2.1 5 _ rfl⟩ (fun hS1 => ?_)
      clear hK1 K1 hS
      (try simp only [Act.put, List.getElem_toArray, List.getElem_cons_succ, List.getElem_cons_zero, List.setIfInBounds_toArray, List.set_cons_zero, List.set_cons_succ])
      refine wpAnyH_ready (rs := [6]) (by kernel_rfl) (by simp) ?_
      refine AllReadyH.cons rfl (fun K1 hK1 => ?_) AllReadyH.nil
      have hz : wd.cell? ⟨ho, 0, none⟩ = some (.slice va k vc) := cellOf Xd.out.1.1 0 _ rfl
      go_simp
      clear hz
      refine hK1.out _ _ ⟨cellOf Xd.out.1.2.2.1 0 _ rfl, cellOf Xd.out.1.2.2.1 1 _ rfl, cellOf Xd.out.1.2.2.2.1 0 _ rfl, cellOf Xd.out.1.2.2.2.1 1 _ rfl, cellOf Xd.out.1.2.2.2.1 2 _ rfl, cellOf Xd.out.1.2.2.2.1 3 _ rfl, cellOf Xd.out.1.2.2.2.1 5 _ rfl⟩ (fun hS2 => ?_)
      clear hK1 K1 hS1
      (try simp only [Act.put, List.getElem_toArray, List.getElem_cons_succ, List.getElem_cons_zero, List.setIfInBounds_toArray, List.set_cons_zero, List.set_cons_succ])
      refine wpAnyH_take (i := 7) (v := ?_) rfl (by kernel_rfl) (by kernel_rfl) (by kernel_rfl) (fun _ _ _ h => h) (Or.inl ⟨by kernel_rfl, ?_⟩) hS2 ?_
      rotate_left
      · intro w hSw; (try dsimp only at hSw); go_simp; try (with_reducible rfl)
      (try simp only [Act.put, List.getElem_toArray, List.getElem_cons_succ, List.getElem_cons_zero, List.setIfInBounds_toArray, List.set_cons_zero, List.set_cons_succ])
      refine wpAnyH_take (i := 8) (v := ?_) rfl (by kernel_rfl) (by kernel_rfl) (by kernel_rfl) (fun _ _ _ h => h) (Or.inl ⟨by kernel_rfl, ?_⟩) hS2 ?_
      rotate_left
      · intro w hSw; (try dsimp only at hSw); go_simp; try (with_reducible rfl)
      (try simp only [Act.put, List.getElem_toArray, List.getElem_cons_succ, List.getElem_cons_zero, List.setIfInBounds_toArray, List.set_cons_zero, List.set_cons_succ])
      refine wpAnyH_take (i := 9) (v := ?_) rfl (by kernel_rfl) (by kernel_rfl) (by kernel_rfl) (fun _ _ _ h => h) (Or.inl ⟨by kernel_rfl, ?_⟩) hS2 ?_
      rotate_left
      · intro w hSw; (try dsimp only at hSw); go_simp; try (with_reducible rfl)
      (try simp only [Act.put, List.getElem_toArray, List.getElem_cons_succ, List.getElem_cons_zero, List.setIfInBounds_toArray, List.set_cons_zero, List.set_cons_succ])
      refine wpAnyH_ready (rs := [10]) (by kernel_rfl) (by simp) ?_
      refine AllReadyH.cons rfl (fun K1 hK1 => ?_) AllReadyH.nil
      go_simp
      refine (KH.out _ Xd.out.1).mono ?_
      rintro e w3 ⟨rfl, hb⟩
      have X3 : Hid ((Wh w3 F rb κ M room n D A U fe0 us0 ev al xa xn xc xs rob base ho ro xo wo va k vc hs) ∧ Step (fun z => F z ∨ O z) w (fun z => F z ∨ O z) w3) := ⟨Xd.out.1.below hb, Xd.out.2.trans (Step.of_below hb)⟩
      clear hb Xd
      refine hK1.out _ _ ⟨cellOf X3.out.1.2.2.1 0 _ rfl, cellOf X3.out.1.2.2.1 1 _ rfl, cellOf X3.out.1.2.2.2.1 0 _ rfl, cellOf X3.out.1.2.2.2.1 1 _ rfl, cellOf X3.out.1.2.2.2.1 2 _ rfl, cellOf X3.out.1.2.2.2.1 3 _ rfl, cellOf X3.out.1.2.2.2.1 5 _ rfl⟩ (fun hS3 => ?_)
      clear hK1 K1 hS2
      (try simp only [Act.put, List.getElem_toArray, List.getElem_cons_succ, List.getElem_cons_zero, List.setIfInBounds_toArray, List.set_cons_zero, List.set_cons_succ])
      refine wpAnyH_take (i := 11) (v := ?_) rfl (by kernel_rfl) (by kernel_rfl) (by kernel_rfl) (fun _ _ _ h => h) (Or.inl ⟨by kernel_rfl, ?_⟩) hS3 ?_
      rotate_left
      · intro w hSw; (try dsimp only at hSw); go_simp; try (with_reducible rfl)
      (try simp only [Act.put, List.getElem_toArray, List.getElem_cons_succ, List.getElem_cons_zero, List.setIfInBounds_toArray, List.set_cons_zero, List.set_cons_succ])
      refine wpAnyH_ready (rs := [12]) (by kernel_rfl) (by simp) ?_
      refine AllReadyH.cons rfl (fun K1 hK1 => ?_) AllReadyH.nil
      go_simp
      have hb : Below w3.heap.size w3 (w3.alloc (.cells #[.int .u16 (hd : Int)] 38)) := one_box _ _
      have X4 : Hid (((Wh (w3.alloc (.cells #[.int .u16 (hd : Int)] 38)) F rb κ M room n D A U fe0 us0 ev al xa xn xc xs rob base ho ro xo wo va k vc hs) ∧ Step (fun z => F z ∨ O z) w (fun z => F z ∨ O z) (w3.alloc (.cells #[.int .u16 (hd : Int)] 38))) ∧ ∀ j u, [Value.int .u16 (hd : Int)][j]? = some u → (w3.alloc (.cells #[.int .u16 (hd : Int)] 38)).cell? ((⟨w3.heap.size, 0, none⟩ : Addr).add j) = some u) := ⟨⟨X3.out.1.below hb, X3.out.2.trans (Step.of_below hb)⟩, cell_one_new _ _ _⟩
      clear hb X3
      have X4b : Hid ((Wh (w3.alloc (.cells #[.int .u16 (hd : Int)] 38)) F rb κ M room n D A U fe0 us0 ev al xa xn xc xs rob base ho ro xo wo va k vc hs) ∧ Step (fun z => F z ∨ O z) w (fun z => F z ∨ O z) (w3.alloc (.cells #[.int .u16 (hd : Int)] 38))) := X4.out.1
      refine hK1.out _ _ ⟨cellOf X4b.out.1.2.2.1 0 _ rfl, cellOf X4b.out.1.2.2.1 1 _ rfl, cellOf X4b.out.1.2.2.2.1 0 _ rfl, cellOf X4b.out.1.2.2.2.1 1 _ rfl, cellOf X4b.out.1.2.2.2.1 2 _ rfl, cellOf X4b.out.1.2.2.2.1 3 _ rfl, cellOf X4b.out.1.2.2.2.1 5 _ rfl⟩ (fun hS4 => ?_)
      clear hK1 K1 hS3
      (try simp only [Act.put, List.getElem_toArray, List.getElem_cons_succ, List.getElem_cons_zero, List.setIfInBounds_toArray, List.set_cons_zero, List.set_cons_succ])
      generalize w3.alloc (.cells #[.int .u16 (hd : Int)] 38) = w4 at *
      generalize w3.heap.size = pn at *
      refine wpAnyH_ready (rs := [13]) (by kernel_rfl) (by simp) ?_
      refine AllReadyH.cons rfl (fun K1 hK1 => ?_) AllReadyH.nil
      rw [if_pos (by kernel_rfl)]
      refine wp_append_head _ _ rfl base hs hd (.slice va k vc) rfl X4b.out.1.2.2.2.2.1 HK.out.1 pn 1 rfl X4.out.2 (by have := HK.out.2; omega) (base_le X4b.out.2 HB.out) ?_
      intro v' w5 hown hgrow hat
      obtain ⟨va', vc', rfl⟩ := own_shp hown
      have X5 : Hid (Wg w w5 F rb κ M room n D A U fe0 us0 ev al xa xn xc xs rob base ho ro xo wo va' (k + 1) vc' va k vc (hs ++ [hd]) O) := wh_grow X4b.out.1 X4b.out.2 HO.out hown hgrow hat
      clear hown hgrow hat X4b X4
      refine hK1.out _ _ ⟨cellOf X5.out.2.2.1 0 _ rfl, cellOf X5.out.2.2.1 1 _ rfl, cellOf X5.out.2.2.2.1 0 _ rfl, cellOf X5.out.2.2.2.1 1 _ rfl, cellOf X5.out.2.2.2.1 2 _ rfl, cellOf X5.out.2.2.2.1 3 _ rfl, cellOf X5.out.2.2.2.1 5 _ rfl⟩ (fun hS5 => ?_)
      clear hK1 K1 hS4
      (try simp only [Act.put, List.getElem_toArray, List.getElem_cons_succ, List.getElem_cons_zero, List.setIfInBounds_toArray, List.set_cons_zero, List.set_cons_succ])
      refine wpAnyH_ready (rs := [14]) (by kernel_rfl) (by simp) ?_
      refine AllReadyH.cons rfl (fun K1 hK1 => ?_) AllReadyH.nil
      have hz : w5.cell? ⟨ho, 0, none⟩ = some (.slice va k vc) := cellOf X5.out.1 0 _ rfl
      have hf := frozenOf X5.out.1 0
      go_simp
      clear hz hf
      have X6 : Hid (Wz w (w5.setCell ⟨ho, 0, none⟩ (.slice va' (k + 1) vc')) F rb κ M room n D A U fe0 us0 ev al xa xn xc xs rob base ho ro xo wo va' (k + 1) vc' (hs ++ [hd]) O) := wg_set X5.out HD.out.1 HD.out.2
      clear X5
      refine hK1.out _ _ ⟨cellOf X6.out.2.2.1 0 _ rfl, cellOf X6.out.2.2.1 1 _ rfl, cellOf X6.out.2.2.2.1 0 _ rfl, cellOf X6.out.2.2.2.1 1 _ rfl, cellOf X6.out.2.2.2.1 2 _ rfl, cellOf X6.out.2.2.2.1 3 _ rfl, cellOf X6.out.2.2.2.1 5 _ rfl⟩ (fun hS6 => ?_)
      clear hK1 K1 hS5
      (try simp only [Act.put, List.getElem_toArray, List.getElem_cons_succ, List.getElem_cons_zero, List.setIfInBounds_toArray, List.set_cons_zero, List.set_cons_succ])
      generalize w5.setCell ⟨ho, 0, none⟩ (.slice va' (k + 1) vc') = w6 at *
      refine wpAnyH_done (by kernel_rfl) ?_ _
      clear hS6
      go_wp2_with fail
      go_ret2
      exact ⟨rfl, wz_end X6.out HK.out HO.out HE.out⟩
    · have hz : wd.cell? ⟨ho, 0, none⟩ = some (.slice va k vc) := cellOf Xd.out.1.1 0 _ rfl
      go_simp
      clear hz
      refine hK1.out _ _ ⟨cellOf Xd.out.1.2.2.1 0 _ rfl, cellOf Xd.out.1.2.2.1 1 _ rfl, cellOf Xd.out.1.2.2.2.1 0 _ rfl, cellOf Xd.out.1.2.2.2.1 1 _ rfl, cellOf Xd.out.1.2.2.2.1 2 _ rfl, cellOf Xd.out.1.2.2.2.1 3 _ rfl, cellOf Xd.out.1.2.2.2.1 5 _ rfl⟩ (fun hS1 => ?_)
      clear hK1 K1 hS
      (try simp only [Act.put, List.getElem_toArray, List.getElem_cons_succ, List.getElem_cons_zero, List.setIfInBounds_toArray, List.set_cons_zero, List.set_cons_succ])
      refine wpAnyH_take (i := 7) (v := ?_) rfl (by kernel_rfl) (by kernel_rfl) (by kernel_rfl) (fun _ _ _ h => h) (Or.inl ⟨by kernel_rfl, ?_⟩) hS1 ?_
      rotate_left
      · intro w hSw; (try dsimp only at hSw); go_simp; try (with_reducible rfl)
      (try simp only [Act.put, List.getElem_toArray, List.getElem_cons_succ, List.getElem_cons_zero, List.setIfInBounds_toArray, List.set_cons_zero, List.set_cons_succ])
      refine wpAnyH_take (i := 8) (v := ?_) rfl (by kernel_rfl) (by kernel_rfl) (by kernel_rfl) (fun _ _ _ h => h) (Or.inl ⟨by kernel_rfl, ?_⟩) hS1 ?_
      rotate_left
      · intro w hSw; (try dsimp only at hSw); go_simp; try (with_reducible rfl)
      (try simp only [Act.put, List.getElem_toArray, List.getElem_cons_succ, List.getElem_cons_zero, List.setIfInBounds_toArray, List.set_cons_zero, List.set_cons_succ])
      refine wpAnyH_take (i := 9) (v := ?_) rfl (by kernel_rfl) (by kernel_rfl) (by kernel_rfl) (fun _ _ _ h => h) (Or.inl ⟨by kernel_rfl, ?_⟩) hS1 ?_
      rotate_left
      · intro w hSw; (try dsimp only at hSw); go_simp; try (with_reducible rfl)
      (try simp only [Act.put, List.getElem_toArray, List.getElem_cons_succ, List.getElem_cons_zero, List.setIfInBounds_toArray, List.set_cons_zero, List.set_cons_succ])
      refine wpAnyH_ready (rs := [0, 10]) (by kernel_rfl) (by simp) ?_
      refine AllReadyH.cons rfl (fun K1 hK1 => ?_) (AllReadyH.cons rfl (fun K1 hK1 => ?_) AllReadyH.nil)
      · have hz : wd.cell? ⟨ho, 0, none⟩ = some (.slice va k vc) := cellOf Xd.out.1.1 0 _ rfl
        go_simp
        clear hz
        refine hK1.out _ _ ⟨cellOf Xd.out.1.2.2.1 0 _ rfl, cellOf Xd.out.1.2.2.1 1 _ rfl, cellOf Xd.out.1.2.2.2.1 0 _ rfl, cellOf Xd.out.1.2.2.2.1 1 _ rfl, cellOf Xd.out.1.2.2.2.1 2 _ rfl, cellOf Xd.out.1.2.2.2.1 3 _ rfl, cellOf Xd.out.1.2.2.2.1 5 _ rfl⟩ (fun hS2 => ?_)
        clear hK1 K1 hS1
        (try simp only [Act.put, List.getElem_toArray, List.getElem_cons_succ, List.getElem_cons_zero, List.setIfInBounds_toArray, List.set_cons_zero, List.set_cons_succ])
        refine wpAnyH_ready (rs := [10]) (by kernel_rfl) (by simp) ?_
        refine AllReadyH.cons rfl (fun K1 hK1 => ?_) AllReadyH.nil
        go_simp
        refine (KH.out _ Xd.out.1).mono ?_
        rintro e w3 ⟨rfl, hb⟩
        have X3 : Hid ((Wh w3 F rb κ M room n D A U fe0 us0 ev al xa xn xc xs rob base ho ro xo wo va k vc hs) ∧ Step (fun z => F z ∨ O z) w (fun z => F z ∨ O z) w3) := ⟨Xd.out.1.below hb, Xd.out.2.trans (Step.of_below hb)⟩
        clear hb Xd
        refine hK1.out _ _ ⟨cellOf X3.out.1.2.2.1 0 _ rfl, cellOf X3.out.1.2.2.1 1 _ rfl, cellOf X3.out.1.2.2.2.1 0 _ rfl, cellOf X3.out.1.2.2.2.1 1 _ rfl, cellOf X3.out.1.2.2.2.1 2 _ rfl, cellOf X3.out.1.2.2.2.1 3 _ rfl, cellOf X3.out.1.2.2.2.1 5 _ rfl⟩ (fun hS3 => ?_)
        clear hK1 K1 hS2
        (try simp only [Act.put, List.getElem_toArray, List.getElem_cons_succ, List.getElem_cons_zero, List.setIfInBounds_toArray, List.set_cons_zero, List.set_cons_succ])
        refine wpAnyH_take (i := 11) (v := ?_) rfl (by kernel_rfl) (by kernel_rfl) (by kernel_rfl) (fun _ _ _ h => h) (Or.inl ⟨by kernel_rfl, ?_⟩) hS3 ?_
        rotate_left
        · intro w hSw; (try dsimp only at hSw); go_simp; try (with_reducible rfl)
        (try simp only [Act.put, List.getElem_toArray, List.getElem_cons_succ, List.getElem_cons_zero, List.setIfInBounds_toArray, List.set_cons_zero, List.set_cons_succ])
        refine wpAnyH_ready (rs := [12]) (by kernel_rfl) (by simp) ?_
        refine AllReadyH.cons rfl (fun K1 hK1 => ?_) AllReadyH.nil
        go_simp
        have hb : Below w3.heap.size w3 (w3.alloc (.cells #[.int .u16 (hd : Int)] 38)) := one_box _ _
        have X4 : Hid (((Wh (w3.alloc (.cells #[.int .u16 (hd : Int)] 38)) F rb κ M room n D A U fe0 us0 ev al xa xn xc xs rob base ho ro xo wo va k vc hs) ∧ Step (fun z => F z ∨ O z) w (fun z => F z ∨ O z) (w3.alloc (.cells #[.int .u16 (hd : Int)] 38))) ∧ ∀ j u, [Value.int .u16 (hd : Int)][j]? = some u → (w3.alloc (.cells #[.int .u16 (hd : Int)] 38)).cell? ((⟨w3.heap.size, 0, none⟩ : Addr).add j) = some u) := ⟨⟨X3.out.1.below hb, X3.out.2.trans (Step.of_below hb)⟩, cell_one_new _ _ _⟩
        clear hb X3
        have X4b : Hid ((Wh (w3.alloc (.cells #[.int .u16 (hd : Int)] 38)) F rb κ M room n D A U fe0 us0 ev al xa xn xc xs rob base ho ro xo wo va k vc hs) ∧ Step (fun z => F z ∨ O z) w (fun z => F z ∨ O z) (w3.alloc (.cells #[.int .u16 (hd : Int)] 38))) := X4.out.1
        refine hK1.out _ _ ⟨cellOf X4b.out.1.2.2.1 0 _ rfl, cellOf X4b.out.1.2.2.1 1 _ rfl, cellOf X4b.out.1.2.2.2.1 0 _ rfl, cellOf X4b.out.1.2.2.2.1 1 _ rfl, cellOf X4b.out.1.2.2.2.1 2 _ rfl, cellOf X4b.out.1.2.2.2.1 3 _ rfl, cellOf X4b.out.1.2.2.2.1 5 _ rfl⟩ (fun hS4 => ?_)
        clear hK1 K1 hS3
        (try simp only [Act.put, List.getElem_toArray, List.getElem_cons_succ, List.getElem_cons_zero, List.setIfInBounds_toArray, List.set_cons_zero, List.set_cons_succ])
        generalize w3.alloc (.cells #[.int .u16 (hd : Int)] 38) = w4 at *
        generalize w3.heap.size = pn at *
        refine wpAnyH_ready (rs := [13]) (by kernel_rfl) (by simp) ?_
        refine AllReadyH.cons rfl (fun K1 hK1 => ?_) AllReadyH.nil
        rw [if_pos (by kernel_rfl)]
        refine wp_append_head _ _ rfl base hs hd (.slice va k vc) rfl X4b.out.1.2.2.2.2.1 HK.out.1 pn 1 rfl X4.out.2 (by have := HK.out.2; omega) (base_le X4b.out.2 HB.out) ?_
        intro v' w5 hown hgrow hat
        obtain ⟨va', vc', rfl⟩ := own_shp hown
        have X5 : Hid (Wg w w5 F rb κ M room n D A U fe0 us0 ev al xa xn xc xs rob base ho ro xo wo va' (k + 1) vc' va k vc (hs ++ [hd]) O) := wh_grow X4b.out.1 X4b.out.2 HO.out hown hgrow hat
        clear hown hgrow hat X4b X4
        refine hK1.out _ _ ⟨cellOf X5.out.2.2.1 0 _ rfl, cellOf X5.out.2.2.1 1 _ rfl, cellOf X5.out.2.2.2.1 0 _ rfl, cellOf X5.out.2.2.2.1 1 _ rfl, cellOf X5.out.2.2.2.1 2 _ rfl, cellOf X5.out.2.2.2.1 3 _ rfl, cellOf X5.out.2.2.2.1 5 _ rfl⟩ (fun hS5 => ?_)
        clear hK1 K1 hS4
        (try simp only [Act.put, List.getElem_toArray, List.getElem_cons_succ, List.getElem_cons_zero, List.setIfInBounds_toArray, List.set_cons_zero, List.set_cons_succ])
        refine wpAnyH_ready (rs := [14]) (by kernel_rfl) (by simp) ?_
        refine AllReadyH.cons rfl (fun K1 hK1 => ?_) AllReadyH.nil
        have hz : w5.cell? ⟨ho, 0, none⟩ = some (.slice va k vc) := cellOf X5.out.1 0 _ rfl
        have hf := frozenOf X5.out.1 0
        go_simp
        clear hz hf
        have X6 : Hid (Wz w (w5.setCell ⟨ho, 0, none⟩ (.slice va' (k + 1) vc')) F rb κ M room n D A U fe0 us0 ev al xa xn xc xs rob base ho ro xo wo va' (k + 1) vc' (hs ++ [hd]) O) := wg_set X5.out HD.out.1 HD.out.2
        clear X5
        refine hK1.out _ _ ⟨cellOf X6.out.2.2.1 0 _ rfl, cellOf X6.out.2.2.1 1 _ rfl, cellOf X6.out.2.2.2.1 0 _ rfl, cellOf X6.out.2.2.2.1 1 _ rfl, cellOf X6.out.2.2.2.1 2 _ rfl, cellOf X6.out.2.2.2.1 3 _ rfl, cellOf X6.out.2.2.2.1 5 _ rfl⟩ (fun hS6 => ?_)
        clear hK1 K1 hS5
        (try simp only [Act.put, List.getElem_toArray, List.getElem_cons_succ, List.getElem_cons_zero, List.setIfInBounds_toArray, List.set_cons_zero, List.set_cons_succ])
        generalize w5.setCell ⟨ho, 0, none⟩ (.slice va' (k + 1) vc') = w6 at *
        refine wpAnyH_done (by kernel_rfl) ?_ _
        clear hS6
        go_wp2_with fail
        go_ret2
        exact ⟨rfl, wz_end X6.out HK.out HO.out HE.out⟩
      · go_simp
        refine (KH.out _ Xd.out.1).mono ?_
        rintro e w2 ⟨rfl, hb⟩
        have X2 : Hid ((Wh w2 F rb κ M room n D A U fe0 us0 ev al xa xn xc xs rob base ho ro xo wo va k vc hs) ∧ Step (fun z => F z ∨ O z) w (fun z => F z ∨ O z) w2) := ⟨Xd.out.1.below hb, Xd.out.2.trans (Step.of_below hb)⟩
        clear hb Xd
        refine hK1.out _ _ ⟨cellOf X2.out.1.2.2.1 0 _ rfl, cellOf X2.out.1.2.2.1 1 _ rfl, cellOf X2.out.1.2.2.2.1 0 _ rfl, cellOf X2.out.1.2.2.2.1 1 _ rfl, cellOf X2.out.1.2.2.2.1 2 _ rfl, cellOf X2.out.1.2.2.2.1 3 _ rfl, cellOf X2.out.1.2.2.2.1 5 _ rfl⟩ (fun hS2 => ?_)
        clear hK1 K1 hS1
        (try simp only [Act.put, List.getElem_toArray, List.getElem_cons_succ, List.getElem_cons_zero, List.setIfInBounds_toArray, List.set_cons_zero, List.set_cons_succ])
        refine wpAnyH_take (i := 11) (v := ?_) rfl (by kernel_rfl) (by kernel_rfl) (by kernel_rfl) (fun _ _ _ h => h) (Or.inl ⟨by kernel_rfl, ?_⟩) hS2 ?_
        rotate_left
        · intro w hSw; (try dsimp only at hSw); go_simp; try (with_reducible rfl)
        (try simp only [Act.put, List.getElem_toArray, List.getElem_cons_succ, List.getElem_cons_zero, List.setIfInBounds_toArray, List.set_cons_zero, List.set_cons_succ])
        refine wpAnyH_ready (rs := [0, 12]) (by kernel_rfl) (by simp) ?_
        refine AllReadyH.cons rfl (fun K1 hK1 => ?_) (AllReadyH.cons rfl (fun K1 hK1 => ?_) AllReadyH.nil)
        · have hz : w2.cell? ⟨ho, 0, none⟩ = some (.slice va k vc) := cellOf X2.out.1.1 0 _ rfl
          go_simp
          clear hz
          refine hK1.out _ _ ⟨cellOf X2.out.1.2.2.1 0 _ rfl, cellOf X2.out.1.2.2.1 1 _ rfl, cellOf X2.out.1.2.2.2.1 0 _ rfl, cellOf X2.out.1.2.2.2.1 1 _ rfl, cellOf X2.out.1.2.2.2.1 2 _ rfl, cellOf X2.out.1.2.2.2.1 3 _ rfl, cellOf X2.out.1.2.2.2.1 5 _ rfl⟩ (fun hS3 => ?_)
          clear hK1 K1 hS2
          (try simp only [Act.put, List.getElem_toArray, List.getElem_cons_succ, List.getElem_cons_zero, List.setIfInBounds_toArray, List.set_cons_zero, List.set_cons_succ])
          refine wpAnyH_ready (rs := [12]) (by kernel_rfl) (by simp) ?_
          refine AllReadyH.cons rfl (fun K1 hK1 => ?_) AllReadyH.nil
          go_simp
          have hb : Below w2.heap.size w2 (w2.alloc (.cells #[.int .u16 (hd : Int)] 38)) := one_box _ _
          have X4 : Hid (((Wh (w2.alloc (.cells #[.int .u16 (hd : Int)] 38)) F rb κ M room n D A U fe0 us0 ev al xa xn xc xs rob base ho ro xo wo va k vc hs) ∧ Step (fun z => F z ∨ O z) w (fun z => F z ∨ O z) (w2.alloc (.cells #[.int .u16 (hd : Int)] 38))) ∧ ∀ j u, [Value.int .u16 (hd : Int)][j]? = some u → (w2.alloc (.cells #[.int .u16 (hd : Int)] 38)).cell? ((⟨w2.heap.size, 0, none⟩ : Addr).add j) = some u) := ⟨⟨X2.out.1.below hb, X2.out.2.trans (Step.of_below hb)⟩, cell_one_new _ _ _⟩
          clear hb X2
          have X4b : Hid ((Wh (w2.alloc (.cells #[.int .u16 (hd : Int)] 38)) F rb κ M room n D A U fe0 us0 ev al xa xn xc xs rob base ho ro xo wo va k vc hs) ∧ Step (fun z => F z ∨ O z) w (fun z => F z ∨ O z) (w2.alloc (.cells #[.int .u16 (hd : Int)] 38))) := X4.out.1
          refine hK1.out _ _ ⟨cellOf X4b.out.1.2.2.1 0 _ rfl, cellOf X4b.out.1.2.2.1 1 _ rfl, cellOf X4b.out.1.2.2.2.1 0 _ rfl, cellOf X4b.out.1.2.2.2.1 1 _ rfl, cellOf X4b.out.1.2.2.2.1 2 _ rfl, cellOf X4b.out.1.2.2.2.1 3 _ rfl, cellOf X4b.out.1.2.2.2.1 5 _ rfl⟩ (fun hS4 => ?_)
          clear hK1 K1 hS3
          (try simp only [Act.put, List.getElem_toArray, List.getElem_cons_succ, List.getElem_cons_zero, List.setIfInBounds_toArray, List.set_cons_zero, List.set_cons_succ])
          generalize w2.alloc (.cells #[.int .u16 (hd : Int)] 38) = w4 at *
          generalize w2.heap.size = pn at *
          refine wpAnyH_ready (rs := [13]) (by kernel_rfl) (by simp) ?_
          refine AllReadyH.cons rfl (fun K1 hK1 => ?_) AllReadyH.nil
          rw [if_pos (by kernel_rfl)]
          refine wp_append_head _ _ rfl base hs hd (.slice va k vc) rfl X4b.out.1.2.2.2.2.1 HK.out.1 pn 1 rfl X4.out.2 (by have := HK.out.2; omega) (base_le X4b.out.2 HB.out) ?_
          intro v' w5 hown hgrow hat
          obtain ⟨va', vc', rfl⟩ := own_shp hown
          have X5 : Hid (Wg w w5 F rb κ M room n D A U fe0 us0 ev al xa xn xc xs rob base ho ro xo wo va' (k + 1) vc' va k vc (hs ++ [hd]) O) := wh_grow X4b.out.1 X4b.out.2 HO.out hown hgrow hat
          clear hown hgrow hat X4b X4
          refine hK1.out _ _ ⟨cellOf X5.out.2.2.1 0 _ rfl, cellOf X5.out.2.2.1 1 _ rfl, cellOf X5.out.2.2.2.1 0 _ rfl, cellOf X5.out.2.2.2.1 1 _ rfl, cellOf X5.out.2.2.2.1 2 _ rfl, cellOf X5.out.2.2.2.1 3 _ rfl, cellOf X5.out.2.2.2.1 5 _ rfl⟩ (fun hS5 => ?_)
          clear hK1 K1 hS4
          (try simp only [Act.put, List.getElem_toArray, List.getElem_cons_succ, List.getElem_cons_zero, List.setIfInBounds_toArray, List.set_cons_zero, List.set_cons_succ])
          refine wpAnyH_ready (rs := [14]) (by kernel_rfl) (by simp) ?_
          refine AllReadyH.cons rfl (fun K1 hK1 => ?_) AllReadyH.nil
          have hz : w5.cell? ⟨ho, 0, none⟩ = some (.slice va k vc) := cellOf X5.out.1 0 _ rfl
          have hf := frozenOf X5.out.1 0
          go_simp
          clear hz hf
          have X6 : Hid (Wz w (w5.setCell ⟨ho, 0, none⟩ (.slice va' (k + 1) vc')) F rb κ M room n D A U fe0 us0 ev al xa xn xc xs rob base ho ro xo wo va' (k + 1) vc' (hs ++ [hd]) O) := wg_set X5.out HD.out.1 HD.out.2
          clear X5
          refine hK1.out _ _ ⟨cellOf X6.out.2.2.1 0 _ rfl, cellOf X6.out.2.2.1 1 _ rfl, cellOf X6.out.2.2.2.1 0 _ rfl, cellOf X6.out.2.2.2.1 1 _ rfl, cellOf X6.out.2.2.2.1 2 _ rfl, cellOf X6.out.2.2.2.1 3 _ rfl, cellOf X6.out.2.2.2.1 5 _ rfl⟩ (fun hS6 => ?_)
          clear hK1 K1 hS5
          (try simp only [Act.put, List.getElem_toArray, List.getElem_cons_succ, List.getElem_cons_zero, List.setIfInBounds_toArray, List.set_cons_zero, List.set_cons_succ])
          generalize w5.setCell ⟨ho, 0, none⟩ (.slice va' (k + 1) vc') = w6 at *
          refine wpAnyH_done (by kernel_rfl) ?_ _
          clear hS6
          go_wp2_with fail
          go_ret2
          exact ⟨rfl, wz_end X6.out HK.out HO.out HE.out⟩
        · go_simp
          have hb : Below w2.heap.size w2 (w2.alloc (.cells #[.int .u16 (hd : Int)] 38)) := one_box _ _
          have X3 : Hid (((Wh (w2.alloc (.cells #[.int .u16 (hd : Int)] 38)) F rb κ M room n D A U fe0 us0 ev al xa xn xc xs rob base ho ro xo wo va k vc hs) ∧ Step (fun z => F z ∨ O z) w (fun z => F z ∨ O z) (w2.alloc (.cells #[.int .u16 (hd : Int)] 38))) ∧ ∀ j u, [Value.int .u16 (hd : Int)][j]? = some u → (w2.alloc (.cells #[.int .u16 (hd : Int)] 38)).cell? ((⟨w2.heap.size, 0, none⟩ : Addr).add j) = some u) := ⟨⟨X2.out.1.below hb, X2.out.2.trans (Step.of_below hb)⟩, cell_one_new _ _ _⟩
          clear hb X2
          have X3b : Hid ((Wh (w2.alloc (.cells #[.int .u16 (hd : Int)] 38)) F rb κ M room n D A U fe0 us0 ev al xa xn xc xs rob base ho ro xo wo va k vc hs) ∧ Step (fun z => F z ∨ O z) w (fun z => F z ∨ O z) (w2.alloc (.cells #[.int .u16 (hd : Int)] 38))) := X3.out.1
          refine hK1.out _ _ ⟨cellOf X3b.out.1.2.2.1 0 _ rfl, cellOf X3b.out.1.2.2.1 1 _ rfl, cellOf X3b.out.1.2.2.2.1 0 _ rfl, cellOf X3b.out.1.2.2.2.1 1 _ rfl, cellOf X3b.out.1.2.2.2.1 2 _ rfl, cellOf X3b.out.1.2.2.2.1 3 _ rfl, cellOf X3b.out.1.2.2.2.1 5 _ rfl⟩ (fun hS3 => ?_)
          clear hK1 K1 hS2
          (try simp only [Act.put, List.getElem_toArray, List.getElem_cons_succ, List.getElem_cons_zero, List.setIfInBounds_toArray, List.set_cons_zero, List.set_cons_succ])
          generalize w2.alloc (.cells #[.int .u16 (hd : Int)] 38) = w3 at *
          generalize w2.heap.size = pn at *
          refine wpAnyH_ready (rs := [0]) (by kernel_rfl) (by simp) ?_
          refine AllReadyH.cons rfl (fun K1 hK1 => ?_) AllReadyH.nil
          have hz : w3.cell? ⟨ho, 0, none⟩ = some (.slice va k vc) := cellOf X3b.out.1.1 0 _ rfl
          go_simp
          clear hz
          refine hK1.out _ _ ⟨cellOf X3b.out.1.2.2.1 0 _ rfl, cellOf X3b.out.1.2.2.1 1 _ rfl, cellOf X3b.out.1.2.2.2.1 0 _ rfl, cellOf X3b.out.1.2.2.2.1 1 _ rfl, cellOf X3b.out.1.2.2.2.1 2 _ rfl, cellOf X3b.out.1.2.2.2.1 3 _ rfl, cellOf X3b.out.1.2.2.2.1 5 _ rfl⟩ (fun hS4 => ?_)
          clear hK1 K1 hS3
          (try simp only [Act.put, List.getElem_toArray, List.getElem_cons_succ, List.getElem_cons_zero, List.setIfInBounds_toArray, List.set_cons_zero, List.set_cons_succ])
          refine wpAnyH_ready (rs := [13]) (by kernel_rfl) (by simp) ?_
          refine AllReadyH.cons rfl (fun K1 hK1 => ?_) AllReadyH.nil
          rw [if_pos (by kernel_rfl)]
          refine wp_append_head _ _ rfl base hs hd (.slice va k vc) rfl X3b.out.1.2.2.2.2.1 HK.out.1 pn 1 rfl X3.out.2 (by have := HK.out.2; omega) (base_le X3b.out.2 HB.out) ?_
          intro v' w5 hown hgrow hat
          obtain ⟨va', vc', rfl⟩ := own_shp hown
          have X5 : Hid (Wg w w5 F rb κ M room n D A U fe0 us0 ev al xa xn xc xs rob base ho ro xo wo va' (k + 1) vc' va k vc (hs ++ [hd]) O) := wh_grow X3b.out.1 X3b.out.2 HO.out hown hgrow hat
          clear hown hgrow hat X3b X3
          refine hK1.out _ _ ⟨cellOf X5.out.2.2.1 0 _ rfl, cellOf X5.out.2.2.1 1 _ rfl, cellOf X5.out.2.2.2.1 0 _ rfl, cellOf X5.out.2.2.2.1 1 _ rfl, cellOf X5.out.2.2.2.1 2 _ rfl, cellOf X5.out.2.2.2.1 3 _ rfl, cellOf X5.out.2.2.2.1 5 _ rfl⟩ (fun hS5 => ?_)
          clear hK1 K1 hS4
          (try simp only [Act.put, List.getElem_toArray, List.getElem_cons_succ, List.getElem_cons_zero, List.setIfInBounds_toArray, List.set_cons_zero, List.set_cons_succ])
          refine wpAnyH_ready (rs := [14]) (by kernel_rfl) (by simp) ?_
          refine AllReadyH.cons rfl (fun K1 hK1 => ?_) AllReadyH.nil
          have hz : w5.cell? ⟨ho, 0, none⟩ = some (.slice va k vc) := cellOf X5.out.1 0 _ rfl
          have hf := frozenOf X5.out.1 0
          go_simp
          clear hz hf
          have X6 : Hid (Wz w (w5.setCell ⟨ho, 0, none⟩ (.slice va' (k + 1) vc')) F rb κ M room n D A U fe0 us0 ev al xa xn xc xs rob base ho ro xo wo va' (k + 1) vc' (hs ++ [hd]) O) := wg_set X5.out HD.out.1 HD.out.2
          clear X5
          refine hK1.out _ _ ⟨cellOf X6.out.2.2.1 0 _ rfl, cellOf X6.out.2.2.1 1 _ rfl, cellOf X6.out.2.2.2.1 0 _ rfl, cellOf X6.out.2.2.2.1 1 _ rfl, cellOf X6.out.2.2.2.1 2 _ rfl, cellOf X6.out.2.2.2.1 3 _ rfl, cellOf X6.out.2.2.2.1 5 _ rfl⟩ (fun hS6 => ?_)
          clear hK1 K1 hS5
          (try simp only [Act.put, List.getElem_toArray, List.getElem_cons_succ, List.getElem_cons_zero, List.setIfInBounds_toArray, List.set_cons_zero, List.set_cons_succ])
          generalize w5.setCell ⟨ho, 0, none⟩ (.slice va' (k + 1) vc') = w6 at *
          refine wpAnyH_done (by kernel_rfl) ?_ _
          clear hS6
          go_wp2_with fail
          go_ret2
          exact ⟨rfl, wz_end X6.out HK.out HO.out HE.out⟩
end Go.Proofs.Ytmjdnocilbnoaaa

/- The queue: Serve. -/
namespace Go.Proofs.Ytmjdnocilbnoaaa
open Go.RowKit Go.Maps
set_option linter.unusedVariables false
set_option linter.unusedSimpArgs false
set_option maxRecDepth 100000
section
variable {σ : Type} {I : σ → (Nat → Prop) → World → Prop} {bud : σ → Nat} {rb qb df : Nat} {cap : Array Value} {dev : σ → (Nat → Nat) → Nat → Cn → Option (σ × (Nat → Nat) × Nat)}
theorem give_le {s : Int} {D A U : Nat} {rd al : Bool} : ∀ (k : Nat) (t : σ) (M : Nat → Nat) (fe us : Nat), fe ≤ 65535 → us ≤ 65535 → (giveR dev s D A U rd al k t M fe us).fe ≤ 65535 ∧ (giveR dev s D A U rd al k t M fe us).us ≤ 65535 := by
  intro k
  induction k with
  | zero => intro t M fe us h1 h2; exact ⟨h1, h2⟩
  | succ k ih =>
    intro t M fe us h1 h2
    obtain ⟨ft, hft⟩ : ∃ ft, fetchR M s D A U rd fe al = ft := ⟨_, rfl⟩
    cases ft with
    | non e => rw [give_non hft]; exact ⟨h1, h2⟩
    | got h c =>
      by_cases hz : c.e = 0
      case neg => rw [give_err hft hz]; exact ⟨up_le _, h2⟩
      case pos =>
        obtain ⟨dv, hdv⟩ : ∃ dv, dev t M h c = dv := ⟨_, rfl⟩
        cases dv with
        | none => rw [give_stay hft hz hdv]; exact ⟨h1, h2⟩
        | some tr =>
          obtain ⟨t', M', cnt⟩ := tr
          rw [give_more hft hz hdv]
          exact ih _ _ _ _ (up_le _) (up_le _)
def endM (R : Gv σ) (n U : Nat) (ev : Bool) : Nat → Nat := if R.e = 0 then askM R.M n U R.fe ev else R.M
/-- what Serve leaves -/
def Send (I : σ → (Nat → Prop) → World → Prop) (rb qb : Nat) (n : Nat) (D A U : Nat) (ev al : Bool) (w0 : World) (F0 O0 : Nat → Prop) (R : Gv σ) (w' : World) : Prop := ∃ (F O : Nat → Prop) (κ : Nat), RamAt w' F rb 8192 κ (.pointer none) (endM R n U ev) ∧ w'.heap[qb]? = some (.cells #[.int .i64 (n : Int), .int .u64 (D : Int), .int .u64 (A : Int), .int .u64 (U : Int), .bool true, .int .u16 (R.fe : Int), .int .u16 (R.us : Int), .bool ev, .bool al] 40 (0, 0)) ∧ I R.s O w' ∧ (∀ k, O k → ¬ F k ∧ k ≠ qb) ∧ ¬ F qb ∧ κ ≤ 900002 ∧ Step (fun k => (F0 k ∨ O0 k) ∨ k = qb) w0 (fun k => (F k ∨ O k) ∨ k = qb) w'
set_option maxHeartbeats 2000000 in
theorem serve_any (hd : Dvc rb df cap dev bud I) {n D A U : Nat} {ev al : Bool} (hg : Gd n D A U) {w0 : World} {F0 O0 : Nat → Prop} {t0 : σ} {M0 : Nat → Nat} {fe0 us0 κ0 : Nat} (hfe : fe0 ≤ 65535) (hus : us0 ≤ 65535) (h0 : Gl I bud rb qb (n : Int) D A U true ev al w0 F0 O0 w0 t0 M0 fe0 us0 F0 O0 κ0) (R : Gv σ) (hR : giveR dev (n : Int) D A U true al 65537 t0 M0 fe0 us0 = R) :
    Calls Try.prog 11 #[.pointer (some ⟨qb, 0, none⟩), .pointer (some ⟨rb, 0, none⟩), .func (.func df) #[] cap] w0 fun e w' => e = .returned (.tuple #[.bool (tellB (endM R n U ev) n A R.us us0 ev), .int .i64 R.e]) ∧ Send I rb qb n D A U ev al w0 F0 O0 R w' := by
  have KG : Hid (Calls Try.prog 28 #[.pointer (some ⟨qb, 0, none⟩), .pointer (some ⟨rb, 0, none⟩), .func (.func df) #[] cap] w0 fun e w' => e = .returned (.int .i64 R.e) ∧ Gend I rb qb (n : Int) D A U true ev al w0 F0 O0 R w') := give_any hd (gd_bounds hg).1 (gd_bounds hg).2.1 (gd_bounds hg).2.2 hfe hus h0 R hR
  have hle := give_le (dev := dev) (s := (n : Int)) (D := D) (A := A) (U := U) (rd := true) (al := al) 65537 t0 M0 fe0 us0 hfe hus
  rw [hR] at hle
  have HQ : Hid (w0.heap[qb]? = some (.cells #[.int .i64 (n : Int), .int .u64 (D : Int), .int .u64 (A : Int), .int .u64 (U : Int), .bool true, .int .u16 (fe0 : Int), .int .u16 (us0 : Int), .bool ev, .bool al] 40 (0, 0)) ∧ Gd n D A U ∧ us0 ≤ 65535 ∧ R.fe ≤ 65535 ∧ R.us ≤ 65535 ∧ Dvc rb df cap dev bud I) := ⟨h0.2.1, hg, hus, hle.1, hle.2, hd⟩
  obtain ⟨f0, f1, f2, f3, f4, f5, f6, f7, f8⟩ := box9_facts h0.2.1
  clear hd hg h0 hR hfe hus hle
  obtain ⟨t, M, fe, us, re⟩ := R
  have CALLG : Hid (Calls Try.prog 28 #[.pointer (some ⟨qb, 0, none⟩), .pointer (some ⟨rb, 0, none⟩), .func (.func df) #[] cap] w0 fun e w' => e = .returned (.int .i64 re) ∧ ∃ (F O : Nat → Prop) (κ : Nat), RamAt w' F rb 8192 κ (.pointer none) M ∧ w'.heap[qb]? = some (.cells #[.int .i64 (n : Int), .int .u64 (D : Int), .int .u64 (A : Int), .int .u64 (U : Int), .bool true, .int .u16 (fe : Int), .int .u16 (us : Int), .bool ev, .bool al] 40 (0, 0)) ∧ I t O w' ∧ (∀ k, O k → ¬ F k ∧ k ≠ qb) ∧ ¬ F qb ∧ κ ≤ 900000 ∧ Step (fun k => (F0 k ∨ O0 k) ∨ k = qb) w0 (fun k => (F k ∨ O k) ∨ k = qb) w') := KG.out
  clear KG
  by_cases hz : re = 0
  case neg =>
    have q1 : (re == 0) = false := by simpa using hz
    have HM : Hid (endM ⟨t, M, fe, us, re⟩ n U ev = M) := if_neg hz
    clear hz
    go_enter Try.func11, Try.ntmps11
    go_wp2_with (first | (go_at_call 27; refine (ready_any HQ.out.1).mono ?_; rintro e w1 ⟨rfl, rfl⟩) | (go_at_call 28; refine (CALLG.out).mono ?_; rintro e w2 ⟨rfl, F, O, κ, hr, hq, hi, hO, hn, hk, hs⟩; have X2 : Hid (RamAt w2 F rb 8192 κ (.pointer none) M ∧ w2.heap[qb]? = some (.cells #[.int .i64 (n : Int), .int .u64 (D : Int), .int .u64 (A : Int), .int .u64 (U : Int), .bool true, .int .u16 (fe : Int), .int .u16 (us : Int), .bool ev, .bool al] 40 (0, 0)) ∧ I t O w2 ∧ (∀ k, O k → ¬ F k ∧ k ≠ qb) ∧ ¬ F qb ∧ κ ≤ 900000 ∧ Step (fun k => (F0 k ∨ O0 k) ∨ k = qb) w1 (fun k => (F k ∨ O k) ∨ k = qb) w2) := ⟨hr, hq, hi, hO, hn, hk, hs⟩; clear hr hq hi hO hn hk hs f0 f1 f2 f3 f4 f5 f6 f7 f8; obtain ⟨f0, f1, f2, f3, f4, f5, f6, f7, f8⟩ := box9_facts X2.out.2.1) | (go_at_call 30; refine (tells_any X2.out.1 X2.out.2.1 HQ.out.2.1 us0 HQ.out.2.2.1 HQ.out.2.2.2.2.1).mono ?_; rintro e w3 ⟨rfl, hb3⟩; have X3 : Hid (Below w2.heap.size w2 w3) := hb3; clear hb3))
    go_ret2
    refine ⟨by rw [HM.out]; rfl, ?_⟩
    obtain ⟨h1, h2, h3, h4, h5, h6, h7⟩ := X2.out
    refine ⟨F, O, κ, ?_, below_box h2 X3.out, HQ.out.2.2.2.2.2.kept h3 X3.out.size (fun k hk => X3.out.block k (HQ.out.2.2.2.2.2.lt h3 k hk)), h4, h5, by omega, h7.trans (Step.of_below X3.out)⟩
    rw [HM.out]
    exact h1.below X3.out
  subst hz
  have HM : Hid (endM ⟨t, M, fe, us, 0⟩ n U ev = askM M n U fe ev) := if_pos rfl
  go_enter Try.func11, Try.ntmps11
  go_wp2_with (first | (go_at_call 27; refine (ready_any HQ.out.1).mono ?_; rintro e w1 ⟨rfl, rfl⟩) | (go_at_call 28; refine (CALLG.out).mono ?_; rintro e w2 ⟨rfl, F, O, κ, hr, hq, hi, hO, hn, hk, hs⟩; have X2 : Hid (RamAt w2 F rb 8192 κ (.pointer none) M ∧ w2.heap[qb]? = some (.cells #[.int .i64 (n : Int), .int .u64 (D : Int), .int .u64 (A : Int), .int .u64 (U : Int), .bool true, .int .u16 (fe : Int), .int .u16 (us : Int), .bool ev, .bool al] 40 (0, 0)) ∧ I t O w2 ∧ (∀ k, O k → ¬ F k ∧ k ≠ qb) ∧ ¬ F qb ∧ κ ≤ 900000 ∧ Step (fun k => (F0 k ∨ O0 k) ∨ k = qb) w1 (fun k => (F k ∨ O k) ∨ k = qb) w2) := ⟨hr, hq, hi, hO, hn, hk, hs⟩; clear hr hq hi hO hn hk hs f0 f1 f2 f3 f4 f5 f6 f7 f8; obtain ⟨f0, f1, f2, f3, f4, f5, f6, f7, f8⟩ := box9_facts X2.out.2.1) | (go_at_call 29; refine (ask_any X2.out.1 X2.out.2.1 HQ.out.2.1 X2.out.2.2.2.2.1 HQ.out.2.2.2.1 (by have := X2.out.2.2.2.2.2.1; omega)).mono ?_; rintro e w3 ⟨rfl, F3, hr3, hs3⟩; have X3 : Hid (RamAt w3 F3 rb 8192 (κ + 2) (.pointer none) (askM M n U fe ev) ∧ Step F w2 F3 w3 ∧ w3.heap[qb]? = some (.cells #[.int .i64 (n : Int), .int .u64 (D : Int), .int .u64 (A : Int), .int .u64 (U : Int), .bool true, .int .u16 (fe : Int), .int .u16 (us : Int), .bool ev, .bool al] 40 (0, 0))) := ⟨hr3, hs3, step_box hs3 X2.out.2.1 X2.out.2.2.2.2.1⟩; clear hr3 hs3) | (go_at_call 30; refine (tells_any X3.out.1 X3.out.2.2 HQ.out.2.1 us0 HQ.out.2.2.1 HQ.out.2.2.2.2.1).mono ?_; rintro e w4 ⟨rfl, hb4⟩; have X4 : Hid (Below w3.heap.size w3 w4) := hb4; clear hb4))
  go_ret2
  refine ⟨by rw [HM.out]; rfl, ?_⟩
  obtain ⟨h1, h2, h3, h4, h5, h6, h7⟩ := X2.out
  obtain ⟨g1, g2, g3⟩ := X3.out
  have hlt := fun k hk => HQ.out.2.2.2.2.2.lt h3 k hk
  have hqlt := (Array.getElem?_eq_some_iff.1 h2).1
  have i3 := HQ.out.2.2.2.2.2.kept h3 g2.size (fun k hk => g2.block k (hlt k hk) (h4 k hk).1)
  refine ⟨F3, O, κ + 2, ?_, below_box g3 X4.out, HQ.out.2.2.2.2.2.kept i3 X4.out.size (fun k hk => X4.out.block k (HQ.out.2.2.2.2.2.lt i3 k hk)), fun k hk => ⟨not_later g2 (hlt k hk) (h4 k hk).1, (h4 k hk).2⟩, not_later g2 hqlt h5, by omega, (h7.trans ?_).trans (Step.of_below X4.out)⟩
  · rw [HM.out]
    exact g1.below X4.out
  · exact step_or (step_or g2 (fun k hk => hlt k hk)) (fun k hk => by omega)
end
end Go.Proofs.Ytmjdnocilbnoaaa

/- QueueHeads, plain: the course of a service. -/
namespace Go.Proofs.Ytmjdnocilbnoaaa
open Go.RowKit Go.Maps
set_option linter.unusedVariables false
set_option linter.unusedSimpArgs false
set_option maxRecDepth 100000
def hdN (M0 : Nat → Nat) (n A fe0 j : Nat) : Nat := headN M0 n A ((fe0 + j) % 65536)
def slotN (n us0 j : Nat) : Nat := (us0 + j) % 65536 % n
/-- a service under way: so many heads -/
def Crs (M0 : Nat → Nat) (n A U fe0 us0 : Nat) (hs : List Nat) (M : Nat → Nat) (us : Nat) : Prop := us = (us0 + hs.length) % 65536 ∧ (hs.length = 0 ∨ (hs.length ≤ waitN M0 A fe0 ∧ waitN M0 A fe0 ≤ n)) ∧ (∀ x, ¬ (U ≤ x ∧ x < U + 6 + 8 * n) → M x = M0 x) ∧ (∀ j, j < hs.length → hs[j]? = some (hdN M0 n A fe0 j)) ∧ (∀ j, j < hs.length → ∀ b, b < 4 → M (U + 4 + 8 * slotN n us0 j + b) = byteAt (hdN M0 n A fe0 j) b) ∧ (hs.length ≠ 0 → ∀ b, b < 2 → M (U + 2 + b) = byteAt us b)
def Apt (n A U : Nat) : Prop := A + (6 + 2 * n) ≤ U ∨ U + (6 + 8 * n) ≤ A
theorem word_congr {M M' : Nat → Nat} {x : Nat} (h0 : M x = M' x) (h1 : M (x + 1) = M' (x + 1)) : wordN M x 2 8192 = wordN M' x 2 8192 := by
  unfold wordN
  rw [h256_congr (fun i => M (x + i)) (fun i => M' (x + i)) 2 0 (fun j hj => by
    match j, hj with
    | 0, _ => simpa using h0
    | 1, _ => simpa using h1)]
theorem slot_ne {n us0 j i : Nat} (hn : n ∣ 65536) (h : j < i) (hi : i - j < n) : slotN n us0 j ≠ slotN n us0 i := by
  unfold slotN
  rw [Nat.mod_mod_of_dvd _ hn, Nat.mod_mod_of_dvd _ hn]
  intro e
  have h1 := Nat.sub_mod_eq_zero_of_mod_eq e.symm
  rw [show us0 + i - (us0 + j) = i - j by omega, Nat.mod_eq_of_lt hi] at h1
  omega
theorem slot_lt {n us0 j : Nat} (hn : 1 ≤ n) : slotN n us0 j < n := Nat.mod_lt _ (by omega)
theorem wait_step {o fe0 i : Nat} (ho : o ≤ 65535) (hf : fe0 ≤ 65535) (hi : i ≤ (o + 65536 - fe0) % 65536) : (o + 65536 - (fe0 + i) % 65536) % 65536 = (o + 65536 - fe0) % 65536 - i := by omega
theorem up_mod {m0 i : Nat} : upN ((m0 + i) % 65536) = (m0 + (i + 1)) % 65536 := by unfold upN; omega
theorem head_bytes {h : Nat} {b : Nat} (hb : b < 4) : eB h 0 b = byteAt h b := by unfold eB catF; rw [if_pos hb]
theorem crs_step {M0 M : Nat → Nat} {n D A U fe0 us0 us : Nat} {hs : List Nat} (hg : Gd n D A U) (hap : Apt n A U) (hM0 : ∀ a, M0 a ≤ 255) (hfe : fe0 ≤ 65535) (hdv : n ∣ 65536) (h : Crs M0 n A U fe0 us0 hs M us) (hw : waitN M A ((fe0 + hs.length) % 65536) ≠ 0) (hw2 : ¬ n < waitN M A ((fe0 + hs.length) % 65536)) : headN M n A ((fe0 + hs.length) % 65536) = hdN M0 n A fe0 hs.length ∧ Crs M0 n A U fe0 us0 (hs ++ [hdN M0 n A fe0 hs.length]) (retM M n U us (hdN M0 n A fe0 hs.length) 0) (upN us) := by
  obtain ⟨h1, h2, h3, h4, h5, h6⟩ := h
  have hn1 := hg.n1
  have out : ∀ x, A ≤ x → x < A + (6 + 2 * n) → M x = M0 x := fun x ha hb => h3 x (by rcases hap with h | h <;> omega)
  have eo : wordN M (A + 2) 2 8192 = wordN M0 (A + 2) 2 8192 := word_congr (out _ (by omega) (by omega)) (out _ (by omega) (by omega))
  have ho := rd_lt hM0 (A + 2)
  obtain ⟨o, hoo⟩ : ∃ o, wordN M0 (A + 2) 2 8192 = o := ⟨_, rfl⟩
  unfold waitN at hw hw2 h2
  rw [eo, hoo] at hw hw2
  rw [hoo] at h2 ho
  obtain ⟨i, hi⟩ : ∃ i, hs.length = i := ⟨_, rfl⟩
  rw [hi] at h1 h2 h4 h5 h6 hw hw2 ⊢
  have hiW : i ≤ (o + 65536 - fe0) % 65536 := by rcases h2 with h | h <;> omega
  rw [wait_step ho hfe hiW] at hw hw2
  have hW : (o + 65536 - fe0) % 65536 ≤ n := by rcases h2 with h | h <;> omega
  have hmod : (fe0 + i) % 65536 % n < n := Nat.mod_lt _ (by omega)
  have hh : headN M n A ((fe0 + i) % 65536) = hdN M0 n A fe0 i := by
    unfold hdN headN
    exact word_congr (out _ (by omega) (by omega)) (out _ (by omega) (by omega))
  obtain ⟨hd, hhd⟩ : ∃ hd, hdN M0 n A fe0 i = hd := ⟨_, rfl⟩
  have hl : (hs ++ [hd]).length = i + 1 := by rw [List.length_append, hi]; rfl
  have hsl : us % n = slotN n us0 i := by rw [h1]; rfl
  refine ⟨hh, ?_⟩
  rw [hhd]
  unfold Crs
  rw [hl]
  refine ⟨by rw [h1]; exact up_mod, .inr ⟨by unfold waitN; rw [hoo]; omega, by unfold waitN; rw [hoo]; exact hW⟩, ?_, ?_, ?_, ?_⟩
  · intro x hx
    have hlt : us % n < n := Nat.mod_lt _ (by omega)
    unfold retM over
    rw [if_neg (by omega), if_neg (by omega)]
    exact h3 x hx
  · intro j hj
    by_cases hji : j < i
    · rw [List.getElem?_append_left (by omega)]
      exact h4 j hji
    · obtain rfl : j = i := by omega
      rw [List.getElem?_append_right (by omega), hi, Nat.sub_self, hhd]
      rfl
  · intro j hj b hb
    have hlt : slotN n us0 j < n := slot_lt hn1
    unfold retM
    rw [hsl]
    by_cases hji : j < i
    · have hne := slot_ne (us0 := us0) hdv hji (by omega)
      unfold over
      rw [if_neg (by omega), if_neg (by omega)]
      exact h5 j hji b hb
    · obtain rfl : j = i := by omega
      unfold over
      rw [if_neg (by omega), if_pos (by omega), hhd, show U + 4 + 8 * slotN n us0 j + b - (U + 4 + 8 * slotN n us0 j) = b by omega]
      exact head_bytes hb
  · intro _ b hb
    unfold retM over
    rw [if_pos (by omega), show U + 2 + b - (U + 2) = b by omega]
theorem crs_give {M0 : Nat → Nat} {n D A U fe0 us0 room : Nat} {al : Bool} (hg : Gd n D A U) (hap : Apt n A U) (hM0 : ∀ a, M0 a ≤ 255) (hfe : fe0 ≤ 65535) (hdv : n ∣ 65536) : ∀ (k : Nat) (hs : List Nat) (M : Nat → Nat) (fe us : Nat), fe = (fe0 + hs.length) % 65536 → Crs M0 n A U fe0 us0 hs M us → Crs M0 n A U fe0 us0 ((giveR (devH room n A fe0 M0) (n : Int) D A U true al k hs M fe us)).s ((giveR (devH room n A fe0 M0) (n : Int) D A U true al k hs M fe us)).M ((giveR (devH room n A fe0 M0) (n : Int) D A U true al k hs M fe us)).us := by
  intro k
  induction k with
  | zero => intro hs M fe us _ h; exact h
  | succ k ih =>
    intro hs M fe us hf h
    obtain ⟨ft, hft⟩ : ∃ ft, fetchR M (n : Int) D A U true fe al = ft := ⟨_, rfl⟩
    cases ft with
    | non e => rw [give_non hft]; exact h
    | got hh c =>
      by_cases he : c.e = 0
      · by_cases ht : hs.length = room
        · rw [give_stay hft he (by unfold devH; rw [if_pos ht])]; exact h
        · obtain ⟨_, n', hn', _, hw, hw2, hhead, _⟩ := got_facts hg.d1 hft
          obtain rfl : n = n' := by omega
          rw [hf] at hw hw2 hhead
          obtain ⟨e1, e2⟩ := crs_step hg hap hM0 hfe hdv h hw hw2
          rw [give_more hft he (t' := hs ++ [headN M0 n A ((fe0 + hs.length) % 65536)]) (M' := M) (cnt := 0) (by unfold devH; rw [if_neg ht])]
          rw [Int.toNat_natCast, ← hhead, e1]
          refine ih _ _ _ _ ?_ e2
          rw [hf, List.length_append]
          exact up_mod
      · rw [give_err hft he]; exact h
theorem dvd_pow {n : Nat} (h : powB (n : Int) = true) : n ∣ 65536 := by
  obtain ⟨k, hk, rfl⟩ := pow_two h
  have : 2 ^ k ∣ 2 ^ 16 := Nat.pow_dvd_pow 2 (by omega)
  exact this
/-- what a service leaves -/
theorem crs_end {M0 : Nat → Nat} {n D A U fe0 us0 room : Nat} {al ev : Bool} (hg : Gd n D A U) (hap : Apt n A U) (hM0 : ∀ a, M0 a ≤ 255) (hfe : fe0 ≤ 65535) (hus : us0 ≤ 65535) {R : Gv (List Nat)} (hR : giveR (devH room n A fe0 M0) (n : Int) D A U true al 65537 [] M0 fe0 us0 = R) : R.us = (us0 + R.s.length) % 65536 ∧ R.s.length ≤ n ∧ (∀ j, j < R.s.length → ∃ h : Nat, R.s[j]? = some h ∧ h ≤ 65535 ∧ h256 (fun b => endM R n U ev (U + 4 + 8 * slotN n us0 j + b)) 4 0 = h) ∧ (R.s.length ≠ 0 → h256 (fun b => endM R n U ev (U + 2 + b)) 2 0 = R.us) := by
  have h := crs_give (room := room) (al := al) (us0 := us0) (D := D) hg hap hM0 hfe (dvd_pow hg.pw) 65537 [] M0 fe0 us0 (by simp; omega) ⟨by simp; omega, .inl rfl, fun _ _ => rfl, fun j hj => absurd hj (Nat.not_lt_zero _), fun j hj => absurd hj (Nat.not_lt_zero _), fun h => absurd rfl h⟩
  rw [hR] at h
  obtain ⟨h1, h2, h3, h4, h5, h6⟩ := h
  have hn1 := hg.n1
  have same : ∀ x, x < U + 4 + 8 * n → endM R n U ev x = R.M x := by
    intro x hx
    unfold endM
    split
    · unfold askM
      split
      · unfold over
        rw [if_neg (by omega)]
      · rfl
    · rfl
  refine ⟨h1, by omega, fun j hj => ⟨_, h4 j hj, rd_lt hM0 _, ?_⟩, fun h0 => ?_⟩
  · have hs : slotN n us0 j < n := slot_lt hn1
    rw [h256_congr (fun b => endM R n U ev (U + 4 + 8 * slotN n us0 j + b)) (byteAt (hdN M0 n A fe0 j)) 4 0 (fun b hb => by rw [Nat.zero_add]; show endM R n U ev _ = _; rw [same _ (by omega)]; exact h5 j hj b hb), h256_byteAt]
    have := rd_lt hM0 (A + 4 + 2 * ((fe0 + j) % 65536 % n))
    have e : hdN M0 n A fe0 j ≤ 65535 := this
    omega
  · rw [h256_congr (fun b => endM R n U ev (U + 2 + b)) (byteAt R.us) 2 0 (fun b hb => by rw [Nat.zero_add]; show endM R n U ev _ = _; rw [same _ (by omega)]; exact h6 h0 b hb), h256_byteAt]
    omega
end Go.Proofs.Ytmjdnocilbnoaaa

/- The statements' device: fill. -/
namespace Go.Proofs.Ytmjdnocilbnoaaa
open Go.RowKit Go.Maps
set_option linter.unusedVariables false
set_option linter.unusedSimpArgs false
set_option maxRecDepth 100000
theorem wrap_u32_small (n : Nat) (h : n ≤ 4000) : IntKind.u32.wrap (n : Int) = (n : Int) := by
  simp only [IntKind.wrap, IntKind.signed, IntKind.bits]
  simp
  try omega
theorem room_all (l : List Seg) : roomB true l 0 (sizeN true l) = true := by simp [roomB]
set_option maxHeartbeats 2000000 in
theorem fill_any {w : World} {F : Nat → Prop} {rb κ : Nat} {M : Nat → Nat} (hr : RamAt w F rb 8192 κ (.pointer none) M) (hκ : κ ≤ 900000) {a : Option Addr} {L c : Nat} {l : List Seg} (h : SegIn 0 w (.slice a L c) l) (hl : l.length ≤ 1000) (hok : ∀ s ∈ l, SegOk s) (ta tl b : Nat) (hb : b ≤ 255) :
    Calls Try.prog 17 #[.pointer (some ⟨rb, 0, none⟩), .agg #[.slice a L c, .int .u64 (ta : Int), .int .u64 (tl : Int)], .int .u8 (b : Int)] w fun e w' => e = .returned (.int .u32 (cntN l : Int)) ∧ ∃ F', RamAt w' F' rb 8192 (κ + 4000) (.pointer none) (fillM b l M) ∧ Step F w F' w' := by
  obtain ⟨i0, hi, hz0, hz1, hz2⟩ := info_parts Try.info5
  have XB : Hid (Below w.heap.size w (w.alloc (.cells #[.slice a L c, .int .u64 (ta : Int), .int .u64 (tl : Int)] 50)) ∧ (w.alloc (.cells #[.slice a L c, .int .u64 (ta : Int), .int .u64 (tl : Int)] 50)).heap[w.heap.size]? = some (.cells #[.slice a L c, .int .u64 (ta : Int), .int .u64 (tl : Int)] 50 (0, 0))) := ⟨one_box _ _, heap_alloc_new _ _⟩
  have KS : Hid (∀ V, Below w.heap.size w V → Calls Try.prog 36 #[.agg #[.slice a L c, .int .u64 (ta : Int), .int .u64 (tl : Int)]] V fun e w' => e = .returned (.tuple #[.int .u64 (sizeN false l : Int), .int .u64 (sizeN true l : Int)]) ∧ Below V.heap.size V w') := fun V hV => psizes_any (h.kept (fun g hg => hV.block g (h.lt g hg).2)) hl hok ta tl
  have HR : Hid (RamAt w F rb 8192 κ (.pointer none) M ∧ SegIn 0 w (.slice a L c) l ∧ l.length ≤ 1000 ∧ (∀ s ∈ l, SegOk s) ∧ b ≤ 255 ∧ κ ≤ 900000) := ⟨hr, h, hl, hok, hb, hκ⟩
  obtain ⟨sz, hsz⟩ : ∃ sz, sizeN true l = sz := ⟨_, rfl⟩
  have HS : Hid (sizeN true l = sz) := hsz
  rw [hsz] at KS
  generalize sizeN false l = sz1 at KS
  by_cases hbig : 4000 < sz
  case pos =>
    have g1 : (4000 : Int) < (sz : Int) := by omega
    have HC : Hid (cntN l = 0 ∧ fillM b l M = M) := ⟨by unfold cntN; rw [hsz, if_pos hbig], by unfold fillM; rw [hsz, if_pos hbig]⟩
    clear hbig hsz hr hκ h hl hok hb
    go_enter Try.func17, Try.ntmps17
    go_upto_region 1 with fail
    generalize w.alloc (.cells #[.slice a L c, .int .u64 (ta : Int), .int .u64 (tl : Int)] 50) = v0 at *
    obtain ⟨p0, p1, p2⟩ := box3_facts XB.out.2
    go_wp2_with (go_at_call 36; refine (KS.out _ XB.out.1).mono ?_; rintro e w1 ⟨rfl, hb1⟩; have X1 : Hid (Below w.heap.size w w1) := below_to XB.out.1 hb1; clear hb1)
    go_ret
    refine ⟨by rw [HC.out.1]; rfl, F, ?_, Step.of_below X1.out⟩
    rw [HC.out.2]
    exact (HR.out.1.below X1.out).mono (by omega)
  have g1 : ¬ (4000 : Int) < (sz : Int) := by omega
  have hs4 : sz ≤ 4000 := by omega
  have e1 : IntKind.u32.wrap (sz : Int) = (sz : Int) := wrap_u32_small sz hs4
  have HC : Hid (cntN l = sz ∧ fillM b l M = layS (fun _ => b) (scaL l 0 sz) 0 M ∧ roomB true l 0 sz = true ∧ sz ≤ 4000) := ⟨by unfold cntN; rw [hsz, if_neg hbig], by unfold fillM; rw [hsz, if_neg hbig], by rw [← hsz]; exact room_all l, hs4⟩
  clear hbig hsz hr hκ h hl hok hb
  go_enter Try.func17, Try.ntmps17
  go_upto_region 1 with fail
  generalize w.alloc (.cells #[.slice a L c, .int .u64 (ta : Int), .int .u64 (tl : Int)] 50) = v0 at *
  obtain ⟨p0, p1, p2⟩ := box3_facts XB.out.2
  go_wp2_with (first | (go_at_call 36; refine (KS.out _ XB.out.1).mono ?_; rintro e w1 ⟨rfl, hb1⟩; have X1 : Hid (Below w.heap.size w w1 ∧ w1.heap[w.heap.size]? = some (.cells #[.slice a L c, .int .u64 (ta : Int), .int .u64 (tl : Int)] 50 (0, 0))) := ⟨below_to XB.out.1 hb1, below_box XB.out.2 hb1⟩; clear hb1 p0 p1 p2) | (at_make; refine wpList_make_full _ rfl _ _ 71 rfl (w.heap.size + 1) 5 i0 (.int .u8 0) 1 Try.underlying71 hi hz0 hz1 _ _ _ _ sz rfl rfl ?m1 ?m2 ?m3 ?m4 ?m5 ?_))
  case m1 => rfl
  case m2 => rfl
  case m3 => rw [hz2]; omega
  case m4 => unfold maxLen; omega
  case m5 => have := (Array.getElem?_eq_some_iff.1 X1.out.2).1; omega
  intro w2 hown0 hgrow0
  have hb02 : Below w.heap.size w w2 := Below.grown X1.out.1 hgrow0 X1.out.1.size (by simp)
  have hbox : w2.heap[w.heap.size]? = some (.cells #[.slice a L c, .int .u64 (ta : Int), .int .u64 (tl : Int)] 50 (0, 0)) := (hgrow0.block _ (Array.getElem?_eq_some_iff.1 X1.out.2).1 (by simp)).trans X1.out.2
  rw [toList_madeCells_one, rowK_zero] at hown0
  have hgl := hown0.lt w1.heap.size rfl
  generalize w1.heap.size = g at *
  have X2 : Hid (w2.ownsRow (w.heap.size + 1) 5 1 (.slice (some ⟨g, 0, none⟩) sz sz) sz (rowK .u8 (fun _ => 0) sz) ∧ Below w.heap.size w w2 ∧ w2.heap[w.heap.size]? = some (.cells #[.slice a L c, .int .u64 (ta : Int), .int .u64 (tl : Int)] 50 (0, 0))) := ⟨hown0, hb02, hbox⟩
  have HG : Hid (w.heap.size + 1 ≤ g) := hgl.1
  clear hown0 hgrow0 hb02 hbox hgl X1 XB KS
  go_wp2_with fail
  go_loopw [10] (fun i wr => ∃ k : Nat, k ≤ sz ∧ i = .int .i64 (k : Int) ∧ wr.ownsRow (w.heap.size + 1) 5 1 (.slice (some ⟨g, 0, none⟩) sz sz) sz (rowK .u8 (fun i => if i < k then b else 0) sz) ∧ Below w.heap.size w wr ∧ wr.heap[w.heap.size]? = some (.cells #[.slice a L c, .int .u64 (ta : Int), .int .u64 (tl : Int)] 50 (0, 0))) (fun i _ => sz - (intOf i).toNat)
  case atStart => exact ⟨0, by omega, rfl, by rw [← fill_zero (fun _ => b)]; exact X2.out.1, X2.out.2.1, X2.out.2.2⟩
  case round =>
    obtain ⟨k, hk, rfl, hown, hbw, hbox⟩ := hrel
    clear X2
    by_cases hlt : k < sz
    · have hkL : (k : Int) < (sz : Int) := by omega
      have hc3 : wr.cell? ⟨g, k, none⟩ = some (.int .u8 ((if k < k then b else 0 : Nat) : Nat)) := by rw [hown.cellAt k (by omega)]; exact rowK_get _ _ _ _ hlt
      have hf3 := hown.frozenAt k
      have Y : Hid (wr.ownsRow (w.heap.size + 1) 5 1 (.slice (some ⟨g, 0, none⟩) sz sz) sz (rowK .u8 (fun i => if i < k then b else 0) sz) ∧ Below w.heap.size w wr ∧ wr.heap[w.heap.size]? = some (.cells #[.slice a L c, .int .u64 (ta : Int), .int .u64 (tl : Int)] 50 (0, 0))) := ⟨hown, hbw, hbox⟩
      clear hown hbw hbox
      go_wp2_with fail
      go_roundw
      case rel =>
        have hown4 := Y.out.1.stored k (.int .u8 (b : Nat))
        rw [fill_step (fun _ => b)] at hown4
        exact ⟨k + 1, by omega, by go_num, hown4.1, Y.out.2.1.setCell (p := ⟨g, k, none⟩) (by have := HG.out; show w.heap.size ≤ g; omega) _, (heap_setCell _ _ _ _ _ (by have := HG.out; omega)).trans Y.out.2.2⟩
      case measure => simp [intOf]; omega
    · obtain rfl : k = sz := by omega
      rw [fill_done (fun _ => b)] at hown
      have KC : Hid (Calls Try.prog 37 #[.agg #[.slice a L c, .int .u64 (ta : Int), .int .u64 (tl : Int)], .pointer (some ⟨rb, 0, none⟩), .int .u64 0, .slice (some ⟨g, 0, none⟩) k k] wr fun e w' => e = .returned (.bool true) ∧ ∃ F', RamAt w' F' rb 8192 (κ + k) (.pointer none) (fillM b l M) ∧ Step F w F' w') := by
        have hrd : ReadsF F wr (.slice (some ⟨g, 0, none⟩) k k) k (fun _ => b) := reads_ownF hown (fun z hz => by have := HR.out.1.lt z hz; omega)
        have := scatter_any (HR.out.1.below hbw) HR.out.2.2.2.2.2 (HR.out.2.1.kept (fun g hg => hbw.block g (HR.out.2.1.lt g hg).2)) HR.out.2.2.1 HR.out.2.2.2.1 ta tl 0 k (by decide) HC.out.2.2.2 (fun _ => b) (fun _ => HR.out.2.2.2.2.1) _ _ hrd
        rw [HC.out.2.2.1, if_pos rfl, ← HC.out.2.1] at this
        refine this.mono ?_
        rintro e w' ⟨rfl, F', hr, hs⟩
        exact ⟨rfl, F', hr, (Step.of_below hbw).trans hs⟩
      obtain ⟨p0, p1, p2⟩ := box3_facts hbox
      clear hown hbw hbox
      go_wp2_with (go_at_call 37; refine (KC.out).mono ?_; rintro e w5 ⟨rfl, F5, hr5, hs5⟩; have X5 : Hid (RamAt w5 F5 rb 8192 (κ + k) (.pointer none) (fillM b l M) ∧ Step F w F5 w5) := ⟨hr5, hs5⟩; clear hr5 hs5)
      go_ret
      exact ⟨by rw [HC.out.1]; rfl, F5, X5.out.1.mono (by have := HC.out.2.2.2; omega), X5.out.2⟩
end Go.Proofs.Ytmjdnocilbnoaaa

/- The statements' device: it writes a byte to all that is to be written. -/
namespace Go.Proofs.Ytmjdnocilbnoaaa
open Go.RowKit Go.Maps
set_option linter.unusedVariables false
set_option linter.unusedSimpArgs false
set_option maxRecDepth 100000
/-- how the device's state lies: its own three boxes -/
def If (rb b ro mo bo : Nat) (t : Nat) (O : Nat → Prop) (w : World) : Prop := O = (fun k => k = ro ∨ k = mo ∨ k = bo) ∧ w.heap[ro]? = some (.cells #[.int .i64 (t : Int)] 3 (0, 0)) ∧ w.heap[mo]? = some (.cells #[.pointer (some ⟨rb, 0, none⟩)] 29 (0, 0)) ∧ w.heap[bo]? = some (.cells #[.int .u8 (b : Int)] 5 (0, 0)) ∧ ro ≠ mo ∧ ro ≠ bo ∧ t ≤ 40
def budF (t : Nat) : Nat := 4010 * t
theorem dev_no {b t : Nat} {M : Nat → Nat} {h : Nat} {c : Cn} (hn : devF b t M h c = none) : t = 0 := by
  unfold devF at hn
  by_cases h0 : t = 0
  · exact h0
  · rw [if_neg h0] at hn; cases hn
theorem dev_yes {b t : Nat} {M : Nat → Nat} {h : Nat} {c : Cn} {t' : Nat} {M' : Nat → Nat} {n : Nat} (hn : devF b t M h c = some (t', M', n)) : t ≠ 0 ∧ t' = t - 1 ∧ M' = fillM b c.l M ∧ n = cntN c.l := by
  unfold devF at hn
  by_cases h0 : t = 0
  · rw [if_pos h0] at hn; cases hn
  · rw [if_neg h0] at hn
    simp only [Option.some.injEq, Prod.mk.injEq] at hn
    exact ⟨h0, hn.1.symm, hn.2.1.symm, hn.2.2.symm⟩
theorem less_wrap (t : Nat) (h : t ≤ 40) (h0 : t ≠ 0) : wrap64 ((t : Int) - 1) = ((t - 1 : Nat) : Int) := by unfold wrap64; omega
theorem cnt_le (l : List Seg) : cntN l ≤ 4294967295 := by unfold cntN; split <;> omega
theorem dev_serve (rb b ro mo bo : Nat) (hb : b ≤ 255) : Dvc rb 44 #[.pointer (some ⟨ro, 0, none⟩), .pointer (some ⟨mo, 0, none⟩), .pointer (some ⟨bo, 0, none⟩)] (devF b) budF (If rb b ro mo bo) where
  cf := fun args V => by simp [go_sem]
  lt := by
    rintro t O w ⟨rfl, h1, h2, h3, _⟩ k (rfl | rfl | rfl)
    · exact (Array.getElem?_eq_some_iff.1 h1).1
    · exact (Array.getElem?_eq_some_iff.1 h2).1
    · exact (Array.getElem?_eq_some_iff.1 h3).1
  kept := by
    rintro t O w w' ⟨rfl, h1, h2, h3, h4⟩ _ hk
    exact ⟨rfl, (hk ro (.inl rfl)).trans h1, (hk mo (.inr (.inl rfl))).trans h2, (hk bo (.inr (.inr rfl))).trans h3, h4⟩
  le := by
    intro t M h c t' M' n hn _
    rw [(dev_yes hn).2.2.2]
    exact cnt_le _
  no := by
    intro t M h c F O κ w a cc hn hr hi hO hs
    have h0 := dev_no hn
    subst h0
    obtain ⟨rfl, h1, h2, h3, _⟩ := hi
    obtain ⟨L, hL⟩ : ∃ L, c.l.length = L := ⟨_, rfl⟩
    rw [hL]
    generalize c.ta = ta
    generalize c.tl = tl
    have XB : Hid (Below w.heap.size w (w.alloc (.cells #[.slice a L cc, .int .u64 (ta : Int), .int .u64 (tl : Int)] 50)) ∧ (w.alloc (.cells #[.slice a L cc, .int .u64 (ta : Int), .int .u64 (tl : Int)] 50)).heap[ro]? = some (.cells #[.int .i64 ((0 : Nat) : Int)] 3 (0, 0))) := ⟨one_box _ _, below_box h1 (one_box _ _)⟩
    clear h1 h2 h3 hn hr hO hs hL
    show Calls Try.prog 44 #[.agg #[.slice a L cc, .int .u64 (ta : Int), .int .u64 (tl : Int)], .pointer (some ⟨ro, 0, none⟩), .pointer (some ⟨mo, 0, none⟩), .pointer (some ⟨bo, 0, none⟩)] w _
    go_enter Try.func44, Try.ntmps44
    go_upto_region 1 with fail
    generalize w.alloc (.cells #[.slice a L cc, .int .u64 (ta : Int), .int .u64 (tl : Int)] 50) = v0 at *
    obtain ⟨r0, r1⟩ := box1_facts XB.out.2
    go_wp2_with fail
    go_ret2
    exact ⟨rfl, XB.out.1⟩
  yes := by
    intro t M h c F O κ w a cc t' M' n hn hr hκ hi hO hs hg hl hok
    obtain ⟨h0, rfl, rfl, rfl⟩ := dev_yes hn
    obtain ⟨rfl, h1, h2, h3, hne1, hne2, ht⟩ := hi
    have hw := less_wrap t ht h0
    have hz : ((t : Int) == 0) = false := by simp; omega
    have HX : Hid (t - 1 ≤ 40 ∧ ro ≠ mo ∧ ro ≠ bo ∧ ¬ F ro ∧ ¬ F mo ∧ ¬ F bo ∧ κ + 4010 * t ≤ 900000 ∧ t - 1 + 1 = t) := ⟨by omega, hne1, hne2, hO ro (.inl rfl), hO mo (.inr (.inl rfl)), hO bo (.inr (.inr rfl)), hκ, by omega⟩
    obtain ⟨t1, ht1⟩ : ∃ t1, t - 1 = t1 := ⟨_, rfl⟩
    rw [ht1] at hw HX ⊢
    obtain ⟨L, hL⟩ : ∃ L, c.l.length = L := ⟨_, rfl⟩
    have HL : Hid (c.l.length = L) := hL
    rw [hL] at hs hg ⊢
    generalize c.ta = ta
    generalize c.tl = tl
    have hbx : Below w.heap.size w (w.alloc (.cells #[.slice a L cc, .int .u64 (ta : Int), .int .u64 (tl : Int)] 50)) := one_box _ _
    have XB : Hid (Below w.heap.size w (w.alloc (.cells #[.slice a L cc, .int .u64 (ta : Int), .int .u64 (tl : Int)] 50)) ∧ (w.alloc (.cells #[.slice a L cc, .int .u64 (ta : Int), .int .u64 (tl : Int)] 50)).heap[ro]? = some (.cells #[.int .i64 (t : Int)] 3 (0, 0)) ∧ (w.alloc (.cells #[.slice a L cc, .int .u64 (ta : Int), .int .u64 (tl : Int)] 50)).heap[mo]? = some (.cells #[.pointer (some ⟨rb, 0, none⟩)] 29 (0, 0)) ∧ (w.alloc (.cells #[.slice a L cc, .int .u64 (ta : Int), .int .u64 (tl : Int)] 50)).heap[bo]? = some (.cells #[.int .u8 (b : Int)] 5 (0, 0)) ∧ (w.alloc (.cells #[.slice a L cc, .int .u64 (ta : Int), .int .u64 (tl : Int)] 50)).heap[w.heap.size]? = some (.cells #[.slice a L cc, .int .u64 (ta : Int), .int .u64 (tl : Int)] 50 (0, 0)) ∧ RamAt (w.alloc (.cells #[.slice a L cc, .int .u64 (ta : Int), .int .u64 (tl : Int)] 50)) F rb 8192 κ (.pointer none) M ∧ SegIn 0 (w.alloc (.cells #[.slice a L cc, .int .u64 (ta : Int), .int .u64 (tl : Int)] 50)) (.slice a L cc) c.l ∧ ro < w.heap.size) := ⟨hbx, below_box h1 hbx, below_box h2 hbx, below_box h3 hbx, heap_alloc_new _ _, hr.below hbx, hs.kept (fun g hg => hbx.block g (hs.lt g hg).2), (Array.getElem?_eq_some_iff.1 h1).1⟩
    have HS : Hid ((∀ g, (Value.slice a L cc).ownBlock = some g → g ≠ ro) ∧ c.l.length ≤ 1000 ∧ ∀ s ∈ c.l, SegOk s) := ⟨fun g hg' e => (hg g hg').2 (.inl e), hl, hok⟩
    clear h1 h2 h3 hn hr hO hs hL hbx hg hl hok hκ ht h0 ht1
    show Calls Try.prog 44 #[.agg #[.slice a L cc, .int .u64 (ta : Int), .int .u64 (tl : Int)], .pointer (some ⟨ro, 0, none⟩), .pointer (some ⟨mo, 0, none⟩), .pointer (some ⟨bo, 0, none⟩)] w _
    go_enter Try.func44, Try.ntmps44
    go_upto_region 1 with fail
    generalize w.alloc (.cells #[.slice a L cc, .int .u64 (ta : Int), .int .u64 (tl : Int)] 50) = v0 at *
    obtain ⟨r0, r1⟩ := box1_facts XB.out.2.1
    go_upto_region 4 with fail
    have X1 : Hid ((v0.setCell ⟨ro, 0, none⟩ (.int .i64 (t1 : Int))).heap[ro]? = some (.cells #[.int .i64 (t1 : Int)] 3 (0, 0)) ∧ (v0.setCell ⟨ro, 0, none⟩ (.int .i64 (t1 : Int))).heap[mo]? = some (.cells #[.pointer (some ⟨rb, 0, none⟩)] 29 (0, 0)) ∧ (v0.setCell ⟨ro, 0, none⟩ (.int .i64 (t1 : Int))).heap[bo]? = some (.cells #[.int .u8 (b : Int)] 5 (0, 0)) ∧ (v0.setCell ⟨ro, 0, none⟩ (.int .i64 (t1 : Int))).heap[w.heap.size]? = some (.cells #[.slice a L cc, .int .u64 (ta : Int), .int .u64 (tl : Int)] 50 (0, 0)) ∧ RamAt (v0.setCell ⟨ro, 0, none⟩ (.int .i64 (t1 : Int))) F rb 8192 κ (.pointer none) M ∧ SegIn 0 (v0.setCell ⟨ro, 0, none⟩ (.int .i64 (t1 : Int))) (.slice a L cc) c.l ∧ Step (fun k => F k ∨ (k = ro ∨ k = mo ∨ k = bo)) w (fun k => F k ∨ (k = ro ∨ k = mo ∨ k = bo)) (v0.setCell ⟨ro, 0, none⟩ (.int .i64 (t1 : Int)))) := by
      obtain ⟨x1, x2, x3, x4, x5, x6, x7, x8⟩ := XB.out
      obtain ⟨y1, y2, y3, y4, y5, y6, y7⟩ := HX.out
      refine ⟨set_box x2 0 _, (heap_setCell _ _ _ _ _ (fun e => y2 e.symm)).trans x3, (heap_setCell _ _ _ _ _ (fun e => y3 e.symm)).trans x4, (heap_setCell _ _ _ _ _ (by omega)).trans x5, x6.setCell y4 _ _, x7.kept (fun g hg => heap_setCell _ _ _ _ _ (HS.out.1 g hg)), (Step.of_below x1).trans ?_⟩
      have := step_set v0 ro 0 (.int .i64 (t1 : Int))
      exact ⟨this.os, this.tape, this.output, this.size, fun k hk hn => this.block k hk (fun e => hn (.inr (.inl e))), fun k hk => .inl hk, fun k hk => hk⟩
    clear XB r0 r1
    generalize v0.setCell ⟨ro, 0, none⟩ (.int .i64 (t1 : Int)) = w1 at *
    obtain ⟨m0, m1⟩ := box1_facts X1.out.2.1
    obtain ⟨n0, n1⟩ := box1_facts X1.out.2.2.1
    obtain ⟨p0, p1, p2⟩ := box3_facts X1.out.2.2.2.1
    go_wp2_with (go_at_call 17; refine (fill_any X1.out.2.2.2.2.1 (by have := HX.out; omega) X1.out.2.2.2.2.2.1 HS.out.2.1 HS.out.2.2 ta tl b hb).mono ?_; rintro e w2 ⟨rfl, F2, hr2, hs2⟩; have X2 : Hid (RamAt w2 F2 rb 8192 (κ + 4000) (.pointer none) (fillM b c.l M) ∧ Step F w1 F2 w2) := ⟨hr2, hs2⟩; clear hr2 hs2)
    go_ret2
    obtain ⟨y1, y2, y3, y4, y5, y6, y7, y8⟩ := HX.out
    obtain ⟨x1, x2, x3, x4, x5, x6, x7⟩ := X1.out
    obtain ⟨z1, z2⟩ := X2.out
    have l1 := (Array.getElem?_eq_some_iff.1 x1).1
    have l2 := (Array.getElem?_eq_some_iff.1 x2).1
    have l3 := (Array.getElem?_eq_some_iff.1 x3).1
    refine ⟨rfl, F2, fun k => k = ro ∨ k = mo ∨ k = bo, κ + 4000, z1, ⟨rfl, step_box z2 x1 y4, step_box z2 x2 y5, step_box z2 x3 y6, y2, y3, y1⟩, ?_, x7.trans (step_or z2 ?_), ?_⟩
    · rintro k (rfl | rfl | rfl)
      · exact not_later z2 l1 y4
      · exact not_later z2 l2 y5
      · exact not_later z2 l3 y6
    · rintro k (rfl | rfl | rfl)
      · exact l1
      · exact l2
      · exact l3
    · unfold budF; omega
end Go.Proofs.Ytmjdnocilbnoaaa

/- The call stretch of layer 2: a list of pieces with a byte more. -/
namespace Go.Proofs.Ytmjdnocilbnoaaa
open Go.RowKit Go.Maps
set_option linter.unusedVariables false
/-- the pieces with a byte more, whose address lies above them -/
def stretchL (l : List (Nat × Nat)) (x : Nat) : List (Nat × Nat) :=
  match l.getLast? with
  | some p => if p.1 + p.2 = x then l.dropLast ++ [(p.1, p.2 + 1)] else l ++ [(x, 1)]
  | none => [(x, 1)]
theorem spanRow_length (l : List (Nat × Nat)) : (spanRow l).length = l.length * 2 := by
  induction l with
  | nil => rfl
  | cons p r ih => simp [spanRow] at ih ⊢; omega
end Go.Proofs.Ytmjdnocilbnoaaa

/- The call unlike of layer 2, its two rounds: the numbers of pages that were found so far. -/
namespace Go.Proofs.Ytmjdnocilbnoaaa
open Go.RowKit Go.Maps
set_option linter.unusedVariables false
def numRow (ks : List Nat) : List Value := ks.map fun k => .int .u64 (k : Nat)
/-- numbers, as a list that lies in blocks from B on -/
def Nums (B : Nat) (w : World) (v : Value) (ks : List Nat) : Prop := w.ownsRow B 23 1 v ks.length (numRow ks)
theorem Nums.kept {B : Nat} {w w' : World} {v : Value} {ks : List Nat} (h : Nums B w v ks) (hk : ∀ g, v.ownBlock = some g → w'.heap[g]? = w.heap[g]?) : Nums B w' v ks := by
  refine ⟨h.1, ?_⟩
  rcases h.2 with hn | ⟨g, cap, cur, rfl, hb, hgg, rest⟩
  · exact .inl hn
  · exact .inr ⟨g, cap, cur, rfl, hb, (hk g rfl).trans hgg, rest⟩
theorem Nums.form {B : Nat} {w : World} {v : Value} {ks : List Nat} (h : Nums B w v ks) : ∃ a c, v = .slice a ks.length c := by
  rcases h.2 with ⟨rfl, h0⟩ | ⟨g, cap, cur, rfl, _⟩
  · exact ⟨none, 0, by rw [h0]⟩
  · exact ⟨_, cap, rfl⟩
end Go.Proofs.Ytmjdnocilbnoaaa

/- The pieces at which two memories differ: plain facts. -/
namespace Go.Proofs.Ytmjdnocilbnoaaa
open Go.RowKit Go.Maps
set_option linter.unusedVariables false
/-- the pieces of addresses that rise -/
def spans (A : List Nat) : List (Nat × Nat) := A.foldl stretchL []
end Go.Proofs.Ytmjdnocilbnoaaa

/- The call Differ of layer 2: where two memories differ, piece by piece. -/
namespace Go.Proofs.Ytmjdnocilbnoaaa
open Go.RowKit Go.Maps
set_option linter.unusedVariables false
set_option linter.unusedSimpArgs false
/-- a block that lies where it lay, and is not the list's own -/
def Kept (w : World) (v : Value) (b : Nat) (o : Obj) : Prop := w.heap[b]? = some o ∧ v.ownBlock ≠ some b
theorem Kept.lt {w : World} {v : Value} {b : Nat} {o : Obj} (h : Kept w v b o) : b < w.heap.size := (Array.getElem?_eq_some_iff.1 h.1).1
theorem Kept.below {w w' : World} {v : Value} {b : Nat} {o : Obj} (h : Kept w v b o) (hb : Below w.heap.size w w') : Kept w' v b o := ⟨below_box h.1 hb, h.2⟩
theorem Kept.drewN {w : World} {v : Value} {b : Nat} {o : Obj} (h : Kept w v b o) (n : Nat) : Kept (w.drewN n) v b o := h
theorem spanRow_take (l : List (Nat × Nat)) : ∀ m, spanRow (l.take m) = (spanRow l).take (m * 2) := by
  induction l with
  | nil => intro m; simp [spanRow]
  | cons p r ih =>
    intro m
    have e : spanRow (p :: r) = .int .u64 (p.1 : Nat) :: .int .u64 (p.2 : Nat) :: spanRow r := by simp [spanRow]
    cases m with
    | zero => simp [spanRow]
    | succ m =>
      rw [List.take_succ_cons, e, show (m + 1) * 2 = m * 2 + 1 + 1 from by omega, List.take_succ_cons, List.take_succ_cons, ← ih m]
      simp [spanRow]
theorem SpanIn.cut {B : Nat} {w : World} {g n c : Nat} {l : List (Nat × Nat)} (h : SpanIn B w (.slice (some ⟨g, 0, none⟩) n c) l) (m : Nat) (hm : m ≤ l.length) : SpanIn B w (.slice (some ⟨g, 0, none⟩) m c) (l.take m) := by
  have hl := spanRow_length (l.take m)
  have h0 : (l.take m).length = m := by simp; omega
  rw [h0] at hl
  rcases h.2 with ⟨h', _⟩ | ⟨g', cap', cur, h', hb, hg, hnc, hcm, hcs, htake⟩
  · simp at h'
  · simp only [Value.slice.injEq, Option.some.injEq, Addr.mk.injEq, and_true, true_and] at h'
    obtain ⟨rfl, h2, rfl⟩ := h'
    refine ⟨?_, .inr ⟨g, c, cur, by rw [h0], hb, hg, ?_, hcm, hcs, ?_⟩⟩
    · rw [h0]; exact hl
    · rw [h0]; omega
    · rw [h0, spanRow_take, ← htake, List.take_take, Nat.min_eq_left (by omega)]
end Go.Proofs.Ytmjdnocilbnoaaa

/- The call Differ of layer 2, walked. -/
namespace Go.Proofs.Ytmjdnocilbnoaaa
open Go.RowKit Go.Maps
set_option linter.unusedVariables false
set_option linter.unusedSimpArgs false
/-- what the scan has found so far -/
structure Scan (w wr : World) (v : Value) (A : List Nat) (most : Int) : Prop where
  span : SpanIn w.heap.size wr v (spans A)
  below : Below w.heap.size w wr
  few : ((spans A).length : Int) ≤ most
theorem Scan.later {w wr w' : World} {v : Value} {A : List Nat} {most : Int} (h : Scan w wr v A most) (hb : Below wr.heap.size wr w') : Scan w w' v A most :=
  ⟨h.span.kept (fun g hg => hb.block g (h.span.lt g hg).2), h.below.trans (hb.mono h.below.size), h.few⟩
theorem SpanIn.room {B : Nat} {w : World} {g n c : Nat} {l : List (Nat × Nat)} (h : SpanIn B w (.slice (some ⟨g, 0, none⟩) n c) l) : n ≤ c := by
  rcases h.2 with ⟨h', _⟩ | ⟨g', cap', cur, h', hb, hg, hnc, hcm, hcs, htake⟩
  · simp at h'
  · simp only [Value.slice.injEq, Option.some.injEq, Addr.mk.injEq, and_true, true_and] at h'
    obtain ⟨rfl, h2, rfl⟩ := h'
    omega
end Go.Proofs.Ytmjdnocilbnoaaa

/- The statements' serve. -/
namespace Go.Proofs.Ytmjdnocilbnoaaa
open Go.RowKit Go.Maps
set_option linter.unusedVariables false
set_option linter.unusedSimpArgs false
set_option maxRecDepth 100000
theorem RamAt.more {w : World} {F G : Nat → Prop} {rb size n : Nat} {lg : Value} {M : Nat → Nat} (h : RamAt w F rb size n lg M) (hG : ∀ k, F k → G k) (hl : ∀ k, G k → k < w.heap.size) : RamAt w G rb size n lg M := by
  obtain ⟨bm, pg, D, h1, h2, h3, h4, h5, h6, f1, f2, f3, f4, h7⟩ := h
  exact ⟨bm, pg, D, h1, h2, h3, h4, h5, h6, hG _ f1, hG _ f2, fun k b hk => hG _ (f3 k b hk), hl, h7⟩
/-- behind the device's own boxes -/
theorem serve_end {w v0 w' : World} {F F' O O' : Nat → Prop} {qb : Nat} (hb : Below w.heap.size w v0) (hO : ∀ k, O k → w.heap.size ≤ k) (hs : Step (fun k => (F k ∨ O k) ∨ k = qb) v0 (fun k => (F' k ∨ O' k) ∨ k = qb) w') : Step (fun k => F k ∨ k = qb) w (fun k => (F' k ∨ O' k) ∨ k = qb) w' :=
  ⟨hs.os.trans hb.os, hs.tape.trans hb.tape, hs.output.trans hb.output, Nat.le_trans hb.size hs.size, fun k hk hn => (hs.block k (Nat.lt_of_lt_of_le hk hb.size) (fun hc => by
      rcases hc with (hc | hc) | hc
      · exact hn (.inl hc)
      · have := hO k hc; omega
      · exact hn (.inr hc))).trans (hb.block k hk), fun k hk => by
      rcases hs.old k hk with ((h | h) | h) | h
      · exact .inl (.inl h)
      · exact .inr (hO k h)
      · exact .inl (.inr h)
      · exact .inr (Nat.le_trans hb.size h), fun k hk => by
      rcases hk with hk | hk
      · exact hs.keep k (.inl (.inl hk))
      · exact .inr hk⟩
theorem if_lt {rb b ro mo bo t : Nat} {O : Nat → Prop} {w : World} (h : If rb b ro mo bo t O w) : ∀ k, O k → k < w.heap.size := by
  obtain ⟨rfl, h1, h2, h3, _⟩ := h
  rintro k (rfl | rfl | rfl)
  · exact (Array.getElem?_eq_some_iff.1 h1).1
  · exact (Array.getElem?_eq_some_iff.1 h2).1
  · exact (Array.getElem?_eq_some_iff.1 h3).1
set_option maxHeartbeats 1000000 in
theorem law_good {w : World} {F : Nat → Prop} {rb κ : Nat} {M : Nat → Nat} (hr : RamAt w F rb 8192 κ (.pointer none) M) {qb : Nat} {n D A U : Nat} {ev al : Bool} {fe us : Nat} (hq : w.heap[qb]? = some (.cells #[.int .i64 (n : Int), .int .u64 (D : Int), .int .u64 (A : Int), .int .u64 (U : Int), .bool true, .int .u16 (fe : Int), .int .u16 (us : Int), .bool ev, .bool al] 40 (0, 0))) (hg : Gd n D A U) (hF : ¬ F qb) (hfe : fe ≤ 65535) (hus : us ≤ 65535) (b t : Nat) (hb : b ≤ 255) (ht : t ≤ 40) (hκ : κ + budF t ≤ 900000) (R : Gv Nat) (hR : giveR (devF b) (n : Int) D A U true al 65537 t M fe us = R) : Calls Try.prog 22 #[.pointer (some ⟨rb, 0, none⟩), .pointer (some ⟨qb, 0, none⟩), .int .u8 (b : Int), .int .i64 (t : Int)] w fun r w' => r = .returned (.tuple #[.bool (tellB (endM R n U ev) n A R.us us ev), .int .i64 R.e]) ∧ ∃ (F' : Nat → Prop) (κ' : Nat), RamAt w' F' rb 8192 κ' (.pointer none) (endM R n U ev) ∧ w'.heap[qb]? = some (.cells #[.int .i64 (n : Int), .int .u64 (D : Int), .int .u64 (A : Int), .int .u64 (U : Int), .bool true, .int .u16 (R.fe : Int), .int .u16 (R.us : Int), .bool ev, .bool al] 40 (0, 0)) ∧ ¬ F' qb ∧ κ' ≤ 900002 ∧ Step (fun k => F k ∨ k = qb) w (fun k => F' k ∨ k = qb) w' := by
  have hmf : ∀ (fn : Fn) (first cap : Array Value) (w : World), (Instr.makeFunc fn first cap).run Try.prog w = .ok (.func fn first cap) w := fun _ _ _ _ => rfl
  have h3 := three_in w (.cells #[.pointer (some ⟨rb, 0, none⟩)] 29) (.cells #[.int .u8 (b : Int)] 5) (.cells #[.int .i64 (t : Int)] 3)
  have XB : Hid (Below w.heap.size w (((w.alloc (.cells #[.pointer (some ⟨rb, 0, none⟩)] 29)).alloc (.cells #[.int .u8 (b : Int)] 5)).alloc (.cells #[.int .i64 (t : Int)] 3)) ∧ (((w.alloc (.cells #[.pointer (some ⟨rb, 0, none⟩)] 29)).alloc (.cells #[.int .u8 (b : Int)] 5)).alloc (.cells #[.int .i64 (t : Int)] 3)).heap[w.heap.size]? = some (.cells #[.pointer (some ⟨rb, 0, none⟩)] 29 (0, 0)) ∧ 0 = 0) := ⟨h3.2.2.2, h3.1, rfl⟩
  have hgl : Gl (If rb b (w.heap.size + 2) (w.heap.size) (w.heap.size + 1)) budF rb qb (n : Int) D A U true ev al (((w.alloc (.cells #[.pointer (some ⟨rb, 0, none⟩)] 29)).alloc (.cells #[.int .u8 (b : Int)] 5)).alloc (.cells #[.int .i64 (t : Int)] 3)) F (fun k => k = w.heap.size + 2 ∨ k = w.heap.size ∨ k = w.heap.size + 1) (((w.alloc (.cells #[.pointer (some ⟨rb, 0, none⟩)] 29)).alloc (.cells #[.int .u8 (b : Int)] 5)).alloc (.cells #[.int .i64 (t : Int)] 3)) t M fe us F (fun k => k = w.heap.size + 2 ∨ k = w.heap.size ∨ k = w.heap.size + 1) κ := ⟨hr.below h3.2.2.2, below_box hq h3.2.2.2, ⟨rfl, h3.2.2.1, h3.1, h3.2.1, by omega, by omega, ht⟩, by
    have hql := (Array.getElem?_eq_some_iff.1 hq).1
    rintro k (rfl | rfl | rfl)
    · exact ⟨fun hf => by have := hr.lt _ hf; omega, by omega⟩
    · exact ⟨fun hf => by have := hr.lt _ hf; omega, by omega⟩
    · exact ⟨fun hf => by have := hr.lt _ hf; omega, by omega⟩, hF, hκ, Step.refl _ _⟩
  have KS : Hid (Calls Try.prog 11 #[.pointer (some ⟨qb, 0, none⟩), .pointer (some ⟨rb, 0, none⟩), .func (.func 44) #[] #[.pointer (some ⟨w.heap.size + 2, 0, none⟩), .pointer (some ⟨w.heap.size, 0, none⟩), .pointer (some ⟨w.heap.size + 1, 0, none⟩)]] (((w.alloc (.cells #[.pointer (some ⟨rb, 0, none⟩)] 29)).alloc (.cells #[.int .u8 (b : Int)] 5)).alloc (.cells #[.int .i64 (t : Int)] 3)) fun e w' => e = .returned (.tuple #[.bool (tellB (endM R n U ev) n A R.us us ev), .int .i64 R.e]) ∧ Send (If rb b (w.heap.size + 2) (w.heap.size) (w.heap.size + 1)) rb qb n D A U ev al (((w.alloc (.cells #[.pointer (some ⟨rb, 0, none⟩)] 29)).alloc (.cells #[.int .u8 (b : Int)] 5)).alloc (.cells #[.int .i64 (t : Int)] 3)) F (fun k => k = w.heap.size + 2 ∨ k = w.heap.size ∨ k = w.heap.size + 1) R w') := serve_any (dev_serve rb b _ _ _ hb) hg hfe hus hgl R hR
  clear hr hq hF hg hfe hus hb ht hκ hgl h3 hR
  obtain ⟨tb, htb⟩ : ∃ tb, tellB (endM R n U ev) n A R.us us ev = tb := ⟨_, rfl⟩
  rw [htb] at KS ⊢
  clear htb
  go_enter Try.func22, Try.ntmps22
  go_upto_region 1 with fail
  generalize ((w.alloc (.cells #[.pointer (some ⟨rb, 0, none⟩)] 29)).alloc (.cells #[.int .u8 (b : Int)] 5)).alloc (.cells #[.int .i64 (t : Int)] 3) = v0 at *
  obtain ⟨m0, m1⟩ := box1_facts XB.out.2.1
  go_wp2_with (go_at_call 11; refine (KS.out).mono ?_; rintro e w1 ⟨rfl, F1, O1, κ1, hr1, hq1, hi1, hO1, hn1, hk1, hs1⟩; have X1 : Hid (RamAt w1 F1 rb 8192 κ1 (.pointer none) (endM R n U ev) ∧ w1.heap[qb]? = some (.cells #[.int .i64 (n : Int), .int .u64 (D : Int), .int .u64 (A : Int), .int .u64 (U : Int), .bool true, .int .u16 (R.fe : Int), .int .u16 (R.us : Int), .bool ev, .bool al] 40 (0, 0)) ∧ If rb b (w.heap.size + 2) (w.heap.size) (w.heap.size + 1) R.s O1 w1 ∧ (∀ k, O1 k → ¬ F1 k ∧ k ≠ qb) ∧ ¬ F1 qb ∧ κ1 ≤ 900002 ∧ Step (fun k => (F k ∨ (fun k => k = w.heap.size + 2 ∨ k = w.heap.size ∨ k = w.heap.size + 1) k) ∨ k = qb) v0 (fun k => (F1 k ∨ O1 k) ∨ k = qb) w1) := ⟨hr1, hq1, hi1, hO1, hn1, hk1, hs1⟩; clear hr1 hq1 hi1 hO1 hn1 hk1 hs1)
  go_ret2
  obtain ⟨x1, x2, x3, x4, x5, x6, x7⟩ := X1.out
  exact ⟨rfl, fun k => F1 k ∨ O1 k, κ1, x1.more (fun k hk => .inl hk) (fun k hk => hk.elim (x1.lt k) (if_lt x3 k)), x2, fun hc => hc.elim x5 (fun ho => (x4 qb ho).2 rfl), x6, serve_end XB.out.1 (by rintro k (rfl | rfl | rfl) <;> omega) x7⟩
end Go.Proofs.Ytmjdnocilbnoaaa

/- Store of a memory that is not watched. -/
namespace Go.Proofs.Ytmjdnocilbnoaaa
open Go.RowKit Go.Maps
set_option linter.unusedVariables false
set_option linter.unusedSimpArgs false
set_option maxRecDepth 100000
theorem width_any (n : Int) (w : World) : Calls Try.prog 32 #[.int .i64 n] w fun e w' => e = .returned (.bool (widB n)) ∧ w' = w := by
  go_enter Try.func32, Try.ntmps32
  go_wp2
  all_goals (go_ret; exact ⟨ret_bool (by rw [Bool.eq_iff_iff]; simp [widB, *]; try omega), rfl⟩)
set_option maxHeartbeats 400000 in
theorem store_any {w : World} {F : Nat → Prop} {rb size n : Nat} {M : Nat → Nat} (h : RamAt w F rb size n (.pointer none) M) (hs : size ≤ 268435456) (x : Nat) (k : Int) (y : Nat) (hx : x < 18446744073709551616) (hy : y < 18446744073709551616) (hn : n + 8 ≤ 1000000) :
    Calls Try.prog 21 #[.pointer (some ⟨rb, 0, none⟩), .int .u64 (x : Nat), .int .i64 k, .int .u64 (y : Nat)] w fun e w' => e = .returned (.bool (widB k && inB x k 2147483648 size)) ∧ ∃ F', RamAt w' F' rb size (n + 8) (.pointer none) (if (widB k && inB x k 2147483648 size) = true then over M x k.toNat (byteAt y) else M) ∧ Step F w F' w' := by
  cases hw : widB k with
  | false =>
    rw [Bool.false_and, if_neg (by simp)]
    have H : Hid (widB k = false) := hw
    clear hw
    go_enter Try.func21, Try.ntmps21
    go_wp2_with (first | (go_at_call 32; refine (width_any k _).mono ?_; rintro e w' ⟨rfl, rfl⟩; rw [H.out]))
    go_ret
    exact ⟨rfl, F, h.mono (by omega), Step.refl _ _⟩
  | true =>
    rw [Bool.true_and]
    have hk : k = 1 ∨ k = 2 ∨ k = 4 ∨ k = 8 := by simpa [widB] using hw
    obtain ⟨L, rfl⟩ : ∃ L : Nat, k = L := ⟨k.toNat, by omega⟩
    have hL : L ≤ 8 := by omega
    have H : Hid (widB L = true) := hw
    clear hw hk
    rw [Int.toNat_natCast]
    obtain ⟨Q, hQ⟩ : ∃ Q, Q = (if inB x L 2147483648 size = true then over M x L (byteAt y) else M) := ⟨_, rfl⟩
    rw [← hQ]
    have HQ : Hid (Q = (if inB x L 2147483648 size = true then over M x L (byteAt y) else M)) := hQ
    clear hQ
    go_enter Try.func21, Try.ntmps21
    go_wp2_with (first | (go_at_call 32; refine (width_any _ _).mono ?_; rintro e w' ⟨rfl, rfl⟩; rw [H.out]) | (go_at_call 43; refine (bytes_any y L L hy (by omega) _).mono ?_; rintro e w1 ⟨v, rfl, hown, hb⟩) | (go_at_call 23; refine (write_any (h.below hb) hs x L (byteAt y) _ hx (reads_ownF hown h.lt) (fun i _ => byteAt_le y i) (by omega)).mono ?_; rintro e w2 ⟨rfl, F2, h2, hs2⟩))
    go_ret
    exact ⟨rfl, F2, by rw [HQ.out]; exact h2.mono (by omega), (Step.of_below hb).trans hs2⟩
end Go.Proofs.Ytmjdnocilbnoaaa

/- The example, plain. -/
namespace Go.Proofs.Ytmjdnocilbnoaaa
open Go.RowKit Go.Maps
set_option linter.unusedVariables false
set_option linter.unusedSimpArgs false
set_option maxRecDepth 100000
theorem ex_gd : Gd 2 2147483648 2147483904 2147484160 := ⟨by kernel_rfl, by decide, by decide, by kernel_rfl, by decide, by decide, by decide, by decide, by decide⟩
theorem ex_e : (giveR (devF 7) ((2 : Nat) : Int) 2147483648 2147483904 2147484160 true false 65537 9 (over (over (fun _ => 0) 2147483648 8 (byteAt 2147487744)) 2147483906 2 (byteAt 2)) 0 0).e = 0 := by kernel_rfl
theorem ex_fe : (giveR (devF 7) ((2 : Nat) : Int) 2147483648 2147483904 2147484160 true false 65537 9 (over (over (fun _ => 0) 2147483648 8 (byteAt 2147487744)) 2147483906 2 (byteAt 2)) 0 0).fe = 2 := by kernel_rfl
theorem ex_us : (giveR (devF 7) ((2 : Nat) : Int) 2147483648 2147483904 2147484160 true false 65537 9 (over (over (fun _ => 0) 2147483648 8 (byteAt 2147487744)) 2147483906 2 (byteAt 2)) 0 0).us = 2 := by kernel_rfl
theorem ex_tell : tellB (endM (giveR (devF 7) ((2 : Nat) : Int) 2147483648 2147483904 2147484160 true false 65537 9 (over (over (fun _ => 0) 2147483648 8 (byteAt 2147487744)) 2147483906 2 (byteAt 2)) 0 0) 2 2147484160 false) 2 2147483904 2 0 false = true := by kernel_rfl
theorem ex_new : rightB 8192 = true := by decide
theorem ex_p1 : (widB 8 && inB (2147483648 : Nat) 8 2147483648 (8192 : Nat)) = true := by decide
theorem ex_p2 : (widB 2 && inB (2147483906 : Nat) 2 2147483648 (8192 : Nat)) = true := by decide
end Go.Proofs.Ytmjdnocilbnoaaa

/- The example: two chains offered are used, and told. -/
namespace Go.Proofs.Ytmjdnocilbnoaaa
open Go.RowKit Go.Maps
set_option linter.unusedVariables false
set_option linter.unusedSimpArgs false
set_option maxRecDepth 100000
def Aq (w V : World) (F : Nat → Prop) (rb k : Nat) (M : Nat → Nat) (p : Nat) (fe us : Int) : Prop := RamAt V F rb 8192 k (.pointer none) M ∧ (∀ z, F z → w.heap.size ≤ z) ∧ Below w.heap.size w V ∧ V.heap[p]? = some (.cells #[.int .i64 2, .int .u64 2147483648, .int .u64 2147483904, .int .u64 2147484160, .bool true, .int .u16 fe, .int .u16 us, .bool false, .bool false] 40 (0, 0)) ∧ ¬ F p ∧ w.heap.size ≤ p
theorem Aq.step {w V V2 : World} {F F2 : Nat → Prop} {rb k k2 p : Nat} {M M2 : Nat → Nat} {fe us : Int} (h : Aq w V F rb k M p fe us) (hr : RamAt V2 F2 rb 8192 k2 (.pointer none) M2) (hs : Step F V F2 V2) : Aq w V2 F2 rb k2 M2 p fe us := by
  have hlt := (Array.getElem?_eq_some_iff.1 h.2.2.2.1).1
  have hw := h.2.2.1.size
  exact ⟨hr, hs.base hw h.2.1, h.2.2.1.trans (hs.below hw h.2.1), (hs.block p hlt h.2.2.2.2.1).trans h.2.2.2.1, not_later hs hlt h.2.2.2.2.1, h.2.2.2.2.2⟩
set_option maxHeartbeats 2000000 in
theorem awake_any (w : World) : Calls Try.prog 5 #[] w fun e w' => e = .returned (.bool true) ∧ Below w.heap.size w w' := by
  have KN : Hid (Calls Try.prog 20 #[.int .u64 8192] w fun e w' => ∃ rb F, e = .returned (.tuple #[.pointer (some ⟨rb, 0, none⟩), .int .i64 0]) ∧ RamAt w' F rb 8192 0 (.pointer none) (fun _ => 0) ∧ (∀ k, F k → w.heap.size ≤ k) ∧ Below w.heap.size w w') := new_yes 8192 ex_new w
  have K1 : Hid (∀ V F rb p, Aq w V F rb 0 (fun _ => 0) p 0 0 → Calls Try.prog 21 #[.pointer (some ⟨rb, 0, none⟩), .int .u64 2147483648, .int .i64 8, .int .u64 2147487744] V fun e w' => e = .returned (.bool true) ∧ ∃ F', Aq w w' F' rb 8 (over (fun _ => 0) 2147483648 8 (byteAt 2147487744)) p 0 0) := by
    intro V F rb p h
    have := store_any h.1 (by omega) 2147483648 8 2147487744 (by omega) (by omega) (by omega)
    rw [ex_p1, if_pos rfl] at this
    refine this.mono ?_
    rintro e w' ⟨he, F', hr, hs⟩
    exact ⟨he, F', h.step hr hs⟩
  have K2 : Hid (∀ V F rb p, Aq w V F rb 8 (over (fun _ => 0) 2147483648 8 (byteAt 2147487744)) p 0 0 → Calls Try.prog 21 #[.pointer (some ⟨rb, 0, none⟩), .int .u64 2147483906, .int .i64 2, .int .u64 2] V fun e w' => e = .returned (.bool true) ∧ ∃ F', Aq w w' F' rb 16 (over (over (fun _ => 0) 2147483648 8 (byteAt 2147487744)) 2147483906 2 (byteAt 2)) p 0 0) := by
    intro V F rb p h
    have := store_any h.1 (by omega) 2147483906 2 2 (by omega) (by omega) (by omega)
    rw [ex_p2, if_pos rfl] at this
    refine this.mono ?_
    rintro e w' ⟨he, F', hr, hs⟩
    exact ⟨he, F', h.step hr hs⟩
  have KS : Hid (∀ V F rb p, Aq w V F rb 16 (over (over (fun _ => 0) 2147483648 8 (byteAt 2147487744)) 2147483906 2 (byteAt 2)) p 0 0 → Calls Try.prog 22 #[.pointer (some ⟨rb, 0, none⟩), .pointer (some ⟨p, 0, none⟩), .int .u8 7, .int .i64 9] V fun e w' => e = .returned (.tuple #[.bool true, .int .i64 0]) ∧ w'.heap[p]? = some (.cells #[.int .i64 2, .int .u64 2147483648, .int .u64 2147483904, .int .u64 2147484160, .bool true, .int .u16 2, .int .u16 2, .bool false, .bool false] 40 (0, 0)) ∧ Below w.heap.size w w') := by
    intro V F rb p h
    have := law_good (n := 2) (D := 2147483648) (A := 2147483904) (U := 2147484160) (ev := false) (al := false) (fe := 0) (us := 0) h.1 h.2.2.2.1 ex_gd h.2.2.2.2.1 (by decide) (by decide) 7 9 (by decide) (by decide) (by decide) _ rfl
    rw [ex_e, ex_us, ex_fe, ex_tell] at this
    refine this.mono ?_
    rintro e w' ⟨he, F', κ', hr, hq, hF, hk, hs⟩
    refine ⟨he, hq, h.2.2.1.trans (hs.below h.2.2.1.size (fun k hk => ?_))⟩
    rcases hk with hk | hk
    · exact h.2.1 k hk
    · rw [hk]; exact h.2.2.2.2.2
  go_enter Try.func5, Try.ntmps5
  go_upto_region 4 with (go_at_call 20; refine (KN.out).mono ?_; rintro e w1 ⟨rb, F, rfl, hr, hF, hb⟩)
  go_upto_region 5 with fail
  have X1 : Hid (Aq w (w1.alloc (.cells #[.int .i64 2, .int .u64 2147483648, .int .u64 2147483904, .int .u64 2147484160, .bool true, .int .u16 0, .int .u16 0, .bool false, .bool false] 40)) F rb 0 (fun _ => 0) w1.heap.size 0 0) := ⟨hr.below (one_box _ _), hF, hb.trans ((Below.refl _ _).alloc hb.size _), heap_alloc_new _ _, fun hf => by have := hr.lt _ hf; omega, hb.size⟩
  clear hr hF hb KN
  generalize w1.alloc (.cells #[.int .i64 2, .int .u64 2147483648, .int .u64 2147483904, .int .u64 2147484160, .bool true, .int .u16 0, .int .u16 0, .bool false, .bool false] 40) = w2 at *
  generalize w1.heap.size = p at *
  go_upto_region 6 with (go_at_call 21; refine (K1.out _ _ _ _ X1.out).mono ?_; rintro e w3 ⟨rfl, F3, h3⟩; have X2 : Hid (Aq w w3 F3 rb 8 (over (fun _ => 0) 2147483648 8 (byteAt 2147487744)) p 0 0) := h3; clear h3 X1)
  clear K1
  go_upto_region 7 with (go_at_call 21; refine (K2.out _ _ _ _ X2.out).mono ?_; rintro e w4 ⟨rfl, F4, h4⟩; have X3 : Hid (Aq w w4 F4 rb 16 (over (over (fun _ => 0) 2147483648 8 (byteAt 2147487744)) 2147483906 2 (byteAt 2)) p 0 0) := h4; clear h4 X2)
  clear K2
  go_wp2_with (go_at_call 22; refine (KS.out _ _ _ _ X3.out).mono ?_; rintro e w5 ⟨rfl, hq5, hb5⟩; have X5 : Hid (w5.heap[p]? = some (.cells #[.int .i64 2, .int .u64 2147483648, .int .u64 2147483904, .int .u64 2147484160, .bool true, .int .u16 2, .int .u16 2, .bool false, .bool false] 40 (0, 0)) ∧ Below w.heap.size w w5) := ⟨hq5, hb5⟩; clear hq5 hb5 X3; obtain ⟨c0, c1, c2, c3, c4, c5, c6, c7, c8⟩ := box9_facts X5.out.1)
  go_ret
  exact ⟨rfl, X5.out.2⟩
end Go.Proofs.Ytmjdnocilbnoaaa

/- What the statements are handed: a queue, numbers. -/
namespace Go.Proofs.Ytmjdnocilbnoaaa
open Go.RowKit Go.ChangeShapes Go.WideShapes Go.ChangeAt
set_option linter.unusedVariables false
set_option linter.unusedSimpArgs false
set_option maxRecDepth 100000
theorem cellsQ : Try.prog.cellsOf 27 = 9 := by kernel_rfl
theorem cellsL17 : Try.prog.cellsOf 25 = 4 := by kernel_rfl
theorem cellsI17 : Try.prog.cellsOf 3 = 1 := by kernel_rfl
theorem cellsB17 : Try.prog.cellsOf 4 = 1 := by kernel_rfl
theorem cellsU17 : Try.prog.cellsOf 23 = 1 := by kernel_rfl
theorem list_nine {α : Type} (l : List α) (h : l.length = 9) : ∃ a b c d e f g h i, l = [a, b, c, d, e, f, g, h, i] := by
  match l, h with
  | [a, b, c, d, e, f, g, h, i], _ => exact ⟨a, b, c, d, e, f, g, h, i, rfl⟩
theorem list_six {α : Type} (l : List α) (h : l.length = 6) : ∃ a b c d e f, l = [a, b, c, d, e, f] := by
  match l, h with
  | [a, b, c, d, e, f], _ => exact ⟨a, b, c, d, e, f, rfl⟩
section
variable {H : Type} {enc : TypeId × Value → H} {W : World} {spare : Nat → Bool} {held : Bool}
theorem open_lays {n : Nat} {cs : List Value} {x : DataW H × List MemPlace} (h : DataW.trod enc Try.prog W 0 (fun _ => true) held n 25 cs = some x) :
    ∃ (s : Int) (D A Uu : Nat), cs = [.int .i64 s, .int .u64 (D : Int), .int .u64 (A : Int), .int .u64 (Uu : Int)] ∧ (Lit.int .i64 s).wf = true ∧ D < 18446744073709551616 ∧ A < 18446744073709551616 ∧ Uu < 18446744073709551616 := by
  obtain ⟨xs, m, _, _, hl, hlen, hff⟩ := DataW.trod_struct Try.underlying25 h
  rw [cellsL17] at hl
  obtain ⟨c0, c1, c2, c3, rfl⟩ := list_four _ hl
  obtain ⟨y0, y1, y2, y3, rfl⟩ := list_four xs hlen
  have h0 := hff 0 _ rfl
  have h1 := hff 1 _ rfl
  have h2 := hff 2 _ rfl
  have h3 := hff 3 _ rfl
  simp [cellsI17, cellsU17] at h0 h1 h2 h3
  obtain ⟨z0, e0, _, w0⟩ := DataW.trod_int Try.underlying3 h0
  obtain ⟨z1, e1, _, w1⟩ := DataW.trod_int Try.underlying23 h1
  obtain ⟨z2, e2, _, w2⟩ := DataW.trod_int Try.underlying23 h2
  obtain ⟨z3, e3, _, w3⟩ := DataW.trod_int Try.underlying23 h3
  simp at e0 e1 e2 e3
  obtain ⟨n1, rfl, g1⟩ := nat_u64 w1
  obtain ⟨n2, rfl, g2⟩ := nat_u64 w2
  obtain ⟨n3, rfl, g3⟩ := nat_u64 w3
  subst e0 e1 e2 e3
  exact ⟨z0, n1, n2, n3, rfl, w0, g1, g2, g3⟩
theorem open_queue {r : Reach} {b0 : Nat} {x : Value} {d : DataW H} {p : List MemPlace} (hv : Value.okWide Try.prog W r b0 27 x) (h : DataW.Trod enc Try.prog W 0 (fun _ => true) held 27 x d p) :
    ∃ (s : Int) (D A U : Nat) (rd : Bool) (fi ui : Int) (ev al : Bool), x = .agg #[.int .i64 s, .int .u64 (D : Int), .int .u64 (A : Int), .int .u64 (U : Int), .bool rd, .int .i64 fi, .int .i64 ui, .bool ev, .bool al] ∧ D < 18446744073709551616 ∧ A < 18446744073709551616 ∧ U < 18446744073709551616 := by
  obtain ⟨cs, rfl⟩ := open_agg Try.underlying27 hv
  obtain ⟨fuel, hf⟩ := h
  obtain ⟨xs, m, _, _, hl, hlen, hff⟩ := DataW.trod_struct Try.underlying27 hf
  rw [cellsQ] at hl
  obtain ⟨c0, c1, c2, c3, c4, c5, c6, c7, c8, hcs⟩ := list_nine _ hl
  simp only [Value.cells] at hcs hff
  rw [hcs] at hff
  obtain ⟨y0, y1, y2, y3, y4, y5, rfl⟩ := list_six xs hlen
  have h0 := hff 0 _ rfl
  have h1 := hff 1 _ rfl
  have h2 := hff 2 _ rfl
  have h3 := hff 3 _ rfl
  have h4 := hff 4 _ rfl
  have h5 := hff 5 _ rfl
  simp [cellsL17, cellsI17, cellsB17] at h0 h1 h2 h3 h4 h5
  obtain ⟨s, D, A, Uu, e0, _, hD, hA, hU⟩ := open_lays h0
  obtain ⟨z1, e1, _⟩ := DataW.trod_bool Try.underlying4 h1
  obtain ⟨z2, e2, _, w2⟩ := DataW.trod_int Try.underlying3 h2
  obtain ⟨z3, e3, _, w3⟩ := DataW.trod_int Try.underlying3 h3
  obtain ⟨z4, e4, _⟩ := DataW.trod_bool Try.underlying4 h4
  obtain ⟨z5, e5, _⟩ := DataW.trod_bool Try.underlying4 h5
  simp at e0 e1 e2 e3 e4 e5
  obtain ⟨rfl, rfl, rfl, rfl⟩ := e0
  subst e1 e2 e3 e4 e5
  refine ⟨s, D, A, Uu, z1, z2, z3, z4, z5, ?_, hD, hA, hU⟩
  cases cs; simp_all
end
end Go.Proofs.Ytmjdnocilbnoaaa

/- QueueWrites. -/
namespace Go.Proofs.Ytmjdnocilbnoaaa
open Go.RowKit Go.Maps
set_option linter.unusedVariables false
set_option linter.unusedSimpArgs false
set_option maxRecDepth 100000
theorem count_up (i : Nat) (h : i ≤ 100000) : wrap64 ((i : Int) + 1) = ((i + 1 : Nat) : Int) := by unfold wrap64; omega
/-- behind the service: the segments that were told, the used area, what differs -/
def Lw (W V : World) (ao : Nat) (va : Option Addr) (m vc : Nat) (ms : List Seg) (base ug n D A U : Nat) (ad : Option Addr) (L cd : Nat) (l : List (Nat × Nat)) (dB : Nat) : Prop := Below W.heap.size W V ∧ V.heap[ao]? = some (.cells #[.slice va m vc] 46 (0, 0)) ∧ SegIn base V (.slice va m vc) ms ∧ V.heap[ug]? = some (.cells #[.int .u64 (D : Int), .int .u64 (16 * (n : Int)), .int .u64 (A : Int), .int .u64 (6 + 2 * (n : Int)), .int .u64 (U : Int), .int .u64 (6 + 8 * (n : Int))] 48 (0, 0)) ∧ SpanIn dB V (.slice ad L cd) l
theorem Lw.below {W V V2 : World} {ao : Nat} {va : Option Addr} {m vc : Nat} {ms : List Seg} {base ug n D A U : Nat} {ad : Option Addr} {L cd : Nat} {l : List (Nat × Nat)} {dB : Nat} (h : Lw W V ao va m vc ms base ug n D A U ad L cd l dB) (hb : Below V.heap.size V V2) : Lw W V2 ao va m vc ms base ug n D A U ad L cd l dB := ⟨below_to h.1 hb, below_box h.2.1 hb, h.2.2.1.kept (fun g hg => hb.block g (h.2.2.1.lt g hg).2), below_box h.2.2.2.1 hb, h.2.2.2.2.kept (fun g hg => hb.block g (h.2.2.2.2.lt g hg).2)⟩

theorem less_one {i L : Nat} {v : Int} (h : v = ((i + 1 : Nat) : Int)) (hl : i < L) : L - (intOf (.int .i64 v)).toNat < L - (intOf (.int .i64 (i : Int))).toNat := by
  subst h
  simp [intOf]
  omega
end Go.Proofs.Ytmjdnocilbnoaaa
