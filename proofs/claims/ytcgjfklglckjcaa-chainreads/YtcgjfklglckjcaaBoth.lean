/- A memory and the document's one side by side: the calls at both, each with one answer. -/
import Derived.Test.YtcgjfklglckjcaaRefT
namespace Go.Proofs.Ytcgjfklglckjcaa
open Go.RowKit Go.Maps
set_option linter.unusedVariables false
def putB (x : Nat) (k : Int) (s : Nat) : Bool := widB k && inB x k 2147483648 s
theorem over_congr {M M' : Nat → Nat} (x L : Nat) (f : Nat → Nat) (h : ∀ a, M a = M' a) (a : Nat) : over M x L f a = over M' x L f a := by
  unfold over; rw [h a]
/-- the addresses of bytes lie in a memory of s bytes -/
def Rng (bs : Nat → Nat × Nat) (n s : Nat) : Prop := ∀ i, i < n → 2147483648 ≤ (bs i).1 ∧ (bs i).1 < 2147483648 + s
theorem rng_wrote {bs : Nat → Nat × Nat} {n s x L : Nat} {f : Nat → Nat} (h : Rng bs n s) (hin : inB x L 2147483648 s = true) : Rng (wrote bs n x f) (n + L) s := by
  intro i hi
  unfold wrote
  by_cases hin2 : i < n
  · rw [if_pos hin2]; exact h i hin2
  · rw [if_neg hin2]
    simp [inB] at hin
    simp only
    omega
theorem rwrite_any (F : Nat → Prop) (w : World) (s x L : Nat) (v d : Value) (n : Nat) (bs : Nat → Nat × Nat) (f : Nat → Nat) (h : RefIn F w v n bs) (hd : Reads .u8 w d L f) (hF : ∀ k, F k → k < w.heap.size) (hn : n ≤ 1000000) (hs : s ≤ 268435456) (hx : x < 18446744073709551616) (hL : L ≤ 1000) :
    Calls Try.prog 33 #[.agg #[.int .u64 (s : Nat), v], .int .u64 (x : Nat), d] w fun e w' => ∃ a' n' c' bs', e = .returned (.tuple #[.agg #[.int .u64 (s : Nat), .slice a' n' c'], .bool (inB x L 2147483648 s)]) ∧ n' ≤ n + L ∧ RefIn F w' (.slice a' n' c') n' bs' ∧ ((∀ a, rget bs' n' a = (if inB x L 2147483648 s = true then over (rget bs n) x L f else rget bs n) a) ∧ (Rng bs n s → Rng bs' n' s)) ∧ Below w.heap.size w w' := by
  obtain ⟨av, cv, rfl⟩ := h.form
  obtain ⟨ad, cd, rfl⟩ := reads_form hd
  cases hin : inB x L 2147483648 s with
  | false =>
    refine (rwrite_out w s x L av n cv ad cd (by omega) hx (by omega) hin).mono ?_
    rintro e w' ⟨rfl, hb⟩
    exact ⟨av, n, cv, bs, rfl, by omega, h.below hb, ⟨fun a => by simp, id⟩, hb⟩
  | true =>
    refine (rwrite_in F w s x L n _ _ bs f h hd hn hs hx (by omega) hin).mono ?_
    rintro e w' ⟨v', rfl, hr, hb⟩
    obtain ⟨a', c', rfl⟩ := hr.form
    refine ⟨a', n + L, c', _, rfl, by omega, hr.mono hF, ⟨fun a => ?_, fun hrg => rng_wrote hrg hin⟩, hb⟩
    rw [rget_wrote, if_pos rfl]
/-- the word that a load tells -/
def loadV (M : Nat → Nat) (x : Nat) (k : Int) (s : Nat) : Nat := if putB x k s = true then h256 (fun i => M (x + i)) k.toNat 0 else 0
theorem loadV_congr (M M' : Nat → Nat) (x : Nat) (k : Int) (s : Nat) (h : ∀ a, M a = M' a) : loadV M x k s = loadV M' x k s := by
  have : M = M' := funext h
  rw [this]
theorem read_any {w : World} {F : Nat → Prop} {rb size n : Nat} {M : Nat → Nat} (h : RamAt w F rb size n (.pointer none) M) (hs : size ≤ 268435456) (x L : Nat) (hx : x < 18446744073709551616) (hL : L < 18446744073709551616) :
    Calls Try.prog 46 #[.pointer (some ⟨rb, 0, none⟩), .int .u64 (x : Nat), .int .u64 (L : Nat)] w fun e w' => ∃ a c, e = .returned (.tuple #[.slice a (if inB x L 2147483648 size = true then L else 0) c, .bool (inB x L 2147483648 size)]) ∧ Reads .u8 w' (.slice a (if inB x L 2147483648 size = true then L else 0) c) (if inB x L 2147483648 size = true then L else 0) (fun i => M (x + i)) ∧ Below w.heap.size w w' := by
  cases hin : inB x L 2147483648 size with
  | false =>
    refine (read_out h hs x L hx hL hin).mono ?_
    rintro e w' ⟨rfl, rfl⟩
    exact ⟨none, 0, rfl, .inl ⟨rfl, _, _, rfl⟩, Below.refl _ _⟩
  | true =>
    refine (read_in h hs x L hx hL hin).mono ?_
    rintro e w' ⟨rfl, hown, hb⟩
    exact ⟨_, L, rfl, reads_own hown, hb⟩
theorem rread_any (F : Nat → Prop) (w : World) (s x L n : Nat) (v : Value) (bs : Nat → Nat × Nat) (h : RefIn F w v n bs) (hn : n ≤ 1000000) (hs : s ≤ 268435456) (hx : x < 18446744073709551616) (hL : L < 18446744073709551616) :
    Calls Try.prog 75 #[.agg #[.int .u64 (s : Nat), v], .int .u64 (x : Nat), .int .u64 (L : Nat)] w fun e w' => ∃ a c, e = .returned (.tuple #[.slice a (if inB x L 2147483648 s = true then L else 0) c, .bool (inB x L 2147483648 s)]) ∧ Reads .u8 w' (.slice a (if inB x L 2147483648 s = true then L else 0) c) (if inB x L 2147483648 s = true then L else 0) (fun i => rget bs n (x + i)) ∧ Below w.heap.size w w' := by
  cases hin : inB x L 2147483648 s with
  | false =>
    refine (rread_out F w s x L v (by omega) hx hL hin).mono ?_
    rintro e w' ⟨rfl, hb⟩
    exact ⟨none, 0, rfl, .inl ⟨rfl, _, _, rfl⟩, hb⟩
  | true =>
    refine (rread_in F w s x L n v bs h hn hs hx hL hin).mono ?_
    rintro e w' ⟨g, rfl, hown, hb⟩
    exact ⟨_, L, rfl, reads_own hown, hb⟩
/-- A MEMORY AND THE DOCUMENT's ONE HOLD THE SAME BYTES. -/
def Both (F : Nat → Prop) (w : World) (rb s : Nat) (v : Value) (n : Nat) (M : Nat → Nat) : Prop :=
  RamAt w F rb s n (.pointer none) M ∧ ∃ nb bs, nb ≤ n ∧ (∃ a c, v = .slice a nb c) ∧ RefIn F w v nb bs ∧ (∀ a, rget bs nb a = M a) ∧ Rng bs nb s
theorem Both.below {F : Nat → Prop} {w w' : World} {rb s : Nat} {v : Value} {n : Nat} {M : Nat → Nat} (h : Both F w rb s v n M) (hb : Below w.heap.size w w') : Both F w' rb s v n M := by
  obtain ⟨h1, nb, bs, h2, h3, h4, h5⟩ := h
  exact ⟨h1.below hb, nb, bs, h2, h3, h4.below hb, h5⟩
end Go.Proofs.Ytcgjfklglckjcaa
