/- What CsrBeside needs of numbers. -/
import Derived.Test.YtebdlefdkadhnabDoorWr
import Derived.Test.YtebdlefdkadhnabDoorRd
import Derived.Test.YtebdlefdkadhnabDoorDWr
namespace Go.Proofs.YtebdlefdkadhnabDoor
open Go.RowKit Go.Maps
set_option linter.unusedVariables false
set_option linter.unusedSimpArgs false
set_option maxRecDepth 100000
theorem rb_773 (K : Nat → Nat) (y : Nat) (n : Int) (h : n ≠ 773) : readN (upd K 6 y) n = readN K n := by
  unfold readN
  by_cases h768 : n = 768
  · rw [if_pos h768, if_pos h768]; rfl
  rw [if_neg h768, if_neg h768]
  by_cases h256 : n = 256
  · rw [if_pos h256, if_pos h256]; rfl
  rw [if_neg h256, if_neg h256]
  by_cases h769 : n = 769
  · rw [if_pos h769, if_pos h769]
  rw [if_neg h769, if_neg h769]
  by_cases h770 : n = 770
  · rw [if_pos h770, if_pos h770]; rfl
  rw [if_neg h770, if_neg h770]
  by_cases h771 : n = 771
  · rw [if_pos h771, if_pos h771]; rfl
  rw [if_neg h771, if_neg h771]
  by_cases h772 : n = 772
  · rw [if_pos h772, if_pos h772]; rfl
  rw [if_neg h772, if_neg h772]
  by_cases h260 : n = 260
  · rw [if_pos h260, if_pos h260]; rfl
  rw [if_neg h260, if_neg h260]
  by_cases h836 : n = 836
  · rw [if_pos h836, if_pos h836]; rfl
  rw [if_neg h836, if_neg h836]
  by_cases h324 : n = 324
  · rw [if_pos h324, if_pos h324]; rfl
  rw [if_neg h324, if_neg h324]
  rw [if_neg h, if_neg h]
  by_cases h261 : n = 261
  · rw [if_pos h261, if_pos h261]; rfl
  rw [if_neg h261, if_neg h261]
  by_cases h774 : n = 774
  · rw [if_pos h774, if_pos h774]; rfl
  rw [if_neg h774, if_neg h774]
  by_cases h262 : n = 262
  · rw [if_pos h262, if_pos h262]; rfl
  rw [if_neg h262, if_neg h262]
  by_cases h832 : n = 832
  · rw [if_pos h832, if_pos h832]; rfl
  rw [if_neg h832, if_neg h832]
  by_cases h320 : n = 320
  · rw [if_pos h320, if_pos h320]; rfl
  rw [if_neg h320, if_neg h320]
  by_cases h834 : n = 834
  · rw [if_pos h834, if_pos h834]; rfl
  rw [if_neg h834, if_neg h834]
  by_cases h322 : n = 322
  · rw [if_pos h322, if_pos h322]; rfl
  rw [if_neg h322, if_neg h322]
  by_cases h835 : n = 835
  · rw [if_pos h835, if_pos h835]; rfl
  rw [if_neg h835, if_neg h835]
  by_cases h323 : n = 323
  · rw [if_pos h323, if_pos h323]; rfl
  rw [if_neg h323, if_neg h323]
  by_cases h833 : n = 833
  · rw [if_pos h833, if_pos h833]; rfl
  rw [if_neg h833, if_neg h833]
  by_cases h321 : n = 321
  · rw [if_pos h321, if_pos h321]; rfl
  rw [if_neg h321, if_neg h321]
  by_cases h384 : n = 384
  · rw [if_pos h384, if_pos h384]; rfl
  rw [if_neg h384, if_neg h384]
  by_cases h2816 : n = 2816
  · rw [if_pos h2816, if_pos h2816]; rfl
  rw [if_neg h2816, if_neg h2816]
  by_cases h3072 : n = 3072
  · rw [if_pos h3072, if_pos h3072]; rfl
  rw [if_neg h3072, if_neg h3072]
  by_cases h2818 : n = 2818
  · rw [if_pos h2818, if_pos h2818]; rfl
  rw [if_neg h2818, if_neg h2818]
  by_cases h3074 : n = 3074
  · rw [if_pos h3074, if_pos h3074]; rfl
  rw [if_neg h3074, if_neg h3074]
  by_cases h3073 : n = 3073
  · rw [if_pos h3073, if_pos h3073]; rfl
  rw [if_neg h3073, if_neg h3073]
theorem rb_261 (K : Nat → Nat) (y : Nat) (n : Int) (h : n ≠ 261) : readN (upd K 12 y) n = readN K n := by
  unfold readN
  by_cases h768 : n = 768
  · rw [if_pos h768, if_pos h768]; rfl
  rw [if_neg h768, if_neg h768]
  by_cases h256 : n = 256
  · rw [if_pos h256, if_pos h256]; rfl
  rw [if_neg h256, if_neg h256]
  by_cases h769 : n = 769
  · rw [if_pos h769, if_pos h769]
  rw [if_neg h769, if_neg h769]
  by_cases h770 : n = 770
  · rw [if_pos h770, if_pos h770]; rfl
  rw [if_neg h770, if_neg h770]
  by_cases h771 : n = 771
  · rw [if_pos h771, if_pos h771]; rfl
  rw [if_neg h771, if_neg h771]
  by_cases h772 : n = 772
  · rw [if_pos h772, if_pos h772]; rfl
  rw [if_neg h772, if_neg h772]
  by_cases h260 : n = 260
  · rw [if_pos h260, if_pos h260]; rfl
  rw [if_neg h260, if_neg h260]
  by_cases h836 : n = 836
  · rw [if_pos h836, if_pos h836]; rfl
  rw [if_neg h836, if_neg h836]
  by_cases h324 : n = 324
  · rw [if_pos h324, if_pos h324]; rfl
  rw [if_neg h324, if_neg h324]
  by_cases h773 : n = 773
  · rw [if_pos h773, if_pos h773]; rfl
  rw [if_neg h773, if_neg h773]
  rw [if_neg h, if_neg h]
  by_cases h774 : n = 774
  · rw [if_pos h774, if_pos h774]; rfl
  rw [if_neg h774, if_neg h774]
  by_cases h262 : n = 262
  · rw [if_pos h262, if_pos h262]; rfl
  rw [if_neg h262, if_neg h262]
  by_cases h832 : n = 832
  · rw [if_pos h832, if_pos h832]; rfl
  rw [if_neg h832, if_neg h832]
  by_cases h320 : n = 320
  · rw [if_pos h320, if_pos h320]; rfl
  rw [if_neg h320, if_neg h320]
  by_cases h834 : n = 834
  · rw [if_pos h834, if_pos h834]; rfl
  rw [if_neg h834, if_neg h834]
  by_cases h322 : n = 322
  · rw [if_pos h322, if_pos h322]; rfl
  rw [if_neg h322, if_neg h322]
  by_cases h835 : n = 835
  · rw [if_pos h835, if_pos h835]; rfl
  rw [if_neg h835, if_neg h835]
  by_cases h323 : n = 323
  · rw [if_pos h323, if_pos h323]; rfl
  rw [if_neg h323, if_neg h323]
  by_cases h833 : n = 833
  · rw [if_pos h833, if_pos h833]; rfl
  rw [if_neg h833, if_neg h833]
  by_cases h321 : n = 321
  · rw [if_pos h321, if_pos h321]; rfl
  rw [if_neg h321, if_neg h321]
  by_cases h384 : n = 384
  · rw [if_pos h384, if_pos h384]; rfl
  rw [if_neg h384, if_neg h384]
  by_cases h2816 : n = 2816
  · rw [if_pos h2816, if_pos h2816]; rfl
  rw [if_neg h2816, if_neg h2816]
  by_cases h3072 : n = 3072
  · rw [if_pos h3072, if_pos h3072]; rfl
  rw [if_neg h3072, if_neg h3072]
  by_cases h2818 : n = 2818
  · rw [if_pos h2818, if_pos h2818]; rfl
  rw [if_neg h2818, if_neg h2818]
  by_cases h3074 : n = 3074
  · rw [if_pos h3074, if_pos h3074]; rfl
  rw [if_neg h3074, if_neg h3074]
  by_cases h3073 : n = 3073
  · rw [if_pos h3073, if_pos h3073]; rfl
  rw [if_neg h3073, if_neg h3073]
theorem rb_774 (K : Nat → Nat) (y : Nat) (n : Int) (h : n ≠ 774) : readN (upd K 7 y) n = readN K n := by
  unfold readN
  by_cases h768 : n = 768
  · rw [if_pos h768, if_pos h768]; rfl
  rw [if_neg h768, if_neg h768]
  by_cases h256 : n = 256
  · rw [if_pos h256, if_pos h256]; rfl
  rw [if_neg h256, if_neg h256]
  by_cases h769 : n = 769
  · rw [if_pos h769, if_pos h769]
  rw [if_neg h769, if_neg h769]
  by_cases h770 : n = 770
  · rw [if_pos h770, if_pos h770]; rfl
  rw [if_neg h770, if_neg h770]
  by_cases h771 : n = 771
  · rw [if_pos h771, if_pos h771]; rfl
  rw [if_neg h771, if_neg h771]
  by_cases h772 : n = 772
  · rw [if_pos h772, if_pos h772]; rfl
  rw [if_neg h772, if_neg h772]
  by_cases h260 : n = 260
  · rw [if_pos h260, if_pos h260]; rfl
  rw [if_neg h260, if_neg h260]
  by_cases h836 : n = 836
  · rw [if_pos h836, if_pos h836]; rfl
  rw [if_neg h836, if_neg h836]
  by_cases h324 : n = 324
  · rw [if_pos h324, if_pos h324]; rfl
  rw [if_neg h324, if_neg h324]
  by_cases h773 : n = 773
  · rw [if_pos h773, if_pos h773]; rfl
  rw [if_neg h773, if_neg h773]
  by_cases h261 : n = 261
  · rw [if_pos h261, if_pos h261]; rfl
  rw [if_neg h261, if_neg h261]
  rw [if_neg h, if_neg h]
  by_cases h262 : n = 262
  · rw [if_pos h262, if_pos h262]; rfl
  rw [if_neg h262, if_neg h262]
  by_cases h832 : n = 832
  · rw [if_pos h832, if_pos h832]; rfl
  rw [if_neg h832, if_neg h832]
  by_cases h320 : n = 320
  · rw [if_pos h320, if_pos h320]; rfl
  rw [if_neg h320, if_neg h320]
  by_cases h834 : n = 834
  · rw [if_pos h834, if_pos h834]; rfl
  rw [if_neg h834, if_neg h834]
  by_cases h322 : n = 322
  · rw [if_pos h322, if_pos h322]; rfl
  rw [if_neg h322, if_neg h322]
  by_cases h835 : n = 835
  · rw [if_pos h835, if_pos h835]; rfl
  rw [if_neg h835, if_neg h835]
  by_cases h323 : n = 323
  · rw [if_pos h323, if_pos h323]; rfl
  rw [if_neg h323, if_neg h323]
  by_cases h833 : n = 833
  · rw [if_pos h833, if_pos h833]; rfl
  rw [if_neg h833, if_neg h833]
  by_cases h321 : n = 321
  · rw [if_pos h321, if_pos h321]; rfl
  rw [if_neg h321, if_neg h321]
  by_cases h384 : n = 384
  · rw [if_pos h384, if_pos h384]; rfl
  rw [if_neg h384, if_neg h384]
  by_cases h2816 : n = 2816
  · rw [if_pos h2816, if_pos h2816]; rfl
  rw [if_neg h2816, if_neg h2816]
  by_cases h3072 : n = 3072
  · rw [if_pos h3072, if_pos h3072]; rfl
  rw [if_neg h3072, if_neg h3072]
  by_cases h2818 : n = 2818
  · rw [if_pos h2818, if_pos h2818]; rfl
  rw [if_neg h2818, if_neg h2818]
  by_cases h3074 : n = 3074
  · rw [if_pos h3074, if_pos h3074]; rfl
  rw [if_neg h3074, if_neg h3074]
  by_cases h3073 : n = 3073
  · rw [if_pos h3073, if_pos h3073]; rfl
  rw [if_neg h3073, if_neg h3073]
theorem rb_262 (K : Nat → Nat) (y : Nat) (n : Int) (h : n ≠ 262) : readN (upd K 13 y) n = readN K n := by
  unfold readN
  by_cases h768 : n = 768
  · rw [if_pos h768, if_pos h768]; rfl
  rw [if_neg h768, if_neg h768]
  by_cases h256 : n = 256
  · rw [if_pos h256, if_pos h256]; rfl
  rw [if_neg h256, if_neg h256]
  by_cases h769 : n = 769
  · rw [if_pos h769, if_pos h769]
  rw [if_neg h769, if_neg h769]
  by_cases h770 : n = 770
  · rw [if_pos h770, if_pos h770]; rfl
  rw [if_neg h770, if_neg h770]
  by_cases h771 : n = 771
  · rw [if_pos h771, if_pos h771]; rfl
  rw [if_neg h771, if_neg h771]
  by_cases h772 : n = 772
  · rw [if_pos h772, if_pos h772]; rfl
  rw [if_neg h772, if_neg h772]
  by_cases h260 : n = 260
  · rw [if_pos h260, if_pos h260]; rfl
  rw [if_neg h260, if_neg h260]
  by_cases h836 : n = 836
  · rw [if_pos h836, if_pos h836]; rfl
  rw [if_neg h836, if_neg h836]
  by_cases h324 : n = 324
  · rw [if_pos h324, if_pos h324]; rfl
  rw [if_neg h324, if_neg h324]
  by_cases h773 : n = 773
  · rw [if_pos h773, if_pos h773]; rfl
  rw [if_neg h773, if_neg h773]
  by_cases h261 : n = 261
  · rw [if_pos h261, if_pos h261]; rfl
  rw [if_neg h261, if_neg h261]
  by_cases h774 : n = 774
  · rw [if_pos h774, if_pos h774]; rfl
  rw [if_neg h774, if_neg h774]
  rw [if_neg h, if_neg h]
  by_cases h832 : n = 832
  · rw [if_pos h832, if_pos h832]; rfl
  rw [if_neg h832, if_neg h832]
  by_cases h320 : n = 320
  · rw [if_pos h320, if_pos h320]; rfl
  rw [if_neg h320, if_neg h320]
  by_cases h834 : n = 834
  · rw [if_pos h834, if_pos h834]; rfl
  rw [if_neg h834, if_neg h834]
  by_cases h322 : n = 322
  · rw [if_pos h322, if_pos h322]; rfl
  rw [if_neg h322, if_neg h322]
  by_cases h835 : n = 835
  · rw [if_pos h835, if_pos h835]; rfl
  rw [if_neg h835, if_neg h835]
  by_cases h323 : n = 323
  · rw [if_pos h323, if_pos h323]; rfl
  rw [if_neg h323, if_neg h323]
  by_cases h833 : n = 833
  · rw [if_pos h833, if_pos h833]; rfl
  rw [if_neg h833, if_neg h833]
  by_cases h321 : n = 321
  · rw [if_pos h321, if_pos h321]; rfl
  rw [if_neg h321, if_neg h321]
  by_cases h384 : n = 384
  · rw [if_pos h384, if_pos h384]; rfl
  rw [if_neg h384, if_neg h384]
  by_cases h2816 : n = 2816
  · rw [if_pos h2816, if_pos h2816]; rfl
  rw [if_neg h2816, if_neg h2816]
  by_cases h3072 : n = 3072
  · rw [if_pos h3072, if_pos h3072]; rfl
  rw [if_neg h3072, if_neg h3072]
  by_cases h2818 : n = 2818
  · rw [if_pos h2818, if_pos h2818]; rfl
  rw [if_neg h2818, if_neg h2818]
  by_cases h3074 : n = 3074
  · rw [if_pos h3074, if_pos h3074]; rfl
  rw [if_neg h3074, if_neg h3074]
  by_cases h3073 : n = 3073
  · rw [if_pos h3073, if_pos h3073]; rfl
  rw [if_neg h3073, if_neg h3073]
theorem rb_832 (K : Nat → Nat) (y : Nat) (n : Int) (h : n ≠ 832) : readN (upd K 8 y) n = readN K n := by
  unfold readN
  by_cases h768 : n = 768
  · rw [if_pos h768, if_pos h768]; rfl
  rw [if_neg h768, if_neg h768]
  by_cases h256 : n = 256
  · rw [if_pos h256, if_pos h256]; rfl
  rw [if_neg h256, if_neg h256]
  by_cases h769 : n = 769
  · rw [if_pos h769, if_pos h769]
  rw [if_neg h769, if_neg h769]
  by_cases h770 : n = 770
  · rw [if_pos h770, if_pos h770]; rfl
  rw [if_neg h770, if_neg h770]
  by_cases h771 : n = 771
  · rw [if_pos h771, if_pos h771]; rfl
  rw [if_neg h771, if_neg h771]
  by_cases h772 : n = 772
  · rw [if_pos h772, if_pos h772]; rfl
  rw [if_neg h772, if_neg h772]
  by_cases h260 : n = 260
  · rw [if_pos h260, if_pos h260]; rfl
  rw [if_neg h260, if_neg h260]
  by_cases h836 : n = 836
  · rw [if_pos h836, if_pos h836]; rfl
  rw [if_neg h836, if_neg h836]
  by_cases h324 : n = 324
  · rw [if_pos h324, if_pos h324]; rfl
  rw [if_neg h324, if_neg h324]
  by_cases h773 : n = 773
  · rw [if_pos h773, if_pos h773]; rfl
  rw [if_neg h773, if_neg h773]
  by_cases h261 : n = 261
  · rw [if_pos h261, if_pos h261]; rfl
  rw [if_neg h261, if_neg h261]
  by_cases h774 : n = 774
  · rw [if_pos h774, if_pos h774]; rfl
  rw [if_neg h774, if_neg h774]
  by_cases h262 : n = 262
  · rw [if_pos h262, if_pos h262]; rfl
  rw [if_neg h262, if_neg h262]
  rw [if_neg h, if_neg h]
  by_cases h320 : n = 320
  · rw [if_pos h320, if_pos h320]; rfl
  rw [if_neg h320, if_neg h320]
  by_cases h834 : n = 834
  · rw [if_pos h834, if_pos h834]; rfl
  rw [if_neg h834, if_neg h834]
  by_cases h322 : n = 322
  · rw [if_pos h322, if_pos h322]; rfl
  rw [if_neg h322, if_neg h322]
  by_cases h835 : n = 835
  · rw [if_pos h835, if_pos h835]; rfl
  rw [if_neg h835, if_neg h835]
  by_cases h323 : n = 323
  · rw [if_pos h323, if_pos h323]; rfl
  rw [if_neg h323, if_neg h323]
  by_cases h833 : n = 833
  · rw [if_pos h833, if_pos h833]; rfl
  rw [if_neg h833, if_neg h833]
  by_cases h321 : n = 321
  · rw [if_pos h321, if_pos h321]; rfl
  rw [if_neg h321, if_neg h321]
  by_cases h384 : n = 384
  · rw [if_pos h384, if_pos h384]; rfl
  rw [if_neg h384, if_neg h384]
  by_cases h2816 : n = 2816
  · rw [if_pos h2816, if_pos h2816]; rfl
  rw [if_neg h2816, if_neg h2816]
  by_cases h3072 : n = 3072
  · rw [if_pos h3072, if_pos h3072]; rfl
  rw [if_neg h3072, if_neg h3072]
  by_cases h2818 : n = 2818
  · rw [if_pos h2818, if_pos h2818]; rfl
  rw [if_neg h2818, if_neg h2818]
  by_cases h3074 : n = 3074
  · rw [if_pos h3074, if_pos h3074]; rfl
  rw [if_neg h3074, if_neg h3074]
  by_cases h3073 : n = 3073
  · rw [if_pos h3073, if_pos h3073]; rfl
  rw [if_neg h3073, if_neg h3073]
theorem rb_320 (K : Nat → Nat) (y : Nat) (n : Int) (h : n ≠ 320) : readN (upd K 14 y) n = readN K n := by
  unfold readN
  by_cases h768 : n = 768
  · rw [if_pos h768, if_pos h768]; rfl
  rw [if_neg h768, if_neg h768]
  by_cases h256 : n = 256
  · rw [if_pos h256, if_pos h256]; rfl
  rw [if_neg h256, if_neg h256]
  by_cases h769 : n = 769
  · rw [if_pos h769, if_pos h769]
  rw [if_neg h769, if_neg h769]
  by_cases h770 : n = 770
  · rw [if_pos h770, if_pos h770]; rfl
  rw [if_neg h770, if_neg h770]
  by_cases h771 : n = 771
  · rw [if_pos h771, if_pos h771]; rfl
  rw [if_neg h771, if_neg h771]
  by_cases h772 : n = 772
  · rw [if_pos h772, if_pos h772]; rfl
  rw [if_neg h772, if_neg h772]
  by_cases h260 : n = 260
  · rw [if_pos h260, if_pos h260]; rfl
  rw [if_neg h260, if_neg h260]
  by_cases h836 : n = 836
  · rw [if_pos h836, if_pos h836]; rfl
  rw [if_neg h836, if_neg h836]
  by_cases h324 : n = 324
  · rw [if_pos h324, if_pos h324]; rfl
  rw [if_neg h324, if_neg h324]
  by_cases h773 : n = 773
  · rw [if_pos h773, if_pos h773]; rfl
  rw [if_neg h773, if_neg h773]
  by_cases h261 : n = 261
  · rw [if_pos h261, if_pos h261]; rfl
  rw [if_neg h261, if_neg h261]
  by_cases h774 : n = 774
  · rw [if_pos h774, if_pos h774]; rfl
  rw [if_neg h774, if_neg h774]
  by_cases h262 : n = 262
  · rw [if_pos h262, if_pos h262]; rfl
  rw [if_neg h262, if_neg h262]
  by_cases h832 : n = 832
  · rw [if_pos h832, if_pos h832]; rfl
  rw [if_neg h832, if_neg h832]
  rw [if_neg h, if_neg h]
  by_cases h834 : n = 834
  · rw [if_pos h834, if_pos h834]; rfl
  rw [if_neg h834, if_neg h834]
  by_cases h322 : n = 322
  · rw [if_pos h322, if_pos h322]; rfl
  rw [if_neg h322, if_neg h322]
  by_cases h835 : n = 835
  · rw [if_pos h835, if_pos h835]; rfl
  rw [if_neg h835, if_neg h835]
  by_cases h323 : n = 323
  · rw [if_pos h323, if_pos h323]; rfl
  rw [if_neg h323, if_neg h323]
  by_cases h833 : n = 833
  · rw [if_pos h833, if_pos h833]; rfl
  rw [if_neg h833, if_neg h833]
  by_cases h321 : n = 321
  · rw [if_pos h321, if_pos h321]; rfl
  rw [if_neg h321, if_neg h321]
  by_cases h384 : n = 384
  · rw [if_pos h384, if_pos h384]; rfl
  rw [if_neg h384, if_neg h384]
  by_cases h2816 : n = 2816
  · rw [if_pos h2816, if_pos h2816]; rfl
  rw [if_neg h2816, if_neg h2816]
  by_cases h3072 : n = 3072
  · rw [if_pos h3072, if_pos h3072]; rfl
  rw [if_neg h3072, if_neg h3072]
  by_cases h2818 : n = 2818
  · rw [if_pos h2818, if_pos h2818]; rfl
  rw [if_neg h2818, if_neg h2818]
  by_cases h3074 : n = 3074
  · rw [if_pos h3074, if_pos h3074]; rfl
  rw [if_neg h3074, if_neg h3074]
  by_cases h3073 : n = 3073
  · rw [if_pos h3073, if_pos h3073]; rfl
  rw [if_neg h3073, if_neg h3073]
theorem rb_834 (K : Nat → Nat) (y : Nat) (n : Int) (h : n ≠ 834) : readN (upd K 10 y) n = readN K n := by
  unfold readN
  by_cases h768 : n = 768
  · rw [if_pos h768, if_pos h768]; rfl
  rw [if_neg h768, if_neg h768]
  by_cases h256 : n = 256
  · rw [if_pos h256, if_pos h256]; rfl
  rw [if_neg h256, if_neg h256]
  by_cases h769 : n = 769
  · rw [if_pos h769, if_pos h769]
  rw [if_neg h769, if_neg h769]
  by_cases h770 : n = 770
  · rw [if_pos h770, if_pos h770]; rfl
  rw [if_neg h770, if_neg h770]
  by_cases h771 : n = 771
  · rw [if_pos h771, if_pos h771]; rfl
  rw [if_neg h771, if_neg h771]
  by_cases h772 : n = 772
  · rw [if_pos h772, if_pos h772]; rfl
  rw [if_neg h772, if_neg h772]
  by_cases h260 : n = 260
  · rw [if_pos h260, if_pos h260]; rfl
  rw [if_neg h260, if_neg h260]
  by_cases h836 : n = 836
  · rw [if_pos h836, if_pos h836]; rfl
  rw [if_neg h836, if_neg h836]
  by_cases h324 : n = 324
  · rw [if_pos h324, if_pos h324]; rfl
  rw [if_neg h324, if_neg h324]
  by_cases h773 : n = 773
  · rw [if_pos h773, if_pos h773]; rfl
  rw [if_neg h773, if_neg h773]
  by_cases h261 : n = 261
  · rw [if_pos h261, if_pos h261]; rfl
  rw [if_neg h261, if_neg h261]
  by_cases h774 : n = 774
  · rw [if_pos h774, if_pos h774]; rfl
  rw [if_neg h774, if_neg h774]
  by_cases h262 : n = 262
  · rw [if_pos h262, if_pos h262]; rfl
  rw [if_neg h262, if_neg h262]
  by_cases h832 : n = 832
  · rw [if_pos h832, if_pos h832]; rfl
  rw [if_neg h832, if_neg h832]
  by_cases h320 : n = 320
  · rw [if_pos h320, if_pos h320]; rfl
  rw [if_neg h320, if_neg h320]
  rw [if_neg h, if_neg h]
  by_cases h322 : n = 322
  · rw [if_pos h322, if_pos h322]; rfl
  rw [if_neg h322, if_neg h322]
  by_cases h835 : n = 835
  · rw [if_pos h835, if_pos h835]; rfl
  rw [if_neg h835, if_neg h835]
  by_cases h323 : n = 323
  · rw [if_pos h323, if_pos h323]; rfl
  rw [if_neg h323, if_neg h323]
  by_cases h833 : n = 833
  · rw [if_pos h833, if_pos h833]; rfl
  rw [if_neg h833, if_neg h833]
  by_cases h321 : n = 321
  · rw [if_pos h321, if_pos h321]; rfl
  rw [if_neg h321, if_neg h321]
  by_cases h384 : n = 384
  · rw [if_pos h384, if_pos h384]; rfl
  rw [if_neg h384, if_neg h384]
  by_cases h2816 : n = 2816
  · rw [if_pos h2816, if_pos h2816]; rfl
  rw [if_neg h2816, if_neg h2816]
  by_cases h3072 : n = 3072
  · rw [if_pos h3072, if_pos h3072]; rfl
  rw [if_neg h3072, if_neg h3072]
  by_cases h2818 : n = 2818
  · rw [if_pos h2818, if_pos h2818]; rfl
  rw [if_neg h2818, if_neg h2818]
  by_cases h3074 : n = 3074
  · rw [if_pos h3074, if_pos h3074]; rfl
  rw [if_neg h3074, if_neg h3074]
  by_cases h3073 : n = 3073
  · rw [if_pos h3073, if_pos h3073]; rfl
  rw [if_neg h3073, if_neg h3073]
theorem rb_322 (K : Nat → Nat) (y : Nat) (n : Int) (h : n ≠ 322) : readN (upd K 16 y) n = readN K n := by
  unfold readN
  by_cases h768 : n = 768
  · rw [if_pos h768, if_pos h768]; rfl
  rw [if_neg h768, if_neg h768]
  by_cases h256 : n = 256
  · rw [if_pos h256, if_pos h256]; rfl
  rw [if_neg h256, if_neg h256]
  by_cases h769 : n = 769
  · rw [if_pos h769, if_pos h769]
  rw [if_neg h769, if_neg h769]
  by_cases h770 : n = 770
  · rw [if_pos h770, if_pos h770]; rfl
  rw [if_neg h770, if_neg h770]
  by_cases h771 : n = 771
  · rw [if_pos h771, if_pos h771]; rfl
  rw [if_neg h771, if_neg h771]
  by_cases h772 : n = 772
  · rw [if_pos h772, if_pos h772]; rfl
  rw [if_neg h772, if_neg h772]
  by_cases h260 : n = 260
  · rw [if_pos h260, if_pos h260]; rfl
  rw [if_neg h260, if_neg h260]
  by_cases h836 : n = 836
  · rw [if_pos h836, if_pos h836]; rfl
  rw [if_neg h836, if_neg h836]
  by_cases h324 : n = 324
  · rw [if_pos h324, if_pos h324]; rfl
  rw [if_neg h324, if_neg h324]
  by_cases h773 : n = 773
  · rw [if_pos h773, if_pos h773]; rfl
  rw [if_neg h773, if_neg h773]
  by_cases h261 : n = 261
  · rw [if_pos h261, if_pos h261]; rfl
  rw [if_neg h261, if_neg h261]
  by_cases h774 : n = 774
  · rw [if_pos h774, if_pos h774]; rfl
  rw [if_neg h774, if_neg h774]
  by_cases h262 : n = 262
  · rw [if_pos h262, if_pos h262]; rfl
  rw [if_neg h262, if_neg h262]
  by_cases h832 : n = 832
  · rw [if_pos h832, if_pos h832]; rfl
  rw [if_neg h832, if_neg h832]
  by_cases h320 : n = 320
  · rw [if_pos h320, if_pos h320]; rfl
  rw [if_neg h320, if_neg h320]
  by_cases h834 : n = 834
  · rw [if_pos h834, if_pos h834]; rfl
  rw [if_neg h834, if_neg h834]
  rw [if_neg h, if_neg h]
  by_cases h835 : n = 835
  · rw [if_pos h835, if_pos h835]; rfl
  rw [if_neg h835, if_neg h835]
  by_cases h323 : n = 323
  · rw [if_pos h323, if_pos h323]; rfl
  rw [if_neg h323, if_neg h323]
  by_cases h833 : n = 833
  · rw [if_pos h833, if_pos h833]; rfl
  rw [if_neg h833, if_neg h833]
  by_cases h321 : n = 321
  · rw [if_pos h321, if_pos h321]; rfl
  rw [if_neg h321, if_neg h321]
  by_cases h384 : n = 384
  · rw [if_pos h384, if_pos h384]; rfl
  rw [if_neg h384, if_neg h384]
  by_cases h2816 : n = 2816
  · rw [if_pos h2816, if_pos h2816]; rfl
  rw [if_neg h2816, if_neg h2816]
  by_cases h3072 : n = 3072
  · rw [if_pos h3072, if_pos h3072]; rfl
  rw [if_neg h3072, if_neg h3072]
  by_cases h2818 : n = 2818
  · rw [if_pos h2818, if_pos h2818]; rfl
  rw [if_neg h2818, if_neg h2818]
  by_cases h3074 : n = 3074
  · rw [if_pos h3074, if_pos h3074]; rfl
  rw [if_neg h3074, if_neg h3074]
  by_cases h3073 : n = 3073
  · rw [if_pos h3073, if_pos h3073]; rfl
  rw [if_neg h3073, if_neg h3073]
theorem rb_835 (K : Nat → Nat) (y : Nat) (n : Int) (h : n ≠ 835) : readN (upd K 11 y) n = readN K n := by
  unfold readN
  by_cases h768 : n = 768
  · rw [if_pos h768, if_pos h768]; rfl
  rw [if_neg h768, if_neg h768]
  by_cases h256 : n = 256
  · rw [if_pos h256, if_pos h256]; rfl
  rw [if_neg h256, if_neg h256]
  by_cases h769 : n = 769
  · rw [if_pos h769, if_pos h769]
  rw [if_neg h769, if_neg h769]
  by_cases h770 : n = 770
  · rw [if_pos h770, if_pos h770]; rfl
  rw [if_neg h770, if_neg h770]
  by_cases h771 : n = 771
  · rw [if_pos h771, if_pos h771]; rfl
  rw [if_neg h771, if_neg h771]
  by_cases h772 : n = 772
  · rw [if_pos h772, if_pos h772]; rfl
  rw [if_neg h772, if_neg h772]
  by_cases h260 : n = 260
  · rw [if_pos h260, if_pos h260]; rfl
  rw [if_neg h260, if_neg h260]
  by_cases h836 : n = 836
  · rw [if_pos h836, if_pos h836]; rfl
  rw [if_neg h836, if_neg h836]
  by_cases h324 : n = 324
  · rw [if_pos h324, if_pos h324]; rfl
  rw [if_neg h324, if_neg h324]
  by_cases h773 : n = 773
  · rw [if_pos h773, if_pos h773]; rfl
  rw [if_neg h773, if_neg h773]
  by_cases h261 : n = 261
  · rw [if_pos h261, if_pos h261]; rfl
  rw [if_neg h261, if_neg h261]
  by_cases h774 : n = 774
  · rw [if_pos h774, if_pos h774]; rfl
  rw [if_neg h774, if_neg h774]
  by_cases h262 : n = 262
  · rw [if_pos h262, if_pos h262]; rfl
  rw [if_neg h262, if_neg h262]
  by_cases h832 : n = 832
  · rw [if_pos h832, if_pos h832]; rfl
  rw [if_neg h832, if_neg h832]
  by_cases h320 : n = 320
  · rw [if_pos h320, if_pos h320]; rfl
  rw [if_neg h320, if_neg h320]
  by_cases h834 : n = 834
  · rw [if_pos h834, if_pos h834]; rfl
  rw [if_neg h834, if_neg h834]
  by_cases h322 : n = 322
  · rw [if_pos h322, if_pos h322]; rfl
  rw [if_neg h322, if_neg h322]
  rw [if_neg h, if_neg h]
  by_cases h323 : n = 323
  · rw [if_pos h323, if_pos h323]; rfl
  rw [if_neg h323, if_neg h323]
  by_cases h833 : n = 833
  · rw [if_pos h833, if_pos h833]; rfl
  rw [if_neg h833, if_neg h833]
  by_cases h321 : n = 321
  · rw [if_pos h321, if_pos h321]; rfl
  rw [if_neg h321, if_neg h321]
  by_cases h384 : n = 384
  · rw [if_pos h384, if_pos h384]; rfl
  rw [if_neg h384, if_neg h384]
  by_cases h2816 : n = 2816
  · rw [if_pos h2816, if_pos h2816]; rfl
  rw [if_neg h2816, if_neg h2816]
  by_cases h3072 : n = 3072
  · rw [if_pos h3072, if_pos h3072]; rfl
  rw [if_neg h3072, if_neg h3072]
  by_cases h2818 : n = 2818
  · rw [if_pos h2818, if_pos h2818]; rfl
  rw [if_neg h2818, if_neg h2818]
  by_cases h3074 : n = 3074
  · rw [if_pos h3074, if_pos h3074]; rfl
  rw [if_neg h3074, if_neg h3074]
  by_cases h3073 : n = 3073
  · rw [if_pos h3073, if_pos h3073]; rfl
  rw [if_neg h3073, if_neg h3073]
theorem rb_323 (K : Nat → Nat) (y : Nat) (n : Int) (h : n ≠ 323) : readN (upd K 17 y) n = readN K n := by
  unfold readN
  by_cases h768 : n = 768
  · rw [if_pos h768, if_pos h768]; rfl
  rw [if_neg h768, if_neg h768]
  by_cases h256 : n = 256
  · rw [if_pos h256, if_pos h256]; rfl
  rw [if_neg h256, if_neg h256]
  by_cases h769 : n = 769
  · rw [if_pos h769, if_pos h769]
  rw [if_neg h769, if_neg h769]
  by_cases h770 : n = 770
  · rw [if_pos h770, if_pos h770]; rfl
  rw [if_neg h770, if_neg h770]
  by_cases h771 : n = 771
  · rw [if_pos h771, if_pos h771]; rfl
  rw [if_neg h771, if_neg h771]
  by_cases h772 : n = 772
  · rw [if_pos h772, if_pos h772]; rfl
  rw [if_neg h772, if_neg h772]
  by_cases h260 : n = 260
  · rw [if_pos h260, if_pos h260]; rfl
  rw [if_neg h260, if_neg h260]
  by_cases h836 : n = 836
  · rw [if_pos h836, if_pos h836]; rfl
  rw [if_neg h836, if_neg h836]
  by_cases h324 : n = 324
  · rw [if_pos h324, if_pos h324]; rfl
  rw [if_neg h324, if_neg h324]
  by_cases h773 : n = 773
  · rw [if_pos h773, if_pos h773]; rfl
  rw [if_neg h773, if_neg h773]
  by_cases h261 : n = 261
  · rw [if_pos h261, if_pos h261]; rfl
  rw [if_neg h261, if_neg h261]
  by_cases h774 : n = 774
  · rw [if_pos h774, if_pos h774]; rfl
  rw [if_neg h774, if_neg h774]
  by_cases h262 : n = 262
  · rw [if_pos h262, if_pos h262]; rfl
  rw [if_neg h262, if_neg h262]
  by_cases h832 : n = 832
  · rw [if_pos h832, if_pos h832]; rfl
  rw [if_neg h832, if_neg h832]
  by_cases h320 : n = 320
  · rw [if_pos h320, if_pos h320]; rfl
  rw [if_neg h320, if_neg h320]
  by_cases h834 : n = 834
  · rw [if_pos h834, if_pos h834]; rfl
  rw [if_neg h834, if_neg h834]
  by_cases h322 : n = 322
  · rw [if_pos h322, if_pos h322]; rfl
  rw [if_neg h322, if_neg h322]
  by_cases h835 : n = 835
  · rw [if_pos h835, if_pos h835]; rfl
  rw [if_neg h835, if_neg h835]
  rw [if_neg h, if_neg h]
  by_cases h833 : n = 833
  · rw [if_pos h833, if_pos h833]; rfl
  rw [if_neg h833, if_neg h833]
  by_cases h321 : n = 321
  · rw [if_pos h321, if_pos h321]; rfl
  rw [if_neg h321, if_neg h321]
  by_cases h384 : n = 384
  · rw [if_pos h384, if_pos h384]; rfl
  rw [if_neg h384, if_neg h384]
  by_cases h2816 : n = 2816
  · rw [if_pos h2816, if_pos h2816]; rfl
  rw [if_neg h2816, if_neg h2816]
  by_cases h3072 : n = 3072
  · rw [if_pos h3072, if_pos h3072]; rfl
  rw [if_neg h3072, if_neg h3072]
  by_cases h2818 : n = 2818
  · rw [if_pos h2818, if_pos h2818]; rfl
  rw [if_neg h2818, if_neg h2818]
  by_cases h3074 : n = 3074
  · rw [if_pos h3074, if_pos h3074]; rfl
  rw [if_neg h3074, if_neg h3074]
  by_cases h3073 : n = 3073
  · rw [if_pos h3073, if_pos h3073]; rfl
  rw [if_neg h3073, if_neg h3073]
theorem rb_833 (K : Nat → Nat) (y : Nat) (n : Int) (h : n ≠ 833) : readN (upd K 9 y) n = readN K n := by
  unfold readN
  by_cases h768 : n = 768
  · rw [if_pos h768, if_pos h768]; rfl
  rw [if_neg h768, if_neg h768]
  by_cases h256 : n = 256
  · rw [if_pos h256, if_pos h256]; rfl
  rw [if_neg h256, if_neg h256]
  by_cases h769 : n = 769
  · rw [if_pos h769, if_pos h769]
  rw [if_neg h769, if_neg h769]
  by_cases h770 : n = 770
  · rw [if_pos h770, if_pos h770]; rfl
  rw [if_neg h770, if_neg h770]
  by_cases h771 : n = 771
  · rw [if_pos h771, if_pos h771]; rfl
  rw [if_neg h771, if_neg h771]
  by_cases h772 : n = 772
  · rw [if_pos h772, if_pos h772]; rfl
  rw [if_neg h772, if_neg h772]
  by_cases h260 : n = 260
  · rw [if_pos h260, if_pos h260]; rfl
  rw [if_neg h260, if_neg h260]
  by_cases h836 : n = 836
  · rw [if_pos h836, if_pos h836]; rfl
  rw [if_neg h836, if_neg h836]
  by_cases h324 : n = 324
  · rw [if_pos h324, if_pos h324]; rfl
  rw [if_neg h324, if_neg h324]
  by_cases h773 : n = 773
  · rw [if_pos h773, if_pos h773]; rfl
  rw [if_neg h773, if_neg h773]
  by_cases h261 : n = 261
  · rw [if_pos h261, if_pos h261]; rfl
  rw [if_neg h261, if_neg h261]
  by_cases h774 : n = 774
  · rw [if_pos h774, if_pos h774]; rfl
  rw [if_neg h774, if_neg h774]
  by_cases h262 : n = 262
  · rw [if_pos h262, if_pos h262]; rfl
  rw [if_neg h262, if_neg h262]
  by_cases h832 : n = 832
  · rw [if_pos h832, if_pos h832]; rfl
  rw [if_neg h832, if_neg h832]
  by_cases h320 : n = 320
  · rw [if_pos h320, if_pos h320]; rfl
  rw [if_neg h320, if_neg h320]
  by_cases h834 : n = 834
  · rw [if_pos h834, if_pos h834]; rfl
  rw [if_neg h834, if_neg h834]
  by_cases h322 : n = 322
  · rw [if_pos h322, if_pos h322]; rfl
  rw [if_neg h322, if_neg h322]
  by_cases h835 : n = 835
  · rw [if_pos h835, if_pos h835]; rfl
  rw [if_neg h835, if_neg h835]
  by_cases h323 : n = 323
  · rw [if_pos h323, if_pos h323]; rfl
  rw [if_neg h323, if_neg h323]
  rw [if_neg h, if_neg h]
  by_cases h321 : n = 321
  · rw [if_pos h321, if_pos h321]; rfl
  rw [if_neg h321, if_neg h321]
  by_cases h384 : n = 384
  · rw [if_pos h384, if_pos h384]; rfl
  rw [if_neg h384, if_neg h384]
  by_cases h2816 : n = 2816
  · rw [if_pos h2816, if_pos h2816]; rfl
  rw [if_neg h2816, if_neg h2816]
  by_cases h3072 : n = 3072
  · rw [if_pos h3072, if_pos h3072]; rfl
  rw [if_neg h3072, if_neg h3072]
  by_cases h2818 : n = 2818
  · rw [if_pos h2818, if_pos h2818]; rfl
  rw [if_neg h2818, if_neg h2818]
  by_cases h3074 : n = 3074
  · rw [if_pos h3074, if_pos h3074]; rfl
  rw [if_neg h3074, if_neg h3074]
  by_cases h3073 : n = 3073
  · rw [if_pos h3073, if_pos h3073]; rfl
  rw [if_neg h3073, if_neg h3073]
theorem rb_321 (K : Nat → Nat) (y : Nat) (n : Int) (h : n ≠ 321) : readN (upd K 15 y) n = readN K n := by
  unfold readN
  by_cases h768 : n = 768
  · rw [if_pos h768, if_pos h768]; rfl
  rw [if_neg h768, if_neg h768]
  by_cases h256 : n = 256
  · rw [if_pos h256, if_pos h256]; rfl
  rw [if_neg h256, if_neg h256]
  by_cases h769 : n = 769
  · rw [if_pos h769, if_pos h769]
  rw [if_neg h769, if_neg h769]
  by_cases h770 : n = 770
  · rw [if_pos h770, if_pos h770]; rfl
  rw [if_neg h770, if_neg h770]
  by_cases h771 : n = 771
  · rw [if_pos h771, if_pos h771]; rfl
  rw [if_neg h771, if_neg h771]
  by_cases h772 : n = 772
  · rw [if_pos h772, if_pos h772]; rfl
  rw [if_neg h772, if_neg h772]
  by_cases h260 : n = 260
  · rw [if_pos h260, if_pos h260]; rfl
  rw [if_neg h260, if_neg h260]
  by_cases h836 : n = 836
  · rw [if_pos h836, if_pos h836]; rfl
  rw [if_neg h836, if_neg h836]
  by_cases h324 : n = 324
  · rw [if_pos h324, if_pos h324]; rfl
  rw [if_neg h324, if_neg h324]
  by_cases h773 : n = 773
  · rw [if_pos h773, if_pos h773]; rfl
  rw [if_neg h773, if_neg h773]
  by_cases h261 : n = 261
  · rw [if_pos h261, if_pos h261]; rfl
  rw [if_neg h261, if_neg h261]
  by_cases h774 : n = 774
  · rw [if_pos h774, if_pos h774]; rfl
  rw [if_neg h774, if_neg h774]
  by_cases h262 : n = 262
  · rw [if_pos h262, if_pos h262]; rfl
  rw [if_neg h262, if_neg h262]
  by_cases h832 : n = 832
  · rw [if_pos h832, if_pos h832]; rfl
  rw [if_neg h832, if_neg h832]
  by_cases h320 : n = 320
  · rw [if_pos h320, if_pos h320]; rfl
  rw [if_neg h320, if_neg h320]
  by_cases h834 : n = 834
  · rw [if_pos h834, if_pos h834]; rfl
  rw [if_neg h834, if_neg h834]
  by_cases h322 : n = 322
  · rw [if_pos h322, if_pos h322]; rfl
  rw [if_neg h322, if_neg h322]
  by_cases h835 : n = 835
  · rw [if_pos h835, if_pos h835]; rfl
  rw [if_neg h835, if_neg h835]
  by_cases h323 : n = 323
  · rw [if_pos h323, if_pos h323]; rfl
  rw [if_neg h323, if_neg h323]
  by_cases h833 : n = 833
  · rw [if_pos h833, if_pos h833]; rfl
  rw [if_neg h833, if_neg h833]
  rw [if_neg h, if_neg h]
  by_cases h384 : n = 384
  · rw [if_pos h384, if_pos h384]; rfl
  rw [if_neg h384, if_neg h384]
  by_cases h2816 : n = 2816
  · rw [if_pos h2816, if_pos h2816]; rfl
  rw [if_neg h2816, if_neg h2816]
  by_cases h3072 : n = 3072
  · rw [if_pos h3072, if_pos h3072]; rfl
  rw [if_neg h3072, if_neg h3072]
  by_cases h2818 : n = 2818
  · rw [if_pos h2818, if_pos h2818]; rfl
  rw [if_neg h2818, if_neg h2818]
  by_cases h3074 : n = 3074
  · rw [if_pos h3074, if_pos h3074]; rfl
  rw [if_neg h3074, if_neg h3074]
  by_cases h3073 : n = 3073
  · rw [if_pos h3073, if_pos h3073]; rfl
  rw [if_neg h3073, if_neg h3073]
theorem rb_384 (K : Nat → Nat) (y : Nat) (n : Int) (h : n ≠ 384) : readN (upd K 18 y) n = readN K n := by
  unfold readN
  by_cases h768 : n = 768
  · rw [if_pos h768, if_pos h768]; rfl
  rw [if_neg h768, if_neg h768]
  by_cases h256 : n = 256
  · rw [if_pos h256, if_pos h256]; rfl
  rw [if_neg h256, if_neg h256]
  by_cases h769 : n = 769
  · rw [if_pos h769, if_pos h769]
  rw [if_neg h769, if_neg h769]
  by_cases h770 : n = 770
  · rw [if_pos h770, if_pos h770]; rfl
  rw [if_neg h770, if_neg h770]
  by_cases h771 : n = 771
  · rw [if_pos h771, if_pos h771]; rfl
  rw [if_neg h771, if_neg h771]
  by_cases h772 : n = 772
  · rw [if_pos h772, if_pos h772]; rfl
  rw [if_neg h772, if_neg h772]
  by_cases h260 : n = 260
  · rw [if_pos h260, if_pos h260]; rfl
  rw [if_neg h260, if_neg h260]
  by_cases h836 : n = 836
  · rw [if_pos h836, if_pos h836]; rfl
  rw [if_neg h836, if_neg h836]
  by_cases h324 : n = 324
  · rw [if_pos h324, if_pos h324]; rfl
  rw [if_neg h324, if_neg h324]
  by_cases h773 : n = 773
  · rw [if_pos h773, if_pos h773]; rfl
  rw [if_neg h773, if_neg h773]
  by_cases h261 : n = 261
  · rw [if_pos h261, if_pos h261]; rfl
  rw [if_neg h261, if_neg h261]
  by_cases h774 : n = 774
  · rw [if_pos h774, if_pos h774]; rfl
  rw [if_neg h774, if_neg h774]
  by_cases h262 : n = 262
  · rw [if_pos h262, if_pos h262]; rfl
  rw [if_neg h262, if_neg h262]
  by_cases h832 : n = 832
  · rw [if_pos h832, if_pos h832]; rfl
  rw [if_neg h832, if_neg h832]
  by_cases h320 : n = 320
  · rw [if_pos h320, if_pos h320]; rfl
  rw [if_neg h320, if_neg h320]
  by_cases h834 : n = 834
  · rw [if_pos h834, if_pos h834]; rfl
  rw [if_neg h834, if_neg h834]
  by_cases h322 : n = 322
  · rw [if_pos h322, if_pos h322]; rfl
  rw [if_neg h322, if_neg h322]
  by_cases h835 : n = 835
  · rw [if_pos h835, if_pos h835]; rfl
  rw [if_neg h835, if_neg h835]
  by_cases h323 : n = 323
  · rw [if_pos h323, if_pos h323]; rfl
  rw [if_neg h323, if_neg h323]
  by_cases h833 : n = 833
  · rw [if_pos h833, if_pos h833]; rfl
  rw [if_neg h833, if_neg h833]
  by_cases h321 : n = 321
  · rw [if_pos h321, if_pos h321]; rfl
  rw [if_neg h321, if_neg h321]
  rw [if_neg h, if_neg h]
  by_cases h2816 : n = 2816
  · rw [if_pos h2816, if_pos h2816]; rfl
  rw [if_neg h2816, if_neg h2816]
  by_cases h3072 : n = 3072
  · rw [if_pos h3072, if_pos h3072]; rfl
  rw [if_neg h3072, if_neg h3072]
  by_cases h2818 : n = 2818
  · rw [if_pos h2818, if_pos h2818]; rfl
  rw [if_neg h2818, if_neg h2818]
  by_cases h3074 : n = 3074
  · rw [if_pos h3074, if_pos h3074]; rfl
  rw [if_neg h3074, if_neg h3074]
  by_cases h3073 : n = 3073
  · rw [if_pos h3073, if_pos h3073]; rfl
  rw [if_neg h3073, if_neg h3073]
theorem rb_770 (K : Nat → Nat) (y : Nat) (n : Int) (h : n ≠ 770) : readN (upd K 3 y) n = readN K n := by
  unfold readN
  by_cases h768 : n = 768
  · rw [if_pos h768, if_pos h768]; rfl
  rw [if_neg h768, if_neg h768]
  by_cases h256 : n = 256
  · rw [if_pos h256, if_pos h256]; rfl
  rw [if_neg h256, if_neg h256]
  by_cases h769 : n = 769
  · rw [if_pos h769, if_pos h769]
  rw [if_neg h769, if_neg h769]
  rw [if_neg h, if_neg h]
  by_cases h771 : n = 771
  · rw [if_pos h771, if_pos h771]; rfl
  rw [if_neg h771, if_neg h771]
  by_cases h772 : n = 772
  · rw [if_pos h772, if_pos h772]; rfl
  rw [if_neg h772, if_neg h772]
  by_cases h260 : n = 260
  · rw [if_pos h260, if_pos h260]; rfl
  rw [if_neg h260, if_neg h260]
  by_cases h836 : n = 836
  · rw [if_pos h836, if_pos h836]; rfl
  rw [if_neg h836, if_neg h836]
  by_cases h324 : n = 324
  · rw [if_pos h324, if_pos h324]; rfl
  rw [if_neg h324, if_neg h324]
  by_cases h773 : n = 773
  · rw [if_pos h773, if_pos h773]; rfl
  rw [if_neg h773, if_neg h773]
  by_cases h261 : n = 261
  · rw [if_pos h261, if_pos h261]; rfl
  rw [if_neg h261, if_neg h261]
  by_cases h774 : n = 774
  · rw [if_pos h774, if_pos h774]; rfl
  rw [if_neg h774, if_neg h774]
  by_cases h262 : n = 262
  · rw [if_pos h262, if_pos h262]; rfl
  rw [if_neg h262, if_neg h262]
  by_cases h832 : n = 832
  · rw [if_pos h832, if_pos h832]; rfl
  rw [if_neg h832, if_neg h832]
  by_cases h320 : n = 320
  · rw [if_pos h320, if_pos h320]; rfl
  rw [if_neg h320, if_neg h320]
  by_cases h834 : n = 834
  · rw [if_pos h834, if_pos h834]; rfl
  rw [if_neg h834, if_neg h834]
  by_cases h322 : n = 322
  · rw [if_pos h322, if_pos h322]; rfl
  rw [if_neg h322, if_neg h322]
  by_cases h835 : n = 835
  · rw [if_pos h835, if_pos h835]; rfl
  rw [if_neg h835, if_neg h835]
  by_cases h323 : n = 323
  · rw [if_pos h323, if_pos h323]; rfl
  rw [if_neg h323, if_neg h323]
  by_cases h833 : n = 833
  · rw [if_pos h833, if_pos h833]; rfl
  rw [if_neg h833, if_neg h833]
  by_cases h321 : n = 321
  · rw [if_pos h321, if_pos h321]; rfl
  rw [if_neg h321, if_neg h321]
  by_cases h384 : n = 384
  · rw [if_pos h384, if_pos h384]; rfl
  rw [if_neg h384, if_neg h384]
  by_cases h2816 : n = 2816
  · rw [if_pos h2816, if_pos h2816]; rfl
  rw [if_neg h2816, if_neg h2816]
  by_cases h3072 : n = 3072
  · rw [if_pos h3072, if_pos h3072]; rfl
  rw [if_neg h3072, if_neg h3072]
  by_cases h2818 : n = 2818
  · rw [if_pos h2818, if_pos h2818]; rfl
  rw [if_neg h2818, if_neg h2818]
  by_cases h3074 : n = 3074
  · rw [if_pos h3074, if_pos h3074]; rfl
  rw [if_neg h3074, if_neg h3074]
  by_cases h3073 : n = 3073
  · rw [if_pos h3073, if_pos h3073]; rfl
  rw [if_neg h3073, if_neg h3073]
def aNs : List Int := [773, 261, 774, 262, 832, 320, 834, 322, 835, 323, 833, 321, 384, 770]
def aN (i : Nat) : Int := aNs.getD i 0
def aloneC : Array Value := #[.int .i64 773, .int .i64 261, .int .i64 774, .int .i64 262, .int .i64 832, .int .i64 320, .int .i64 834, .int .i64 322, .int .i64 835, .int .i64 323, .int .i64 833, .int .i64 321, .int .i64 384, .int .i64 770]
theorem aloneC_get : ∀ i, i < 14 → aloneC[i]? = some (.int .i64 (aN i)) := by
  intro i hi
  have e : aloneC = ((List.range 14).map fun j => Value.int .i64 (aN j)).toArray := by kernel_rfl
  rw [e]; simp [hi]
theorem beside_num (K : Nat → Nat) (i : Nat) (hi : i < 14) (x : Nat) (n : Int) (h : n ≠ aN i) : readN (writeK K (aN i) x) n = readN K n := by
  match i, hi with
  | 0, _ => exact rb_773 K _ n h
  | 1, _ => exact rb_261 K _ n h
  | 2, _ => exact rb_774 K _ n h
  | 3, _ => exact rb_262 K _ n h
  | 4, _ => exact rb_832 K _ n h
  | 5, _ => exact rb_320 K _ n h
  | 6, _ => exact rb_834 K _ n h
  | 7, _ => exact rb_322 K _ n h
  | 8, _ => exact rb_835 K _ n h
  | 9, _ => exact rb_323 K _ n h
  | 10, _ => exact rb_833 K _ n h
  | 11, _ => exact rb_321 K _ n h
  | 12, _ => exact rb_384 K _ n h
  | 13, _ => exact rb_770 K _ n h
  | q + 14, hq => exact absurd hq (by omega)
end Go.Proofs.YtebdlefdkadhnabDoor
