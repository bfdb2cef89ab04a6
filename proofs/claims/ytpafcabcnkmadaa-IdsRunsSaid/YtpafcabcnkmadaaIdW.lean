/-
  An allocator as the laws see it; their example.
-/
import Derived.Test.YtpafcabcnkmadaaIdV
namespace Go.Proofs.Ytpafcabcnkmadaa.Id
open Go.RowKit
set_option linter.unusedVariables false
set_option linter.unusedSimpArgs false

/-- An allocator that the law itself has made, and all else stands as it stood. -/
structure LA (W : World) (g : Nat) (m : Am) (w : World) (S : Al) : Prop where
  al : AlAt w g m S
  low : Below W.heap.size W w
  own : ∀ k ∈ Fm g m, W.heap.size ≤ k
theorem LA.gr {W w w' : World} {g : Nat} {m : Am} {S : Al} (h : LA W g m w S) (hb : Below w.heap.size w w') : LA W g m w' S := ⟨h.al.gr hb, h.low.trans (Below.mono hb h.low.size), h.own⟩
theorem LA.goes {W w w' : World} {g : Nat} {m : Am} {S T : Al} (h : LA W g m w S) (hg : GoesA g m w T w') : ∃ m', LA W g m' w' T := by
  obtain ⟨m', ha, hs⟩ := hg
  refine ⟨m', ha, Tr.below h.low h.low.size hs.tr h.own, fun k hk => ?_⟩
  rcases hs.blk k hk with h1 | h1
  · exact h.own k h1
  · exact Nat.le_trans h.low.size h1
theorem new_la (W : World) (lo hi q : Int) (w : World) (hs : okSet lo hi q) (hb : Below W.heap.size W w) :
    Calls Try.prog 13 #[.int .i64 lo, .int .i64 hi, .int .i64 q] w fun e w' => ∃ g, e = .returned (.tuple #[.pointer (some ⟨g, 0, none⟩), .int .i64 0]) ∧ ∃ m, LA W g m w' (born lo hi q) ∧ Below w.heap.size w w' ∧ ∀ k ∈ Fm g m, w.heap.size ≤ k := by
  refine (new_yes lo hi q w hs).mono ?_
  rintro e w' ⟨g, rfl, m, ha, hk, hsh, hbl⟩
  refine ⟨g, rfl, m, ⟨⟨ha, ?_, born_ok hs, fun _ => List.Pairwise.nil⟩, hb.trans (Below.mono hbl hb.size), fun k h => Nat.le_trans hb.size (hk k h)⟩, hbl, hk⟩
  have hf : m.fell = false := congrArg Sh.fell hsh
  rw [hsh, hf]
  show (_ : Sh) = ⟨lo, hi, q, numbers lo hi, [], takenL lo hi [], false⟩
  rw [takenL_none]
theorem take_la {W w : World} {g : Nat} {m : Am} {S : Al} (h : LA W g m w S) (t : Int) :
    Calls Try.prog 14 #[.pointer (some ⟨g, 0, none⟩), .int .i64 t] w fun e w' => e = .returned (.tuple #[.int .i64 (take S t).2.1, .int .i64 (take S t).2.2]) ∧ ∃ m', LA W g m' w' (take S t).1 :=
  (take_any g t w h.al).mono fun e w' ⟨he, hg⟩ => ⟨he, h.goes hg⟩
theorem give_la {W w : World} {g : Nat} {m : Am} {S : Al} (h : LA W g m w S) (id t : Int) :
    Calls Try.prog 18 #[.pointer (some ⟨g, 0, none⟩), .int .i64 id, .int .i64 t] w fun e w' => e = .returned (.int .i64 (give S id t).2) ∧ ∃ m', LA W g m' w' (give S id t).1 :=
  (give_any g id t w h.al).mono fun e w' ⟨he, hg⟩ => ⟨he, h.goes hg⟩
theorem has_la {W w : World} {g : Nat} {m : Am} {S : Al} (h : LA W g m w S) (id : Int) :
    Calls Try.prog 15 #[.pointer (some ⟨g, 0, none⟩), .int .i64 id] w fun e w' => e = .returned (.bool (decide (id ∈ S.used))) ∧ LA W g m w' S :=
  (has_any g id w h.al).mono fun e w' ⟨he, hb⟩ => ⟨he, h.gr hb⟩
theorem free_la {W w : World} {g : Nat} {m : Am} {S : Al} (h : LA W g m w S) (t : Int) :
    Calls Try.prog 16 #[.pointer (some ⟨g, 0, none⟩), .int .i64 t] w fun e w' => e = .returned (.int .i64 (free S t)) ∧ LA W g m w' S :=
  (free_any g t w h.al).mono fun e w' ⟨he, hb⟩ => ⟨he, h.gr hb⟩
theorem len_la {W w : World} {g : Nat} {m : Am} {S : Al} (h : LA W g m w S) :
    Calls Try.prog 21 #[.pointer (some ⟨g, 0, none⟩)] w fun e w' => e = .returned (.int .i64 (S.high - S.low + 1)) ∧ w = w' := len_any g w h.al
theorem taken_la {W w : World} {g : Nat} {m : Am} {S : Al} (h : LA W g m w S) :
    Calls Try.prog 19 #[.pointer (some ⟨g, 0, none⟩)] w fun e w' => ∃ A C, e = .returned (.slice A S.used.length C) ∧ LA W g m w' S ∧ IR w' (.slice A S.used.length C) (risen S) ∧ (∀ k ∈ blk (.slice A S.used.length C), w.heap.size ≤ k) ∧ Below w.heap.size w w' := by
  refine (taken_any g w h.al).mono fun e w' ⟨v, he, ho, hb⟩ => ?_
  obtain ⟨A, C, ev, _, _⟩ := (own_rd ho).shape
  subst ev
  have hl := risen_length h.al.ok
  rw [hl] at he ho
  refine ⟨A, C, he, h.gr hb, ?_, fun k hk => (own_blk ho k hk).1, hb⟩
  unfold IR
  rw [hl]
  exact own_rd ho
theorem resting_la {W w : World} {g : Nat} {m : Am} {S : Al} (h : LA W g m w S) :
    Calls Try.prog 20 #[.pointer (some ⟨g, 0, none⟩)] w fun e w' => ∃ A C, e = .returned (.slice A S.rest.length C) ∧ LA W g m w' S ∧ RR w' (.slice A S.rest.length C) S.rest ∧ (∀ k ∈ blk (.slice A S.rest.length C), w.heap.size ≤ k) ∧ Below w.heap.size w w' := by
  refine (resting_any g w h.al).mono fun e w' ⟨v, he, ho, hb⟩ => ?_
  obtain ⟨A, C, ev, _, _⟩ := (own_rd ho).shape
  subst ev
  exact ⟨A, C, he, h.gr hb, own_rd ho, fun k hk => (own_blk ho k hk).1, hb⟩
theorem ex_1 : take (born 1 2 5) 0 = (⟨1, 2, 5, [2], [1], []⟩, 1, 0) := by rfl
theorem ex_2 : take ⟨1, 2, 5, [2], [1], []⟩ 0 = (⟨1, 2, 5, [], [1, 2], []⟩, 2, 0) := by rfl
theorem ex_3 : give ⟨1, 2, 5, [], [1, 2], []⟩ 1 10 = (⟨1, 2, 5, [], [2], [(1, 15)]⟩, 0) := by rfl
theorem ex_4 : take ⟨1, 2, 5, [], [2], [(1, 15)]⟩ 14 = (⟨1, 2, 5, [], [2], [(1, 15)]⟩, 0, 111) := by rfl
theorem ex_5 : take ⟨1, 2, 5, [], [2], [(1, 15)]⟩ 15 = (⟨1, 2, 5, [], [2, 1], []⟩, 1, 0) := by rfl
set_option maxRecDepth 20000 in
set_option maxHeartbeats 4000000 in
theorem awake_any (w : World) :
    Calls Try.prog 9 #[] w fun e w' => e = .returned (.bool true) ∧ Below w.heap.size w w' := by
  have H1 := Lib.hid (fun m g w' (h : LA w g m w' (born 1 2 5)) => take_la h 0)
  have H2 := Lib.hid (fun m g w' (h : LA w g m w' ⟨1, 2, 5, [2], [1], []⟩) => take_la h 0)
  have H3 := Lib.hid (fun m g w' (h : LA w g m w' ⟨1, 2, 5, [], [1, 2], []⟩) => give_la h 1 10)
  have H4 := Lib.hid (fun m g w' (h : LA w g m w' ⟨1, 2, 5, [], [2], [(1, 15)]⟩) => take_la h 14)
  have H5 := Lib.hid (fun m g w' (h : LA w g m w' ⟨1, 2, 5, [], [2], [(1, 15)]⟩) => take_la h 15)
  rw [ex_1] at H1
  rw [ex_2] at H2
  rw [ex_3] at H3
  rw [ex_4] at H4
  rw [ex_5] at H5
  go_enter Try.func9, Try.ntmps9
  go_wp2_with fail
  refine (new_la w 1 2 5 w (by decide) (Below.refl _ _)).mono ?_
  rintro e w1 ⟨g, rfl, m1, h1, _⟩
  have L1 := Lib.hid h1
  clear h1
  go_wp2_with fail
  refine (H1.out _ _ _ L1.out).mono ?_
  rintro e w2 ⟨rfl, m2, h2⟩
  have L2 := Lib.hid h2
  clear h2 H1 L1
  go_wp2_with fail
  refine (H2.out _ _ _ L2.out).mono ?_
  rintro e w3 ⟨rfl, m3, h3⟩
  have L3 := Lib.hid h3
  clear h3 H2 L2
  go_wp2_with fail
  refine (H3.out _ _ _ L3.out).mono ?_
  rintro e w4 ⟨rfl, m4, h4⟩
  have L4 := Lib.hid h4
  clear h4 H3 L3
  go_wp2_with fail
  refine (H4.out _ _ _ L4.out).mono ?_
  rintro e w5 ⟨rfl, m5, h5⟩
  have L5 := Lib.hid h5
  clear h5 H4 L4
  go_wp2_with fail
  refine (H5.out _ _ _ L5.out).mono ?_
  rintro e w6 ⟨rfl, m6, h6⟩
  have L6 := Lib.hid h6
  clear h6 H5 L5
  go_wp2_with fail
  refine (len_la L6.out).mono ?_
  rintro e w7 ⟨rfl, rfl⟩
  go_wp2_with fail
  refine (taken_la L6.out).mono ?_
  rintro e w8 ⟨A, C, rfl, h8, _⟩
  have L8 := Lib.hid h8
  clear h8 L6
  go_wp2
  go_ret
  exact ⟨rfl, L8.out.low⟩
end Go.Proofs.Ytpafcabcnkmadaa.Id
