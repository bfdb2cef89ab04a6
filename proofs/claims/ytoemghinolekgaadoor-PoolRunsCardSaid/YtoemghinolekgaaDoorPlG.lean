/-
  A pool of the law's own; the laws' example, small, at.
-/
import Derived.Test.YtoemghinolekgaaDoorPlNb
import Derived.Test.YtoemghinolekgaaDoorPlO
import Derived.Test.YtoemghinolekgaaDoorPlH
namespace Go.Proofs.YtoemghinolekgaaDoor.Pl
open Go.RowKit
open Go.Proofs.YtoemghinolekgaaDoor.Id (Tr Tr.refl Tr.gr Tr.only Tr.below blk own_blk IR IR.cells IR.shape)
set_option linter.unusedVariables false
set_option linter.unusedSimpArgs false

/-- A pool that lies in new blocks of the law's own. -/
structure LP (W : World) (g : Nat) (m : Pm) (w : World) (S : Po) : Prop where
  po : PoAt w g m S
  off : ∀ k ∈ Fm g m, W.heap.size ≤ k
  low : Below W.heap.size W w
theorem LP.gr {W w w' : World} {g : Nat} {m : Pm} {S : Po} (h : LP W g m w S) (hb : Below w.heap.size w w') : LP W g m w' S := ⟨h.po.gr hb, h.off, h.low.trans (Below.mono hb h.low.size)⟩
/-- A call has gone on to S. -/
def LGo (W : World) (g : Nat) (m : Pm) (w : World) (S : Po) (w' : World) : Prop := ∃ m', LP W g m' w' S ∧ m'.fv = m.fv ∧ m'.lv = m.lv ∧ Tr (Fm g m) w w'
theorem LP.go {W w w' : World} {g : Nat} {m : Pm} {S T : Po} (h : LP W g m w S) (hg : Goes g m w T w') : LGo W g m w T w' := by
  obtain ⟨m', h1, h2, h3, h4⟩ := hg
  exact ⟨m', ⟨h1, by rw [Fm.same h2 h3]; exact h.off, Tr.below h.low h.low.size h4 h.off⟩, h2, h3, h4⟩
section
variable {W w : World} {g : Nat} {m : Pm} {S : Po}
theorem take_lp (h : LP W g m w S) : Calls Tryd.prog 15 #[.pointer (some ⟨g, 0, none⟩)] w fun e w' => e = .returned (.tuple #[.int .i64 (take S).2.1, .int .i64 (take S).2.2]) ∧ LGo W g m w (take S).1 w' :=
  (take_any g w h.po).mono fun e w' hh => ⟨hh.1, h.go hh.2⟩
theorem want_lp (h : LP W g m w S) (a : Int) (ha : a ≤ 9223372036854775807) : Calls Tryd.prog 19 #[.pointer (some ⟨g, 0, none⟩), .int .i64 a] w fun e w' => e = .returned (.int .i64 (want S a).2) ∧ LGo W g m w (want S a).1 w' :=
  (want_any g a ha w h.po).mono fun e w' hh => ⟨hh.1, h.go hh.2⟩
theorem give_lp (h : LP W g m w S) (a : Int) (ha : a ≤ 9223372036854775807) : Calls Tryd.prog 17 #[.pointer (some ⟨g, 0, none⟩), .int .i64 a] w fun e w' => e = .returned (.int .i64 (give S a).2) ∧ LGo W g m w (give S a).1 w' :=
  (give_any g a ha w h.po).mono fun e w' hh => ⟨hh.1, h.go hh.2⟩
theorem has_lp (h : LP W g m w S) (a : Int) (ha : a ≤ 9223372036854775807) : Calls Tryd.prog 26 #[.pointer (some ⟨g, 0, none⟩), .int .i64 a] w fun e w' => e = .returned (.bool (has S a)) ∧ w = w' := pool_has_any g a ha w h.po
theorem free_lp (h : LP W g m w S) : Calls Tryd.prog 24 #[.pointer (some ⟨g, 0, none⟩)] w fun e w' => e = .returned (.int .i64 (free S)) ∧ w = w' := pool_free_any g w h.po
theorem leased_lp (h : LP W g m w S) : Calls Tryd.prog 23 #[.pointer (some ⟨g, 0, none⟩)] w fun e w' => ∃ v, e = .returned v ∧ w'.ownsRow w.heap.size 3 1 v S.L.length (ints S.L) ∧ Below w.heap.size w w' ∧ LP W g m w' S :=
  (leased_any g w h.po).mono fun e w' ⟨v, h1, h2, h3⟩ => ⟨v, h1, h2, h3, h.gr h3⟩
end
theorem new_lp (W : World) (b : Int) (Z : Nat) {v : Value} {l : List Int} (w : World) (hw : Below W.heap.size W w) (hl : Laid w) (h : IR w v l) (hok : okR b (Z : Int) l) :
    Calls Tryd.prog 10 #[.agg #[.int .i64 b, .int .i64 (Z : Int), v]] w fun e w' => ∃ g, e = .returned (.tuple #[.pointer (some ⟨g, 0, none⟩), .int .i64 0]) ∧ ∃ m, LP W g m w' (born b Z l) ∧ (∀ k ∈ Fm g m, w.heap.size ≤ k) ∧ Below w.heap.size w w' :=
  (new_yes b Z w hl h hok).mono fun e w' ⟨g, h1, m, h2, h3, h4⟩ => ⟨g, h1, m, ⟨h2, fun k hk => Nat.le_trans hw.size (h3 k hk), hw.trans (Below.mono h4 hw.size)⟩, h3, h4⟩
/-- The laws' example. -/
theorem builtR (b z : Int) (a : Option Addr) (n c : Nat) : Tryd.prog.built 24 [(0, .int .i64 b), (1, .int .i64 z), (2, .slice a n c)] = some #[.int .i64 b, .int .i64 z, .slice a n c] := by kernel_rfl
def ex0 : Po := born 10 3 [0]
theorem ex_ok : okR 10 ((3 : Nat) : Int) [0] := ⟨by decide, by decide, by decide, by simp, by simp⟩
theorem ex1 : take ex0 = (⟨10, 3, [0], [11]⟩, 11, 0) := by rfl
theorem ex2 : take ⟨10, 3, [0], [11]⟩ = (⟨10, 3, [0], [11, 12]⟩, 12, 0) := by rfl
theorem ex3 : take ⟨10, 3, [0], [11, 12]⟩ = (⟨10, 3, [0], [11, 12]⟩, 0, 121) := by rfl
theorem ex4 : give ⟨10, 3, [0], [11, 12]⟩ 11 = (⟨10, 3, [0], [12]⟩, 0) := by rfl
theorem ex5 : take ⟨10, 3, [0], [12]⟩ = (⟨10, 3, [0], [11, 12]⟩, 11, 0) := by rfl
set_option maxRecDepth 20000 in
theorem awake_any (w : World) (hl : Laid w) : Calls Tryd.prog 13 #[] w fun e w' => e = .returned (.bool true) ∧ Below w.heap.size w w' := by
  have HB0 : Hid (Below w.heap.size w (w.alloc (.cells #[.int .i64 0] 3))) := (Below.refl _ _).alloc (Nat.le_refl _) _
  have HN := Lib.hid (new_lp w 10 3 (l := [0]) (v := .slice (some ⟨w.heap.size, 0, none⟩) 1 1) (w.alloc (.cells #[.int .i64 0] 3)) HB0.out (hl.gr HB0.out) (rd_new w [.int .i64 0] 3 1 1 rfl (by unfold maxLen; omega)) ex_ok)
  clear hl HB0
  go_enter Tryd.func13, Tryd.ntmps13
  go_wp2_with fail
  refine HN.out.mono ?_
  rintro e w1 ⟨g, rfl, m1, h1, _, _⟩
  have HT1 := take_lp h1
  rw [show born 10 3 [0] = ex0 from rfl, ex1] at HT1
  have H1 := Lib.hid HT1
  clear h1 HT1 HN
  go_wp2_with fail
  refine H1.out.mono ?_
  rintro e w2 ⟨rfl, m2, h2, _, _, _⟩
  have HT2 := take_lp h2
  rw [ex2] at HT2
  have H2 := Lib.hid HT2
  clear h2 HT2 H1
  go_wp2_with fail
  refine H2.out.mono ?_
  rintro e w3 ⟨rfl, m3, h3, _, _, _⟩
  have HT3 := take_lp h3
  rw [ex3] at HT3
  have H3 := Lib.hid HT3
  clear h3 HT3 H2
  go_wp2_with fail
  refine H3.out.mono ?_
  rintro e w4 ⟨rfl, m4, h4, _, _, _⟩
  have HT4 := give_lp h4 11 (by decide)
  rw [ex4] at HT4
  have H4 := Lib.hid HT4
  clear h4 HT4 H3
  go_wp2_with fail
  refine H4.out.mono ?_
  rintro e w5 ⟨rfl, m5, h5, _, _, _⟩
  have HT5 := take_lp h5
  rw [ex5] at HT5
  have H5 := Lib.hid HT5
  clear h5 HT5 H4
  go_wp2_with fail
  refine H5.out.mono ?_
  rintro e w6 ⟨rfl, m6, h6, _, _, _⟩
  have HB := Lib.hid h6.low
  clear h6 H5
  go_wp2
  go_ret
  exact ⟨rfl, HB.out⟩
end Go.Proofs.YtoemghinolekgaaDoor.Pl
