/-
  A pool in memory that stands as plain words say: Has, Free, Take, Want, Give.
-/
import Derived.Test.YtoemghinolekgaaDoorPlC
import Derived.Test.YtoemghinolekgaaDoorPlS
namespace Go.Proofs.YtoemghinolekgaaDoor.Pl
open Go.RowKit
open Go.Proofs.YtoemghinolekgaaDoor.Id (Tr Tr.refl Tr.gr Tr.only blk own_blk IR)
set_option linter.unusedVariables false
set_option linter.unusedSimpArgs false

structure PoAt (w : World) (g : Nat) (m : Pm) (S : Po) : Prop where
  pm : PmAt w g S.base m
  ok : OkP S
  ties : Ties S m.fr m.le
theorem PoAt.gr {w w' : World} {g : Nat} {m : Pm} {S : Po} (h : PoAt w g m S) (hb : Below w.heap.size w w') : PoAt w' g m S := ⟨h.pm.gr hb, h.ok, h.ties⟩
theorem PoAt.tr {K : List Nat} {w w' : World} {g : Nat} {m : Pm} {S : Po} (h : PoAt w g m S) (ht : Tr K w w') (hK : ∀ k ∈ K, 1 ≤ k) (hd : ∀ k ∈ Fm g m, k ∉ K) : PoAt w' g m S := ⟨h.pm.tr ht hK hd, h.ok, h.ties⟩
/-- A call has gone on to S. -/
def Goes (g : Nat) (m : Pm) (w : World) (S : Po) (w' : World) : Prop := ∃ m', PoAt w' g m' S ∧ m'.fv = m.fv ∧ m'.lv = m.lv ∧ Tr (Fm g m) w w'
theorem Goes.refl {w : World} {g : Nat} {m : Pm} {S : Po} (h : PoAt w g m S) : Goes g m w S w := ⟨m, h, rfl, rfl, Tr.refl _ _⟩
theorem Fm.same {g : Nat} {m m' : Pm} (h1 : m'.fv = m.fv) (h2 : m'.lv = m.lv) : Fm g m' = Fm g m := by unfold Fm; rw [h1, h2]
theorem isMade_yes (g : Nat) {m : Pm} {B : Int} (w : World) (h : PmAt w g B m) (hB : 1 ≤ B) :
    Calls Tryd.prog 41 #[.pointer (some ⟨g, 0, none⟩)] w fun e w' => e = .returned (.bool true) ∧ w = w' := by
  obtain ⟨k0, k1, k2⟩ := cells3' h.row
  have hb : (B != 0) = true := by simp; omega
  clear h k1 k2
  go_enter Tryd.func41, Tryd.ntmps41
  go_wp2
  go_ret
  exact ⟨rfl, rfl⟩
theorem isMade_nil (w : World) :
    Calls Tryd.prog 41 #[.pointer none] w fun e w' => e = .returned (.bool false) ∧ w = w' := by
  go_enter Tryd.func41, Tryd.ntmps41
  go_wp2
  go_ret
  exact ⟨rfl, rfl⟩
/-- Nobody made it: nil, or zero. -/
def NoPo (w : World) (v : Value) : Prop := v = .pointer none ∨ ∃ g, v = .pointer (some ⟨g, 0, none⟩) ∧ w.heap[g]? = some (.cells #[.int .i64 0, .slice none 0 0, .slice none 0 0] 60 (0, 0))
theorem NoPo.gr {w w' : World} {v : Value} (h : NoPo w v) (hb : Below w.heap.size w w') : NoPo w' v := by
  rcases h with h | ⟨g, h1, h2⟩
  · exact .inl h
  · exact .inr ⟨g, h1, heap_gr hb h2⟩
theorem isMade_no (v : Value) (w : World) (h : NoPo w v) :
    Calls Tryd.prog 41 #[v] w fun e w' => e = .returned (.bool false) ∧ w = w' := by
  rcases h with rfl | ⟨g, rfl, h⟩
  · exact isMade_nil w
  · obtain ⟨k0, k1, k2⟩ := cells3' h
    clear h k1 k2
    go_enter Tryd.func41, Tryd.ntmps41
    go_wp2
    go_ret
    exact ⟨rfl, rfl⟩
/-- Is a place free, is it leased? -/
theorem hasF_any (g : Nat) (i : Nat) (hi : (i : Int) ≤ 9223372036854775807) {m : Pm} {S : Po} (w : World) (h : PoAt w g m S) :
    Calls Tryd.prog 45 #[m.fv, .int .i64 i] w fun e w' => e = .returned (.bool (bitW m.fr i)) ∧ w = w' := has_any i hi w h.pm.fo
theorem pool_has_any (g : Nat) (a : Int) (ha : a ≤ 9223372036854775807) {m : Pm} {S : Po} (w : World) (h : PoAt w g m S) :
    Calls Tryd.prog 26 #[.pointer (some ⟨g, 0, none⟩), .int .i64 a] w fun e w' => e = .returned (.bool (has S a)) ∧ w = w' := by
  obtain ⟨k0, k1, k2⟩ := cells3' h.pm.row
  obtain ⟨hB1, hB2⟩ := h.ok.r.base
  have HM := Lib.hid (isMade_yes g w h.pm hB1)
  by_cases h1 : a < S.base
  · have hf : has S a = false := by rw [Bool.eq_false_iff, ne_eq, has_iff]; omega
    rw [hf]
    clear h k1 k2 hf
    go_enter Tryd.func26, Tryd.ntmps26
    go_wp2_with fail
    refine HM.out.mono ?_
    rintro e w' ⟨rfl, rfl⟩
    go_wp2
    go_ret
    exact ⟨rfl, rfl⟩
  · obtain ⟨i, hi⟩ : ∃ i : Nat, (i : Int) = a - S.base := ⟨(a - S.base).toNat, by omega⟩
    have e : S.base + (i : Int) = a := by omega
    have hh := h.ties.has h.ok (i := i)
    rw [e] at hh
    have x1 : wrap64 (a - S.base) = (i : Int) := by rw [wrap64_in (by omega) (by omega)]; omega
    have HF := Lib.hid (has_any i (by omega) w h.pm.fo)
    have HL := Lib.hid (has_any i (by omega) w h.pm.lo)
    have HH := Lib.hid hh
    obtain ⟨bf, cf, curf, ef, _⟩ := h.pm.fo.at
    obtain ⟨bl, cl, curl, el, _⟩ := h.pm.lo.at
    rw [ef] at HF k1
    rw [el] at HL k2
    obtain ⟨p, hp⟩ : ∃ p, p = bitW m.fr i := ⟨_, rfl⟩
    obtain ⟨q, hq⟩ : ∃ q, q = bitW m.le i := ⟨_, rfl⟩
    rw [← hp] at HF HH
    rw [← hq] at HL HH
    rw [← HH.out]
    rw [hi] at HF HL x1
    clear h hh ef el hp hq HH e hi
    cases p with
    | true =>
      go_enter Tryd.func26, Tryd.ntmps26
      go_wp2_with fail
      refine HM.out.mono ?_
      rintro e w' ⟨rfl, rfl⟩
      go_wp2_with fail
      refine HF.out.mono ?_
      rintro e w' ⟨rfl, rfl⟩
      go_wp2
      go_ret
      exact ⟨rfl, rfl⟩
    | false =>
      go_enter Tryd.func26, Tryd.ntmps26
      go_wp2_with fail
      refine HM.out.mono ?_
      rintro e w' ⟨rfl, rfl⟩
      go_wp2_with fail
      refine HF.out.mono ?_
      rintro e w' ⟨rfl, rfl⟩
      go_wp2_with fail
      refine HL.out.mono ?_
      rintro e w' ⟨rfl, rfl⟩
      go_wp2
      go_ret
      exact ⟨rfl, rfl⟩
theorem pool_free_any (g : Nat) {m : Pm} {S : Po} (w : World) (h : PoAt w g m S) :
    Calls Tryd.prog 24 #[.pointer (some ⟨g, 0, none⟩)] w fun e w' => e = .returned (.int .i64 (free S)) ∧ w = w' := by
  obtain ⟨k0, k1, k2⟩ := cells3' h.pm.row
  have HM := Lib.hid (isMade_yes g w h.pm h.ok.r.base.1)
  have hc := count_any w h.pm.fo
  rw [h.ties.eachF, free_eq h.ok] at hc
  obtain ⟨bf, cf, curf, ef, _⟩ := h.pm.fo.at
  rw [ef] at hc k1
  have HC := Lib.hid hc
  clear h hc ef k2 k0
  go_enter Tryd.func24, Tryd.ntmps24
  go_wp2_with fail
  refine HM.out.mono ?_
  rintro e w' ⟨rfl, rfl⟩
  go_wp2_with fail
  refine HC.out.mono ?_
  rintro e w' ⟨rfl, rfl⟩
  go_wp2
  go_ret
  exact ⟨rfl, rfl⟩
/-- The lowest free place. -/
theorem lowest_any (g : Nat) {m : Pm} {S : Po} (w : World) (h : PoAt w g m S) :
    Calls Tryd.prog 33 #[.pointer (some ⟨g, 0, none⟩)] w fun e w' => e = .returned (match freeL S with | [] => .tuple #[.int .i64 0, .int .i64 121] | i :: _ => .tuple #[.int .i64 (i : Nat), .int .i64 0]) ∧ w = w' := by
  obtain ⟨k0, k1, k2⟩ := cells3' h.pm.row
  have HM := Lib.hid (isMade_yes g w h.pm h.ok.r.base.1)
  have hc := first_any w h.pm.fo h.pm.laid
  rw [h.ties.eachF] at hc
  obtain ⟨bf, cf, curf, ef, _⟩ := h.pm.fo.at
  rw [ef] at hc k1
  cases hfl : freeL S with
  | nil =>
    rw [hfl] at hc
    have HC := Lib.hid hc
    clear h hc ef k2 k0 hfl
    go_enter Tryd.func33, Tryd.ntmps33
    go_wp2_with fail
    refine HM.out.mono ?_
    rintro e w' ⟨rfl, rfl⟩
    go_wp2_with fail
    refine HC.out.mono ?_
    rintro e w' ⟨rfl, rfl⟩
    go_wp2
    go_ret2
    exact ⟨rfl, rfl⟩
  | cons i r =>
    rw [hfl] at hc
    have HC := Lib.hid hc
    clear h hc ef k2 k0 hfl
    go_enter Tryd.func33, Tryd.ntmps33
    go_wp2_with fail
    refine HM.out.mono ?_
    rintro e w' ⟨rfl, rfl⟩
    go_wp2_with fail
    refine HC.out.mono ?_
    rintro e w' ⟨rfl, rfl⟩
    go_wp2
    go_ret2
    exact ⟨rfl, rfl⟩
/-- The place of an address: leased (want = true), or not. -/
theorem find_any (g : Nat) (a : Int) (want : Bool) (other : Int) (ha : a ≤ 9223372036854775807) {m : Pm} {S : Po} (w : World) (h : PoAt w g m S) :
    Calls Tryd.prog 38 #[.pointer (some ⟨g, 0, none⟩), .int .i64 a, .bool want, .int .i64 other] w fun e w' =>
      e = .returned (if has S a = true then (if decide (a ∈ S.L) = want then .tuple #[.int .i64 ((a - S.base).toNat : Nat), .int .i64 0] else .tuple #[.int .i64 0, .int .i64 other]) else .tuple #[.int .i64 0, .int .i64 5]) ∧ w = w' := by
  obtain ⟨k0, k1, k2⟩ := cells3' h.pm.row
  have HM := Lib.hid (isMade_yes g w h.pm h.ok.r.base.1)
  have HHAS := pool_has_any g a ha w h
  by_cases hh : has S a = true
  · rw [hh] at HHAS
    have HP := Lib.hid HHAS
    have hr := has_iff.1 hh
    have hsz := h.ok.r.size
    obtain ⟨i, hi⟩ : ∃ i, i = (a - S.base).toNat := ⟨_, rfl⟩
    have hl := h.ties.leased hh
    rw [← hi] at hl
    have hB := h.ok.r.base
    have x1 : wrap64 (a - S.base) = (i : Int) := by rw [wrap64_in (by omega) (by omega)]; omega
    have hL := has_any i (by omega) w h.pm.lo
    rw [hl] at hL
    have HL := Lib.hid hL
    obtain ⟨bl, cl, curl, el, _⟩ := h.pm.lo.at
    rw [el] at HL k2
    rw [hh, if_pos rfl, ← hi]
    obtain ⟨q, hq⟩ : ∃ q, q = decide (a ∈ S.L) := ⟨_, rfl⟩
    rw [← hq] at HL ⊢
    have hi2 : (i : Int) = a - S.base := by omega
    have X1 := Lib.hid hi2
    rw [hi2] at HL x1
    clear h hl hL el hq hi hi2 HHAS hh hr hsz hB
    cases q <;> cases want
    all_goals
      go_enter Tryd.func38, Tryd.ntmps38
      go_wp2_with fail
      refine HM.out.mono ?_
      rintro e w' ⟨rfl, rfl⟩
      go_wp2_with fail
      refine HP.out.mono ?_
      rintro e w' ⟨rfl, rfl⟩
      go_wp2_with fail
      refine HL.out.mono ?_
      rintro e w' ⟨rfl, rfl⟩
      go_wp2
      go_ret2
      first
        | exact ⟨rfl, rfl⟩
        | exact ⟨by rw [X1.out]; rfl, rfl⟩
  · simp only [Bool.not_eq_true] at hh
    rw [hh] at HHAS
    have HP := Lib.hid HHAS
    rw [hh, if_neg (by simp)]
    clear h HHAS hh k1 k2
    go_enter Tryd.func38, Tryd.ntmps38
    go_wp2_with fail
    refine HM.out.mono ?_
    rintro e w' ⟨rfl, rfl⟩
    go_wp2_with fail
    refine HP.out.mono ?_
    rintro e w' ⟨rfl, rfl⟩
    go_wp2
    go_ret2
    exact ⟨rfl, rfl⟩
end Go.Proofs.YtoemghinolekgaaDoor.Pl
