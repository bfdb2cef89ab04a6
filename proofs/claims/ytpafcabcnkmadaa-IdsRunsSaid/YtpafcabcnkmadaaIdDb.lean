/-
  begin: an allocator, and the document's.
-/
import Derived.Test.YtpafcabcnkmadaaIdDa
namespace Go.Proofs.Ytpafcabcnkmadaa.Id
open Go.RowKit
set_option linter.unusedVariables false
set_option linter.unusedSimpArgs false

def few (lo hi : Int) : Int := if 1 ≤ lo ∧ lo ≤ 65522 ∧ lo + 12 < hi then lo + 12 else hi
theorem few_le {lo hi q : Int} (h : okSet lo (few lo hi) q) : few lo hi ≤ lo + 12 := by
  unfold okSet at h
  revert h
  unfold few
  split <;> omega
/-- What begin has made: a pair of pointers, an allocator, the document's, each in blocks of its own. -/
structure Began (W : World) (gb g gd : Nat) (m : Am) (rv uv ev : Value) (w : World) (S D : Al) : Prop where
  both : w.heap[gb]? = some (.cells #[.pointer (some ⟨g, 0, none⟩), .pointer (some ⟨gd, 0, none⟩)] 49 (0, 0))
  la : LA W g m w S
  doc : DAt w gd rv uv ev D
  apart : ∀ k ∈ Fd gd rv uv ev, k ∉ Fm g m ∧ W.heap.size ≤ k ∧ k < w.heap.size ∧ k ≠ gb
  ne : ∀ k ∈ blk rv ++ (blk uv ++ blk ev), k ≠ gd
  gb : gb ∉ Fm g m ∧ W.heap.size ≤ gb
theorem builtB (g gd : Nat) : Try.prog.built 49 [(0, .pointer (some ⟨g, 0, none⟩)), (1, .pointer (some ⟨gd, 0, none⟩))] = some #[.pointer (some ⟨g, 0, none⟩), .pointer (some ⟨gd, 0, none⟩)] := by kernel_rfl
theorem DAt.gr {w w' : World} {g : Nat} {rv uv ev : Value} {S : Al} (h : DAt w g rv uv ev S) (hb : Below w.heap.size w w') : DAt w' g rv uv ev S := ⟨heap_below h.row hb, Rd.below h.r hb, Rd.below h.u hb, Rd.below h.e hb⟩
set_option maxRecDepth 20000 in
set_option maxHeartbeats 4000000 in
theorem begin_any (W : World) (lo hi q : Int) (w : World) (hb : Below W.heap.size W w) :
    Calls Try.prog 10 #[.int .i64 lo, .int .i64 hi, .int .i64 q] w fun e w' => (¬ okSet lo (few lo hi) q ∧ e = .returned (.tuple #[.pointer none, .bool true]) ∧ Below W.heap.size W w') ∨
      (okSet lo (few lo hi) q ∧ ∃ gb, e = .returned (.tuple #[.pointer (some ⟨gb, 0, none⟩), .bool true]) ∧ ∃ g gd m rv, Began W gb g gd m rv (.slice none 0 0) (.slice none 0 0) w' (born lo (few lo hi) q) (born lo (few lo hi) q)) := by
  have HB := Lib.hid hb
  clear hb
  obtain ⟨F, hF⟩ : ∃ F, F = few lo hi := ⟨_, rfl⟩
  rw [← hF]
  have HFF := Lib.hid hF
  clear hF
  go_enter Try.func10, Try.ntmps10
  obtain ⟨B, hB⟩ : ∃ B, B = decide (1 ≤ lo ∧ lo ≤ 65522 ∧ lo + 12 < hi) := ⟨_, rfl⟩
  have HBB := Lib.hid hB
  clear hB
  go_upto_region 1 with fail
  go_cut [23] (fun s23 wx => s23 = .bool B ∧ wx = w)
  case first =>
    by_cases h1 : 1 ≤ lo
    · by_cases h2 : lo ≤ 65522
      · by_cases h3 : lo + 12 < hi
        · have HBE : Hid (B = true) := by show _ = _; rw [HBB.out]; exact decide_eq_true ⟨h1, h2, h3⟩
          go_wp2_with fail
          go_meet
          exact ⟨by rw [HBE.out], rfl⟩
        · have HBE : Hid (B = false) := by show _ = _; rw [HBB.out]; exact decide_eq_false fun h => h3 h.2.2
          go_wp2_with fail
          go_meet
          exact ⟨by rw [HBE.out], rfl⟩
      · have HBE : Hid (B = false) := by show _ = _; rw [HBB.out]; exact decide_eq_false fun h => h2 h.2.1
        go_wp2_with fail
        go_meet
        exact ⟨by rw [HBE.out], rfl⟩
    · have HBE : Hid (B = false) := by show _ = _; rw [HBB.out]; exact decide_eq_false fun h => h1 h.1
      go_wp2_with fail
      go_meet
      exact ⟨by rw [HBE.out], rfl⟩
  case rest =>
  obtain ⟨hs23, hwc⟩ := hcut
  subst hs23 hwc
  obtain ⟨w0, hw0⟩ : ∃ x, x = wc := ⟨_, rfl⟩
  subst hw0
  go_upto_if 23 with fail
  go_cut [1] (fun s1 wx => s1 = .int .i64 F ∧ wx = w0)
  case first =>
    cases B with
    | true =>
      have h1 := of_decide_eq_true HBB.out.symm
      have HFE : Hid (F = lo + 12) := by show _ = _; rw [HFF.out]; unfold few; rw [if_pos h1]
      obtain ⟨h2, h3, h4⟩ := h1
      go_wp2_with fail
      go_meet
      exact ⟨by rw [HFE.out], rfl⟩
    | false =>
      have h1 := of_decide_eq_false HBB.out.symm
      have HFE : Hid (F = hi) := by show _ = _; rw [HFF.out]; unfold few; rw [if_neg h1]
      clear h1
      go_wp2_with fail
      go_meet
      exact ⟨by rw [HFE.out], rfl⟩
  case rest =>
    obtain ⟨hs1, hwc⟩ := hcut
    subst hs1 hwc
    obtain ⟨w0, hw0⟩ : ∃ x, x = wc := ⟨_, rfl⟩
    subst hw0
    by_cases hok : okSet lo F q
    · have HOK := Lib.hid hok
      clear hok
      go_wp2_with fail
      refine (new_la W lo F q _ HOK.out HB.out).mono ?_
      rintro e w1 ⟨g, rfl, m, hla, hb1, hk⟩
      have HLA := Lib.hid hla
      clear hla hb1 hk
      go_wp2_with fail
      refine (dnew_yes lo F q _ HOK.out).mono ?_
      rintro e w2 ⟨gd, rfl, hgd, rv, hda, hfd, hne, hb2⟩
      have HLA2 := Lib.hid (HLA.out.gr hb2)
      have HDA := Lib.hid hda
      have HFD : Hid (∀ k ∈ Fd gd rv (.slice none 0 0) (.slice none 0 0), k ∉ Fm g m ∧ W.heap.size ≤ k ∧ k < w2.heap.size) := fun k hk => by
        obtain ⟨h1, h2⟩ := hfd k hk
        refine ⟨fun h3 => ?_, Nat.le_trans HLA.out.low.size h1, h2⟩
        have := HLA.out.al.am.lt k h3
        omega
      have HNE := Lib.hid hne
      have hbu := builtB g gd
      clear hda hfd hne hb2 hgd HLA
      have hba : Below w2.heap.size w2 (w2.alloc (.cells #[.pointer (some ⟨g, 0, none⟩), .pointer (some ⟨gd, 0, none⟩)] 49)) := (Below.refl _ _).alloc (Nat.le_refl _) _
      have HBG : Hid (Began W w2.heap.size g gd m rv (.slice none 0 0) (.slice none 0 0) (w2.alloc (.cells #[.pointer (some ⟨g, 0, none⟩), .pointer (some ⟨gd, 0, none⟩)] 49)) (born lo F q) (born lo F q)) := by
        refine ⟨heap_alloc_last _ _, HLA2.out.gr hba, HDA.out.gr hba, fun k hk => ?_, fun k hk => ?_, fun h3 => ?_, HLA2.out.low.size⟩
        · obtain ⟨h1, h2, h3⟩ := HFD.out k hk
          exact ⟨h1, h2, Nat.lt_of_lt_of_le h3 (Below.size hba), by omega⟩
        · simp only [List.mem_append] at hk
          rcases hk with hk | hk | hk
          · exact HNE.out k hk
          · cases hk
          · cases hk
        · have := HLA2.out.al.am.lt _ h3; omega
      clear hba
      go_wp2
      go_ret2
      exact .inr ⟨HOK.out, _, rfl, g, gd, m, rv, HBG.out⟩
    · have HNO := Lib.hid hok
      clear hok
      go_wp2_with fail
      refine (new_no lo F q _ HNO.out).mono ?_
      rintro e w1 ⟨rfl, rfl⟩
      go_wp2_with fail
      refine (dnew_no lo F q _ HNO.out).mono ?_
      rintro e w2 ⟨rfl, rfl⟩
      go_wp2
      go_ret2
      exact .inl ⟨HNO.out, rfl, HB.out⟩
end Go.Proofs.Ytpafcabcnkmadaa.Id
