/-
  The laws' names.
-/
import Derived.Test.YtcpeglljcipcbaaPpN
namespace Go.Proofs.Ytcpeglljcipcbaa
open Go.RowKit
set_option linter.unusedVariables false
set_option linter.unusedSimpArgs false

theorem infoStr : (Try.prog.info? 9).map (fun i => (i.zero, i.size, i.bytes)) = some (some (.string ⟨#[]⟩), 1, 16) := by kernel_rfl
theorem strs_one (ss : List ByteArray) : ∀ u ∈ ss.map Value.string, u.oneCell' = true := by
  intro u hu
  obtain ⟨s, _, rfl⟩ := List.mem_map.1 hu
  rfl
theorem strs_cells {w : World} {a : Option Addr} {n c : Nat} {ss : List ByteArray} (h : Rd w 1 (.slice a n c) n (ss.map Value.string)) (hn : 0 < n) : ∃ b o, a = some ⟨b, o, none⟩ ∧ b < w.heap.size ∧ ∀ j (hj : j < ss.length), w.cell? ⟨b, o + j, none⟩ = some (.string ss[j]) := by
  obtain ⟨b, o, h1, h2, h3⟩ := Rd.cells h hn (by omega)
  exact ⟨b, o, h1, h2, fun j hj => h3 j _ (by simp [hj])⟩

set_option maxHeartbeats 4000000 in
theorem names_any (a : Option Addr) (n c : Nat) (ss : List ByteArray) (w : World) (hr : Rd w 1 (.slice a n c) n (ss.map Value.string)) :
    Calls Try.prog 16 #[.slice a n c] w fun e w' => ∃ a' n' c' us, e = .returned (.slice a' n' c') ∧ StrR w' a' n' c' us ∧ w'.ownsRow w.heap.size 9 1 (.slice a' n' c') n' (us.map Value.string) ∧ Below w.heap.size w w' := by
  obtain ⟨i0, hi, hz0, hz1, hz2⟩ := info_parts infoStr
  have hl : ss.length = n := by have := hr.1; simpa using this
  have HR := Lib.hid hr
  clear hr
  go_enter Try.func16, Try.ntmps16
  go_wp2
  go_loopw [3, 4] (fun ov iv wr => ∃ (k : Nat) (us : List ByteArray), k ≤ n ∧ k ≤ 70 ∧ iv = .int .i64 k ∧ us.length = k ∧ (∀ s ∈ us, s.size ≤ 1600) ∧ wr.ownsRow w.heap.size 9 1 ov k (us.map Value.string) ∧ Below w.heap.size w wr) (fun _ iv _ => 70 - (intOf iv).toNat)
  case atStart => exact ⟨0, [], Nat.zero_le _, Nat.zero_le _, rfl, rfl, (fun s h => by cases h), World.ownsRow_nil _ _ _ _, Below.refl _ _⟩
  case round =>
    obtain ⟨k, us, hk, hk70, rfl, hul, hus, hown, hb⟩ := hrel
    have HB := Lib.hid hb
    have HO := Lib.hid hown
    have HBN := Lib.hid hb.size
    have HUS := Lib.hid hus
    have HUL := Lib.hid hul
    obtain ⟨a0, c0, ev, _, _⟩ := (own_rd hown).shape
    subst ev
    clear hb hown hus hul
    by_cases hlt : k < n
    · by_cases hlt2 : k < 70
      · obtain ⟨b, o, rfl, hbl, hcc⟩ := strs_cells (HR.out.below HB.out) (by omega)
        have hck := hcc k (by omega)
        obtain ⟨s, hs⟩ : ∃ s, s = ss[k] := ⟨_, rfl⟩
        rw [← hs] at hck
        clear hs hcc
        by_cases hv : s.size ≤ 200
        · have hE : Below wr.heap.size wr (wr.alloc (.cells #[.string s] 9)) := (Below.refl _ _).alloc (Nat.le_refl _) _
          have HB1 := Lib.hid (HB.out.trans (hE.mono HBN.out))
          have HO1 := Lib.hid (ownsRow_below HO.out hE)
          have HR1 : Hid (Rd (wr.alloc (.cells #[.string s] 9)) 1 (.slice (some ⟨wr.heap.size, 0, none⟩) 1 1) 1 [.string s]) := rd_new wr [.string s] 9 1 1 rfl (by decide)
          have HSV : Hid (s.size ≤ 1600) := by exact Nat.le_trans hv (by decide)
          clear hE
          go_wp2_with (at_builtin; refine wpList_append_gr _ rfl _ _ 34 rfl w.heap.size 9 i0 _ 1 16 Try.underlying34 hi hz0 hz1 hz2 rfl (by decide) _ _ _ rfl HO1.out _ 1 [.string s] rfl HR1.out (strs_one [s]) (by omega) (by decide) HB1.out.size ?_)
          intro v2 w2 ho2 hg2
          have HB2 := Lib.hid (HB1.out.trans (grown_below HO1.out HB1.out.size hg2))
          have HO2 : Hid (w2.ownsRow w.heap.size 9 1 v2 (k + 1) ((us ++ [s]).map Value.string)) := by
            show World.ownsRow _ _ _ _ _ _ _
            rw [List.map_append]
            exact ho2
          have HU2 : Hid (∀ x ∈ us ++ [s], x.size ≤ 1600) := by
            intro x hx
            rcases List.mem_append.1 hx with hx | hx
            · exact HUS.out x hx
            · rw [List.mem_singleton.1 hx]; exact HSV.out
          have HL2 : Hid ((us ++ [s]).length = k + 1) := by show _ = _; rw [List.length_append, HUL.out]; rfl
          clear ho2 hg2
          go_wp2
          go_roundw
          case rel =>
            first | exact ⟨k + 1, _, by omega, by omega, by go_num, HL2.out, HU2.out, HO2.out, HB2.out⟩ | ((repeat apply Exists.intro); exact ⟨⟨k + 1, _, by omega, by omega, by go_num, HL2.out, HU2.out, HO2.out, HB2.out⟩, rfl⟩)
          case measure => simp [intOf]; omega
        · obtain ⟨s', hs'⟩ : ∃ x, x = s.extract 0 200 := ⟨_, rfl⟩
          have hs2 : s'.size ≤ 200 := by rw [hs', ByteArray.size_extract]; omega
          have hs3 : s.extract 0 200 = s' := hs'.symm
          clear hs'
          have hE : Below wr.heap.size wr (wr.alloc (.cells #[.string s'] 9)) := (Below.refl _ _).alloc (Nat.le_refl _) _
          have HB1 := Lib.hid (HB.out.trans (hE.mono HBN.out))
          have HO1 := Lib.hid (ownsRow_below HO.out hE)
          have HR1 : Hid (Rd (wr.alloc (.cells #[.string s'] 9)) 1 (.slice (some ⟨wr.heap.size, 0, none⟩) 1 1) 1 [.string s']) := rd_new wr [.string s'] 9 1 1 rfl (by decide)
          have HSV : Hid (s'.size ≤ 1600) := by exact Nat.le_trans hs2 (by decide)
          clear hE
          go_wp2_with (at_builtin; refine wpList_append_gr _ rfl _ _ 34 rfl w.heap.size 9 i0 _ 1 16 Try.underlying34 hi hz0 hz1 hz2 rfl (by decide) _ _ _ rfl HO1.out _ 1 [.string s'] rfl HR1.out (strs_one [s']) (by omega) (by decide) HB1.out.size ?_)
          intro v2 w2 ho2 hg2
          have HB2 := Lib.hid (HB1.out.trans (grown_below HO1.out HB1.out.size hg2))
          have HO2 : Hid (w2.ownsRow w.heap.size 9 1 v2 (k + 1) ((us ++ [s']).map Value.string)) := by
            show World.ownsRow _ _ _ _ _ _ _
            rw [List.map_append]
            exact ho2
          have HU2 : Hid (∀ x ∈ us ++ [s'], x.size ≤ 1600) := by
            intro x hx
            rcases List.mem_append.1 hx with hx | hx
            · exact HUS.out x hx
            · rw [List.mem_singleton.1 hx]; exact HSV.out
          have HL2 : Hid ((us ++ [s']).length = k + 1) := by show _ = _; rw [List.length_append, HUL.out]; rfl
          clear ho2 hg2
          go_wp2
          go_roundw
          case rel =>
            first | exact ⟨k + 1, _, by omega, by omega, by go_num, HL2.out, HU2.out, HO2.out, HB2.out⟩ | ((repeat apply Exists.intro); exact ⟨⟨k + 1, _, by omega, by omega, by go_num, HL2.out, HU2.out, HO2.out, HB2.out⟩, rfl⟩)
          case measure => simp [intOf]; omega
      · obtain rfl : k = 70 := by omega
        go_wp2
        go_ret
        exact ⟨_, _, _, us, rfl, ⟨own_rd HO.out, HUS.out, by omega⟩, HO.out, HB.out⟩
    · obtain rfl : n = k := by omega
      go_wp2
      go_ret
      exact ⟨_, _, _, us, rfl, ⟨own_rd HO.out, HUS.out, hk70⟩, HO.out, HB.out⟩
end Go.Proofs.Ytcpeglljcipcbaa
