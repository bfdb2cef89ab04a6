import Derived.Test.YtjpihjonkdgnhaaOctL
namespace Go.Proofs.Ytjpihjonkdgnhaa
open Go.RowKit
set_option linter.unusedVariables false
set_option linter.unusedSimpArgs false

theorem awake_parse (w : World) : Calls Try.prog 19 #[.string (⟨#[48, 50, 58, 48, 48, 58, 48, 48, 58, 48, 48, 58, 48, 48, 58, 97, 98]⟩ : ByteArray)] w fun e w' => e = .returned (.tuple #[.agg #[.int .u8 2, .int .u8 0, .int .u8 0, .int .u8 0, .int .u8 0, .int .u8 171], .int .i64 0]) ∧ Below w.heap.size w w' :=
  parse_yes w (⟨#[48, 50, 58, 48, 48, 58, 48, 48, 58, 48, 48, 58, 48, 48, 58, 97, 98]⟩ : ByteArray) ⟨by decide, by decide⟩
theorem awake_unhex (w : World) : Calls Try.prog 15 #[.string ⟨#[48]⟩] w fun e w' => e = .returned (.tuple #[.slice none 0 0, .int .i64 10]) ∧ Below w.heap.size w w' :=
  unhex_no w ⟨#[48]⟩ (by decide) (by rintro ⟨h, _⟩; revert h; decide)
theorem awake_put (w : World) : Calls Try.prog 12 #[.int .u64 258, .int .i64 3] w fun e w' => ∃ ao cap, e = .returned (.slice ao 3 cap) ∧ (∀ w2, Gr w' w2 → (convert 23 9 (.slice ao 3 cap)).run Try.prog w2 = .ok (.string ⟨#[0, 1, 2]⟩) w2) ∧ Below w.heap.size w w' := by
  refine (put_yes 258 3 w (by omega) (by omega) (by omega)).mono ?_
  rintro e w' ⟨v, rfl, hown, hb⟩
  have e1 : putL 258 3 = [0, 1, 2] := by decide
  rw [e1] at hown
  obtain ⟨ao, cap, rfl, hc1, hc2⟩ := hown.bs.shape
  exact ⟨ao, cap, rfl, fun w2 hg => run_string_of 23 9 5 Try.underlying23 Try.underlying5 Try.underlying9 (hown.bs.below hg), hb⟩
theorem awake_kind (w : World) : Calls Try.prog 23 #[.agg #[.int .u8 2, .int .u8 0, .int .u8 0, .int .u8 0, .int .u8 0, .int .u8 171]] w fun e w' => e = .returned (.int .i64 4) ∧ Below w.heap.size w w' :=
  kind_any w 2 0 0 0 0 171

theorem awake_any (w : World) : Calls Try.prog 14 #[] w fun e w' => e = .returned (.bool true) ∧ Below w.heap.size w w' := by
  obtain ⟨i0, hi, hz0, hz1, hz2⟩ := info_parts info5
  have qm := fun w => run_eql_array (P := Try.prog) Try.underlying38 Try.underlying5 hi hz1 [2, 0, 0, 0, 0, 171] [2, 0, 0, 0, 0, 171] rfl rfl w
  simp only [List.map_cons, List.map_nil, decide_true] at qm
  clear hi hz0 hz1 hz2
  go_enter Try.func14, Try.ntmps14
  go_wp2_with fail
  refine (awake_parse _).mono ?_
  rintro e w1 ⟨rfl, hb1⟩
  go_wp2_with fail
  refine (awake_unhex _).mono ?_
  rintro e w2 ⟨rfl, hb2⟩
  have hsz := hb1.size
  have hsz2 := hb2.size
  simp only [World.size_alloc] at hsz2
  have hm := mac_cell 2 0 0 0 0 171 w1 38
  have hcs : ∀ k v, (w1.alloc (.cells #[.int .u8 2, .int .u8 0, .int .u8 0, .int .u8 0, .int .u8 0, .int .u8 171] 38)).cell? ⟨w1.heap.size, k, none⟩ = some v → w2.cell? ⟨w1.heap.size, k, none⟩ = some v := fun k v h => cell_gr hb2 h
  have c0 := hcs 0 _ (hm 0 (by omega))
  have c1 := hcs 1 _ (hm 1 (by omega))
  have c2 := hcs 2 _ (hm 2 (by omega))
  have c3 := hcs 3 _ (hm 3 (by omega))
  have c4 := hcs 4 _ (hm 4 (by omega))
  have c5 := hcs 5 _ (hm 5 (by omega))
  clear hm hcs
  go_wp2_with fail
  refine (awake_put _).mono ?_
  rintro e w3 ⟨ao, cap, rfl, hcv, hb3⟩
  have hcv3 := hcv w3 (Gr.refl w3)
  have d0 := cell_gr hb3 c0
  have d1 := cell_gr hb3 c1
  have d2 := cell_gr hb3 c2
  have d3 := cell_gr hb3 c3
  have d4 := cell_gr hb3 c4
  have d5 := cell_gr hb3 c5
  have hsz3 := hb3.size
  clear c0 c1 c2 c3 c4 c5 hcv
  go_wp2_with fail
  refine (awake_kind _).mono ?_
  rintro e w4 ⟨rfl, hb4⟩
  have hsz4 := hb4.size
  obtain ⟨O, hO⟩ : ∃ O, O = Obj.cells #[.int .u8 97] 5 (1, 2) := ⟨_, rfl⟩
  have hr1 : Rd (w4.alloc O) 1 (.slice (some ⟨w4.heap.size, 0, none⟩) 1 1) 1 [u8v 97] := by rw [hO]; exact rd_newm w4 [u8v 97] 5 (1, 2) 1 1 rfl (by decide)
  have hr2 : Rd ((w4.alloc O).alloc O) 1 (.slice (some ⟨(w4.alloc O).heap.size, 0, none⟩) 1 1) 1 [u8v 97] := by
    have := rd_newm (w4.alloc O) [u8v 97] 5 (1, 2) 1 1 rfl (by decide)
    rw [hO] at this ⊢
    exact this
  have hr1' := Rd.below hr1 ((Below.refl _ _).alloc (Nat.le_refl _) O)
  have he := equal_any ((w4.alloc O).alloc O) (some ⟨w4.heap.size, 0, none⟩) (some ⟨(w4.alloc O).heap.size, 0, none⟩) 1 1 1 1 [97] [97] rfl rfl hr1' hr2
  rw [hO, World.size_alloc] at he
  have HE := Lib.hid he
  clear he hr1 hr2 hr1' hO
  have kc := fun (w : World) (C : Array Value) (n c : Nat) => Lib.run_convert_bytes_const (P := Try.prog) w 23 5 C n c Try.underlying23 Try.underlying5
  have kc2 := Lib.run_convert_bytes_const (P := Try.prog) (w4.alloc (.cells #[.int .u8 97] 5 (1, 2))) 23 5 #[.int .u8 97] 1 1 Try.underlying23 Try.underlying5
  rw [World.size_alloc] at kc2
  go_wp2_with fail
  refine (HE.out).mono ?_
  rintro e w5 ⟨rfl, rfl⟩
  go_wp2
  go_ret
  exact ⟨rfl, (((hb1.alloc hsz _).trans (Below.mono hb2 (by simp; omega))).trans (Below.mono hb3 (by omega))).trans ((Below.mono hb4 (by omega)).trans (((Below.refl _ _).alloc (by omega) _).alloc (by simp; omega) _))⟩
end Go.Proofs.Ytjpihjonkdgnhaa
