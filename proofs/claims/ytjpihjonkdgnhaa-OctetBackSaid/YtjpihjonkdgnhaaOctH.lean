import Derived.Test.YtjpihjonkdgnhaaOctG
namespace Go.Proofs.Ytjpihjonkdgnhaa
open Go.RowKit
set_option linter.unusedVariables false
set_option linter.unusedSimpArgs false

theorem mac_cell (m0 m1 m2 m3 m4 m5 : UInt8) (w : World) (e : TypeId) (k : Nat) (hk : k < 6) : (w.alloc (.cells #[.int .u8 (m0.toNat : Int), .int .u8 (m1.toNat : Int), .int .u8 (m2.toNat : Int), .int .u8 (m3.toNat : Int), .int .u8 (m4.toNat : Int), .int .u8 (m5.toNat : Int)] e)).cell? ⟨w.heap.size, k, none⟩ = some (.int .u8 (([m0, m1, m2, m3, m4, m5].getD k 0).toNat : Int)) := by
  rw [World.cell?_alloc_new]
  have hk' : k = 0 ∨ k = 1 ∨ k = 2 ∨ k = 3 ∨ k = 4 ∨ k = 5 := by omega
  rcases hk' with rfl | rfl | rfl | rfl | rfl | rfl
  all_goals rfl

/-- ref.Text -/
theorem rtext_any (w : World) (m0 m1 m2 m3 m4 m5 : UInt8) :
    Calls Try.prog 22 #[.agg #[.int .u8 (m0.toNat : Int), .int .u8 (m1.toNat : Int), .int .u8 (m2.toNat : Int), .int .u8 (m3.toNat : Int), .int .u8 (m4.toNat : Int), .int .u8 (m5.toNat : Int)]] w fun e w' => e = .returned (.string ⟨(textK [m0, m1, m2, m3, m4, m5] 6).toArray⟩) ∧ Below w.heap.size w w' := by
  have HAT := Lib.hid (mac_cell m0 m1 m2 m3 m4 m5 w 38)
  go_enter Try.func22, Try.ntmps22
  go_wp2
  go_loopw [3, 4] (fun tv iv wr => ∃ k : Nat, k ≤ 6 ∧ iv = .int .i64 k ∧ tv = .string ⟨(textK [m0, m1, m2, m3, m4, m5] k).toArray⟩ ∧ Below (w.heap.size + 1) (w.alloc (.cells #[.int .u8 (m0.toNat : Int), .int .u8 (m1.toNat : Int), .int .u8 (m2.toNat : Int), .int .u8 (m3.toNat : Int), .int .u8 (m4.toNat : Int), .int .u8 (m5.toNat : Int)] 38)) wr) (fun _ iv _ => 6 - (intOf iv).toNat)
  case atStart => exact ⟨0, Nat.zero_le _, rfl, by simp [textK], Below.refl _ _⟩
  case round =>
    obtain ⟨k, hk, rfl, rfl, hb⟩ := hrel
    have hlen := textK_len [m0, m1, m2, m3, m4, m5] k
    have hsz := hb.size
    simp only [World.size_alloc] at hsz
    by_cases hlt : k < 6
    · have hat : wr.cell? ⟨w.heap.size, k, none⟩ = some (.int .u8 (([m0, m1, m2, m3, m4, m5].getD k 0).toNat : Int)) := (hb.cell (by simp)).trans (HAT.out k hlt)
      obtain ⟨x, hx⟩ : ∃ x, x = [m0, m1, m2, m3, m4, m5].getD k 0 := ⟨_, rfl⟩
      rw [← hx] at hat
      have HX := Lib.hid hx
      clear hx
      have hx8 := UInt8.toNat_lt x
      obtain ⟨tk, htk⟩ : ∃ tk, tk = textK [m0, m1, m2, m3, m4, m5] k := ⟨_, rfl⟩
      rw [← htk] at hlen ⊢
      have HT := Lib.hid htk
      clear htk
      have t1 := run_add_lists (P := Try.prog) tk [58] (by simp; omega)
      have t2 := run_add_lists (P := Try.prog) (tk ++ [58]) (hexL [x]) (by simp [hexL, hexP]; omega)
      have t3 := run_add_lists (P := Try.prog) tk (hexL [x]) (by simp [hexL, hexP]; omega)
      have hbs : Bs (wr.alloc (.cells #[.int .u8 (x.toNat : Int)] 5)) (.slice (some ⟨wr.heap.size, 0, none⟩) 1 1) [x] := rd_new wr [u8v x] 5 1 1 rfl (by decide)
      by_cases hk0 : k = 0
      · rw [show ((k : Nat) : Int) = 0 from by omega]
        rw [hk0] at hat
        go_wp2_with (go_at_call 18; refine (rhex_any _ _ 1 1 [x] rfl hbs (by omega)).mono ?_; rintro e w' ⟨rfl, hbel'⟩)
        go_roundw
        case rel =>
          refine ⟨1, by omega, by go_num, ?_, (hb.alloc (by omega) _).trans (Below.mono (by assumption) (by simp; omega))⟩
          have e1 : textK [m0, m1, m2, m3, m4, m5] 1 = tk ++ hexL [x] := by rw [HX.out, HT.out, hk0]; simp [textK, hexL]
          rw [e1]
        case measure => simp [intOf]
      · go_wp2_with (go_at_call 18; refine (rhex_any _ _ 1 1 [x] rfl hbs (by omega)).mono ?_; rintro e w' ⟨rfl, hbel'⟩)
        go_roundw
        case rel =>
          refine ⟨k + 1, by omega, by go_num, ?_, (hb.alloc (by omega) _).trans (Below.mono (by assumption) (by simp; omega))⟩
          have e1 : textK [m0, m1, m2, m3, m4, m5] (k + 1) = tk ++ [58] ++ hexL [x] := by rw [HX.out, HT.out]; simp only [textK]; rw [if_pos (by omega)]; simp [hexL]
          rw [e1]; simp
        case measure => simp [intOf]; omega
    · obtain rfl : k = 6 := by omega
      go_wp2
      go_ret
      exact ⟨rfl, ((Below.refl _ _).alloc (Nat.le_refl _) _).trans (Below.mono hb (by omega))⟩

/-- Which kind an address is. -/
def kindN (m0 m1 m2 m3 m4 m5 : UInt8) : Nat :=
  if m0.toNat + m1.toNat + m2.toNat + m3.toNat + m4.toNat + m5.toNat = 0 then 1
  else if m0.toNat + m1.toNat + m2.toNat + m3.toNat + m4.toNat + m5.toNat = 1530 then 2
  else if m0.toNat % 2 = 1 then 3 else 4

theorem u8_and1 (a : Nat) (ha : a < 256) : bits .and .u8 (a : Int) 1 = ((a % 2 : Nat) : Int) := by
  have e : (1 : Int) = ((1 : Nat) : Int) := rfl
  rw [e, u8_and_nat a 1 ha (by decide)]
  congr 1
  exact Nat.and_two_pow_sub_one_eq_mod a 1

/-- octet.Kind -/
theorem kind_any (w : World) (m0 m1 m2 m3 m4 m5 : UInt8) :
    Calls Try.prog 23 #[.agg #[.int .u8 (m0.toNat : Int), .int .u8 (m1.toNat : Int), .int .u8 (m2.toNat : Int), .int .u8 (m3.toNat : Int), .int .u8 (m4.toNat : Int), .int .u8 (m5.toNat : Int)]] w fun e w' => e = .returned (.int .i64 (kindN m0 m1 m2 m3 m4 m5 : Nat)) ∧ Below w.heap.size w w' := by
  obtain ⟨i0, hi, hz0, hz1, hz2⟩ := info_parts info5
  have b0 := UInt8.toNat_lt m0
  have b1 := UInt8.toNat_lt m1
  have b2 := UInt8.toNat_lt m2
  have b3 := UInt8.toNat_lt m3
  have b4 := UInt8.toNat_lt m4
  have b5 := UInt8.toNat_lt m5
  have q0 := fun w => run_eql_array (P := Try.prog) Try.underlying38 Try.underlying5 hi hz1 [m0.toNat, m1.toNat, m2.toNat, m3.toNat, m4.toNat, m5.toNat] [0, 0, 0, 0, 0, 0] rfl rfl w
  have q1 := fun w => run_eql_array (P := Try.prog) Try.underlying38 Try.underlying5 hi hz1 [m0.toNat, m1.toNat, m2.toNat, m3.toNat, m4.toNat, m5.toNat] [255, 255, 255, 255, 255, 255] rfl rfl w
  have d0 : decide ([(m0.toNat : Int), m1.toNat, m2.toNat, m3.toNat, m4.toNat, m5.toNat] = [0, 0, 0, 0, 0, 0]) = decide (m0.toNat + m1.toNat + m2.toNat + m3.toNat + m4.toNat + m5.toNat = 0) := by
    rw [decide_eq_decide]; simp only [List.cons.injEq, and_true]; omega
  have d1 : decide ([(m0.toNat : Int), m1.toNat, m2.toNat, m3.toNat, m4.toNat, m5.toNat] = [255, 255, 255, 255, 255, 255]) = decide (m0.toNat + m1.toNat + m2.toNat + m3.toNat + m4.toNat + m5.toNat = 1530) := by
    rw [decide_eq_decide]; simp only [List.cons.injEq, and_true]; omega
  rw [d0] at q0
  rw [d1] at q1
  simp only [List.map_cons, List.map_nil] at q0 q1
  have q2 := u8_and1 m0.toNat b0
  have hc := mac_cell m0 m1 m2 m3 m4 m5 w 38
  have c0 := hc 0 (by omega)
  have c1 := hc 1 (by omega)
  have c2 := hc 2 (by omega)
  have c3 := hc 3 (by omega)
  have c4 := hc 4 (by omega)
  have c5 := hc 5 (by omega)
  simp only [List.getD_cons_zero, List.getD_cons_succ] at c0 c1 c2 c3 c4 c5
  clear hc hi hz0 hz1 hz2 d0 d1
  unfold kindN
  by_cases h0 : m0.toNat + m1.toNat + m2.toNat + m3.toNat + m4.toNat + m5.toNat = 0
  · rw [if_pos h0]
    simp only [h0, decide_true] at q0
    have H0 := Lib.hid h0
    clear h0
    go_enter Try.func23, Try.ntmps23
    go_wp2
    go_ret
    exact ⟨rfl, (Below.refl _ _).alloc (Nat.le_refl _) _⟩
  · rw [if_neg h0]
    have e0 : decide (m0.toNat + m1.toNat + m2.toNat + m3.toNat + m4.toNat + m5.toNat = 0) = false := by simp; omega
    rw [e0] at q0
    clear e0 h0
    by_cases h1 : m0.toNat + m1.toNat + m2.toNat + m3.toNat + m4.toNat + m5.toNat = 1530
    · rw [if_pos h1]
      simp only [h1, decide_true] at q1
      clear h1
      go_enter Try.func23, Try.ntmps23
      go_wp2
      go_ret
      exact ⟨rfl, (Below.refl _ _).alloc (Nat.le_refl _) _⟩
    · rw [if_neg h1]
      have e1 : decide (m0.toNat + m1.toNat + m2.toNat + m3.toNat + m4.toNat + m5.toNat = 1530) = false := by simp; omega
      rw [e1] at q1
      clear e1 h1
      by_cases h2 : m0.toNat % 2 = 1
      · rw [if_pos h2]
        rw [h2] at q2
        have e2 : (((1 : Nat) : Int) == 1) = true := rfl
        clear h2
        go_enter Try.func23, Try.ntmps23
        go_wp2
        go_ret
        exact ⟨rfl, (Below.refl _ _).alloc (Nat.le_refl _) _⟩
      · rw [if_neg h2]
        have h3 : m0.toNat % 2 = 0 := by omega
        rw [h3] at q2
        clear h2 h3
        go_enter Try.func23, Try.ntmps23
        go_wp2
        go_ret
        exact ⟨rfl, (Below.refl _ _).alloc (Nat.le_refl _) _⟩

set_option maxHeartbeats 1600000 in
/-- ref.Kind -/
theorem rkind_any (w : World) (m0 m1 m2 m3 m4 m5 : UInt8) :
    Calls Try.prog 24 #[.agg #[.int .u8 (m0.toNat : Int), .int .u8 (m1.toNat : Int), .int .u8 (m2.toNat : Int), .int .u8 (m3.toNat : Int), .int .u8 (m4.toNat : Int), .int .u8 (m5.toNat : Int)]] w fun e w' => e = .returned (.int .i64 (kindN m0 m1 m2 m3 m4 m5 : Nat)) ∧ Below w.heap.size w w' := by
  have b0 := UInt8.toNat_lt m0
  have b1 := UInt8.toNat_lt m1
  have b2 := UInt8.toNat_lt m2
  have b3 := UInt8.toNat_lt m3
  have b4 := UInt8.toNat_lt m4
  have b5 := UInt8.toNat_lt m5
  have hc := mac_cell m0 m1 m2 m3 m4 m5 w 38
  have c0 := hc 0 (by omega)
  have c1 := hc 1 (by omega)
  have c2 := hc 2 (by omega)
  have c3 := hc 3 (by omega)
  have c4 := hc 4 (by omega)
  have c5 := hc 5 (by omega)
  simp only [List.getD_cons_zero, List.getD_cons_succ] at c0 c1 c2 c3 c4 c5
  clear hc
  unfold kindN
  by_cases h0 : m0.toNat + m1.toNat + m2.toNat + m3.toNat + m4.toNat + m5.toNat = 0
  · rw [if_pos h0]
    have e0 : ((m0.toNat : Int) + m1.toNat + m2.toNat + m3.toNat + m4.toNat + m5.toNat == 0) = true := by simp; omega
    go_enter Try.func24, Try.ntmps24
    go_wp2
    refine wp_loop_rounds 7 ?_
    iterate 7 (rw [rounds_succ]; go_wp2)
    go_ret
    exact ⟨rfl, (Below.refl _ _).alloc (Nat.le_refl _) _⟩
  · rw [if_neg h0]
    have e0 : ((m0.toNat : Int) + m1.toNat + m2.toNat + m3.toNat + m4.toNat + m5.toNat == 0) = false := by simp; omega
    by_cases h1 : m0.toNat + m1.toNat + m2.toNat + m3.toNat + m4.toNat + m5.toNat = 1530
    · rw [if_pos h1]
      have e1 : ((m0.toNat : Int) + m1.toNat + m2.toNat + m3.toNat + m4.toNat + m5.toNat == 1530) = true := by simp; omega
      clear h0 h1
      go_enter Try.func24, Try.ntmps24
      go_wp2
      refine wp_loop_rounds 7 ?_
      iterate 7 (rw [rounds_succ]; go_wp2)
      go_ret
      exact ⟨rfl, (Below.refl _ _).alloc (Nat.le_refl _) _⟩
    · rw [if_neg h1]
      have e1 : ((m0.toNat : Int) + m1.toNat + m2.toNat + m3.toNat + m4.toNat + m5.toNat == 1530) = false := by simp; omega
      clear h0 h1
      by_cases h2 : m0.toNat % 2 = 1
      · rw [if_pos h2]
        have e2 : ((m0.toNat : Int) % 2 == 1) = true := by simp; omega
        clear h2
        go_enter Try.func24, Try.ntmps24
        go_wp2
        refine wp_loop_rounds 7 ?_
        iterate 7 (rw [rounds_succ]; go_wp2)
        go_ret
        exact ⟨rfl, (Below.refl _ _).alloc (Nat.le_refl _) _⟩
      · rw [if_neg h2]
        have e2 : ((m0.toNat : Int) % 2 == 1) = false := by simp; omega
        clear h2
        go_enter Try.func24, Try.ntmps24
        go_wp2
        refine wp_loop_rounds 7 ?_
        iterate 7 (rw [rounds_succ]; go_wp2)
        go_ret
        exact ⟨rfl, (Below.refl _ _).alloc (Nat.le_refl _) _⟩
end Go.Proofs.Ytjpihjonkdgnhaa
