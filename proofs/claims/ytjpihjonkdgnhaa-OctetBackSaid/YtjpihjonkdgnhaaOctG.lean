import Derived.Test.YtjpihjonkdgnhaaOctF
namespace Go.Proofs.Ytjpihjonkdgnhaa
open Go.RowKit
set_option linter.unusedVariables false
set_option linter.unusedSimpArgs false

/-- The text of the first k bytes. -/
def textK (M : List UInt8) : Nat → List UInt8
  | 0 => []
  | k + 1 => textK M k ++ (if 0 < k then [58] else []) ++ hexP (M.getD k 0)
theorem textK_len (M : List UInt8) : ∀ k, (textK M k).length ≤ 3 * k
  | 0 => by simp [textK]
  | k + 1 => by
    have := textK_len M k
    simp only [textK, List.length_append]
    split <;> simp [hexP] <;> omega

/-- A byte of an address. -/
theorem mac_at (m0 m1 m2 m3 m4 m5 : UInt8) (k : Nat) (hk : k < 6) (w : World) :
    (Instr.index 38 (.agg #[.int .u8 (m0.toNat : Int), .int .u8 (m1.toNat : Int), .int .u8 (m2.toNat : Int), .int .u8 (m3.toNat : Int), .int .u8 (m4.toNat : Int), .int .u8 (m5.toNat : Int)]) (.int .i64 (k : Int))).run Try.prog w = .ok (.int .u8 (([m0, m1, m2, m3, m4, m5].getD k 0).toNat : Int)) w := by
  have hk' : k = 0 ∨ k = 1 ∨ k = 2 ∨ k = 3 ∨ k = 4 ∨ k = 5 := by omega
  rcases hk' with rfl | rfl | rfl | rfl | rfl | rfl
  all_goals rfl

/-- octet.Text -/
theorem text_any (w : World) (m0 m1 m2 m3 m4 m5 : UInt8) :
    Calls Try.prog 21 #[.agg #[.int .u8 (m0.toNat : Int), .int .u8 (m1.toNat : Int), .int .u8 (m2.toNat : Int), .int .u8 (m3.toNat : Int), .int .u8 (m4.toNat : Int), .int .u8 (m5.toNat : Int)]] w fun e w' => e = .returned (.string ⟨(textK [m0, m1, m2, m3, m4, m5] 6).toArray⟩) ∧ Below w.heap.size w w' := by
  obtain ⟨i0, hi, hz0, hz1, hz2⟩ := info_parts info5
  have HAT := Lib.hid (mac_at m0 m1 m2 m3 m4 m5)
  go_enter Try.func21, Try.ntmps21
  go_wp2_with (at_make; refine wpList_make_own _ rfl _ _ 23 rfl w.heap.size 5 i0 (.int .u8 0) 1 Try.underlying23 hi hz0 hz1 _ _ _ 17 rfl rfl rfl ?c1 ?c2 ?c3 ?_)
  case c1 => rw [hz2]; omega
  case c2 => unfold maxLen; omega
  case c3 => simp
  intro w1 hown hg
  have hb : Below w.heap.size w w1 := ((Below.refl _ _).alloc (Nat.le_refl _) _).grown hg (by simp) (fun _ h => by cases h)
  have hbox := hg.block w.heap.size (by simp) (by simp)
  rw [heap_alloc_new] at hbox
  obtain ⟨hc0, hc1, hc2, hc3, hc4, hc5⟩ := cells6 hbox
  clear hg hbox
  go_wp2
  clear hc0 hc1 hc2 hc3 hc4 hc5
  go_loopw [3, 8] (fun tv iv wr => ∃ k : Nat, k ≤ 6 ∧ iv = .int .i64 k ∧ OwnB wr w.heap.size 5 tv (textK [m0, m1, m2, m3, m4, m5] k) ∧ Below w.heap.size w wr) (fun _ iv _ => 6 - (intOf iv).toNat)
  case atStart => exact ⟨0, Nat.zero_le _, rfl, ownsRow_mono (by simpa [OwnB, textK] using hown) (by simp), hb⟩
  case round =>
    clear hown hb
    obtain ⟨k, hk, rfl, hown, hb⟩ := hrel
    have hlen := textK_len [m0, m1, m2, m3, m4, m5] k
    have hsz := hb.size
    by_cases hlt : k < 6
    · have hat := HAT.out k hlt
      obtain ⟨x, hx⟩ : ∃ x, x = [m0, m1, m2, m3, m4, m5].getD k 0 := ⟨_, rfl⟩
      rw [← hx] at hat
      have HX := Lib.hid hx
      clear hx
      have hx8 := UInt8.toNat_lt x
      have HO := Lib.hid hown
      clear hown
      obtain ⟨tk, htk⟩ : ∃ tk, tk = textK [m0, m1, m2, m3, m4, m5] k := ⟨_, rfl⟩
      rw [← htk] at hlen
      have HT := Lib.hid htk
      clear htk
      by_cases hk0 : k = 0
      · rw [show ((k : Nat) : Int) = 0 from by omega] at hat
        subst hk0
        go_wp2_with (go_at_call 30; refine (appendPair_any _ w.heap.size _ _ x HO.out hsz (by simp [textK])).mono ?_; rintro e w' ⟨v', rfl, hown', hbel'⟩)
        go_roundw
        case rel =>
          refine ⟨1, by omega, by go_num, ?_, hb.trans (by assumption)⟩
          have e1 : textK [m0, m1, m2, m3, m4, m5] 1 = textK [m0, m1, m2, m3, m4, m5] 0 ++ hexP x := by rw [HX.out]; simp [textK]
          rw [e1]
          assumption
        case measure => simp [intOf]
      · go_wp2_with (at_builtin; refine wpList_append_rd _ rfl _ _ 23 rfl w.heap.size 5 i0 (.int .u8 0) 1 1 Try.underlying23 hi hz0 hz1 hz2 rfl (by decide) _ tk.length (tk.map u8v) rfl ?c0 _ 1 [.int .u8 58] rfl (rd_new _ _ _ 1 1 rfl (by decide)) ?c4 ?c1 (by decide) ?c2 ?_)
        case c0 => rw [HT.out]; exact World.ownsRow.alloc HO.out _
        case c4 => intro u hu; simp at hu; subst hu; rfl
        case c1 => omega
        case c2 => simp; omega
        intro v' w1 hown' hbel
        have hown2 : OwnB w1 w.heap.size 5 v' (tk ++ [58]) := by unfold OwnB; simpa [u8v] using hown'
        have hsz2 := hbel.size
        simp only [World.size_alloc] at hsz2
        have hle : w.heap.size ≤ w1.heap.size := by omega
        clear hown' hsz2
        go_wp2_with (go_at_call 30; refine (appendPair_any _ w.heap.size _ _ x hown2 hle (by simp; omega)).mono ?_; rintro e w' ⟨v', rfl, hown', hbel'⟩)
        go_roundw
        case rel =>
          refine ⟨k + 1, by omega, by go_num, ?_, ((hb.alloc hsz _).trans hbel).trans (by assumption)⟩
          have e1 : textK [m0, m1, m2, m3, m4, m5] (k + 1) = tk ++ [58] ++ hexP x := by rw [HX.out, HT.out]; simp only [textK]; rw [if_pos (by omega)]
          rw [e1]
          assumption
        case measure => simp [intOf]; omega
    · obtain rfl : k = 6 := by omega
      have hcv := run_string_of (P := Try.prog) 23 9 5 Try.underlying23 Try.underlying5 Try.underlying9 hown.bs
      clear hown
      go_wp2
      go_ret
      exact ⟨rfl, hb⟩
end Go.Proofs.Ytjpihjonkdgnhaa
