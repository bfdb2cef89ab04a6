/-
  The document's Is: which ranges may be.
-/
import Derived.Test.YtoemghinolekgaaDoorPlKc
import Derived.Test.YtoemghinolekgaaDoorPlF
namespace Go.Proofs.YtoemghinolekgaaDoor.Pl
open Go.RowKit
open Go.Proofs.YtoemghinolekgaaDoor.Id (Tr Tr.refl Tr.gr Tr.only blk own_blk IR IR.cells IR.shape IR.nil)
set_option linter.unusedVariables false
set_option linter.unusedSimpArgs false

theorem okB_len {b z : Int} {l : List Int} (h : okB b z l = true) : (l.length : Int) ≤ z := by
  have hr := okB_iff.1 h
  obtain ⟨Z, hZ⟩ : ∃ Z : Nat, (Z : Int) = z := ⟨z.toNat, by have := hr.size; omega⟩
  rw [← hZ] at hr ⊢
  have := parts (born_ok hr)
  have e1 : (born b Z l).res = l := rfl
  have e2 : (born b Z l).size = Z := rfl
  rw [e1, e2] at this
  omega
/-- The lowest place that may stand behind the first i. -/
def lowB (l : List Int) (i : Nat) : Int := if i = 0 then 0 else l.getD (i - 1) 0 + 1
theorem lowB_succ {l : List Int} {i : Nat} (hi : i < l.length) : lowB l (i + 1) = l[i] + 1 := by
  unfold lowB
  rw [if_neg (by omega), Nat.add_sub_cancel, List.getD_eq_getElem?_getD, List.getElem?_eq_getElem hi]
  rfl
set_option maxRecDepth 20000 in
set_option maxHeartbeats 4000000 in
theorem is_any (b z : Int) {v : Value} {l : List Int} (wb : -9223372036854775808 ≤ b ∧ b ≤ 9223372036854775807) (wz : -9223372036854775808 ≤ z ∧ z ≤ 9223372036854775807) (w : World) (h : IR w v l) :
    Calls Tryd.prog 11 #[.agg #[.int .i64 b, .int .i64 z, v]] w fun e w' => e = .returned (.bool (okB b z l)) ∧ Below w.heap.size w w' := by
  obtain ⟨a, c, rfl, hc1, hc2⟩ := h.shape
  have HI := Lib.hid h
  obtain ⟨n, hn⟩ : ∃ n, n = l.length := ⟨_, rfl⟩
  have hn63 : (n : Int) ≤ 9223372036854775807 := by unfold maxLen at hc2; omega
  have HN := Lib.hid hn
  rw [← hn] at HI hc1 ⊢
  have HB1 : Hid (Below w.heap.size w (w.alloc (.cells #[.int .i64 b, .int .i64 z, .slice a n c] 24))) := (Below.refl _ _).alloc (Nat.le_refl _) _
  have HG1 : Hid ((w.alloc (.cells #[.int .i64 b, .int .i64 z, .slice a n c] 24)).heap[w.heap.size]? = some (.cells #[.int .i64 b, .int .i64 z, .slice a n c] 24 (0, 0))) := heap_alloc_last _ _
  clear h hc2
  have no : ∀ {P : Prop}, (okB b z l = true → P) → ¬ P → okB b z l = false := fun h hp => by
    cases hk : okB b z l with
    | true => exact absurd (h hk) hp
    | false => rfl
  by_cases h1 : 1 ≤ b
  case neg =>
    rw [no (fun h => (okB_iff.1 h).base.1) h1]
    clear no hn
    go_enter Tryd.func11, Tryd.ntmps11
    go_wp2
    go_ret
    exact ⟨rfl, HB1.out⟩
  by_cases h2 : b ≤ 4294967294
  case neg =>
    rw [no (fun h => (okB_iff.1 h).base.2) h2]
    clear no hn
    go_enter Tryd.func11, Tryd.ntmps11
    go_wp2
    go_ret
    exact ⟨rfl, HB1.out⟩
  by_cases h3 : 0 ≤ z
  case neg =>
    rw [no (fun h => (okB_iff.1 h).size.1) h3]
    clear no hn
    go_enter Tryd.func11, Tryd.ntmps11
    go_wp2
    go_ret
    exact ⟨rfl, HB1.out⟩
  by_cases h4 : z ≤ 65536
  case neg =>
    rw [no (fun h => (okB_iff.1 h).size.2) h4]
    clear no hn
    go_enter Tryd.func11, Tryd.ntmps11
    go_wp2
    go_ret
    exact ⟨rfl, HB1.out⟩
  have x1 : wrap64 (b + z) = b + z := wrap64_in (by omega) (by omega)
  by_cases h5 : b + z ≤ 4294967295
  case neg =>
    rw [no (fun h => (okB_iff.1 h).last) h5]
    clear no hn
    go_enter Tryd.func11, Tryd.ntmps11
    go_wp2
    go_ret
    exact ⟨rfl, HB1.out⟩
  by_cases h6 : (n : Int) ≤ z
  case neg =>
    rw [no (fun h => by rw [hn]; exact okB_len h) h6]
    clear no hn
    go_enter Tryd.func11, Tryd.ntmps11
    go_wp2
    go_ret
    exact ⟨rfl, HB1.out⟩
  have HOK : Hid (okB b z l = resOk z 0 l) := by
    show _ = _
    unfold okB
    rw [decide_eq_true (show 1 ≤ b ∧ b ≤ 4294967294 from ⟨h1, h2⟩), decide_eq_true (show 0 ≤ z ∧ z ≤ 65536 from ⟨h3, h4⟩), decide_eq_true (show b + z - 1 ≤ 4294967294 by omega)]
    simp
  clear no hn
  go_enter Tryd.func11, Tryd.ntmps11
  go_wp2_with fail
  generalize (w.alloc (.cells #[.int .i64 b, .int .i64 z, .slice a n c] 24)) = w0 at HB1 HG1 ⊢
  go_loopw [3] (fun iv wr => ∃ i : Nat, i ≤ n ∧ iv = .int .i64 (i : Int) ∧ w0 = wr ∧ Hid ((i ≠ 0 → 0 ≤ l.getD (i - 1) 0) ∧ resOk z 0 l = resOk z (lowB l i) (l.drop i))) (fun iv _ => n - (intOf iv).toNat)
  case atStart => exact ⟨0, Nat.zero_le _, rfl, rfl, fun h => absurd rfl h, rfl⟩
  case round =>
    obtain ⟨i, hin, rfl, rfl, HE⟩ := hrel
    obtain ⟨k0, k1, k2⟩ := cells3' HG1.out
    by_cases hlt : i < n
    · have hil : i < l.length := by rw [← HN.out]; exact hlt
      have h0 : IR w0 (.slice a n c) l := Rd.below HI.out HB1.out
      obtain ⟨bb, o, ea, hcel⟩ := IR.at h0 HN.out (by omega)
      subst ea
      have hc := hcel i hil
      have hs := resOk_step (z := z) (low := lowB l i) hil
      have hlow := lowB_succ hil
      have hge : l.getD i 0 = l[i] := by rw [List.getD_eq_getElem?_getD, List.getElem?_eq_getElem hil]; rfl
      obtain ⟨p, hp⟩ : ∃ p, p = l[i] := ⟨_, rfl⟩
      rw [← hp] at hc hs hlow hge
      have hle : i + 1 ≤ n := by omega
      -- the place is refused
      have bad : ¬ (lowB l i ≤ p ∧ p ≤ z - 1) → okB b z l = false := fun hb => by
        rw [HOK.out, HE.out.2, hs, decide_eq_false hb]
        rfl
      have BAD := Lib.hid bad
      have good : lowB l i ≤ p ∧ p ≤ z - 1 → 0 ≤ p → (i + 1 ≠ 0 → 0 ≤ l.getD (i + 1 - 1) 0) ∧ resOk z 0 l = resOk z (lowB l (i + 1)) (l.drop (i + 1)) := fun hg hp0 => by
        refine ⟨fun _ => by rw [Nat.add_sub_cancel, hge]; exact hp0, ?_⟩
        rw [HE.out.2, hs, decide_eq_true hg, hlow]
        rfl
      have GOOD := Lib.hid good
      clear bad good hs hlow hge h0
      by_cases hi0 : i = 0
      · subst hi0
        have hl0 : lowB l 0 = 0 := rfl
        rw [hl0] at BAD GOOD
        rw [Nat.add_zero] at hc
        clear hcel hp hl0
        by_cases p1 : p < 0
        · have HF := Lib.hid (BAD.out (by omega))
          go_wp2_with fail
          go_ret
          exact ⟨by rw [HF.out]; rfl, HB1.out⟩
        · by_cases p2 : z ≤ p
          · have HF := Lib.hid (BAD.out (by omega))
            go_wp2_with fail
            go_ret
            exact ⟨by rw [HF.out]; rfl, HB1.out⟩
          · have HE2 := Lib.hid (GOOD.out (by omega) (by omega))
            clear BAD GOOD HE
            go_wp2_with fail
            go_roundw
            case rel =>
              first
                | exact ⟨0 + 1, hle, by go_num, rfl, HE2⟩
                | exact ⟨0 + 1, hle, by go_num, trivial, HE2⟩
                | ((repeat apply Exists.intro); exact ⟨⟨0 + 1, hle, by go_num, rfl, HE2⟩, rfl⟩)
            case measure => simp [intOf]; omega
      · have hq0 := HE.out.1 hi0
        have hl0 : lowB l i = l.getD (i - 1) 0 + 1 := by unfold lowB; rw [if_neg hi0]
        have hil2 : i - 1 < l.length := by omega
        have hc2 := hcel (i - 1) hil2
        have hge2 : l.getD (i - 1) 0 = l[i - 1] := by rw [List.getD_eq_getElem?_getD, List.getElem?_eq_getElem hil2]; rfl
        rw [hl0, hge2] at BAD GOOD
        rw [hge2] at hq0
        obtain ⟨q, hq⟩ : ∃ q, q = l[i - 1] := ⟨_, rfl⟩
        rw [← hq] at BAD GOOD hq0 hc2
        have hc3 := hc2
        obtain ⟨j, hj⟩ : ∃ j, j = i - 1 := ⟨_, rfl⟩
        rw [← hj] at hc2
        have x3 : wrap64 ((i : Int) - 1) = (j : Int) := by rw [wrap64_in (by omega) (by omega)]; omega
        have hjl : j < n := by omega
        have hi1 : (0 : Int) < (i : Int) := by omega
        clear hcel hp hl0 hge2 hq hj hil2
        by_cases p1 : p < 0
        · have HF := Lib.hid (BAD.out (by omega))
          go_wp2_with fail
          go_ret
          exact ⟨by rw [HF.out]; rfl, HB1.out⟩
        · by_cases p2 : z ≤ p
          · have HF := Lib.hid (BAD.out (by omega))
            go_wp2_with fail
            go_ret
            exact ⟨by rw [HF.out]; rfl, HB1.out⟩
          · by_cases p3 : p ≤ q
            · have HF := Lib.hid (BAD.out (by omega))
              clear BAD GOOD HE
              go_wp2_with fail
              go_ret
              exact ⟨by rw [HF.out]; rfl, HB1.out⟩
            · have HE2 := Lib.hid (GOOD.out (by omega) (by omega))
              clear BAD GOOD HE
              go_wp2_with fail
              go_roundw
              case rel =>
                first
                  | exact ⟨i + 1, hle, by go_num, rfl, HE2⟩
                  | exact ⟨i + 1, hle, by go_num, trivial, HE2⟩
                  | ((repeat apply Exists.intro); exact ⟨⟨i + 1, hle, by go_num, rfl, HE2⟩, rfl⟩)
              case measure => simp [intOf]; omega
    · have HT : Hid (okB b z l = true) := by
        show _ = _
        rw [HOK.out, HE.out.2, List.drop_of_length_le (by have := HN.out; omega)]
        rfl
      go_wp2_with fail
      go_ret
      exact ⟨by rw [HT.out]; rfl, HB1.out⟩
end Go.Proofs.YtoemghinolekgaaDoor.Pl
