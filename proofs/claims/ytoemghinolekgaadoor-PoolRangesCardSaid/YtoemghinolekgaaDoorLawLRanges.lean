/-
  Which ranges may be: Check tells ErrPool of those that the document's answer doesn't take, and OK of all others (conciergelaw12.PoolRanges answers true). Condition: the library's table math/bits.deBruijn64tab starts as the program's text lays it (the tied card).
-/
import Derived.Test.YtoemghinolekgaaDoorPlL
import Derived.Test.YtoemghinolekgaaDoorPlU
import Derived.Test.YtoemghinolekgaaDoorOpenR
namespace Go.Proofs.YtoemghinolekgaaDoor.poolRanges
open Go.ChangeShapes Go.WideShapes Go.ChangeAt Go.RowKit
open Go.Proofs.YtoemghinolekgaaDoor.Pl
open Go.Proofs.YtoemghinolekgaaDoor.Id (IR)
set_option linter.unusedVariables false
set_option linter.unusedSimpArgs false

theorem wf_in {x : Int} (h : (Lit.int .i64 x).wf = true) : -9223372036854775808 ≤ x ∧ x ≤ 9223372036854775807 := by
  simpa [Lit.wf, IntKind.min, IntKind.max, IntKind.signed, IntKind.bits] using h
set_option maxRecDepth 20000 in
set_option maxHeartbeats 8000000 in
theorem walk (W : World) (hl : Laid W) (b z : Int) (a : Option Addr) (n c : Nat) (l : List Int) (wb : (Lit.int .i64 b).wf = true) (wz : (Lit.int .i64 z).wf = true) (hn : l.length = n) (hr : Rd W 1 (.slice a n c) n (l.map (Value.int .i64))) :
    Calls Tryd.prog 4 #[.agg #[.int .i64 b, .int .i64 z, .slice a n c]] W fun e w' => e = .returned (.bool true) ∧ Below W.heap.size W w' := by
  have hb := wf_in wb
  have hz := wf_in wz
  have HB1 : Hid (Below W.heap.size W (W.alloc (.cells #[.int .i64 b, .int .i64 z, .slice a n c] 24))) := (Below.refl _ _).alloc (Nat.le_refl _) _
  have HP1 : Hid ((W.alloc (.cells #[.int .i64 b, .int .i64 z, .slice a n c] 24)).heap[W.heap.size]? = some (.cells #[.int .i64 b, .int .i64 z, .slice a n c] 24 (0, 0))) := heap_alloc_last _ _
  have HIR : Hid (IR W (.slice a n c) l) := by show Rd _ _ _ _ _; rw [hn]; exact hr
  have HN : Hid (n = l.length) := hn.symm
  have HL := Lib.hid hl
  have hn63 : (n : Int) ≤ 9223372036854775807 := by
    obtain ⟨_, _, _, e, h1, h2, _⟩ := hr
    simp only [Value.slice.injEq] at e
    obtain ⟨_, _, rfl⟩ := e
    unfold maxLen at h2
    omega
  clear wb wz hn hr hl
  go_enter Tryd.func4, Tryd.ntmps4
  go_upto_region 1 with fail
  generalize (W.alloc (.cells #[.int .i64 b, .int .i64 z, .slice a n c] 24)) = w0 at HB1 HP1 ⊢
  -- from here on: a range in the block, its row readable
  have key : ∀ (a : Option Addr) (n c : Nat) (l : List Int) (w : World), Below W.heap.size W w → IR w (.slice a n c) l →
      Calls Tryd.prog 12 #[.agg #[.int .i64 b, .int .i64 z, .slice a n c]] w fun e w' => e = .returned (.int .i64 (if okB b z l = true then 0 else 120)) ∧ Below W.heap.size W w' ∧ Below w.heap.size w w' ∧
        Calls Tryd.prog 11 #[.agg #[.int .i64 b, .int .i64 z, .slice a n c]] w' fun e w2 => e = .returned (.bool (okB b z l)) ∧ Below W.heap.size W w2 ∧ Calls Tryd.prog 13 #[] w2 fun e w3 => e = .returned (.bool true) ∧ Below W.heap.size W w3 := by
    intro a n c l w hB hi
    refine (check_any b z hb hz w hi).mono fun e w' ⟨h1, h2⟩ => ?_
    have hB2 := hB.trans (Below.mono h2 hB.size)
    refine ⟨h1, hB2, h2, ?_⟩
    refine (is_any b z hb hz w' (Rd.below hi h2)).mono fun e w2 ⟨h3, h4⟩ => ?_
    have hB3 := hB2.trans (Below.mono h4 hB2.size)
    refine ⟨h3, hB3, ?_⟩
    exact (awake_any w2 (HL.out.gr hB3)).mono fun e w3 ⟨h5, h6⟩ => ⟨h5, hB3.trans (Below.mono h6 hB3.size)⟩
  have KEY := Lib.hid key
  clear key hb hz
  obtain ⟨k0, k1, k2⟩ := cells3' HP1.out
  by_cases hlen : 300 < n
  · obtain ⟨a', hrun, hir⟩ := ir_upto HIR.out HN.out 300 (by omega)
    have hcast : ((300 : Nat) : Int) = 300 := rfl
    rw [hcast] at hrun
    have HI := Lib.hid hir
    clear hir hcast
    go_wp2_with (with_reducible refine wpList_store_rs rfl _ _ rfl W.heap.size _ _ _ rfl rfl _ _ _ HP1.out ?_)
    intro w2 h2 ho2
    have HP := Lib.hid h2
    have HB := Lib.hid (ho2.below W.heap.size W (Nat.le_refl _) HB1.out)
    clear h2 ho2 k0 k1 k2 hrun
    obtain ⟨k0, k1, k2⟩ := cells3' HP.out
    have HK := Lib.hid (KEY.out a' 300 c _ w2 HB.out (HI.out _ (Rd.below HIR.out HB.out)))
    obtain ⟨q, hq⟩ : ∃ q, q = okB b z (l.take 300) := ⟨_, rfl⟩
    rw [← hq] at HK
    clear KEY hq
    cases q
    all_goals
      go_wp2_with fail
      refine HK.out.mono ?_
      rintro e w3 ⟨rfl, hb3, hbb, his⟩
      obtain ⟨k0, k1, k2⟩ := cells3' (heap_gr hbb HP.out)
      have HIS := Lib.hid his
      clear his hbb hb3 HK
      go_wp2_with fail
      refine HIS.out.mono ?_
      rintro e w4 ⟨rfl, hb4, haw⟩
      have HAW := Lib.hid haw
      clear haw hb4 HIS k0 k1 k2
      go_wp2_with fail
      refine HAW.out.mono ?_
      rintro e w5 ⟨rfl, hb5⟩
      have HB5 := Lib.hid hb5
      clear hb5 HAW
      go_wp2
      go_ret
      exact ⟨rfl, HB5.out⟩
  · have HK := Lib.hid (KEY.out a n c _ w0 HB1.out (Rd.below HIR.out HB1.out))
    obtain ⟨q, hq⟩ : ∃ q, q = okB b z l := ⟨_, rfl⟩
    rw [← hq] at HK
    clear KEY hq
    have HP := HP1
    cases q
    all_goals
      go_wp2_with fail
      refine HK.out.mono ?_
      rintro e w3 ⟨rfl, hb3, hbb, his⟩
      obtain ⟨k0, k1, k2⟩ := cells3' (heap_gr hbb HP.out)
      have HIS := Lib.hid his
      clear his hbb hb3 HK
      go_wp2_with fail
      refine HIS.out.mono ?_
      rintro e w4 ⟨rfl, hb4, haw⟩
      have HAW := Lib.hid haw
      clear haw hb4 HIS k0 k1 k2
      go_wp2_with fail
      refine HAW.out.mono ?_
      rintro e w5 ⟨rfl, hb5⟩
      have HB5 := Lib.hid hb5
      clear hb5 HAW
      go_wp2
      go_ret
      exact ⟨rfl, HB5.out⟩

theorem own : ownKnob Tryd.prog.godebug = none := by kernel_rfl
theorem laidOut : laidOutB Tryd.prog = true := by kernel_rfl
theorem door_met (os : Os) (args : Array Value) : laidMetH Tryd.prog Rows.poolRangesRow.laid ((World.doorLaid Tryd.prog 400 os).forCall (fun _ _ => 0) ⟨#[], args, []⟩).memory :=
  laidMetH_of_parts3 (fuel := 8) (laidMet_of_run' 8 (by kernel_rfl) (by kernel_rfl)) (by kernel_rfl) (by kernel_rfl)
set_option maxRecDepth 100000 in
theorem lifted (os : Os) (started : os.Started) (H : Type) (enc : TypeId × Value → H) :
    ReturnsInHanded {} Tryd.checked os 4 .any (fun w args => (Rows.poolRangesSpec.pre enc Tryd.prog Tryd.f4 [] false w args ∧ laidMetH Tryd.prog Rows.poolRangesRow.laid w) ∧ sizedMet enc Tryd.prog Tryd.f4 (OpenSpec.ofChange Rows.poolRangesSpec) false w args) (Rows.poolRangesSpec.post enc Tryd.prog Tryd.f4 false true false false) := by
  refine returnsInHanded_of_change_and (C := Tryd.checked) (X := fun w _ => laidMetH Tryd.prog Rows.poolRangesRow.laid w) (fun _ _ _ hh h => h.of_heap hh) own started (by kernel_rfl) Tryd.func4
    (ChangeSpec.witness_shaped (enc := enc) (C := Tryd.checked) (os := os) (X := fun w _ => laidMetH Tryd.prog Rows.poolRangesRow.laid w) false (World.doorLaid Tryd.prog 400 os) #[.agg #[.int .i64 0, .int .i64 0, .slice none 0 0]] 8 rfl (World.shaped_of_RefB (by kernel_rfl) (by kernel_rfl)) (by kernel_rfl) (by kernel_rfl) (by kernel_rfl) (door_met os _)) ?_
  intro W base args ds gs before hval0 hW _ _ hL _
  have hval : ∀ (j : Nat) t v, Tryd.f4.params[j]? = some t → args[j]? = some v → Value.okWide Tryd.prog W .any base t v := hval0
  have hW' := hW
  obtain ⟨p, q, hA0, hV, rfl, hfz, hnd⟩ := hW
  have hA : DataW.TrodAll enc Tryd.prog W 0 (fun _ => true) true Tryd.f4.params.toList args.toList ds p := hA0
  rw [Tryd.params4] at hA hval
  obtain ⟨v0, vs0, d0, ds0, p0, q0, hargs, rfl, rfl, h0, r0⟩ := trodAll_cons hA
  obtain ⟨rfl, rfl, rfl⟩ := trodAll_nil r0
  obtain rfl : args = #[v0] := by cases args; simp_all
  obtain ⟨rfl, rfl⟩ := trodVars_none hV
  have k0 := h0
  have lt0 : ∀ x ∈ p0, x.block < W.heap.size := by obtain ⟨m, hm⟩ := k0; exact DataW.trod_lt m _ _ _ hm
  obtain ⟨x0, y0, a0, n0, c0, l0, rfl, wx0, wy0, hn0, b0⟩ := open_range Tryd.underlying24 ⟨rfl, rfl, rfl⟩ Tryd.underlying3 Tryd.underlying3 Tryd.underlying22 Tryd.underlying3 ⟨by kernel_rfl, by kernel_rfl, by kernel_rfl, by kernel_rfl, by kernel_rfl⟩ (hval 0 24 v0 rfl rfl) h0
  clear hA0 hval0
  refine (walk W (of_laid hL) x0 y0 a0 n0 c0 l0 wx0 wy0 hn0 b0).mono fun e W' ⟨he, bel⟩ => ?_
  subst he
  exact ⟨_, rfl, _, _, _, [], _, [], hW', trodAll_mk1 (shut_bool Tryd.underlying4 _), (trodAll_cons_mk (Below.trod laidOut (by kernel_rfl) (of_decide_eq_true (by kernel_rfl)) k0 bel lt0) trodAll_mk0), rfl, bel.frame _, fun h => by cases h⟩
theorem over : Rows.poolRangesRow.holds Tryd.pinned (OpenSpec.ofChange Rows.poolRangesSpec) :=
  OpenClaim.holds_of_wide 4 Tryd.f4 rfl rfl rfl rfl rfl rfl rfl ⟨rfl, rfl, rfl, rfl, rfl⟩ rfl rfl rfl rfl rfl (by kernel_rfl) Tryd.func4 (by kernel_rfl)
    (of_decide_eq_true (by kernel_rfl)) (by unfold Func.isWrapper; first | (rw [if_pos (by decide +kernel)]; kernel_rfl) | (rw [if_neg (by decide +kernel)]; exact ⟨rfl, rfl⟩))
    (fun os started H enc _ => lifted os started H enc)
/-- The statement: the tied card. -/
theorem proved : Rows.PoolRangesCardSaid :=
  Claim7.holds_tied_plain_at .later [] [.data] true (true, "e874124b9b968c9656ea65cff0e58373288b28edbace69890e6b772b92dc920d") false over (fun _ h => by cases h) (by kernel_rfl) (fun _ h => by cases h) poolRanges_row_tie rfl ⟨rfl, rfl⟩ (by kernel_rfl) rfl
    (fun f fn hf hfn => by
      obtain rfl : f = 4 := Option.some.inj ((show Tryd.prog.funcNamed "concierge/conciergelaw12.PoolRanges" = some 4 by kernel_rfl).symm.trans hf) |>.symm
      obtain rfl : fn = Tryd.f4 := (Option.some.inj (Tryd.func4.symm.trans hfn)).symm
      exact ⟨by kernel_rfl, fun j t ht => by
        rw [Tryd.params4] at ht
        have hm : t ∈ [24] := by simpa using Array.mem_of_getElem? ht
        have hall : ([24].all fun u => !Tryd.prog.wantsStandIn u) = true := by kernel_rfl
        exact (show Tryd.prog.wantsStandIn t = false by simpa using List.all_eq_true.1 hall t hm)⟩)
    (by kernel_rfl)
end Go.Proofs.YtoemghinolekgaaDoor.poolRanges
