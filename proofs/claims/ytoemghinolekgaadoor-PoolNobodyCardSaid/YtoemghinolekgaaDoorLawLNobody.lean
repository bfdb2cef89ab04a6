/-
  A pool that nobody made is none: whatever it is asked it tells ErrNil or zero values (conciergelaw12.PoolNobody answers true). Condition: the library's table math/bits.deBruijn64tab starts as the program's text lays it (the tied card).
-/
import Derived.Test.YtoemghinolekgaaDoorPlI
import Derived.Test.YtoemghinolekgaaDoorPlT
import Derived.Test.YtoemghinolekgaaDoorOpenR
namespace Go.Proofs.YtoemghinolekgaaDoor.poolNobody
open Go.ChangeShapes Go.WideShapes Go.ChangeAt Go.RowKit
open Go.Proofs.YtoemghinolekgaaDoor.Pl
set_option linter.unusedVariables false
set_option linter.unusedSimpArgs false

theorem NoPo.shape {w : World} {v : Value} (h : NoPo w v) : ∃ q, v = .pointer q := by
  rcases h with h | ⟨g, h, _⟩
  · exact ⟨_, h⟩
  · exact ⟨_, h⟩
theorem pair_cells {w : World} {g : Nat} {x y : Value} {t : TypeId} {fr : Nat × Nat} (h : w.heap[g]? = some (.cells #[x, y] t fr)) : w.cell? ⟨g, 0, none⟩ = some x ∧ w.cell? ⟨g, 1, none⟩ = some y :=
  ⟨by rw [cell_of_row w g _ _ _ _ h]; rfl, by rw [cell_of_row w g _ _ _ _ h]; rfl⟩
set_option maxRecDepth 20000 in
set_option maxHeartbeats 8000000 in
theorem walk (W : World) (hl : Laid W) (a : Int) (wa : (Lit.int .i64 a).wf = true) :
    Calls Tryd.prog 8 #[.int .i64 a] W fun e w' => e = .returned (.bool true) ∧ Below W.heap.size W w' := by
  have HW0 : Hid (Below W.heap.size W ((W.alloc (.cells #[.int .i64 0, .slice none 0 0, .slice none 0 0] 60)).alloc (.cells #[.pointer none, .pointer (some ⟨W.heap.size, 0, none⟩)] 27))) := ((Below.refl _ _).alloc (Nat.le_refl _) _).alloc (by simp) _
  have HZ0 : Hid (((W.alloc (.cells #[.int .i64 0, .slice none 0 0, .slice none 0 0] 60)).alloc (.cells #[.pointer none, .pointer (some ⟨W.heap.size, 0, none⟩)] 27)).heap[W.heap.size]? = some (.cells #[.int .i64 0, .slice none 0 0, .slice none 0 0] 60 (0, 0))) := heap2_0' _ _ _
  have HP0 : Hid (((W.alloc (.cells #[.int .i64 0, .slice none 0 0, .slice none 0 0] 60)).alloc (.cells #[.pointer none, .pointer (some ⟨W.heap.size, 0, none⟩)] 27)).heap[W.heap.size + 1]? = some (.cells #[.pointer none, .pointer (some ⟨W.heap.size, 0, none⟩)] 27 (0, 0))) := heap2_1' _ _ _
  have HL := Lib.hid hl
  clear wa hl
  go_enter Tryd.func8, Tryd.ntmps8
  go_wp2_with fail
  generalize ((W.alloc (.cells #[.int .i64 0, .slice none 0 0, .slice none 0 0] 60)).alloc (.cells #[.pointer none, .pointer (some ⟨W.heap.size, 0, none⟩)] 27)) = w1 at HW0 HZ0 HP0 ⊢
  obtain ⟨gz, hgz⟩ : ∃ b, b = W.heap.size := ⟨_, rfl⟩
  rw [← hgz] at HZ0 HP0 ⊢
  clear hgz
  go_loopw [5] (fun iv wr => ∃ i : Nat, i ≤ 2 ∧ iv = .int .i64 (i : Int) ∧ Below w1.heap.size w1 wr) (fun iv _ => 2 - (intOf iv).toNat)
  case atStart => exact ⟨0, by omega, rfl, Below.refl _ _⟩
  case round =>
    obtain ⟨i, hi, rfl, hb⟩ := hrel
    have HBR := Lib.hid hb
    clear hb
    by_cases hlt : i < 2
    · have hz : ∃ v, NoPo w1 v ∧ w1.cell? ⟨gz + 1, i, none⟩ = some v := by
        obtain ⟨p0, p1⟩ := pair_cells HP0.out
        rcases Nat.lt_or_ge i 1 with h1 | h1
        · obtain rfl : i = 0 := by omega
          exact ⟨_, .inl rfl, p0⟩
        · obtain rfl : i = 1 := by omega
          exact ⟨_, .inr ⟨gz, rfl, HZ0.out⟩, p1⟩
      obtain ⟨v, hno, hc⟩ := hz
      have HNO := Lib.hid hno
      have hcr := cell_gr HBR.out hc
      have HC := Lib.hid hc
      have hi2 : (i : Int) < 2 := by omega
      have hno2 := hno.gr HBR.out
      have HT := Lib.hid (no_take wr hno2)
      have HWA := Lib.hid (no_want a wr hno2)
      have HGV := Lib.hid (no_give a wr hno2)
      have HHS := Lib.hid (no_has a wr hno2)
      have HFR := Lib.hid (no_free wr hno2)
      have HLE := Lib.hid (no_leased wr hno2)
      clear hno hno2 hc
      go_wp2_with fail
      refine HT.out.mono ?_
      rintro e w2 ⟨rfl, rfl⟩
      go_wp2_with fail
      refine HWA.out.mono ?_
      rintro e w2 ⟨rfl, rfl⟩
      go_wp2_with fail
      refine HGV.out.mono ?_
      rintro e w2 ⟨rfl, rfl⟩
      go_wp2_with fail
      refine HHS.out.mono ?_
      rintro e w2 ⟨rfl, rfl⟩
      go_wp2_with fail
      refine HFR.out.mono ?_
      rintro e w2 ⟨rfl, rfl⟩
      go_wp2_with fail
      refine HLE.out.mono ?_
      rintro e w2 ⟨rfl, hb⟩
      have HB2 : Hid (Below w1.heap.size w1 w2) := HBR.out.trans (Below.mono hb HBR.out.size)
      have HFK := Lib.hid (no_fork w2 (HNO.out.gr HB2.out))
      clear hb hcr HT HWA HGV HHS HFR HLE
      have hcr := cell_gr HB2.out HC.out
      go_wp2_with fail
      refine HFK.out.mono ?_
      rintro e w3 ⟨rfl, rfl⟩
      clear hcr HFK
      go_wp2_with fail
      go_roundw
      case rel =>
        have hle : i + 1 ≤ 2 := by omega
        first
          | exact ⟨i + 1, hle, by go_num, HB2.out⟩
          | ((repeat apply Exists.intro); exact ⟨⟨i + 1, hle, by go_num, HB2.out⟩, rfl⟩)
      case measure => simp [intOf]; omega
    · have hi2 : ¬ (i : Int) < 2 := by omega
      have hie : i = 2 := by omega
      subst hie
      have HBW : Hid (Below W.heap.size W wr) := HW0.out.trans (Below.mono HBR.out HW0.out.size)
      have HA := Lib.hid (awake_any wr (HL.out.gr HBW.out))
      go_wp2_with fail
      refine HA.out.mono ?_
      rintro e w2 ⟨rfl, hb⟩
      have HB2 : Hid (Below W.heap.size W w2) := HBW.out.trans (Below.mono hb HBW.out.size)
      clear hb
      go_wp2
      go_ret
      exact ⟨rfl, HB2.out⟩

theorem own : ownKnob Tryd.prog.godebug = none := by kernel_rfl
theorem laidOut : laidOutB Tryd.prog = true := by kernel_rfl
theorem door_met (os : Os) (args : Array Value) : laidMetH Tryd.prog Rows.poolNobodyRow.laid ((World.doorLaid Tryd.prog 400 os).forCall (fun _ _ => 0) ⟨#[], args, []⟩).memory :=
  laidMetH_of_parts3 (fuel := 8) (laidMet_of_run' 8 (by kernel_rfl) (by kernel_rfl)) (by kernel_rfl) (by kernel_rfl)
set_option maxRecDepth 100000 in
theorem lifted (os : Os) (started : os.Started) (H : Type) (enc : TypeId × Value → H) :
    ReturnsInHanded {} Tryd.checked os 8 .any (fun w args => (Rows.poolNobodySpec.pre enc Tryd.prog Tryd.f8 [] false w args ∧ laidMetH Tryd.prog Rows.poolNobodyRow.laid w) ∧ sizedMet enc Tryd.prog Tryd.f8 (OpenSpec.ofChange Rows.poolNobodySpec) false w args) (Rows.poolNobodySpec.post enc Tryd.prog Tryd.f8 false true false false) := by
  refine returnsInHanded_of_change_and (C := Tryd.checked) (X := fun w _ => laidMetH Tryd.prog Rows.poolNobodyRow.laid w) (fun _ _ _ hh h => h.of_heap hh) own started (by kernel_rfl) Tryd.func8
    (ChangeSpec.witness_shaped (enc := enc) (C := Tryd.checked) (os := os) (X := fun w _ => laidMetH Tryd.prog Rows.poolNobodyRow.laid w) false (World.doorLaid Tryd.prog 400 os) #[.int .i64 0] 8 rfl (World.shaped_of_RefB (by kernel_rfl) (by kernel_rfl)) (by kernel_rfl) (by kernel_rfl) (by kernel_rfl) (door_met os _)) ?_
  intro W base args ds gs before hval0 hW _ _ hL _
  have hval : ∀ (j : Nat) t v, Tryd.f8.params[j]? = some t → args[j]? = some v → Value.okWide Tryd.prog W .any base t v := hval0
  have hW' := hW
  obtain ⟨p, q, hA0, hV, rfl, hfz, hnd⟩ := hW
  have hA : DataW.TrodAll enc Tryd.prog W 0 (fun _ => true) true Tryd.f8.params.toList args.toList ds p := hA0
  rw [Tryd.params8] at hA hval
  obtain ⟨v0, vs0, d0, ds0, p0, q0, hargs, rfl, rfl, h0, r0⟩ := trodAll_cons hA
  obtain ⟨rfl, rfl, rfl⟩ := trodAll_nil r0
  obtain rfl : args = #[v0] := by cases args; simp_all
  obtain ⟨rfl, rfl⟩ := trodVars_none hV
  have k0 := h0
  have lt0 : ∀ x ∈ p0, x.block < W.heap.size := by obtain ⟨m, hm⟩ := k0; exact DataW.trod_lt m _ _ _ hm
  obtain ⟨a0, rfl, rfl, rfl, w0⟩ := open_int Tryd.underlying3 (hval 0 3 v0 rfl rfl) h0
  clear hA0 hval0
  refine (walk W (of_laid hL) a0 w0).mono fun e W' ⟨he, bel⟩ => ?_
  subst he
  exact ⟨_, rfl, _, _, _, [], _, [], hW', trodAll_mk1 (shut_bool Tryd.underlying4 _), (trodAll_cons_mk (Below.trod laidOut (by kernel_rfl) (of_decide_eq_true (by kernel_rfl)) k0 bel lt0) trodAll_mk0), rfl, bel.frame _, fun h => by cases h⟩
theorem over : Rows.poolNobodyRow.holds Tryd.pinned (OpenSpec.ofChange Rows.poolNobodySpec) :=
  OpenClaim.holds_of_wide 8 Tryd.f8 rfl rfl rfl rfl rfl rfl rfl ⟨rfl, rfl, rfl, rfl, rfl⟩ rfl rfl rfl rfl rfl (by kernel_rfl) Tryd.func8 (by kernel_rfl)
    (of_decide_eq_true (by kernel_rfl)) (by unfold Func.isWrapper; first | (rw [if_pos (by decide +kernel)]; kernel_rfl) | (rw [if_neg (by decide +kernel)]; exact ⟨rfl, rfl⟩))
    (fun os started H enc _ => lifted os started H enc)
/-- The statement: the tied card. -/
theorem proved : Rows.PoolNobodyCardSaid :=
  Claim7.holds_tied_plain_at .later [] [.data] true (true, "e874124b9b968c9656ea65cff0e58373288b28edbace69890e6b772b92dc920d") false over (fun _ h => by cases h) (by kernel_rfl) (fun _ h => by cases h) poolNobody_row_tie rfl ⟨rfl, rfl⟩ (by kernel_rfl) rfl
    (fun f fn hf hfn => by
      obtain rfl : f = 8 := Option.some.inj ((show Tryd.prog.funcNamed "concierge/conciergelaw12.PoolNobody" = some 8 by kernel_rfl).symm.trans hf) |>.symm
      obtain rfl : fn = Tryd.f8 := (Option.some.inj (Tryd.func8.symm.trans hfn)).symm
      exact ⟨by kernel_rfl, fun j t ht => by
        rw [Tryd.params8] at ht
        have hm : t ∈ [3] := by simpa using Array.mem_of_getElem? ht
        have hall : ([3].all fun u => !Tryd.prog.wantsStandIn u) = true := by kernel_rfl
        exact (show Tryd.prog.wantsStandIn t = false by simpa using List.all_eq_true.1 hall t hm)⟩)
    (by kernel_rfl)
end Go.Proofs.YtoemghinolekgaaDoor.poolNobody
