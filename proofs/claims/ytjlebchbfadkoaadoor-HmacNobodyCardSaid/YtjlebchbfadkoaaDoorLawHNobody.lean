/-
  For every slice of bytes (its first 600 bytes) a Mac that nobody began takes nothing up, and tells zeros (conciergelaw03.HmacNobody answers true). The listed table of constants is tied to the program's text. No condition.
-/
import Derived.Test.YtjlebchbfadkoaaDoorMacU
import Derived.ProofKit
import Derived.OpenShut
import Derived.ShutString
import Derived.ChangeOld
import Derived.SevenTiedAt
namespace Go.Proofs.YtjlebchbfadkoaaDoor.hmacNobody
open Go.ChangeShapes Go.WideShapes Go.ChangeAt Go.RowKit
open Go.ChangeMaps (open_string shut_string)
set_option linter.unusedVariables false
set_option linter.unusedSimpArgs false

/-- Nobody made what lies there. -/
def NB (w : World) (p : Option Addr) : Prop := p = none ∨ ∃ g, p = some ⟨g, 0, none⟩ ∧ w.cell? ⟨g, 0, none⟩ = some (.pointer none)
theorem NB.gr {w w' : World} {p : Option Addr} (h : NB w p) (hg : Gr w w') : NB w' p := h.imp id fun ⟨g, h1, h2⟩ => ⟨g, h1, cell_gr hg h2⟩
theorem made_nb (p : Option Addr) (w : World) (h : NB w p) :
    Calls Tryd.prog 30 #[.pointer p] w fun e w' => e = .returned (.bool false) ∧ w = w' := by
  rcases h with rfl | ⟨g, rfl, h⟩
  · exact mac_nil w
  · exact mac_not g w h
theorem add_nb (p : Option Addr) (v : Value) (w : World) (h : NB w p) :
    Calls Tryd.prog 18 #[.pointer p, v] w fun e w' => e = .returned (.tuple #[]) ∧ w = w' := by
  have H := Lib.hid (made_nb p w h)
  clear h
  go_enter Tryd.func18, Tryd.ntmps18
  go_wp2_with (go_at_call 30; refine H.out.mono ?_; rintro e w1 ⟨rfl, rfl⟩)
  go_end0
  exact ⟨rfl, rfl⟩
theorem len_nb (p : Option Addr) (w : World) (h : NB w p) :
    Calls Tryd.prog 19 #[.pointer p] w fun e w' => e = .returned (.int .i64 0) ∧ w = w' := by
  have H := Lib.hid (made_nb p w h)
  clear h
  go_enter Tryd.func19, Tryd.ntmps19
  go_wp2_with (go_at_call 30; refine H.out.mono ?_; rintro e w1 ⟨rfl, rfl⟩)
  go_ret
  exact ⟨rfl, rfl⟩
theorem one32 : z32.all (·.oneCell') = true := by kernel_rfl
theorem sum_nb (p : Option Addr) (w : World) (h : NB w p) :
    Calls Tryd.prog 17 #[.pointer p] w fun e w' => e = .returned (.agg z32) ∧ Gr w w' := by
  have H : Hid (∀ w', Gr w w' → Calls Tryd.prog 30 #[.pointer p] w' fun e w'' => e = .returned (.bool false) ∧ w' = w'') := fun w' hg => made_nb p w' (h.gr hg)
  clear h
  have hbs : (Tryd.prog.built 24 []).isSome = true := by kernel_rfl
  have hbz : (Tryd.prog.built 24 []).getD #[] = z32 := by kernel_rfl
  go_enter Tryd.func17, Tryd.ntmps17
  go_wp2_with (first | (go_at_call 30; refine (H.out _ ((Gr.refl _).alloc _)).mono ?_; rintro e w1 ⟨rfl, rfl⟩) | (with_reducible refine wpList_build rfl 24 #[] rfl ?b1 ?_) | (with_reducible refine wpList_store_row rfl 24 (.tmp 2) (.tmp 8) rfl w.heap.size _ rfl rfl 24 _ (heap_alloc_last _ _) ?a1 ?a2 ?a3 ?_))
  case a1 => first | exact size32b | simpa [z32] using size32b
  case a2 => first | rfl | simp [z32]
  case a3 => first | exact one32 | exact fun i hi => (Array.all_eq_true.1 one32) i hi
  intro w2 h1 h2 _
  have H1 := Lib.hid h1
  have H2 := Lib.hid (h2 _ _ (Nat.le_refl _) ((Below.refl _ _).alloc (Nat.le_refl _) _))
  clear h1 h2
  go_wp2
  refine bodyPost_ret (v := .agg z32) (results_cell_row Tryd.results17 _ _ w.heap.size 24 _ (0, 0) _ rfl H1.out Tryd.underlying24 rfl size32b) rfl ?_
  exact ⟨rfl, H2.out⟩
def zm : Array Value := #[.pointer none, .pointer none]

set_option maxHeartbeats 4000000 in
theorem walk (W : World) (hL : Laid W) (a0 : Option Addr) (n0 c0 : Nat) (l0 : List UInt8) (hn0 : l0.length = n0) (b0 : Bs W (.slice a0 n0 c0) l0) :
    Calls Tryd.prog 7 #[.slice a0 n0 c0] W fun e w' => e = .returned (.bool true) ∧ Below W.heap.size W w' := by
  obtain ⟨m0, x0, hm0, hx0, u0, lo0, hc0⟩ := cut_in hn0 b0
  have HC0 := Lib.hid hc0
  have HLD := Lib.hid hL
  clear b0 hn0 hL hx0 u0 lo0 hc0
  have hbh : (Tryd.prog.built 42 []).getD #[] = zm := by kernel_rfl
  have hbz : (Tryd.prog.built 24 []).getD #[] = z32 := by kernel_rfl
  have hbs : (Tryd.prog.built 24 []).isSome = true := by kernel_rfl
  have hne : ∀ w, (binOp .neq 24 (.agg z32) (.agg z32)).run Tryd.prog w = .ok (.bool false) w := fun w => by
    obtain ⟨i0, hi, _, h1, _⟩ := info_parts info5
    have := run_neq_array Tryd.underlying24 Tryd.underlying5 hi h1 (List.replicate 32 0) (List.replicate 32 0) (by simp) (by simp) w
    simpa [z32] using this
  go_enter Tryd.func7, Tryd.ntmps7
  go_wp2_with (with_reducible refine wpList_build rfl 42 #[] rfl ?b1 ?_)
  case b1 => kernel_rfl
  have HI : Hid (Gr W ((W.alloc (.cells zm 42)).alloc (.cells #[.pointer none, .pointer (some ⟨W.heap.size, 0, none⟩)] 31)) ∧
      ((W.alloc (.cells zm 42)).alloc (.cells #[.pointer none, .pointer (some ⟨W.heap.size, 0, none⟩)] 31)).heap[W.heap.size + 1]? = some (.cells #[.pointer none, .pointer (some ⟨W.heap.size, 0, none⟩)] 31 (0, 0)) ∧
      ((W.alloc (.cells zm 42)).alloc (.cells #[.pointer none, .pointer (some ⟨W.heap.size, 0, none⟩)] 31)).cell? ⟨W.heap.size, 0, none⟩ = some (.pointer none)) := by
    refine ⟨((Gr.refl W).alloc _).alloc _, ?_, ?_⟩
    · have := heap_alloc_last (W.alloc (.cells zm 42)) (.cells #[.pointer none, .pointer (some ⟨W.heap.size, 0, none⟩)] 31)
      rw [World.size_alloc] at this
      exact this
    · rw [World.cell?_of_block (w := W.alloc (.cells zm 42)) (Below.heap_alloc _ _ _ (by simp)), World.cell?_alloc_new]
      rfl
  go_loopw [11] (fun i5 wr => ∃ k : Nat, k ≤ 2 ∧ i5 = .int .i64 k ∧ Hid (Gr W wr ∧ wr.heap[W.heap.size + 1]? = some (.cells #[.pointer none, .pointer (some ⟨W.heap.size, 0, none⟩)] 31 (0, 0)) ∧ wr.cell? ⟨W.heap.size, 0, none⟩ = some (.pointer none))) (fun i5 _ => 2 - (intOf i5).toNat)
  case atStart => exact ⟨0, by omega, rfl, HI⟩
  case round =>
    clear HI hbh
    obtain ⟨k, hk, rfl, HI⟩ := hrel
    by_cases hlt : k < 2
    · obtain ⟨p, hp, hnb⟩ : ∃ p, wr.cell? ⟨W.heap.size + 1, k, none⟩ = some (.pointer p) ∧ NB wr p := by
        rcases (show k = 0 ∨ k = 1 by omega) with rfl | rfl
        · exact ⟨none, by rw [cell_of_row _ _ _ _ _ _ HI.out.2.1]; rfl, .inl rfl⟩
        · exact ⟨some ⟨W.heap.size, 0, none⟩, by rw [cell_of_row _ _ _ _ _ _ HI.out.2.1]; rfl, .inr ⟨_, rfl, HI.out.2.2⟩⟩
      have HN : Hid (∀ w', Gr wr w' → NB w' p) := fun w' hg => hnb.gr hg
      have q0 : (k : Int) < 2 := by omega
      clear hnb
      go_wp2_with fail
      refine (HC0.out _).mono ?_
      rintro e w1 ⟨rfl, rfl⟩
      go_wp2_with fail
      refine (add_nb p _ _ (HN.out _ (Gr.refl _))).mono ?_
      rintro e w1 ⟨rfl, rfl⟩
      go_wp2_with fail
      refine (sum_nb p _ (HN.out _ (Gr.refl _))).mono ?_
      rintro e w1 ⟨rfl, hg1⟩
      have G1 := Lib.hid hg1
      clear hg1 hp
      go_wp2_with (with_reducible refine wpList_build rfl 24 #[] rfl ?b2 ?_)
      refine (len_nb p _ (HN.out _ G1.out)).mono ?_
      rintro e w2 ⟨rfl, rfl⟩
      have HI2 : Hid (Gr W w1 ∧ w1.heap[W.heap.size + 1]? = some (.cells #[.pointer none, .pointer (some ⟨W.heap.size, 0, none⟩)] 31 (0, 0)) ∧ w1.cell? ⟨W.heap.size, 0, none⟩ = some (.pointer none)) := ⟨HI.out.1.trans G1.out, heap_gr G1.out HI.out.2.1, cell_gr G1.out HI.out.2.2⟩
      go_wp2
      go_roundw
      case rel =>
        first | exact ⟨k + 1, by omega, by go_num, HI2⟩ | ((repeat apply Exists.intro); exact ⟨⟨k + 1, by omega, by go_num, HI2⟩, rfl⟩)
      case measure => simp [intOf]; omega
    · obtain rfl : k = 2 := by omega
      have HA := Lib.hid (awake_any wr (HLD.out.below HI.out.1))
      go_wp2_with (go_at_call 15; refine HA.out.mono ?_; rintro e w2 ⟨rfl, hb2⟩)
      go_ret
      exact ⟨rfl, HI.out.1.trans hb2⟩

theorem own : ownKnob Tryd.prog.godebug = none := by kernel_rfl
theorem laidOut : laidOutB Tryd.prog = true := by kernel_rfl
theorem door_met (os : Os) (args : Array Value) : laidMetH Tryd.prog Rows.hmacNobodyRow.laid ((World.doorLaid Tryd.prog 400 os).forCall (fun _ _ => 0) ⟨#[], args, []⟩).memory :=
  laidMetH_of_parts3 (fuel := 8) (laidMet_of_run' 8 (by kernel_rfl) (by kernel_rfl)) (by kernel_rfl) (by kernel_rfl)
set_option maxRecDepth 100000 in
theorem lifted (os : Os) (started : os.Started) (H : Type) (enc : TypeId × Value → H) :
    ReturnsInHanded {} Tryd.checked os 7 .any (fun w args => (Rows.hmacNobodySpec.pre enc Tryd.prog Tryd.f7 [] false w args ∧ laidMetH Tryd.prog Rows.hmacNobodyRow.laid w) ∧ sizedMet enc Tryd.prog Tryd.f7 (OpenSpec.ofChange Rows.hmacNobodySpec) false w args) (Rows.hmacNobodySpec.post enc Tryd.prog Tryd.f7 false true false false) := by
  refine returnsInHanded_of_change_and (C := Tryd.checked) (X := fun w _ => laidMetH Tryd.prog Rows.hmacNobodyRow.laid w) (fun _ _ _ hh h => h.of_heap hh) own started (by kernel_rfl) Tryd.func7
    (ChangeSpec.witness_shaped (enc := enc) (C := Tryd.checked) (os := os) (X := fun w _ => laidMetH Tryd.prog Rows.hmacNobodyRow.laid w) false (World.doorLaid Tryd.prog 400 os) #[.slice none 0 0] 8 rfl (World.shaped_of_RefB (by kernel_rfl) (by kernel_rfl)) (by kernel_rfl) (by kernel_rfl) (by kernel_rfl) (door_met os _)) ?_
  intro W base args ds gs before hval0 hW _ _ hL _
  have hval : ∀ (j : Nat) t v, Tryd.f7.params[j]? = some t → args[j]? = some v → Value.okWide Tryd.prog W .any base t v := hval0
  have hW' := hW
  obtain ⟨p, q, hA0, hV, rfl, hfz, hnd⟩ := hW
  have hA : DataW.TrodAll enc Tryd.prog W 0 (fun _ => true) true Tryd.f7.params.toList args.toList ds p := hA0
  rw [Tryd.params7] at hA hval
  obtain ⟨v0, vs0, d0, ds0, p0, q0, hargs, rfl, rfl, h0, r0⟩ := trodAll_cons hA
  obtain ⟨rfl, rfl, rfl⟩ := trodAll_nil r0
  obtain rfl : args = #[v0] := by cases args; simp_all
  obtain ⟨rfl, rfl⟩ := trodVars_none hV
  have k0 := h0
  have lt0 : ∀ x ∈ p0, x.block < W.heap.size := by obtain ⟨m, hm⟩ := k0; exact DataW.trod_lt m _ _ _ hm
  obtain ⟨a0, n0, c0, l0, rfl, hn0, b0⟩ := open_bytes Tryd.underlying22 Tryd.underlying5 (by kernel_rfl) (hval 0 22 v0 rfl rfl) h0
  clear hA0 hval0
  refine (walk W (of_laid hL) a0 n0 c0 l0 hn0 b0).mono fun e W' ⟨he, bel⟩ => ?_
  subst he
  exact ⟨_, rfl, _, _, _, [], _, [], hW', trodAll_mk1 (shut_bool Tryd.underlying4 _), (trodAll_cons_mk (Below.trod laidOut (by kernel_rfl) (of_decide_eq_true (by kernel_rfl)) k0 bel lt0) trodAll_mk0), rfl, bel.frame _, fun h => by cases h⟩
theorem over : Rows.hmacNobodyRow.holds Tryd.pinned (OpenSpec.ofChange Rows.hmacNobodySpec) :=
  OpenClaim.holds_of_wide 7 Tryd.f7 rfl rfl rfl rfl rfl rfl rfl ⟨rfl, rfl, rfl, rfl, rfl⟩ rfl rfl rfl rfl rfl (by kernel_rfl) Tryd.func7 (by kernel_rfl)
    (of_decide_eq_true (by kernel_rfl)) (by unfold Func.isWrapper; first | (rw [if_pos (by decide +kernel)]; kernel_rfl) | (rw [if_neg (by decide +kernel)]; exact ⟨rfl, rfl⟩))
    (fun os started H enc _ => lifted os started H enc)
/-- The statement: the tied card. -/
theorem proved : Rows.HmacNobodyCardSaid :=
  Claim7.holds_tied_plain_at .later [] [.data] true (true, "9abe32846175d7d928e091f7b03d119c43aa96f6037755fc8c775b6f4729cb41") false over (fun _ h => by cases h) (by kernel_rfl) (fun _ h => by cases h) hmacNobody_row_tie rfl ⟨rfl, rfl⟩ (by kernel_rfl) rfl
    (fun f fn hf hfn => by
      obtain rfl : f = 7 := Option.some.inj ((show Tryd.prog.funcNamed "concierge/conciergelaw03.HmacNobody" = some 7 by kernel_rfl).symm.trans hf) |>.symm
      obtain rfl : fn = Tryd.f7 := (Option.some.inj (Tryd.func7.symm.trans hfn)).symm
      exact ⟨by kernel_rfl, fun j t ht => by
        rw [Tryd.params7] at ht
        have hm : t ∈ [22] := by simpa using Array.mem_of_getElem? ht
        have hall : ([22].all fun u => !Tryd.prog.wantsStandIn u) = true := by kernel_rfl
        exact (show Tryd.prog.wantsStandIn t = false by simpa using List.all_eq_true.1 hall t hm)⟩)
    (by kernel_rfl)
end Go.Proofs.YtjlebchbfadkoaaDoor.hmacNobody
