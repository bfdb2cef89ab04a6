/-
  For every row of slices of bytes (its first ten, of each the first 150 bytes) a text that is added in parts has its sum and its length, behind each part (conciergelaw02.ShaAdds answers true). The listed table of constants is tied to the program's text. No condition.
-/
import Derived.Test.YtagfgkhadmoboaaDoorShaN
import Derived.Test.YtagfgkhadmoboaaDoorRows2
import Derived.ProofKit
import Derived.OpenShut
import Derived.ShutString
import Derived.ChangeOld
import Derived.SevenTiedAt
namespace Go.Proofs.YtagfgkhadmoboaaDoor.shaAdds
open Go.ChangeShapes Go.WideShapes Go.ChangeAt Go.RowKit
open Go.ChangeMaps (open_string shut_string)
set_option linter.unusedVariables false
set_option linter.unusedSimpArgs false

theorem ownsRow_only {w w' : World} {g n : Nat} {e : TypeId} {v : Value} {xs : List Value} (h : w.ownsRow (g + 1) e 1 v n xs) (ho : Only g w w') : w'.ownsRow (g + 1) e 1 v n xs := by
  refine ⟨h.1, ?_⟩
  rcases h.2 with h | ⟨g', cap, cur, h1, h2, h3, h4⟩
  · exact .inl h
  · exact .inr ⟨g', cap, cur, h1, h2, by rw [ho.heap _ (Array.getElem?_eq_some_iff.1 h3).1 (by omega)]; exact h3, h4⟩
theorem hash_block {w w' : World} {g : Nat} {t : List UInt8} (h : HashAt w g t) (hb : Below (g + 1) w w') : HashAt w' g t := by
  obtain ⟨left, hl, hg⟩ := h
  exact ⟨left, hl, by rw [hb.block g (by omega)]; exact hg⟩
/-- What the loop holds. -/
def AI (W wr : World) (g : Nat) (t : List UInt8) (v : Value) (k : Nat) : Prop :=
  Below W.heap.size W wr ∧ HashAt wr g t ∧ wr.ownsRow (g + 1) 5 1 v t.length (t.map u8v) ∧ t.length ≤ 150 * k

set_option maxHeartbeats 4000000 in
theorem walk (W : World) (hL : Laid W) (a0 : Option Addr) (n0 c0 : Nat) (xs : List Value) (r0 : Rd W 1 (.slice a0 n0 c0) n0 xs) (rin : RowsIn W xs) :
    Calls Tryd.prog 8 #[.slice a0 n0 c0] W fun e w' => e = .returned (.bool true) ∧ Below W.heap.size W w' := by
  obtain ⟨_, _, es0, hc0, hm0⟩ := r0.shape
  simp only [Value.slice.injEq] at es0
  obtain ⟨rfl, z0, rfl⟩ := es0
  clear z0
  unfold maxLen at hm0
  have HR0 := Lib.hid r0
  have HIN := Lib.hid rin
  have HLD := Lib.hid hL
  have HW0 : 0 < W.heap.size := hL.1
  obtain ⟨i0, hi, hz0, hz1, hz2⟩ := info_parts info5
  clear r0 rin hL
  go_enter Tryd.func8, Tryd.ntmps8
  go_wp2_with fail
  refine (new_any W).mono ?_
  rintro e w1 ⟨g, rfl, hg, hh1, hb1⟩
  have H1 := Lib.hid hh1
  have B1 : Hid (Below W.heap.size W w1) := hb1
  clear hh1 hb1
  go_wp2_with fail
  refine (awake_any w1 (HLD.out.below B1.out)).mono ?_
  rintro e w2 ⟨rfl, hb2⟩
  have HI : Hid (AI W w2 g [] (.slice none 0 0) 0) := ⟨B1.out.trans (hb2.mono B1.out.size), H1.out.below hb2, World.ownsRow_nil _ _ _ _, by simp⟩
  clear hb2
  go_wp2
  go_loopw [4, 5] (fun v4 i5 wr => ∃ (k : Nat) (t : List UInt8) (av : Option Addr) (cv : Nat), k ≤ n0 ∧ k ≤ 10 ∧ i5 = .int .i64 (k : Int) ∧ v4 = .slice av t.length cv ∧ Hid (AI W wr g t v4 k)) (fun _ i5 _ => 10 - (intOf i5).toNat)
  case atStart => exact ⟨0, [], none, 0, by omega, by omega, rfl, rfl, HI⟩
  case round =>
    clear HI H1 B1
    obtain ⟨k, t, av, cv, hkn, hk10, rfl, rfl, HI⟩ := hrel
    have ht : t.length ≤ 150 * k := HI.out.2.2.2
    by_cases hlt : k < n0 ∧ k < 10
    · obtain ⟨hkn2, hk102⟩ := hlt
      obtain ⟨u, hu⟩ : ∃ u, xs[k]? = some u := ⟨_, List.getElem?_eq_getElem (by have := HR0.out.1; omega)⟩
      obtain ⟨A, L, C, l, rfl, hlL, hbs⟩ := HIN.out k u hu
      obtain ⟨bo, oo, ha0, hbo, hcs⟩ := HR0.out.cells (by omega) (by omega)
      have hcell : wr.cell? ⟨bo, oo + k, none⟩ = some (.slice A L C) := by
        rw [HI.out.1.cell (by show bo < _; exact hbo)]; exact hcs k _ hu
      subst ha0
      have hcut : ∃ (A' : Option Addr) (m : Nat) (x : List UInt8), x.length = m ∧ m ≤ 150 ∧ Bs W (.slice A' m C) x ∧
          ((L ≤ 150 ∧ A' = A ∧ m = L) ∨ (150 < L ∧ m = 150 ∧ ∀ w', (Instr.slice 29 (.slice A L C) none (some (.int .i64 150)) none).run Tryd.prog w' = .ok (.slice A' 150 C) w')) := by
        by_cases hL : L ≤ 150
        · exact ⟨A, L, l, hlL, hL, hbs, .inl ⟨hL, rfl, rfl⟩⟩
        · obtain ⟨A', hrun, hrd⟩ := slice_upto Tryd.underlying29 hi hz1 (show Rd W 1 (.slice A L C) L (l.map u8v) by unfold Bs at hbs; rw [hlL] at hbs; exact hbs) .i64 150 150 rfl (by omega)
          refine ⟨A', 150, l.take 150, by rw [List.length_take]; omega, by omega, ?_, .inr ⟨by omega, rfl, hrun⟩⟩
          unfold Bs
          rw [List.length_take, Nat.min_eq_left (by omega)]
          simpa [List.map_take] using hrd
      obtain ⟨A', m, x, hxm, hm150, hxs, hcase⟩ := hcut
      obtain ⟨t2, ht2⟩ : ∃ t2, t2 = t ++ x := ⟨_, rfl⟩
      have hl2 : t2.length = t.length + x.length := by rw [ht2, List.length_append]
      have hmap : t.map u8v ++ x.map u8v = t2.map u8v := by rw [ht2, List.map_append]
      have hb2 : t2.length ≤ 150 * (k + 1) := by omega
      obtain ⟨y, hy⟩ : ∃ y, y = sumL t2 := ⟨_, rfl⟩
      have HY := Lib.hid hy
      have hne : ∀ w, (binOp .neq 33 (.agg (y.map u8v).toArray) (.agg (y.map u8v).toArray)).run Tryd.prog w = .ok (.bool false) w := fun w => by
        have h32 : y.length = 32 := by rw [HY.out]; exact sumL_length t2
        have := run_neq_array Tryd.underlying33 Tryd.underlying5 hi hz1 (y.map fun b => (b.toNat : Int)) (y.map fun b => (b.toNat : Int)) (by simpa using h32) (by simpa using h32) w
        have e : y.map u8v = (y.map fun b => (b.toNat : Int)).map (Value.int .u8) := by rw [List.map_map]; rfl
        rw [e, this]
        simp
      have HXM := Lib.hid hxm
      have HXS := Lib.hid hxs
      have HT2 := Lib.hid ht2
      have HL2 := Lib.hid hl2
      have HMAP := Lib.hid hmap
      have hx150 : x.length ≤ 150 := by omega
      have HOFF : Hid (0 < m → Off g A') := fun h0 ad had => by have := Bs.low hxs hxm h0 ad had; omega
      clear hu hcs hlL hbs hxm hxs ht2 hl2 hmap hy
      rcases hcase with ⟨hL150, rfl, rfl⟩ | ⟨hL150, rfl, hrun⟩
      all_goals
        go_wp2_with fail
        refine (add_any g t wr HI.out.2.1 (HLD.out.below HI.out.1) (by omega) _ _ C x HXM.out (HXS.out.below HI.out.1) HOFF.out (by omega)).mono ?_
        rintro e w3 ⟨rfl, hh3, ho3⟩
        rw [← HT2.out] at hh3
        have H3 := Lib.hid hh3
        have B3 : Hid (Below W.heap.size W w3) := ho3.below _ _ (by omega) HI.out.1
        have O3 := Lib.hid (ownsRow_only HI.out.2.2.1 ho3)
        have S3 : Hid (g + 1 ≤ w3.heap.size) := hh3.lt
        have P3 := Lib.hid (HXS.out.below B3.out)
        clear hh3 ho3
        go_wp2_with (at_builtin; refine wpList_append_rd _ rfl _ _ 29 rfl (g + 1) 5 i0 (.int .u8 0) 1 1 Tryd.underlying29 hi hz0 hz1 hz2 rfl (by decide) _ _ _ rfl O3.out _ _ _ rfl P3.out (oneCell_u8 _) ?o2 (by decide) S3.out ?_)
        case o2 => omega
        intro v5 w4 hown5 hb4
        rw [HMAP.out, ← HL2.out] at hown5
        have H4 := Lib.hid (hash_block H3.out hb4)
        have B4 : Hid (Below W.heap.size W w4) := B3.out.trans (hb4.mono (by omega))
        obtain ⟨av5, cv5, hv5⟩ : ∃ a c, v5 = .slice a t2.length c := by
          obtain ⟨a, c, h, _⟩ := (own_rd hown5).shape
          exact ⟨a, c, h⟩
        subst hv5
        have O5 := Lib.hid hown5
        have V5 : Hid (Bs w4 (.slice av5 t2.length cv5) t2) := own_rd hown5
        clear hown5 hb4 O3 P3 H3
        go_wp2_with fail
        refine (len_any g t2 w4 H4.out).mono ?_
        rintro e w' ⟨rfl, rfl⟩
        have HS := Lib.hid (hsum_any g t2 w4 H4.out (HLD.out.below B4.out) (by omega))
        rw [← HY.out] at HS
        go_wp2_with fail
        refine (HS.out).mono ?_
        rintro e w5 ⟨rfl, hb5⟩
        have G5 : Hid (Gr w4 w5) := hb5
        have HR := Lib.hid (rsum_any av5 t2.length cv5 t2 rfl w5 (V5.out.below hb5) (by omega))
        rw [← HY.out] at HR
        clear hb5
        go_wp2_with fail
        refine (HR.out).mono ?_
        rintro e w6 ⟨rfl, hb6⟩
        have G6 : Hid (Gr w4 w6) := G5.out.trans hb6
        have HI6 : Hid (AI W w6 g t2 (.slice av5 t2.length cv5) (k + 1)) := ⟨B4.out.trans (G6.out.mono B4.out.size), H4.out.below G6.out, ownsRow_below O5.out G6.out, hb2⟩
        clear hb6
        go_wp2
        go_roundw
        case rel =>
          first | exact ⟨k + 1, t2, av5, cv5, by omega, by omega, by go_num, rfl, HI6⟩ | ((repeat apply Exists.intro); exact ⟨⟨k + 1, t2, av5, cv5, by omega, by omega, by go_num, rfl, HI6⟩, rfl⟩)
        case measure => simp [intOf]; omega
    · obtain ⟨y, hy⟩ : ∃ y, y = sumL t := ⟨_, rfl⟩
      have HY := Lib.hid hy
      have HE : ∀ w, (binOp .eql 33 (.agg (y.map u8v).toArray) (.agg (y.map u8v).toArray)).run Tryd.prog w = .ok (.bool true) w := fun w => eql_bytes32 y (by rw [HY.out]; exact sumL_length t) w
      have HS := Lib.hid (hsum_any g t wr HI.out.2.1 (HLD.out.below HI.out.1) (by omega))
      rw [← hy] at HS
      have V : Hid (Bs wr (.slice av t.length cv) t) := own_rd HI.out.2.2.1
      clear hy
      have hcase : n0 = k ∨ (k < n0 ∧ k = 10) := by omega
      clear hlt
      rcases hcase with rfl | ⟨hkn2, rfl⟩
      all_goals
        go_wp2_with fail
        refine (HS.out).mono ?_
        rintro e w5 ⟨rfl, hb5⟩
        have G5 : Hid (Gr wr w5) := hb5
        have HR := Lib.hid (rsum_any av t.length cv t rfl w5 (V.out.below hb5) (by omega))
        rw [← HY.out] at HR
        clear hb5
        go_wp2_with fail
        refine (HR.out).mono ?_
        rintro e w6 ⟨rfl, hb6⟩
        have G6 : Hid (Gr wr w6) := G5.out.trans hb6
        clear hb6
        go_wp2_with fail
        refine (len_any g t w6 (HI.out.2.1.below G6.out)).mono ?_
        rintro e w' ⟨rfl, rfl⟩
        go_wp2
        go_ret
        exact ⟨rfl, HI.out.1.trans (G6.out.mono HI.out.1.size)⟩

theorem own : ownKnob Tryd.prog.godebug = none := by kernel_rfl
theorem laidOut : laidOutB Tryd.prog = true := by kernel_rfl
theorem door_met (os : Os) (args : Array Value) : laidMetH Tryd.prog Rows.shaAddsRow.laid ((World.doorLaid Tryd.prog 400 os).forCall (fun _ _ => 0) ⟨#[], args, []⟩).memory :=
  laidMetH_of_parts3 (fuel := 8) (laidMet_of_run' 8 (by kernel_rfl) (by kernel_rfl)) (by kernel_rfl) (by kernel_rfl)
set_option maxRecDepth 100000 in
theorem lifted (os : Os) (started : os.Started) (H : Type) (enc : TypeId × Value → H) :
    ReturnsInHanded {} Tryd.checked os 8 .any (fun w args => (Rows.shaAddsSpec.pre enc Tryd.prog Tryd.f8 [] false w args ∧ laidMetH Tryd.prog Rows.shaAddsRow.laid w) ∧ sizedMet enc Tryd.prog Tryd.f8 (OpenSpec.ofChange Rows.shaAddsSpec) false w args) (Rows.shaAddsSpec.post enc Tryd.prog Tryd.f8 false true false false) := by
  refine returnsInHanded_of_change_and (C := Tryd.checked) (X := fun w _ => laidMetH Tryd.prog Rows.shaAddsRow.laid w) (fun _ _ _ hh h => h.of_heap hh) own started (by kernel_rfl) Tryd.func8
    (ChangeSpec.witness_shaped (enc := enc) (C := Tryd.checked) (os := os) (X := fun w _ => laidMetH Tryd.prog Rows.shaAddsRow.laid w) false (World.doorLaid Tryd.prog 400 os) #[.slice none 0 0] 8 rfl (World.shaped_of_RefB (by kernel_rfl) (by kernel_rfl)) (by kernel_rfl) (by kernel_rfl) (by kernel_rfl) (door_met os _)) ?_
  intro W base args ds gs before hval0 hW _ _ hL _
  have hval : ∀ (j : Nat) t v, Tryd.f8.params[j]? = some t → args[j]? = some v → Value.okWide Tryd.prog W .any base t v := hval0
  have hW' := hW
  obtain ⟨p, q, hA0, hV, rfl, hfz, hnd⟩ := hW
  have hA : DataW.TrodAll enc Tryd.prog W 0 (fun _ => true) true Tryd.f8.params.toList args.toList ds p := hA0
  rw [Tryd.params8] at hA hval
  obtain ⟨v0, vs0, d0, ds0, p0, q0, hargs, rfl, rfl, h0, r0⟩ := trodAll_cons hA
  obtain ⟨rfl, rfl, rfl⟩ := trodAll_nil r0
  obtain rfl : args = #[v0] := by cases args; simp_all
  obtain ⟨rfl, rfl⟩ := trodVars_none hV
  have k0 := h0
  have lt0 : ∀ x ∈ p0, x.block < W.heap.size := by obtain ⟨m, hm⟩ := k0; exact DataW.trod_lt m _ _ _ hm
  obtain ⟨a0, n0, c0, l0, rfl, hn0, b0⟩ := open_rows Tryd.underlying38 Tryd.underlying29 Tryd.underlying5 (by kernel_rfl) (by kernel_rfl) (hval 0 38 v0 rfl rfl) h0
  clear hA0 hval0
  refine (walk W (of_laid hL) a0 n0 c0 l0 hn0 b0).mono fun e W' ⟨he, bel⟩ => ?_
  subst he
  exact ⟨_, rfl, _, _, _, [], _, [], hW', trodAll_mk1 (shut_bool Tryd.underlying4 _), (trodAll_cons_mk (Below.trod laidOut (by kernel_rfl) (of_decide_eq_true (by kernel_rfl)) k0 bel lt0) trodAll_mk0), rfl, bel.frame _, fun h => by cases h⟩
theorem over : Rows.shaAddsRow.holds Tryd.pinned (OpenSpec.ofChange Rows.shaAddsSpec) :=
  OpenClaim.holds_of_wide 8 Tryd.f8 rfl rfl rfl rfl rfl rfl rfl ⟨rfl, rfl, rfl, rfl, rfl⟩ rfl rfl rfl rfl rfl (by kernel_rfl) Tryd.func8 (by kernel_rfl)
    (of_decide_eq_true (by kernel_rfl)) (by unfold Func.isWrapper; first | (rw [if_pos (by decide +kernel)]; kernel_rfl) | (rw [if_neg (by decide +kernel)]; exact ⟨rfl, rfl⟩))
    (fun os started H enc _ => lifted os started H enc)
/-- The statement: the tied card. -/
theorem proved : Rows.ShaAddsCardSaid :=
  Claim7.holds_tied_plain_at .later [] [.data] true (true, "965a8da0ce5c2711f41dbdd53310348fca91422acffbe9034a6b03730aadf053") false over (fun _ h => by cases h) (by kernel_rfl) (fun _ h => by cases h) shaAdds_row_tie rfl ⟨rfl, rfl⟩ (by kernel_rfl) rfl
    (fun f fn hf hfn => by
      obtain rfl : f = 8 := Option.some.inj ((show Tryd.prog.funcNamed "concierge/conciergelaw02.ShaAdds" = some 8 by kernel_rfl).symm.trans hf) |>.symm
      obtain rfl : fn = Tryd.f8 := (Option.some.inj (Tryd.func8.symm.trans hfn)).symm
      exact ⟨by kernel_rfl, fun j t ht => by
        rw [Tryd.params8] at ht
        have hm : t ∈ [38] := by simpa using Array.mem_of_getElem? ht
        have hall : ([38].all fun u => !Tryd.prog.wantsStandIn u) = true := by kernel_rfl
        exact (show Tryd.prog.wantsStandIn t = false by simpa using List.all_eq_true.1 hall t hm)⟩)
    (by kernel_rfl)
end Go.Proofs.YtagfgkhadmoboaaDoor.shaAdds
