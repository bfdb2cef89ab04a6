/-
  For every key and every row of slices of bytes (its first twelve; of each the first 600 bytes) a message that is added in pieces has its HMAC and its length, behind each piece (conciergelaw03.HmacPieces answers true). The listed table of constants is tied to the program's text. No condition.
-/
import Derived.Test.YtjlebchbfadkoaaDoorMacU
import Derived.Test.YtjlebchbfadkoaaDoorRows2
import Derived.ProofKit
import Derived.OpenShut
import Derived.ShutString
import Derived.ChangeOld
import Derived.SevenTiedAt
namespace Go.Proofs.YtjlebchbfadkoaaDoor.hmacPieces
open Go.ChangeShapes Go.WideShapes Go.ChangeAt Go.RowKit
open Go.ChangeMaps (open_string shut_string)
set_option linter.unusedVariables false
set_option linter.unusedSimpArgs false

theorem ownsRow_only {w w' : World} {B g n : Nat} {e : TypeId} {v : Value} {xs : List Value} (h : w.ownsRow B e 1 v n xs) (ho : Only g w w') (hg : g < B) : w'.ownsRow B e 1 v n xs := by
  refine ⟨h.1, ?_⟩
  rcases h.2 with h | ⟨g', cap, cur, h1, h2, h3, h4⟩
  · exact .inl h
  · exact .inr ⟨g', cap, cur, h1, h2, by rw [ho.heap _ (Array.getElem?_eq_some_iff.1 h3).1 (by omega)]; exact h3, h4⟩
theorem hash_block {w w' : World} {B g : Nat} {t : List UInt8} (h : HashAt w g t) (hb : Below B w w') (hg : g < B) : HashAt w' g t := by
  obtain ⟨left, hl, hg'⟩ := h
  exact ⟨left, hl, by rw [hb.block g hg]; exact hg'⟩
theorem mac_block {w w' : World} {B m gi go : Nat} {key msg : List UInt8} (h : MacAt w m gi go key msg) (hb : Below B w w') (h1 : m < B) (h2 : gi < B) (h3 : go < B) : MacAt w' m gi go key msg :=
  ⟨by rw [hb.block m h1]; exact h.1, hash_block h.2.1 hb h2, hash_block h.2.2.1 hb h3, h.2.2.2⟩
/-- What the loop holds. -/
def PI (W wr : World) (B m gi go : Nat) (key t : List UInt8) (v : Value) (k : Nat) : Prop :=
  Below W.heap.size W wr ∧ MacAt wr m gi go key t ∧ wr.ownsRow B 5 1 v t.length (t.map u8v) ∧ t.length ≤ 600 * k ∧ B ≤ wr.heap.size
theorem neq_bytes32 (y : List UInt8) (h32 : y.length = 32) (w : World) : (binOp .neq 24 (.agg (y.map u8v).toArray) (.agg (y.map u8v).toArray)).run Tryd.prog w = .ok (.bool false) w := by
  obtain ⟨i0, hi, hz0, hz1, hz2⟩ := info_parts info5
  have := run_neq_array Tryd.underlying24 Tryd.underlying5 hi hz1 (y.map fun b => (b.toNat : Int)) (y.map fun b => (b.toNat : Int)) (by simpa using h32) (by simpa using h32) w
  have e : y.map u8v = (y.map fun b => (b.toNat : Int)).map (Value.int .u8) := by rw [List.map_map]; rfl
  rw [e, this]
  simp

set_option maxHeartbeats 4000000 in
theorem walk (W : World) (hL : Laid W) (a0 : Option Addr) (n0 c0 : Nat) (l0 : List UInt8) (hn0 : l0.length = n0) (b0 : Bs W (.slice a0 n0 c0) l0) (a1 : Option Addr) (n1 c1 : Nat) (xs : List Value) (r1 : Rd W 1 (.slice a1 n1 c1) n1 xs) (rin : RowsIn W xs) :
    Calls Tryd.prog 4 #[.slice a0 n0 c0, .slice a1 n1 c1] W fun e w' => e = .returned (.bool true) ∧ Below W.heap.size W w' := by
  obtain ⟨m0, x0, hm0, hx0, u0, lo0, hc0⟩ := cut_in hn0 b0
  obtain ⟨_, _, es0, hc1, hm1⟩ := r1.shape
  simp only [Value.slice.injEq] at es0
  obtain ⟨rfl, z0, rfl⟩ := es0
  clear z0
  unfold maxLen at hm1
  have HC0 := Lib.hid hc0
  have HR1 := Lib.hid r1
  have HIN := Lib.hid rin
  have HLD := Lib.hid hL
  have HX0 := Lib.hid hx0
  have HU0 := Lib.hid u0
  have HW0 : 0 < W.heap.size := hL.1
  obtain ⟨i0, hi, hz0, hz1, hz2⟩ := info_parts info5
  clear hn0 b0 u0 lo0 hc0 hx0 r1 rin hL
  go_enter Tryd.func4, Tryd.ntmps4
  go_wp2_with fail
  refine (HC0.out _).mono ?_
  rintro e w' ⟨rfl, rfl⟩
  go_wp2_with fail
  refine (mac_new_any a0 m0 c0 x0 HX0.out W HU0.out HLD.out (by have := HX0.out; omega)).mono ?_
  rintro e w1 ⟨m, gi, go, rfl, hm, hgi, hgo, hh1, hb1⟩
  have H1 := Lib.hid hh1
  have B1 : Hid (Below W.heap.size W w1) := hb1
  obtain ⟨B, hB⟩ : ∃ B, B = w1.heap.size := ⟨_, rfl⟩
  have hmB : m < B := by rw [hB]; exact (Array.getElem?_eq_some_iff.1 hh1.1).1
  have hgiB : gi < B := by rw [hB]; exact hh1.2.1.lt
  have hgoB : go < B := by rw [hB]; exact hh1.2.2.1.lt
  have HB := Lib.hid hB
  clear hh1 hb1 hB
  obtain ⟨y, hy⟩ : ∃ y, y = hmacL x0 [] := ⟨_, rfl⟩
  have HY := Lib.hid hy
  have hne := fun w => neq_bytes32 y (by rw [HY.out]; exact hmacL_length _ _) w
  have HS := Lib.hid (mac_sum_any m gi go x0 [] w1 H1.out (HLD.out.below B1.out) (by simp))
  rw [← hy] at HS
  clear hy
  go_wp2_with fail
  refine (HS.out).mono ?_
  rintro e w2 ⟨rfl, hb2⟩
  have H2 := Lib.hid (H1.out.below hb2)
  have B2 : Hid (Below W.heap.size W w2) := B1.out.trans (hb2.mono B1.out.size)
  have S2 : Hid (B ≤ w2.heap.size) := by show _ ≤ _; rw [HB.out]; exact hb2.size
  have HR := Lib.hid (rhmac_any a0 m0 c0 x0 HX0.out none 0 0 [] rfl w2 (HU0.out.below B2.out) (Bs.nil _) (by have := HX0.out; omega) (by simp))
  rw [← HY.out] at HR
  clear hb2
  go_wp2_with fail
  refine (HR.out).mono ?_
  rintro e w3 ⟨rfl, hb3⟩
  have HI : Hid (PI W w3 B m gi go x0 [] (.slice none 0 0) 0) := ⟨B2.out.trans (hb3.mono B2.out.size), H2.out.below hb3, World.ownsRow_nil _ _ _ _, by simp, Nat.le_trans S2.out hb3.size⟩
  clear hb3 H1 H2 B1 B2 S2 HS HR
  go_wp2
  clear hne
  go_loopw [6, 7] (fun v6 i7 wr => ∃ (k : Nat) (t : List UInt8) (av : Option Addr) (cv : Nat), k ≤ n1 ∧ k ≤ 12 ∧ i7 = .int .i64 (k : Int) ∧ v6 = .slice av t.length cv ∧ Hid (PI W wr B m gi go x0 t v6 k)) (fun _ i7 _ => 12 - (intOf i7).toNat)
  case atStart => exact ⟨0, [], none, 0, by omega, by omega, rfl, rfl, HI⟩
  case round =>
    clear HI
    obtain ⟨k, t, av, cv, hkn, hk12, rfl, rfl, HI⟩ := hrel
    have ht : t.length ≤ 600 * k := HI.out.2.2.2.1
    by_cases hlt : k < n1 ∧ k < 12
    · obtain ⟨hkn2, hk122⟩ := hlt
      obtain ⟨u, hu⟩ : ∃ u, xs[k]? = some u := ⟨_, List.getElem?_eq_getElem (by have := HR1.out.1; omega)⟩
      obtain ⟨A, L, C, l, rfl, hlL, hbs⟩ := HIN.out k u hu
      obtain ⟨bo, oo, ha1, hbo, hcs⟩ := HR1.out.cells (by omega) (by omega)
      have hcell : wr.cell? ⟨bo, oo + k, none⟩ = some (.slice A L C) := by
        rw [HI.out.1.cell (by show bo < _; exact hbo)]; exact hcs k _ hu
      subst ha1
      obtain ⟨mm, x, hmm, hx, ux, lox, hcx⟩ := cut_in hlL hbs
      have HCX := Lib.hid hcx
      have HX := Lib.hid hx
      have HUX := Lib.hid ux
      have HOFF : Hid (0 < mm → Off gi A) := fun h0 ad had => by have := lox h0 ad had; omega
      obtain ⟨t2, ht2⟩ : ∃ t2, t2 = t ++ x := ⟨_, rfl⟩
      have hl2 : t2.length = t.length + mm := by rw [ht2, List.length_append, hx]
      have hmap : t.map u8v ++ x.map u8v = t2.map u8v := by rw [ht2, List.map_append]
      have hb2 : t2.length ≤ 600 * (k + 1) := by omega
      obtain ⟨y, hy⟩ : ∃ y, y = hmacL x0 t2 := ⟨_, rfl⟩
      have HY := Lib.hid hy
      have hne := fun w => neq_bytes32 y (by rw [HY.out]; exact hmacL_length _ _) w
      have HT2 := Lib.hid ht2
      have HL2 := Lib.hid hl2
      have HMAP := Lib.hid hmap
      clear hu hcs hlL hbs hx ux lox hcx ht2 hl2 hmap hy
      go_wp2_with fail
      refine (HCX.out _).mono ?_
      rintro e w' ⟨rfl, rfl⟩
      go_wp2_with fail
      refine (mac_add_any m gi go x0 t wr HI.out.2.1 (HLD.out.below HI.out.1) (by omega) A mm C x HX.out (HUX.out.below HI.out.1) HOFF.out (by have := HX.out; omega)).mono ?_
      rintro e w3 ⟨rfl, hh3, ho3⟩
      rw [← HT2.out] at hh3
      have H3 := Lib.hid hh3
      have B3 : Hid (Below W.heap.size W w3) := ho3.below _ _ (by omega) HI.out.1
      have O3 := Lib.hid (ownsRow_only HI.out.2.2.1 ho3 hgiB)
      have S3 : Hid (B ≤ w3.heap.size) := Nat.le_trans HI.out.2.2.2.2 ho3.size
      have P3 : Hid (Rd w3 1 (.slice A mm C) mm (x.map u8v)) := by
        have := HUX.out.below B3.out
        unfold Bs at this
        rw [HX.out] at this
        exact this
      clear hh3 ho3 hcell
      go_wp2_with (at_builtin; refine wpList_append_rd _ rfl _ _ 22 rfl B 5 i0 (.int .u8 0) 1 1 Tryd.underlying22 hi hz0 hz1 hz2 rfl (by decide) _ _ _ rfl O3.out _ _ _ rfl P3.out (oneCell_u8 _) ?o2 (by decide) S3.out ?_)
      case o2 => omega
      intro v5 w4 hown5 hb4
      rw [HMAP.out, ← HL2.out] at hown5
      have H4 := Lib.hid (mac_block H3.out hb4 hmB hgiB hgoB)
      have B4 : Hid (Below W.heap.size W w4) := B3.out.trans (hb4.mono (by omega))
      have S4 : Hid (B ≤ w4.heap.size) := Nat.le_trans S3.out hb4.size
      obtain ⟨av5, cv5, hv5⟩ : ∃ a c, v5 = .slice a t2.length c := by
        obtain ⟨a, c, h, _⟩ := (own_rd hown5).shape
        exact ⟨a, c, h⟩
      subst hv5
      have O5 := Lib.hid hown5
      have V5 : Hid (Bs w4 (.slice av5 t2.length cv5) t2) := own_rd hown5
      clear hown5 hb4 O3 P3 H3 S3
      have HS := Lib.hid (mac_sum_any m gi go x0 t2 w4 H4.out (HLD.out.below B4.out) (by omega))
      rw [← HY.out] at HS
      go_wp2_with fail
      refine (HS.out).mono ?_
      rintro e w5 ⟨rfl, hb5⟩
      have G5 : Hid (Gr w4 w5) := hb5
      have HR := Lib.hid (rhmac_any a0 m0 c0 x0 HX0.out av5 t2.length cv5 t2 rfl w5 (HU0.out.below (B4.out.trans (hb5.mono B4.out.size))) (V5.out.below hb5) (by have := HX0.out; omega) (by omega))
      rw [← HY.out] at HR
      clear hb5
      go_wp2_with fail
      refine (HR.out).mono ?_
      rintro e w6 ⟨rfl, hb6⟩
      have G6 : Hid (Gr w4 w6) := G5.out.trans hb6
      clear hb6
      go_wp2_with fail
      refine (mac_len_any m gi go x0 t2 w6 (H4.out.below G6.out) (by omega)).mono ?_
      rintro e w' ⟨rfl, rfl⟩
      have HI6 : Hid (PI W w6 B m gi go x0 t2 (.slice av5 t2.length cv5) (k + 1)) := ⟨B4.out.trans (G6.out.mono B4.out.size), H4.out.below G6.out, ownsRow_below O5.out G6.out, hb2, Nat.le_trans S4.out G6.out.size⟩
      go_wp2
      go_roundw
      case rel =>
        first | exact ⟨k + 1, t2, av5, cv5, by omega, by omega, by go_num, rfl, HI6⟩ | ((repeat apply Exists.intro); exact ⟨⟨k + 1, t2, av5, cv5, by omega, by omega, by go_num, rfl, HI6⟩, rfl⟩)
      case measure => simp [intOf]; omega
    · have HA := Lib.hid (awake_any wr (HLD.out.below HI.out.1))
      have hcase : n1 = k ∨ (k < n1 ∧ k = 12) := by omega
      clear hlt
      rcases hcase with rfl | ⟨hkn2, rfl⟩
      all_goals
        go_wp2_with (go_at_call 15; refine HA.out.mono ?_; rintro e w2 ⟨rfl, hb2⟩)
        go_ret
        exact ⟨rfl, HI.out.1.trans (hb2.mono HI.out.1.size)⟩

theorem own : ownKnob Tryd.prog.godebug = none := by kernel_rfl
theorem laidOut : laidOutB Tryd.prog = true := by kernel_rfl
theorem door_met (os : Os) (args : Array Value) : laidMetH Tryd.prog Rows.hmacPiecesRow.laid ((World.doorLaid Tryd.prog 400 os).forCall (fun _ _ => 0) ⟨#[], args, []⟩).memory :=
  laidMetH_of_parts3 (fuel := 8) (laidMet_of_run' 8 (by kernel_rfl) (by kernel_rfl)) (by kernel_rfl) (by kernel_rfl)
set_option maxRecDepth 100000 in
theorem lifted (os : Os) (started : os.Started) (H : Type) (enc : TypeId × Value → H) :
    ReturnsInHanded {} Tryd.checked os 4 .any (fun w args => (Rows.hmacPiecesSpec.pre enc Tryd.prog Tryd.f4 [] false w args ∧ laidMetH Tryd.prog Rows.hmacPiecesRow.laid w) ∧ sizedMet enc Tryd.prog Tryd.f4 (OpenSpec.ofChange Rows.hmacPiecesSpec) false w args) (Rows.hmacPiecesSpec.post enc Tryd.prog Tryd.f4 false true false false) := by
  refine returnsInHanded_of_change_and (C := Tryd.checked) (X := fun w _ => laidMetH Tryd.prog Rows.hmacPiecesRow.laid w) (fun _ _ _ hh h => h.of_heap hh) own started (by kernel_rfl) Tryd.func4
    (ChangeSpec.witness_shaped (enc := enc) (C := Tryd.checked) (os := os) (X := fun w _ => laidMetH Tryd.prog Rows.hmacPiecesRow.laid w) false (World.doorLaid Tryd.prog 400 os) #[.slice none 0 0, .slice none 0 0] 8 rfl (World.shaped_of_RefB (by kernel_rfl) (by kernel_rfl)) (by kernel_rfl) (by kernel_rfl) (by kernel_rfl) (door_met os _)) ?_
  intro W base args ds gs before hval0 hW _ _ hL _
  have hval : ∀ (j : Nat) t v, Tryd.f4.params[j]? = some t → args[j]? = some v → Value.okWide Tryd.prog W .any base t v := hval0
  have hW' := hW
  obtain ⟨p, q, hA0, hV, rfl, hfz, hnd⟩ := hW
  have hA : DataW.TrodAll enc Tryd.prog W 0 (fun _ => true) true Tryd.f4.params.toList args.toList ds p := hA0
  rw [Tryd.params4] at hA hval
  obtain ⟨v0, vs0, d0, ds0, p0, q0, hargs, rfl, rfl, h0, r0⟩ := trodAll_cons hA
  obtain ⟨v1, vs1, d1, ds1, p1, q1, rfl, rfl, rfl, h1, r1⟩ := trodAll_cons r0
  obtain ⟨rfl, rfl, rfl⟩ := trodAll_nil r1
  obtain rfl : args = #[v0, v1] := by cases args; simp_all
  obtain ⟨rfl, rfl⟩ := trodVars_none hV
  have k0 := h0
  have lt0 : ∀ x ∈ p0, x.block < W.heap.size := by obtain ⟨m, hm⟩ := k0; exact DataW.trod_lt m _ _ _ hm
  obtain ⟨a0, n0, c0, l0, rfl, hn0, b0⟩ := open_bytes Tryd.underlying22 Tryd.underlying5 (by kernel_rfl) (hval 0 22 v0 rfl rfl) h0
  have k1 := h1
  have lt1 : ∀ x ∈ p1, x.block < W.heap.size := by obtain ⟨m, hm⟩ := k1; exact DataW.trod_lt m _ _ _ hm
  obtain ⟨a1, n1, c1, l1, rfl, hn1, b1⟩ := open_rows Tryd.underlying30 Tryd.underlying22 Tryd.underlying5 (by kernel_rfl) (by kernel_rfl) (hval 1 30 v1 rfl rfl) h1
  clear hA0 hval0
  refine (walk W (of_laid hL) a0 n0 c0 l0 hn0 b0 a1 n1 c1 l1 hn1 b1).mono fun e W' ⟨he, bel⟩ => ?_
  subst he
  exact ⟨_, rfl, _, _, _, [], _, [], hW', trodAll_mk1 (shut_bool Tryd.underlying4 _), (trodAll_cons_mk (Below.trod laidOut (by kernel_rfl) (of_decide_eq_true (by kernel_rfl)) k0 bel lt0) (trodAll_cons_mk (Below.trod laidOut (by kernel_rfl) (of_decide_eq_true (by kernel_rfl)) k1 bel lt1) trodAll_mk0)), rfl, bel.frame _, fun h => by cases h⟩
theorem over : Rows.hmacPiecesRow.holds Tryd.pinned (OpenSpec.ofChange Rows.hmacPiecesSpec) :=
  OpenClaim.holds_of_wide 4 Tryd.f4 rfl rfl rfl rfl rfl rfl rfl ⟨rfl, rfl, rfl, rfl, rfl⟩ rfl rfl rfl rfl rfl (by kernel_rfl) Tryd.func4 (by kernel_rfl)
    (of_decide_eq_true (by kernel_rfl)) (by unfold Func.isWrapper; first | (rw [if_pos (by decide +kernel)]; kernel_rfl) | (rw [if_neg (by decide +kernel)]; exact ⟨rfl, rfl⟩))
    (fun os started H enc _ => lifted os started H enc)
/-- The statement: the tied card. -/
theorem proved : Rows.HmacPiecesCardSaid :=
  Claim7.holds_tied_plain_at .later [] [.data] true (true, "9abe32846175d7d928e091f7b03d119c43aa96f6037755fc8c775b6f4729cb41") false over (fun _ h => by cases h) (by kernel_rfl) (fun _ h => by cases h) hmacPieces_row_tie rfl ⟨rfl, rfl⟩ (by kernel_rfl) rfl
    (fun f fn hf hfn => by
      obtain rfl : f = 4 := Option.some.inj ((show Tryd.prog.funcNamed "concierge/conciergelaw03.HmacPieces" = some 4 by kernel_rfl).symm.trans hf) |>.symm
      obtain rfl : fn = Tryd.f4 := (Option.some.inj (Tryd.func4.symm.trans hfn)).symm
      exact ⟨by kernel_rfl, fun j t ht => by
        rw [Tryd.params4] at ht
        have hm : t ∈ [22, 30] := by simpa using Array.mem_of_getElem? ht
        have hall : ([22, 30].all fun u => !Tryd.prog.wantsStandIn u) = true := by kernel_rfl
        exact (show Tryd.prog.wantsStandIn t = false by simpa using List.all_eq_true.1 hall t hm)⟩)
    (by kernel_rfl)
end Go.Proofs.YtjlebchbfadkoaaDoor.hmacPieces
