/-
  For every byte and length below 256 sha.Sum answers as the document's Sum does over the text made of them (conciergelaw02.ShaLengths answers true). The listed table of constants is tied to the program's text. No condition.
-/
import Derived.Test.YtagfgkhadmoboaaDoorShaN
import Derived.ProofKit
import Derived.OpenShut
import Derived.ShutString
import Derived.ChangeOld
import Derived.SevenTiedAt
namespace Go.Proofs.YtagfgkhadmoboaaDoor.shaLengths
open Go.ChangeShapes Go.WideShapes Go.ChangeAt Go.RowKit
open Go.ChangeMaps (open_string shut_string)
set_option linter.unusedVariables false
set_option linter.unusedSimpArgs false

/-- The text. -/
def text (x : UInt8) (n : Nat) : List UInt8 := (List.range n).map fun i => x ^^^ UInt8.ofNat i
theorem text_length (x : UInt8) (n : Nat) : (text x n).length = n := by simp [text]
theorem text_get (x : UInt8) (n k : Nat) (h : k < n) : (text x n)[k]? = some (x ^^^ UInt8.ofNat k) := by simp [text, h]
theorem xor_byte (x : UInt8) (k : Nat) (h : k < 256) : bits .xor .u8 (x.toNat : Int) (k : Int) = ((x ^^^ UInt8.ofNat k).toNat : Int) := by
  rw [u8_xor_nat _ _ (UInt8.toNat_lt x) h, UInt8.toNat_xor, UInt8.toNat_ofNat', Nat.mod_eq_of_lt h]

theorem walk (W : World) (hL : Laid W) (a : Int) (wa : (Lit.int .u8 a).wf = true) (b : Int) (wb : (Lit.int .u8 b).wf = true) :
    Calls Tryd.prog 6 #[.int .u8 a, .int .u8 b] W fun e w' => e = .returned (.bool true) ∧ Below W.heap.size W w' := by
  obtain ⟨x, rfl⟩ := u8_of_wf wa
  obtain ⟨b', rfl⟩ := u8_of_wf wb
  obtain ⟨n, hn⟩ : ∃ n, n = b'.toNat := ⟨_, rfl⟩
  have hn256 : n < 256 := by rw [hn]; exact UInt8.toNat_lt b'
  rw [← hn]
  clear hn wa wb
  obtain ⟨i0, hi, hz0, hz1, hz2⟩ := info_parts info5
  have HLD := Lib.hid hL
  have H0 : 0 < W.heap.size := hL.1
  clear hL
  go_enter Tryd.func6, Tryd.ntmps6
  go_wp2_with (at_make; refine wpList_make_full _ rfl _ _ 29 rfl W.heap.size 5 i0 (.int .u8 0) 1 Tryd.underlying29 hi hz0 hz1 _ _ _ _ n rfl rfl rfl rfl ?c1 ?c2 ?c3 ?_)
  case c1 => rw [hz2]; omega
  case c2 => unfold maxLen; omega
  case c3 => simp
  intro w1 hown hg
  rw [toList_madeCells_one] at hown
  have HO : Hid (w1.ownsRow W.heap.size 5 1 (.slice (some ⟨W.heap.size, 0, none⟩) n n) n (upto (text x n) n 0) ∧ Below W.heap.size W w1) := ⟨by rw [upto_zero]; exact hown, (Below.refl _ _).grown hg (Nat.le_refl _) (fun _ h => by cases h)⟩
  clear hown hg
  go_wp2
  go_loopw [6] (fun i6 wr => ∃ k : Nat, k ≤ n ∧ i6 = .int .i64 k ∧ Hid (wr.ownsRow W.heap.size 5 1 (.slice (some ⟨W.heap.size, 0, none⟩) n n) n (upto (text x n) n k) ∧ Below W.heap.size W wr)) (fun i6 _ => n - (intOf i6).toNat)
  case atStart => exact ⟨0, by omega, rfl, HO⟩
  case round =>
    clear HO
    obtain ⟨k, hk, rfl, HO⟩ := hrel
    by_cases hlt : k < n
    · have hf : wr.frozen? ⟨W.heap.size, k, none⟩ = false := HO.out.1.frozenAt _
      have hc : wr.cell? ⟨W.heap.size, k, none⟩ = some (.int .u8 0) := by
        rw [HO.out.1.cellAt _ (by omega)]
        exact upto_at (text x n) n k (text_length x n) hlt
      have hx := xor_byte x k (by omega)
      have HO2 : Hid ((wr.setCell ⟨W.heap.size, k, none⟩ (.int .u8 ((x ^^^ UInt8.ofNat k).toNat : Int))).ownsRow W.heap.size 5 1 (.slice (some ⟨W.heap.size, 0, none⟩) n n) n (upto (text x n) n (k + 1)) ∧ Below W.heap.size W (wr.setCell ⟨W.heap.size, k, none⟩ (.int .u8 ((x ^^^ UInt8.ofNat k).toNat : Int)))) := by
        refine ⟨?_, HO.out.2.setCell (Nat.le_refl _) _⟩
        have := (HO.out.1.stored k (.int .u8 ((x ^^^ UInt8.ofNat k).toNat : Int))).1
        rw [show (Value.int .u8 ((x ^^^ UInt8.ofNat k).toNat : Int)) = u8v (x ^^^ UInt8.ofNat k) from rfl, upto_set (text x n) n k (text_length x n) hlt _ (text_get x n k hlt)] at this
        exact this
      obtain ⟨y, hy⟩ : ∃ y, y = (x ^^^ UInt8.ofNat k).toNat := ⟨_, rfl⟩
      rw [← hy] at hx HO2
      clear hy
      go_wp2
      go_roundw
      case rel =>
        first | exact ⟨k + 1, by omega, by go_num, HO2⟩ | ((repeat apply Exists.intro); exact ⟨⟨k + 1, by omega, by go_num, HO2⟩, rfl⟩)
      case measure => simp [intOf]; omega
    · obtain rfl : k = n := by omega
      have ho := HO.out.1
      rw [upto_full _ _ (text_length x k)] at ho
      obtain ⟨t, ht⟩ : ∃ t, t = text x k := ⟨_, rfl⟩
      have htl : t.length = k := by rw [ht]; exact text_length x k
      rw [← ht] at ho
      have hbs : Bs wr (.slice (some ⟨W.heap.size, 0, none⟩) k k) t := by unfold Bs; rw [htl]; exact own_rd ho
      have HBS := Lib.hid hbs
      have HTL := Lib.hid htl
      have HS := Lib.hid (sum_any _ k k t htl wr hbs (HLD.out.below HO.out.2) (by omega))
      obtain ⟨y, hy⟩ : ∃ y, y = sumL t := ⟨_, rfl⟩
      have HY := Lib.hid hy
      have HYL : Hid (y.length = 32) := by show _ = _; rw [hy]; exact sumL_length t
      rw [← hy] at HS
      have HE : ∀ w, (binOp .eql 33 (.agg (y.map u8v).toArray) (.agg (y.map u8v).toArray)).run Tryd.prog w = .ok (.bool true) w := fun w => eql_bytes32 y HYL.out w
      have G0 : Hid (Gr W wr) := HO.out.2
      clear ho ht htl hbs hy HO
      go_wp2_with fail
      refine (HS.out).mono ?_
      rintro e w2 ⟨rfl, hb2⟩
      have HR := Lib.hid (rsum_any _ k k t HTL.out w2 (HBS.out.below hb2) (by have := HTL.out; omega))
      rw [← HY.out] at HR
      have G2 : Hid (Gr W w2) := G0.out.trans hb2
      clear hb2
      go_wp2_with fail
      refine (HR.out).mono ?_
      rintro e w3 ⟨rfl, hb3⟩
      have G3 : Hid (Gr W w3) := G2.out.trans hb3
      clear hb3
      go_wp2_with fail
      refine (awake_any _ (HLD.out.below G3.out)).mono ?_
      rintro e w4 ⟨rfl, hb4⟩
      have G4 : Hid (Gr W w4) := G3.out.trans hb4
      clear hb4
      go_wp2
      go_ret
      exact ⟨rfl, G4.out⟩

theorem own : ownKnob Tryd.prog.godebug = none := by kernel_rfl
theorem laidOut : laidOutB Tryd.prog = true := by kernel_rfl
theorem door_met (os : Os) (args : Array Value) : laidMetH Tryd.prog Rows.shaLengthsRow.laid ((World.doorLaid Tryd.prog 400 os).forCall (fun _ _ => 0) ⟨#[], args, []⟩).memory :=
  laidMetH_of_parts3 (fuel := 8) (laidMet_of_run' 8 (by kernel_rfl) (by kernel_rfl)) (by kernel_rfl) (by kernel_rfl)
set_option maxRecDepth 100000 in
theorem lifted (os : Os) (started : os.Started) (H : Type) (enc : TypeId × Value → H) :
    ReturnsInHanded {} Tryd.checked os 6 .any (fun w args => (Rows.shaLengthsSpec.pre enc Tryd.prog Tryd.f6 [] false w args ∧ laidMetH Tryd.prog Rows.shaLengthsRow.laid w) ∧ sizedMet enc Tryd.prog Tryd.f6 (OpenSpec.ofChange Rows.shaLengthsSpec) false w args) (Rows.shaLengthsSpec.post enc Tryd.prog Tryd.f6 false true false false) := by
  refine returnsInHanded_of_change_and (C := Tryd.checked) (X := fun w _ => laidMetH Tryd.prog Rows.shaLengthsRow.laid w) (fun _ _ _ hh h => h.of_heap hh) own started (by kernel_rfl) Tryd.func6
    (ChangeSpec.witness_shaped (enc := enc) (C := Tryd.checked) (os := os) (X := fun w _ => laidMetH Tryd.prog Rows.shaLengthsRow.laid w) false (World.doorLaid Tryd.prog 400 os) #[.int .u8 0, .int .u8 0] 8 rfl (World.shaped_of_RefB (by kernel_rfl) (by kernel_rfl)) (by kernel_rfl) (by kernel_rfl) (by kernel_rfl) (door_met os _)) ?_
  intro W base args ds gs before hval0 hW _ _ hL _
  have hval : ∀ (j : Nat) t v, Tryd.f6.params[j]? = some t → args[j]? = some v → Value.okWide Tryd.prog W .any base t v := hval0
  have hW' := hW
  obtain ⟨p, q, hA0, hV, rfl, hfz, hnd⟩ := hW
  have hA : DataW.TrodAll enc Tryd.prog W 0 (fun _ => true) true Tryd.f6.params.toList args.toList ds p := hA0
  rw [Tryd.params6] at hA hval
  obtain ⟨v0, vs0, d0, ds0, p0, q0, hargs, rfl, rfl, h0, r0⟩ := trodAll_cons hA
  obtain ⟨v1, vs1, d1, ds1, p1, q1, rfl, rfl, rfl, h1, r1⟩ := trodAll_cons r0
  obtain ⟨rfl, rfl, rfl⟩ := trodAll_nil r1
  obtain rfl : args = #[v0, v1] := by cases args; simp_all
  obtain ⟨rfl, rfl⟩ := trodVars_none hV
  have k0 := h0
  have lt0 : ∀ x ∈ p0, x.block < W.heap.size := by obtain ⟨m, hm⟩ := k0; exact DataW.trod_lt m _ _ _ hm
  obtain ⟨a0, rfl, rfl, rfl, w0⟩ := open_int Tryd.underlying5 (hval 0 5 v0 rfl rfl) h0
  have k1 := h1
  have lt1 : ∀ x ∈ p1, x.block < W.heap.size := by obtain ⟨m, hm⟩ := k1; exact DataW.trod_lt m _ _ _ hm
  obtain ⟨a1, rfl, rfl, rfl, w1⟩ := open_int Tryd.underlying5 (hval 1 5 v1 rfl rfl) h1
  clear hA0 hval0
  refine (walk W (of_laid hL) a0 w0 a1 w1).mono fun e W' ⟨he, bel⟩ => ?_
  subst he
  exact ⟨_, rfl, _, _, _, [], _, [], hW', trodAll_mk1 (shut_bool Tryd.underlying4 _), (trodAll_cons_mk (Below.trod laidOut (by kernel_rfl) (of_decide_eq_true (by kernel_rfl)) k0 bel lt0) (trodAll_cons_mk (Below.trod laidOut (by kernel_rfl) (of_decide_eq_true (by kernel_rfl)) k1 bel lt1) trodAll_mk0)), rfl, bel.frame _, fun h => by cases h⟩
theorem over : Rows.shaLengthsRow.holds Tryd.pinned (OpenSpec.ofChange Rows.shaLengthsSpec) :=
  OpenClaim.holds_of_wide 6 Tryd.f6 rfl rfl rfl rfl rfl rfl rfl ⟨rfl, rfl, rfl, rfl, rfl⟩ rfl rfl rfl rfl rfl (by kernel_rfl) Tryd.func6 (by kernel_rfl)
    (of_decide_eq_true (by kernel_rfl)) (by unfold Func.isWrapper; first | (rw [if_pos (by decide +kernel)]; kernel_rfl) | (rw [if_neg (by decide +kernel)]; exact ⟨rfl, rfl⟩))
    (fun os started H enc _ => lifted os started H enc)
/-- The statement: the tied card. -/
theorem proved : Rows.ShaLengthsCardSaid :=
  Claim7.holds_tied_plain_at .later [] [.data] true (true, "965a8da0ce5c2711f41dbdd53310348fca91422acffbe9034a6b03730aadf053") false over (fun _ h => by cases h) (by kernel_rfl) (fun _ h => by cases h) shaLengths_row_tie rfl ⟨rfl, rfl⟩ (by kernel_rfl) rfl
    (fun f fn hf hfn => by
      obtain rfl : f = 6 := Option.some.inj ((show Tryd.prog.funcNamed "concierge/conciergelaw02.ShaLengths" = some 6 by kernel_rfl).symm.trans hf) |>.symm
      obtain rfl : fn = Tryd.f6 := (Option.some.inj (Tryd.func6.symm.trans hfn)).symm
      exact ⟨by kernel_rfl, fun j t ht => by
        rw [Tryd.params6] at ht
        have hm : t ∈ [5, 5] := by simpa using Array.mem_of_getElem? ht
        have hall : ([5, 5].all fun u => !Tryd.prog.wantsStandIn u) = true := by kernel_rfl
        exact (show Tryd.prog.wantsStandIn t = false by simpa using List.all_eq_true.1 hall t hm)⟩)
    (by kernel_rfl)
end Go.Proofs.YtagfgkhadmoboaaDoor.shaLengths
