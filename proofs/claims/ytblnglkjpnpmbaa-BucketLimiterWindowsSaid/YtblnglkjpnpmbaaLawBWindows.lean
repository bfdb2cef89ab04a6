/-
  For any two rates and any asks (the first 120), within any window of ticks no more are allowed than the rates say, of all and of each address (conciergelaw10.BucketLimiterWindows answers true). No condition.
-/
import Derived.Test.YtblnglkjpnpmbaaBkX
import Derived.Test.YtblnglkjpnpmbaaOpenB
import Derived.ProofKit
import Derived.OpenShut
import Derived.ChangeOld
namespace Go.Proofs.Ytblnglkjpnpmbaa.bucketLimiterWindows
open Go.ChangeShapes Go.WideShapes Go.ChangeAt Go.RowKit
open Go.Proofs.Ytblnglkjpnpmbaa.Bk
set_option linter.unusedVariables false
set_option linter.unusedSimpArgs false

def cellsOf (cs : List Int) : List Value := cs.map (Value.int .i64)
structure WM (g bm gE gA gO : Nat) (W wr : World) (ae am oe om : Int) (S : Li) (cs : List Int) : Prop where
  lim : LimAt wr g bm S
  row : wr.heap[gE]? = some (.cells (cellsOf cs).toArray 57 (0, 0))
  ra : wr.heap[gA]? = some (.cells #[.int .i64 ae, .int .i64 am] 23 (0, 0))
  ro : wr.heap[gO]? = some (.cells #[.int .i64 oe, .int .i64 om] 23 (0, 0))
  bel : Below W.heap.size W wr
  ge : W.heap.size ≤ g ∧ W.heap.size ≤ bm ∧ W.heap.size ≤ gE
theorem off {w : World} {g bm k : Nat} {S : Li} (h : LimAt w g bm S) {cs : Array Value} {t : TypeId} {fr : Nat × Nat} (hk : w.heap[k]? = some (.cells cs t fr)) (ht : t ≠ 63) : k ≠ g ∧ k ≠ bm := by
  constructor
  · rintro rfl
    rw [h.row] at hk
    simp only [Option.some.injEq, Obj.cells.injEq] at hk
    exact ht hk.2.1.symm
  · rintro rfl
    obtain ⟨a, c, hm⟩ := h.map.obj
    rw [hk] at hm
    cases hm
section
variable {g bm gE gA gO : Nat} {W wr wx : World} {ae am oe om : Int} {S T : Li} {cs cs' : List Int}
theorem WM.gr (h : WM g bm gE gA gO W wr ae am oe om S cs) (hb : Below wr.heap.size wr wx) : WM g bm gE gA gO W wx ae am oe om S cs :=
  ⟨h.lim.gr hb, heap_below h.row hb, heap_below h.ra hb, heap_below h.ro hb, h.bel.trans (hb.mono h.bel.size), h.ge⟩
theorem WM.tu (h : WM g bm gE gA gO W wr ae am oe om S cs) (hl : LimAt wx g bm T) (ht : Tu g bm wr wx) : WM g bm gE gA gO W wx ae am oe om T cs := by
  have n1 := off h.lim h.row (by decide)
  have n2 := off h.lim h.ra (by decide)
  have n3 := off h.lim h.ro (by decide)
  exact ⟨hl, ht.heap h.row n1.1 n1.2, ht.heap h.ra n2.1 n2.2, ht.heap h.ro n3.1 n3.2, Tu.below h.bel h.bel.size ht h.ge.1 h.ge.2.1, h.ge⟩
theorem WM.set (h : WM g bm gE gA gO W wr ae am oe om S cs) {k : Nat} {v : Int} (hx : wx.heap[gE]? = some (.cells ((cellsOf cs).set k (.int .i64 v)).toArray 57 (0, 0))) (ho : Only gE wr wx) : WM g bm gE gA gO W wx ae am oe om S (cs.set k v) := by
  have n1 := off h.lim h.row (by decide)
  have n2 : gA ≠ gE := by
    rintro rfl
    have h1 := h.ra
    rw [h.row] at h1
    simp at h1
  have n3 : gO ≠ gE := by
    rintro rfl
    have h1 := h.ro
    rw [h.row] at h1
    simp at h1
  refine ⟨h.lim.keep (ho.heap _ h.lim.lt.1 (Ne.symm n1.1)) (ho.heap _ h.lim.lt.2 (Ne.symm n1.2)), ?_, (ho.heap _ (Array.getElem?_eq_some_iff.1 h.ra).1 n2).trans h.ra, (ho.heap _ (Array.getElem?_eq_some_iff.1 h.ro).1 n3).trans h.ro, ho.below _ _ h.ge.2.2 h.bel, h.ge⟩
  unfold cellsOf at hx ⊢
  rwa [List.map_set]
theorem row_cell {cs : List Int} {x : World} {gE : Nat} (h : x.heap[gE]? = some (.cells (cellsOf cs).toArray 57 (0, 0))) {k : Nat} (hk : k < cs.length) : x.cell? ⟨gE, k, none⟩ = some (.int .i64 cs[k]) := by
  rw [cell_of_row x gE _ _ _ _ h]
  simp [cellsOf, hk]
end
theorem rate_bound {e m w : Int} (h : okR ⟨e, m⟩) (h0 : 0 ≤ w) (h1 : w ≤ 255) : 0 ≤ e * w ∧ e * w ≤ 267386880 ∧ 0 ≤ m ∧ m ≤ 1048576 := by
  obtain ⟨a1, a2, a3, a4⟩ := h
  have b1 : 0 ≤ e * w := Int.mul_nonneg a1 h0
  have b2 : e * w ≤ 1048576 * w := Int.mul_le_mul_of_nonneg_right a2 h0
  refine ⟨b1, by omega, ?_, a4⟩
  show 0 ≤ m
  have : 1 ≤ m := a3
  omega
set_option maxRecDepth 20000 in
set_option maxHeartbeats 8000000 in
theorem walk (W : World) (ae am : Int) (wae : (Lit.int .i64 ae).wf = true) (wam : (Lit.int .i64 am).wf = true) (oe om : Int) (woe : (Lit.int .i64 oe).wf = true) (wom : (Lit.int .i64 om).wf = true)
    (a : Option Addr) (n c : Nat) (qs : List Ak) (hq : AkR W (.slice a n c) n qs) (F : Int) (wF : (Lit.int .u8 F).wf = true) (D : Int) (wD : (Lit.int .u8 D).wf = true) :
    Calls Try.prog 8 #[.agg #[.int .i64 ae, .int .i64 am], .agg #[.int .i64 oe, .int .i64 om], .slice a n c, .int .u8 F, .int .u8 D] W fun e w' => e = .returned (.bool true) ∧ Below W.heap.size W w' := by
  have HB : Hid (Below W.heap.size W ((W.alloc (.cells #[.int .i64 ae, .int .i64 am] 23)).alloc (.cells #[.int .i64 oe, .int .i64 om] 23))) := boxed_two _ _ _
  have HG0 : Hid (((W.alloc (.cells #[.int .i64 ae, .int .i64 am] 23)).alloc (.cells #[.int .i64 oe, .int .i64 om] 23)).heap[W.heap.size]? = some (.cells #[.int .i64 ae, .int .i64 am] 23 (0, 0))) := boxed_0 _ _ _
  have HG1 : Hid (((W.alloc (.cells #[.int .i64 ae, .int .i64 am] 23)).alloc (.cells #[.int .i64 oe, .int .i64 om] 23)).heap[W.heap.size + 1]? = some (.cells #[.int .i64 oe, .int .i64 om] 23 (0, 0))) := boxed_1 _ _ _
  have hF : 0 ≤ F ∧ F ≤ 255 := by
    have : (decide ((0 : Int) ≤ F) && decide (F ≤ 255)) = true := wF
    simpa using this
  have hD : 0 ≤ D ∧ D ≤ 255 := by
    have : (decide ((0 : Int) ≤ D) && decide (D ≤ 255)) = true := wD
    simpa using this
  have HFD : Hid ((0 ≤ F ∧ F ≤ 255) ∧ (0 ≤ D ∧ D ≤ 255)) := ⟨hF, hD⟩
  have HQ := Lib.hid hq
  have HA := Lib.hid (fun w => awake_any w)
  have HY : Hid (wrap64 F = F ∧ wrap64 D = D ∧ wrap64 (F + D) = F + D) := ⟨wrap64_in (by omega) (by omega), wrap64_in (by omega) (by omega), wrap64_in (by omega) (by omega)⟩
  clear wae wam woe wom hq wF wD hF hD
  by_cases hok : okR ⟨ae, am⟩ ∧ okR ⟨oe, om⟩
  · have HOK := Lib.hid hok
    clear hok
    go_enter Try.func8, Try.ntmps8
    go_wp2_with fail
    generalize ((W.alloc (.cells #[.int .i64 ae, .int .i64 am] 23)).alloc (.cells #[.int .i64 oe, .int .i64 om] 23)) = w1 at HB HG0 HG1 ⊢
    refine (new_yes ae am oe om HOK.out.1 HOK.out.2 w1).mono ?_
    rintro e w2 ⟨g, bm, rfl, hg, hbm, hl, hb⟩
    have HL2 := Lib.hid hl
    have HG02 := Lib.hid (heap_below HG0.out hb)
    have HG12 := Lib.hid (heap_below HG1.out hb)
    have HB2 := Lib.hid (HB.out.trans (hb.mono HB.out.size))
    have HGE : Hid (W.heap.size ≤ g ∧ W.heap.size ≤ bm) := ⟨Nat.le_trans HB.out.size hg, Nat.le_trans HB.out.size hbm⟩
    clear hl hb hg hbm HB HG0 HG1
    go_wp2_with fail
    refine (HA.out _).mono ?_
    rintro e w3 ⟨rfl, hb⟩
    have ha : Below w3.heap.size w3 (w3.alloc (.cells #[.int .i64 0, .int .i64 0, .int .i64 0, .int .i64 0] 57)) := (Below.refl _ _).alloc (Nat.le_refl _) _
    have hr : (w3.alloc (.cells #[.int .i64 0, .int .i64 0, .int .i64 0, .int .i64 0] 57)).heap[w3.heap.size]? = some (.cells #[.int .i64 0, .int .i64 0, .int .i64 0, .int .i64 0] 57 (0, 0)) := heap_alloc_last _ _
    have hb' := Below.trans hb (ha.mono hb.size)
    have HS : Hid (Ws F D ⟨ae, am⟩ ⟨oe, om⟩ (born ⟨ae, am⟩ ⟨oe, om⟩) 0 [0, 0, 0, 0]) := Ws.start HOK.out.1 HOK.out.2 HFD.out.1.1 HFD.out.2.1
    have HJ0 : Hid (WM g bm w3.heap.size W.heap.size (W.heap.size + 1) W (w3.alloc (.cells #[.int .i64 0, .int .i64 0, .int .i64 0, .int .i64 0] 57)) ae am oe om (born ⟨ae, am⟩ ⟨oe, om⟩) [0, 0, 0, 0]) :=
      ⟨HL2.out.gr hb', hr, heap_below HG02.out hb', heap_below HG12.out hb', HB2.out.trans (hb'.mono HB2.out.size), HGE.out.1, HGE.out.2, Nat.le_trans HB2.out.size hb.size⟩
    clear hb ha hr hb' HL2 HG02 HG12 HB2 HGE HA
    go_upto_region 8 with fail
    generalize w3.alloc (.cells #[.int .i64 0, .int .i64 0, .int .i64 0, .int .i64 0] 57) = w4 at HJ0 ⊢
    obtain ⟨gE, hgE⟩ : ∃ b, b = w3.heap.size := ⟨_, rfl⟩
    rw [← hgE] at HJ0 ⊢
    obtain ⟨S0, hS0⟩ : ∃ S, S = born ⟨ae, am⟩ ⟨oe, om⟩ := ⟨_, rfl⟩
    have HS0 : Hid (S0.t = 0) := by rw [hS0]; exact rfl
    rw [← hS0] at HJ0 HS
    clear hgE hS0
    go_wp2_with fail
    go_loopw [13, 14, 16] (fun tv mv iv wr => ∃ (i : Nat) (tk : Int) (S : Li) (c : Int) (cs : List Int), i ≤ n ∧ i ≤ 120 ∧ iv = .int .i64 (i : Int) ∧ mv = .int .i64 c ∧ tv = .int .i64 tk ∧ S.t = tk ∧ 0 ≤ tk ∧ tk ≤ (i : Int) * 255 ∧ Ws F D ⟨ae, am⟩ ⟨oe, om⟩ S c cs ∧ WM g bm gE W.heap.size (W.heap.size + 1) W wr ae am oe om S cs) (fun _ _ iv _ => n - (intOf iv).toNat)
    case atStart => exact ⟨0, 0, S0, 0, _, Nat.zero_le _, Nat.zero_le _, rfl, rfl, rfl, HS0.out, Int.le_refl _, by decide, HS.out, HJ0.out⟩
    case round =>
      clear HJ0 HS HS0
      obtain ⟨i, tk, S, c0, cs, hin, hi120, hiv, hmv, htv, hst, ht0, ht1, hws, hwm⟩ := hrel
      subst hiv htv hmv
      have HJ := Lib.hid hwm
      have HS := Lib.hid hws
      clear hwm hws
      by_cases hlt : i < n
      · by_cases hlt2 : i < 120
        · obtain ⟨b, o, ⟨qm, ql, qr, qa⟩, rfl, hbl, hqi, hcc⟩ := ask_at HQ.out hlt
          dsimp only at hcc
          have HCC := Lib.hid hcc
          have hqt : ql.toNat < 256 := UInt8.toNat_lt _
          have hi256 : (i : Int) < 120 := by omega
          obtain ⟨tk2, htk2⟩ : ∃ x, tk + (ql.toNat : Int) = x := ⟨_, rfl⟩
          have x0 : wrap64 (ql.toNat : Int) = (ql.toNat : Int) := wrap64_in (by omega) (by omega)
          have x1 : wrap64 (tk + (ql.toNat : Int)) = tk2 := by rw [← htk2]; exact wrap64_in (by omega) (by omega)
          have HTK : Hid (0 ≤ tk2 ∧ tk2 ≤ ((i : Int) + 1) * 255) := by constructor <;> omega
          obtain ⟨k, hk⟩ : ∃ k : Nat, k = qm.toNat % 4 := ⟨_, rfl⟩
          have hk4 : k < 4 := by omega
          have hkq : Int.tmod (qm.toNat : Int) 4 = (k : Int) := by rw [Int.tmod_eq_emod_of_nonneg (by omega)]; omega
          have hkq2 : (qm.toNat : Int) % 4 = (k : Int) := by omega
          have hkl : k < cs.length := by rw [HS.out.len]; exact hk4
          obtain ⟨T, hT⟩ : ∃ T, T = (allow S (macL (kbn k)) tk2).1 := ⟨_, rfl⟩
          obtain ⟨X, hX⟩ : ∃ X, X = (allow S (macL (kbn k)) tk2).2 := ⟨_, rfl⟩
          have HN := Lib.hid (HS.out.next HFD.out.2.1 (u := tk2) (by omega) (by unfold top; omega) hkl hT hX)
          have LA := fun w => lim_allow (S := S) g bm tk2 _ _ _ _ _ _ (macL (kbn k)) (macL_is (kbn k)) w
          have MA := fun w => mac_any (kbn k) w
          rw [← hT, ← hX] at LA
          rw [kbn_toNat hk4] at LA MA
          have HLA := Lib.hid LA
          have HMA := Lib.hid MA
          obtain ⟨v, hv⟩ : ∃ v, v = cs[k] := ⟨_, rfl⟩
          rw [← hv] at HN
          have HV : Hid (wr.cell? ⟨gE, k, none⟩ = some (.int .i64 v)) := by rw [hv]; exact row_cell HJ.out.row hkl
          have HB : Hid (0 ≤ c0 ∧ c0 ≤ 268435456 ∧ 0 ≤ v ∧ v ≤ 268435456) := by
            have r1 := rate_bound HOK.out.1 HFD.out.2.1 HFD.out.2.2
            have r2 := rate_bound HOK.out.2 HFD.out.2.1 HFD.out.2.2
            have f1 := HS.out.few.1
            have f2 := HS.out.few.2 k hkl
            have z1 := HS.out.c0
            have z2 := HS.out.cs0 _ (List.getElem_mem hkl)
            rw [← hv] at f2 z2
            dsimp only at f1 f2
            refine ⟨z1, by omega, z2, by omega⟩
          obtain ⟨c0', c1, c2, c3⟩ := hcc wr HJ.out.bel
          have HVE := Lib.hid hv
          clear hcc hbl hqi ht0 ht1 hqt htk2 LA MA hT hX hk hst hv
          go_upto_region 13 with fail
          clear c0' c1 c2 c3 hkq hkq2 HCC
          rw [x1]
          clear x0 x1
          go_wp2_with fail
          refine (HMA.out _).mono ?_
          rintro e w6 ⟨rfl, hb⟩
          have HJ6 := Lib.hid (HJ.out.gr hb)
          clear hb HMA
          go_wp2_with fail
          refine (HLA.out _ HJ6.out.lim).mono ?_
          rintro e w7 ⟨rfl, hl7, ht7⟩
          have HJ7 := Lib.hid (HJ6.out.tu hl7 ht7)
          clear hl7 ht7 HLA HJ6 HJ HV HS
          by_cases hX : X = true
          · subst hX
            by_cases h1 : F ≤ tk2
            · by_cases h2 : tk2 < F + D
              · rw [hit_yes h1 h2] at HN
                have hxx : wrap64 (c0 + 1) = c0 + 1 ∧ wrap64 (v + 1) = v + 1 := by
                  have hb := HB.out
                  exact ⟨wrap64_in (by omega) (by omega), wrap64_in (by omega) (by omega)⟩
                obtain ⟨x2, x3⟩ := hxx
                obtain ⟨y0, y1, y2⟩ := HY.out
                have hcv : w7.cell? ⟨gE, k, none⟩ = some (.int .i64 v) := by rw [HVE.out]; exact row_cell HJ7.out.row hkl
                go_upto_region 15 with fail
                clear y0 y1 y2
                have HINF : Hid ((Try.prog.info? 3).map (·.size) = some 1) := by
                  show _ = _
                  kernel_rfl
                have HROW := Lib.hid HJ7.out.row
                have HFIT : Hid (k < (cellsOf cs).length) := by
                  show _ < _
                  simpa [cellsOf] using hkl
                have hk5 : (k : Int) < 4 := by omega
                go_upto_region 10 with (with_reducible refine wpList_store_cell rfl 3 (.tmp 85) (.tmp 84) rfl gE _ (.int .i64 (wrap64 (v + 1))) rfl rfl 57 _ HROW.out HINF.out HFIT.out rfl ?_)
                intro w8 h8 ho8
                have HJ8 := Lib.hid (HJ7.out.set h8 ho8)
                clear h8 ho8 HROW HFIT HINF hcv HJ7 x3
                go_wp2_with fail
                clear x2
                go_roundw
                case rel =>
                  first
                    | exact ⟨i + 1, tk2, T, c0 + 1, cs.set k (v + 1), by omega, by omega, by go_num, rfl, rfl, HN.out.1, HTK.out.1, by have := HTK.out.2; omega, HN.out.2, HJ8.out⟩
                    | ((repeat apply Exists.intro); exact ⟨⟨i + 1, tk2, T, c0 + 1, cs.set k (v + 1), by omega, by omega, by go_num, rfl, rfl, HN.out.1, HTK.out.1, by have := HTK.out.2; omega, HN.out.2, HJ8.out⟩, rfl⟩)
                case measure => simp [intOf]; omega
              · have HW : Hid (Ws F D ⟨ae, am⟩ ⟨oe, om⟩ T c0 cs) := by
                  have h := HN.out.2
                  rw [HVE.out] at h
                  exact h.miss hkl (hit_no (.inr (.inr (by omega))))
                obtain ⟨y0, y1, y2⟩ := HY.out
                go_wp2_with fail
                clear y0 y1 y2
                go_roundw
                case rel =>
                  first
                    | exact ⟨i + 1, tk2, T, c0, cs, by omega, by omega, by go_num, rfl, rfl, HN.out.1, HTK.out.1, by have := HTK.out.2; omega, HW.out, HJ7.out⟩
                    | ((repeat apply Exists.intro); exact ⟨⟨i + 1, tk2, T, c0, cs, by omega, by omega, by go_num, rfl, rfl, HN.out.1, HTK.out.1, by have := HTK.out.2; omega, HW.out, HJ7.out⟩, rfl⟩)
                case measure => simp [intOf]; omega
            · have HW : Hid (Ws F D ⟨ae, am⟩ ⟨oe, om⟩ T c0 cs) := by
                have h := HN.out.2
                rw [HVE.out] at h
                exact h.miss hkl (hit_no (.inr (.inl (by omega))))
              obtain ⟨y0, y1, y2⟩ := HY.out
              go_wp2_with fail
              clear y0 y1 y2
              go_roundw
              case rel =>
                first
                  | exact ⟨i + 1, tk2, T, c0, cs, by omega, by omega, by go_num, rfl, rfl, HN.out.1, HTK.out.1, by have := HTK.out.2; omega, HW.out, HJ7.out⟩
                  | ((repeat apply Exists.intro); exact ⟨⟨i + 1, tk2, T, c0, cs, by omega, by omega, by go_num, rfl, rfl, HN.out.1, HTK.out.1, by have := HTK.out.2; omega, HW.out, HJ7.out⟩, rfl⟩)
              case measure => simp [intOf]; omega
          · have hX2 : X = false := by simpa using hX
            have HW : Hid (Ws F D ⟨ae, am⟩ ⟨oe, om⟩ T c0 cs) := by
              have h := HN.out.2
              rw [HVE.out] at h
              exact h.miss hkl (hit_no (.inl hX2))
            subst hX2
            go_wp2_with fail
            go_roundw
            case rel =>
              first
                | exact ⟨i + 1, tk2, T, c0, cs, by omega, by omega, by go_num, rfl, rfl, HN.out.1, HTK.out.1, by have := HTK.out.2; omega, HW.out, HJ7.out⟩
                | ((repeat apply Exists.intro); exact ⟨⟨i + 1, tk2, T, c0, cs, by omega, by omega, by go_num, rfl, rfl, HN.out.1, HTK.out.1, by have := HTK.out.2; omega, HW.out, HJ7.out⟩, rfl⟩)
            case measure => simp [intOf]; omega
        · obtain ⟨wA, hwA⟩ : ∃ x, x = wr := ⟨_, rfl⟩
          subst hwA
          have HZ : Hid (wrap64 D = D ∧ wrap64 (ae * D) = ae * D ∧ wrap64 (am + ae * D) = am + ae * D ∧ ¬ (am + ae * D < c0)) := by
            have r1 := rate_bound HOK.out.1 HFD.out.2.1 HFD.out.2.2
            have f1 := HS.out.few.1
            have f2 := HFD.out.2
            dsimp only at f1
            exact ⟨wrap64_in (by omega) (by omega), wrap64_in (by omega) (by omega), wrap64_in (by omega) (by omega), by omega⟩
          obtain ⟨m0, m1⟩ := cells2 HJ.out.ra
          obtain ⟨z0, z1, z2, z3⟩ := HZ.out
          go_wp2_with fail
          clear z0 z1 z2 z3 m0 m1
          go_loopw [18] (fun jv wx => ∃ j : Nat, j ≤ 4 ∧ jv = .int .i64 (j : Int) ∧ WM g bm gE W.heap.size (W.heap.size + 1) W wx ae am oe om S cs) (fun jv _ => 4 - (intOf jv).toNat)
          case atStart => exact ⟨0, by omega, rfl, HJ.out⟩
          case round =>
            clear HJ
            obtain ⟨j, hj4, hjv, hwm⟩ := hrel
            subst hjv
            have HJ := Lib.hid hwm
            clear hwm
            by_cases hjlt : j < 4
            · have hjl : j < cs.length := by rw [HS.out.len]; exact hjlt
              have hj5 : (j : Int) < 4 := by omega
              obtain ⟨v, hv⟩ : ∃ v, v = cs[j] := ⟨_, rfl⟩
              have HZ2 : Hid (IntKind.i64.wrap D = D ∧ IntKind.i64.wrap (oe * D) = oe * D ∧ IntKind.i64.wrap (om + oe * D) = om + oe * D ∧ ¬ (om + oe * D < v)) := by
                have r1 := rate_bound HOK.out.2 HFD.out.2.1 HFD.out.2.2
                have f1 := HS.out.few.2 j hjl
                have f2 := HFD.out.2
                rw [← hv] at f1
                dsimp only at f1
                exact ⟨IntWalk.i64_in _ (by omega), IntWalk.i64_in _ (by omega), IntWalk.i64_in _ (by omega), by omega⟩
              have x1 : wrap64 ((j : Int) + 1) = (j : Int) + 1 := wrap64_in (by omega) (by omega)
              have HCV : Hid (∀ x : World, x.heap[gE]? = some (.cells (cellsOf cs).toArray 57 (0, 0)) → x.cell? ⟨gE, j, none⟩ = some (.int .i64 v)) := fun x h => by rw [hv]; exact row_cell h hjl
              clear hv
              go_upto_region 21 with fail
              obtain ⟨z0, z1, z2, z3⟩ := HZ2.out
              have HC : Hid (Gr wr wr.drew) := Gr.drew wr
              refine wp_region_G 12 Gr (by kernel_rfl) ?_
              generalize wr.drew = wc at HC ⊢
              -- 0: slot 100
              refine wpG_take preGr (i := 0) (v := ?_) (by kernel_rfl) (some 100) (by kernel_rfl) rfl (by kernel_rfl) (by kernel_rfl) (by kernel_rfl) (fun _ _ _ h => h) (by rfl) (fun w' hw' => ?_) rfl ?_
              rotate_left
              · try (have hxw := HJ.out.gr (Gr.trans HC.out hw'); have hcv := HCV.out _ hxw.row; have hq2 := cells2 hxw.ro; obtain ⟨n0, n1⟩ := hq2; clear hxw)
                go_simp
                with_reducible rfl
              simp only [Act.put, List.setIfInBounds_toArray, List.set_cons_zero, List.set_cons_succ]
              -- 1: slot 101
              refine wpG_take preGr (i := 1) (v := ?_) (by kernel_rfl) (some 101) (by kernel_rfl) rfl (by kernel_rfl) (by kernel_rfl) (by kernel_rfl) (fun _ _ _ h => h) (by rfl) (fun w' hw' => ?_) rfl ?_
              rotate_left
              · try (have hxw := HJ.out.gr (Gr.trans HC.out hw'); have hcv := HCV.out _ hxw.row; have hq2 := cells2 hxw.ro; obtain ⟨n0, n1⟩ := hq2; clear hxw)
                go_simp
                with_reducible rfl
              simp only [Act.put, List.setIfInBounds_toArray, List.set_cons_zero, List.set_cons_succ]
              -- 2: slot 102
              refine wpG_take preGr (i := 2) (v := ?_) (by kernel_rfl) (some 102) (by kernel_rfl) rfl (by kernel_rfl) (by kernel_rfl) (by kernel_rfl) (fun _ _ _ h => h) (by rfl) (fun w' hw' => ?_) rfl ?_
              rotate_left
              · try (have hxw := HJ.out.gr (Gr.trans HC.out hw'); have hcv := HCV.out _ hxw.row; have hq2 := cells2 hxw.ro; obtain ⟨n0, n1⟩ := hq2; clear hxw)
                go_simp
                with_reducible rfl
              simp only [Act.put, List.setIfInBounds_toArray, List.set_cons_zero, List.set_cons_succ]
              -- 3: slot 103
              refine wpG_take preGr (i := 3) (v := ?_) (by kernel_rfl) (some 103) (by kernel_rfl) rfl (by kernel_rfl) (by kernel_rfl) (by kernel_rfl) (fun _ _ _ h => h) (by rfl) (fun w' hw' => ?_) rfl ?_
              rotate_left
              · try (have hxw := HJ.out.gr (Gr.trans HC.out hw'); have hcv := HCV.out _ hxw.row; have hq2 := cells2 hxw.ro; obtain ⟨n0, n1⟩ := hq2; clear hxw)
                go_simp
                with_reducible rfl
              simp only [Act.put, List.setIfInBounds_toArray, List.set_cons_zero, List.set_cons_succ]
              -- 4: slot 104
              refine wpG_take preGr (i := 4) (v := ?_) (by kernel_rfl) (some 104) (by kernel_rfl) rfl (by kernel_rfl) (by kernel_rfl) (by kernel_rfl) (fun _ _ _ h => h) (by rfl) (fun w' hw' => ?_) rfl ?_
              rotate_left
              · try (have hxw := HJ.out.gr (Gr.trans HC.out hw'); have hcv := HCV.out _ hxw.row; have hq2 := cells2 hxw.ro; obtain ⟨n0, n1⟩ := hq2; clear hxw)
                go_simp
                with_reducible rfl
              simp only [Act.put, List.setIfInBounds_toArray, List.set_cons_zero, List.set_cons_succ]
              -- 5: slot 105
              refine wpG_take preGr (i := 5) (v := ?_) (by kernel_rfl) (some 105) (by kernel_rfl) rfl (by kernel_rfl) (by kernel_rfl) (by kernel_rfl) (fun _ _ _ h => h) (by rfl) (fun w' hw' => ?_) rfl ?_
              rotate_left
              · try (have hxw := HJ.out.gr (Gr.trans HC.out hw'); have hcv := HCV.out _ hxw.row; have hq2 := cells2 hxw.ro; obtain ⟨n0, n1⟩ := hq2; clear hxw)
                go_simp
                with_reducible rfl
              simp only [Act.put, List.setIfInBounds_toArray, List.set_cons_zero, List.set_cons_succ]
              -- 6: slot 106
              refine wpG_take preGr (i := 6) (v := ?_) (by kernel_rfl) (some 106) (by kernel_rfl) rfl (by kernel_rfl) (by kernel_rfl) (by kernel_rfl) (fun _ _ _ h => h) (by rfl) (fun w' hw' => ?_) rfl ?_
              rotate_left
              · try (have hxw := HJ.out.gr (Gr.trans HC.out hw'); have hcv := HCV.out _ hxw.row; have hq2 := cells2 hxw.ro; obtain ⟨n0, n1⟩ := hq2; clear hxw)
                go_simp
                with_reducible rfl
              simp only [Act.put, List.setIfInBounds_toArray, List.set_cons_zero, List.set_cons_succ]
              -- 7: slot 107
              refine wpG_take preGr (i := 7) (v := ?_) (by kernel_rfl) (some 107) (by kernel_rfl) rfl (by kernel_rfl) (by kernel_rfl) (by kernel_rfl) (fun _ _ _ h => h) (by rfl) (fun w' hw' => ?_) rfl ?_
              rotate_left
              · try (have hxw := HJ.out.gr (Gr.trans HC.out hw'); have hcv := HCV.out _ hxw.row; have hq2 := cells2 hxw.ro; obtain ⟨n0, n1⟩ := hq2; clear hxw)
                go_simp
                with_reducible rfl
              simp only [Act.put, List.setIfInBounds_toArray, List.set_cons_zero, List.set_cons_succ]
              -- 8: slot 108
              refine wpG_take preGr (i := 8) (v := ?_) (by kernel_rfl) (some 108) (by kernel_rfl) rfl (by kernel_rfl) (by kernel_rfl) (by kernel_rfl) (fun _ _ _ h => h) (by rfl) (fun w' hw' => ?_) rfl ?_
              rotate_left
              · try (have hxw := HJ.out.gr (Gr.trans HC.out hw'); have hcv := HCV.out _ hxw.row; have hq2 := cells2 hxw.ro; obtain ⟨n0, n1⟩ := hq2; clear hxw)
                go_simp
                with_reducible rfl
              simp only [Act.put, List.setIfInBounds_toArray, List.set_cons_zero, List.set_cons_succ]
              -- 9: slot 109
              refine wpG_take preGr (i := 9) (v := ?_) (by kernel_rfl) (some 109) (by kernel_rfl) rfl (by kernel_rfl) (by kernel_rfl) (by kernel_rfl) (fun _ _ _ h => h) (by rfl) (fun w' hw' => ?_) rfl ?_
              rotate_left
              · try (have hxw := HJ.out.gr (Gr.trans HC.out hw'); have hcv := HCV.out _ hxw.row; have hq2 := cells2 hxw.ro; obtain ⟨n0, n1⟩ := hq2; clear hxw)
                go_simp
                with_reducible rfl
              simp only [Act.put, List.setIfInBounds_toArray, List.set_cons_zero, List.set_cons_succ]
              -- 10: slot 110
              refine wpG_take preGr (i := 10) (v := ?_) (by kernel_rfl) (some 110) (by kernel_rfl) rfl (by kernel_rfl) (by kernel_rfl) (by kernel_rfl) (fun _ _ _ h => h) (by rfl) (fun w' hw' => ?_) rfl ?_
              rotate_left
              · try (have hxw := HJ.out.gr (Gr.trans HC.out hw'); have hcv := HCV.out _ hxw.row; have hq2 := cells2 hxw.ro; obtain ⟨n0, n1⟩ := hq2; clear hxw)
                go_simp
                with_reducible rfl
              simp only [Act.put, List.setIfInBounds_toArray, List.set_cons_zero, List.set_cons_succ]
              -- 11: slot 111
              refine wpG_take preGr (i := 11) (v := ?_) (by kernel_rfl) (some 111) (by kernel_rfl) rfl (by kernel_rfl) (by kernel_rfl) (by kernel_rfl) (fun _ _ _ h => h) (by rfl) (fun w' hw' => ?_) rfl ?_
              rotate_left
              · try (have hxw := HJ.out.gr (Gr.trans HC.out hw'); have hcv := HCV.out _ hxw.row; have hq2 := cells2 hxw.ro; obtain ⟨n0, n1⟩ := hq2; clear hxw)
                go_simp
                with_reducible rfl
              simp only [Act.put, List.setIfInBounds_toArray, List.set_cons_zero, List.set_cons_succ]
              refine wpG_done (by kernel_rfl) ?_ _
              clear z0 z1 z2
              go_wp2_with fail
              clear z3
              go_roundw
              case rel =>
                have HJW := HJ.out.gr HC.out
                first
                  | exact ⟨j + 1, by omega, by go_num, HJW⟩
                  | ((repeat apply Exists.intro); exact ⟨⟨j + 1, by omega, by go_num, HJW⟩, rfl⟩)
              case measure => simp [intOf]; omega
            · go_wp2
              go_ret
              exact ⟨rfl, HJ.out.bel⟩
      · obtain ⟨wA, hwA⟩ : ∃ x, x = wr := ⟨_, rfl⟩
        subst hwA
        have HZ : Hid (wrap64 D = D ∧ wrap64 (ae * D) = ae * D ∧ wrap64 (am + ae * D) = am + ae * D ∧ ¬ (am + ae * D < c0)) := by
          have r1 := rate_bound HOK.out.1 HFD.out.2.1 HFD.out.2.2
          have f1 := HS.out.few.1
          have f2 := HFD.out.2
          dsimp only at f1
          exact ⟨wrap64_in (by omega) (by omega), wrap64_in (by omega) (by omega), wrap64_in (by omega) (by omega), by omega⟩
        obtain ⟨m0, m1⟩ := cells2 HJ.out.ra
        obtain ⟨z0, z1, z2, z3⟩ := HZ.out
        go_wp2_with fail
        clear z0 z1 z2 z3 m0 m1
        go_loopw [18] (fun jv wx => ∃ j : Nat, j ≤ 4 ∧ jv = .int .i64 (j : Int) ∧ WM g bm gE W.heap.size (W.heap.size + 1) W wx ae am oe om S cs) (fun jv _ => 4 - (intOf jv).toNat)
        case atStart => exact ⟨0, by omega, rfl, HJ.out⟩
        case round =>
          clear HJ
          obtain ⟨j, hj4, hjv, hwm⟩ := hrel
          subst hjv
          have HJ := Lib.hid hwm
          clear hwm
          by_cases hjlt : j < 4
          · have hjl : j < cs.length := by rw [HS.out.len]; exact hjlt
            have hj5 : (j : Int) < 4 := by omega
            obtain ⟨v, hv⟩ : ∃ v, v = cs[j] := ⟨_, rfl⟩
            have HZ2 : Hid (IntKind.i64.wrap D = D ∧ IntKind.i64.wrap (oe * D) = oe * D ∧ IntKind.i64.wrap (om + oe * D) = om + oe * D ∧ ¬ (om + oe * D < v)) := by
              have r1 := rate_bound HOK.out.2 HFD.out.2.1 HFD.out.2.2
              have f1 := HS.out.few.2 j hjl
              have f2 := HFD.out.2
              rw [← hv] at f1
              dsimp only at f1
              exact ⟨IntWalk.i64_in _ (by omega), IntWalk.i64_in _ (by omega), IntWalk.i64_in _ (by omega), by omega⟩
            have x1 : wrap64 ((j : Int) + 1) = (j : Int) + 1 := wrap64_in (by omega) (by omega)
            have HCV : Hid (∀ x : World, x.heap[gE]? = some (.cells (cellsOf cs).toArray 57 (0, 0)) → x.cell? ⟨gE, j, none⟩ = some (.int .i64 v)) := fun x h => by rw [hv]; exact row_cell h hjl
            clear hv
            go_upto_region 21 with fail
            obtain ⟨z0, z1, z2, z3⟩ := HZ2.out
            have HC : Hid (Gr wr wr.drew) := Gr.drew wr
            refine wp_region_G 12 Gr (by kernel_rfl) ?_
            generalize wr.drew = wc at HC ⊢
            -- 0: slot 100
            refine wpG_take preGr (i := 0) (v := ?_) (by kernel_rfl) (some 100) (by kernel_rfl) rfl (by kernel_rfl) (by kernel_rfl) (by kernel_rfl) (fun _ _ _ h => h) (by rfl) (fun w' hw' => ?_) rfl ?_
            rotate_left
            · try (have hxw := HJ.out.gr (Gr.trans HC.out hw'); have hcv := HCV.out _ hxw.row; have hq2 := cells2 hxw.ro; obtain ⟨n0, n1⟩ := hq2; clear hxw)
              go_simp
              with_reducible rfl
            simp only [Act.put, List.setIfInBounds_toArray, List.set_cons_zero, List.set_cons_succ]
            -- 1: slot 101
            refine wpG_take preGr (i := 1) (v := ?_) (by kernel_rfl) (some 101) (by kernel_rfl) rfl (by kernel_rfl) (by kernel_rfl) (by kernel_rfl) (fun _ _ _ h => h) (by rfl) (fun w' hw' => ?_) rfl ?_
            rotate_left
            · try (have hxw := HJ.out.gr (Gr.trans HC.out hw'); have hcv := HCV.out _ hxw.row; have hq2 := cells2 hxw.ro; obtain ⟨n0, n1⟩ := hq2; clear hxw)
              go_simp
              with_reducible rfl
            simp only [Act.put, List.setIfInBounds_toArray, List.set_cons_zero, List.set_cons_succ]
            -- 2: slot 102
            refine wpG_take preGr (i := 2) (v := ?_) (by kernel_rfl) (some 102) (by kernel_rfl) rfl (by kernel_rfl) (by kernel_rfl) (by kernel_rfl) (fun _ _ _ h => h) (by rfl) (fun w' hw' => ?_) rfl ?_
            rotate_left
            · try (have hxw := HJ.out.gr (Gr.trans HC.out hw'); have hcv := HCV.out _ hxw.row; have hq2 := cells2 hxw.ro; obtain ⟨n0, n1⟩ := hq2; clear hxw)
              go_simp
              with_reducible rfl
            simp only [Act.put, List.setIfInBounds_toArray, List.set_cons_zero, List.set_cons_succ]
            -- 3: slot 103
            refine wpG_take preGr (i := 3) (v := ?_) (by kernel_rfl) (some 103) (by kernel_rfl) rfl (by kernel_rfl) (by kernel_rfl) (by kernel_rfl) (fun _ _ _ h => h) (by rfl) (fun w' hw' => ?_) rfl ?_
            rotate_left
            · try (have hxw := HJ.out.gr (Gr.trans HC.out hw'); have hcv := HCV.out _ hxw.row; have hq2 := cells2 hxw.ro; obtain ⟨n0, n1⟩ := hq2; clear hxw)
              go_simp
              with_reducible rfl
            simp only [Act.put, List.setIfInBounds_toArray, List.set_cons_zero, List.set_cons_succ]
            -- 4: slot 104
            refine wpG_take preGr (i := 4) (v := ?_) (by kernel_rfl) (some 104) (by kernel_rfl) rfl (by kernel_rfl) (by kernel_rfl) (by kernel_rfl) (fun _ _ _ h => h) (by rfl) (fun w' hw' => ?_) rfl ?_
            rotate_left
            · try (have hxw := HJ.out.gr (Gr.trans HC.out hw'); have hcv := HCV.out _ hxw.row; have hq2 := cells2 hxw.ro; obtain ⟨n0, n1⟩ := hq2; clear hxw)
              go_simp
              with_reducible rfl
            simp only [Act.put, List.setIfInBounds_toArray, List.set_cons_zero, List.set_cons_succ]
            -- 5: slot 105
            refine wpG_take preGr (i := 5) (v := ?_) (by kernel_rfl) (some 105) (by kernel_rfl) rfl (by kernel_rfl) (by kernel_rfl) (by kernel_rfl) (fun _ _ _ h => h) (by rfl) (fun w' hw' => ?_) rfl ?_
            rotate_left
            · try (have hxw := HJ.out.gr (Gr.trans HC.out hw'); have hcv := HCV.out _ hxw.row; have hq2 := cells2 hxw.ro; obtain ⟨n0, n1⟩ := hq2; clear hxw)
              go_simp
              with_reducible rfl
            simp only [Act.put, List.setIfInBounds_toArray, List.set_cons_zero, List.set_cons_succ]
            -- 6: slot 106
            refine wpG_take preGr (i := 6) (v := ?_) (by kernel_rfl) (some 106) (by kernel_rfl) rfl (by kernel_rfl) (by kernel_rfl) (by kernel_rfl) (fun _ _ _ h => h) (by rfl) (fun w' hw' => ?_) rfl ?_
            rotate_left
            · try (have hxw := HJ.out.gr (Gr.trans HC.out hw'); have hcv := HCV.out _ hxw.row; have hq2 := cells2 hxw.ro; obtain ⟨n0, n1⟩ := hq2; clear hxw)
              go_simp
              with_reducible rfl
            simp only [Act.put, List.setIfInBounds_toArray, List.set_cons_zero, List.set_cons_succ]
            -- 7: slot 107
            refine wpG_take preGr (i := 7) (v := ?_) (by kernel_rfl) (some 107) (by kernel_rfl) rfl (by kernel_rfl) (by kernel_rfl) (by kernel_rfl) (fun _ _ _ h => h) (by rfl) (fun w' hw' => ?_) rfl ?_
            rotate_left
            · try (have hxw := HJ.out.gr (Gr.trans HC.out hw'); have hcv := HCV.out _ hxw.row; have hq2 := cells2 hxw.ro; obtain ⟨n0, n1⟩ := hq2; clear hxw)
              go_simp
              with_reducible rfl
            simp only [Act.put, List.setIfInBounds_toArray, List.set_cons_zero, List.set_cons_succ]
            -- 8: slot 108
            refine wpG_take preGr (i := 8) (v := ?_) (by kernel_rfl) (some 108) (by kernel_rfl) rfl (by kernel_rfl) (by kernel_rfl) (by kernel_rfl) (fun _ _ _ h => h) (by rfl) (fun w' hw' => ?_) rfl ?_
            rotate_left
            · try (have hxw := HJ.out.gr (Gr.trans HC.out hw'); have hcv := HCV.out _ hxw.row; have hq2 := cells2 hxw.ro; obtain ⟨n0, n1⟩ := hq2; clear hxw)
              go_simp
              with_reducible rfl
            simp only [Act.put, List.setIfInBounds_toArray, List.set_cons_zero, List.set_cons_succ]
            -- 9: slot 109
            refine wpG_take preGr (i := 9) (v := ?_) (by kernel_rfl) (some 109) (by kernel_rfl) rfl (by kernel_rfl) (by kernel_rfl) (by kernel_rfl) (fun _ _ _ h => h) (by rfl) (fun w' hw' => ?_) rfl ?_
            rotate_left
            · try (have hxw := HJ.out.gr (Gr.trans HC.out hw'); have hcv := HCV.out _ hxw.row; have hq2 := cells2 hxw.ro; obtain ⟨n0, n1⟩ := hq2; clear hxw)
              go_simp
              with_reducible rfl
            simp only [Act.put, List.setIfInBounds_toArray, List.set_cons_zero, List.set_cons_succ]
            -- 10: slot 110
            refine wpG_take preGr (i := 10) (v := ?_) (by kernel_rfl) (some 110) (by kernel_rfl) rfl (by kernel_rfl) (by kernel_rfl) (by kernel_rfl) (fun _ _ _ h => h) (by rfl) (fun w' hw' => ?_) rfl ?_
            rotate_left
            · try (have hxw := HJ.out.gr (Gr.trans HC.out hw'); have hcv := HCV.out _ hxw.row; have hq2 := cells2 hxw.ro; obtain ⟨n0, n1⟩ := hq2; clear hxw)
              go_simp
              with_reducible rfl
            simp only [Act.put, List.setIfInBounds_toArray, List.set_cons_zero, List.set_cons_succ]
            -- 11: slot 111
            refine wpG_take preGr (i := 11) (v := ?_) (by kernel_rfl) (some 111) (by kernel_rfl) rfl (by kernel_rfl) (by kernel_rfl) (by kernel_rfl) (fun _ _ _ h => h) (by rfl) (fun w' hw' => ?_) rfl ?_
            rotate_left
            · try (have hxw := HJ.out.gr (Gr.trans HC.out hw'); have hcv := HCV.out _ hxw.row; have hq2 := cells2 hxw.ro; obtain ⟨n0, n1⟩ := hq2; clear hxw)
              go_simp
              with_reducible rfl
            simp only [Act.put, List.setIfInBounds_toArray, List.set_cons_zero, List.set_cons_succ]
            refine wpG_done (by kernel_rfl) ?_ _
            clear z0 z1 z2
            go_wp2_with fail
            clear z3
            go_roundw
            case rel =>
              have HJW := HJ.out.gr HC.out
              first
                | exact ⟨j + 1, by omega, by go_num, HJW⟩
                | ((repeat apply Exists.intro); exact ⟨⟨j + 1, by omega, by go_num, HJW⟩, rfl⟩)
            case measure => simp [intOf]; omega
          · go_wp2
            go_ret
            exact ⟨rfl, HJ.out.bel⟩
  · have HNK := Lib.hid hok
    clear hok
    go_enter Try.func8, Try.ntmps8
    go_wp2_with fail
    generalize ((W.alloc (.cells #[.int .i64 ae, .int .i64 am] 23)).alloc (.cells #[.int .i64 oe, .int .i64 om] 23)) = w1 at HB HG0 HG1 ⊢
    refine (new_no ae am oe om HNK.out w1).mono ?_
    rintro e w2 ⟨rfl, hb⟩
    have HB2 := Lib.hid (HB.out.trans (hb.mono HB.out.size))
    clear hb
    go_wp2_with fail
    refine (HA.out _).mono ?_
    rintro e w3 ⟨rfl, hb⟩
    have HB3 := Lib.hid (HB2.out.trans (hb.mono HB2.out.size))
    clear hb
    go_wp2
    go_ret
    exact ⟨rfl, HB3.out⟩

theorem own : ownKnob Try.prog.godebug = none := by kernel_rfl
theorem laidOut : laidOutB Try.prog = true := by kernel_rfl
set_option maxRecDepth 100000 in
theorem lifted (os : Os) (started : os.Started) (H : Type) (enc : TypeId × Value → H) :
    ReturnsInHanded {} Try.checked os 8 .any (Rows.bucketLimiterWindowsSpec.pre6 enc Try.prog Try.f8 Rows.bucketLimiterWindowsRow.domain false) (Rows.bucketLimiterWindowsSpec.post enc Try.prog Try.f8 false true false false) := by
  refine returnsInHanded_of_change (C := Try.checked) own started (by kernel_rfl) Try.func8
    (ChangeSpec.witness6 (enc := enc) (C := Try.checked) false ⟨#[], #[.agg #[.int .i64 0, .int .i64 0], .agg #[.int .i64 0, .int .i64 0], .slice none 0 0, .int .u8 0, .int .u8 0], []⟩ 8 (by kernel_rfl) (by kernel_rfl) (by kernel_rfl) (by kernel_rfl)) ?_
  intro W base args ds gs before hval0 hW hcnd _
  have hval : ∀ (j : Nat) t v, Try.f8.params[j]? = some t → args[j]? = some v → Value.okWide Try.prog W .any base t v := hval0
  have hW' := hW
  obtain ⟨p, q, hA0, hV, rfl, hfz, hnd⟩ := hW
  have hA : DataW.TrodAll enc Try.prog W 0 (fun _ => true) true Try.f8.params.toList args.toList ds p := hA0
  rw [Try.params8] at hA hval
  obtain ⟨v0, vs0, d0, ds0, p0, q0, hargs, rfl, rfl, h0, r0⟩ := trodAll_cons hA
  obtain ⟨v1, vs1, d1, ds1, p1, q1, rfl, rfl, rfl, h1, r1⟩ := trodAll_cons r0
  obtain ⟨v2, vs2, d2, ds2, p2, q2, rfl, rfl, rfl, h2, r2⟩ := trodAll_cons r1
  obtain ⟨v3, vs3, d3, ds3, p3, q3, rfl, rfl, rfl, h3, r3⟩ := trodAll_cons r2
  obtain ⟨v4, vs4, d4, ds4, p4, q4, rfl, rfl, rfl, h4, r4⟩ := trodAll_cons r3
  obtain ⟨rfl, rfl, rfl⟩ := trodAll_nil r4
  obtain rfl : args = #[v0, v1, v2, v3, v4] := by cases args; simp_all
  obtain ⟨rfl, rfl⟩ := trodVars_none hV
  have k0 := h0
  have lt0 : ∀ x ∈ p0, x.block < W.heap.size := by obtain ⟨m, hm⟩ := k0; exact DataW.trod_lt m _ _ _ hm
  obtain ⟨x0, y0, rfl, wx0, wy0⟩ := open_two Try.underlying23 ⟨rfl, rfl⟩ Try.underlying3 Try.underlying3 ⟨by kernel_rfl, by kernel_rfl, by kernel_rfl⟩ (hval 0 23 v0 rfl rfl) h0
  have k1 := h1
  have lt1 : ∀ x ∈ p1, x.block < W.heap.size := by obtain ⟨m, hm⟩ := k1; exact DataW.trod_lt m _ _ _ hm
  obtain ⟨x1, y1, rfl, wx1, wy1⟩ := open_two Try.underlying23 ⟨rfl, rfl⟩ Try.underlying3 Try.underlying3 ⟨by kernel_rfl, by kernel_rfl, by kernel_rfl⟩ (hval 1 23 v1 rfl rfl) h1
  have k2 := h2
  have lt2 : ∀ x ∈ p2, x.block < W.heap.size := by obtain ⟨m, hm⟩ := k2; exact DataW.trod_lt m _ _ _ hm
  obtain ⟨a2, n2, c2, qs2, rfl, b2⟩ := open_asks Try.underlying36 Try.underlying46 ⟨rfl, rfl, rfl, rfl⟩ Try.underlying5 Try.underlying5 Try.underlying4 Try.underlying3 ⟨by kernel_rfl, by kernel_rfl, by kernel_rfl, by kernel_rfl, by kernel_rfl⟩ (hval 2 36 v2 rfl rfl) h2
  have k3 := h3
  have lt3 : ∀ x ∈ p3, x.block < W.heap.size := by obtain ⟨m, hm⟩ := k3; exact DataW.trod_lt m _ _ _ hm
  obtain ⟨a3, rfl, rfl, rfl, w3⟩ := open_int Try.underlying5 (hval 3 5 v3 rfl rfl) h3
  have k4 := h4
  have lt4 : ∀ x ∈ p4, x.block < W.heap.size := by obtain ⟨m, hm⟩ := k4; exact DataW.trod_lt m _ _ _ hm
  obtain ⟨a4, rfl, rfl, rfl, w4⟩ := open_int Try.underlying5 (hval 4 5 v4 rfl rfl) h4
  clear hA0 hval0
  refine (walk W x0 y0 wx0 wy0 x1 y1 wx1 wy1 a2 n2 c2 qs2 b2 a3 w3 a4 w4).mono fun e W' ⟨he, bel⟩ => ?_
  subst he
  exact ⟨_, rfl, _, _, _, [], _, [], hW', trodAll_mk1 (shut_bool Try.underlying4 _), (trodAll_cons_mk (Below.trod laidOut (by kernel_rfl) (of_decide_eq_true (by kernel_rfl)) k0 bel lt0) (trodAll_cons_mk (Below.trod laidOut (by kernel_rfl) (of_decide_eq_true (by kernel_rfl)) k1 bel lt1) (trodAll_cons_mk (Below.trod laidOut (by kernel_rfl) (of_decide_eq_true (by kernel_rfl)) k2 bel lt2) (trodAll_cons_mk (Below.trod laidOut (by kernel_rfl) (of_decide_eq_true (by kernel_rfl)) k3 bel lt3) (trodAll_cons_mk (Below.trod laidOut (by kernel_rfl) (of_decide_eq_true (by kernel_rfl)) k4 bel lt4) trodAll_mk0))))), rfl, bel.frame _, fun h => by cases h⟩
theorem over : Rows.bucketLimiterWindowsRow.holds Try.pinned (OpenSpec.ofChange Rows.bucketLimiterWindowsSpec) :=
  OpenClaim.holds_of_wide 8 Try.f8 rfl rfl rfl rfl rfl rfl rfl ⟨rfl, rfl, rfl, rfl, rfl⟩ rfl rfl rfl rfl rfl (by kernel_rfl) Try.func8 (by kernel_rfl)
    (of_decide_eq_true (by kernel_rfl)) (by unfold Func.isWrapper; first | (rw [if_pos (by decide +kernel)]; kernel_rfl) | (rw [if_neg (by decide +kernel)]; exact ⟨rfl, rfl⟩))
    (fun os started H enc _ => lifted os started H enc)
/-- The statement. -/
theorem proved : Rows.BucketLimiterWindowsSaid := over
end Go.Proofs.Ytblnglkjpnpmbaa.bucketLimiterWindows
