/-
  For every rules (the first 18), every two rows of options (the first 20 of each, each with the first 20 bytes of its data) and every code: what nego.Answer and nego.Learn tell is one's own: where all of its bytes and types are overwritten, what was handed in is as it was (conciergelaw15.NegoOwn answers true). No conditions.
-/
import Derived.Test.YtbldcjngccmhpaaNgI
import Derived.Test.YtbldcjngccmhpaaNgN
import Derived.Test.YtbldcjngccmhpaaNgV
import Derived.Test.YtbldcjngccmhpaaNgW
import Derived.Test.YtbldcjngccmhpaaNgZ
import Derived.Test.YtbldcjngccmhpaaOpenN
import Derived.ProofKit
import Derived.OpenShut
import Derived.ChangeOld
namespace Go.Proofs.Ytbldcjngccmhpaa.negoOwn
open Go.ChangeShapes Go.WideShapes Go.ChangeAt Go.RowKit O Ng
set_option linter.unusedVariables false
set_option linter.unusedSimpArgs false

set_option maxRecDepth 20000 in
set_option maxHeartbeats 8000000 in
theorem walk (W : World) (a0 : Option Addr) (n0 c0 : Nat) (rs0 : List Ru) (b0 : RR W (.slice a0 n0 c0) n0 rs0) (a1 : Option Addr) (n1 c1 : Nat) (ts1 : List Tg) (b1 : TR W (.slice a1 n1 c1) n1 ts1) (i1 : ∀ x ∈ ts1, I64 x.typ) (a2 : Option Addr) (n2 c2 : Nat) (ts2 : List Tg) (b2 : TR W (.slice a2 n2 c2) n2 ts2) (i2 : ∀ x ∈ ts2, I64 x.typ) (a3 : Int) (w3 : (Lit.int .i64 a3).wf = true) :
    Calls Try.prog 8 #[.slice a0 n0 c0, .slice a1 n1 c1, .slice a2 n2 c2, .int .i64 a3] W fun e w' => e = .returned (.bool true) ∧ Below W.heap.size W w' := by
  have AW := Lib.hid awake_any
  obtain ⟨m, rs, hm18, hrr, hrules⟩ := rules_in b0
  have HRU := Lib.hid hrules
  have HRR := Lib.hid hrr
  have OP := Lib.hid (opts_any a1 n1 c1 ts1 W b1 i1)
  have HB2' := Lib.hid b2
  have HI2' := Lib.hid i2
  clear b0 b1 i1 b2 i2 w3 hrr hrules
  go_enter Try.func8, Try.ntmps8
  go_wp2_with fail
  refine (HRU.out W).mono ?_
  rintro e w1 ⟨rfl, rfl⟩
  go_wp2_with fail
  refine OP.out.mono ?_
  rintro e w1 ⟨a4, n, c4, ts, rfl, htr, hn20, hlen, hti, hb1⟩
  have HB1 := Lib.hid hb1
  have HT1 := Lib.hid htr
  have HR1 := Lib.hid (HRR.out.below hb1)
  have HTL : Hid (∀ x ∈ ts, x.l.length ≤ 1000) := fun x hx => Nat.le_trans (hlen x hx) (by decide)
  have HTI := Lib.hid hti
  have hn : n ≤ 1000 := by omega
  have OP2 := Lib.hid (opts_any a2 n2 c2 ts2 w1 (HB2'.out.below hb1) HI2'.out)
  clear hb1 htr hlen hti OP HRU HRR HB2' HI2'
  go_wp2_with fail
  refine OP2.out.mono ?_
  rintro e w2 ⟨a5, q, c5, qs, rfl, hqr, hq20, hlen, hqi, hb2⟩
  have HB2 := Lib.hid (HB1.out.trans (hb2.mono HB1.out.size))
  have HT2 := Lib.hid (HT1.out.below hb2)
  have HR2 := Lib.hid (HR1.out.below hb2)
  have HQ2 := Lib.hid hqr
  have HQL : Hid (∀ x ∈ qs, x.l.length ≤ 1000) := fun x hx => Nat.le_trans (hlen x hx) (by decide)
  have HQI := Lib.hid hqi
  have hq : q ≤ 1000 := by omega
  have C1 := Lib.hid (copy_any a4 n c4 ts w2 HT2.out hn HTL.out)
  clear hb2 hqr hlen hqi OP2 HT1 HR1 HB1
  go_wp2_with fail
  refine C1.out.mono ?_
  rintro e w3 ⟨vm, ms, rfl, hpm, htm, hb3⟩
  obtain ⟨xm, ym, ev, _, _⟩ := htm.tr.shape
  subst ev
  have HPM := Lib.hid hpm
  have HM3 := Lib.hid htm.tr
  obtain ⟨Nm, hNm⟩ : ∃ N, N = ms.length := ⟨_, rfl⟩
  rw [← hNm] at HM3 ⊢
  have HB3 := Lib.hid (HB2.out.trans (hb3.mono HB2.out.size))
  have HT3 := Lib.hid (HT2.out.below hb3)
  have HR3 := Lib.hid (HR2.out.below hb3)
  have HQ3 := Lib.hid (HQ2.out.below hb3)
  have C2 := Lib.hid (copy_any a5 q c5 qs w3 HQ3.out hq HQL.out)
  clear hpm htm hb3 hNm C1 HT2 HR2 HQ2 HB2
  go_wp2_with fail
  refine C2.out.mono ?_
  rintro e wS ⟨va, as', rfl, hpa, hta, hb4⟩
  obtain ⟨xa, ya, ev, _, _⟩ := hta.tr.shape
  subst ev
  have HPA := Lib.hid hpa
  have HAS := Lib.hid hta.tr
  obtain ⟨Na, hNa⟩ : ∃ N, N = as'.length := ⟨_, rfl⟩
  rw [← hNa] at HAS ⊢
  have HBS0 := Lib.hid (HB3.out.trans (hb4.mono HB3.out.size))
  have HTS := Lib.hid (HT3.out.below hb4)
  have HRS := Lib.hid (HR3.out.below hb4)
  have HQS := Lib.hid (HQ3.out.below hb4)
  have HMS := Lib.hid (HM3.out.below hb4)
  have AN := Lib.hid (answer_any a0 m c0 rs a4 n c4 ts 0 3 wS HRS.out HTS.out hn HTL.out)
  clear hpa hta hb4 hNa C2 HT3 HR3 HQ3 HB3 HM3
  obtain ⟨K, hK⟩ : ∃ K, K = (ans rs (plain ts) 0 3).1 := ⟨_, rfl⟩
  go_wp2_with fail
  refine AN.out.mono ?_
  rintro e w5 ⟨vx, xs, rfl, _, htx, hb5⟩
  rw [← hK]
  clear hK
  obtain ⟨xx, yx, ev, _, _⟩ := htx.tr.shape
  subst ev
  have HTX := Lib.hid htx
  have HB5 := Lib.hid hb5
  have HB5S : Hid (wS.heap.size ≤ w5.heap.size) := hb5.size
  have LE := Lib.hid (learn_any a5 q c5 qs a3 a4 n c4 ts w5 (HQS.out.below hb5) (HTS.out.below hb5) hq hn HQL.out HTL.out HQI.out HTI.out)
  obtain ⟨Nx, hNx⟩ : ∃ N, N = xs.length := ⟨_, rfl⟩
  rw [← hNx] at HTX ⊢
  have HNxs := Lib.hid hNx
  clear htx hb5 hNx AN
  obtain ⟨K2, hK⟩ : ∃ K, K = (lrn (plain qs) a3 (plain ts)).2 := ⟨_, rfl⟩
  go_wp2_with fail
  refine LE.out.mono ?_
  rintro e w6 ⟨vy, ys, rfl, _, hty, hb6⟩
  rw [← hK]
  clear hK
  obtain ⟨xy, yy, ev, _, _⟩ := hty.tr.shape
  subst ev
  obtain ⟨Ny, hNy⟩ : ∃ N, N = ys.length := ⟨_, rfl⟩
  have HTY := Lib.hid hty
  rw [← hNy] at HTY ⊢
  have HNys := Lib.hid hNy
  have HBY : Hid (Below wS.heap.size wS w6) := HB5.out.trans (hb6.mono HB5S.out)
  have hlim := TO.lim HTX.out
  have hNx1 : Nx ≤ 9223372036854775807 := by
    obtain ⟨_, _, es, h1, h2⟩ := HTX.out.tr.shape
    simp only [Value.slice.injEq] at es
    unfold maxLen at h2
    have := HNxs.out
    omega
  have hNy1 : Ny ≤ 9223372036854775807 := by
    obtain ⟨_, _, es, h1, h2⟩ := HTY.out.tr.shape
    simp only [Value.slice.injEq] at es
    unfold maxLen at h2
    have := HNys.out
    omega
  have HM0 : Hid (MX w6 w6 wS.heap.size w5.heap.size (.slice xx Nx yx) xs) := MX.start (HTX.out.below hb6) hlim.1 hlim.2
  clear hty hb6 hNy LE hlim HTX HB5
  go_wp2
  go_loopw [15] (fun iv wr => ∃ i : Nat, i ≤ Nx ∧ iv = .int .i64 (i : Int) ∧ Hid (MX w6 wr wS.heap.size w5.heap.size (.slice xx Nx yx) xs)) (fun iv _ => Nx - (intOf iv).toNat)
  case atStart => exact ⟨0, Nat.zero_le _, rfl, HM0⟩
  case round =>
    clear HM0
    obtain ⟨i, hiN, rfl, HM⟩ := hrel
    by_cases hlt : i < Nx
    · have hiu : i < xs.length := by rw [← HNxs.out]; exact hlt
      obtain ⟨wo, hwo⟩ : ∃ x, x = wr := ⟨_, rfl⟩
      subst hwo
      obtain ⟨lt0, hlt0⟩ := HM.out.vals xs[i] (List.getElem_mem _)
      obtain ⟨A, L, C, hv, hL, _, hCm⟩ := hlt0.bs.sl
      have HVI := Lib.hid hv
      have hLm : L ≤ 9223372036854775807 := by
        have h := hlt0
        rw [hv] at h
        exact own_max h
      have hin2 : (i : Int) < (Nx : Int) := by omega
      clear hv hL hCm hlt0
      go_wp2
      go_loopw [16] (fun kv wr => ∃ k : Nat, k ≤ L ∧ kv = .int .i64 (k : Int) ∧ Hid (MX w6 wr wS.heap.size w5.heap.size (.slice xx Nx yx) xs)) (fun kv _ => L - (intOf kv).toNat)
      case atStart => exact ⟨0, Nat.zero_le _, rfl, HM⟩
      case round =>
        clear HM
        obtain ⟨k, hkL, rfl, HM⟩ := hrel
        obtain ⟨b, o, rfl, ho0, hc⟩ := HM.out.cells (by omega)
        have HO0 := Lib.hid ho0
        obtain ⟨k1, ⟨u0, hu0⟩, hf0⟩ := hc i hiu
        rw [HVI.out] at k1
        clear ho0 hc
        by_cases hlt2 : k < L
        · obtain ⟨g, rfl⟩ : ∃ g, A = some ⟨g, 0, none⟩ := by
            obtain ⟨lt, hlt3⟩ := HM.out.vals xs[i] (List.getElem_mem _)
            rw [HVI.out] at hlt3
            obtain ⟨g, h, _, _⟩ := own_at hlt3 (by omega)
            exact ⟨g, h⟩
          obtain ⟨⟨z, y, hu, hxor⟩, hf⟩ := HM.out.byte (List.getElem_mem hiu) HVI.out hlt2
          have HNX := Lib.hid (HM.out.step (k := k) (List.getElem_mem hiu) HVI.out y)
          clear HM hu0 hf0
          go_wp2
          go_roundw
          case rel => first | exact ⟨k + 1, by omega, by go_num, HNX⟩ | ((repeat apply Exists.intro); exact ⟨⟨k + 1, by omega, by go_num, HNX⟩, rfl⟩)
          case measure => simp [intOf]; omega
        · obtain rfl : L = k := by omega
          have HNX := Lib.hid (HM.out.typ (i := i) HO0.out (.int .i64 (-7)))
          clear HM
          go_wp2
          go_roundw
          case rel => first | exact ⟨i + 1, by omega, by go_num, HNX⟩ | ((repeat apply Exists.intro); exact ⟨⟨i + 1, by omega, by go_num, HNX⟩, rfl⟩)
          case measure => simp [intOf]; omega
    · obtain rfl : Nx = i := by omega
      obtain ⟨wf, hwf⟩ : ∃ x, x = wr := ⟨_, rfl⟩
      subst hwf
      have HTY7 : Hid (TO wf w5.heap.size (.slice xy Ny yy) ys) := TO.same HTY.out (fun k h1 h2 => HM.out.high k h1 h2)
      have HBZ : Hid (Below wS.heap.size wS wf) := HBY.out.trans HM.out.low
      have hlim := TO.lim HTY7.out
      have HM7 : Hid (MX wf wf wS.heap.size wf.heap.size (.slice xy Ny yy) ys) := MX.start (TO.mono HTY7.out HB5S.out) hlim.1 hlim.2
      clear HM HTY HTY7 HBY hlim
      go_wp2
      go_loopw [17] (fun iv wr => ∃ i : Nat, i ≤ Ny ∧ iv = .int .i64 (i : Int) ∧ Hid (MX wf wr wS.heap.size wf.heap.size (.slice xy Ny yy) ys)) (fun iv _ => Ny - (intOf iv).toNat)
      case atStart => exact ⟨0, Nat.zero_le _, rfl, HM7⟩
      case round =>
        clear HM7
        obtain ⟨i, hiN, rfl, HM⟩ := hrel
        by_cases hlt : i < Ny
        · have hiu : i < ys.length := by rw [← HNys.out]; exact hlt
          obtain ⟨wo, hwo⟩ : ∃ x, x = wr := ⟨_, rfl⟩
          subst hwo
          obtain ⟨lt0, hlt0⟩ := HM.out.vals ys[i] (List.getElem_mem _)
          obtain ⟨A, L, C, hv, hL, _, hCm⟩ := hlt0.bs.sl
          have HVI := Lib.hid hv
          have hLm : L ≤ 9223372036854775807 := by
            have h := hlt0
            rw [hv] at h
            exact own_max h
          have hin2 : (i : Int) < (Ny : Int) := by omega
          clear hv hL hCm hlt0
          go_wp2
          go_loopw [18] (fun kv wr => ∃ k : Nat, k ≤ L ∧ kv = .int .i64 (k : Int) ∧ Hid (MX wf wr wS.heap.size wf.heap.size (.slice xy Ny yy) ys)) (fun kv _ => L - (intOf kv).toNat)
          case atStart => exact ⟨0, Nat.zero_le _, rfl, HM⟩
          case round =>
            clear HM
            obtain ⟨k, hkL, rfl, HM⟩ := hrel
            obtain ⟨b, o, rfl, ho0, hc⟩ := HM.out.cells (by omega)
            have HO0 := Lib.hid ho0
            obtain ⟨k1, ⟨u0, hu0⟩, hf0⟩ := hc i hiu
            rw [HVI.out] at k1
            clear ho0 hc
            by_cases hlt2 : k < L
            · obtain ⟨g, rfl⟩ : ∃ g, A = some ⟨g, 0, none⟩ := by
                obtain ⟨lt, hlt3⟩ := HM.out.vals ys[i] (List.getElem_mem _)
                rw [HVI.out] at hlt3
                obtain ⟨g, h, _, _⟩ := own_at hlt3 (by omega)
                exact ⟨g, h⟩
              obtain ⟨⟨z, y, hu, hxor⟩, hf⟩ := HM.out.byte (List.getElem_mem hiu) HVI.out hlt2
              have HNX := Lib.hid (HM.out.step (k := k) (List.getElem_mem hiu) HVI.out y)
              clear HM hu0 hf0
              go_wp2
              go_roundw
              case rel => first | exact ⟨k + 1, by omega, by go_num, HNX⟩ | ((repeat apply Exists.intro); exact ⟨⟨k + 1, by omega, by go_num, HNX⟩, rfl⟩)
              case measure => simp [intOf]; omega
            · obtain rfl : L = k := by omega
              have HNX := Lib.hid (HM.out.typ (i := i) HO0.out (.int .i64 (-7)))
              clear HM
              go_wp2
              go_roundw
              case rel => first | exact ⟨i + 1, by omega, by go_num, HNX⟩ | ((repeat apply Exists.intro); exact ⟨⟨i + 1, by omega, by go_num, HNX⟩, rfl⟩)
              case measure => simp [intOf]; omega
        · obtain rfl : Ny = i := by omega
          obtain ⟨wf, hwf⟩ : ∃ x, x = wr := ⟨_, rfl⟩
          subst hwf
          have HBF : Hid (Below wS.heap.size wS wf) := HBZ.out.trans HM.out.low
          have HBF0 := Lib.hid (HBS0.out.trans (HBF.out.mono HBS0.out.size))
          have S1 := rsame_any a4 xm n Nm c4 ym ts ms wf (HTS.out.below HBF.out) (HMS.out.below HBF.out)
          have S2 : ∀ w', Gr wf w' → Calls Try.prog 14 #[.slice a5 q c5, .slice xa Na ya] w' fun e w'' => e = .returned (.bool (decide (plain qs = plain as'))) ∧ Below w'.heap.size w' w'' := fun w' hw' =>
            rsame_any a5 xa q Na c5 ya qs as' w' ((HQS.out.below HBF.out).below hw') ((HAS.out.below HBF.out).below hw')
          rw [decide_eq_true HPM.out.symm] at S1
          rw [decide_eq_true HPA.out.symm] at S2
          have HS1 := Lib.hid S1
          have HS2 := Lib.hid S2
          clear S1 S2 HM HBZ HBF
          go_wp2_with fail
          refine HS1.out.mono ?_
          rintro e w10 ⟨rfl, hb10⟩
          have HG10 : Hid (Gr wf w10) := hb10
          clear hb10
          go_wp2_with fail
          refine (HS2.out w10 HG10.out).mono ?_
          rintro e w11 ⟨rfl, hb11⟩
          have HG11 : Hid (Gr wf w11) := HG10.out.trans hb11
          clear hb11
          go_wp2_with fail
          refine (AW.out w11).mono ?_
          rintro e w12 ⟨rfl, hb12⟩
          have HB12 := Lib.hid (HBF0.out.trans (Below.mono (HG11.out.trans hb12) HBF0.out.size))
          clear hb12
          go_wp2
          go_ret
          exact ⟨rfl, HB12.out⟩

theorem own : ownKnob Try.prog.godebug = none := by kernel_rfl
theorem laidOut : laidOutB Try.prog = true := by kernel_rfl
set_option maxRecDepth 100000 in
theorem lifted (os : Os) (started : os.Started) (H : Type) (enc : TypeId × Value → H) :
    ReturnsInHanded {} Try.checked os 8 .any (Rows.negoOwnSpec.pre6 enc Try.prog Try.f8 Rows.negoOwnRow.domain false) (Rows.negoOwnSpec.post enc Try.prog Try.f8 false true false false) := by
  refine returnsInHanded_of_change (C := Try.checked) own started (by kernel_rfl) Try.func8
    (ChangeSpec.witness6 (enc := enc) (C := Try.checked) false ⟨#[], #[.slice none 0 0, .slice none 0 0, .slice none 0 0, .int .i64 0], []⟩ 8 (by kernel_rfl) (by kernel_rfl) (by kernel_rfl) (by kernel_rfl)) ?_
  intro W base args ds gs before hval0 hW hcnd _
  have hval : ∀ (j : Nat) t v, Try.f8.params[j]? = some t → args[j]? = some v → Value.okWide Try.prog W .any base t v := hval0
  have hW' := hW
  obtain ⟨p, q, hA0, hV, rfl, hfz, hnd⟩ := hW
  have hA : DataW.TrodAll enc Try.prog W 0 (fun _ => true) true Try.f8.params.toList args.toList ds p := hA0
  rw [Try.params8] at hA hval
  obtain ⟨v0, vs0, d0, ds0, p0, q0, hargs, rfl, rfl, h0, r0⟩ := trodAll_cons hA
  obtain ⟨v1, vs1, d1, ds1, p1, q1, rfl, rfl, rfl, h1, r1⟩ := trodAll_cons r0
  obtain ⟨v2, vs2, d2, ds2, p2, q2, rfl, rfl, rfl, h2, r2⟩ := trodAll_cons r1
  obtain ⟨v3, vs3, d3, ds3, p3, q3, rfl, rfl, rfl, h3, r3⟩ := trodAll_cons r2
  obtain ⟨rfl, rfl, rfl⟩ := trodAll_nil r3
  obtain rfl : args = #[v0, v1, v2, v3] := by cases args; simp_all
  obtain ⟨rfl, rfl⟩ := trodVars_none hV
  have k0 := h0
  have lt0 : ∀ x ∈ p0, x.block < W.heap.size := by obtain ⟨m, hm⟩ := k0; exact DataW.trod_lt m _ _ _ hm
  obtain ⟨a0, n0, c0, rs0, rfl, b0⟩ := Ng.open_rules Try.underlying22 Try.underlying39 ⟨rfl, rfl, rfl, rfl, rfl, rfl, rfl⟩ Try.underlying3 Try.underlying3 Try.underlying37 Try.underlying3 Try.underlying3 Try.underlying3 Try.underlying4 ⟨by kernel_rfl, by kernel_rfl, by kernel_rfl, by kernel_rfl, by kernel_rfl, by kernel_rfl, by kernel_rfl, by kernel_rfl⟩ (hval 0 22 v0 rfl rfl) h0
  have k1 := h1
  have lt1 : ∀ x ∈ p1, x.block < W.heap.size := by obtain ⟨m, hm⟩ := k1; exact DataW.trod_lt m _ _ _ hm
  obtain ⟨a1, n1, c1, ts1, rfl, b1, i1⟩ := Ng.open_optw Try.underlying23 Try.underlying42 ⟨rfl, rfl⟩ Try.underlying3 Try.underlying40 Try.underlying5 ⟨by kernel_rfl, by kernel_rfl, by kernel_rfl, by kernel_rfl⟩ (hval 1 23 v1 rfl rfl) h1
  have k2 := h2
  have lt2 : ∀ x ∈ p2, x.block < W.heap.size := by obtain ⟨m, hm⟩ := k2; exact DataW.trod_lt m _ _ _ hm
  obtain ⟨a2, n2, c2, ts2, rfl, b2, i2⟩ := Ng.open_optw Try.underlying23 Try.underlying42 ⟨rfl, rfl⟩ Try.underlying3 Try.underlying40 Try.underlying5 ⟨by kernel_rfl, by kernel_rfl, by kernel_rfl, by kernel_rfl⟩ (hval 2 23 v2 rfl rfl) h2
  have k3 := h3
  have lt3 : ∀ x ∈ p3, x.block < W.heap.size := by obtain ⟨m, hm⟩ := k3; exact DataW.trod_lt m _ _ _ hm
  obtain ⟨a3, rfl, rfl, rfl, w3⟩ := open_int Try.underlying3 (hval 3 3 v3 rfl rfl) h3
  clear hA0 hval0
  refine (walk W a0 n0 c0 rs0 b0 a1 n1 c1 ts1 b1 i1 a2 n2 c2 ts2 b2 i2 a3 w3).mono fun e W' ⟨he, bel⟩ => ?_
  subst he
  exact ⟨_, rfl, _, _, _, [], _, [], hW', trodAll_mk1 (shut_bool Try.underlying4 _), (trodAll_cons_mk (Below.trod laidOut (by kernel_rfl) (of_decide_eq_true (by kernel_rfl)) k0 bel lt0) (trodAll_cons_mk (Below.trod laidOut (by kernel_rfl) (of_decide_eq_true (by kernel_rfl)) k1 bel lt1) (trodAll_cons_mk (Below.trod laidOut (by kernel_rfl) (of_decide_eq_true (by kernel_rfl)) k2 bel lt2) (trodAll_cons_mk (Below.trod laidOut (by kernel_rfl) (of_decide_eq_true (by kernel_rfl)) k3 bel lt3) trodAll_mk0)))), rfl, bel.frame _, fun h => by cases h⟩
theorem over : Rows.negoOwnRow.holds Try.pinned (OpenSpec.ofChange Rows.negoOwnSpec) :=
  OpenClaim.holds_of_wide 8 Try.f8 rfl rfl rfl rfl rfl rfl rfl ⟨rfl, rfl, rfl, rfl, rfl⟩ rfl rfl rfl rfl rfl (by kernel_rfl) Try.func8 (by kernel_rfl)
    (of_decide_eq_true (by kernel_rfl)) (by unfold Func.isWrapper; first | (rw [if_pos (by decide +kernel)]; kernel_rfl) | (rw [if_neg (by decide +kernel)]; exact ⟨rfl, rfl⟩))
    (fun os started H enc _ => lifted os started H enc)
/-- The statement. -/
theorem proved : Rows.NegoOwnSaid := over
end Go.Proofs.Ytbldcjngccmhpaa.negoOwn
