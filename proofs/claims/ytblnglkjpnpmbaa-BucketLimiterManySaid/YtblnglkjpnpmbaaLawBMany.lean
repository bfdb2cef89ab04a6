/-
  For every number of addresses below 300 that ask at tick 0, the first 256 are answered and have a bucket, no other; at a later tick all are forgotten (conciergelaw10.BucketLimiterMany answers true). No condition.
-/
import Derived.Test.YtblnglkjpnpmbaaBkV
import Derived.Test.YtblnglkjpnpmbaaOpenB
import Derived.ProofKit
import Derived.OpenShut
import Derived.ChangeOld
namespace Go.Proofs.Ytblnglkjpnpmbaa.bucketLimiterMany
open Go.ChangeShapes Go.WideShapes Go.ChangeAt Go.RowKit
open Go.Proofs.Ytblnglkjpnpmbaa.Bk
set_option linter.unusedVariables false
set_option linter.unusedSimpArgs false

/-- The i-th address. -/
def adr (i : Nat) : List UInt8 := [2, 0, 0, 0, UInt8.ofNat (i / 256), UInt8.ofNat (i % 256)]
def last : List UInt8 := [4, 0, 0, 0, 0, 0]
theorem adr_inj {i j : Nat} (hi : i < 300) (hj : j < 300) (h : adr i = adr j) : i = j := by
  unfold adr at h
  simp only [List.cons.injEq, true_and, and_true] at h
  have h1 := congrArg UInt8.toNat h.1
  have h2 := congrArg UInt8.toNat h.2
  simp only [UInt8.toNat_ofNat'] at h1 h2
  omega
theorem adr_last (i : Nat) : adr i ≠ last := by
  intro h
  unfold adr last at h
  simp only [List.cons.injEq] at h
  exact absurd h.1 (by decide)
/-- The limiter behind i addresses. -/
structure Mn (S : Li) (i : Nat) : Prop where
  ok : OkL S
  all : S.all = ⟨1000, 100000⟩
  own : S.own = ⟨1, 2⟩
  t : S.t = 0
  b : S.b = ⟨100000 - (min i 256 : Nat), 0⟩
  keys : S.es.map (·.1) = (List.range (min i 256)).map adr
  vals : ∀ p ∈ S.es, p.2 = ⟨1, 0⟩
theorem Mn.len {S : Li} {i : Nat} (h : Mn S i) : S.es.length = min i 256 := by
  have := congrArg List.length h.keys
  simpa using this
theorem Mn.kept0 {S : Li} {i : Nat} (h : Mn S i) : kept S 0 = S.es := List.filter_eq_self.2 fun p hp => by
  rw [h.vals p hp, h.own]
  rfl
theorem Mn.none_of {S : Li} {i : Nat} (h : Mn S i) {m : List UInt8} (hm : ∀ j, j < i → adr j ≠ m) : find S.es m = none := by
  refine find_none fun hk => ?_
  rw [h.keys] at hk
  obtain ⟨j, hj, he⟩ := List.mem_map.1 hk
  rw [List.mem_range] at hj
  exact hm j (by omega) he
theorem tick0 {S : Li} (h : S.t = 0) : tickOf S 0 = 0 := by unfold tickOf; rw [h]; rfl
theorem Mn.yes0 {S : Li} {i : Nat} (h : Mn S i) {m : List UInt8} (hm : ∀ j, j < i → adr j ≠ m) : yes S m 0 = decide (i < 256) := by
  have hn := h.none_of hm
  have hl := h.len
  unfold yes room mine va
  rw [h.kept0, hn, h.all, h.own, h.b, hl]
  have h1 : Bk.tok ⟨1000, 100000⟩ ⟨100000 - (min i 256 : Nat), 0⟩ 0 ≠ 0 := by unfold Bk.tok; simp only []; split <;> omega
  have h2 : Bk.tok ⟨1, 2⟩ ((none : Option Bu).getD ⟨2, 0⟩) 0 ≠ 0 := by decide
  rw [decide_eq_true h1, decide_eq_true h2]
  by_cases hi : i < 256
  · rw [decide_eq_true hi, decide_eq_true (by omega)]; rfl
  · rw [decide_eq_false hi, decide_eq_false (by omega)]; rfl
/-- A new address asks at tick 0. -/
theorem Mn.next {S : Li} {i : Nat} (h : Mn S i) (hi : i < 299) : (allow S (adr i) 0).2 = decide (i < 256) ∧ Mn (allow S (adr i) 0).1 (i + 1) := by
  have hm : ∀ j, j < i → adr j ≠ adr i := fun j hj he => by have := adr_inj (by omega) (by omega) he; omega
  have hy := h.yes0 hm
  have hok := allow_ok h.ok (adr i) 0
  have ht := tick0 h.t
  have hk := h.kept0
  have hn := h.none_of hm
  obtain ⟨ok1, _, ok3, ok4⟩ := hok
  by_cases hlt : i < 256
  · have he : allow S (adr i) 0 = ({ S with b := ⟨va S 0 - 1, 0⟩, es := rest S.es (adr i) ++ [(adr i, ⟨Bk.tok S.own (mine S (adr i) 0) 0 - 1, 0⟩)], t := 0 }, true) := by
      unfold allow
      rw [ht, hy, decide_eq_true hlt, if_pos rfl, hk]
    have hmi : mine S (adr i) 0 = ⟨2, 0⟩ := by unfold mine; rw [hk, hn, h.own]; rfl
    have hva : va S 0 = 100000 - (i : Nat) := by
      unfold va Bk.tok
      rw [h.all, h.b]
      simp only []
      split <;> omega
    have hre : rest S.es (adr i) = S.es := List.filter_eq_self.2 fun p hp => by
      have : p.1 ≠ adr i := fun e => by
        have hf := find_of h.ok.keys (show (p.1, p.2) ∈ S.es from hp)
        rw [e, hn] at hf
        cases hf
      simpa using this
    refine ⟨by rw [he, decide_eq_true hlt], ok1, by rw [ok3]; exact h.all, by rw [ok4]; exact h.own, by rw [he], ?_, ?_, ?_⟩
    · rw [he]
      show (⟨va S 0 - 1, 0⟩ : Bu) = _
      rw [hva]
      congr 1
      omega
    · rw [he]
      show (rest S.es (adr i) ++ [(adr i, _)]).map (fun p : List UInt8 × Bu => p.1) = _
      rw [hre, List.map_append, h.keys, show min (i + 1) 256 = min i 256 + 1 by omega, List.range_succ, List.map_append]
      congr 1
      rw [show min i 256 = i by omega]
      rfl
    · rw [he]
      intro p hp
      rcases List.mem_append.1 hp with hp | hp
      · exact h.vals p (by rw [← hre]; exact hp)
      · obtain rfl := List.mem_singleton.1 hp
        show (⟨Bk.tok S.own (mine S (adr i) 0) 0 - 1, 0⟩ : Bu) = _
        rw [hmi, h.own]
        rfl
  · have he : allow S (adr i) 0 = (S, false) := by
      unfold allow
      rw [ht, hy, decide_eq_false hlt, if_neg (by simp), hk]
      rw [← h.t]
    refine ⟨by rw [he, decide_eq_false hlt], ?_⟩
    rw [he]
    exact ⟨h.ok, h.all, h.own, h.t, by rw [show min (i + 1) 256 = min i 256 by omega]; exact h.b, by rw [show min (i + 1) 256 = min i 256 by omega]; exact h.keys, h.vals⟩
theorem Mn.last0 {S : Li} {i : Nat} (h : Mn S i) : (allow S last 0).2 = decide (i < 256) := by
  have hy := h.yes0 (m := last) (fun j _ => adr_last j)
  unfold allow
  rw [tick0 h.t, hy]
  by_cases hlt : i < 256
  · rw [decide_eq_true hlt]; rfl
  · rw [decide_eq_false hlt]; rfl
theorem Mn.later {S : Li} {i : Nat} (h : Mn S i) {L : Int} (h1 : 1 ≤ L) (h2 : L ≤ 255) : (allow S last L).2 = true ∧ (allow S last L).1.es.length = 1 := by
  have ht : tickOf S L = L := by unfold tickOf top; rw [h.t]; exact if_pos (by omega)
  have hk : kept S L = [] := List.filter_eq_nil_iff.2 fun p hp => by
    rw [h.vals p hp, h.own]
    unfold Bk.tok
    simp only []
    split <;> simp <;> omega
  have hy : yes S last L = true := by
    unfold yes room mine va
    rw [hk, h.all, h.own, h.b]
    have h1 : Bk.tok ⟨1000, 100000⟩ ⟨100000 - (min i 256 : Nat), 0⟩ L ≠ 0 := by unfold Bk.tok; simp only []; split <;> omega
    have h2 : Bk.tok ⟨1, 2⟩ ((find [] last).getD ⟨2, L⟩) L ≠ 0 := by
      show Bk.tok ⟨1, 2⟩ ⟨2, L⟩ L ≠ 0
      rw [tok_now (by decide)]
      decide
    rw [decide_eq_true h1, decide_eq_true h2]
    rfl
  unfold allow
  rw [ht, hy, if_pos rfl, hk]
  exact ⟨rfl, rfl⟩
theorem Mn.start : Mn (born ⟨1000, 100000⟩ ⟨1, 2⟩) 0 :=
  ⟨born_ok (by simp [okR]) (by simp [okR]), rfl, rfl, rfl, rfl, rfl, (fun p hp => by cases hp)⟩
theorem adr_is {i : Nat} (hi : i < 300) : (adr i).map u8v = [.int .u8 2, .int .u8 0, .int .u8 0, .int .u8 0, .int .u8 ((i : Int) / 256), .int .u8 ((i : Int) % 256)] := by
  have e1 : ((i / 256 % 256 : Nat) : Int) = (i : Int) / 256 := by omega
  have e2 : ((i % 256 : Nat) : Int) = (i : Int) % 256 := by omega
  unfold adr
  simp only [List.map_cons, List.map_nil, u8v_ofNat, Nat.mod_mod]
  rw [e1, e2]
  rfl
theorem last_is : last.map u8v = [.int .u8 4, .int .u8 0, .int .u8 0, .int .u8 0, .int .u8 0, .int .u8 0] := rfl
set_option maxRecDepth 20000 in
set_option maxHeartbeats 8000000 in
theorem walk (W : World) (N : Int) (wN : (Lit.int .u16 N).wf = true) (L : Int) (wL : (Lit.int .u8 L).wf = true) :
    Calls Try.prog 7 #[.int .u16 N, .int .u8 L] W fun e w' => e = .returned (.bool true) ∧ Below W.heap.size W w' := by
  have hN : 0 ≤ N ∧ N ≤ 65535 := by
    have : (decide ((0 : Int) ≤ N) && decide (N ≤ 65535)) = true := wN
    simpa using this
  have hL : 0 ≤ L ∧ L ≤ 255 := by
    have : (decide ((0 : Int) ≤ L) && decide (L ≤ 255)) = true := wL
    simpa using this
  obtain ⟨k, hk⟩ : ∃ k : Nat, k = (N % 300).toNat := ⟨_, rfl⟩
  have hk300 : k < 300 := by omega
  have hkN : Int.tmod N 300 = (k : Int) := by rw [Int.tmod_eq_emod_of_nonneg hN.1]; omega
  have x0 : wrap64 N = N := wrap64_in (by omega) (by omega)
  have x9 : wrap64 L = L := wrap64_in (by omega) (by omega)
  have HB : Hid (Below W.heap.size W (W.alloc (.cells #[.int .i64 1, .int .i64 2] 23))) := (Below.refl _ _).alloc (Nat.le_refl _) _
  have HG0 : Hid ((W.alloc (.cells #[.int .i64 1, .int .i64 2] 23)).heap[W.heap.size]? = some (.cells #[.int .i64 1, .int .i64 2] 23 (0, 0))) := heap_alloc_last _ _
  have HA := Lib.hid (fun w => awake_any w)
  have HLR := Lib.hid hL
  clear wN wL hk hN hL
  go_enter Try.func7, Try.ntmps7
  go_upto_region 2 with fail
  generalize (W.alloc (.cells #[.int .i64 1, .int .i64 2] 23)) = w1 at HB HG0 ⊢
  obtain ⟨k0, k1⟩ := cells2 HG0.out
  go_wp2_with fail
  refine (new_yes 1000 100000 1 2 (by simp [okR]) (by simp [okR]) w1).mono ?_
  rintro e w2 ⟨g, bm, rfl, hg, hbm, hl, hb⟩
  have HL2 := Lib.hid hl
  have HB2 := Lib.hid (HB.out.trans (hb.mono HB.out.size))
  have HGE : Hid (W.heap.size ≤ g ∧ W.heap.size ≤ bm) := ⟨Nat.le_trans HB.out.size hg, Nat.le_trans HB.out.size hbm⟩
  clear hl hb hg hbm HB HG0 k0 k1
  go_wp2_with fail
  refine (HA.out _).mono ?_
  rintro e w3 ⟨rfl, hb⟩
  have HL3 := Lib.hid (HL2.out.gr hb)
  have HB3 := Lib.hid (HB2.out.trans (hb.mono HB2.out.size))
  clear hb HL2 HB2
  go_wp2_with fail
  clear x0
  go_loopw [9] (fun iv wr => ∃ (i : Nat) (S : Li), i ≤ k ∧ iv = .int .i64 (i : Int) ∧ LimAt wr g bm S ∧ Mn S i ∧ Below W.heap.size W wr) (fun iv _ => k - (intOf iv).toNat)
  case atStart => exact ⟨0, _, Nat.zero_le _, rfl, HL3.out, Mn.start, HB3.out⟩
  case round =>
    clear HL3 HB3
    obtain ⟨i, S, hik, hiv, hls, hmn, hbw⟩ := hrel
    subst hiv
    have HL := Lib.hid hls
    have HM := Lib.hid hmn
    have HB := Lib.hid hbw
    clear hls hmn hbw
    by_cases hlt : i < k
    · have hi300 : i < 299 := by omega
      have hi0 : (i : Int) < 299 := by omega
      have x1 : wrap64 ((i : Int) + 1) = (i : Int) + 1 := wrap64_in (by omega) (by omega)
      go_upto_region 9 with fail
      have HY := HM.out.next hi300
      obtain ⟨T, hT⟩ : ∃ T, T = (allow S (adr i) 0).1 := ⟨_, rfl⟩
      obtain ⟨X, hX⟩ : ∃ X, X = (allow S (adr i) 0).2 := ⟨_, rfl⟩
      have LA := fun w => lim_allow (S := S) g bm 0 _ _ _ _ _ _ (adr i) (adr_is (by omega)) w
      rw [← hT, ← hX] at HY
      rw [← hT, ← hX] at LA
      have HLA := Lib.hid LA
      have HMT := Lib.hid HY
      clear LA HY hT hX
      go_wp2_with fail
      refine (HLA.out _ HL.out).mono ?_
      rintro e wq ⟨rfl, hlq, htq⟩
      have HXE := Lib.hid HMT.out.1
      have HMN := Lib.hid HMT.out.2
      have HLQ := Lib.hid hlq
      have HBQ := Lib.hid (Tu.below HB.out HB.out.size htq HGE.out.1 HGE.out.2)
      have LN := fun w => len_any (S := T) g bm w
      have htl : T.es.length = min (i + 1) 256 := HMT.out.2.len
      clear hlq htq HMT HLA HL HM HB
      go_upto_region 10 with fail
      by_cases h256 : i < 256
      · have hz : X = true := by rw [HXE.out]; exact decide_eq_true h256
        subst hz
        have e9 : (T.es.length : Int) = (i : Int) + 1 := by omega
        simp only [e9] at LN
        have HLN := Lib.hid LN
        have hi2 : (i : Int) < 256 := by omega
        have hi3 : (i : Int) + 1 ≤ 256 := by omega
        clear LN htl e9 HXE
        go_wp2_with fail
        refine (HLN.out _ HLQ.out).mono ?_
        rintro e w' ⟨rfl, rfl⟩
        go_wp2_with fail
        go_roundw
        case rel =>
          first
            | exact ⟨i + 1, T, by omega, by go_num, HLQ.out, HMN.out, HBQ.out⟩
            | ((repeat apply Exists.intro); exact ⟨⟨i + 1, T, by omega, by go_num, HLQ.out, HMN.out, HBQ.out⟩, rfl⟩)
        case measure => simp [intOf]; omega
      · have hz : X = false := by rw [HXE.out]; exact decide_eq_false h256
        subst hz
        have e9 : (T.es.length : Int) = 256 := by omega
        simp only [e9] at LN
        have HLN := Lib.hid LN
        have hi2 : ¬ (i : Int) < 256 := by omega
        have hi3 : 256 < (i : Int) + 1 := by omega
        clear LN htl e9 HXE
        go_wp2_with fail
        refine (HLN.out _ HLQ.out).mono ?_
        rintro e w' ⟨rfl, rfl⟩
        go_wp2_with fail
        go_roundw
        case rel =>
          first
            | exact ⟨i + 1, T, by omega, by go_num, HLQ.out, HMN.out, HBQ.out⟩
            | ((repeat apply Exists.intro); exact ⟨⟨i + 1, T, by omega, by go_num, HLQ.out, HMN.out, HBQ.out⟩, rfl⟩)
        case measure => simp [intOf]; omega
    · obtain rfl : i = k := by omega
      have hY := HM.out.last0
      have hZ := fun h1 => HM.out.later (L := L) h1 HLR.out.2
      obtain ⟨T, hT⟩ : ∃ T, T = (allow S last L).1 := ⟨_, rfl⟩
      obtain ⟨X, hX⟩ : ∃ X, X = (allow S last L).2 := ⟨_, rfl⟩
      have LA := fun w => lim_allow (S := S) g bm L _ _ _ _ _ _ last last_is w
      rw [← hT, ← hX] at LA
      have HLA := Lib.hid LA
      have HXE : Hid (L = 0 → X = decide (i < 256)) := fun h0 => by rw [hX, h0]; exact hY
      have HXZ : Hid (1 ≤ L → X = true ∧ T.es.length = 1) := fun h1 => by rw [hX, hT]; exact hZ h1
      clear LA hX hT hY hZ
      go_upto_region 12 with fail
      go_wp2_with fail
      refine (HLA.out _ HL.out).mono ?_
      rintro e wq ⟨rfl, hlq, htq⟩
      have HLQ := Lib.hid hlq
      have HBQ := Lib.hid (Tu.below HB.out HB.out.size htq HGE.out.1 HGE.out.2)
      have LN := fun w => len_any (S := T) g bm w
      clear hlq htq HLA HL HM HB
      by_cases h0 : L = 0
      · have HXE' := Lib.hid (HXE.out h0)
        subst h0
        have hi2 : decide ((i : Int) < 256) = decide (i < 256) := by congr 1; exact propext ⟨fun h => by omega, fun h => by omega⟩
        have hz := HXE'.out
        clear LN HXE HXE' HXZ
        go_wp2
        go_ret
        refine ⟨?_, HBQ.out⟩
        simp [hi2, hz]
      · have h1 := HXZ.out (by have := HLR.out.1; omega)
        have hz := h1.1
        subst hz
        rw [h1.2] at LN
        have HLN := Lib.hid LN
        clear LN HXE HXZ h1
        go_wp2_with fail
        refine (HLN.out _ HLQ.out).mono ?_
        rintro e w' ⟨rfl, rfl⟩
        go_wp2
        go_ret
        exact ⟨rfl, HBQ.out⟩

theorem own : ownKnob Try.prog.godebug = none := by kernel_rfl
theorem laidOut : laidOutB Try.prog = true := by kernel_rfl
set_option maxRecDepth 100000 in
theorem lifted (os : Os) (started : os.Started) (H : Type) (enc : TypeId × Value → H) :
    ReturnsInHanded {} Try.checked os 7 .any (Rows.bucketLimiterManySpec.pre6 enc Try.prog Try.f7 Rows.bucketLimiterManyRow.domain false) (Rows.bucketLimiterManySpec.post enc Try.prog Try.f7 false true false false) := by
  refine returnsInHanded_of_change (C := Try.checked) own started (by kernel_rfl) Try.func7
    (ChangeSpec.witness6 (enc := enc) (C := Try.checked) false ⟨#[], #[.int .u16 0, .int .u8 0], []⟩ 8 (by kernel_rfl) (by kernel_rfl) (by kernel_rfl) (by kernel_rfl)) ?_
  intro W base args ds gs before hval0 hW hcnd _
  have hval : ∀ (j : Nat) t v, Try.f7.params[j]? = some t → args[j]? = some v → Value.okWide Try.prog W .any base t v := hval0
  have hW' := hW
  obtain ⟨p, q, hA0, hV, rfl, hfz, hnd⟩ := hW
  have hA : DataW.TrodAll enc Try.prog W 0 (fun _ => true) true Try.f7.params.toList args.toList ds p := hA0
  rw [Try.params7] at hA hval
  obtain ⟨v0, vs0, d0, ds0, p0, q0, hargs, rfl, rfl, h0, r0⟩ := trodAll_cons hA
  obtain ⟨v1, vs1, d1, ds1, p1, q1, rfl, rfl, rfl, h1, r1⟩ := trodAll_cons r0
  obtain ⟨rfl, rfl, rfl⟩ := trodAll_nil r1
  obtain rfl : args = #[v0, v1] := by cases args; simp_all
  obtain ⟨rfl, rfl⟩ := trodVars_none hV
  have k0 := h0
  have lt0 : ∀ x ∈ p0, x.block < W.heap.size := by obtain ⟨m, hm⟩ := k0; exact DataW.trod_lt m _ _ _ hm
  obtain ⟨a0, rfl, rfl, rfl, w0⟩ := open_int Try.underlying55 (hval 0 55 v0 rfl rfl) h0
  have k1 := h1
  have lt1 : ∀ x ∈ p1, x.block < W.heap.size := by obtain ⟨m, hm⟩ := k1; exact DataW.trod_lt m _ _ _ hm
  obtain ⟨a1, rfl, rfl, rfl, w1⟩ := open_int Try.underlying5 (hval 1 5 v1 rfl rfl) h1
  clear hA0 hval0
  refine (walk W a0 w0 a1 w1).mono fun e W' ⟨he, bel⟩ => ?_
  subst he
  exact ⟨_, rfl, _, _, _, [], _, [], hW', trodAll_mk1 (shut_bool Try.underlying4 _), (trodAll_cons_mk (Below.trod laidOut (by kernel_rfl) (of_decide_eq_true (by kernel_rfl)) k0 bel lt0) (trodAll_cons_mk (Below.trod laidOut (by kernel_rfl) (of_decide_eq_true (by kernel_rfl)) k1 bel lt1) trodAll_mk0)), rfl, bel.frame _, fun h => by cases h⟩
theorem over : Rows.bucketLimiterManyRow.holds Try.pinned (OpenSpec.ofChange Rows.bucketLimiterManySpec) :=
  OpenClaim.holds_of_wide 7 Try.f7 rfl rfl rfl rfl rfl rfl rfl ⟨rfl, rfl, rfl, rfl, rfl⟩ rfl rfl rfl rfl rfl (by kernel_rfl) Try.func7 (by kernel_rfl)
    (of_decide_eq_true (by kernel_rfl)) (by unfold Func.isWrapper; first | (rw [if_pos (by decide +kernel)]; kernel_rfl) | (rw [if_neg (by decide +kernel)]; exact ⟨rfl, rfl⟩))
    (fun os started H enc _ => lifted os started H enc)
/-- The statement. -/
theorem proved : Rows.BucketLimiterManySaid := over
end Go.Proofs.Ytblnglkjpnpmbaa.bucketLimiterMany
