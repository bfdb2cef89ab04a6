/-
  The document's Make, Valid.
-/
import Derived.Test.YtjlacialbfhjcaaDoorCkG
import Derived.Test.YtjlacialbfhjcaaDoorCkE
namespace Go.Proofs.YtjlacialbfhjcaaDoor.Ck
open Go.RowKit
set_option linter.unusedVariables false
set_option linter.unusedSimpArgs false

/-- What the document's Make hands back. -/
def RRes (sec : List UInt8) (T : Int) (mac uniq : List UInt8) (t : Int) (w : World) (e : Ending) (w' : World) : Prop :=
  ∃ A L C, e = .returned (.tuple #[.slice A L C, .int .i64 (makE sec T uniq t)]) ∧ (makB sec T mac uniq t).length = L ∧ Bs w' (.slice A L C) (makB sec T mac uniq t) ∧ Below w.heap.size w w'
theorem RRes.none {sec : List UInt8} {T : Int} {mac uniq : List UInt8} {t k : Int} {w w' : World} (h : makE sec T uniq t = k) (hk : k ≠ 0) (hb : Below w.heap.size w w') : RRes sec T mac uniq t w (.returned (.tuple #[.slice Option.none 0 0, .int .i64 k])) w' := by
  subst h
  have e := makB_no (mac := mac) hk
  exact ⟨_, _, _, rfl, by rw [e]; rfl, by rw [e]; exact Bs.nil _, hb⟩
theorem RRes.some {sec : List UInt8} {T : Int} {mac uniq : List UInt8} {t : Int} {w w' : World} {a : Option Addr} {m : Nat} (h : makE sec T uniq t = 0) (ho : Bs w' (.slice a 32 m) (cookL sec mac uniq (t / T))) (hb : Below w.heap.size w w') : RRes sec T mac uniq t w (.returned (.tuple #[.slice a 32 m, .int .i64 0])) w' := by
  have e := makB_yes (mac := mac) h
  exact ⟨_, _, _, by rw [h], by rw [e, cookL_length], by rw [e]; exact ho, hb⟩
set_option maxHeartbeats 1000000 in
theorem rmake_any (ak : Option Addr) (nk ck : Nat) (sec : List UInt8) (hn : sec.length = nk) (T t : Int) (au : Option Addr) (nu cu : Nat) (uniq : List UInt8) (hu : uniq.length = nu) (v0 v1 v2 v3 v4 v5 : Value) (mac : List UInt8) (hm : mac.map u8v = [v0, v1, v2, v3, v4, v5])
    (w : World) (hk : Bs w (.slice ak nk ck) sec) (hq : Bs w (.slice au nu cu) uniq) :
    Calls Tryd.prog 10 #[.agg #[.slice ak nk ck, .int .i64 T], .agg #[v0, v1, v2, v3, v4, v5], .slice au nu cu, .int .i64 t] w (RRes sec T mac uniq t w) := by
  have HB1 : Hid (Below w.heap.size w ((w.alloc (.cells #[.slice ak nk ck, .int .i64 T] 24)).alloc (.cells #[v0, v1, v2, v3, v4, v5] 26))) := boxed_two _ _ _
  have HG0 : Hid (((w.alloc (.cells #[.slice ak nk ck, .int .i64 T] 24)).alloc (.cells #[v0, v1, v2, v3, v4, v5] 26)).heap[w.heap.size]? = some (.cells #[.slice ak nk ck, .int .i64 T] 24 (0, 0))) := boxed_0 _ _ _
  have HG1 : Hid (((w.alloc (.cells #[.slice ak nk ck, .int .i64 T] 24)).alloc (.cells #[v0, v1, v2, v3, v4, v5] 26)).heap[w.heap.size + 1]? = some (.cells #[v0, v1, v2, v3, v4, v5] 26 (0, 0))) := boxed_1 _ _ _
  have HC := Lib.hid (fun w => repoch_any ak nk ck sec hn T t w)
  obtain ⟨k, hke⟩ : ∃ k, epE sec T t = k := ⟨_, rfl⟩
  have HKE := Lib.hid hke
  rw [hke] at HC
  by_cases h0 : k = 0
  · subst h0
    have hr := epN_range hke
    have h64 := (epE_zero hke).1.2.1
    rw [epN_yes hke] at HC
    obtain ⟨n, hnn⟩ : ∃ n, n = t / T := ⟨_, rfl⟩
    rw [← hnn] at hr HC
    unfold top at hr
    by_cases hl : nu ≤ 1494
    · have HK := Lib.hid (fun (w' : World) (hb : Below w.heap.size w w') => of_any ak nk ck sec hn T au nu cu uniq hu v0 v1 v2 v3 v4 v5 mac hm n hr.1 hr.2 w' (hk.below hb) (hq.below hb) (by omega) (by omega))
      have HM : Hid (makE sec T uniq t = 0) := makE_ok hke (by omega)
      have HN := Lib.hid hnn
      clear hn hu hm hk hq hke hr h64 hnn
      go_enter Tryd.func10, Tryd.ntmps10
      go_wp2_with fail
      generalize (w.alloc (.cells #[.slice ak nk ck, .int .i64 T] 24)).alloc (.cells #[v0, v1, v2, v3, v4, v5] 26) = w1 at HB1 HG0 HG1 ⊢
      refine (HC.out _).mono ?_
      rintro e w2 ⟨rfl, hb2⟩
      have HB2 := Lib.hid (HB1.out.trans (hb2.mono HB1.out.size))
      obtain ⟨k0, k1⟩ := cells2 (heap_below HG0.out hb2)
      obtain ⟨m0, m1, m2, m3, m4, m5⟩ := cells6 (heap_below HG1.out hb2)
      clear hb2
      go_wp2_with fail
      refine (HK.out _ HB2.out).mono ?_
      rintro e w3 ⟨a3, c3, rfl, ho3, hb3⟩
      have HB3 := Lib.hid (HB2.out.trans (hb3.mono HB2.out.size))
      have HO3 := Lib.hid ho3
      clear hb3 ho3 k0 k1 m0 m1 m2 m3 m4 m5
      go_wp2
      go_ret2
      refine RRes.some HM.out ?_ HB3.out
      rw [← HN.out]
      exact HO3.out
    · have HM : Hid (makE sec T uniq t = 2) := makE_long hke (by omega)
      clear hn hu hm hk hq hke hr h64 hnn
      go_enter Tryd.func10, Tryd.ntmps10
      go_wp2_with fail
      generalize (w.alloc (.cells #[.slice ak nk ck, .int .i64 T] 24)).alloc (.cells #[v0, v1, v2, v3, v4, v5] 26) = w1 at HB1 HG0 HG1 ⊢
      refine (HC.out _).mono ?_
      rintro e w2 ⟨rfl, hb2⟩
      have HB2 := Lib.hid (HB1.out.trans (hb2.mono HB1.out.size))
      clear hb2
      go_wp2
      go_ret2
      exact RRes.none HM.out (by decide) HB2.out
  · have HM : Hid (makE sec T uniq t = k) := by show _ = _; rw [makE_ep (by rw [hke]; exact h0), hke]
    clear hn hu hm hk hq hke
    go_enter Tryd.func10, Tryd.ntmps10
    go_wp2_with fail
    generalize (w.alloc (.cells #[.slice ak nk ck, .int .i64 T] 24)).alloc (.cells #[v0, v1, v2, v3, v4, v5] 26) = w1 at HB1 HG0 HG1 ⊢
    refine (HC.out _).mono ?_
    rintro e w2 ⟨rfl, hb2⟩
    have HB2 := Lib.hid (HB1.out.trans (hb2.mono HB1.out.size))
    clear hb2
    go_wp2
    go_ret2
    exact RRes.none HM.out h0 HB2.out
set_option maxRecDepth 20000 in
set_option maxHeartbeats 2000000 in
/-- What the document's Valid tells. -/
theorem rvalid_any (ak : Option Addr) (nk ck : Nat) (sec : List UInt8) (hn : sec.length = nk) (T t : Int) (au : Option Addr) (nu cu : Nat) (uniq : List UInt8) (hu : uniq.length = nu) (ac : Option Addr) (nc cc : Nat) (c : List UInt8) (hc : c.length = nc) (v0 v1 v2 v3 v4 v5 : Value) (mac : List UInt8) (hm : mac.map u8v = [v0, v1, v2, v3, v4, v5])
    (w : World) (hk : Bs w (.slice ak nk ck) sec) (hq : Bs w (.slice au nu cu) uniq) (hb : Bs w (.slice ac nc cc) c) :
    Calls Tryd.prog 17 #[.agg #[.slice ak nk ck, .int .i64 T], .agg #[v0, v1, v2, v3, v4, v5], .slice au nu cu, .slice ac nc cc, .int .i64 t] w fun e w' => e = .returned (.bool (decide (valid sec T mac uniq c t))) ∧ Below w.heap.size w w' := by
  have HB1 : Hid (Below w.heap.size w ((w.alloc (.cells #[.slice ak nk ck, .int .i64 T] 24)).alloc (.cells #[v0, v1, v2, v3, v4, v5] 26))) := boxed_two _ _ _
  have HG0 : Hid (((w.alloc (.cells #[.slice ak nk ck, .int .i64 T] 24)).alloc (.cells #[v0, v1, v2, v3, v4, v5] 26)).heap[w.heap.size]? = some (.cells #[.slice ak nk ck, .int .i64 T] 24 (0, 0))) := boxed_0 _ _ _
  have HG1 : Hid (((w.alloc (.cells #[.slice ak nk ck, .int .i64 T] 24)).alloc (.cells #[v0, v1, v2, v3, v4, v5] 26)).heap[w.heap.size + 1]? = some (.cells #[v0, v1, v2, v3, v4, v5] 26 (0, 0))) := boxed_1 _ _ _
  have HC := Lib.hid (fun (w' : World) (hb : Below w.heap.size w w') => rmake_any ak nk ck sec hn T t au nu cu uniq hu v0 v1 v2 v3 v4 v5 mac hm w' (hk.below hb) (hq.below hb))
  unfold RRes at HC
  have HT := Lib.hid hb.txt
  obtain ⟨R, hR⟩ : ∃ R, R = decide (valid sec T mac uniq c t) := ⟨_, rfl⟩
  rw [← hR]
  have HRR := Lib.hid hR
  clear hR
  obtain ⟨k, hke⟩ : ∃ k, makE sec T uniq t = k := ⟨_, rfl⟩
  have HKE := Lib.hid hke
  rw [hke] at HC
  by_cases h0 : k = 0
  · subst h0
    have hz := makE_zero hke
    have hr := epN_range hz.1
    have ht := (epE_zero hz.1).2
    have hT := (okC_iff sec T).1 (epE_zero hz.1).1
    have h64 := (epE_zero hz.1).1.2.1
    obtain ⟨y, hy⟩ : ∃ y, y = makB sec T mac uniq t := ⟨_, rfl⟩
    have hyc : y = cookL sec mac uniq (t / T) := by rw [hy, makB_yes hke]
    rw [← hy] at HC
    have HYL : Hid (y.length = 32) := by show _ = _; rw [hyc, cookL_length]
    have e5 : Int.tdiv t T = t / T := Int.tdiv_eq_ediv_of_nonneg ht.1
    obtain ⟨n, hnn⟩ : ∃ n, n = t / T := ⟨_, rfl⟩
    rw [← hnn] at hr hyc e5
    unfold top at hr
    obtain ⟨hr0, hr1⟩ := hr
    have HV : Hid (valid sec T mac uniq c t ↔ (c = y ∨ 0 < n ∧ c = cookL sec mac uniq (n - 1))) := by
      show _ ↔ _
      unfold valid
      rw [hyc, hnn]
      exact ⟨fun h => h.2, fun h => ⟨hke, h⟩⟩
    obtain ⟨_, hT1, hT2⟩ := hT
    obtain ⟨ht1, ht2⟩ := ht
    unfold top at ht2
    have HOF := Lib.hid (fun (w' : World) (hb : Below w.heap.size w w') (n : Int) (h0 : 0 ≤ n) (h1 : n ≤ 1099511627776) => of_any ak nk ck sec hn T au nu cu uniq hu v0 v1 v2 v3 v4 v5 mac hm n h0 h1 w' (hk.below hb) (hq.below hb) (by omega) hz.2)
    clear hn hu hm hk hq hb hc hke hz h64 hnn hy hyc
    go_enter Tryd.func17, Tryd.ntmps17
    go_wp2_with fail
    generalize (w.alloc (.cells #[.slice ak nk ck, .int .i64 T] 24)).alloc (.cells #[v0, v1, v2, v3, v4, v5] 26) = w1 at HB1 HG0 HG1 ⊢
    refine (HC.out _ HB1.out).mono ?_
    rintro e w2 ⟨A2, L2, C2, rfl, hl2, hv2, hb2⟩
    rw [HYL.out] at hl2
    subst hl2
    have HB2 := Lib.hid (HB1.out.trans (hb2.mono HB1.out.size))
    have HG02 := Lib.hid (heap_below HG0.out hb2)
    have HG12 := Lib.hid (heap_below HG1.out hb2)
    have HT2 := Lib.hid hv2.txt
    obtain ⟨k0, k1⟩ := cells2 HG02.out
    clear hb2 hv2 HG0 HG1
    go_wp2_with fail
    have tC := (HT.out.on HB2.out).on (Gr.drew w2)
    have tB := HT2.out.on (Gr.drew w2)
    unfold Txt at tC tB
    clear k0 k1
    by_cases he : c = y
    · have hE : (c == y) = true := by simp [he]
      obtain rfl : R = true := by rw [HRR.out]; exact decide_eq_true (HV.out.2 (.inl he))
      clear he
      refine wp_region_G 22 Gr (by kernel_rfl) ?_
      -- 0: slot 28
      refine wpG_take preGr (i := 0) (v := ?_) (by kernel_rfl) (some 28) (by kernel_rfl) rfl (by kernel_rfl) (by kernel_rfl) (by kernel_rfl) (fun _ _ _ h => h) (by rfl) (fun w' hw' => ?_) rfl ?_
      rotate_left
      · go_simp
        with_reducible rfl
      simp only [Act.put, List.setIfInBounds_toArray, List.set_cons_zero, List.set_cons_succ]
      -- 1: slot 29
      refine wpG_take preGr (i := 1) (v := ?_) (by kernel_rfl) (some 29) (by kernel_rfl) rfl (by kernel_rfl) (by kernel_rfl) (by kernel_rfl) (fun _ _ _ h => h) (by rfl) (fun w' hw' => ?_) rfl ?_
      rotate_left
      · go_simp
        with_reducible rfl
      simp only [Act.put, List.setIfInBounds_toArray, List.set_cons_zero, List.set_cons_succ]
      -- 2: slot 30
      refine wpG_take preGr (i := 2) (v := ?_) (by kernel_rfl) (some 30) (by kernel_rfl) rfl (by kernel_rfl) (by kernel_rfl) (by kernel_rfl) (fun _ _ _ h => h) (by rfl) (fun w' hw' => ?_) rfl ?_
      rotate_left
      · go_simp
        with_reducible rfl
      simp only [Act.put, List.setIfInBounds_toArray, List.set_cons_zero, List.set_cons_succ]
      -- 3: slot 31
      refine wpG_take preGr (i := 3) (v := ?_) (by kernel_rfl) (some 31) (by kernel_rfl) rfl (by kernel_rfl) (by kernel_rfl) (by kernel_rfl) (fun _ _ _ h => h) (by rfl) (fun w' hw' => ?_) rfl ?_
      rotate_left
      · go_simp
        with_reducible rfl
      simp only [Act.put, List.setIfInBounds_toArray, List.set_cons_zero, List.set_cons_succ]
      -- 4: slot 32
      refine wpG_take preGr (i := 4) (v := ?_) (by kernel_rfl) (some 32) (by kernel_rfl) rfl (by kernel_rfl) (by kernel_rfl) (by kernel_rfl) (fun _ _ _ h => h) (by rfl) (fun w' hw' => ?_) rfl ?_
      rotate_left
      · go_simp
        with_reducible rfl
      simp only [Act.put, List.setIfInBounds_toArray, List.set_cons_zero, List.set_cons_succ]
      -- 5: slot 33
      refine wpG_take preGr (i := 5) (v := ?_) (by kernel_rfl) (some 33) (by kernel_rfl) rfl (by kernel_rfl) (by kernel_rfl) (by kernel_rfl) (fun _ _ _ h => h) (by rfl) (fun w' hw' => ?_) rfl ?_
      rotate_left
      · go_simp
        with_reducible rfl
      simp only [Act.put, List.setIfInBounds_toArray, List.set_cons_zero, List.set_cons_succ]
      refine wpG_pass preGr (i := 6) (by kernel_rfl) (some 34) (by kernel_rfl) rfl (by kernel_rfl) (by kernel_rfl) (by kernel_rfl) (fun _ _ _ h => h) (by rfl) rfl ?_
      simp only [Act.put, List.setIfInBounds_toArray, List.set_cons_zero, List.set_cons_succ]
      refine wpG_pass preGr (i := 7) (by kernel_rfl) (some 35) (by kernel_rfl) rfl (by kernel_rfl) (by kernel_rfl) (by kernel_rfl) (fun _ _ _ h => h) (by rfl) rfl ?_
      simp only [Act.put, List.setIfInBounds_toArray, List.set_cons_zero, List.set_cons_succ]
      refine wpG_pass preGr (i := 8) (by kernel_rfl) (some 36) (by kernel_rfl) rfl (by kernel_rfl) (by kernel_rfl) (by kernel_rfl) (fun _ _ _ h => h) (by rfl) rfl ?_
      simp only [Act.put, List.setIfInBounds_toArray, List.set_cons_zero, List.set_cons_succ]
      refine wpG_pass preGr (i := 9) (by kernel_rfl) (some 37) (by kernel_rfl) rfl (by kernel_rfl) (by kernel_rfl) (by kernel_rfl) (fun _ _ _ h => h) (by rfl) rfl ?_
      simp only [Act.put, List.setIfInBounds_toArray, List.set_cons_zero, List.set_cons_succ]
      refine wpG_pass preGr (i := 10) (by kernel_rfl) (some 38) (by kernel_rfl) rfl (by kernel_rfl) (by kernel_rfl) (by kernel_rfl) (fun _ _ _ h => h) (by rfl) rfl ?_
      simp only [Act.put, List.setIfInBounds_toArray, List.set_cons_zero, List.set_cons_succ]
      refine wpG_pass preGr (i := 11) (by kernel_rfl) (some 39) (by kernel_rfl) rfl (by kernel_rfl) (by kernel_rfl) (by kernel_rfl) (fun _ _ _ h => h) (by rfl) rfl ?_
      simp only [Act.put, List.setIfInBounds_toArray, List.set_cons_zero, List.set_cons_succ]
      refine wpG_pass preGr (i := 12) (by kernel_rfl) (some 40) (by kernel_rfl) rfl (by kernel_rfl) (by kernel_rfl) (by kernel_rfl) (fun _ _ _ h => h) (by rfl) rfl ?_
      simp only [Act.put, List.setIfInBounds_toArray, List.set_cons_zero, List.set_cons_succ]
      refine wpG_pass preGr (i := 13) (by kernel_rfl) (some 41) (by kernel_rfl) rfl (by kernel_rfl) (by kernel_rfl) (by kernel_rfl) (fun _ _ _ h => h) (by rfl) rfl ?_
      simp only [Act.put, List.setIfInBounds_toArray, List.set_cons_zero, List.set_cons_succ]
      refine wpG_pass preGr (i := 14) (by kernel_rfl) (some 42) (by kernel_rfl) rfl (by kernel_rfl) (by kernel_rfl) (by kernel_rfl) (fun _ _ _ h => h) (by rfl) rfl ?_
      simp only [Act.put, List.setIfInBounds_toArray, List.set_cons_zero, List.set_cons_succ]
      refine wpG_pass preGr (i := 15) (by kernel_rfl) (some 43) (by kernel_rfl) rfl (by kernel_rfl) (by kernel_rfl) (by kernel_rfl) (fun _ _ _ h => h) (by rfl) rfl ?_
      simp only [Act.put, List.setIfInBounds_toArray, List.set_cons_zero, List.set_cons_succ]
      refine wpG_pass preGr (i := 16) (by kernel_rfl) (some 44) (by kernel_rfl) rfl (by kernel_rfl) (by kernel_rfl) (by kernel_rfl) (fun _ _ _ h => h) (by rfl) rfl ?_
      simp only [Act.put, List.setIfInBounds_toArray, List.set_cons_zero, List.set_cons_succ]
      refine wpG_pass preGr (i := 17) (by kernel_rfl) (some 45) (by kernel_rfl) rfl (by kernel_rfl) (by kernel_rfl) (by kernel_rfl) (fun _ _ _ h => h) (by rfl) rfl ?_
      simp only [Act.put, List.setIfInBounds_toArray, List.set_cons_zero, List.set_cons_succ]
      refine wpG_pass preGr (i := 18) (by kernel_rfl) (some 46) (by kernel_rfl) rfl (by kernel_rfl) (by kernel_rfl) (by kernel_rfl) (fun _ _ _ h => h) (by rfl) rfl ?_
      simp only [Act.put, List.setIfInBounds_toArray, List.set_cons_zero, List.set_cons_succ]
      refine wpG_pass preGr (i := 19) (by kernel_rfl) (some 47) (by kernel_rfl) rfl (by kernel_rfl) (by kernel_rfl) (by kernel_rfl) (fun _ _ _ h => h) (by rfl) rfl ?_
      simp only [Act.put, List.setIfInBounds_toArray, List.set_cons_zero, List.set_cons_succ]
      -- 20: slot 48
      refine wpG_take preGr (i := 20) (v := ?_) (by kernel_rfl) (some 48) (by kernel_rfl) rfl (by kernel_rfl) (by kernel_rfl) (by kernel_rfl) (fun _ _ _ h => h) (by rfl) (fun w' hw' => ?_) rfl ?_
      rotate_left
      · go_simp
        with_reducible rfl
      simp only [Act.put, List.setIfInBounds_toArray, List.set_cons_zero, List.set_cons_succ]
      -- 21: slot 10
      refine wpG_take preGr (i := 21) (v := ?_) (by kernel_rfl) (some 10) (by kernel_rfl) rfl (by kernel_rfl) (by kernel_rfl) (by kernel_rfl) (fun _ _ _ h => h) (by rfl) (fun w' hw' => ?_) rfl ?_
      rotate_left
      · go_simp
        with_reducible rfl
      simp only [Act.put, List.setIfInBounds_toArray, List.set_cons_zero, List.set_cons_succ]
      refine wpG_done (by kernel_rfl) ?_ _
      go_wp2
      go_ret
      exact ⟨rfl, HB2.out.drew⟩
    · have hE : (c == y) = false := by simp [he]
      by_cases hp : 0 < n
      · have hpd : decide (0 < n) = true := decide_eq_true hp
        have hp1 : 0 ≤ n - 1 := by omega
        have hp2 : n - 1 ≤ 1099511627776 := by omega
        have hw1 : wrap64 (n - 1) = n - 1 := by unfold wrap64; omega
        have hw2 : IntKind.i64.wrap (n - 1) = n - 1 := IntWalk.i64_in _ (by omega)
        obtain ⟨z, hz⟩ : ∃ z, z = cookL sec mac uniq (n - 1) := ⟨_, rfl⟩
        have HOZ := Lib.hid (fun (w' : World) (hb : Below w.heap.size w w') => HOF.out w' hb (n - 1) hp1 hp2)
        rw [← hz] at HOZ HV
        have hRz : (c == z) = R := by
          rw [HRR.out]
          refine dec_eq _ _ ?_
          rw [HV.out]
          simp [he, hp]
        clear he hp hp1 hp2 hz
        refine wp_region_G 22 Gr (by kernel_rfl) ?_
        -- 0: slot 28
        refine wpG_take preGr (i := 0) (v := ?_) (by kernel_rfl) (some 28) (by kernel_rfl) rfl (by kernel_rfl) (by kernel_rfl) (by kernel_rfl) (fun _ _ _ h => h) (by rfl) (fun w' hw' => ?_) rfl ?_
        rotate_left
        · try have k0 := (cells2 (heap_below HG02.out ((Gr.drew w2).trans hw'))).1
          try have k1 := (cells2 (heap_below HG02.out ((Gr.drew w2).trans hw'))).2
          try have m0 := (cells6 (heap_below HG12.out ((Gr.drew w2).trans hw'))).1
          try have m1 := (cells6 (heap_below HG12.out ((Gr.drew w2).trans hw'))).2.1
          try have m2 := (cells6 (heap_below HG12.out ((Gr.drew w2).trans hw'))).2.2.1
          try have m3 := (cells6 (heap_below HG12.out ((Gr.drew w2).trans hw'))).2.2.2.1
          try have m4 := (cells6 (heap_below HG12.out ((Gr.drew w2).trans hw'))).2.2.2.2.1
          try have m5 := (cells6 (heap_below HG12.out ((Gr.drew w2).trans hw'))).2.2.2.2.2
          go_simp
          with_reducible rfl
        simp only [Act.put, List.setIfInBounds_toArray, List.set_cons_zero, List.set_cons_succ]
        -- 1: slot 29
        refine wpG_take preGr (i := 1) (v := ?_) (by kernel_rfl) (some 29) (by kernel_rfl) rfl (by kernel_rfl) (by kernel_rfl) (by kernel_rfl) (fun _ _ _ h => h) (by rfl) (fun w' hw' => ?_) rfl ?_
        rotate_left
        · try have k0 := (cells2 (heap_below HG02.out ((Gr.drew w2).trans hw'))).1
          try have k1 := (cells2 (heap_below HG02.out ((Gr.drew w2).trans hw'))).2
          try have m0 := (cells6 (heap_below HG12.out ((Gr.drew w2).trans hw'))).1
          try have m1 := (cells6 (heap_below HG12.out ((Gr.drew w2).trans hw'))).2.1
          try have m2 := (cells6 (heap_below HG12.out ((Gr.drew w2).trans hw'))).2.2.1
          try have m3 := (cells6 (heap_below HG12.out ((Gr.drew w2).trans hw'))).2.2.2.1
          try have m4 := (cells6 (heap_below HG12.out ((Gr.drew w2).trans hw'))).2.2.2.2.1
          try have m5 := (cells6 (heap_below HG12.out ((Gr.drew w2).trans hw'))).2.2.2.2.2
          go_simp
          with_reducible rfl
        simp only [Act.put, List.setIfInBounds_toArray, List.set_cons_zero, List.set_cons_succ]
        -- 2: slot 30
        refine wpG_take preGr (i := 2) (v := ?_) (by kernel_rfl) (some 30) (by kernel_rfl) rfl (by kernel_rfl) (by kernel_rfl) (by kernel_rfl) (fun _ _ _ h => h) (by rfl) (fun w' hw' => ?_) rfl ?_
        rotate_left
        · try have k0 := (cells2 (heap_below HG02.out ((Gr.drew w2).trans hw'))).1
          try have k1 := (cells2 (heap_below HG02.out ((Gr.drew w2).trans hw'))).2
          try have m0 := (cells6 (heap_below HG12.out ((Gr.drew w2).trans hw'))).1
          try have m1 := (cells6 (heap_below HG12.out ((Gr.drew w2).trans hw'))).2.1
          try have m2 := (cells6 (heap_below HG12.out ((Gr.drew w2).trans hw'))).2.2.1
          try have m3 := (cells6 (heap_below HG12.out ((Gr.drew w2).trans hw'))).2.2.2.1
          try have m4 := (cells6 (heap_below HG12.out ((Gr.drew w2).trans hw'))).2.2.2.2.1
          try have m5 := (cells6 (heap_below HG12.out ((Gr.drew w2).trans hw'))).2.2.2.2.2
          go_simp
          with_reducible rfl
        simp only [Act.put, List.setIfInBounds_toArray, List.set_cons_zero, List.set_cons_succ]
        -- 3: slot 31
        refine wpG_take preGr (i := 3) (v := ?_) (by kernel_rfl) (some 31) (by kernel_rfl) rfl (by kernel_rfl) (by kernel_rfl) (by kernel_rfl) (fun _ _ _ h => h) (by rfl) (fun w' hw' => ?_) rfl ?_
        rotate_left
        · try have k0 := (cells2 (heap_below HG02.out ((Gr.drew w2).trans hw'))).1
          try have k1 := (cells2 (heap_below HG02.out ((Gr.drew w2).trans hw'))).2
          try have m0 := (cells6 (heap_below HG12.out ((Gr.drew w2).trans hw'))).1
          try have m1 := (cells6 (heap_below HG12.out ((Gr.drew w2).trans hw'))).2.1
          try have m2 := (cells6 (heap_below HG12.out ((Gr.drew w2).trans hw'))).2.2.1
          try have m3 := (cells6 (heap_below HG12.out ((Gr.drew w2).trans hw'))).2.2.2.1
          try have m4 := (cells6 (heap_below HG12.out ((Gr.drew w2).trans hw'))).2.2.2.2.1
          try have m5 := (cells6 (heap_below HG12.out ((Gr.drew w2).trans hw'))).2.2.2.2.2
          go_simp
          with_reducible rfl
        simp only [Act.put, List.setIfInBounds_toArray, List.set_cons_zero, List.set_cons_succ]
        -- 4: slot 32
        refine wpG_take preGr (i := 4) (v := ?_) (by kernel_rfl) (some 32) (by kernel_rfl) rfl (by kernel_rfl) (by kernel_rfl) (by kernel_rfl) (fun _ _ _ h => h) (by rfl) (fun w' hw' => ?_) rfl ?_
        rotate_left
        · try have k0 := (cells2 (heap_below HG02.out ((Gr.drew w2).trans hw'))).1
          try have k1 := (cells2 (heap_below HG02.out ((Gr.drew w2).trans hw'))).2
          try have m0 := (cells6 (heap_below HG12.out ((Gr.drew w2).trans hw'))).1
          try have m1 := (cells6 (heap_below HG12.out ((Gr.drew w2).trans hw'))).2.1
          try have m2 := (cells6 (heap_below HG12.out ((Gr.drew w2).trans hw'))).2.2.1
          try have m3 := (cells6 (heap_below HG12.out ((Gr.drew w2).trans hw'))).2.2.2.1
          try have m4 := (cells6 (heap_below HG12.out ((Gr.drew w2).trans hw'))).2.2.2.2.1
          try have m5 := (cells6 (heap_below HG12.out ((Gr.drew w2).trans hw'))).2.2.2.2.2
          go_simp
          with_reducible rfl
        simp only [Act.put, List.setIfInBounds_toArray, List.set_cons_zero, List.set_cons_succ]
        -- 5: slot 33
        refine wpG_take preGr (i := 5) (v := ?_) (by kernel_rfl) (some 33) (by kernel_rfl) rfl (by kernel_rfl) (by kernel_rfl) (by kernel_rfl) (fun _ _ _ h => h) (by rfl) (fun w' hw' => ?_) rfl ?_
        rotate_left
        · try have k0 := (cells2 (heap_below HG02.out ((Gr.drew w2).trans hw'))).1
          try have k1 := (cells2 (heap_below HG02.out ((Gr.drew w2).trans hw'))).2
          try have m0 := (cells6 (heap_below HG12.out ((Gr.drew w2).trans hw'))).1
          try have m1 := (cells6 (heap_below HG12.out ((Gr.drew w2).trans hw'))).2.1
          try have m2 := (cells6 (heap_below HG12.out ((Gr.drew w2).trans hw'))).2.2.1
          try have m3 := (cells6 (heap_below HG12.out ((Gr.drew w2).trans hw'))).2.2.2.1
          try have m4 := (cells6 (heap_below HG12.out ((Gr.drew w2).trans hw'))).2.2.2.2.1
          try have m5 := (cells6 (heap_below HG12.out ((Gr.drew w2).trans hw'))).2.2.2.2.2
          go_simp
          with_reducible rfl
        simp only [Act.put, List.setIfInBounds_toArray, List.set_cons_zero, List.set_cons_succ]
        -- 6: slot 34
        refine wpG_take preGr (i := 6) (v := ?_) (by kernel_rfl) (some 34) (by kernel_rfl) rfl (by kernel_rfl) (by kernel_rfl) (by kernel_rfl) (fun _ _ _ h => h) (by rfl) (fun w' hw' => ?_) rfl ?_
        rotate_left
        · try have k0 := (cells2 (heap_below HG02.out ((Gr.drew w2).trans hw'))).1
          try have k1 := (cells2 (heap_below HG02.out ((Gr.drew w2).trans hw'))).2
          try have m0 := (cells6 (heap_below HG12.out ((Gr.drew w2).trans hw'))).1
          try have m1 := (cells6 (heap_below HG12.out ((Gr.drew w2).trans hw'))).2.1
          try have m2 := (cells6 (heap_below HG12.out ((Gr.drew w2).trans hw'))).2.2.1
          try have m3 := (cells6 (heap_below HG12.out ((Gr.drew w2).trans hw'))).2.2.2.1
          try have m4 := (cells6 (heap_below HG12.out ((Gr.drew w2).trans hw'))).2.2.2.2.1
          try have m5 := (cells6 (heap_below HG12.out ((Gr.drew w2).trans hw'))).2.2.2.2.2
          go_simp
          with_reducible rfl
        simp only [Act.put, List.setIfInBounds_toArray, List.set_cons_zero, List.set_cons_succ]
        -- 7: slot 35
        refine wpG_take preGr (i := 7) (v := ?_) (by kernel_rfl) (some 35) (by kernel_rfl) rfl (by kernel_rfl) (by kernel_rfl) (by kernel_rfl) (fun _ _ _ h => h) (by rfl) (fun w' hw' => ?_) rfl ?_
        rotate_left
        · try have k0 := (cells2 (heap_below HG02.out ((Gr.drew w2).trans hw'))).1
          try have k1 := (cells2 (heap_below HG02.out ((Gr.drew w2).trans hw'))).2
          try have m0 := (cells6 (heap_below HG12.out ((Gr.drew w2).trans hw'))).1
          try have m1 := (cells6 (heap_below HG12.out ((Gr.drew w2).trans hw'))).2.1
          try have m2 := (cells6 (heap_below HG12.out ((Gr.drew w2).trans hw'))).2.2.1
          try have m3 := (cells6 (heap_below HG12.out ((Gr.drew w2).trans hw'))).2.2.2.1
          try have m4 := (cells6 (heap_below HG12.out ((Gr.drew w2).trans hw'))).2.2.2.2.1
          try have m5 := (cells6 (heap_below HG12.out ((Gr.drew w2).trans hw'))).2.2.2.2.2
          go_simp
          with_reducible rfl
        simp only [Act.put, List.setIfInBounds_toArray, List.set_cons_zero, List.set_cons_succ]
        -- 8: slot 36
        refine wpG_take preGr (i := 8) (v := ?_) (by kernel_rfl) (some 36) (by kernel_rfl) rfl (by kernel_rfl) (by kernel_rfl) (by kernel_rfl) (fun _ _ _ h => h) (by rfl) (fun w' hw' => ?_) rfl ?_
        rotate_left
        · try have k0 := (cells2 (heap_below HG02.out ((Gr.drew w2).trans hw'))).1
          try have k1 := (cells2 (heap_below HG02.out ((Gr.drew w2).trans hw'))).2
          try have m0 := (cells6 (heap_below HG12.out ((Gr.drew w2).trans hw'))).1
          try have m1 := (cells6 (heap_below HG12.out ((Gr.drew w2).trans hw'))).2.1
          try have m2 := (cells6 (heap_below HG12.out ((Gr.drew w2).trans hw'))).2.2.1
          try have m3 := (cells6 (heap_below HG12.out ((Gr.drew w2).trans hw'))).2.2.2.1
          try have m4 := (cells6 (heap_below HG12.out ((Gr.drew w2).trans hw'))).2.2.2.2.1
          try have m5 := (cells6 (heap_below HG12.out ((Gr.drew w2).trans hw'))).2.2.2.2.2
          go_simp
          with_reducible rfl
        simp only [Act.put, List.setIfInBounds_toArray, List.set_cons_zero, List.set_cons_succ]
        -- 9: slot 37
        refine wpG_take preGr (i := 9) (v := ?_) (by kernel_rfl) (some 37) (by kernel_rfl) rfl (by kernel_rfl) (by kernel_rfl) (by kernel_rfl) (fun _ _ _ h => h) (by rfl) (fun w' hw' => ?_) rfl ?_
        rotate_left
        · try have k0 := (cells2 (heap_below HG02.out ((Gr.drew w2).trans hw'))).1
          try have k1 := (cells2 (heap_below HG02.out ((Gr.drew w2).trans hw'))).2
          try have m0 := (cells6 (heap_below HG12.out ((Gr.drew w2).trans hw'))).1
          try have m1 := (cells6 (heap_below HG12.out ((Gr.drew w2).trans hw'))).2.1
          try have m2 := (cells6 (heap_below HG12.out ((Gr.drew w2).trans hw'))).2.2.1
          try have m3 := (cells6 (heap_below HG12.out ((Gr.drew w2).trans hw'))).2.2.2.1
          try have m4 := (cells6 (heap_below HG12.out ((Gr.drew w2).trans hw'))).2.2.2.2.1
          try have m5 := (cells6 (heap_below HG12.out ((Gr.drew w2).trans hw'))).2.2.2.2.2
          go_simp
          with_reducible rfl
        simp only [Act.put, List.setIfInBounds_toArray, List.set_cons_zero, List.set_cons_succ]
        -- 10: slot 38
        refine wpG_take preGr (i := 10) (v := ?_) (by kernel_rfl) (some 38) (by kernel_rfl) rfl (by kernel_rfl) (by kernel_rfl) (by kernel_rfl) (fun _ _ _ h => h) (by rfl) (fun w' hw' => ?_) rfl ?_
        rotate_left
        · try have k0 := (cells2 (heap_below HG02.out ((Gr.drew w2).trans hw'))).1
          try have k1 := (cells2 (heap_below HG02.out ((Gr.drew w2).trans hw'))).2
          try have m0 := (cells6 (heap_below HG12.out ((Gr.drew w2).trans hw'))).1
          try have m1 := (cells6 (heap_below HG12.out ((Gr.drew w2).trans hw'))).2.1
          try have m2 := (cells6 (heap_below HG12.out ((Gr.drew w2).trans hw'))).2.2.1
          try have m3 := (cells6 (heap_below HG12.out ((Gr.drew w2).trans hw'))).2.2.2.1
          try have m4 := (cells6 (heap_below HG12.out ((Gr.drew w2).trans hw'))).2.2.2.2.1
          try have m5 := (cells6 (heap_below HG12.out ((Gr.drew w2).trans hw'))).2.2.2.2.2
          go_simp
          with_reducible rfl
        simp only [Act.put, List.setIfInBounds_toArray, List.set_cons_zero, List.set_cons_succ]
        -- 11: slot 39
        refine wpG_take preGr (i := 11) (v := ?_) (by kernel_rfl) (some 39) (by kernel_rfl) rfl (by kernel_rfl) (by kernel_rfl) (by kernel_rfl) (fun _ _ _ h => h) (by rfl) (fun w' hw' => ?_) rfl ?_
        rotate_left
        · try have k0 := (cells2 (heap_below HG02.out ((Gr.drew w2).trans hw'))).1
          try have k1 := (cells2 (heap_below HG02.out ((Gr.drew w2).trans hw'))).2
          try have m0 := (cells6 (heap_below HG12.out ((Gr.drew w2).trans hw'))).1
          try have m1 := (cells6 (heap_below HG12.out ((Gr.drew w2).trans hw'))).2.1
          try have m2 := (cells6 (heap_below HG12.out ((Gr.drew w2).trans hw'))).2.2.1
          try have m3 := (cells6 (heap_below HG12.out ((Gr.drew w2).trans hw'))).2.2.2.1
          try have m4 := (cells6 (heap_below HG12.out ((Gr.drew w2).trans hw'))).2.2.2.2.1
          try have m5 := (cells6 (heap_below HG12.out ((Gr.drew w2).trans hw'))).2.2.2.2.2
          go_simp
          with_reducible rfl
        simp only [Act.put, List.setIfInBounds_toArray, List.set_cons_zero, List.set_cons_succ]
        -- 12: slot 40
        refine wpG_take preGr (i := 12) (v := ?_) (by kernel_rfl) (some 40) (by kernel_rfl) rfl (by kernel_rfl) (by kernel_rfl) (by kernel_rfl) (fun _ _ _ h => h) (by rfl) (fun w' hw' => ?_) rfl ?_
        rotate_left
        · try have k0 := (cells2 (heap_below HG02.out ((Gr.drew w2).trans hw'))).1
          try have k1 := (cells2 (heap_below HG02.out ((Gr.drew w2).trans hw'))).2
          try have m0 := (cells6 (heap_below HG12.out ((Gr.drew w2).trans hw'))).1
          try have m1 := (cells6 (heap_below HG12.out ((Gr.drew w2).trans hw'))).2.1
          try have m2 := (cells6 (heap_below HG12.out ((Gr.drew w2).trans hw'))).2.2.1
          try have m3 := (cells6 (heap_below HG12.out ((Gr.drew w2).trans hw'))).2.2.2.1
          try have m4 := (cells6 (heap_below HG12.out ((Gr.drew w2).trans hw'))).2.2.2.2.1
          try have m5 := (cells6 (heap_below HG12.out ((Gr.drew w2).trans hw'))).2.2.2.2.2
          go_simp
          with_reducible rfl
        simp only [Act.put, List.setIfInBounds_toArray, List.set_cons_zero, List.set_cons_succ]
        -- 13: slot 41
        refine wpG_take preGr (i := 13) (v := ?_) (by kernel_rfl) (some 41) (by kernel_rfl) rfl (by kernel_rfl) (by kernel_rfl) (by kernel_rfl) (fun _ _ _ h => h) (by rfl) (fun w' hw' => ?_) rfl ?_
        rotate_left
        · try have k0 := (cells2 (heap_below HG02.out ((Gr.drew w2).trans hw'))).1
          try have k1 := (cells2 (heap_below HG02.out ((Gr.drew w2).trans hw'))).2
          try have m0 := (cells6 (heap_below HG12.out ((Gr.drew w2).trans hw'))).1
          try have m1 := (cells6 (heap_below HG12.out ((Gr.drew w2).trans hw'))).2.1
          try have m2 := (cells6 (heap_below HG12.out ((Gr.drew w2).trans hw'))).2.2.1
          try have m3 := (cells6 (heap_below HG12.out ((Gr.drew w2).trans hw'))).2.2.2.1
          try have m4 := (cells6 (heap_below HG12.out ((Gr.drew w2).trans hw'))).2.2.2.2.1
          try have m5 := (cells6 (heap_below HG12.out ((Gr.drew w2).trans hw'))).2.2.2.2.2
          go_simp
          with_reducible rfl
        simp only [Act.put, List.setIfInBounds_toArray, List.set_cons_zero, List.set_cons_succ]
        -- 14: slot 42
        refine wpG_take preGr (i := 14) (v := ?_) (by kernel_rfl) (some 42) (by kernel_rfl) rfl (by kernel_rfl) (by kernel_rfl) (by kernel_rfl) (fun _ _ _ h => h) (by rfl) (fun w' hw' => ?_) rfl ?_
        rotate_left
        · try have k0 := (cells2 (heap_below HG02.out ((Gr.drew w2).trans hw'))).1
          try have k1 := (cells2 (heap_below HG02.out ((Gr.drew w2).trans hw'))).2
          try have m0 := (cells6 (heap_below HG12.out ((Gr.drew w2).trans hw'))).1
          try have m1 := (cells6 (heap_below HG12.out ((Gr.drew w2).trans hw'))).2.1
          try have m2 := (cells6 (heap_below HG12.out ((Gr.drew w2).trans hw'))).2.2.1
          try have m3 := (cells6 (heap_below HG12.out ((Gr.drew w2).trans hw'))).2.2.2.1
          try have m4 := (cells6 (heap_below HG12.out ((Gr.drew w2).trans hw'))).2.2.2.2.1
          try have m5 := (cells6 (heap_below HG12.out ((Gr.drew w2).trans hw'))).2.2.2.2.2
          go_simp
          with_reducible rfl
        simp only [Act.put, List.setIfInBounds_toArray, List.set_cons_zero, List.set_cons_succ]
        -- 15: slot 43
        refine wpG_take preGr (i := 15) (v := ?_) (by kernel_rfl) (some 43) (by kernel_rfl) rfl (by kernel_rfl) (by kernel_rfl) (by kernel_rfl) (fun _ _ _ h => h) (by rfl) (fun w' hw' => ?_) rfl ?_
        rotate_left
        · try have k0 := (cells2 (heap_below HG02.out ((Gr.drew w2).trans hw'))).1
          try have k1 := (cells2 (heap_below HG02.out ((Gr.drew w2).trans hw'))).2
          try have m0 := (cells6 (heap_below HG12.out ((Gr.drew w2).trans hw'))).1
          try have m1 := (cells6 (heap_below HG12.out ((Gr.drew w2).trans hw'))).2.1
          try have m2 := (cells6 (heap_below HG12.out ((Gr.drew w2).trans hw'))).2.2.1
          try have m3 := (cells6 (heap_below HG12.out ((Gr.drew w2).trans hw'))).2.2.2.1
          try have m4 := (cells6 (heap_below HG12.out ((Gr.drew w2).trans hw'))).2.2.2.2.1
          try have m5 := (cells6 (heap_below HG12.out ((Gr.drew w2).trans hw'))).2.2.2.2.2
          go_simp
          with_reducible rfl
        simp only [Act.put, List.setIfInBounds_toArray, List.set_cons_zero, List.set_cons_succ]
        refine wpG_one (i := 16) rfl (by kernel_rfl) (by rfl) ?_
        go_simp
        refine (HOZ.out _ (HB2.out.drew)).mono ?_
        rintro e w3 ⟨a3, c3, rfl, hv3, hb3⟩
        refine ⟨hb3, ?_⟩
        have HB3 := Lib.hid (HB2.out.drew.trans (hb3.mono HB2.out.drew.size))
        have tD := hv3.txt
        unfold Txt at tD
        clear hv3 hb3
        try simp only [Act.put, List.setIfInBounds_toArray, List.set_cons_zero, List.set_cons_succ]
        -- 17: slot 45
        refine wpG_take preGr (i := 17) (v := ?_) (by kernel_rfl) (some 45) (by kernel_rfl) rfl (by kernel_rfl) (by kernel_rfl) (by kernel_rfl) (fun _ _ _ h => h) (by rfl) (fun w' hw' => ?_) rfl ?_
        rotate_left
        · try have k0 := (cells2 (heap_below HG02.out ((Gr.drew w2).trans hw'))).1
          try have k1 := (cells2 (heap_below HG02.out ((Gr.drew w2).trans hw'))).2
          try have m0 := (cells6 (heap_below HG12.out ((Gr.drew w2).trans hw'))).1
          try have m1 := (cells6 (heap_below HG12.out ((Gr.drew w2).trans hw'))).2.1
          try have m2 := (cells6 (heap_below HG12.out ((Gr.drew w2).trans hw'))).2.2.1
          try have m3 := (cells6 (heap_below HG12.out ((Gr.drew w2).trans hw'))).2.2.2.1
          try have m4 := (cells6 (heap_below HG12.out ((Gr.drew w2).trans hw'))).2.2.2.2.1
          try have m5 := (cells6 (heap_below HG12.out ((Gr.drew w2).trans hw'))).2.2.2.2.2
          go_simp
          with_reducible rfl
        simp only [Act.put, List.setIfInBounds_toArray, List.set_cons_zero, List.set_cons_succ]
        -- 18: slot 46
        refine wpG_take preGr (i := 18) (v := ?_) (by kernel_rfl) (some 46) (by kernel_rfl) rfl (by kernel_rfl) (by kernel_rfl) (by kernel_rfl) (fun _ _ _ h => h) (by rfl) (fun w' hw' => ?_) rfl ?_
        rotate_left
        · try have k0 := (cells2 (heap_below HG02.out ((Gr.drew w2).trans hw'))).1
          try have k1 := (cells2 (heap_below HG02.out ((Gr.drew w2).trans hw'))).2
          try have m0 := (cells6 (heap_below HG12.out ((Gr.drew w2).trans hw'))).1
          try have m1 := (cells6 (heap_below HG12.out ((Gr.drew w2).trans hw'))).2.1
          try have m2 := (cells6 (heap_below HG12.out ((Gr.drew w2).trans hw'))).2.2.1
          try have m3 := (cells6 (heap_below HG12.out ((Gr.drew w2).trans hw'))).2.2.2.1
          try have m4 := (cells6 (heap_below HG12.out ((Gr.drew w2).trans hw'))).2.2.2.2.1
          try have m5 := (cells6 (heap_below HG12.out ((Gr.drew w2).trans hw'))).2.2.2.2.2
          go_simp
          with_reducible rfl
        simp only [Act.put, List.setIfInBounds_toArray, List.set_cons_zero, List.set_cons_succ]
        -- 19: slot 47
        refine wpG_take preGr (i := 19) (v := ?_) (by kernel_rfl) (some 47) (by kernel_rfl) rfl (by kernel_rfl) (by kernel_rfl) (by kernel_rfl) (fun _ _ _ h => h) (by rfl) (fun w' hw' => ?_) rfl ?_
        rotate_left
        · try have k0 := (cells2 (heap_below HG02.out ((Gr.drew w2).trans hw'))).1
          try have k1 := (cells2 (heap_below HG02.out ((Gr.drew w2).trans hw'))).2
          try have m0 := (cells6 (heap_below HG12.out ((Gr.drew w2).trans hw'))).1
          try have m1 := (cells6 (heap_below HG12.out ((Gr.drew w2).trans hw'))).2.1
          try have m2 := (cells6 (heap_below HG12.out ((Gr.drew w2).trans hw'))).2.2.1
          try have m3 := (cells6 (heap_below HG12.out ((Gr.drew w2).trans hw'))).2.2.2.1
          try have m4 := (cells6 (heap_below HG12.out ((Gr.drew w2).trans hw'))).2.2.2.2.1
          try have m5 := (cells6 (heap_below HG12.out ((Gr.drew w2).trans hw'))).2.2.2.2.2
          go_simp
          with_reducible rfl
        simp only [Act.put, List.setIfInBounds_toArray, List.set_cons_zero, List.set_cons_succ]
        -- 20: slot 48
        refine wpG_take preGr (i := 20) (v := ?_) (by kernel_rfl) (some 48) (by kernel_rfl) rfl (by kernel_rfl) (by kernel_rfl) (by kernel_rfl) (fun _ _ _ h => h) (by rfl) (fun w' hw' => ?_) rfl ?_
        rotate_left
        · try have k0 := (cells2 (heap_below HG02.out ((Gr.drew w2).trans hw'))).1
          try have k1 := (cells2 (heap_below HG02.out ((Gr.drew w2).trans hw'))).2
          try have m0 := (cells6 (heap_below HG12.out ((Gr.drew w2).trans hw'))).1
          try have m1 := (cells6 (heap_below HG12.out ((Gr.drew w2).trans hw'))).2.1
          try have m2 := (cells6 (heap_below HG12.out ((Gr.drew w2).trans hw'))).2.2.1
          try have m3 := (cells6 (heap_below HG12.out ((Gr.drew w2).trans hw'))).2.2.2.1
          try have m4 := (cells6 (heap_below HG12.out ((Gr.drew w2).trans hw'))).2.2.2.2.1
          try have m5 := (cells6 (heap_below HG12.out ((Gr.drew w2).trans hw'))).2.2.2.2.2
          go_simp
          with_reducible rfl
        simp only [Act.put, List.setIfInBounds_toArray, List.set_cons_zero, List.set_cons_succ]
        -- 21: slot 10
        refine wpG_take preGr (i := 21) (v := ?_) (by kernel_rfl) (some 10) (by kernel_rfl) rfl (by kernel_rfl) (by kernel_rfl) (by kernel_rfl) (fun _ _ _ h => h) (by rfl) (fun w' hw' => ?_) rfl ?_
        rotate_left
        · try have k0 := (cells2 (heap_below HG02.out ((Gr.drew w2).trans hw'))).1
          try have k1 := (cells2 (heap_below HG02.out ((Gr.drew w2).trans hw'))).2
          try have m0 := (cells6 (heap_below HG12.out ((Gr.drew w2).trans hw'))).1
          try have m1 := (cells6 (heap_below HG12.out ((Gr.drew w2).trans hw'))).2.1
          try have m2 := (cells6 (heap_below HG12.out ((Gr.drew w2).trans hw'))).2.2.1
          try have m3 := (cells6 (heap_below HG12.out ((Gr.drew w2).trans hw'))).2.2.2.1
          try have m4 := (cells6 (heap_below HG12.out ((Gr.drew w2).trans hw'))).2.2.2.2.1
          try have m5 := (cells6 (heap_below HG12.out ((Gr.drew w2).trans hw'))).2.2.2.2.2
          go_simp
          with_reducible rfl
        simp only [Act.put, List.setIfInBounds_toArray, List.set_cons_zero, List.set_cons_succ]
        refine wpG_done (by kernel_rfl) ?_ _
        go_wp2
        go_ret
        exact ⟨rfl, HB3.out⟩
      · obtain rfl : n = 0 := by omega
        obtain rfl : R = false := by rw [HRR.out]; exact decide_eq_false fun h => by rcases HV.out.1 h with h | ⟨h, _⟩; exact he h; exact hp h
        clear he hp
        refine wp_region_G 22 Gr (by kernel_rfl) ?_
        -- 0: slot 28
        refine wpG_take preGr (i := 0) (v := ?_) (by kernel_rfl) (some 28) (by kernel_rfl) rfl (by kernel_rfl) (by kernel_rfl) (by kernel_rfl) (fun _ _ _ h => h) (by rfl) (fun w' hw' => ?_) rfl ?_
        rotate_left
        · go_simp
          with_reducible rfl
        simp only [Act.put, List.setIfInBounds_toArray, List.set_cons_zero, List.set_cons_succ]
        -- 1: slot 29
        refine wpG_take preGr (i := 1) (v := ?_) (by kernel_rfl) (some 29) (by kernel_rfl) rfl (by kernel_rfl) (by kernel_rfl) (by kernel_rfl) (fun _ _ _ h => h) (by rfl) (fun w' hw' => ?_) rfl ?_
        rotate_left
        · go_simp
          with_reducible rfl
        simp only [Act.put, List.setIfInBounds_toArray, List.set_cons_zero, List.set_cons_succ]
        -- 2: slot 30
        refine wpG_take preGr (i := 2) (v := ?_) (by kernel_rfl) (some 30) (by kernel_rfl) rfl (by kernel_rfl) (by kernel_rfl) (by kernel_rfl) (fun _ _ _ h => h) (by rfl) (fun w' hw' => ?_) rfl ?_
        rotate_left
        · go_simp
          with_reducible rfl
        simp only [Act.put, List.setIfInBounds_toArray, List.set_cons_zero, List.set_cons_succ]
        -- 3: slot 31
        refine wpG_take preGr (i := 3) (v := ?_) (by kernel_rfl) (some 31) (by kernel_rfl) rfl (by kernel_rfl) (by kernel_rfl) (by kernel_rfl) (fun _ _ _ h => h) (by rfl) (fun w' hw' => ?_) rfl ?_
        rotate_left
        · go_simp
          with_reducible rfl
        simp only [Act.put, List.setIfInBounds_toArray, List.set_cons_zero, List.set_cons_succ]
        -- 4: slot 32
        refine wpG_take preGr (i := 4) (v := ?_) (by kernel_rfl) (some 32) (by kernel_rfl) rfl (by kernel_rfl) (by kernel_rfl) (by kernel_rfl) (fun _ _ _ h => h) (by rfl) (fun w' hw' => ?_) rfl ?_
        rotate_left
        · go_simp
          with_reducible rfl
        simp only [Act.put, List.setIfInBounds_toArray, List.set_cons_zero, List.set_cons_succ]
        -- 5: slot 33
        refine wpG_take preGr (i := 5) (v := ?_) (by kernel_rfl) (some 33) (by kernel_rfl) rfl (by kernel_rfl) (by kernel_rfl) (by kernel_rfl) (fun _ _ _ h => h) (by rfl) (fun w' hw' => ?_) rfl ?_
        rotate_left
        · go_simp
          with_reducible rfl
        simp only [Act.put, List.setIfInBounds_toArray, List.set_cons_zero, List.set_cons_succ]
        -- 6: slot 34
        refine wpG_take preGr (i := 6) (v := ?_) (by kernel_rfl) (some 34) (by kernel_rfl) rfl (by kernel_rfl) (by kernel_rfl) (by kernel_rfl) (fun _ _ _ h => h) (by rfl) (fun w' hw' => ?_) rfl ?_
        rotate_left
        · go_simp
          with_reducible rfl
        simp only [Act.put, List.setIfInBounds_toArray, List.set_cons_zero, List.set_cons_succ]
        -- 7: slot 35
        refine wpG_take preGr (i := 7) (v := ?_) (by kernel_rfl) (some 35) (by kernel_rfl) rfl (by kernel_rfl) (by kernel_rfl) (by kernel_rfl) (fun _ _ _ h => h) (by rfl) (fun w' hw' => ?_) rfl ?_
        rotate_left
        · go_simp
          with_reducible rfl
        simp only [Act.put, List.setIfInBounds_toArray, List.set_cons_zero, List.set_cons_succ]
        -- 8: slot 36
        refine wpG_take preGr (i := 8) (v := ?_) (by kernel_rfl) (some 36) (by kernel_rfl) rfl (by kernel_rfl) (by kernel_rfl) (by kernel_rfl) (fun _ _ _ h => h) (by rfl) (fun w' hw' => ?_) rfl ?_
        rotate_left
        · go_simp
          with_reducible rfl
        simp only [Act.put, List.setIfInBounds_toArray, List.set_cons_zero, List.set_cons_succ]
        refine wpG_pass preGr (i := 9) (by kernel_rfl) (some 37) (by kernel_rfl) rfl (by kernel_rfl) (by kernel_rfl) (by kernel_rfl) (fun _ _ _ h => h) (by rfl) rfl ?_
        simp only [Act.put, List.setIfInBounds_toArray, List.set_cons_zero, List.set_cons_succ]
        refine wpG_pass preGr (i := 10) (by kernel_rfl) (some 38) (by kernel_rfl) rfl (by kernel_rfl) (by kernel_rfl) (by kernel_rfl) (fun _ _ _ h => h) (by rfl) rfl ?_
        simp only [Act.put, List.setIfInBounds_toArray, List.set_cons_zero, List.set_cons_succ]
        refine wpG_pass preGr (i := 11) (by kernel_rfl) (some 39) (by kernel_rfl) rfl (by kernel_rfl) (by kernel_rfl) (by kernel_rfl) (fun _ _ _ h => h) (by rfl) rfl ?_
        simp only [Act.put, List.setIfInBounds_toArray, List.set_cons_zero, List.set_cons_succ]
        refine wpG_pass preGr (i := 12) (by kernel_rfl) (some 40) (by kernel_rfl) rfl (by kernel_rfl) (by kernel_rfl) (by kernel_rfl) (fun _ _ _ h => h) (by rfl) rfl ?_
        simp only [Act.put, List.setIfInBounds_toArray, List.set_cons_zero, List.set_cons_succ]
        refine wpG_pass preGr (i := 13) (by kernel_rfl) (some 41) (by kernel_rfl) rfl (by kernel_rfl) (by kernel_rfl) (by kernel_rfl) (fun _ _ _ h => h) (by rfl) rfl ?_
        simp only [Act.put, List.setIfInBounds_toArray, List.set_cons_zero, List.set_cons_succ]
        refine wpG_pass preGr (i := 14) (by kernel_rfl) (some 42) (by kernel_rfl) rfl (by kernel_rfl) (by kernel_rfl) (by kernel_rfl) (fun _ _ _ h => h) (by rfl) rfl ?_
        simp only [Act.put, List.setIfInBounds_toArray, List.set_cons_zero, List.set_cons_succ]
        refine wpG_pass preGr (i := 15) (by kernel_rfl) (some 43) (by kernel_rfl) rfl (by kernel_rfl) (by kernel_rfl) (by kernel_rfl) (fun _ _ _ h => h) (by rfl) rfl ?_
        simp only [Act.put, List.setIfInBounds_toArray, List.set_cons_zero, List.set_cons_succ]
        refine wpG_pass preGr (i := 16) (by kernel_rfl) (some 44) (by kernel_rfl) rfl (by kernel_rfl) (by kernel_rfl) (by kernel_rfl) (fun _ _ _ h => h) (by rfl) rfl ?_
        simp only [Act.put, List.setIfInBounds_toArray, List.set_cons_zero, List.set_cons_succ]
        refine wpG_pass preGr (i := 17) (by kernel_rfl) (some 45) (by kernel_rfl) rfl (by kernel_rfl) (by kernel_rfl) (by kernel_rfl) (fun _ _ _ h => h) (by rfl) rfl ?_
        simp only [Act.put, List.setIfInBounds_toArray, List.set_cons_zero, List.set_cons_succ]
        refine wpG_pass preGr (i := 18) (by kernel_rfl) (some 46) (by kernel_rfl) rfl (by kernel_rfl) (by kernel_rfl) (by kernel_rfl) (fun _ _ _ h => h) (by rfl) rfl ?_
        simp only [Act.put, List.setIfInBounds_toArray, List.set_cons_zero, List.set_cons_succ]
        -- 19: slot 47
        refine wpG_take preGr (i := 19) (v := ?_) (by kernel_rfl) (some 47) (by kernel_rfl) rfl (by kernel_rfl) (by kernel_rfl) (by kernel_rfl) (fun _ _ _ h => h) (by rfl) (fun w' hw' => ?_) rfl ?_
        rotate_left
        · go_simp
          with_reducible rfl
        simp only [Act.put, List.setIfInBounds_toArray, List.set_cons_zero, List.set_cons_succ]
        -- 20: slot 48
        refine wpG_take preGr (i := 20) (v := ?_) (by kernel_rfl) (some 48) (by kernel_rfl) rfl (by kernel_rfl) (by kernel_rfl) (by kernel_rfl) (fun _ _ _ h => h) (by rfl) (fun w' hw' => ?_) rfl ?_
        rotate_left
        · go_simp
          with_reducible rfl
        simp only [Act.put, List.setIfInBounds_toArray, List.set_cons_zero, List.set_cons_succ]
        -- 21: slot 10
        refine wpG_take preGr (i := 21) (v := ?_) (by kernel_rfl) (some 10) (by kernel_rfl) rfl (by kernel_rfl) (by kernel_rfl) (by kernel_rfl) (fun _ _ _ h => h) (by rfl) (fun w' hw' => ?_) rfl ?_
        rotate_left
        · go_simp
          with_reducible rfl
        simp only [Act.put, List.setIfInBounds_toArray, List.set_cons_zero, List.set_cons_succ]
        refine wpG_done (by kernel_rfl) ?_ _
        go_wp2
        go_ret
        exact ⟨rfl, HB2.out.drew⟩
  · have e : R = false := by rw [HRR.out]; exact decide_eq_false fun h => h0 (hke.symm.trans h.1)
    rw [e]
    clear hn hu hm hk hq hb hc hke e
    go_enter Tryd.func17, Tryd.ntmps17
    go_wp2_with fail
    generalize (w.alloc (.cells #[.slice ak nk ck, .int .i64 T] 24)).alloc (.cells #[v0, v1, v2, v3, v4, v5] 26) = w1 at HB1 HG0 HG1 ⊢
    refine (HC.out _ HB1.out).mono ?_
    rintro e w2 ⟨A2, L2, C2, rfl, hl2, hv2, hb2⟩
    have HB2 := Lib.hid (HB1.out.trans (hb2.mono HB1.out.size))
    clear hb2 hl2 hv2
    go_wp2
    go_ret
    exact ⟨rfl, HB2.out⟩
end Go.Proofs.YtjlacialbfhjcaaDoor.Ck
