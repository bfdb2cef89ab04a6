/-
  cookie.Valid, whatever comes.
-/
import Derived.Test.YtjlacialbfhjcaaDoorCkD
import Derived.Test.YtjlacialbfhjcaaDoorEqual
namespace Go.Proofs.YtjlacialbfhjcaaDoor.Ck
open Go.RowKit
set_option linter.unusedVariables false
set_option linter.unusedSimpArgs false

theorem dec_eq (p : Prop) [Decidable p] (b : Bool) (h : b = true ↔ p) : b = decide p := by
  cases b <;> simp_all
set_option maxHeartbeats 1000000 in
theorem valid_any (ak : Option Addr) (nk ck : Nat) (sec : List UInt8) (hn : sec.length = nk) (T t : Int) (au : Option Addr) (nu cu : Nat) (uniq : List UInt8) (hu : uniq.length = nu) (ac : Option Addr) (nc cc : Nat) (c : List UInt8) (hc : c.length = nc) (v0 v1 v2 v3 v4 v5 : Value) (mac : List UInt8) (hm : mac.map u8v = [v0, v1, v2, v3, v4, v5])
    (w : World) (hL : Laid w) (hk : Bs w (.slice ak nk ck) sec) (hq : Bs w (.slice au nu cu) uniq) (hb : Bs w (.slice ac nc cc) c) :
    Calls Tryd.prog 16 #[.agg #[.slice ak nk ck, .int .i64 T], .agg #[v0, v1, v2, v3, v4, v5], .slice au nu cu, .slice ac nc cc, .int .i64 t] w fun e w' => e = .returned (.bool (decide (valid sec T mac uniq c t))) ∧ Below w.heap.size w w' := by
  have HB1 : Hid (Below w.heap.size w ((w.alloc (.cells #[.slice ak nk ck, .int .i64 T] 24)).alloc (.cells #[v0, v1, v2, v3, v4, v5] 26))) := boxed_two _ _ _
  have HG0 : Hid (((w.alloc (.cells #[.slice ak nk ck, .int .i64 T] 24)).alloc (.cells #[v0, v1, v2, v3, v4, v5] 26)).heap[w.heap.size]? = some (.cells #[.slice ak nk ck, .int .i64 T] 24 (0, 0))) := boxed_0 _ _ _
  have HG1 : Hid (((w.alloc (.cells #[.slice ak nk ck, .int .i64 T] 24)).alloc (.cells #[v0, v1, v2, v3, v4, v5] 26)).heap[w.heap.size + 1]? = some (.cells #[v0, v1, v2, v3, v4, v5] 26 (0, 0))) := boxed_1 _ _ _
  have HC := Lib.hid (fun w => epochFor_any ak nk ck sec hn T t au nu cu uniq hu w)
  have HCB := Lib.hid hb
  have HCN := Lib.hid hc
  obtain ⟨k, hke⟩ : ∃ k, makE sec T uniq t = k := ⟨_, rfl⟩
  have HKE := Lib.hid hke
  by_cases h0 : k = 0
  · subst h0
    have hz := makE_zero hke
    have hr := epN_range hz.1
    have h64 := (epE_zero hz.1).1.2.1
    have hd := forN_yes hke
    obtain ⟨n, hnn⟩ : ∃ n, n = t / T := ⟨_, rfl⟩
    rw [hke, hd] at HC
    rw [← hnn] at hr HC
    unfold top at hr
    have HK := Lib.hid (fun (w' : World) (hb : Below w.heap.size w w') (n : Int) (h0 : 0 ≤ n) (h1 : n ≤ 1099511627776) => cookie_any ak nk ck sec hn au nu cu uniq hu v0 v1 v2 v3 v4 v5 mac hm n h0 h1 w' (hL.below hb) (hk.below hb) (hq.below hb) (by omega) hz.2)
    have HN := Lib.hid hnn
    have HV : Hid (valid sec T mac uniq c t ↔ (cookL sec mac uniq n = c ∨ 0 < n ∧ cookL sec mac uniq (n - 1) = c)) := by
      show _ ↔ _
      unfold valid
      rw [hnn]
      constructor
      · rintro ⟨_, h | ⟨h, h'⟩⟩
        · exact .inl h.symm
        · exact .inr ⟨h, h'.symm⟩
      · rintro (h | ⟨h, h'⟩)
        · exact ⟨hke, .inl h.symm⟩
        · exact ⟨hke, .inr ⟨h, h'.symm⟩⟩
    obtain ⟨hr0, hr1⟩ := hr
    obtain ⟨R, hR⟩ : ∃ R, R = decide (valid sec T mac uniq c t) := ⟨_, rfl⟩
    rw [← hR]
    have HRR := Lib.hid hR
    clear hR
    clear hn hu hm hL hk hq hb hc hke hz h64 hd hnn
    go_enter Tryd.func16, Tryd.ntmps16
    go_wp2_with fail
    generalize (w.alloc (.cells #[.slice ak nk ck, .int .i64 T] 24)).alloc (.cells #[v0, v1, v2, v3, v4, v5] 26) = w1 at HB1 HG0 HG1 ⊢
    refine (HC.out _).mono ?_
    rintro e w2 ⟨rfl, hb2⟩
    have HB2 := Lib.hid (HB1.out.trans (hb2.mono HB1.out.size))
    obtain ⟨k0, k1⟩ := cells2 (heap_below HG0.out hb2)
    obtain ⟨m0, m1, m2, m3, m4, m5⟩ := cells6 (heap_below HG1.out hb2)
    clear hb2
    go_wp2_with fail
    refine (HK.out _ HB2.out n hr0 hr1).mono ?_
    rintro e w3 ⟨g3, rfl, ho3, hb3⟩
    have HB3 := Lib.hid (HB2.out.trans (hb3.mono HB2.out.size))
    have HV3 := Lib.hid ho3.bs
    clear hb3 ho3 k0 k1 m0 m1 m2 m3 m4 m5
    go_wp2_with fail
    refine (equal_any w3 (some ⟨g3, 0, none⟩) ac 32 nc 32 cc _ c (cookL_length _ _ _ _) HCN.out HV3.out (HCB.out.below HB3.out)).mono ?_
    rintro e w' ⟨rfl, rfl⟩
    by_cases hp : 0 < n
    · have hp1 : 0 ≤ n - 1 := by omega
      have hp2 : n - 1 ≤ 1099511627776 := by omega
      have hw1 : wrap64 (n - 1) = n - 1 := by unfold wrap64; omega
      obtain ⟨q, hq⟩ : ∃ q, q = decide (cookL sec mac uniq n = c) := ⟨_, rfl⟩
      rw [← hq]
      have HQ := Lib.hid hq
      clear hq HV3
      go_wp2_with fail
      refine (HK.out _ HB3.out (n - 1) hp1 hp2).mono ?_
      rintro e w4 ⟨g4, rfl, ho4, hb4⟩
      have HB4 := Lib.hid (HB3.out.trans (hb4.mono HB3.out.size))
      have HV4 := Lib.hid ho4.bs
      clear hb4 ho4
      go_wp2_with fail
      refine (equal_any w4 (some ⟨g4, 0, none⟩) ac 32 nc 32 cc _ c (cookL_length _ _ _ _) HCN.out HV4.out (HCB.out.below HB4.out)).mono ?_
      rintro e w' ⟨rfl, rfl⟩
      obtain ⟨r, hr⟩ : ∃ r, r = decide (cookL sec mac uniq (n - 1) = c) := ⟨_, rfl⟩
      rw [← hr]
      have HR := Lib.hid hr
      clear hr HV4
      have HF : Hid ((q || r) = R) := by
        show _ = _
        rw [HRR.out]
        refine dec_eq _ _ ?_
        rw [HV.out, HQ.out, HR.out]
        simp [hp]
      clear hp hp1 hp2 hw1
      cases q
      · go_wp2
        go_ret
        exact ⟨by rw [← HF.out]; rfl, HB4.out⟩
      · go_wp2
        go_ret
        exact ⟨by rw [← HF.out]; rfl, HB4.out⟩
    · have HF : Hid (decide (cookL sec mac uniq n = c) = R) := by
        show _ = _
        rw [HRR.out]
        refine dec_eq _ _ ?_
        rw [HV.out]
        simp [hp]
      obtain ⟨q, hq⟩ : ∃ q, q = decide (cookL sec mac uniq n = c) := ⟨_, rfl⟩
      rw [← hq] at HF ⊢
      clear hq HV3
      go_wp2
      go_ret
      exact ⟨by rw [← HF.out]; rfl, HB3.out⟩
  · rw [hke] at HC
    have e : decide (valid sec T mac uniq c t) = false := decide_eq_false fun h => h0 (hke.symm.trans h.1)
    rw [e]
    clear hn hu hm hL hk hq hb hc hke e
    go_enter Tryd.func16, Tryd.ntmps16
    go_wp2_with fail
    generalize (w.alloc (.cells #[.slice ak nk ck, .int .i64 T] 24)).alloc (.cells #[v0, v1, v2, v3, v4, v5] 26) = w1 at HB1 HG0 HG1 ⊢
    refine (HC.out _).mono ?_
    rintro e w2 ⟨rfl, hb2⟩
    have HB2 := Lib.hid (HB1.out.trans (hb2.mono HB1.out.size))
    clear hb2
    go_wp2
    go_ret
    exact ⟨rfl, HB2.out⟩
end Go.Proofs.YtjlacialbfhjcaaDoor.Ck
