/-
  Which addresses are free hangs on no order in which they were leased: two pools of any range, of which the same addresses are wanted in two orders, stand alike (conciergelaw12.PoolOrder answers true). Condition: the library's table math/bits.deBruijn64tab starts as the program's text lays it (the tied card).
-/
import Derived.Test.YtoemghinolekgaaDoorPlJ
import Derived.Test.YtoemghinolekgaaDoorPlU
import Derived.Test.YtoemghinolekgaaDoorOpenR
namespace Go.Proofs.YtoemghinolekgaaDoor.poolOrder
open Go.ChangeShapes Go.WideShapes Go.ChangeAt Go.RowKit
open Go.Proofs.YtoemghinolekgaaDoor.Pl
open Go.Proofs.YtoemghinolekgaaDoor.Id (IR Tr)
set_option linter.unusedVariables false
set_option linter.unusedSimpArgs false

theorem wf_in {x : Int} (h : (Lit.int .i64 x).wf = true) : -9223372036854775808 ≤ x ∧ x ≤ 9223372036854775807 := by
  simpa [Lit.wf, IntKind.min, IntKind.max, IntKind.signed, IntKind.bits] using h
/-- What one has wanted. -/
theorem mem_want {S : Po} {a y : Int} : y ∈ (want S a).1.L ↔ y ∈ S.L ∨ (y = a ∧ has S a = true) := by
  unfold want
  by_cases h : has S a = true
  · rw [if_pos h]
    by_cases hl : a ∈ S.L
    · rw [if_pos hl]
      constructor
      · exact .inl
      · rintro (h1 | ⟨rfl, _⟩)
        · exact h1
        · exact hl
    · rw [if_neg hl]
      show y ∈ (put S a).L ↔ _
      rw [mem_put]
      constructor
      · rintro (rfl | h1)
        · exact .inr ⟨rfl, h⟩
        · exact .inl h1
      · rintro (h1 | ⟨rfl, _⟩)
        · exact .inr h1
        · exact .inl rfl
  · rw [if_neg h]
    constructor
    · exact .inl
    · rintro (h1 | ⟨_, h2⟩)
      · exact h1
      · exact absurd h2 h
/-- So many of these addresses were wanted. -/
structure Wd (S0 S : Po) (f : Nat → Int) (i : Nat) : Prop where
  base : S.base = S0.base
  size : S.size = S0.size
  res : S.res = S0.res
  ok : OkP S
  mem : ∀ y, y ∈ S.L ↔ y ∈ S0.L ∨ ∃ j, j < i ∧ y = f j ∧ has S0 y = true
theorem Wd.step {S0 S : Po} {f : Nat → Int} {i : Nat} (h : Wd S0 S f i) : Wd S0 (want S (f i)).1 f (i + 1) := by
  obtain ⟨r1, r2, r3⟩ := want_range S (f i)
  refine ⟨r1.trans h.base, r2.trans h.size, r3.trans h.res, want_ok h.ok _, fun y => ?_⟩
  rw [mem_want, h.mem, has_same h.base h.size h.res]
  constructor
  · rintro ((h1 | ⟨j, h1, h2, h3⟩) | ⟨h1, h2⟩)
    · exact .inl h1
    · exact .inr ⟨j, by omega, h2, h3⟩
    · exact .inr ⟨i, by omega, h1, by rw [h1]; exact h2⟩
  · rintro (h1 | ⟨j, h1, h2, h3⟩)
    · exact .inl (.inl h1)
    · by_cases e : j = i
      · subst e; exact .inr ⟨h2, by rw [← h2]; exact h3⟩
      · exact .inl (.inr ⟨j, by omega, h2, h3⟩)
theorem Wd.same {S0 S T : Po} {f g : Nat → Int} {n : Nat} (h : Wd S0 S f n) (k : Wd S0 T g n) (h1 : ∀ j, j < n → ∃ i, i < n ∧ f j = g i) (h2 : ∀ j, j < n → ∃ i, i < n ∧ g j = f i) : S = T := by
  have hL : S.L = T.L := by
    refine Id.rising_eq h.ok.rise k.ok.rise fun y => ?_
    rw [h.mem, k.mem]
    constructor
    · rintro (h3 | ⟨j, h3, h4, h5⟩)
      · exact .inl h3
      · obtain ⟨i, hi, e⟩ := h1 j h3
        exact .inr ⟨i, hi, h4.trans e, h5⟩
    · rintro (h3 | ⟨j, h3, h4, h5⟩)
      · exact .inl h3
      · obtain ⟨i, hi, e⟩ := h2 j h3
        exact .inr ⟨i, hi, h4.trans e, h5⟩
  cases S; cases T
  have e1 := h.base.trans k.base.symm
  have e2 := h.size.trans k.size.symm
  have e3 := h.res.trans k.res.symm
  dsimp only at e1 e2 e3 hL
  subst e1 e2 e3 hL
  rfl
/-- The other order: backwards, turned. -/
def piv (n t i : Nat) : Nat := (n - 1 - i + t) % n
theorem piv_lt {n t i : Nat} (hn : 0 < n) : piv n t i < n := Nat.mod_lt _ hn
theorem piv_onto {n t k : Nat} (hk : k < n) : ∃ i, i < n ∧ piv n t i = k := by
  have hn : 0 < n := by omega
  refine ⟨(n - 1 + t - k) % n, Nat.mod_lt _ hn, ?_⟩
  unfold piv
  obtain ⟨s, hs⟩ : ∃ s, s = n - 1 + t := ⟨_, rfl⟩
  rw [← hs]
  have hm := Nat.mod_add_div (s - k) n
  have hlt := Nat.mod_lt (s - k) hn
  obtain ⟨j, hj⟩ : ∃ j, j = (s - k) % n := ⟨_, rfl⟩
  obtain ⟨q, hq⟩ : ∃ q, q = n * ((s - k) / n) := ⟨_, rfl⟩
  rw [← hj, ← hq] at hm
  rw [← hj] at hlt ⊢
  have e : n - 1 - j + t = k + q := by omega
  rw [e, hq, Nat.add_mul_mod_self_left]
  exact Nat.mod_eq_of_lt hk
theorem ord_arith {n i T x y q : Nat} {b : Int} (hn : n ≤ 40) (hi : i < n) (hT : T ≤ 255) (hx : x < 256) (hy : y < 256) (hb : 1 ≤ b ∧ b ≤ 4294967294) (hq : q = piv n T i) :
    ∃ m1 m2 m3 : Nat, IntKind.i64.wrap (b + (x : Int)) = b + (x : Int) ∧ IntKind.i64.wrap (b + (y : Int)) = b + (y : Int) ∧ IntKind.i64.wrap (x : Int) = (x : Int) ∧ IntKind.i64.wrap (y : Int) = (y : Int) ∧
      IntKind.i64.wrap ((n : Int) - 1) = (m1 : Int) ∧ IntKind.i64.wrap ((m1 : Int) - (i : Int)) = (m2 : Int) ∧ IntKind.i64.wrap ((m2 : Int) + (T : Int)) = (m3 : Int) ∧ ((m3 : Int)).tmod (n : Int) = (q : Int) ∧ IntKind.i64.wrap (q : Int) = (q : Int) ∧ IntKind.i64.wrap (T : Int) = (T : Int) ∧
      ¬ n = 0 ∧ b + (x : Int) ≤ 9223372036854775807 ∧ b + (y : Int) ≤ 9223372036854775807 ∧ q < n ∧ (q : Int) < (n : Int) ∧ i + 1 ≤ n := by
  have hqn : q < n := by rw [hq]; exact piv_lt (by omega)
  have hqe : q = (n - 1 - i + T) % n := hq
  refine ⟨n - 1, n - 1 - i, n - 1 - i + T, IntWalk.i64_in _ (by omega), IntWalk.i64_in _ (by omega), IntWalk.i64_in _ (by omega), IntWalk.i64_in _ (by omega), ?_, ?_, ?_, ?_, IntWalk.i64_in _ (by omega), IntWalk.i64_in _ (by omega), by omega, by omega, by omega, hqn, by omega, by omega⟩
  · clear hq hqe
    rw [IntWalk.i64_in _ (by omega)]; omega
  · clear hq hqe
    rw [IntWalk.i64_in _ (by omega)]; omega
  · clear hq hqe
    rw [IntWalk.i64_in _ (by omega)]; omega
  · rw [Int.tmod_eq_emod_of_nonneg (Int.natCast_nonneg _), hqe]; rfl
theorem bs_upto {w : World} {a : Option Addr} {n c : Nat} {l : List UInt8} (h : Bs w (.slice a n c) l) (hn : n = l.length) (m : Nat) (hm : m ≤ n) :
    ∃ a', (∀ w', (Instr.slice 55 (.slice a n c) none (some (.int .i64 (m : Int))) none).run Tryd.prog w' = .ok (.slice a' m c) w') ∧ Bs w (.slice a' m c) (l.take m) := by
  obtain ⟨i0, hi, _, h1, _⟩ := info_parts info5
  subst hn
  obtain ⟨a', h2, h3⟩ := slice_upto (P := Tryd.prog) (size := 1) Tryd.underlying55 hi h1 h .i64 (m : Int) m rfl hm
  refine ⟨a', h2, ?_⟩
  have e : (l.take m).length = m := by rw [List.length_take]; omega
  refine Bs.of_rd h3 ?_
  rw [List.map_take, Nat.mul_one]
set_option maxRecDepth 20000 in
set_option maxHeartbeats 8000000 in
theorem walk (W : World) (hl : Laid W) (b z : Int) (a : Option Addr) (n c : Nat) (l : List Int) (wb : (Lit.int .i64 b).wf = true) (wz : (Lit.int .i64 z).wf = true) (hn : l.length = n) (hr : Rd W 1 (.slice a n c) n (l.map (Value.int .i64)))
    (a1 : Option Addr) (n1 c1 : Nat) (ls : List UInt8) (hn1 : ls.length = n1) (hbs : Bs W (.slice a1 n1 c1) ls) (t : Int) (wt : (Lit.int .u8 t).wf = true) :
    Calls Tryd.prog 7 #[.agg #[.int .i64 b, .int .i64 z, .slice a n c], .slice a1 n1 c1, .int .u8 t] W fun e w' => e = .returned (.bool true) ∧ Below W.heap.size W w' := by
  have hb := wf_in wb
  have hz := wf_in wz
  have HB1 : Hid (Below W.heap.size W (W.alloc (.cells #[.int .i64 b, .int .i64 z, .slice a n c] 24))) := (Below.refl _ _).alloc (Nat.le_refl _) _
  have HP1 : Hid ((W.alloc (.cells #[.int .i64 b, .int .i64 z, .slice a n c] 24)).heap[W.heap.size]? = some (.cells #[.int .i64 b, .int .i64 z, .slice a n c] 24 (0, 0))) := heap_alloc_last _ _
  have HIR : Hid (IR W (.slice a n c) l) := by show Rd _ _ _ _ _; rw [hn]; exact hr
  have HS := Lib.hid (small_any b z (W.alloc (.cells #[.int .i64 b, .int .i64 z, .slice a n c] 24)) (Rd.below HIR.out HB1.out))
  have hzs : -9223372036854775808 ≤ smallZ z ∧ smallZ z ≤ 9223372036854775807 := by unfold smallZ; split <;> omega
  have HSZ : Hid (smallZ z ≤ 65536 → smallZ z ≤ 60) := by show _ → _; unfold smallZ; split <;> omega
  obtain ⟨z2, hz2⟩ : ∃ q, q = smallZ z := ⟨_, rfl⟩
  rw [← hz2] at HS hzs HSZ
  obtain ⟨l2, hl2⟩ : ∃ q, q = l.take 70 := ⟨_, rfl⟩
  rw [← hl2] at HS
  have HLW := Lib.hid hl
  have HBZ : Hid ((-9223372036854775808 ≤ b ∧ b ≤ 9223372036854775807) ∧ -9223372036854775808 ≤ z2 ∧ z2 ≤ 9223372036854775807) := ⟨hb, hzs⟩
  clear wb wz hn hr hl hb hz hz2 hzs hl2
  have HT : Hid (0 ≤ t ∧ t ≤ 255) := by show _ ∧ _; simpa [Lit.wf, IntKind.min, IntKind.max, IntKind.signed, IntKind.bits] using wt
  have HN1 : Hid (n1 = ls.length) := hn1.symm
  have HBS := Lib.hid hbs
  have hn163 : (n1 : Int) ≤ 9223372036854775807 := by
    obtain ⟨_, _, e, h1, h2⟩ := hbs.shape
    simp only [Value.slice.injEq] at e
    obtain ⟨_, q, rfl⟩ := e
    unfold maxLen at h2
    omega
  clear wt hn1 hbs
  go_enter Tryd.func7, Tryd.ntmps7
  go_wp2_with fail
  refine HS.out.mono ?_
  rintro e w1 ⟨a2, n2, c2, rfl, hn2, hrow, hb1⟩
  have HP := Lib.hid (heap_gr hb1 HP1.out)
  have HB := Lib.hid (HB1.out.trans (Below.mono hb1 HB1.out.size))
  have HI0 := Lib.hid (hrow _ HIR.out)
  have HN2 := Lib.hid hn2
  clear hrow hb1 HS HP1 HB1 hn2
  go_wp2_with (with_reducible refine wpList_store_range rfl _ _ rfl W.heap.size _ _ _ _ _ rfl rfl _ _ _ HP.out ?_)
  intro U h2 ho2
  have HPU := Lib.hid h2
  have HBU := Lib.hid (ho2.below W.heap.size W (Nat.le_refl _) HB.out)
  have HIU : Hid (IR U (.slice a2 n2 c2) l2) := Rd.below HI0.out HBU.out
  have HLU := Lib.hid (HLW.out.gr HBU.out)
  have HSU : Hid (W.heap.size < U.heap.size) := (Array.getElem?_eq_some_iff.1 HPU.out).1
  clear h2 ho2 HP HB HI0
  obtain ⟨k0, k1, k2⟩ := cells3' HPU.out
  cases hok : okB b z2 l2 with
  | false =>
    have HN1' := Lib.hid (new_no b z2 HBZ.out.1 HBZ.out.2 U HIU.out hok)
    have HNO : Hid (∀ w, Gr U w → Calls Tryd.prog 10 #[.agg #[.int .i64 b, .int .i64 z2, .slice a2 n2 c2]] w fun e w' => e = .returned (.tuple #[.pointer none, .int .i64 120]) ∧ Below w.heap.size w w') := fun w hw => new_no b z2 HBZ.out.1 HBZ.out.2 w (Rd.below HIU.out hw) hok
    clear hok
    go_wp2_with fail
    refine HN1'.out.mono ?_
    rintro e w3 ⟨rfl, hb3⟩
    have HG3 : Hid (Gr U w3) := hb3
    obtain ⟨k0, k1, k2⟩ := cells3' (heap_gr hb3 HPU.out)
    have HN2' := Lib.hid (HNO.out w3 hb3)
    clear hb3 HN1'
    go_wp2_with fail
    refine HN2'.out.mono ?_
    rintro e w4 ⟨rfl, hb4⟩
    have HG4 : Hid (Gr U w4) := HG3.out.trans hb4
    have HA := Lib.hid (awake_any w4 (HLU.out.gr HG4.out))
    clear hb4 HN2' k0 k1 k2
    go_wp2_with fail
    refine HA.out.mono ?_
    rintro e w5 ⟨rfl, hb5⟩
    have HB5 : Hid (Below W.heap.size W w5) := HBU.out.trans (Below.mono (HG4.out.trans hb5) HBU.out.size)
    clear hb5 HA
    go_wp2
    go_ret
    exact ⟨rfl, HB5.out⟩
  | true =>
    have hR := okB_iff.1 hok
    obtain ⟨Z, hZ⟩ : ∃ Z : Nat, (Z : Int) = z2 := ⟨z2.toNat, by have := hR.size; omega⟩
    subst hZ
    have HRR := Lib.hid hR
    have HNW : Hid (∀ w, Gr U w → Calls Tryd.prog 10 #[.agg #[.int .i64 b, .int .i64 (Z : Int), .slice a2 n2 c2]] w fun e w' => ∃ g, e = .returned (.tuple #[.pointer (some ⟨g, 0, none⟩), .int .i64 0]) ∧ ∃ m, LP U g m w' (born b Z l2) ∧ (∀ k ∈ Fm g m, w.heap.size ≤ k) ∧ Below w.heap.size w w') := fun w hw => new_lp U b Z w hw (HLU.out.gr hw) (Rd.below HIU.out hw) hR
    have HN1' := Lib.hid (HNW.out U (Gr.refl _))
    clear hok hR
    go_wp2_with fail
    refine HN1'.out.mono ?_
    rintro e w3 ⟨gp, rfl, mp, hp3, _, hb3⟩
    have HP3 := Lib.hid hp3
    have HG3 : Hid (Gr U w3) := hb3
    obtain ⟨k0, k1, k2⟩ := cells3' (heap_gr hb3 HPU.out)
    have HN2' := Lib.hid (HNW.out w3 hb3)
    clear hb3 HN1' hp3
    go_wp2_with fail
    refine HN2'.out.mono ?_
    rintro e w4 ⟨gq, rfl, mq, hq4, hoff4, hb4⟩
    have HQ4 := Lib.hid hq4
    have HP4 := Lib.hid (HP3.out.gr hb4)
    have HDJ : Hid (∀ k ∈ Fm gp mp, k ∉ Fm gq mq) := fun k hk hk2 => by
      have h1 := (HP3.out.po.pm.lt k hk).2
      have h2 := hoff4 k hk2
      omega
    have HA := Lib.hid (awake_any w4 (HLU.out.gr (HG3.out.trans hb4)))
    clear hb4 HN2' k0 k1 k2 hq4 hoff4 HNW HG3 HP3
    go_wp2_with fail
    refine HA.out.mono ?_
    rintro e w5 ⟨rfl, hb5⟩
    have HQ5 := Lib.hid (HQ4.out.gr hb5)
    have HP5 := Lib.hid (HP4.out.gr hb5)
    clear hb5 HA HQ4 HP4
    -- the row of what is wanted, cut
    have HBR := Lib.hid HRR.out.base
    obtain ⟨S0, hS0⟩ : ∃ S, S = born b Z l2 := ⟨_, rfl⟩
    rw [← hS0] at HP5 HQ5
    have HB0 : Hid (S0.base = b) := by rw [hS0]; rfl
    have HS0L : Hid (S0.L.length = 0) := by rw [hS0]; rfl
    clear hS0
    obtain ⟨T, hTT⟩ : ∃ T : Nat, (T : Int) = t := ⟨t.toNat, by have := HT.out; omega⟩
    subst hTT
    have HT2 : Hid (T ≤ 255) := by show _ ≤ _; have := HT.out; omega
    clear HT
    by_cases hcut : 40 < n1
    · obtain ⟨nv, hnv⟩ : ∃ nv : Nat, nv = 40 := ⟨_, rfl⟩
      obtain ⟨av, hrun, hbv⟩ := bs_upto HBS.out HN1.out nv (by omega)
      have HBV := Lib.hid hbv
      obtain ⟨lv, hlv⟩ : ∃ x, x = ls.take nv := ⟨_, rfl⟩
      rw [← hlv] at HBV
      have HNV : Hid (nv = lv.length) := by show _ = _; rw [hlv, List.length_take]; have := HN1.out; omega
      obtain ⟨F, hF⟩ : ∃ F : Nat → Int, F = fun j => b + ((lv.getD j 0).toNat : Int) := ⟨_, rfl⟩
      have HF := Lib.hid hF
      have HN40 : Hid (nv ≤ 40) := by show _ ≤ _; omega
      have hcast : ((nv : Nat) : Int) = 40 := by omega
      rw [hcast] at hrun
      have hnvb : (nv : Int) ≤ 40 := by omega
      clear hbv hlv hF hcast hnv
      have hdec : decide ((40 : Int) < (n1 : Int)) = true := decide_eq_true (by omega)
      go_wp2_with fail
      clear hrun
      try rw [hdec]
      clear hdec
      go_loopw [11] (fun iv wr => ∃ (i : Nat) (mp mq : Pm) (Sp Sq : Po), i ≤ nv ∧ iv = .int .i64 (i : Int) ∧ Hid (LP U gp mp wr Sp) ∧ Hid (LP U gq mq wr Sq) ∧ Hid (∀ k ∈ Fm gp mp, k ∉ Fm gq mq) ∧ Hid (Wd S0 Sp F i) ∧ Hid (Wd S0 Sq (fun j => F (piv nv T j)) i)) (fun iv _ => nv - (intOf iv).toNat)
      case atStart => exact ⟨0, mp, mq, S0, S0, Nat.zero_le _, rfl, HP5, HQ5, HDJ, ⟨rfl, rfl, rfl, HP5.out.po.ok, fun y => ⟨.inl, fun h => h.elim id fun ⟨j, h1, _⟩ => by omega⟩⟩, ⟨rfl, rfl, rfl, HP5.out.po.ok, fun y => ⟨.inl, fun h => h.elim id fun ⟨j, h1, _⟩ => by omega⟩⟩⟩
      case round =>
        clear HP5 HQ5 HDJ
        obtain ⟨i, mp, mq, Sp, Sq, hin, rfl, HP, HQ, HDJ, HWP, HWQ⟩ := hrel
        by_cases hlt : i < nv
        · have HPR := Lib.hid (heap_below HPU.out HP.out.low)
          have HBW : Hid (Below W.heap.size W wr) := HBU.out.trans (Below.mono HP.out.low HBU.out.size)
          have hil : i < lv.length := by rw [← HNV.out]; exact hlt
          obtain ⟨bb, o, ea, _, hcel⟩ := Bs.cells (l := lv) (by exact HBV.out) (by omega)
          subst ea
          have hpl := piv_lt (t := T) (i := i) (show 0 < nv by omega)
          have hpl2 : piv nv T i < lv.length := by rw [← HNV.out]; exact hpl
          have HC1 := Lib.hid (hcel i hil)
          have HC2 := Lib.hid (hcel _ hpl2)
          have hF1 : F i = b + (lv[i].toNat : Int) := by rw [HF.out]; simp [List.getD_eq_getElem?_getD, hil]
          have hF2 : F (piv nv T i) = b + (lv[piv nv T i].toNat : Int) := by rw [HF.out]; simp [List.getD_eq_getElem?_getD, hpl2]
          obtain ⟨x, hx⟩ : ∃ x, x = lv[i].toNat := ⟨_, rfl⟩
          obtain ⟨y, hy⟩ : ∃ y, y = lv[piv nv T i].toNat := ⟨_, rfl⟩
          have hx256 : x < 256 := by rw [hx]; exact UInt8.toNat_lt _
          have hy256 : y < 256 := by rw [hy]; exact UInt8.toNat_lt _
          rw [← hx] at HC1 hF1
          rw [← hy] at HC2 hF2
          have hbr := HBR.out
          have hT := HT2.out
          have s1 := HWP.out.step
          have s2 := HWQ.out.step
          try dsimp only at s2
          rw [hF1] at s1
          rw [hF2] at s2
          have HS1 := Lib.hid s1
          have HS2 := Lib.hid s2
          obtain ⟨q, hq⟩ : ∃ q, q = piv nv T i := ⟨_, rfl⟩
          obtain ⟨m1, m2, m3, c1, c2, c3, c4, d1, d2, d3, d4, d5, d6, d7, hle1, hle2, hqn, hqi, hle⟩ := ord_arith (n := nv) HN40.out hlt hT hx256 hy256 hbr hq
          rw [← hq] at HC2
          have HLE1 : Hid (b + (x : Int) ≤ 9223372036854775807) := hle1
          have HLE2 : Hid (b + (y : Int) ≤ 9223372036854775807) := hle2
          have HHQ : Hid (q < nv) := hqn
          clear hcel hpl hpl2 hF1 hF2 hx hy hx256 hy256 hbr hT s1 s2 hq hil hle1 hle2
          go_upto_region 13 with fail
          have HC : Hid (Gr wr wr.drew) := Gr.drew wr
          refine wp_region_G 9 Gr (by kernel_rfl) ?_
          generalize wr.drew = wc at HC ⊢
          -- 0: slot 53
          refine wpG_take preGr (i := 0) (v := ?_) (by kernel_rfl) (some 53) (by kernel_rfl) rfl (by kernel_rfl) (by kernel_rfl) (by kernel_rfl) (fun _ _ _ h => h) (by rfl) (fun w' hw' => ?_) rfl ?_
          rotate_left
          · try (have hxx := cells3' (heap_gr (Gr.trans HC.out hw') HPR.out); obtain ⟨k0, k1, k2⟩ := hxx; have hca := cell_gr (Gr.trans HC.out hw') (cell_gr HBW.out HC1.out))
            go_simp
            with_reducible rfl
          simp only [Act.put, List.setIfInBounds_toArray, List.set_cons_zero, List.set_cons_succ]
          -- 1: slot 54
          refine wpG_take preGr (i := 1) (v := ?_) (by kernel_rfl) (some 54) (by kernel_rfl) rfl (by kernel_rfl) (by kernel_rfl) (by kernel_rfl) (fun _ _ _ h => h) (by rfl) (fun w' hw' => ?_) rfl ?_
          rotate_left
          · try (have hxx := cells3' (heap_gr (Gr.trans HC.out hw') HPR.out); obtain ⟨k0, k1, k2⟩ := hxx; have hca := cell_gr (Gr.trans HC.out hw') (cell_gr HBW.out HC1.out))
            go_simp
            with_reducible rfl
          simp only [Act.put, List.setIfInBounds_toArray, List.set_cons_zero, List.set_cons_succ]
          -- 2: slot 55
          refine wpG_take preGr (i := 2) (v := ?_) (by kernel_rfl) (some 55) (by kernel_rfl) rfl (by kernel_rfl) (by kernel_rfl) (by kernel_rfl) (fun _ _ _ h => h) (by rfl) (fun w' hw' => ?_) rfl ?_
          rotate_left
          · try (have hxx := cells3' (heap_gr (Gr.trans HC.out hw') HPR.out); obtain ⟨k0, k1, k2⟩ := hxx; have hca := cell_gr (Gr.trans HC.out hw') (cell_gr HBW.out HC1.out))
            go_simp
            with_reducible rfl
          simp only [Act.put, List.setIfInBounds_toArray, List.set_cons_zero, List.set_cons_succ]
          -- 3: slot 56
          refine wpG_take preGr (i := 3) (v := ?_) (by kernel_rfl) (some 56) (by kernel_rfl) rfl (by kernel_rfl) (by kernel_rfl) (by kernel_rfl) (fun _ _ _ h => h) (by rfl) (fun w' hw' => ?_) rfl ?_
          rotate_left
          · try (have hxx := cells3' (heap_gr (Gr.trans HC.out hw') HPR.out); obtain ⟨k0, k1, k2⟩ := hxx; have hca := cell_gr (Gr.trans HC.out hw') (cell_gr HBW.out HC1.out))
            go_simp
            with_reducible rfl
          simp only [Act.put, List.setIfInBounds_toArray, List.set_cons_zero, List.set_cons_succ]
          -- 4: slot 57
          refine wpG_take preGr (i := 4) (v := ?_) (by kernel_rfl) (some 57) (by kernel_rfl) rfl (by kernel_rfl) (by kernel_rfl) (by kernel_rfl) (fun _ _ _ h => h) (by rfl) (fun w' hw' => ?_) rfl ?_
          rotate_left
          · try (have hxx := cells3' (heap_gr (Gr.trans HC.out hw') HPR.out); obtain ⟨k0, k1, k2⟩ := hxx; have hca := cell_gr (Gr.trans HC.out hw') (cell_gr HBW.out HC1.out))
            go_simp
            with_reducible rfl
          simp only [Act.put, List.setIfInBounds_toArray, List.set_cons_zero, List.set_cons_succ]
          -- 5: slot 58
          refine wpG_take preGr (i := 5) (v := ?_) (by kernel_rfl) (some 58) (by kernel_rfl) rfl (by kernel_rfl) (by kernel_rfl) (by kernel_rfl) (fun _ _ _ h => h) (by rfl) (fun w' hw' => ?_) rfl ?_
          rotate_left
          · try (have hxx := cells3' (heap_gr (Gr.trans HC.out hw') HPR.out); obtain ⟨k0, k1, k2⟩ := hxx; have hca := cell_gr (Gr.trans HC.out hw') (cell_gr HBW.out HC1.out))
            go_simp
            with_reducible rfl
          simp only [Act.put, List.setIfInBounds_toArray, List.set_cons_zero, List.set_cons_succ]
          -- 6: slot 59
          refine wpG_take preGr (i := 6) (v := ?_) (by kernel_rfl) (some 59) (by kernel_rfl) rfl (by kernel_rfl) (by kernel_rfl) (by kernel_rfl) (fun _ _ _ h => h) (by rfl) (fun w' hw' => ?_) rfl ?_
          rotate_left
          · try (have hxx := cells3' (heap_gr (Gr.trans HC.out hw') HPR.out); obtain ⟨k0, k1, k2⟩ := hxx; have hca := cell_gr (Gr.trans HC.out hw') (cell_gr HBW.out HC1.out))
            go_simp
            with_reducible rfl
          simp only [Act.put, List.setIfInBounds_toArray, List.set_cons_zero, List.set_cons_succ]
          -- 7: slot 60
          refine wpG_take preGr (i := 7) (v := ?_) (by kernel_rfl) (some 60) (by kernel_rfl) rfl (by kernel_rfl) (by kernel_rfl) (by kernel_rfl) (fun _ _ _ h => h) (by rfl) (fun w' hw' => ?_) rfl ?_
          rotate_left
          · try (have hxx := cells3' (heap_gr (Gr.trans HC.out hw') HPR.out); obtain ⟨k0, k1, k2⟩ := hxx; have hca := cell_gr (Gr.trans HC.out hw') (cell_gr HBW.out HC1.out))
            go_simp
            with_reducible rfl
          simp only [Act.put, List.setIfInBounds_toArray, List.set_cons_zero, List.set_cons_succ]
          -- 8: slot 61
          refine wpG_take preGr (i := 8) (v := ?_) (by kernel_rfl) (some 61) (by kernel_rfl) rfl (by kernel_rfl) (by kernel_rfl) (by kernel_rfl) (fun _ _ _ h => h) (by rfl) (fun w' hw' => ?_) rfl ?_
          rotate_left
          · try (have hxx := cells3' (heap_gr (Gr.trans HC.out hw') HPR.out); obtain ⟨k0, k1, k2⟩ := hxx; have hca := cell_gr (Gr.trans HC.out hw') (cell_gr HBW.out HC1.out))
            go_simp
            with_reducible rfl
          simp only [Act.put, List.setIfInBounds_toArray, List.set_cons_zero, List.set_cons_succ]
          refine wpG_tail (i := 9) (by decide) rfl (by kernel_rfl) (by rfl) ?_
          go_simp
          refine (want_lp (HP.out.gr HC.out) (b + (x : Int)) HLE1.out).mono ?_
          rintro e wn ⟨rfl, mp2, hp2, ef, el, ht⟩
          have HQN := Lib.hid ((HQ.out.gr HC.out).other (HP.out.gr HC.out) ht HDJ.out)
          have HPN := Lib.hid hp2
          have HDN : Hid (∀ k ∈ Fm gp mp2, k ∉ Fm gq mq) := by
            show ∀ k ∈ Fm gp mp2, k ∉ Fm gq mq
            rw [Fm.same ef el]; exact HDJ.out
          clear hp2 ef el ht
          try simp only [Act.put, List.setIfInBounds_toArray, List.set_cons_zero, List.set_cons_succ]
          refine wpG_done (by kernel_rfl) ?_ _
          clear HC HP HQ HDJ HPR HC1 HBW
          go_upto_region 14 with fail
          have HC : Hid (Gr wn wn.drew) := Gr.drew wn
          have HBL : Hid (Below U.heap.size U wn.drew) := HPN.out.low.drew
          refine wp_region_G 20 (Below (U.heap.size)) (by kernel_rfl) ?_
          generalize wn.drew = wc at HC HBL ⊢
          -- 0: slot 63
          refine wpG_take (preBelow (U.heap.size)) (i := 0) (v := ?_) (by kernel_rfl) (some 63) (by kernel_rfl) rfl (by kernel_rfl) (by kernel_rfl) (by kernel_rfl) (fun _ _ _ h => h) (by rfl) (fun w' hw' => ?_) rfl ?_
          rotate_left
          · try (have hU := HBL.out.trans hw'; have hxx := cells3' (heap_below HPU.out hU); obtain ⟨k0, k1, k2⟩ := hxx; have hca := cell_gr (HBU.out.trans (Below.mono hU HBU.out.size)) HC2.out)
            go_simp
            with_reducible rfl
          simp only [Act.put, List.setIfInBounds_toArray, List.set_cons_zero, List.set_cons_succ]
          -- 1: slot 64
          refine wpG_take (preBelow (U.heap.size)) (i := 1) (v := ?_) (by kernel_rfl) (some 64) (by kernel_rfl) rfl (by kernel_rfl) (by kernel_rfl) (by kernel_rfl) (fun _ _ _ h => h) (by rfl) (fun w' hw' => ?_) rfl ?_
          rotate_left
          · try (have hU := HBL.out.trans hw'; have hxx := cells3' (heap_below HPU.out hU); obtain ⟨k0, k1, k2⟩ := hxx; have hca := cell_gr (HBU.out.trans (Below.mono hU HBU.out.size)) HC2.out)
            go_simp
            with_reducible rfl
          simp only [Act.put, List.setIfInBounds_toArray, List.set_cons_zero, List.set_cons_succ]
          -- 2: slot 65
          refine wpG_take (preBelow (U.heap.size)) (i := 2) (v := ?_) (by kernel_rfl) (some 65) (by kernel_rfl) rfl (by kernel_rfl) (by kernel_rfl) (by kernel_rfl) (fun _ _ _ h => h) (by rfl) (fun w' hw' => ?_) rfl ?_
          rotate_left
          · try (have hU := HBL.out.trans hw'; have hxx := cells3' (heap_below HPU.out hU); obtain ⟨k0, k1, k2⟩ := hxx; have hca := cell_gr (HBU.out.trans (Below.mono hU HBU.out.size)) HC2.out)
            go_simp
            with_reducible rfl
          simp only [Act.put, List.setIfInBounds_toArray, List.set_cons_zero, List.set_cons_succ]
          -- 3: slot 66
          refine wpG_take (preBelow (U.heap.size)) (i := 3) (v := ?_) (by kernel_rfl) (some 66) (by kernel_rfl) rfl (by kernel_rfl) (by kernel_rfl) (by kernel_rfl) (fun _ _ _ h => h) (by rfl) (fun w' hw' => ?_) rfl ?_
          rotate_left
          · try (have hU := HBL.out.trans hw'; have hxx := cells3' (heap_below HPU.out hU); obtain ⟨k0, k1, k2⟩ := hxx; have hca := cell_gr (HBU.out.trans (Below.mono hU HBU.out.size)) HC2.out)
            go_simp
            with_reducible rfl
          simp only [Act.put, List.setIfInBounds_toArray, List.set_cons_zero, List.set_cons_succ]
          -- 4: slot 67
          refine wpG_take (preBelow (U.heap.size)) (i := 4) (v := ?_) (by kernel_rfl) (some 67) (by kernel_rfl) rfl (by kernel_rfl) (by kernel_rfl) (by kernel_rfl) (fun _ _ _ h => h) (by rfl) (fun w' hw' => ?_) rfl ?_
          rotate_left
          · try (have hU := HBL.out.trans hw'; have hxx := cells3' (heap_below HPU.out hU); obtain ⟨k0, k1, k2⟩ := hxx; have hca := cell_gr (HBU.out.trans (Below.mono hU HBU.out.size)) HC2.out)
            go_simp
            with_reducible rfl
          simp only [Act.put, List.setIfInBounds_toArray, List.set_cons_zero, List.set_cons_succ]
          -- 5: slot 68
          refine wpG_take (preBelow (U.heap.size)) (i := 5) (v := ?_) (by kernel_rfl) (some 68) (by kernel_rfl) rfl (by kernel_rfl) (by kernel_rfl) (by kernel_rfl) (fun _ _ _ h => h) (by rfl) (fun w' hw' => ?_) rfl ?_
          rotate_left
          · try (have hU := HBL.out.trans hw'; have hxx := cells3' (heap_below HPU.out hU); obtain ⟨k0, k1, k2⟩ := hxx; have hca := cell_gr (HBU.out.trans (Below.mono hU HBU.out.size)) HC2.out)
            go_simp
            with_reducible rfl
          simp only [Act.put, List.setIfInBounds_toArray, List.set_cons_zero, List.set_cons_succ]
          -- 6: slot 69
          refine wpG_take (preBelow (U.heap.size)) (i := 6) (v := ?_) (by kernel_rfl) (some 69) (by kernel_rfl) rfl (by kernel_rfl) (by kernel_rfl) (by kernel_rfl) (fun _ _ _ h => h) (by rfl) (fun w' hw' => ?_) rfl ?_
          rotate_left
          · try (have hU := HBL.out.trans hw'; have hxx := cells3' (heap_below HPU.out hU); obtain ⟨k0, k1, k2⟩ := hxx; have hca := cell_gr (HBU.out.trans (Below.mono hU HBU.out.size)) HC2.out)
            go_simp
            with_reducible rfl
          simp only [Act.put, List.setIfInBounds_toArray, List.set_cons_zero, List.set_cons_succ]
          -- 7: slot 70
          refine wpG_take (preBelow (U.heap.size)) (i := 7) (v := ?_) (by kernel_rfl) (some 70) (by kernel_rfl) rfl (by kernel_rfl) (by kernel_rfl) (by kernel_rfl) (fun _ _ _ h => h) (by rfl) (fun w' hw' => ?_) rfl ?_
          rotate_left
          · try (have hU := HBL.out.trans hw'; have hxx := cells3' (heap_below HPU.out hU); obtain ⟨k0, k1, k2⟩ := hxx; have hca := cell_gr (HBU.out.trans (Below.mono hU HBU.out.size)) HC2.out)
            go_simp
            with_reducible rfl
          simp only [Act.put, List.setIfInBounds_toArray, List.set_cons_zero, List.set_cons_succ]
          -- 8: slot 71
          refine wpG_take (preBelow (U.heap.size)) (i := 8) (v := ?_) (by kernel_rfl) (some 71) (by kernel_rfl) rfl (by kernel_rfl) (by kernel_rfl) (by kernel_rfl) (fun _ _ _ h => h) (by rfl) (fun w' hw' => ?_) rfl ?_
          rotate_left
          · try (have hU := HBL.out.trans hw'; have hxx := cells3' (heap_below HPU.out hU); obtain ⟨k0, k1, k2⟩ := hxx; have hca := cell_gr (HBU.out.trans (Below.mono hU HBU.out.size)) HC2.out)
            go_simp
            with_reducible rfl
          simp only [Act.put, List.setIfInBounds_toArray, List.set_cons_zero, List.set_cons_succ]
          -- 9: slot 72
          refine wpG_take (preBelow (U.heap.size)) (i := 9) (v := ?_) (by kernel_rfl) (some 72) (by kernel_rfl) rfl (by kernel_rfl) (by kernel_rfl) (by kernel_rfl) (fun _ _ _ h => h) (by rfl) (fun w' hw' => ?_) rfl ?_
          rotate_left
          · try (have hU := HBL.out.trans hw'; have hxx := cells3' (heap_below HPU.out hU); obtain ⟨k0, k1, k2⟩ := hxx; have hca := cell_gr (HBU.out.trans (Below.mono hU HBU.out.size)) HC2.out)
            go_simp
            with_reducible rfl
          simp only [Act.put, List.setIfInBounds_toArray, List.set_cons_zero, List.set_cons_succ]
          -- 10: slot 73
          refine wpG_take (preBelow (U.heap.size)) (i := 10) (v := ?_) (by kernel_rfl) (some 73) (by kernel_rfl) rfl (by kernel_rfl) (by kernel_rfl) (by kernel_rfl) (fun _ _ _ h => h) (by rfl) (fun w' hw' => ?_) rfl ?_
          rotate_left
          · try (have hU := HBL.out.trans hw'; have hxx := cells3' (heap_below HPU.out hU); obtain ⟨k0, k1, k2⟩ := hxx; have hca := cell_gr (HBU.out.trans (Below.mono hU HBU.out.size)) HC2.out)
            go_simp
            with_reducible rfl
          simp only [Act.put, List.setIfInBounds_toArray, List.set_cons_zero, List.set_cons_succ]
          -- 11: slot 74
          refine wpG_take (preBelow (U.heap.size)) (i := 11) (v := ?_) (by kernel_rfl) (some 74) (by kernel_rfl) rfl (by kernel_rfl) (by kernel_rfl) (by kernel_rfl) (fun _ _ _ h => h) (by rfl) (fun w' hw' => ?_) rfl ?_
          rotate_left
          · try (have hU := HBL.out.trans hw'; have hxx := cells3' (heap_below HPU.out hU); obtain ⟨k0, k1, k2⟩ := hxx; have hca := cell_gr (HBU.out.trans (Below.mono hU HBU.out.size)) HC2.out)
            go_simp
            with_reducible rfl
          simp only [Act.put, List.setIfInBounds_toArray, List.set_cons_zero, List.set_cons_succ]
          -- 12: slot 75
          refine wpG_take (preBelow (U.heap.size)) (i := 12) (v := ?_) (by kernel_rfl) (some 75) (by kernel_rfl) rfl (by kernel_rfl) (by kernel_rfl) (by kernel_rfl) (fun _ _ _ h => h) (by rfl) (fun w' hw' => ?_) rfl ?_
          rotate_left
          · try (have hU := HBL.out.trans hw'; have hxx := cells3' (heap_below HPU.out hU); obtain ⟨k0, k1, k2⟩ := hxx; have hca := cell_gr (HBU.out.trans (Below.mono hU HBU.out.size)) HC2.out)
            go_simp
            with_reducible rfl
          simp only [Act.put, List.setIfInBounds_toArray, List.set_cons_zero, List.set_cons_succ]
          -- 13: slot 76
          refine wpG_take (preBelow (U.heap.size)) (i := 13) (v := ?_) (by kernel_rfl) (some 76) (by kernel_rfl) rfl (by kernel_rfl) (by kernel_rfl) (by kernel_rfl) (fun _ _ _ h => h) (by rfl) (fun w' hw' => ?_) rfl ?_
          rotate_left
          · try (have hU := HBL.out.trans hw'; have hxx := cells3' (heap_below HPU.out hU); obtain ⟨k0, k1, k2⟩ := hxx; have hca := cell_gr (HBU.out.trans (Below.mono hU HBU.out.size)) HC2.out)
            go_simp
            with_reducible rfl
          simp only [Act.put, List.setIfInBounds_toArray, List.set_cons_zero, List.set_cons_succ]
          -- 14: slot 77
          refine wpG_take (preBelow (U.heap.size)) (i := 14) (v := ?_) (by kernel_rfl) (some 77) (by kernel_rfl) rfl (by kernel_rfl) (by kernel_rfl) (by kernel_rfl) (fun _ _ _ h => h) (by rfl) (fun w' hw' => ?_) rfl ?_
          rotate_left
          · try (have hU := HBL.out.trans hw'; have hxx := cells3' (heap_below HPU.out hU); obtain ⟨k0, k1, k2⟩ := hxx; have hca := cell_gr (HBU.out.trans (Below.mono hU HBU.out.size)) HC2.out)
            go_simp
            with_reducible rfl
          simp only [Act.put, List.setIfInBounds_toArray, List.set_cons_zero, List.set_cons_succ]
          -- 15: slot 78
          refine wpG_take (preBelow (U.heap.size)) (i := 15) (v := ?_) (by kernel_rfl) (some 78) (by kernel_rfl) rfl (by kernel_rfl) (by kernel_rfl) (by kernel_rfl) (fun _ _ _ h => h) (by rfl) (fun w' hw' => ?_) rfl ?_
          rotate_left
          · try (have hU := HBL.out.trans hw'; have hxx := cells3' (heap_below HPU.out hU); obtain ⟨k0, k1, k2⟩ := hxx; have hca := cell_gr (HBU.out.trans (Below.mono hU HBU.out.size)) HC2.out)
            go_simp
            with_reducible rfl
          simp only [Act.put, List.setIfInBounds_toArray, List.set_cons_zero, List.set_cons_succ]
          -- 16: slot 79
          refine wpG_take (preBelow (U.heap.size)) (i := 16) (v := ?_) (by kernel_rfl) (some 79) (by kernel_rfl) rfl (by kernel_rfl) (by kernel_rfl) (by kernel_rfl) (fun _ _ _ h => h) (by rfl) (fun w' hw' => ?_) rfl ?_
          rotate_left
          · try (have hU := HBL.out.trans hw'; have hxx := cells3' (heap_below HPU.out hU); obtain ⟨k0, k1, k2⟩ := hxx; have hca := cell_gr (HBU.out.trans (Below.mono hU HBU.out.size)) HC2.out)
            go_simp
            with_reducible rfl
          simp only [Act.put, List.setIfInBounds_toArray, List.set_cons_zero, List.set_cons_succ]
          -- 17: slot 80
          refine wpG_take (preBelow (U.heap.size)) (i := 17) (v := ?_) (by kernel_rfl) (some 80) (by kernel_rfl) rfl (by kernel_rfl) (by kernel_rfl) (by kernel_rfl) (fun _ _ _ h => h) (by rfl) (fun w' hw' => ?_) rfl ?_
          rotate_left
          · try (have hU := HBL.out.trans hw'; have hxx := cells3' (heap_below HPU.out hU); obtain ⟨k0, k1, k2⟩ := hxx; have hca := cell_gr (HBU.out.trans (Below.mono hU HBU.out.size)) HC2.out)
            go_simp
            with_reducible rfl
          simp only [Act.put, List.setIfInBounds_toArray, List.set_cons_zero, List.set_cons_succ]
          -- 18: slot 81
          refine wpG_take (preBelow (U.heap.size)) (i := 18) (v := ?_) (by kernel_rfl) (some 81) (by kernel_rfl) rfl (by kernel_rfl) (by kernel_rfl) (by kernel_rfl) (fun _ _ _ h => h) (by rfl) (fun w' hw' => ?_) rfl ?_
          rotate_left
          · try (have hU := HBL.out.trans hw'; have hxx := cells3' (heap_below HPU.out hU); obtain ⟨k0, k1, k2⟩ := hxx; have hca := cell_gr (HBU.out.trans (Below.mono hU HBU.out.size)) HC2.out)
            go_simp
            with_reducible rfl
          simp only [Act.put, List.setIfInBounds_toArray, List.set_cons_zero, List.set_cons_succ]
          refine wpG_one (i := 19) rfl (by kernel_rfl) (by rfl) ?_
          go_simp
          refine (want_lp (HQN.out.gr HC.out) (b + (y : Int)) HLE2.out).mono ?_
          rintro e wm ⟨rfl, mq2, hq2, ef, el, ht⟩
          have hbt : Below U.heap.size wc wm := Id.Tr.below (Below.refl _ _) HBL.out.size ht (HQN.out.gr HC.out).off
          refine ⟨hbt, ?_⟩
          have HPM := Lib.hid ((HPN.out.gr HC.out).other (HQN.out.gr HC.out) ht (fun k hk hk2 => HDN.out k hk2 hk))
          have HQM := Lib.hid hq2
          have HDM : Hid (∀ k ∈ Fm gp mp2, k ∉ Fm gq mq2) := by
            show ∀ k ∈ Fm gp mp2, k ∉ Fm gq mq2
            rw [Fm.same ef el]; exact HDN.out
          clear hq2 ef el ht hbt
          try simp only [Act.put, List.setIfInBounds_toArray, List.set_cons_zero, List.set_cons_succ]
          refine wpG_done (by kernel_rfl) ?_ _
          clear HC HBL HC2 HPN HQN HDN d1 d2 d3 d4 d5 d6 d7 c1 c2 c3 c4 hqn hqi
          go_wp2_with fail
          go_roundw
          case rel =>
            first
              | exact ⟨i + 1, mp2, mq2, _, _, hle, by go_num, HPM, HQM, HDM, HS1, HS2⟩
              | ((repeat apply Exists.intro); exact ⟨⟨i + 1, mp2, mq2, _, _, hle, by go_num, HPM, HQM, HDM, HS1, HS2⟩, rfl⟩)
          case measure => simp [intOf]; omega
        · have hie : i = nv := by omega
          have hSS : Sp = Sq := by
            have h1 := HWP.out
            have h2 := HWQ.out
            rw [hie] at h1 h2
            refine h1.same h2 (fun j hj => ?_) (fun j hj => ⟨piv nv T j, piv_lt (by omega), rfl⟩)
            obtain ⟨k, hk, e⟩ := piv_onto (n := nv) (t := T) hj
            exact ⟨k, hk, by show F j = F _; rw [e]⟩
          subst hSS
          have HTP := Lib.hid (take_lp HP.out)
          obtain ⟨X, hX⟩ : ∃ X, X = (take Sp).2.1 := ⟨_, rfl⟩
          obtain ⟨Y, hY⟩ : ∃ Y, Y = (take Sp).2.2 := ⟨_, rfl⟩
          obtain ⟨S9, hS9⟩ : ∃ S, S = (take Sp).1 := ⟨_, rfl⟩
          rw [← hX, ← hY, ← hS9] at HTP
          have hxx : ((X : Int) == X) = true := by simp
          have hyy : ((Y : Int) == Y) = true := by simp
          have HTQ : Hid (∀ w m, LP U gq m w Sp → Calls Tryd.prog 15 #[.pointer (some ⟨gq, 0, none⟩)] w fun e w' => e = .returned (.tuple #[.int .i64 X, .int .i64 Y]) ∧ LGo U gq m w S9 w') := fun w m h => by
            have := take_lp h
            rwa [← hX, ← hY, ← hS9] at this
          clear hX hY hS9 hie
          go_wp2_with fail
          refine HTP.out.mono ?_
          rintro e wa ⟨rfl, mp2, hp2, ef, el, ht⟩
          have hqa := HQ.out.other HP.out ht HDJ.out
          have HPA := Lib.hid hp2
          have HQA := Lib.hid hqa
          have HDA : Hid (∀ k ∈ Fm gp mp2, k ∉ Fm gq mq) := by
            show ∀ k ∈ Fm gp mp2, k ∉ Fm gq mq
            rw [Fm.same ef el]; exact HDJ.out
          have HTB := Lib.hid (HTQ.out wa mq hqa)
          clear hp2 ef el ht hqa HP HQ HDJ HTP HTQ
          go_wp2_with fail
          refine HTB.out.mono ?_
          rintro e wb2 ⟨rfl, mq2, hq2, ef, el, ht⟩
          have hpb := HPA.out.other HQA.out ht (fun k hk hk2 => HDA.out k hk2 hk)
          have HQB := Lib.hid hq2
          have HPB := Lib.hid hpb
          have HLP := Lib.hid (leased_lp hpb)
          clear hq2 ef el ht hpb HPA HQA HTB
          go_wp2_with fail
          refine HLP.out.mono ?_
          rintro e wc ⟨v1, rfl, ho1, hb1, hp1⟩
          have hqc := HQB.out.gr hb1
          have HO1 := Lib.hid ho1
          have HPC := Lib.hid hp1
          have HLQ := Lib.hid (leased_lp hqc)
          clear ho1 hb1 hp1 HLP HPB HQB
          obtain ⟨av1, cv1, ev1, _, _⟩ := (own_rd HO1.out).shape
          subst ev1
          go_wp2_with fail
          refine HLQ.out.mono ?_
          rintro e wd ⟨v2, rfl, ho2, hb2, hq2⟩
          have HPD := Lib.hid (HPC.out.gr hb2)
          have HQD := Lib.hid hq2
          have HSM := Lib.hid (same_rows (l := S9.L) wd (Rd.below (by have := own_rd HO1.out; exact this) hb2) (by have := own_rd ho2; exact this) (by have := (OkP.few HQD.out.po.ok); omega))
          obtain ⟨av2, cv2, ev2, _, _⟩ := (own_rd ho2).shape
          subst ev2
          clear ho2 hb2 hq2 HLQ HPC hqc
          go_wp2_with fail
          refine HSM.out.mono ?_
          rintro e we ⟨rfl, hb3⟩
          have HPE := Lib.hid (HPD.out.gr hb3)
          have HQE := Lib.hid (HQD.out.gr hb3)
          have HF1 := Lib.hid (free_lp HPE.out)
          clear hb3 HSM HPD HQD
          go_wp2_with fail
          refine HF1.out.mono ?_
          rintro e w' ⟨rfl, rfl⟩
          have HF2 := Lib.hid (free_lp HQE.out)
          have hff : ((free S9 : Int) == free S9) = true := by simp
          clear HF1
          go_wp2_with fail
          refine HF2.out.mono ?_
          rintro e w' ⟨rfl, rfl⟩
          have HLAST : Hid (Below W.heap.size W we) := HBU.out.trans (Below.mono HPE.out.low HBU.out.size)
          go_wp2
          go_ret
          exact ⟨rfl, HLAST.out⟩
    · have HBV := HBS
      have HNV := HN1
      have HN40 : Hid (n1 ≤ 40) := by show _ ≤ _; omega
      obtain ⟨lv, hlv⟩ : ∃ x, x = ls := ⟨_, rfl⟩
      rw [← hlv] at HBV HNV
      obtain ⟨F, hF⟩ : ∃ F : Nat → Int, F = fun j => b + ((lv.getD j 0).toNat : Int) := ⟨_, rfl⟩
      have HF := Lib.hid hF
      clear hF hlv
      go_wp2_with fail
      go_loopw [11] (fun iv wr => ∃ (i : Nat) (mp mq : Pm) (Sp Sq : Po), i ≤ n1 ∧ iv = .int .i64 (i : Int) ∧ Hid (LP U gp mp wr Sp) ∧ Hid (LP U gq mq wr Sq) ∧ Hid (∀ k ∈ Fm gp mp, k ∉ Fm gq mq) ∧ Hid (Wd S0 Sp F i) ∧ Hid (Wd S0 Sq (fun j => F (piv n1 T j)) i)) (fun iv _ => n1 - (intOf iv).toNat)
      case atStart => exact ⟨0, mp, mq, S0, S0, Nat.zero_le _, rfl, HP5, HQ5, HDJ, ⟨rfl, rfl, rfl, HP5.out.po.ok, fun y => ⟨.inl, fun h => h.elim id fun ⟨j, h1, _⟩ => by omega⟩⟩, ⟨rfl, rfl, rfl, HP5.out.po.ok, fun y => ⟨.inl, fun h => h.elim id fun ⟨j, h1, _⟩ => by omega⟩⟩⟩
      case round =>
        clear HP5 HQ5 HDJ
        obtain ⟨i, mp, mq, Sp, Sq, hin, rfl, HP, HQ, HDJ, HWP, HWQ⟩ := hrel
        by_cases hlt : i < n1
        · have HPR := Lib.hid (heap_below HPU.out HP.out.low)
          have HBW : Hid (Below W.heap.size W wr) := HBU.out.trans (Below.mono HP.out.low HBU.out.size)
          have hil : i < lv.length := by rw [← HNV.out]; exact hlt
          obtain ⟨bb, o, ea, _, hcel⟩ := Bs.cells (l := lv) (by exact HBV.out) (by omega)
          subst ea
          have hpl := piv_lt (t := T) (i := i) (show 0 < n1 by omega)
          have hpl2 : piv n1 T i < lv.length := by rw [← HNV.out]; exact hpl
          have HC1 := Lib.hid (hcel i hil)
          have HC2 := Lib.hid (hcel _ hpl2)
          have hF1 : F i = b + (lv[i].toNat : Int) := by rw [HF.out]; simp [List.getD_eq_getElem?_getD, hil]
          have hF2 : F (piv n1 T i) = b + (lv[piv n1 T i].toNat : Int) := by rw [HF.out]; simp [List.getD_eq_getElem?_getD, hpl2]
          obtain ⟨x, hx⟩ : ∃ x, x = lv[i].toNat := ⟨_, rfl⟩
          obtain ⟨y, hy⟩ : ∃ y, y = lv[piv n1 T i].toNat := ⟨_, rfl⟩
          have hx256 : x < 256 := by rw [hx]; exact UInt8.toNat_lt _
          have hy256 : y < 256 := by rw [hy]; exact UInt8.toNat_lt _
          rw [← hx] at HC1 hF1
          rw [← hy] at HC2 hF2
          have hbr := HBR.out
          have hT := HT2.out
          have s1 := HWP.out.step
          have s2 := HWQ.out.step
          try dsimp only at s2
          rw [hF1] at s1
          rw [hF2] at s2
          have HS1 := Lib.hid s1
          have HS2 := Lib.hid s2
          obtain ⟨q, hq⟩ : ∃ q, q = piv n1 T i := ⟨_, rfl⟩
          obtain ⟨m1, m2, m3, c1, c2, c3, c4, d1, d2, d3, d4, d5, d6, d7, hle1, hle2, hqn, hqi, hle⟩ := ord_arith (n := n1) HN40.out hlt hT hx256 hy256 hbr hq
          rw [← hq] at HC2
          have HLE1 : Hid (b + (x : Int) ≤ 9223372036854775807) := hle1
          have HLE2 : Hid (b + (y : Int) ≤ 9223372036854775807) := hle2
          have HHQ : Hid (q < n1) := hqn
          clear hcel hpl hpl2 hF1 hF2 hx hy hx256 hy256 hbr hT s1 s2 hq hil hle1 hle2
          go_upto_region 13 with fail
          have HC : Hid (Gr wr wr.drew) := Gr.drew wr
          refine wp_region_G 9 Gr (by kernel_rfl) ?_
          generalize wr.drew = wc at HC ⊢
          -- 0: slot 53
          refine wpG_take preGr (i := 0) (v := ?_) (by kernel_rfl) (some 53) (by kernel_rfl) rfl (by kernel_rfl) (by kernel_rfl) (by kernel_rfl) (fun _ _ _ h => h) (by rfl) (fun w' hw' => ?_) rfl ?_
          rotate_left
          · try (have hxx := cells3' (heap_gr (Gr.trans HC.out hw') HPR.out); obtain ⟨k0, k1, k2⟩ := hxx; have hca := cell_gr (Gr.trans HC.out hw') (cell_gr HBW.out HC1.out))
            go_simp
            with_reducible rfl
          simp only [Act.put, List.setIfInBounds_toArray, List.set_cons_zero, List.set_cons_succ]
          -- 1: slot 54
          refine wpG_take preGr (i := 1) (v := ?_) (by kernel_rfl) (some 54) (by kernel_rfl) rfl (by kernel_rfl) (by kernel_rfl) (by kernel_rfl) (fun _ _ _ h => h) (by rfl) (fun w' hw' => ?_) rfl ?_
          rotate_left
          · try (have hxx := cells3' (heap_gr (Gr.trans HC.out hw') HPR.out); obtain ⟨k0, k1, k2⟩ := hxx; have hca := cell_gr (Gr.trans HC.out hw') (cell_gr HBW.out HC1.out))
            go_simp
            with_reducible rfl
          simp only [Act.put, List.setIfInBounds_toArray, List.set_cons_zero, List.set_cons_succ]
          -- 2: slot 55
          refine wpG_take preGr (i := 2) (v := ?_) (by kernel_rfl) (some 55) (by kernel_rfl) rfl (by kernel_rfl) (by kernel_rfl) (by kernel_rfl) (fun _ _ _ h => h) (by rfl) (fun w' hw' => ?_) rfl ?_
          rotate_left
          · try (have hxx := cells3' (heap_gr (Gr.trans HC.out hw') HPR.out); obtain ⟨k0, k1, k2⟩ := hxx; have hca := cell_gr (Gr.trans HC.out hw') (cell_gr HBW.out HC1.out))
            go_simp
            with_reducible rfl
          simp only [Act.put, List.setIfInBounds_toArray, List.set_cons_zero, List.set_cons_succ]
          -- 3: slot 56
          refine wpG_take preGr (i := 3) (v := ?_) (by kernel_rfl) (some 56) (by kernel_rfl) rfl (by kernel_rfl) (by kernel_rfl) (by kernel_rfl) (fun _ _ _ h => h) (by rfl) (fun w' hw' => ?_) rfl ?_
          rotate_left
          · try (have hxx := cells3' (heap_gr (Gr.trans HC.out hw') HPR.out); obtain ⟨k0, k1, k2⟩ := hxx; have hca := cell_gr (Gr.trans HC.out hw') (cell_gr HBW.out HC1.out))
            go_simp
            with_reducible rfl
          simp only [Act.put, List.setIfInBounds_toArray, List.set_cons_zero, List.set_cons_succ]
          -- 4: slot 57
          refine wpG_take preGr (i := 4) (v := ?_) (by kernel_rfl) (some 57) (by kernel_rfl) rfl (by kernel_rfl) (by kernel_rfl) (by kernel_rfl) (fun _ _ _ h => h) (by rfl) (fun w' hw' => ?_) rfl ?_
          rotate_left
          · try (have hxx := cells3' (heap_gr (Gr.trans HC.out hw') HPR.out); obtain ⟨k0, k1, k2⟩ := hxx; have hca := cell_gr (Gr.trans HC.out hw') (cell_gr HBW.out HC1.out))
            go_simp
            with_reducible rfl
          simp only [Act.put, List.setIfInBounds_toArray, List.set_cons_zero, List.set_cons_succ]
          -- 5: slot 58
          refine wpG_take preGr (i := 5) (v := ?_) (by kernel_rfl) (some 58) (by kernel_rfl) rfl (by kernel_rfl) (by kernel_rfl) (by kernel_rfl) (fun _ _ _ h => h) (by rfl) (fun w' hw' => ?_) rfl ?_
          rotate_left
          · try (have hxx := cells3' (heap_gr (Gr.trans HC.out hw') HPR.out); obtain ⟨k0, k1, k2⟩ := hxx; have hca := cell_gr (Gr.trans HC.out hw') (cell_gr HBW.out HC1.out))
            go_simp
            with_reducible rfl
          simp only [Act.put, List.setIfInBounds_toArray, List.set_cons_zero, List.set_cons_succ]
          -- 6: slot 59
          refine wpG_take preGr (i := 6) (v := ?_) (by kernel_rfl) (some 59) (by kernel_rfl) rfl (by kernel_rfl) (by kernel_rfl) (by kernel_rfl) (fun _ _ _ h => h) (by rfl) (fun w' hw' => ?_) rfl ?_
          rotate_left
          · try (have hxx := cells3' (heap_gr (Gr.trans HC.out hw') HPR.out); obtain ⟨k0, k1, k2⟩ := hxx; have hca := cell_gr (Gr.trans HC.out hw') (cell_gr HBW.out HC1.out))
            go_simp
            with_reducible rfl
          simp only [Act.put, List.setIfInBounds_toArray, List.set_cons_zero, List.set_cons_succ]
          -- 7: slot 60
          refine wpG_take preGr (i := 7) (v := ?_) (by kernel_rfl) (some 60) (by kernel_rfl) rfl (by kernel_rfl) (by kernel_rfl) (by kernel_rfl) (fun _ _ _ h => h) (by rfl) (fun w' hw' => ?_) rfl ?_
          rotate_left
          · try (have hxx := cells3' (heap_gr (Gr.trans HC.out hw') HPR.out); obtain ⟨k0, k1, k2⟩ := hxx; have hca := cell_gr (Gr.trans HC.out hw') (cell_gr HBW.out HC1.out))
            go_simp
            with_reducible rfl
          simp only [Act.put, List.setIfInBounds_toArray, List.set_cons_zero, List.set_cons_succ]
          -- 8: slot 61
          refine wpG_take preGr (i := 8) (v := ?_) (by kernel_rfl) (some 61) (by kernel_rfl) rfl (by kernel_rfl) (by kernel_rfl) (by kernel_rfl) (fun _ _ _ h => h) (by rfl) (fun w' hw' => ?_) rfl ?_
          rotate_left
          · try (have hxx := cells3' (heap_gr (Gr.trans HC.out hw') HPR.out); obtain ⟨k0, k1, k2⟩ := hxx; have hca := cell_gr (Gr.trans HC.out hw') (cell_gr HBW.out HC1.out))
            go_simp
            with_reducible rfl
          simp only [Act.put, List.setIfInBounds_toArray, List.set_cons_zero, List.set_cons_succ]
          refine wpG_tail (i := 9) (by decide) rfl (by kernel_rfl) (by rfl) ?_
          go_simp
          refine (want_lp (HP.out.gr HC.out) (b + (x : Int)) HLE1.out).mono ?_
          rintro e wn ⟨rfl, mp2, hp2, ef, el, ht⟩
          have HQN := Lib.hid ((HQ.out.gr HC.out).other (HP.out.gr HC.out) ht HDJ.out)
          have HPN := Lib.hid hp2
          have HDN : Hid (∀ k ∈ Fm gp mp2, k ∉ Fm gq mq) := by
            show ∀ k ∈ Fm gp mp2, k ∉ Fm gq mq
            rw [Fm.same ef el]; exact HDJ.out
          clear hp2 ef el ht
          try simp only [Act.put, List.setIfInBounds_toArray, List.set_cons_zero, List.set_cons_succ]
          refine wpG_done (by kernel_rfl) ?_ _
          clear HC HP HQ HDJ HPR HC1 HBW
          go_upto_region 14 with fail
          have HC : Hid (Gr wn wn.drew) := Gr.drew wn
          have HBL : Hid (Below U.heap.size U wn.drew) := HPN.out.low.drew
          refine wp_region_G 20 (Below (U.heap.size)) (by kernel_rfl) ?_
          generalize wn.drew = wc at HC HBL ⊢
          -- 0: slot 63
          refine wpG_take (preBelow (U.heap.size)) (i := 0) (v := ?_) (by kernel_rfl) (some 63) (by kernel_rfl) rfl (by kernel_rfl) (by kernel_rfl) (by kernel_rfl) (fun _ _ _ h => h) (by rfl) (fun w' hw' => ?_) rfl ?_
          rotate_left
          · try (have hU := HBL.out.trans hw'; have hxx := cells3' (heap_below HPU.out hU); obtain ⟨k0, k1, k2⟩ := hxx; have hca := cell_gr (HBU.out.trans (Below.mono hU HBU.out.size)) HC2.out)
            go_simp
            with_reducible rfl
          simp only [Act.put, List.setIfInBounds_toArray, List.set_cons_zero, List.set_cons_succ]
          -- 1: slot 64
          refine wpG_take (preBelow (U.heap.size)) (i := 1) (v := ?_) (by kernel_rfl) (some 64) (by kernel_rfl) rfl (by kernel_rfl) (by kernel_rfl) (by kernel_rfl) (fun _ _ _ h => h) (by rfl) (fun w' hw' => ?_) rfl ?_
          rotate_left
          · try (have hU := HBL.out.trans hw'; have hxx := cells3' (heap_below HPU.out hU); obtain ⟨k0, k1, k2⟩ := hxx; have hca := cell_gr (HBU.out.trans (Below.mono hU HBU.out.size)) HC2.out)
            go_simp
            with_reducible rfl
          simp only [Act.put, List.setIfInBounds_toArray, List.set_cons_zero, List.set_cons_succ]
          -- 2: slot 65
          refine wpG_take (preBelow (U.heap.size)) (i := 2) (v := ?_) (by kernel_rfl) (some 65) (by kernel_rfl) rfl (by kernel_rfl) (by kernel_rfl) (by kernel_rfl) (fun _ _ _ h => h) (by rfl) (fun w' hw' => ?_) rfl ?_
          rotate_left
          · try (have hU := HBL.out.trans hw'; have hxx := cells3' (heap_below HPU.out hU); obtain ⟨k0, k1, k2⟩ := hxx; have hca := cell_gr (HBU.out.trans (Below.mono hU HBU.out.size)) HC2.out)
            go_simp
            with_reducible rfl
          simp only [Act.put, List.setIfInBounds_toArray, List.set_cons_zero, List.set_cons_succ]
          -- 3: slot 66
          refine wpG_take (preBelow (U.heap.size)) (i := 3) (v := ?_) (by kernel_rfl) (some 66) (by kernel_rfl) rfl (by kernel_rfl) (by kernel_rfl) (by kernel_rfl) (fun _ _ _ h => h) (by rfl) (fun w' hw' => ?_) rfl ?_
          rotate_left
          · try (have hU := HBL.out.trans hw'; have hxx := cells3' (heap_below HPU.out hU); obtain ⟨k0, k1, k2⟩ := hxx; have hca := cell_gr (HBU.out.trans (Below.mono hU HBU.out.size)) HC2.out)
            go_simp
            with_reducible rfl
          simp only [Act.put, List.setIfInBounds_toArray, List.set_cons_zero, List.set_cons_succ]
          -- 4: slot 67
          refine wpG_take (preBelow (U.heap.size)) (i := 4) (v := ?_) (by kernel_rfl) (some 67) (by kernel_rfl) rfl (by kernel_rfl) (by kernel_rfl) (by kernel_rfl) (fun _ _ _ h => h) (by rfl) (fun w' hw' => ?_) rfl ?_
          rotate_left
          · try (have hU := HBL.out.trans hw'; have hxx := cells3' (heap_below HPU.out hU); obtain ⟨k0, k1, k2⟩ := hxx; have hca := cell_gr (HBU.out.trans (Below.mono hU HBU.out.size)) HC2.out)
            go_simp
            with_reducible rfl
          simp only [Act.put, List.setIfInBounds_toArray, List.set_cons_zero, List.set_cons_succ]
          -- 5: slot 68
          refine wpG_take (preBelow (U.heap.size)) (i := 5) (v := ?_) (by kernel_rfl) (some 68) (by kernel_rfl) rfl (by kernel_rfl) (by kernel_rfl) (by kernel_rfl) (fun _ _ _ h => h) (by rfl) (fun w' hw' => ?_) rfl ?_
          rotate_left
          · try (have hU := HBL.out.trans hw'; have hxx := cells3' (heap_below HPU.out hU); obtain ⟨k0, k1, k2⟩ := hxx; have hca := cell_gr (HBU.out.trans (Below.mono hU HBU.out.size)) HC2.out)
            go_simp
            with_reducible rfl
          simp only [Act.put, List.setIfInBounds_toArray, List.set_cons_zero, List.set_cons_succ]
          -- 6: slot 69
          refine wpG_take (preBelow (U.heap.size)) (i := 6) (v := ?_) (by kernel_rfl) (some 69) (by kernel_rfl) rfl (by kernel_rfl) (by kernel_rfl) (by kernel_rfl) (fun _ _ _ h => h) (by rfl) (fun w' hw' => ?_) rfl ?_
          rotate_left
          · try (have hU := HBL.out.trans hw'; have hxx := cells3' (heap_below HPU.out hU); obtain ⟨k0, k1, k2⟩ := hxx; have hca := cell_gr (HBU.out.trans (Below.mono hU HBU.out.size)) HC2.out)
            go_simp
            with_reducible rfl
          simp only [Act.put, List.setIfInBounds_toArray, List.set_cons_zero, List.set_cons_succ]
          -- 7: slot 70
          refine wpG_take (preBelow (U.heap.size)) (i := 7) (v := ?_) (by kernel_rfl) (some 70) (by kernel_rfl) rfl (by kernel_rfl) (by kernel_rfl) (by kernel_rfl) (fun _ _ _ h => h) (by rfl) (fun w' hw' => ?_) rfl ?_
          rotate_left
          · try (have hU := HBL.out.trans hw'; have hxx := cells3' (heap_below HPU.out hU); obtain ⟨k0, k1, k2⟩ := hxx; have hca := cell_gr (HBU.out.trans (Below.mono hU HBU.out.size)) HC2.out)
            go_simp
            with_reducible rfl
          simp only [Act.put, List.setIfInBounds_toArray, List.set_cons_zero, List.set_cons_succ]
          -- 8: slot 71
          refine wpG_take (preBelow (U.heap.size)) (i := 8) (v := ?_) (by kernel_rfl) (some 71) (by kernel_rfl) rfl (by kernel_rfl) (by kernel_rfl) (by kernel_rfl) (fun _ _ _ h => h) (by rfl) (fun w' hw' => ?_) rfl ?_
          rotate_left
          · try (have hU := HBL.out.trans hw'; have hxx := cells3' (heap_below HPU.out hU); obtain ⟨k0, k1, k2⟩ := hxx; have hca := cell_gr (HBU.out.trans (Below.mono hU HBU.out.size)) HC2.out)
            go_simp
            with_reducible rfl
          simp only [Act.put, List.setIfInBounds_toArray, List.set_cons_zero, List.set_cons_succ]
          -- 9: slot 72
          refine wpG_take (preBelow (U.heap.size)) (i := 9) (v := ?_) (by kernel_rfl) (some 72) (by kernel_rfl) rfl (by kernel_rfl) (by kernel_rfl) (by kernel_rfl) (fun _ _ _ h => h) (by rfl) (fun w' hw' => ?_) rfl ?_
          rotate_left
          · try (have hU := HBL.out.trans hw'; have hxx := cells3' (heap_below HPU.out hU); obtain ⟨k0, k1, k2⟩ := hxx; have hca := cell_gr (HBU.out.trans (Below.mono hU HBU.out.size)) HC2.out)
            go_simp
            with_reducible rfl
          simp only [Act.put, List.setIfInBounds_toArray, List.set_cons_zero, List.set_cons_succ]
          -- 10: slot 73
          refine wpG_take (preBelow (U.heap.size)) (i := 10) (v := ?_) (by kernel_rfl) (some 73) (by kernel_rfl) rfl (by kernel_rfl) (by kernel_rfl) (by kernel_rfl) (fun _ _ _ h => h) (by rfl) (fun w' hw' => ?_) rfl ?_
          rotate_left
          · try (have hU := HBL.out.trans hw'; have hxx := cells3' (heap_below HPU.out hU); obtain ⟨k0, k1, k2⟩ := hxx; have hca := cell_gr (HBU.out.trans (Below.mono hU HBU.out.size)) HC2.out)
            go_simp
            with_reducible rfl
          simp only [Act.put, List.setIfInBounds_toArray, List.set_cons_zero, List.set_cons_succ]
          -- 11: slot 74
          refine wpG_take (preBelow (U.heap.size)) (i := 11) (v := ?_) (by kernel_rfl) (some 74) (by kernel_rfl) rfl (by kernel_rfl) (by kernel_rfl) (by kernel_rfl) (fun _ _ _ h => h) (by rfl) (fun w' hw' => ?_) rfl ?_
          rotate_left
          · try (have hU := HBL.out.trans hw'; have hxx := cells3' (heap_below HPU.out hU); obtain ⟨k0, k1, k2⟩ := hxx; have hca := cell_gr (HBU.out.trans (Below.mono hU HBU.out.size)) HC2.out)
            go_simp
            with_reducible rfl
          simp only [Act.put, List.setIfInBounds_toArray, List.set_cons_zero, List.set_cons_succ]
          -- 12: slot 75
          refine wpG_take (preBelow (U.heap.size)) (i := 12) (v := ?_) (by kernel_rfl) (some 75) (by kernel_rfl) rfl (by kernel_rfl) (by kernel_rfl) (by kernel_rfl) (fun _ _ _ h => h) (by rfl) (fun w' hw' => ?_) rfl ?_
          rotate_left
          · try (have hU := HBL.out.trans hw'; have hxx := cells3' (heap_below HPU.out hU); obtain ⟨k0, k1, k2⟩ := hxx; have hca := cell_gr (HBU.out.trans (Below.mono hU HBU.out.size)) HC2.out)
            go_simp
            with_reducible rfl
          simp only [Act.put, List.setIfInBounds_toArray, List.set_cons_zero, List.set_cons_succ]
          -- 13: slot 76
          refine wpG_take (preBelow (U.heap.size)) (i := 13) (v := ?_) (by kernel_rfl) (some 76) (by kernel_rfl) rfl (by kernel_rfl) (by kernel_rfl) (by kernel_rfl) (fun _ _ _ h => h) (by rfl) (fun w' hw' => ?_) rfl ?_
          rotate_left
          · try (have hU := HBL.out.trans hw'; have hxx := cells3' (heap_below HPU.out hU); obtain ⟨k0, k1, k2⟩ := hxx; have hca := cell_gr (HBU.out.trans (Below.mono hU HBU.out.size)) HC2.out)
            go_simp
            with_reducible rfl
          simp only [Act.put, List.setIfInBounds_toArray, List.set_cons_zero, List.set_cons_succ]
          -- 14: slot 77
          refine wpG_take (preBelow (U.heap.size)) (i := 14) (v := ?_) (by kernel_rfl) (some 77) (by kernel_rfl) rfl (by kernel_rfl) (by kernel_rfl) (by kernel_rfl) (fun _ _ _ h => h) (by rfl) (fun w' hw' => ?_) rfl ?_
          rotate_left
          · try (have hU := HBL.out.trans hw'; have hxx := cells3' (heap_below HPU.out hU); obtain ⟨k0, k1, k2⟩ := hxx; have hca := cell_gr (HBU.out.trans (Below.mono hU HBU.out.size)) HC2.out)
            go_simp
            with_reducible rfl
          simp only [Act.put, List.setIfInBounds_toArray, List.set_cons_zero, List.set_cons_succ]
          -- 15: slot 78
          refine wpG_take (preBelow (U.heap.size)) (i := 15) (v := ?_) (by kernel_rfl) (some 78) (by kernel_rfl) rfl (by kernel_rfl) (by kernel_rfl) (by kernel_rfl) (fun _ _ _ h => h) (by rfl) (fun w' hw' => ?_) rfl ?_
          rotate_left
          · try (have hU := HBL.out.trans hw'; have hxx := cells3' (heap_below HPU.out hU); obtain ⟨k0, k1, k2⟩ := hxx; have hca := cell_gr (HBU.out.trans (Below.mono hU HBU.out.size)) HC2.out)
            go_simp
            with_reducible rfl
          simp only [Act.put, List.setIfInBounds_toArray, List.set_cons_zero, List.set_cons_succ]
          -- 16: slot 79
          refine wpG_take (preBelow (U.heap.size)) (i := 16) (v := ?_) (by kernel_rfl) (some 79) (by kernel_rfl) rfl (by kernel_rfl) (by kernel_rfl) (by kernel_rfl) (fun _ _ _ h => h) (by rfl) (fun w' hw' => ?_) rfl ?_
          rotate_left
          · try (have hU := HBL.out.trans hw'; have hxx := cells3' (heap_below HPU.out hU); obtain ⟨k0, k1, k2⟩ := hxx; have hca := cell_gr (HBU.out.trans (Below.mono hU HBU.out.size)) HC2.out)
            go_simp
            with_reducible rfl
          simp only [Act.put, List.setIfInBounds_toArray, List.set_cons_zero, List.set_cons_succ]
          -- 17: slot 80
          refine wpG_take (preBelow (U.heap.size)) (i := 17) (v := ?_) (by kernel_rfl) (some 80) (by kernel_rfl) rfl (by kernel_rfl) (by kernel_rfl) (by kernel_rfl) (fun _ _ _ h => h) (by rfl) (fun w' hw' => ?_) rfl ?_
          rotate_left
          · try (have hU := HBL.out.trans hw'; have hxx := cells3' (heap_below HPU.out hU); obtain ⟨k0, k1, k2⟩ := hxx; have hca := cell_gr (HBU.out.trans (Below.mono hU HBU.out.size)) HC2.out)
            go_simp
            with_reducible rfl
          simp only [Act.put, List.setIfInBounds_toArray, List.set_cons_zero, List.set_cons_succ]
          -- 18: slot 81
          refine wpG_take (preBelow (U.heap.size)) (i := 18) (v := ?_) (by kernel_rfl) (some 81) (by kernel_rfl) rfl (by kernel_rfl) (by kernel_rfl) (by kernel_rfl) (fun _ _ _ h => h) (by rfl) (fun w' hw' => ?_) rfl ?_
          rotate_left
          · try (have hU := HBL.out.trans hw'; have hxx := cells3' (heap_below HPU.out hU); obtain ⟨k0, k1, k2⟩ := hxx; have hca := cell_gr (HBU.out.trans (Below.mono hU HBU.out.size)) HC2.out)
            go_simp
            with_reducible rfl
          simp only [Act.put, List.setIfInBounds_toArray, List.set_cons_zero, List.set_cons_succ]
          refine wpG_one (i := 19) rfl (by kernel_rfl) (by rfl) ?_
          go_simp
          refine (want_lp (HQN.out.gr HC.out) (b + (y : Int)) HLE2.out).mono ?_
          rintro e wm ⟨rfl, mq2, hq2, ef, el, ht⟩
          have hbt : Below U.heap.size wc wm := Id.Tr.below (Below.refl _ _) HBL.out.size ht (HQN.out.gr HC.out).off
          refine ⟨hbt, ?_⟩
          have HPM := Lib.hid ((HPN.out.gr HC.out).other (HQN.out.gr HC.out) ht (fun k hk hk2 => HDN.out k hk2 hk))
          have HQM := Lib.hid hq2
          have HDM : Hid (∀ k ∈ Fm gp mp2, k ∉ Fm gq mq2) := by
            show ∀ k ∈ Fm gp mp2, k ∉ Fm gq mq2
            rw [Fm.same ef el]; exact HDN.out
          clear hq2 ef el ht hbt
          try simp only [Act.put, List.setIfInBounds_toArray, List.set_cons_zero, List.set_cons_succ]
          refine wpG_done (by kernel_rfl) ?_ _
          clear HC HBL HC2 HPN HQN HDN d1 d2 d3 d4 d5 d6 d7 c1 c2 c3 c4 hqn hqi
          go_wp2_with fail
          go_roundw
          case rel =>
            first
              | exact ⟨i + 1, mp2, mq2, _, _, hle, by go_num, HPM, HQM, HDM, HS1, HS2⟩
              | ((repeat apply Exists.intro); exact ⟨⟨i + 1, mp2, mq2, _, _, hle, by go_num, HPM, HQM, HDM, HS1, HS2⟩, rfl⟩)
          case measure => simp [intOf]; omega
        · have hie : i = n1 := by omega
          have hSS : Sp = Sq := by
            have h1 := HWP.out
            have h2 := HWQ.out
            rw [hie] at h1 h2
            refine h1.same h2 (fun j hj => ?_) (fun j hj => ⟨piv n1 T j, piv_lt (by omega), rfl⟩)
            obtain ⟨k, hk, e⟩ := piv_onto (n := n1) (t := T) hj
            exact ⟨k, hk, by show F j = F _; rw [e]⟩
          subst hSS
          have HTP := Lib.hid (take_lp HP.out)
          obtain ⟨X, hX⟩ : ∃ X, X = (take Sp).2.1 := ⟨_, rfl⟩
          obtain ⟨Y, hY⟩ : ∃ Y, Y = (take Sp).2.2 := ⟨_, rfl⟩
          obtain ⟨S9, hS9⟩ : ∃ S, S = (take Sp).1 := ⟨_, rfl⟩
          rw [← hX, ← hY, ← hS9] at HTP
          have hxx : ((X : Int) == X) = true := by simp
          have hyy : ((Y : Int) == Y) = true := by simp
          have HTQ : Hid (∀ w m, LP U gq m w Sp → Calls Tryd.prog 15 #[.pointer (some ⟨gq, 0, none⟩)] w fun e w' => e = .returned (.tuple #[.int .i64 X, .int .i64 Y]) ∧ LGo U gq m w S9 w') := fun w m h => by
            have := take_lp h
            rwa [← hX, ← hY, ← hS9] at this
          clear hX hY hS9 hie
          go_wp2_with fail
          refine HTP.out.mono ?_
          rintro e wa ⟨rfl, mp2, hp2, ef, el, ht⟩
          have hqa := HQ.out.other HP.out ht HDJ.out
          have HPA := Lib.hid hp2
          have HQA := Lib.hid hqa
          have HDA : Hid (∀ k ∈ Fm gp mp2, k ∉ Fm gq mq) := by
            show ∀ k ∈ Fm gp mp2, k ∉ Fm gq mq
            rw [Fm.same ef el]; exact HDJ.out
          have HTB := Lib.hid (HTQ.out wa mq hqa)
          clear hp2 ef el ht hqa HP HQ HDJ HTP HTQ
          go_wp2_with fail
          refine HTB.out.mono ?_
          rintro e wb2 ⟨rfl, mq2, hq2, ef, el, ht⟩
          have hpb := HPA.out.other HQA.out ht (fun k hk hk2 => HDA.out k hk2 hk)
          have HQB := Lib.hid hq2
          have HPB := Lib.hid hpb
          have HLP := Lib.hid (leased_lp hpb)
          clear hq2 ef el ht hpb HPA HQA HTB
          go_wp2_with fail
          refine HLP.out.mono ?_
          rintro e wc ⟨v1, rfl, ho1, hb1, hp1⟩
          have hqc := HQB.out.gr hb1
          have HO1 := Lib.hid ho1
          have HPC := Lib.hid hp1
          have HLQ := Lib.hid (leased_lp hqc)
          clear ho1 hb1 hp1 HLP HPB HQB
          obtain ⟨av1, cv1, ev1, _, _⟩ := (own_rd HO1.out).shape
          subst ev1
          go_wp2_with fail
          refine HLQ.out.mono ?_
          rintro e wd ⟨v2, rfl, ho2, hb2, hq2⟩
          have HPD := Lib.hid (HPC.out.gr hb2)
          have HQD := Lib.hid hq2
          have HSM := Lib.hid (same_rows (l := S9.L) wd (Rd.below (by have := own_rd HO1.out; exact this) hb2) (by have := own_rd ho2; exact this) (by have := (OkP.few HQD.out.po.ok); omega))
          obtain ⟨av2, cv2, ev2, _, _⟩ := (own_rd ho2).shape
          subst ev2
          clear ho2 hb2 hq2 HLQ HPC hqc
          go_wp2_with fail
          refine HSM.out.mono ?_
          rintro e we ⟨rfl, hb3⟩
          have HPE := Lib.hid (HPD.out.gr hb3)
          have HQE := Lib.hid (HQD.out.gr hb3)
          have HF1 := Lib.hid (free_lp HPE.out)
          clear hb3 HSM HPD HQD
          go_wp2_with fail
          refine HF1.out.mono ?_
          rintro e w' ⟨rfl, rfl⟩
          have HF2 := Lib.hid (free_lp HQE.out)
          have hff : ((free S9 : Int) == free S9) = true := by simp
          clear HF1
          go_wp2_with fail
          refine HF2.out.mono ?_
          rintro e w' ⟨rfl, rfl⟩
          have HLAST : Hid (Below W.heap.size W we) := HBU.out.trans (Below.mono HPE.out.low HBU.out.size)
          go_wp2
          go_ret
          exact ⟨rfl, HLAST.out⟩

theorem own : ownKnob Tryd.prog.godebug = none := by kernel_rfl
theorem laidOut : laidOutB Tryd.prog = true := by kernel_rfl
theorem door_met (os : Os) (args : Array Value) : laidMetH Tryd.prog Rows.poolOrderRow.laid ((World.doorLaid Tryd.prog 400 os).forCall (fun _ _ => 0) ⟨#[], args, []⟩).memory :=
  laidMetH_of_parts3 (fuel := 8) (laidMet_of_run' 8 (by kernel_rfl) (by kernel_rfl)) (by kernel_rfl) (by kernel_rfl)
set_option maxRecDepth 100000 in
theorem lifted (os : Os) (started : os.Started) (H : Type) (enc : TypeId × Value → H) :
    ReturnsInHanded {} Tryd.checked os 7 .any (fun w args => (Rows.poolOrderSpec.pre enc Tryd.prog Tryd.f7 [] false w args ∧ laidMetH Tryd.prog Rows.poolOrderRow.laid w) ∧ sizedMet enc Tryd.prog Tryd.f7 (OpenSpec.ofChange Rows.poolOrderSpec) false w args) (Rows.poolOrderSpec.post enc Tryd.prog Tryd.f7 false true false false) := by
  refine returnsInHanded_of_change_and (C := Tryd.checked) (X := fun w _ => laidMetH Tryd.prog Rows.poolOrderRow.laid w) (fun _ _ _ hh h => h.of_heap hh) own started (by kernel_rfl) Tryd.func7
    (ChangeSpec.witness_shaped (enc := enc) (C := Tryd.checked) (os := os) (X := fun w _ => laidMetH Tryd.prog Rows.poolOrderRow.laid w) false (World.doorLaid Tryd.prog 400 os) #[.agg #[.int .i64 0, .int .i64 0, .slice none 0 0], .slice none 0 0, .int .u8 0] 8 rfl (World.shaped_of_RefB (by kernel_rfl) (by kernel_rfl)) (by kernel_rfl) (by kernel_rfl) (by kernel_rfl) (door_met os _)) ?_
  intro W base args ds gs before hval0 hW _ _ hL _
  have hval : ∀ (j : Nat) t v, Tryd.f7.params[j]? = some t → args[j]? = some v → Value.okWide Tryd.prog W .any base t v := hval0
  have hW' := hW
  obtain ⟨p, q, hA0, hV, rfl, hfz, hnd⟩ := hW
  have hA : DataW.TrodAll enc Tryd.prog W 0 (fun _ => true) true Tryd.f7.params.toList args.toList ds p := hA0
  rw [Tryd.params7] at hA hval
  obtain ⟨v0, vs0, d0, ds0, p0, q0, hargs, rfl, rfl, h0, r0⟩ := trodAll_cons hA
  obtain ⟨v1, vs1, d1, ds1, p1, q1, rfl, rfl, rfl, h1, r1⟩ := trodAll_cons r0
  obtain ⟨v2, vs2, d2, ds2, p2, q2, rfl, rfl, rfl, h2, r2⟩ := trodAll_cons r1
  obtain ⟨rfl, rfl, rfl⟩ := trodAll_nil r2
  obtain rfl : args = #[v0, v1, v2] := by cases args; simp_all
  obtain ⟨rfl, rfl⟩ := trodVars_none hV
  have k0 := h0
  have lt0 : ∀ x ∈ p0, x.block < W.heap.size := by obtain ⟨m, hm⟩ := k0; exact DataW.trod_lt m _ _ _ hm
  obtain ⟨x0, y0, a0, n0, c0, l0, rfl, wx0, wy0, hn0, b0⟩ := open_range Tryd.underlying24 ⟨rfl, rfl, rfl⟩ Tryd.underlying3 Tryd.underlying3 Tryd.underlying22 Tryd.underlying3 ⟨by kernel_rfl, by kernel_rfl, by kernel_rfl, by kernel_rfl, by kernel_rfl⟩ (hval 0 24 v0 rfl rfl) h0
  have k1 := h1
  have lt1 : ∀ x ∈ p1, x.block < W.heap.size := by obtain ⟨m, hm⟩ := k1; exact DataW.trod_lt m _ _ _ hm
  obtain ⟨a1, n1, c1, l1, rfl, hn1, b1⟩ := open_bytes Tryd.underlying55 Tryd.underlying5 (by kernel_rfl) (hval 1 55 v1 rfl rfl) h1
  have k2 := h2
  have lt2 : ∀ x ∈ p2, x.block < W.heap.size := by obtain ⟨m, hm⟩ := k2; exact DataW.trod_lt m _ _ _ hm
  obtain ⟨a2, rfl, rfl, rfl, w2⟩ := open_int Tryd.underlying5 (hval 2 5 v2 rfl rfl) h2
  clear hA0 hval0
  refine (walk W (of_laid hL) x0 y0 a0 n0 c0 l0 wx0 wy0 hn0 b0 a1 n1 c1 l1 hn1 b1 a2 w2).mono fun e W' ⟨he, bel⟩ => ?_
  subst he
  exact ⟨_, rfl, _, _, _, [], _, [], hW', trodAll_mk1 (shut_bool Tryd.underlying4 _), (trodAll_cons_mk (Below.trod laidOut (by kernel_rfl) (of_decide_eq_true (by kernel_rfl)) k0 bel lt0) (trodAll_cons_mk (Below.trod laidOut (by kernel_rfl) (of_decide_eq_true (by kernel_rfl)) k1 bel lt1) (trodAll_cons_mk (Below.trod laidOut (by kernel_rfl) (of_decide_eq_true (by kernel_rfl)) k2 bel lt2) trodAll_mk0))), rfl, bel.frame _, fun h => by cases h⟩
theorem over : Rows.poolOrderRow.holds Tryd.pinned (OpenSpec.ofChange Rows.poolOrderSpec) :=
  OpenClaim.holds_of_wide 7 Tryd.f7 rfl rfl rfl rfl rfl rfl rfl ⟨rfl, rfl, rfl, rfl, rfl⟩ rfl rfl rfl rfl rfl (by kernel_rfl) Tryd.func7 (by kernel_rfl)
    (of_decide_eq_true (by kernel_rfl)) (by unfold Func.isWrapper; first | (rw [if_pos (by decide +kernel)]; kernel_rfl) | (rw [if_neg (by decide +kernel)]; exact ⟨rfl, rfl⟩))
    (fun os started H enc _ => lifted os started H enc)
/-- The statement: the tied card. -/
theorem proved : Rows.PoolOrderCardSaid :=
  Claim7.holds_tied_plain_at .later [] [.data] true (true, "e874124b9b968c9656ea65cff0e58373288b28edbace69890e6b772b92dc920d") false over (fun _ h => by cases h) (by kernel_rfl) (fun _ h => by cases h) poolOrder_row_tie rfl ⟨rfl, rfl⟩ (by kernel_rfl) rfl
    (fun f fn hf hfn => by
      obtain rfl : f = 7 := Option.some.inj ((show Tryd.prog.funcNamed "concierge/conciergelaw12.PoolOrder" = some 7 by kernel_rfl).symm.trans hf) |>.symm
      obtain rfl : fn = Tryd.f7 := (Option.some.inj (Tryd.func7.symm.trans hfn)).symm
      exact ⟨by kernel_rfl, fun j t ht => by
        rw [Tryd.params7] at ht
        have hm : t ∈ [24, 55, 5] := by simpa using Array.mem_of_getElem? ht
        have hall : ([24, 55, 5].all fun u => !Tryd.prog.wantsStandIn u) = true := by kernel_rfl
        exact (show Tryd.prog.wantsStandIn t = false by simpa using List.all_eq_true.1 hall t hm)⟩)
    (by kernel_rfl)
end Go.Proofs.YtoemghinolekgaaDoor.poolOrder
