/-
  An address that is leased is not told again until it was given, and the lowest free one is told: whatever is asked of a pool of any range (conciergelaw12.PoolOnce answers true). Condition: the library's table math/bits.deBruijn64tab starts as the program's text lays it (the tied card).
-/
import Derived.Test.YtoemghinolekgaaDoorPlJ
import Derived.Test.YtoemghinolekgaaDoorPlU
import Derived.Test.YtoemghinolekgaaDoorOpenR
namespace Go.Proofs.YtoemghinolekgaaDoor.poolOnce
open Go.ChangeShapes Go.WideShapes Go.ChangeAt Go.RowKit
open Go.Proofs.YtoemghinolekgaaDoor.Pl
open Go.Proofs.YtoemghinolekgaaDoor.Id (IR Tr)
set_option linter.unusedVariables false
set_option linter.unusedSimpArgs false

theorem wf_in {x : Int} (h : (Lit.int .i64 x).wf = true) : -9223372036854775808 ≤ x ∧ x ≤ 9223372036854775807 := by
  simpa [Lit.wf, IntKind.min, IntKind.max, IntKind.signed, IntKind.bits] using h
theorem put_perm (a : Int) : ∀ l : List Int, (Id.put a l).Perm (a :: l)
  | [] => List.Perm.refl _
  | y :: l => by
    unfold Id.put
    split
    · exact ((put_perm a l).cons y).trans (List.Perm.swap _ _ _)
    · exact List.Perm.refl _
theorem strike_none {a : Int} : ∀ {l : List Int}, a ∉ l → strike a l = l
  | [], _ => rfl
  | y :: l, h => by
    have hy : y ≠ a := fun e => h (by simp [e])
    have := strike_none (a := a) (l := l) fun hm => h (by simp [hm])
    unfold strike at this ⊢
    rw [List.filter_cons, if_pos (by simpa using hy), this]
theorem strike_perm {a : Int} : ∀ {l : List Int}, l.Pairwise (· < ·) → a ∈ l → l.Perm (a :: strike a l)
  | [], _, h => by cases h
  | y :: l, hp, h => by
    rw [List.pairwise_cons] at hp
    by_cases e : y = a
    · subst e
      have hn : y ∉ l := fun hm => by have := hp.1 y hm; omega
      have h2 := strike_none hn
      unfold strike at h2 ⊢
      rw [List.filter_cons, if_neg (by simp), h2]
    · have hm : a ∈ l := by
        rcases List.mem_cons.1 h with h1 | h1
        · exact absurd h1.symm e
        · exact h1
      have h2 := strike_perm hp.2 hm
      have h3 : strike a (y :: l) = y :: strike a l := by
        unfold strike
        rw [List.filter_cons, if_pos (by simpa using e)]
      rw [h3]
      exact (h2.cons y).trans (List.Perm.swap _ _ _)
theorem take_drop_perm {l : List Int} {k : Nat} (hk : k < l.length) : l.Perm (l[k] :: (l.take k ++ l.drop (k + 1))) := by
  conv => lhs; rw [← List.take_append_drop k l, List.drop_eq_getElem_cons hk]
  exact List.perm_middle
/-- What was taken, and not given. -/
theorem give_perm {S : Po} {H : List Int} (ok : OkP S) (h : H.Perm S.L) {k : Nat} (hk : k < H.length) : give S H[k] = (drop S H[k], 0) ∧ (H.take k ++ H.drop (k + 1)).Perm (drop S H[k]).L := by
  have hm : H[k] ∈ S.L := h.mem_iff.1 (List.getElem_mem hk)
  refine ⟨by unfold give; rw [if_pos (ok.has _ hm), if_pos hm], ?_⟩
  have h1 := (take_drop_perm hk).symm.trans (h.trans (strike_perm ok.rise hm))
  exact List.Perm.cons_inv h1
theorem ir_from {w : World} {a : Option Addr} {n c : Nat} {l : List Int} (h : IR w (.slice a n c) l) (hn : n = l.length) (m : Nat) (hm : m ≤ n) :
    ∃ a', (∀ w', (Instr.slice 22 (.slice a n c) (some (.int .i64 (m : Int))) none none).run Tryd.prog w' = .ok (.slice a' (n - m) (c - m)) w') ∧ ∀ V, IR V (.slice a n c) l → IR V (.slice a' (n - m) (c - m)) (l.drop m) := by
  obtain ⟨i0, hi, h1⟩ := infoI2
  have ht := Tryd.underlying22
  refine ⟨if c = m then a else a.map (·.add (m * 1)), fun w' => ?_, fun V hV => ?_⟩
  · rw [run_slice_l w' 22 a n c (by rw [elem_of ht]; exact ht) .i64 m (by omega) (by omega), elem_of ht, run_sizeOf hi h1]
    simp only [Result.andThen, sliced, Int.toNat_natCast]
  · have e : (l.drop m).length = n - m := by rw [List.length_drop, hn]
    have h3 : Rd V 1 (.slice a n c) n (l.map (Value.int .i64)) := by subst hn; exact hV
    have h4 := Rd.cut (n' := n - m) (k := m) h3 (by omega)
    unfold IR
    rw [e, List.map_drop]
    rw [List.take_of_length_le (by rw [List.length_drop, List.length_map]; omega)] at h4
    simpa using h4
/-- Between two rounds. -/
structure Rn (U : World) (g : Nat) (m : Pm) (S : Po) (A : Option Addr) (k C : Nat) (H : List Int) (w : World) : Prop where
  lp : LP U g m w S
  own : w.ownsRow U.heap.size 3 1 (.slice A k C) k (ints H)
  len : k = H.length
  perm : H.Perm S.L
theorem Rn.ir {U : World} {g : Nat} {m : Pm} {S : Po} {A : Option Addr} {k C : Nat} {H : List Int} {w : World} (h : Rn U g m S A k C H w) : IR w (.slice A k C) H := by
  have := own_rd h.own
  show Rd _ _ _ _ _
  rw [← h.len]
  exact this
/-- A call of the pool's has gone on: the row stands. -/
theorem own_off {U : World} {g : Nat} {m : Pm} {S : Po} {w w' : World} {v : Value} {n : Nat} {xs : List Value} (h : LP U g m w S) (ht : Tr (Fm g m) w w') (ho : w.ownsRow U.heap.size 3 1 v n xs) : w'.ownsRow U.heap.size 3 1 v n xs := by
  refine own_keep ho fun q hq => ht.block q ((Id.own_blk ho q hq).2) fun hk => ?_
  simp only [Fm, List.mem_cons, List.mem_append] at hk
  rcases hk with hk | hk | hk
  · exact blk_ne_g ho h.po.pm.row (by decide) q hq hk
  · exact blk_ne_blk ho h.po.pm.fo.own (by decide) q hq hk
  · exact blk_ne_blk ho h.po.pm.lo.own (by decide) q hq hk
theorem once_lens {k p p1 kd : Nat} {H : List Int} (h : k = H.length) (hp : p < k) (hf : k ≤ 65536) (h1 : p1 = p + 1) (h2 : kd = k - p1) : p + kd = k - 1 ∧ k - 1 ≤ 65536 ∧ (H.take p).length = p ∧ (H.drop p1).length = kd ∧ kd ≤ 65536 :=
  ⟨by omega, by omega, by rw [List.length_take]; omega, by rw [List.length_drop]; omega, by omega⟩
theorem once_arith (av : Int) {k : Nat} (hk : 0 < k) (hf : k ≤ 65536) : ∃ p : Nat, wrap64 ((IntKind.u64.wrap av).tmod (k : Int)) = (p : Int) ∧ p < k ∧ (p : Int) < (k : Int) ∧ ¬ k = 0 ∧ (0 : Int) < (k : Int) ∧ p ≤ 65536 ∧ p + 1 ≤ k := by
  obtain ⟨u, hu⟩ : ∃ u : Nat, (u : Int) = av % 18446744073709551616 := ⟨(av % 18446744073709551616).toNat, by omega⟩
  have hp : u % k < k := Nat.mod_lt _ hk
  have e1 : IntKind.u64.wrap av = (u : Int) := by rw [IntKind.wrap_u64]; exact hu.symm
  have e2 : ((u : Int)).tmod (k : Int) = ((u % k : Nat) : Int) := by rw [Int.tmod_eq_emod_of_nonneg (Int.natCast_nonneg _)]; rfl
  obtain ⟨p, hpe⟩ : ∃ p, p = u % k := ⟨_, rfl⟩
  rw [← hpe] at hp e2
  refine ⟨p, ?_, hp, ?_, ?_, ?_, ?_, hp⟩
  · rw [e1, e2]
    clear e1 e2 hu hpe
    exact wrap64_in (by omega) (by omega)
  all_goals clear e1 e2 hu hpe
  all_goals omega
theorem once_wrap (p : Nat) (h : p ≤ 65536) : wrap64 (p : Int) = (p : Int) ∧ IntKind.u64.wrap (p : Int) = (p : Int) := ⟨wrap64_in (by omega) (by omega), wrap_nat _ (by omega)⟩
theorem once_wrap2 (p : Nat) (h : p ≤ 65536) : IntKind.i64.wrap ((p : Int) + 1) = ((p + 1 : Nat) : Int) := by rw [IntWalk.i64_in _ (by omega)]; omega
theorem one_ints (l : List Int) : ∀ u ∈ ints l, u.oneCell' = true := by
  intro u hu
  obtain ⟨x, _, rfl⟩ := List.mem_map.1 hu
  rfl
theorem OkP.le {S : Po} (ok : OkP S) {a : Int} (h : a ∈ S.L) : a ≤ 9223372036854775807 := by
  have h1 := ok.inL h
  have h2 := ok.r.last
  omega
set_option maxRecDepth 20000 in
set_option maxHeartbeats 8000000 in
theorem walk (W : World) (hl : Laid W) (b z : Int) (a : Option Addr) (n c : Nat) (l : List Int) (wb : (Lit.int .i64 b).wf = true) (wz : (Lit.int .i64 z).wf = true) (hn : l.length = n) (hr : Rd W 1 (.slice a n c) n (l.map (Value.int .i64)))
    (a1 : Option Addr) (n1 c1 : Nat) (qs : List Pq) (hqs : PqR W (.slice a1 n1 c1) n1 qs) :
    Calls Tryd.prog 6 #[.agg #[.int .i64 b, .int .i64 z, .slice a n c], .slice a1 n1 c1] W fun e w' => e = .returned (.bool true) ∧ Below W.heap.size W w' := by
  have hb := wf_in wb
  have hz := wf_in wz
  have HB1 : Hid (Below W.heap.size W (W.alloc (.cells #[.int .i64 b, .int .i64 z, .slice a n c] 24))) := (Below.refl _ _).alloc (Nat.le_refl _) _
  have HP1 : Hid ((W.alloc (.cells #[.int .i64 b, .int .i64 z, .slice a n c] 24)).heap[W.heap.size]? = some (.cells #[.int .i64 b, .int .i64 z, .slice a n c] 24 (0, 0))) := heap_alloc_last _ _
  have HIR : Hid (IR W (.slice a n c) l) := by show Rd _ _ _ _ _; rw [hn]; exact hr
  have HS := Lib.hid (small_any b z (W.alloc (.cells #[.int .i64 b, .int .i64 z, .slice a n c] 24)) (Rd.below HIR.out HB1.out))
  have hzs : -9223372036854775808 ≤ smallZ z ∧ smallZ z ≤ 9223372036854775807 := by unfold smallZ; split <;> omega
  have HSZ : Hid (smallZ z ≤ 65536 → smallZ z ≤ 60) := by show _ → _; unfold smallZ; split <;> omega
  obtain ⟨z2, hz2⟩ : ∃ q, q = smallZ z := ⟨_, rfl⟩
  rw [← hz2] at HS hzs HSZ
  obtain ⟨l2, hl2⟩ : ∃ q, q = l.take 70 := ⟨_, rfl⟩
  rw [← hl2] at HS
  have HLW := Lib.hid hl
  have HBZ : Hid ((-9223372036854775808 ≤ b ∧ b ≤ 9223372036854775807) ∧ -9223372036854775808 ≤ z2 ∧ z2 ≤ 9223372036854775807) := ⟨hb, hzs⟩
  clear wb wz hn hr hl hb hz hz2 hzs hl2
  have HQS := Lib.hid hqs
  have HN1 : Hid (n1 = qs.length) := hqs.len.symm
  have hn163 : (n1 : Int) ≤ 9223372036854775807 := by
    obtain ⟨_, _, e, h1, h2⟩ := hqs.rd.shape
    simp only [Value.slice.injEq] at e
    obtain ⟨_, q, rfl⟩ := e
    unfold maxLen at h2
    omega
  obtain ⟨i0, hi, hz0, hz1, hz2⟩ := info_parts infoI
  clear hqs
  go_enter Tryd.func6, Tryd.ntmps6
  go_wp2_with fail
  refine HS.out.mono ?_
  rintro e w1 ⟨a2, n2, c2, rfl, hn2, hrow, hb1⟩
  have HP := Lib.hid (heap_gr hb1 HP1.out)
  have HB := Lib.hid (HB1.out.trans (Below.mono hb1 HB1.out.size))
  have HI0 := Lib.hid (hrow _ HIR.out)
  have HN2 := Lib.hid hn2
  clear hrow hb1 HS HP1 HB1 hn2
  go_wp2_with (with_reducible refine wpList_store_range rfl _ _ rfl W.heap.size _ _ _ _ _ rfl rfl _ _ _ HP.out ?_)
  intro U h2 ho2
  have HPU := Lib.hid h2
  have HBU := Lib.hid (ho2.below W.heap.size W (Nat.le_refl _) HB.out)
  have HIU : Hid (IR U (.slice a2 n2 c2) l2) := Rd.below HI0.out HBU.out
  have HLU := Lib.hid (HLW.out.gr HBU.out)
  have HSU : Hid (W.heap.size < U.heap.size) := (Array.getElem?_eq_some_iff.1 HPU.out).1
  clear h2 ho2 HP HB HI0
  obtain ⟨k0, k1, k2⟩ := cells3' HPU.out
  cases hok : okB b z2 l2 with
  | false =>
    have HN1' := Lib.hid (new_no b z2 HBZ.out.1 HBZ.out.2 U HIU.out hok)
    clear hok
    go_wp2_with fail
    refine HN1'.out.mono ?_
    rintro e w3 ⟨rfl, hb3⟩
    have HG3 : Hid (Gr U w3) := hb3
    have HA := Lib.hid (awake_any w3 (HLU.out.gr hb3))
    clear hb3 HN1' k0 k1 k2
    go_wp2_with fail
    refine HA.out.mono ?_
    rintro e w5 ⟨rfl, hb5⟩
    have HB5 : Hid (Below W.heap.size W w5) := HBU.out.trans (Below.mono (HG3.out.trans hb5) HBU.out.size)
    clear hb5 HA
    go_wp2
    go_ret
    exact ⟨rfl, HB5.out⟩
  | true =>
    have hR := okB_iff.1 hok
    obtain ⟨Z, hZ⟩ : ∃ Z : Nat, (Z : Int) = z2 := ⟨z2.toNat, by have := hR.size; omega⟩
    subst hZ
    have HRR := Lib.hid hR
    have HN1' := Lib.hid (new_lp U b Z U (Below.refl _ _) HLU.out HIU.out hR)
    clear hok hR
    go_wp2_with fail
    refine HN1'.out.mono ?_
    rintro e w3 ⟨g, rfl, m, hp3, _, hb3⟩
    have HP3 := Lib.hid hp3
    have HA := Lib.hid (awake_any w3 (HLU.out.gr hb3))
    clear hb3 HN1' hp3 k0 k1 k2
    go_wp2_with fail
    refine HA.out.mono ?_
    rintro e w5 ⟨rfl, hb5⟩
    have HP5 := Lib.hid (HP3.out.gr hb5)
    clear hb5 HA HP3
    go_wp2_with fail
    go_loopw [7, 8] (fun hv iv wr => ∃ (i : Nat) (m : Pm) (S : Po) (A : Option Addr) (k C : Nat) (H : List Int), i ≤ 60 ∧ iv = .int .i64 (i : Int) ∧ hv = .slice A k C ∧ Hid (Rn U g m S A k C H wr)) (fun _ iv _ => 60 - (intOf iv).toNat)
    case atStart => exact ⟨0, m, _, none, 0, 0, [], Nat.zero_le _, rfl, rfl, ⟨HP5.out, World.ownsRow_nil _ _ _ _, rfl, List.Perm.refl _⟩⟩
    case round =>
      clear HP5
      obtain ⟨i, m, S, A, k, C, H, hin, rfl, rfl, HN⟩ := hrel
      have hfew : k ≤ 65536 := by
        have h1 := HN.out.perm.length_eq
        have h2 := OkP.few HN.out.lp.po.ok
        have h3 := HN.out.len
        omega
      by_cases hlt : i < n1 ∧ i < 60
      · obtain ⟨hlt1, hlt2⟩ := hlt
        have hle : i + 1 ≤ 60 := by omega
        have hil : i < qs.length := by rw [← HN1.out]; exact hlt1
        obtain ⟨bb, o, ea, _, hcel⟩ := PqR.cells HQS.out (by omega)
        subst ea
        have HBW : Hid (Below W.heap.size W wr) := HBU.out.trans (Below.mono HN.out.lp.low HBU.out.size)
        obtain ⟨q0, q1, q2⟩ := hcel i hil
        have e0 := cell_gr HBW.out q0
        have e1 := cell_gr HBW.out q1
        have hav := wf_in (HQS.out.wf _ (List.getElem_mem hil))
        obtain ⟨d, hd⟩ : ∃ d, d = qs[i].what.toNat := ⟨_, rfl⟩
        obtain ⟨av, havv⟩ : ∃ av, av = qs[i].a := ⟨_, rfl⟩
        have hd256 : d < 256 := by rw [hd]; exact UInt8.toNat_lt _
        rw [← hd] at e0
        rw [← havv] at e1 hav
        clear q0 q1 q2 hcel hd havv hil
        have x2 : ((d : Int)).tmod 2 = ((d % 2 : Nat) : Int) := by rw [Int.tmod_eq_emod_of_nonneg (Int.natCast_nonneg _)]; rfl
        obtain ⟨r, hr⟩ : ∃ r, r = d % 2 := ⟨_, rfl⟩
        rw [← hr] at x2
        have hr2 : r < 2 := by omega
        have hi1 : (i : Int) < (n1 : Int) := by omega
        clear hr hd256
        by_cases hgive : r = 1 ∧ 0 < k
        · obtain ⟨hr1, hk0⟩ := hgive
          -- which one is given
          obtain ⟨p, yy, hpk, hki, hk00, hk01, hp6, hp1k⟩ := once_arith av hk0 hfew
          have HYY := Lib.hid yy
          clear yy
          clear hav
          have hpl : p < H.length := by rw [← HN.out.len]; exact hpk
          obtain ⟨bh, oh, ea, hch⟩ := IR.at HN.out.ir HN.out.len hk0
          subst ea
          have eh := hch p hpl
          obtain ⟨hg1, hg2⟩ := give_perm HN.out.lp.po.ok HN.out.perm hpl
          have hle9 := OkP.le HN.out.lp.po.ok (HN.out.perm.mem_iff.1 (List.getElem_mem hpl))
          obtain ⟨X, hX⟩ : ∃ X, X = H[p] := ⟨_, rfl⟩
          rw [← hX] at eh hg1 hg2 hle9
          have hgv := give_lp HN.out.lp X hle9
          rw [hg1] at hgv
          have HGV := Lib.hid hgv
          have HPM := Lib.hid hg2
          clear hch hg1 hg2 hgv hX hle9
          subst hr1
          go_upto_region 13 with fail
          rw [HYY.out]
          go_wp2_with fail
          refine HGV.out.mono ?_
          rintro e w6 ⟨rfl, m2, hl2', ef, el, ht⟩
          have HL6 := Lib.hid hl2'
          have HO6 := Lib.hid (own_off HN.out.lp ht HN.out.own)
          obtain ⟨T, hT⟩ : ∃ T, T = drop S X := ⟨_, rfl⟩
          rw [← hT] at HL6 HPM
          clear hl2' ef el ht HGV eh hT
          obtain ⟨s1, hrun1, hir1⟩ := ir_upto HN.out.ir HN.out.len p (Nat.le_of_lt hpk)
          obtain ⟨s2, hrun2, hir2⟩ := ir_from HN.out.ir HN.out.len (p + 1) hpk
          have HLN := Lib.hid HN.out.len
          have HI6 : Hid (IR w6 (.slice (some ⟨bh, oh, none⟩) k C) H) := by
            have := own_rd HO6.out
            show Rd _ _ _ _ _
            rw [← HLN.out]; exact this
          have HR1 := Lib.hid hir1
          have HR2 := Lib.hid hir2
          have z1 : IntKind.i64.wrap ((p : Int) + 1) = ((p + 1 : Nat) : Int) := once_wrap2 p hp6
          obtain ⟨p1, hp1⟩ : ∃ p1, p1 = p + 1 := ⟨_, rfl⟩
          rw [← hp1] at z1 hrun2 HR2 HPM
          obtain ⟨kd, hkd⟩ : ∃ kd, kd = k - p1 := ⟨_, rfl⟩
          rw [← hkd] at hrun2 HR2
          have HKD : Hid (p + kd = k - 1 ∧ k - 1 ≤ 65536 ∧ (H.take p).length = p ∧ (H.drop p1).length = kd ∧ kd ≤ 65536) := once_lens HLN.out hpk hfew hp1 hkd
          clear hir1 hir2 hp1 hkd hpl e0 e1 HN hp6 hp1k hpk hki hk00 hk01
          go_upto_region 15 with fail
          have HC : Hid (Gr w6 w6.drew) := Gr.drew w6
          refine wp_region_G 11 Any (by kernel_rfl) ?_
          generalize w6.drew = wc at HC ⊢
          -- 1: slot 67
          refine wpG_take preAny (i := 1) (v := ?_) (by kernel_rfl) (some 67) (by kernel_rfl) rfl (by kernel_rfl) (by kernel_rfl) (by kernel_rfl) (fun _ _ _ h => h) (by rfl) (fun w' hw' => ?_) rfl ?_
          rotate_left
          · go_simp
            with_reducible rfl
          simp only [Act.put, List.setIfInBounds_toArray, List.set_cons_zero, List.set_cons_succ]
          -- 2: slot 68
          refine wpG_take preAny (i := 2) (v := ?_) (by kernel_rfl) (some 68) (by kernel_rfl) rfl (by kernel_rfl) (by kernel_rfl) (by kernel_rfl) (fun _ _ _ h => h) (by rfl) (fun w' hw' => ?_) rfl ?_
          rotate_left
          · go_simp
            with_reducible rfl
          simp only [Act.put, List.setIfInBounds_toArray, List.set_cons_zero, List.set_cons_succ]
          -- 3: slot 69
          refine wpG_take preAny (i := 3) (v := ?_) (by kernel_rfl) (some 69) (by kernel_rfl) rfl (by kernel_rfl) (by kernel_rfl) (by kernel_rfl) (fun _ _ _ h => h) (by rfl) (fun w' hw' => ?_) rfl ?_
          rotate_left
          · go_simp
            with_reducible rfl
          simp only [Act.put, List.setIfInBounds_toArray, List.set_cons_zero, List.set_cons_succ]
          -- 5: slot 71
          refine wpG_take preAny (i := 5) (v := ?_) (by kernel_rfl) (some 71) (by kernel_rfl) rfl (by kernel_rfl) (by kernel_rfl) (by kernel_rfl) (fun _ _ _ h => h) (by rfl) (fun w' hw' => ?_) rfl ?_
          rotate_left
          · go_simp
            with_reducible rfl
          simp only [Act.put, List.setIfInBounds_toArray, List.set_cons_zero, List.set_cons_succ]
          -- 6: slot 72
          refine wpG_take preAny (i := 6) (v := ?_) (by kernel_rfl) (some 72) (by kernel_rfl) rfl (by kernel_rfl) (by kernel_rfl) (by kernel_rfl) (fun _ _ _ h => h) (by rfl) (fun w' hw' => ?_) rfl ?_
          rotate_left
          · go_simp
            with_reducible rfl
          simp only [Act.put, List.setIfInBounds_toArray, List.set_cons_zero, List.set_cons_succ]
          -- 7: slot 73
          refine wpG_take preAny (i := 7) (v := ?_) (by kernel_rfl) (some 73) (by kernel_rfl) rfl (by kernel_rfl) (by kernel_rfl) (by kernel_rfl) (fun _ _ _ h => h) (by rfl) (fun w' hw' => ?_) rfl ?_
          rotate_left
          · go_simp
            with_reducible rfl
          simp only [Act.put, List.setIfInBounds_toArray, List.set_cons_zero, List.set_cons_succ]
          -- 8: slot 74
          refine wpG_take preAny (i := 8) (v := ?_) (by kernel_rfl) (some 74) (by kernel_rfl) rfl (by kernel_rfl) (by kernel_rfl) (by kernel_rfl) (fun _ _ _ h => h) (by rfl) (fun w' hw' => ?_) rfl ?_
          rotate_left
          · go_simp
            with_reducible rfl
          simp only [Act.put, List.setIfInBounds_toArray, List.set_cons_zero, List.set_cons_succ]
          refine wpG_one (i := 0) rfl (by kernel_rfl) (by rfl) ?_
          go_simp
          refine ⟨trivial, ?_⟩
          try simp only [Act.put, List.setIfInBounds_toArray, List.set_cons_zero, List.set_cons_succ]
          refine wpG_one (i := 4) rfl (by kernel_rfl) (by rfl) ?_
          refine wp_append_gr _ (some 70) (.tmp 66) (.tmp 69) 22 rfl w6.heap.size 3 i0 (.int .i64 0) 1 8 Tryd.underlying22 hi hz0 hz1 hz2 rfl (by decide) _ 0 [] rfl (ownsRow_mono (own_new wc [] 3 0 1 rfl (Nat.zero_le _)) HC.out.size) _ p (ints (H.take p)) rfl ?_ (one_ints _) (by have := HKD.out; omega) (by decide) (Nat.le_trans HC.out.size (by simp)) rfl ?_
          · have h9 := HR1.out _ (Rd.below HI6.out (Gr.trans HC.out ((Gr.refl wc).alloc (.cells #[] 3))))
            have h8 : Rd _ 1 _ (H.take p).length _ := h9
            rw [HKD.out.2.2.1] at h8
            exact h8
          intro v1 wa ho1 hg1
          refine ⟨trivial, ?_⟩
          try rw [Nat.zero_add, List.nil_append] at ho1
          have HBA : Hid (Below w6.heap.size w6 wa) := Below.grown (Gr.trans HC.out ((Gr.refl wc).alloc (.cells #[] 3)) : Below w6.heap.size w6 (wc.alloc (.cells #[] 3))) hg1 (Nat.le_trans HC.out.size (by simp)) (fun q hq => by
            have h7 := ((ownsRow_mono (own_new wc [] 3 0 1 rfl (Nat.zero_le _)) HC.out.size : (wc.alloc (.cells #[] 3)).ownsRow w6.heap.size 3 1 _ 0 []).lt q hq).1
            exact h7)
          have HO1 := Lib.hid ho1
          clear ho1 hg1
          try simp only [Act.put, List.setIfInBounds_toArray, List.set_cons_zero, List.set_cons_succ]
          refine wpG_one (i := 9) rfl (by kernel_rfl) (by rfl) ?_
          refine wp_append_gr _ (some 75) (.tmp 70) (.tmp 74) 22 rfl w6.heap.size 3 i0 (.int .i64 0) 1 8 Tryd.underlying22 hi hz0 hz1 hz2 rfl (by decide) _ p _ rfl HO1.out _ kd (ints (H.drop p1)) rfl ?_ (one_ints _) (by have := HKD.out; omega) (by decide) HBA.out.size rfl ?_
          · have h9 := HR2.out _ (Rd.below HI6.out HBA.out)
            have h8 : Rd _ 1 _ (H.drop p1).length _ := h9
            rw [HKD.out.2.2.2.1] at h8
            exact h8
          intro v2 wb2 ho2 hg2
          refine ⟨trivial, ?_⟩
          have HBB : Hid (Below w6.heap.size w6 wb2) := HBA.out.grown hg2 HBA.out.size (fun q hq => (HO1.out.lt q hq).1)
          have HO2 := Lib.hid ho2
          clear ho2 hg2
          try simp only [Act.put, List.setIfInBounds_toArray, List.set_cons_zero, List.set_cons_succ]
          -- 10: slot 7
          refine wpG_take preAny (i := 10) (v := ?_) (by kernel_rfl) (some 7) (by kernel_rfl) rfl (by kernel_rfl) (by kernel_rfl) (by kernel_rfl) (fun _ _ _ h => h) (by rfl) (fun w' hw' => ?_) rfl ?_
          rotate_left
          · go_simp
            with_reducible rfl
          simp only [Act.put, List.setIfInBounds_toArray, List.set_cons_zero, List.set_cons_succ]
          refine wpG_done (by kernel_rfl) ?_ _
          obtain ⟨A3, C3, ev3, _, _⟩ := (own_rd HO2.out).shape
          rw [ev3] at HO2 ⊢
          have HNN : Hid (Rn U g m2 T A3 (p + kd) C3 (H.take p ++ H.drop p1) wb2) := by
            refine ⟨HL6.out.gr HBB.out, ?_, by rw [List.length_append, HKD.out.2.2.1, HKD.out.2.2.2.1], HPM.out⟩
            have e9 : ints (H.take p ++ H.drop p1) = ints (H.take p) ++ ints (H.drop p1) := by simp [ints]
            rw [e9]
            exact ownsRow_mono HO2.out HL6.out.low.size
          clear ev3 HO1 HO2 HBA HBB HC HI6 HR1 HR2 HKD HO6 HL6 HPM z1
          go_wp2_with fail
          go_roundw
          case rel =>
            first
              | exact ⟨i + 1, m2, T, A3, p + kd, C3, _, hle, by go_num, rfl, HNN⟩
              | ((repeat apply Exists.intro); exact ⟨⟨i + 1, m2, T, A3, p + kd, C3, _, hle, by go_num, rfl, HNN⟩, rfl⟩)
          case measure => simp [intOf]; omega
        · by_cases hr1 : r = 1
          · have hk0 : ¬ 0 < k := fun h => hgive ⟨hr1, h⟩
            subst hr1
            clear hgive
            have HNP : Hid (k = H.length) := HN.out.len
            cases hfl : freeL S with
            | nil =>
              have hT := take_lp HN.out.lp
              rw [show take S = (S, 0, 121) by unfold take; rw [hfl]] at hT
              have hf0 : free S = 0 := by rw [← free_eq HN.out.lp.po.ok, hfl]; rfl
              have HF0 := Lib.hid hf0
              have HT := Lib.hid hT
              clear hT hf0 hfl
              go_wp2_with fail
              refine HT.out.mono ?_
              rintro e w6 ⟨rfl, m2, hl2', ef, el, ht⟩
              have HN6 : Hid (Rn U g m2 S A k C H w6) := ⟨hl2', own_off HN.out.lp ht HN.out.own, HN.out.len, HN.out.perm⟩
              have hfr := free_lp hl2'
              rw [HF0.out] at hfr
              have HFR := Lib.hid hfr
              clear hl2' ef el ht hfr HT HN
              go_wp2_with fail
              refine HFR.out.mono ?_
              rintro e w' ⟨rfl, rfl⟩
              clear e0 e1 HFR
              go_wp2_with fail
              go_roundw
              case rel =>
                first
                  | exact ⟨i + 1, m2, S, A, k, C, H, hle, by go_num, rfl, HN6⟩
                  | ((repeat apply Exists.intro); exact ⟨⟨i + 1, m2, S, A, k, C, H, hle, by go_num, rfl, HN6⟩, rfl⟩)
              case measure => simp [intOf]; omega
            | cons p0 r0 =>
              have hmem : p0 ∈ freeL S := by rw [hfl]; simp
              obtain ⟨hh1, hh2⟩ := free_has hmem
              have hT := take_lp HN.out.lp
              rw [show take S = (put S (S.base + (p0 : Int)), S.base + (p0 : Int), 0) by unfold take; rw [hfl]] at hT
              obtain ⟨X, hX⟩ : ∃ X, X = S.base + (p0 : Int) := ⟨_, rfl⟩
              rw [← hX] at hT hh1 hh2
              have hXle : X ≤ 9223372036854775807 := by
                have h1 := has_iff.1 hh1
                have h2 := HN.out.lp.po.ok.r.last
                omega
              have HXN : Hid (X ∉ H) := fun hm => hh2 (HN.out.perm.mem_iff.1 hm)
              have HPP : Hid ((H ++ [X]).Perm (put S X).L) := (List.perm_append_singleton X H).trans ((HN.out.perm.cons X).trans (put_perm X S.L).symm)
              have HHX : Hid (has (put S X) X = true) := (has_same rfl rfl rfl X).trans hh1
              have HWX : Hid (want (put S X) X = (put S X, 122)) := by
                show _ = _
                unfold want
                rw [if_pos HHX.out, if_pos (mem_put.2 (.inl rfl))]
              have HT := Lib.hid hT
              have HXLE := Lib.hid hXle
              clear hT hfl hmem hh1 hh2 hX hXle
              obtain ⟨T, hT⟩ : ∃ T, T = put S X := ⟨_, rfl⟩
              rw [← hT] at HT HPP HHX HWX
              clear hT
              go_wp2_with fail
              refine HT.out.mono ?_
              rintro e w6 ⟨rfl, m2, hl2', ef, el, ht⟩
              have HL6 := Lib.hid hl2'
              have HO6 := Lib.hid (own_off HN.out.lp ht HN.out.own)
              have HI6 : Hid (IR w6 (.slice A k C) H) := by
                have := own_rd HO6.out
                show Rd _ _ _ _ _
                rw [← HNP.out]; exact this
              clear hl2' ef el ht HT HN e0 e1
              go_wp2_with fail
              go_loopw [12] (fun jv wr => ∃ j : Nat, j ≤ k ∧ jv = .int .i64 (j : Int) ∧ w6 = wr) (fun jv _ => k - (intOf jv).toNat)
              case atStart => exact ⟨0, Nat.zero_le _, rfl, rfl⟩
              case round =>
                obtain ⟨j, hjk, rfl, rfl⟩ := hrel
                by_cases hlt9 : j < k
                · have hjl : j < H.length := by rw [← HNP.out]; exact hlt9
                  obtain ⟨bh, oh, ea, hch⟩ := IR.at HI6.out HNP.out (by omega)
                  subst ea
                  have eh := hch j hjl
                  have hne : H[j] ≠ X := fun e => HXN.out (e ▸ List.getElem_mem hjl)
                  obtain ⟨y, hy⟩ : ∃ y, y = H[j] := ⟨_, rfl⟩
                  rw [← hy] at eh hne
                  have hyx : (y == X) = false := by simpa using hne
                  have hle9 : j + 1 ≤ k := by omega
                  clear hch hy hne hjl
                  go_wp2_with fail
                  go_roundw
                  case rel =>
                    first
                      | exact ⟨j + 1, hle9, by go_num, trivial⟩
                      | exact ⟨j + 1, hle9, by go_num, rfl⟩
                      | ((repeat apply Exists.intro); exact ⟨⟨j + 1, hle9, by go_num, rfl⟩, rfl⟩)
                  case measure => simp [intOf]; omega
                · have hhs := has_lp HL6.out X HXLE.out
                  rw [HHX.out] at hhs
                  have HHS := Lib.hid hhs
                  have hwt := want_lp HL6.out X HXLE.out
                  rw [HWX.out] at hwt
                  have HWT := Lib.hid hwt
                  clear hhs hwt
                  go_wp2_with fail
                  refine HHS.out.mono ?_
                  rintro e w' ⟨rfl, rfl⟩
                  go_wp2_with fail
                  refine HWT.out.mono ?_
                  rintro e w7 ⟨rfl, m3, hl3, ef, el, ht⟩
                  have HL7 := Lib.hid hl3
                  have HO7 := Lib.hid (own_off HL6.out ht HO6.out)
                  have HOA : Hid ((w7.alloc (.cells #[.int .i64 X] 3)).ownsRow U.heap.size 3 1 (.slice A k C) k (ints H)) := HO7.out.alloc _
                  have HRD : Hid (Rd (w7.alloc (.cells #[.int .i64 X] 3)) 1 (.slice (some ⟨w7.heap.size, 0, none⟩) 1 1) 1 [.int .i64 X]) := rd_new w7 [.int .i64 X] 3 1 1 rfl (by unfold maxLen; omega)
                  have HONE := Lib.hid (one_int X)
                  have HBY : Hid ((k + 1) * 8 ≤ 140737488355328) := by show _ ≤ _; omega
                  have HBB : Hid (Below U.heap.size U (w7.alloc (.cells #[.int .i64 X] 3))) := HL7.out.low.alloc HL7.out.low.size _
                  clear hl3 ef el ht HHS HWT HL6 HO6
                  go_wp2_with (at_builtin; refine wpList_append_gr _ rfl (.tmp 112) (.tmp 114) 22 rfl U.heap.size 3 i0 (.int .i64 0) 1 8 Tryd.underlying22 hi hz0 hz1 hz2 rfl (by decide) _ k _ rfl HOA.out _ 1 [.int .i64 X] rfl HRD.out HONE.out HBY.out (by decide) HBB.out.size ?_)
                  intro v' w8 ho8 hg8
                  obtain ⟨A8, C8, rfl, _, _⟩ := (own_rd ho8).shape
                  have HN8 : Hid (Rn U g m3 T A8 (k + 1) C8 (H ++ [X]) w8) := by
                    refine ⟨?_, ?_, by rw [List.length_append, ← HNP.out]; rfl, HPP.out⟩
                    · have h1 := HL7.out.gr ((Gr.refl w7).alloc (.cells #[.int .i64 X] 3))
                      refine ⟨⟨h1.po.pm.keep (h1.po.pm.laid.keep hg8.size ?_) fun q hq => ?_, h1.po.ok, h1.po.ties⟩, h1.off, HBB.out.grown hg8 HBB.out.size (fun q hq => (HOA.out.lt q hq).1)⟩
                      · refine hg8.block 0 h1.po.pm.laid.1 fun e => ?_
                        have h2 := (HOA.out.lt 0 e.symm).1
                        have h3 := h1.po.pm.lt
                        have h4 := HLU.out.1
                        omega
                      · refine hg8.block q (h1.po.pm.lt q hq).2 fun e => ?_
                        have e2 : q ∈ Id.blk (.slice A k C) := by
                          cases A with
                          | none => cases e
                          | some ad =>
                            have h9 : ad.block = q := by first | exact (Option.some.inj e).symm | exact Option.some.inj e
                            simp [Id.blk, h9]
                        simp only [Fm, List.mem_cons, List.mem_append] at hq
                        rcases hq with hq | hq | hq
                        · exact blk_ne_g HOA.out h1.po.pm.row (by decide) q e2 hq
                        · exact blk_ne_blk HOA.out h1.po.pm.fo.own (by decide) q e2 hq
                        · exact blk_ne_blk HOA.out h1.po.pm.lo.own (by decide) q e2 hq
                    · rw [ints, List.map_append]; exact ho8
                  clear ho8 hg8 HOA HRD HBB HL7 HO7
                  go_wp2_with fail
                  go_roundw
                  case rel =>
                    first
                      | exact ⟨i + 1, m3, T, A8, k + 1, C8, _, hle, by go_num, rfl, HN8⟩
                      | ((repeat apply Exists.intro); exact ⟨⟨i + 1, m3, T, A8, k + 1, C8, _, hle, by go_num, rfl, HN8⟩, rfl⟩)
                  case measure => simp [intOf]; omega
          · clear hgive
            have HNP : Hid (k = H.length) := HN.out.len
            cases hfl : freeL S with
            | nil =>
              have hT := take_lp HN.out.lp
              rw [show take S = (S, 0, 121) by unfold take; rw [hfl]] at hT
              have hf0 : free S = 0 := by rw [← free_eq HN.out.lp.po.ok, hfl]; rfl
              have HF0 := Lib.hid hf0
              have HT := Lib.hid hT
              clear hT hf0 hfl
              go_wp2_with fail
              refine HT.out.mono ?_
              rintro e w6 ⟨rfl, m2, hl2', ef, el, ht⟩
              have HN6 : Hid (Rn U g m2 S A k C H w6) := ⟨hl2', own_off HN.out.lp ht HN.out.own, HN.out.len, HN.out.perm⟩
              have hfr := free_lp hl2'
              rw [HF0.out] at hfr
              have HFR := Lib.hid hfr
              clear hl2' ef el ht hfr HT HN
              go_wp2_with fail
              refine HFR.out.mono ?_
              rintro e w' ⟨rfl, rfl⟩
              clear e0 e1 HFR
              go_wp2_with fail
              go_roundw
              case rel =>
                first
                  | exact ⟨i + 1, m2, S, A, k, C, H, hle, by go_num, rfl, HN6⟩
                  | ((repeat apply Exists.intro); exact ⟨⟨i + 1, m2, S, A, k, C, H, hle, by go_num, rfl, HN6⟩, rfl⟩)
              case measure => simp [intOf]; omega
            | cons p0 r0 =>
              have hmem : p0 ∈ freeL S := by rw [hfl]; simp
              obtain ⟨hh1, hh2⟩ := free_has hmem
              have hT := take_lp HN.out.lp
              rw [show take S = (put S (S.base + (p0 : Int)), S.base + (p0 : Int), 0) by unfold take; rw [hfl]] at hT
              obtain ⟨X, hX⟩ : ∃ X, X = S.base + (p0 : Int) := ⟨_, rfl⟩
              rw [← hX] at hT hh1 hh2
              have hXle : X ≤ 9223372036854775807 := by
                have h1 := has_iff.1 hh1
                have h2 := HN.out.lp.po.ok.r.last
                omega
              have HXN : Hid (X ∉ H) := fun hm => hh2 (HN.out.perm.mem_iff.1 hm)
              have HPP : Hid ((H ++ [X]).Perm (put S X).L) := (List.perm_append_singleton X H).trans ((HN.out.perm.cons X).trans (put_perm X S.L).symm)
              have HHX : Hid (has (put S X) X = true) := (has_same rfl rfl rfl X).trans hh1
              have HWX : Hid (want (put S X) X = (put S X, 122)) := by
                show _ = _
                unfold want
                rw [if_pos HHX.out, if_pos (mem_put.2 (.inl rfl))]
              have HT := Lib.hid hT
              have HXLE := Lib.hid hXle
              clear hT hfl hmem hh1 hh2 hX hXle
              obtain ⟨T, hT⟩ : ∃ T, T = put S X := ⟨_, rfl⟩
              rw [← hT] at HT HPP HHX HWX
              clear hT
              go_wp2_with fail
              refine HT.out.mono ?_
              rintro e w6 ⟨rfl, m2, hl2', ef, el, ht⟩
              have HL6 := Lib.hid hl2'
              have HO6 := Lib.hid (own_off HN.out.lp ht HN.out.own)
              have HI6 : Hid (IR w6 (.slice A k C) H) := by
                have := own_rd HO6.out
                show Rd _ _ _ _ _
                rw [← HNP.out]; exact this
              clear hl2' ef el ht HT HN e0 e1
              go_wp2_with fail
              go_loopw [12] (fun jv wr => ∃ j : Nat, j ≤ k ∧ jv = .int .i64 (j : Int) ∧ w6 = wr) (fun jv _ => k - (intOf jv).toNat)
              case atStart => exact ⟨0, Nat.zero_le _, rfl, rfl⟩
              case round =>
                obtain ⟨j, hjk, rfl, rfl⟩ := hrel
                by_cases hlt9 : j < k
                · have hjl : j < H.length := by rw [← HNP.out]; exact hlt9
                  obtain ⟨bh, oh, ea, hch⟩ := IR.at HI6.out HNP.out (by omega)
                  subst ea
                  have eh := hch j hjl
                  have hne : H[j] ≠ X := fun e => HXN.out (e ▸ List.getElem_mem hjl)
                  obtain ⟨y, hy⟩ : ∃ y, y = H[j] := ⟨_, rfl⟩
                  rw [← hy] at eh hne
                  have hyx : (y == X) = false := by simpa using hne
                  have hle9 : j + 1 ≤ k := by omega
                  clear hch hy hne hjl
                  go_wp2_with fail
                  go_roundw
                  case rel =>
                    first
                      | exact ⟨j + 1, hle9, by go_num, trivial⟩
                      | exact ⟨j + 1, hle9, by go_num, rfl⟩
                      | ((repeat apply Exists.intro); exact ⟨⟨j + 1, hle9, by go_num, rfl⟩, rfl⟩)
                  case measure => simp [intOf]; omega
                · have hhs := has_lp HL6.out X HXLE.out
                  rw [HHX.out] at hhs
                  have HHS := Lib.hid hhs
                  have hwt := want_lp HL6.out X HXLE.out
                  rw [HWX.out] at hwt
                  have HWT := Lib.hid hwt
                  clear hhs hwt
                  go_wp2_with fail
                  refine HHS.out.mono ?_
                  rintro e w' ⟨rfl, rfl⟩
                  go_wp2_with fail
                  refine HWT.out.mono ?_
                  rintro e w7 ⟨rfl, m3, hl3, ef, el, ht⟩
                  have HL7 := Lib.hid hl3
                  have HO7 := Lib.hid (own_off HL6.out ht HO6.out)
                  have HOA : Hid ((w7.alloc (.cells #[.int .i64 X] 3)).ownsRow U.heap.size 3 1 (.slice A k C) k (ints H)) := HO7.out.alloc _
                  have HRD : Hid (Rd (w7.alloc (.cells #[.int .i64 X] 3)) 1 (.slice (some ⟨w7.heap.size, 0, none⟩) 1 1) 1 [.int .i64 X]) := rd_new w7 [.int .i64 X] 3 1 1 rfl (by unfold maxLen; omega)
                  have HONE := Lib.hid (one_int X)
                  have HBY : Hid ((k + 1) * 8 ≤ 140737488355328) := by show _ ≤ _; omega
                  have HBB : Hid (Below U.heap.size U (w7.alloc (.cells #[.int .i64 X] 3))) := HL7.out.low.alloc HL7.out.low.size _
                  clear hl3 ef el ht HHS HWT HL6 HO6
                  go_wp2_with (at_builtin; refine wpList_append_gr _ rfl (.tmp 112) (.tmp 114) 22 rfl U.heap.size 3 i0 (.int .i64 0) 1 8 Tryd.underlying22 hi hz0 hz1 hz2 rfl (by decide) _ k _ rfl HOA.out _ 1 [.int .i64 X] rfl HRD.out HONE.out HBY.out (by decide) HBB.out.size ?_)
                  intro v' w8 ho8 hg8
                  obtain ⟨A8, C8, rfl, _, _⟩ := (own_rd ho8).shape
                  have HN8 : Hid (Rn U g m3 T A8 (k + 1) C8 (H ++ [X]) w8) := by
                    refine ⟨?_, ?_, by rw [List.length_append, ← HNP.out]; rfl, HPP.out⟩
                    · have h1 := HL7.out.gr ((Gr.refl w7).alloc (.cells #[.int .i64 X] 3))
                      refine ⟨⟨h1.po.pm.keep (h1.po.pm.laid.keep hg8.size ?_) fun q hq => ?_, h1.po.ok, h1.po.ties⟩, h1.off, HBB.out.grown hg8 HBB.out.size (fun q hq => (HOA.out.lt q hq).1)⟩
                      · refine hg8.block 0 h1.po.pm.laid.1 fun e => ?_
                        have h2 := (HOA.out.lt 0 e.symm).1
                        have h3 := h1.po.pm.lt
                        have h4 := HLU.out.1
                        omega
                      · refine hg8.block q (h1.po.pm.lt q hq).2 fun e => ?_
                        have e2 : q ∈ Id.blk (.slice A k C) := by
                          cases A with
                          | none => cases e
                          | some ad =>
                            have h9 : ad.block = q := by first | exact (Option.some.inj e).symm | exact Option.some.inj e
                            simp [Id.blk, h9]
                        simp only [Fm, List.mem_cons, List.mem_append] at hq
                        rcases hq with hq | hq | hq
                        · exact blk_ne_g HOA.out h1.po.pm.row (by decide) q e2 hq
                        · exact blk_ne_blk HOA.out h1.po.pm.fo.own (by decide) q e2 hq
                        · exact blk_ne_blk HOA.out h1.po.pm.lo.own (by decide) q e2 hq
                    · rw [ints, List.map_append]; exact ho8
                  clear ho8 hg8 HOA HRD HBB HL7 HO7
                  go_wp2_with fail
                  go_roundw
                  case rel =>
                    first
                      | exact ⟨i + 1, m3, T, A8, k + 1, C8, _, hle, by go_num, rfl, HN8⟩
                      | ((repeat apply Exists.intro); exact ⟨⟨i + 1, m3, T, A8, k + 1, C8, _, hle, by go_num, rfl, HN8⟩, rfl⟩)
                  case measure => simp [intOf]; omega
      · by_cases hlt1 : i < n1
        · have hlt2 : ¬ i < 60 := fun h => hlt ⟨hlt1, h⟩
          clear hlt
          have HLP := Lib.hid (leased_lp HN.out.lp)
          have HLK : Hid (S.L.length = k) := by show _ = _; rw [HN.out.len, HN.out.perm.length_eq]
          have HLOW := Lib.hid HN.out.lp.low
          have hkk : ((k : Int) == (k : Int)) = true := by simp
          clear HN
          go_wp2_with fail
          refine HLP.out.mono ?_
          rintro e w6 ⟨v6, rfl, ho6, hb6, hl6⟩
          obtain ⟨A6, C6, ev, _, _⟩ := (own_rd ho6).shape
          rw [HLK.out] at ev
          subst ev
          have HLAST : Hid (Below W.heap.size W w6) := HBU.out.trans (Below.mono hl6.low HBU.out.size)
          clear ho6 hb6 hl6 HLP
          go_wp2
          go_ret
          exact ⟨rfl, HLAST.out⟩
        · clear hlt
          have HLP := Lib.hid (leased_lp HN.out.lp)
          have HLK : Hid (S.L.length = k) := by show _ = _; rw [HN.out.len, HN.out.perm.length_eq]
          have HLOW := Lib.hid HN.out.lp.low
          have hkk : ((k : Int) == (k : Int)) = true := by simp
          clear HN
          go_wp2_with fail
          refine HLP.out.mono ?_
          rintro e w6 ⟨v6, rfl, ho6, hb6, hl6⟩
          obtain ⟨A6, C6, ev, _, _⟩ := (own_rd ho6).shape
          rw [HLK.out] at ev
          subst ev
          have HLAST : Hid (Below W.heap.size W w6) := HBU.out.trans (Below.mono hl6.low HBU.out.size)
          clear ho6 hb6 hl6 HLP
          go_wp2
          go_ret
          exact ⟨rfl, HLAST.out⟩

theorem own : ownKnob Tryd.prog.godebug = none := by kernel_rfl
theorem laidOut : laidOutB Tryd.prog = true := by kernel_rfl
theorem door_met (os : Os) (args : Array Value) : laidMetH Tryd.prog Rows.poolOnceRow.laid ((World.doorLaid Tryd.prog 400 os).forCall (fun _ _ => 0) ⟨#[], args, []⟩).memory :=
  laidMetH_of_parts3 (fuel := 8) (laidMet_of_run' 8 (by kernel_rfl) (by kernel_rfl)) (by kernel_rfl) (by kernel_rfl)
set_option maxRecDepth 100000 in
theorem lifted (os : Os) (started : os.Started) (H : Type) (enc : TypeId × Value → H) :
    ReturnsInHanded {} Tryd.checked os 6 .any (fun w args => (Rows.poolOnceSpec.pre enc Tryd.prog Tryd.f6 [] false w args ∧ laidMetH Tryd.prog Rows.poolOnceRow.laid w) ∧ sizedMet enc Tryd.prog Tryd.f6 (OpenSpec.ofChange Rows.poolOnceSpec) false w args) (Rows.poolOnceSpec.post enc Tryd.prog Tryd.f6 false true false false) := by
  refine returnsInHanded_of_change_and (C := Tryd.checked) (X := fun w _ => laidMetH Tryd.prog Rows.poolOnceRow.laid w) (fun _ _ _ hh h => h.of_heap hh) own started (by kernel_rfl) Tryd.func6
    (ChangeSpec.witness_shaped (enc := enc) (C := Tryd.checked) (os := os) (X := fun w _ => laidMetH Tryd.prog Rows.poolOnceRow.laid w) false (World.doorLaid Tryd.prog 400 os) #[.agg #[.int .i64 0, .int .i64 0, .slice none 0 0], .slice none 0 0] 8 rfl (World.shaped_of_RefB (by kernel_rfl) (by kernel_rfl)) (by kernel_rfl) (by kernel_rfl) (by kernel_rfl) (door_met os _)) ?_
  intro W base args ds gs before hval0 hW _ _ hL _
  have hval : ∀ (j : Nat) t v, Tryd.f6.params[j]? = some t → args[j]? = some v → Value.okWide Tryd.prog W .any base t v := hval0
  have hW' := hW
  obtain ⟨p, q, hA0, hV, rfl, hfz, hnd⟩ := hW
  have hA : DataW.TrodAll enc Tryd.prog W 0 (fun _ => true) true Tryd.f6.params.toList args.toList ds p := hA0
  rw [Tryd.params6] at hA hval
  obtain ⟨v0, vs0, d0, ds0, p0, q0, hargs, rfl, rfl, h0, r0⟩ := trodAll_cons hA
  obtain ⟨v1, vs1, d1, ds1, p1, q1, rfl, rfl, rfl, h1, r1⟩ := trodAll_cons r0
  obtain ⟨rfl, rfl, rfl⟩ := trodAll_nil r1
  obtain rfl : args = #[v0, v1] := by cases args; simp_all
  obtain ⟨rfl, rfl⟩ := trodVars_none hV
  have k0 := h0
  have lt0 : ∀ x ∈ p0, x.block < W.heap.size := by obtain ⟨m, hm⟩ := k0; exact DataW.trod_lt m _ _ _ hm
  obtain ⟨x0, y0, a0, n0, c0, l0, rfl, wx0, wy0, hn0, b0⟩ := open_range Tryd.underlying24 ⟨rfl, rfl, rfl⟩ Tryd.underlying3 Tryd.underlying3 Tryd.underlying22 Tryd.underlying3 ⟨by kernel_rfl, by kernel_rfl, by kernel_rfl, by kernel_rfl, by kernel_rfl⟩ (hval 0 24 v0 rfl rfl) h0
  have k1 := h1
  have lt1 : ∀ x ∈ p1, x.block < W.heap.size := by obtain ⟨m, hm⟩ := k1; exact DataW.trod_lt m _ _ _ hm
  obtain ⟨a1, n1, c1, qs1, rfl, b1⟩ := open_pops Tryd.underlying25 Tryd.underlying38 ⟨rfl, rfl, rfl⟩ Tryd.underlying5 Tryd.underlying3 Tryd.underlying4 ⟨by kernel_rfl, by kernel_rfl, by kernel_rfl, by kernel_rfl⟩ (hval 1 25 v1 rfl rfl) h1
  clear hA0 hval0
  refine (walk W (of_laid hL) x0 y0 a0 n0 c0 l0 wx0 wy0 hn0 b0 a1 n1 c1 qs1 b1).mono fun e W' ⟨he, bel⟩ => ?_
  subst he
  exact ⟨_, rfl, _, _, _, [], _, [], hW', trodAll_mk1 (shut_bool Tryd.underlying4 _), (trodAll_cons_mk (Below.trod laidOut (by kernel_rfl) (of_decide_eq_true (by kernel_rfl)) k0 bel lt0) (trodAll_cons_mk (Below.trod laidOut (by kernel_rfl) (of_decide_eq_true (by kernel_rfl)) k1 bel lt1) trodAll_mk0)), rfl, bel.frame _, fun h => by cases h⟩
theorem over : Rows.poolOnceRow.holds Tryd.pinned (OpenSpec.ofChange Rows.poolOnceSpec) :=
  OpenClaim.holds_of_wide 6 Tryd.f6 rfl rfl rfl rfl rfl rfl rfl ⟨rfl, rfl, rfl, rfl, rfl⟩ rfl rfl rfl rfl rfl (by kernel_rfl) Tryd.func6 (by kernel_rfl)
    (of_decide_eq_true (by kernel_rfl)) (by unfold Func.isWrapper; first | (rw [if_pos (by decide +kernel)]; kernel_rfl) | (rw [if_neg (by decide +kernel)]; exact ⟨rfl, rfl⟩))
    (fun os started H enc _ => lifted os started H enc)
/-- The statement: the tied card. -/
theorem proved : Rows.PoolOnceCardSaid :=
  Claim7.holds_tied_plain_at .later [] [.data] true (true, "e874124b9b968c9656ea65cff0e58373288b28edbace69890e6b772b92dc920d") false over (fun _ h => by cases h) (by kernel_rfl) (fun _ h => by cases h) poolOnce_row_tie rfl ⟨rfl, rfl⟩ (by kernel_rfl) rfl
    (fun f fn hf hfn => by
      obtain rfl : f = 6 := Option.some.inj ((show Tryd.prog.funcNamed "concierge/conciergelaw12.PoolOnce" = some 6 by kernel_rfl).symm.trans hf) |>.symm
      obtain rfl : fn = Tryd.f6 := (Option.some.inj (Tryd.func6.symm.trans hfn)).symm
      exact ⟨by kernel_rfl, fun j t ht => by
        rw [Tryd.params6] at ht
        have hm : t ∈ [24, 25] := by simpa using Array.mem_of_getElem? ht
        have hall : ([24, 25].all fun u => !Tryd.prog.wantsStandIn u) = true := by kernel_rfl
        exact (show Tryd.prog.wantsStandIn t = false by simpa using List.all_eq_true.1 hall t hm)⟩)
    (by kernel_rfl)
end Go.Proofs.YtoemghinolekgaaDoor.poolOnce
