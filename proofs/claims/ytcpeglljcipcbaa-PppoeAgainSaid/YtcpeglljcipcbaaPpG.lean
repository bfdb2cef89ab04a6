/-
  The packet of what a closure tells; Session, Refuse, Offer, Terminate.
-/
import Derived.Test.YtcpeglljcipcbaaPpF
import Derived.Test.YtcpeglljcipcbaaTagE
namespace Go.Proofs.Ytcpeglljcipcbaa
open Go.RowKit
set_option linter.unusedVariables false
set_option linter.unusedSimpArgs false

set_option maxHeartbeats 2000000 in
theorem answer_any (k : Nat) (hk : ∀ (args : Array Value) (w' : World), (callFunc k args).run Try.prog w' = .ok (.enter k args) w') (caps : Array Value) (cc s : Int) (ls : List PT) (w : World)
    (HF : ∀ w1 g, AP w w1 g [] → Calls Try.prog k (#[.func (.func 47) #[] #[.pointer (some ⟨g, 0, none⟩)]] ++ caps) w1 fun e w' => e = .returned (.tuple #[]) ∧ AP w w' g ls ∧ Adds w1 w')
    (hn : ls.length ≤ 100) (hm : ∀ x ∈ ls, x.2.length ≤ 1600) :
    Calls Try.prog 31 #[.int .i64 cc, .int .i64 s, .func (.func k) #[] caps] w (PRes (packP cc s ls) w) := by
  have BA : Below w.heap.size w ((w.alloc (.cells #[.int .i64 0, .int .i64 0, .slice none 0 0] 24)).alloc (.cells #[.slice none 0 0] 62)) := ((Below.refl _ _).alloc (Nat.le_refl _) _).alloc (by simp) _
  have HG0 : Hid (((w.alloc (.cells #[.int .i64 0, .int .i64 0, .slice none 0 0] 24)).alloc (.cells #[.slice none 0 0] 62)).heap[w.heap.size]? = some (.cells #[.int .i64 0, .int .i64 0, .slice none 0 0] 24 (0, 0))) := heap2_0' _ _ _
  have HG1 : Hid (((w.alloc (.cells #[.int .i64 0, .int .i64 0, .slice none 0 0] 24)).alloc (.cells #[.slice none 0 0] 62)).heap[w.heap.size + 1]? = some (.cells #[.slice none 0 0] 62 (0, 0))) := heap2_1' _ _ _
  have HP1 : Hid (AP w ((w.alloc (.cells #[.int .i64 0, .int .i64 0, .slice none 0 0] 24)).alloc (.cells #[.slice none 0 0] 62)) (w.heap.size + 1) []) := ⟨[], rfl, Nat.le_succ _, ⟨_, HG1.out, World.ownsRow_nil _ _ _ _⟩, (fun t h => by cases h), BA⟩
  have HB1 := Lib.hid BA
  have HC := Lib.hid (HF _ _ HP1.out)
  clear HF BA
  go_enter Try.func31, Try.ntmps31
  go_wp2_with fail
  refine HC.out.mono ?_
  rintro e w2 ⟨rfl, hp2, ha2⟩
  have HG2 := Lib.hid (ha2.keep _ _ _ _ HG0.out (by decide) (by decide))
  have HB2 := Lib.hid hp2.low
  obtain ⟨ts, hts, hal⟩ := hp2
  obtain ⟨a, c, hg, htr⟩ := hal.tr
  have HG := Lib.hid hg
  have k0 := cell1 hg
  have hlen : ts.length ≤ 1000 := by rw [← plain_length, hts]; omega
  have hsm : ∀ x ∈ ts, x.l.length ≤ 1000000 := by
    intro x hx
    have : (x.typ, x.l) ∈ ls := by rw [← hts]; exact List.mem_map.2 ⟨x, hx, rfl⟩
    have := hm _ this
    simp only at this
    omega
  have EN := Lib.hid (encode_any a ts.length c ts w2 htr hlen hsm)
  have HTS := Lib.hid hts
  have hsz : w.heap.size + 1 ≤ w2.heap.size := (Array.getElem?_eq_some_iff.1 HG2.out).1
  have HSZ := Lib.hid hsz
  clear ha2 hts hal hg htr hsm hsz HC hk HP1 HG1 HG0 HB1
  go_wp2_with fail
  refine EN.out.mono ?_
  rintro e w3 ⟨v3, rfl, hown3, hb3⟩
  rw [HTS.out] at hown3
  rw [HTS.out]
  have HB3 := Lib.hid (HB2.out.trans (hb3.mono HB2.out.size))
  have HG3 := Lib.hid (heap_below HG2.out hb3)
  have HO3 := Lib.hid (OwnB.mono hown3 HSZ.out)
  obtain ⟨A3, L3, C3, ev, _, _, _⟩ := hown3.bs.sl
  subst ev
  obtain ⟨q0, q1, q2⟩ := cells3 HG3.out
  have f0 := frozen_of_row _ _ 0 _ _ HG3.out
  have f1 := frozen_of_row _ _ 1 _ _ HG3.out
  have f2 := frozen_of_row _ _ 2 _ _ HG3.out
  clear hown3 hb3 EN k0
  by_cases hE : encE ls = 0
  · have HP := Lib.hid (packP_ok (c := cc) (s := s) hE)
    have HOW : Hid (OwnB w3 (w.heap.size + 1) 5 (.slice A3 L3 C3) (wireT ls)) := by
      have := HO3.out
      rw [encB_yes hE] at this
      exact this
    rw [hE]
    go_wp2
    refine bodyPost_ret (v := .tuple #[.agg #[.int .i64 cc, .int .i64 s, .slice A3 L3 C3], .int .i64 0]) (results_cell_tmp_row (P := Try.prog) (fn := Try.f31) rfl _ _ w.heap.size 24 _ (0, 0) _ rfl (set3 HG3.out _ _ _) Try.underlying24 rfl (by kernel_rfl)) rfl ?_
    exact PRes.some HP.out (OwnB.mono (base := w.heap.size + 1) (own_set3 HOW.out (Nat.lt_succ_self _) _ _ _) (Nat.le_succ _)) (((HB3.out.setCell (Nat.le_refl _) _).setCell (Nat.le_refl _) _).setCell (Nat.le_refl _) _)
  · have HP := Lib.hid (packP_no (c := cc) (s := s) hE)
    generalize encE ls = E at hE HP
    go_wp2
    refine bodyPost_ret (v := .tuple #[.agg #[.int .i64 0, .int .i64 0, .slice none 0 0], .int .i64 E]) (results_cell_tmp_row (P := Try.prog) (fn := Try.f31) rfl _ _ w.heap.size 24 _ (0, 0) _ rfl (set3 HG3.out _ _ _) Try.underlying24 rfl (by kernel_rfl)) rfl ?_
    exact PRes.none HP.out (((HB3.out.setCell (Nat.le_refl _) _).setCell (Nat.le_refl _) _).setCell (Nat.le_refl _) _)

theorem mayBegin_any (id : Int) (w : World) : Calls Try.prog 36 #[.int .i64 id] w fun e w' => e = .returned (.bool (decide (1 ≤ id ∧ id ≤ 65534))) ∧ Below w.heap.size w w' := by
  by_cases h1 : 1 ≤ id
  · by_cases h2 : id ≤ 65534
    · go_enter Try.func36, Try.ntmps36
      go_wp2
      go_ret
      exact ⟨by simp [h1, h2], Below.refl _ _⟩
    · go_enter Try.func36, Try.ntmps36
      go_wp2
      go_ret
      exact ⟨by simp [h1, h2], Below.refl _ _⟩
  · go_enter Try.func36, Try.ntmps36
    go_wp2
    go_ret
    exact ⟨by simp [h1]; intro; omega, Below.refl _ _⟩

set_option maxHeartbeats 1000000 in
theorem terminate_any (id : Int) (w : World) : Calls Try.prog 24 #[.int .i64 id] w (PRes (termP id) w) := by
  have BA : Below w.heap.size w (w.alloc (.cells #[.int .i64 0, .int .i64 0, .slice none 0 0] 24)) := (Below.refl _ _).alloc (Nat.le_refl _) _
  have HBA := Lib.hid BA
  have HG0 : Hid ((w.alloc (.cells #[.int .i64 0, .int .i64 0, .slice none 0 0] 24)).heap[w.heap.size]? = some (.cells #[.int .i64 0, .int .i64 0, .slice none 0 0] 24 (0, 0))) := heap_alloc_last _ _
  have MB := Lib.hid (mayBegin_any id (w.alloc (.cells #[.int .i64 0, .int .i64 0, .slice none 0 0] 24)))
  clear BA
  go_enter Try.func24, Try.ntmps24
  go_wp2_with fail
  refine MB.out.mono ?_
  rintro e w1 ⟨rfl, hb1⟩
  have HB1 := Lib.hid (HBA.out.trans (hb1.mono HBA.out.size))
  have HG1 := Lib.hid (heap_below HG0.out hb1)
  obtain ⟨q0, q1, q2⟩ := cells3 HG1.out
  have f0 := frozen_of_row _ _ 0 _ _ HG1.out
  have f1 := frozen_of_row _ _ 1 _ _ HG1.out
  have f2 := frozen_of_row _ _ 2 _ _ HG1.out
  clear hb1 MB
  by_cases h : 1 ≤ id ∧ id ≤ 65534
  · have HP : Hid (termP id = (⟨167, id, []⟩, 0)) := if_pos h
    rw [show decide (1 ≤ id ∧ id ≤ 65534) = true from decide_eq_true h]
    clear h
    go_wp2
    refine bodyPost_ret (v := .tuple #[.agg #[.int .i64 167, .int .i64 id, .slice none 0 0], .int .i64 0]) (results_cell_tmp_row (P := Try.prog) (fn := Try.f24) rfl _ _ w.heap.size 24 _ (0, 0) _ rfl (set3 HG1.out _ _ _) Try.underlying24 rfl (by kernel_rfl)) rfl ?_
    exact PRes.some HP.out (OwnB.nil _ _ _) (((HB1.out.setCell (Nat.le_refl _) _).setCell (Nat.le_refl _) _).setCell (Nat.le_refl _) _)
  · have HP : Hid (termP id = (PP.zero, 5)) := if_neg h
    rw [show decide (1 ≤ id ∧ id ≤ 65534) = false from decide_eq_false h]
    clear h
    go_wp2
    refine bodyPost_ret (v := .tuple #[.agg #[.int .i64 0, .int .i64 0, .slice none 0 0], .int .i64 5]) (results_cell_tmp_row (P := Try.prog) (fn := Try.f24) rfl _ _ w.heap.size 24 _ (0, 0) _ rfl (set3 HG1.out _ _ _) Try.underlying24 rfl (by kernel_rfl)) rfl ?_
    exact PRes.none HP.out (((HB1.out.setCell (Nat.le_refl _) _).setCell (Nat.le_refl _) _).setCell (Nat.le_refl _) _)
end Go.Proofs.Ytcpeglljcipcbaa
