/-
  The events' methods: what each tells in each state (step, Step).
-/
import Derived.Test.YtmhiajjnkcneoaaFsGa
namespace Go.Proofs.Ytmhiajjnkcneoaa.Fs
open Go.RowKit
open Go.Proofs.Ytmhiajjnkcneoaa.Id (Tr Tr.refl Tr.gr Tr.only)
set_option linter.unusedVariables false
set_option linter.unusedSimpArgs false

theorem sixteen {e : Int} (h : InE e) : e = 1 ∨ e = 2 ∨ e = 3 ∨ e = 4 ∨ e = 5 ∨ e = 6 ∨ e = 7 ∨ e = 8 ∨ e = 9 ∨ e = 10 ∨ e = 11 ∨ e = 12 ∨ e = 13 ∨ e = 14 ∨ e = 15 ∨ e = 16 := by unfold InE at h; omega
/-- An event's method is found, and it tells what the table says. -/
theorem event_any (p : Nat) (s e : Int) (w : World) (hs : InS s) (he : InE e) (h : Sm w p s) :
    ∃ k, (∀ (args : Array Value) (w' : World), (callFunc k args).run Try.prog w' = .ok (.enter k args) w') ∧ (∀ w', Below w.heap.size w w' → Calls Try.prog k #[.pointer (some ⟨p, 0, none⟩)] w' (MRes p w' (tab s e))) ∧
      Calls Try.prog 35 #[.int .i64 e] w fun x w' => x = .returned (.func (.func k) #[] #[]) ∧ Below w.heap.size w w' := by
  obtain rfl | rfl | rfl | rfl | rfl | rfl | rfl | rfl | rfl | rfl | rfl | rfl | rfl | rfl | rfl | rfl := sixteen he
  · exact ⟨_, fun _ _ => rfl, fun w' hb => m_1 p s w' hs (h.gr hb), rowOf_1 w⟩
  · exact ⟨_, fun _ _ => rfl, fun w' hb => m_2 p s w' hs (h.gr hb), rowOf_2 w⟩
  · exact ⟨_, fun _ _ => rfl, fun w' hb => m_3 p s w' hs (h.gr hb), rowOf_3 w⟩
  · exact ⟨_, fun _ _ => rfl, fun w' hb => m_4 p s w' hs (h.gr hb), rowOf_4 w⟩
  · exact ⟨_, fun _ _ => rfl, fun w' hb => m_5 p s w' hs (h.gr hb), rowOf_5 w⟩
  · exact ⟨_, fun _ _ => rfl, fun w' hb => m_6 p s w' hs (h.gr hb), rowOf_6 w⟩
  · exact ⟨_, fun _ _ => rfl, fun w' hb => m_7 p s w' hs (h.gr hb), rowOf_7 w⟩
  · exact ⟨_, fun _ _ => rfl, fun w' hb => m_8 p s w' hs (h.gr hb), rowOf_8 w⟩
  · exact ⟨_, fun _ _ => rfl, fun w' hb => m_9 p s w' hs (h.gr hb), rowOf_9 w⟩
  · exact ⟨_, fun _ _ => rfl, fun w' hb => m_10 p s w' hs (h.gr hb), rowOf_10 w⟩
  · exact ⟨_, fun _ _ => rfl, fun w' hb => m_11 p s w' hs (h.gr hb), rowOf_11 w⟩
  · exact ⟨_, fun _ _ => rfl, fun w' hb => m_12 p s w' hs (h.gr hb), rowOf_12 w⟩
  · exact ⟨_, fun _ _ => rfl, fun w' hb => m_13 p s w' hs (h.gr hb), rowOf_13 w⟩
  · exact ⟨_, fun _ _ => rfl, fun w' hb => m_14 p s w' hs (h.gr hb), rowOf_14 w⟩
  · exact ⟨_, fun _ _ => rfl, fun w' hb => m_15 p s w' hs (h.gr hb), rowOf_15 w⟩
  · exact ⟨_, fun _ _ => rfl, fun w' hb => m_16 p s w' hs (h.gr hb), rowOf_16 w⟩

/-- Where it stands behind an event. -/
def nxt (s e : Int) : Int := if (stp s e).2.2 = 0 then (stp s e).1 else s
theorem stp_none {s e : Int} (hs : InS s) (he : InE e) (h : tab s e = none) : stp s e = (0, [], 5) := by unfold stp; rw [if_pos ⟨hs, he⟩, h]
theorem stp_some {s e n : Int} {l : List Int} (hs : InS s) (he : InE e) (h : tab s e = some (n, l)) : stp s e = (n, l, 0) := by unfold stp; rw [if_pos ⟨hs, he⟩, h]
/-- What 'step' tells, and what it turns. -/
def SRes (p : Nat) (s e : Int) (w : World) (x : Ending) (w' : World) : Prop := ∃ v, x = .returned (.tuple #[v, .int .i64 (stp s e).2.2]) ∧ AO w' w.heap.size v (stp s e).2.1 ∧ Sm w' p (nxt s e) ∧ Tr [p] w w'
theorem sres_err {p : Nat} {s e : Int} {w : World} (h : Sm w p s) {f : Int} (hf : stp s e = (0, [], f)) (h0 : f ≠ 0) : SRes p s e w (.returned (.tuple #[.slice none 0 0, .int .i64 f])) w := by
  unfold SRes nxt
  rw [hf]
  refine ⟨_, rfl, AO.nil _ _, ?_, Tr.refl _ _⟩
  rw [if_neg h0]
  exact h
set_option maxHeartbeats 2000000 in
theorem step_any (p : Nat) (s e : Int) (w : World) (h : Sm w p s) : Calls Try.prog 28 #[.pointer (some ⟨p, 0, none⟩), .int .i64 e] w (SRes p s e w) := by
  have HO := Lib.hid (isOne_any p s w h)
  by_cases hs : InS s
  · rw [decide_eq_true hs] at HO
    by_cases he : InE e
    · obtain ⟨k, hk, hm, hr⟩ := event_any p s e w hs he h
      have HM := Lib.hid hm
      have HR := Lib.hid hr
      have HI := Lib.hid (And.intro hs he)
      have HH := Lib.hid h
      have e1 : ¬ e < 1 := by have := he.1; omega
      have e2 : ¬ 16 < e := by have := he.2; omega
      clear hs he hm hr h
      go_enter Try.func28, Try.ntmps28
      go_wp2_with fail
      refine HO.out.mono ?_
      rintro x w1 ⟨rfl, rfl⟩
      go_wp2_with fail
      refine HR.out.mono ?_
      rintro x w1 ⟨rfl, hb⟩
      have HC := Lib.hid (HM.out w1 hb)
      have HB := Lib.hid hb
      clear hb HM HR HO
      cases ht : tab s e with
      | none =>
        have HE := Lib.hid (sres_err HH.out (stp_none HI.out.1 HI.out.2 ht) (by decide))
        rw [ht] at HC
        clear ht
        go_wp2_with fail
        refine HC.out.mono ?_
        rintro x w2 ⟨rfl, rfl⟩
        go_wp2
        go_ret2
        obtain ⟨v, h1, h2, h3, h4⟩ := HE.out
        exact ⟨v, h1, h2.below HB.out, h3.gr HB.out, h4.trans (Tr.gr HB.out) (fun i hi => .inl hi)⟩
      | some nl =>
        obtain ⟨n, l⟩ := nl
        have HS := Lib.hid (stp_some HI.out.1 HI.out.2 ht)
        rw [ht] at HC
        clear ht
        go_wp2_with fail
        refine HC.out.mono ?_
        rintro x w2 ⟨v, rfl, ho, hm, ht⟩
        have HO2 := Lib.hid ho
        have HM2 := Lib.hid hm
        have HT2 := Lib.hid ht
        clear ho hm ht
        go_wp2
        go_ret2
        unfold SRes nxt
        rw [HS.out, if_pos rfl]
        exact ⟨v, rfl, HO2.out.mono HB.out.size, HM2.out, (Tr.gr HB.out).trans HT2.out (fun i hi => .inl hi)⟩
    · have HE := Lib.hid (sres_err h (stp_out (s := s) (e := e) (fun c => he c.2)) (by decide))
      by_cases e1 : e < 1
      · clear h hs he
        go_enter Try.func28, Try.ntmps28
        go_wp2_with fail
        refine HO.out.mono ?_
        rintro x w1 ⟨rfl, rfl⟩
        go_wp2_with fail
        go_ret2
        exact HE.out
      · have e2 : 16 < e := by unfold InE at he; omega
        clear h hs he
        go_enter Try.func28, Try.ntmps28
        go_wp2_with fail
        refine HO.out.mono ?_
        rintro x w1 ⟨rfl, rfl⟩
        go_wp2_with fail
        go_ret2
        exact HE.out
  · have HE := Lib.hid (sres_err h (stp_out (s := s) (e := e) (fun c => hs c.1)) (by decide))
    rw [decide_eq_false hs] at HO
    clear h hs
    go_enter Try.func28, Try.ntmps28
    go_wp2_with fail
    refine HO.out.mono ?_
    rintro x w1 ⟨rfl, rfl⟩
    go_wp2_with fail
    go_ret2
    exact HE.out
/-- What 'Step' tells, ours and the document's. -/
def TRes (s e : Int) (w : World) (x : Ending) (w' : World) : Prop := ∃ v, x = .returned (.tuple #[.int .i64 (stp s e).1, v, .int .i64 (stp s e).2.2]) ∧ AO w' w.heap.size v (stp s e).2.1 ∧ Below w.heap.size w w'
set_option maxHeartbeats 2000000 in
theorem Step_any (s e : Int) (w : World) : Calls Try.prog 11 #[.int .i64 s, .int .i64 e] w (TRes s e w) := by
  have HM : Hid (Sm (w.alloc (.cells #[.int .i64 s] 46)) w.heap.size s) := heap_alloc_last _ _
  have HS := Lib.hid (step_any w.heap.size s e _ HM.out)
  have HB := Lib.hid ((Below.refl w.heap.size w).alloc (Nat.le_refl _) (.cells #[.int .i64 s] 46))
  go_enter Try.func11, Try.ntmps11
  go_wp2_with fail
  refine HS.out.mono ?_
  rintro x w2 ⟨v, rfl, ho, hm, ht⟩
  have hsz : (w.alloc (.cells #[.int .i64 s] 46)).heap.size = w.heap.size + 1 := by simp
  have HO : Hid (AO w2 w.heap.size v (stp s e).2.1) := ho.mono (by rw [hsz]; omega)
  have HB2 : Hid (Below w.heap.size w w2) := Tr.below HB.out (by rw [hsz]; omega) ht (fun k hk => by rw [List.mem_singleton.1 hk]; exact Nat.le_refl _)
  by_cases h0 : (stp s e).2.2 = 0
  · have k0 := cell1 (show w2.heap[w.heap.size]? = some (.cells #[.int .i64 (nxt s e)] 46 (0, 0)) from hm)
    have HN : Hid (nxt s e = (stp s e).1) := by show _ = _; unfold nxt; rw [if_pos h0]
    clear hsz ho hm ht HS HM
    go_wp2
    go_ret3
    refine ⟨v, ?_, HO.out, HB2.out⟩
    show Ending.returned (.tuple #[.int .i64 (nxt s e), v, .int .i64 0]) = _
    rw [HN.out, h0]
  · have HE := Lib.hid (stp_err h0)
    have HO3 := HO.out
    clear hsz ho hm ht HS HM
    go_wp2
    go_ret3
    refine ⟨.slice none 0 0, ?_, ?_, HB2.out⟩
    · show Ending.returned (.tuple #[.int .i64 0, .slice none 0 0, .int .i64 (stp s e).2.2]) = _
      rw [HE.out.1]
    rw [HE.out.2]
    exact AO.nil _ _
end Go.Proofs.Ytmhiajjnkcneoaa.Fs
