/-
  cp.Reject, cp.Protocol, whatever comes.
-/
import Derived.Test.YthllhdcdiidfpaaCpF
namespace Go.Proofs.Ythllhdcdiidfpaa
open Go.RowKit
set_option linter.unusedVariables false
set_option linter.unusedSimpArgs false

theorem cencB_len (q : QC) : (cencB q).length ≤ 4 + q.l.length := by
  unfold cencB
  split
  · rw [wireC_length]; exact Nat.le_refl _
  · exact Nat.zero_le _
theorem joinB_len (q : QP) : (joinB q).length ≤ 2 + q.l.length := by
  unfold joinB
  split
  · rw [wireJ_length]; exact Nat.le_refl _
  · exact Nat.zero_le _
theorem reject1C_any (C S : Int) (A : Option Addr) (L K : Nat) (l : List UInt8) (hl : l.length = L) (w : World) (g : Nat) (hg : w.heap[g]? = some (.cells #[.int .i64 C, .int .i64 S, .slice A L K] 39)) (hb : Bs w (.slice A L K) l) (hL : L ≤ 1000000) :
    Calls Try.prog 33 #[.pointer (some ⟨g, 0, none⟩)] w (BRes (cencE ⟨C, S, l⟩) (cencB ⟨C, S, l⟩) w) := by
  have EN := Lib.hid (cencode_any C S A L K l hl w hb hL)
  obtain ⟨k0, k1, k2⟩ := cells3 hg
  clear hl hb
  generalize cencE ⟨C, S, l⟩ = E at EN ⊢
  generalize cencB ⟨C, S, l⟩ = B at EN ⊢
  go_enter Try.func33, Try.ntmps33
  go_wp2_with fail
  refine EN.out.mono ?_
  rintro e w2 ⟨v2, rfl, hown2, hb2⟩
  have HO := Lib.hid hown2
  have HB := Lib.hid hb2
  clear hown2 hb2 EN k0 k1 k2
  go_wp2
  go_ret2
  exact ⟨v2, rfl, HO.out, HB.out⟩

set_option maxHeartbeats 2000000 in
theorem reject1_any (C S id : Int) (A : Option Addr) (L K : Nat) (l : List UInt8) (hl : l.length = L) (w : World) (hb : Bs w (.slice A L K) l) (hL : L ≤ 10000) :
    Calls Try.prog 20 #[.agg #[.int .i64 C, .int .i64 S, .slice A L K], .int .i64 id] w (CRes (rejP ⟨C, S, l⟩ id) w) := by
  have BA : Below w.heap.size w ((w.alloc (.cells #[.int .i64 C, .int .i64 S, .slice A L K] 39)).alloc (.cells #[.int .i64 0, .int .i64 0, .slice none 0 0] 39)) := ((Below.refl _ _).alloc (Nat.le_refl _) _).alloc (by simp) _
  have HG0 : Hid (((w.alloc (.cells #[.int .i64 C, .int .i64 S, .slice A L K] 39)).alloc (.cells #[.int .i64 0, .int .i64 0, .slice none 0 0] 39)).heap[w.heap.size]? = some (.cells #[.int .i64 C, .int .i64 S, .slice A L K] 39)) := heap2_0' _ _ _
  have HG1 : Hid (((w.alloc (.cells #[.int .i64 C, .int .i64 S, .slice A L K] 39)).alloc (.cells #[.int .i64 0, .int .i64 0, .slice none 0 0] 39)).heap[w.heap.size + 1]? = some (.cells #[.int .i64 0, .int .i64 0, .slice none 0 0] 39 (0, 0))) := heap2_1' _ _ _
  have HB1 := Lib.hid BA
  have RJ := Lib.hid (reject_any 33 (fun _ _ => rfl) #[.pointer (some ⟨w.heap.size, 0, none⟩)] 7 id (cencE ⟨C, S, l⟩) (cencB ⟨C, S, l⟩) ((w.alloc (.cells #[.int .i64 C, .int .i64 S, .slice A L K] 39)).alloc (.cells #[.int .i64 0, .int .i64 0, .slice none 0 0] 39))
    (fun w1 h1 => reject1C_any C S A L K l hl w1 w.heap.size (heap_below HG0.out h1) (hb.below (BA.trans (h1.mono BA.size))) (by omega)) (Nat.le_trans (cencB_len _) (by show 4 + l.length ≤ _; omega)))
  obtain ⟨r, hr⟩ : ∃ r, r = rejP ⟨C, S, l⟩ id := ⟨_, rfl⟩
  have hr' : tellP 7 id (cencE ⟨C, S, l⟩) (cencB ⟨C, S, l⟩) = r := hr.symm
  rw [hr'] at RJ
  rw [← hr]
  clear BA hl hb hr hr'
  go_enter Try.func20, Try.ntmps20
  go_wp2_with fail
  refine RJ.out.mono ?_
  rintro e w2 ⟨A2, L2, C2, rfl, hown2, hb2⟩
  have hsz : w.heap.size + 2 ≤ ((w.alloc (.cells #[.int .i64 C, .int .i64 S, .slice A L K] 39)).alloc (.cells #[.int .i64 0, .int .i64 0, .slice none 0 0] 39)).heap.size := by rw [World.size_alloc, World.size_alloc]; exact Nat.le_refl _
  have HO2 := Lib.hid (hown2.mono hsz)
  have HB2 := Lib.hid (HB1.out.trans (hb2.mono HB1.out.size))
  have HG2 := Lib.hid (heap_below HG1.out hb2)
  obtain ⟨k0, k1, k2⟩ := cells3 HG2.out
  have f0 := frozen_of_row _ _ 0 _ _ HG2.out
  have f1 := frozen_of_row _ _ 1 _ _ HG2.out
  have f2 := frozen_of_row _ _ 2 _ _ HG2.out
  clear hown2 hb2 RJ hsz
  go_wp2
  refine bodyPost_ret (v := .tuple #[.agg #[.int .i64 r.1.c, .int .i64 r.1.i, .slice A2 L2 C2], .int .i64 r.2]) (results_cell_tmp_row (P := Try.prog) (fn := Try.f20) rfl _ _ (w.heap.size + 1) 39 _ (0, 0) _ rfl (set3 HG2.out _ _ _) Try.underlying39 rfl (by kernel_rfl)) rfl ?_
  exact ⟨_, _, _, rfl, OwnB.mono (base := w.heap.size + 2) (own_set3 HO2.out (Nat.lt_succ_self _) _ _ _) (by omega), ((HB2.out.setCell (Nat.le_succ _) _).setCell (Nat.le_succ _) _).setCell (Nat.le_succ _) _⟩

theorem protocolC_any (C : Int) (A : Option Addr) (L K : Nat) (l : List UInt8) (hl : l.length = L) (w : World) (g : Nat) (hg : w.heap[g]? = some (.cells #[.int .i64 C, .slice A L K] 24)) (hb : Bs w (.slice A L K) l) (hL : L ≤ 1000000) :
    Calls Try.prog 35 #[.pointer (some ⟨g, 0, none⟩)] w (BRes (joinE ⟨C, l⟩) (joinB ⟨C, l⟩) w) := by
  have EN := Lib.hid (join_any C A L K l hl w hb hL)
  obtain ⟨k0, k1⟩ := cells2 hg
  clear hl hb
  generalize joinE ⟨C, l⟩ = E at EN ⊢
  generalize joinB ⟨C, l⟩ = B at EN ⊢
  go_enter Try.func35, Try.ntmps35
  go_wp2_with fail
  refine EN.out.mono ?_
  rintro e w2 ⟨v2, rfl, hown2, hb2⟩
  have HO := Lib.hid hown2
  have HB := Lib.hid hb2
  clear hown2 hb2 EN k0 k1
  go_wp2
  go_ret2
  exact ⟨v2, rfl, HO.out, HB.out⟩

set_option maxHeartbeats 2000000 in
theorem protocol_any (C id : Int) (A : Option Addr) (L K : Nat) (l : List UInt8) (hl : l.length = L) (w : World) (hb : Bs w (.slice A L K) l) (hL : L ≤ 10000) :
    Calls Try.prog 22 #[.agg #[.int .i64 C, .slice A L K], .int .i64 id] w (CRes (proP ⟨C, l⟩ id) w) := by
  have BA : Below w.heap.size w ((w.alloc (.cells #[.int .i64 C, .slice A L K] 24)).alloc (.cells #[.int .i64 0, .int .i64 0, .slice none 0 0] 39)) := ((Below.refl _ _).alloc (Nat.le_refl _) _).alloc (by simp) _
  have HG0 : Hid (((w.alloc (.cells #[.int .i64 C, .slice A L K] 24)).alloc (.cells #[.int .i64 0, .int .i64 0, .slice none 0 0] 39)).heap[w.heap.size]? = some (.cells #[.int .i64 C, .slice A L K] 24)) := heap2_0' _ _ _
  have HG1 : Hid (((w.alloc (.cells #[.int .i64 C, .slice A L K] 24)).alloc (.cells #[.int .i64 0, .int .i64 0, .slice none 0 0] 39)).heap[w.heap.size + 1]? = some (.cells #[.int .i64 0, .int .i64 0, .slice none 0 0] 39 (0, 0))) := heap2_1' _ _ _
  have HB1 := Lib.hid BA
  have RJ := Lib.hid (reject_any 35 (fun _ _ => rfl) #[.pointer (some ⟨w.heap.size, 0, none⟩)] 8 id (joinE ⟨C, l⟩) (joinB ⟨C, l⟩) ((w.alloc (.cells #[.int .i64 C, .slice A L K] 24)).alloc (.cells #[.int .i64 0, .int .i64 0, .slice none 0 0] 39))
    (fun w1 h1 => protocolC_any C A L K l hl w1 w.heap.size (heap_below HG0.out h1) (hb.below (BA.trans (h1.mono BA.size))) (by omega)) (Nat.le_trans (joinB_len _) (by show 2 + l.length ≤ _; omega)))
  obtain ⟨r, hr⟩ : ∃ r, r = proP ⟨C, l⟩ id := ⟨_, rfl⟩
  have hr' : tellP 8 id (joinE ⟨C, l⟩) (joinB ⟨C, l⟩) = r := hr.symm
  rw [hr'] at RJ
  rw [← hr]
  clear BA hl hb hr hr'
  go_enter Try.func22, Try.ntmps22
  go_wp2_with fail
  refine RJ.out.mono ?_
  rintro e w2 ⟨A2, L2, C2, rfl, hown2, hb2⟩
  have hsz : w.heap.size + 2 ≤ ((w.alloc (.cells #[.int .i64 C, .slice A L K] 24)).alloc (.cells #[.int .i64 0, .int .i64 0, .slice none 0 0] 39)).heap.size := by rw [World.size_alloc, World.size_alloc]; exact Nat.le_refl _
  have HO2 := Lib.hid (hown2.mono hsz)
  have HB2 := Lib.hid (HB1.out.trans (hb2.mono HB1.out.size))
  have HG2 := Lib.hid (heap_below HG1.out hb2)
  obtain ⟨k0, k1, k2⟩ := cells3 HG2.out
  have f0 := frozen_of_row _ _ 0 _ _ HG2.out
  have f1 := frozen_of_row _ _ 1 _ _ HG2.out
  have f2 := frozen_of_row _ _ 2 _ _ HG2.out
  clear hown2 hb2 RJ hsz
  go_wp2
  refine bodyPost_ret (v := .tuple #[.agg #[.int .i64 r.1.c, .int .i64 r.1.i, .slice A2 L2 C2], .int .i64 r.2]) (results_cell_tmp_row (P := Try.prog) (fn := Try.f22) rfl _ _ (w.heap.size + 1) 39 _ (0, 0) _ rfl (set3 HG2.out _ _ _) Try.underlying39 rfl (by kernel_rfl)) rfl ?_
  exact ⟨_, _, _, rfl, OwnB.mono (base := w.heap.size + 2) (own_set3 HO2.out (Nat.lt_succ_self _) _ _ _) (by omega), ((HB2.out.setCell (Nat.le_succ _) _).setCell (Nat.le_succ _) _).setCell (Nat.le_succ _) _⟩

end Go.Proofs.Ythllhdcdiidfpaa
