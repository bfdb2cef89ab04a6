/-
  Taken.
-/
import Derived.Test.YtpafcabcnkmadaaIdT
namespace Go.Proofs.Ytpafcabcnkmadaa.Id
open Go.RowKit
set_option linter.unusedVariables false
set_option linter.unusedSimpArgs false

/-- The taken ones, rising. -/
def risen (S : Al) : List Int := (numbers S.low S.high).filter fun x => decide (x ∈ S.used)
theorem numbers_rising (l h : Int) : (numbers l h).Pairwise (· < ·) := by
  unfold numbers
  rw [List.pairwise_map]
  have := List.pairwise_lt_range (n := (h - l + 1).toNat)
  exact this.imp fun hab => by omega
theorem risen_rising (S : Al) : (risen S).Pairwise (· < ·) := List.Pairwise.filter _ (numbers_rising _ _)
theorem risen_mem {S : Al} (h : OkA S) (x : Int) : x ∈ risen S ↔ x ∈ S.used := by
  unfold risen
  rw [List.mem_filter, numbers_mem, decide_eq_true_eq]
  exact ⟨fun h1 => h1.2, fun h1 => ⟨h.used h1, h1⟩⟩
theorem risen_sorted {S : Al} (h : OkA S) : risen S = sorted S.used := by
  have hs := sorted_is h.used_nodup
  exact rising_eq (risen_rising S) hs.1 fun y => (risen_mem h y).trans (hs.2 y).symm
theorem risen_length {S : Al} (h : OkA S) : (risen S).length = S.used.length := by
  refine (List.Perm.length_eq ?_)
  refine (List.perm_ext_iff_of_nodup ?_ h.used_nodup).2 (risen_mem h)
  exact (risen_rising S).imp fun hab => by omega
theorem filter_take_ints (p : Int → Bool) (l : List Int) (i : Nat) (h : i < l.length) : (l.take (i + 1)).filter p = (l.take i).filter p ++ if p l[i] then [l[i]] else [] := filter_take_succ p l i h
set_option maxRecDepth 20000 in
set_option maxHeartbeats 4000000 in
theorem taken_any (g : Nat) {m : Am} {S : Al} (w : World) (h : AlAt w g m S) :
    Calls Try.prog 19 #[.pointer (some ⟨g, 0, none⟩)] w fun e w' => ∃ v, e = .returned v ∧ w'.ownsRow w.heap.size 3 1 v (risen S).length (ints (risen S)) ∧ Below w.heap.size w w' := by
  obtain ⟨i0, hi, hz0, hz1, hz2⟩ := info_parts infoI
  have hrow := h.am.row
  rw [h.lo] at hrow
  obtain ⟨b, cap, cur, ev, hbl, hb, hc1, hc2, hc3, hc4⟩ := own_open h.am.to (.inr h.am.made)
  have htl := h.tl
  have hcells : ∀ i (hi : i < m.tl.length), w.cell? ⟨b, i, none⟩ = some (.bool (decide (S.low + (i : Int) ∈ S.used))) := fun i hi => by
    have := own_bool_at hb hc4 i hi
    have e2 : m.tl[i] = (takenL S.low S.high S.used)[i]'(by rw [← htl]; exact hi) := by simp only [htl]
    rw [e2, takenL_get] at this
    exact this
  have hset := h.ok.set
  unfold okSet at hset
  have hlen := h.len
  obtain ⟨n, hn⟩ : ∃ n, n = m.tl.length := ⟨_, rfl⟩
  rw [← hn] at hcells hlen
  rw [ev, ← hn] at hrow
  have HM := Lib.hid (isMade_yes g w h.am)
  have HROWG := Lib.hid hrow
  have HCE := Lib.hid hcells
  have hn6 : n ≤ 65534 := by omega
  have HSET := Lib.hid hset
  have HLEN := Lib.hid hlen
  obtain ⟨k0, k1, k2, k3, k4, k5, k6, k7, k8, k9, k10⟩ := cells11 hrow
  clear hrow ev hbl hb hc1 hc2 hc3 hc4 htl hcells hset hlen hn h
  go_enter Try.func19, Try.ntmps19
  go_wp2_with fail
  refine HM.out.mono ?_
  rintro e w' ⟨rfl, rfl⟩
  go_wp2_with fail
  go_loopw [3, 14] (fun lv iv wr => ∃ i : Nat, i ≤ n ∧ iv = .int .i64 (i : Int) ∧ wr.ownsRow w.heap.size 3 1 lv (((numbers S.low S.high).take i).filter fun x => decide (x ∈ S.used)).length (ints (((numbers S.low S.high).take i).filter fun x => decide (x ∈ S.used))) ∧ Below w.heap.size w wr) (fun _ iv _ => n - (intOf iv).toNat)
  case atStart => exact ⟨0, Nat.zero_le _, rfl, World.ownsRow_nil _ _ _ _, Below.refl _ _⟩
  case round =>
    clear k0 k1 k2 k3 k4 k5 k6 k7 k8 k9 k10
    obtain ⟨i, hin, rfl, ho, hb⟩ := hrel
    have HO := Lib.hid ho
    have HB := Lib.hid hb
    clear ho hb
    by_cases hlt : i < n
    · have hil : i < (numbers S.low S.high).length := by rw [numbers_length]; have := HLEN.out; omega
      have hget : (numbers S.low S.high)[i] = S.low + (i : Int) := by simp [numbers]
      have hc := cell_gr HB.out (HCE.out i hlt)
      have hft := filter_take_ints (fun x => decide (x ∈ S.used)) _ i hil
      rw [hget] at hft
      obtain ⟨k0, k1, k2, k3, k4, k5, k6, k7, k8, k9, k10⟩ := cells11 (heap_gr HB.out HROWG.out)
      obtain ⟨L, hL⟩ : ∃ L, L = ((numbers S.low S.high).take i).filter fun x => decide (x ∈ S.used) := ⟨_, rfl⟩
      have hLl : L.length ≤ n := by rw [hL]; refine Nat.le_trans (List.length_filter_le _ _) ?_; rw [List.length_take]; omega
      rw [← hL] at HO hft
      have HFT := Lib.hid hft
      clear hil hget hft
      obtain ⟨N, hN⟩ : ∃ N, N = L.length := ⟨_, rfl⟩
      rw [← hN] at HO hLl
      have HN := Lib.hid hN
      clear hN hL
      obtain ⟨al, cl, rfl, _, _⟩ := (own_rd HO.out).shape
      by_cases hu : S.low + (i : Int) ∈ S.used
      · have x1 : wrap64 (S.low + (i : Int)) = S.low + (i : Int) := wrap64_in (by have := HSET.out; omega) (by have := HSET.out; have := HLEN.out; omega)
        rw [decide_eq_true hu] at hc
        have HFT2 : Hid (((numbers S.low S.high).take (i + 1)).filter (fun x => decide (x ∈ S.used)) = L ++ [S.low + (i : Int)]) := by
          show _ = _
          rw [HFT.out, decide_eq_true hu]; rfl
        have hlow : w.heap.size ≤ wr.heap.size := HB.out.size
        have HBY : Hid ((N + 1) * 8 ≤ 140737488355328) := by show _ ≤ _; omega
        have HMX : Hid (N + 1 ≤ maxLen) := by show _ ≤ _; unfold maxLen; omega
        have HLO : Hid (w.heap.size ≤ (wr.alloc (.cells #[.int .i64 (S.low + (i : Int))] 3)).heap.size) := by show _ ≤ _; simp; omega
        clear hu
        go_wp2_with (refine wpList_append_own _ rfl (.tmp 20) (.tmp 27) 41 rfl w.heap.size 3 i0 _ 1 8 Try.underlying41 hi hz0 hz1 hz2 rfl (by decide) _ _ _ rfl (World.ownsRow.alloc HO.out _) ⟨wr.heap.size, 0, none⟩ 1 1 [.int .i64 _] rfl rfl (cells_new wr [.int .i64 _] 3) (one_int _) HMX.out HBY.out (by simp; omega) ?_)
        intro v' w5 ho5 hg5 _
        try rw [x1] at ho5
        have HO5 : Hid (w5.ownsRow w.heap.size 3 1 v' (L ++ [S.low + (i : Int)]).length (ints (L ++ [S.low + (i : Int)]))) := by
          show w5.ownsRow _ _ _ _ _ _
          rw [List.length_append, ← HN.out, ints_append]
          exact ho5
        have HB5 : Hid (Below w.heap.size w w5) := (HB.out.alloc HB.out.size _).trans (grown_below (World.ownsRow.alloc HO.out _) HLO.out hg5)
        clear ho5 hg5 hc k0 k1 k2 k3 k4 k5 k6 k7 k8 k9 k10
        obtain ⟨al5, cl5, e5, _, _⟩ := (own_rd HO5.out).shape
        have HE5 := Lib.hid e5
        clear e5
        go_wp2_with fail
        go_roundw
        case rel =>
          have hle : i + 1 ≤ n := by omega
          have HO6 := HO5.out
          rw [← HFT2.out] at HO6
          first
            | exact ⟨i + 1, hle, by go_num, HO6, HB5.out⟩
            | ((repeat apply Exists.intro); exact ⟨⟨i + 1, hle, by go_num, HO6, HB5.out⟩, rfl⟩)
        case measure => simp [intOf]; omega
      · rw [decide_eq_false hu] at hc
        have HFT2 : Hid (((numbers S.low S.high).take (i + 1)).filter (fun x => decide (x ∈ S.used)) = L) := by
          show _ = _
          rw [HFT.out, decide_eq_false hu]; simp
        clear hu
        go_wp2_with fail
        go_roundw
        case rel =>
          have hle : i + 1 ≤ n := by omega
          have HO6 : wr.ownsRow w.heap.size 3 1 (.slice al N cl) (((numbers S.low S.high).take (i + 1)).filter fun x => decide (x ∈ S.used)).length (ints (((numbers S.low S.high).take (i + 1)).filter fun x => decide (x ∈ S.used))) := by
            rw [HFT2.out, ← HN.out]; exact HO.out
          first
            | exact ⟨i + 1, hle, by go_num, HO6, HB.out⟩
            | ((repeat apply Exists.intro); exact ⟨⟨i + 1, hle, by go_num, HO6, HB.out⟩, rfl⟩)
        case measure => simp [intOf]; omega
    · have HE : Hid ((((numbers S.low S.high).take i).filter fun x => decide (x ∈ S.used)) = risen S) := by
        show _ = _
        rw [List.take_of_length_le]
        · rfl
        · rw [numbers_length]; have := HLEN.out; omega
      rw [HE.out] at HO
      go_wp2
      go_ret
      exact ⟨_, rfl, HO.out, HB.out⟩
end Go.Proofs.Ytpafcabcnkmadaa.Id
