/-
  ring.grow of those that rest.
-/
import Derived.Test.YtpafcabcnkmadaaIdG
namespace Go.Proofs.Ytpafcabcnkmadaa.Id
open Go.RowKit
set_option linter.unusedVariables false
set_option linter.unusedSimpArgs false

theorem flatR_drop : ∀ (l : List (Int × Int)) (k : Nat), (flatR l).drop (k * 2) = flatR (l.drop k)
  | l, 0 => by simp
  | [], k + 1 => by simp [flatR]
  | p :: l, k + 1 => by
    rw [flatR_cons, show (k + 1) * 2 = k * 2 + 1 + 1 by omega, List.drop_succ_cons, List.drop_succ_cons, List.drop_succ_cons, flatR_drop l k]
set_option maxRecDepth 20000 in
theorem grow_r (g : Nat) {m : Am} (w : World) (h : AmAt w g m) (hn : m.rl.length ≤ 65534) :
    Calls Try.prog 54 #[.pointer (some ⟨g, 6, none⟩)] w fun e w' => e = .returned (.tuple #[]) ∧ ∃ v, AmAt w' g (m.growR v) ∧ Stp g m (m.growR v) w w' := by
  obtain ⟨i0, hi, hz0, hz1, hz2⟩ := info_parts infoR
  obtain ⟨k0, k1, k2, k3, k4, k5, k6, k7, k8, k9, k10⟩ := cells11 h.row
  obtain ⟨N, hN⟩ : ∃ N, N = m.rl.length := ⟨_, rfl⟩
  rw [← hN] at k8 hn
  have x0 : wrap64 (2 * (N : Int)) = 2 * (N : Int) := wrap64_in (by omega) (by omega)
  have x1 : wrap64 (2 * (N : Int) + 1) = 2 * (N : Int) + 1 := wrap64_in (by omega) (by omega)
  have HH := Lib.hid h
  have HN := Lib.hid hN
  have hb2 : i0.bytes * (2 * N + 1) ≤ 281474976710656 := by rw [hz2]; omega
  have hb3 : 2 * N + 1 ≤ maxLen := by unfold maxLen; omega
  have hC : 2 * (N : Int) + 1 = ((2 * N + 1 : Nat) : Int) := by omega
  have HB2 := Lib.hid hb2
  have HB3 := Lib.hid hb3
  have HC := Lib.hid hC
  clear h hN k0 k1 k2 k3 k4 k5 k6 k7 k9 k10 hb2 hb3 hC
  go_enter Try.func54, Try.ntmps54
  go_wp2_with (with_reducible refine wpList_make_any rfl (.tmp 8) (.tmp 8) 51 rfl 54 i0 (.agg #[.int .i64 0, .int .i64 0]) Try.underlying51 hi hz0 .i64 .i64 (2 * (N : Int) + 1) (2 * (N : Int) + 1) (2 * N + 1) rfl rfl HC.out HC.out HB2.out HB3.out ?_)
  intro w1 h1 hb1
  have H1 : Hid (w1.heap[w.heap.size]? = some (.cells (flatR (List.replicate (2 * m.rl.length + 1) (0, 0))).toArray 54 (0, 0))) := by
    show _ = _
    rw [← HN.out, ← made_rest, Array.toArray_toList]
    first
      | exact h1
      | simpa [Value.cells] using h1
  have HA1 := Lib.hid (HH.out.gr hb1)
  have HB1 := Lib.hid hb1
  clear h1 hb1 x0 x1 k8
  go_wp2_with fail
  refine (all_r g _ HA1.out).mono ?_
  rintro e w2 ⟨v2, rfl, ho2, hb2⟩
  have HA2 := Lib.hid (HA1.out.gr hb2)
  have H2 := Lib.hid (heap_below H1.out hb2)
  have HB2' := Lib.hid (HB1.out.trans (Below.mono hb2 HB1.out.size))
  have HRD : Hid (Rd w2 2 v2 N (flatR m.rl)) := by have := own_rd ho2; rw [← HN.out] at this; exact this
  have HNL : Hid (N ≤ 2 * N + 1) := by show _ ≤ _; omega
  have HFIT : Hid ((flatR m.rl).length ≤ (flatR (List.replicate (2 * m.rl.length + 1) (0, 0))).length) := by show _ ≤ _; rw [flatR_len, flatR_len, List.length_replicate]; omega
  have HONE : Hid (∀ u ∈ flatR m.rl, u.oneCell' = true) := flatR_cell _
  clear ho2 hb2 HA1 H1 HB1
  go_wp2_with (refine wpList_copy_own rfl (.tmp 10) (.tmp 12) 51 51 rfl 54 2 Try.underlying51 sizeR w.heap.size _ _ rfl _ 54 H2.out _ N _ rfl HRD.out HNL.out HFIT.out HONE.out ?_)
  intro w3 h3 ho3
  have HA3 : Hid (AmAt w3 g m) := HA2.out.keep fun k hk => ho3.heap k (HA2.out.lt k hk) (by have := HH.out.lt k hk; omega)
  have H3 : Hid (w3.heap[w.heap.size]? = some (.cells (flatR (m.rl ++ List.replicate (m.rl.length + 1) (0, 0))).toArray 54 (0, 0))) := by
    show _ = _
    rw [h3]
    congr 3
    rw [flatR_append, flatR_len, flatR_drop, List.drop_replicate]
    congr 3
    omega
  have HB3' : Hid (Below w.heap.size w w3) := ho3.below _ _ (Nat.le_refl _) HB2'.out
  clear h3 ho3 HA2 H2 HB2' HRD HNL HFIT HONE
  obtain ⟨k0, k1, k2, k3, k4, k5, k6, k7, k8, k9, k10⟩ := cells11 HA3.out.row
  rw [← HN.out] at k8
  have hbu := builtRR (some ⟨w.heap.size, 0, none⟩) (2 * N + 1) (2 * N + 1) (N : Int)
  go_wp2_with (with_reducible refine wpList_store_ringR rfl (.tmp 21) (.tmp 20) rfl g _ _ _ 0 (N : Int) rfl rfl _ _ _ _ _ _ _ _ _ _ _ HA3.out.row ?_)
  intro w4 h4 ho4
  have H4 := Lib.hid h4
  have HO4 := Lib.hid ho4
  clear h4 ho4 k0 k1 k2 k3 k4 k5 k6 k7 k8 k9 k10 hbu
  go_wp2
  go_end0
  have hne := HA3.out.ne
  have hlt := HH.out.lt
  have hgw : g < w.heap.size := hlt g Fm.g
  have hlen : (m.rl ++ List.replicate (m.rl.length + 1) ((0 : Int), (0 : Int))).length = 2 * N + 1 := by rw [List.length_append, List.length_replicate, ← HN.out]; omega
  have hblk : w4.heap[w.heap.size]? = some (.cells (flatR (m.rl ++ List.replicate (m.rl.length + 1) (0, 0))).toArray 54 (0, 0)) := (HO4.out.heap _ (Array.getElem?_eq_some_iff.1 H3.out).1 (by omega)).trans H3.out
  refine ⟨rfl, .slice (some ⟨w.heap.size, 0, none⟩) (2 * N + 1) (2 * N + 1), ⟨?_, ?_, HA3.out.fr, ?_, R.whole _ _, ?_, HA3.out.made, ?_⟩, ⟨?_, ?_⟩⟩
  · have := H4.out
    rw [HN.out] at this ⊢
    exact this
  · exact own_keep HA3.out.fo fun k hk => HO4.out.heap k (own_blk_lt HA3.out.fo hk) (hne.1 k hk).1
  · show w4.ownsRow 0 54 2 _ (m.rl ++ List.replicate (m.rl.length + 1) ((0 : Int), (0 : Int))).length (flatR (m.rl ++ List.replicate (m.rl.length + 1) (0, 0)))
    rw [hlen]
    refine own_shut hblk (Nat.le_refl _) HB3.out ?_ ?_
    · rw [flatR_len, hlen]
    · rw [List.take_of_length_le]; rw [flatR_len, hlen]; omega
  · exact own_keep HA3.out.to fun k hk => HO4.out.heap k (own_blk_lt HA3.out.to hk) (hne.2.2 k hk).1
  · refine ⟨HH.out.few.1, ?_⟩
    show (m.rl ++ List.replicate (m.rl.length + 1) ((0 : Int), (0 : Int))).length ≤ _
    rw [hlen]; omega
  · exact (Tr.gr HB3'.out).trans (Tr.only HO4.out Fm.g) fun i hi => .inl hi
  · intro k hk
    simp only [Fm, Am.growR, blk_slice, List.mem_cons, List.mem_append, List.not_mem_nil, or_false] at hk ⊢
    rcases hk with hk | hk | hk | hk
    · exact .inl (.inl hk)
    · exact .inl (.inr (.inl hk))
    · exact .inr (by omega)
    · exact .inl (.inr (.inr (.inr hk)))
end Go.Proofs.Ytpafcabcnkmadaa.Id
