/-
  ether.Pad and the document's, whatever comes.
-/
import Derived.Test.YtkalbchcgdnciaaEthD
namespace Go.Proofs.Ytkalbchcgdnciaa
open Go.RowKit
set_option linter.unusedVariables false
set_option linter.unusedSimpArgs false

theorem own_row {w : World} {base g n : Nat} {e : TypeId} {xs : List Value} (h : w.ownsRow base e 1 (.slice (some ⟨g, 0, none⟩) n n) n xs) : w.heap[g]? = some (.cells xs.toArray e (0, 0)) := by
  obtain ⟨h0, ⟨h1, _⟩ | ⟨k, cap, cur, h1, h2, h3, h4, h5, h6, h7⟩⟩ := h
  · cases h1
  · simp only [Value.slice.injEq, Option.some.injEq, Addr.mk.injEq] at h1
    obtain ⟨⟨rfl, _⟩, _, rfl⟩ := h1
    rw [h3]
    have : cur.toList = xs := by rw [← h7, List.take_of_length_le (by simp; omega)]
    rw [← this]
theorem row_own {w : World} {base g n : Nat} {e : TypeId} {xs : List Value} (h : w.heap[g]? = some (.cells xs.toArray e (0, 0))) (hb : base ≤ g) (hn : xs.length = n) (hm : n ≤ maxLen) : w.ownsRow base e 1 (.slice (some ⟨g, 0, none⟩) n n) n xs :=
  ⟨by omega, .inr ⟨g, n, xs.toArray, rfl, hb, h, Nat.le_refl _, hm, by simp; omega, by rw [List.take_of_length_le (by simp; omega)]⟩⟩
theorem pad_splice (l : List UInt8) (n m : Nat) (hn : l.length = n) (hm : m = max n 60) : splice (List.replicate m (Value.int .u8 0)) 0 (l.map u8v) = (padL l).map u8v := by
  unfold splice padL
  subst hn hm
  simp only [List.take_zero, List.nil_append, List.length_map, Nat.zero_add, List.drop_replicate, List.map_append, List.map_replicate]
  congr 2
  omega

set_option maxHeartbeats 1000000 in
theorem pad_any (a : Option Addr) (n c : Nat) (l : List UInt8) (hn : l.length = n) (w : World) (hb : Bs w (.slice a n c) l) (hr : n ≤ 140737488351232) :
    Calls Try.prog 18 #[.slice a n c] w fun e w' => ∃ c', e = .returned (.slice (some ⟨w.heap.size, 0, none⟩) (max n 60) c') ∧ OwnB w' w.heap.size 5 (.slice (some ⟨w.heap.size, 0, none⟩) (max n 60) c') (padL l) ∧ Below w.heap.size w w' := by
  obtain ⟨i0, hi, hz0, hz1, hz2⟩ := info_parts info5
  obtain ⟨_, _, es0, hc0, hm0⟩ := hb.shape
  simp only [Value.slice.injEq] at es0
  obtain ⟨rfl, z0, rfl⟩ := es0
  clear z0
  have HN := Lib.hid hn
  have HV := Lib.hid hb
  obtain ⟨m, hm⟩ : ∃ m, m = max n 60 := ⟨_, rfl⟩
  have hmi : (if (60 : Int) < (n : Int) then (n : Int) else 60) = (m : Int) := by rw [hm]; split <;> omega
  have hmi2 : (if (n : Int) < (60 : Int) then (60 : Int) else (n : Int)) = (m : Int) := by rw [hm]; split <;> omega
  have HM := Lib.hid hm
  have hm48 : m ≤ 140737488351232 := by omega
  rw [← hm]
  have F1 : Hid ((Try.prog.info? 5).map (·.size) = some 1) := by show _ = _; kernel_rfl
  have FD : Hid ((l.map u8v).length = Nat.min n m) := by show _ = _; rw [List.length_map, hn, hm]; show n = min n _; omega
  have FF : Hid (0 + (l.map u8v).length ≤ (List.replicate m (Value.int .u8 0)).length) := by show _ ≤ _; rw [List.length_map, hn, List.length_replicate]; omega
  clear hb hm hn
  go_enter Try.func18, Try.ntmps18
  go_wp2_with (at_make; refine wpList_make_cap _ rfl _ _ 24 rfl w.heap.size 5 i0 (.int .u8 0) Try.underlying24 hi hz0 hz1 rfl _ _ _ _ m m rfl rfl ?a1 ?a2 ?a3 ?a4 ?a5 ?a6 ?_)
  case a1 => rfl
  case a2 => rfl
  case a3 => omega
  case a4 => rw [hz2]; omega
  case a5 => unfold maxLen; omega
  case a6 => exact Nat.le_refl _
  intro w1 hown1 hb1
  have HG1 := Lib.hid (own_row hown1)
  have HB1 := Lib.hid hb1
  have HP1 := Lib.hid (bs_pos (HV.out.below hb1))
  clear hown1 hb1 hmi hmi2
  go_wp2_with (with_reducible refine wpList_copy_only rfl (.tmp 8) (.tmp 9) 24 24 rfl 5 Try.underlying24 F1.out w.heap.size 0 m m _ _ _ rfl rfl (List.replicate m (Value.int .u8 0)) 5 HG1.out (l.map u8v) FD.out HP1.out FF.out (oneCell_u8 _) ?_)
  intro w2 h2 ho2
  rw [pad_splice l n m HN.out HM.out] at h2
  have HO2 : Hid (OwnB w2 w.heap.size 5 (.slice (some ⟨w.heap.size, 0, none⟩) m m) (padL l)) := by
    show OwnB _ _ _ _ _
    unfold OwnB
    have e : (padL l).length = m := by rw [padL_length, HN.out, HM.out]
    rw [e]
    exact row_own h2 (Nat.le_refl _) (by rw [List.length_map, e]) (by unfold maxLen; omega)
  have HB2 := Lib.hid (ho2.below _ _ (Nat.le_refl _) HB1.out)
  clear h2 ho2
  go_wp2
  go_ret
  exact ⟨_, rfl, HO2.out, HB2.out⟩

/-- What the loop holds. -/
def PadI (w wr : World) (l : List UInt8) (v : Value) (k : Nat) : Prop :=
  wr.ownsRow w.heap.size 5 1 v k ((l ++ List.replicate (k - l.length) 0).map u8v) ∧ Below w.heap.size w wr
theorem PadI.next {w wr w' : World} {l : List UInt8} {v v' : Value} {k : Nat} {o : Obj} (h : PadI w wr l v k) (hk : l.length ≤ k) (hb : Below w.heap.size (wr.alloc o) w')
    (ho : w'.ownsRow w.heap.size 5 1 v' (k + 1) ((l ++ List.replicate (k - l.length) 0).map u8v ++ [.int .u8 0])) : PadI w w' l v' (k + 1) := by
  refine ⟨?_, (h.2.alloc h.2.size o).trans hb⟩
  have e : (l ++ List.replicate (k - l.length) 0).map u8v ++ [Value.int .u8 0] = (l ++ List.replicate (k + 1 - l.length) 0).map u8v := by
    rw [show k + 1 - l.length = (k - l.length) + 1 by omega, List.replicate_succ', List.map_append, List.map_append, List.map_append, ← List.append_assoc]
    rfl
  rw [← e]; exact ho

set_option maxHeartbeats 1000000 in
theorem rpad_any (a : Option Addr) (n c : Nat) (l : List UInt8) (hn : l.length = n) (w : World) (hb : Bs w (.slice a n c) l) (hr : n ≤ 140737488351232) :
    Calls Try.prog 19 #[.slice a n c] w fun e w' => ∃ v, e = .returned v ∧ OwnB w' w.heap.size 5 v (padL l) ∧ Below w.heap.size w w' := by
  obtain ⟨i0, hi, hz0, hz1, hz2⟩ := info_parts info5
  obtain ⟨_, _, es0, hc0, hm0⟩ := hb.shape
  simp only [Value.slice.injEq] at es0
  obtain ⟨rfl, z0, rfl⟩ := es0
  clear z0
  have HN := Lib.hid hn
  have hb1 := (Below.refl w.heap.size w).alloc (Nat.le_refl _) (.cells #[] 5)
  have HB1 := Lib.hid hb1
  have HV : Hid (Rd (w.alloc (.cells #[] 5)) 1 (.slice a n c) n (l.map u8v)) := by
    have := hb.below hb1
    unfold Bs at this
    rw [hn] at this
    exact this
  have HO1 : Hid ((w.alloc (.cells #[] 5)).ownsRow w.heap.size 5 1 (.slice (some ⟨w.heap.size, 0, none⟩) 0 0) 0 []) := World.ownsRow_made _ _ _ (Nat.le_refl _) (Nat.zero_le _) rfl
  have HS1 := Lib.hid hb1.size
  clear hb hb1 hn
  go_enter Try.func19, Try.ntmps19
  go_wp2_with (at_builtin; refine wpList_append_rd _ rfl _ _ 24 rfl w.heap.size 5 i0 (.int .u8 0) 1 1 Try.underlying24 hi hz0 hz1 hz2 rfl (by decide) _ _ _ rfl HO1.out _ _ _ rfl HV.out (oneCell_u8 _) ?c1 (by decide) HS1.out ?_)
  case c1 => omega
  intro v1 w1 hown1 hb1
  have HI : Hid (PadI w w1 l v1 n) := ⟨by
    rw [HN.out, Nat.sub_self, List.replicate_zero, List.append_nil]
    simpa using hown1, HB1.out.trans hb1⟩
  obtain ⟨a1, c1, hv1, _, _⟩ := (own_rd hown1).shape
  subst hv1
  clear hown1 hb1
  go_wp2
  go_loopw [3] (fun v wr => ∃ (k : Nat) (av : Option Addr) (cv : Nat), n ≤ k ∧ k ≤ max n 60 ∧ v = .slice av k cv ∧ Hid (PadI w wr l v k)) (fun v _ => 60 - slen v)
  case atStart => exact ⟨n, _, _, by omega, by omega, rfl, HI⟩
  case round =>
    clear HI
    obtain ⟨k, av, cv, hk, hk2, rfl, HI⟩ := hrel
    by_cases hlt : k < 60
    · have O0 : Hid ((wr.alloc (.cells #[.int .u8 0] 5)).ownsRow w.heap.size 5 1 (.slice av k cv) k ((l ++ List.replicate (k - l.length) 0).map u8v)) := HI.out.1.alloc _
      have P0 : Hid (Rd (wr.alloc (.cells #[.int .u8 0] 5)) 1 (.slice (some ⟨wr.heap.size, 0, none⟩) 1 1) 1 [.int .u8 0]) := rd_new wr [.int .u8 0] 5 1 1 rfl (by decide)
      have C0 : Hid (∀ u ∈ [Value.int .u8 0], u.oneCell' = true) := by intro u hu; simp at hu; rw [hu]; rfl
      have S0 : Hid (w.heap.size ≤ (wr.alloc (.cells #[.int .u8 0] 5)).heap.size) := by show _ ≤ _; rw [World.size_alloc]; have := HI.out.2.size; omega
      go_wp2_with (at_builtin; refine wpList_append_rd _ rfl _ _ 24 rfl w.heap.size 5 i0 (.int .u8 0) 1 1 Try.underlying24 hi hz0 hz1 hz2 rfl (by decide) _ _ _ rfl O0.out _ _ _ rfl P0.out C0.out ?o3 (by decide) S0.out ?_)
      case o3 => omega
      intro v7 w7 hown7 hb7
      have HI2 : Hid (PadI w w7 l v7 (k + 1)) := HI.out.next (by rw [HN.out]; omega) hb7 (by simpa using hown7)
      obtain ⟨a7, c7, hv7, _, _⟩ := (own_rd hown7).shape
      subst hv7
      clear hown7 hb7 O0 P0 C0 S0
      go_wp2
      go_roundw
      case rel => exact ⟨k + 1, a7, c7, by omega, by omega, rfl, HI2⟩
      case measure => simp [slen]; omega
    · have hkm : k = max n 60 := by omega
      have HO : Hid (OwnB wr w.heap.size 5 (.slice av k cv) (padL l)) := by
        have h := HI.out.1
        have e : padL l = l ++ List.replicate (k - l.length) 0 := by
          unfold padL
          congr 2
          rw [HN.out]; omega
        have e2 : (padL l).length = k := by rw [padL_length, HN.out, hkm]
        show OwnB _ _ _ _ _
        unfold OwnB
        rw [e2, e]; exact h
      have HB := Lib.hid HI.out.2
      clear hkm HI
      go_wp2
      go_ret
      exact ⟨_, rfl, HO.out, HB.out⟩
end Go.Proofs.Ytkalbchcgdnciaa
