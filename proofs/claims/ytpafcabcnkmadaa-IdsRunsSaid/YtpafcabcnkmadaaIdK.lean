/-
  New.
-/
import Derived.Test.YtpafcabcnkmadaaIdJ
namespace Go.Proofs.Ytpafcabcnkmadaa.Id
open Go.RowKit
set_option linter.unusedVariables false
set_option linter.unusedSimpArgs false

theorem infoB : (Try.prog.info? 4).map (fun i => (i.zero, i.size, i.bytes)) = some (some (.bool false), 1, 1) := by kernel_rfl
theorem builtA (lo hi q : Int) (A : Option Addr) (L C : Nat) : Try.prog.built 63 [(0, .int .i64 lo), (1, .int .i64 hi), (2, .int .i64 q), (5, .slice A L C)] = some #[.int .i64 lo, .int .i64 hi, .int .i64 q, .slice none 0 0, .int .i64 0, .int .i64 0, .slice none 0 0, .int .i64 0, .int .i64 0, .slice A L C, .bool false] := by kernel_rfl
theorem numbers_take_succ {l h : Int} {i : Nat} (hi : (i : Int) < h - l + 1) : (numbers l h).take (i + 1) = (numbers l h).take i ++ [l + (i : Int)] := by
  rw [List.take_add_one, List.getElem?_eq_getElem (by rw [numbers_length]; omega)]
  simp [numbers]
theorem new_no (lo hi q : Int) (w : World) (hs : ¬ okSet lo hi q) :
    Calls Try.prog 13 #[.int .i64 lo, .int .i64 hi, .int .i64 q] w fun e w' => e = .returned (.tuple #[.pointer none, .int .i64 110]) ∧ w = w' := by
  by_cases h1 : lo < 1
  · clear hs
    go_enter Try.func13, Try.ntmps13
    go_wp2
    go_ret2
    exact ⟨rfl, rfl⟩
  by_cases h2 : 65534 < hi
  · clear hs
    go_enter Try.func13, Try.ntmps13
    go_wp2
    go_ret2
    exact ⟨rfl, rfl⟩
  by_cases h3 : hi < lo
  · clear hs
    go_enter Try.func13, Try.ntmps13
    go_wp2
    go_ret2
    exact ⟨rfl, rfl⟩
  have hT : Hid (¬ okT q) := fun h => hs ⟨by omega, by omega, by omega, h.1, h.2⟩
  have T := isTick_any q w
  rw [decide_eq_false hT.out] at T
  have HT := Lib.hid T
  clear hs hT T
  go_enter Try.func13, Try.ntmps13
  go_wp2_with fail
  refine HT.out.mono ?_
  rintro e w1 ⟨rfl, rfl⟩
  go_wp2
  go_ret2
  exact ⟨rfl, rfl⟩
set_option maxRecDepth 20000 in
set_option maxHeartbeats 4000000 in
theorem new_yes (lo hi q : Int) (w : World) (hs : okSet lo hi q) :
    Calls Try.prog 13 #[.int .i64 lo, .int .i64 hi, .int .i64 q] w fun e w' => ∃ g, e = .returned (.tuple #[.pointer (some ⟨g, 0, none⟩), .int .i64 0]) ∧ ∃ m, AmAt w' g m ∧ (∀ k ∈ Fm g m, w.heap.size ≤ k) ∧ m.sh = ⟨lo, hi, q, numbers lo hi, [], List.replicate (hi - lo + 1).toNat false, false⟩ ∧ Below w.heap.size w w' := by
  obtain ⟨i0, hi0, hz0, hz1, hz2⟩ := info_parts infoB
  obtain ⟨h1, h2, h3, h4, h5⟩ := hs
  unfold topT at h5
  have n1 : ¬ lo < 1 := by omega
  have n2 : ¬ 65534 < hi := by omega
  have n3 : ¬ hi < lo := by omega
  have T := isTick_any q w
  rw [decide_eq_true (show okT q from ⟨h4, h5⟩)] at T
  have HT := Lib.hid T
  obtain ⟨N, hN⟩ : ∃ N : Nat, (N : Int) = hi - lo + 1 := ⟨(hi - lo + 1).toNat, by omega⟩
  have x0 : wrap64 (hi - lo) = hi - lo := wrap64_in (by omega) (by omega)
  have x1 : wrap64 (hi - lo + 1) = hi - lo + 1 := wrap64_in (by omega) (by omega)
  have HC : Hid (hi - lo + 1 = (N : Int)) := hN.symm
  have HB2 : Hid (i0.bytes * N ≤ 281474976710656) := by show _ ≤ _; rw [hz2]; omega
  have HB3 : Hid (N ≤ maxLen) := by show _ ≤ _; unfold maxLen; omega
  have HLIM : Hid (1 ≤ lo ∧ hi ≤ 65534 ∧ N ≤ 65534 ∧ 0 < N) := ⟨h1, h2, by omega, by omega⟩
  clear h1 h2 h3 h4 h5 T hN
  go_enter Try.func13, Try.ntmps13
  go_wp2_with fail
  refine HT.out.mono ?_
  rintro e w1 ⟨rfl, rfl⟩
  have hbu := builtA lo hi q (some ⟨w.heap.size, 0, none⟩) N N
  go_wp2_with (with_reducible refine wpList_make_any rfl (.tmp 32) (.tmp 32) 42 rfl 4 i0 (.bool false) Try.underlying42 hi0 hz0 .i64 .i64 (hi - lo + 1) (hi - lo + 1) N rfl rfl HC.out HC.out HB2.out HB3.out ?_)
  intro w1 h1 hb1
  have H1 : Hid (w1.heap[w.heap.size]? = some (.cells (bools (List.replicate N false)).toArray 4 (0, 0))) := by
    show _ = _
    rw [← made_bool, Array.toArray_toList]
    first
      | exact h1
      | simpa [Value.cells] using h1
  have HB1 := Lib.hid hb1
  clear h1 hb1 x0 x1
  have hb2 : Below w1.heap.size w1 (w1.alloc (.cells #[.int .i64 lo, .int .i64 hi, .int .i64 q, .slice none 0 0, .int .i64 0, .int .i64 0, .slice none 0 0, .int .i64 0, .int .i64 0, .slice (some ⟨w.heap.size, 0, none⟩) N N, .bool false] 63)) := (Below.refl _ _).alloc (Nat.le_refl _) _
  have HR : Hid ((w1.alloc (.cells #[.int .i64 lo, .int .i64 hi, .int .i64 q, .slice none 0 0, .int .i64 0, .int .i64 0, .slice none 0 0, .int .i64 0, .int .i64 0, .slice (some ⟨w.heap.size, 0, none⟩) N N, .bool false] 63)).heap[w1.heap.size]? = some (.cells #[.int .i64 lo, .int .i64 hi, .int .i64 q, .slice none 0 0, .int .i64 0, .int .i64 0, .slice none 0 0, .int .i64 0, .int .i64 0, .slice (some ⟨w.heap.size, 0, none⟩) N N, .bool false] 63 (0, 0))) := heap_alloc_last _ _
  have H2 := Lib.hid (heap_below H1.out hb2)
  have HB2' := Lib.hid (HB1.out.trans (Below.mono hb2 HB1.out.size))
  have hlow : w.heap.size ≤ w1.heap.size := HB1.out.size
  clear hb2 H1 HB1
  go_upto_region 4 with fail
  generalize w1.alloc (.cells #[.int .i64 lo, .int .i64 hi, .int .i64 q, .slice none 0 0, .int .i64 0, .int .i64 0, .slice none 0 0, .int .i64 0, .int .i64 0, .slice (some ⟨w.heap.size, 0, none⟩) N N, .bool false] 63) = w2 at HR H2 HB2' ⊢
  obtain ⟨g, hg⟩ : ∃ g, g = w1.heap.size := ⟨_, rfl⟩
  rw [← hg] at HR hlow ⊢
  have HS0 : Hid (∃ m, AmAt w2 g m ∧ (∀ k ∈ Fm g m, w.heap.size ≤ k) ∧ m.sh = ⟨lo, hi, q, [], [], List.replicate N false, false⟩) := by
    refine ⟨⟨lo, hi, q, .slice none 0 0, [], 0, [], .slice none 0 0, [], 0, [], .slice (some ⟨w.heap.size, 0, none⟩) N N, List.replicate N false, false⟩, ⟨HR.out, World.ownsRow_nil _ _ _ _, R.nil, World.ownsRow_nil _ _ _ _, R.nil, ?_, ?_, ?_⟩, ?_, rfl⟩
    · show w2.ownsRow 0 4 1 (.slice (some ⟨w.heap.size, 0, none⟩) N N) (List.replicate N false).length (bools (List.replicate N false))
      rw [List.length_replicate]
      exact own_shut H2.out (Nat.le_refl _) HB3.out (by simp [bools]) (by simp [bools, List.take_replicate])
    · intro e; cases e
    · exact ⟨Nat.zero_le _, Nat.zero_le _⟩
    · intro k hk
      simp only [Fm, blk_slice, List.mem_cons, List.mem_append, List.not_mem_nil, or_false] at hk
      rcases hk with hk | hk | hk | hk
      · omega
      · cases hk
      · cases hk
      · omega
  clear HR H2 hg HB2 HB3 HT hbu hz2
  go_wp2_with fail
  go_loopw [9] (fun iv wr => ∃ i : Nat, i ≤ N ∧ iv = .int .i64 (lo + (i : Int)) ∧ (∃ m, AmAt wr g m ∧ (∀ k ∈ Fm g m, w.heap.size ≤ k) ∧ m.sh = ⟨lo, hi, q, (numbers lo hi).take i, [], List.replicate N false, false⟩) ∧ Below w.heap.size w wr) (fun iv _ => N + (lo - intOf iv).toNat + (N - (intOf iv - lo).toNat))
  case atStart => exact ⟨0, Nat.zero_le _, by simp, HS0.out, HB2'.out⟩
  case round =>
    obtain ⟨i, hin, rfl, ⟨m, ha, hk, hsh⟩, hb⟩ := hrel
    have HA := Lib.hid ha
    have HK := Lib.hid hk
    have HSH := Lib.hid hsh
    have HB := Lib.hid hb
    clear ha hk hsh hb
    by_cases hlt : i < N
    · have hle : lo + (i : Int) ≤ hi := by have := HC.out; omega
      have hlen : m.fl.length ≤ 65534 := by
        have : m.fl = (numbers lo hi).take i := congrArg Sh.fl HSH.out
        rw [this, List.length_take]
        have := HLIM.out.2.2.1
        omega
      have HP := Lib.hid (push_i g (lo + (i : Int)) _ HA.out hlen)
      have x2 : wrap64 (lo + (i : Int) + 1) = lo + (i : Int) + 1 := wrap64_in (by have := HLIM.out; omega) (by have := HLIM.out; omega)
      clear hlen
      go_wp2_with fail
      refine HP.out.mono ?_
      rintro e w3 ⟨rfl, m', ha, hst, hsh⟩
      have HA3 := Lib.hid ha
      have HB4 : Hid (Below w.heap.size w w3) := Tr.below HB.out HB.out.size hst.tr HK.out
      have HK3 : Hid (∀ k ∈ Fm g m', w.heap.size ≤ k) := fun k hk => by
        rcases hst.blk k hk with h | h
        · exact HK.out k h
        · exact Nat.le_trans HB.out.size h
      have HSH3 : Hid (m'.sh = ⟨lo, hi, q, (numbers lo hi).take (i + 1), [], List.replicate N false, false⟩) := by
        show _ = _
        have e2 : m.fl = (numbers lo hi).take i := congrArg Sh.fl HSH.out
        rw [hsh, HSH.out, numbers_take_succ (by have := HC.out; omega), e2]
      clear ha hst hsh HP
      go_wp2_with fail
      go_roundw
      case rel =>
        have hle2 : i + 1 ≤ N := by omega
        have e3 : lo + (i : Int) + 1 = lo + ((i + 1 : Nat) : Int) := by omega
        first
          | exact ⟨i + 1, hle2, by rw [← e3], ⟨m', HA3.out, HK3.out, HSH3.out⟩, HB4.out⟩
          | ((repeat apply Exists.intro); exact ⟨⟨i + 1, hle2, by rw [← e3], ⟨m', HA3.out, HK3.out, HSH3.out⟩, HB4.out⟩, rfl⟩)
      case measure => simp [intOf]; omega
    · have hgt : ¬ lo + (i : Int) ≤ hi := by have := HC.out; omega
      have hiN : i = N := by omega
      have HE : Hid ((numbers lo hi).take i = numbers lo hi) := by show _ = _; rw [List.take_of_length_le]; rw [numbers_length]; have := HC.out; omega
      have HNE : Hid ((hi - lo + 1).toNat = N) := by show _ = _; have := HC.out; omega
      clear hiN
      go_wp2
      go_ret2
      refine ⟨g, rfl, m, HA.out, HK.out, ?_, HB.out⟩
      rw [HSH.out, HE.out, HNE.out]
end Go.Proofs.Ytpafcabcnkmadaa.Id
