/-
  tags.Encode, whatever tags come.
-/
import Derived.Test.YtcpeglljcipcbaaTagA
import Derived.IntWalk
namespace Go.Proofs.Ytcpeglljcipcbaa
open Go.RowKit
set_option linter.unusedVariables false
set_option linter.unusedSimpArgs false

def EncR (ls : List PT) (w : World) (e : Ending) (w' : World) : Prop :=
  ∃ v, e = .returned (.tuple #[v, .int .i64 (encE ls)]) ∧ OwnB w' w.heap.size 5 v (encB ls) ∧ Below w.heap.size w w'
theorem EncR.none {ls : List PT} {w w' : World} {k : Int} (hk : encE ls = k) (h : k ≠ 0) (hb : Below w.heap.size w w') : EncR ls w (.returned (.tuple #[.slice Option.none 0 0, .int .i64 k])) w' := by
  subst hk
  refine ⟨_, rfl, ?_, hb⟩
  rw [encB_no h]
  exact OwnB.nil _ _ _
theorem EncR.some {ls : List PT} {w w' : World} {v : Value} (h : encE ls = 0) (ho : OwnB w' w.heap.size 5 v (wireT ls)) (hb : Below w.heap.size w w') : EncR ls w (.returned (.tuple #[v, .int .i64 0])) w' := by
  refine ⟨v, by rw [h], ?_, hb⟩
  rw [encB_yes h]
  exact ho
/-- The first k tags may be; so many bytes. -/
structure EI (ts : List Tg) (k S : Nat) : Prop where
  ok : ∀ j (hj : j < k) (h2 : j < ts.length), isT ts[j].plain
  size : S = (wireT ((plain ts).take k)).length
theorem EI.zero (ts : List Tg) : EI ts 0 0 := ⟨fun j hj => by omega, by simp [wireT]⟩
theorem EI.next {ts : List Tg} {k S : Nat} (h : EI ts k S) (hk : k < ts.length) (ht : isT ts[k].plain) : EI ts (k + 1) (S + (4 + ts[k].l.length)) := by
  refine ⟨fun j hj h2 => ?_, ?_⟩
  · by_cases e : j = k
    · subst e; exact ht
    · exact h.ok j (by omega) h2
  · rw [wireT_snoc _ k (by rw [plain_length]; exact hk), List.length_append, ← h.size, tagL_length, plain_get ts k hk]
theorem EI.all {ts : List Tg} {S : Nat} (h : EI ts ts.length S) : (∀ t ∈ plain ts, isT t) ∧ S = (wireT (plain ts)).length := by
  refine ⟨fun t ht => ?_, ?_⟩
  · obtain ⟨x, hx, rfl⟩ := List.mem_map.1 ht
    obtain ⟨i, hi, rfl⟩ := List.mem_iff_getElem.1 hx
    exact h.ok i hi hi
  · have := h.size
    rwa [← plain_length, List.take_length] at this
theorem EI.le {ts : List Tg} {k S : Nat} (h : EI ts k S) (hk : k ≤ ts.length) : S ≤ k * 65539 := by
  rw [h.size]
  refine Nat.le_trans (wireT_le _ 65535 fun t ht => ?_) ?_
  · obtain ⟨i, hi, rfl⟩ := List.mem_iff_getElem.1 ht
    rw [List.length_take, plain_length] at hi
    rw [List.getElem_take, plain_get ts i (by omega)]
    exact (h.ok i (by omega) (by omega)).2.2
  · rw [List.length_take, plain_length]
    exact Nat.mul_le_mul (by omega) (by omega)
theorem not_all {ts : List Tg} {k : Nat} (hk : k < ts.length) (h : ¬ isT ts[k].plain) : ¬ ∀ t ∈ plain ts, isT t := fun h2 => h (h2 _ (List.mem_map.2 ⟨_, List.getElem_mem hk, rfl⟩))

set_option maxHeartbeats 4000000 in
theorem encode_any (ao : Option Addr) (n c : Nat) (ts : List Tg) (w : World) (hr : TR w (.slice ao n c) n ts) (hn : n ≤ 1000) (hm : ∀ x ∈ ts, x.l.length ≤ 1000000) :
    Calls Try.prog 48 #[.slice ao n c] w (EncR (plain ts) w) := by
  obtain ⟨i0, hi, hz0, hz1, hz2⟩ := info_parts info5
  have hl := hr.len
  have HR := Lib.hid hr
  clear hr
  by_cases h64 : 64 < n
  · have HE := Lib.hid (encE_many (ls := plain ts) (by rw [plain_length]; omega))
    go_enter Try.func48, Try.ntmps48
    go_wp2
    go_ret2
    exact EncR.none HE.out (by decide) (Below.refl _ _)
  have HN64 : Hid (¬ 64 < (plain ts).length) := by show ¬ _; rw [plain_length]; omega
  go_enter Try.func48, Try.ntmps48
  go_wp2
  go_loopw [4, 15] (fun sv iv wr => ∃ k S : Nat, k ≤ n ∧ iv = .int .i64 k ∧ sv = .int .i64 S ∧ EI ts k S ∧ Below w.heap.size w wr) (fun _ iv _ => n - (intOf iv).toNat)
  case atStart => exact ⟨0, 0, Nat.zero_le _, rfl, rfl, EI.zero ts, Below.refl _ _⟩
  case round =>
    obtain ⟨k, S, hk, rfl, rfl, hei, hb⟩ := hrel
    have HEI := Lib.hid hei
    have HSL := Lib.hid (hei.le (by omega))
    have HB := Lib.hid hb
    have HBN := Lib.hid hb.size
    clear hei hb
    by_cases hlt : k < n
    · obtain ⟨b, o, rfl, hbl, hc⟩ := (HR.out.below HB.out).cells (by omega)
      obtain ⟨hc0, hc1⟩ := hc k (by omega)
      obtain ⟨A, L, C, hv, hL, hLC, hCm⟩ := (HR.out.val k (by omega)).sl
      rw [hv] at hc1
      have HE := Lib.hid hv
      have HL := Lib.hid hL
      have HM := Lib.hid (hm ts[k] (List.getElem_mem _))
      obtain ⟨T, hT⟩ : ∃ T, T = ts[k].typ := ⟨_, rfl⟩
      rw [← hT] at hc0
      have HTT := Lib.hid hT
      have HB1 := Lib.hid (HB.out.trans (((Below.refl wr.heap.size wr).alloc (Nat.le_refl _) (.cells #[.int .i64 T, .slice A L C] 61)).mono HBN.out))
      have HG1 : Hid ((wr.alloc (.cells #[.int .i64 T, .slice A L C] 61)).heap[wr.heap.size]? = some (.cells #[.int .i64 T, .slice A L C] 61)) := heap_alloc_last _ _
      have MB := Lib.hid (mayBe_any T A L C ts[k].l HL.out (wr.alloc (.cells #[.int .i64 T, .slice A L C] 61)))
      have HPL : Hid (ts[k].plain = (T, ts[k].l)) := by show _ = _; rw [hT]; rfl
      have hLm : L ≤ 1000000 := by have := HM.out; omega
      clear hv hL hT hc hm
      go_wp2_with fail
      refine MB.out.mono ?_
      rintro e w1 ⟨rfl, hb1⟩
      have HB2 := Lib.hid (HB1.out.trans (hb1.mono HB1.out.size))
      have HG2 := Lib.hid (heap_below HG1.out hb1)
      obtain ⟨k0, k1⟩ := copy_cells HG2.out
      clear hb1 hc0 hc1
      by_cases hT : isT (T, ts[k].l)
      · have hd : decide (isT (T, ts[k].l)) = true := decide_eq_true hT
        have HIT := Lib.hid hT
        rw [hd]
        have hs2 := HSL.out
        clear hd hT
        go_wp2
        go_roundw
        case rel =>
          have HN := EI.next HEI.out (by omega) (by rw [HPL.out]; exact HIT.out)
          rw [HL.out] at HN
          first | exact ⟨k + 1, S + (4 + L), by omega, by go_num, by go_num, HN, HB2.out⟩ | ((repeat apply Exists.intro); exact ⟨⟨k + 1, S + (4 + L), by omega, by go_num, by go_num, HN, HB2.out⟩, rfl⟩)
        case measure => simp [intOf]; omega
      · have hd : decide (isT (T, ts[k].l)) = false := decide_eq_false hT
        have HE := Lib.hid (encE_tag HN64.out (not_all (k := k) (by omega) (by rw [HPL.out]; exact hT)))
        rw [hd]
        clear hd hT
        go_wp2
        go_ret2
        exact EncR.none HE.out (by decide) HB2.out
    · obtain rfl : n = k := by omega
      have HA : Hid ((∀ t ∈ plain ts, isT t) ∧ S = (wireT (plain ts)).length) := EI.all (by rw [hl]; exact HEI.out)
      by_cases hS : 1494 < S
      · have HE := Lib.hid (encE_long HN64.out HA.out.1 (by rw [← HA.out.2]; exact hS))
        go_wp2
        go_ret2
        exact EncR.none HE.out (by decide) HB.out
      · have HE := Lib.hid (encE_ok HN64.out HA.out.1 (by rw [← HA.out.2]; exact hS))
        go_wp2_with (refine wpList_make_cap _ rfl _ _ 22 rfl w.heap.size 5 i0 (.int .u8 0) Try.underlying22 hi hz0 hz1 rfl _ _ _ _ 0 S rfl rfl rfl rfl ?a3 ?a4 ?a5 HBN.out ?_)
        case a3 => omega
        case a4 => rw [hz2]; omega
        case a5 => unfold maxLen; omega
        intro w3 hown3 hb3
        obtain ⟨g3, hg3⟩ : ∃ g3, g3 = wr.heap.size := ⟨_, rfl⟩
        have HB3 := Lib.hid (HB.out.trans (hb3.mono HBN.out))
        have HO3 : Hid (OwnB w3 w.heap.size 5 (.slice (some ⟨wr.heap.size, 0, none⟩) 0 S) (wireT ((plain ts).take 0))) := hown3
        clear hown3 hb3 hg3
        have hlS : (wireT (plain ts)).length ≤ 1494 := by rw [← HA.out.2]; omega
        have HLS := Lib.hid hlS
        have h64' : n ≤ 64 := by omega
        clear hlS hS
        go_wp2
        go_loopw [7, 35] (fun bv iv wr => ∃ k : Nat, k ≤ n ∧ iv = .int .i64 k ∧ OwnB wr w.heap.size 5 bv (wireT ((plain ts).take k)) ∧ Below w.heap.size w wr) (fun _ iv _ => n - (intOf iv).toNat)
        case atStart => exact ⟨0, Nat.zero_le _, rfl, HO3.out, HB3.out⟩
        case round =>
          clear HO3 HB3 HB HBN HEI HSL
          obtain ⟨k, hk, rfl, hown, hb⟩ := hrel
          have HO := Lib.hid hown
          have HB := Lib.hid hb
          have HBN := Lib.hid hb.size
          clear hown hb
          by_cases hlt : k < n
          · obtain ⟨b, o, rfl, hbl, hc⟩ := (HR.out.below HB.out).cells (by omega)
            obtain ⟨hc0, hc1⟩ := hc k (by omega)
            have HV := Lib.hid (HR.out.val k (by omega))
            obtain ⟨A, L, C, hv, hL, hLC, hCm⟩ := HV.out.sl
            rw [hv] at hc1
            have HE1 := Lib.hid hv
            have HL := Lib.hid hL
            have hIT := HA.out.1 ts[k].plain (List.mem_map.2 ⟨_, List.getElem_mem _, rfl⟩)
            obtain ⟨T, hT⟩ : ∃ T : Nat, (T : Int) = ts[k].typ := ⟨ts[k].typ.toNat, by have := hIT.1; unfold Tg.plain at this; simp only at this; omega⟩
            rw [← hT] at hc0
            have HTT := Lib.hid hT
            have hT1 : T ≤ 65535 := by have := hIT.2.1; unfold Tg.plain at this; simp only at this; omega
            have hL1 : L ≤ 65535 := by have := hIT.2.2; unfold Tg.plain at this; simp only at this; omega
            have HB1 := Lib.hid (HB.out.trans (((Below.refl wr.heap.size wr).alloc (Nat.le_refl _) (.cells #[.int .i64 (T : Int), .slice A L C] 61)).mono HBN.out))
            have HG1 : Hid ((wr.alloc (.cells #[.int .i64 (T : Int), .slice A L C] 61)).heap[wr.heap.size]? = some (.cells #[.int .i64 (T : Int), .slice A L C] 61)) := heap_alloc_last _ _
            have HO1 := Lib.hid (HO.out.below ((Below.refl wr.heap.size wr).alloc (Nat.le_refl _) (.cells #[.int .i64 (T : Int), .slice A L C] 61)))
            have HTK : Hid (wireT ((plain ts).take (k + 1)) = wireT ((plain ts).take k) ++ (putL T 2 ++ (putL L 2 ++ ts[k].l))) := by
              show _ = _
              rw [wireT_snoc _ k (by rw [plain_length]; omega), plain_get ts k (by omega)]
              unfold tagL
              simp only [← hT, Int.toNat_natCast, hL]
            have HKL : Hid ((wireT ((plain ts).take k)).length ≤ 1494) := Nat.le_trans (wireT_take_le _ k) HLS.out
            have PT := Lib.hid (put_yes T 2 (wr.alloc (.cells #[.int .i64 (T : Int), .slice A L C] 61)) (by decide) (by decide) (by omega))
            clear hv hL hT hc hIT
            go_wp2_with fail
            refine PT.out.mono ?_
            rintro e w1 ⟨v1, rfl, hown1, hb1⟩
            have HB2 := Lib.hid (HB1.out.trans (hb1.mono HB1.out.size))
            have HG2 := Lib.hid (heap_below HG1.out hb1)
            have HO2 := Lib.hid (HO1.out.below hb1)
            have RP2 : Hid (Rd w1 1 v1 2 ((putL T 2).map u8v)) := hown1.bs
            clear hown1 hb1 hc0 hc1 PT
            go_wp2_with (at_builtin; refine wpList_append_gr _ rfl _ _ 22 rfl w.heap.size 5 i0 (.int .u8 0) 1 1 Try.underlying22 hi hz0 hz1 hz2 rfl (by decide) _ _ _ rfl HO2.out _ _ _ rfl RP2.out (oneCell_u8 _) ?q1 (by decide) HB2.out.size ?_)
            case q1 => have := HKL.out; omega
            intro v2 w2 hown2 hg2
            have HG3 := Lib.hid (grown_heap HO2.out hg2 HG2.out (by decide))
            have HB3 := Lib.hid (HB2.out.trans (grown_below HO2.out HB2.out.size hg2))
            have HO3 := Lib.hid hown2
            obtain ⟨k0, k1⟩ := copy_cells HG3.out
            have PL := Lib.hid (put_yes L 2 w2 (by decide) (by decide) (by omega))
            clear hown2 hg2
            go_wp2_with fail
            refine PL.out.mono ?_
            rintro e w4 ⟨v4, rfl, hown4, hb4⟩
            have HB4 := Lib.hid (HB3.out.trans (hb4.mono HB3.out.size))
            have HG4 := Lib.hid (heap_below HG3.out hb4)
            have HO4 := Lib.hid (ownsRow_below HO3.out hb4)
            have RP4 : Hid (Rd w4 1 v4 2 ((putL L 2).map u8v)) := hown4.bs
            clear hown4 hb4 k0 k1 PL
            go_wp2_with (at_builtin; refine wpList_append_gr _ rfl _ _ 22 rfl w.heap.size 5 i0 (.int .u8 0) 1 1 Try.underlying22 hi hz0 hz1 hz2 rfl (by decide) _ _ _ rfl HO4.out _ _ _ rfl RP4.out (oneCell_u8 _) ?q1 (by decide) HB4.out.size ?_)
            case q1 => have := HKL.out; omega
            intro v5 w5 hown5 hg5
            have HG5 := Lib.hid (grown_heap HO4.out hg5 HG4.out (by decide))
            have HB5 := Lib.hid (HB4.out.trans (grown_below HO4.out HB4.out.size hg5))
            have HO5 := Lib.hid hown5
            obtain ⟨k0, k1⟩ := copy_cells HG5.out
            have HV5 : Hid (Rd w5 1 (.slice A L C) L (ts[k].l.map u8v)) := by
              have := HV.out.below HB5.out
              rw [HE1.out] at this
              unfold Bs at this
              rw [HL.out] at this
              exact this
            clear hown5 hg5
            go_wp2_with (at_builtin; refine wpList_append_gr _ rfl _ _ 22 rfl w.heap.size 5 i0 (.int .u8 0) 1 1 Try.underlying22 hi hz0 hz1 hz2 rfl (by decide) _ _ _ rfl HO5.out _ _ _ rfl HV5.out (oneCell_u8 _) ?q1 (by decide) HB5.out.size ?_)
            case q1 => have := HKL.out; omega
            intro v6 w6 hown6 hg6
            have HB6 := Lib.hid (HB5.out.trans (grown_below HO5.out HB5.out.size hg6))
            have HO6 : Hid (OwnB w6 w.heap.size 5 v6 (wireT ((plain ts).take (k + 1)))) := by
              show OwnB _ _ _ _ _
              rw [HTK.out]
              unfold OwnB
              have e1 : (wireT ((plain ts).take k) ++ (putL T 2 ++ (putL L 2 ++ ts[k].l))).length = (wireT ((plain ts).take k)).length + 2 + 2 + L := by
                simp only [List.length_append, putL_length]
                rw [HL.out]; omega
              rw [e1]
              simpa using hown6
            clear hown6 hg6 k0 k1
            go_wp2
            go_roundw
            case rel =>
              first | exact ⟨k + 1, by omega, by go_num, HO6.out, HB6.out⟩ | ((repeat apply Exists.intro); exact ⟨⟨k + 1, by omega, by go_num, HO6.out, HB6.out⟩, rfl⟩)
            case measure => simp [intOf]; omega
          · obtain rfl : n = k := by omega
            have HW : Hid ((plain ts).take n = plain ts) := by show _ = _; rw [← hl, ← plain_length, List.take_length]
            go_wp2
            go_ret2
            exact EncR.some HE.out (by have := HO.out; rwa [HW.out] at this) HB.out
end Go.Proofs.Ytcpeglljcipcbaa
