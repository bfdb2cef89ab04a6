/-
  opts.Encode, whatever options come.
-/
import Derived.Test.YteemcckfhadkhaaOpA
import Derived.Test.YteemcckfhadkhaaMake
import Derived.IntWalk
namespace Go.Proofs.Yteemcckfhadkhaa.O
open Go.RowKit
set_option linter.unusedVariables false
set_option linter.unusedSimpArgs false

def EncR (ls : List PT) (w : World) (e : Ending) (w' : World) : Prop :=
  ∃ v, e = .returned (.tuple #[v, .int .i64 (encE ls)]) ∧ OwnB w' w.heap.size 5 v (encB ls) ∧ Below w.heap.size w w'
theorem EncR.none {ls : List PT} {w w' : World} {k : Int} (hk : encE ls = k) (h : k ≠ 0) (hb : Below w.heap.size w w') : EncR ls w (.returned (.tuple #[.slice Option.none 0 0, .int .i64 k])) w' := by
  subst hk
  refine ⟨_, rfl, ?_, hb⟩
  rw [encB_no h]
  exact OwnB.nil _ _ _
theorem EncR.some {ls : List PT} {w w' : World} {v : Value} (h : encE ls = 0) (ho : OwnB w' w.heap.size 5 v (wireT ls)) (hb : Below w.heap.size w w') : EncR ls w (.returned (.tuple #[v, .int .i64 0])) w' := by
  refine ⟨v, by rw [h], ?_, hb⟩
  rw [encB_yes h]
  exact ho
/-- The first k options may be; so many bytes. -/
structure EI (ts : List Tg) (k S : Nat) : Prop where
  ok : ∀ j (hj : j < k) (h2 : j < ts.length), isT ts[j].plain
  size : S = (wireT ((plain ts).take k)).length
theorem EI.zero (ts : List Tg) : EI ts 0 0 := ⟨fun j hj => by omega, by simp [wireT]⟩
theorem EI.next {ts : List Tg} {k S : Nat} (h : EI ts k S) (hk : k < ts.length) (ht : isT ts[k].plain) : EI ts (k + 1) (S + (2 + ts[k].l.length)) := by
  refine ⟨fun j hj h2 => ?_, ?_⟩
  · by_cases e : j = k
    · subst e; exact ht
    · exact h.ok j (by omega) h2
  · rw [wireT_snoc _ k (by rw [plain_length]; exact hk), List.length_append, ← h.size, tagL_length, plain_get ts k hk]
theorem EI.all {ts : List Tg} {S : Nat} (h : EI ts ts.length S) : (∀ t ∈ plain ts, isT t) ∧ S = (wireT (plain ts)).length := by
  refine ⟨fun t ht => ?_, ?_⟩
  · obtain ⟨x, hx, rfl⟩ := List.mem_map.1 ht
    obtain ⟨i, hi, rfl⟩ := List.mem_iff_getElem.1 hx
    exact h.ok i hi hi
  · have := h.size
    rwa [← plain_length, List.take_length] at this
theorem EI.le {ts : List Tg} {k S : Nat} (h : EI ts k S) (hk : k ≤ ts.length) : S ≤ k * 255 := by
  rw [h.size]
  refine Nat.le_trans (wireT_le _ 253 fun t ht => ?_) ?_
  · obtain ⟨i, hi, rfl⟩ := List.mem_iff_getElem.1 ht
    rw [List.length_take, plain_length] at hi
    rw [List.getElem_take, plain_get ts i (by omega)]
    exact (h.ok i (by omega) (by omega)).2.2
  · rw [List.length_take, plain_length]
    exact Nat.mul_le_mul (by omega) (by omega)
theorem not_all {ts : List Tg} {k : Nat} (hk : k < ts.length) (h : ¬ isT ts[k].plain) : ¬ ∀ t ∈ plain ts, isT t := fun h2 => h (h2 _ (List.mem_map.2 ⟨_, List.getElem_mem hk, rfl⟩))
/-- A head's two bytes. -/
theorem two_u8 (x y : Nat) (hx : x < 256) (hy : y < 256) : [Value.int .u8 (x : Int), .int .u8 (y : Int)] = [UInt8.ofNat x, UInt8.ofNat y].map u8v := by
  simp only [List.map_cons, List.map_nil, u8v_ofNat]
  rw [Nat.mod_eq_of_lt hx, Nat.mod_eq_of_lt hy]
theorem wireT_head (ts : List Tg) (k X L : Nat) (hk : k < ts.length) (hX : (X : Int) = ts[k].typ) (hL : ts[k].l.length = L) :
    wireT ((plain ts).take (k + 1)) = wireT ((plain ts).take k) ++ ([UInt8.ofNat X, UInt8.ofNat (2 + L)] ++ ts[k].l) := by
  rw [wireT_snoc _ k (by rw [plain_length]; exact hk), plain_get ts k hk]
  unfold tagL
  simp only [← hX, Int.toNat_natCast, hL, Nat.add_comm L 2]
  rfl

set_option maxRecDepth 20000 in
set_option maxHeartbeats 4000000 in
theorem encode_any (ao : Option Addr) (n c : Nat) (ts : List Tg) (w : World) (hr : TR w (.slice ao n c) n ts) (hn : n ≤ 1000) (hm : ∀ x ∈ ts, x.l.length ≤ 1000000) :
    Calls Try.prog 12 #[.slice ao n c] w (EncR (plain ts) w) := by
  obtain ⟨i0, hi, hz0, hz1, hz2⟩ := info_parts info5
  have hl := hr.len
  have HR := Lib.hid hr
  clear hr
  by_cases h64 : 64 < n
  · have HE := Lib.hid (encE_many (ls := plain ts) (by rw [plain_length]; omega))
    go_enter Try.func12, Try.ntmps12
    go_wp2
    go_ret2
    exact EncR.none HE.out (by decide) (Below.refl _ _)
  have HN64 : Hid (¬ 64 < (plain ts).length) := by show ¬ _; rw [plain_length]; omega
  go_enter Try.func12, Try.ntmps12
  go_wp2
  go_loopw [4, 15] (fun sv iv wr => ∃ k S : Nat, k ≤ n ∧ iv = .int .i64 k ∧ sv = .int .i64 S ∧ EI ts k S ∧ Below w.heap.size w wr) (fun _ iv _ => n - (intOf iv).toNat)
  case atStart => exact ⟨0, 0, Nat.zero_le _, rfl, rfl, EI.zero ts, Below.refl _ _⟩
  case round =>
    obtain ⟨k, S, hk, rfl, rfl, hei, hb⟩ := hrel
    have HEI := Lib.hid hei
    have HSL := Lib.hid (hei.le (by omega))
    have HB := Lib.hid hb
    have HBN := Lib.hid hb.size
    clear hei hb
    by_cases hlt : k < n
    · obtain ⟨b, o, rfl, hbl, hc⟩ := (HR.out.below HB.out).cells (by omega)
      obtain ⟨hc0, hc1⟩ := hc k (by omega)
      obtain ⟨A, L, C, hv, hL, hLC, hCm⟩ := (HR.out.val k (by omega)).sl
      rw [hv] at hc1
      have HE := Lib.hid hv
      have HL := Lib.hid hL
      have HM := Lib.hid (hm ts[k] (List.getElem_mem _))
      obtain ⟨T, hT⟩ : ∃ T, T = ts[k].typ := ⟨_, rfl⟩
      rw [← hT] at hc0
      have HTT := Lib.hid hT
      have HB1 := Lib.hid (HB.out.trans (((Below.refl wr.heap.size wr).alloc (Nat.le_refl _) (.cells #[.int .i64 T, .slice A L C] 36)).mono HBN.out))
      have HG1 : Hid ((wr.alloc (.cells #[.int .i64 T, .slice A L C] 36)).heap[wr.heap.size]? = some (.cells #[.int .i64 T, .slice A L C] 36)) := heap_alloc_last _ _
      have MB := Lib.hid (mayBe_any T A L C ts[k].l HL.out (wr.alloc (.cells #[.int .i64 T, .slice A L C] 36)))
      have HPL : Hid (ts[k].plain = (T, ts[k].l)) := by show _ = _; rw [hT]; rfl
      have hLm : L ≤ 1000000 := by have := HM.out; omega
      clear hv hL hT hc hm
      go_wp2_with fail
      refine MB.out.mono ?_
      rintro e w1 ⟨rfl, hb1⟩
      have HB2 := Lib.hid (HB1.out.trans (hb1.mono HB1.out.size))
      have HG2 := Lib.hid (heap_below HG1.out hb1)
      obtain ⟨k0, k1⟩ := copy_cells HG2.out
      clear hb1 hc0 hc1
      by_cases hT : isT (T, ts[k].l)
      · have hd : decide (isT (T, ts[k].l)) = true := decide_eq_true hT
        have HIT := Lib.hid hT
        rw [hd]
        have hs2 := HSL.out
        clear hd hT
        go_wp2
        go_roundw
        case rel =>
          have HN := EI.next HEI.out (by omega) (by rw [HPL.out]; exact HIT.out)
          rw [HL.out] at HN
          first | exact ⟨k + 1, S + (2 + L), by omega, by go_num, by go_num, HN, HB2.out⟩ | ((repeat apply Exists.intro); exact ⟨⟨k + 1, S + (2 + L), by omega, by go_num, by go_num, HN, HB2.out⟩, rfl⟩)
        case measure => simp [intOf]; omega
      · have hd : decide (isT (T, ts[k].l)) = false := decide_eq_false hT
        have HE := Lib.hid (encE_tag HN64.out (not_all (k := k) (by omega) (by rw [HPL.out]; exact hT)))
        rw [hd]
        clear hd hT
        go_wp2
        go_ret2
        exact EncR.none HE.out (by decide) HB2.out
    · obtain rfl : n = k := by omega
      have HA : Hid ((∀ t ∈ plain ts, isT t) ∧ S = (wireT (plain ts)).length) := EI.all (by rw [hl]; exact HEI.out)
      by_cases hS : 1488 < S
      · have HE := Lib.hid (encE_long HN64.out HA.out.1 (by rw [← HA.out.2]; exact hS))
        go_wp2
        go_ret2
        exact EncR.none HE.out (by decide) HB.out
      have HE := Lib.hid (encE_ok HN64.out HA.out.1 (by rw [← HA.out.2]; exact hS))
      have HLS : Hid ((wireT (plain ts)).length ≤ 1488) := by show _ ≤ _; rw [← HA.out.2]; omega
      obtain ⟨wA, hA⟩ : ∃ x, x = wr := ⟨_, rfl⟩
      subst hA
      go_wp2_with (at_make; refine wpList_make_cap _ rfl _ _ 23 rfl w.heap.size 5 i0 (.int .u8 0) Try.underlying23 hi hz0 hz1 rfl _ _ _ _ 0 S rfl rfl rfl rfl (Nat.zero_le _) ?c1 ?c2 ?c3 ?_)
      case c1 => rw [hz2]; omega
      case c2 => unfold maxLen; omega
      case c3 => exact HBN.out
      intro w1 hown hb1
      have HB1 := Lib.hid (HB.out.trans (hb1.mono HBN.out))
      have HO1 := Lib.hid hown
      have hbn1 := HBN.out
      clear hown hb1
      go_wp2
      go_loopw [7, 35] (fun bv iv wr => ∃ k : Nat, k ≤ n ∧ iv = .int .i64 k ∧ OwnB wr w.heap.size 5 bv (wireT ((plain ts).take k)) ∧ Below w.heap.size w wr) (fun _ iv _ => n - (intOf iv).toNat)
      case atStart => exact ⟨0, Nat.zero_le _, rfl, HO1.out, HB1.out⟩
      case round =>
        obtain ⟨k, hk, rfl, hown, hb⟩ := hrel
        have HB := Lib.hid hb
        have HBN := Lib.hid hb.size
        have HO := Lib.hid hown
        clear hb hown
        by_cases hlt : k < n
        · obtain ⟨b, o, rfl, hbl, hc⟩ := (HR.out.below HB.out).cells (by omega)
          obtain ⟨hc0, hc1⟩ := hc k (by omega)
          have HV := Lib.hid (HR.out.val k (by omega))
          obtain ⟨A, L, C, hv, hL, hLC, hCm⟩ := HV.out.sl
          rw [hv] at hc1
          have HE1 := Lib.hid hv
          have HL := Lib.hid hL
          have hIT := HA.out.1 ts[k].plain (List.mem_map.2 ⟨_, List.getElem_mem _, rfl⟩)
          obtain ⟨T, hT⟩ : ∃ T : Nat, (T : Int) = ts[k].typ := ⟨ts[k].typ.toNat, by have := hIT.1; unfold Tg.plain at this; simp only at this; omega⟩
          rw [← hT] at hc0
          have HTT := Lib.hid hT
          have hT1 : T ≤ 255 := by have := hIT.2.1; unfold Tg.plain at this; simp only at this; omega
          have hL1 : L ≤ 253 := by have := hIT.2.2; unfold Tg.plain at this; simp only at this; omega
          have HB1 := Lib.hid (HB.out.trans (((Below.refl wr.heap.size wr).alloc (Nat.le_refl _) (.cells #[.int .i64 (T : Int), .slice A L C] 36)).mono HBN.out))
          have HG1 : Hid ((wr.alloc (.cells #[.int .i64 (T : Int), .slice A L C] 36)).heap[wr.heap.size]? = some (.cells #[.int .i64 (T : Int), .slice A L C] 36)) := heap_alloc_last _ _
          have HO1 := Lib.hid (HO.out.below ((Below.refl wr.heap.size wr).alloc (Nat.le_refl _) (.cells #[.int .i64 (T : Int), .slice A L C] 36)))
          have HTK := Lib.hid (wireT_head ts k T L (by omega) hT hL)
          have HKL : Hid ((wireT ((plain ts).take k)).length ≤ 1488) := Nat.le_trans (wireT_take_le _ k) HLS.out
          have W1 : IntKind.u8.wrap (T : Int) = (T : Int) := IntWalk.u8_in _ (by omega)
          have W2 : IntKind.u8.wrap (2 + (L : Int)) = 2 + (L : Int) := IntWalk.u8_in _ (by omega)
          have e2L : ((2 + L : Nat) : Int) = 2 + (L : Int) := by omega
          have HR2 : Hid (Rd ((wr.alloc (.cells #[.int .i64 (T : Int), .slice A L C] 36)).alloc (.cells #[.int .u8 (T : Int), .int .u8 (2 + (L : Int))] 5)) 1 (.slice (some ⟨wr.heap.size + 1, 0, none⟩) 2 2) 2 ([UInt8.ofNat T, UInt8.ofNat (2 + L)].map u8v)) := by
            have := rd_new (wr.alloc (.cells #[.int .i64 (T : Int), .slice A L C] 36)) ([UInt8.ofNat T, UInt8.ofNat (2 + L)].map u8v) 5 2 1 rfl (by decide)
            rw [← two_u8 T (2 + L) (by omega) (by omega), e2L, World.size_alloc] at this
            show Rd _ _ _ _ _
            rw [← two_u8 T (2 + L) (by omega) (by omega), e2L]
            exact this
          have HBA : Hid (Below (wr.alloc (.cells #[.int .i64 (T : Int), .slice A L C] 36)).heap.size (wr.alloc (.cells #[.int .i64 (T : Int), .slice A L C] 36)) ((wr.alloc (.cells #[.int .i64 (T : Int), .slice A L C] 36)).alloc (.cells #[.int .u8 (T : Int), .int .u8 (2 + (L : Int))] 5))) := (Below.refl _ _).alloc (Nat.le_refl _) _
          have HB2 := Lib.hid (HB1.out.trans (HBA.out.mono HB1.out.size))
          have HO2 := Lib.hid (HO1.out.below HBA.out)
          have HG2 := Lib.hid (heap_below HG1.out HBA.out)
          clear hv hL hT hc hIT e2L
          go_wp2_with (at_builtin; refine wpList_append_gr _ rfl (.tmp 39) (.tmp 48) 23 rfl w.heap.size 5 i0 (.int .u8 0) 1 1 Try.underlying23 hi hz0 hz1 hz2 rfl (by decide) _ _ _ rfl HO2.out _ _ _ rfl HR2.out (oneCell_u8 _) ?q1 (by decide) HB2.out.size ?_)
          case q1 => have := HKL.out; omega
          intro v2 w2 hown2 hg2
          have HG3 := Lib.hid (grown_heap HO2.out hg2 HG2.out (by decide))
          have HB3 := Lib.hid (HB2.out.trans (grown_below HO2.out HB2.out.size hg2))
          have HO3 := Lib.hid hown2
          obtain ⟨k0, k1⟩ := copy_cells HG3.out
          have HV5 : Hid (Rd w2 1 (.slice A L C) L (ts[k].l.map u8v)) := by
            have := HV.out.below HB3.out
            rw [HE1.out] at this
            unfold Bs at this
            rw [HL.out] at this
            exact this
          clear hown2 hg2 hc0 hc1 W1 W2
          go_wp2_with (at_builtin; refine wpList_append_gr _ rfl (.tmp 50) (.tmp 52) 23 rfl w.heap.size 5 i0 (.int .u8 0) 1 1 Try.underlying23 hi hz0 hz1 hz2 rfl (by decide) _ _ _ rfl HO3.out _ _ _ rfl HV5.out (oneCell_u8 _) ?q1 (by decide) HB3.out.size ?_)
          case q1 => have := HKL.out; omega
          intro v6 w6 hown6 hg6
          have HB6 := Lib.hid (HB3.out.trans (grown_below HO3.out HB3.out.size hg6))
          have HO6 : Hid (OwnB w6 w.heap.size 5 v6 (wireT ((plain ts).take (k + 1)))) := by
            show OwnB _ _ _ _ _
            rw [HTK.out]
            unfold OwnB
            have e1 : (wireT ((plain ts).take k) ++ ([UInt8.ofNat T, UInt8.ofNat (2 + L)] ++ ts[k].l)).length = (wireT ((plain ts).take k)).length + 2 + L := by
              simp only [List.length_append, List.length_cons, List.length_nil]
              rw [HL.out]; omega
            rw [e1]
            simpa using hown6
          clear hown6 hg6 k0 k1
          go_wp2
          go_roundw
          case rel =>
            first | exact ⟨k + 1, by omega, by go_num, HO6.out, HB6.out⟩ | ((repeat apply Exists.intro); exact ⟨⟨k + 1, by omega, by go_num, HO6.out, HB6.out⟩, rfl⟩)
          case measure => simp [intOf]; omega
        · obtain rfl : n = k := by omega
          have HW : Hid ((plain ts).take n = plain ts) := by show _ = _; rw [← hl, ← plain_length, List.take_length]
          go_wp2
          go_ret2
          exact EncR.some HE.out (by have := HO.out; rwa [HW.out] at this) HB.out
end Go.Proofs.Yteemcckfhadkhaa.O
