/-
  pppoe.Encode, the document's Encode, whatever packet comes.
-/
import Derived.Test.YtcpeglljcipcbaaPpM
import Derived.Test.YtcpeglljcipcbaaPut
import Derived.IntWalk
namespace Go.Proofs.Ytcpeglljcipcbaa
open Go.RowKit
set_option linter.unusedVariables false
set_option linter.unusedSimpArgs false

def PEncR (p : PP) (w : World) (e : Ending) (w' : World) : Prop :=
  ∃ v, e = .returned (.tuple #[v, .int .i64 (pencE p)]) ∧ OwnB w' w.heap.size 5 v (pencB p) ∧ Below w.heap.size w w'
theorem PEncR.none {p : PP} {w w' : World} {k : Int} (hk : pencE p = k) (h : k ≠ 0) (hb : Below w.heap.size w w') : PEncR p w (.returned (.tuple #[.slice Option.none 0 0, .int .i64 k])) w' := by
  subst hk
  refine ⟨_, rfl, ?_, hb⟩
  rw [pencB_no h]
  exact OwnB.nil _ _ _
theorem PEncR.some {p : PP} {w w' : World} {v : Value} (h : pencE p = 0) (ho : OwnB w' w.heap.size 5 v (wireP p)) (hb : Below w.heap.size w w') : PEncR p w (.returned (.tuple #[v, .int .i64 0])) w' := by
  refine ⟨v, by rw [h], ?_, hb⟩
  rw [pencB_yes h]
  exact ho
theorem wire_eq (X Y : Nat) (l : List UInt8) : wireP ⟨X, Y, l⟩ = ((([17] ++ putL X 1) ++ putL Y 2) ++ putL l.length 2) ++ l := by
  simp [wireP, putL, List.range_succ]

set_option maxHeartbeats 4000000 in
theorem pencode_any (C S : Int) (A : Option Addr) (L K : Nat) (l : List UInt8) (hl : l.length = L) (w : World) (hb : Bs w (.slice A L K) l) (hL : L ≤ 1000000) :
    Calls Try.prog 10 #[.agg #[.int .i64 C, .int .i64 S, .slice A L K]] w (PEncR ⟨C, S, l⟩ w) := by
  obtain ⟨i0, hi, hz0, hz1, hz2⟩ := info_parts info5
  have BA : Below w.heap.size w (w.alloc (.cells #[.int .i64 C, .int .i64 S, .slice A L K] 24)) := (Below.refl _ _).alloc (Nat.le_refl _) _
  have HB := Lib.hid BA
  clear BA
  by_cases h1 : C < 0
  · have HE := Lib.hid (pencE_no (p := ⟨C, S, l⟩) (by unfold pmay; simp; omega))
    clear hb hl
    go_enter Try.func10, Try.ntmps10
    go_wp2
    go_ret2
    exact PEncR.none HE.out (by decide) HB.out
  by_cases h2 : 255 < C
  · have HE := Lib.hid (pencE_no (p := ⟨C, S, l⟩) (by unfold pmay; simp; omega))
    clear hb hl
    go_enter Try.func10, Try.ntmps10
    go_wp2
    go_ret2
    exact PEncR.none HE.out (by decide) HB.out
  by_cases h3 : S < 0
  · have HE := Lib.hid (pencE_no (p := ⟨C, S, l⟩) (by unfold pmay; simp; omega))
    clear hb hl
    go_enter Try.func10, Try.ntmps10
    go_wp2
    go_ret2
    exact PEncR.none HE.out (by decide) HB.out
  by_cases h4 : 65535 < S
  · have HE := Lib.hid (pencE_no (p := ⟨C, S, l⟩) (by unfold pmay; simp; omega))
    clear hb hl
    go_enter Try.func10, Try.ntmps10
    go_wp2
    go_ret2
    exact PEncR.none HE.out (by decide) HB.out
  have hmay : pmay ⟨C, S, l⟩ := ⟨by simpa using h1, by simpa using h2, by simpa using h3, by simpa using h4⟩
  by_cases h5 : 1494 < L
  · have HE := Lib.hid (pencE_long hmay (by show 1494 < l.length; omega))
    clear hb hl hmay
    go_enter Try.func10, Try.ntmps10
    go_wp2
    go_ret2
    exact PEncR.none HE.out (by decide) HB.out
  have HE := Lib.hid (pencE_ok hmay (by show ¬ 1494 < l.length; omega))
  clear hmay
  obtain ⟨X, rfl⟩ : ∃ X : Nat, C = (X : Int) := ⟨C.toNat, by omega⟩
  obtain ⟨Y, rfl⟩ : ∃ Y : Nat, S = (Y : Int) := ⟨S.toNat, by omega⟩
  obtain ⟨M, hM⟩ : ∃ M : Nat, (6 : Int) + (L : Int) = (M : Int) := ⟨6 + L, by omega⟩
  have HG : Hid ((w.alloc (.cells #[.int .i64 (X : Int), .int .i64 (Y : Int), .slice A L K] 24)).heap[w.heap.size]? = some (.cells #[.int .i64 (X : Int), .int .i64 (Y : Int), .slice A L K] 24)) := heap_alloc_last _ _
  have HV := Lib.hid hb
  have HL := Lib.hid hl
  have hsz : (w.alloc (.cells #[.int .i64 (X : Int), .int .i64 (Y : Int), .slice A L K] 24)).heap.size = w.heap.size + 1 := World.size_alloc _ _
  have HBN := Lib.hid HB.out.size
  have HSZ := Lib.hid hsz
  clear hb hl hsz
  go_enter Try.func10, Try.ntmps10
  go_wp2_with (refine wpList_make_cap _ rfl _ _ 22 rfl w.heap.size 5 i0 (.int .u8 0) Try.underlying22 hi hz0 hz1 rfl _ _ _ _ 0 M rfl rfl rfl rfl ?a3 ?a4 ?a5 HBN.out ?_)
  case a4 => omega
  case a5 => unfold maxLen; omega
  intro w3 hown3 hb3
  rw [← HSZ.out] at hb3
  have HO3 : Hid (OwnB w3 w.heap.size 5 (.slice (some ⟨w.heap.size + 1, 0, none⟩) 0 M) []) := hown3
  have HB3 := Lib.hid (HB.out.trans (hb3.mono HBN.out))
  have HG3 := Lib.hid (heap_below HG.out hb3)
  have HB4 := Lib.hid (HB3.out.trans (((Below.refl w3.heap.size w3).alloc (Nat.le_refl _) (.cells #[.int .u8 17] 5)).mono HB3.out.size))
  have HO4 := Lib.hid (HO3.out.below ((Below.refl w3.heap.size w3).alloc (Nat.le_refl _) (.cells #[.int .u8 17] 5)))
  have HG4 := Lib.hid (heap_below HG3.out ((Below.refl w3.heap.size w3).alloc (Nat.le_refl _) (.cells #[.int .u8 17] 5)))
  have HR4 : Hid (Rd (w3.alloc (.cells #[.int .u8 17] 5)) 1 (.slice (some ⟨w3.heap.size, 0, none⟩) 1 1) 1 ([17].map u8v)) := rd_new w3 ([17].map u8v) 5 1 1 rfl (by decide)
  clear hown3 hb3
  go_wp2_with (at_builtin; refine wpList_append_gr _ rfl _ _ 22 rfl w.heap.size 5 i0 (.int .u8 0) 1 1 Try.underlying22 hi hz0 hz1 hz2 rfl (by decide) _ _ _ rfl HO4.out _ _ _ rfl HR4.out (oneCell_u8 _) (by decide) (by decide) HB4.out.size ?_)
  intro v5 w5 hown5 hg5
  have HG5 := Lib.hid (grown_heap HO4.out hg5 HG4.out (by decide))
  have HB5 := Lib.hid (HB4.out.trans (grown_below HO4.out HB4.out.size hg5))
  have HO5 : Hid (OwnB w5 w.heap.size 5 v5 ([] ++ [17])) := OwnB.of_app hown5 rfl rfl
  obtain ⟨k0, k1, k2⟩ := cells3 HG5.out
  have PT := Lib.hid (put_yes X 1 w5 (by decide) (by decide) (by omega))
  clear hown5 hg5
  go_wp2_with fail
  refine PT.out.mono ?_
  rintro e w6 ⟨v6, rfl, hown6, hb6⟩
  have HB6 := Lib.hid (HB5.out.trans (hb6.mono HB5.out.size))
  have HG6 := Lib.hid (heap_below HG5.out hb6)
  have HO6 := Lib.hid (HO5.out.below hb6)
  have HR6 : Hid (Rd w6 1 v6 1 ((putL X 1).map u8v)) := hown6.bs
  clear hown6 hb6 PT k0 k1 k2
  go_wp2_with (at_builtin; refine wpList_append_gr _ rfl _ _ 22 rfl w.heap.size 5 i0 (.int .u8 0) 1 1 Try.underlying22 hi hz0 hz1 hz2 rfl (by decide) _ _ _ rfl HO6.out _ _ _ rfl HR6.out (oneCell_u8 _) (by decide) (by decide) HB6.out.size ?_)
  intro v7 w7 hown7 hg7
  have HG7 := Lib.hid (grown_heap HO6.out hg7 HG6.out (by decide))
  have HB7 := Lib.hid (HB6.out.trans (grown_below HO6.out HB6.out.size hg7))
  have HO7 : Hid (OwnB w7 w.heap.size 5 v7 (([] ++ [17]) ++ putL X 1)) := OwnB.of_app hown7 rfl (putL_length _ _)
  obtain ⟨k0, k1, k2⟩ := cells3 HG7.out
  have PT := Lib.hid (put_yes Y 2 w7 (by decide) (by decide) (by omega))
  clear hown7 hg7
  go_wp2_with fail
  refine PT.out.mono ?_
  rintro e w8 ⟨v8, rfl, hown8, hb8⟩
  have HB8 := Lib.hid (HB7.out.trans (hb8.mono HB7.out.size))
  have HG8 := Lib.hid (heap_below HG7.out hb8)
  have HO8 := Lib.hid (HO7.out.below hb8)
  have HR8 : Hid (Rd w8 1 v8 2 ((putL Y 2).map u8v)) := hown8.bs
  clear hown8 hb8 PT k0 k1 k2
  go_wp2_with (at_builtin; refine wpList_append_gr _ rfl _ _ 22 rfl w.heap.size 5 i0 (.int .u8 0) 1 1 Try.underlying22 hi hz0 hz1 hz2 rfl (by decide) _ _ _ rfl HO8.out _ _ _ rfl HR8.out (oneCell_u8 _) (by simp [putL_length]) (by decide) HB8.out.size ?_)
  intro v9 w9 hown9 hg9
  have HG9 := Lib.hid (grown_heap HO8.out hg9 HG8.out (by decide))
  have HB9 := Lib.hid (HB8.out.trans (grown_below HO8.out HB8.out.size hg9))
  have HO9 : Hid (OwnB w9 w.heap.size 5 v9 ((([] ++ [17]) ++ putL X 1) ++ putL Y 2)) := OwnB.of_app hown9 rfl (putL_length _ _)
  obtain ⟨k0, k1, k2⟩ := cells3 HG9.out
  have PT := Lib.hid (put_yes L 2 w9 (by decide) (by decide) (by omega))
  clear hown9 hg9
  go_wp2_with fail
  refine PT.out.mono ?_
  rintro e wa ⟨va, rfl, howna, hba⟩
  have HBa := Lib.hid (HB9.out.trans (hba.mono HB9.out.size))
  have HGa := Lib.hid (heap_below HG9.out hba)
  have HOa := Lib.hid (HO9.out.below hba)
  have HRa : Hid (Rd wa 1 va 2 ((putL L 2).map u8v)) := howna.bs
  clear howna hba PT k0 k1 k2
  go_wp2_with (at_builtin; refine wpList_append_gr _ rfl _ _ 22 rfl w.heap.size 5 i0 (.int .u8 0) 1 1 Try.underlying22 hi hz0 hz1 hz2 rfl (by decide) _ _ _ rfl HOa.out _ _ _ rfl HRa.out (oneCell_u8 _) (by simp [putL_length]) (by decide) HBa.out.size ?_)
  intro vb wb hownb hgb
  have HGb := Lib.hid (grown_heap HOa.out hgb HGa.out (by decide))
  have HBb := Lib.hid (HBa.out.trans (grown_below HOa.out HBa.out.size hgb))
  have HOb : Hid (OwnB wb w.heap.size 5 vb (((([] ++ [17]) ++ putL X 1) ++ putL Y 2) ++ putL L 2)) := OwnB.of_app hownb rfl (putL_length _ _)
  obtain ⟨k0, k1, k2⟩ := cells3 HGb.out
  have HVb : Hid (Rd wb 1 (.slice A L K) L (l.map u8v)) := by
    have := HV.out.below HBb.out
    unfold Bs at this
    rw [HL.out] at this
    exact this
  clear hownb hgb
  go_wp2_with (at_builtin; refine wpList_append_gr _ rfl _ _ 22 rfl w.heap.size 5 i0 (.int .u8 0) 1 1 Try.underlying22 hi hz0 hz1 hz2 rfl (by decide) _ _ _ rfl HOb.out _ _ _ rfl HVb.out (oneCell_u8 _) ?q1 (by decide) HBb.out.size ?_)
  case q1 => simp [putL_length]; omega
  intro vc wc hownc hgc
  have HBc := Lib.hid (HBb.out.trans (grown_below HOb.out HBb.out.size hgc))
  have HOc : Hid (OwnB wc w.heap.size 5 vc (wireP ⟨X, Y, l⟩)) := by
    have hn : (putL X 1).length + ((putL Y 2).length + (putL L 2).length) + 1 + L = (wireP ⟨X, Y, l⟩).length := by
      rw [wireP_length]; simp only [putL_length, HL.out]; try omega
    show OwnB _ _ _ _ _
    unfold OwnB
    rw [← hn, wire_eq, HL.out]
    simpa using hownc
  clear hownc hgc k0 k1 k2
  go_wp2
  go_ret2
  exact PEncR.some HE.out HOc.out HBc.out
end Go.Proofs.Ytcpeglljcipcbaa
