/-
  The document's 'with': a rising row with one more.
-/
import Derived.Test.YtoemghinolekgaaDoorPlJ
namespace Go.Proofs.YtoemghinolekgaaDoor.Pl
open Go.RowKit
open Go.Proofs.YtoemghinolekgaaDoor.Id (Tr Tr.refl Tr.gr Tr.only blk own_blk IR IR.cells IR.shape IR.nil)
set_option linter.unusedVariables false
set_option linter.unusedSimpArgs false

/-- What is out, behind so many. -/
def outL (n : Int) (d : Bool) (a : List Int) : List Int := if d = true then Id.put n a else a
structure WI (n : Int) (l : List Int) (w : World) (i k : Nat) (A : Option Addr) (C : Nat) (d : Bool) (wr : World) : Prop where
  len : k = (outL n d (l.take i)).length
  own : wr.ownsRow w.heap.size 3 1 (.slice A k C) k (ints (outL n d (l.take i)))
  yes : d = true → ∃ y ∈ l.take i, ¬ y < n
  no : d = false → ∀ y ∈ l.take i, y < n
  low : Below w.heap.size w wr
theorem put_length (n : Int) : ∀ l : List Int, (Id.put n l).length = l.length + 1
  | [] => rfl
  | y :: l => by unfold Id.put; split <;> simp [put_length n l]
theorem outL_le (n : Int) (d : Bool) (a : List Int) : (outL n d a).length ≤ a.length + 1 := by
  unfold outL; split
  · rw [put_length]; omega
  · omega
theorem ints_snoc (l : List Int) (x : Int) : ints (l ++ [x]) = ints l ++ [.int .i64 x] := by simp [ints]
set_option maxRecDepth 20000 in
set_option maxHeartbeats 4000000 in
theorem with_any (n : Int) {v : Value} {l : List Int} (w : World) (h : IR w v l) (hb : l.length ≤ 65536) (hn : n ∉ l) :
    Calls Tryd.prog 37 #[v, .int .i64 n] w fun e w' => ∃ v', e = .returned v' ∧ w'.ownsRow w.heap.size 3 1 v' (Id.put n l).length (ints (Id.put n l)) ∧ Below w.heap.size w w' := by
  obtain ⟨i0, hi, hz0, hz1, hz2⟩ := info_parts infoI
  obtain ⟨a, c, rfl, hc1, hc2⟩ := h.shape
  have HI := Lib.hid h
  obtain ⟨m, hm⟩ : ∃ m, m = l.length := ⟨_, rfl⟩
  have HN := Lib.hid hm
  have HNL := Lib.hid hn
  rw [← hm] at HI hc1 hb ⊢
  have HONEN := Lib.hid (one_int n)
  clear h hc2 hm hn
  go_enter Tryd.func37, Tryd.ntmps37
  go_wp2_with fail
  go_loopw [5, 6, 7] (fun ov dv iv wr => ∃ (i k : Nat) (A : Option Addr) (C : Nat) (d : Bool), i ≤ m ∧ iv = .int .i64 (i : Int) ∧ dv = .bool d ∧ ov = .slice A k C ∧ Hid (WI n l w i k A C d wr)) (fun _ _ iv _ => m - (intOf iv).toNat)
  case atStart => exact ⟨0, 0, none, 0, false, Nat.zero_le _, rfl, rfl, rfl, ⟨rfl, World.ownsRow_nil _ _ _ _, (fun h => by cases h), (fun _ y hy => by cases hy), Below.refl _ _⟩⟩
  case round =>
    obtain ⟨i, k, A, C, d, hin, rfl, rfl, rfl, HW⟩ := hrel
    have HKI : Hid (k ≤ 65537) := by
      show _ ≤ _
      have h1 := HW.out.len
      have h2 := outL_le n d (l.take i)
      rw [List.length_take] at h2
      omega
    by_cases hlt : i < m
    · have hil : i < l.length := by rw [← HN.out]; exact hlt
      obtain ⟨b, o, ea, hcel⟩ := IR.at HI.out HN.out (by omega)
      subst ea
      have hc0 := hcel i hil
      have htk : l.take (i + 1) = l.take i ++ [l[i]] := by rw [List.take_add_one, List.getElem?_eq_getElem hil]; rfl
      have hxn : l[i] ≠ n := fun e => HNL.out (e ▸ List.getElem_mem hil)
      obtain ⟨x, hx⟩ : ∃ x, x = l[i] := ⟨_, rfl⟩
      rw [← hx] at hc0 htk hxn
      have HTK := Lib.hid htk
      have HC0 := Lib.hid hc0
      have hle : i + 1 ≤ m := by omega
      have HONE := Lib.hid (one_int x)
      have hc := cell_gr HW.out.low hc0
      clear hcel hx htk hc0
      -- 'out' with x behind it
      cases d with
      | true =>
        have HOA : Hid ((wr.alloc (.cells #[.int .i64 x] 3)).ownsRow w.heap.size 3 1 (.slice A k C) k (ints (outL n true (l.take i)))) := HW.out.own.alloc _
        have HRD : Hid (Rd (wr.alloc (.cells #[.int .i64 x] 3)) 1 (.slice (some ⟨wr.heap.size, 0, none⟩) 1 1) 1 [.int .i64 x]) := rd_new wr [.int .i64 x] 3 1 1 rfl (by unfold maxLen; omega)
        have HBY : Hid ((k + 1) * 8 ≤ 140737488355328) := by show _ ≤ _; have := HKI.out; omega
        have HBB : Hid (Below w.heap.size w (wr.alloc (.cells #[.int .i64 x] 3))) := HW.out.low.alloc HW.out.low.size _
        clear hxn
        go_wp2_with (at_builtin; refine wpList_append_gr _ rfl (.tmp 28) (.tmp 33) 22 rfl w.heap.size 3 i0 (.int .i64 0) 1 8 Tryd.underlying22 hi hz0 hz1 hz2 rfl (by decide) _ k _ rfl HOA.out _ 1 [.int .i64 x] rfl HRD.out HONE.out HBY.out (by decide) HBB.out.size ?_)
        intro v' w1 ho hg
        have HB1 : Hid (Below w.heap.size w w1) := HBB.out.grown hg HBB.out.size (fun q hq => (HOA.out.lt q hq).1)
        obtain ⟨A2, C2, rfl, _, _⟩ := (own_rd ho).shape
        have HW2 : Hid (WI n l w (i + 1) (k + 1) A2 C2 true w1) := by
          have e : outL n true (l.take (i + 1)) = outL n true (l.take i) ++ [x] := by
            show Id.put n _ = Id.put n _ ++ _
            rw [HTK.out]
            exact put_done (HW.out.yes rfl)
          refine ⟨by rw [e, List.length_append, ← HW.out.len]; rfl, by rw [e, ints_snoc]; exact ho, fun _ => ?_, (fun h => by cases h), HB1.out⟩
          obtain ⟨y, hy, hyn⟩ := HW.out.yes rfl
          exact ⟨y, by rw [HTK.out]; exact List.mem_append_left _ hy, hyn⟩
        clear ho hg HOA HRD HBB HB1 HW hc
        go_wp2_with fail
        go_roundw
        case rel =>
          first
            | exact ⟨i + 1, k + 1, A2, C2, true, hle, by go_num, rfl, rfl, HW2⟩
            | ((repeat apply Exists.intro); exact ⟨⟨i + 1, k + 1, A2, C2, true, hle, by go_num, rfl, rfl, HW2⟩, rfl⟩)
        case measure => simp [intOf]; omega
      | false =>
        by_cases hgt : n < x
        · -- n comes first
          have HOA : Hid ((wr.alloc (.cells #[.int .i64 n] 3)).ownsRow w.heap.size 3 1 (.slice A k C) k (ints (outL n false (l.take i)))) := HW.out.own.alloc _
          have HRD : Hid (Rd (wr.alloc (.cells #[.int .i64 n] 3)) 1 (.slice (some ⟨wr.heap.size, 0, none⟩) 1 1) 1 [.int .i64 n]) := rd_new wr [.int .i64 n] 3 1 1 rfl (by unfold maxLen; omega)
          have HBY : Hid ((k + 1) * 8 ≤ 140737488355328) := by show _ ≤ _; have := HKI.out; omega
          have HBB : Hid (Below w.heap.size w (wr.alloc (.cells #[.int .i64 n] 3))) := HW.out.low.alloc HW.out.low.size _
          clear hxn
          go_wp2_with (at_builtin; refine wpList_append_gr _ rfl (.tmp 24) (.tmp 26) 22 rfl w.heap.size 3 i0 (.int .i64 0) 1 8 Tryd.underlying22 hi hz0 hz1 hz2 rfl (by decide) _ k _ rfl HOA.out _ 1 [.int .i64 n] rfl HRD.out HONEN.out HBY.out (by decide) HBB.out.size ?_)
          intro v' w1 ho hg
          have HB1 : Hid (Below w.heap.size w w1) := HBB.out.grown hg HBB.out.size (fun q hq => (HOA.out.lt q hq).1)
          obtain ⟨A1, C1, rfl, _, _⟩ := (own_rd ho).shape
          have HOB : Hid ((w1.alloc (.cells #[.int .i64 x] 3)).ownsRow w.heap.size 3 1 (.slice A1 (k + 1) C1) (k + 1) (ints (outL n false (l.take i) ++ [n]))) := by
            show World.ownsRow _ _ _ _ _ _ _
            rw [ints_snoc]
            exact ho.alloc _
          have HRD2 : Hid (Rd (w1.alloc (.cells #[.int .i64 x] 3)) 1 (.slice (some ⟨w1.heap.size, 0, none⟩) 1 1) 1 [.int .i64 x]) := rd_new w1 [.int .i64 x] 3 1 1 rfl (by unfold maxLen; omega)
          have HBY2 : Hid ((k + 1 + 1) * 8 ≤ 140737488355328) := by show _ ≤ _; have := HKI.out; omega
          have HBB2 : Hid (Below w.heap.size w (w1.alloc (.cells #[.int .i64 x] 3))) := HB1.out.alloc HB1.out.size _
          have hc := cell_gr HB1.out HC0.out
          clear ho hg HOA HRD HBB HBY
          go_wp2_with (at_builtin; refine wpList_append_gr _ rfl (.tmp 28) (.tmp 33) 22 rfl w.heap.size 3 i0 (.int .i64 0) 1 8 Tryd.underlying22 hi hz0 hz1 hz2 rfl (by decide) _ (k + 1) _ rfl HOB.out _ 1 [.int .i64 x] rfl HRD2.out HONE.out HBY2.out (by decide) HBB2.out.size ?_)
          intro v' w2 ho hg
          have HB2 : Hid (Below w.heap.size w w2) := HBB2.out.grown hg HBB2.out.size (fun q hq => (HOB.out.lt q hq).1)
          obtain ⟨A2, C2, rfl, _, _⟩ := (own_rd ho).shape
          have HW2 : Hid (WI n l w (i + 1) (k + 1 + 1) A2 C2 true w2) := by
            have e : outL n true (l.take (i + 1)) = outL n false (l.take i) ++ [n] ++ [x] := by
              show Id.put n _ = l.take i ++ [n] ++ [x]
              rw [HTK.out, put_all (HW.out.no rfl), List.append_assoc]
              congr 1
              unfold Id.put
              rw [if_neg (by omega)]
              rfl
            refine ⟨by rw [e, List.length_append, List.length_append, ← HW.out.len]; rfl, by rw [e, ints_snoc]; exact ho, fun _ => ⟨x, by rw [HTK.out]; simp, by omega⟩, (fun h => by cases h), HB2.out⟩
          clear ho hg HOB HRD2 HBB2 HB1 HB2 HW hc
          go_wp2_with fail
          go_roundw
          case rel =>
            first
              | exact ⟨i + 1, k + 1 + 1, A2, C2, true, hle, by go_num, rfl, rfl, HW2⟩
              | ((repeat apply Exists.intro); exact ⟨⟨i + 1, k + 1 + 1, A2, C2, true, hle, by go_num, rfl, rfl, HW2⟩, rfl⟩)
          case measure => simp [intOf]; omega
        · have HLT : Hid (x < n) := by show _ < _; omega
          have HOA : Hid ((wr.alloc (.cells #[.int .i64 x] 3)).ownsRow w.heap.size 3 1 (.slice A k C) k (ints (outL n false (l.take i)))) := HW.out.own.alloc _
          have HRD : Hid (Rd (wr.alloc (.cells #[.int .i64 x] 3)) 1 (.slice (some ⟨wr.heap.size, 0, none⟩) 1 1) 1 [.int .i64 x]) := rd_new wr [.int .i64 x] 3 1 1 rfl (by unfold maxLen; omega)
          have HBY : Hid ((k + 1) * 8 ≤ 140737488355328) := by show _ ≤ _; have := HKI.out; omega
          have HBB : Hid (Below w.heap.size w (wr.alloc (.cells #[.int .i64 x] 3))) := HW.out.low.alloc HW.out.low.size _
          clear hxn
          go_wp2_with (at_builtin; refine wpList_append_gr _ rfl (.tmp 28) (.tmp 33) 22 rfl w.heap.size 3 i0 (.int .i64 0) 1 8 Tryd.underlying22 hi hz0 hz1 hz2 rfl (by decide) _ k _ rfl HOA.out _ 1 [.int .i64 x] rfl HRD.out HONE.out HBY.out (by decide) HBB.out.size ?_)
          intro v' w1 ho hg
          have HB1 : Hid (Below w.heap.size w w1) := HBB.out.grown hg HBB.out.size (fun q hq => (HOA.out.lt q hq).1)
          obtain ⟨A2, C2, rfl, _, _⟩ := (own_rd ho).shape
          have HW2 : Hid (WI n l w (i + 1) (k + 1) A2 C2 false w1) := by
            have e : outL n false (l.take (i + 1)) = outL n false (l.take i) ++ [x] := HTK.out
            refine ⟨by rw [e, List.length_append, ← HW.out.len]; rfl, by rw [e, ints_snoc]; exact ho, (fun h => by cases h), fun _ y hy => ?_, HB1.out⟩
            rw [HTK.out] at hy
            rcases List.mem_append.1 hy with hy | hy
            · exact HW.out.no rfl y hy
            · obtain rfl := List.mem_singleton.1 hy; exact HLT.out
          clear ho hg HOA HRD HBB HB1 HW hc
          go_wp2_with fail
          go_roundw
          case rel =>
            first
              | exact ⟨i + 1, k + 1, A2, C2, false, hle, by go_num, rfl, rfl, HW2⟩
              | ((repeat apply Exists.intro); exact ⟨⟨i + 1, k + 1, A2, C2, false, hle, by go_num, rfl, rfl, HW2⟩, rfl⟩)
          case measure => simp [intOf]; omega
    · have HT : Hid (l.take i = l) := by show _ = _; rw [List.take_of_length_le]; have := HN.out; omega
      cases d with
      | true =>
        go_wp2_with fail
        go_ret
        have hl := HW.out.len
        have ho := HW.out.own
        rw [HT.out] at hl ho
        refine ⟨_, rfl, ?_, HW.out.low⟩
        show World.ownsRow _ _ _ _ _ (outL n true l).length (ints (outL n true l))
        rw [← hl]
        exact ho
      | false =>
        have HOA : Hid ((wr.alloc (.cells #[.int .i64 n] 3)).ownsRow w.heap.size 3 1 (.slice A k C) k (ints (outL n false (l.take i)))) := HW.out.own.alloc _
        have HRD : Hid (Rd (wr.alloc (.cells #[.int .i64 n] 3)) 1 (.slice (some ⟨wr.heap.size, 0, none⟩) 1 1) 1 [.int .i64 n]) := rd_new wr [.int .i64 n] 3 1 1 rfl (by unfold maxLen; omega)
        have HBY : Hid ((k + 1) * 8 ≤ 140737488355328) := by show _ ≤ _; have := HKI.out; omega
        have HBB : Hid (Below w.heap.size w (wr.alloc (.cells #[.int .i64 n] 3))) := HW.out.low.alloc HW.out.low.size _
        go_wp2_with (at_builtin; refine wpList_append_gr _ rfl (.tmp 37) (.tmp 39) 22 rfl w.heap.size 3 i0 (.int .i64 0) 1 8 Tryd.underlying22 hi hz0 hz1 hz2 rfl (by decide) _ k _ rfl HOA.out _ 1 [.int .i64 n] rfl HRD.out HONEN.out HBY.out (by decide) HBB.out.size ?_)
        intro v' w1 ho hg
        have HB1 : Hid (Below w.heap.size w w1) := HBB.out.grown hg HBB.out.size (fun q hq => (HOA.out.lt q hq).1)
        obtain ⟨A2, C2, rfl, _, _⟩ := (own_rd ho).shape
        have HO := Lib.hid ho
        clear ho hg
        go_wp2_with fail
        go_ret
        have hl := HW.out.len
        have ho := HO.out
        have hno := HW.out.no rfl
        rw [HT.out] at hl ho hno
        have e : Id.put n l = l ++ [n] := by
          have := put_all (b := []) hno
          rw [List.append_nil] at this
          exact this
        refine ⟨_, rfl, ?_, HB1.out⟩
        rw [e, ints_snoc, List.length_append]
        have hl2 : k = l.length := hl
        rw [← hl2]
        exact ho
end Go.Proofs.YtoemghinolekgaaDoor.Pl
