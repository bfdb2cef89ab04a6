/-
  The laws' example: a rule, three answers, and what is learned.
-/
import Derived.Test.YtbldcjngccmhpaaNgI
import Derived.Test.YtbldcjngccmhpaaNgN
import Derived.Test.YtbldcjngccmhpaaNgU
namespace Go.Proofs.Ytbldcjngccmhpaa.Ng
open Go.RowKit O
set_option linter.unusedVariables false
set_option linter.unusedSimpArgs false
def mruR : Ru := ⟨1, 2, 2, 128, 1492, 1492, false⟩
theorem mru_are : areR [mruR] := by decide +kernel
theorem mru_nak : ans [mruR] [(1, [5, 220])] 0 5 = (3, [(1, [5, 212])]) := by decide +kernel
theorem mru_rej : ans [mruR] [(9, [])] 0 5 = (4, [(9, [])]) := by decide +kernel
theorem mru_ack : ans [mruR] [(1, [5, 212])] 0 5 = (2, [(1, [5, 212])]) := by decide +kernel
theorem mru_lrn : lrn [(1, [5, 220])] 3 [(1, [5, 212])] = ([(1, [5, 212])], true) := by decide +kernel
theorem TR.one {w : World} {t : Int} {A : Option Addr} {L C : Nat} {l : List UInt8} (hb : Bs w (.slice A L C) l) : TR (w.alloc (.cells #[.int .i64 t, .slice A L C] 42)) (.slice (some ⟨w.heap.size, 0, none⟩) 1 1) 1 [⟨t, .slice A L C, l⟩] := by
  refine ⟨rd_new w [.int .i64 t, .slice A L C] 42 1 2 rfl (by decide), fun x hx => ?_⟩
  rw [List.mem_singleton.1 hx]
  exact hb.below ((Below.refl _ _).alloc (Nat.le_refl _) _)
theorem bs220 (w : World) : Bs (w.alloc (.cells #[.int .u8 5, .int .u8 220] 5)) (.slice (some ⟨w.heap.size, 0, none⟩) 2 2) [5, 220] := rd_new w [.int .u8 5, .int .u8 220] 5 2 1 rfl (by decide)

set_option maxRecDepth 20000 in
theorem mru_any (w : World) : Calls Try.prog 34 #[] w fun e w' => e = .returned (.agg #[.int .i64 1, .int .i64 2, .int .i64 2, .int .i64 128, .int .i64 1492, .int .i64 1492, .bool false]) ∧ Below w.heap.size w w' := by
  have HG : Hid ((w.alloc (.cells #[.int .i64 0, .int .i64 0, .int .i64 0, .int .i64 0, .int .i64 0, .int .i64 0, .bool false] 39)).heap[w.heap.size]? = some (.cells #[.int .i64 0, .int .i64 0, .int .i64 0, .int .i64 0, .int .i64 0, .int .i64 0, .bool false] 39 (0, 0))) := heap_alloc_last _ _
  have HB : Hid (Below w.heap.size w (w.alloc (.cells #[.int .i64 0, .int .i64 0, .int .i64 0, .int .i64 0, .int .i64 0, .int .i64 0, .bool false] 39))) := (Below.refl _ _).alloc (Nat.le_refl _) _
  go_enter Try.func34, Try.ntmps34
  go_wp2_with (refine wpList_store_whole rfl 39 (.tmp 0) (.tmp 1) rfl w.heap.size (ruC mruR) rfl rfl 39 (ruC ruZ) HG.out sizeR rfl (ruC_one mruR) ?_)
  intro w4 h4 ho4
  have H4 := Lib.hid h4
  have HB4 : Hid (Below w.heap.size w w4) := ho4.below _ _ (Nat.le_refl _) HB.out
  clear h4 ho4
  go_wp2
  refine bodyPost_ret (v := .agg #[.int .i64 1, .int .i64 2, .int .i64 2, .int .i64 128, .int .i64 1492, .int .i64 1492, .bool false]) (results_cell_row (P := Try.prog) (fn := Try.f34) rfl _ _ w.heap.size 39 _ (0, 0) _ rfl H4.out Try.underlying39 rfl (by kernel_rfl)) rfl ?_
  exact ⟨rfl, HB4.out⟩
theorem small_one {l : List UInt8} {t : Tg} (h : plain [t] = [(1, l)]) : t.typ = 1 ∧ t.l = l := by
  have := List.head_eq_of_cons_eq h
  exact ⟨congrArg Prod.fst this, congrArg Prod.snd this⟩

set_option maxRecDepth 20000 in
set_option maxHeartbeats 4000000 in
theorem awake_any (w : World) : Calls Try.prog 16 #[] w fun e w' => e = .returned (.bool true) ∧ Below w.heap.size w w' := by
  have MU := Lib.hid (mru_any w)
  go_enter Try.func16, Try.ntmps16
  go_wp2_with fail
  refine MU.out.mono ?_
  rintro e w1 ⟨rfl, hb1⟩
  have HB1 := Lib.hid hb1
  have hal : Gr w1 (((w1.alloc (.cells #[.int .i64 1, .int .i64 2, .int .i64 2, .int .i64 128, .int .i64 1492, .int .i64 1492, .bool false] 39)).alloc (.cells #[.int .u8 5, .int .u8 220] 5)).alloc (.cells #[.int .i64 1, .slice (some ⟨w1.heap.size + 1, 0, none⟩) 2 2] 42)) := (((Gr.refl _).alloc _).alloc _).alloc _
  have HB3 := Lib.hid (hb1.trans (Below.mono hal hb1.size))
  have hrr : RR (((w1.alloc (.cells #[.int .i64 1, .int .i64 2, .int .i64 2, .int .i64 128, .int .i64 1492, .int .i64 1492, .bool false] 39)).alloc (.cells #[.int .u8 5, .int .u8 220] 5)).alloc (.cells #[.int .i64 1, .slice (some ⟨w1.heap.size + 1, 0, none⟩) 2 2] 42)) (.slice (some ⟨w1.heap.size, 0, none⟩) 1 1) 1 [mruR] := by
    have h : RR (w1.alloc (.cells #[.int .i64 1, .int .i64 2, .int .i64 2, .int .i64 128, .int .i64 1492, .int .i64 1492, .bool false] 39)) (.slice (some ⟨w1.heap.size, 0, none⟩) 1 1) 1 [mruR] := rd_new w1 (ruC mruR) 39 1 7 rfl (by decide)
    exact h.below (((Gr.refl _).alloc _).alloc _)
  have htr : TR (((w1.alloc (.cells #[.int .i64 1, .int .i64 2, .int .i64 2, .int .i64 128, .int .i64 1492, .int .i64 1492, .bool false] 39)).alloc (.cells #[.int .u8 5, .int .u8 220] 5)).alloc (.cells #[.int .i64 1, .slice (some ⟨w1.heap.size + 1, 0, none⟩) 2 2] 42)) (.slice (some ⟨w1.heap.size + 2, 0, none⟩) 1 1) 1 [⟨1, .slice (some ⟨w1.heap.size + 1, 0, none⟩) 2 2, [5, 220]⟩] := by
    have h := bs220 (w1.alloc (.cells #[.int .i64 1, .int .i64 2, .int .i64 2, .int .i64 128, .int .i64 1492, .int .i64 1492, .bool false] 39))
    rw [World.size_alloc] at h
    have h2 := TR.one (t := 1) h
    rw [World.size_alloc, World.size_alloc] at h2
    exact h2
  have HRR := Lib.hid hrr
  have HTR := Lib.hid htr
  have A1 := Lib.hid (answer_any _ 1 1 [mruR] _ 1 1 _ 0 5 (((w1.alloc (.cells #[.int .i64 1, .int .i64 2, .int .i64 2, .int .i64 128, .int .i64 1492, .int .i64 1492, .bool false] 39)).alloc (.cells #[.int .u8 5, .int .u8 220] 5)).alloc (.cells #[.int .i64 1, .slice (some ⟨w1.heap.size + 1, 0, none⟩) 2 2] 42)) hrr htr (by decide) (by intro x hx; rw [List.mem_singleton.1 hx]; exact (by decide : ([5, 220] : List UInt8).length ≤ 1000)))
  rw [show plain [(⟨1, .slice (some ⟨w1.heap.size + 1, 0, none⟩) 2 2, [5, 220]⟩ : Tg)] = [(1, [5, 220])] from rfl, mru_nak] at A1
  clear hb1 hal hrr htr MU
  go_wp2_with fail
  generalize (((w1.alloc (.cells #[.int .i64 1, .int .i64 2, .int .i64 2, .int .i64 128, .int .i64 1492, .int .i64 1492, .bool false] 39)).alloc (.cells #[.int .u8 5, .int .u8 220] 5)).alloc (.cells #[.int .i64 1, .slice (some ⟨w1.heap.size + 1, 0, none⟩) 2 2] 42)) = w3 at HB3 HRR HTR A1 ⊢
  refine A1.out.mono ?_
  rintro e w4 ⟨v4, us4, rfl, hp4, hto4, hb4⟩
  have hlen4 : us4.length = 1 := by have := congrArg List.length hp4; rw [plain_length] at this; exact this
  obtain ⟨t4, rfl⟩ := List.length_eq_one_iff.1 hlen4
  obtain ⟨a4, c4, ev, _, _⟩ := hto4.tr.shape
  subst ev
  have HP4 : Hid (plain [t4] = [(1, [5, 212])]) := hp4
  have HT4 := Lib.hid (show TR w4 (.slice a4 1 c4) 1 [t4] from hto4.tr)
  have HB4 := Lib.hid (HB3.out.trans (hb4.mono HB3.out.size))
  have HRR4 := Lib.hid (HRR.out.below hb4)
  have hal : Gr w4 (w4.alloc (.cells #[.int .i64 9, .slice none 0 0] 42)) := (Gr.refl _).alloc _
  have h9 := TR.one (t := 9) (Bs.nil w4)
  have A2 := Lib.hid (answer_any _ 1 1 [mruR] _ 1 1 _ 0 5 _ (HRR4.out.below hal) h9 (by decide) (by intro x hx; rw [List.mem_singleton.1 hx]; exact (by decide : ([] : List UInt8).length ≤ 1000)))
  rw [show plain [(⟨9, .slice none 0 0, []⟩ : Tg)] = [(9, [])] from rfl, mru_rej] at A2
  have HT5 := Lib.hid (HT4.out.below hal)
  have HRR5 := Lib.hid (HRR4.out.below hal)
  have HB5 := Lib.hid (HB4.out.trans (Below.mono hal HB4.out.size))
  clear hp4 hto4 hb4 hlen4 hal h9 A1 HT4 HRR4 HB4 HTR HRR HB3
  go_wp2_with fail
  generalize w4.alloc (.cells #[.int .i64 9, .slice none 0 0] 42) = w4b at A2 HT5 HRR5 HB5 ⊢
  refine A2.out.mono ?_
  rintro e w5 ⟨v5, us5, rfl, hp5, hto5, hb5⟩
  have hlen5 : us5.length = 1 := by have := congrArg List.length hp5; rw [plain_length] at this; exact this
  obtain ⟨t5, rfl⟩ := List.length_eq_one_iff.1 hlen5
  obtain ⟨a5, c5, ev, _, _⟩ := hto5.tr.shape
  subst ev
  have HB6 := Lib.hid (HB5.out.trans (hb5.mono HB5.out.size))
  have HT6 := Lib.hid (HT5.out.below hb5)
  have HRR6 := Lib.hid (HRR5.out.below hb5)
  have hsm4 : ∀ x ∈ [t4], x.l.length ≤ 1000 := by
    intro x hx
    rw [List.mem_singleton.1 hx, (small_one HP4.out).2]; decide
  have HSM4 := Lib.hid hsm4
  have A3 := Lib.hid (answer_any _ 1 1 [mruR] a4 1 c4 _ 0 5 _ HRR6.out HT6.out (by decide) hsm4)
  rw [HP4.out, mru_ack] at A3
  clear hp5 hto5 hb5 hlen5 hsm4 A2 HT5 HRR5 HB5
  go_wp2_with fail
  refine A3.out.mono ?_
  rintro e w5 ⟨v7, us7, rfl, hp7, hto7, hb7⟩
  have hlen7 : us7.length = 1 := by have := congrArg List.length hp7; rw [plain_length] at this; exact this
  obtain ⟨t7, rfl⟩ := List.length_eq_one_iff.1 hlen7
  obtain ⟨a7, c7, ev, _, _⟩ := hto7.tr.shape
  subst ev
  have HB7 := Lib.hid (HB6.out.trans (hb7.mono HB6.out.size))
  have HT7 := Lib.hid (HT6.out.below hb7)
  have HRR7 := Lib.hid (HRR6.out.below hb7)
  have hal : Gr w5 ((w5.alloc (.cells #[.int .u8 5, .int .u8 220] 5)).alloc (.cells #[.int .i64 1, .slice (some ⟨w5.heap.size, 0, none⟩) 2 2] 42)) := ((Gr.refl _).alloc _).alloc _
  have h10 := TR.one (t := 1) (bs220 w5)
  rw [World.size_alloc] at h10
  have hit : ∀ x ∈ [t4], I64 x.typ := by
    intro x hx
    rw [List.mem_singleton.1 hx, (small_one HP4.out).1]; exact ⟨by decide, by decide⟩
  have LE := Lib.hid (learn_any _ 1 1 _ 3 a4 1 c4 [t4] ((w5.alloc (.cells #[.int .u8 5, .int .u8 220] 5)).alloc (.cells #[.int .i64 1, .slice (some ⟨w5.heap.size, 0, none⟩) 2 2] 42)) h10 (HT7.out.below hal) (by decide) (by decide) (by intro x hx; rw [List.mem_singleton.1 hx]; exact (by decide : ([5, 220] : List UInt8).length ≤ 1000)) HSM4.out (by intro x hx; rw [List.mem_singleton.1 hx]; exact ⟨by show (-9223372036854775808 : Int) ≤ 1; decide, by show (1 : Int) ≤ 9223372036854775807; decide⟩) hit)
  rw [show plain [(⟨1, .slice (some ⟨w5.heap.size, 0, none⟩) 2 2, [5, 220]⟩ : Tg)] = [(1, [5, 220])] from rfl, HP4.out, mru_lrn] at LE
  have HT8 := Lib.hid (HT7.out.below hal)
  have HRR8 := Lib.hid (HRR7.out.below hal)
  have HB8 := Lib.hid (HB7.out.trans (Below.mono hal HB7.out.size))
  clear hp7 hto7 hb7 hlen7 hal h10 hit A3 HT6 HRR6 HB6 HT7 HRR7 HB7
  go_wp2_with fail
  generalize ((w5.alloc (.cells #[.int .u8 5, .int .u8 220] 5)).alloc (.cells #[.int .i64 1, .slice (some ⟨w5.heap.size, 0, none⟩) 2 2] 42)) = w6 at LE HT8 HRR8 HB8 ⊢
  refine LE.out.mono ?_
  rintro e w9 ⟨v9, us9, rfl, hp9, hto9, hb9⟩
  have hlen9 : us9.length = 1 := by have := congrArg List.length hp9; rw [plain_length] at this; exact this
  obtain ⟨t9, rfl⟩ := List.length_eq_one_iff.1 hlen9
  obtain ⟨a9, c9, ev, _, _⟩ := hto9.tr.shape
  subst ev
  have HT9 := Lib.hid (HT8.out.below hb9)
  have HRR9 := Lib.hid (HRR8.out.below hb9)
  have HB9 := Lib.hid (HB8.out.trans (hb9.mono HB8.out.size))
  have HP9 : Hid (plain [t9] = [(1, [5, 212])]) := hp9
  have SM := Lib.hid (rsame_any a9 a4 1 1 c9 c4 [t9] [t4] w9 (show TR w9 (.slice a9 1 c9) 1 [t9] from hto9.tr) HT9.out)
  rw [HP9.out, HP4.out, decide_eq_true rfl] at SM
  have hbs := (HT9.out.vals t4 (by simp))
  rw [(small_one HP4.out).2] at hbs
  obtain ⟨A, L, C, ev, hL, _, _⟩ := hbs.sl
  rw [ev] at hbs
  obtain ⟨b, o, ea, _, hcel⟩ := HT9.out.cells (by decide)
  subst ea
  obtain ⟨q0, q1⟩ := hcel 0 (by simp)
  simp only [Nat.zero_mul, Nat.add_zero, List.getElem_cons_zero] at q0 q1
  rw [ev] at q1
  have s1 := run_string_of (P := Try.prog) 40 9 5 Try.underlying40 Try.underlying5 Try.underlying9 hbs
  clear hp9 hto9 hb9 hlen9 LE HT8 HRR8 HB8 hL hcel ev hbs
  go_wp2_with fail
  refine SM.out.mono ?_
  rintro e w10 ⟨rfl, hb10⟩
  have HB10 := Lib.hid (HB9.out.trans (hb10.mono HB9.out.size))
  have CK := Lib.hid (check_any _ 1 1 [mruR] w10 (HRR9.out.below hb10))
  rw [if_pos mru_are] at CK
  clear hb10 q0 q1 s1
  go_wp2_with fail
  refine CK.out.mono ?_
  rintro e w11 ⟨rfl, hb11⟩
  have HB11 := Lib.hid (HB10.out.trans (hb11.mono HB10.out.size))
  clear hb11
  go_wp2
  go_ret
  exact ⟨rfl, HB11.out⟩
end Go.Proofs.Ytbldcjngccmhpaa.Ng
