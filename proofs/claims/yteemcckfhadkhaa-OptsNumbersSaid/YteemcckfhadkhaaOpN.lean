/-
  The laws' example: an option that is made, there and back, and its number.
-/
import Derived.Test.YteemcckfhadkhaaOpC
import Derived.Test.YteemcckfhadkhaaOpF
import Derived.Test.YteemcckfhadkhaaOpI
namespace Go.Proofs.Yteemcckfhadkhaa.O
open Go.RowKit
set_option linter.unusedVariables false
set_option linter.unusedSimpArgs false

/-- A row of one option. -/
theorem TR.one {w : World} {t : Int} {A : Option Addr} {L C : Nat} {l : List UInt8} (hb : Bs w (.slice A L C) l) : TR (w.alloc (.cells #[.int .i64 t, .slice A L C] 36)) (.slice (some ⟨w.heap.size, 0, none⟩) 1 1) 1 [⟨t, .slice A L C, l⟩] := by
  refine ⟨rd_new w [.int .i64 t, .slice A L C] 36 1 2 rfl (by decide), fun x hx => ?_⟩
  rw [List.mem_singleton.1 hx]
  exact hb.below ((Below.refl _ _).alloc (Nat.le_refl _) _)
def bytesMRU : List UInt8 := [5, 212]
def optMRU : PT := (1, bytesMRU)
theorem putMRU : putL (1492 : Int).toNat (2 : Int).toNat = bytesMRU := by decide +kernel
theorem okMRU : makOk 1 2 1492 := by decide +kernel
theorem encMRU : encE [optMRU] = 0 := by decide +kernel
theorem wireMRU : wireT [optMRU] = [1, 4, 5, 212] := by decide +kernel
theorem decMRU : dec [1, 4, 5, 212] = ([optMRU], 0) := by
  have := dec_wire encMRU
  rwa [wireMRU] at this
theorem numMRU : numN bytesMRU = 1492 := by decide +kernel
theorem numOkMRU : numOk bytesMRU = true := by decide +kernel

set_option maxRecDepth 20000 in
set_option maxHeartbeats 4000000 in
theorem awake_any (w : World) : Calls Try.prog 17 #[] w fun e w' => e = .returned (.bool true) ∧ Below w.heap.size w w' := by
  have MK := Lib.hid (make_any 1 2 1492 w)
  go_enter Try.func17, Try.ntmps17
  go_wp2_with fail
  refine MK.out.mono ?_
  rintro e w1 (⟨_, v1, rfl, hown1, hb1⟩ | ⟨hno, _⟩)
  · rw [putMRU] at hown1
    obtain ⟨A1, L1, C1, ev, hL1, _, _⟩ := hown1.bs.sl
    obtain rfl : L1 = 2 := hL1.symm
    subst ev
    have HV1 := Lib.hid hown1.bs
    have HB1 := Lib.hid hb1
    have HGB : Hid ((w1.alloc (.cells #[.int .i64 1, .slice A1 2 C1] 36)).heap[w1.heap.size]? = some (.cells #[.int .i64 1, .slice A1 2 C1] 36)) := heap_alloc_last _ _
    have hal : Gr w1 (w1.alloc (.cells #[.int .i64 1, .slice A1 2 C1] 36)) := (Gr.refl w1).alloc _
    have ht := TR.one (t := 1) (HV1.out.below hal)
    rw [World.size_alloc] at ht
    have HT := Lib.hid ht
    have HBB := Lib.hid (HB1.out.trans (Below.mono (hal.alloc (.cells #[.int .i64 1, .slice A1 2 C1] 36)) HB1.out.size))
    have HG2 := Lib.hid (heap_gr ((Gr.refl (w1.alloc (.cells #[.int .i64 1, .slice A1 2 C1] 36))).alloc (.cells #[.int .i64 1, .slice A1 2 C1] 36)) HGB.out)
    have HV2 := Lib.hid (HV1.out.below (hal.alloc (.cells #[.int .i64 1, .slice A1 2 C1] 36)))
    clear hown1 hb1 hL1 hal ht
    go_wp2_with fail
    generalize ((w1.alloc (.cells #[.int .i64 1, .slice A1 2 C1] 36)).alloc (.cells #[.int .i64 1, .slice A1 2 C1] 36)) = w2 at HT HBB HG2 HV2 ⊢
    refine (encode_any _ 1 1 _ w2 HT.out (by decide) (by intro x hx; rw [List.mem_singleton.1 hx]; exact (by decide : bytesMRU.length ≤ 1000000))).mono ?_
    rintro e w3 ⟨v3, rfl, hown3, hb3⟩
    have e1 : plain [(⟨1, .slice A1 2 C1, bytesMRU⟩ : Tg)] = [optMRU] := rfl
    rw [e1, encB_yes encMRU, wireMRU] at hown3
    rw [e1, encMRU]
    have HB3 := Lib.hid (HBB.out.trans (hb3.mono HBB.out.size))
    obtain ⟨A3, L3, C3, ev, hL3, _, _⟩ := hown3.bs.sl
    obtain rfl : L3 = 4 := hL3.symm
    subst ev
    have HV3 := Lib.hid hown3.bs
    have HG3 := Lib.hid (heap_below HG2.out hb3)
    have HN3 := Lib.hid (HV2.out.below hb3)
    have DC := Lib.hid (decode_any A3 4 C3 _ rfl w3 HV3.out (by decide))
    clear hown3 hb3 hL3 e1
    go_wp2_with fail
    refine DC.out.mono ?_
    rintro e w4 ⟨v4, rfl, ⟨ts, hts, hto⟩, hb4⟩
    rw [decMRU] at hts
    rw [decMRU]
    have hlen : ts.length = 1 := by have := congrArg List.length hts; rw [plain_length] at this; exact this
    have htr := hto.tr
    rw [hlen] at htr
    obtain ⟨A4, C4, ev, _, _⟩ := htr.shape
    subst ev
    have HB4 := Lib.hid (HB3.out.trans (hb4.mono HB3.out.size))
    have HG4 := Lib.hid (heap_below HG3.out hb4)
    have HV4 := Lib.hid (HV3.out.below hb4)
    have HN4 := Lib.hid (HN3.out.below hb4)
    have NU := Lib.hid (number_any 1 A1 2 C1 bytesMRU rfl w4 HN4.out (by decide))
    obtain ⟨k0, k1⟩ := copy_cells HG4.out
    clear hts hto hb4 hlen htr
    go_wp2_with fail
    refine NU.out.mono ?_
    rintro e w5 ⟨rfl, hb5⟩
    rw [numMRU, numOkMRU]
    have HB5 := Lib.hid (HB4.out.trans (hb5.mono HB4.out.size))
    have s1 := run_string_of (P := Try.prog) 23 9 5 Try.underlying23 Try.underlying5 Try.underlying9 (HV4.out.below hb5)
    clear hb5 k0 k1
    go_wp2
    go_ret
    exact ⟨rfl, HB5.out⟩
  · exact absurd okMRU hno
end Go.Proofs.Yteemcckfhadkhaa.O
