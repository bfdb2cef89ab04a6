/-
  The laws' example: a frame there and back.
-/
import Derived.Test.YtkalbchcgdnciaaEthI
import Derived.Test.YtkalbchcgdnciaaEthF
namespace Go.Proofs.Ytkalbchcgdnciaa
open Go.RowKit
set_option linter.unusedVariables false
set_option linter.unusedSimpArgs false
def abcd : List UInt8 := [97, 98, 99, 100]
theorem enc_abcd : encL z6 z6 34915 abcd = wireL z6 z6 34915 abcd := rfl
theorem wire18 : (wireL z6 z6 34915 abcd).length = 18 := rfl
theorem dchk_abcd : dchk (wireL z6 z6 34915 abcd) = 0 := by decide +kernel
theorem decP_abcd : decP (wireL z6 z6 34915 abcd) = abcd := by decide +kernel

set_option maxRecDepth 20000 in
set_option maxHeartbeats 1000000 in
theorem awake_any (w : World) : Calls Try.prog 14 #[] w fun e w' => e = .returned (.bool true) ∧ Below w.heap.size w w' := by
  have BA : Below w.heap.size w (w.alloc (.cells #[.int .u8 97, .int .u8 98, .int .u8 99, .int .u8 100] 5 (4, 5))) := (Below.refl _ _).alloc (Nat.le_refl _) _
  have HBA := Lib.hid BA
  have HV : Hid (Bs (w.alloc (.cells #[.int .u8 97, .int .u8 98, .int .u8 99, .int .u8 100] 5 (4, 5))) (.slice (some ⟨w.heap.size, 0, none⟩) 4 4) abcd) := rd_newm w (abcd.map u8v) 5 (4, 5) 4 1 rfl (by decide)
  have kc := Lib.run_convert_bytes_const (P := Try.prog) w 24 5 #[.int .u8 97, .int .u8 98, .int .u8 99, .int .u8 100] 4 4 Try.underlying24 Try.underlying5
  clear BA
  go_enter Try.func14, Try.ntmps14
  go_wp2_with fail
  change Calls Try.prog 10 #[.agg (ethL z6 z6 34915 (.slice (some ⟨w.heap.size, 0, none⟩) 4 4)).toArray] _ _
  generalize w.alloc (.cells #[.int .u8 97, .int .u8 98, .int .u8 99, .int .u8 100] 5 (4, 5)) = w1 at HBA HV ⊢
  refine (encode_any z6 z6 34915 _ 4 4 abcd rfl rfl rfl w1 HV.out).mono ?_
  rintro e w2 ⟨v2, rfl, hown2, hb2⟩
  rw [enc_abcd] at hown2
  rw [show chk 34915 abcd.length = 0 from rfl]
  have HB2 := Lib.hid (HBA.out.trans (hb2.mono HBA.out.size))
  have HV2 := Lib.hid hown2.bs
  obtain ⟨a2, c2, ev, hc2, hm2⟩ := (hown2.bs).shape
  rw [wire18] at ev hc2
  subst ev
  have DC := Lib.hid (decode_any a2 18 c2 _ wire18 w2 HV2.out (by decide))
  clear hown2 hb2
  go_wp2_with fail
  refine DC.out.mono ?_
  rintro e w3 ⟨v3, rfl, hown3, hb3⟩
  rw [decP_abcd] at hown3
  rw [dchk_abcd]
  obtain ⟨a3, c3, ev, hc3, hm3⟩ := (hown3.bs).shape
  rw [show abcd.length = 4 from rfl] at ev hc3
  subst ev
  have h13 := ethL_13 (decT (wireL z6 z6 34915 abcd)) (.slice a3 4 c3) (decD_length (wireL z6 z6 34915 abcd)) (decS_length (wireL z6 z6 34915 abcd))
  have HLE := Lib.hid (ethL_length (decT (wireL z6 z6 34915 abcd)) (.slice a3 4 c3) (decD_length (wireL z6 z6 34915 abcd)) (decS_length (wireL z6 z6 34915 abcd)))
  have HONE := Lib.hid (ethL_one (decD (wireL z6 z6 34915 abcd)) (decS (wireL z6 z6 34915 abcd)) (decT (wireL z6 z6 34915 abcd)) (.slice a3 4 c3) rfl)
  generalize ethL (decD (wireL z6 z6 34915 abcd)) (decS (wireL z6 z6 34915 abcd)) (decT (wireL z6 z6 34915 abcd)) (.slice a3 4 c3) = E at h13 HLE HONE ⊢
  have HB3 := Lib.hid (HB2.out.trans (hb3.mono HB2.out.size))
  have HV3 : Hid (Bs w3 (.slice a2 18 c2) (wireL z6 z6 34915 abcd)) := HV2.out.below hb3
  have HP3 : Hid (Bs w3 (.slice a3 4 c3) abcd) := hown3.bs
  have HZ : Hid ((w3.alloc (.cells #[.int .u8 0, .int .u8 0, .int .u8 0, .int .u8 0, .int .u8 0, .int .u8 0, .int .u8 0, .int .u8 0, .int .u8 0, .int .u8 0, .int .u8 0, .int .u8 0, .int .i64 0, .slice none 0 0] 26)).heap[w3.heap.size]? = some (.cells ethZ.toArray 26 (0, 0))) := heap_alloc_last _ _
  have HSE : Hid ((Try.prog.info? 26).map (·.size) = some E.length) := by show _ = _; rw [HLE.out]; exact size26
  have HNE : Hid (E.length = ethZ.length) := HLE
  clear hown3 hb3
  go_wp2_with (with_reducible refine wpList_store_whole rfl 26 (.tmp 3) (.tmp 15) rfl w3.heap.size E rfl rfl 26 ethZ HZ.out HSE.out HNE.out HONE.out ?_)
  intro w4 h4 ho4
  have hb4 : Below w3.heap.size w3 w4 := ho4.below _ _ (Nat.le_refl _) ((Below.refl _ _).alloc (Nat.le_refl _) _)
  have HB4 := Lib.hid (HB3.out.trans (hb4.mono HB3.out.size))
  have HV4 := Lib.hid (HV3.out.below hb4)
  have hc13 : w4.cell? ⟨w3.heap.size, 13, none⟩ = some (.slice a3 4 c3) := by rw [cell_of_row _ _ _ _ _ _ h4]; simpa using h13
  have hst := run_string_of (P := Try.prog) 24 9 5 Try.underlying24 Try.underlying5 Try.underlying9 (HP3.out.below hb4)
  obtain ⟨b, o, ea, hbl, hcell⟩ := HV4.out.cells (by rw [wire18]; decide)
  subst ea
  have hx : w4.cell? ⟨b, o + 12, none⟩ = some (.int .u8 136) := hcell 12 (by rw [wire18]; decide)
  have PD := Lib.hid (pad_any (some ⟨b, o, none⟩) 18 c2 _ wire18 w4 HV4.out (by decide))
  unfold abcd at hst
  clear h4 ho4 hb4 hcell h13
  go_wp2_with fail
  refine PD.out.mono ?_
  rintro e w5 ⟨c5, rfl, hown5, hb5⟩
  have HB5 := Lib.hid (HB4.out.trans (hb5.mono HB4.out.size))
  clear hown5 hb5
  go_wp2
  go_ret
  exact ⟨rfl, HB5.out⟩
end Go.Proofs.Ytkalbchcgdnciaa
