/-
  The document's Encode, whatever packet comes.
-/
import Derived.Test.YtcpeglljcipcbaaPpA
namespace Go.Proofs.Ytcpeglljcipcbaa
open Go.RowKit
set_option linter.unusedVariables false
set_option linter.unusedSimpArgs false

set_option maxHeartbeats 4000000 in
theorem rpencode_any (C S : Int) (A : Option Addr) (L K : Nat) (l : List UInt8) (hl : l.length = L) (w : World) (hb : Bs w (.slice A L K) l) (hL : L ≤ 1000000) :
    Calls Try.prog 11 #[.agg #[.int .i64 C, .int .i64 S, .slice A L K]] w (PEncR ⟨C, S, l⟩ w) := by
  obtain ⟨i0, hi, hz0, hz1, hz2⟩ := info_parts info5
  have BA : Below w.heap.size w (w.alloc (.cells #[.int .i64 C, .int .i64 S, .slice A L K] 24)) := (Below.refl _ _).alloc (Nat.le_refl _) _
  have HB := Lib.hid BA
  clear BA
  by_cases h1 : C < 0
  · have HE := Lib.hid (pencE_no (p := ⟨C, S, l⟩) (by unfold pmay; simp; omega))
    clear hb hl
    go_enter Try.func11, Try.ntmps11
    go_wp2
    go_ret2
    exact PEncR.none HE.out (by decide) HB.out
  by_cases h2 : 255 < C
  · have HE := Lib.hid (pencE_no (p := ⟨C, S, l⟩) (by unfold pmay; simp; omega))
    clear hb hl
    go_enter Try.func11, Try.ntmps11
    go_wp2
    go_ret2
    exact PEncR.none HE.out (by decide) HB.out
  by_cases h3 : S < 0
  · have HE := Lib.hid (pencE_no (p := ⟨C, S, l⟩) (by unfold pmay; simp; omega))
    clear hb hl
    go_enter Try.func11, Try.ntmps11
    go_wp2
    go_ret2
    exact PEncR.none HE.out (by decide) HB.out
  by_cases h4 : 65535 < S
  · have HE := Lib.hid (pencE_no (p := ⟨C, S, l⟩) (by unfold pmay; simp; omega))
    clear hb hl
    go_enter Try.func11, Try.ntmps11
    go_wp2
    go_ret2
    exact PEncR.none HE.out (by decide) HB.out
  have hmay : pmay ⟨C, S, l⟩ := ⟨by simpa using h1, by simpa using h2, by simpa using h3, by simpa using h4⟩
  by_cases h5 : 1494 < L
  · have HE := Lib.hid (pencE_long hmay (by show 1494 < l.length; omega))
    clear hb hl hmay
    go_enter Try.func11, Try.ntmps11
    go_wp2
    go_ret2
    exact PEncR.none HE.out (by decide) HB.out
  have HE := Lib.hid (pencE_ok hmay (by show ¬ 1494 < l.length; omega))
  clear hmay
  obtain ⟨X, rfl⟩ : ∃ X : Nat, C = (X : Int) := ⟨C.toNat, by omega⟩
  obtain ⟨Y, rfl⟩ : ∃ Y : Nat, S = (Y : Int) := ⟨S.toNat, by omega⟩
  have HG : Hid ((w.alloc (.cells #[.int .i64 (X : Int), .int .i64 (Y : Int), .slice A L K] 24)).heap[w.heap.size]? = some (.cells #[.int .i64 (X : Int), .int .i64 (Y : Int), .slice A L K] 24)) := heap_alloc_last _ _
  have HV := Lib.hid hb
  have HL := Lib.hid hl
  have HBN := Lib.hid HB.out.size
  clear hb hl
  have e17 : [Value.int .u8 17, .int .u8 (X : Int), .int .u8 ((Y : Int) / 256), .int .u8 ((Y : Int) % 256), .int .u8 ((L : Int) / 256), .int .u8 ((L : Int) % 256)] = ([17, UInt8.ofNat X, UInt8.ofNat (Y / 256), UInt8.ofNat Y, UInt8.ofNat (L / 256), UInt8.ofNat L] : List UInt8).map u8v := by
    have g : ∀ n : Nat, ∀ z : Int, z = ((n % 256 : Nat) : Int) → Value.int .u8 z = u8v (UInt8.ofNat n) := fun n z hz => by
      subst hz
      unfold u8v
      rw [UInt8.toNat_ofNat']
    simp only [List.map_cons, List.map_nil]
    rw [g X (X : Int) (by omega), g (Y / 256) ((Y : Int) / 256) (by omega), g Y ((Y : Int) % 256) (by omega), g (L / 256) ((L : Int) / 256) (by omega), g L ((L : Int) % 256) (by omega)]
    rfl
  have HB1 : Hid (Below w.heap.size w ((w.alloc (.cells #[.int .i64 (X : Int), .int .i64 (Y : Int), .slice A L K] 24)).alloc (.cells [Value.int .u8 17, .int .u8 (X : Int), .int .u8 ((Y : Int) / 256), .int .u8 ((Y : Int) % 256), .int .u8 ((L : Int) / 256), .int .u8 ((L : Int) % 256)].toArray 5))) := HB.out.alloc HBN.out _
  have HO1 : Hid (((w.alloc (.cells #[.int .i64 (X : Int), .int .i64 (Y : Int), .slice A L K] 24)).alloc (.cells [Value.int .u8 17, .int .u8 (X : Int), .int .u8 ((Y : Int) / 256), .int .u8 ((Y : Int) % 256), .int .u8 ((L : Int) / 256), .int .u8 ((L : Int) % 256)].toArray 5)).ownsRow w.heap.size 5 1 (.slice (some ⟨w.heap.size + 1, 0, none⟩) 6 6) 6 (([17, UInt8.ofNat X, UInt8.ofNat (Y / 256), UInt8.ofNat Y, UInt8.ofNat (L / 256), UInt8.ofNat L] : List UInt8).map u8v)) := by
    have h0 := own_new (w.alloc (.cells #[.int .i64 (X : Int), .int .i64 (Y : Int), .slice A L K] 24)) [Value.int .u8 17, .int .u8 (X : Int), .int .u8 ((Y : Int) / 256), .int .u8 ((Y : Int) % 256), .int .u8 ((L : Int) / 256), .int .u8 ((L : Int) % 256)] 5 6 1 rfl (by decide)
    rw [World.size_alloc] at h0
    have h1 := ownsRow_mono h0 (Nat.le_succ _)
    rw [e17] at h1
    rw [e17]
    exact h1
  have HV1 : Hid (Rd ((w.alloc (.cells #[.int .i64 (X : Int), .int .i64 (Y : Int), .slice A L K] 24)).alloc (.cells [Value.int .u8 17, .int .u8 (X : Int), .int .u8 ((Y : Int) / 256), .int .u8 ((Y : Int) % 256), .int .u8 ((L : Int) / 256), .int .u8 ((L : Int) % 256)].toArray 5)) 1 (.slice A L K) L (l.map u8v)) := by
    have := HV.out.below HB1.out
    unfold Bs at this
    rw [HL.out] at this
    exact this
  clear e17
  go_enter Try.func11, Try.ntmps11
  go_wp2_with (at_builtin; refine wpList_append_gr _ rfl _ _ 22 rfl w.heap.size 5 i0 (.int .u8 0) 1 1 Try.underlying22 hi hz0 hz1 hz2 rfl (by decide) _ _ _ rfl HO1.out _ _ _ rfl HV1.out (oneCell_u8 _) ?q1 (by decide) HB1.out.size ?_)
  case q1 => omega
  intro vc wc hownc hgc
  have HBc := Lib.hid (HB1.out.trans (grown_below HO1.out HB1.out.size hgc))
  have HOc : Hid (OwnB wc w.heap.size 5 vc (wireP ⟨X, Y, l⟩)) := by
    have := OwnB.of_app (l := [17, UInt8.ofNat X, UInt8.ofNat (Y / 256), UInt8.ofNat Y, UInt8.ofNat (L / 256), UInt8.ofNat L]) hownc rfl HL.out
    show OwnB _ _ _ _ _
    have e : wireP ⟨X, Y, l⟩ = [17, UInt8.ofNat X, UInt8.ofNat (Y / 256), UInt8.ofNat Y, UInt8.ofNat (L / 256), UInt8.ofNat L] ++ l := by
      unfold wireP
      simp only [Int.toNat_natCast, HL.out]
      rfl
    rw [e]
    exact this
  clear hownc hgc
  go_wp2
  go_ret2
  exact PEncR.some HE.out HOc.out HBc.out
end Go.Proofs.Ytcpeglljcipcbaa
