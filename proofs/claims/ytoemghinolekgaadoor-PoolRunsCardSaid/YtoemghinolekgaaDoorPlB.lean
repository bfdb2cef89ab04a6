/-
  math/bits.TrailingZeros64 and OnesCount64, at every word.
-/
import Derived.Lib.TrailingZeros
import Derived.Laws.Bits64b
import Derived.Laws.Bits128
import Derived.Test.YtoemghinolekgaaDoorLib
import Derived.Test.YtoemghinolekgaaDoorPlQ
import Derived.Test.YtoemghinolekgaaDoorRows
import Derived.ProofKit
namespace Go.Proofs.YtoemghinolekgaaDoor.Pl
open Go.RowKit
set_option linter.unusedVariables false
set_option linter.unusedSimpArgs false

/-- The library's table lies in block 0. -/
def Laid (w : World) : Prop := 0 < w.heap.size ∧ ∀ j, j < 64 → w.cell? ⟨0, j, none⟩ = some (.int .u8 (Lib.deBruijn64tab.getD j 0))
theorem Laid.gr {w w' : World} (h : Laid w) (hb : Below w.heap.size w w') : Laid w' := ⟨Nat.lt_of_lt_of_le h.1 hb.size, fun j hj => cell_gr hb (h.2 j hj)⟩
theorem tz_key (x a : Nat) (hx : x < 18446744073709551616) (hx0 : x ≠ 0) (hlow : x &&& (18446744073709551616 - x) = a) :
    IntKind.u64.wrap (bits BinOp.and IntKind.u64 (x : Int) (IntKind.u64.wrap (-(x : Int))) * 285870213051353865) / 288230376151711744 = ((a * 285870213051353865 % 18446744073709551616 / 288230376151711744 : Nat) : Int) := by
  have e1 : IntKind.u64.wrap (-(x : Int)) = ((18446744073709551616 - x : Nat) : Int) := by rw [IntKind.wrap_u64]; omega
  rw [e1, bits_and_u64_nat x _ hx (by omega), hlow, IntKind.wrap_u64]
  omega
theorem tz_core (x k idx : Nat) (w : World) (hx0 : ((x : Int) == 0) = false)
    (key : IntKind.u64.wrap (bits BinOp.and IntKind.u64 (x : Int) (IntKind.u64.wrap (-(x : Int))) * 285870213051353865) / 288230376151711744 = (idx : Int))
    (hi : idx < 64) (hk : k < 64) (hcell : w.cell? ⟨0, idx, none⟩ = some (.int .u8 k)) :
    Calls Tryd.prog 47 #[.int .u64 x] w fun e w' => e = .returned (.int .i64 k) ∧ w = w' := by
  go_enter Tryd.func47, Tryd.ntmps47
  go_wp2_with (simp only [key])
  go_ret
  exact ⟨rfl, rfl⟩
/-- Of a word that is not 0: its lowest bit. -/
theorem tz_any (x : Nat) (hx0 : x ≠ 0) (hx : x < 18446744073709551616) (w : World) (hT : Laid w) :
    Calls Tryd.prog 47 #[.int .u64 x] w fun e w' => e = .returned (.int .i64 (Lib.ctz 64 x : Nat)) ∧ w = w' := by
  obtain ⟨hlow, hk⟩ := Lib.lowest_bit 64 x hx0 hx
  obtain ⟨hi, htab⟩ := Lib.deBruijn64_at _ hk
  have hcell := hT.2 _ hi
  rw [htab] at hcell
  exact tz_core x _ _ w (by simp; omega) (tz_key x _ hx hx0 hlow) hi hk hcell
theorem wrap_nat (n : Nat) (h : n < 18446744073709551616) : IntKind.u64.wrap (n : Int) = (n : Int) := by rw [IntKind.wrap_u64]; omega
theorem i64_u64 (n : Nat) (h : n < 9223372036854775808) : wrap64 (n : Int) = (n : Int) := by unfold wrap64; omega
theorem wrap64_mod (n : Int) : wrap64 n % 128 = n % 128 := by unfold wrap64; omega
theorem low7 (n : Nat) : bits BinOp.and IntKind.i64 (wrap64 (n : Int)) 127 = ((n % 128 : Nat) : Int) := by
  rw [i64_and127, wrap64_mod]
  omega
/-- How many bits a word has. -/
theorem ones_any (x : Nat) (hx : x < 18446744073709551616) (w : World) :
    Calls Tryd.prog 48 #[.int .u64 x] w fun e w' => e = .returned (.int .i64 (pop x : Nat)) ∧ w = w' := by
  obtain ⟨O⟩ := ones x hx
  obtain ⟨y1, y2, y3, y4, y5, y6, h1, h2, h3, h4, h5, h6, h7, l1, l2, l23, l3, l4, l5, l6⟩ := O
  have k : ∀ (n m : Nat), n < 18446744073709551616 → m < 18446744073709551616 → bits BinOp.and IntKind.u64 (n : Int) (m : Int) = ((n &&& m : Nat) : Int) := bits_and_u64_nat
  have e1 : IntKind.u64.wrap (bits BinOp.and IntKind.u64 ((x : Int) / 2) 6148914691236517205 + bits BinOp.and IntKind.u64 (x : Int) 6148914691236517205) = (y1 : Int) := by
    have a := k (x / 2) 6148914691236517205 (by omega) (by decide)
    have b := k x 6148914691236517205 hx (by decide)
    rw [show ((x : Int) / 2) = ((x / 2 : Nat) : Int) by omega]
    rw [show ((6148914691236517205 : Nat) : Int) = 6148914691236517205 by rfl] at a b
    rw [a, b, ← Int.natCast_add, h1, wrap_nat _ l1]
  have e2 : IntKind.u64.wrap (bits BinOp.and IntKind.u64 ((y1 : Int) / 4) 3689348814741910323 + bits BinOp.and IntKind.u64 (y1 : Int) 3689348814741910323) = (y2 : Int) := by
    have a := k (y1 / 4) 3689348814741910323 (by omega) (by decide)
    have b := k y1 3689348814741910323 l1 (by decide)
    rw [show ((y1 : Int) / 4) = ((y1 / 4 : Nat) : Int) by omega]
    rw [show ((3689348814741910323 : Nat) : Int) = 3689348814741910323 by rfl] at a b
    rw [a, b, ← Int.natCast_add, h2, wrap_nat _ l2]
  have e3 : bits BinOp.and IntKind.u64 (IntKind.u64.wrap ((y2 : Int) / 16 + (y2 : Int))) 1085102592571150095 = (y3 : Int) := by
    have a := k (y2 / 16 + y2) 1085102592571150095 l23 (by decide)
    rw [show ((y2 : Int) / 16 + (y2 : Int)) = ((y2 / 16 + y2 : Nat) : Int) by omega, wrap_nat _ l23]
    rw [show ((1085102592571150095 : Nat) : Int) = 1085102592571150095 by rfl] at a
    rw [a, h3]
  have e4 : IntKind.u64.wrap ((y3 : Int) + (y3 : Int) / 256) = (y4 : Int) := by
    rw [show ((y3 : Int) + (y3 : Int) / 256) = ((y3 + y3 / 256 : Nat) : Int) by omega, h4, wrap_nat _ l4]
  have e5 : IntKind.u64.wrap ((y4 : Int) + (y4 : Int) / 65536) = (y5 : Int) := by
    rw [show ((y4 : Int) + (y4 : Int) / 65536) = ((y4 + y4 / 65536 : Nat) : Int) by omega, h5, wrap_nat _ l5]
  have e6 : IntKind.u64.wrap ((y5 : Int) + (y5 : Int) / 4294967296) = (y6 : Int) := by
    rw [show ((y5 : Int) + (y5 : Int) / 4294967296) = ((y5 + y5 / 4294967296 : Nat) : Int) by omega, h6, wrap_nat _ l6]
  have e7 : bits BinOp.and IntKind.i64 (wrap64 (y6 : Int)) 127 = ((pop x : Nat) : Int) := by
    rw [low7, h7]
  clear h1 h2 h3 h4 h5 h6 h7 l1 l2 l23 l3 l4 l5 l6 k hx
  go_enter Tryd.func48, Tryd.ntmps48
  go_wp2
  go_ret
  exact ⟨rfl, rfl⟩
end Go.Proofs.YtoemghinolekgaaDoor.Pl
