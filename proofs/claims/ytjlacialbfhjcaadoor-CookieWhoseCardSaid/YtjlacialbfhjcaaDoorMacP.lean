/-
  HMAC in plain words (lists of bytes): no program.
-/
import Derived.Test.YtjlacialbfhjcaaDoorShaP
namespace Go.Proofs.YtjlacialbfhjcaaDoor
set_option linter.unusedVariables false

/-- The key, or its sum. -/
def keyL (key : List UInt8) : List UInt8 := if 64 < key.length then sumL key else key
theorem keyL_le (key : List UInt8) : (keyL key).length ≤ 64 := by
  unfold keyL
  split
  · rw [sumL_length]; omega
  · omega
/-- The key's block. -/
def keyB (key : List UInt8) : List UInt8 := keyL key ++ List.replicate (64 - (keyL key).length) 0
theorem keyB_length (key : List UInt8) : (keyB key).length = 64 := by
  have := keyL_le key
  simp [keyB]; omega
/-- Turned by a byte. -/
def turnL (l : List UInt8) (by_ : UInt8) : List UInt8 := l.map (· ^^^ by_)
theorem turnL_length (l : List UInt8) (b : UInt8) : (turnL l b).length = l.length := by simp [turnL]
def innerL (key msg : List UInt8) : List UInt8 := turnL (keyB key) 54 ++ msg
def outerL (key : List UInt8) (s : List UInt8) : List UInt8 := turnL (keyB key) 92 ++ s
/-- The HMAC. -/
def hmacL (key msg : List UInt8) : List UInt8 := sumL (outerL key (sumL (innerL key msg)))
theorem hmacL_length (key msg : List UInt8) : (hmacL key msg).length = 32 := sumL_length _
theorem innerL_length (key msg : List UInt8) : (innerL key msg).length = 64 + msg.length := by simp [innerL, turnL_length, keyB_length]
theorem outerL_length (key s : List UInt8) : (outerL key s).length = 64 + s.length := by simp [outerL, turnL_length, keyB_length]
theorem innerL_append (key a b : List UInt8) : innerL key a ++ b = innerL key (a ++ b) := by simp [innerL]
theorem innerL_nil (key : List UInt8) : innerL key [] = turnL (keyB key) 54 := by simp [innerL]
theorem outerL_nil (key : List UInt8) : outerL key [] = turnL (keyB key) 92 := by simp [outerL]
/-- Zeros behind a key, up to 64 bytes, change nothing. -/
theorem keyB_zeros (key : List UInt8) (n : Nat) (h : key.length + n ≤ 64) : keyB (key ++ List.replicate n 0) = keyB key := by
  unfold keyB keyL
  rw [if_neg (by simp; omega), if_neg (by omega)]
  simp only [List.append_assoc, List.length_append, List.length_replicate, List.replicate_append_replicate]
  congr 2
  omega
theorem hmacL_key {a b : List UInt8} (h : keyB a = keyB b) (msg : List UInt8) : hmacL a msg = hmacL b msg := by
  unfold hmacL outerL innerL
  rw [h]
/-- The message of a derived key. -/
def labelL (label : List UInt8) (n : Int) : List UInt8 := label ++ 0 :: putL (n % 18446744073709551616).toNat 8
theorem labelL_length (label : List UInt8) (n : Int) : (labelL label n).length = label.length + 9 := by simp [labelL, putL_length]
def jefe : List UInt8 := [74, 101, 102, 101]
def ask1 : List UInt8 := [119, 104, 97, 116, 32, 100, 111, 32, 121, 97, 32]
def ask2 : List UInt8 := [119, 97, 110, 116, 32, 102, 111, 114, 32, 110, 111, 116, 104, 105, 110, 103, 63]
def ask : List UInt8 := ask1 ++ ask2
set_option maxRecDepth 100000 in
theorem hmac_jefe : hmacL jefe ask = [0x5b, 0xdc, 0xc1, 0x46, 0xbf, 0x60, 0x75, 0x4e, 0x6a, 0x04, 0x24, 0x26, 0x08, 0x95, 0x75, 0xc7, 0x5a, 0x00, 0x3f, 0x08, 0x9d, 0x27, 0x39, 0x83, 0x9d, 0xec, 0x58, 0xb9, 0x64, 0xec, 0x38, 0x43] := by decide +kernel
end Go.Proofs.YtjlacialbfhjcaaDoor
