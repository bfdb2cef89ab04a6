import Derived.Test.YtjpihjonkdgnhaaOctN
namespace Go.Proofs.Ytjpihjonkdgnhaa
open Go.RowKit
set_option linter.unusedVariables false
set_option linter.unusedSimpArgs false

open Classical in
noncomputable def unhexX (s : ByteArray) : List UInt8 := if UnhexOk s then unhexK s (s.size / 2) else []
open Classical in
noncomputable def unhexE (s : ByteArray) : Int := if UnhexOk s then 0 else 10
theorem unhex_any (w : World) (s : ByteArray) (hs : s.size ≤ 1000000) :
    Calls Try.prog 15 #[.string s] w fun e w' => ∃ v, e = .returned (.tuple #[v, .int .i64 (unhexE s)]) ∧ OwnB w' w.heap.size 5 v (unhexX s) ∧ Below w.heap.size w w' := by
  by_cases h : UnhexOk s
  · have e1 : unhexX s = unhexK s (s.size / 2) := if_pos h
    have e2 : unhexE s = 0 := if_pos h
    rw [e1, e2]
    exact unhex_yes w s hs h
  · have e1 : unhexX s = [] := if_neg h
    have e2 : unhexE s = 10 := if_neg h
    rw [e1, e2]
    refine (unhex_no w s hs h).mono ?_
    rintro e w' ⟨rfl, hb⟩
    exact ⟨_, rfl, OwnB.nil _ _ _, hb⟩
theorem runhex_any (w : World) (s : ByteArray) (hs : s.size ≤ 1000000) :
    Calls Try.prog 16 #[.string s] w fun e w' => ∃ v, e = .returned (.tuple #[v, .int .i64 (unhexE s)]) ∧ OwnB w' w.heap.size 5 v (unhexX s) ∧ Below w.heap.size w w' := by
  by_cases h : UnhexOk s
  · have e1 : unhexX s = unhexK s (s.size / 2) := if_pos h
    have e2 : unhexE s = 0 := if_pos h
    rw [e1, e2]
    exact runhex_yes w s hs h
  · have e1 : unhexX s = [] := if_neg h
    have e2 : unhexE s = 10 := if_neg h
    rw [e1, e2]
    refine (runhex_no w s hs h).mono ?_
    rintro e w' ⟨rfl, hb⟩
    exact ⟨_, rfl, OwnB.nil _ _ _, hb⟩

open Classical in
noncomputable def parseX (s : ByteArray) : Array Value := if ParseOk s then macC s 6 else #[.int .u8 0, .int .u8 0, .int .u8 0, .int .u8 0, .int .u8 0, .int .u8 0]
open Classical in
noncomputable def parseE (s : ByteArray) : Int := if ParseOk s then 0 else 10
open Classical in
noncomputable def parseB (s : ByteArray) (i : Nat) : Nat := if ParseOk s then macB s i else 0
theorem parseX_eq (s : ByteArray) : parseX s = #[.int .u8 (parseB s 0 : Nat), .int .u8 (parseB s 1 : Nat), .int .u8 (parseB s 2 : Nat), .int .u8 (parseB s 3 : Nat), .int .u8 (parseB s 4 : Nat), .int .u8 (parseB s 5 : Nat)] := by
  by_cases h : ParseOk s
  · simp only [parseX, parseB, if_pos h, macC_six]
  · simp only [parseX, parseB, if_neg h]; rfl
theorem parse_any (w : World) (s : ByteArray) (hs : s.size ≤ 1000000) :
    Calls Try.prog 19 #[.string s] w fun e w' => e = .returned (.tuple #[.agg #[.int .u8 (parseB s 0 : Nat), .int .u8 (parseB s 1 : Nat), .int .u8 (parseB s 2 : Nat), .int .u8 (parseB s 3 : Nat), .int .u8 (parseB s 4 : Nat), .int .u8 (parseB s 5 : Nat)], .int .i64 (parseE s)]) ∧ Below w.heap.size w w' := by
  rw [← parseX_eq]
  by_cases h : ParseOk s
  · have e1 : parseX s = macC s 6 := if_pos h
    have e2 : parseE s = 0 := if_pos h
    rw [e1, e2]
    exact parse_yes w s h
  · have e2 : parseE s = 10 := if_neg h
    have e1 : parseX s = _ := if_neg h
    rw [e1, e2]
    exact parse_no w s hs h
theorem rparse_any (w : World) (s : ByteArray) (hs : s.size ≤ 1000000) :
    Calls Try.prog 20 #[.string s] w fun e w' => e = .returned (.tuple #[.agg #[.int .u8 (parseB s 0 : Nat), .int .u8 (parseB s 1 : Nat), .int .u8 (parseB s 2 : Nat), .int .u8 (parseB s 3 : Nat), .int .u8 (parseB s 4 : Nat), .int .u8 (parseB s 5 : Nat)], .int .i64 (parseE s)]) ∧ Below w.heap.size w w' := by
  rw [← parseX_eq]
  by_cases h : ParseOk s
  · have e1 : parseX s = macC s 6 := if_pos h
    have e2 : parseE s = 0 := if_pos h
    rw [e1, e2]
    exact rparse_yes w s h
  · have e2 : parseE s = 10 := if_neg h
    have e1 : parseX s = _ := if_neg h
    rw [e1, e2]
    exact rparse_no w s hs h
theorem extract_all (s : ByteArray) : s.extract 0 s.size = s := by
  apply ByteArray.ext
  rw [ByteArray.data_extract]
  exact Array.extract_size
end Go.Proofs.Ytjpihjonkdgnhaa
