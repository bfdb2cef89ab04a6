import Derived.Test.YtjpihjonkdgnhaaOctM
import Derived.Test.YtjpihjonkdgnhaaOpen
namespace Go.Proofs.Ytjpihjonkdgnhaa
open Go.RowKit
set_option linter.unusedVariables false
set_option linter.unusedSimpArgs false

def takeOk (n : Nat) (long : Int) : Bool := decide (1 ≤ long ∧ long ≤ 8 ∧ long ≤ (n : Int))
def takeX (l : List UInt8) (long : Int) : Nat := if takeOk l.length long = true then takeN l long.toNat else 0
def takeR (l : List UInt8) (long : Int) : List UInt8 := if takeOk l.length long = true then l.drop long.toNat else []

theorem take_any (w : World) (a : Option Addr) (n c : Nat) (l : List UInt8) (long : Int) (hn : l.length = n) (h : Bs w (.slice a n c) l) (hr : n ≤ 140737488351232) :
    Calls Try.prog 10 #[.slice a n c, .int .i64 long] w fun e w' => ∃ v, e = .returned (.tuple #[.int .u64 (takeX l long : Nat), v, .bool (takeOk n long)]) ∧ OwnB w' w.heap.size 5 v (takeR l long) ∧ Below w.heap.size w w' := by
  obtain ⟨_, _, es0, hc0, hm0⟩ := h.shape
  simp only [Value.slice.injEq] at es0
  obtain ⟨rfl, z0, rfl⟩ := es0
  by_cases hk : 1 ≤ long ∧ long ≤ 8 ∧ long ≤ (n : Int)
  · obtain ⟨k, rfl⟩ : ∃ k : Nat, long = (k : Int) := ⟨long.toNat, by omega⟩
    have e1 : takeOk n (k : Int) = true := by simp [takeOk]; omega
    have e2 : takeX l (k : Int) = takeN l k := by unfold takeX; rw [hn, e1]; simp
    have e3 : takeR l (k : Int) = l.drop k := by unfold takeR; rw [hn, e1]; simp
    rw [e1, e2, e3]
    exact take_yes w a n c l k hn h (by omega) (by omega) (by omega) hr
  · have e1 : takeOk n long = false := by simp only [takeOk, decide_eq_false_iff_not]; exact hk
    have e2 : takeX l long = 0 := by unfold takeX; rw [hn, e1]; simp
    have e3 : takeR l long = [] := by unfold takeR; rw [hn, e1]; simp
    rw [e1, e2, e3]
    refine (take_no w a n c long (by omega) (by omega) hm0).mono ?_
    rintro e w' ⟨rfl, rfl⟩
    exact ⟨_, rfl, OwnB.nil _ _ _, Below.refl _ _⟩
theorem rtake_any (w : World) (a : Option Addr) (n c : Nat) (l : List UInt8) (long : Int) (hn : l.length = n) (h : Bs w (.slice a n c) l) (hr : n ≤ 140737488351232) :
    Calls Try.prog 11 #[.slice a n c, .int .i64 long] w fun e w' => ∃ v, e = .returned (.tuple #[.int .u64 (takeX l long : Nat), v, .bool (takeOk n long)]) ∧ OwnB w' w.heap.size 5 v (takeR l long) ∧ Below w.heap.size w w' := by
  obtain ⟨_, _, es0, hc0, hm0⟩ := h.shape
  simp only [Value.slice.injEq] at es0
  obtain ⟨rfl, z0, rfl⟩ := es0
  by_cases hk : 1 ≤ long ∧ long ≤ 8 ∧ long ≤ (n : Int)
  · obtain ⟨k, rfl⟩ : ∃ k : Nat, long = (k : Int) := ⟨long.toNat, by omega⟩
    have e1 : takeOk n (k : Int) = true := by simp [takeOk]; omega
    have e2 : takeX l (k : Int) = takeN l k := by unfold takeX; rw [hn, e1]; simp
    have e3 : takeR l (k : Int) = l.drop k := by unfold takeR; rw [hn, e1]; simp
    rw [e1, e2, e3]
    exact rtake_yes w a n c l k hn h (by omega) (by omega) (by omega) hr
  · have e1 : takeOk n long = false := by simp only [takeOk, decide_eq_false_iff_not]; exact hk
    have e2 : takeX l long = 0 := by unfold takeX; rw [hn, e1]; simp
    have e3 : takeR l long = [] := by unfold takeR; rw [hn, e1]; simp
    rw [e1, e2, e3]
    refine (rtake_no w a n c long (by omega) (by omega) hm0).mono ?_
    rintro e w' ⟨rfl, rfl⟩
    exact ⟨_, rfl, OwnB.nil _ _ _, Below.refl _ _⟩

def putX (n : Nat) (size : Int) : List UInt8 := if 1 ≤ size ∧ size ≤ 8 then putL n size.toNat else []
theorem put_any (w : World) (n : Nat) (size : Int) (hn : n < 18446744073709551616) :
    Calls Try.prog 12 #[.int .u64 n, .int .i64 size] w fun e w' => ∃ v, e = .returned v ∧ OwnB w' w.heap.size 5 v (putX n size) ∧ Below w.heap.size w w' := by
  by_cases hk : 1 ≤ size ∧ size ≤ 8
  · obtain ⟨k, rfl⟩ : ∃ k : Nat, size = (k : Int) := ⟨size.toNat, by omega⟩
    have e1 : putX n (k : Int) = putL n k := by unfold putX; rw [if_pos hk]; simp
    rw [e1]
    exact put_yes n k w (by omega) (by omega) hn
  · have e1 : putX n size = [] := by unfold putX; rw [if_neg hk]
    rw [e1]
    refine (put_no n size w (by omega)).mono ?_
    rintro e w' ⟨rfl, rfl⟩
    exact ⟨_, rfl, OwnB.nil _ _ _, Below.refl _ _⟩
theorem rput_any (w : World) (n : Nat) (size : Int) (hn : n < 18446744073709551616) :
    Calls Try.prog 13 #[.int .u64 n, .int .i64 size] w fun e w' => ∃ v, e = .returned v ∧ OwnB w' w.heap.size 5 v (putX n size) ∧ Below w.heap.size w w' := by
  by_cases hk : 1 ≤ size ∧ size ≤ 8
  · obtain ⟨k, rfl⟩ : ∃ k : Nat, size = (k : Int) := ⟨size.toNat, by omega⟩
    have e1 : putX n (k : Int) = putL n k := by unfold putX; rw [if_pos hk]; simp
    rw [e1]
    exact rput_yes n k w (by omega) (by omega) hn
  · have e1 : putX n size = [] := by unfold putX; rw [if_neg hk]
    rw [e1]
    refine (rput_no n size w (by omega)).mono ?_
    rintro e w' ⟨rfl, rfl⟩
    exact ⟨_, rfl, OwnB.nil _ _ _, Below.refl _ _⟩

/-- What a slice of bytes is as a text, in each world that has grown. -/
def Txt (w : World) (v : Value) (l : List UInt8) : Prop := ∀ w', Gr w w' → (convert 23 9 v).run Try.prog w' = .ok (.string ⟨l.toArray⟩) w'
theorem Bs.txt {w : World} {v : Value} {l : List UInt8} (h : Bs w v l) : Txt w v l := fun _ hg => run_string_of 23 9 5 Try.underlying23 Try.underlying5 Try.underlying9 (h.below hg)
theorem Txt.on {w w' : World} {v : Value} {l : List UInt8} (h : Txt w v l) (hg : Gr w w') : Txt w' v l := fun w2 h2 => h w2 (hg.trans h2)
theorem nat_of_u64 {a : Int} (h : (Lit.int .u64 a).wf = true) : ∃ n : Nat, a = (n : Int) ∧ n < 18446744073709551616 := by
  have h' : 0 ≤ a ∧ a ≤ 18446744073709551615 := by simpa [Lit.wf, IntKind.min, IntKind.max, IntKind.signed, IntKind.bits] using h
  exact ⟨a.toNat, by omega, by omega⟩
end Go.Proofs.Ytjpihjonkdgnhaa
