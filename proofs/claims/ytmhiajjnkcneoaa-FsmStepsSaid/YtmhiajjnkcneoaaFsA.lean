/-
  A state in memory; to, stay, isOne: what they tell, and what they turn.
-/
import Derived.Test.YtmhiajjnkcneoaaFsP
namespace Go.Proofs.Ytmhiajjnkcneoaa.Fs
open Go.RowKit
open Go.Proofs.Ytmhiajjnkcneoaa.Id (Tr Tr.refl Tr.gr Tr.only)
set_option linter.unusedVariables false
set_option linter.unusedSimpArgs false
def ints (l : List Int) : List Value := l.map (Value.int .i64)
theorem ints_len (l : List Int) : (ints l).length = l.length := List.length_map ..
theorem ints_app (l m : List Int) : ints (l ++ m) = ints l ++ ints m := List.map_append
theorem ints_cell (l : List Int) : ∀ v ∈ ints l, v.oneCell' = true := by
  intro v hv
  obtain ⟨x, _, rfl⟩ := List.mem_map.1 hv
  rfl
/-- A row of actions of the call's own. -/
def AO (w : World) (base : Nat) (v : Value) (l : List Int) : Prop := w.ownsRow base 36 1 v l.length (ints l)
theorem AO.nil (w : World) (base : Nat) : AO w base (.slice none 0 0) [] := World.ownsRow_nil w base 36 1
theorem AO.mono {w : World} {base base' : Nat} {v : Value} {l : List Int} (h : AO w base v l) (hb : base' ≤ base) : AO w base' v l := ownsRow_mono h hb
theorem AO.below {w w' : World} {base : Nat} {v : Value} {l : List Int} (h : AO w base v l) (hb : Below w.heap.size w w') : AO w' base v l := ownsRow_below h hb
/-- A row of actions that can be read. -/
def AR (w : World) (v : Value) (l : List Int) : Prop := Rd w 1 v l.length (ints l)
theorem AO.ar {w : World} {base : Nat} {v : Value} {l : List Int} (h : AO w base v l) : AR w v l := own_rd h
theorem AR.below {w w' : World} {v : Value} {l : List Int} (h : AR w v l) (hb : Below w.heap.size w w') : AR w' v l := Rd.below h hb
theorem AR.shape {w : World} {v : Value} {l : List Int} (h : AR w v l) : ∃ ao c, v = .slice ao l.length c ∧ l.length ≤ c ∧ c ≤ maxLen := Rd.shape h
theorem AR.cells {w : World} {ao : Option Addr} {n c : Nat} {l : List Int} (h : AR w (.slice ao n c) l) (hn : 0 < l.length) :
    ∃ b o, ao = some ⟨b, o, none⟩ ∧ b < w.heap.size ∧ ∀ (i : Nat) (hi : i < l.length), w.cell? ⟨b, o + i, none⟩ = some (.int .i64 l[i]) := by
  obtain ⟨_, _, e, _⟩ := h.shape
  simp only [Value.slice.injEq] at e
  obtain ⟨_, rfl, _⟩ := e
  obtain ⟨b, o, h1, h2, h3⟩ := Rd.cells h hn (by decide)
  exact ⟨b, o, h1, h2, fun i hi => h3 i _ (by simp [ints, hi])⟩
/-- A row that was just made. -/
theorem ao_new (w : World) (l : List Int) (hm : l.length ≤ 1000) : AO (w.alloc (.cells (ints l).toArray 36)) w.heap.size (.slice (some ⟨w.heap.size, 0, none⟩) l.length l.length) l :=
  own_new w (ints l) 36 l.length 1 (by rw [ints_len]; omega) (by unfold maxLen; omega)
/-- A state in memory. -/
def Sm (w : World) (p : Nat) (s : Int) : Prop := w.heap[p]? = some (.cells #[.int .i64 s] 46 (0, 0))
theorem Sm.gr {w w' : World} {p : Nat} {s : Int} (h : Sm w p s) (hb : Below w.heap.size w w') : Sm w' p s := heap_below h hb
/-- What an event's method tells, and what it turns. -/
def MRes (p : Nat) (w : World) (r : Option (Int × List Int)) (e : Ending) (w' : World) : Prop := match r with
  | none => e = .returned (.tuple #[.slice none 0 0, .bool false]) ∧ w' = w
  | some (n, l) => ∃ v, e = .returned (.tuple #[v, .bool true]) ∧ AO w' w.heap.size v l ∧ Sm w' p n ∧ Tr [p] w w'
theorem mres_of {w w1 : World} {p : Nat} {s n : Int} {l : List Int} {v : Value} (h : Sm w p s) (hb : Below w.heap.size w w1) (ho : AO w1 w.heap.size v l) :
    MRes p w (some (n, l)) (.returned (.tuple #[v, .bool true])) (w1.setCell ⟨p, 0, none⟩ (.int .i64 n)) := by
  have hp : p < w.heap.size := (Array.getElem?_eq_some_iff.1 h).1
  have h1 : w1.heap[p]? = some (.cells #[.int .i64 s] 46 (0, 0)) := heap_below h hb
  refine ⟨v, rfl, ownsRow_setCell_below ho hp _, heap_setCell_same _ p 0 _ _ _ h1, ?_⟩
  have hbp : Below p w (w1.setCell ⟨p, 0, none⟩ (.int .i64 n)) := (hb.mono (Nat.le_of_lt hp)).setCell (Nat.le_refl _) _
  refine ⟨hbp.os, hbp.tape, hbp.output, hbp.size, fun k hk hn => ?_⟩
  rw [← hb.block k hk]
  exact heap_setCell_other w1 _ k _ (by simpa using hn)
set_option maxHeartbeats 1000000 in
theorem to_any (p : Nat) (s n : Int) (v : Value) (w : World) (h : Sm w p s) :
    Calls Try.prog 52 #[.pointer (some ⟨p, 0, none⟩), .int .i64 n, v] w fun e w' => e = .returned (.tuple #[v, .bool true]) ∧ w' = w.setCell ⟨p, 0, none⟩ (.int .i64 n) := by
  have h : w.heap[p]? = some (.cells #[.int .i64 s] 46 (0, 0)) := h
  have k0 := cell1 h
  have f0 := frozen_of_row _ _ 0 _ _ h
  clear h
  go_enter Try.func52, Try.ntmps52
  go_wp2
  go_ret2
  exact ⟨rfl, rfl⟩
set_option maxHeartbeats 1000000 in
theorem stay_any (p : Nat) (s : Int) (v : Value) (w : World) (h : Sm w p s) :
    Calls Try.prog 53 #[.pointer (some ⟨p, 0, none⟩), v] w fun e w' => e = .returned (.tuple #[v, .bool true]) ∧ w' = w.setCell ⟨p, 0, none⟩ (.int .i64 s) := by
  have HT := Lib.hid (to_any p s s v w h)
  have h : w.heap[p]? = some (.cells #[.int .i64 s] 46 (0, 0)) := h
  have k0 := cell1 h
  clear h
  go_enter Try.func53, Try.ntmps53
  go_wp2_with fail
  refine HT.out.mono ?_
  rintro e w' ⟨rfl, rfl⟩
  go_wp2
  go_ret2
  exact ⟨rfl, rfl⟩
theorem isOne_any (p : Nat) (s : Int) (w : World) (h : Sm w p s) : Calls Try.prog 31 #[.pointer (some ⟨p, 0, none⟩)] w fun e w' => e = .returned (.bool (decide (InS s))) ∧ w' = w := by
  have h : w.heap[p]? = some (.cells #[.int .i64 s] 46 (0, 0)) := h
  have k0 := cell1 h
  clear h
  have hd : decide (InS s) = decide (0 ≤ s ∧ s ≤ 9) := by unfold InS; rfl
  rw [hd]
  clear hd
  by_cases h0 : 0 ≤ s
  · by_cases h1 : s ≤ 9
    · rw [decide_eq_true ⟨h0, h1⟩]
      go_enter Try.func31, Try.ntmps31
      go_wp2
      go_ret
      exact ⟨rfl, rfl⟩
    · rw [decide_eq_false (fun h => h1 h.2)]
      go_enter Try.func31, Try.ntmps31
      go_wp2
      go_ret
      exact ⟨rfl, rfl⟩
  · rw [decide_eq_false (fun h => h0 h.1)]
    go_enter Try.func31, Try.ntmps31
    go_wp2
    go_ret
    exact ⟨rfl, rfl⟩
end Go.Proofs.Ytmhiajjnkcneoaa.Fs
