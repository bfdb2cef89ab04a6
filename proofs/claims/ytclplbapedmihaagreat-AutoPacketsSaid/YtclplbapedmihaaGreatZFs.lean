/- IdP IdM FsP FsA FsH FsI FsB FsC FsD FsE FsF FsGa FsG FsJ FsN FsK FsL OpenE -/
import Derived.Test.YtclplbapedmihaaGreatZBase
import Derived.Deep.Cut
import Derived.ChangeArms
namespace Go.Proofs.YtclplbapedmihaaGreat.Id
set_option maxRecDepth 4000
set_option linter.unusedVariables false
def topT : Int := 1099511627776
structure Al where
 low : Int
 high : Int
 quiet : Int
 row : List Int
 used : List Int
 rest : List (Int × Int)
def okSet (low high quiet : Int) : Prop := 1 <= low /\ high <= 65534 /\ low <= high /\ 0 <= quiet /\ quiet <= topT
instance (l h q : Int) : Decidable (okSet l h q) := by unfold okSet; infer_instance
def numbers (low high : Int) : List Int := (List.range (high - low + 1).toNat).map fun i : Nat => low + (i : Int)
def okT (t : Int) : Prop := 0 <= t /\ t <= topT
instance (t : Int) : Decidable (okT t) := by unfold okT; infer_instance
def ready (t : Int) (p : Int × Int) : Bool := decide (p.2 <= t)
def free (S : Al) (t : Int) : Int := if okT t then (S.row.length : Int) + ((S.rest.filter (ready t)).length : Nat) else 0
def all (S : Al) : List Int := S.row ++ (S.used ++ S.rest.map (·.1))
end Go.Proofs.YtclplbapedmihaaGreat.Id
namespace Go.Proofs.YtclplbapedmihaaGreat.Id
set_option maxRecDepth 4000
open Go.RowKit
set_option linter.unusedVariables false
set_option linter.unusedSimpArgs false
structure Tr (K : List Nat) (w w' : World) : Prop where
 os : w'.os = w.os
 tape : w'.tape = w.tape
 output : w'.output = w.output
 size : w.heap.size <= w'.heap.size
 block : ∀ k, k < w.heap.size -> k ∉ K -> w'.heap[k]? = w.heap[k]?
theorem Tr.refl (K : List Nat) (w : World) : Tr K w w := ⟨rfl, rfl, rfl, Nat.le_refl _, fun _ _ _ => rfl⟩
theorem Tr.trans {K L : List Nat} {u v w : World} (h : Tr K u v) (k : Tr L v w) (hL : ∀ i ∈ L, i ∈ K \/ u.heap.size <= i) : Tr K u w :=
 ⟨k.os.trans h.os, k.tape.trans h.tape, k.output.trans h.output, Nat.le_trans h.size k.size, fun i hi hn => (k.block i (Nat.lt_of_lt_of_le hi h.size) fun hl => by rcases hL i hl with h1 | h1; exact hn h1; omega).trans (h.block i hi hn)⟩
theorem Tr.gr {K : List Nat} {w w' : World} (h : Below w.heap.size w w') : Tr K w w' := ⟨h.os, h.tape, h.output, h.size, fun k hk _ => h.block k hk⟩
theorem Tr.only {K : List Nat} {g : Nat} {w w' : World} (h : Only g w w') (hg : g ∈ K) : Tr K w w' := by
 have h0 := h.below 0 w (Nat.zero_le _) (Below.refl _ _);exact ⟨h0.os, h0.tape, h0.output, h.size, fun k hk hn => h.heap k hk fun e => hn (e ▸ hg)⟩
theorem Tr.below {K : List Nat} {B : Nat} {u w w' : World} (hu : Below B u w) (hB : B <= w.heap.size) (h : Tr K w w') (hK : ∀ k ∈ K, B <= k) : Below B u w' :=
 hu.trans ⟨h.os, h.tape, h.output, h.size, fun k hk => h.block k (by omega) fun hk' => by have := hK k hk'; omega⟩
def blk : Value -> List Nat
 | .slice (some ad) _ _ => [ad.block]
 | _ => []
def flatR (l : List (Int × Int)) : List Value := l.flatMap fun p => [.int .i64 p.1, .int .i64 p.2]
theorem flatR_cons (p : Int × Int) (l : List (Int × Int)) : flatR (p :: l) = .int .i64 p.1 :: .int .i64 p.2 :: flatR l := rfl
theorem flatR_get : ∀ (l : List (Int × Int)) (k : Nat) (hk : k < l.length), (flatR l)[k * 2]? = some (.int .i64 l[k].1) /\ (flatR l)[k * 2 + 1]? = some (.int .i64 l[k].2)
 | p :: l, 0, _ => ⟨rfl, rfl⟩
 | p :: l, k + 1, hk => by
  have h := flatR_get l k (by simpa using hk);rw [flatR_cons, show (k + 1) * 2 = k * 2 + 1 + 1 by omega];simpa using h
theorem ints_cell (l : List Int) : ∀ v ∈ l.map (Value.int .i64), v.oneCell' = true := by
 intro v hv;obtain ⟨x, _, rfl⟩ := List.mem_map.1 hv;rfl
def RR (w : World) (v : Value) (l : List (Int × Int)) : Prop := Rd w 2 v l.length (flatR l)
theorem RR.shape {w : World} {v : Value} {l : List (Int × Int)} (h : RR w v l) : ∃ ao c, v = .slice ao l.length c /\ l.length <= c /\ c <= maxLen := Rd.shape h
theorem RR.cells {w : World} {ao : Option Addr} {n c : Nat} {l : List (Int × Int)} (h : RR w (.slice ao n c) l) (hn : 0 < l.length) :
 ∃ b o, ao = some ⟨b, o, none⟩ /\ b < w.heap.size /\ ∀ (i : Nat) (hi : i < l.length), w.cell? ⟨b, o + i * 2, none⟩ = some (.int .i64 l[i].1) /\ w.cell? ⟨b, o + i * 2 + 1, none⟩ = some (.int .i64 l[i].2) := by
 obtain ⟨_, _, e, _⟩ := h.shape;simp only [Value.slice.injEq] at e;obtain ⟨_, rfl, _⟩ := e;obtain ⟨b, o, h1, h2, h3⟩ := Rd.cells h hn (by decide);refine ⟨b, o, h1, h2, fun i hi => ?_⟩;have g := flatR_get l i hi;exact ⟨h3 _ _ g.1, by rw [Nat.add_assoc]; exact h3 _ _ g.2⟩
theorem own_blk {w : World} {base : Nat} {e : TypeId} {v : Value} {size n : Nat} {xs : List Value} (h : w.ownsRow base e size v n xs) : ∀ k ∈ blk v, base <= k /\ k < w.heap.size := by
 intro k hk
 rcases h.2 with ⟨rfl, _⟩ | ⟨g, cap, cur, rfl, hb, hg, _⟩
 · cases hk
 · obtain rfl := List.mem_singleton.1 hk;exact ⟨hb, (Array.getElem?_eq_some_iff.1 hg).1⟩
end Go.Proofs.YtclplbapedmihaaGreat.Id
namespace Go.Proofs.YtclplbapedmihaaGreat.Fs
set_option maxRecDepth 4000
set_option linter.unusedVariables false
set_option linter.unusedSimpArgs false
def names : List (List UInt8) := [
 [73, 110, 105, 116, 105, 97, 108],
 [83, 116, 97, 114, 116, 105, 110, 103],
 [67, 108, 111, 115, 101, 100],
 [83, 116, 111, 112, 112, 101, 100],
 [67, 108, 111, 115, 105, 110, 103],
 [83, 116, 111, 112, 112, 105, 110, 103],
 [82, 101, 113, 45, 83, 101, 110, 116],
 [65, 99, 107, 45, 82, 99, 118, 100],
 [65, 99, 107, 45, 83, 101, 110, 116],
 [79, 112, 101, 110, 101, 100]]
def acs : List (List UInt8) := [
 [],
 [116, 108, 117],
 [116, 108, 100],
 [116, 108, 115],
 [116, 108, 102],
 [105, 114, 99],
 [122, 114, 99],
 [115, 99, 114],
 [115, 99, 97],
 [115, 99, 110],
 [115, 116, 114],
 [115, 116, 97],
 [115, 99, 106],
 [115, 101, 114]]
def cellT : List (List (List UInt8)) := [
 [[50], [105, 114, 99, 32, 115, 99, 114, 47, 54], [45], [45], [45], [45], [45], [45], [45], [45]],
 [[45], [45], [48], [116, 108, 115, 47, 49], [48], [49], [49], [49], [49], [116, 108, 100, 47, 49]],
 [[116, 108, 115, 47, 49], [49], [105, 114, 99, 32, 115, 99, 114, 47, 54], [51], [53], [53], [54], [55], [56], [57]],
 [[48], [116, 108, 102, 47, 48], [50], [50], [52], [52], [105, 114, 99, 32, 115, 116, 114, 47, 52], [105, 114, 99, 32, 115, 116, 114, 47, 52], [105, 114, 99, 32, 115, 116, 114, 47, 52], [116, 108, 100, 32, 105, 114, 99, 32, 115, 116, 114, 47, 52]],
 [[45], [45], [45], [45], [115, 116, 114, 47, 52], [115, 116, 114, 47, 53], [115, 99, 114, 47, 54], [115, 99, 114, 47, 54], [115, 99, 114, 47, 56], [45]],
 [[45], [45], [45], [45], [116, 108, 102, 47, 50], [116, 108, 102, 47, 51], [116, 108, 102, 47, 51], [116, 108, 102, 47, 51], [116, 108, 102, 47, 51], [45]],
 [[45], [45], [115, 116, 97, 47, 50], [105, 114, 99, 32, 115, 99, 114, 32, 115, 99, 97, 47, 56], [52], [53], [115, 99, 97, 47, 56], [115, 99, 97, 32, 116, 108, 117, 47, 57], [115, 99, 97, 47, 56], [116, 108, 100, 32, 115, 99, 114, 32, 115, 99, 97, 47, 56]],
 [[45], [45], [115, 116, 97, 47, 50], [105, 114, 99, 32, 115, 99, 114, 32, 115, 99, 110, 47, 54], [52], [53], [115, 99, 110, 47, 54], [115, 99, 110, 47, 55], [115, 99, 110, 47, 54], [116, 108, 100, 32, 115, 99, 114, 32, 115, 99, 110, 47, 54]],
 [[45], [45], [115, 116, 97, 47, 50], [115, 116, 97, 47, 51], [52], [53], [105, 114, 99, 47, 55], [115, 99, 114, 47, 54], [105, 114, 99, 32, 116, 108, 117, 47, 57], [116, 108, 100, 32, 115, 99, 114, 47, 54]],
 [[45], [45], [115, 116, 97, 47, 50], [115, 116, 97, 47, 51], [52], [53], [105, 114, 99, 32, 115, 99, 114, 47, 54], [115, 99, 114, 47, 54], [105, 114, 99, 32, 115, 99, 114, 47, 56], [116, 108, 100, 32, 115, 99, 114, 47, 54]],
 [[45], [45], [115, 116, 97, 47, 50], [115, 116, 97, 47, 51], [115, 116, 97, 47, 52], [115, 116, 97, 47, 53], [115, 116, 97, 47, 54], [115, 116, 97, 47, 54], [115, 116, 97, 47, 54], [116, 108, 100, 32, 122, 114, 99, 32, 115, 116, 97, 47, 53]],
 [[45], [45], [50], [51], [116, 108, 102, 47, 50], [116, 108, 102, 47, 51], [54], [54], [56], [116, 108, 100, 32, 115, 99, 114, 47, 54]],
 [[45], [45], [115, 99, 106, 47, 50], [115, 99, 106, 47, 51], [115, 99, 106, 47, 52], [115, 99, 106, 47, 53], [115, 99, 106, 47, 54], [115, 99, 106, 47, 55], [115, 99, 106, 47, 56], [115, 99, 106, 47, 57]],
 [[45], [45], [50], [51], [52], [53], [54], [54], [56], [57]],
 [[45], [45], [116, 108, 102, 47, 50], [116, 108, 102, 47, 51], [116, 108, 102, 47, 50], [116, 108, 102, 47, 51], [116, 108, 102, 47, 51], [116, 108, 102, 47, 51], [116, 108, 102, 47, 51], [116, 108, 100, 32, 105, 114, 99, 32, 115, 116, 114, 47, 53]],
 [[45], [45], [50], [51], [52], [53], [54], [55], [56], [115, 101, 114, 47, 57]]]
def tabT : List (List (Option (Int × List Int))) := [
 [some (2, []), some (6, [5, 7]), none, none, none, none, none, none, none, none],
 [none, none, some (0, []), some (1, [3]), some (0, []), some (1, []), some (1, []), some (1, []), some (1, []), some (1, [2])],
 [some (1, [3]), some (1, []), some (6, [5, 7]), some (3, []), some (5, []), some (5, []), some (6, []), some (7, []), some (8, []), some (9, [])],
 [some (0, []), some (0, [4]), some (2, []), some (2, []), some (4, []), some (4, []), some (4, [5, 10]), some (4, [5, 10]), some (4, [5, 10]), some (4, [2, 5, 10])],
 [none, none, none, none, some (4, [10]), some (5, [10]), some (6, [7]), some (6, [7]), some (8, [7]), none],
 [none, none, none, none, some (2, [4]), some (3, [4]), some (3, [4]), some (3, [4]), some (3, [4]), none],
 [none, none, some (2, [11]), some (8, [5, 7, 8]), some (4, []), some (5, []), some (8, [8]), some (9, [8, 1]), some (8, [8]), some (8, [2, 7, 8])],
 [none, none, some (2, [11]), some (6, [5, 7, 9]), some (4, []), some (5, []), some (6, [9]), some (7, [9]), some (6, [9]), some (6, [2, 7, 9])],
 [none, none, some (2, [11]), some (3, [11]), some (4, []), some (5, []), some (7, [5]), some (6, [7]), some (9, [5, 1]), some (6, [2, 7])],
 [none, none, some (2, [11]), some (3, [11]), some (4, []), some (5, []), some (6, [5, 7]), some (6, [7]), some (8, [5, 7]), some (6, [2, 7])],
 [none, none, some (2, [11]), some (3, [11]), some (4, [11]), some (5, [11]), some (6, [11]), some (6, [11]), some (6, [11]), some (5, [2, 6, 11])],
 [none, none, some (2, []), some (3, []), some (2, [4]), some (3, [4]), some (6, []), some (6, []), some (8, []), some (6, [2, 7])],
 [none, none, some (2, [12]), some (3, [12]), some (4, [12]), some (5, [12]), some (6, [12]), some (7, [12]), some (8, [12]), some (9, [12])],
 [none, none, some (2, []), some (3, []), some (4, []), some (5, []), some (6, []), some (6, []), some (8, []), some (9, [])],
 [none, none, some (2, [4]), some (3, [4]), some (2, [4]), some (3, [4]), some (3, [4]), some (3, [4]), some (3, [4]), some (5, [2, 5, 10])],
 [none, none, some (2, []), some (3, []), some (4, []), some (5, []), some (6, []), some (7, []), some (8, []), some (9, [13])]]
def InS (s : Int) : Prop := 0 <= s /\ s <= 9
instance (s : Int) : Decidable (InS s) := by unfold InS; infer_instance
def InE (e : Int) : Prop := 1 <= e /\ e <= 16
instance (e : Int) : Decidable (InE e) := by unfold InE; infer_instance
def tab (s e : Int) : Option (Int × List Int) := (tabT.getD (e.toNat - 1) []).getD s.toNat none
def cellOf (s e : Int) : List UInt8 := (cellT.getD (e.toNat - 1) []).getD s.toNat []
def stp (s e : Int) : Int × List Int × Int := if InS s /\ InE e then (match tab s e with | none => (0, [], 5) | some (n, l) => (n, l, 0)) else (0, [], 140)
theorem all_steps (p : Int -> Int -> Bool) (h : ((List.range 10).all fun s => (List.range 16).all fun e => p (s : Int) ((e : Int) + 1)) = true) : ∀ s e, InS s -> InE e -> p s e = true := by
 intro s e hs he;have h1 := List.all_eq_true.1 h s.toNat (List.mem_range.2 (by unfold InS at hs; omega));have h2 := List.all_eq_true.1 h1 (e - 1).toNat (List.mem_range.2 (by unfold InE at he; omega));have e1 : ((s.toNat : Nat) : Int) = s := by unfold InS at hs; omega
 have e2 : (((e - 1).toNat : Nat) : Int) + 1 = e := by unfold InE at he; omega
 rwa [e1, e2] at h2
theorem stp_ok {s e : Int} (h : (stp s e).2.2 = 0) : InS s /\ InE e := by
 unfold stp at h
 by_cases c : InS s /\ InE e
 · exact c
 · rw [if_neg c] at h; exact absurd h (by decide)
theorem stp_out {s e : Int} (h : ¬ (InS s /\ InE e)) : stp s e = (0, [], 140) := by unfold stp; rw [if_neg h]
theorem stp_err {s e : Int} (h : (stp s e).2.2 ≠ 0) : (stp s e).1 = 0 /\ (stp s e).2.1 = [] := by
 unfold stp at h ⊢
 by_cases c : InS s /\ InE e
 · rw [if_pos c] at h ⊢;cases ht : tab s e with
   | none => exact ⟨rfl, rfl⟩
   | some x => rw [ht] at h; exact absurd rfl h
 · rw [if_neg c]; exact ⟨rfl, rfl⟩
theorem stp_in {s e : Int} (h : (stp s e).2.2 = 0) : InS (stp s e).1 := by
 obtain ⟨h1, h2⟩ := stp_ok h;have := all_steps (fun s e => decide (InS (stp s e).1)) (by decide +kernel) s e h1 h2;exact of_decide_eq_true this
theorem stp_short (s e : Int) : (stp s e).2.1.length <= 3 := by
 by_cases c : InS s /\ InE e
 · have := all_steps (fun s e => decide ((stp s e).2.1.length <= 3)) (by decide +kernel) s e c.1 c.2;exact of_decide_eq_true this
 · rw [stp_out c]; decide
def look (l : List (List UInt8)) (t : List UInt8) : Nat -> Option Nat
 | 0 => none
 | n + 1 => match look l t n with
  | some i => some i
  | none => if l.getD n [] = t then some n else none
theorem look_yes {l : List (List UInt8)} {t : List UInt8} {n m : Nat} (h : look l t n = none) (ht : l.getD n [] = t) (hm : n < m) : look l t m = some n := by
 induction m with
 | zero => omega
 | succ m ih =>
  unfold look
  by_cases c : n = m
  · subst c; rw [h]; show (if l.getD n [] = t then some n else none) = some n; rw [if_pos ht]
  · rw [ih (by omega)]
theorem look_no {l : List (List UInt8)} {t : List UInt8} {n : Nat} (h : look l t n = none) (ht : ¬ l.getD n [] = t) : look l t (n + 1) = none := by
 unfold look;rw [h];show (if l.getD n [] = t then some n else none) = none;rw [if_neg ht]
def act (t : List UInt8) : Int := match look acs.tail t 13 with | some i => (i : Int) + 1 | none => 0
def actsN (c : List UInt8) (k : Nat) : List Int := (List.range k).map fun j => act ((c.drop (j * 4)).take 3)
theorem actsN_succ (c : List UInt8) (k : Nat) : actsN c (k + 1) = actsN c k ++ [act ((c.drop (k * 4)).take 3)] := by simp [actsN, List.range_succ]
def last (c : List UInt8) : Nat := (c.getD (c.length - 1) 0).toNat
def readC (c : List UInt8) : Option (Int × List Int) := if c = [45] then none else some ((last c : Int) - 48, actsN c (c.length / 4))
theorem read_tab {s e : Int} (hs : InS s) (he : InE e) : readC (cellOf s e) = tab s e := by
 have := all_steps (fun s e => decide (readC (cellOf s e) = tab s e)) (by decide +kernel) s e hs he;exact of_decide_eq_true this
theorem cell_ok {s e : Int} (hs : InS s) (he : InE e) : 0 < (cellOf s e).length /\ (cellOf s e).length <= 13 /\ (cellOf s e).length % 4 ≠ 0 /\ (cellOf s e).length % 4 ≠ 3 /\ (cellOf s e = [45] \/ 48 <= last (cellOf s e) /\ last (cellOf s e) <= 57) := by
 have := all_steps (fun s e => decide (0 < (cellOf s e).length /\ (cellOf s e).length <= 13 /\ (cellOf s e).length % 4 ≠ 0 /\ (cellOf s e).length % 4 ≠ 3 /\ (cellOf s e = [45] \/ 48 <= last (cellOf s e) /\ last (cellOf s e) <= 57))) (by decide +kernel) s e hs he;exact of_decide_eq_true this
abbrev Wk := Int × List Int × Nat × Int
def run : Int -> List Int -> Wk
 | s, [] => (s, [], 0, 0)
 | s, e :: es => if (stp s e).2.2 = 0 then (let r := run (stp s e).1 es; (r.1, (stp s e).2.1 ++ r.2.1, r.2.2.1 + 1, r.2.2.2)) else (s, [], 0, (stp s e).2.2)
def Gone (s : Int) (es : List Int) (k : Nat) (t : Int) (acc : List Int) : Prop :=
 run s es = ((run t (es.drop k)).1, acc ++ (run t (es.drop k)).2.1, k + (run t (es.drop k)).2.2.1, (run t (es.drop k)).2.2.2)
def timed (s : Int) : Bool := decide (4 <= s /\ s <= 8)
end Go.Proofs.YtclplbapedmihaaGreat.Fs
namespace Go.Proofs.YtclplbapedmihaaGreat.Fs
set_option maxRecDepth 4000
open Go.RowKit
open Go.Proofs.YtclplbapedmihaaGreat.Id (Tr Tr.refl Tr.gr Tr.only)
set_option linter.unusedVariables false
set_option linter.unusedSimpArgs false
def ints (l : List Int) : List Value := l.map (Value.int .i64)
theorem ints_len (l : List Int) : (ints l).length = l.length := List.length_map ..
theorem ints_app (l m : List Int) : ints (l ++ m) = ints l ++ ints m := List.map_append
theorem ints_cell (l : List Int) : ∀ v ∈ ints l, v.oneCell' = true := by
 intro v hv;obtain ⟨x, _, rfl⟩ := List.mem_map.1 hv;rfl
def AO (w : World) (base : Nat) (v : Value) (l : List Int) : Prop := w.ownsRow base 82 1 v l.length (ints l)
theorem AO.nil (w : World) (base : Nat) : AO w base (.slice none 0 0) [] := World.ownsRow_nil w base 82 1
theorem AO.mono {w : World} {base base' : Nat} {v : Value} {l : List Int} (h : AO w base v l) (hb : base' <= base) : AO w base' v l := ownsRow_mono h hb
theorem AO.below {w w' : World} {base : Nat} {v : Value} {l : List Int} (h : AO w base v l) (hb : Below w.heap.size w w') : AO w' base v l := ownsRow_below h hb
def AR (w : World) (v : Value) (l : List Int) : Prop := Rd w 1 v l.length (ints l)
theorem AO.ar {w : World} {base : Nat} {v : Value} {l : List Int} (h : AO w base v l) : AR w v l := own_rd h
theorem AR.below {w w' : World} {v : Value} {l : List Int} (h : AR w v l) (hb : Below w.heap.size w w') : AR w' v l := Rd.below h hb
theorem AR.shape {w : World} {v : Value} {l : List Int} (h : AR w v l) : ∃ ao c, v = .slice ao l.length c /\ l.length <= c /\ c <= maxLen := Rd.shape h
theorem AR.cells {w : World} {ao : Option Addr} {n c : Nat} {l : List Int} (h : AR w (.slice ao n c) l) (hn : 0 < l.length) :
 ∃ b o, ao = some ⟨b, o, none⟩ /\ b < w.heap.size /\ ∀ (i : Nat) (hi : i < l.length), w.cell? ⟨b, o + i, none⟩ = some (.int .i64 l[i]) := by
 obtain ⟨_, _, e, _⟩ := h.shape;simp only [Value.slice.injEq] at e;obtain ⟨_, rfl, _⟩ := e;obtain ⟨b, o, h1, h2, h3⟩ := Rd.cells h hn (by decide);exact ⟨b, o, h1, h2, fun i hi => h3 i _ (by simp [ints, hi])⟩
theorem ao_new (w : World) (l : List Int) (hm : l.length <= 1000) : AO (w.alloc (.cells (ints l).toArray 82)) w.heap.size (.slice (some ⟨w.heap.size, 0, none⟩) l.length l.length) l :=
 own_new w (ints l) 82 l.length 1 (by rw [ints_len]; omega) (by unfold maxLen; omega)
def Sm (w : World) (p : Nat) (s : Int) : Prop := w.heap[p]? = some (.cells #[.int .i64 s] 124 (0, 0))
theorem Sm.cell {w : World} {p : Nat} {s : Int} (h : Sm w p s) : w.cell? ⟨p, 0, none⟩ = some (.int .i64 s) := by
 rw [cell_of_row w p _ _ _ _ (show w.heap[p]? = some (.cells #[.int .i64 s] 124 (0, 0)) from h)]; rfl
theorem Sm.gr {w w' : World} {p : Nat} {s : Int} (h : Sm w p s) (hb : Below w.heap.size w w') : Sm w' p s := heap_below h hb
def MRes (p : Nat) (w : World) (r : Option (Int × List Int)) (e : Ending) (w' : World) : Prop := match r with
 | none => e = .returned (.tuple #[.slice none 0 0, .bool false]) /\ w' = w
 | some (n, l) => ∃ v, e = .returned (.tuple #[v, .bool true]) /\ AO w' w.heap.size v l /\ Sm w' p n /\ Tr [p] w w'
theorem mres_of {w w1 : World} {p : Nat} {s n : Int} {l : List Int} {v : Value} (h : Sm w p s) (hb : Below w.heap.size w w1) (ho : AO w1 w.heap.size v l) :
 MRes p w (some (n, l)) (.returned (.tuple #[v, .bool true])) (w1.setCell ⟨p, 0, none⟩ (.int .i64 n)) := by
 have hp : p < w.heap.size := (Array.getElem?_eq_some_iff.1 h).1;have h1 : w1.heap[p]? = some (.cells #[.int .i64 s] 124 (0, 0)) := heap_below h hb;refine ⟨v, rfl, ownsRow_setCell_below ho hp _, heap_setCell_same _ p 0 _ _ _ h1, ?_⟩;have hbp : Below p w (w1.setCell ⟨p, 0, none⟩ (.int .i64 n)) := (hb.mono (Nat.le_of_lt hp)).setCell (Nat.le_refl _) _;refine ⟨hbp.os, hbp.tape, hbp.output, hbp.size, fun k hk hn => ?_⟩;rw [<- hb.block k hk];exact heap_setCell_other w1 _ k _ (by simpa using hn)
set_option maxHeartbeats 1000000 in
theorem to_any (p : Nat) (s n : Int) (v : Value) (w : World) (h : Sm w p s) :
 Calls Tryz.prog 155 #[.pointer (some ⟨p, 0, none⟩), .int .i64 n, v] w fun e w' => e = .returned (.tuple #[v, .bool true]) /\ w' = w.setCell ⟨p, 0, none⟩ (.int .i64 n) := by
 have h : w.heap[p]? = some (.cells #[.int .i64 s] 124 (0, 0)) := h;have k0 := cell1 h;have f0 := frozen_of_row _ _ 0 _ _ h;clear h;go_enter Tryz.func155, Tryz.ntmps155
 go_wp2
 go_ret2
 exact ⟨rfl, rfl⟩
set_option maxHeartbeats 1000000 in
theorem stay_any (p : Nat) (s : Int) (v : Value) (w : World) (h : Sm w p s) :
 Calls Tryz.prog 156 #[.pointer (some ⟨p, 0, none⟩), v] w fun e w' => e = .returned (.tuple #[v, .bool true]) /\ w' = w.setCell ⟨p, 0, none⟩ (.int .i64 s) := by
 have HT := hd_ (to_any p s s v w h);have h : w.heap[p]? = some (.cells #[.int .i64 s] 124 (0, 0)) := h;have k0 := cell1 h;clear h;go_enter Tryz.func156, Tryz.ntmps156
 go_wp2_with fail
 refine HT.out.mono ?_;rintro e w' ⟨rfl, rfl⟩;go_wp2
 go_ret2
 exact ⟨rfl, rfl⟩
theorem isOne_any (p : Nat) (s : Int) (w : World) (h : Sm w p s) : Calls Tryz.prog 94 #[.pointer (some ⟨p, 0, none⟩)] w fun e w' => e = .returned (.bool (decide (InS s))) /\ w' = w := by
 have h : w.heap[p]? = some (.cells #[.int .i64 s] 124 (0, 0)) := h;have k0 := cell1 h;clear h;have hd : decide (InS s) = decide (0 <= s /\ s <= 9) := by unfold InS; rfl
 rw [hd];clear hd
 by_cases h0 : 0 <= s
 · by_cases h1 : s <= 9
   · rw [decide_eq_true ⟨h0, h1⟩];go_enter Tryz.func94, Tryz.ntmps94
     go_wp2
     go_ret
     exact ⟨rfl, rfl⟩
   · rw [decide_eq_false (fun h => h1 h.2)];go_enter Tryz.func94, Tryz.ntmps94
     go_wp2
     go_ret
     exact ⟨rfl, rfl⟩
 · rw [decide_eq_false (fun h => h0 h.1)];go_enter Tryz.func94, Tryz.ntmps94
   go_wp2
   go_ret
   exact ⟨rfl, rfl⟩
end Go.Proofs.YtclplbapedmihaaGreat.Fs
namespace Go.Proofs.YtclplbapedmihaaGreat.Fs
set_option maxRecDepth 4000
open Go.RowKit
set_option linter.unusedVariables false
set_option linter.unusedSimpArgs false
theorem ret_b {b c : Bool} (h : b = c) : Ending.returned (.bool c) = Ending.returned (.bool b) := by rw [h]
theorem AR.at {w : World} {ao : Option Addr} {n c : Nat} {l : List Int} (h : AR w (.slice ao n c) l) (hl : n = l.length) (hn : 0 < n) :
 ∃ b o, ao = some ⟨b, o, none⟩ /\ ∀ (i : Nat) (hi : i < l.length), w.cell? ⟨b, o + i, none⟩ = some (.int .i64 l[i]) := by
 obtain ⟨b, o, h1, _, h3⟩ := h.cells (by omega);exact ⟨b, o, h1, h3⟩
theorem cell_gr {w w' : World} {p : Addr} {v : Value} (hb : Below w.heap.size w w') (h : w.cell? p = some v) : w'.cell? p = some v := by
 rw [hb.cell (World.block_lt_of_cell? w p h)]; exact h
set_option maxHeartbeats 2000000 in
set_option maxRecDepth 20000 in
theorem same_same' (a a' : Option Addr) (n c c' : Nat) (l : List Int) (w : World) (h : AR w (.slice a n c) l) (h' : AR w (.slice a' n c') l) (hn : n = l.length) (hb : n <= 65534) :
 Calls Tryz.prog 15 #[.slice a n c, .slice a' n c'] w fun e w' => e = .returned (.bool true) /\ Below w.heap.size w w' := by
 have HN := hd_ hn;have H := hd_ h;have H' := hd_ h';clear h h' hn;go_enter Tryz.func15, Tryz.ntmps15
 go_wp2_with fail
 go_loopw [5] (fun iv wr => ∃ i : Nat, i <= n /\ iv = .int .i64 (i : Int) /\ Below w.heap.size w wr) (fun iv _ => n - (intOf iv).toNat)
 case atStart => exact ⟨0, Nat.zero_le _, rfl, Below.refl _ _⟩
 case round =>
  obtain ⟨i, hin, rfl, hbw⟩ := hrel;have HB := hd_ hbw;clear hbw
  by_cases hlt : i < n
  · have hil : i < l.length := by rw [<- HN.out]; exact hlt
    obtain ⟨b, o, ea, hc⟩ := AR.at H.out HN.out (by omega);obtain ⟨b', o', ea', hc'⟩ := AR.at H'.out HN.out (by omega);subst ea ea';obtain ⟨x, hx⟩ : ∃ x, x = l[i] := ⟨_, rfl⟩;have d0 := hc i hil;have d1 := hc' i hil;rw [<- hx] at d0 d1;have D0 := hd_ (cell_gr HB.out d0);have D1 := hd_ (cell_gr HB.out d1);have hxx : (x != x) = false := by simp
    have hle : i + 1 <= n := by omega
    clear hx d0 d1 hc hc' hil;go_upto_region 6 with fail
    have HC : Hid (Gr wr wr.drew) := Gr.drew wr;refine wp_region_G 9 Gr (by kernel_rfl) ?_;generalize wr.drew = wc at HC ⊢;refine wpG_u preGr 0 (some 17) ?_;refine wpG_u preGr 1 (some 18) ?_;refine wpG_u preGr 2 (some 19) ?_ (hy := fun w' hw' => by
     try (have d0 := cell_gr (Gr.trans HC.out hw') D0.out; have d1 := cell_gr (Gr.trans HC.out hw') D1.out)
     go_simp;with_reducible rfl)
    refine wpG_u preGr 3 (some 20) ?_ (hy := fun w' hw' => by
     try (have d0 := cell_gr (Gr.trans HC.out hw') D0.out; have d1 := cell_gr (Gr.trans HC.out hw') D1.out)
     go_simp;with_reducible rfl)
    refine wpG_u preGr 4 (some 21) ?_;refine wpG_u preGr 5 (some 22) ?_;refine wpG_u preGr 6 (some 23) ?_ (hy := fun w' hw' => by
     try (have d0 := cell_gr (Gr.trans HC.out hw') D0.out; have d1 := cell_gr (Gr.trans HC.out hw') D1.out)
     go_simp;with_reducible rfl)
    refine wpG_u preGr 7 (some 24) ?_ (hy := fun w' hw' => by
     try (have d0 := cell_gr (Gr.trans HC.out hw') D0.out; have d1 := cell_gr (Gr.trans HC.out hw') D1.out)
     go_simp;with_reducible rfl)
    refine wpG_u preGr 8 (some 25) ?_;refine wpG_done (by kernel_rfl) ?_ _;have HB2 : Hid (Below w.heap.size w wc) := HB.out.trans (Below.mono HC.out HB.out.size);clear HC D0 D1;go_wp2_with fail
    go_roundw
    case rel =>
     first
      | exact ⟨i + 1, hle, by go_num, HB2.out⟩
      | ((repeat apply Exists.intro); exact ⟨⟨i + 1, hle, by go_num, HB2.out⟩, rfl⟩)
    case measure => simp [intOf]; omega
  · go_wp2_with fail
    go_ret
    exact ⟨rfl, HB.out⟩
theorem same_same {v v' : Value} {l : List Int} (w : World) (h : AR w v l) (h' : AR w v' l) (hb : l.length <= 65534) :
 Calls Tryz.prog 15 #[v, v'] w fun e w' => e = .returned (.bool true) /\ Below w.heap.size w w' := by
 obtain ⟨a, c, rfl, _⟩ := h.shape;obtain ⟨a', c', rfl, _⟩ := h'.shape;exact same_same' a a' l.length c c' l w h h' rfl hb
set_option maxHeartbeats 2000000 in
set_option maxRecDepth 20000 in
theorem has_any' (a : Option Addr) (n c : Nat) (l : List Int) (x : Int) (w : World) (h : AR w (.slice a n c) l) (hn : n = l.length) (hb : n <= 65534) :
 Calls Tryz.prog 62 #[.slice a n c, .int .i64 x] w fun e w' => e = .returned (.bool (decide (x ∈ l))) /\ w' = w := by
 have HN := hd_ hn;have H := hd_ h;clear h hn;go_enter Tryz.func62, Tryz.ntmps62
 go_wp2_with fail
 go_loopw [5] (fun iv wr => ∃ i : Nat, i <= n /\ iv = .int .i64 (i : Int) /\ x ∉ l.take i /\ wr = w) (fun iv _ => n - (intOf iv).toNat)
 case atStart => exact ⟨0, Nat.zero_le _, rfl, by simp, rfl⟩
 case round =>
  obtain ⟨i, hin, rfl, hno, rfl⟩ := hrel;have HNO := hd_ hno;clear hno
  by_cases hlt : i < n
  · have hil : i < l.length := by rw [<- HN.out]; exact hlt
    obtain ⟨b, o, ea, hc⟩ := AR.at H.out HN.out (by omega);subst ea;obtain ⟨y, hy⟩ : ∃ y, y = l[i] := ⟨_, rfl⟩;have d0 := hc i hil;rw [<- hy] at d0;have HT : Hid (l.take (i + 1) = l.take i ++ [y]) := by show _ = _; rw [hy]; exact List.take_succ_eq_append_getElem hil
    have HM : Hid (y ∈ l) := by show _ ∈ _; rw [hy]; exact List.getElem_mem _
    have hle : i + 1 <= n := by omega
    clear hy hc hil
    by_cases hxy : y = x
    · have HD : Hid (decide (x ∈ l) = true) := decide_eq_true (hxy ▸ HM.out);go_wp2_with fail
      go_ret
      exact ⟨ret_b HD.out, rfl⟩
    · have HD : Hid (x ∉ l.take (i + 1)) := by
       show _ ∉ _;rw [HT.out, List.mem_append];rintro (h | h)
       · exact HNO.out h
       · exact hxy (List.mem_singleton.1 h).symm
      go_wp2_with fail
      go_roundw
      case rel =>
       first
        | exact ⟨i + 1, hle, by go_num, HD.out, by first | rfl | trivial⟩
        | ((repeat apply Exists.intro); exact ⟨⟨i + 1, hle, by go_num, HD.out, by first | rfl | trivial⟩, rfl⟩)
      case measure => simp [intOf]; omega
  · have HD : Hid (decide (x ∈ l) = false) := decide_eq_false (by have := HNO.out; rwa [List.take_of_length_le (by have := HN.out; omega)] at this);go_wp2_with fail
    go_ret
    exact ⟨ret_b HD.out, rfl⟩
theorem has_any {v : Value} {l : List Int} (x : Int) (w : World) (h : AR w v l) (hb : l.length <= 65534) :
 Calls Tryz.prog 62 #[v, .int .i64 x] w fun e w' => e = .returned (.bool (decide (x ∈ l))) /\ w' = w := by
 obtain ⟨a, c, rfl, _⟩ := h.shape;exact has_any' a l.length c l x w h rfl hb
end Go.Proofs.YtclplbapedmihaaGreat.Fs
namespace Go.Proofs.YtclplbapedmihaaGreat.Fs
set_option maxRecDepth 4000
open Go.RowKit
open Go.Proofs.YtclplbapedmihaaGreat.Id (Tr Tr.refl Tr.gr Tr.only)
set_option linter.unusedVariables false
set_option linter.unusedSimpArgs false
def tx (l : List UInt8) : Value := .string ⟨l.toArray⟩
def txs (l : List (List UInt8)) : List Value := l.map tx
theorem txs_at (l : List (List UInt8)) (j : Nat) (h : j < l.length) : (txs l)[j]? = some (tx (l.getD j [])) := by simp [txs, h]
def TR (w : World) (l : List (List UInt8)) (e : Ending) (w' : World) : Prop :=
 e = .returned (.slice (some ⟨w.heap.size, 0, none⟩) l.length l.length) /\ Below w.heap.size w w' /\ ∀ j, j < l.length -> w'.cell? ⟨w.heap.size, j, none⟩ = some (tx (l.getD j []))
theorem tr_new (w : World) (l : List (List UInt8)) : TR w l (.returned (.slice (some ⟨w.heap.size, 0, none⟩) l.length l.length)) (w.alloc (.cells (txs l).toArray 9)) := by
 refine ⟨rfl, (Below.refl _ _).alloc (Nat.le_refl _) _, fun j hj => ?_⟩;rw [World.cell?_alloc_new];have := txs_at l j hj;simpa using this
theorem actions_any (w : World) : Calls Tryz.prog 83 #[] w (TR w acs) := by
 have H := hd_ (tr_new w acs);go_enter Tryz.func83, Tryz.ntmps83
 go_wp2
 go_ret
 exact H.out
set_option maxHeartbeats 4000000 in
theorem row_yes (e : Int) (w : World) (he : InE e) : Calls Tryz.prog 60 #[.int .i64 e] w (TR w (cellT.getD (e.toNat - 1) [])) := by
 have he' : e = 1 \/ e = 2 \/ e = 3 \/ e = 4 \/ e = 5 \/ e = 6 \/ e = 7 \/ e = 8 \/ e = 9 \/ e = 10 \/ e = 11 \/ e = 12 \/ e = 13 \/ e = 14 \/ e = 15 \/ e = 16 := by unfold InE at he; omega
 clear he;obtain rfl | rfl | rfl | rfl | rfl | rfl | rfl | rfl | rfl | rfl | rfl | rfl | rfl | rfl | rfl | rfl := he'
 · have H := hd_ (tr_new w (cellT.getD 0 []));go_enter Tryz.func60, Tryz.ntmps60
   go_wp2
   go_ret
   exact H.out
 · have H := hd_ (tr_new w (cellT.getD 1 []));go_enter Tryz.func60, Tryz.ntmps60
   go_wp2
   go_ret
   exact H.out
 · have H := hd_ (tr_new w (cellT.getD 2 []));go_enter Tryz.func60, Tryz.ntmps60
   go_wp2
   go_ret
   exact H.out
 · have H := hd_ (tr_new w (cellT.getD 3 []));go_enter Tryz.func60, Tryz.ntmps60
   go_wp2
   go_ret
   exact H.out
 · have H := hd_ (tr_new w (cellT.getD 4 []));go_enter Tryz.func60, Tryz.ntmps60
   go_wp2
   go_ret
   exact H.out
 · have H := hd_ (tr_new w (cellT.getD 5 []));go_enter Tryz.func60, Tryz.ntmps60
   go_wp2
   go_ret
   exact H.out
 · have H := hd_ (tr_new w (cellT.getD 6 []));go_enter Tryz.func60, Tryz.ntmps60
   go_wp2
   go_ret
   exact H.out
 · have H := hd_ (tr_new w (cellT.getD 7 []));go_enter Tryz.func60, Tryz.ntmps60
   go_wp2
   go_ret
   exact H.out
 · have H := hd_ (tr_new w (cellT.getD 8 []));go_enter Tryz.func60, Tryz.ntmps60
   go_wp2
   go_ret
   exact H.out
 · have H := hd_ (tr_new w (cellT.getD 9 []));go_enter Tryz.func60, Tryz.ntmps60
   go_wp2
   go_ret
   exact H.out
 · have H := hd_ (tr_new w (cellT.getD 10 []));go_enter Tryz.func60, Tryz.ntmps60
   go_wp2
   go_ret
   exact H.out
 · have H := hd_ (tr_new w (cellT.getD 11 []));go_enter Tryz.func60, Tryz.ntmps60
   go_wp2
   go_ret
   exact H.out
 · have H := hd_ (tr_new w (cellT.getD 12 []));go_enter Tryz.func60, Tryz.ntmps60
   go_wp2
   go_ret
   exact H.out
 · have H := hd_ (tr_new w (cellT.getD 13 []));go_enter Tryz.func60, Tryz.ntmps60
   go_wp2
   go_ret
   exact H.out
 · have H := hd_ (tr_new w (cellT.getD 14 []));go_enter Tryz.func60, Tryz.ntmps60
   go_wp2
   go_ret
   exact H.out
 · have H := hd_ (tr_new w (cellT.getD 15 []));go_enter Tryz.func60, Tryz.ntmps60
   go_wp2
   go_ret
   exact H.out
set_option maxHeartbeats 4000000 in
theorem row_no (e : Int) (w : World) (he : ¬ InE e) : Calls Tryz.prog 60 #[.int .i64 e] w fun x w' => x = .returned (.slice none 0 0) /\ w' = w := by
 unfold InE at he;have h1 : ¬ e = 1 := by omega
 have h2 : ¬ e = 2 := by omega
 have h3 : ¬ e = 3 := by omega
 have h4 : ¬ e = 4 := by omega
 have h5 : ¬ e = 5 := by omega
 have h6 : ¬ e = 6 := by omega
 have h7 : ¬ e = 7 := by omega
 have h8 : ¬ e = 8 := by omega
 have h9 : ¬ e = 9 := by omega
 have h10 : ¬ e = 10 := by omega
 have h11 : ¬ e = 11 := by omega
 have h12 : ¬ e = 12 := by omega
 have h13 : ¬ e = 13 := by omega
 have h14 : ¬ e = 14 := by omega
 have h15 : ¬ e = 15 := by omega
 have h16 : ¬ e = 16 := by omega
 clear he;go_enter Tryz.func60, Tryz.ntmps60
 go_wp2
 go_ret
 exact ⟨rfl, rfl⟩
end Go.Proofs.YtclplbapedmihaaGreat.Fs
namespace Go.Proofs.YtclplbapedmihaaGreat.Fs
set_option maxRecDepth 4000
open Go.RowKit
open Go.Proofs.YtclplbapedmihaaGreat.Id (Tr Tr.refl Tr.gr Tr.only)
set_option linter.unusedVariables false
set_option linter.unusedSimpArgs false
theorem ten {s : Int} (h : InS s) : s = 0 \/ s = 1 \/ s = 2 \/ s = 3 \/ s = 4 \/ s = 5 \/ s = 6 \/ s = 7 \/ s = 8 \/ s = 9 := by unfold InS at h; omega
section
variable {p : Nat} {w : World}
theorem to_row (s n : Int) (l : List Int) (w : World) (h : Sm w p s) (hl : l.length <= 1000) :
 Calls Tryz.prog 155 #[.pointer (some ⟨p, 0, none⟩), .int .i64 n, .slice (some ⟨w.heap.size, 0, none⟩) l.length l.length] (w.alloc (.cells (ints l).toArray 82)) fun e w' => e = .returned (.tuple #[.slice (some ⟨w.heap.size, 0, none⟩) l.length l.length, .bool true]) /\ MRes p w (some (n, l)) (.returned (.tuple #[.slice (some ⟨w.heap.size, 0, none⟩) l.length l.length, .bool true])) w' := by
 have hb := (Below.refl w.heap.size w).alloc (Nat.le_refl _) (.cells (ints l).toArray 82);refine (to_any p s n _ _ (h.gr hb)).mono ?_;rintro e w' ⟨rfl, rfl⟩;exact ⟨rfl, mres_of h hb (ao_new w l hl)⟩
theorem to_nil (s n : Int) (w : World) (h : Sm w p s) :
 Calls Tryz.prog 155 #[.pointer (some ⟨p, 0, none⟩), .int .i64 n, .slice none 0 0] w fun e w' => e = .returned (.tuple #[.slice none 0 0, .bool true]) /\ MRes p w (some (n, [])) (.returned (.tuple #[.slice none 0 0, .bool true])) w' := by
 refine (to_any p s n _ _ h).mono ?_;rintro e w' ⟨rfl, rfl⟩;exact ⟨rfl, mres_of h (Below.refl _ _) (AO.nil _ _)⟩
theorem stay_row (s : Int) (l : List Int) (w : World) (h : Sm w p s) (hl : l.length <= 1000) :
 Calls Tryz.prog 156 #[.pointer (some ⟨p, 0, none⟩), .slice (some ⟨w.heap.size, 0, none⟩) l.length l.length] (w.alloc (.cells (ints l).toArray 82)) fun e w' => e = .returned (.tuple #[.slice (some ⟨w.heap.size, 0, none⟩) l.length l.length, .bool true]) /\ MRes p w (some (s, l)) (.returned (.tuple #[.slice (some ⟨w.heap.size, 0, none⟩) l.length l.length, .bool true])) w' := by
 have hb := (Below.refl w.heap.size w).alloc (Nat.le_refl _) (.cells (ints l).toArray 82);refine (stay_any p s _ _ (h.gr hb)).mono ?_;rintro e w' ⟨rfl, rfl⟩;exact ⟨rfl, mres_of h hb (ao_new w l hl)⟩
theorem stay_nil (s : Int) (w : World) (h : Sm w p s) :
 Calls Tryz.prog 156 #[.pointer (some ⟨p, 0, none⟩), .slice none 0 0] w fun e w' => e = .returned (.tuple #[.slice none 0 0, .bool true]) /\ MRes p w (some (s, [])) (.returned (.tuple #[.slice none 0 0, .bool true])) w' := by
 refine (stay_any p s _ _ h).mono ?_;rintro e w' ⟨rfl, rfl⟩;exact ⟨rfl, mres_of h (Below.refl _ _) (AO.nil _ _)⟩
set_option maxHeartbeats 4000000 in
theorem m_1 (p : Nat) (s : Int) (w : World) (hs : InS s) (h : Sm w p s) : Calls Tryz.prog 116 #[.pointer (some ⟨p, 0, none⟩)] w (MRes p w (tab s 1)) := by
 obtain rfl | rfl | rfl | rfl | rfl | rfl | rfl | rfl | rfl | rfl := ten hs
 rw [show tab 0 1 = some (2, []) from rfl]; have HT := hd_ (to_nil (p := p) 0 2 w h); rotate_left;rw [show tab 1 1 = some (6, [5, 7]) from rfl]; have HT := hd_ (to_row (p := p) 1 6 [5, 7] w h (by decide)); rotate_left;rw [show tab 2 1 = none from rfl]; rotate_left;rw [show tab 3 1 = none from rfl]; rotate_left;rw [show tab 4 1 = none from rfl]; rotate_left;rw [show tab 5 1 = none from rfl]; rotate_left;rw [show tab 6 1 = none from rfl]; rotate_left;rw [show tab 7 1 = none from rfl]; rotate_left;rw [show tab 8 1 = none from rfl]; rotate_left;rw [show tab 9 1 = none from rfl]; rotate_left
 all_goals
  have k0 := h.cell;clear h hs;go_enter Tryz.func116, Tryz.ntmps116
  go_wp2_with fail
  first
   | ((first | refine HT.out.mono ?_ | refine HS.out.mono ?_); rintro e w' ⟨rfl, hm⟩; have HM := hd_ hm; clear hm HT; (try clear HS); go_wp2; go_ret2; exact HM.out)
   | (go_ret2; exact ⟨rfl, rfl⟩)
set_option maxHeartbeats 4000000 in
theorem m_2 (p : Nat) (s : Int) (w : World) (hs : InS s) (h : Sm w p s) : Calls Tryz.prog 117 #[.pointer (some ⟨p, 0, none⟩)] w (MRes p w (tab s 2)) := by
 obtain rfl | rfl | rfl | rfl | rfl | rfl | rfl | rfl | rfl | rfl := ten hs
 rw [show tab 0 2 = none from rfl]; rotate_left;rw [show tab 1 2 = none from rfl]; rotate_left;rw [show tab 2 2 = some (0, []) from rfl]; have HT := hd_ (to_nil (p := p) 2 0 w h); rotate_left;rw [show tab 3 2 = some (1, [3]) from rfl]; have HT := hd_ (to_row (p := p) 3 1 [3] w h (by decide)); rotate_left;rw [show tab 4 2 = some (0, []) from rfl]; have HT := hd_ (to_nil (p := p) 4 0 w h); rotate_left;rw [show tab 5 2 = some (1, []) from rfl]; have HT := hd_ (to_nil (p := p) 5 1 w h); rotate_left;rw [show tab 6 2 = some (1, []) from rfl]; have HT := hd_ (to_nil (p := p) 6 1 w h); rotate_left;rw [show tab 7 2 = some (1, []) from rfl]; have HT := hd_ (to_nil (p := p) 7 1 w h); rotate_left;rw [show tab 8 2 = some (1, []) from rfl]; have HT := hd_ (to_nil (p := p) 8 1 w h); rotate_left;rw [show tab 9 2 = some (1, [2]) from rfl]; have HT := hd_ (to_row (p := p) 9 1 [2] w h (by decide)); rotate_left
 all_goals
  have k0 := h.cell;clear h hs;go_enter Tryz.func117, Tryz.ntmps117
  go_wp2_with fail
  first
   | ((first | refine HT.out.mono ?_ | refine HS.out.mono ?_); rintro e w' ⟨rfl, hm⟩; have HM := hd_ hm; clear hm HT; (try clear HS); go_wp2; go_ret2; exact HM.out)
   | (go_ret2; exact ⟨rfl, rfl⟩)
set_option maxHeartbeats 4000000 in
theorem m_3 (p : Nat) (s : Int) (w : World) (hs : InS s) (h : Sm w p s) : Calls Tryz.prog 118 #[.pointer (some ⟨p, 0, none⟩)] w (MRes p w (tab s 3)) := by
 obtain rfl | rfl | rfl | rfl | rfl | rfl | rfl | rfl | rfl | rfl := ten hs
 rw [show tab 0 3 = some (1, [3]) from rfl]; have HT := hd_ (to_row (p := p) 0 1 [3] w h (by decide)); rotate_left;rw [show tab 1 3 = some (1, []) from rfl]; have HT := hd_ (to_nil (p := p) 1 1 w h); have HS := hd_ (stay_nil (p := p) 1 w h); rotate_left;rw [show tab 2 3 = some (6, [5, 7]) from rfl]; have HT := hd_ (to_row (p := p) 2 6 [5, 7] w h (by decide)); rotate_left;rw [show tab 3 3 = some (3, []) from rfl]; have HT := hd_ (to_nil (p := p) 3 3 w h); have HS := hd_ (stay_nil (p := p) 3 w h); rotate_left;rw [show tab 4 3 = some (5, []) from rfl]; have HT := hd_ (to_nil (p := p) 4 5 w h); rotate_left;rw [show tab 5 3 = some (5, []) from rfl]; have HT := hd_ (to_nil (p := p) 5 5 w h); have HS := hd_ (stay_nil (p := p) 5 w h); rotate_left;rw [show tab 6 3 = some (6, []) from rfl]; have HT := hd_ (to_nil (p := p) 6 6 w h); have HS := hd_ (stay_nil (p := p) 6 w h); rotate_left;rw [show tab 7 3 = some (7, []) from rfl]; have HT := hd_ (to_nil (p := p) 7 7 w h); have HS := hd_ (stay_nil (p := p) 7 w h); rotate_left;rw [show tab 8 3 = some (8, []) from rfl]; have HT := hd_ (to_nil (p := p) 8 8 w h); have HS := hd_ (stay_nil (p := p) 8 w h); rotate_left;rw [show tab 9 3 = some (9, []) from rfl]; have HT := hd_ (to_nil (p := p) 9 9 w h); have HS := hd_ (stay_nil (p := p) 9 w h); rotate_left
 all_goals
  have k0 := h.cell;clear h hs;go_enter Tryz.func118, Tryz.ntmps118
  go_wp2_with fail
  first
   | ((first | refine HT.out.mono ?_ | refine HS.out.mono ?_); rintro e w' ⟨rfl, hm⟩; have HM := hd_ hm; clear hm HT; (try clear HS); go_wp2; go_ret2; exact HM.out)
   | (go_ret2; exact ⟨rfl, rfl⟩)
set_option maxHeartbeats 4000000 in
theorem m_4 (p : Nat) (s : Int) (w : World) (hs : InS s) (h : Sm w p s) : Calls Tryz.prog 119 #[.pointer (some ⟨p, 0, none⟩)] w (MRes p w (tab s 4)) := by
 obtain rfl | rfl | rfl | rfl | rfl | rfl | rfl | rfl | rfl | rfl := ten hs
 rw [show tab 0 4 = some (0, []) from rfl]; have HT := hd_ (to_nil (p := p) 0 0 w h); have HS := hd_ (stay_nil (p := p) 0 w h); rotate_left;rw [show tab 1 4 = some (0, [4]) from rfl]; have HT := hd_ (to_row (p := p) 1 0 [4] w h (by decide)); rotate_left;rw [show tab 2 4 = some (2, []) from rfl]; have HT := hd_ (to_nil (p := p) 2 2 w h); have HS := hd_ (stay_nil (p := p) 2 w h); rotate_left;rw [show tab 3 4 = some (2, []) from rfl]; have HT := hd_ (to_nil (p := p) 3 2 w h); rotate_left;rw [show tab 4 4 = some (4, []) from rfl]; have HT := hd_ (to_nil (p := p) 4 4 w h); have HS := hd_ (stay_nil (p := p) 4 w h); rotate_left;rw [show tab 5 4 = some (4, []) from rfl]; have HT := hd_ (to_nil (p := p) 5 4 w h); rotate_left;rw [show tab 6 4 = some (4, [5, 10]) from rfl]; have HT := hd_ (to_row (p := p) 6 4 [5, 10] w h (by decide)); rotate_left;rw [show tab 7 4 = some (4, [5, 10]) from rfl]; have HT := hd_ (to_row (p := p) 7 4 [5, 10] w h (by decide)); rotate_left;rw [show tab 8 4 = some (4, [5, 10]) from rfl]; have HT := hd_ (to_row (p := p) 8 4 [5, 10] w h (by decide)); rotate_left;rw [show tab 9 4 = some (4, [2, 5, 10]) from rfl]; have HT := hd_ (to_row (p := p) 9 4 [2, 5, 10] w h (by decide)); rotate_left
 all_goals
  have k0 := h.cell;clear h hs;go_enter Tryz.func119, Tryz.ntmps119
  go_wp2_with fail
  first
   | ((first | refine HT.out.mono ?_ | refine HS.out.mono ?_); rintro e w' ⟨rfl, hm⟩; have HM := hd_ hm; clear hm HT; (try clear HS); go_wp2; go_ret2; exact HM.out)
   | (go_ret2; exact ⟨rfl, rfl⟩)
set_option maxHeartbeats 4000000 in
theorem m_5 (p : Nat) (s : Int) (w : World) (hs : InS s) (h : Sm w p s) : Calls Tryz.prog 120 #[.pointer (some ⟨p, 0, none⟩)] w (MRes p w (tab s 5)) := by
 obtain rfl | rfl | rfl | rfl | rfl | rfl | rfl | rfl | rfl | rfl := ten hs
 rw [show tab 0 5 = none from rfl]; rotate_left;rw [show tab 1 5 = none from rfl]; rotate_left;rw [show tab 2 5 = none from rfl]; rotate_left;rw [show tab 3 5 = none from rfl]; rotate_left;rw [show tab 4 5 = some (4, [10]) from rfl]; have HT := hd_ (to_row (p := p) 4 4 [10] w h (by decide)); have HS := hd_ (stay_row (p := p) 4 [10] w h (by decide)); rotate_left;rw [show tab 5 5 = some (5, [10]) from rfl]; have HT := hd_ (to_row (p := p) 5 5 [10] w h (by decide)); have HS := hd_ (stay_row (p := p) 5 [10] w h (by decide)); rotate_left;rw [show tab 6 5 = some (6, [7]) from rfl]; have HT := hd_ (to_row (p := p) 6 6 [7] w h (by decide)); have HS := hd_ (stay_row (p := p) 6 [7] w h (by decide)); rotate_left;rw [show tab 7 5 = some (6, [7]) from rfl]; have HT := hd_ (to_row (p := p) 7 6 [7] w h (by decide)); rotate_left;rw [show tab 8 5 = some (8, [7]) from rfl]; have HT := hd_ (to_row (p := p) 8 8 [7] w h (by decide)); have HS := hd_ (stay_row (p := p) 8 [7] w h (by decide)); rotate_left;rw [show tab 9 5 = none from rfl]; rotate_left
 all_goals
  have k0 := h.cell;clear h hs;go_enter Tryz.func120, Tryz.ntmps120
  go_wp2_with fail
  first
   | ((first | refine HT.out.mono ?_ | refine HS.out.mono ?_); rintro e w' ⟨rfl, hm⟩; have HM := hd_ hm; clear hm HT; (try clear HS); go_wp2; go_ret2; exact HM.out)
   | (go_ret2; exact ⟨rfl, rfl⟩)
set_option maxHeartbeats 4000000 in
theorem m_6 (p : Nat) (s : Int) (w : World) (hs : InS s) (h : Sm w p s) : Calls Tryz.prog 121 #[.pointer (some ⟨p, 0, none⟩)] w (MRes p w (tab s 6)) := by
 obtain rfl | rfl | rfl | rfl | rfl | rfl | rfl | rfl | rfl | rfl := ten hs
 rw [show tab 0 6 = none from rfl]; rotate_left;rw [show tab 1 6 = none from rfl]; rotate_left;rw [show tab 2 6 = none from rfl]; rotate_left;rw [show tab 3 6 = none from rfl]; rotate_left;rw [show tab 4 6 = some (2, [4]) from rfl]; have HT := hd_ (to_row (p := p) 4 2 [4] w h (by decide)); rotate_left;rw [show tab 5 6 = some (3, [4]) from rfl]; have HT := hd_ (to_row (p := p) 5 3 [4] w h (by decide)); rotate_left;rw [show tab 6 6 = some (3, [4]) from rfl]; have HT := hd_ (to_row (p := p) 6 3 [4] w h (by decide)); rotate_left;rw [show tab 7 6 = some (3, [4]) from rfl]; have HT := hd_ (to_row (p := p) 7 3 [4] w h (by decide)); rotate_left;rw [show tab 8 6 = some (3, [4]) from rfl]; have HT := hd_ (to_row (p := p) 8 3 [4] w h (by decide)); rotate_left;rw [show tab 9 6 = none from rfl]; rotate_left
 all_goals
  have k0 := h.cell;clear h hs;go_enter Tryz.func121, Tryz.ntmps121
  go_wp2_with fail
  first
   | ((first | refine HT.out.mono ?_ | refine HS.out.mono ?_); rintro e w' ⟨rfl, hm⟩; have HM := hd_ hm; clear hm HT; (try clear HS); go_wp2; go_ret2; exact HM.out)
   | (go_ret2; exact ⟨rfl, rfl⟩)
set_option maxHeartbeats 4000000 in
theorem m_7 (p : Nat) (s : Int) (w : World) (hs : InS s) (h : Sm w p s) : Calls Tryz.prog 122 #[.pointer (some ⟨p, 0, none⟩)] w (MRes p w (tab s 7)) := by
 obtain rfl | rfl | rfl | rfl | rfl | rfl | rfl | rfl | rfl | rfl := ten hs
 rw [show tab 0 7 = none from rfl]; rotate_left;rw [show tab 1 7 = none from rfl]; rotate_left;rw [show tab 2 7 = some (2, [11]) from rfl]; have HT := hd_ (to_row (p := p) 2 2 [11] w h (by decide)); have HS := hd_ (stay_row (p := p) 2 [11] w h (by decide)); rotate_left;rw [show tab 3 7 = some (8, [5, 7, 8]) from rfl]; have HT := hd_ (to_row (p := p) 3 8 [5, 7, 8] w h (by decide)); rotate_left;rw [show tab 4 7 = some (4, []) from rfl]; have HT := hd_ (to_nil (p := p) 4 4 w h); have HS := hd_ (stay_nil (p := p) 4 w h); rotate_left;rw [show tab 5 7 = some (5, []) from rfl]; have HT := hd_ (to_nil (p := p) 5 5 w h); have HS := hd_ (stay_nil (p := p) 5 w h); rotate_left;rw [show tab 6 7 = some (8, [8]) from rfl]; have HT := hd_ (to_row (p := p) 6 8 [8] w h (by decide)); rotate_left;rw [show tab 7 7 = some (9, [8, 1]) from rfl]; have HT := hd_ (to_row (p := p) 7 9 [8, 1] w h (by decide)); rotate_left;rw [show tab 8 7 = some (8, [8]) from rfl]; have HT := hd_ (to_row (p := p) 8 8 [8] w h (by decide)); have HS := hd_ (stay_row (p := p) 8 [8] w h (by decide)); rotate_left;rw [show tab 9 7 = some (8, [2, 7, 8]) from rfl]; have HT := hd_ (to_row (p := p) 9 8 [2, 7, 8] w h (by decide)); rotate_left
 all_goals
  have k0 := h.cell;clear h hs;go_enter Tryz.func122, Tryz.ntmps122
  go_wp2_with fail
  first
   | ((first | refine HT.out.mono ?_ | refine HS.out.mono ?_); rintro e w' ⟨rfl, hm⟩; have HM := hd_ hm; clear hm HT; (try clear HS); go_wp2; go_ret2; exact HM.out)
   | (go_ret2; exact ⟨rfl, rfl⟩)
set_option maxHeartbeats 4000000 in
theorem m_8 (p : Nat) (s : Int) (w : World) (hs : InS s) (h : Sm w p s) : Calls Tryz.prog 123 #[.pointer (some ⟨p, 0, none⟩)] w (MRes p w (tab s 8)) := by
 obtain rfl | rfl | rfl | rfl | rfl | rfl | rfl | rfl | rfl | rfl := ten hs
 rw [show tab 0 8 = none from rfl]; rotate_left;rw [show tab 1 8 = none from rfl]; rotate_left;rw [show tab 2 8 = some (2, [11]) from rfl]; have HT := hd_ (to_row (p := p) 2 2 [11] w h (by decide)); have HS := hd_ (stay_row (p := p) 2 [11] w h (by decide)); rotate_left;rw [show tab 3 8 = some (6, [5, 7, 9]) from rfl]; have HT := hd_ (to_row (p := p) 3 6 [5, 7, 9] w h (by decide)); rotate_left;rw [show tab 4 8 = some (4, []) from rfl]; have HT := hd_ (to_nil (p := p) 4 4 w h); have HS := hd_ (stay_nil (p := p) 4 w h); rotate_left;rw [show tab 5 8 = some (5, []) from rfl]; have HT := hd_ (to_nil (p := p) 5 5 w h); have HS := hd_ (stay_nil (p := p) 5 w h); rotate_left;rw [show tab 6 8 = some (6, [9]) from rfl]; have HT := hd_ (to_row (p := p) 6 6 [9] w h (by decide)); have HS := hd_ (stay_row (p := p) 6 [9] w h (by decide)); rotate_left;rw [show tab 7 8 = some (7, [9]) from rfl]; have HT := hd_ (to_row (p := p) 7 7 [9] w h (by decide)); have HS := hd_ (stay_row (p := p) 7 [9] w h (by decide)); rotate_left;rw [show tab 8 8 = some (6, [9]) from rfl]; have HT := hd_ (to_row (p := p) 8 6 [9] w h (by decide)); rotate_left;rw [show tab 9 8 = some (6, [2, 7, 9]) from rfl]; have HT := hd_ (to_row (p := p) 9 6 [2, 7, 9] w h (by decide)); rotate_left
 all_goals
  have k0 := h.cell;clear h hs;go_enter Tryz.func123, Tryz.ntmps123
  go_wp2_with fail
  first
   | ((first | refine HT.out.mono ?_ | refine HS.out.mono ?_); rintro e w' ⟨rfl, hm⟩; have HM := hd_ hm; clear hm HT; (try clear HS); go_wp2; go_ret2; exact HM.out)
   | (go_ret2; exact ⟨rfl, rfl⟩)
set_option maxHeartbeats 4000000 in
theorem m_9 (p : Nat) (s : Int) (w : World) (hs : InS s) (h : Sm w p s) : Calls Tryz.prog 124 #[.pointer (some ⟨p, 0, none⟩)] w (MRes p w (tab s 9)) := by
 obtain rfl | rfl | rfl | rfl | rfl | rfl | rfl | rfl | rfl | rfl := ten hs
 rw [show tab 0 9 = none from rfl]; rotate_left;rw [show tab 1 9 = none from rfl]; rotate_left;rw [show tab 2 9 = some (2, [11]) from rfl]; have HT := hd_ (to_row (p := p) 2 2 [11] w h (by decide)); have HS := hd_ (stay_row (p := p) 2 [11] w h (by decide)); rotate_left;rw [show tab 3 9 = some (3, [11]) from rfl]; have HT := hd_ (to_row (p := p) 3 3 [11] w h (by decide)); have HS := hd_ (stay_row (p := p) 3 [11] w h (by decide)); rotate_left;rw [show tab 4 9 = some (4, []) from rfl]; have HT := hd_ (to_nil (p := p) 4 4 w h); have HS := hd_ (stay_nil (p := p) 4 w h); rotate_left;rw [show tab 5 9 = some (5, []) from rfl]; have HT := hd_ (to_nil (p := p) 5 5 w h); have HS := hd_ (stay_nil (p := p) 5 w h); rotate_left;rw [show tab 6 9 = some (7, [5]) from rfl]; have HT := hd_ (to_row (p := p) 6 7 [5] w h (by decide)); rotate_left;rw [show tab 7 9 = some (6, [7]) from rfl]; have HT := hd_ (to_row (p := p) 7 6 [7] w h (by decide)); rotate_left;rw [show tab 8 9 = some (9, [5, 1]) from rfl]; have HT := hd_ (to_row (p := p) 8 9 [5, 1] w h (by decide)); rotate_left;rw [show tab 9 9 = some (6, [2, 7]) from rfl]; have HT := hd_ (to_row (p := p) 9 6 [2, 7] w h (by decide)); rotate_left
 all_goals
  have k0 := h.cell;clear h hs;go_enter Tryz.func124, Tryz.ntmps124
  go_wp2_with fail
  first
   | ((first | refine HT.out.mono ?_ | refine HS.out.mono ?_); rintro e w' ⟨rfl, hm⟩; have HM := hd_ hm; clear hm HT; (try clear HS); go_wp2; go_ret2; exact HM.out)
   | (go_ret2; exact ⟨rfl, rfl⟩)
set_option maxHeartbeats 4000000 in
theorem m_10 (p : Nat) (s : Int) (w : World) (hs : InS s) (h : Sm w p s) : Calls Tryz.prog 125 #[.pointer (some ⟨p, 0, none⟩)] w (MRes p w (tab s 10)) := by
 obtain rfl | rfl | rfl | rfl | rfl | rfl | rfl | rfl | rfl | rfl := ten hs
 rw [show tab 0 10 = none from rfl]; rotate_left;rw [show tab 1 10 = none from rfl]; rotate_left;rw [show tab 2 10 = some (2, [11]) from rfl]; have HT := hd_ (to_row (p := p) 2 2 [11] w h (by decide)); have HS := hd_ (stay_row (p := p) 2 [11] w h (by decide)); rotate_left;rw [show tab 3 10 = some (3, [11]) from rfl]; have HT := hd_ (to_row (p := p) 3 3 [11] w h (by decide)); have HS := hd_ (stay_row (p := p) 3 [11] w h (by decide)); rotate_left;rw [show tab 4 10 = some (4, []) from rfl]; have HT := hd_ (to_nil (p := p) 4 4 w h); have HS := hd_ (stay_nil (p := p) 4 w h); rotate_left;rw [show tab 5 10 = some (5, []) from rfl]; have HT := hd_ (to_nil (p := p) 5 5 w h); have HS := hd_ (stay_nil (p := p) 5 w h); rotate_left;rw [show tab 6 10 = some (6, [5, 7]) from rfl]; have HT := hd_ (to_row (p := p) 6 6 [5, 7] w h (by decide)); have HS := hd_ (stay_row (p := p) 6 [5, 7] w h (by decide)); rotate_left;rw [show tab 7 10 = some (6, [7]) from rfl]; have HT := hd_ (to_row (p := p) 7 6 [7] w h (by decide)); rotate_left;rw [show tab 8 10 = some (8, [5, 7]) from rfl]; have HT := hd_ (to_row (p := p) 8 8 [5, 7] w h (by decide)); have HS := hd_ (stay_row (p := p) 8 [5, 7] w h (by decide)); rotate_left;rw [show tab 9 10 = some (6, [2, 7]) from rfl]; have HT := hd_ (to_row (p := p) 9 6 [2, 7] w h (by decide)); rotate_left
 all_goals
  have k0 := h.cell;clear h hs;go_enter Tryz.func125, Tryz.ntmps125
  go_wp2_with fail
  first
   | ((first | refine HT.out.mono ?_ | refine HS.out.mono ?_); rintro e w' ⟨rfl, hm⟩; have HM := hd_ hm; clear hm HT; (try clear HS); go_wp2; go_ret2; exact HM.out)
   | (go_ret2; exact ⟨rfl, rfl⟩)
set_option maxHeartbeats 4000000 in
theorem m_11 (p : Nat) (s : Int) (w : World) (hs : InS s) (h : Sm w p s) : Calls Tryz.prog 126 #[.pointer (some ⟨p, 0, none⟩)] w (MRes p w (tab s 11)) := by
 obtain rfl | rfl | rfl | rfl | rfl | rfl | rfl | rfl | rfl | rfl := ten hs
 rw [show tab 0 11 = none from rfl]; rotate_left;rw [show tab 1 11 = none from rfl]; rotate_left;rw [show tab 2 11 = some (2, [11]) from rfl]; have HT := hd_ (to_row (p := p) 2 2 [11] w h (by decide)); have HS := hd_ (stay_row (p := p) 2 [11] w h (by decide)); rotate_left;rw [show tab 3 11 = some (3, [11]) from rfl]; have HT := hd_ (to_row (p := p) 3 3 [11] w h (by decide)); have HS := hd_ (stay_row (p := p) 3 [11] w h (by decide)); rotate_left;rw [show tab 4 11 = some (4, [11]) from rfl]; have HT := hd_ (to_row (p := p) 4 4 [11] w h (by decide)); have HS := hd_ (stay_row (p := p) 4 [11] w h (by decide)); rotate_left;rw [show tab 5 11 = some (5, [11]) from rfl]; have HT := hd_ (to_row (p := p) 5 5 [11] w h (by decide)); have HS := hd_ (stay_row (p := p) 5 [11] w h (by decide)); rotate_left;rw [show tab 6 11 = some (6, [11]) from rfl]; have HT := hd_ (to_row (p := p) 6 6 [11] w h (by decide)); have HS := hd_ (stay_row (p := p) 6 [11] w h (by decide)); rotate_left;rw [show tab 7 11 = some (6, [11]) from rfl]; have HT := hd_ (to_row (p := p) 7 6 [11] w h (by decide)); rotate_left;rw [show tab 8 11 = some (6, [11]) from rfl]; have HT := hd_ (to_row (p := p) 8 6 [11] w h (by decide)); rotate_left;rw [show tab 9 11 = some (5, [2, 6, 11]) from rfl]; have HT := hd_ (to_row (p := p) 9 5 [2, 6, 11] w h (by decide)); rotate_left
 all_goals
  have k0 := h.cell;clear h hs;go_enter Tryz.func126, Tryz.ntmps126
  go_wp2_with fail
  first
   | ((first | refine HT.out.mono ?_ | refine HS.out.mono ?_); rintro e w' ⟨rfl, hm⟩; have HM := hd_ hm; clear hm HT; (try clear HS); go_wp2; go_ret2; exact HM.out)
   | (go_ret2; exact ⟨rfl, rfl⟩)
set_option maxHeartbeats 4000000 in
theorem m_12 (p : Nat) (s : Int) (w : World) (hs : InS s) (h : Sm w p s) : Calls Tryz.prog 127 #[.pointer (some ⟨p, 0, none⟩)] w (MRes p w (tab s 12)) := by
 obtain rfl | rfl | rfl | rfl | rfl | rfl | rfl | rfl | rfl | rfl := ten hs
 rw [show tab 0 12 = none from rfl]; rotate_left;rw [show tab 1 12 = none from rfl]; rotate_left;rw [show tab 2 12 = some (2, []) from rfl]; have HT := hd_ (to_nil (p := p) 2 2 w h); have HS := hd_ (stay_nil (p := p) 2 w h); rotate_left;rw [show tab 3 12 = some (3, []) from rfl]; have HT := hd_ (to_nil (p := p) 3 3 w h); have HS := hd_ (stay_nil (p := p) 3 w h); rotate_left;rw [show tab 4 12 = some (2, [4]) from rfl]; have HT := hd_ (to_row (p := p) 4 2 [4] w h (by decide)); rotate_left;rw [show tab 5 12 = some (3, [4]) from rfl]; have HT := hd_ (to_row (p := p) 5 3 [4] w h (by decide)); rotate_left;rw [show tab 6 12 = some (6, []) from rfl]; have HT := hd_ (to_nil (p := p) 6 6 w h); have HS := hd_ (stay_nil (p := p) 6 w h); rotate_left;rw [show tab 7 12 = some (6, []) from rfl]; have HT := hd_ (to_nil (p := p) 7 6 w h); rotate_left;rw [show tab 8 12 = some (8, []) from rfl]; have HT := hd_ (to_nil (p := p) 8 8 w h); have HS := hd_ (stay_nil (p := p) 8 w h); rotate_left;rw [show tab 9 12 = some (6, [2, 7]) from rfl]; have HT := hd_ (to_row (p := p) 9 6 [2, 7] w h (by decide)); rotate_left
 all_goals
  have k0 := h.cell;clear h hs;go_enter Tryz.func127, Tryz.ntmps127
  go_wp2_with fail
  first
   | ((first | refine HT.out.mono ?_ | refine HS.out.mono ?_); rintro e w' ⟨rfl, hm⟩; have HM := hd_ hm; clear hm HT; (try clear HS); go_wp2; go_ret2; exact HM.out)
   | (go_ret2; exact ⟨rfl, rfl⟩)
set_option maxHeartbeats 4000000 in
theorem m_13 (p : Nat) (s : Int) (w : World) (hs : InS s) (h : Sm w p s) : Calls Tryz.prog 128 #[.pointer (some ⟨p, 0, none⟩)] w (MRes p w (tab s 13)) := by
 obtain rfl | rfl | rfl | rfl | rfl | rfl | rfl | rfl | rfl | rfl := ten hs
 rw [show tab 0 13 = none from rfl]; rotate_left;rw [show tab 1 13 = none from rfl]; rotate_left;rw [show tab 2 13 = some (2, [12]) from rfl]; have HT := hd_ (to_row (p := p) 2 2 [12] w h (by decide)); have HS := hd_ (stay_row (p := p) 2 [12] w h (by decide)); rotate_left;rw [show tab 3 13 = some (3, [12]) from rfl]; have HT := hd_ (to_row (p := p) 3 3 [12] w h (by decide)); have HS := hd_ (stay_row (p := p) 3 [12] w h (by decide)); rotate_left;rw [show tab 4 13 = some (4, [12]) from rfl]; have HT := hd_ (to_row (p := p) 4 4 [12] w h (by decide)); have HS := hd_ (stay_row (p := p) 4 [12] w h (by decide)); rotate_left;rw [show tab 5 13 = some (5, [12]) from rfl]; have HT := hd_ (to_row (p := p) 5 5 [12] w h (by decide)); have HS := hd_ (stay_row (p := p) 5 [12] w h (by decide)); rotate_left;rw [show tab 6 13 = some (6, [12]) from rfl]; have HT := hd_ (to_row (p := p) 6 6 [12] w h (by decide)); have HS := hd_ (stay_row (p := p) 6 [12] w h (by decide)); rotate_left;rw [show tab 7 13 = some (7, [12]) from rfl]; have HT := hd_ (to_row (p := p) 7 7 [12] w h (by decide)); have HS := hd_ (stay_row (p := p) 7 [12] w h (by decide)); rotate_left;rw [show tab 8 13 = some (8, [12]) from rfl]; have HT := hd_ (to_row (p := p) 8 8 [12] w h (by decide)); have HS := hd_ (stay_row (p := p) 8 [12] w h (by decide)); rotate_left;rw [show tab 9 13 = some (9, [12]) from rfl]; have HT := hd_ (to_row (p := p) 9 9 [12] w h (by decide)); have HS := hd_ (stay_row (p := p) 9 [12] w h (by decide)); rotate_left
 all_goals
  have k0 := h.cell;clear h hs;go_enter Tryz.func128, Tryz.ntmps128
  go_wp2_with fail
  first
   | ((first | refine HT.out.mono ?_ | refine HS.out.mono ?_); rintro e w' ⟨rfl, hm⟩; have HM := hd_ hm; clear hm HT; (try clear HS); go_wp2; go_ret2; exact HM.out)
   | (go_ret2; exact ⟨rfl, rfl⟩)
set_option maxHeartbeats 4000000 in
theorem m_14 (p : Nat) (s : Int) (w : World) (hs : InS s) (h : Sm w p s) : Calls Tryz.prog 129 #[.pointer (some ⟨p, 0, none⟩)] w (MRes p w (tab s 14)) := by
 obtain rfl | rfl | rfl | rfl | rfl | rfl | rfl | rfl | rfl | rfl := ten hs
 rw [show tab 0 14 = none from rfl]; rotate_left;rw [show tab 1 14 = none from rfl]; rotate_left;rw [show tab 2 14 = some (2, []) from rfl]; have HT := hd_ (to_nil (p := p) 2 2 w h); have HS := hd_ (stay_nil (p := p) 2 w h); rotate_left;rw [show tab 3 14 = some (3, []) from rfl]; have HT := hd_ (to_nil (p := p) 3 3 w h); have HS := hd_ (stay_nil (p := p) 3 w h); rotate_left;rw [show tab 4 14 = some (4, []) from rfl]; have HT := hd_ (to_nil (p := p) 4 4 w h); have HS := hd_ (stay_nil (p := p) 4 w h); rotate_left;rw [show tab 5 14 = some (5, []) from rfl]; have HT := hd_ (to_nil (p := p) 5 5 w h); have HS := hd_ (stay_nil (p := p) 5 w h); rotate_left;rw [show tab 6 14 = some (6, []) from rfl]; have HT := hd_ (to_nil (p := p) 6 6 w h); have HS := hd_ (stay_nil (p := p) 6 w h); rotate_left;rw [show tab 7 14 = some (6, []) from rfl]; have HT := hd_ (to_nil (p := p) 7 6 w h); rotate_left;rw [show tab 8 14 = some (8, []) from rfl]; have HT := hd_ (to_nil (p := p) 8 8 w h); have HS := hd_ (stay_nil (p := p) 8 w h); rotate_left;rw [show tab 9 14 = some (9, []) from rfl]; have HT := hd_ (to_nil (p := p) 9 9 w h); have HS := hd_ (stay_nil (p := p) 9 w h); rotate_left
 all_goals
  have k0 := h.cell;clear h hs;go_enter Tryz.func129, Tryz.ntmps129
  go_wp2_with fail
  first
   | ((first | refine HT.out.mono ?_ | refine HS.out.mono ?_); rintro e w' ⟨rfl, hm⟩; have HM := hd_ hm; clear hm HT; (try clear HS); go_wp2; go_ret2; exact HM.out)
   | (go_ret2; exact ⟨rfl, rfl⟩)
set_option maxHeartbeats 4000000 in
theorem m_15 (p : Nat) (s : Int) (w : World) (hs : InS s) (h : Sm w p s) : Calls Tryz.prog 130 #[.pointer (some ⟨p, 0, none⟩)] w (MRes p w (tab s 15)) := by
 obtain rfl | rfl | rfl | rfl | rfl | rfl | rfl | rfl | rfl | rfl := ten hs
 rw [show tab 0 15 = none from rfl]; rotate_left;rw [show tab 1 15 = none from rfl]; rotate_left;rw [show tab 2 15 = some (2, [4]) from rfl]; have HT := hd_ (to_row (p := p) 2 2 [4] w h (by decide)); have HS := hd_ (stay_row (p := p) 2 [4] w h (by decide)); rotate_left;rw [show tab 3 15 = some (3, [4]) from rfl]; have HT := hd_ (to_row (p := p) 3 3 [4] w h (by decide)); have HS := hd_ (stay_row (p := p) 3 [4] w h (by decide)); rotate_left;rw [show tab 4 15 = some (2, [4]) from rfl]; have HT := hd_ (to_row (p := p) 4 2 [4] w h (by decide)); rotate_left;rw [show tab 5 15 = some (3, [4]) from rfl]; have HT := hd_ (to_row (p := p) 5 3 [4] w h (by decide)); rotate_left;rw [show tab 6 15 = some (3, [4]) from rfl]; have HT := hd_ (to_row (p := p) 6 3 [4] w h (by decide)); rotate_left;rw [show tab 7 15 = some (3, [4]) from rfl]; have HT := hd_ (to_row (p := p) 7 3 [4] w h (by decide)); rotate_left;rw [show tab 8 15 = some (3, [4]) from rfl]; have HT := hd_ (to_row (p := p) 8 3 [4] w h (by decide)); rotate_left;rw [show tab 9 15 = some (5, [2, 5, 10]) from rfl]; have HT := hd_ (to_row (p := p) 9 5 [2, 5, 10] w h (by decide)); rotate_left
 all_goals
  have k0 := h.cell;clear h hs;go_enter Tryz.func130, Tryz.ntmps130
  go_wp2_with fail
  first
   | ((first | refine HT.out.mono ?_ | refine HS.out.mono ?_); rintro e w' ⟨rfl, hm⟩; have HM := hd_ hm; clear hm HT; (try clear HS); go_wp2; go_ret2; exact HM.out)
   | (go_ret2; exact ⟨rfl, rfl⟩)
set_option maxHeartbeats 4000000 in
theorem m_16 (p : Nat) (s : Int) (w : World) (hs : InS s) (h : Sm w p s) : Calls Tryz.prog 131 #[.pointer (some ⟨p, 0, none⟩)] w (MRes p w (tab s 16)) := by
 obtain rfl | rfl | rfl | rfl | rfl | rfl | rfl | rfl | rfl | rfl := ten hs
 rw [show tab 0 16 = none from rfl]; rotate_left;rw [show tab 1 16 = none from rfl]; rotate_left;rw [show tab 2 16 = some (2, []) from rfl]; have HT := hd_ (to_nil (p := p) 2 2 w h); have HS := hd_ (stay_nil (p := p) 2 w h); rotate_left;rw [show tab 3 16 = some (3, []) from rfl]; have HT := hd_ (to_nil (p := p) 3 3 w h); have HS := hd_ (stay_nil (p := p) 3 w h); rotate_left;rw [show tab 4 16 = some (4, []) from rfl]; have HT := hd_ (to_nil (p := p) 4 4 w h); have HS := hd_ (stay_nil (p := p) 4 w h); rotate_left;rw [show tab 5 16 = some (5, []) from rfl]; have HT := hd_ (to_nil (p := p) 5 5 w h); have HS := hd_ (stay_nil (p := p) 5 w h); rotate_left;rw [show tab 6 16 = some (6, []) from rfl]; have HT := hd_ (to_nil (p := p) 6 6 w h); have HS := hd_ (stay_nil (p := p) 6 w h); rotate_left;rw [show tab 7 16 = some (7, []) from rfl]; have HT := hd_ (to_nil (p := p) 7 7 w h); have HS := hd_ (stay_nil (p := p) 7 w h); rotate_left;rw [show tab 8 16 = some (8, []) from rfl]; have HT := hd_ (to_nil (p := p) 8 8 w h); have HS := hd_ (stay_nil (p := p) 8 w h); rotate_left;rw [show tab 9 16 = some (9, [13]) from rfl]; have HT := hd_ (to_row (p := p) 9 9 [13] w h (by decide)); have HS := hd_ (stay_row (p := p) 9 [13] w h (by decide)); rotate_left
 all_goals
  have k0 := h.cell;clear h hs;go_enter Tryz.func131, Tryz.ntmps131
  go_wp2_with fail
  first
   | ((first | refine HT.out.mono ?_ | refine HS.out.mono ?_); rintro e w' ⟨rfl, hm⟩; have HM := hd_ hm; clear hm HT; (try clear HS); go_wp2; go_ret2; exact HM.out)
   | (go_ret2; exact ⟨rfl, rfl⟩)
def NF : List Value := List.replicate 17 .nilFunc
theorem rowOf_1 (w : World) : Calls Tryz.prog 95 #[.int .i64 1] w fun x w' => x = .returned (.func (.func 116) #[] #[]) /\ Below w.heap.size w w' := by
 have BA := (Below.refl w.heap.size w).alloc (Nat.le_refl _) (.cells NF.toArray 150);have HB := hd_ BA;have HG : Hid ((w.alloc (.cells NF.toArray 150)).heap[w.heap.size]? = some (.cells NF.toArray 150 (0, 0))) := heap_alloc_last _ _;clear BA;go_enter Tryz.func95, Tryz.ntmps95
 go_wp2_with (with_reducible refine wpList_store_row rfl 150 (.tmp 3) (.tmp 4) rfl w.heap.size _ rfl rfl 150 NF.toArray (heap_alloc_last _ _) ?a1 ?a2 ?a3 ?_)
 case a1 => rfl
 case a2 => rfl
 case a3 => kernel_rfl
 intro w2 h1 h2 _;have HB2 := hd_ (h2 _ _ (Nat.le_refl _) HB.out);have c0 : w2.cell? ⟨w.heap.size, 1, none⟩ = some (.func (.func 116) #[] #[]) := by rw [cell_of_row _ _ _ _ _ _ h1]; rfl
 clear h1 h2 HG HB;go_wp2
 go_ret
 exact ⟨rfl, HB2.out⟩
theorem rowOf_2 (w : World) : Calls Tryz.prog 95 #[.int .i64 2] w fun x w' => x = .returned (.func (.func 117) #[] #[]) /\ Below w.heap.size w w' := by
 have BA := (Below.refl w.heap.size w).alloc (Nat.le_refl _) (.cells NF.toArray 150);have HB := hd_ BA;have HG : Hid ((w.alloc (.cells NF.toArray 150)).heap[w.heap.size]? = some (.cells NF.toArray 150 (0, 0))) := heap_alloc_last _ _;clear BA;go_enter Tryz.func95, Tryz.ntmps95
 go_wp2_with (with_reducible refine wpList_store_row rfl 150 (.tmp 3) (.tmp 4) rfl w.heap.size _ rfl rfl 150 NF.toArray (heap_alloc_last _ _) ?a1 ?a2 ?a3 ?_)
 case a1 => rfl
 case a2 => rfl
 case a3 => kernel_rfl
 intro w2 h1 h2 _;have HB2 := hd_ (h2 _ _ (Nat.le_refl _) HB.out);have c0 : w2.cell? ⟨w.heap.size, 2, none⟩ = some (.func (.func 117) #[] #[]) := by rw [cell_of_row _ _ _ _ _ _ h1]; rfl
 clear h1 h2 HG HB;go_wp2
 go_ret
 exact ⟨rfl, HB2.out⟩
theorem rowOf_3 (w : World) : Calls Tryz.prog 95 #[.int .i64 3] w fun x w' => x = .returned (.func (.func 118) #[] #[]) /\ Below w.heap.size w w' := by
 have BA := (Below.refl w.heap.size w).alloc (Nat.le_refl _) (.cells NF.toArray 150);have HB := hd_ BA;have HG : Hid ((w.alloc (.cells NF.toArray 150)).heap[w.heap.size]? = some (.cells NF.toArray 150 (0, 0))) := heap_alloc_last _ _;clear BA;go_enter Tryz.func95, Tryz.ntmps95
 go_wp2_with (with_reducible refine wpList_store_row rfl 150 (.tmp 3) (.tmp 4) rfl w.heap.size _ rfl rfl 150 NF.toArray (heap_alloc_last _ _) ?a1 ?a2 ?a3 ?_)
 case a1 => rfl
 case a2 => rfl
 case a3 => kernel_rfl
 intro w2 h1 h2 _;have HB2 := hd_ (h2 _ _ (Nat.le_refl _) HB.out);have c0 : w2.cell? ⟨w.heap.size, 3, none⟩ = some (.func (.func 118) #[] #[]) := by rw [cell_of_row _ _ _ _ _ _ h1]; rfl
 clear h1 h2 HG HB;go_wp2
 go_ret
 exact ⟨rfl, HB2.out⟩
theorem rowOf_4 (w : World) : Calls Tryz.prog 95 #[.int .i64 4] w fun x w' => x = .returned (.func (.func 119) #[] #[]) /\ Below w.heap.size w w' := by
 have BA := (Below.refl w.heap.size w).alloc (Nat.le_refl _) (.cells NF.toArray 150);have HB := hd_ BA;have HG : Hid ((w.alloc (.cells NF.toArray 150)).heap[w.heap.size]? = some (.cells NF.toArray 150 (0, 0))) := heap_alloc_last _ _;clear BA;go_enter Tryz.func95, Tryz.ntmps95
 go_wp2_with (with_reducible refine wpList_store_row rfl 150 (.tmp 3) (.tmp 4) rfl w.heap.size _ rfl rfl 150 NF.toArray (heap_alloc_last _ _) ?a1 ?a2 ?a3 ?_)
 case a1 => rfl
 case a2 => rfl
 case a3 => kernel_rfl
 intro w2 h1 h2 _;have HB2 := hd_ (h2 _ _ (Nat.le_refl _) HB.out);have c0 : w2.cell? ⟨w.heap.size, 4, none⟩ = some (.func (.func 119) #[] #[]) := by rw [cell_of_row _ _ _ _ _ _ h1]; rfl
 clear h1 h2 HG HB;go_wp2
 go_ret
 exact ⟨rfl, HB2.out⟩
theorem rowOf_5 (w : World) : Calls Tryz.prog 95 #[.int .i64 5] w fun x w' => x = .returned (.func (.func 120) #[] #[]) /\ Below w.heap.size w w' := by
 have BA := (Below.refl w.heap.size w).alloc (Nat.le_refl _) (.cells NF.toArray 150);have HB := hd_ BA;have HG : Hid ((w.alloc (.cells NF.toArray 150)).heap[w.heap.size]? = some (.cells NF.toArray 150 (0, 0))) := heap_alloc_last _ _;clear BA;go_enter Tryz.func95, Tryz.ntmps95
 go_wp2_with (with_reducible refine wpList_store_row rfl 150 (.tmp 3) (.tmp 4) rfl w.heap.size _ rfl rfl 150 NF.toArray (heap_alloc_last _ _) ?a1 ?a2 ?a3 ?_)
 case a1 => rfl
 case a2 => rfl
 case a3 => kernel_rfl
 intro w2 h1 h2 _;have HB2 := hd_ (h2 _ _ (Nat.le_refl _) HB.out);have c0 : w2.cell? ⟨w.heap.size, 5, none⟩ = some (.func (.func 120) #[] #[]) := by rw [cell_of_row _ _ _ _ _ _ h1]; rfl
 clear h1 h2 HG HB;go_wp2
 go_ret
 exact ⟨rfl, HB2.out⟩
theorem rowOf_6 (w : World) : Calls Tryz.prog 95 #[.int .i64 6] w fun x w' => x = .returned (.func (.func 121) #[] #[]) /\ Below w.heap.size w w' := by
 have BA := (Below.refl w.heap.size w).alloc (Nat.le_refl _) (.cells NF.toArray 150);have HB := hd_ BA;have HG : Hid ((w.alloc (.cells NF.toArray 150)).heap[w.heap.size]? = some (.cells NF.toArray 150 (0, 0))) := heap_alloc_last _ _;clear BA;go_enter Tryz.func95, Tryz.ntmps95
 go_wp2_with (with_reducible refine wpList_store_row rfl 150 (.tmp 3) (.tmp 4) rfl w.heap.size _ rfl rfl 150 NF.toArray (heap_alloc_last _ _) ?a1 ?a2 ?a3 ?_)
 case a1 => rfl
 case a2 => rfl
 case a3 => kernel_rfl
 intro w2 h1 h2 _;have HB2 := hd_ (h2 _ _ (Nat.le_refl _) HB.out);have c0 : w2.cell? ⟨w.heap.size, 6, none⟩ = some (.func (.func 121) #[] #[]) := by rw [cell_of_row _ _ _ _ _ _ h1]; rfl
 clear h1 h2 HG HB;go_wp2
 go_ret
 exact ⟨rfl, HB2.out⟩
theorem rowOf_7 (w : World) : Calls Tryz.prog 95 #[.int .i64 7] w fun x w' => x = .returned (.func (.func 122) #[] #[]) /\ Below w.heap.size w w' := by
 have BA := (Below.refl w.heap.size w).alloc (Nat.le_refl _) (.cells NF.toArray 150);have HB := hd_ BA;have HG : Hid ((w.alloc (.cells NF.toArray 150)).heap[w.heap.size]? = some (.cells NF.toArray 150 (0, 0))) := heap_alloc_last _ _;clear BA;go_enter Tryz.func95, Tryz.ntmps95
 go_wp2_with (with_reducible refine wpList_store_row rfl 150 (.tmp 3) (.tmp 4) rfl w.heap.size _ rfl rfl 150 NF.toArray (heap_alloc_last _ _) ?a1 ?a2 ?a3 ?_)
 case a1 => rfl
 case a2 => rfl
 case a3 => kernel_rfl
 intro w2 h1 h2 _;have HB2 := hd_ (h2 _ _ (Nat.le_refl _) HB.out);have c0 : w2.cell? ⟨w.heap.size, 7, none⟩ = some (.func (.func 122) #[] #[]) := by rw [cell_of_row _ _ _ _ _ _ h1]; rfl
 clear h1 h2 HG HB;go_wp2
 go_ret
 exact ⟨rfl, HB2.out⟩
theorem rowOf_8 (w : World) : Calls Tryz.prog 95 #[.int .i64 8] w fun x w' => x = .returned (.func (.func 123) #[] #[]) /\ Below w.heap.size w w' := by
 have BA := (Below.refl w.heap.size w).alloc (Nat.le_refl _) (.cells NF.toArray 150);have HB := hd_ BA;have HG : Hid ((w.alloc (.cells NF.toArray 150)).heap[w.heap.size]? = some (.cells NF.toArray 150 (0, 0))) := heap_alloc_last _ _;clear BA;go_enter Tryz.func95, Tryz.ntmps95
 go_wp2_with (with_reducible refine wpList_store_row rfl 150 (.tmp 3) (.tmp 4) rfl w.heap.size _ rfl rfl 150 NF.toArray (heap_alloc_last _ _) ?a1 ?a2 ?a3 ?_)
 case a1 => rfl
 case a2 => rfl
 case a3 => kernel_rfl
 intro w2 h1 h2 _;have HB2 := hd_ (h2 _ _ (Nat.le_refl _) HB.out);have c0 : w2.cell? ⟨w.heap.size, 8, none⟩ = some (.func (.func 123) #[] #[]) := by rw [cell_of_row _ _ _ _ _ _ h1]; rfl
 clear h1 h2 HG HB;go_wp2
 go_ret
 exact ⟨rfl, HB2.out⟩
theorem rowOf_9 (w : World) : Calls Tryz.prog 95 #[.int .i64 9] w fun x w' => x = .returned (.func (.func 124) #[] #[]) /\ Below w.heap.size w w' := by
 have BA := (Below.refl w.heap.size w).alloc (Nat.le_refl _) (.cells NF.toArray 150);have HB := hd_ BA;have HG : Hid ((w.alloc (.cells NF.toArray 150)).heap[w.heap.size]? = some (.cells NF.toArray 150 (0, 0))) := heap_alloc_last _ _;clear BA;go_enter Tryz.func95, Tryz.ntmps95
 go_wp2_with (with_reducible refine wpList_store_row rfl 150 (.tmp 3) (.tmp 4) rfl w.heap.size _ rfl rfl 150 NF.toArray (heap_alloc_last _ _) ?a1 ?a2 ?a3 ?_)
 case a1 => rfl
 case a2 => rfl
 case a3 => kernel_rfl
 intro w2 h1 h2 _;have HB2 := hd_ (h2 _ _ (Nat.le_refl _) HB.out);have c0 : w2.cell? ⟨w.heap.size, 9, none⟩ = some (.func (.func 124) #[] #[]) := by rw [cell_of_row _ _ _ _ _ _ h1]; rfl
 clear h1 h2 HG HB;go_wp2
 go_ret
 exact ⟨rfl, HB2.out⟩
theorem rowOf_10 (w : World) : Calls Tryz.prog 95 #[.int .i64 10] w fun x w' => x = .returned (.func (.func 125) #[] #[]) /\ Below w.heap.size w w' := by
 have BA := (Below.refl w.heap.size w).alloc (Nat.le_refl _) (.cells NF.toArray 150);have HB := hd_ BA;have HG : Hid ((w.alloc (.cells NF.toArray 150)).heap[w.heap.size]? = some (.cells NF.toArray 150 (0, 0))) := heap_alloc_last _ _;clear BA;go_enter Tryz.func95, Tryz.ntmps95
 go_wp2_with (with_reducible refine wpList_store_row rfl 150 (.tmp 3) (.tmp 4) rfl w.heap.size _ rfl rfl 150 NF.toArray (heap_alloc_last _ _) ?a1 ?a2 ?a3 ?_)
 case a1 => rfl
 case a2 => rfl
 case a3 => kernel_rfl
 intro w2 h1 h2 _;have HB2 := hd_ (h2 _ _ (Nat.le_refl _) HB.out);have c0 : w2.cell? ⟨w.heap.size, 10, none⟩ = some (.func (.func 125) #[] #[]) := by rw [cell_of_row _ _ _ _ _ _ h1]; rfl
 clear h1 h2 HG HB;go_wp2
 go_ret
 exact ⟨rfl, HB2.out⟩
theorem rowOf_11 (w : World) : Calls Tryz.prog 95 #[.int .i64 11] w fun x w' => x = .returned (.func (.func 126) #[] #[]) /\ Below w.heap.size w w' := by
 have BA := (Below.refl w.heap.size w).alloc (Nat.le_refl _) (.cells NF.toArray 150);have HB := hd_ BA;have HG : Hid ((w.alloc (.cells NF.toArray 150)).heap[w.heap.size]? = some (.cells NF.toArray 150 (0, 0))) := heap_alloc_last _ _;clear BA;go_enter Tryz.func95, Tryz.ntmps95
 go_wp2_with (with_reducible refine wpList_store_row rfl 150 (.tmp 3) (.tmp 4) rfl w.heap.size _ rfl rfl 150 NF.toArray (heap_alloc_last _ _) ?a1 ?a2 ?a3 ?_)
 case a1 => rfl
 case a2 => rfl
 case a3 => kernel_rfl
 intro w2 h1 h2 _;have HB2 := hd_ (h2 _ _ (Nat.le_refl _) HB.out);have c0 : w2.cell? ⟨w.heap.size, 11, none⟩ = some (.func (.func 126) #[] #[]) := by rw [cell_of_row _ _ _ _ _ _ h1]; rfl
 clear h1 h2 HG HB;go_wp2
 go_ret
 exact ⟨rfl, HB2.out⟩
theorem rowOf_12 (w : World) : Calls Tryz.prog 95 #[.int .i64 12] w fun x w' => x = .returned (.func (.func 127) #[] #[]) /\ Below w.heap.size w w' := by
 have BA := (Below.refl w.heap.size w).alloc (Nat.le_refl _) (.cells NF.toArray 150);have HB := hd_ BA;have HG : Hid ((w.alloc (.cells NF.toArray 150)).heap[w.heap.size]? = some (.cells NF.toArray 150 (0, 0))) := heap_alloc_last _ _;clear BA;go_enter Tryz.func95, Tryz.ntmps95
 go_wp2_with (with_reducible refine wpList_store_row rfl 150 (.tmp 3) (.tmp 4) rfl w.heap.size _ rfl rfl 150 NF.toArray (heap_alloc_last _ _) ?a1 ?a2 ?a3 ?_)
 case a1 => rfl
 case a2 => rfl
 case a3 => kernel_rfl
 intro w2 h1 h2 _;have HB2 := hd_ (h2 _ _ (Nat.le_refl _) HB.out);have c0 : w2.cell? ⟨w.heap.size, 12, none⟩ = some (.func (.func 127) #[] #[]) := by rw [cell_of_row _ _ _ _ _ _ h1]; rfl
 clear h1 h2 HG HB;go_wp2
 go_ret
 exact ⟨rfl, HB2.out⟩
theorem rowOf_13 (w : World) : Calls Tryz.prog 95 #[.int .i64 13] w fun x w' => x = .returned (.func (.func 128) #[] #[]) /\ Below w.heap.size w w' := by
 have BA := (Below.refl w.heap.size w).alloc (Nat.le_refl _) (.cells NF.toArray 150);have HB := hd_ BA;have HG : Hid ((w.alloc (.cells NF.toArray 150)).heap[w.heap.size]? = some (.cells NF.toArray 150 (0, 0))) := heap_alloc_last _ _;clear BA;go_enter Tryz.func95, Tryz.ntmps95
 go_wp2_with (with_reducible refine wpList_store_row rfl 150 (.tmp 3) (.tmp 4) rfl w.heap.size _ rfl rfl 150 NF.toArray (heap_alloc_last _ _) ?a1 ?a2 ?a3 ?_)
 case a1 => rfl
 case a2 => rfl
 case a3 => kernel_rfl
 intro w2 h1 h2 _;have HB2 := hd_ (h2 _ _ (Nat.le_refl _) HB.out);have c0 : w2.cell? ⟨w.heap.size, 13, none⟩ = some (.func (.func 128) #[] #[]) := by rw [cell_of_row _ _ _ _ _ _ h1]; rfl
 clear h1 h2 HG HB;go_wp2
 go_ret
 exact ⟨rfl, HB2.out⟩
theorem rowOf_14 (w : World) : Calls Tryz.prog 95 #[.int .i64 14] w fun x w' => x = .returned (.func (.func 129) #[] #[]) /\ Below w.heap.size w w' := by
 have BA := (Below.refl w.heap.size w).alloc (Nat.le_refl _) (.cells NF.toArray 150);have HB := hd_ BA;have HG : Hid ((w.alloc (.cells NF.toArray 150)).heap[w.heap.size]? = some (.cells NF.toArray 150 (0, 0))) := heap_alloc_last _ _;clear BA;go_enter Tryz.func95, Tryz.ntmps95
 go_wp2_with (with_reducible refine wpList_store_row rfl 150 (.tmp 3) (.tmp 4) rfl w.heap.size _ rfl rfl 150 NF.toArray (heap_alloc_last _ _) ?a1 ?a2 ?a3 ?_)
 case a1 => rfl
 case a2 => rfl
 case a3 => kernel_rfl
 intro w2 h1 h2 _;have HB2 := hd_ (h2 _ _ (Nat.le_refl _) HB.out);have c0 : w2.cell? ⟨w.heap.size, 14, none⟩ = some (.func (.func 129) #[] #[]) := by rw [cell_of_row _ _ _ _ _ _ h1]; rfl
 clear h1 h2 HG HB;go_wp2
 go_ret
 exact ⟨rfl, HB2.out⟩
theorem rowOf_15 (w : World) : Calls Tryz.prog 95 #[.int .i64 15] w fun x w' => x = .returned (.func (.func 130) #[] #[]) /\ Below w.heap.size w w' := by
 have BA := (Below.refl w.heap.size w).alloc (Nat.le_refl _) (.cells NF.toArray 150);have HB := hd_ BA;have HG : Hid ((w.alloc (.cells NF.toArray 150)).heap[w.heap.size]? = some (.cells NF.toArray 150 (0, 0))) := heap_alloc_last _ _;clear BA;go_enter Tryz.func95, Tryz.ntmps95
 go_wp2_with (with_reducible refine wpList_store_row rfl 150 (.tmp 3) (.tmp 4) rfl w.heap.size _ rfl rfl 150 NF.toArray (heap_alloc_last _ _) ?a1 ?a2 ?a3 ?_)
 case a1 => rfl
 case a2 => rfl
 case a3 => kernel_rfl
 intro w2 h1 h2 _;have HB2 := hd_ (h2 _ _ (Nat.le_refl _) HB.out);have c0 : w2.cell? ⟨w.heap.size, 15, none⟩ = some (.func (.func 130) #[] #[]) := by rw [cell_of_row _ _ _ _ _ _ h1]; rfl
 clear h1 h2 HG HB;go_wp2
 go_ret
 exact ⟨rfl, HB2.out⟩
theorem rowOf_16 (w : World) : Calls Tryz.prog 95 #[.int .i64 16] w fun x w' => x = .returned (.func (.func 131) #[] #[]) /\ Below w.heap.size w w' := by
 have BA := (Below.refl w.heap.size w).alloc (Nat.le_refl _) (.cells NF.toArray 150);have HB := hd_ BA;have HG : Hid ((w.alloc (.cells NF.toArray 150)).heap[w.heap.size]? = some (.cells NF.toArray 150 (0, 0))) := heap_alloc_last _ _;clear BA;go_enter Tryz.func95, Tryz.ntmps95
 go_wp2_with (with_reducible refine wpList_store_row rfl 150 (.tmp 3) (.tmp 4) rfl w.heap.size _ rfl rfl 150 NF.toArray (heap_alloc_last _ _) ?a1 ?a2 ?a3 ?_)
 case a1 => rfl
 case a2 => rfl
 case a3 => kernel_rfl
 intro w2 h1 h2 _;have HB2 := hd_ (h2 _ _ (Nat.le_refl _) HB.out);have c0 : w2.cell? ⟨w.heap.size, 16, none⟩ = some (.func (.func 131) #[] #[]) := by rw [cell_of_row _ _ _ _ _ _ h1]; rfl
 clear h1 h2 HG HB;go_wp2
 go_ret
 exact ⟨rfl, HB2.out⟩
theorem sixteen {e : Int} (h : InE e) : e = 1 \/ e = 2 \/ e = 3 \/ e = 4 \/ e = 5 \/ e = 6 \/ e = 7 \/ e = 8 \/ e = 9 \/ e = 10 \/ e = 11 \/ e = 12 \/ e = 13 \/ e = 14 \/ e = 15 \/ e = 16 := by unfold InE at h; omega
theorem event_any (p : Nat) (s e : Int) (w : World) (hs : InS s) (he : InE e) (h : Sm w p s) :
 ∃ k, (∀ (args : Array Value) (w' : World), (callFunc k args).run Tryz.prog w' = .ok (.enter k args) w') /\ (∀ w', Below w.heap.size w w' -> Calls Tryz.prog k #[.pointer (some ⟨p, 0, none⟩)] w' (MRes p w' (tab s e))) /\
  Calls Tryz.prog 95 #[.int .i64 e] w fun x w' => x = .returned (.func (.func k) #[] #[]) /\ Below w.heap.size w w' := by
 obtain rfl | rfl | rfl | rfl | rfl | rfl | rfl | rfl | rfl | rfl | rfl | rfl | rfl | rfl | rfl | rfl := sixteen he
 · exact ⟨_, fun _ _ => rfl, fun w' hb => m_1 p s w' hs (h.gr hb), rowOf_1 w⟩
 · exact ⟨_, fun _ _ => rfl, fun w' hb => m_2 p s w' hs (h.gr hb), rowOf_2 w⟩
 · exact ⟨_, fun _ _ => rfl, fun w' hb => m_3 p s w' hs (h.gr hb), rowOf_3 w⟩
 · exact ⟨_, fun _ _ => rfl, fun w' hb => m_4 p s w' hs (h.gr hb), rowOf_4 w⟩
 · exact ⟨_, fun _ _ => rfl, fun w' hb => m_5 p s w' hs (h.gr hb), rowOf_5 w⟩
 · exact ⟨_, fun _ _ => rfl, fun w' hb => m_6 p s w' hs (h.gr hb), rowOf_6 w⟩
 · exact ⟨_, fun _ _ => rfl, fun w' hb => m_7 p s w' hs (h.gr hb), rowOf_7 w⟩
 · exact ⟨_, fun _ _ => rfl, fun w' hb => m_8 p s w' hs (h.gr hb), rowOf_8 w⟩
 · exact ⟨_, fun _ _ => rfl, fun w' hb => m_9 p s w' hs (h.gr hb), rowOf_9 w⟩
 · exact ⟨_, fun _ _ => rfl, fun w' hb => m_10 p s w' hs (h.gr hb), rowOf_10 w⟩
 · exact ⟨_, fun _ _ => rfl, fun w' hb => m_11 p s w' hs (h.gr hb), rowOf_11 w⟩
 · exact ⟨_, fun _ _ => rfl, fun w' hb => m_12 p s w' hs (h.gr hb), rowOf_12 w⟩
 · exact ⟨_, fun _ _ => rfl, fun w' hb => m_13 p s w' hs (h.gr hb), rowOf_13 w⟩
 · exact ⟨_, fun _ _ => rfl, fun w' hb => m_14 p s w' hs (h.gr hb), rowOf_14 w⟩
 · exact ⟨_, fun _ _ => rfl, fun w' hb => m_15 p s w' hs (h.gr hb), rowOf_15 w⟩
 · exact ⟨_, fun _ _ => rfl, fun w' hb => m_16 p s w' hs (h.gr hb), rowOf_16 w⟩
def nxt (s e : Int) : Int := if (stp s e).2.2 = 0 then (stp s e).1 else s
theorem stp_none {s e : Int} (hs : InS s) (he : InE e) (h : tab s e = none) : stp s e = (0, [], 5) := by unfold stp; rw [if_pos ⟨hs, he⟩, h]
theorem stp_some {s e n : Int} {l : List Int} (hs : InS s) (he : InE e) (h : tab s e = some (n, l)) : stp s e = (n, l, 0) := by unfold stp; rw [if_pos ⟨hs, he⟩, h]
def SRes (p : Nat) (s e : Int) (w : World) (x : Ending) (w' : World) : Prop := ∃ v, x = .returned (.tuple #[v, .int .i64 (stp s e).2.2]) /\ AO w' w.heap.size v (stp s e).2.1 /\ Sm w' p (nxt s e) /\ Tr [p] w w'
theorem sres_err {p : Nat} {s e : Int} {w : World} (h : Sm w p s) {f : Int} (hf : stp s e = (0, [], f)) (h0 : f ≠ 0) : SRes p s e w (.returned (.tuple #[.slice none 0 0, .int .i64 f])) w := by
 unfold SRes nxt;rw [hf];refine ⟨_, rfl, AO.nil _ _, ?_, Tr.refl _ _⟩;rw [if_neg h0];exact h
set_option maxHeartbeats 2000000 in
theorem step_any (p : Nat) (s e : Int) (w : World) (h : Sm w p s) : Calls Tryz.prog 81 #[.pointer (some ⟨p, 0, none⟩), .int .i64 e] w (SRes p s e w) := by
 have HO := hd_ (isOne_any p s w h)
 by_cases hs : InS s
 · rw [decide_eq_true hs] at HO
   by_cases he : InE e
   · obtain ⟨k, hk, hm, hr⟩ := event_any p s e w hs he h;have HM := hd_ hm;have HR := hd_ hr;have HI := hd_ (And.intro hs he);have HH := hd_ h;have e1 : ¬ e < 1 := by have := he.1; omega
     have e2 : ¬ 16 < e := by have := he.2; omega
     clear hs he hm hr h;go_enter Tryz.func81, Tryz.ntmps81
     go_wp2_with fail
     refine HO.out.mono ?_;rintro x w1 ⟨rfl, rfl⟩;go_wp2_with fail
     refine HR.out.mono ?_;rintro x w1 ⟨rfl, hb⟩;have HC := hd_ (HM.out w1 hb);have HB := hd_ hb;clear hb HM HR HO;cases ht : tab s e with
     | none =>
      have HE := hd_ (sres_err HH.out (stp_none HI.out.1 HI.out.2 ht) (by decide));rw [ht] at HC;clear ht;go_wp2_with fail
      refine HC.out.mono ?_;rintro x w2 ⟨rfl, rfl⟩;go_wp2
      go_ret2
      obtain ⟨v, h1, h2, h3, h4⟩ := HE.out;exact ⟨v, h1, h2.below HB.out, h3.gr HB.out, h4.trans (Tr.gr HB.out) (fun i hi => .inl hi)⟩
     | some nl =>
      obtain ⟨n, l⟩ := nl;have HS := hd_ (stp_some HI.out.1 HI.out.2 ht);rw [ht] at HC;clear ht;go_wp2_with fail
      refine HC.out.mono ?_;rintro x w2 ⟨v, rfl, ho, hm, ht⟩;have HO2 := hd_ ho;have HM2 := hd_ hm;have HT2 := hd_ ht;clear ho hm ht;go_wp2
      go_ret2
      unfold SRes nxt;rw [HS.out, if_pos rfl];exact ⟨v, rfl, HO2.out.mono HB.out.size, HM2.out, (Tr.gr HB.out).trans HT2.out (fun i hi => .inl hi)⟩
   · have HE := hd_ (sres_err h (stp_out (s := s) (e := e) (fun c => he c.2)) (by decide))
     by_cases e1 : e < 1
     · clear h hs he;go_enter Tryz.func81, Tryz.ntmps81
       go_wp2_with fail
       refine HO.out.mono ?_;rintro x w1 ⟨rfl, rfl⟩;go_wp2_with fail
       go_ret2
       exact HE.out
     · have e2 : 16 < e := by unfold InE at he; omega
       clear h hs he;go_enter Tryz.func81, Tryz.ntmps81
       go_wp2_with fail
       refine HO.out.mono ?_;rintro x w1 ⟨rfl, rfl⟩;go_wp2_with fail
       go_ret2
       exact HE.out
 · have HE := hd_ (sres_err h (stp_out (s := s) (e := e) (fun c => hs c.1)) (by decide));rw [decide_eq_false hs] at HO;clear h hs;go_enter Tryz.func81, Tryz.ntmps81
   go_wp2_with fail
   refine HO.out.mono ?_;rintro x w1 ⟨rfl, rfl⟩;go_wp2_with fail
   go_ret2
   exact HE.out
def TRes (s e : Int) (w : World) (x : Ending) (w' : World) : Prop := ∃ v, x = .returned (.tuple #[.int .i64 (stp s e).1, v, .int .i64 (stp s e).2.2]) /\ AO w' w.heap.size v (stp s e).2.1 /\ Below w.heap.size w w'
set_option maxHeartbeats 2000000 in
theorem Step_any (s e : Int) (w : World) : Calls Tryz.prog 57 #[.int .i64 s, .int .i64 e] w (TRes s e w) := by
 have HM : Hid (Sm (w.alloc (.cells #[.int .i64 s] 124)) w.heap.size s) := heap_alloc_last _ _;have HS := hd_ (step_any w.heap.size s e _ HM.out);have HB := hd_ ((Below.refl w.heap.size w).alloc (Nat.le_refl _) (.cells #[.int .i64 s] 124));go_enter Tryz.func57, Tryz.ntmps57
 go_wp2_with fail
 refine HS.out.mono ?_;rintro x w2 ⟨v, rfl, ho, hm, ht⟩;have hsz : (w.alloc (.cells #[.int .i64 s] 124)).heap.size = w.heap.size + 1 := by simp
 have HO : Hid (AO w2 w.heap.size v (stp s e).2.1) := ho.mono (by rw [hsz]; omega);have HB2 : Hid (Below w.heap.size w w2) := Tr.below HB.out (by rw [hsz]; omega) ht (fun k hk => by rw [List.mem_singleton.1 hk]; exact Nat.le_refl _)
 by_cases h0 : (stp s e).2.2 = 0
 · have k0 := cell1 (show w2.heap[w.heap.size]? = some (.cells #[.int .i64 (nxt s e)] 124 (0, 0)) from hm);have HN : Hid (nxt s e = (stp s e).1) := by show _ = _; unfold nxt; rw [if_pos h0]
   clear hsz ho hm ht HS HM;go_wp2
   go_ret3
   refine ⟨v, ?_, HO.out, HB2.out⟩;show Ending.returned (.tuple #[.int .i64 (nxt s e), v, .int .i64 0]) = _;rw [HN.out, h0]
 · have HE := hd_ (stp_err h0);have HO3 := HO.out;clear hsz ho hm ht HS HM;go_wp2
   go_ret3
   refine ⟨.slice none 0 0, ?_, ?_, HB2.out⟩
   · show Ending.returned (.tuple #[.int .i64 0, .slice none 0 0, .int .i64 (stp s e).2.2]) = _;rw [HE.out.1]
   rw [HE.out.2];exact AO.nil _ _
theorem tx_of (l : List UInt8) : ∃ s : ByteArray, tx l = .string s /\ bl s = l := ⟨⟨l.toArray⟩, rfl, by simp [bl]⟩
theorem bl_inj {s t : ByteArray} (h : bl s = bl t) : s = t := by
 cases s; cases t;unfold bl at h;exact congrArg ByteArray.mk (Array.toList_inj.1 h)
set_option maxHeartbeats 2000000 in
set_option maxRecDepth 20000 in
theorem action_any (t : ByteArray) (w : World) : Calls Tryz.prog 61 #[.string t] w fun e w' => e = .returned (.int .i64 (act (bl t))) /\ Below w.heap.size w w' := by
 have HA := hd_ (actions_any w);go_enter Tryz.func61, Tryz.ntmps61
 go_wp2_with fail
 refine HA.out.mono ?_;rintro e w1 ⟨rfl, hb, hc⟩;have HB := hd_ hb;have HC := hd_ hc;clear hb hc HA;go_wp2_with fail
 go_loopw [4] (fun iv wr => ∃ i : Nat, 1 <= i /\ i <= 14 /\ iv = .int .i64 (i : Int) /\ look acs.tail (bl t) (i - 1) = none /\ wr = w1) (fun iv _ => 14 - (intOf iv).toNat)
 case atStart => exact ⟨1, by omega, by omega, rfl, rfl, rfl⟩
 case round =>
  obtain ⟨i, h1, hin, rfl, hno, rfl⟩ := hrel;have HNO := hd_ hno;clear hno
  by_cases hlt : i < 14
  · have d0 := HC.out i hlt;obtain ⟨s, hs1, hs2⟩ := tx_of (acs.getD i []);rw [hs1] at d0;have HT : Hid (acs.tail.getD (i - 1) [] = bl s) := by
     show _ = _;rw [hs2];obtain ⟨k, rfl⟩ : ∃ k, i = k + 1 := ⟨i - 1, by omega⟩;simp [acs]
    clear hs1 hs2
    by_cases hst : s = t
    · subst hst;have HR : Hid (act (bl s) = (i : Int)) := by
       show _ = _;unfold act;rw [look_yes HNO.out HT.out (by omega : i - 1 < 13)];show ((i - 1 : Nat) : Int) + 1 = i;omega
      go_wp2_with fail
      go_ret
      exact ⟨by rw [HR.out]; rfl, HB.out⟩
    · have hne : (s.toList == t.toList) = false := text_ne hst;have HR : Hid (look acs.tail (bl t) (i + 1 - 1) = none) := by
       show _ = _;have := look_no HNO.out (by rw [HT.out]; exact fun h => hst (bl_inj h))
       rwa [show i - 1 + 1 = i + 1 - 1 by omega] at this
      have hle : i + 1 <= 14 := by omega
      go_wp2_with fail
      go_roundw
      case rel =>
       first
        | exact ⟨i + 1, by omega, hle, by go_num, HR.out, by first | rfl | trivial⟩
        | ((repeat apply Exists.intro); exact ⟨⟨i + 1, by omega, hle, by go_num, HR.out, by first | rfl | trivial⟩, rfl⟩)
      case measure => simp [intOf]; omega
  · have HR : Hid (act (bl t) = 0) := by
     show _ = _;have := HNO.out;rw [show i - 1 = 13 by omega] at this;unfold act;rw [this]
    go_wp2_with fail
    go_ret
    exact ⟨by rw [HR.out]; rfl, HB.out⟩
theorem Timed_any (s : Int) (w : World) : Calls Tryz.prog 59 #[.int .i64 s] w fun e w' => e = .returned (.bool (timed s)) /\ w' = w := by
 unfold timed
 by_cases h0 : 4 <= s
 · by_cases h1 : s <= 8
   · rw [decide_eq_true ⟨h0, h1⟩];go_enter Tryz.func59, Tryz.ntmps59
     go_wp2
     go_ret
     exact ⟨rfl, rfl⟩
   · rw [decide_eq_false (fun h => h1 h.2)];go_enter Tryz.func59, Tryz.ntmps59
     go_wp2
     go_ret
     exact ⟨rfl, rfl⟩
 · rw [decide_eq_false (fun h => h0 h.1)];go_enter Tryz.func59, Tryz.ntmps59
   go_wp2
   go_ret
   exact ⟨rfl, rfl⟩
theorem rTimed_any (s : Int) (w : World) : Calls Tryz.prog 35 #[.int .i64 s] w fun e w' => e = .returned (.bool (timed s)) /\ w' = w := by
 unfold timed
 by_cases h0 : 4 <= s
 · by_cases h1 : s <= 8
   · rw [decide_eq_true ⟨h0, h1⟩];go_enter Tryz.func35, Tryz.ntmps35
     go_wp2
     go_ret
     exact ⟨rfl, rfl⟩
   · rw [decide_eq_false (fun h => h1 h.2)];go_enter Tryz.func35, Tryz.ntmps35
     go_wp2
     go_ret
     exact ⟨rfl, rfl⟩
 · rw [decide_eq_false (fun h => h0 h.1)];go_enter Tryz.func35, Tryz.ntmps35
   go_wp2
   go_ret
   exact ⟨rfl, rfl⟩
theorem infoA : (Tryz.prog.info? 82).map (fun i => (i.zero, i.size, i.bytes)) = some (some (.int .i64 0), 1, 8) := by kernel_rfl
theorem cells_rows : ∀ e, InE e -> (cellT.getD (e.toNat - 1) []).length = 10 := by
 intro e he;have := all_steps (fun s e => decide ((cellT.getD (e.toNat - 1) []).length = 10)) (by decide +kernel) 0 e (by decide) he;exact of_decide_eq_true this
theorem row_cell (e : Int) (w : World) (he : InE e) : Calls Tryz.prog 60 #[.int .i64 e] w fun x w' => x = .returned (.slice (some ⟨w.heap.size, 0, none⟩) 10 10) /\ Below w.heap.size w w' /\
 ∀ k : Nat, k < 10 -> w'.cell? ⟨w.heap.size, k, none⟩ = some (tx (cellOf (k : Int) e)) := by
 refine (row_yes e w he).mono ?_;rintro x w' ⟨h1, h2, h3⟩;rw [cells_rows e he] at h1 h3;exact ⟨h1, h2, fun k hk => h3 k hk⟩
theorem bl_sub (c : ByteArray) (a b : Nat) : bl (c.extract a b) = ((bl c).drop a).take (b - a) := by
 unfold bl;rw [ByteArray.data_extract];simp [List.take_drop];try omega
theorem tres_err (s e f : Int) (w w' : World) (h : stp s e = (0, [], f)) (hb : Below w.heap.size w w') : TRes s e w (.returned (.tuple #[.int .i64 0, .slice none 0 0, .int .i64 f])) w' := by
 unfold TRes;rw [h];exact ⟨_, rfl, AO.nil _ _, hb⟩
set_option maxHeartbeats 4000000 in
set_option maxRecDepth 20000 in
theorem rstep_in (k : Nat) (e : Int) (w : World) (hs : k < 10) (he : InE e) : Calls Tryz.prog 33 #[.int .i64 (k : Int), .int .i64 e] w (TRes (k : Int) e w) := by
 have hS : InS (k : Int) := by unfold InS; omega
 have HR := hd_ (row_cell e w he);have HT := hd_ (read_tab hS he);have HK := hd_ (cell_ok hS he);have HI := hd_ (And.intro hS he);have n1 : ¬ (k : Int) < 0 := by omega
 have n2 : ¬ 9 < (k : Int) := by omega
 have n3 : (k : Int) < 10 := by omega
 obtain ⟨i0, hi, hz0, hz1, hz2⟩ := info_parts infoA;clear hS he;go_enter Tryz.func33, Tryz.ntmps33
 go_wp2_with fail
 refine HR.out.mono ?_;rintro x w1 ⟨rfl, hb, hc⟩;have d0 := hc k hs;have HB := hd_ hb;obtain ⟨c, hc1, hc2⟩ := tx_of (cellOf (k : Int) e);rw [hc1] at d0;have HC := hd_ hc2;rw [<- hc2] at HT HK;clear hc hb hc1 hc2 HR
 by_cases hq : c = ⟨#[45]⟩
 · subst hq;have HE := hd_ (tres_err _ e 5 w w1 (stp_none HI.out.1 HI.out.2 (by rw [<- HT.out]; rfl)) HB.out);go_wp2_with fail
   go_ret3
   exact HE.out
 · have hne : (c.toList == [45]) = false := by have := text_ne hq; rwa [show (ByteArray.mk #[45]).toList = [45] by rw [ByteArray.toList_eq]] at this
   have HQ : Hid (bl c ≠ [45]) := fun h => hq (bl_inj h)
   clear hq;have HL : Hid ((bl c).length = c.size) := bl_length c;obtain ⟨M, hM⟩ : ∃ M, M = c.size := ⟨_, rfl⟩;have HM := hd_ hM;have hM13 : M <= 13 := by have := HK.out.2.1; rw [HL.out] at this; omega
   have hM0 : 0 < M := by have := HK.out.1; rw [HL.out] at this; omega
   have hM3 : M % 4 ≠ 3 /\ M % 4 ≠ 0 := by have := HK.out.2.2; rw [HL.out, <- hM] at this; exact ⟨this.2.1, this.1⟩
   have hmc : (c.size : Int) = (M : Int) := by rw [hM]
   clear hM;go_wp2_with fail
   go_loopw [9, 10] (fun lv iv wr => ∃ (k : Nat) (v : Value), 4 * k <= M /\ iv = .int .i64 ((4 * k : Nat) : Int) /\ v = lv /\ AO wr w.heap.size v (actsN (bl c) k) /\ Below w.heap.size w wr) (fun _ iv _ => 20 - (intOf iv).toNat)
   case atStart => exact ⟨0, _, by omega, rfl, rfl, AO.nil _ _, HB.out⟩
   case round =>
    clear HB;obtain ⟨q, lv, hq, rfl, rfl, ho, hb⟩ := hrel;have HO := hd_ ho;have HB := hd_ hb;clear ho hb;obtain ⟨J, hJ⟩ : ∃ J, J = 4 * q := ⟨_, rfl⟩;rw [<- hJ] at hq;simp only [<- hJ]
    by_cases hlt : J + 3 < M
    · have hsl : ∀ w', (Instr.slice 9 (.string c) (some (.int .i64 (J : Int))) (some (.int .i64 ((J : Int) + 3))) none).run Tryz.prog w' = .ok (.string (c.extract J (J + 3))) w' := by
       intro w';have := run_slice_string (P := Tryz.prog) w' 9 c .i64 .i64 (J : Int) ((J : Int) + 3) Tryz.underlying9 (by omega) (by omega) (by omega);rw [this]
       congr 2
      have HA := hd_ (action_any (c.extract J (J + 3)) wr);have HT2 : Hid (actsN (bl c) (q + 1) = actsN (bl c) q ++ [act (bl (c.extract J (J + 3)))]) := by
       show _ = _;rw [actsN_succ, bl_sub, hJ]
       congr 4
       · omega
       · rw [Nat.mul_comm]
      obtain ⟨x, hx⟩ : ∃ x, x = act (bl (c.extract J (J + 3))) := ⟨_, rfl⟩;rw [<- hx] at HA HT2;clear hx;have HJ := hd_ hJ;clear hJ;go_wp2_with fail
      refine HA.out.mono ?_;rintro e w2 ⟨rfl, hb⟩;have HB2 := hd_ (HB.out.trans (hb.mono HB.out.size));have HO2 := hd_ (HO.out.below hb);clear hb HA HO HB;have ha := (Below.refl w2.heap.size w2).alloc (Nat.le_refl _) (.cells (ints [x]).toArray 82);have HB3 := hd_ (HB2.out.trans (ha.mono HB2.out.size));have HO3 : Hid (AO (w2.alloc (.cells (ints [x]).toArray 82)) w.heap.size lv (actsN (bl c) q)) := HO2.out.below ha;have HX : Hid (AR (w2.alloc (.cells (ints [x]).toArray 82)) (.slice (some ⟨w2.heap.size, 0, none⟩) 1 1) [x]) := (ao_new w2 [x] (by simp)).ar;have HN : Hid ((actsN (bl c) q).length = q) := by show _ = _; simp [actsN]
      clear ha HB2 HO2;go_wp2_with (at_builtin; refine wpList_append_gr _ rfl (.tmp 37) (.tmp 44) 36 rfl w.heap.size 82 i0 (.int .i64 0) 1 8 Tryz.underlying36 hi hz0 hz1 hz2 rfl (by decide) lv _ _ rfl HO3.out _ 1 (ints [x]) rfl HX.out (ints_cell [x]) ?q1 (by decide) HB3.out.size ?_)
      case q1 => have := HN.out; have := HJ.out; omega
      intro v4 w4 hown hg;have HB4 := hd_ (HB3.out.trans (grown_below HO3.out HB3.out.size hg));have HO4 : Hid (AO w4 w.heap.size v4 (actsN (bl c) (q + 1))) := by
       show World.ownsRow ..;rw [HT2.out, ints_app, List.length_append];exact hown
      have HJ4 : Hid (4 * (q + 1) = J + 4) := by show _ = _; have := HJ.out; omega
      have hle : 4 * (q + 1) <= M := by have := HJ.out; omega
      clear hown hg HB3 HO3 HX HT2;go_wp2_with fail
      go_roundw
      case rel =>
       first
        | exact ⟨q + 1, v4, hle, by rw [HJ4.out]; go_num, rfl, HO4.out, HB4.out⟩
        | ((repeat apply Exists.intro); exact ⟨⟨q + 1, v4, hle, by rw [HJ4.out]; go_num, rfl, HO4.out, HB4.out⟩, rfl⟩)
      case measure => simp [intOf]; omega
    · have HQ4 : Hid ((bl c).length / 4 = q) := by show _ = _; rw [HL.out]; omega
      have HS : Hid (stp (k : Int) e = ((last (bl c) : Int) - 48, actsN (bl c) q, 0)) := by
       refine stp_some HI.out.1 HI.out.2 ?_;rw [<- HT.out];unfold readC;rw [if_neg HQ.out, HQ4.out]
      have hch : chr c (M - 1) = last (bl c) := by unfold chr last bl; rw [show c.data.toList.length = M by have := HL.out; unfold bl at this; omega]
      have hix := index_chr (P := Tryz.prog) Tryz.underlying9 c .i64 ((M : Int) - 1) (M - 1) (by omega) (by omega);rw [hch] at hix;have hl := HK.out.2.2.2.2;obtain ⟨L, hLL⟩ : ∃ L, L = last (bl c) := ⟨_, rfl⟩;rw [<- hLL] at hix hl HS;have hl2 : 48 <= L /\ L <= 57 := by rcases hl with h | h; exact absurd h HQ.out; exact h
      have x1 : IntKind.u8.wrap ((L : Int) - 48) = (L : Int) - 48 := by rw [IntKind.wrap_u8]; omega
      clear hl hLL hch;go_wp2_with fail
      go_ret3
      unfold TRes;rw [HS.out];exact ⟨lv, rfl, HO.out, HB.out⟩
set_option maxHeartbeats 2000000 in
theorem rstep_out (s e : Int) (w : World) (h : ¬ (InS s /\ InE e)) : Calls Tryz.prog 33 #[.int .i64 s, .int .i64 e] w (TRes s e w) := by
 have HE := hd_ (fun w' hb => tres_err s e 140 w w' (stp_out h) hb)
 by_cases he : InE e
 · have HR := hd_ (row_cell e w he);have hs : s < 0 \/ 9 < s := by
    have : ¬ InS s := fun c => h ⟨c, he⟩
    unfold InS at this; omega
   clear he h
   by_cases n1 : s < 0
   · clear hs;go_enter Tryz.func33, Tryz.ntmps33
     go_wp2_with fail
     refine HR.out.mono ?_;rintro x w1 ⟨rfl, hb, _⟩;have HB := hd_ hb;clear hb HR;go_wp2_with fail
     go_ret3
     exact HE.out _ HB.out
   · have n2 : 9 < s := by omega
     clear hs;go_enter Tryz.func33, Tryz.ntmps33
     go_wp2_with fail
     refine HR.out.mono ?_;rintro x w1 ⟨rfl, hb, _⟩;have HB := hd_ hb;clear hb HR;go_wp2_with fail
     go_ret3
     exact HE.out _ HB.out
 · have HR := hd_ (row_no e w he);clear he h
   by_cases n1 : s < 0
   · go_enter Tryz.func33, Tryz.ntmps33
     go_wp2_with fail
     refine HR.out.mono ?_;rintro x w1 ⟨rfl, rfl⟩;go_wp2_with fail
     go_ret3
     exact HE.out _ (Below.refl _ _)
   · by_cases n2 : 9 < s
     · go_enter Tryz.func33, Tryz.ntmps33
       go_wp2_with fail
       refine HR.out.mono ?_;rintro x w1 ⟨rfl, rfl⟩;go_wp2_with fail
       go_ret3
       exact HE.out _ (Below.refl _ _)
     · go_enter Tryz.func33, Tryz.ntmps33
       go_wp2_with fail
       refine HR.out.mono ?_;rintro x w1 ⟨rfl, rfl⟩;go_wp2_with fail
       go_ret3
       exact HE.out _ (Below.refl _ _)
theorem rStep_any (s e : Int) (w : World) : Calls Tryz.prog 33 #[.int .i64 s, .int .i64 e] w (TRes s e w) := by
 by_cases h : InS s /\ InE e
 · obtain ⟨k, rfl⟩ : ∃ k : Nat, s = (k : Int) := ⟨s.toNat, by have := h.1.1; omega⟩;exact rstep_in k e w (by have := h.1.2; omega) h.2
 · exact rstep_out s e w h
structure Mid (s : Int) (es : List Int) (w : World) (p : Nat) (k : Nat) (t : Int) (acc : List Int) (v : Value) (wr : World) : Prop where
 gone : Gone s es k t acc
 ins : InS t
 few : acc.length <= 3 * k
 own : AO wr w.heap.size v acc
 low : Below w.heap.size w wr
 mem : Sm wr p t
end
end Go.Proofs.YtclplbapedmihaaGreat.Fs
namespace Go.Proofs.YtclplbapedmihaaGreat
set_option maxRecDepth 4000
open Go.ChangeShapes Go.WideShapes Go.ChangeAt Go.RowKit
set_option linter.unusedVariables false
set_option linter.unusedSimpArgs false
section
variable {H : Type} {enc : TypeId × Value -> H} {P : Program} {W : World} {base : Nat}
end
end Go.Proofs.YtclplbapedmihaaGreat
