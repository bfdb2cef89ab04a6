/-
  What has turned (a list of blocks, no other); rows of ints and of those that rest, in memory, with the blocks that they lie in.
-/
import Derived.Test.YtmhiajjnkcneoaaIdP
import Derived.Test.YtmhiajjnkcneoaaGen
namespace Go.Proofs.Ytmhiajjnkcneoaa.Id
open Go.RowKit
set_option linter.unusedVariables false
set_option linter.unusedSimpArgs false

/-- Nothing that was there has turned but the blocks of K. -/
structure Tr (K : List Nat) (w w' : World) : Prop where
  os : w'.os = w.os
  tape : w'.tape = w.tape
  output : w'.output = w.output
  size : w.heap.size ≤ w'.heap.size
  block : ∀ k, k < w.heap.size → k ∉ K → w'.heap[k]? = w.heap[k]?
theorem Tr.refl (K : List Nat) (w : World) : Tr K w w := ⟨rfl, rfl, rfl, Nat.le_refl _, fun _ _ _ => rfl⟩
theorem Tr.trans {K L : List Nat} {u v w : World} (h : Tr K u v) (k : Tr L v w) (hL : ∀ i ∈ L, i ∈ K ∨ u.heap.size ≤ i) : Tr K u w :=
  ⟨k.os.trans h.os, k.tape.trans h.tape, k.output.trans h.output, Nat.le_trans h.size k.size, fun i hi hn => (k.block i (Nat.lt_of_lt_of_le hi h.size) fun hl => by rcases hL i hl with h1 | h1; exact hn h1; omega).trans (h.block i hi hn)⟩
theorem Tr.gr {K : List Nat} {w w' : World} (h : Below w.heap.size w w') : Tr K w w' := ⟨h.os, h.tape, h.output, h.size, fun k hk _ => h.block k hk⟩
theorem Tr.only {K : List Nat} {g : Nat} {w w' : World} (h : Only g w w') (hg : g ∈ K) : Tr K w w' := by
  have h0 := h.below 0 w (Nat.zero_le _) (Below.refl _ _)
  exact ⟨h0.os, h0.tape, h0.output, h.size, fun k hk hn => h.heap k hk fun e => hn (e ▸ hg)⟩
theorem Tr.below {K : List Nat} {B : Nat} {u w w' : World} (hu : Below B u w) (hB : B ≤ w.heap.size) (h : Tr K w w') (hK : ∀ k ∈ K, B ≤ k) : Below B u w' :=
  hu.trans ⟨h.os, h.tape, h.output, h.size, fun k hk => h.block k (by omega) fun hk' => by have := hK k hk'; omega⟩
theorem Tr.heap {K : List Nat} {k : Nat} {w w' : World} {o : Obj} (h : Tr K w w') (hk : w.heap[k]? = some o) (hn : k ∉ K) : w'.heap[k]? = some o :=
  (h.block k (Array.getElem?_eq_some_iff.1 hk).1 hn).trans hk
theorem Tr.cell {K : List Nat} {w w' : World} {p : Addr} {v : Value} (h : Tr K w w') (hn : p.block ∉ K) (hc : w.cell? p = some v) : w'.cell? p = some v := by
  rw [World.cell?_of_block (w := w) (h.block p.block (World.block_lt_of_cell? w _ hc) hn)]; exact hc
/-- The blocks that a slice lies in. -/
def blk : Value → List Nat
  | .slice (some ad) _ _ => [ad.block]
  | _ => []
theorem Rd.tr {K : List Nat} {w w' : World} {size n : Nat} {v : Value} {xs : List Value} (h : Rd w size v n xs) (ht : Tr K w w') (hd : ∀ k ∈ blk v, k ∉ K) : Rd w' size v n xs := by
  obtain ⟨h0, ao, cap, rfl, h1, h2, h3, h4⟩ := h
  refine ⟨h0, ao, cap, rfl, h1, h2, h3, fun ad had j u hu => ?_⟩
  subst had
  exact ht.cell (by rw [add_block]; exact hd _ (List.mem_singleton.2 rfl)) (h4 ad rfl j u hu)
/-- A row of ints. -/
def IR (w : World) (v : Value) (l : List Int) : Prop := Rd w 1 v l.length (l.map (Value.int .i64))
theorem IR.tr {K : List Nat} {w w' : World} {v : Value} {l : List Int} (h : IR w v l) (ht : Tr K w w') (hd : ∀ k ∈ blk v, k ∉ K) : IR w' v l := Rd.tr h ht hd
theorem IR.nil (w : World) : IR w (.slice none 0 0) [] := Rd.nil w 1
theorem IR.shape {w : World} {v : Value} {l : List Int} (h : IR w v l) : ∃ ao c, v = .slice ao l.length c ∧ l.length ≤ c ∧ c ≤ maxLen := Rd.shape h
theorem IR.cells {w : World} {ao : Option Addr} {n c : Nat} {l : List Int} (h : IR w (.slice ao n c) l) (hn : 0 < l.length) :
    ∃ b o, ao = some ⟨b, o, none⟩ ∧ b < w.heap.size ∧ ∀ (i : Nat) (hi : i < l.length), w.cell? ⟨b, o + i, none⟩ = some (.int .i64 l[i]) := by
  obtain ⟨_, _, e, _⟩ := h.shape
  simp only [Value.slice.injEq] at e
  obtain ⟨_, rfl, _⟩ := e
  obtain ⟨b, o, h1, h2, h3⟩ := Rd.cells h hn (by decide)
  exact ⟨b, o, h1, h2, fun i hi => h3 i _ (by simp [hi])⟩
/-- Those that rest: a number, its tick. -/
def flatR (l : List (Int × Int)) : List Value := l.flatMap fun p => [.int .i64 p.1, .int .i64 p.2]
theorem flatR_cons (p : Int × Int) (l : List (Int × Int)) : flatR (p :: l) = .int .i64 p.1 :: .int .i64 p.2 :: flatR l := rfl
theorem flatR_append (l m : List (Int × Int)) : flatR (l ++ m) = flatR l ++ flatR m := List.flatMap_append
theorem flatR_one (p : Int × Int) : flatR [p] = [.int .i64 p.1, .int .i64 p.2] := rfl
theorem flatR_len : ∀ (l : List (Int × Int)), (flatR l).length = l.length * 2
  | [] => rfl
  | p :: l => by rw [flatR_cons, List.length_cons, List.length_cons, flatR_len l, List.length_cons]; omega
theorem flatR_get : ∀ (l : List (Int × Int)) (k : Nat) (hk : k < l.length), (flatR l)[k * 2]? = some (.int .i64 l[k].1) ∧ (flatR l)[k * 2 + 1]? = some (.int .i64 l[k].2)
  | p :: l, 0, _ => ⟨rfl, rfl⟩
  | p :: l, k + 1, hk => by
    have h := flatR_get l k (by simpa using hk)
    rw [flatR_cons, show (k + 1) * 2 = k * 2 + 1 + 1 by omega]
    simpa using h
theorem flatR_cell (l : List (Int × Int)) : ∀ v ∈ flatR l, v.oneCell' = true := by
  intro v hv
  obtain ⟨b, _, h⟩ := List.mem_flatMap.1 hv
  simp only [List.mem_cons, List.not_mem_nil, or_false] at h
  rcases h with rfl | rfl <;> rfl
theorem ints_cell (l : List Int) : ∀ v ∈ l.map (Value.int .i64), v.oneCell' = true := by
  intro v hv
  obtain ⟨x, _, rfl⟩ := List.mem_map.1 hv
  rfl
def RR (w : World) (v : Value) (l : List (Int × Int)) : Prop := Rd w 2 v l.length (flatR l)
theorem RR.tr {K : List Nat} {w w' : World} {v : Value} {l : List (Int × Int)} (h : RR w v l) (ht : Tr K w w') (hd : ∀ k ∈ blk v, k ∉ K) : RR w' v l := Rd.tr h ht hd
theorem RR.nil (w : World) : RR w (.slice none 0 0) [] := Rd.nil w 2
theorem RR.shape {w : World} {v : Value} {l : List (Int × Int)} (h : RR w v l) : ∃ ao c, v = .slice ao l.length c ∧ l.length ≤ c ∧ c ≤ maxLen := Rd.shape h
theorem RR.cells {w : World} {ao : Option Addr} {n c : Nat} {l : List (Int × Int)} (h : RR w (.slice ao n c) l) (hn : 0 < l.length) :
    ∃ b o, ao = some ⟨b, o, none⟩ ∧ b < w.heap.size ∧ ∀ (i : Nat) (hi : i < l.length), w.cell? ⟨b, o + i * 2, none⟩ = some (.int .i64 l[i].1) ∧ w.cell? ⟨b, o + i * 2 + 1, none⟩ = some (.int .i64 l[i].2) := by
  obtain ⟨_, _, e, _⟩ := h.shape
  simp only [Value.slice.injEq] at e
  obtain ⟨_, rfl, _⟩ := e
  obtain ⟨b, o, h1, h2, h3⟩ := Rd.cells h hn (by decide)
  refine ⟨b, o, h1, h2, fun i hi => ?_⟩
  have g := flatR_get l i hi
  exact ⟨h3 _ _ g.1, by rw [Nat.add_assoc]; exact h3 _ _ g.2⟩
/-- What the call has made itself lies behind the base. -/
theorem own_blk {w : World} {base : Nat} {e : TypeId} {v : Value} {size n : Nat} {xs : List Value} (h : w.ownsRow base e size v n xs) : ∀ k ∈ blk v, base ≤ k ∧ k < w.heap.size := by
  intro k hk
  rcases h.2 with ⟨rfl, _⟩ | ⟨g, cap, cur, rfl, hb, hg, _⟩
  · cases hk
  · obtain rfl := List.mem_singleton.1 hk
    exact ⟨hb, (Array.getElem?_eq_some_iff.1 hg).1⟩
end Go.Proofs.Ytmhiajjnkcneoaa.Id
