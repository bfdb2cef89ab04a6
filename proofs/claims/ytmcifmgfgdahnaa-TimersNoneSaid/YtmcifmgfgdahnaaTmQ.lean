/-
  Timers of a law's own: each call, and what it leaves of the law's other blocks; two of them side by side; the laws' example.
-/
import Derived.Test.YtmcifmgfgdahnaaTmO
namespace Go.Proofs.Ytmcifmgfgdahnaa.Tm
open Go.RowKit
open Go.Proofs.Ytmcifmgfgdahnaa.Id (Tr Tr.refl Tr.gr Tr.only blk own_blk flatR flatR_len flatR_get flatR_cons flatR_append flatR_one flatR_cell RR)
set_option linter.unusedVariables false
set_option linter.unusedSimpArgs false

/-- Blocks of other types stand. -/
def Kt (w w' : World) : Prop := ∀ (k : Nat) (cs : Array Value) (e : TypeId) (fr : Nat × Nat), w.heap[k]? = some (.cells cs e fr) → e ≠ 51 → e ≠ 62 → e ≠ 56 → w'.heap[k]? = some (.cells cs e fr)
theorem Kt.refl (w : World) : Kt w w := fun _ _ _ _ h _ _ _ => h
theorem Kt.trans {a b c : World} (h : Kt a b) (k : Kt b c) : Kt a c := fun i cs e fr h1 h2 h3 h4 => k i cs e fr (h i cs e fr h1 h2 h3 h4) h2 h3 h4
theorem Kt.gr {w w' : World} (h : Below w.heap.size w w') : Kt w w' := fun k cs e fr h1 _ _ _ => heap_below h1 h
theorem Kt.row {w w' : World} (h : Kt w w') {base n size : Nat} {e : TypeId} {v : Value} {xs : List Value} (ho : w.ownsRow base e size v n xs) (h1 : e ≠ 51) (h2 : e ≠ 62) (h3 : e ≠ 56) : w'.ownsRow base e size v n xs := by
  refine ⟨ho.1, ?_⟩
  rcases ho.2 with ho | ⟨g, cap, cur, rfl, hb, hg, h4⟩
  · exact .inl ho
  · exact .inr ⟨g, cap, cur, rfl, hb, h g _ _ _ hg h1 h2 h3, h4⟩
theorem Kt.rw {w w' : World} (h : Kt w w') {v : Value} {l : List D} (ho : Rw w 40 v l) : Rw w' 40 v l := h.row ho (by decide) (by decide) (by decide)
theorem Kt.of {w w' : World} {p g b : Nat} {v : Value} {l : List D} (h : TM w p g v b l) (ht : Tr (Fq g v b) w w') : Kt w w' := fun k cs e fr h1 h2 h3 h4 => ht.heap h1 fun hk => h.off_cell h1 h2 h3 h4 (List.mem_cons_of_mem _ hk)
/-- Timers of the law's own: behind the law's world W. -/
def LT (W w : World) (p : Nat) (l : List D) : Prop := ∃ g v b, TM w p g v b l ∧ Below W.heap.size W w ∧ ∀ k ∈ Ft p g v b, W.heap.size ≤ k
theorem LT.gr {W w w' : World} {p : Nat} {l : List D} (h : LT W w p l) (hb : Below w.heap.size w w') : LT W w' p l := by
  obtain ⟨g, v, b, h1, h2, h3⟩ := h
  exact ⟨g, v, b, h1.gr hb, h2.trans (hb.mono h2.size), h3⟩
theorem LT.low {W w : World} {p : Nat} {l : List D} (h : LT W w p l) : Below W.heap.size W w := by
  obtain ⟨g, v, b, h1, h2, h3⟩ := h
  exact h2
theorem LT.of {W w w' : World} {p : Nat} {l : List D} (hm : Made w w' p l) (hb : Below W.heap.size W w) : LT W w' p l := by
  obtain ⟨g, v, b, h1, h2, h3⟩ := hm
  exact ⟨g, v, b, h1, hb.trans (h3.mono hb.size), fun k hk => Nat.le_trans hb.size (h2 k hk)⟩
/-- A block of the law's own of another type has turned. -/
theorem LT.other {W w w' : World} {p : Nat} {l : List D} (h : LT W w p l) {K : List Nat} (ht : Tr K w w') (hK : ∀ k ∈ K, W.heap.size ≤ k ∧ ∃ cs e fr, w.heap[k]? = some (.cells cs e fr) ∧ e ≠ 51 ∧ e ≠ 62 ∧ e ≠ 56) : LT W w' p l := by
  obtain ⟨g, v, b, h1, h2, h3⟩ := h
  refine ⟨g, v, b, h1.tr ht fun k hk hk2 => ?_, Tr.below h2 h2.size ht fun k hk => (hK k hk).1, h3⟩
  obtain ⟨_, cs, e, fr, h4, h5, h6, h7⟩ := hK k hk2
  exact h1.off_cell h4 h5 h6 h7 hk
theorem LT.few {W w : World} {p : Nat} {l : List D} (h : LT W w p l) : l.length ≤ 65536 := by
  obtain ⟨g, v, b, h1, _⟩ := h
  exact h1.few
theorem LT.srt {W w : World} {p : Nat} {l : List D} (h : LT W w p l) : Srt l := by
  obtain ⟨g, v, b, h1, _⟩ := h
  exact h1.srt
theorem go_lt {W w w' : World} {p g b : Nat} {v : Value} {l L : List D} (h : TM w p g v b l) (h2 : Below W.heap.size W w) (h3 : ∀ k ∈ Ft p g v b, W.heap.size ≤ k) (hg : TGo p g v b w L w') : LT W w' p L ∧ Kt w w' := by
  obtain ⟨v', h4, h5⟩ := hg
  refine ⟨⟨g, v', b, h4, Tr.below h2 h2.size h5.tr fun k hk => h3 k (List.mem_cons_of_mem _ hk), fun k hk => ?_⟩, Kt.of h h5.tr⟩
  rcases List.mem_cons.1 hk with rfl | hk
  · exact h3 _ (by simp [Ft])
  · rcases h5.blk k hk with h6 | h6
    · exact h3 k (List.mem_cons_of_mem _ h6)
    · exact Nat.le_trans h2.size h6
theorem LT.set {W w : World} {p : Nat} {l : List D} (h : LT W w p l) (key t : Int) (hn : l.length < 65536) :
    Calls Try.prog 9 #[.pointer (some ⟨p, 0, none⟩), .int .i64 key, .int .i64 t] w fun e w' => e = .returned (.int .i64 (setE key t)) ∧ LT W w' p (setL l key t) ∧ Kt w w' := by
  obtain ⟨g, v, b, h1, h2, h3⟩ := h
  exact (tset_any key t w h1 hn).mono fun e w' ⟨he, hg⟩ => ⟨he, go_lt h1 h2 h3 hg⟩
theorem LT.stop {W w : World} {p : Nat} {l : List D} (h : LT W w p l) (key : Int) (hk : I64 key) :
    Calls Try.prog 11 #[.pointer (some ⟨p, 0, none⟩), .int .i64 key] w fun e w' => e = .returned (.bool (stopB l key)) ∧ LT W w' p (without l key) ∧ Kt w w' := by
  obtain ⟨g, v, b, h1, h2, h3⟩ := h
  exact (tstop_any key w h1 hk).mono fun e w' ⟨he, hg⟩ => ⟨he, go_lt h1 h2 h3 hg⟩
theorem LT.due {W w : World} {p : Nat} {l : List D} (h : LT W w p l) (t : Int) :
    Calls Try.prog 14 #[.pointer (some ⟨p, 0, none⟩), .int .i64 t] w fun e w' => ∃ dv, e = .returned dv ∧ Rw w' 40 dv (due l t) ∧ LT W w' p (left l t) ∧ Kt w w' := by
  obtain ⟨g, v, b, h1, h2, h3⟩ := h
  exact (tdue_any t w h1).mono fun e w' ⟨dv, he, ho, hg⟩ => ⟨dv, he, ownsRow_mono ho (Nat.zero_le _), go_lt h1 h2 h3 hg⟩
theorem LT.next {W w : World} {p : Nat} {l : List D} (h : LT W w p l) :
    Calls Try.prog 16 #[.pointer (some ⟨p, 0, none⟩)] w fun e w' => e = .returned (.tuple #[.agg #[.int .i64 (nextD l).1, .int .i64 (nextD l).2], .bool (nextB l)]) ∧ Below w.heap.size w w' := by
  obtain ⟨g, v, b, h1, h2, h3⟩ := h
  exact tnext_any w h1
theorem LT.len {W w : World} {p : Nat} {l : List D} (h : LT W w p l) :
    Calls Try.prog 17 #[.pointer (some ⟨p, 0, none⟩)] w fun e w' => e = .returned (.int .i64 (l.length : Int)) ∧ w = w' := by
  obtain ⟨g, v, b, h1, h2, h3⟩ := h
  exact tlen_any w h1
theorem lt_new {W w : World} (hb : Below W.heap.size W w) : Calls Try.prog 6 #[] w fun e w' => ∃ p, e = .returned (.pointer (some ⟨p, 0, none⟩)) ∧ LT W w' p [] ∧ Below w.heap.size w w' :=
  (new_any w).mono fun e w' ⟨p, he, hm⟩ => ⟨p, he, LT.of hm hb, by obtain ⟨_, _, _, _, _, h⟩ := hm; exact h⟩
theorem LT.all {W w : World} {p : Nat} {l : List D} (h : LT W w p l) :
    Calls Try.prog 18 #[.pointer (some ⟨p, 0, none⟩)] w fun e w' => ∃ dv, e = .returned dv ∧ Rw w' 40 dv l ∧ Below w.heap.size w w' := by
  obtain ⟨g, v, b, h1, h2, h3⟩ := h
  exact (tall_any w h1).mono fun e w' ⟨dv, he, ho, hb⟩ => ⟨dv, he, ownsRow_mono ho (Nat.zero_le _), hb⟩
/-- Two of them, apart. -/
def LT2 (W w : World) (p : Nat) (l : List D) (p' : Nat) (l' : List D) : Prop :=
  ∃ g v b g' v' b', TM w p g v b l ∧ TM w p' g' v' b' l' ∧ Below W.heap.size W w ∧ (∀ k ∈ Ft p g v b, W.heap.size ≤ k ∧ k ∉ Ft p' g' v' b') ∧ ∀ k ∈ Ft p' g' v' b', W.heap.size ≤ k
theorem LT2.snd {W w : World} {p p' : Nat} {l l' : List D} (h : LT2 W w p l p' l') : LT W w p' l' := by
  obtain ⟨g, v, b, g', v', b', h1, h2, h3, h4, h5⟩ := h
  exact ⟨g', v', b', h2, h3, h5⟩
theorem LT2.fst {W w : World} {p p' : Nat} {l l' : List D} (h : LT2 W w p l p' l') : LT W w p l := by
  obtain ⟨g, v, b, g', v', b', h1, h2, h3, h4, h5⟩ := h
  exact ⟨g, v, b, h1, h3, fun k hk => (h4 k hk).1⟩
theorem go_lt2 {W w w' : World} {p g b p' g' b' : Nat} {v v' : Value} {l l' L : List D} (h : TM w p g v b l) (h' : TM w p' g' v' b' l') (h2 : Below W.heap.size W w) (h3 : ∀ k ∈ Ft p g v b, W.heap.size ≤ k ∧ k ∉ Ft p' g' v' b') (h4 : ∀ k ∈ Ft p' g' v' b', W.heap.size ≤ k) (hg : TGo p g v b w L w') : LT2 W w' p L p' l' ∧ Kt w w' := by
  obtain ⟨v2, h5, h6⟩ := hg
  refine ⟨⟨g, v2, b, g', v', b', h5, h'.tr h6.tr fun k hk hk2 => (h3 k (List.mem_cons_of_mem _ hk2)).2 hk, Tr.below h2 h2.size h6.tr fun k hk => (h3 k (List.mem_cons_of_mem _ hk)).1, fun k hk => ?_, h4⟩, Kt.of h h6.tr⟩
  rcases List.mem_cons.1 hk with rfl | hk
  · exact h3 _ (by simp [Ft])
  · rcases h6.blk k hk with h7 | h7
    · exact h3 k (List.mem_cons_of_mem _ h7)
    · exact ⟨Nat.le_trans h2.size h7, fun h8 => by have := h'.lt k h8; omega⟩
theorem LT2.set {W w : World} {p p' : Nat} {l l' : List D} (h : LT2 W w p l p' l') (key t : Int) (hn : l.length < 65536) :
    Calls Try.prog 9 #[.pointer (some ⟨p, 0, none⟩), .int .i64 key, .int .i64 t] w fun e w' => e = .returned (.int .i64 (setE key t)) ∧ LT2 W w' p (setL l key t) p' l' ∧ Kt w w' := by
  obtain ⟨g, v, b, g', v', b', h1, h2, h3, h4, h5⟩ := h
  exact (tset_any key t w h1 hn).mono fun e w' ⟨he, hg⟩ => ⟨he, go_lt2 h1 h2 h3 h4 h5 hg⟩
theorem LT2.stop {W w : World} {p p' : Nat} {l l' : List D} (h : LT2 W w p l p' l') (key : Int) (hk : I64 key) :
    Calls Try.prog 11 #[.pointer (some ⟨p, 0, none⟩), .int .i64 key] w fun e w' => e = .returned (.bool (stopB l key)) ∧ LT2 W w' p (without l key) p' l' ∧ Kt w w' := by
  obtain ⟨g, v, b, g', v', b', h1, h2, h3, h4, h5⟩ := h
  exact (tstop_any key w h1 hk).mono fun e w' ⟨he, hg⟩ => ⟨he, go_lt2 h1 h2 h3 h4 h5 hg⟩
theorem LT.fork {W w : World} {p : Nat} {l : List D} (h : LT W w p l) :
    Calls Try.prog 15 #[.pointer (some ⟨p, 0, none⟩)] w fun e w' => ∃ p', e = .returned (.pointer (some ⟨p', 0, none⟩)) ∧ LT2 W w' p l p' l ∧ Below w.heap.size w w' := by
  obtain ⟨g, v, b, h1, h2, h3⟩ := h
  refine (tfork_any w h1).mono fun e w' ⟨p', he, g', v', b', h4, h5, h6⟩ => ⟨p', he, ⟨g, v, b, g', v', b', h1.gr h6, h4, h2.trans (h6.mono h2.size), fun k hk => ⟨h3 k hk, fun hk2 => ?_⟩, fun k hk => Nat.le_trans h2.size (h5 k hk)⟩, h6⟩
  have := h1.lt k hk
  have := h5 k hk2
  omega
end Go.Proofs.Ytmcifmgfgdahnaa.Tm
