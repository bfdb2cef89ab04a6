/-
  What the laws of limiters share: addresses, and both limiters side by side.
-/
import Derived.Test.YtblnglkjpnpmbaaBkR
import Derived.Test.YtblnglkjpnpmbaaBkT
import Derived.Test.YtblnglkjpnpmbaaBkC
namespace Go.Proofs.Ytblnglkjpnpmbaa.Bk
open Go.RowKit
set_option linter.unusedVariables false
set_option linter.unusedSimpArgs false

/-- An address of the laws. -/
def macL (b : UInt8) : List UInt8 := [2, 0, 0, 0, 0, b]
theorem macL_is (b : UInt8) : (macL b).map u8v = [.int .u8 2, .int .u8 0, .int .u8 0, .int .u8 0, .int .u8 0, .int .u8 (b.toNat : Int)] := rfl
theorem macL_inj {a b : UInt8} (h : macL a = macL b) : a = b := by simpa [macL] using h
theorem mac_any (b : UInt8) (w : World) :
    Calls Try.prog 23 #[.int .u8 (b.toNat : Int)] w fun e w' => e = .returned (.agg #[.int .u8 2, .int .u8 0, .int .u8 0, .int .u8 0, .int .u8 0, .int .u8 (b.toNat : Int)]) ∧ Below w.heap.size w w' := by
  have HB : Hid (Below w.heap.size w (w.alloc (.cells #[.int .u8 2, .int .u8 0, .int .u8 0, .int .u8 0, .int .u8 0, .int .u8 (b.toNat : Int)] 49))) := (Below.refl _ _).alloc (Nat.le_refl _) _
  go_enter Try.func23, Try.ntmps23
  go_wp2
  refine bodyPost_ret (v := .agg #[.int .u8 2, .int .u8 0, .int .u8 0, .int .u8 0, .int .u8 0, .int .u8 (b.toNat : Int)]) (results_cell_row (P := Try.prog) (fn := Try.f23) rfl _ _ w.heap.size 49 _ (0, 0) _ rfl (heap_alloc_last w (.cells #[.int .u8 2, .int .u8 0, .int .u8 0, .int .u8 0, .int .u8 0, .int .u8 (b.toNat : Int)] 49)) Try.underlying49 rfl (by kernel_rfl)) rfl ?_
  exact ⟨rfl, HB.out⟩
/-! A row of entries lies in no limiter's blocks. -/
theorem ER.first {w : World} {ad : Addr} {n c : Nat} {es : List (List UInt8 × Bu)} (h : ER w (.slice (some ad) n c) es) (hne : es ≠ []) : ∃ x, w.cell? ad = some (.int .u8 x) := by
  obtain ⟨_, ao, cap, e, _, _, _, h4⟩ := h.rd
  simp only [Value.slice.injEq] at e
  obtain ⟨rfl, _, _⟩ := e
  cases es with
  | nil => exact absurd rfl hne
  | cons p es =>
    obtain ⟨a0, a1, a2, a3, a4, a5, x, y, rfl⟩ := entry_six (h.six p (by simp))
    have := h4 ad rfl 0 _ rfl
    refine ⟨(a0.toNat : Int), ?_⟩
    have e0 : ad.add 0 = ad := by simp [Addr.add]
    rw [e0] at this
    exact this
theorem ER.kept {w w' : World} {A : Option Addr} {n c : Nat} {es : List (List UInt8 × Bu)} (h : ER w (.slice A n c) es) (hk : es ≠ [] → ∀ ad, A = some ad → w'.heap[ad.block]? = w.heap[ad.block]?) : ER w' (.slice A n c) es := by
  refine ⟨?_, h.six⟩
  by_cases hne : es = []
  · subst hne
    obtain ⟨h0, ao, cap, e, h1, h2, h3, h4⟩ := h.rd
    exact ⟨h0, ao, cap, e, h1, h2, h3, fun ad had j u hu => by simp [flatE] at hu⟩
  · obtain ⟨h0, ao, cap, e, h1, h2, h3, h4⟩ := h.rd
    simp only [Value.slice.injEq] at e
    obtain ⟨rfl, e1, e2⟩ := e
    refine ⟨h0, A, cap, by rw [e1, e2], h1, h2, h3, fun ad had j u hu => ?_⟩
    have := h4 ad had j u hu
    rw [← this]
    exact World.cell?_of_block (w := w) (by rw [add_block]; exact hk hne ad had)
theorem not_row {w : World} {ad : Addr} {x : Int} (h : w.cell? ad = some (.int .u8 x)) {g : Nat} {cs : Array Value} {t : TypeId} {fr : Nat × Nat} (hg : w.heap[g]? = some (.cells cs t fr)) (hno : ∀ u ∈ cs.toList, ∀ x, u ≠ .int .u8 x) : ad.block ≠ g := by
  intro e
  obtain ⟨b, o, sp⟩ := ad
  obtain rfl : b = g := e
  have hs : sp = none := by simpa using World.cell?_spot h
  subst hs
  rw [cell_of_row w b _ _ _ _ hg] at h
  exact hno _ (Array.mem_toList_iff.2 (Array.mem_of_getElem? h)) x rfl
theorem not_map {w : World} {ad : Addr} {x : Int} (h : w.cell? ad = some (.int .u8 x)) {g : Nat} {a : Array MapEntry} {c : Nat} (hg : w.heap[g]? = some (.map a c)) : ad.block ≠ g := by
  intro e
  obtain ⟨b, o, sp⟩ := ad
  obtain rfl : b = g := e
  have hs : sp = none := by simpa using World.cell?_spot h
  subst hs
  simp [World.cell?, hg] at h
theorem ER.lt {w : World} {ad : Addr} {x : Int} (h : w.cell? ad = some (.int .u8 x)) : ad.block < w.heap.size := World.block_lt_of_cell? w _ h
theorem MapAt.obj {w : World} {b : Nat} {es : List (List UInt8 × Bu)} (h : MapAt w b es) : ∃ a c, w.heap[b]? = some (.map a c) := by
  obtain ⟨E, ⟨a, c, h1, _⟩, _⟩ := h.own
  exact ⟨a, c, h1⟩
/-- A limiter goes on: rows stand. -/
theorem ER.tu {w w' : World} {g bm : Nat} {S : Li} {A : Option Addr} {n c : Nat} {es : List (List UInt8 × Bu)} (h : ER w (.slice A n c) es) (hl : LimAt w g bm S) (ht : Tu g bm w w') : ER w' (.slice A n c) es := by
  refine h.kept fun hne ad had => ?_
  subst had
  obtain ⟨x, hx⟩ := h.first hne
  obtain ⟨a, cl, hm⟩ := hl.map.obj
  exact ht.block _ (ER.lt hx) (not_row hx hl.row (by intro u hu x; simp only [List.mem_cons, List.not_mem_nil, or_false] at hu; rcases hu with rfl | rfl | rfl | rfl | rfl | rfl | rfl | rfl <;> (intro h; cases h))) (not_map hx hm)
/-- A limiter's cells are no bytes. -/
theorem no_u8 {x0 x1 x2 x3 x4 x5 x7 : Int} {n c : Nat} {A : Option Addr} : ∀ u ∈ (#[.int .i64 x0, .int .i64 x1, .int .i64 x2, .int .i64 x3, .int .i64 x4, .int .i64 x5, .slice A n c, .int .i64 x7] : Array Value).toList, ∀ x, u ≠ .int .u8 x := by
  intro u hu x
  simp only [List.mem_cons, List.not_mem_nil, or_false] at hu
  rcases hu with rfl | rfl | rfl | rfl | rfl | rfl | rfl | rfl <;> (intro h; cases h)
theorem ER.store {w w' : World} {A : Option Addr} {n c g : Nat} {es : List (List UInt8 × Bu)} {cs : Array Value} {t : TypeId} {fr : Nat × Nat} (h : ER w (.slice A n c) es) (hg : w.heap[g]? = some (.cells cs t fr)) (hno : ∀ u ∈ cs.toList, ∀ x, u ≠ .int .u8 x) (ho : Only g w w') : ER w' (.slice A n c) es := by
  refine h.kept fun hne ad had => ?_
  subst had
  obtain ⟨x, hx⟩ := h.first hne
  exact ho.heap _ (ER.lt hx) (not_row hx hg hno)
/-- Both limiters side by side, as one in plain words. -/
structure RJ (g bm b9 : Nat) (W wr : World) (S : Li) (A : Option Addr) (C : Nat) : Prop where
  lim : LimAt wr g bm S
  doc : wr.heap[b9]? = some (.cells #[.int .i64 S.all.e, .int .i64 S.all.m, .int .i64 S.own.e, .int .i64 S.own.m, .int .i64 S.b.k, .int .i64 S.b.t, .slice A S.es.length C, .int .i64 S.t] 42 (0, 0))
  er : ER wr (.slice A S.es.length C) S.es
  bel : Below W.heap.size W wr
  ge : W.heap.size ≤ g ∧ W.heap.size ≤ bm ∧ W.heap.size ≤ b9
theorem RJ.ne {g bm b9 : Nat} {W wr : World} {S : Li} {A : Option Addr} {C : Nat} (h : RJ g bm b9 W wr S A C) : b9 ≠ g ∧ b9 ≠ bm := by
  constructor
  · rintro rfl
    have h1 := h.doc
    rw [h.lim.row] at h1
    cases h1
  · rintro rfl
    obtain ⟨a, c, hm⟩ := h.lim.map.obj
    rw [h.doc] at hm
    cases hm
theorem RJ.gr {g bm b9 : Nat} {W wr wx : World} {S : Li} {A : Option Addr} {C : Nat} (h : RJ g bm b9 W wr S A C) (hb : Below wr.heap.size wr wx) : RJ g bm b9 W wx S A C :=
  ⟨h.lim.gr hb, heap_below h.doc hb, h.er.below hb, h.bel.trans (hb.mono h.bel.size), h.ge⟩
/-- Ours has answered; the document's has not. -/
structure RK (g bm b9 : Nat) (W wr : World) (S T : Li) (A : Option Addr) (C : Nat) : Prop where
  lim : LimAt wr g bm T
  doc : wr.heap[b9]? = some (.cells #[.int .i64 S.all.e, .int .i64 S.all.m, .int .i64 S.own.e, .int .i64 S.own.m, .int .i64 S.b.k, .int .i64 S.b.t, .slice A S.es.length C, .int .i64 S.t] 42 (0, 0))
  er : ER wr (.slice A S.es.length C) S.es
  bel : Below W.heap.size W wr
theorem RK.gr {g bm b9 : Nat} {W wr wx : World} {S T : Li} {A : Option Addr} {C : Nat} (h : RK g bm b9 W wr S T A C) (hb : Below wr.heap.size wr wx) : RK g bm b9 W wx S T A C :=
  ⟨h.lim.gr hb, heap_below h.doc hb, h.er.below hb, h.bel.trans (hb.mono h.bel.size)⟩
theorem RJ.tu {g bm b9 : Nat} {W wr wx : World} {S T : Li} {A : Option Addr} {C : Nat} (h : RJ g bm b9 W wr S A C) (hl : LimAt wx g bm T) (ht : Tu g bm wr wx) : RK g bm b9 W wx S T A C :=
  ⟨hl, ht.heap h.doc h.ne.1 h.ne.2, h.er.tu h.lim ht, Tu.below h.bel h.bel.size ht h.ge.1 h.ge.2.1⟩
/-- The cells of one who asks. -/
theorem ask_at {W : World} {a : Option Addr} {n c : Nat} {qs : List Ak} (h : AkR W (.slice a n c) n qs) {i : Nat} (hi : i < n) : ∃ b o q, a = some ⟨b, o, none⟩ ∧ b < W.heap.size ∧ qs[i]? = some q ∧
    ∀ w', Below W.heap.size W w' → w'.cell? ⟨b, o + i * 4, none⟩ = some (.int .u8 (q.m.toNat : Int)) ∧ w'.cell? ⟨b, o + i * 4 + 1, none⟩ = some (.int .u8 (q.later.toNat : Int)) ∧ w'.cell? ⟨b, o + i * 4 + 2, none⟩ = some (.bool q.raw) ∧ w'.cell? ⟨b, o + i * 4 + 3, none⟩ = some (.int .i64 q.at_) := by
  have hl := h.len
  obtain ⟨b, o, h1, h2, h3⟩ := h.cells (by omega)
  refine ⟨b, o, qs[i]'(by omega), h1, h2, List.getElem?_eq_getElem _, fun w' hw => ?_⟩
  obtain ⟨c0, c1, c2, c3⟩ := h3 i (by omega)
  exact ⟨by rw [hw.cell h2]; exact c0, by rw [hw.cell h2]; exact c1, by rw [hw.cell h2]; exact c2, by rw [hw.cell h2]; exact c3⟩
end Go.Proofs.Ytblnglkjpnpmbaa.Bk
