/-
  Both side by side: what a call of either leaves of the other.
-/
import Derived.Test.YtpafcabcnkmadaaIdDi
import Derived.Test.YtpafcabcnkmadaaGrowH
namespace Go.Proofs.Ytpafcabcnkmadaa.Id
open Go.RowKit
set_option linter.unusedVariables false
set_option linter.unusedSimpArgs false

/-- An allocator that holds S, and the document's that holds D, told by a pair of pointers. -/
structure BR (W w : World) (gb g gd : Nat) (m : Am) (rv uv ev : Value) (S D : Al) : Prop where
  both : w.heap[gb]? = some (.cells #[.pointer (some ⟨g, 0, none⟩), .pointer (some ⟨gd, 0, none⟩)] 49 (0, 0))
  la : LA W g m w S
  dq : DQ w gd rv uv ev D
  apart : ∀ k ∈ Fd gd rv uv ev, k ∉ Fm g m ∧ W.heap.size ≤ k ∧ k ≠ gb
  gb : gb ∉ Fm g m ∧ W.heap.size ≤ gb
theorem Fd.bd {gd k : Nat} {rv uv ev : Value} : k ∈ Fd gd rv uv ev ↔ k = gd ∨ k ∈ Bd rv uv ev := by simp [Fd, Bd]
theorem BR.of {W w : World} {gb g gd : Nat} {m : Am} {rv uv ev : Value} {S D : Al} (h : Began W gb g gd m rv uv ev w S D) : BR W w gb g gd m rv uv ev S D :=
  ⟨h.both, h.la, ⟨h.doc, fun k hk => ⟨h.ne k hk, (h.apart k (Fd.bd.2 (.inr hk))).2.2.1⟩⟩, fun k hk => ⟨(h.apart k hk).1, (h.apart k hk).2.1, (h.apart k hk).2.2.2⟩, h.gb⟩
theorem BR.gr {W w w' : World} {gb g gd : Nat} {m : Am} {rv uv ev : Value} {S D : Al} (h : BR W w gb g gd m rv uv ev S D) (hb : Below w.heap.size w w') : BR W w' gb g gd m rv uv ev S D :=
  ⟨heap_below h.both hb, h.la.gr hb, h.dq.gr hb, h.apart, h.gb⟩
theorem BR.gblt {W w : World} {gb g gd : Nat} {m : Am} {rv uv ev : Value} {S D : Al} (h : BR W w gb g gd m rv uv ev S D) : gb < w.heap.size := (Array.getElem?_eq_some_iff.1 h.both).1
theorem BR.dlt {W w : World} {gb g gd : Nat} {m : Am} {rv uv ev : Value} {S D : Al} (h : BR W w gb g gd m rv uv ev S D) : ∀ k ∈ Fd gd rv uv ev, k < w.heap.size := fun k hk => by
  rcases Fd.bd.1 hk with rfl | hk
  · exact h.dq.lt
  · exact (h.dq.ne k hk).2
theorem BR.our {W w w' : World} {gb g gd : Nat} {m m' : Am} {rv uv ev : Value} {S D T : Al} (h : BR W w gb g gd m rv uv ev S D) (hl : LA W g m' w' T) (hs : Stp g m m' w w') : BR W w' gb g gd m' rv uv ev T D := by
  have hno : ∀ k, k < w.heap.size → k ∉ Fm g m → k ∉ Fm g m' := fun k hk hn h1 => by
    rcases hs.blk k h1 with h2 | h2
    · exact hn h2
    · omega
  exact ⟨hs.tr.heap h.both h.gb.1, hl, h.dq.tr hs.tr fun k hk => (h.apart k hk).1, fun k hk => ⟨hno k (h.dlt k hk) (h.apart k hk).1, (h.apart k hk).2⟩, hno gb h.gblt h.gb.1, h.gb.2⟩
theorem BR.doc {W w w' : World} {gb g gd : Nat} {m : Am} {rv uv ev : Value} {S D T : Al} (h : BR W w gb g gd m rv uv ev S D) (hg : DGoes gd rv uv ev w T w') : ∃ rv' uv' ev', BR W w' gb g gd m rv' uv' ev' S T ∧ Tr [gd] w w' ∧ ∀ k ∈ Bd rv' uv' ev', k ∈ Bd rv uv ev ∨ w.heap.size ≤ k := by
  obtain ⟨r, u, e, hq, ht, hb⟩ := hg
  have hgd := h.apart gd (Fd.bd.2 (.inl rfl))
  refine ⟨r, u, e, ⟨ht.heap h.both fun hk => hgd.2.2 (List.mem_singleton.1 hk).symm, ⟨h.la.al.tr ht fun k hk h1 => hgd.1 ((List.mem_singleton.1 h1) ▸ hk), Tr.below h.la.low h.la.low.size ht (fun k hk => (List.mem_singleton.1 hk) ▸ hgd.2.1), h.la.own⟩, hq, fun k hk => ?_, h.gb⟩, ht, hb⟩
  rcases Fd.bd.1 hk with rfl | hk
  · exact hgd
  · rcases hb k hk with h1 | h1
    · exact h.apart k (Fd.bd.2 (.inr h1))
    · refine ⟨fun h2 => ?_, Nat.le_trans h.la.low.size h1, ?_⟩
      · have := h.la.al.am.lt k h2; omega
      · have := h.gblt; omega
/-- Other blocks have turned. -/
theorem BR.away {K : List Nat} {W w w' : World} {gb g gd : Nat} {m : Am} {rv uv ev : Value} {S D : Al} (h : BR W w gb g gd m rv uv ev S D) (ht : Tr K w w') (h1 : ∀ k ∈ K, W.heap.size ≤ k ∧ k ≠ gb ∧ k ∉ Fm g m ∧ k ∉ Fd gd rv uv ev) : BR W w' gb g gd m rv uv ev S D :=
  ⟨ht.heap h.both fun hk => (h1 gb hk).2.1 rfl, ⟨h.la.al.tr ht fun k hk h2 => (h1 k h2).2.2.1 hk, Tr.below h.la.low h.la.low.size ht fun k hk => (h1 k hk).1, h.la.own⟩, h.dq.tr ht fun k hk h2 => (h1 k h2).2.2.2 hk, h.apart, h.gb⟩
/-- Beside them a call's own block. -/
structure BQ (W w : World) (gb g gd : Nat) (m : Am) (rv uv ev : Value) (S D : Al) (bo : Nat) (cs : Array Value) : Prop where
  br : BR W w gb g gd m rv uv ev S D
  box : w.heap[bo]? = some (.cells cs 29 (0, 0))
  no : bo ∉ Fm g m ∧ bo ∉ Fd gd rv uv ev ∧ bo ≠ gb
theorem BQ.lt {W w : World} {gb g gd : Nat} {m : Am} {rv uv ev : Value} {S D : Al} {bo : Nat} {cs : Array Value} (h : BQ W w gb g gd m rv uv ev S D bo cs) : bo < w.heap.size := (Array.getElem?_eq_some_iff.1 h.box).1
theorem BQ.gr {W w w' : World} {gb g gd : Nat} {m : Am} {rv uv ev : Value} {S D : Al} {bo : Nat} {cs : Array Value} (h : BQ W w gb g gd m rv uv ev S D bo cs) (hb : Below w.heap.size w w') : BQ W w' gb g gd m rv uv ev S D bo cs :=
  ⟨h.br.gr hb, heap_below h.box hb, h.no⟩
theorem BQ.begin {W w : World} {gb g gd : Nat} {m : Am} {rv uv ev : Value} {S D : Al} (cs : Array Value) (h : BR W w gb g gd m rv uv ev S D) : BQ W (w.alloc (.cells cs 29)) gb g gd m rv uv ev S D w.heap.size cs :=
  ⟨h.gr ((Below.refl _ _).alloc (Nat.le_refl _) _), heap_alloc_last _ _, fun h1 => by have := h.la.al.am.lt _ h1; omega, fun h1 => by have := h.dlt _ h1; omega, by have := h.gblt; omega⟩
theorem BQ.our {W w w' : World} {gb g gd : Nat} {m m' : Am} {rv uv ev : Value} {S D T : Al} {bo : Nat} {cs : Array Value} (h : BQ W w gb g gd m rv uv ev S D bo cs) (hl : LA W g m' w' T) (hs : Stp g m m' w w') : BQ W w' gb g gd m' rv uv ev T D bo cs :=
  ⟨h.br.our hl hs, hs.tr.heap h.box h.no.1, fun h1 => by
    rcases hs.blk bo h1 with h2 | h2
    · exact h.no.1 h2
    · have := h.lt; omega, h.no.2⟩
theorem BQ.doc {W w w' : World} {gb g gd : Nat} {m : Am} {rv uv ev : Value} {S D T : Al} {bo : Nat} {cs : Array Value} (h : BQ W w gb g gd m rv uv ev S D bo cs) (hg : DGoes gd rv uv ev w T w') : ∃ rv' uv' ev', BQ W w' gb g gd m rv' uv' ev' S T bo cs := by
  obtain ⟨r, u, e, hr, ht, hb⟩ := h.br.doc hg
  refine ⟨r, u, e, hr, ht.heap h.box fun hk => h.no.2.1 (Fd.bd.2 (.inl (List.mem_singleton.1 hk))), h.no.1, fun hk => ?_, h.no.2.2⟩
  rcases Fd.bd.1 hk with h1 | h1
  · exact h.no.2.1 (Fd.bd.2 (.inl h1))
  · rcases hb bo h1 with h2 | h2
    · exact h.no.2.1 (Fd.bd.2 (.inr h2))
    · have := h.lt; omega
theorem BQ.otake {W w : World} {gb g gd : Nat} {m : Am} {rv uv ev : Value} {S D : Al} {bo : Nat} {cs : Array Value} (h : BQ W w gb g gd m rv uv ev S D bo cs) (t : Int) :
    Calls Try.prog 14 #[.pointer (some ⟨g, 0, none⟩), .int .i64 t] w fun e w' => e = .returned (.tuple #[.int .i64 (take S t).2.1, .int .i64 (take S t).2.2]) ∧ ∃ m', BQ W w' gb g gd m' rv uv ev (take S t).1 D bo cs :=
  (take_lb h.br.la t).mono fun e w' ⟨he, m', hl, hs⟩ => ⟨he, m', h.our hl hs⟩
theorem BQ.ogive {W w : World} {gb g gd : Nat} {m : Am} {rv uv ev : Value} {S D : Al} {bo : Nat} {cs : Array Value} (h : BQ W w gb g gd m rv uv ev S D bo cs) (id t : Int) :
    Calls Try.prog 18 #[.pointer (some ⟨g, 0, none⟩), .int .i64 id, .int .i64 t] w fun e w' => e = .returned (.int .i64 (give S id t).2) ∧ ∃ m', BQ W w' gb g gd m' rv uv ev (give S id t).1 D bo cs ∧ Stp g m m' w w' :=
  (give_lb h.br.la id t).mono fun e w' ⟨he, m', hl, hs⟩ => ⟨he, m', h.our hl hs, hs⟩
/-- Few enough. -/
def Sm (D : Al) : Prop := D.row.length + (D.used.length + D.rest.length) ≤ 13 ∧ 0 ≤ D.quiet ∧ D.quiet ≤ topT
theorem OkA.small {S : Al} (h : OkA S) (hl : S.high - S.low ≤ 12) : Sm S := by
  have h1 := h.sum
  have h2 := h.set
  unfold okSet at h2
  exact ⟨by omega, by omega, by omega⟩
theorem BQ.dtake {W w : World} {gb g gd : Nat} {m : Am} {rv uv ev : Value} {S D : Al} {bo : Nat} {cs : Array Value} (h : BQ W w gb g gd m rv uv ev S D bo cs) (hd : Sm D) (t : Int) :
    Calls Try.prog 24 #[.pointer (some ⟨gd, 0, none⟩), .int .i64 t] w fun e w' => e = .returned (.tuple #[.int .i64 (take D t).2.1, .int .i64 (take D t).2.2]) ∧ ∃ rv' uv' ev', BQ W w' gb g gd m rv' uv' ev' S (take D t).1 bo cs := by
  obtain ⟨h1, h2, h3⟩ := hd
  exact (dtake_any gd t w h.br.dq (by omega) (by omega)).mono fun e w' ⟨he, hg⟩ => ⟨he, h.doc hg⟩
theorem BQ.dgive {W w : World} {gb g gd : Nat} {m : Am} {rv uv ev : Value} {S D : Al} {bo : Nat} {cs : Array Value} (h : BQ W w gb g gd m rv uv ev S D bo cs) (hd : Sm D) (id t : Int) :
    Calls Try.prog 26 #[.pointer (some ⟨gd, 0, none⟩), .int .i64 id, .int .i64 t] w fun e w' => e = .returned (.int .i64 (give D id t).2) ∧ Tr [gd] w w' ∧ ∃ rv' uv' ev', BQ W w' gb g gd m rv' uv' ev' S (give D id t).1 bo cs := by
  obtain ⟨h1, h2, h3⟩ := hd
  exact (dgive_any gd id t w h.br.dq ⟨h2, h3⟩ (by omega) (by omega)).mono fun e w' ⟨he, hg⟩ => ⟨he, (h.br.doc hg).choose_spec.choose_spec.choose_spec.2.1, h.doc hg⟩
/-- Behind two forks, and two stores. -/
structure FQ4 (W w0 w : World) (gb g gd g' gd' : Nat) (m m' : Am) (rv uv ev rv' uv' ev' : Value) (S : Al) (bo : Nat) (cs : Array Value) : Prop where
  br : BR W w gb g' gd' m' rv' uv' ev' S S
  am : AlAt w g m S
  dq : DQ w gd rv uv ev S
  box : w.heap[bo]? = some (.cells cs 29 (0, 0))
  no : bo ∉ Fm g m ∧ bo ≠ gd
  ap : (∀ k ∈ Fd gd rv uv ev, k ∉ Fm g m)
  own : ∀ k ∈ Fm g m, W.heap.size ≤ k ∧ k ≠ gb ∧ k < w0.heap.size
  down : W.heap.size ≤ gd ∧ gd ≠ gb ∧ gd < w0.heap.size
  new : (∀ k ∈ Fm g' m', w0.heap.size ≤ k) ∧ ∀ k ∈ Fd gd' rv' uv' ev', w0.heap.size ≤ k
theorem FQ4.of {W w0 w1 w2 w3 w4 : World} {gb g gd g' gd' : Nat} {m m' : Am} {rv uv ev rv' uv' ev' : Value} {S : Al} {bo : Nat} {cs : Array Value} (h : BQ W w0 gb g gd m rv uv ev S S bo cs)
    (hb1 : Below w0.heap.size w0 w1) (ha : AlAt w1 g' m' S) (hn : ∀ k ∈ Fm g' m', w0.heap.size ≤ k) (hb2 : Below w1.heap.size w1 w2) (hd : DQ w2 gd' rv' uv' ev' S) (hgd : w1.heap.size ≤ gd') (hnd : ∀ k ∈ Bd rv' uv' ev', w1.heap.size ≤ k)
    (ho1 : Only gb w2 w3) (ho2 : Only gb w3 w4) (hrow : w4.heap[gb]? = some (.cells #[.pointer (some ⟨g', 0, none⟩), .pointer (some ⟨gd', 0, none⟩)] 49 (0, 0))) : FQ4 W w0 w4 gb g gd g' gd' m m' rv uv ev rv' uv' ev' S bo cs := by
  have hgb := h.br.gblt
  have ht2 : Tr [gb] w2 w4 := (Tr.only ho1 (by simp)).trans (Tr.only ho2 (List.mem_singleton.2 rfl)) fun k hk => .inl hk
  have ht1 : Tr [gb] w1 w4 := (Tr.gr (K := [gb]) hb2).trans ht2 fun k hk => .inl hk
  have ht : Tr [gb] w0 w4 := (Tr.gr (K := [gb]) hb1).trans ht1 fun k hk => .inl hk
  have hs1 := hb1.size
  have hW := h.br.la.low.size
  have hnd' : ∀ k ∈ Fd gd' rv' uv' ev', w1.heap.size ≤ k := fun k hk => by
    rcases Fd.bd.1 hk with rfl | hk
    · exact hgd
    · exact hnd k hk
  have hgdF := h.br.apart gd (Fd.bd.2 (.inl rfl))
  refine ⟨⟨hrow, ⟨ha.tr ht1 fun k hk h1 => ?_, Tr.below h.br.la.low hW ht fun k hk => (List.mem_singleton.1 hk) ▸ h.br.gb.2, fun k hk => Nat.le_trans hW (hn k hk)⟩, hd.tr ht2 fun k hk h1 => ?_, fun k hk => ⟨fun h1 => ?_, ?_, ?_⟩, fun h1 => ?_, h.br.gb.2⟩, h.br.la.al.tr ht fun k hk h1 => h.br.gb.1 ((List.mem_singleton.1 h1) ▸ hk), h.br.dq.tr ht fun k hk h1 => (h.br.apart k hk).2.2 (List.mem_singleton.1 h1),
    ht.heap h.box fun h1 => h.no.2.2 (List.mem_singleton.1 h1), ⟨h.no.1, fun h1 => h.no.2.1 (Fd.bd.2 (.inl h1))⟩, fun k hk => (h.br.apart k hk).1, fun k hk => ⟨h.br.la.own k hk, fun h1 => h.br.gb.1 (h1 ▸ hk), h.br.la.al.am.lt k hk⟩, ⟨hgdF.2.1, hgdF.2.2, h.br.dq.lt⟩, hn, fun k hk => Nat.le_trans hs1 (hnd' k hk)⟩
  · have := hn k hk; have := List.mem_singleton.1 h1; omega
  · have := hnd' k hk; have := List.mem_singleton.1 h1; omega
  · have := ha.am.lt k h1; have := hnd' k hk; omega
  · have := hnd' k hk; omega
  · have := hnd' k hk; omega
  · have := hn gb h1; omega
theorem FQ4.old {W w0 w : World} {gb g gd g' gd' : Nat} {m m' : Am} {rv uv ev rv' uv' ev' : Value} {S : Al} {bo : Nat} {cs : Array Value} (h : FQ4 W w0 w gb g gd g' gd' m m' rv uv ev rv' uv' ev' S bo cs) (t : Int) :
    Calls Try.prog 14 #[.pointer (some ⟨g, 0, none⟩), .int .i64 t] w fun e w' => e = .returned (.tuple #[.int .i64 (take S t).2.1, .int .i64 (take S t).2.2]) ∧ BR W w' gb g' gd' m' rv' uv' ev' S S ∧ DQ w' gd rv uv ev S ∧ w'.heap[bo]? = some (.cells cs 29 (0, 0)) := by
  refine (take_any g t w h.am).mono fun e w' ⟨he, m2, ha, hs⟩ => ⟨he, h.br.away hs.tr fun k hk => ?_, h.dq.tr hs.tr h.ap, hs.tr.heap h.box h.no.1⟩
  obtain ⟨h1, h2, h3⟩ := h.own k hk
  exact ⟨h1, h2, fun h4 => by have := h.new.1 k h4; omega, fun h4 => by have := h.new.2 k h4; omega⟩
theorem FQ4.dold {W w0 w wn : World} {gb g gd g' gd' : Nat} {m m' : Am} {rv uv ev rv' uv' ev' : Value} {S : Al} {bo : Nat} {cs : Array Value} (h : FQ4 W w0 w gb g gd g' gd' m m' rv uv ev rv' uv' ev' S bo cs) (hsm : Sm S) (t : Int)
    (hr : BR W wn gb g' gd' m' rv' uv' ev' S S) (hq : DQ wn gd rv uv ev S) :
    Calls Try.prog 24 #[.pointer (some ⟨gd, 0, none⟩), .int .i64 t] wn fun e w' => e = .returned (.tuple #[.int .i64 (take S t).2.1, .int .i64 (take S t).2.2]) ∧ BR W w' gb g' gd' m' rv' uv' ev' S S := by
  obtain ⟨h1, h2, h3⟩ := hsm
  refine (dtake_any gd t wn hq (by omega) (by omega)).mono fun e w' ⟨he, r, u, e', hq', ht, hb⟩ => ⟨he, hr.away ht fun k hk => ?_⟩
  obtain rfl := List.mem_singleton.1 hk
  obtain ⟨h4, h5, h6⟩ := h.down
  exact ⟨h4, h5, fun h7 => by have := h.new.1 _ h7; omega, fun h7 => by have := h.new.2 _ h7; omega⟩
/-- Both hold the same. -/
def BX (W w : World) (gb : Nat) (lo hi : Int) : Prop := ∃ g gd m rv uv ev S, S.low = lo ∧ S.high = hi ∧ BR W w gb g gd m rv uv ev S S
theorem BX.gr {W w w' : World} {gb : Nat} {lo hi : Int} (h : BX W w gb lo hi) (hb : Below w.heap.size w w') : BX W w' gb lo hi := by
  obtain ⟨g, gd, m, rv, uv, ev, S, h1, h2, h3⟩ := h
  exact ⟨g, gd, m, rv, uv, ev, S, h1, h2, h3.gr hb⟩
end Go.Proofs.Ytpafcabcnkmadaa.Id
