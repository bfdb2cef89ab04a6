/-
  What the document's which tells; two boxes that are written in any order of reads.
  A row of options that stands while boxes are written.
  The document's which of a Configure-Request.
  The document's which of a Configure-Ack.
  The document's which of a Configure-Nak or -Reject.
  The document's which of a Configure-Nak or -Reject.
  The document's which of packets 5, 6, 7.
  The document's Packet.
  What was told, and stands while boxes of other types are written: rows of options, what Do and the like told; the three calls of both, as they go from round to round.
  Packets of the call's own whose data a loop overwrites: what stays.
  A region of the law's AutoRuns: three boxes are made and light is called in any order, then the boxes are written: whatever the order, what stands behind it is the same but for the boxes' places.
-/
import Derived.Test.YtclplbapedmihaaGreatZAuD
import Derived.Test.YtclplbapedmihaaGreatZAuC
import Derived.Test.YtclplbapedmihaaGreatZOp
import Derived.Test.YtclplbapedmihaaGreatZNgB
import Derived.Test.YtclplbapedmihaaGreatZCp
import Derived.Test.YtclplbapedmihaaGreatZAuB
import Derived.Test.YtclplbapedmihaaGreatZAuA
import Derived.Test.YtclplbapedmihaaGreatZBase
namespace Go.Proofs.YtclplbapedmihaaGreat.Au
set_option maxRecDepth 4000
open Go.RowKit O Ng
open Go.Proofs.YtclplbapedmihaaGreat.Fs (AO AO.ar AO.nil AR AR.at)
set_option linter.unusedVariables false
set_option linter.unusedSimpArgs false
/-- All stands but the blocks p and q. -/
def Ob (p q : Nat) (w w' : World) : Prop := w.heap.size ≤ w'.heap.size ∧ (∀ b, b < w.heap.size → b ≠ p → b ≠ q → w'.heap[b]? = w.heap[b]?) ∧ ∀ (ad : Addr) (v : Value), ad.block ≠ p → ad.block ≠ q → w.cell? ad = some v → w'.cell? ad = some v
theorem Ob.row {p q b : Nat} {w w' : World} {o : Obj} (h : Ob p q w w') (hb : w.heap[b]? = some o) (h1 : b ≠ p) (h2 : b ≠ q) : w'.heap[b]? = some o := (h.2.1 b (Array.getElem?_eq_some_iff.1 hb).1 h1 h2).trans hb
theorem Ob.one {p q : Nat} {w w' : World} (h : Only p w w') : Ob p q w w' := ⟨h.size, fun b hb h1 _ => h.heap b hb h1, fun ad v h1 _ hc => h.cell h1 hc⟩
theorem Ob.two {p q : Nat} {w w' : World} (h : Only q w w') : Ob p q w w' := ⟨h.size, fun b hb _ h2 => h.heap b hb h2, fun ad v _ h2 hc => h.cell h2 hc⟩
/-- Bytes do not lie in blocks that hold none. -/
theorem Ob.bs {w w' : World} {p q : Nat} {t t2 : TypeId} {cs ds : Array Value} {fr fr2 : Nat × Nat} {v : Value} {l : List UInt8} (ho : Ob p q w w') (h : Bs w v l) (hp : w.heap[p]? = some (.cells cs t fr)) (hcs : ∀ u ∈ cs.toList, ∀ b, u ≠ u8v b) (hq : w.heap[q]? = some (.cells ds t2 fr2)) (hds : ∀ u ∈ ds.toList, ∀ b, u ≠ u8v b) : Bs w' v l := by
  have hh := h
  obtain ⟨h0, ao, cap, rfl, g1, g2, g3, g4⟩ := h
  refine ⟨h0, ao, cap, rfl, g1, g2, g3, fun ad had j u hu => ?_⟩
  have hj := (List.getElem?_eq_some_iff.1 hu).1
  rw [List.length_map] at hj
  obtain ⟨b, o, hao, _, hall⟩ := Bs.cells hh (by omega)
  obtain rfl : ad = ⟨b, o, none⟩ := Option.some.inj (had.symm.trans hao)
  have hc := g4 _ had j u hu
  by_cases e : b = p
  · exfalso
    subst e
    rw [Addr.add_lit, cell_of_row _ _ _ _ _ _ hp] at hc
    rw [List.getElem?_map, List.getElem?_eq_getElem hj] at hu
    obtain rfl := Option.some.inj hu
    exact hcs _ (by simpa using Array.mem_of_getElem? hc) _ rfl
  · by_cases e2 : b = q
    · exfalso
      subst e2
      rw [Addr.add_lit, cell_of_row _ _ _ _ _ _ hq] at hc
      rw [List.getElem?_map, List.getElem?_eq_getElem hj] at hu
      obtain rfl := Option.some.inj hu
      exact hds _ (by simpa using Array.mem_of_getElem? hc) _ rfl
    · refine ho.2.2 _ _ ?_ ?_ hc
      · rw [add_block]; exact e
      · rw [add_block]; exact e2
/-- A row of those that are told (P0) that could be read in w0, or one in a block of options, of bytes that can be read. -/
def Row (P0 : Value → Nat → List Tg → Prop) (w0 w : World) (v : Value) (m : Nat) (us : List Tg) : Prop := (P0 v m us ∧ TR w0 v m us) ∨ (w.ownsRow 0 69 2 v m (flat us) ∧ ∀ x ∈ us, Bs w x.val x.l)
theorem Row.gr {P0 : Value → Nat → List Tg → Prop} {w0 w w' : World} {v : Value} {m : Nat} {us : List Tg} (h : Row P0 w0 w v m us) (hb : Gr w w') : Row P0 w0 w' v m us := by
  rcases h with h | ⟨h1, h2⟩
  · exact .inl h
  · exact .inr ⟨ownsRow_below h1 hb, fun x hx => (h2 x hx).below hb⟩
theorem Row.off {P0 : Value → Nat → List Tg → Prop} {w0 w w' : World} {v : Value} {m : Nat} {us : List Tg} {p : Nat} {t : TypeId} {cs : Array Value} {fr : Nat × Nat} (h : Row P0 w0 w v m us) (hp : w.heap[p]? = some (.cells cs t fr)) (ht : 69 ≠ t) (hcs : ∀ u ∈ cs.toList, ∀ b, u ≠ u8v b) (ho : Only p w w') : Row P0 w0 w' v m us := by
  rcases h with h | ⟨h1, h2⟩
  · exact .inl h
  · exact .inr ⟨own_off h1 hp ht ho, fun x hx => bs_off (h2 x hx) hp hcs ho⟩
theorem Row.tr {P0 : Value → Nat → List Tg → Prop} {w0 w : World} {v : Value} {m : Nat} {us : List Tg} (h : Row P0 w0 w v m us) (hb : Below w0.heap.size w0 w) : TR w v m us := by
  rcases h with h | ⟨h1, h2⟩
  · exact h.2.below hb
  · exact ⟨own_rd h1, h2⟩
theorem Row.kept {P0 : Value → Nat → List Tg → Prop} {w0 w w' : World} {v0 v : Value} {n0 m : Nat} {qs us : List Tg} (h : Kept v0 n0 qs w w' v m us) (hp : P0 v0 n0 qs) (h0 : TR w0 v0 n0 qs) (hb : Below w.heap.size w w') : Row P0 w0 w' v m us := by
  rcases h with ⟨rfl, rfl, rfl⟩ | ⟨h1, h2⟩
  · exact .inl ⟨hp, h0⟩
  · exact .inr ⟨ownsRow_mono h1 (Nat.zero_le _), fun x hx => (h2 x hx).below hb⟩
end Go.Proofs.YtclplbapedmihaaGreat.Au
namespace Go.Proofs.YtclplbapedmihaaGreat.Au
set_option maxRecDepth 4000
open Go.RowKit O Ng
open Go.Proofs.YtclplbapedmihaaGreat.Fs (AO AO.ar AO.nil AR AR.at)
set_option linter.unusedVariables false
set_option linter.unusedSimpArgs false
theorem sl_no (a : Option Addr) (n c : Nat) : ∀ b, (Value.slice a n c) ≠ u8v b := by intro b h; simp [u8v] at h
end Go.Proofs.YtclplbapedmihaaGreat.Au
namespace Go.Proofs.YtclplbapedmihaaGreat.Au
set_option maxRecDepth 4000
open Go.RowKit O Ng
open Go.Proofs.YtclplbapedmihaaGreat.Fs (AO AO.ar AO.nil AR AR.at)
set_option linter.unusedVariables false
set_option linter.unusedSimpArgs false
end Go.Proofs.YtclplbapedmihaaGreat.Au
namespace Go.Proofs.YtclplbapedmihaaGreat.Au
set_option maxRecDepth 4000
open Go.RowKit O Ng
open Go.Proofs.YtclplbapedmihaaGreat.Fs (AO AO.ar AO.nil AR AR.at)
set_option linter.unusedVariables false
set_option linter.unusedSimpArgs false
end Go.Proofs.YtclplbapedmihaaGreat.Au
namespace Go.Proofs.YtclplbapedmihaaGreat.Au
set_option maxRecDepth 4000
open Go.RowKit O Ng
open Go.Proofs.YtclplbapedmihaaGreat.Fs (AO AO.ar AO.nil AR AR.at)
set_option linter.unusedVariables false
set_option linter.unusedSimpArgs false
end Go.Proofs.YtclplbapedmihaaGreat.Au
namespace Go.Proofs.YtclplbapedmihaaGreat.Au
set_option maxRecDepth 4000
open Go.RowKit O Ng
open Go.Proofs.YtclplbapedmihaaGreat.Fs (AO AO.ar AO.nil AR AR.at)
set_option linter.unusedVariables false
set_option linter.unusedSimpArgs false
end Go.Proofs.YtclplbapedmihaaGreat.Au
namespace Go.Proofs.YtclplbapedmihaaGreat.Au
set_option maxRecDepth 4000
open Go.RowKit O Ng
open Go.Proofs.YtclplbapedmihaaGreat.Fs (AO AO.ar AO.nil AR AR.at)
set_option linter.unusedVariables false
set_option linter.unusedSimpArgs false
end Go.Proofs.YtclplbapedmihaaGreat.Au
namespace Go.Proofs.YtclplbapedmihaaGreat.Au
set_option maxRecDepth 4000
open Go.RowKit O Ng
open Go.Proofs.YtclplbapedmihaaGreat.Fs (AO AO.ar AO.nil AR AR.at rStep_any)
set_option linter.unusedVariables false
set_option linter.unusedSimpArgs false
/-- What was told by a Do within, ahead of the box's being written. -/
theorem RDAt.fin {x y : Aut × List QC × List Int} {w w4 w' w'' : World} {p n : Nat} {av av' ov dv : Value} {ts : List Tg} {cs : Array Value} {fr : Nat × Nat} (h : RDAt x w4 w' av ov dv) (hy : y.2 = x.2) (hp : w'.heap[p]? = some (.cells cs 28 fr)) (hcs : ∀ u ∈ cs.toList, ∀ b, u ≠ u8v b) (ho : Only p w' w'') (hb : Below w.heap.size w w4) (hl : w.heap.size ≤ p) (hr : TR w'' av' n ts) (ha : plain ts = y.1.ask) : RDAt y w w'' av' ov dv := by
  have hbw : Below w.heap.size w w'' := ho.below _ _ hl (hb.trans (h.old.mono hb.size))
  obtain ⟨os, ⟨h1, h2⟩, h3⟩ := h.out
  have e1 : y.2.1 = x.2.1 := by rw [hy]
  have e2 : y.2.2 = x.2.2 := by rw [hy]
  refine ⟨⟨n, ts, hr, ha⟩, ⟨os, ⟨ownsRow_mono (own_off h1 hp (by decide) ho) hb.size, fun t ht => bs_off (h2 t ht) hp hcs ho⟩, h3.trans e1.symm⟩, ?_, hbw⟩
  rw [e2]
  exact ownsRow_mono (show AO w'' w4.heap.size dv x.2.2 from own_off h.done hp (by decide) ho) hb.size
theorem RDAt.gr {x : Aut × List QC × List Int} {w w1 w' : World} {av ov dv : Value} (h : RDAt x w w1 av ov dv) (hb : Gr w1 w') : RDAt x w w' av ov dv := by
  obtain ⟨n, ts, h1, h2⟩ := h.ask
  obtain ⟨os, ⟨h3, h4⟩, h5⟩ := h.out
  exact ⟨⟨n, ts, h1.below hb, h2⟩, ⟨os, ⟨ownsRow_below h3 hb, fun t ht => (h4 t ht).below hb⟩, h5⟩, ownsRow_below h.done hb, h.old.trans (hb.mono h.old.size)⟩
/-- A box of the call's own was written. -/
theorem RDAt.box {P0 : Value → Nat → List Tg → Prop} {x : Aut × List QC × List Int} {w w1 w' : World} {p : Nat} {av ov dv : Value} {cs : Array Value} {fr : Nat × Nat} {w0 : World} {n : Nat} {ts : List Tg} (h : RDAt x w w1 av ov dv) (hp : w1.heap[p]? = some (.cells cs 28 fr)) (hcs : ∀ u ∈ cs.toList, ∀ b, u ≠ u8v b) (ho : Only p w1 w') (hl : w.heap.size ≤ p) (hrow : Row P0 w0 w' av n ts) (hb0 : Below w0.heap.size w0 w') (ha : plain ts = x.1.ask) : RDAt x w w' av ov dv :=
  h.fin rfl hp hcs ho (Below.refl _ _) hl (hrow.tr hb0) ha
end Go.Proofs.YtclplbapedmihaaGreat.Au
namespace Go.Proofs.YtclplbapedmihaaGreat.Au
set_option maxRecDepth 4000
open Go.RowKit O Ng
open Go.Proofs.YtclplbapedmihaaGreat.Fs (AO AO.ar AO.nil AR AR.at)
set_option linter.unusedVariables false
set_option linter.unusedSimpArgs false
/-- A row in a block of options, of bytes that can be read. -/
def RowO (w : World) (v : Value) (m : Nat) (us : List Tg) : Prop := w.ownsRow 0 69 2 v m (flat us) ∧ ∀ x ∈ us, Bs w x.val x.l
theorem RowO.tr {w : World} {v : Value} {m : Nat} {us : List Tg} (h : RowO w v m us) : TR w v m us := ⟨own_rd h.1, h.2⟩
theorem RowO.gr {w w' : World} {v : Value} {m : Nat} {us : List Tg} (h : RowO w v m us) (hb : Gr w w') : RowO w' v m us := ⟨ownsRow_below h.1 hb, fun x hx => (h.2 x hx).below hb⟩
theorem RowO.off {w w' : World} {v : Value} {m : Nat} {us : List Tg} {p : Nat} {t : TypeId} {cs : Array Value} {fr : Nat × Nat} (h : RowO w v m us) (hp : w.heap[p]? = some (.cells cs t fr)) (ht : 69 ≠ t) (hcs : ∀ u ∈ cs.toList, ∀ b, u ≠ u8v b) (ho : Only p w w') : RowO w' v m us :=
  ⟨own_off h.1 hp ht ho, fun x hx => bs_off (h.2 x hx) hp hcs ho⟩
theorem RowO.of {w : World} {base : Nat} {v : Value} {us : List Tg} (h : TO w base v us) : RowO w v us.length us := ⟨ownsRow_mono h.own (Nat.zero_le _), fun x hx => (h.vals x hx).bs⟩
theorem RowO.len {w : World} {v : Value} {m : Nat} {us : List Tg} (h : RowO w v m us) : us.length = m := h.tr.len
theorem RowO.sl {w : World} {v : Value} {m : Nat} {us : List Tg} (h : RowO w v m us) : ∃ a c, v = .slice a m c := by
  obtain ⟨a, c, e, _, _⟩ := h.tr.shape
  exact ⟨a, c, e⟩
theorem RowO.n {w : World} {a : Option Addr} {n c m : Nat} {us : List Tg} (h : RowO w (.slice a n c) m us) : m = n := by
  obtain ⟨a', c', e⟩ := h.sl
  simp only [Value.slice.injEq] at e
  exact e.2.1.symm
/-- What was told. -/
structure Keeps (x : Aut × List QC × List Int) (w : World) (av ov dv : Value) : Prop where
  ask : ∃ m us, RowO w av m us ∧ plain us = x.1.ask
  out : ∃ os, (w.ownsRow 0 32 3 ov os.length (flatC os) ∧ ∀ t ∈ os, Bs w t.val t.l) ∧ plainC os = x.2.1
  done : AO w 0 dv x.2.2
theorem Keeps.gr {x : Aut × List QC × List Int} {w w' : World} {av ov dv : Value} (h : Keeps x w av ov dv) (hb : Gr w w') : Keeps x w' av ov dv := by
  obtain ⟨m, us, h1, h2⟩ := h.ask
  obtain ⟨os, ⟨h3, h4⟩, h5⟩ := h.out
  exact ⟨⟨m, us, h1.gr hb, h2⟩, ⟨os, ⟨ownsRow_below h3 hb, fun t ht => (h4 t ht).below hb⟩, h5⟩, ownsRow_below h.done hb⟩
theorem Keeps.off {x : Aut × List QC × List Int} {w w' : World} {av ov dv : Value} {p : Nat} {cs : Array Value} {fr : Nat × Nat} (h : Keeps x w av ov dv) (hp : w.heap[p]? = some (.cells cs 28 fr)) (hcs : ∀ u ∈ cs.toList, ∀ b, u ≠ u8v b) (ho : Only p w w') : Keeps x w' av ov dv := by
  obtain ⟨m, us, h1, h2⟩ := h.ask
  obtain ⟨os, ⟨h3, h4⟩, h5⟩ := h.out
  exact ⟨⟨m, us, h1.off hp (by decide) hcs ho, h2⟩, ⟨os, ⟨own_off h3 hp (by decide) ho, fun t ht => bs_off (h4 t ht) hp hcs ho⟩, h5⟩, own_off h.done hp (by decide) ho⟩
theorem Keeps.said {x : Aut × List QC × List Int} {w : World} {av ov dv : Value} (h : Keeps x w av ov dv) : Said x w av ov dv := by
  obtain ⟨m, us, h1, h2⟩ := h.ask
  obtain ⟨os, ⟨h3, h4⟩, h5⟩ := h.out
  exact ⟨⟨m, us, h1.tr, h2⟩, ⟨os, ⟨own_rd h3, h4⟩, h5⟩, h.done.ar⟩
theorem DAt.keeps {x : Aut × List QC × List Int} {w w' : World} {av ov dv : Value} (h : DAt x w w' av ov dv) : Keeps x w' av ov dv := by
  obtain ⟨ts, h1, h2⟩ := h.ask
  obtain ⟨os, h3, h4⟩ := h.out
  exact ⟨⟨_, ts, .of h1, h2⟩, ⟨os, ⟨ownsRow_mono h3.own (Nat.zero_le _), fun t ht => (h3.got t ht).bs⟩, h4⟩, ownsRow_mono h.done (Nat.zero_le _)⟩
theorem RDAt.keeps {x : Aut × List QC × List Int} {w w' : World} {av ov dv : Value} {m : Nat} {us : List Tg} (h : RDAt x w w' av ov dv) (hr : RowO w' av m us) (hp : plain us = x.1.ask) : Keeps x w' av ov dv := by
  obtain ⟨os, ⟨h3, h4⟩, h5⟩ := h.out
  exact ⟨⟨m, us, hr, hp⟩, ⟨os, ⟨ownsRow_mono h3 (Nat.zero_le _), h4⟩, h5⟩, ownsRow_mono h.done (Nat.zero_le _)⟩
theorem RowO.no {w : World} {v : Value} {m : Nat} {us : List Tg} (h : RowO w v m us) : ∀ b, v ≠ u8v b := by
  obtain ⟨a, c, rfl⟩ := h.sl
  exact sl_no _ _ _
/-- A box of another type stands. -/
theorem box_off {w w' : World} {p g : Nat} {t t' : TypeId} {cs ds : Array Value} {fr fr' : Nat × Nat} (h : w.heap[g]? = some (.cells cs t fr)) (hp : w.heap[p]? = some (.cells ds t' fr')) (ht : t ≠ t') (ho : Only p w w') : w'.heap[g]? = some (.cells cs t fr) := only_heap h ho (ne_of_block h hp ht)
/-- What stands from round to round: the settings' box, ours, the document's. -/
structure St (W : World) (G p q : Nat) (cf : Array Value) (x : Aut) (av bv : Value) (w : World) : Prop where
  c0 : w.heap[G]? = some (.cells cf 24 (0, 0))
  c1 : w.heap[p]? = some (.cells (autoC x av).toArray 28 (0, 0))
  c2 : w.heap[q]? = some (.cells (autoC x bv).toArray 28 (0, 0))
  r1 : ∃ n us, RowO w av n us ∧ plain us = x.ask
  r2 : ∃ n us, RowO w bv n us ∧ plain us = x.ask
  is : isA x
  ne : G < p ∧ p < q
  low : W.heap.size ≤ p
  gr : Gr W w
theorem St.go {W w w' : World} {G p q : Nat} {cf : Array Value} {x : Aut} {av bv : Value} (h : St W G p q cf x av bv w) (hb : Gr w w') : St W G p q cf x av bv w' := by
  obtain ⟨n, us, h1, h2⟩ := h.r1
  obtain ⟨m, vs, h3, h4⟩ := h.r2
  exact ⟨heap_below h.c0 hb, heap_below h.c1 hb, heap_below h.c2 hb, ⟨n, us, h1.gr hb, h2⟩, ⟨m, vs, h3.gr hb, h4⟩, h.is, h.ne, h.low, Gr.trans h.gr hb⟩
theorem St.off {W w w' : World} {G p q g : Nat} {cf : Array Value} {x : Aut} {av bv : Value} {t : TypeId} {cs : Array Value} {fr : Nat × Nat} (h : St W G p q cf x av bv w) (hg : w.heap[g]? = some (.cells cs t fr)) (t1 : 24 ≠ t) (t2 : 28 ≠ t) (t3 : 69 ≠ t) (hcs : ∀ u ∈ cs.toList, ∀ b, u ≠ u8v b) (hl : W.heap.size ≤ g) (ho : Only g w w') : St W G p q cf x av bv w' := by
  obtain ⟨n, us, h1, h2⟩ := h.r1
  obtain ⟨m, vs, h3, h4⟩ := h.r2
  exact ⟨box_off h.c0 hg t1 ho, box_off h.c1 hg t2 ho, box_off h.c2 hg t2 ho, ⟨n, us, h1.off hg t3 hcs ho, h2⟩, ⟨m, vs, h3.off hg t3 hcs ho, h4⟩, h.is, h.ne, h.low, ho.below _ _ hl h.gr⟩
/-- Ours has gone on. -/
structure Half (W : World) (G p q : Nat) (cf : Array Value) (x y : Aut) (av bv : Value) (w : World) : Prop where
  c0 : w.heap[G]? = some (.cells cf 24 (0, 0))
  c1 : w.heap[p]? = some (.cells (autoC y av).toArray 28 (0, 0))
  c2 : w.heap[q]? = some (.cells (autoC x bv).toArray 28 (0, 0))
  r2 : ∃ n us, RowO w bv n us ∧ plain us = x.ask
  is : isA y
  ne : G < p ∧ p < q
  low : W.heap.size ≤ p
  gr : Gr W w
end Go.Proofs.YtclplbapedmihaaGreat.Au
namespace Go.Proofs.YtclplbapedmihaaGreat.Au
set_option maxRecDepth 4000
open Go.RowKit O
set_option linter.unusedVariables false
set_option linter.unusedSimpArgs false
/-- Bytes that lie from base on may have been overwritten; nothing else has turned. -/
structure MC (ws wr : World) (base : Nat) (lv : Value) (us : List Ct) : Prop where
  low : Below base ws wr
  row : wr.ownsRow base 32 3 lv us.length (flatC us)
  vals : ∀ t ∈ us, ∃ l' : List UInt8, OwnB wr base 5 t.val l'
theorem MC.start {ws : World} {base : Nat} {lv : Value} {us : List Ct} (h : CO true ws base lv us) : MC ws ws base lv us :=
  ⟨Below.refl _ _, h.own, fun t ht => ⟨t.l, by simpa using h.vals t ht⟩⟩
theorem MC.step {ws wr : World} {base : Nat} {lv : Value} {us : List Ct} (h : MC ws wr base lv us) {t : Ct} (ht : t ∈ us) {g n c k : Nat} (hv : t.val = .slice (some ⟨g, 0, none⟩) n c) (x : UInt8) :
    MC ws (wr.setCell ⟨g, k, none⟩ (.int .u8 (x.toNat : Int))) base lv us := by
  obtain ⟨lt, hlt⟩ := h.vals t ht
  have hgb : base ≤ g := (World.ownsRow.lt hlt g (by rw [hv]; rfl)).1
  refine ⟨h.low.setCell hgb _, ?_, fun u hu => ?_⟩
  · refine World.ownsRow.kept h.row (grown_set wr g k _) ?_
    have := own_ne_block h.row hlt (by decide)
    rw [hv] at this
    exact this
  · obtain ⟨lu, hlu⟩ := h.vals u hu
    by_cases e : u.val.ownBlock = some g
    · obtain ⟨A, L, C, ev, hL, _, _⟩ := hlu.bs.sl
      rw [ev] at e hlu ⊢
      obtain ⟨A0, rfl⟩ : ∃ A0, A = some A0 := by
        cases A with
        | none => cases e
        | some A0 => exact ⟨A0, rfl⟩
      obtain ⟨_, ⟨h2, _⟩ | ⟨g', cap, cur, h2, _⟩⟩ := id hlu
      · cases h2
      · simp only [Value.slice.injEq, Option.some.injEq] at h2
        obtain ⟨rfl, _, _⟩ := h2
        simp only [Value.ownBlock, Option.some.injEq] at e
        subst e
        refine ⟨lu.set k x, ?_⟩
        have hs := (World.ownsRow.stored (by have h3 := hlu; unfold OwnB at h3; rw [hL] at h3; exact h3) k (.int .u8 (x.toNat : Int))).1
        unfold OwnB
        rw [List.length_set, List.map_set, hL]
        exact hs
    · exact ⟨lu, World.ownsRow.kept hlu (grown_set wr g k _) (.inr e)⟩
theorem MC.cells {ws wr : World} {base : Nat} {ao : Option Addr} {n c : Nat} {us : List Ct} (h : MC ws wr base (.slice ao n c) us) (hn : 0 < us.length) :
    ∃ b o, ao = some ⟨b, o, none⟩ ∧ ∀ i (hi : i < us.length), wr.cell? ⟨b, o + i * 3 + 2, none⟩ = some us[i].val := by
  have hl : us.length = n := by
    obtain ⟨_, _, e, _⟩ := (own_rd h.row).shape
    simp only [Value.slice.injEq] at e
    omega
  subst hl
  obtain ⟨b, o, h1, h2, h3⟩ := Rd.cells (own_rd h.row) hn (by omega)
  exact ⟨b, o, h1, fun i hi => h3 _ _ (flatC_get us i hi).2.2⟩
theorem MC.byte {ws wr : World} {base : Nat} {lv : Value} {us : List Ct} (h : MC ws wr base lv us) {t : Ct} (ht : t ∈ us) {g n c k : Nat} (hv : t.val = .slice (some ⟨g, 0, none⟩) n c) (hk : k < n) :
    (∃ u, wr.cell? ⟨g, k, none⟩ = some u) ∧ wr.frozen? ⟨g, k, none⟩ = false := by
  obtain ⟨lt, hlt⟩ := h.vals t ht
  rw [hv] at hlt
  have hl := own_len hlt
  unfold OwnB at hlt
  rw [hl] at hlt
  refine ⟨?_, World.ownsRow.frozenAt hlt _⟩
  rw [World.ownsRow.cellAt hlt _ (by simp; omega), List.getElem?_map, List.getElem?_eq_getElem (by omega)]
  exact ⟨_, rfl⟩
end Go.Proofs.YtclplbapedmihaaGreat.Au
namespace Go.Proofs.YtclplbapedmihaaGreat.Au
set_option maxRecDepth 4000
open Go.RowKit O Ng
set_option linter.unusedVariables false
set_option linter.unusedSimpArgs false
/-- What is known ahead of the boxes. -/
structure B13 (a0 : Act) (Q0 : Exit → Act → World → Prop) (wr : World) (ra : Option Addr) (rn rc : Nat) (ka0 kb0 kc0 kd0 s i r : Int) (a : Option Addr) (n d : Nat) (ct tm nk qc qi : Int) (A : Option Addr) (L C : Nat) : Prop where
  sz : a0.tmps.size = 206
  e73 : a0.eval (.tmp 73) = .agg #[.slice ra rn rc, .int .i64 ka0, .int .i64 kb0, .int .i64 kc0, .int .i64 kd0]
  e74 : a0.eval (.tmp 74) = .agg #[.int .i64 s, .int .i64 i, .int .i64 r, .slice a n d, .int .i64 ct, .int .i64 tm, .int .i64 nk]
  e79 : a0.eval (.tmp 79) = .agg #[.int .i64 qc, .int .i64 qi, .slice A L C]
  pan : ∀ (d : Tmp) (v : Value) (c : List PanicEntry) (a : Act) (w : World), Q0 (.panic c) (a.put (some d) v) w → Q0 (.panic c) a w
  call : ∀ w, Gr wr w → Calls Tryz.prog 10 #[.agg #[.slice ra rn rc, .int .i64 ka0, .int .i64 kb0, .int .i64 kc0, .int .i64 kd0], .agg #[.int .i64 s, .int .i64 i, .int .i64 r, .slice a n d, .int .i64 ct, .int .i64 tm, .int .i64 nk], .agg #[.int .i64 qc, .int .i64 qi, .slice A L C]] w fun e w' => ∃ (za : Option Addr) (zn zc : Nat) (ya : Option Addr) (yn yc : Nat) (qa : Option Addr) (qn qk : Nat) (xl : List UInt8), e = .returned (.tuple #[.agg #[.slice za zn zc, .int .i64 ka0, .int .i64 kb0, .int .i64 kc0, .int .i64 kd0], .agg #[.int .i64 s, .int .i64 i, .int .i64 r, .slice ya yn yc, .int .i64 ct, .int .i64 tm, .int .i64 nk], .agg #[.int .i64 qc, .int .i64 qi, .slice qa qn qk]]) ∧ Hid (Bs wr (.slice qa qn qk) xl ∧ xl.length = qn ∧ qn ≤ 1500) ∧ Gr w w'
  fin : ∀ (wx : World) (p14 p15 p16 : Nat) (za : Option Addr) (zn zc : Nat) (ya : Option Addr) (yn yc : Nat) (qa : Option Addr) (qn qk : Nat) (xl : List UInt8), Hid (wx.heap[p16]? = some (.cells #[.int .i64 qc, .int .i64 qi, .slice qa qn qk] 32 (0, 0))) → Hid (Bs wr (.slice qa qn qk) xl ∧ xl.length = qn ∧ qn ≤ 1500) → Hid (Gr wr wx) → Hid (wr.heap.size ≤ p16) → Q0 .normal ((((((((a0.put (some 80) (.tuple #[.agg #[.slice za zn zc, .int .i64 ka0, .int .i64 kb0, .int .i64 kc0, .int .i64 kd0], .agg #[.int .i64 s, .int .i64 i, .int .i64 r, .slice ya yn yc, .int .i64 ct, .int .i64 tm, .int .i64 nk], .agg #[.int .i64 qc, .int .i64 qi, .slice qa qn qk]])).put (some 72) (.tuple #[.agg #[.slice za zn zc, .int .i64 ka0, .int .i64 kb0, .int .i64 kc0, .int .i64 kd0], .agg #[.int .i64 s, .int .i64 i, .int .i64 r, .slice ya yn yc, .int .i64 ct, .int .i64 tm, .int .i64 nk], .agg #[.int .i64 qc, .int .i64 qi, .slice qa qn qk]])).put (some 81) (.agg #[.slice za zn zc, .int .i64 ka0, .int .i64 kb0, .int .i64 kc0, .int .i64 kd0])).put (some 82) (.agg #[.int .i64 s, .int .i64 i, .int .i64 r, .slice ya yn yc, .int .i64 ct, .int .i64 tm, .int .i64 nk])).put (some 83) (.agg #[.int .i64 qc, .int .i64 qi, .slice qa qn qk])).put (some 14) (.pointer (some ⟨p14, 0, none⟩))).put (some 15) (.pointer (some ⟨p15, 0, none⟩))).put (some 16) (.pointer (some ⟨p16, 0, none⟩))) wx
end Go.Proofs.YtclplbapedmihaaGreat.Au
