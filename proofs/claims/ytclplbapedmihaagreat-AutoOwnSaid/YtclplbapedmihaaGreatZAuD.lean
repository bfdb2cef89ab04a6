/-
  The document's Run: its thirteen cells; asked.
  The document's act: what an action makes of a Run (1 to 4, 6, 8, 11, 13).
  The document's act: what an action makes of a Run (5, 9).
  The document's act: what an action makes of a Run (7, 10, 12).
  The document's Do.
  What two that answer the same say: the document's three comparisons.
  The document's Timeout.
-/
import Derived.Test.YtclplbapedmihaaGreatZAuA
import Derived.Test.YtclplbapedmihaaGreatZAuC
import Derived.Test.YtclplbapedmihaaGreatZFs
import Derived.Test.YtclplbapedmihaaGreatZCp
import Derived.Test.YtclplbapedmihaaGreatZOp
import Derived.Test.YtclplbapedmihaaGreatZAuB
namespace Go.Proofs.YtclplbapedmihaaGreat.Au
set_option maxRecDepth 4000
open Go.RowKit O Ng
open Go.Proofs.YtclplbapedmihaaGreat.Fs (AO AO.ar AO.nil AR)
set_option linter.unusedVariables false
set_option linter.unusedSimpArgs false
/-- A Run's cells. -/
def runL (rv : Value) (c : Cfg) (a : Aut) (av ov : Value) : List Value := [rv, .int .i64 c.conf, .int .i64 c.term, .int .i64 c.fail, .int .i64 c.wait, .int .i64 a.st, .int .i64 a.id, .int .i64 a.req, av, .int .i64 a.count, .int .i64 a.timer, .int .i64 a.naks, ov]
/-- What goes out, and the actions, while the document does an event. -/
structure Rs (w0 w : World) (ov : Value) (os : List Ct) (dv : Value) (L : List Int) : Prop where
  old : Below w0.heap.size w0 w
  out : CO false w w0.heap.size ov os
  done : AO w w0.heap.size dv L
theorem Rs.gr {w0 w w' : World} {ov dv : Value} {os : List Ct} {L : List Int} (h : Rs w0 w ov os dv L) (hb : Below w.heap.size w w') : Rs w0 w' ov os dv L :=
  ⟨h.old.trans (hb.mono h.old.size), h.out.below h.old.size hb, ownsRow_below h.done hb⟩
theorem Rs.off {w0 w w' : World} {g : Nat} {ov dv : Value} {os : List Ct} {L : List Int} {cs : Array Value} {fr : Nat × Nat} (h : Rs w0 w ov os dv L) (hg : w.heap[g]? = some (.cells cs 80 fr)) (hl : w0.heap.size ≤ g) (ho : Only g w w') : Rs w0 w' ov os dv L :=
  ⟨ho.below _ _ hl h.old, CO.off h.out hg (by decide) (by decide) hl ho, own_off h.done hg (by decide) ho⟩
/-- A Run in its box. -/
structure Rb (w0 w : World) (g : Nat) (rv av : Value) (c : Cfg) (a : Aut) (ov : Value) (os : List Ct) (dv : Value) (L : List Int) : Prop where
  row : w.heap[g]? = some (.cells #[rv, .int .i64 c.conf, .int .i64 c.term, .int .i64 c.fail, .int .i64 c.wait, .int .i64 a.st, .int .i64 a.id, .int .i64 a.req, av, .int .i64 a.count, .int .i64 a.timer, .int .i64 a.naks, ov] 80 (0, 0))
  low : w0.heap.size ≤ g
  st : Rs w0 w ov os dv L
theorem Rb.gr {w0 w w' : World} {g : Nat} {rv av ov dv : Value} {c : Cfg} {a : Aut} {os : List Ct} {L : List Int} (h : Rb w0 w g rv av c a ov os dv L) (hb : Below w.heap.size w w') : Rb w0 w' g rv av c a ov os dv L := ⟨heap_below h.row hb, h.low, h.st.gr hb⟩
theorem Rb.turn {w0 w w' : World} {g : Nat} {rv av ov dv : Value} {c : Cfg} {a a' : Aut} {os : List Ct} {L : List Int} (h : Rb w0 w g rv av c a ov os dv L) (ho : Only g w w') (hr : w'.heap[g]? = some (.cells (runL rv c a' av ov).toArray 80 (0, 0))) : Rb w0 w' g rv av c a' ov os dv L :=
  ⟨hr, h.low, h.st.off h.row h.low ho⟩
theorem Rb.lt {w0 w : World} {g : Nat} {rv av ov dv : Value} {c : Cfg} {a : Aut} {os : List Ct} {L : List Int} (h : Rb w0 w g rv av c a ov os dv L) : g < w.heap.size := (Array.getElem?_eq_some_iff.1 h.row).1
/-- All blocks but the row's own stand. -/
def Oth (ov : Value) (w w' : World) : Prop := w.heap.size ≤ w'.heap.size ∧ ∀ p x, w.heap[p]? = some x → ov.ownBlock ≠ some p → w'.heap[p]? = some x
theorem Oth.gr {ov : Value} {w w' : World} (h : Gr w w') : Oth ov w w' := ⟨h.size, fun p x hx _ => heap_below hx h⟩
theorem Oth.refl (ov : Value) (w : World) : Oth ov w w := ⟨Nat.le_refl _, fun _ _ h _ => h⟩
theorem Oth.trans {ov : Value} {a b c : World} (h : Oth ov a b) (k : Oth ov b c) : Oth ov a c := ⟨Nat.le_trans h.1 k.1, fun p x hx hn => k.2 p x (h.2 p x hx hn) hn⟩
theorem Oth.only {ov : Value} {g : Nat} {a b c : World} (h : Oth ov a b) (k : Only g b c) (hg : a.heap.size ≤ g) : Oth ov a c :=
  ⟨Nat.le_trans h.1 k.size, fun p x hx hn => only_heap (h.2 p x hx hn) k (by have := (Array.getElem?_eq_some_iff.1 hx).1; omega)⟩
theorem Oth.grown {ov : Value} {a b c : World} (h : Oth ov a b) (k : b.grownBy c ov.ownBlock) : Oth ov a c :=
  ⟨Nat.le_trans h.1 k.size, fun p x hx hn => by
    have hb := h.2 p x hx hn
    rw [k.block p (Array.getElem?_eq_some_iff.1 hb).1 (fun e => hn e.symm)]
    exact hb⟩
end Go.Proofs.YtclplbapedmihaaGreat.Au
namespace Go.Proofs.YtclplbapedmihaaGreat.Au
set_option maxRecDepth 4000
open Go.RowKit O Ng
open Go.Proofs.YtclplbapedmihaaGreat.Fs (AO AO.ar AO.nil AR)
set_option linter.unusedVariables false
set_option linter.unusedSimpArgs false
/-- What an action is done with. -/
structure AcIn (w0 : World) (c : Cfg) (a : Aut) (aa : Option Addr) (an ac : Nat) (ts : List Tg) (L : List Int) (os : List Ct) (qa : Option Addr) (qn qk : Nat) (ql : List UInt8) (na : Option Addr) (nn nk : Nat) (nl : List UInt8) (t : Int) : Prop where
  ask : TR w0 (.slice aa an ac) an ts
  asks : plain ts = a.ask
  few : an ≤ 1000 ∧ ∀ x ∈ ts, x.l.length ≤ 1000
  q : Bs w0 (.slice qa qn qk) ql
  qlen : ql.length = qn ∧ qn ≤ 1500
  n : Bs w0 (.slice na nn nk) nl
  id : 0 ≤ a.id ∧ a.id ≤ 255
  count : 0 ≤ a.count ∧ a.count ≤ 1000
  naks : 0 ≤ a.naks ∧ a.naks ≤ 1000
  tick : 0 ≤ t ∧ t ≤ topT
  wait : 1 ≤ c.wait ∧ c.wait ≤ topW
  acts : L.length ≤ 100
  outs : os.length ≤ 900
end Go.Proofs.YtclplbapedmihaaGreat.Au
namespace Go.Proofs.YtclplbapedmihaaGreat.Au
set_option maxRecDepth 4000
open Go.RowKit O Ng
open Go.Proofs.YtclplbapedmihaaGreat.Fs (AO AO.ar AO.nil AR)
set_option linter.unusedVariables false
set_option linter.unusedSimpArgs false
end Go.Proofs.YtclplbapedmihaaGreat.Au
namespace Go.Proofs.YtclplbapedmihaaGreat.Au
set_option maxRecDepth 4000
open Go.RowKit O Ng
open Go.Proofs.YtclplbapedmihaaGreat.Fs (AO AO.ar AO.nil AR)
set_option linter.unusedVariables false
set_option linter.unusedSimpArgs false
end Go.Proofs.YtclplbapedmihaaGreat.Au
namespace Go.Proofs.YtclplbapedmihaaGreat.Au
set_option maxRecDepth 4000
open Go.RowKit O Ng
open Go.Proofs.YtclplbapedmihaaGreat.Fs (AO AO.ar AO.nil AR AR.at rStep_any rTimed_any)
set_option linter.unusedVariables false
set_option linter.unusedSimpArgs false
/-- What the document's Do and the like tell, beside what they answer: it can be read. -/
structure RDAt (x : Aut × List QC × List Int) (w w' : World) (av ov dv : Value) : Prop where
  ask : ∃ n ts, TR w' av n ts ∧ plain ts = x.1.ask
  out : ∃ os, (w'.ownsRow w.heap.size 32 3 ov os.length (flatC os) ∧ ∀ t ∈ os, Bs w' t.val t.l) ∧ plainC os = x.2.1
  done : AO w' w.heap.size dv x.2.2
  old : Below w.heap.size w w'
theorem RDAt.stay {w w' : World} {a : Aut} {av : Value} {n : Nat} {ts : List Tg} (h : TR w av n ts) (hp : plain ts = a.ask) (hb : Below w.heap.size w w') : RDAt (a, [], []) w w' av (.slice none 0 0) (.slice none 0 0) :=
  ⟨⟨n, ts, h.below hb, hp⟩, ⟨[], ⟨World.ownsRow_nil w' _ _ 3, fun t h => by cases h⟩, rfl⟩, AO.nil w' _, hb⟩
/-- Bytes do not lie in a block that holds none. -/
theorem bs_off {w w' : World} {p : Nat} {t : TypeId} {cs : Array Value} {fr : Nat × Nat} {v : Value} {l : List UInt8} (h : Bs w v l) (hp : w.heap[p]? = some (.cells cs t fr)) (hcs : ∀ u ∈ cs.toList, ∀ b, u ≠ u8v b) (ho : Only p w w') : Bs w' v l := by
  have hh := h
  obtain ⟨h0, ao, cap, rfl, g1, g2, g3, g4⟩ := h
  refine ⟨h0, ao, cap, rfl, g1, g2, g3, fun ad had j u hu => ?_⟩
  have hj := (List.getElem?_eq_some_iff.1 hu).1
  rw [List.length_map] at hj
  obtain ⟨b, o, hao, _, hall⟩ := Bs.cells hh (by omega)
  obtain rfl : ad = ⟨b, o, none⟩ := Option.some.inj (had.symm.trans hao)
  have hc := g4 _ had j u hu
  by_cases e : b = p
  · exfalso
    subst e
    rw [Addr.add_lit, cell_of_row _ _ _ _ _ _ hp] at hc
    rw [List.getElem?_map, List.getElem?_eq_getElem hj] at hu
    obtain rfl := Option.some.inj hu
    exact hcs _ (by simpa using Array.mem_of_getElem? hc) _ rfl
  · refine ho.cell ?_ hc
    rw [add_block]; exact e
/-- The box of the answer was written: what was told stands. -/
theorem RDAt.off {x : Aut × List QC × List Int} {w0 w w1 w' : World} {p n : Nat} {av ov dv : Value} {ts : List Tg} {cs : Array Value} {fr : Nat × Nat} (h : RDAt x w w1 av ov dv) (hp : w1.heap[p]? = some (.cells cs 28 fr)) (hcs : ∀ u ∈ cs.toList, ∀ b, u ≠ u8v b) (ho : Only p w1 w') (hr : TR w0 av n ts) (ha : plain ts = x.1.ask) (hb : Below w0.heap.size w0 w) (hl : w0.heap.size ≤ p) :
    RDAt x w0 w' av ov dv := by
  have hbw : Below w0.heap.size w0 w' := ho.below _ _ hl (hb.trans (h.old.mono hb.size))
  obtain ⟨os, ⟨h1, h2⟩, h3⟩ := h.out
  refine ⟨⟨n, ts, hr.below hbw, ha⟩, ⟨os, ⟨ownsRow_mono (own_off h1 hp (by decide) ho) hb.size, fun t ht => bs_off (h2 t ht) hp hcs ho⟩, h3⟩, ownsRow_mono (show AO w' w.heap.size dv x.2.2 from own_off h.done hp (by decide) ho) hb.size, hbw⟩
end Go.Proofs.YtclplbapedmihaaGreat.Au
namespace Go.Proofs.YtclplbapedmihaaGreat.Au
set_option maxRecDepth 4000
open Go.RowKit O Ng
open Go.Proofs.YtclplbapedmihaaGreat.Fs (AO AO.ar AO.nil AR AR.at)
set_option linter.unusedVariables false
set_option linter.unusedSimpArgs false
/-- What was answered, as it reads. -/
structure Said (x : Aut × List QC × List Int) (w : World) (av ov dv : Value) : Prop where
  ask : ∃ n ts, TR w av n ts ∧ plain ts = x.1.ask
  out : ∃ os, CR w ov os.length os ∧ plainC os = x.2.1
  done : AR w dv x.2.2
theorem Said.below {x : Aut × List QC × List Int} {w w' : World} {av ov dv : Value} (h : Said x w av ov dv) (hb : Below w.heap.size w w') : Said x w' av ov dv := by
  obtain ⟨n, ts, h1, h2⟩ := h.ask
  obtain ⟨os, h3, h4⟩ := h.out
  exact ⟨⟨n, ts, h1.below hb, h2⟩, ⟨os, h3.below hb, h4⟩, Rd.below h.done hb⟩
theorem DAt.said {x : Aut × List QC × List Int} {w w' : World} {av ov dv : Value} (h : DAt x w w' av ov dv) : Said x w' av ov dv := by
  obtain ⟨ts, h1, h2⟩ := h.ask
  obtain ⟨os, h3, h4⟩ := h.out
  exact ⟨⟨_, ts, h1.tr, h2⟩, ⟨os, h3.cr, h4⟩, h.done.ar⟩
theorem RDAt.said {x : Aut × List QC × List Int} {w w' : World} {av ov dv : Value} (h : RDAt x w w' av ov dv) : Said x w' av ov dv := by
  obtain ⟨os, ⟨h1, h2⟩, h3⟩ := h.out
  exact ⟨h.ask, ⟨os, ⟨own_rd h1, h2⟩, h3⟩, h.done.ar⟩
theorem Said.av {x : Aut × List QC × List Int} {w : World} {av ov dv : Value} (h : Said x w av ov dv) : ∃ a n c, av = .slice a n c := by
  obtain ⟨n, ts, h1, _⟩ := h.ask
  obtain ⟨a, c, e, _, _⟩ := h1.shape
  exact ⟨a, n, c, e⟩
theorem Said.ov {x : Aut × List QC × List Int} {w : World} {av ov dv : Value} (h : Said x w av ov dv) : ∃ a c, ov = .slice a x.2.1.length c := by
  obtain ⟨os, h1, h2⟩ := h.out
  obtain ⟨a, c, e, _, _⟩ := h1.shape
  refine ⟨a, c, ?_⟩
  rw [← h2, plainC_length]; exact e
theorem Said.dv {x : Aut × List QC × List Int} {w : World} {av ov dv : Value} (h : Said x w av ov dv) : ∃ a c, dv = .slice a x.2.2.length c := by
  obtain ⟨a, c, e, _, _⟩ := h.done.shape
  exact ⟨a, c, e⟩
theorem Said.same {s i r ct tm nk : Int} {ask : List PT} {xo : List QC} {xl : List Int} {w : World} {av ov dv av' ov' dv' : Value} (h : Said (⟨s, i, r, ask, ct, tm, nk⟩, xo, xl) w av ov dv) (h' : Said (⟨s, i, r, ask, ct, tm, nk⟩, xo, xl) w av' ov' dv') :
    Calls Tryz.prog 13 #[.agg #[.int .i64 s, .int .i64 i, .int .i64 r, av, .int .i64 ct, .int .i64 tm, .int .i64 nk], .agg #[.int .i64 s, .int .i64 i, .int .i64 r, av', .int .i64 ct, .int .i64 tm, .int .i64 nk]] w fun e w' => e = .returned (.bool true) ∧ Below w.heap.size w w' := by
  obtain ⟨n, ts, h1, h2⟩ := h.ask
  obtain ⟨n', us, h3, h4⟩ := h'.ask
  obtain ⟨a, c, rfl, _, _⟩ := h1.shape
  obtain ⟨b, d, rfl, _, _⟩ := h3.shape
  exact rsame_auto ⟨s, i, r, ask, ct, tm, nk⟩ a n c ts b n' d us w h1 h3 (h2.trans h4.symm)
theorem Said.outs {x : Aut × List QC × List Int} {w : World} {av ov dv av' ov' dv' : Value} (h : Said x w av ov dv) (h' : Said x w av' ov' dv') :
    Calls Tryz.prog 14 #[ov, ov'] w fun e w' => e = .returned (.bool true) ∧ Below w.heap.size w w' := by
  obtain ⟨os, h1, h2⟩ := h.out
  obtain ⟨us, h3, h4⟩ := h'.out
  exact sameAll_co h1 h3 (h2.trans h4.symm)
end Go.Proofs.YtclplbapedmihaaGreat.Au
namespace Go.Proofs.YtclplbapedmihaaGreat.Au
set_option maxRecDepth 4000
open Go.RowKit O Ng
open Go.Proofs.YtclplbapedmihaaGreat.Fs (AO AO.ar AO.nil AR AR.at)
set_option linter.unusedVariables false
set_option linter.unusedSimpArgs false
end Go.Proofs.YtclplbapedmihaaGreat.Au
