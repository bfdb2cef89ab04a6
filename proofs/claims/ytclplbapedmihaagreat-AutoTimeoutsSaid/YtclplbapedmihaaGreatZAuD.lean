/-
  The document's Run: its thirteen cells; asked.
  The document's act: what an action makes of a Run (1 to 4, 6, 8, 11, 13).
  The document's act: what an action makes of a Run (5, 9).
  The document's act: what an action makes of a Run (7, 10, 12).
  The document's Do.
  What two that answer the same say: the document's three comparisons.
  The document's Timeout.
-/
import Derived.Test.YtclplbapedmihaaGreatZAuA
import Derived.Test.YtclplbapedmihaaGreatZAuC
import Derived.Test.YtclplbapedmihaaGreatZFs
import Derived.Test.YtclplbapedmihaaGreatZCp
import Derived.Test.YtclplbapedmihaaGreatZOp
import Derived.Test.YtclplbapedmihaaGreatZAuB
namespace Go.Proofs.YtclplbapedmihaaGreat.Au
set_option maxRecDepth 4000
open Go.RowKit O Ng
open Go.Proofs.YtclplbapedmihaaGreat.Fs (AO AO.ar AO.nil AR)
set_option linter.unusedVariables false
set_option linter.unusedSimpArgs false
/-- A Run's cells. -/
def runL (rv : Value) (c : Cfg) (a : Aut) (av ov : Value) : List Value := [rv, .int .i64 c.conf, .int .i64 c.term, .int .i64 c.fail, .int .i64 c.wait, .int .i64 a.st, .int .i64 a.id, .int .i64 a.req, av, .int .i64 a.count, .int .i64 a.timer, .int .i64 a.naks, ov]
theorem runL_one {rv : Value} {c : Cfg} {a : Aut} {av ov : Value} (h1 : rv.oneCell' = true) (h2 : av.oneCell' = true) (h3 : ov.oneCell' = true) : ∀ v ∈ runL rv c a av ov, v.oneCell' = true := by
  intro v hv
  simp only [runL, List.mem_cons, List.not_mem_nil, or_false] at hv
  rcases hv with rfl | rfl | rfl | rfl | rfl | rfl | rfl | rfl | rfl | rfl | rfl | rfl | rfl
  · exact h1
  · rfl
  · rfl
  · rfl
  · rfl
  · rfl
  · rfl
  · rfl
  · exact h2
  · rfl
  · rfl
  · rfl
  · exact h3
theorem sizeRun : (Tryz.prog.info? 80).map (·.size) = some 13 := by kernel_rfl
/-- What goes out, and the actions, while the document does an event. -/
structure Rs (w0 w : World) (ov : Value) (os : List Ct) (dv : Value) (L : List Int) : Prop where
  old : Below w0.heap.size w0 w
  out : CO false w w0.heap.size ov os
  done : AO w w0.heap.size dv L
theorem Rs.gr {w0 w w' : World} {ov dv : Value} {os : List Ct} {L : List Int} (h : Rs w0 w ov os dv L) (hb : Below w.heap.size w w') : Rs w0 w' ov os dv L :=
  ⟨h.old.trans (hb.mono h.old.size), h.out.below h.old.size hb, ownsRow_below h.done hb⟩
theorem Rs.off {w0 w w' : World} {g : Nat} {ov dv : Value} {os : List Ct} {L : List Int} {cs : Array Value} {fr : Nat × Nat} (h : Rs w0 w ov os dv L) (hg : w.heap[g]? = some (.cells cs 80 fr)) (hl : w0.heap.size ≤ g) (ho : Only g w w') : Rs w0 w' ov os dv L :=
  ⟨ho.below _ _ hl h.old, CO.off h.out hg (by decide) (by decide) hl ho, own_off h.done hg (by decide) ho⟩
theorem Rs.sent {w0 w w' : World} {ov v' dv : Value} {os : List Ct} {t : Ct} {L : List Int} (h : Rs w0 w ov os dv L) (ht : Got w w0.heap.size t.val t.l) (ho : w'.ownsRow w0.heap.size 32 3 v' (os.length + 1) (flatC os ++ t.cells)) (hg : w.grownBy w' ov.ownBlock) : Rs w0 w' v' (os ++ [t]) dv L :=
  ⟨h.old.trans (grown_below h.out.own h.old.size hg), CO.more h.out ht h.old.size ho hg, World.ownsRow.kept h.done hg (own_ne_block h.done h.out.own (by decide))⟩
theorem cells13 {w : World} {g : Nat} {a b c d e f h i j k l m n : Value} {t : TypeId} {fr : Nat × Nat} (H : w.heap[g]? = some (.cells #[a, b, c, d, e, f, h, i, j, k, l, m, n] t fr)) :
    w.cell? ⟨g, 0, none⟩ = some a ∧ w.cell? ⟨g, 1, none⟩ = some b ∧ w.cell? ⟨g, 2, none⟩ = some c ∧ w.cell? ⟨g, 3, none⟩ = some d ∧ w.cell? ⟨g, 4, none⟩ = some e ∧ w.cell? ⟨g, 5, none⟩ = some f ∧ w.cell? ⟨g, 6, none⟩ = some h ∧
    w.cell? ⟨g, 7, none⟩ = some i ∧ w.cell? ⟨g, 8, none⟩ = some j ∧ w.cell? ⟨g, 9, none⟩ = some k ∧ w.cell? ⟨g, 10, none⟩ = some l ∧ w.cell? ⟨g, 11, none⟩ = some m ∧ w.cell? ⟨g, 12, none⟩ = some n := by
  have c := fun i => cell_of_row w g i _ _ _ H
  exact ⟨c 0, c 1, c 2, c 3, c 4, c 5, c 6, c 7, c 8, c 9, c 10, c 11, c 12⟩
/-- A Run in its box. -/
structure Rb (w0 w : World) (g : Nat) (rv av : Value) (c : Cfg) (a : Aut) (ov : Value) (os : List Ct) (dv : Value) (L : List Int) : Prop where
  row : w.heap[g]? = some (.cells #[rv, .int .i64 c.conf, .int .i64 c.term, .int .i64 c.fail, .int .i64 c.wait, .int .i64 a.st, .int .i64 a.id, .int .i64 a.req, av, .int .i64 a.count, .int .i64 a.timer, .int .i64 a.naks, ov] 80 (0, 0))
  low : w0.heap.size ≤ g
  st : Rs w0 w ov os dv L
theorem Rb.gr {w0 w w' : World} {g : Nat} {rv av ov dv : Value} {c : Cfg} {a : Aut} {os : List Ct} {L : List Int} (h : Rb w0 w g rv av c a ov os dv L) (hb : Below w.heap.size w w') : Rb w0 w' g rv av c a ov os dv L := ⟨heap_below h.row hb, h.low, h.st.gr hb⟩
theorem Rb.turn {w0 w w' : World} {g : Nat} {rv av ov dv : Value} {c : Cfg} {a a' : Aut} {os : List Ct} {L : List Int} (h : Rb w0 w g rv av c a ov os dv L) (ho : Only g w w') (hr : w'.heap[g]? = some (.cells (runL rv c a' av ov).toArray 80 (0, 0))) : Rb w0 w' g rv av c a' ov os dv L :=
  ⟨hr, h.low, h.st.off h.row h.low ho⟩
theorem Rb.lt {w0 w : World} {g : Nat} {rv av ov dv : Value} {c : Cfg} {a : Aut} {os : List Ct} {L : List Int} (h : Rb w0 w g rv av c a ov os dv L) : g < w.heap.size := (Array.getElem?_eq_some_iff.1 h.row).1
/-- What 'asked' makes of an automaton. -/
def askedA (c : Cfg) (t : Int) (a : Aut) : Aut := { a with id := up a.id, count := if 0 < a.count then a.count - 1 else a.count, timer := t + c.wait }
/-- All blocks but the row's own stand. -/
def Oth (ov : Value) (w w' : World) : Prop := w.heap.size ≤ w'.heap.size ∧ ∀ p x, w.heap[p]? = some x → ov.ownBlock ≠ some p → w'.heap[p]? = some x
theorem Oth.gr {ov : Value} {w w' : World} (h : Gr w w') : Oth ov w w' := ⟨h.size, fun p x hx _ => heap_below hx h⟩
theorem Oth.refl (ov : Value) (w : World) : Oth ov w w := ⟨Nat.le_refl _, fun _ _ h _ => h⟩
theorem Oth.trans {ov : Value} {a b c : World} (h : Oth ov a b) (k : Oth ov b c) : Oth ov a c := ⟨Nat.le_trans h.1 k.1, fun p x hx hn => k.2 p x (h.2 p x hx hn) hn⟩
theorem Oth.only {ov : Value} {g : Nat} {a b c : World} (h : Oth ov a b) (k : Only g b c) (hg : a.heap.size ≤ g) : Oth ov a c :=
  ⟨Nat.le_trans h.1 k.size, fun p x hx hn => only_heap (h.2 p x hx hn) k (by have := (Array.getElem?_eq_some_iff.1 hx).1; omega)⟩
theorem Oth.grown {ov : Value} {a b c : World} (h : Oth ov a b) (k : b.grownBy c ov.ownBlock) : Oth ov a c :=
  ⟨Nat.le_trans h.1 k.size, fun p x hx hn => by
    have hb := h.2 p x hx hn
    rw [k.block p (Array.getElem?_eq_some_iff.1 hb).1 (fun e => hn e.symm)]
    exact hb⟩
set_option maxRecDepth 20000 in
set_option maxHeartbeats 8000000 in
theorem rasked_any (rv av : Value) (h1 : rv.oneCell' = true) (h2 : av.oneCell' = true) (c : Cfg) (a : Aut) (ov : Value) (os : List Ct) (dv : Value) (L : List Int) (code t : Int) (A : Option Addr) (D C : Nat) (l : List UInt8) (w0 w : World) (h : Rs w0 w ov os dv L) (hg : Got w w0.heap.size (.slice A D C) l)
    (hid : 0 ≤ a.id ∧ a.id ≤ 255) (hk : 0 ≤ a.count ∧ a.count ≤ 1000) (ht : 0 ≤ t ∧ t ≤ topT) (hc : 1 ≤ c.wait ∧ c.wait ≤ topW) (hn : os.length ≤ 1000) :
    Calls Tryz.prog 63 #[.agg #[rv, .int .i64 c.conf, .int .i64 c.term, .int .i64 c.fail, .int .i64 c.wait, .int .i64 a.st, .int .i64 a.id, .int .i64 a.req, av, .int .i64 a.count, .int .i64 a.timer, .int .i64 a.naks, ov], .int .i64 code, .slice A D C, .int .i64 t] w fun e w' => ∃ ov', e = .returned (.agg (runL rv c (askedA c t a) av ov').toArray) ∧ Rs w0 w' ov' (os ++ [⟨code, up a.id, .slice A D C, l⟩]) dv L ∧ Oth ov w w' := by
  obtain ⟨i0, hi, hz0, hz1, hz2⟩ := info_parts infoC
  obtain ⟨oa, oc, eo, _, _⟩ := h.out.cr.shape
  obtain ⟨N, hN⟩ : ∃ N, N = os.length := ⟨_, rfl⟩
  rw [← hN] at eo
  have HEO := Lib.hid eo
  clear eo
  have hl := h.old.size
  have BA : Gr w ((w.alloc (.cells #[rv, .int .i64 c.conf, .int .i64 c.term, .int .i64 c.fail, .int .i64 c.wait, .int .i64 a.st, .int .i64 a.id, .int .i64 a.req, av, .int .i64 a.count, .int .i64 a.timer, .int .i64 a.naks, ov] 80)).alloc (.cells #[.slice none 0 0, .int .i64 0, .int .i64 0, .int .i64 0, .int .i64 0, .int .i64 0, .int .i64 0, .int .i64 0, .slice none 0 0, .int .i64 0, .int .i64 0, .int .i64 0, .slice none 0 0] 80)) := ((Gr.refl w).alloc _).alloc _
  have HR : Hid (Rb w0 ((w.alloc (.cells #[rv, .int .i64 c.conf, .int .i64 c.term, .int .i64 c.fail, .int .i64 c.wait, .int .i64 a.st, .int .i64 a.id, .int .i64 a.req, av, .int .i64 a.count, .int .i64 a.timer, .int .i64 a.naks, ov] 80)).alloc (.cells #[.slice none 0 0, .int .i64 0, .int .i64 0, .int .i64 0, .int .i64 0, .int .i64 0, .int .i64 0, .int .i64 0, .slice none 0 0, .int .i64 0, .int .i64 0, .int .i64 0, .slice none 0 0] 80)) w.heap.size rv av c a ov os dv L) := ⟨heap2_0' _ _ _, hl, h.gr BA⟩
  have HZ : Hid (((w.alloc (.cells #[rv, .int .i64 c.conf, .int .i64 c.term, .int .i64 c.fail, .int .i64 c.wait, .int .i64 a.st, .int .i64 a.id, .int .i64 a.req, av, .int .i64 a.count, .int .i64 a.timer, .int .i64 a.naks, ov] 80)).alloc (.cells #[.slice none 0 0, .int .i64 0, .int .i64 0, .int .i64 0, .int .i64 0, .int .i64 0, .int .i64 0, .int .i64 0, .slice none 0 0, .int .i64 0, .int .i64 0, .int .i64 0, .slice none 0 0] 80)).heap[w.heap.size + 1]? = some (.cells #[.slice none 0 0, .int .i64 0, .int .i64 0, .int .i64 0, .int .i64 0, .int .i64 0, .int .i64 0, .int .i64 0, .slice none 0 0, .int .i64 0, .int .i64 0, .int .i64 0, .slice none 0 0] 80)) := heap2_1' _ _ _
  have HOT : Hid (Oth ov w ((w.alloc (.cells #[rv, .int .i64 c.conf, .int .i64 c.term, .int .i64 c.fail, .int .i64 c.wait, .int .i64 a.st, .int .i64 a.id, .int .i64 a.req, av, .int .i64 a.count, .int .i64 a.timer, .int .i64 a.naks, ov] 80)).alloc (.cells #[.slice none 0 0, .int .i64 0, .int .i64 0, .int .i64 0, .int .i64 0, .int .i64 0, .int .i64 0, .int .i64 0, .slice none 0 0, .int .i64 0, .int .i64 0, .int .i64 0, .slice none 0 0] 80))) := Oth.gr BA
  have HGOT := Lib.hid (hg.below hl BA)
  have HNN := Lib.hid hN
  have H1 := Lib.hid h1
  have H2 := Lib.hid h2
  have e2 : wrap64 (a.id + 1) = a.id + 1 := wrap_in (by omega) (by omega)
  have e3 : (a.id + 1).tmod 256 = up a.id := by rw [Int.tmod_eq_emod_of_nonneg (by omega)]; rfl
  unfold topT at ht
  unfold topW at hc
  have e4 : wrap64 (t + c.wait) = t + c.wait := wrap_in (by omega) (by omega)
  have e5 : wrap64 (a.count - 1) = a.count - 1 := wrap_in (by omega) (by omega)
  have HBY : Hid ((N + 1) * 40 ≤ 140737488355328) := by show _ ≤ _; omega
  have HLW := Lib.hid hl
  obtain ⟨k0, k1, k2, k3, k4, k5, k6, k7, k8, k9, k10, k11, k12⟩ := cells13 HR.out.row
  clear h hg hid hk ht hc hn BA hl h1 h2 hN k0 k1 k2 k3 k4 k5 k7 k8 k9 k10 k11 k12
  go_enter Tryz.func63, Tryz.ntmps63
  go_upto_region 1 with fail
  obtain ⟨wq, hwq⟩ : ∃ x, x = (w.alloc (.cells #[rv, .int .i64 c.conf, .int .i64 c.term, .int .i64 c.fail, .int .i64 c.wait, .int .i64 a.st, .int .i64 a.id, .int .i64 a.req, av, .int .i64 a.count, .int .i64 a.timer, .int .i64 a.naks, ov] 80)).alloc (.cells #[.slice none 0 0, .int .i64 0, .int .i64 0, .int .i64 0, .int .i64 0, .int .i64 0, .int .i64 0, .int .i64 0, .slice none 0 0, .int .i64 0, .int .i64 0, .int .i64 0, .slice none 0 0] 80) := ⟨_, rfl⟩
  rw [← hwq] at HR HZ HOT HGOT k6 ⊢
  clear hwq
  go_wp2_with (refine wpList_store_cell rfl 3 (.tmp 15) (.tmp 13) rfl w.heap.size 6 (.int .i64 (up a.id)) rfl rfl 80 _ HR.out.row sizeI (by simp) rfl ?_)
  intro w1 g1 ho1
  have HR1 : Hid (Rb w0 w1 w.heap.size rv av c { a with id := up a.id } ov os dv L) := HR.out.turn ho1 g1
  have HZ1 := Lib.hid (only_heap HZ.out ho1 (by omega))
  have HOT1 := Lib.hid (HOT.out.only ho1 (Nat.le_refl _))
  have HGOT1 : Hid (Got w1 w0.heap.size (.slice A D C) l) := Got.off HGOT.out HR.out.row (by decide) HLW.out ho1
  have hal : Gr w1 (w1.alloc (.cells #[.int .i64 code, .int .i64 (up a.id), .slice A D C] 32)) := (Gr.refl _).alloc _
  have HAL := Lib.hid hal
  have HRD : Hid (Rd (w1.alloc (.cells #[.int .i64 code, .int .i64 (up a.id), .slice A D C] 32)) 3 (.slice (some ⟨w1.heap.size, 0, none⟩) 1 1) 1 [.int .i64 code, .int .i64 (up a.id), .slice A D C]) := rd_new w1 [.int .i64 code, .int .i64 (up a.id), .slice A D C] 32 1 3 rfl (by decide)
  have HOWN : Hid ((w1.alloc (.cells #[.int .i64 code, .int .i64 (up a.id), .slice A D C] 32)).ownsRow w0.heap.size 32 3 (.slice oa N oc) N (flatC os)) := by
    have := (HR1.out.gr hal).st.out.own
    rw [← HNN.out, HEO.out] at this
    exact this
  have HSZ : Hid (w0.heap.size ≤ (w1.alloc (.cells #[.int .i64 code, .int .i64 (up a.id), .slice A D C] 32)).heap.size) := (HR1.out.gr hal).st.old.size
  have hb := builtC code (up a.id) A D C
  obtain ⟨k0, k1, k2, k3, k4, k5, k6, k7, k8, k9, k10, k11, k12⟩ := cells13 HR1.out.row
  rw [HEO.out] at k12
  clear g1 ho1 HR HZ HOT HGOT hal k6 k0 k1 k2 k3 k4 k5 k7 k8 k9 k10 k11 e2 e3
  obtain ⟨_, _, _, _, _, _, k6, _⟩ := cells13 HR1.out.row
  go_wp2_with (at_builtin; refine wpList_append_gr _ rfl (.tmp 17) (.tmp 24) 35 rfl w0.heap.size 32 i0 _ 3 40 Tryz.underlying35 hi hz0 hz1 hz2 rfl (by decide) _ N _ rfl HOWN.out _ 1 _ rfl HRD.out (one_ctl _ _ rfl) HBY.out (by decide) HSZ.out ?_)
  intro v' w2 ho' hg'
  rw [← HEO.out] at hg'
  have hown := HOWN.out
  rw [← HEO.out] at hown
  have hr1 := HR1.out.gr HAL.out
  have HROW2 : Hid (w2.heap[w.heap.size]? = some (.cells (runL rv c { a with id := up a.id } av ov).toArray 80 (0, 0))) := grown_heap hown hg' hr1.row (by decide)
  have HS2 : Hid (Rs w0 w2 v' (os ++ [⟨code, up a.id, .slice A D C, l⟩]) dv L) := hr1.st.sent (t := ⟨code, up a.id, .slice A D C, l⟩) (Got.below HGOT1.out HR1.out.st.old.size HAL.out) (by rw [← HNN.out]; exact ho') hg'
  have HZ2 := Lib.hid (grown_heap hown hg' (heap_below HZ1.out HAL.out) (by decide))
  have HOT2 := Lib.hid ((HOT1.out.trans (Oth.gr HAL.out)).grown hg')
  have HV1 : Hid (v'.oneCell' = true) := own_one ho'
  clear ho' hg' hown hr1 HR1 HZ1 HOT1 HGOT1 HAL HRD HOWN HSZ hb k6 k12 HBY
  go_wp2_with (refine wpList_store_cell rfl 35 (.tmp 26) (.tmp 25) rfl w.heap.size 12 v' rfl rfl 80 _ HROW2.out sizeCs (by simp [runL]) HV1.out ?_)
  intro w3 g3 ho3
  have HR3 : Hid (Rb w0 w3 w.heap.size rv av c { a with id := up a.id } v' (os ++ [⟨code, up a.id, .slice A D C, l⟩]) dv L) := ⟨g3, HLW.out, HS2.out.off HROW2.out HLW.out ho3⟩
  have HZ3 := Lib.hid (only_heap HZ2.out ho3 (by omega))
  have HOT3 := Lib.hid (HOT2.out.only ho3 (Nat.le_refl _))
  obtain ⟨k0, k1, k2, k3, k4, k5, k6, k7, k8, k9, k10, k11, k12⟩ := cells13 HR3.out.row
  clear g3 ho3 HROW2 HS2 HZ2 HOT2 k0 k1 k2 k3 k5 k6 k7 k8 k10 k11 k12
  obtain ⟨K0, hK0⟩ : ∃ K0, K0 = if 0 < a.count then a.count - 1 else a.count := ⟨_, rfl⟩
  have HK : Hid ((if 0 < a.count then a.count - 1 else a.count) = K0) := hK0.symm
  have HKA : Hid ((0 < a.count → K0 = a.count - 1) ∧ (¬ 0 < a.count → K0 = a.count)) := ⟨fun h => by rw [hK0, if_pos h], fun h => by rw [hK0, if_neg h]⟩
  clear hK0
  go_upto_if 30 with fail
  go_cut [30] (fun _ wx => Hid (Rb w0 wx w.heap.size rv av c { a with id := up a.id, count := K0 } v' (os ++ [⟨code, up a.id, .slice A D C, l⟩]) dv L) ∧ Hid (wx.heap[w.heap.size + 1]? = some (.cells #[.slice none 0 0, .int .i64 0, .int .i64 0, .int .i64 0, .int .i64 0, .int .i64 0, .int .i64 0, .int .i64 0, .slice none 0 0, .int .i64 0, .int .i64 0, .int .i64 0, .slice none 0 0] 80)) ∧ Hid (Oth ov w wx))
  case first =>
    by_cases hcn : 0 < a.count
    · go_wp2_with (refine wpList_store_cell rfl 3 (.tmp 36) (.tmp 34) rfl w.heap.size 9 (.int .i64 (a.count - 1)) rfl ?q1 80 _ HR3.out.row sizeI (by simp) rfl ?_)
      intro w4 g4 ho4
      have hr4 : Rb w0 w4 w.heap.size rv av c { a with id := up a.id, count := K0 } v' (os ++ [⟨code, up a.id, .slice A D C, l⟩]) dv L := HR3.out.turn ho4 (by rw [HKA.out.1 hcn]; exact g4)
      have hz4 := only_heap HZ3.out ho4 (by omega)
      have hot4 := HOT3.out.only ho4 (Nat.le_refl _)
      go_wp2_with fail
      go_meet
      exact ⟨hr4, hz4, hot4⟩
    · go_wp2_with fail
      go_meet
      refine ⟨?_, HZ3, HOT3⟩
      show Rb _ _ _ _ _ _ _ _ _ _ _
      rw [HKA.out.2 hcn]
      exact HR3.out
  case rest =>
    obtain ⟨HR4, HZ4, HOT4⟩ := hcut
    obtain ⟨w4, hw4⟩ : ∃ x, x = wc := ⟨_, rfl⟩
    subst hw4
    clear HR3 HZ3 HOT3 k9 k4
    obtain ⟨_, _, _, _, k4, _⟩ := cells13 HR4.out.row
    go_wp2_with (refine wpList_store_cell rfl 3 (.tmp 43) (.tmp 41) rfl w.heap.size 10 (.int .i64 (t + c.wait)) rfl ?q2 80 _ HR4.out.row sizeI (by simp) rfl ?_)
    intro w5 g5 ho5
    have HR5 : Hid (Rb w0 w5 w.heap.size rv av c (askedA c t a) v' (os ++ [⟨code, up a.id, .slice A D C, l⟩]) dv L) := by
      have := HR4.out.turn (a' := askedA c t a) ho5 (by unfold askedA; rw [HK.out]; exact g5)
      exact this
    have HZ5 := Lib.hid (only_heap HZ4.out ho5 (by omega))
    have HOT5 := Lib.hid (HOT4.out.only ho5 (Nat.le_refl _))
    clear g5 ho5 HR4 HZ4 HOT4 k4
    obtain ⟨k0, k1, k2, k3, k4, k5, k6, k7, k8, k9, k10, k11, k12⟩ := cells13 HR5.out.row
    go_wp2_with (refine wpList_store_whole rfl 80 (.tmp 8) (.tmp 44) rfl (w.heap.size + 1) (runL rv c (askedA c t a) av v') rfl rfl 80 _ HZ5.out sizeRun rfl (runL_one H1.out H2.out HV1.out) ?_)
    intro w6 g6 ho6
    have HZ6 := Lib.hid g6
    have HS6 := Lib.hid (HR5.out.st.off HZ5.out (Nat.le_trans HR5.out.low (Nat.le_succ _)) ho6)
    have HOT6 := Lib.hid (HOT5.out.only ho6 (Nat.le_succ _))
    clear g6 ho6 HR5 HZ5 HOT5 k0 k1 k2 k3 k4 k5 k6 k7 k8 k9 k10 k11 k12
    go_wp2_with fail
    refine bodyPost_ret (v := .agg (runL rv c (askedA c t a) av v').toArray) (results_cell_row (P := Tryz.prog) (fn := Tryz.f63) rfl _ _ (w.heap.size + 1) 80 _ (0, 0) _ rfl HZ6.out Tryz.underlying80 rfl sizeRun) rfl ?_
    exact ⟨v', rfl, HS6.out, HOT6.out⟩
end Go.Proofs.YtclplbapedmihaaGreat.Au
namespace Go.Proofs.YtclplbapedmihaaGreat.Au
set_option maxRecDepth 4000
open Go.RowKit O Ng
open Go.Proofs.YtclplbapedmihaaGreat.Fs (AO AO.ar AO.nil AR)
set_option linter.unusedVariables false
set_option linter.unusedSimpArgs false
/-- What an action is done with. -/
structure AcIn (w0 : World) (c : Cfg) (a : Aut) (aa : Option Addr) (an ac : Nat) (ts : List Tg) (L : List Int) (os : List Ct) (qa : Option Addr) (qn qk : Nat) (ql : List UInt8) (na : Option Addr) (nn nk : Nat) (nl : List UInt8) (t : Int) : Prop where
  ask : TR w0 (.slice aa an ac) an ts
  asks : plain ts = a.ask
  few : an ≤ 1000 ∧ ∀ x ∈ ts, x.l.length ≤ 1000
  q : Bs w0 (.slice qa qn qk) ql
  qlen : ql.length = qn ∧ qn ≤ 1500
  n : Bs w0 (.slice na nn nk) nl
  id : 0 ≤ a.id ∧ a.id ≤ 255
  count : 0 ≤ a.count ∧ a.count ≤ 1000
  naks : 0 ≤ a.naks ∧ a.naks ≤ 1000
  tick : 0 ≤ t ∧ t ≤ topT
  wait : 1 ≤ c.wait ∧ c.wait ≤ topW
  acts : L.length ≤ 100
  outs : os.length ≤ 900
/-- What an action tells. -/
def ActR (rv : Value) (c : Cfg) (av : Value) (dv : Value) (L : List Int) (r : Rn) (w0 : World) (ov0 : Value) (w : World) (e : Ending) (w' : World) : Prop := ∃ ov os, e = .returned (.agg (runL rv c r.a av ov).toArray) ∧ Rs w0 w' ov os dv L ∧ plainC os = r.out ∧ Oth ov0 w w'
set_option maxRecDepth 100000 in
set_option maxHeartbeats 8000000 in
theorem ract_1 (rv : Value) (h1 : rv.oneCell' = true) (c : Cfg) (a : Aut) (aa : Option Addr) (an ac : Nat) (ts : List Tg) (ov : Value) (os : List Ct) (dv : Value) (L : List Int) (qc qi : Int) (qa : Option Addr) (qn qk : Nat) (ql : List UInt8) (nc ni : Int) (na : Option Addr) (nn nk : Nat) (nl : List UInt8) (t : Int) (w0 w : World) (h : Rs w0 w ov os dv L) (I : AcIn w0 c a aa an ac ts L os qa qn qk ql na nn nk nl t) :
    Calls Tryz.prog 34 #[.agg #[rv, .int .i64 c.conf, .int .i64 c.term, .int .i64 c.fail, .int .i64 c.wait, .int .i64 a.st, .int .i64 a.id, .int .i64 a.req, .slice aa an ac, .int .i64 a.count, .int .i64 a.timer, .int .i64 a.naks, ov], .int .i64 1, dv, .agg #[.int .i64 qc, .int .i64 qi, .slice qa qn qk], .agg #[.int .i64 nc, .int .i64 ni, .slice na nn nk], .int .i64 t] w (ActR rv c (.slice aa an ac) dv L (act c L (⟨qc, qi, ql⟩ : QC) (⟨nc, ni, nl⟩ : QC) t ⟨a, plainC os⟩ 1) w0 ov w) := by
  obtain ⟨i0, hi, hz0, hz1, hz2⟩ := info_parts infoC
  obtain ⟨oa, oc, eo, _, _⟩ := h.out.cr.shape
  obtain ⟨N, hN⟩ : ∃ N, N = os.length := ⟨_, rfl⟩
  rw [← hN] at eo
  have HEO := Lib.hid eo
  have HNN := Lib.hid hN
  have HBY : Hid ((N + 1) * 40 ≤ 140737488355328) := by show _ ≤ _; have := I.outs; omega
  have hl := h.old.size
  have HLW := Lib.hid hl
  have HI := Lib.hid I
  have HOLT : Hid (∀ k, ov.ownBlock = some k → k < w.heap.size) := fun k hk => own_lt h.out.own hk
  have BA : Gr w ((((w.alloc (.cells #[rv, .int .i64 c.conf, .int .i64 c.term, .int .i64 c.fail, .int .i64 c.wait, .int .i64 a.st, .int .i64 a.id, .int .i64 a.req, .slice aa an ac, .int .i64 a.count, .int .i64 a.timer, .int .i64 a.naks, ov] 80)).alloc (.cells #[.int .i64 qc, .int .i64 qi, .slice qa qn qk] 32)).alloc (.cells #[.int .i64 nc, .int .i64 ni, .slice na nn nk] 32)).alloc (.cells #[.slice none 0 0, .int .i64 0, .int .i64 0, .int .i64 0, .int .i64 0, .int .i64 0, .int .i64 0, .int .i64 0, .slice none 0 0, .int .i64 0, .int .i64 0, .int .i64 0, .slice none 0 0] 80)) := ((((Gr.refl w).alloc _).alloc _).alloc _).alloc _
  obtain ⟨g0, g1, g2, g3⟩ := heap4 w (.cells #[rv, .int .i64 c.conf, .int .i64 c.term, .int .i64 c.fail, .int .i64 c.wait, .int .i64 a.st, .int .i64 a.id, .int .i64 a.req, .slice aa an ac, .int .i64 a.count, .int .i64 a.timer, .int .i64 a.naks, ov] 80) (.cells #[.int .i64 qc, .int .i64 qi, .slice qa qn qk] 32) (.cells #[.int .i64 nc, .int .i64 ni, .slice na nn nk] 32) (.cells #[.slice none 0 0, .int .i64 0, .int .i64 0, .int .i64 0, .int .i64 0, .int .i64 0, .int .i64 0, .int .i64 0, .slice none 0 0, .int .i64 0, .int .i64 0, .int .i64 0, .slice none 0 0] 80)
  have HR0 : Hid (Rb w0 ((((w.alloc (.cells #[rv, .int .i64 c.conf, .int .i64 c.term, .int .i64 c.fail, .int .i64 c.wait, .int .i64 a.st, .int .i64 a.id, .int .i64 a.req, .slice aa an ac, .int .i64 a.count, .int .i64 a.timer, .int .i64 a.naks, ov] 80)).alloc (.cells #[.int .i64 qc, .int .i64 qi, .slice qa qn qk] 32)).alloc (.cells #[.int .i64 nc, .int .i64 ni, .slice na nn nk] 32)).alloc (.cells #[.slice none 0 0, .int .i64 0, .int .i64 0, .int .i64 0, .int .i64 0, .int .i64 0, .int .i64 0, .int .i64 0, .slice none 0 0, .int .i64 0, .int .i64 0, .int .i64 0, .slice none 0 0] 80)) w.heap.size rv (.slice aa an ac) c a ov os dv L) := ⟨g0, hl, h.gr BA⟩
  have HQ0 := Lib.hid g1
  have HO0 : Hid (Oth ov w ((((w.alloc (.cells #[rv, .int .i64 c.conf, .int .i64 c.term, .int .i64 c.fail, .int .i64 c.wait, .int .i64 a.st, .int .i64 a.id, .int .i64 a.req, .slice aa an ac, .int .i64 a.count, .int .i64 a.timer, .int .i64 a.naks, ov] 80)).alloc (.cells #[.int .i64 qc, .int .i64 qi, .slice qa qn qk] 32)).alloc (.cells #[.int .i64 nc, .int .i64 ni, .slice na nn nk] 32)).alloc (.cells #[.slice none 0 0, .int .i64 0, .int .i64 0, .int .i64 0, .int .i64 0, .int .i64 0, .int .i64 0, .int .i64 0, .slice none 0 0, .int .i64 0, .int .i64 0, .int .i64 0, .slice none 0 0] 80))) := Oth.gr BA
  have HN0 := Lib.hid g2
  have HZ0 := Lib.hid g3
  have H1 := Lib.hid h1
  clear eo hN h hl I BA g0 g1 g2 g3 h1
  have HV0 : Hid (ov.oneCell' = true) := by show _ = _; rw [HEO.out]; rfl
  have HX : Hid ((act c L (⟨qc, qi, ql⟩ : QC) (⟨nc, ni, nl⟩ : QC) t ⟨a, plainC os⟩ 1) = ⟨a, plainC os⟩) := rfl
  go_enter Tryz.func34, Tryz.ntmps34
  go_upto_region 1 with fail
  obtain ⟨w1, hw1⟩ : ∃ x, x = ((((w.alloc (.cells #[rv, .int .i64 c.conf, .int .i64 c.term, .int .i64 c.fail, .int .i64 c.wait, .int .i64 a.st, .int .i64 a.id, .int .i64 a.req, .slice aa an ac, .int .i64 a.count, .int .i64 a.timer, .int .i64 a.naks, ov] 80)).alloc (.cells #[.int .i64 qc, .int .i64 qi, .slice qa qn qk] 32)).alloc (.cells #[.int .i64 nc, .int .i64 ni, .slice na nn nk] 32)).alloc (.cells #[.slice none 0 0, .int .i64 0, .int .i64 0, .int .i64 0, .int .i64 0, .int .i64 0, .int .i64 0, .int .i64 0, .slice none 0 0, .int .i64 0, .int .i64 0, .int .i64 0, .slice none 0 0] 80)) := ⟨_, rfl⟩
  rw [← hw1] at HR0 HQ0 HN0 HZ0 HO0 ⊢
  clear hw1
  obtain ⟨k0, k1, k2, k3, k4, k5, k6, k7, k8, k9, k10, k11, k12⟩ := cells13 HR0.out.row
  go_wp2_with (refine wpList_store_whole rfl 80 (.tmp 12) (.tmp 142) rfl (w.heap.size + 3) (runL rv c a (.slice aa an ac) ov) rfl rfl 80 _ HZ0.out sizeRun rfl (runL_one H1.out rfl HV0.out) ?_)
  intro wz gz hoz
  have HZZ := Lib.hid gz
  have HSS := Lib.hid (HR0.out.st.off HZ0.out (Nat.le_trans HLW.out (Nat.le_add_right _ 3)) hoz)
  have HOO := Lib.hid (HO0.out.only hoz (Nat.le_add_right _ 3))
  clear gz hoz k0 k1 k2 k3 k4 k5 k6 k7 k8 k9 k10 k11 k12
  go_wp2_with fail
  refine bodyPost_ret (v := .agg (runL rv c a (.slice aa an ac) ov).toArray) (results_cell_row (P := Tryz.prog) (fn := Tryz.f34) rfl _ _ (w.heap.size + 3) 80 _ (0, 0) _ rfl HZZ.out Tryz.underlying80 rfl sizeRun) rfl ?_
  refine ⟨ov, os, ?_, HSS.out, ?_, HOO.out⟩
  · rw [HX.out]
  · rw [HX.out]
    try (first | rfl | (rw [plainC_append]; rfl))
set_option maxRecDepth 100000 in
set_option maxHeartbeats 8000000 in
theorem ract_2 (rv : Value) (h1 : rv.oneCell' = true) (c : Cfg) (a : Aut) (aa : Option Addr) (an ac : Nat) (ts : List Tg) (ov : Value) (os : List Ct) (dv : Value) (L : List Int) (qc qi : Int) (qa : Option Addr) (qn qk : Nat) (ql : List UInt8) (nc ni : Int) (na : Option Addr) (nn nk : Nat) (nl : List UInt8) (t : Int) (w0 w : World) (h : Rs w0 w ov os dv L) (I : AcIn w0 c a aa an ac ts L os qa qn qk ql na nn nk nl t) :
    Calls Tryz.prog 34 #[.agg #[rv, .int .i64 c.conf, .int .i64 c.term, .int .i64 c.fail, .int .i64 c.wait, .int .i64 a.st, .int .i64 a.id, .int .i64 a.req, .slice aa an ac, .int .i64 a.count, .int .i64 a.timer, .int .i64 a.naks, ov], .int .i64 2, dv, .agg #[.int .i64 qc, .int .i64 qi, .slice qa qn qk], .agg #[.int .i64 nc, .int .i64 ni, .slice na nn nk], .int .i64 t] w (ActR rv c (.slice aa an ac) dv L (act c L (⟨qc, qi, ql⟩ : QC) (⟨nc, ni, nl⟩ : QC) t ⟨a, plainC os⟩ 2) w0 ov w) := by
  obtain ⟨i0, hi, hz0, hz1, hz2⟩ := info_parts infoC
  obtain ⟨oa, oc, eo, _, _⟩ := h.out.cr.shape
  obtain ⟨N, hN⟩ : ∃ N, N = os.length := ⟨_, rfl⟩
  rw [← hN] at eo
  have HEO := Lib.hid eo
  have HNN := Lib.hid hN
  have HBY : Hid ((N + 1) * 40 ≤ 140737488355328) := by show _ ≤ _; have := I.outs; omega
  have hl := h.old.size
  have HLW := Lib.hid hl
  have HI := Lib.hid I
  have HOLT : Hid (∀ k, ov.ownBlock = some k → k < w.heap.size) := fun k hk => own_lt h.out.own hk
  have BA : Gr w ((((w.alloc (.cells #[rv, .int .i64 c.conf, .int .i64 c.term, .int .i64 c.fail, .int .i64 c.wait, .int .i64 a.st, .int .i64 a.id, .int .i64 a.req, .slice aa an ac, .int .i64 a.count, .int .i64 a.timer, .int .i64 a.naks, ov] 80)).alloc (.cells #[.int .i64 qc, .int .i64 qi, .slice qa qn qk] 32)).alloc (.cells #[.int .i64 nc, .int .i64 ni, .slice na nn nk] 32)).alloc (.cells #[.slice none 0 0, .int .i64 0, .int .i64 0, .int .i64 0, .int .i64 0, .int .i64 0, .int .i64 0, .int .i64 0, .slice none 0 0, .int .i64 0, .int .i64 0, .int .i64 0, .slice none 0 0] 80)) := ((((Gr.refl w).alloc _).alloc _).alloc _).alloc _
  obtain ⟨g0, g1, g2, g3⟩ := heap4 w (.cells #[rv, .int .i64 c.conf, .int .i64 c.term, .int .i64 c.fail, .int .i64 c.wait, .int .i64 a.st, .int .i64 a.id, .int .i64 a.req, .slice aa an ac, .int .i64 a.count, .int .i64 a.timer, .int .i64 a.naks, ov] 80) (.cells #[.int .i64 qc, .int .i64 qi, .slice qa qn qk] 32) (.cells #[.int .i64 nc, .int .i64 ni, .slice na nn nk] 32) (.cells #[.slice none 0 0, .int .i64 0, .int .i64 0, .int .i64 0, .int .i64 0, .int .i64 0, .int .i64 0, .int .i64 0, .slice none 0 0, .int .i64 0, .int .i64 0, .int .i64 0, .slice none 0 0] 80)
  have HR0 : Hid (Rb w0 ((((w.alloc (.cells #[rv, .int .i64 c.conf, .int .i64 c.term, .int .i64 c.fail, .int .i64 c.wait, .int .i64 a.st, .int .i64 a.id, .int .i64 a.req, .slice aa an ac, .int .i64 a.count, .int .i64 a.timer, .int .i64 a.naks, ov] 80)).alloc (.cells #[.int .i64 qc, .int .i64 qi, .slice qa qn qk] 32)).alloc (.cells #[.int .i64 nc, .int .i64 ni, .slice na nn nk] 32)).alloc (.cells #[.slice none 0 0, .int .i64 0, .int .i64 0, .int .i64 0, .int .i64 0, .int .i64 0, .int .i64 0, .int .i64 0, .slice none 0 0, .int .i64 0, .int .i64 0, .int .i64 0, .slice none 0 0] 80)) w.heap.size rv (.slice aa an ac) c a ov os dv L) := ⟨g0, hl, h.gr BA⟩
  have HQ0 := Lib.hid g1
  have HO0 : Hid (Oth ov w ((((w.alloc (.cells #[rv, .int .i64 c.conf, .int .i64 c.term, .int .i64 c.fail, .int .i64 c.wait, .int .i64 a.st, .int .i64 a.id, .int .i64 a.req, .slice aa an ac, .int .i64 a.count, .int .i64 a.timer, .int .i64 a.naks, ov] 80)).alloc (.cells #[.int .i64 qc, .int .i64 qi, .slice qa qn qk] 32)).alloc (.cells #[.int .i64 nc, .int .i64 ni, .slice na nn nk] 32)).alloc (.cells #[.slice none 0 0, .int .i64 0, .int .i64 0, .int .i64 0, .int .i64 0, .int .i64 0, .int .i64 0, .int .i64 0, .slice none 0 0, .int .i64 0, .int .i64 0, .int .i64 0, .slice none 0 0] 80))) := Oth.gr BA
  have HN0 := Lib.hid g2
  have HZ0 := Lib.hid g3
  have H1 := Lib.hid h1
  clear eo hN h hl I BA g0 g1 g2 g3 h1
  have HV0 : Hid (ov.oneCell' = true) := by show _ = _; rw [HEO.out]; rfl
  have HX : Hid ((act c L (⟨qc, qi, ql⟩ : QC) (⟨nc, ni, nl⟩ : QC) t ⟨a, plainC os⟩ 2) = ⟨a, plainC os⟩) := rfl
  go_enter Tryz.func34, Tryz.ntmps34
  go_upto_region 1 with fail
  obtain ⟨w1, hw1⟩ : ∃ x, x = ((((w.alloc (.cells #[rv, .int .i64 c.conf, .int .i64 c.term, .int .i64 c.fail, .int .i64 c.wait, .int .i64 a.st, .int .i64 a.id, .int .i64 a.req, .slice aa an ac, .int .i64 a.count, .int .i64 a.timer, .int .i64 a.naks, ov] 80)).alloc (.cells #[.int .i64 qc, .int .i64 qi, .slice qa qn qk] 32)).alloc (.cells #[.int .i64 nc, .int .i64 ni, .slice na nn nk] 32)).alloc (.cells #[.slice none 0 0, .int .i64 0, .int .i64 0, .int .i64 0, .int .i64 0, .int .i64 0, .int .i64 0, .int .i64 0, .slice none 0 0, .int .i64 0, .int .i64 0, .int .i64 0, .slice none 0 0] 80)) := ⟨_, rfl⟩
  rw [← hw1] at HR0 HQ0 HN0 HZ0 HO0 ⊢
  clear hw1
  obtain ⟨k0, k1, k2, k3, k4, k5, k6, k7, k8, k9, k10, k11, k12⟩ := cells13 HR0.out.row
  go_wp2_with (refine wpList_store_whole rfl 80 (.tmp 12) (.tmp 142) rfl (w.heap.size + 3) (runL rv c a (.slice aa an ac) ov) rfl rfl 80 _ HZ0.out sizeRun rfl (runL_one H1.out rfl HV0.out) ?_)
  intro wz gz hoz
  have HZZ := Lib.hid gz
  have HSS := Lib.hid (HR0.out.st.off HZ0.out (Nat.le_trans HLW.out (Nat.le_add_right _ 3)) hoz)
  have HOO := Lib.hid (HO0.out.only hoz (Nat.le_add_right _ 3))
  clear gz hoz k0 k1 k2 k3 k4 k5 k6 k7 k8 k9 k10 k11 k12
  go_wp2_with fail
  refine bodyPost_ret (v := .agg (runL rv c a (.slice aa an ac) ov).toArray) (results_cell_row (P := Tryz.prog) (fn := Tryz.f34) rfl _ _ (w.heap.size + 3) 80 _ (0, 0) _ rfl HZZ.out Tryz.underlying80 rfl sizeRun) rfl ?_
  refine ⟨ov, os, ?_, HSS.out, ?_, HOO.out⟩
  · rw [HX.out]
  · rw [HX.out]
    try (first | rfl | (rw [plainC_append]; rfl))
set_option maxRecDepth 100000 in
set_option maxHeartbeats 8000000 in
theorem ract_3 (rv : Value) (h1 : rv.oneCell' = true) (c : Cfg) (a : Aut) (aa : Option Addr) (an ac : Nat) (ts : List Tg) (ov : Value) (os : List Ct) (dv : Value) (L : List Int) (qc qi : Int) (qa : Option Addr) (qn qk : Nat) (ql : List UInt8) (nc ni : Int) (na : Option Addr) (nn nk : Nat) (nl : List UInt8) (t : Int) (w0 w : World) (h : Rs w0 w ov os dv L) (I : AcIn w0 c a aa an ac ts L os qa qn qk ql na nn nk nl t) :
    Calls Tryz.prog 34 #[.agg #[rv, .int .i64 c.conf, .int .i64 c.term, .int .i64 c.fail, .int .i64 c.wait, .int .i64 a.st, .int .i64 a.id, .int .i64 a.req, .slice aa an ac, .int .i64 a.count, .int .i64 a.timer, .int .i64 a.naks, ov], .int .i64 3, dv, .agg #[.int .i64 qc, .int .i64 qi, .slice qa qn qk], .agg #[.int .i64 nc, .int .i64 ni, .slice na nn nk], .int .i64 t] w (ActR rv c (.slice aa an ac) dv L (act c L (⟨qc, qi, ql⟩ : QC) (⟨nc, ni, nl⟩ : QC) t ⟨a, plainC os⟩ 3) w0 ov w) := by
  obtain ⟨i0, hi, hz0, hz1, hz2⟩ := info_parts infoC
  obtain ⟨oa, oc, eo, _, _⟩ := h.out.cr.shape
  obtain ⟨N, hN⟩ : ∃ N, N = os.length := ⟨_, rfl⟩
  rw [← hN] at eo
  have HEO := Lib.hid eo
  have HNN := Lib.hid hN
  have HBY : Hid ((N + 1) * 40 ≤ 140737488355328) := by show _ ≤ _; have := I.outs; omega
  have hl := h.old.size
  have HLW := Lib.hid hl
  have HI := Lib.hid I
  have HOLT : Hid (∀ k, ov.ownBlock = some k → k < w.heap.size) := fun k hk => own_lt h.out.own hk
  have BA : Gr w ((((w.alloc (.cells #[rv, .int .i64 c.conf, .int .i64 c.term, .int .i64 c.fail, .int .i64 c.wait, .int .i64 a.st, .int .i64 a.id, .int .i64 a.req, .slice aa an ac, .int .i64 a.count, .int .i64 a.timer, .int .i64 a.naks, ov] 80)).alloc (.cells #[.int .i64 qc, .int .i64 qi, .slice qa qn qk] 32)).alloc (.cells #[.int .i64 nc, .int .i64 ni, .slice na nn nk] 32)).alloc (.cells #[.slice none 0 0, .int .i64 0, .int .i64 0, .int .i64 0, .int .i64 0, .int .i64 0, .int .i64 0, .int .i64 0, .slice none 0 0, .int .i64 0, .int .i64 0, .int .i64 0, .slice none 0 0] 80)) := ((((Gr.refl w).alloc _).alloc _).alloc _).alloc _
  obtain ⟨g0, g1, g2, g3⟩ := heap4 w (.cells #[rv, .int .i64 c.conf, .int .i64 c.term, .int .i64 c.fail, .int .i64 c.wait, .int .i64 a.st, .int .i64 a.id, .int .i64 a.req, .slice aa an ac, .int .i64 a.count, .int .i64 a.timer, .int .i64 a.naks, ov] 80) (.cells #[.int .i64 qc, .int .i64 qi, .slice qa qn qk] 32) (.cells #[.int .i64 nc, .int .i64 ni, .slice na nn nk] 32) (.cells #[.slice none 0 0, .int .i64 0, .int .i64 0, .int .i64 0, .int .i64 0, .int .i64 0, .int .i64 0, .int .i64 0, .slice none 0 0, .int .i64 0, .int .i64 0, .int .i64 0, .slice none 0 0] 80)
  have HR0 : Hid (Rb w0 ((((w.alloc (.cells #[rv, .int .i64 c.conf, .int .i64 c.term, .int .i64 c.fail, .int .i64 c.wait, .int .i64 a.st, .int .i64 a.id, .int .i64 a.req, .slice aa an ac, .int .i64 a.count, .int .i64 a.timer, .int .i64 a.naks, ov] 80)).alloc (.cells #[.int .i64 qc, .int .i64 qi, .slice qa qn qk] 32)).alloc (.cells #[.int .i64 nc, .int .i64 ni, .slice na nn nk] 32)).alloc (.cells #[.slice none 0 0, .int .i64 0, .int .i64 0, .int .i64 0, .int .i64 0, .int .i64 0, .int .i64 0, .int .i64 0, .slice none 0 0, .int .i64 0, .int .i64 0, .int .i64 0, .slice none 0 0] 80)) w.heap.size rv (.slice aa an ac) c a ov os dv L) := ⟨g0, hl, h.gr BA⟩
  have HQ0 := Lib.hid g1
  have HO0 : Hid (Oth ov w ((((w.alloc (.cells #[rv, .int .i64 c.conf, .int .i64 c.term, .int .i64 c.fail, .int .i64 c.wait, .int .i64 a.st, .int .i64 a.id, .int .i64 a.req, .slice aa an ac, .int .i64 a.count, .int .i64 a.timer, .int .i64 a.naks, ov] 80)).alloc (.cells #[.int .i64 qc, .int .i64 qi, .slice qa qn qk] 32)).alloc (.cells #[.int .i64 nc, .int .i64 ni, .slice na nn nk] 32)).alloc (.cells #[.slice none 0 0, .int .i64 0, .int .i64 0, .int .i64 0, .int .i64 0, .int .i64 0, .int .i64 0, .int .i64 0, .slice none 0 0, .int .i64 0, .int .i64 0, .int .i64 0, .slice none 0 0] 80))) := Oth.gr BA
  have HN0 := Lib.hid g2
  have HZ0 := Lib.hid g3
  have H1 := Lib.hid h1
  clear eo hN h hl I BA g0 g1 g2 g3 h1
  have HV0 : Hid (ov.oneCell' = true) := by show _ = _; rw [HEO.out]; rfl
  have HX : Hid ((act c L (⟨qc, qi, ql⟩ : QC) (⟨nc, ni, nl⟩ : QC) t ⟨a, plainC os⟩ 3) = ⟨a, plainC os⟩) := rfl
  go_enter Tryz.func34, Tryz.ntmps34
  go_upto_region 1 with fail
  obtain ⟨w1, hw1⟩ : ∃ x, x = ((((w.alloc (.cells #[rv, .int .i64 c.conf, .int .i64 c.term, .int .i64 c.fail, .int .i64 c.wait, .int .i64 a.st, .int .i64 a.id, .int .i64 a.req, .slice aa an ac, .int .i64 a.count, .int .i64 a.timer, .int .i64 a.naks, ov] 80)).alloc (.cells #[.int .i64 qc, .int .i64 qi, .slice qa qn qk] 32)).alloc (.cells #[.int .i64 nc, .int .i64 ni, .slice na nn nk] 32)).alloc (.cells #[.slice none 0 0, .int .i64 0, .int .i64 0, .int .i64 0, .int .i64 0, .int .i64 0, .int .i64 0, .int .i64 0, .slice none 0 0, .int .i64 0, .int .i64 0, .int .i64 0, .slice none 0 0] 80)) := ⟨_, rfl⟩
  rw [← hw1] at HR0 HQ0 HN0 HZ0 HO0 ⊢
  clear hw1
  obtain ⟨k0, k1, k2, k3, k4, k5, k6, k7, k8, k9, k10, k11, k12⟩ := cells13 HR0.out.row
  go_wp2_with (refine wpList_store_whole rfl 80 (.tmp 12) (.tmp 142) rfl (w.heap.size + 3) (runL rv c a (.slice aa an ac) ov) rfl rfl 80 _ HZ0.out sizeRun rfl (runL_one H1.out rfl HV0.out) ?_)
  intro wz gz hoz
  have HZZ := Lib.hid gz
  have HSS := Lib.hid (HR0.out.st.off HZ0.out (Nat.le_trans HLW.out (Nat.le_add_right _ 3)) hoz)
  have HOO := Lib.hid (HO0.out.only hoz (Nat.le_add_right _ 3))
  clear gz hoz k0 k1 k2 k3 k4 k5 k6 k7 k8 k9 k10 k11 k12
  go_wp2_with fail
  refine bodyPost_ret (v := .agg (runL rv c a (.slice aa an ac) ov).toArray) (results_cell_row (P := Tryz.prog) (fn := Tryz.f34) rfl _ _ (w.heap.size + 3) 80 _ (0, 0) _ rfl HZZ.out Tryz.underlying80 rfl sizeRun) rfl ?_
  refine ⟨ov, os, ?_, HSS.out, ?_, HOO.out⟩
  · rw [HX.out]
  · rw [HX.out]
    try (first | rfl | (rw [plainC_append]; rfl))
set_option maxRecDepth 100000 in
set_option maxHeartbeats 8000000 in
theorem ract_4 (rv : Value) (h1 : rv.oneCell' = true) (c : Cfg) (a : Aut) (aa : Option Addr) (an ac : Nat) (ts : List Tg) (ov : Value) (os : List Ct) (dv : Value) (L : List Int) (qc qi : Int) (qa : Option Addr) (qn qk : Nat) (ql : List UInt8) (nc ni : Int) (na : Option Addr) (nn nk : Nat) (nl : List UInt8) (t : Int) (w0 w : World) (h : Rs w0 w ov os dv L) (I : AcIn w0 c a aa an ac ts L os qa qn qk ql na nn nk nl t) :
    Calls Tryz.prog 34 #[.agg #[rv, .int .i64 c.conf, .int .i64 c.term, .int .i64 c.fail, .int .i64 c.wait, .int .i64 a.st, .int .i64 a.id, .int .i64 a.req, .slice aa an ac, .int .i64 a.count, .int .i64 a.timer, .int .i64 a.naks, ov], .int .i64 4, dv, .agg #[.int .i64 qc, .int .i64 qi, .slice qa qn qk], .agg #[.int .i64 nc, .int .i64 ni, .slice na nn nk], .int .i64 t] w (ActR rv c (.slice aa an ac) dv L (act c L (⟨qc, qi, ql⟩ : QC) (⟨nc, ni, nl⟩ : QC) t ⟨a, plainC os⟩ 4) w0 ov w) := by
  obtain ⟨i0, hi, hz0, hz1, hz2⟩ := info_parts infoC
  obtain ⟨oa, oc, eo, _, _⟩ := h.out.cr.shape
  obtain ⟨N, hN⟩ : ∃ N, N = os.length := ⟨_, rfl⟩
  rw [← hN] at eo
  have HEO := Lib.hid eo
  have HNN := Lib.hid hN
  have HBY : Hid ((N + 1) * 40 ≤ 140737488355328) := by show _ ≤ _; have := I.outs; omega
  have hl := h.old.size
  have HLW := Lib.hid hl
  have HI := Lib.hid I
  have HOLT : Hid (∀ k, ov.ownBlock = some k → k < w.heap.size) := fun k hk => own_lt h.out.own hk
  have BA : Gr w ((((w.alloc (.cells #[rv, .int .i64 c.conf, .int .i64 c.term, .int .i64 c.fail, .int .i64 c.wait, .int .i64 a.st, .int .i64 a.id, .int .i64 a.req, .slice aa an ac, .int .i64 a.count, .int .i64 a.timer, .int .i64 a.naks, ov] 80)).alloc (.cells #[.int .i64 qc, .int .i64 qi, .slice qa qn qk] 32)).alloc (.cells #[.int .i64 nc, .int .i64 ni, .slice na nn nk] 32)).alloc (.cells #[.slice none 0 0, .int .i64 0, .int .i64 0, .int .i64 0, .int .i64 0, .int .i64 0, .int .i64 0, .int .i64 0, .slice none 0 0, .int .i64 0, .int .i64 0, .int .i64 0, .slice none 0 0] 80)) := ((((Gr.refl w).alloc _).alloc _).alloc _).alloc _
  obtain ⟨g0, g1, g2, g3⟩ := heap4 w (.cells #[rv, .int .i64 c.conf, .int .i64 c.term, .int .i64 c.fail, .int .i64 c.wait, .int .i64 a.st, .int .i64 a.id, .int .i64 a.req, .slice aa an ac, .int .i64 a.count, .int .i64 a.timer, .int .i64 a.naks, ov] 80) (.cells #[.int .i64 qc, .int .i64 qi, .slice qa qn qk] 32) (.cells #[.int .i64 nc, .int .i64 ni, .slice na nn nk] 32) (.cells #[.slice none 0 0, .int .i64 0, .int .i64 0, .int .i64 0, .int .i64 0, .int .i64 0, .int .i64 0, .int .i64 0, .slice none 0 0, .int .i64 0, .int .i64 0, .int .i64 0, .slice none 0 0] 80)
  have HR0 : Hid (Rb w0 ((((w.alloc (.cells #[rv, .int .i64 c.conf, .int .i64 c.term, .int .i64 c.fail, .int .i64 c.wait, .int .i64 a.st, .int .i64 a.id, .int .i64 a.req, .slice aa an ac, .int .i64 a.count, .int .i64 a.timer, .int .i64 a.naks, ov] 80)).alloc (.cells #[.int .i64 qc, .int .i64 qi, .slice qa qn qk] 32)).alloc (.cells #[.int .i64 nc, .int .i64 ni, .slice na nn nk] 32)).alloc (.cells #[.slice none 0 0, .int .i64 0, .int .i64 0, .int .i64 0, .int .i64 0, .int .i64 0, .int .i64 0, .int .i64 0, .slice none 0 0, .int .i64 0, .int .i64 0, .int .i64 0, .slice none 0 0] 80)) w.heap.size rv (.slice aa an ac) c a ov os dv L) := ⟨g0, hl, h.gr BA⟩
  have HQ0 := Lib.hid g1
  have HO0 : Hid (Oth ov w ((((w.alloc (.cells #[rv, .int .i64 c.conf, .int .i64 c.term, .int .i64 c.fail, .int .i64 c.wait, .int .i64 a.st, .int .i64 a.id, .int .i64 a.req, .slice aa an ac, .int .i64 a.count, .int .i64 a.timer, .int .i64 a.naks, ov] 80)).alloc (.cells #[.int .i64 qc, .int .i64 qi, .slice qa qn qk] 32)).alloc (.cells #[.int .i64 nc, .int .i64 ni, .slice na nn nk] 32)).alloc (.cells #[.slice none 0 0, .int .i64 0, .int .i64 0, .int .i64 0, .int .i64 0, .int .i64 0, .int .i64 0, .int .i64 0, .slice none 0 0, .int .i64 0, .int .i64 0, .int .i64 0, .slice none 0 0] 80))) := Oth.gr BA
  have HN0 := Lib.hid g2
  have HZ0 := Lib.hid g3
  have H1 := Lib.hid h1
  clear eo hN h hl I BA g0 g1 g2 g3 h1
  have HV0 : Hid (ov.oneCell' = true) := by show _ = _; rw [HEO.out]; rfl
  have HX : Hid ((act c L (⟨qc, qi, ql⟩ : QC) (⟨nc, ni, nl⟩ : QC) t ⟨a, plainC os⟩ 4) = ⟨a, plainC os⟩) := rfl
  go_enter Tryz.func34, Tryz.ntmps34
  go_upto_region 1 with fail
  obtain ⟨w1, hw1⟩ : ∃ x, x = ((((w.alloc (.cells #[rv, .int .i64 c.conf, .int .i64 c.term, .int .i64 c.fail, .int .i64 c.wait, .int .i64 a.st, .int .i64 a.id, .int .i64 a.req, .slice aa an ac, .int .i64 a.count, .int .i64 a.timer, .int .i64 a.naks, ov] 80)).alloc (.cells #[.int .i64 qc, .int .i64 qi, .slice qa qn qk] 32)).alloc (.cells #[.int .i64 nc, .int .i64 ni, .slice na nn nk] 32)).alloc (.cells #[.slice none 0 0, .int .i64 0, .int .i64 0, .int .i64 0, .int .i64 0, .int .i64 0, .int .i64 0, .int .i64 0, .slice none 0 0, .int .i64 0, .int .i64 0, .int .i64 0, .slice none 0 0] 80)) := ⟨_, rfl⟩
  rw [← hw1] at HR0 HQ0 HN0 HZ0 HO0 ⊢
  clear hw1
  obtain ⟨k0, k1, k2, k3, k4, k5, k6, k7, k8, k9, k10, k11, k12⟩ := cells13 HR0.out.row
  go_wp2_with (refine wpList_store_whole rfl 80 (.tmp 12) (.tmp 142) rfl (w.heap.size + 3) (runL rv c a (.slice aa an ac) ov) rfl rfl 80 _ HZ0.out sizeRun rfl (runL_one H1.out rfl HV0.out) ?_)
  intro wz gz hoz
  have HZZ := Lib.hid gz
  have HSS := Lib.hid (HR0.out.st.off HZ0.out (Nat.le_trans HLW.out (Nat.le_add_right _ 3)) hoz)
  have HOO := Lib.hid (HO0.out.only hoz (Nat.le_add_right _ 3))
  clear gz hoz k0 k1 k2 k3 k4 k5 k6 k7 k8 k9 k10 k11 k12
  go_wp2_with fail
  refine bodyPost_ret (v := .agg (runL rv c a (.slice aa an ac) ov).toArray) (results_cell_row (P := Tryz.prog) (fn := Tryz.f34) rfl _ _ (w.heap.size + 3) 80 _ (0, 0) _ rfl HZZ.out Tryz.underlying80 rfl sizeRun) rfl ?_
  refine ⟨ov, os, ?_, HSS.out, ?_, HOO.out⟩
  · rw [HX.out]
  · rw [HX.out]
    try (first | rfl | (rw [plainC_append]; rfl))
set_option maxRecDepth 100000 in
set_option maxHeartbeats 8000000 in
theorem ract_6 (rv : Value) (h1 : rv.oneCell' = true) (c : Cfg) (a : Aut) (aa : Option Addr) (an ac : Nat) (ts : List Tg) (ov : Value) (os : List Ct) (dv : Value) (L : List Int) (qc qi : Int) (qa : Option Addr) (qn qk : Nat) (ql : List UInt8) (nc ni : Int) (na : Option Addr) (nn nk : Nat) (nl : List UInt8) (t : Int) (w0 w : World) (h : Rs w0 w ov os dv L) (I : AcIn w0 c a aa an ac ts L os qa qn qk ql na nn nk nl t) :
    Calls Tryz.prog 34 #[.agg #[rv, .int .i64 c.conf, .int .i64 c.term, .int .i64 c.fail, .int .i64 c.wait, .int .i64 a.st, .int .i64 a.id, .int .i64 a.req, .slice aa an ac, .int .i64 a.count, .int .i64 a.timer, .int .i64 a.naks, ov], .int .i64 6, dv, .agg #[.int .i64 qc, .int .i64 qi, .slice qa qn qk], .agg #[.int .i64 nc, .int .i64 ni, .slice na nn nk], .int .i64 t] w (ActR rv c (.slice aa an ac) dv L (act c L (⟨qc, qi, ql⟩ : QC) (⟨nc, ni, nl⟩ : QC) t ⟨a, plainC os⟩ 6) w0 ov w) := by
  obtain ⟨i0, hi, hz0, hz1, hz2⟩ := info_parts infoC
  obtain ⟨oa, oc, eo, _, _⟩ := h.out.cr.shape
  obtain ⟨N, hN⟩ : ∃ N, N = os.length := ⟨_, rfl⟩
  rw [← hN] at eo
  have HEO := Lib.hid eo
  have HNN := Lib.hid hN
  have HBY : Hid ((N + 1) * 40 ≤ 140737488355328) := by show _ ≤ _; have := I.outs; omega
  have hl := h.old.size
  have HLW := Lib.hid hl
  have HI := Lib.hid I
  have HOLT : Hid (∀ k, ov.ownBlock = some k → k < w.heap.size) := fun k hk => own_lt h.out.own hk
  have BA : Gr w ((((w.alloc (.cells #[rv, .int .i64 c.conf, .int .i64 c.term, .int .i64 c.fail, .int .i64 c.wait, .int .i64 a.st, .int .i64 a.id, .int .i64 a.req, .slice aa an ac, .int .i64 a.count, .int .i64 a.timer, .int .i64 a.naks, ov] 80)).alloc (.cells #[.int .i64 qc, .int .i64 qi, .slice qa qn qk] 32)).alloc (.cells #[.int .i64 nc, .int .i64 ni, .slice na nn nk] 32)).alloc (.cells #[.slice none 0 0, .int .i64 0, .int .i64 0, .int .i64 0, .int .i64 0, .int .i64 0, .int .i64 0, .int .i64 0, .slice none 0 0, .int .i64 0, .int .i64 0, .int .i64 0, .slice none 0 0] 80)) := ((((Gr.refl w).alloc _).alloc _).alloc _).alloc _
  obtain ⟨g0, g1, g2, g3⟩ := heap4 w (.cells #[rv, .int .i64 c.conf, .int .i64 c.term, .int .i64 c.fail, .int .i64 c.wait, .int .i64 a.st, .int .i64 a.id, .int .i64 a.req, .slice aa an ac, .int .i64 a.count, .int .i64 a.timer, .int .i64 a.naks, ov] 80) (.cells #[.int .i64 qc, .int .i64 qi, .slice qa qn qk] 32) (.cells #[.int .i64 nc, .int .i64 ni, .slice na nn nk] 32) (.cells #[.slice none 0 0, .int .i64 0, .int .i64 0, .int .i64 0, .int .i64 0, .int .i64 0, .int .i64 0, .int .i64 0, .slice none 0 0, .int .i64 0, .int .i64 0, .int .i64 0, .slice none 0 0] 80)
  have HR0 : Hid (Rb w0 ((((w.alloc (.cells #[rv, .int .i64 c.conf, .int .i64 c.term, .int .i64 c.fail, .int .i64 c.wait, .int .i64 a.st, .int .i64 a.id, .int .i64 a.req, .slice aa an ac, .int .i64 a.count, .int .i64 a.timer, .int .i64 a.naks, ov] 80)).alloc (.cells #[.int .i64 qc, .int .i64 qi, .slice qa qn qk] 32)).alloc (.cells #[.int .i64 nc, .int .i64 ni, .slice na nn nk] 32)).alloc (.cells #[.slice none 0 0, .int .i64 0, .int .i64 0, .int .i64 0, .int .i64 0, .int .i64 0, .int .i64 0, .int .i64 0, .slice none 0 0, .int .i64 0, .int .i64 0, .int .i64 0, .slice none 0 0] 80)) w.heap.size rv (.slice aa an ac) c a ov os dv L) := ⟨g0, hl, h.gr BA⟩
  have HQ0 := Lib.hid g1
  have HO0 : Hid (Oth ov w ((((w.alloc (.cells #[rv, .int .i64 c.conf, .int .i64 c.term, .int .i64 c.fail, .int .i64 c.wait, .int .i64 a.st, .int .i64 a.id, .int .i64 a.req, .slice aa an ac, .int .i64 a.count, .int .i64 a.timer, .int .i64 a.naks, ov] 80)).alloc (.cells #[.int .i64 qc, .int .i64 qi, .slice qa qn qk] 32)).alloc (.cells #[.int .i64 nc, .int .i64 ni, .slice na nn nk] 32)).alloc (.cells #[.slice none 0 0, .int .i64 0, .int .i64 0, .int .i64 0, .int .i64 0, .int .i64 0, .int .i64 0, .int .i64 0, .slice none 0 0, .int .i64 0, .int .i64 0, .int .i64 0, .slice none 0 0] 80))) := Oth.gr BA
  have HN0 := Lib.hid g2
  have HZ0 := Lib.hid g3
  have H1 := Lib.hid h1
  clear eo hN h hl I BA g0 g1 g2 g3 h1
  have HV0 : Hid (ov.oneCell' = true) := by show _ = _; rw [HEO.out]; rfl
  have HX : Hid ((act c L (⟨qc, qi, ql⟩ : QC) (⟨nc, ni, nl⟩ : QC) t ⟨a, plainC os⟩ 6) = ⟨{ a with count := 0, timer := t + c.wait }, plainC os⟩) := rfl
  have e4 : wrap64 (t + c.wait) = t + c.wait := by
    have h1 := HI.out.tick
    have h2 := HI.out.wait
    unfold topT at h1
    unfold topW at h2
    exact wrap_in (by omega) (by omega)
  go_enter Tryz.func34, Tryz.ntmps34
  go_upto_region 1 with fail
  obtain ⟨w1, hw1⟩ : ∃ x, x = ((((w.alloc (.cells #[rv, .int .i64 c.conf, .int .i64 c.term, .int .i64 c.fail, .int .i64 c.wait, .int .i64 a.st, .int .i64 a.id, .int .i64 a.req, .slice aa an ac, .int .i64 a.count, .int .i64 a.timer, .int .i64 a.naks, ov] 80)).alloc (.cells #[.int .i64 qc, .int .i64 qi, .slice qa qn qk] 32)).alloc (.cells #[.int .i64 nc, .int .i64 ni, .slice na nn nk] 32)).alloc (.cells #[.slice none 0 0, .int .i64 0, .int .i64 0, .int .i64 0, .int .i64 0, .int .i64 0, .int .i64 0, .int .i64 0, .slice none 0 0, .int .i64 0, .int .i64 0, .int .i64 0, .slice none 0 0] 80)) := ⟨_, rfl⟩
  rw [← hw1] at HR0 HQ0 HN0 HZ0 HO0 ⊢
  clear hw1
  obtain ⟨k0, k1, k2, k3, k4, k5, k6, k7, k8, k9, k10, k11, k12⟩ := cells13 HR0.out.row
  clear k0 k1 k2 k3 k4 k5 k6 k7 k8 k10 k11 k12
  go_wp2_with (refine wpList_store_cell rfl 3 (.tmp 35) (.const (.int .i64 0)) rfl w.heap.size 9 (.int .i64 (0)) rfl rfl 80 _ HR0.out.row sizeI (by simp) rfl ?_)
  intro u5 gg5 ho5
  have HR5 : Hid (Rb w0 u5 w.heap.size rv (.slice aa an ac) c { a with count := 0 } ov os dv L) := HR0.out.turn ho5 gg5
  have HZ5 := Lib.hid (only_heap HZ0.out ho5 (by omega))
  have HN5 := Lib.hid (only_heap HN0.out ho5 (by omega))
  have HQ5 := Lib.hid (only_heap HQ0.out ho5 (by omega))
  have HO5 := Lib.hid (HO0.out.only ho5 (Nat.le_refl _))
  clear gg5 ho5 HR0 HZ0 HN0 HQ0 HO0
  clear k9
  obtain ⟨k0, k1, k2, k3, k4, k5, k6, k7, k8, k9, k10, k11, k12⟩ := cells13 HR5.out.row
  clear k0 k1 k2 k3 k5 k6 k7 k8 k9 k11 k12
  go_wp2_with (refine wpList_store_cell rfl 3 (.tmp 42) (.tmp 40) rfl w.heap.size 10 (.int .i64 (t + c.wait)) rfl ?q6 80 _ HR5.out.row sizeI (by simp) rfl ?_)
  intro u6 gg6 ho6
  have HR6 : Hid (Rb w0 u6 w.heap.size rv (.slice aa an ac) c { a with count := 0, timer := t + c.wait } ov os dv L) := HR5.out.turn ho6 gg6
  have HZ6 := Lib.hid (only_heap HZ5.out ho6 (by omega))
  have HN6 := Lib.hid (only_heap HN5.out ho6 (by omega))
  have HQ6 := Lib.hid (only_heap HQ5.out ho6 (by omega))
  have HO6 := Lib.hid (HO5.out.only ho6 (Nat.le_refl _))
  clear gg6 ho6 HR5 HZ5 HN5 HQ5 HO5
  clear k4 k10
  obtain ⟨k0, k1, k2, k3, k4, k5, k6, k7, k8, k9, k10, k11, k12⟩ := cells13 HR6.out.row
  go_wp2_with (refine wpList_store_whole rfl 80 (.tmp 12) (.tmp 142) rfl (w.heap.size + 3) (runL rv c { a with count := 0, timer := t + c.wait } (.slice aa an ac) ov) rfl rfl 80 _ HZ6.out sizeRun rfl (runL_one H1.out rfl HV0.out) ?_)
  intro wz gz hoz
  have HZZ := Lib.hid gz
  have HSS := Lib.hid (HR6.out.st.off HZ6.out (Nat.le_trans HLW.out (Nat.le_add_right _ 3)) hoz)
  have HOO := Lib.hid (HO6.out.only hoz (Nat.le_add_right _ 3))
  clear gz hoz k0 k1 k2 k3 k4 k5 k6 k7 k8 k9 k10 k11 k12
  go_wp2_with fail
  refine bodyPost_ret (v := .agg (runL rv c { a with count := 0, timer := t + c.wait } (.slice aa an ac) ov).toArray) (results_cell_row (P := Tryz.prog) (fn := Tryz.f34) rfl _ _ (w.heap.size + 3) 80 _ (0, 0) _ rfl HZZ.out Tryz.underlying80 rfl sizeRun) rfl ?_
  refine ⟨ov, os, ?_, HSS.out, ?_, HOO.out⟩
  · rw [HX.out]
  · rw [HX.out]
    try (first | rfl | (rw [plainC_append]; rfl))
set_option maxRecDepth 100000 in
set_option maxHeartbeats 8000000 in
theorem ract_8 (rv : Value) (h1 : rv.oneCell' = true) (c : Cfg) (a : Aut) (aa : Option Addr) (an ac : Nat) (ts : List Tg) (ov : Value) (os : List Ct) (dv : Value) (L : List Int) (qc qi : Int) (qa : Option Addr) (qn qk : Nat) (ql : List UInt8) (nc ni : Int) (na : Option Addr) (nn nk : Nat) (nl : List UInt8) (t : Int) (w0 w : World) (h : Rs w0 w ov os dv L) (I : AcIn w0 c a aa an ac ts L os qa qn qk ql na nn nk nl t) :
    Calls Tryz.prog 34 #[.agg #[rv, .int .i64 c.conf, .int .i64 c.term, .int .i64 c.fail, .int .i64 c.wait, .int .i64 a.st, .int .i64 a.id, .int .i64 a.req, .slice aa an ac, .int .i64 a.count, .int .i64 a.timer, .int .i64 a.naks, ov], .int .i64 8, dv, .agg #[.int .i64 qc, .int .i64 qi, .slice qa qn qk], .agg #[.int .i64 nc, .int .i64 ni, .slice na nn nk], .int .i64 t] w (ActR rv c (.slice aa an ac) dv L (act c L (⟨qc, qi, ql⟩ : QC) (⟨nc, ni, nl⟩ : QC) t ⟨a, plainC os⟩ 8) w0 ov w) := by
  obtain ⟨i0, hi, hz0, hz1, hz2⟩ := info_parts infoC
  obtain ⟨oa, oc, eo, _, _⟩ := h.out.cr.shape
  obtain ⟨N, hN⟩ : ∃ N, N = os.length := ⟨_, rfl⟩
  rw [← hN] at eo
  have HEO := Lib.hid eo
  have HNN := Lib.hid hN
  have HBY : Hid ((N + 1) * 40 ≤ 140737488355328) := by show _ ≤ _; have := I.outs; omega
  have hl := h.old.size
  have HLW := Lib.hid hl
  have HI := Lib.hid I
  have HOLT : Hid (∀ k, ov.ownBlock = some k → k < w.heap.size) := fun k hk => own_lt h.out.own hk
  have BA : Gr w ((((w.alloc (.cells #[rv, .int .i64 c.conf, .int .i64 c.term, .int .i64 c.fail, .int .i64 c.wait, .int .i64 a.st, .int .i64 a.id, .int .i64 a.req, .slice aa an ac, .int .i64 a.count, .int .i64 a.timer, .int .i64 a.naks, ov] 80)).alloc (.cells #[.int .i64 qc, .int .i64 qi, .slice qa qn qk] 32)).alloc (.cells #[.int .i64 nc, .int .i64 ni, .slice na nn nk] 32)).alloc (.cells #[.slice none 0 0, .int .i64 0, .int .i64 0, .int .i64 0, .int .i64 0, .int .i64 0, .int .i64 0, .int .i64 0, .slice none 0 0, .int .i64 0, .int .i64 0, .int .i64 0, .slice none 0 0] 80)) := ((((Gr.refl w).alloc _).alloc _).alloc _).alloc _
  obtain ⟨g0, g1, g2, g3⟩ := heap4 w (.cells #[rv, .int .i64 c.conf, .int .i64 c.term, .int .i64 c.fail, .int .i64 c.wait, .int .i64 a.st, .int .i64 a.id, .int .i64 a.req, .slice aa an ac, .int .i64 a.count, .int .i64 a.timer, .int .i64 a.naks, ov] 80) (.cells #[.int .i64 qc, .int .i64 qi, .slice qa qn qk] 32) (.cells #[.int .i64 nc, .int .i64 ni, .slice na nn nk] 32) (.cells #[.slice none 0 0, .int .i64 0, .int .i64 0, .int .i64 0, .int .i64 0, .int .i64 0, .int .i64 0, .int .i64 0, .slice none 0 0, .int .i64 0, .int .i64 0, .int .i64 0, .slice none 0 0] 80)
  have HR0 : Hid (Rb w0 ((((w.alloc (.cells #[rv, .int .i64 c.conf, .int .i64 c.term, .int .i64 c.fail, .int .i64 c.wait, .int .i64 a.st, .int .i64 a.id, .int .i64 a.req, .slice aa an ac, .int .i64 a.count, .int .i64 a.timer, .int .i64 a.naks, ov] 80)).alloc (.cells #[.int .i64 qc, .int .i64 qi, .slice qa qn qk] 32)).alloc (.cells #[.int .i64 nc, .int .i64 ni, .slice na nn nk] 32)).alloc (.cells #[.slice none 0 0, .int .i64 0, .int .i64 0, .int .i64 0, .int .i64 0, .int .i64 0, .int .i64 0, .int .i64 0, .slice none 0 0, .int .i64 0, .int .i64 0, .int .i64 0, .slice none 0 0] 80)) w.heap.size rv (.slice aa an ac) c a ov os dv L) := ⟨g0, hl, h.gr BA⟩
  have HQ0 := Lib.hid g1
  have HO0 : Hid (Oth ov w ((((w.alloc (.cells #[rv, .int .i64 c.conf, .int .i64 c.term, .int .i64 c.fail, .int .i64 c.wait, .int .i64 a.st, .int .i64 a.id, .int .i64 a.req, .slice aa an ac, .int .i64 a.count, .int .i64 a.timer, .int .i64 a.naks, ov] 80)).alloc (.cells #[.int .i64 qc, .int .i64 qi, .slice qa qn qk] 32)).alloc (.cells #[.int .i64 nc, .int .i64 ni, .slice na nn nk] 32)).alloc (.cells #[.slice none 0 0, .int .i64 0, .int .i64 0, .int .i64 0, .int .i64 0, .int .i64 0, .int .i64 0, .int .i64 0, .slice none 0 0, .int .i64 0, .int .i64 0, .int .i64 0, .slice none 0 0] 80))) := Oth.gr BA
  have HN0 := Lib.hid g2
  have HZ0 := Lib.hid g3
  have H1 := Lib.hid h1
  clear eo hN h hl I BA g0 g1 g2 g3 h1
  have HV0 : Hid (ov.oneCell' = true) := by show _ = _; rw [HEO.out]; rfl
  have HX : Hid ((act c L (⟨qc, qi, ql⟩ : QC) (⟨nc, ni, nl⟩ : QC) t ⟨a, plainC os⟩ 8) = ⟨{ a with naks := 0 }, plainC os ++ [(⟨nc, ni, nl⟩ : QC)]⟩) := rfl
  go_enter Tryz.func34, Tryz.ntmps34
  go_upto_region 1 with fail
  obtain ⟨w1, hw1⟩ : ∃ x, x = ((((w.alloc (.cells #[rv, .int .i64 c.conf, .int .i64 c.term, .int .i64 c.fail, .int .i64 c.wait, .int .i64 a.st, .int .i64 a.id, .int .i64 a.req, .slice aa an ac, .int .i64 a.count, .int .i64 a.timer, .int .i64 a.naks, ov] 80)).alloc (.cells #[.int .i64 qc, .int .i64 qi, .slice qa qn qk] 32)).alloc (.cells #[.int .i64 nc, .int .i64 ni, .slice na nn nk] 32)).alloc (.cells #[.slice none 0 0, .int .i64 0, .int .i64 0, .int .i64 0, .int .i64 0, .int .i64 0, .int .i64 0, .int .i64 0, .slice none 0 0, .int .i64 0, .int .i64 0, .int .i64 0, .slice none 0 0] 80)) := ⟨_, rfl⟩
  rw [← hw1] at HR0 HQ0 HN0 HZ0 HO0 ⊢
  clear hw1
  obtain ⟨k0, k1, k2, k3, k4, k5, k6, k7, k8, k9, k10, k11, k12⟩ := cells13 HR0.out.row
  clear k0 k1 k2 k3 k4 k5 k6 k7 k8 k9 k10 k11
  rw [HEO.out] at k12
  obtain ⟨n0, n1, n2⟩ := cells3 HN0.out
  have hal8 : Gr w1 (w1.alloc (.cells #[.int .i64 nc, .int .i64 ni, .slice na nn nk] 32)) := (Gr.refl _).alloc _
  have HAL8 := Lib.hid hal8
  have HRD8 : Hid (Rd (w1.alloc (.cells #[.int .i64 nc, .int .i64 ni, .slice na nn nk] 32)) 3 (.slice (some ⟨w1.heap.size, 0, none⟩) 1 1) 1 [.int .i64 nc, .int .i64 ni, .slice na nn nk]) := rd_new w1 [.int .i64 nc, .int .i64 ni, .slice na nn nk] 32 1 3 rfl (by decide)
  have HOWN8 : Hid ((w1.alloc (.cells #[.int .i64 nc, .int .i64 ni, .slice na nn nk] 32)).ownsRow w0.heap.size 32 3 (.slice oa N oc) N (flatC os)) := by
    have := (HR0.out.gr hal8).st.out.own
    rw [← HNN.out, HEO.out] at this
    exact this
  have HSZ8 : Hid (w0.heap.size ≤ (w1.alloc (.cells #[.int .i64 nc, .int .i64 ni, .slice na nn nk] 32)).heap.size) := (HR0.out.gr hal8).st.old.size
  have HGOT8 : Hid (Got w1 w0.heap.size (.slice na nn nk) (nl)) := .inr ⟨w0, Nat.le_refl _, HI.out.n, HR0.out.st.old⟩
  clear hal8
  go_wp2_with (at_builtin; refine wpList_append_gr _ rfl (.tmp 69) (.tmp 71) 35 rfl w0.heap.size 32 i0 _ 3 40 Tryz.underlying35 hi hz0 hz1 hz2 rfl (by decide) _ N _ rfl HOWN8.out _ 1 _ rfl HRD8.out (one_ctl _ _ rfl) HBY.out (by decide) HSZ8.out ?_)
  intro v8 x8 ho8 hg8
  rw [← HEO.out] at hg8
  have hown8 := HOWN8.out
  rw [← HEO.out] at hown8
  have hr8 := HR0.out.gr HAL8.out
  have HROW8 : Hid (x8.heap[w.heap.size]? = some (.cells (runL rv c a (.slice aa an ac) ov).toArray 80 (0, 0))) := grown_heap hown8 hg8 hr8.row (by decide)
  have HS8 : Hid (Rs w0 x8 v8 (os ++ [⟨nc, ni, .slice na nn nk, nl⟩]) dv L) := hr8.st.sent (t := ⟨nc, ni, .slice na nn nk, nl⟩) (Got.below HGOT8.out HR0.out.st.old.size HAL8.out) (by rw [← HNN.out]; exact ho8) hg8
  have HZx8 := Lib.hid (grown_heap hown8 hg8 (heap_below HZ0.out HAL8.out) (by decide))
  have HNx8 : Hid (x8.heap[w.heap.size + 2]? = some (.cells #[.int .i64 nc, .int .i64 ni, .slice na nn nk] 32)) := by
    have hb := heap_below HN0.out HAL8.out
    exact (hg8.block _ (Array.getElem?_eq_some_iff.1 hb).1 (fun e => by have := HOLT.out _ e.symm; omega)).trans hb
  have HQx8 : Hid (x8.heap[w.heap.size + 1]? = some (.cells #[.int .i64 qc, .int .i64 qi, .slice qa qn qk] 32)) := by
    have hb := heap_below HQ0.out HAL8.out
    exact (hg8.block _ (Array.getElem?_eq_some_iff.1 hb).1 (fun e => by have := HOLT.out _ e.symm; omega)).trans hb
  have HV8 : Hid (v8.oneCell' = true) := own_one ho8
  have HOx8 := Lib.hid ((HO0.out.trans (Oth.gr HAL8.out)).grown hg8)
  clear ho8 hg8 hown8 hr8 HR0 HZ0 HN0 HQ0 HO0 HAL8 HRD8 HOWN8 HSZ8 HGOT8
  clear k12 n0 n1 n2
  go_wp2_with (refine wpList_store_cell rfl 35 (.tmp 73) (.tmp 72) rfl w.heap.size 12 v8 rfl rfl 80 _ HROW8.out sizeCs (by simp [runL]) HV8.out ?_)
  intro u9 gg9 ho9
  have HR9 : Hid (Rb w0 u9 w.heap.size rv (.slice aa an ac) c a v8 (os ++ [⟨nc, ni, .slice na nn nk, nl⟩]) dv L) := ⟨gg9, HLW.out, HS8.out.off HROW8.out HLW.out ho9⟩
  have HZ9 := Lib.hid (only_heap HZx8.out ho9 (by omega))
  have HN9 := Lib.hid (only_heap HNx8.out ho9 (by omega))
  have HQ9 := Lib.hid (only_heap HQx8.out ho9 (by omega))
  have HO9 := Lib.hid (HOx8.out.only ho9 (Nat.le_refl _))
  clear gg9 ho9 HROW8 HS8 HZx8 HNx8 HQx8 HOx8
  obtain ⟨k0, k1, k2, k3, k4, k5, k6, k7, k8, k9, k10, k11, k12⟩ := cells13 HR9.out.row
  clear k0 k1 k2 k3 k4 k5 k6 k7 k8 k9 k10 k12
  go_wp2_with (refine wpList_store_cell rfl 3 (.tmp 75) (.const (.int .i64 0)) rfl w.heap.size 11 (.int .i64 (0)) rfl rfl 80 _ HR9.out.row sizeI (by simp) rfl ?_)
  intro u10 gg10 ho10
  have HR10 : Hid (Rb w0 u10 w.heap.size rv (.slice aa an ac) c { a with naks := 0 } v8 (os ++ [⟨nc, ni, .slice na nn nk, nl⟩]) dv L) := HR9.out.turn ho10 gg10
  have HZ10 := Lib.hid (only_heap HZ9.out ho10 (by omega))
  have HN10 := Lib.hid (only_heap HN9.out ho10 (by omega))
  have HQ10 := Lib.hid (only_heap HQ9.out ho10 (by omega))
  have HO10 := Lib.hid (HO9.out.only ho10 (Nat.le_refl _))
  clear gg10 ho10 HR9 HZ9 HN9 HQ9 HO9
  clear k11
  obtain ⟨k0, k1, k2, k3, k4, k5, k6, k7, k8, k9, k10, k11, k12⟩ := cells13 HR10.out.row
  go_wp2_with (refine wpList_store_whole rfl 80 (.tmp 12) (.tmp 142) rfl (w.heap.size + 3) (runL rv c { a with naks := 0 } (.slice aa an ac) v8) rfl rfl 80 _ HZ10.out sizeRun rfl (runL_one H1.out rfl HV8.out) ?_)
  intro wz gz hoz
  have HZZ := Lib.hid gz
  have HSS := Lib.hid (HR10.out.st.off HZ10.out (Nat.le_trans HLW.out (Nat.le_add_right _ 3)) hoz)
  have HOO := Lib.hid (HO10.out.only hoz (Nat.le_add_right _ 3))
  clear gz hoz k0 k1 k2 k3 k4 k5 k6 k7 k8 k9 k10 k11 k12
  go_wp2_with fail
  refine bodyPost_ret (v := .agg (runL rv c { a with naks := 0 } (.slice aa an ac) v8).toArray) (results_cell_row (P := Tryz.prog) (fn := Tryz.f34) rfl _ _ (w.heap.size + 3) 80 _ (0, 0) _ rfl HZZ.out Tryz.underlying80 rfl sizeRun) rfl ?_
  refine ⟨v8, (os ++ [⟨nc, ni, .slice na nn nk, nl⟩]), ?_, HSS.out, ?_, HOO.out⟩
  · rw [HX.out]
  · rw [HX.out]
    try (first | rfl | (rw [plainC_append]; rfl))
set_option maxRecDepth 100000 in
set_option maxHeartbeats 8000000 in
theorem ract_13 (rv : Value) (h1 : rv.oneCell' = true) (c : Cfg) (a : Aut) (aa : Option Addr) (an ac : Nat) (ts : List Tg) (ov : Value) (os : List Ct) (dv : Value) (L : List Int) (qc qi : Int) (qa : Option Addr) (qn qk : Nat) (ql : List UInt8) (nc ni : Int) (na : Option Addr) (nn nk : Nat) (nl : List UInt8) (t : Int) (w0 w : World) (h : Rs w0 w ov os dv L) (I : AcIn w0 c a aa an ac ts L os qa qn qk ql na nn nk nl t) :
    Calls Tryz.prog 34 #[.agg #[rv, .int .i64 c.conf, .int .i64 c.term, .int .i64 c.fail, .int .i64 c.wait, .int .i64 a.st, .int .i64 a.id, .int .i64 a.req, .slice aa an ac, .int .i64 a.count, .int .i64 a.timer, .int .i64 a.naks, ov], .int .i64 13, dv, .agg #[.int .i64 qc, .int .i64 qi, .slice qa qn qk], .agg #[.int .i64 nc, .int .i64 ni, .slice na nn nk], .int .i64 t] w (ActR rv c (.slice aa an ac) dv L (act c L (⟨qc, qi, ql⟩ : QC) (⟨nc, ni, nl⟩ : QC) t ⟨a, plainC os⟩ 13) w0 ov w) := by
  obtain ⟨i0, hi, hz0, hz1, hz2⟩ := info_parts infoC
  obtain ⟨oa, oc, eo, _, _⟩ := h.out.cr.shape
  obtain ⟨N, hN⟩ : ∃ N, N = os.length := ⟨_, rfl⟩
  rw [← hN] at eo
  have HEO := Lib.hid eo
  have HNN := Lib.hid hN
  have HBY : Hid ((N + 1) * 40 ≤ 140737488355328) := by show _ ≤ _; have := I.outs; omega
  have hl := h.old.size
  have HLW := Lib.hid hl
  have HI := Lib.hid I
  have HOLT : Hid (∀ k, ov.ownBlock = some k → k < w.heap.size) := fun k hk => own_lt h.out.own hk
  have BA : Gr w ((((w.alloc (.cells #[rv, .int .i64 c.conf, .int .i64 c.term, .int .i64 c.fail, .int .i64 c.wait, .int .i64 a.st, .int .i64 a.id, .int .i64 a.req, .slice aa an ac, .int .i64 a.count, .int .i64 a.timer, .int .i64 a.naks, ov] 80)).alloc (.cells #[.int .i64 qc, .int .i64 qi, .slice qa qn qk] 32)).alloc (.cells #[.int .i64 nc, .int .i64 ni, .slice na nn nk] 32)).alloc (.cells #[.slice none 0 0, .int .i64 0, .int .i64 0, .int .i64 0, .int .i64 0, .int .i64 0, .int .i64 0, .int .i64 0, .slice none 0 0, .int .i64 0, .int .i64 0, .int .i64 0, .slice none 0 0] 80)) := ((((Gr.refl w).alloc _).alloc _).alloc _).alloc _
  obtain ⟨g0, g1, g2, g3⟩ := heap4 w (.cells #[rv, .int .i64 c.conf, .int .i64 c.term, .int .i64 c.fail, .int .i64 c.wait, .int .i64 a.st, .int .i64 a.id, .int .i64 a.req, .slice aa an ac, .int .i64 a.count, .int .i64 a.timer, .int .i64 a.naks, ov] 80) (.cells #[.int .i64 qc, .int .i64 qi, .slice qa qn qk] 32) (.cells #[.int .i64 nc, .int .i64 ni, .slice na nn nk] 32) (.cells #[.slice none 0 0, .int .i64 0, .int .i64 0, .int .i64 0, .int .i64 0, .int .i64 0, .int .i64 0, .int .i64 0, .slice none 0 0, .int .i64 0, .int .i64 0, .int .i64 0, .slice none 0 0] 80)
  have HR0 : Hid (Rb w0 ((((w.alloc (.cells #[rv, .int .i64 c.conf, .int .i64 c.term, .int .i64 c.fail, .int .i64 c.wait, .int .i64 a.st, .int .i64 a.id, .int .i64 a.req, .slice aa an ac, .int .i64 a.count, .int .i64 a.timer, .int .i64 a.naks, ov] 80)).alloc (.cells #[.int .i64 qc, .int .i64 qi, .slice qa qn qk] 32)).alloc (.cells #[.int .i64 nc, .int .i64 ni, .slice na nn nk] 32)).alloc (.cells #[.slice none 0 0, .int .i64 0, .int .i64 0, .int .i64 0, .int .i64 0, .int .i64 0, .int .i64 0, .int .i64 0, .slice none 0 0, .int .i64 0, .int .i64 0, .int .i64 0, .slice none 0 0] 80)) w.heap.size rv (.slice aa an ac) c a ov os dv L) := ⟨g0, hl, h.gr BA⟩
  have HQ0 := Lib.hid g1
  have HO0 : Hid (Oth ov w ((((w.alloc (.cells #[rv, .int .i64 c.conf, .int .i64 c.term, .int .i64 c.fail, .int .i64 c.wait, .int .i64 a.st, .int .i64 a.id, .int .i64 a.req, .slice aa an ac, .int .i64 a.count, .int .i64 a.timer, .int .i64 a.naks, ov] 80)).alloc (.cells #[.int .i64 qc, .int .i64 qi, .slice qa qn qk] 32)).alloc (.cells #[.int .i64 nc, .int .i64 ni, .slice na nn nk] 32)).alloc (.cells #[.slice none 0 0, .int .i64 0, .int .i64 0, .int .i64 0, .int .i64 0, .int .i64 0, .int .i64 0, .int .i64 0, .slice none 0 0, .int .i64 0, .int .i64 0, .int .i64 0, .slice none 0 0] 80))) := Oth.gr BA
  have HN0 := Lib.hid g2
  have HZ0 := Lib.hid g3
  have H1 := Lib.hid h1
  clear eo hN h hl I BA g0 g1 g2 g3 h1
  have HV0 : Hid (ov.oneCell' = true) := by show _ = _; rw [HEO.out]; rfl
  have HX : Hid ((act c L (⟨qc, qi, ql⟩ : QC) (⟨nc, ni, nl⟩ : QC) t ⟨a, plainC os⟩ 13) = ⟨a, plainC os ++ [(⟨nc, ni, nl⟩ : QC)]⟩) := rfl
  go_enter Tryz.func34, Tryz.ntmps34
  go_upto_region 1 with fail
  obtain ⟨w1, hw1⟩ : ∃ x, x = ((((w.alloc (.cells #[rv, .int .i64 c.conf, .int .i64 c.term, .int .i64 c.fail, .int .i64 c.wait, .int .i64 a.st, .int .i64 a.id, .int .i64 a.req, .slice aa an ac, .int .i64 a.count, .int .i64 a.timer, .int .i64 a.naks, ov] 80)).alloc (.cells #[.int .i64 qc, .int .i64 qi, .slice qa qn qk] 32)).alloc (.cells #[.int .i64 nc, .int .i64 ni, .slice na nn nk] 32)).alloc (.cells #[.slice none 0 0, .int .i64 0, .int .i64 0, .int .i64 0, .int .i64 0, .int .i64 0, .int .i64 0, .int .i64 0, .slice none 0 0, .int .i64 0, .int .i64 0, .int .i64 0, .slice none 0 0] 80)) := ⟨_, rfl⟩
  rw [← hw1] at HR0 HQ0 HN0 HZ0 HO0 ⊢
  clear hw1
  obtain ⟨k0, k1, k2, k3, k4, k5, k6, k7, k8, k9, k10, k11, k12⟩ := cells13 HR0.out.row
  clear k0 k1 k2 k3 k4 k5 k6 k7 k8 k9 k10 k11
  rw [HEO.out] at k12
  obtain ⟨n0, n1, n2⟩ := cells3 HN0.out
  have hal12 : Gr w1 (w1.alloc (.cells #[.int .i64 nc, .int .i64 ni, .slice na nn nk] 32)) := (Gr.refl _).alloc _
  have HAL12 := Lib.hid hal12
  have HRD12 : Hid (Rd (w1.alloc (.cells #[.int .i64 nc, .int .i64 ni, .slice na nn nk] 32)) 3 (.slice (some ⟨w1.heap.size, 0, none⟩) 1 1) 1 [.int .i64 nc, .int .i64 ni, .slice na nn nk]) := rd_new w1 [.int .i64 nc, .int .i64 ni, .slice na nn nk] 32 1 3 rfl (by decide)
  have HOWN12 : Hid ((w1.alloc (.cells #[.int .i64 nc, .int .i64 ni, .slice na nn nk] 32)).ownsRow w0.heap.size 32 3 (.slice oa N oc) N (flatC os)) := by
    have := (HR0.out.gr hal12).st.out.own
    rw [← HNN.out, HEO.out] at this
    exact this
  have HSZ12 : Hid (w0.heap.size ≤ (w1.alloc (.cells #[.int .i64 nc, .int .i64 ni, .slice na nn nk] 32)).heap.size) := (HR0.out.gr hal12).st.old.size
  have HGOT12 : Hid (Got w1 w0.heap.size (.slice na nn nk) (nl)) := .inr ⟨w0, Nat.le_refl _, HI.out.n, HR0.out.st.old⟩
  clear hal12
  go_wp2_with (at_builtin; refine wpList_append_gr _ rfl (.tmp 102) (.tmp 104) 35 rfl w0.heap.size 32 i0 _ 3 40 Tryz.underlying35 hi hz0 hz1 hz2 rfl (by decide) _ N _ rfl HOWN12.out _ 1 _ rfl HRD12.out (one_ctl _ _ rfl) HBY.out (by decide) HSZ12.out ?_)
  intro v12 x12 ho12 hg12
  rw [← HEO.out] at hg12
  have hown12 := HOWN12.out
  rw [← HEO.out] at hown12
  have hr12 := HR0.out.gr HAL12.out
  have HROW12 : Hid (x12.heap[w.heap.size]? = some (.cells (runL rv c a (.slice aa an ac) ov).toArray 80 (0, 0))) := grown_heap hown12 hg12 hr12.row (by decide)
  have HS12 : Hid (Rs w0 x12 v12 (os ++ [⟨nc, ni, .slice na nn nk, nl⟩]) dv L) := hr12.st.sent (t := ⟨nc, ni, .slice na nn nk, nl⟩) (Got.below HGOT12.out HR0.out.st.old.size HAL12.out) (by rw [← HNN.out]; exact ho12) hg12
  have HZx12 := Lib.hid (grown_heap hown12 hg12 (heap_below HZ0.out HAL12.out) (by decide))
  have HNx12 : Hid (x12.heap[w.heap.size + 2]? = some (.cells #[.int .i64 nc, .int .i64 ni, .slice na nn nk] 32)) := by
    have hb := heap_below HN0.out HAL12.out
    exact (hg12.block _ (Array.getElem?_eq_some_iff.1 hb).1 (fun e => by have := HOLT.out _ e.symm; omega)).trans hb
  have HQx12 : Hid (x12.heap[w.heap.size + 1]? = some (.cells #[.int .i64 qc, .int .i64 qi, .slice qa qn qk] 32)) := by
    have hb := heap_below HQ0.out HAL12.out
    exact (hg12.block _ (Array.getElem?_eq_some_iff.1 hb).1 (fun e => by have := HOLT.out _ e.symm; omega)).trans hb
  have HV12 : Hid (v12.oneCell' = true) := own_one ho12
  have HOx12 := Lib.hid ((HO0.out.trans (Oth.gr HAL12.out)).grown hg12)
  clear ho12 hg12 hown12 hr12 HR0 HZ0 HN0 HQ0 HO0 HAL12 HRD12 HOWN12 HSZ12 HGOT12
  clear k12 n0 n1 n2
  go_wp2_with (refine wpList_store_cell rfl 35 (.tmp 106) (.tmp 105) rfl w.heap.size 12 v12 rfl rfl 80 _ HROW12.out sizeCs (by simp [runL]) HV12.out ?_)
  intro u13 gg13 ho13
  have HR13 : Hid (Rb w0 u13 w.heap.size rv (.slice aa an ac) c a v12 (os ++ [⟨nc, ni, .slice na nn nk, nl⟩]) dv L) := ⟨gg13, HLW.out, HS12.out.off HROW12.out HLW.out ho13⟩
  have HZ13 := Lib.hid (only_heap HZx12.out ho13 (by omega))
  have HN13 := Lib.hid (only_heap HNx12.out ho13 (by omega))
  have HQ13 := Lib.hid (only_heap HQx12.out ho13 (by omega))
  have HO13 := Lib.hid (HOx12.out.only ho13 (Nat.le_refl _))
  clear gg13 ho13 HROW12 HS12 HZx12 HNx12 HQx12 HOx12
  obtain ⟨k0, k1, k2, k3, k4, k5, k6, k7, k8, k9, k10, k11, k12⟩ := cells13 HR13.out.row
  go_wp2_with (refine wpList_store_whole rfl 80 (.tmp 12) (.tmp 142) rfl (w.heap.size + 3) (runL rv c a (.slice aa an ac) v12) rfl rfl 80 _ HZ13.out sizeRun rfl (runL_one H1.out rfl HV12.out) ?_)
  intro wz gz hoz
  have HZZ := Lib.hid gz
  have HSS := Lib.hid (HR13.out.st.off HZ13.out (Nat.le_trans HLW.out (Nat.le_add_right _ 3)) hoz)
  have HOO := Lib.hid (HO13.out.only hoz (Nat.le_add_right _ 3))
  clear gz hoz k0 k1 k2 k3 k4 k5 k6 k7 k8 k9 k10 k11 k12
  go_wp2_with fail
  refine bodyPost_ret (v := .agg (runL rv c a (.slice aa an ac) v12).toArray) (results_cell_row (P := Tryz.prog) (fn := Tryz.f34) rfl _ _ (w.heap.size + 3) 80 _ (0, 0) _ rfl HZZ.out Tryz.underlying80 rfl sizeRun) rfl ?_
  refine ⟨v12, (os ++ [⟨nc, ni, .slice na nn nk, nl⟩]), ?_, HSS.out, ?_, HOO.out⟩
  · rw [HX.out]
  · rw [HX.out]
    try (first | rfl | (rw [plainC_append]; rfl))
set_option maxRecDepth 100000 in
set_option maxHeartbeats 8000000 in
theorem ract_11 (rv : Value) (h1 : rv.oneCell' = true) (c : Cfg) (a : Aut) (aa : Option Addr) (an ac : Nat) (ts : List Tg) (ov : Value) (os : List Ct) (dv : Value) (L : List Int) (qc qi : Int) (qa : Option Addr) (qn qk : Nat) (ql : List UInt8) (nc ni : Int) (na : Option Addr) (nn nk : Nat) (nl : List UInt8) (t : Int) (w0 w : World) (h : Rs w0 w ov os dv L) (I : AcIn w0 c a aa an ac ts L os qa qn qk ql na nn nk nl t) :
    Calls Tryz.prog 34 #[.agg #[rv, .int .i64 c.conf, .int .i64 c.term, .int .i64 c.fail, .int .i64 c.wait, .int .i64 a.st, .int .i64 a.id, .int .i64 a.req, .slice aa an ac, .int .i64 a.count, .int .i64 a.timer, .int .i64 a.naks, ov], .int .i64 11, dv, .agg #[.int .i64 qc, .int .i64 qi, .slice qa qn qk], .agg #[.int .i64 nc, .int .i64 ni, .slice na nn nk], .int .i64 t] w (ActR rv c (.slice aa an ac) dv L (act c L (⟨qc, qi, ql⟩ : QC) (⟨nc, ni, nl⟩ : QC) t ⟨a, plainC os⟩ 11) w0 ov w) := by
  obtain ⟨i0, hi, hz0, hz1, hz2⟩ := info_parts infoC
  obtain ⟨oa, oc, eo, _, _⟩ := h.out.cr.shape
  obtain ⟨N, hN⟩ : ∃ N, N = os.length := ⟨_, rfl⟩
  rw [← hN] at eo
  have HEO := Lib.hid eo
  have HNN := Lib.hid hN
  have HBY : Hid ((N + 1) * 40 ≤ 140737488355328) := by show _ ≤ _; have := I.outs; omega
  have hl := h.old.size
  have HLW := Lib.hid hl
  have HI := Lib.hid I
  have HOLT : Hid (∀ k, ov.ownBlock = some k → k < w.heap.size) := fun k hk => own_lt h.out.own hk
  have BA : Gr w ((((w.alloc (.cells #[rv, .int .i64 c.conf, .int .i64 c.term, .int .i64 c.fail, .int .i64 c.wait, .int .i64 a.st, .int .i64 a.id, .int .i64 a.req, .slice aa an ac, .int .i64 a.count, .int .i64 a.timer, .int .i64 a.naks, ov] 80)).alloc (.cells #[.int .i64 qc, .int .i64 qi, .slice qa qn qk] 32)).alloc (.cells #[.int .i64 nc, .int .i64 ni, .slice na nn nk] 32)).alloc (.cells #[.slice none 0 0, .int .i64 0, .int .i64 0, .int .i64 0, .int .i64 0, .int .i64 0, .int .i64 0, .int .i64 0, .slice none 0 0, .int .i64 0, .int .i64 0, .int .i64 0, .slice none 0 0] 80)) := ((((Gr.refl w).alloc _).alloc _).alloc _).alloc _
  obtain ⟨g0, g1, g2, g3⟩ := heap4 w (.cells #[rv, .int .i64 c.conf, .int .i64 c.term, .int .i64 c.fail, .int .i64 c.wait, .int .i64 a.st, .int .i64 a.id, .int .i64 a.req, .slice aa an ac, .int .i64 a.count, .int .i64 a.timer, .int .i64 a.naks, ov] 80) (.cells #[.int .i64 qc, .int .i64 qi, .slice qa qn qk] 32) (.cells #[.int .i64 nc, .int .i64 ni, .slice na nn nk] 32) (.cells #[.slice none 0 0, .int .i64 0, .int .i64 0, .int .i64 0, .int .i64 0, .int .i64 0, .int .i64 0, .int .i64 0, .slice none 0 0, .int .i64 0, .int .i64 0, .int .i64 0, .slice none 0 0] 80)
  have HR0 : Hid (Rb w0 ((((w.alloc (.cells #[rv, .int .i64 c.conf, .int .i64 c.term, .int .i64 c.fail, .int .i64 c.wait, .int .i64 a.st, .int .i64 a.id, .int .i64 a.req, .slice aa an ac, .int .i64 a.count, .int .i64 a.timer, .int .i64 a.naks, ov] 80)).alloc (.cells #[.int .i64 qc, .int .i64 qi, .slice qa qn qk] 32)).alloc (.cells #[.int .i64 nc, .int .i64 ni, .slice na nn nk] 32)).alloc (.cells #[.slice none 0 0, .int .i64 0, .int .i64 0, .int .i64 0, .int .i64 0, .int .i64 0, .int .i64 0, .int .i64 0, .slice none 0 0, .int .i64 0, .int .i64 0, .int .i64 0, .slice none 0 0] 80)) w.heap.size rv (.slice aa an ac) c a ov os dv L) := ⟨g0, hl, h.gr BA⟩
  have HQ0 := Lib.hid g1
  have HO0 : Hid (Oth ov w ((((w.alloc (.cells #[rv, .int .i64 c.conf, .int .i64 c.term, .int .i64 c.fail, .int .i64 c.wait, .int .i64 a.st, .int .i64 a.id, .int .i64 a.req, .slice aa an ac, .int .i64 a.count, .int .i64 a.timer, .int .i64 a.naks, ov] 80)).alloc (.cells #[.int .i64 qc, .int .i64 qi, .slice qa qn qk] 32)).alloc (.cells #[.int .i64 nc, .int .i64 ni, .slice na nn nk] 32)).alloc (.cells #[.slice none 0 0, .int .i64 0, .int .i64 0, .int .i64 0, .int .i64 0, .int .i64 0, .int .i64 0, .int .i64 0, .slice none 0 0, .int .i64 0, .int .i64 0, .int .i64 0, .slice none 0 0] 80))) := Oth.gr BA
  have HN0 := Lib.hid g2
  have HZ0 := Lib.hid g3
  have H1 := Lib.hid h1
  clear eo hN h hl I BA g0 g1 g2 g3 h1
  have HV0 : Hid (ov.oneCell' = true) := by show _ = _; rw [HEO.out]; rfl
  have HX : Hid ((act c L (⟨qc, qi, ql⟩ : QC) (⟨nc, ni, nl⟩ : QC) t ⟨a, plainC os⟩ 11) = ⟨a, plainC os ++ [⟨6, qi, []⟩]⟩) := rfl
  have hb := builtC 6 qi none 0 0
  go_enter Tryz.func34, Tryz.ntmps34
  go_upto_region 1 with fail
  obtain ⟨w1, hw1⟩ : ∃ x, x = ((((w.alloc (.cells #[rv, .int .i64 c.conf, .int .i64 c.term, .int .i64 c.fail, .int .i64 c.wait, .int .i64 a.st, .int .i64 a.id, .int .i64 a.req, .slice aa an ac, .int .i64 a.count, .int .i64 a.timer, .int .i64 a.naks, ov] 80)).alloc (.cells #[.int .i64 qc, .int .i64 qi, .slice qa qn qk] 32)).alloc (.cells #[.int .i64 nc, .int .i64 ni, .slice na nn nk] 32)).alloc (.cells #[.slice none 0 0, .int .i64 0, .int .i64 0, .int .i64 0, .int .i64 0, .int .i64 0, .int .i64 0, .int .i64 0, .slice none 0 0, .int .i64 0, .int .i64 0, .int .i64 0, .slice none 0 0] 80)) := ⟨_, rfl⟩
  rw [← hw1] at HR0 HQ0 HN0 HZ0 HO0 ⊢
  clear hw1
  obtain ⟨k0, k1, k2, k3, k4, k5, k6, k7, k8, k9, k10, k11, k12⟩ := cells13 HR0.out.row
  clear k0 k1 k2 k3 k4 k5 k6 k7 k8 k9 k10 k11
  rw [HEO.out] at k12
  obtain ⟨q0, q1, q2⟩ := cells3 HQ0.out
  have hal15 : Gr w1 (w1.alloc (.cells #[.int .i64 6, .int .i64 qi, .slice none 0 0] 32)) := (Gr.refl _).alloc _
  have HAL15 := Lib.hid hal15
  have HRD15 : Hid (Rd (w1.alloc (.cells #[.int .i64 6, .int .i64 qi, .slice none 0 0] 32)) 3 (.slice (some ⟨w1.heap.size, 0, none⟩) 1 1) 1 [.int .i64 6, .int .i64 qi, .slice none 0 0]) := rd_new w1 [.int .i64 6, .int .i64 qi, .slice none 0 0] 32 1 3 rfl (by decide)
  have HOWN15 : Hid ((w1.alloc (.cells #[.int .i64 6, .int .i64 qi, .slice none 0 0] 32)).ownsRow w0.heap.size 32 3 (.slice oa N oc) N (flatC os)) := by
    have := (HR0.out.gr hal15).st.out.own
    rw [← HNN.out, HEO.out] at this
    exact this
  have HSZ15 : Hid (w0.heap.size ≤ (w1.alloc (.cells #[.int .i64 6, .int .i64 qi, .slice none 0 0] 32)).heap.size) := (HR0.out.gr hal15).st.old.size
  have HGOT15 : Hid (Got w1 w0.heap.size (.slice none 0 0) ([])) := .inl (OwnB.nil _ _ _)
  clear hal15
  go_wp2_with (at_builtin; refine wpList_append_gr _ rfl (.tmp 110) (.tmp 114) 35 rfl w0.heap.size 32 i0 _ 3 40 Tryz.underlying35 hi hz0 hz1 hz2 rfl (by decide) _ N _ rfl HOWN15.out _ 1 _ rfl HRD15.out (one_ctl _ _ rfl) HBY.out (by decide) HSZ15.out ?_)
  intro v15 x15 ho15 hg15
  rw [← HEO.out] at hg15
  have hown15 := HOWN15.out
  rw [← HEO.out] at hown15
  have hr15 := HR0.out.gr HAL15.out
  have HROW15 : Hid (x15.heap[w.heap.size]? = some (.cells (runL rv c a (.slice aa an ac) ov).toArray 80 (0, 0))) := grown_heap hown15 hg15 hr15.row (by decide)
  have HS15 : Hid (Rs w0 x15 v15 (os ++ [⟨6, qi, .slice none 0 0, []⟩]) dv L) := hr15.st.sent (t := ⟨6, qi, .slice none 0 0, []⟩) (Got.below HGOT15.out HR0.out.st.old.size HAL15.out) (by rw [← HNN.out]; exact ho15) hg15
  have HZx15 := Lib.hid (grown_heap hown15 hg15 (heap_below HZ0.out HAL15.out) (by decide))
  have HNx15 : Hid (x15.heap[w.heap.size + 2]? = some (.cells #[.int .i64 nc, .int .i64 ni, .slice na nn nk] 32)) := by
    have hb := heap_below HN0.out HAL15.out
    exact (hg15.block _ (Array.getElem?_eq_some_iff.1 hb).1 (fun e => by have := HOLT.out _ e.symm; omega)).trans hb
  have HQx15 : Hid (x15.heap[w.heap.size + 1]? = some (.cells #[.int .i64 qc, .int .i64 qi, .slice qa qn qk] 32)) := by
    have hb := heap_below HQ0.out HAL15.out
    exact (hg15.block _ (Array.getElem?_eq_some_iff.1 hb).1 (fun e => by have := HOLT.out _ e.symm; omega)).trans hb
  have HV15 : Hid (v15.oneCell' = true) := own_one ho15
  have HOx15 := Lib.hid ((HO0.out.trans (Oth.gr HAL15.out)).grown hg15)
  clear ho15 hg15 hown15 hr15 HR0 HZ0 HN0 HQ0 HO0 HAL15 HRD15 HOWN15 HSZ15 HGOT15
  clear k12 q0 q1 q2
  go_wp2_with (refine wpList_store_cell rfl 35 (.tmp 116) (.tmp 115) rfl w.heap.size 12 v15 rfl rfl 80 _ HROW15.out sizeCs (by simp [runL]) HV15.out ?_)
  intro u16 gg16 ho16
  have HR16 : Hid (Rb w0 u16 w.heap.size rv (.slice aa an ac) c a v15 (os ++ [⟨6, qi, .slice none 0 0, []⟩]) dv L) := ⟨gg16, HLW.out, HS15.out.off HROW15.out HLW.out ho16⟩
  have HZ16 := Lib.hid (only_heap HZx15.out ho16 (by omega))
  have HN16 := Lib.hid (only_heap HNx15.out ho16 (by omega))
  have HQ16 := Lib.hid (only_heap HQx15.out ho16 (by omega))
  have HO16 := Lib.hid (HOx15.out.only ho16 (Nat.le_refl _))
  clear gg16 ho16 HROW15 HS15 HZx15 HNx15 HQx15 HOx15
  obtain ⟨k0, k1, k2, k3, k4, k5, k6, k7, k8, k9, k10, k11, k12⟩ := cells13 HR16.out.row
  go_wp2_with (refine wpList_store_whole rfl 80 (.tmp 12) (.tmp 142) rfl (w.heap.size + 3) (runL rv c a (.slice aa an ac) v15) rfl rfl 80 _ HZ16.out sizeRun rfl (runL_one H1.out rfl HV15.out) ?_)
  intro wz gz hoz
  have HZZ := Lib.hid gz
  have HSS := Lib.hid (HR16.out.st.off HZ16.out (Nat.le_trans HLW.out (Nat.le_add_right _ 3)) hoz)
  have HOO := Lib.hid (HO16.out.only hoz (Nat.le_add_right _ 3))
  clear gz hoz k0 k1 k2 k3 k4 k5 k6 k7 k8 k9 k10 k11 k12
  go_wp2_with fail
  refine bodyPost_ret (v := .agg (runL rv c a (.slice aa an ac) v15).toArray) (results_cell_row (P := Tryz.prog) (fn := Tryz.f34) rfl _ _ (w.heap.size + 3) 80 _ (0, 0) _ rfl HZZ.out Tryz.underlying80 rfl sizeRun) rfl ?_
  refine ⟨v15, (os ++ [⟨6, qi, .slice none 0 0, []⟩]), ?_, HSS.out, ?_, HOO.out⟩
  · rw [HX.out]
  · rw [HX.out]
    try (first | rfl | (rw [plainC_append]; rfl))
end Go.Proofs.YtclplbapedmihaaGreat.Au
namespace Go.Proofs.YtclplbapedmihaaGreat.Au
set_option maxRecDepth 4000
open Go.RowKit O Ng
open Go.Proofs.YtclplbapedmihaaGreat.Fs (AO AO.ar AO.nil AR)
set_option linter.unusedVariables false
set_option linter.unusedSimpArgs false
set_option maxRecDepth 100000 in
set_option maxHeartbeats 8000000 in
theorem ract_5 (rv : Value) (h1 : rv.oneCell' = true) (c : Cfg) (a : Aut) (aa : Option Addr) (an ac : Nat) (ts : List Tg) (ov : Value) (os : List Ct) (dv : Value) (L : List Int) (qc qi : Int) (qa : Option Addr) (qn qk : Nat) (ql : List UInt8) (nc ni : Int) (na : Option Addr) (nn nk : Nat) (nl : List UInt8) (t : Int) (w0 w : World) (h : Rs w0 w ov os dv L) (I : AcIn w0 c a aa an ac ts L os qa qn qk ql na nn nk nl t) :
    Calls Tryz.prog 34 #[.agg #[rv, .int .i64 c.conf, .int .i64 c.term, .int .i64 c.fail, .int .i64 c.wait, .int .i64 a.st, .int .i64 a.id, .int .i64 a.req, .slice aa an ac, .int .i64 a.count, .int .i64 a.timer, .int .i64 a.naks, ov], .int .i64 5, dv, .agg #[.int .i64 qc, .int .i64 qi, .slice qa qn qk], .agg #[.int .i64 nc, .int .i64 ni, .slice na nn nk], .int .i64 t] w (ActR rv c (.slice aa an ac) dv L (act c L (⟨qc, qi, ql⟩ : QC) (⟨nc, ni, nl⟩ : QC) t ⟨a, plainC os⟩ 5) w0 ov w) := by
  obtain ⟨i0, hi, hz0, hz1, hz2⟩ := info_parts infoC
  obtain ⟨oa, oc, eo, _, _⟩ := h.out.cr.shape
  obtain ⟨N, hN⟩ : ∃ N, N = os.length := ⟨_, rfl⟩
  rw [← hN] at eo
  have HEO := Lib.hid eo
  have HNN := Lib.hid hN
  have HBY : Hid ((N + 1) * 40 ≤ 140737488355328) := by show _ ≤ _; have := I.outs; omega
  have hl := h.old.size
  have HLW := Lib.hid hl
  have HI := Lib.hid I
  have HOLT : Hid (∀ k, ov.ownBlock = some k → k < w.heap.size) := fun k hk => own_lt h.out.own hk
  have BA : Gr w ((((w.alloc (.cells #[rv, .int .i64 c.conf, .int .i64 c.term, .int .i64 c.fail, .int .i64 c.wait, .int .i64 a.st, .int .i64 a.id, .int .i64 a.req, .slice aa an ac, .int .i64 a.count, .int .i64 a.timer, .int .i64 a.naks, ov] 80)).alloc (.cells #[.int .i64 qc, .int .i64 qi, .slice qa qn qk] 32)).alloc (.cells #[.int .i64 nc, .int .i64 ni, .slice na nn nk] 32)).alloc (.cells #[.slice none 0 0, .int .i64 0, .int .i64 0, .int .i64 0, .int .i64 0, .int .i64 0, .int .i64 0, .int .i64 0, .slice none 0 0, .int .i64 0, .int .i64 0, .int .i64 0, .slice none 0 0] 80)) := ((((Gr.refl w).alloc _).alloc _).alloc _).alloc _
  obtain ⟨g0, g1, g2, g3⟩ := heap4 w (.cells #[rv, .int .i64 c.conf, .int .i64 c.term, .int .i64 c.fail, .int .i64 c.wait, .int .i64 a.st, .int .i64 a.id, .int .i64 a.req, .slice aa an ac, .int .i64 a.count, .int .i64 a.timer, .int .i64 a.naks, ov] 80) (.cells #[.int .i64 qc, .int .i64 qi, .slice qa qn qk] 32) (.cells #[.int .i64 nc, .int .i64 ni, .slice na nn nk] 32) (.cells #[.slice none 0 0, .int .i64 0, .int .i64 0, .int .i64 0, .int .i64 0, .int .i64 0, .int .i64 0, .int .i64 0, .slice none 0 0, .int .i64 0, .int .i64 0, .int .i64 0, .slice none 0 0] 80)
  have HR0 : Hid (Rb w0 ((((w.alloc (.cells #[rv, .int .i64 c.conf, .int .i64 c.term, .int .i64 c.fail, .int .i64 c.wait, .int .i64 a.st, .int .i64 a.id, .int .i64 a.req, .slice aa an ac, .int .i64 a.count, .int .i64 a.timer, .int .i64 a.naks, ov] 80)).alloc (.cells #[.int .i64 qc, .int .i64 qi, .slice qa qn qk] 32)).alloc (.cells #[.int .i64 nc, .int .i64 ni, .slice na nn nk] 32)).alloc (.cells #[.slice none 0 0, .int .i64 0, .int .i64 0, .int .i64 0, .int .i64 0, .int .i64 0, .int .i64 0, .int .i64 0, .slice none 0 0, .int .i64 0, .int .i64 0, .int .i64 0, .slice none 0 0] 80)) w.heap.size rv (.slice aa an ac) c a ov os dv L) := ⟨g0, hl, h.gr BA⟩
  have HQ0 := Lib.hid g1
  have HO0 : Hid (Oth ov w ((((w.alloc (.cells #[rv, .int .i64 c.conf, .int .i64 c.term, .int .i64 c.fail, .int .i64 c.wait, .int .i64 a.st, .int .i64 a.id, .int .i64 a.req, .slice aa an ac, .int .i64 a.count, .int .i64 a.timer, .int .i64 a.naks, ov] 80)).alloc (.cells #[.int .i64 qc, .int .i64 qi, .slice qa qn qk] 32)).alloc (.cells #[.int .i64 nc, .int .i64 ni, .slice na nn nk] 32)).alloc (.cells #[.slice none 0 0, .int .i64 0, .int .i64 0, .int .i64 0, .int .i64 0, .int .i64 0, .int .i64 0, .int .i64 0, .slice none 0 0, .int .i64 0, .int .i64 0, .int .i64 0, .slice none 0 0] 80))) := Oth.gr BA
  have HN0 := Lib.hid g2
  have HZ0 := Lib.hid g3
  have H1 := Lib.hid h1
  clear eo hN h hl I BA g0 g1 g2 g3 h1
  have HV0 : Hid (ov.oneCell' = true) := by show _ = _; rw [HEO.out]; rfl
  by_cases hm : 10 ∈ L
  · have HMM := Lib.hid hm
    have HX : Hid ((act c L (⟨qc, qi, ql⟩ : QC) (⟨nc, ni, nl⟩ : QC) t ⟨a, plainC os⟩ 5) = ⟨{ a with count := c.term }, plainC os⟩) := by show _ = _; unfold act; rw [if_pos rfl, if_pos hm]; try rfl
    clear hm
    go_enter Tryz.func34, Tryz.ntmps34
    go_upto_region 1 with fail
    obtain ⟨w1, hw1⟩ : ∃ x, x = ((((w.alloc (.cells #[rv, .int .i64 c.conf, .int .i64 c.term, .int .i64 c.fail, .int .i64 c.wait, .int .i64 a.st, .int .i64 a.id, .int .i64 a.req, .slice aa an ac, .int .i64 a.count, .int .i64 a.timer, .int .i64 a.naks, ov] 80)).alloc (.cells #[.int .i64 qc, .int .i64 qi, .slice qa qn qk] 32)).alloc (.cells #[.int .i64 nc, .int .i64 ni, .slice na nn nk] 32)).alloc (.cells #[.slice none 0 0, .int .i64 0, .int .i64 0, .int .i64 0, .int .i64 0, .int .i64 0, .int .i64 0, .int .i64 0, .slice none 0 0, .int .i64 0, .int .i64 0, .int .i64 0, .slice none 0 0] 80)) := ⟨_, rfl⟩
    rw [← hw1] at HR0 HQ0 HN0 HZ0 HO0 ⊢
    clear hw1
    obtain ⟨k0, k1, k2, k3, k4, k5, k6, k7, k8, k9, k10, k11, k12⟩ := cells13 HR0.out.row
    clear k0 k2 k3 k4 k5 k6 k7 k8 k10 k11 k12
    go_wp2_with (refine wpList_store_cell rfl 3 (.tmp 24) (.tmp 22) rfl w.heap.size 9 (.int .i64 (c.conf)) rfl rfl 80 _ HR0.out.row sizeI (by simp) rfl ?_)
    intro u1 gg1 ho1
    have HR1 : Hid (Rb w0 u1 w.heap.size rv (.slice aa an ac) c { a with count := c.conf } ov os dv L) := HR0.out.turn ho1 gg1
    have HZ1 := Lib.hid (only_heap HZ0.out ho1 (by omega))
    have HN1 := Lib.hid (only_heap HN0.out ho1 (by omega))
    have HQ1 := Lib.hid (only_heap HQ0.out ho1 (by omega))
    have HO1 := Lib.hid (HO0.out.only ho1 (Nat.le_refl _))
    clear gg1 ho1 HR0 HZ0 HN0 HQ0 HO0
    clear k1 k9
    have HAS := Lib.hid (Fs.has_any 10 u1 HR1.out.st.done.ar (by have := HI.out.acts; omega))
    rw [decide_eq_true HMM.out] at HAS
    go_wp2_with fail
    refine HAS.out.mono ?_
    rintro e wh ⟨rfl, rfl⟩
    clear HAS
    obtain ⟨k0, k1, k2, k3, k4, k5, k6, k7, k8, k9, k10, k11, k12⟩ := cells13 HR1.out.row
    clear k0 k1 k3 k4 k5 k6 k7 k8 k10 k11 k12
    go_wp2_with (refine wpList_store_cell rfl 3 (.tmp 31) (.tmp 29) rfl w.heap.size 9 (.int .i64 (c.term)) rfl rfl 80 _ HR1.out.row sizeI (by simp) rfl ?_)
    intro u2 gg2 ho2
    have HR2 : Hid (Rb w0 u2 w.heap.size rv (.slice aa an ac) c { a with count := c.term } ov os dv L) := HR1.out.turn ho2 gg2
    have HZ2 := Lib.hid (only_heap HZ1.out ho2 (by omega))
    have HN2 := Lib.hid (only_heap HN1.out ho2 (by omega))
    have HQ2 := Lib.hid (only_heap HQ1.out ho2 (by omega))
    have HO2 := Lib.hid (HO1.out.only ho2 (Nat.le_refl _))
    clear gg2 ho2 HR1 HZ1 HN1 HQ1 HO1
    clear k2 k9
    obtain ⟨k0, k1, k2, k3, k4, k5, k6, k7, k8, k9, k10, k11, k12⟩ := cells13 HR2.out.row
    go_wp2_with (refine wpList_store_whole rfl 80 (.tmp 12) (.tmp 142) rfl (w.heap.size + 3) (runL rv c { a with count := c.term } (.slice aa an ac) ov) rfl rfl 80 _ HZ2.out sizeRun rfl (runL_one H1.out rfl HV0.out) ?_)
    intro wz gz hoz
    have HZZ := Lib.hid gz
    have HSS := Lib.hid (HR2.out.st.off HZ2.out (Nat.le_trans HLW.out (Nat.le_add_right _ 3)) hoz)
    have HOO := Lib.hid (HO2.out.only hoz (Nat.le_add_right _ 3))
    clear gz hoz k0 k1 k2 k3 k4 k5 k6 k7 k8 k9 k10 k11 k12
    go_wp2_with fail
    refine bodyPost_ret (v := .agg (runL rv c { a with count := c.term } (.slice aa an ac) ov).toArray) (results_cell_row (P := Tryz.prog) (fn := Tryz.f34) rfl _ _ (w.heap.size + 3) 80 _ (0, 0) _ rfl HZZ.out Tryz.underlying80 rfl sizeRun) rfl ?_
    refine ⟨ov, os, ?_, HSS.out, ?_, HOO.out⟩
    · rw [HX.out]
    · rw [HX.out]
      try (first | rfl | (rw [plainC_append]; rfl))
  · have HMM := Lib.hid hm
    have HX : Hid ((act c L (⟨qc, qi, ql⟩ : QC) (⟨nc, ni, nl⟩ : QC) t ⟨a, plainC os⟩ 5) = ⟨{ a with count := c.conf }, plainC os⟩) := by show _ = _; unfold act; rw [if_pos rfl, if_neg hm]; try rfl
    clear hm
    go_enter Tryz.func34, Tryz.ntmps34
    go_upto_region 1 with fail
    obtain ⟨w1, hw1⟩ : ∃ x, x = ((((w.alloc (.cells #[rv, .int .i64 c.conf, .int .i64 c.term, .int .i64 c.fail, .int .i64 c.wait, .int .i64 a.st, .int .i64 a.id, .int .i64 a.req, .slice aa an ac, .int .i64 a.count, .int .i64 a.timer, .int .i64 a.naks, ov] 80)).alloc (.cells #[.int .i64 qc, .int .i64 qi, .slice qa qn qk] 32)).alloc (.cells #[.int .i64 nc, .int .i64 ni, .slice na nn nk] 32)).alloc (.cells #[.slice none 0 0, .int .i64 0, .int .i64 0, .int .i64 0, .int .i64 0, .int .i64 0, .int .i64 0, .int .i64 0, .slice none 0 0, .int .i64 0, .int .i64 0, .int .i64 0, .slice none 0 0] 80)) := ⟨_, rfl⟩
    rw [← hw1] at HR0 HQ0 HN0 HZ0 HO0 ⊢
    clear hw1
    obtain ⟨k0, k1, k2, k3, k4, k5, k6, k7, k8, k9, k10, k11, k12⟩ := cells13 HR0.out.row
    clear k0 k2 k3 k4 k5 k6 k7 k8 k10 k11 k12
    go_wp2_with (refine wpList_store_cell rfl 3 (.tmp 24) (.tmp 22) rfl w.heap.size 9 (.int .i64 (c.conf)) rfl rfl 80 _ HR0.out.row sizeI (by simp) rfl ?_)
    intro u4 gg4 ho4
    have HR4 : Hid (Rb w0 u4 w.heap.size rv (.slice aa an ac) c { a with count := c.conf } ov os dv L) := HR0.out.turn ho4 gg4
    have HZ4 := Lib.hid (only_heap HZ0.out ho4 (by omega))
    have HN4 := Lib.hid (only_heap HN0.out ho4 (by omega))
    have HQ4 := Lib.hid (only_heap HQ0.out ho4 (by omega))
    have HO4 := Lib.hid (HO0.out.only ho4 (Nat.le_refl _))
    clear gg4 ho4 HR0 HZ0 HN0 HQ0 HO0
    clear k1 k9
    have HAS := Lib.hid (Fs.has_any 10 u4 HR4.out.st.done.ar (by have := HI.out.acts; omega))
    rw [decide_eq_false HMM.out] at HAS
    go_wp2_with fail
    refine HAS.out.mono ?_
    rintro e wh ⟨rfl, rfl⟩
    clear HAS
    obtain ⟨k0, k1, k2, k3, k4, k5, k6, k7, k8, k9, k10, k11, k12⟩ := cells13 HR4.out.row
    go_wp2_with (refine wpList_store_whole rfl 80 (.tmp 12) (.tmp 142) rfl (w.heap.size + 3) (runL rv c { a with count := c.conf } (.slice aa an ac) ov) rfl rfl 80 _ HZ4.out sizeRun rfl (runL_one H1.out rfl HV0.out) ?_)
    intro wz gz hoz
    have HZZ := Lib.hid gz
    have HSS := Lib.hid (HR4.out.st.off HZ4.out (Nat.le_trans HLW.out (Nat.le_add_right _ 3)) hoz)
    have HOO := Lib.hid (HO4.out.only hoz (Nat.le_add_right _ 3))
    clear gz hoz k0 k1 k2 k3 k4 k5 k6 k7 k8 k9 k10 k11 k12
    go_wp2_with fail
    refine bodyPost_ret (v := .agg (runL rv c { a with count := c.conf } (.slice aa an ac) ov).toArray) (results_cell_row (P := Tryz.prog) (fn := Tryz.f34) rfl _ _ (w.heap.size + 3) 80 _ (0, 0) _ rfl HZZ.out Tryz.underlying80 rfl sizeRun) rfl ?_
    refine ⟨ov, os, ?_, HSS.out, ?_, HOO.out⟩
    · rw [HX.out]
    · rw [HX.out]
      try (first | rfl | (rw [plainC_append]; rfl))
set_option maxRecDepth 100000 in
set_option maxHeartbeats 8000000 in
theorem ract_9 (rv : Value) (h1 : rv.oneCell' = true) (c : Cfg) (a : Aut) (aa : Option Addr) (an ac : Nat) (ts : List Tg) (ov : Value) (os : List Ct) (dv : Value) (L : List Int) (qc qi : Int) (qa : Option Addr) (qn qk : Nat) (ql : List UInt8) (nc ni : Int) (na : Option Addr) (nn nk : Nat) (nl : List UInt8) (t : Int) (w0 w : World) (h : Rs w0 w ov os dv L) (I : AcIn w0 c a aa an ac ts L os qa qn qk ql na nn nk nl t) :
    Calls Tryz.prog 34 #[.agg #[rv, .int .i64 c.conf, .int .i64 c.term, .int .i64 c.fail, .int .i64 c.wait, .int .i64 a.st, .int .i64 a.id, .int .i64 a.req, .slice aa an ac, .int .i64 a.count, .int .i64 a.timer, .int .i64 a.naks, ov], .int .i64 9, dv, .agg #[.int .i64 qc, .int .i64 qi, .slice qa qn qk], .agg #[.int .i64 nc, .int .i64 ni, .slice na nn nk], .int .i64 t] w (ActR rv c (.slice aa an ac) dv L (act c L (⟨qc, qi, ql⟩ : QC) (⟨nc, ni, nl⟩ : QC) t ⟨a, plainC os⟩ 9) w0 ov w) := by
  obtain ⟨i0, hi, hz0, hz1, hz2⟩ := info_parts infoC
  obtain ⟨oa, oc, eo, _, _⟩ := h.out.cr.shape
  obtain ⟨N, hN⟩ : ∃ N, N = os.length := ⟨_, rfl⟩
  rw [← hN] at eo
  have HEO := Lib.hid eo
  have HNN := Lib.hid hN
  have HBY : Hid ((N + 1) * 40 ≤ 140737488355328) := by show _ ≤ _; have := I.outs; omega
  have hl := h.old.size
  have HLW := Lib.hid hl
  have HI := Lib.hid I
  have HOLT : Hid (∀ k, ov.ownBlock = some k → k < w.heap.size) := fun k hk => own_lt h.out.own hk
  have BA : Gr w ((((w.alloc (.cells #[rv, .int .i64 c.conf, .int .i64 c.term, .int .i64 c.fail, .int .i64 c.wait, .int .i64 a.st, .int .i64 a.id, .int .i64 a.req, .slice aa an ac, .int .i64 a.count, .int .i64 a.timer, .int .i64 a.naks, ov] 80)).alloc (.cells #[.int .i64 qc, .int .i64 qi, .slice qa qn qk] 32)).alloc (.cells #[.int .i64 nc, .int .i64 ni, .slice na nn nk] 32)).alloc (.cells #[.slice none 0 0, .int .i64 0, .int .i64 0, .int .i64 0, .int .i64 0, .int .i64 0, .int .i64 0, .int .i64 0, .slice none 0 0, .int .i64 0, .int .i64 0, .int .i64 0, .slice none 0 0] 80)) := ((((Gr.refl w).alloc _).alloc _).alloc _).alloc _
  obtain ⟨g0, g1, g2, g3⟩ := heap4 w (.cells #[rv, .int .i64 c.conf, .int .i64 c.term, .int .i64 c.fail, .int .i64 c.wait, .int .i64 a.st, .int .i64 a.id, .int .i64 a.req, .slice aa an ac, .int .i64 a.count, .int .i64 a.timer, .int .i64 a.naks, ov] 80) (.cells #[.int .i64 qc, .int .i64 qi, .slice qa qn qk] 32) (.cells #[.int .i64 nc, .int .i64 ni, .slice na nn nk] 32) (.cells #[.slice none 0 0, .int .i64 0, .int .i64 0, .int .i64 0, .int .i64 0, .int .i64 0, .int .i64 0, .int .i64 0, .slice none 0 0, .int .i64 0, .int .i64 0, .int .i64 0, .slice none 0 0] 80)
  have HR0 : Hid (Rb w0 ((((w.alloc (.cells #[rv, .int .i64 c.conf, .int .i64 c.term, .int .i64 c.fail, .int .i64 c.wait, .int .i64 a.st, .int .i64 a.id, .int .i64 a.req, .slice aa an ac, .int .i64 a.count, .int .i64 a.timer, .int .i64 a.naks, ov] 80)).alloc (.cells #[.int .i64 qc, .int .i64 qi, .slice qa qn qk] 32)).alloc (.cells #[.int .i64 nc, .int .i64 ni, .slice na nn nk] 32)).alloc (.cells #[.slice none 0 0, .int .i64 0, .int .i64 0, .int .i64 0, .int .i64 0, .int .i64 0, .int .i64 0, .int .i64 0, .slice none 0 0, .int .i64 0, .int .i64 0, .int .i64 0, .slice none 0 0] 80)) w.heap.size rv (.slice aa an ac) c a ov os dv L) := ⟨g0, hl, h.gr BA⟩
  have HQ0 := Lib.hid g1
  have HO0 : Hid (Oth ov w ((((w.alloc (.cells #[rv, .int .i64 c.conf, .int .i64 c.term, .int .i64 c.fail, .int .i64 c.wait, .int .i64 a.st, .int .i64 a.id, .int .i64 a.req, .slice aa an ac, .int .i64 a.count, .int .i64 a.timer, .int .i64 a.naks, ov] 80)).alloc (.cells #[.int .i64 qc, .int .i64 qi, .slice qa qn qk] 32)).alloc (.cells #[.int .i64 nc, .int .i64 ni, .slice na nn nk] 32)).alloc (.cells #[.slice none 0 0, .int .i64 0, .int .i64 0, .int .i64 0, .int .i64 0, .int .i64 0, .int .i64 0, .int .i64 0, .slice none 0 0, .int .i64 0, .int .i64 0, .int .i64 0, .slice none 0 0] 80))) := Oth.gr BA
  have HN0 := Lib.hid g2
  have HZ0 := Lib.hid g3
  have H1 := Lib.hid h1
  clear eo hN h hl I BA g0 g1 g2 g3 h1
  have HV0 : Hid (ov.oneCell' = true) := by show _ = _; rw [HEO.out]; rfl
  have e4 : wrap64 (a.naks + 1) = a.naks + 1 := by
    have h1 := HI.out.naks
    exact wrap_in (by omega) (by omega)
  by_cases hk : nc = 3
  · have hk3 : (nc == 3) = true := by simp [hk]
    by_cases hn : a.naks < 1000
    · have hx : nc = 3 ∧ a.naks < 1000 := ⟨hk, hn⟩
      have HX : Hid ((act c L (⟨qc, qi, ql⟩ : QC) (⟨nc, ni, nl⟩ : QC) t ⟨a, plainC os⟩ 9) = ⟨{ a with naks := a.naks + 1 }, plainC os ++ [(⟨nc, ni, nl⟩ : QC)]⟩) := by show (⟨{ a with naks := if nc = 3 ∧ a.naks < 1000 then a.naks + 1 else a.naks }, plainC os ++ [(⟨nc, ni, nl⟩ : QC)]⟩ : Rn) = _; rw [if_pos hx]
      clear hx hk
      go_enter Tryz.func34, Tryz.ntmps34
      go_upto_region 1 with fail
      obtain ⟨w1, hw1⟩ : ∃ x, x = ((((w.alloc (.cells #[rv, .int .i64 c.conf, .int .i64 c.term, .int .i64 c.fail, .int .i64 c.wait, .int .i64 a.st, .int .i64 a.id, .int .i64 a.req, .slice aa an ac, .int .i64 a.count, .int .i64 a.timer, .int .i64 a.naks, ov] 80)).alloc (.cells #[.int .i64 qc, .int .i64 qi, .slice qa qn qk] 32)).alloc (.cells #[.int .i64 nc, .int .i64 ni, .slice na nn nk] 32)).alloc (.cells #[.slice none 0 0, .int .i64 0, .int .i64 0, .int .i64 0, .int .i64 0, .int .i64 0, .int .i64 0, .int .i64 0, .slice none 0 0, .int .i64 0, .int .i64 0, .int .i64 0, .slice none 0 0] 80)) := ⟨_, rfl⟩
      rw [← hw1] at HR0 HQ0 HN0 HZ0 HO0 ⊢
      clear hw1
      obtain ⟨k0, k1, k2, k3, k4, k5, k6, k7, k8, k9, k10, k11, k12⟩ := cells13 HR0.out.row
      clear k0 k1 k2 k3 k4 k5 k6 k7 k8 k9 k10 k11
      rw [HEO.out] at k12
      obtain ⟨n0, n1, n2⟩ := cells3 HN0.out
      have hal6 : Gr w1 (w1.alloc (.cells #[.int .i64 nc, .int .i64 ni, .slice na nn nk] 32)) := (Gr.refl _).alloc _
      have HAL6 := Lib.hid hal6
      have HRD6 : Hid (Rd (w1.alloc (.cells #[.int .i64 nc, .int .i64 ni, .slice na nn nk] 32)) 3 (.slice (some ⟨w1.heap.size, 0, none⟩) 1 1) 1 [.int .i64 nc, .int .i64 ni, .slice na nn nk]) := rd_new w1 [.int .i64 nc, .int .i64 ni, .slice na nn nk] 32 1 3 rfl (by decide)
      have HOWN6 : Hid ((w1.alloc (.cells #[.int .i64 nc, .int .i64 ni, .slice na nn nk] 32)).ownsRow w0.heap.size 32 3 (.slice oa N oc) N (flatC os)) := by
        have := (HR0.out.gr hal6).st.out.own
        rw [← HNN.out, HEO.out] at this
        exact this
      have HSZ6 : Hid (w0.heap.size ≤ (w1.alloc (.cells #[.int .i64 nc, .int .i64 ni, .slice na nn nk] 32)).heap.size) := (HR0.out.gr hal6).st.old.size
      have HGOT6 : Hid (Got w1 w0.heap.size (.slice na nn nk) (nl)) := .inr ⟨w0, Nat.le_refl _, HI.out.n, HR0.out.st.old⟩
      clear hal6
      go_wp2_with (at_builtin; refine wpList_append_gr _ rfl (.tmp 79) (.tmp 81) 35 rfl w0.heap.size 32 i0 _ 3 40 Tryz.underlying35 hi hz0 hz1 hz2 rfl (by decide) _ N _ rfl HOWN6.out _ 1 _ rfl HRD6.out (one_ctl _ _ rfl) HBY.out (by decide) HSZ6.out ?_)
      intro v6 x6 ho6 hg6
      rw [← HEO.out] at hg6
      have hown6 := HOWN6.out
      rw [← HEO.out] at hown6
      have hr6 := HR0.out.gr HAL6.out
      have HROW6 : Hid (x6.heap[w.heap.size]? = some (.cells (runL rv c a (.slice aa an ac) ov).toArray 80 (0, 0))) := grown_heap hown6 hg6 hr6.row (by decide)
      have HS6 : Hid (Rs w0 x6 v6 (os ++ [⟨nc, ni, .slice na nn nk, nl⟩]) dv L) := hr6.st.sent (t := ⟨nc, ni, .slice na nn nk, nl⟩) (Got.below HGOT6.out HR0.out.st.old.size HAL6.out) (by rw [← HNN.out]; exact ho6) hg6
      have HZx6 := Lib.hid (grown_heap hown6 hg6 (heap_below HZ0.out HAL6.out) (by decide))
      have HNx6 : Hid (x6.heap[w.heap.size + 2]? = some (.cells #[.int .i64 nc, .int .i64 ni, .slice na nn nk] 32)) := by
        have hb := heap_below HN0.out HAL6.out
        exact (hg6.block _ (Array.getElem?_eq_some_iff.1 hb).1 (fun e => by have := HOLT.out _ e.symm; omega)).trans hb
      have HQx6 : Hid (x6.heap[w.heap.size + 1]? = some (.cells #[.int .i64 qc, .int .i64 qi, .slice qa qn qk] 32)) := by
        have hb := heap_below HQ0.out HAL6.out
        exact (hg6.block _ (Array.getElem?_eq_some_iff.1 hb).1 (fun e => by have := HOLT.out _ e.symm; omega)).trans hb
      have HV6 : Hid (v6.oneCell' = true) := own_one ho6
      have HOx6 := Lib.hid ((HO0.out.trans (Oth.gr HAL6.out)).grown hg6)
      clear ho6 hg6 hown6 hr6 HR0 HZ0 HN0 HQ0 HO0 HAL6 HRD6 HOWN6 HSZ6 HGOT6
      clear k12 n0 n1 n2
      go_wp2_with (refine wpList_store_cell rfl 35 (.tmp 83) (.tmp 82) rfl w.heap.size 12 v6 rfl rfl 80 _ HROW6.out sizeCs (by simp [runL]) HV6.out ?_)
      intro u7 gg7 ho7
      have HR7 : Hid (Rb w0 u7 w.heap.size rv (.slice aa an ac) c a v6 (os ++ [⟨nc, ni, .slice na nn nk, nl⟩]) dv L) := ⟨gg7, HLW.out, HS6.out.off HROW6.out HLW.out ho7⟩
      have HZ7 := Lib.hid (only_heap HZx6.out ho7 (by omega))
      have HN7 := Lib.hid (only_heap HNx6.out ho7 (by omega))
      have HQ7 := Lib.hid (only_heap HQx6.out ho7 (by omega))
      have HO7 := Lib.hid (HOx6.out.only ho7 (Nat.le_refl _))
      clear gg7 ho7 HROW6 HS6 HZx6 HNx6 HQx6 HOx6
      obtain ⟨k0, k1, k2, k3, k4, k5, k6, k7, k8, k9, k10, k11, k12⟩ := cells13 HR7.out.row
      clear k0 k1 k2 k3 k4 k5 k6 k7 k8 k9 k10 k12
      obtain ⟨n0, n1, n2⟩ := cells3 HN7.out
      go_wp2_with (refine wpList_store_cell rfl 3 (.tmp 98) (.tmp 96) rfl w.heap.size 11 (.int .i64 (a.naks + 1)) rfl ?q8 80 _ HR7.out.row sizeI (by simp) rfl ?_)
      case q8 => first | rfl | (simp only [go_sem]; rfl) | simp [go_sem, e4]
      intro u8 gg8 ho8
      have HR8 : Hid (Rb w0 u8 w.heap.size rv (.slice aa an ac) c { a with naks := a.naks + 1 } v6 (os ++ [⟨nc, ni, .slice na nn nk, nl⟩]) dv L) := HR7.out.turn ho8 gg8
      have HZ8 := Lib.hid (only_heap HZ7.out ho8 (by omega))
      have HN8 := Lib.hid (only_heap HN7.out ho8 (by omega))
      have HQ8 := Lib.hid (only_heap HQ7.out ho8 (by omega))
      have HO8 := Lib.hid (HO7.out.only ho8 (Nat.le_refl _))
      clear gg8 ho8 HR7 HZ7 HN7 HQ7 HO7
      clear k11 n0 n1 n2
      obtain ⟨k0, k1, k2, k3, k4, k5, k6, k7, k8, k9, k10, k11, k12⟩ := cells13 HR8.out.row
      go_wp2_with (refine wpList_store_whole rfl 80 (.tmp 12) (.tmp 142) rfl (w.heap.size + 3) (runL rv c { a with naks := a.naks + 1 } (.slice aa an ac) v6) rfl rfl 80 _ HZ8.out sizeRun rfl (runL_one H1.out rfl HV6.out) ?_)
      intro wz gz hoz
      have HZZ := Lib.hid gz
      have HSS := Lib.hid (HR8.out.st.off HZ8.out (Nat.le_trans HLW.out (Nat.le_add_right _ 3)) hoz)
      have HOO := Lib.hid (HO8.out.only hoz (Nat.le_add_right _ 3))
      clear gz hoz k0 k1 k2 k3 k4 k5 k6 k7 k8 k9 k10 k11 k12
      go_wp2_with fail
      refine bodyPost_ret (v := .agg (runL rv c { a with naks := a.naks + 1 } (.slice aa an ac) v6).toArray) (results_cell_row (P := Tryz.prog) (fn := Tryz.f34) rfl _ _ (w.heap.size + 3) 80 _ (0, 0) _ rfl HZZ.out Tryz.underlying80 rfl sizeRun) rfl ?_
      refine ⟨v6, (os ++ [⟨nc, ni, .slice na nn nk, nl⟩]), ?_, HSS.out, ?_, HOO.out⟩
      · rw [HX.out]
      · rw [HX.out]
        try (first | rfl | (rw [plainC_append]; rfl))
    · have hx : ¬ (nc = 3 ∧ a.naks < 1000) := fun h => hn h.2
      have HX : Hid ((act c L (⟨qc, qi, ql⟩ : QC) (⟨nc, ni, nl⟩ : QC) t ⟨a, plainC os⟩ 9) = ⟨a, plainC os ++ [(⟨nc, ni, nl⟩ : QC)]⟩) := by show (⟨{ a with naks := if nc = 3 ∧ a.naks < 1000 then a.naks + 1 else a.naks }, plainC os ++ [(⟨nc, ni, nl⟩ : QC)]⟩ : Rn) = _; rw [if_neg hx]
      clear hx hk
      go_enter Tryz.func34, Tryz.ntmps34
      go_upto_region 1 with fail
      obtain ⟨w1, hw1⟩ : ∃ x, x = ((((w.alloc (.cells #[rv, .int .i64 c.conf, .int .i64 c.term, .int .i64 c.fail, .int .i64 c.wait, .int .i64 a.st, .int .i64 a.id, .int .i64 a.req, .slice aa an ac, .int .i64 a.count, .int .i64 a.timer, .int .i64 a.naks, ov] 80)).alloc (.cells #[.int .i64 qc, .int .i64 qi, .slice qa qn qk] 32)).alloc (.cells #[.int .i64 nc, .int .i64 ni, .slice na nn nk] 32)).alloc (.cells #[.slice none 0 0, .int .i64 0, .int .i64 0, .int .i64 0, .int .i64 0, .int .i64 0, .int .i64 0, .int .i64 0, .slice none 0 0, .int .i64 0, .int .i64 0, .int .i64 0, .slice none 0 0] 80)) := ⟨_, rfl⟩
      rw [← hw1] at HR0 HQ0 HN0 HZ0 HO0 ⊢
      clear hw1
      obtain ⟨k0, k1, k2, k3, k4, k5, k6, k7, k8, k9, k10, k11, k12⟩ := cells13 HR0.out.row
      clear k0 k1 k2 k3 k4 k5 k6 k7 k8 k9 k10 k11
      rw [HEO.out] at k12
      obtain ⟨n0, n1, n2⟩ := cells3 HN0.out
      have hal10 : Gr w1 (w1.alloc (.cells #[.int .i64 nc, .int .i64 ni, .slice na nn nk] 32)) := (Gr.refl _).alloc _
      have HAL10 := Lib.hid hal10
      have HRD10 : Hid (Rd (w1.alloc (.cells #[.int .i64 nc, .int .i64 ni, .slice na nn nk] 32)) 3 (.slice (some ⟨w1.heap.size, 0, none⟩) 1 1) 1 [.int .i64 nc, .int .i64 ni, .slice na nn nk]) := rd_new w1 [.int .i64 nc, .int .i64 ni, .slice na nn nk] 32 1 3 rfl (by decide)
      have HOWN10 : Hid ((w1.alloc (.cells #[.int .i64 nc, .int .i64 ni, .slice na nn nk] 32)).ownsRow w0.heap.size 32 3 (.slice oa N oc) N (flatC os)) := by
        have := (HR0.out.gr hal10).st.out.own
        rw [← HNN.out, HEO.out] at this
        exact this
      have HSZ10 : Hid (w0.heap.size ≤ (w1.alloc (.cells #[.int .i64 nc, .int .i64 ni, .slice na nn nk] 32)).heap.size) := (HR0.out.gr hal10).st.old.size
      have HGOT10 : Hid (Got w1 w0.heap.size (.slice na nn nk) (nl)) := .inr ⟨w0, Nat.le_refl _, HI.out.n, HR0.out.st.old⟩
      clear hal10
      go_wp2_with (at_builtin; refine wpList_append_gr _ rfl (.tmp 79) (.tmp 81) 35 rfl w0.heap.size 32 i0 _ 3 40 Tryz.underlying35 hi hz0 hz1 hz2 rfl (by decide) _ N _ rfl HOWN10.out _ 1 _ rfl HRD10.out (one_ctl _ _ rfl) HBY.out (by decide) HSZ10.out ?_)
      intro v10 x10 ho10 hg10
      rw [← HEO.out] at hg10
      have hown10 := HOWN10.out
      rw [← HEO.out] at hown10
      have hr10 := HR0.out.gr HAL10.out
      have HROW10 : Hid (x10.heap[w.heap.size]? = some (.cells (runL rv c a (.slice aa an ac) ov).toArray 80 (0, 0))) := grown_heap hown10 hg10 hr10.row (by decide)
      have HS10 : Hid (Rs w0 x10 v10 (os ++ [⟨nc, ni, .slice na nn nk, nl⟩]) dv L) := hr10.st.sent (t := ⟨nc, ni, .slice na nn nk, nl⟩) (Got.below HGOT10.out HR0.out.st.old.size HAL10.out) (by rw [← HNN.out]; exact ho10) hg10
      have HZx10 := Lib.hid (grown_heap hown10 hg10 (heap_below HZ0.out HAL10.out) (by decide))
      have HNx10 : Hid (x10.heap[w.heap.size + 2]? = some (.cells #[.int .i64 nc, .int .i64 ni, .slice na nn nk] 32)) := by
        have hb := heap_below HN0.out HAL10.out
        exact (hg10.block _ (Array.getElem?_eq_some_iff.1 hb).1 (fun e => by have := HOLT.out _ e.symm; omega)).trans hb
      have HQx10 : Hid (x10.heap[w.heap.size + 1]? = some (.cells #[.int .i64 qc, .int .i64 qi, .slice qa qn qk] 32)) := by
        have hb := heap_below HQ0.out HAL10.out
        exact (hg10.block _ (Array.getElem?_eq_some_iff.1 hb).1 (fun e => by have := HOLT.out _ e.symm; omega)).trans hb
      have HV10 : Hid (v10.oneCell' = true) := own_one ho10
      have HOx10 := Lib.hid ((HO0.out.trans (Oth.gr HAL10.out)).grown hg10)
      clear ho10 hg10 hown10 hr10 HR0 HZ0 HN0 HQ0 HO0 HAL10 HRD10 HOWN10 HSZ10 HGOT10
      clear k12 n0 n1 n2
      go_wp2_with (refine wpList_store_cell rfl 35 (.tmp 83) (.tmp 82) rfl w.heap.size 12 v10 rfl rfl 80 _ HROW10.out sizeCs (by simp [runL]) HV10.out ?_)
      intro u11 gg11 ho11
      have HR11 : Hid (Rb w0 u11 w.heap.size rv (.slice aa an ac) c a v10 (os ++ [⟨nc, ni, .slice na nn nk, nl⟩]) dv L) := ⟨gg11, HLW.out, HS10.out.off HROW10.out HLW.out ho11⟩
      have HZ11 := Lib.hid (only_heap HZx10.out ho11 (by omega))
      have HN11 := Lib.hid (only_heap HNx10.out ho11 (by omega))
      have HQ11 := Lib.hid (only_heap HQx10.out ho11 (by omega))
      have HO11 := Lib.hid (HOx10.out.only ho11 (Nat.le_refl _))
      clear gg11 ho11 HROW10 HS10 HZx10 HNx10 HQx10 HOx10
      obtain ⟨k0, k1, k2, k3, k4, k5, k6, k7, k8, k9, k10, k11, k12⟩ := cells13 HR11.out.row
      clear k0 k1 k2 k3 k4 k5 k6 k7 k8 k9 k10 k12
      obtain ⟨n0, n1, n2⟩ := cells3 HN11.out
      obtain ⟨k0, k1, k2, k3, k4, k5, k6, k7, k8, k9, k10, k11, k12⟩ := cells13 HR11.out.row
      go_wp2_with (refine wpList_store_whole rfl 80 (.tmp 12) (.tmp 142) rfl (w.heap.size + 3) (runL rv c a (.slice aa an ac) v10) rfl rfl 80 _ HZ11.out sizeRun rfl (runL_one H1.out rfl HV10.out) ?_)
      intro wz gz hoz
      have HZZ := Lib.hid gz
      have HSS := Lib.hid (HR11.out.st.off HZ11.out (Nat.le_trans HLW.out (Nat.le_add_right _ 3)) hoz)
      have HOO := Lib.hid (HO11.out.only hoz (Nat.le_add_right _ 3))
      clear gz hoz k0 k1 k2 k3 k4 k5 k6 k7 k8 k9 k10 k11 k12
      go_wp2_with fail
      refine bodyPost_ret (v := .agg (runL rv c a (.slice aa an ac) v10).toArray) (results_cell_row (P := Tryz.prog) (fn := Tryz.f34) rfl _ _ (w.heap.size + 3) 80 _ (0, 0) _ rfl HZZ.out Tryz.underlying80 rfl sizeRun) rfl ?_
      refine ⟨v10, (os ++ [⟨nc, ni, .slice na nn nk, nl⟩]), ?_, HSS.out, ?_, HOO.out⟩
      · rw [HX.out]
      · rw [HX.out]
        try (first | rfl | (rw [plainC_append]; rfl))
  · have hk3 : (nc == 3) = false := by simpa using hk
    have hx : ¬ (nc = 3 ∧ a.naks < 1000) := fun h => hk h.1
    have HX : Hid ((act c L (⟨qc, qi, ql⟩ : QC) (⟨nc, ni, nl⟩ : QC) t ⟨a, plainC os⟩ 9) = ⟨a, plainC os ++ [(⟨nc, ni, nl⟩ : QC)]⟩) := by show (⟨{ a with naks := if nc = 3 ∧ a.naks < 1000 then a.naks + 1 else a.naks }, plainC os ++ [(⟨nc, ni, nl⟩ : QC)]⟩ : Rn) = _; rw [if_neg hx]
    clear hx hk
    go_enter Tryz.func34, Tryz.ntmps34
    go_upto_region 1 with fail
    obtain ⟨w1, hw1⟩ : ∃ x, x = ((((w.alloc (.cells #[rv, .int .i64 c.conf, .int .i64 c.term, .int .i64 c.fail, .int .i64 c.wait, .int .i64 a.st, .int .i64 a.id, .int .i64 a.req, .slice aa an ac, .int .i64 a.count, .int .i64 a.timer, .int .i64 a.naks, ov] 80)).alloc (.cells #[.int .i64 qc, .int .i64 qi, .slice qa qn qk] 32)).alloc (.cells #[.int .i64 nc, .int .i64 ni, .slice na nn nk] 32)).alloc (.cells #[.slice none 0 0, .int .i64 0, .int .i64 0, .int .i64 0, .int .i64 0, .int .i64 0, .int .i64 0, .int .i64 0, .slice none 0 0, .int .i64 0, .int .i64 0, .int .i64 0, .slice none 0 0] 80)) := ⟨_, rfl⟩
    rw [← hw1] at HR0 HQ0 HN0 HZ0 HO0 ⊢
    clear hw1
    obtain ⟨k0, k1, k2, k3, k4, k5, k6, k7, k8, k9, k10, k11, k12⟩ := cells13 HR0.out.row
    clear k0 k1 k2 k3 k4 k5 k6 k7 k8 k9 k10 k11
    rw [HEO.out] at k12
    obtain ⟨n0, n1, n2⟩ := cells3 HN0.out
    have hal13 : Gr w1 (w1.alloc (.cells #[.int .i64 nc, .int .i64 ni, .slice na nn nk] 32)) := (Gr.refl _).alloc _
    have HAL13 := Lib.hid hal13
    have HRD13 : Hid (Rd (w1.alloc (.cells #[.int .i64 nc, .int .i64 ni, .slice na nn nk] 32)) 3 (.slice (some ⟨w1.heap.size, 0, none⟩) 1 1) 1 [.int .i64 nc, .int .i64 ni, .slice na nn nk]) := rd_new w1 [.int .i64 nc, .int .i64 ni, .slice na nn nk] 32 1 3 rfl (by decide)
    have HOWN13 : Hid ((w1.alloc (.cells #[.int .i64 nc, .int .i64 ni, .slice na nn nk] 32)).ownsRow w0.heap.size 32 3 (.slice oa N oc) N (flatC os)) := by
      have := (HR0.out.gr hal13).st.out.own
      rw [← HNN.out, HEO.out] at this
      exact this
    have HSZ13 : Hid (w0.heap.size ≤ (w1.alloc (.cells #[.int .i64 nc, .int .i64 ni, .slice na nn nk] 32)).heap.size) := (HR0.out.gr hal13).st.old.size
    have HGOT13 : Hid (Got w1 w0.heap.size (.slice na nn nk) (nl)) := .inr ⟨w0, Nat.le_refl _, HI.out.n, HR0.out.st.old⟩
    clear hal13
    go_wp2_with (at_builtin; refine wpList_append_gr _ rfl (.tmp 79) (.tmp 81) 35 rfl w0.heap.size 32 i0 _ 3 40 Tryz.underlying35 hi hz0 hz1 hz2 rfl (by decide) _ N _ rfl HOWN13.out _ 1 _ rfl HRD13.out (one_ctl _ _ rfl) HBY.out (by decide) HSZ13.out ?_)
    intro v13 x13 ho13 hg13
    rw [← HEO.out] at hg13
    have hown13 := HOWN13.out
    rw [← HEO.out] at hown13
    have hr13 := HR0.out.gr HAL13.out
    have HROW13 : Hid (x13.heap[w.heap.size]? = some (.cells (runL rv c a (.slice aa an ac) ov).toArray 80 (0, 0))) := grown_heap hown13 hg13 hr13.row (by decide)
    have HS13 : Hid (Rs w0 x13 v13 (os ++ [⟨nc, ni, .slice na nn nk, nl⟩]) dv L) := hr13.st.sent (t := ⟨nc, ni, .slice na nn nk, nl⟩) (Got.below HGOT13.out HR0.out.st.old.size HAL13.out) (by rw [← HNN.out]; exact ho13) hg13
    have HZx13 := Lib.hid (grown_heap hown13 hg13 (heap_below HZ0.out HAL13.out) (by decide))
    have HNx13 : Hid (x13.heap[w.heap.size + 2]? = some (.cells #[.int .i64 nc, .int .i64 ni, .slice na nn nk] 32)) := by
      have hb := heap_below HN0.out HAL13.out
      exact (hg13.block _ (Array.getElem?_eq_some_iff.1 hb).1 (fun e => by have := HOLT.out _ e.symm; omega)).trans hb
    have HQx13 : Hid (x13.heap[w.heap.size + 1]? = some (.cells #[.int .i64 qc, .int .i64 qi, .slice qa qn qk] 32)) := by
      have hb := heap_below HQ0.out HAL13.out
      exact (hg13.block _ (Array.getElem?_eq_some_iff.1 hb).1 (fun e => by have := HOLT.out _ e.symm; omega)).trans hb
    have HV13 : Hid (v13.oneCell' = true) := own_one ho13
    have HOx13 := Lib.hid ((HO0.out.trans (Oth.gr HAL13.out)).grown hg13)
    clear ho13 hg13 hown13 hr13 HR0 HZ0 HN0 HQ0 HO0 HAL13 HRD13 HOWN13 HSZ13 HGOT13
    clear k12 n0 n1 n2
    go_wp2_with (refine wpList_store_cell rfl 35 (.tmp 83) (.tmp 82) rfl w.heap.size 12 v13 rfl rfl 80 _ HROW13.out sizeCs (by simp [runL]) HV13.out ?_)
    intro u14 gg14 ho14
    have HR14 : Hid (Rb w0 u14 w.heap.size rv (.slice aa an ac) c a v13 (os ++ [⟨nc, ni, .slice na nn nk, nl⟩]) dv L) := ⟨gg14, HLW.out, HS13.out.off HROW13.out HLW.out ho14⟩
    have HZ14 := Lib.hid (only_heap HZx13.out ho14 (by omega))
    have HN14 := Lib.hid (only_heap HNx13.out ho14 (by omega))
    have HQ14 := Lib.hid (only_heap HQx13.out ho14 (by omega))
    have HO14 := Lib.hid (HOx13.out.only ho14 (Nat.le_refl _))
    clear gg14 ho14 HROW13 HS13 HZx13 HNx13 HQx13 HOx13
    obtain ⟨n0, n1, n2⟩ := cells3 HN14.out
    obtain ⟨k0, k1, k2, k3, k4, k5, k6, k7, k8, k9, k10, k11, k12⟩ := cells13 HR14.out.row
    go_wp2_with (refine wpList_store_whole rfl 80 (.tmp 12) (.tmp 142) rfl (w.heap.size + 3) (runL rv c a (.slice aa an ac) v13) rfl rfl 80 _ HZ14.out sizeRun rfl (runL_one H1.out rfl HV13.out) ?_)
    intro wz gz hoz
    have HZZ := Lib.hid gz
    have HSS := Lib.hid (HR14.out.st.off HZ14.out (Nat.le_trans HLW.out (Nat.le_add_right _ 3)) hoz)
    have HOO := Lib.hid (HO14.out.only hoz (Nat.le_add_right _ 3))
    clear gz hoz k0 k1 k2 k3 k4 k5 k6 k7 k8 k9 k10 k11 k12
    go_wp2_with fail
    refine bodyPost_ret (v := .agg (runL rv c a (.slice aa an ac) v13).toArray) (results_cell_row (P := Tryz.prog) (fn := Tryz.f34) rfl _ _ (w.heap.size + 3) 80 _ (0, 0) _ rfl HZZ.out Tryz.underlying80 rfl sizeRun) rfl ?_
    refine ⟨v13, (os ++ [⟨nc, ni, .slice na nn nk, nl⟩]), ?_, HSS.out, ?_, HOO.out⟩
    · rw [HX.out]
    · rw [HX.out]
      try (first | rfl | (rw [plainC_append]; rfl))
end Go.Proofs.YtclplbapedmihaaGreat.Au
namespace Go.Proofs.YtclplbapedmihaaGreat.Au
set_option maxRecDepth 4000
open Go.RowKit O Ng
open Go.Proofs.YtclplbapedmihaaGreat.Fs (AO AO.ar AO.nil AR)
set_option linter.unusedVariables false
set_option linter.unusedSimpArgs false
set_option maxRecDepth 100000 in
set_option maxHeartbeats 8000000 in
theorem ract_10 (rv : Value) (h1 : rv.oneCell' = true) (c : Cfg) (a : Aut) (aa : Option Addr) (an ac : Nat) (ts : List Tg) (ov : Value) (os : List Ct) (dv : Value) (L : List Int) (qc qi : Int) (qa : Option Addr) (qn qk : Nat) (ql : List UInt8) (nc ni : Int) (na : Option Addr) (nn nk : Nat) (nl : List UInt8) (t : Int) (w0 w : World) (h : Rs w0 w ov os dv L) (I : AcIn w0 c a aa an ac ts L os qa qn qk ql na nn nk nl t) :
    Calls Tryz.prog 34 #[.agg #[rv, .int .i64 c.conf, .int .i64 c.term, .int .i64 c.fail, .int .i64 c.wait, .int .i64 a.st, .int .i64 a.id, .int .i64 a.req, .slice aa an ac, .int .i64 a.count, .int .i64 a.timer, .int .i64 a.naks, ov], .int .i64 10, dv, .agg #[.int .i64 qc, .int .i64 qi, .slice qa qn qk], .agg #[.int .i64 nc, .int .i64 ni, .slice na nn nk], .int .i64 t] w (ActR rv c (.slice aa an ac) dv L (act c L (⟨qc, qi, ql⟩ : QC) (⟨nc, ni, nl⟩ : QC) t ⟨a, plainC os⟩ 10) w0 ov w) := by
  obtain ⟨i0, hi, hz0, hz1, hz2⟩ := info_parts infoC
  obtain ⟨oa, oc, eo, _, _⟩ := h.out.cr.shape
  obtain ⟨N, hN⟩ : ∃ N, N = os.length := ⟨_, rfl⟩
  rw [← hN] at eo
  have HEO := Lib.hid eo
  have HNN := Lib.hid hN
  have HBY : Hid ((N + 1) * 40 ≤ 140737488355328) := by show _ ≤ _; have := I.outs; omega
  have hl := h.old.size
  have HLW := Lib.hid hl
  have HI := Lib.hid I
  have HOLT : Hid (∀ k, ov.ownBlock = some k → k < w.heap.size) := fun k hk => own_lt h.out.own hk
  have BA : Gr w ((((w.alloc (.cells #[rv, .int .i64 c.conf, .int .i64 c.term, .int .i64 c.fail, .int .i64 c.wait, .int .i64 a.st, .int .i64 a.id, .int .i64 a.req, .slice aa an ac, .int .i64 a.count, .int .i64 a.timer, .int .i64 a.naks, ov] 80)).alloc (.cells #[.int .i64 qc, .int .i64 qi, .slice qa qn qk] 32)).alloc (.cells #[.int .i64 nc, .int .i64 ni, .slice na nn nk] 32)).alloc (.cells #[.slice none 0 0, .int .i64 0, .int .i64 0, .int .i64 0, .int .i64 0, .int .i64 0, .int .i64 0, .int .i64 0, .slice none 0 0, .int .i64 0, .int .i64 0, .int .i64 0, .slice none 0 0] 80)) := ((((Gr.refl w).alloc _).alloc _).alloc _).alloc _
  obtain ⟨g0, g1, g2, g3⟩ := heap4 w (.cells #[rv, .int .i64 c.conf, .int .i64 c.term, .int .i64 c.fail, .int .i64 c.wait, .int .i64 a.st, .int .i64 a.id, .int .i64 a.req, .slice aa an ac, .int .i64 a.count, .int .i64 a.timer, .int .i64 a.naks, ov] 80) (.cells #[.int .i64 qc, .int .i64 qi, .slice qa qn qk] 32) (.cells #[.int .i64 nc, .int .i64 ni, .slice na nn nk] 32) (.cells #[.slice none 0 0, .int .i64 0, .int .i64 0, .int .i64 0, .int .i64 0, .int .i64 0, .int .i64 0, .int .i64 0, .slice none 0 0, .int .i64 0, .int .i64 0, .int .i64 0, .slice none 0 0] 80)
  have HR0 : Hid (Rb w0 ((((w.alloc (.cells #[rv, .int .i64 c.conf, .int .i64 c.term, .int .i64 c.fail, .int .i64 c.wait, .int .i64 a.st, .int .i64 a.id, .int .i64 a.req, .slice aa an ac, .int .i64 a.count, .int .i64 a.timer, .int .i64 a.naks, ov] 80)).alloc (.cells #[.int .i64 qc, .int .i64 qi, .slice qa qn qk] 32)).alloc (.cells #[.int .i64 nc, .int .i64 ni, .slice na nn nk] 32)).alloc (.cells #[.slice none 0 0, .int .i64 0, .int .i64 0, .int .i64 0, .int .i64 0, .int .i64 0, .int .i64 0, .int .i64 0, .slice none 0 0, .int .i64 0, .int .i64 0, .int .i64 0, .slice none 0 0] 80)) w.heap.size rv (.slice aa an ac) c a ov os dv L) := ⟨g0, hl, h.gr BA⟩
  have HQ0 := Lib.hid g1
  have HO0 : Hid (Oth ov w ((((w.alloc (.cells #[rv, .int .i64 c.conf, .int .i64 c.term, .int .i64 c.fail, .int .i64 c.wait, .int .i64 a.st, .int .i64 a.id, .int .i64 a.req, .slice aa an ac, .int .i64 a.count, .int .i64 a.timer, .int .i64 a.naks, ov] 80)).alloc (.cells #[.int .i64 qc, .int .i64 qi, .slice qa qn qk] 32)).alloc (.cells #[.int .i64 nc, .int .i64 ni, .slice na nn nk] 32)).alloc (.cells #[.slice none 0 0, .int .i64 0, .int .i64 0, .int .i64 0, .int .i64 0, .int .i64 0, .int .i64 0, .int .i64 0, .slice none 0 0, .int .i64 0, .int .i64 0, .int .i64 0, .slice none 0 0] 80))) := Oth.gr BA
  have HN0 := Lib.hid g2
  have HZ0 := Lib.hid g3
  have H1 := Lib.hid h1
  clear eo hN h hl I BA g0 g1 g2 g3 h1
  have HV0 : Hid (ov.oneCell' = true) := by show _ = _; rw [HEO.out]; rfl
  have HX : Hid ((act c L (⟨qc, qi, ql⟩ : QC) (⟨nc, ni, nl⟩ : QC) t ⟨a, plainC os⟩ 10) = ⟨(askedA c t a), plainC os ++ [⟨5, up a.id, []⟩]⟩) := rfl
  go_enter Tryz.func34, Tryz.ntmps34
  go_upto_region 1 with fail
  obtain ⟨w1, hw1⟩ : ∃ x, x = ((((w.alloc (.cells #[rv, .int .i64 c.conf, .int .i64 c.term, .int .i64 c.fail, .int .i64 c.wait, .int .i64 a.st, .int .i64 a.id, .int .i64 a.req, .slice aa an ac, .int .i64 a.count, .int .i64 a.timer, .int .i64 a.naks, ov] 80)).alloc (.cells #[.int .i64 qc, .int .i64 qi, .slice qa qn qk] 32)).alloc (.cells #[.int .i64 nc, .int .i64 ni, .slice na nn nk] 32)).alloc (.cells #[.slice none 0 0, .int .i64 0, .int .i64 0, .int .i64 0, .int .i64 0, .int .i64 0, .int .i64 0, .int .i64 0, .slice none 0 0, .int .i64 0, .int .i64 0, .int .i64 0, .slice none 0 0] 80)) := ⟨_, rfl⟩
  rw [← hw1] at HR0 HQ0 HN0 HZ0 HO0 ⊢
  clear hw1
  clear HN0 HQ0
  have HGA : Hid (Got w1 w0.heap.size (.slice none 0 0) ([])) := .inl (OwnB.nil _ _ _)
  have ASK := Lib.hid (rasked_any rv (.slice aa an ac) H1.out rfl c a ov os dv L 5 t none 0 0 ([]) w0 w1 HR0.out.st HGA.out HI.out.id HI.out.count HI.out.tick HI.out.wait (by have := HI.out.outs; omega))
  obtain ⟨k0, k1, k2, k3, k4, k5, k6, k7, k8, k9, k10, k11, k12⟩ := cells13 HR0.out.row
  go_wp2_with fail
  refine ASK.out.mono ?_
  rintro e wa ⟨va, rfl, hsa, hoa⟩
  have hnr := own_ne_cell HR0.out.st.out.own HR0.out.row (by decide)
  have hnz := own_ne_cell HR0.out.st.out.own HZ0.out (by decide)
  have HROWA := Lib.hid (hoa.2 _ _ HR0.out.row hnr)
  have HZA := Lib.hid (hoa.2 _ _ HZ0.out hnz)
  have HSA := Lib.hid hsa
  have HOA := Lib.hid (HO0.out.trans hoa)
  have HVA : Hid (va.oneCell' = true) := own_one hsa.out.own
  clear hsa hoa hnr hnz ASK HGA HR0 HZ0 HO0 k0 k1 k2 k3 k4 k5 k6 k7 k8 k9 k10 k11 k12
  go_wp2_with (refine wpList_store_whole rfl 80 (.tmp 6) (.tmp 65) rfl w.heap.size (runL rv c (askedA c t a) (.slice aa an ac) va) rfl rfl 80 _ HROWA.out sizeRun rfl (runL_one H1.out rfl HVA.out) ?_)
  intro wb gb hob
  have HRB : Hid (Rb w0 wb w.heap.size rv (.slice aa an ac) c (askedA c t a) va (os ++ [⟨5, up a.id, .slice none 0 0, []⟩]) dv L) := ⟨gb, HLW.out, HSA.out.off HROWA.out HLW.out hob⟩
  have HZB := Lib.hid (only_heap HZA.out hob (by omega))
  have HOB := Lib.hid (HOA.out.only hob (Nat.le_refl _))
  clear gb hob HROWA HZA HSA HOA
  obtain ⟨k0, k1, k2, k3, k4, k5, k6, k7, k8, k9, k10, k11, k12⟩ := cells13 HRB.out.row
  go_wp2_with (refine wpList_store_whole rfl 80 (.tmp 12) (.tmp 142) rfl (w.heap.size + 3) (runL rv c (askedA c t a) (.slice aa an ac) va) rfl rfl 80 _ HZB.out sizeRun rfl (runL_one H1.out rfl HVA.out) ?_)
  intro wz gz hoz
  have HZZ := Lib.hid gz
  have HSS := Lib.hid (HRB.out.st.off HZB.out (Nat.le_trans HLW.out (Nat.le_add_right _ 3)) hoz)
  have HOO := Lib.hid (HOB.out.only hoz (Nat.le_add_right _ 3))
  clear gz hoz k0 k1 k2 k3 k4 k5 k6 k7 k8 k9 k10 k11 k12
  go_wp2_with fail
  refine bodyPost_ret (v := .agg (runL rv c (askedA c t a) (.slice aa an ac) va).toArray) (results_cell_row (P := Tryz.prog) (fn := Tryz.f34) rfl _ _ (w.heap.size + 3) 80 _ (0, 0) _ rfl HZZ.out Tryz.underlying80 rfl sizeRun) rfl ?_
  refine ⟨va, (os ++ [⟨5, up a.id, .slice none 0 0, []⟩]), ?_, HSS.out, ?_, HOO.out⟩
  · rw [HX.out]
  · rw [HX.out]
    try (first | rfl | (rw [plainC_append]; rfl))
set_option maxRecDepth 100000 in
set_option maxHeartbeats 8000000 in
theorem ract_7 (rv : Value) (h1 : rv.oneCell' = true) (c : Cfg) (a : Aut) (aa : Option Addr) (an ac : Nat) (ts : List Tg) (ov : Value) (os : List Ct) (dv : Value) (L : List Int) (qc qi : Int) (qa : Option Addr) (qn qk : Nat) (ql : List UInt8) (nc ni : Int) (na : Option Addr) (nn nk : Nat) (nl : List UInt8) (t : Int) (w0 w : World) (h : Rs w0 w ov os dv L) (I : AcIn w0 c a aa an ac ts L os qa qn qk ql na nn nk nl t) :
    Calls Tryz.prog 34 #[.agg #[rv, .int .i64 c.conf, .int .i64 c.term, .int .i64 c.fail, .int .i64 c.wait, .int .i64 a.st, .int .i64 a.id, .int .i64 a.req, .slice aa an ac, .int .i64 a.count, .int .i64 a.timer, .int .i64 a.naks, ov], .int .i64 7, dv, .agg #[.int .i64 qc, .int .i64 qi, .slice qa qn qk], .agg #[.int .i64 nc, .int .i64 ni, .slice na nn nk], .int .i64 t] w (ActR rv c (.slice aa an ac) dv L (act c L (⟨qc, qi, ql⟩ : QC) (⟨nc, ni, nl⟩ : QC) t ⟨a, plainC os⟩ 7) w0 ov w) := by
  obtain ⟨i0, hi, hz0, hz1, hz2⟩ := info_parts infoC
  obtain ⟨oa, oc, eo, _, _⟩ := h.out.cr.shape
  obtain ⟨N, hN⟩ : ∃ N, N = os.length := ⟨_, rfl⟩
  rw [← hN] at eo
  have HEO := Lib.hid eo
  have HNN := Lib.hid hN
  have HBY : Hid ((N + 1) * 40 ≤ 140737488355328) := by show _ ≤ _; have := I.outs; omega
  have hl := h.old.size
  have HLW := Lib.hid hl
  have HI := Lib.hid I
  have HOLT : Hid (∀ k, ov.ownBlock = some k → k < w.heap.size) := fun k hk => own_lt h.out.own hk
  have BA : Gr w ((((w.alloc (.cells #[rv, .int .i64 c.conf, .int .i64 c.term, .int .i64 c.fail, .int .i64 c.wait, .int .i64 a.st, .int .i64 a.id, .int .i64 a.req, .slice aa an ac, .int .i64 a.count, .int .i64 a.timer, .int .i64 a.naks, ov] 80)).alloc (.cells #[.int .i64 qc, .int .i64 qi, .slice qa qn qk] 32)).alloc (.cells #[.int .i64 nc, .int .i64 ni, .slice na nn nk] 32)).alloc (.cells #[.slice none 0 0, .int .i64 0, .int .i64 0, .int .i64 0, .int .i64 0, .int .i64 0, .int .i64 0, .int .i64 0, .slice none 0 0, .int .i64 0, .int .i64 0, .int .i64 0, .slice none 0 0] 80)) := ((((Gr.refl w).alloc _).alloc _).alloc _).alloc _
  obtain ⟨g0, g1, g2, g3⟩ := heap4 w (.cells #[rv, .int .i64 c.conf, .int .i64 c.term, .int .i64 c.fail, .int .i64 c.wait, .int .i64 a.st, .int .i64 a.id, .int .i64 a.req, .slice aa an ac, .int .i64 a.count, .int .i64 a.timer, .int .i64 a.naks, ov] 80) (.cells #[.int .i64 qc, .int .i64 qi, .slice qa qn qk] 32) (.cells #[.int .i64 nc, .int .i64 ni, .slice na nn nk] 32) (.cells #[.slice none 0 0, .int .i64 0, .int .i64 0, .int .i64 0, .int .i64 0, .int .i64 0, .int .i64 0, .int .i64 0, .slice none 0 0, .int .i64 0, .int .i64 0, .int .i64 0, .slice none 0 0] 80)
  have HR0 : Hid (Rb w0 ((((w.alloc (.cells #[rv, .int .i64 c.conf, .int .i64 c.term, .int .i64 c.fail, .int .i64 c.wait, .int .i64 a.st, .int .i64 a.id, .int .i64 a.req, .slice aa an ac, .int .i64 a.count, .int .i64 a.timer, .int .i64 a.naks, ov] 80)).alloc (.cells #[.int .i64 qc, .int .i64 qi, .slice qa qn qk] 32)).alloc (.cells #[.int .i64 nc, .int .i64 ni, .slice na nn nk] 32)).alloc (.cells #[.slice none 0 0, .int .i64 0, .int .i64 0, .int .i64 0, .int .i64 0, .int .i64 0, .int .i64 0, .int .i64 0, .slice none 0 0, .int .i64 0, .int .i64 0, .int .i64 0, .slice none 0 0] 80)) w.heap.size rv (.slice aa an ac) c a ov os dv L) := ⟨g0, hl, h.gr BA⟩
  have HQ0 := Lib.hid g1
  have HO0 : Hid (Oth ov w ((((w.alloc (.cells #[rv, .int .i64 c.conf, .int .i64 c.term, .int .i64 c.fail, .int .i64 c.wait, .int .i64 a.st, .int .i64 a.id, .int .i64 a.req, .slice aa an ac, .int .i64 a.count, .int .i64 a.timer, .int .i64 a.naks, ov] 80)).alloc (.cells #[.int .i64 qc, .int .i64 qi, .slice qa qn qk] 32)).alloc (.cells #[.int .i64 nc, .int .i64 ni, .slice na nn nk] 32)).alloc (.cells #[.slice none 0 0, .int .i64 0, .int .i64 0, .int .i64 0, .int .i64 0, .int .i64 0, .int .i64 0, .int .i64 0, .slice none 0 0, .int .i64 0, .int .i64 0, .int .i64 0, .slice none 0 0] 80))) := Oth.gr BA
  have HN0 := Lib.hid g2
  have HZ0 := Lib.hid g3
  have H1 := Lib.hid h1
  clear eo hN h hl I BA g0 g1 g2 g3 h1
  have HV0 : Hid (ov.oneCell' = true) := by show _ = _; rw [HEO.out]; rfl
  have HX : Hid ((act c L (⟨qc, qi, ql⟩ : QC) (⟨nc, ni, nl⟩ : QC) t ⟨a, plainC os⟩ 7) = ⟨{ askedA c t a with req := up a.id }, plainC os ++ [⟨1, up a.id, encB a.ask⟩]⟩) := rfl
  go_enter Tryz.func34, Tryz.ntmps34
  go_upto_region 1 with fail
  obtain ⟨w1, hw1⟩ : ∃ x, x = ((((w.alloc (.cells #[rv, .int .i64 c.conf, .int .i64 c.term, .int .i64 c.fail, .int .i64 c.wait, .int .i64 a.st, .int .i64 a.id, .int .i64 a.req, .slice aa an ac, .int .i64 a.count, .int .i64 a.timer, .int .i64 a.naks, ov] 80)).alloc (.cells #[.int .i64 qc, .int .i64 qi, .slice qa qn qk] 32)).alloc (.cells #[.int .i64 nc, .int .i64 ni, .slice na nn nk] 32)).alloc (.cells #[.slice none 0 0, .int .i64 0, .int .i64 0, .int .i64 0, .int .i64 0, .int .i64 0, .int .i64 0, .int .i64 0, .slice none 0 0, .int .i64 0, .int .i64 0, .int .i64 0, .slice none 0 0] 80)) := ⟨_, rfl⟩
  rw [← hw1] at HR0 HQ0 HN0 HZ0 HO0 ⊢
  clear hw1
  have EN := Lib.hid (rencode_any aa an ac ts w1 (HI.out.ask.below HR0.out.st.old) HI.out.few.1 (fun x hx => by have := HI.out.few.2 x hx; omega))
  rw [HI.out.asks] at EN
  unfold EncR at EN
  clear HN0 HQ0
  obtain ⟨k0, k1, k2, k3, k4, k5, k6, k7, k8, k9, k10, k11, k12⟩ := cells13 HR0.out.row
  clear k0 k1 k2 k3 k4 k5 k6 k7 k9 k10 k11 k12
  go_wp2_with fail
  refine EN.out.mono ?_
  rintro e w2 ⟨v2, rfl, ho2, hb2⟩
  obtain ⟨A3, L3, C3, ev, _, _, _⟩ := ho2.bs.sl
  subst ev
  have HO2 := Lib.hid (OwnB.mono ho2 HR0.out.st.old.size)
  have HR2 := Lib.hid (HR0.out.gr hb2)
  have HZ2 := Lib.hid (heap_below HZ0.out hb2)
  have HO22 := Lib.hid (HO0.out.trans (Oth.gr hb2))
  clear ho2 hb2 EN HR0 HZ0 HO0 k8
  have HGA : Hid (Got w2 w0.heap.size (.slice A3 L3 C3) (encB a.ask)) := .inl HO2.out
  have ASK := Lib.hid (rasked_any rv (.slice aa an ac) H1.out rfl c a ov os dv L 1 t A3 L3 C3 (encB a.ask) w0 w2 HR2.out.st HGA.out HI.out.id HI.out.count HI.out.tick HI.out.wait (by have := HI.out.outs; omega))
  obtain ⟨k0, k1, k2, k3, k4, k5, k6, k7, k8, k9, k10, k11, k12⟩ := cells13 HR2.out.row
  go_wp2_with fail
  refine ASK.out.mono ?_
  rintro e wa ⟨va, rfl, hsa, hoa⟩
  have hnr := own_ne_cell HR2.out.st.out.own HR2.out.row (by decide)
  have hnz := own_ne_cell HR2.out.st.out.own HZ2.out (by decide)
  have HROWA := Lib.hid (hoa.2 _ _ HR2.out.row hnr)
  have HZA := Lib.hid (hoa.2 _ _ HZ2.out hnz)
  have HSA := Lib.hid hsa
  have HOA := Lib.hid (HO22.out.trans hoa)
  have HVA : Hid (va.oneCell' = true) := own_one hsa.out.own
  clear hsa hoa hnr hnz ASK HGA HR2 HZ2 HO22 k0 k1 k2 k3 k4 k5 k6 k7 k8 k9 k10 k11 k12
  go_wp2_with (refine wpList_store_whole rfl 80 (.tmp 6) (.tmp 55) rfl w.heap.size (runL rv c (askedA c t a) (.slice aa an ac) va) rfl rfl 80 _ HROWA.out sizeRun rfl (runL_one H1.out rfl HVA.out) ?_)
  intro wb gb hob
  have HRB : Hid (Rb w0 wb w.heap.size rv (.slice aa an ac) c (askedA c t a) va (os ++ [⟨1, up a.id, .slice A3 L3 C3, encB a.ask⟩]) dv L) := ⟨gb, HLW.out, HSA.out.off HROWA.out HLW.out hob⟩
  have HZB := Lib.hid (only_heap HZA.out hob (by omega))
  have HOB := Lib.hid (HOA.out.only hob (Nat.le_refl _))
  clear gb hob HROWA HZA HSA HOA
  obtain ⟨k0, k1, k2, k3, k4, k5, k6, k7, k8, k9, k10, k11, k12⟩ := cells13 HRB.out.row
  rw [show (askedA c t a).id = up a.id from rfl] at k6
  clear k0 k1 k2 k3 k4 k5 k8 k9 k10 k11 k12
  go_wp2_with (refine wpList_store_cell rfl 3 (.tmp 60) (.tmp 58) rfl w.heap.size 7 (.int .i64 (up a.id)) rfl rfl 80 _ HRB.out.row sizeI (by simp) rfl ?_)
  intro wc gc hoc
  have HRC : Hid (Rb w0 wc w.heap.size rv (.slice aa an ac) c { askedA c t a with req := up a.id } va (os ++ [⟨1, up a.id, .slice A3 L3 C3, encB a.ask⟩]) dv L) := HRB.out.turn hoc gc
  have HZC := Lib.hid (only_heap HZB.out hoc (by omega))
  have HOC := Lib.hid (HOB.out.only hoc (Nat.le_refl _))
  clear gc hoc HRB HZB k6 k7
  obtain ⟨k0, k1, k2, k3, k4, k5, k6, k7, k8, k9, k10, k11, k12⟩ := cells13 HRC.out.row
  go_wp2_with (refine wpList_store_whole rfl 80 (.tmp 12) (.tmp 142) rfl (w.heap.size + 3) (runL rv c { askedA c t a with req := up a.id } (.slice aa an ac) va) rfl rfl 80 _ HZC.out sizeRun rfl (runL_one H1.out rfl HVA.out) ?_)
  intro wz gz hoz
  have HZZ := Lib.hid gz
  have HSS := Lib.hid (HRC.out.st.off HZC.out (Nat.le_trans HLW.out (Nat.le_add_right _ 3)) hoz)
  have HOO := Lib.hid (HOC.out.only hoz (Nat.le_add_right _ 3))
  clear gz hoz k0 k1 k2 k3 k4 k5 k6 k7 k8 k9 k10 k11 k12
  go_wp2_with fail
  refine bodyPost_ret (v := .agg (runL rv c { askedA c t a with req := up a.id } (.slice aa an ac) va).toArray) (results_cell_row (P := Tryz.prog) (fn := Tryz.f34) rfl _ _ (w.heap.size + 3) 80 _ (0, 0) _ rfl HZZ.out Tryz.underlying80 rfl sizeRun) rfl ?_
  refine ⟨va, (os ++ [⟨1, up a.id, .slice A3 L3 C3, encB a.ask⟩]), ?_, HSS.out, ?_, HOO.out⟩
  · rw [HX.out]
  · rw [HX.out]
    try (first | rfl | (rw [plainC_append]; rfl))
set_option maxRecDepth 100000 in
set_option maxHeartbeats 8000000 in
theorem ract_12 (rv : Value) (h1 : rv.oneCell' = true) (c : Cfg) (a : Aut) (aa : Option Addr) (an ac : Nat) (ts : List Tg) (ov : Value) (os : List Ct) (dv : Value) (L : List Int) (qc qi : Int) (qa : Option Addr) (qn qk : Nat) (ql : List UInt8) (nc ni : Int) (na : Option Addr) (nn nk : Nat) (nl : List UInt8) (t : Int) (w0 w : World) (h : Rs w0 w ov os dv L) (I : AcIn w0 c a aa an ac ts L os qa qn qk ql na nn nk nl t) :
    Calls Tryz.prog 34 #[.agg #[rv, .int .i64 c.conf, .int .i64 c.term, .int .i64 c.fail, .int .i64 c.wait, .int .i64 a.st, .int .i64 a.id, .int .i64 a.req, .slice aa an ac, .int .i64 a.count, .int .i64 a.timer, .int .i64 a.naks, ov], .int .i64 12, dv, .agg #[.int .i64 qc, .int .i64 qi, .slice qa qn qk], .agg #[.int .i64 nc, .int .i64 ni, .slice na nn nk], .int .i64 t] w (ActR rv c (.slice aa an ac) dv L (act c L (⟨qc, qi, ql⟩ : QC) (⟨nc, ni, nl⟩ : QC) t ⟨a, plainC os⟩ 12) w0 ov w) := by
  obtain ⟨i0, hi, hz0, hz1, hz2⟩ := info_parts infoC
  obtain ⟨oa, oc, eo, _, _⟩ := h.out.cr.shape
  obtain ⟨N, hN⟩ : ∃ N, N = os.length := ⟨_, rfl⟩
  rw [← hN] at eo
  have HEO := Lib.hid eo
  have HNN := Lib.hid hN
  have HBY : Hid ((N + 1) * 40 ≤ 140737488355328) := by show _ ≤ _; have := I.outs; omega
  have hl := h.old.size
  have HLW := Lib.hid hl
  have HI := Lib.hid I
  have HOLT : Hid (∀ k, ov.ownBlock = some k → k < w.heap.size) := fun k hk => own_lt h.out.own hk
  have BA : Gr w ((((w.alloc (.cells #[rv, .int .i64 c.conf, .int .i64 c.term, .int .i64 c.fail, .int .i64 c.wait, .int .i64 a.st, .int .i64 a.id, .int .i64 a.req, .slice aa an ac, .int .i64 a.count, .int .i64 a.timer, .int .i64 a.naks, ov] 80)).alloc (.cells #[.int .i64 qc, .int .i64 qi, .slice qa qn qk] 32)).alloc (.cells #[.int .i64 nc, .int .i64 ni, .slice na nn nk] 32)).alloc (.cells #[.slice none 0 0, .int .i64 0, .int .i64 0, .int .i64 0, .int .i64 0, .int .i64 0, .int .i64 0, .int .i64 0, .slice none 0 0, .int .i64 0, .int .i64 0, .int .i64 0, .slice none 0 0] 80)) := ((((Gr.refl w).alloc _).alloc _).alloc _).alloc _
  obtain ⟨g0, g1, g2, g3⟩ := heap4 w (.cells #[rv, .int .i64 c.conf, .int .i64 c.term, .int .i64 c.fail, .int .i64 c.wait, .int .i64 a.st, .int .i64 a.id, .int .i64 a.req, .slice aa an ac, .int .i64 a.count, .int .i64 a.timer, .int .i64 a.naks, ov] 80) (.cells #[.int .i64 qc, .int .i64 qi, .slice qa qn qk] 32) (.cells #[.int .i64 nc, .int .i64 ni, .slice na nn nk] 32) (.cells #[.slice none 0 0, .int .i64 0, .int .i64 0, .int .i64 0, .int .i64 0, .int .i64 0, .int .i64 0, .int .i64 0, .slice none 0 0, .int .i64 0, .int .i64 0, .int .i64 0, .slice none 0 0] 80)
  have HR0 : Hid (Rb w0 ((((w.alloc (.cells #[rv, .int .i64 c.conf, .int .i64 c.term, .int .i64 c.fail, .int .i64 c.wait, .int .i64 a.st, .int .i64 a.id, .int .i64 a.req, .slice aa an ac, .int .i64 a.count, .int .i64 a.timer, .int .i64 a.naks, ov] 80)).alloc (.cells #[.int .i64 qc, .int .i64 qi, .slice qa qn qk] 32)).alloc (.cells #[.int .i64 nc, .int .i64 ni, .slice na nn nk] 32)).alloc (.cells #[.slice none 0 0, .int .i64 0, .int .i64 0, .int .i64 0, .int .i64 0, .int .i64 0, .int .i64 0, .int .i64 0, .slice none 0 0, .int .i64 0, .int .i64 0, .int .i64 0, .slice none 0 0] 80)) w.heap.size rv (.slice aa an ac) c a ov os dv L) := ⟨g0, hl, h.gr BA⟩
  have HQ0 := Lib.hid g1
  have HO0 : Hid (Oth ov w ((((w.alloc (.cells #[rv, .int .i64 c.conf, .int .i64 c.term, .int .i64 c.fail, .int .i64 c.wait, .int .i64 a.st, .int .i64 a.id, .int .i64 a.req, .slice aa an ac, .int .i64 a.count, .int .i64 a.timer, .int .i64 a.naks, ov] 80)).alloc (.cells #[.int .i64 qc, .int .i64 qi, .slice qa qn qk] 32)).alloc (.cells #[.int .i64 nc, .int .i64 ni, .slice na nn nk] 32)).alloc (.cells #[.slice none 0 0, .int .i64 0, .int .i64 0, .int .i64 0, .int .i64 0, .int .i64 0, .int .i64 0, .int .i64 0, .slice none 0 0, .int .i64 0, .int .i64 0, .int .i64 0, .slice none 0 0] 80))) := Oth.gr BA
  have HN0 := Lib.hid g2
  have HZ0 := Lib.hid g3
  have H1 := Lib.hid h1
  clear eo hN h hl I BA g0 g1 g2 g3 h1
  have HV0 : Hid (ov.oneCell' = true) := by show _ = _; rw [HEO.out]; rfl
  have hid := HI.out.id
  have e2 : wrap64 (a.id + 1) = a.id + 1 := wrap_in (by omega) (by omega)
  have e3 : (a.id + 1).tmod 256 = up a.id := by rw [Int.tmod_eq_emod_of_nonneg (by omega)]; rfl
  clear hid
  obtain ⟨r, hr⟩ : ∃ r, r = rejP (⟨qc, qi, ql⟩ : QC) (up a.id) := ⟨_, rfl⟩
  have HRJ := Lib.hid hr
  have HX : Hid ((act c L (⟨qc, qi, ql⟩ : QC) (⟨nc, ni, nl⟩ : QC) t ⟨a, plainC os⟩ 12) = ⟨{ a with id := up a.id }, plainC os ++ (if r.2 = 0 then [r.1] else [])⟩) := by rw [hr]; rfl
  clear hr
  go_enter Tryz.func34, Tryz.ntmps34
  go_upto_region 1 with fail
  obtain ⟨w1, hw1⟩ : ∃ x, x = ((((w.alloc (.cells #[rv, .int .i64 c.conf, .int .i64 c.term, .int .i64 c.fail, .int .i64 c.wait, .int .i64 a.st, .int .i64 a.id, .int .i64 a.req, .slice aa an ac, .int .i64 a.count, .int .i64 a.timer, .int .i64 a.naks, ov] 80)).alloc (.cells #[.int .i64 qc, .int .i64 qi, .slice qa qn qk] 32)).alloc (.cells #[.int .i64 nc, .int .i64 ni, .slice na nn nk] 32)).alloc (.cells #[.slice none 0 0, .int .i64 0, .int .i64 0, .int .i64 0, .int .i64 0, .int .i64 0, .int .i64 0, .int .i64 0, .slice none 0 0, .int .i64 0, .int .i64 0, .int .i64 0, .slice none 0 0] 80)) := ⟨_, rfl⟩
  rw [← hw1] at HR0 HQ0 HN0 HZ0 HO0 ⊢
  clear hw1
  obtain ⟨k0, k1, k2, k3, k4, k5, k6, k7, k8, k9, k10, k11, k12⟩ := cells13 HR0.out.row
  clear k0 k1 k2 k3 k4 k5 k7 k8 k9 k10 k11 k12
  go_wp2_with (refine wpList_store_cell rfl 3 (.tmp 125) (.tmp 123) rfl w.heap.size 6 (.int .i64 (up a.id)) rfl rfl 80 _ HR0.out.row sizeI (by simp) rfl ?_)
  intro u4 gg4 ho4
  have HR4 : Hid (Rb w0 u4 w.heap.size rv (.slice aa an ac) c { a with id := up a.id } ov os dv L) := HR0.out.turn ho4 gg4
  have HZ4 := Lib.hid (only_heap HZ0.out ho4 (by omega))
  have HN4 := Lib.hid (only_heap HN0.out ho4 (by omega))
  have HQ4 := Lib.hid (only_heap HQ0.out ho4 (by omega))
  have HO4 := Lib.hid (HO0.out.only ho4 (Nat.le_refl _))
  clear gg4 ho4 HR0 HZ0 HN0 HQ0 HO0
  clear k6
  have RJ := Lib.hid (rreject_any qc qi (up a.id) qa qn qk ql HI.out.qlen.1 u4 (HI.out.q.below HR4.out.st.old) (by have := HI.out.qlen.2; omega))
  rw [← HRJ.out] at RJ
  clear e2 e3
  obtain ⟨k0, k1, k2, k3, k4, k5, k6, k7, k8, k9, k10, k11, k12⟩ := cells13 HR4.out.row
  clear k0 k1 k2 k3 k4 k5 k7 k8 k9 k10 k11 k12
  obtain ⟨q0, q1, q2⟩ := cells3 HQ4.out
  go_wp2_with fail
  refine RJ.out.mono ?_
  rintro e w2 ⟨A3, L3, C3, rfl, ho2, hb2⟩
  have hal2 : Gr w2 (w2.alloc (.cells #[.int .i64 r.1.c, .int .i64 r.1.i, .slice A3 L3 C3] 32)) := (Gr.refl _).alloc _
  have HO3 := Lib.hid (OwnB.below (OwnB.mono ho2 HR4.out.st.old.size) hal2)
  have HR3 := Lib.hid (HR4.out.gr (Gr.trans hb2 hal2))
  have HZ3 := Lib.hid (heap_below HZ4.out (Gr.trans hb2 hal2))
  have HN3 := Lib.hid (heap_below HN4.out (Gr.trans hb2 hal2))
  have HQ3 := Lib.hid (heap_below HQ4.out (Gr.trans hb2 hal2))
  have HO33 := Lib.hid (HO4.out.trans (Oth.gr (Gr.trans hb2 hal2)))
  have HP3 : Hid ((w2.alloc (.cells #[.int .i64 r.1.c, .int .i64 r.1.i, .slice A3 L3 C3] 32)).heap[w2.heap.size]? = some (.cells #[.int .i64 r.1.c, .int .i64 r.1.i, .slice A3 L3 C3] 32 (0, 0))) := heap_alloc_last _ _
  clear ho2 hb2 hal2 RJ HR4 HZ4 HN4 HQ4
  clear k6 q0 q1 q2
  go_upto_region 29 with fail
  obtain ⟨w3, hw3⟩ : ∃ x, x = w2.alloc (.cells #[.int .i64 r.1.c, .int .i64 r.1.i, .slice A3 L3 C3] 32) := ⟨_, rfl⟩
  rw [← hw3] at HO3 HR3 HZ3 HN3 HQ3 HP3 HO33 ⊢
  clear hw3
  by_cases hz : r.2 = 0
  · have HXX : Hid ((act c L (⟨qc, qi, ql⟩ : QC) (⟨nc, ni, nl⟩ : QC) t ⟨a, plainC os⟩ 12) = ⟨{ a with id := up a.id }, plainC os ++ [r.1]⟩) := by show _ = _; rw [HX.out, if_pos hz]
    have hzb : (r.2 == 0) = true := by simp [hz]
    clear HX
    obtain ⟨k0, k1, k2, k3, k4, k5, k6, k7, k8, k9, k10, k11, k12⟩ := cells13 HR3.out.row
    clear k0 k1 k2 k3 k4 k5 k6 k7 k8 k9 k10 k11
    rw [HEO.out] at k12
    obtain ⟨p0, p1, p2⟩ := cells3 HP3.out
    have hal5 : Gr w3 (w3.alloc (.cells #[.int .i64 r.1.c, .int .i64 r.1.i, .slice A3 L3 C3] 32)) := (Gr.refl _).alloc _
    have HAL5 := Lib.hid hal5
    have HRD5 : Hid (Rd (w3.alloc (.cells #[.int .i64 r.1.c, .int .i64 r.1.i, .slice A3 L3 C3] 32)) 3 (.slice (some ⟨w3.heap.size, 0, none⟩) 1 1) 1 [.int .i64 r.1.c, .int .i64 r.1.i, .slice A3 L3 C3]) := rd_new w3 [.int .i64 r.1.c, .int .i64 r.1.i, .slice A3 L3 C3] 32 1 3 rfl (by decide)
    have HOWN5 : Hid ((w3.alloc (.cells #[.int .i64 r.1.c, .int .i64 r.1.i, .slice A3 L3 C3] 32)).ownsRow w0.heap.size 32 3 (.slice oa N oc) N (flatC os)) := by
      have := (HR3.out.gr hal5).st.out.own
      rw [← HNN.out, HEO.out] at this
      exact this
    have HSZ5 : Hid (w0.heap.size ≤ (w3.alloc (.cells #[.int .i64 r.1.c, .int .i64 r.1.i, .slice A3 L3 C3] 32)).heap.size) := (HR3.out.gr hal5).st.old.size
    have HGOT5 : Hid (Got w3 w0.heap.size (.slice A3 L3 C3) (r.1.l)) := .inl HO3.out
    clear hal5
    go_wp2_with (at_builtin; refine wpList_append_gr _ rfl (.tmp 137) (.tmp 139) 35 rfl w0.heap.size 32 i0 _ 3 40 Tryz.underlying35 hi hz0 hz1 hz2 rfl (by decide) _ N _ rfl HOWN5.out _ 1 _ rfl HRD5.out (one_ctl _ _ rfl) HBY.out (by decide) HSZ5.out ?_)
    intro v5 x5 ho5 hg5
    rw [← HEO.out] at hg5
    have hown5 := HOWN5.out
    rw [← HEO.out] at hown5
    have hr5 := HR3.out.gr HAL5.out
    have HROW5 : Hid (x5.heap[w.heap.size]? = some (.cells (runL rv c { a with id := up a.id } (.slice aa an ac) ov).toArray 80 (0, 0))) := grown_heap hown5 hg5 hr5.row (by decide)
    have HS5 : Hid (Rs w0 x5 v5 (os ++ [⟨r.1.c, r.1.i, .slice A3 L3 C3, r.1.l⟩]) dv L) := hr5.st.sent (t := ⟨r.1.c, r.1.i, .slice A3 L3 C3, r.1.l⟩) (Got.below HGOT5.out HR3.out.st.old.size HAL5.out) (by rw [← HNN.out]; exact ho5) hg5
    have HZx5 := Lib.hid (grown_heap hown5 hg5 (heap_below HZ3.out HAL5.out) (by decide))
    have HNx5 : Hid (x5.heap[w.heap.size + 2]? = some (.cells #[.int .i64 nc, .int .i64 ni, .slice na nn nk] 32)) := by
      have hb := heap_below HN3.out HAL5.out
      exact (hg5.block _ (Array.getElem?_eq_some_iff.1 hb).1 (fun e => by have := HOLT.out _ e.symm; omega)).trans hb
    have HQx5 : Hid (x5.heap[w.heap.size + 1]? = some (.cells #[.int .i64 qc, .int .i64 qi, .slice qa qn qk] 32)) := by
      have hb := heap_below HQ3.out HAL5.out
      exact (hg5.block _ (Array.getElem?_eq_some_iff.1 hb).1 (fun e => by have := HOLT.out _ e.symm; omega)).trans hb
    have HV5 : Hid (v5.oneCell' = true) := own_one ho5
    have HOx5 := Lib.hid ((HO33.out.trans (Oth.gr HAL5.out)).grown hg5)
    clear ho5 hg5 hown5 hr5 HR3 HZ3 HN3 HQ3 HO33 HAL5 HRD5 HOWN5 HSZ5 HGOT5
    clear k12 p0 p1 p2
    go_wp2_with (refine wpList_store_cell rfl 35 (.tmp 141) (.tmp 140) rfl w.heap.size 12 v5 rfl rfl 80 _ HROW5.out sizeCs (by simp [runL]) HV5.out ?_)
    intro u6 gg6 ho6
    have HR6 : Hid (Rb w0 u6 w.heap.size rv (.slice aa an ac) c { a with id := up a.id } v5 (os ++ [⟨r.1.c, r.1.i, .slice A3 L3 C3, r.1.l⟩]) dv L) := ⟨gg6, HLW.out, HS5.out.off HROW5.out HLW.out ho6⟩
    have HZ6 := Lib.hid (only_heap HZx5.out ho6 (by omega))
    have HN6 := Lib.hid (only_heap HNx5.out ho6 (by omega))
    have HQ6 := Lib.hid (only_heap HQx5.out ho6 (by omega))
    have HO6 := Lib.hid (HOx5.out.only ho6 (Nat.le_refl _))
    clear gg6 ho6 HROW5 HS5 HZx5 HNx5 HQx5 HOx5
    obtain ⟨k0, k1, k2, k3, k4, k5, k6, k7, k8, k9, k10, k11, k12⟩ := cells13 HR6.out.row
    go_wp2_with (refine wpList_store_whole rfl 80 (.tmp 12) (.tmp 142) rfl (w.heap.size + 3) (runL rv c { a with id := up a.id } (.slice aa an ac) v5) rfl rfl 80 _ HZ6.out sizeRun rfl (runL_one H1.out rfl HV5.out) ?_)
    intro wz gz hoz
    have HZZ := Lib.hid gz
    have HSS := Lib.hid (HR6.out.st.off HZ6.out (Nat.le_trans HLW.out (Nat.le_add_right _ 3)) hoz)
    have HOO := Lib.hid (HO6.out.only hoz (Nat.le_add_right _ 3))
    clear gz hoz k0 k1 k2 k3 k4 k5 k6 k7 k8 k9 k10 k11 k12
    go_wp2_with fail
    refine bodyPost_ret (v := .agg (runL rv c { a with id := up a.id } (.slice aa an ac) v5).toArray) (results_cell_row (P := Tryz.prog) (fn := Tryz.f34) rfl _ _ (w.heap.size + 3) 80 _ (0, 0) _ rfl HZZ.out Tryz.underlying80 rfl sizeRun) rfl ?_
    refine ⟨v5, (os ++ [⟨r.1.c, r.1.i, .slice A3 L3 C3, r.1.l⟩]), ?_, HSS.out, ?_, HOO.out⟩
    · rw [HXX.out]
    · rw [HXX.out]
      try (first | rfl | (rw [plainC_append]; rfl))
  · have HXX : Hid ((act c L (⟨qc, qi, ql⟩ : QC) (⟨nc, ni, nl⟩ : QC) t ⟨a, plainC os⟩ 12) = ⟨{ a with id := up a.id }, plainC os ++ []⟩) := by show _ = _; rw [HX.out, if_neg hz]
    have hzb : (r.2 == 0) = false := by simpa using hz
    rw [List.append_nil] at HXX
    clear HX hz
    obtain ⟨k0, k1, k2, k3, k4, k5, k6, k7, k8, k9, k10, k11, k12⟩ := cells13 HR3.out.row
    go_wp2_with (refine wpList_store_whole rfl 80 (.tmp 12) (.tmp 142) rfl (w.heap.size + 3) (runL rv c { a with id := up a.id } (.slice aa an ac) ov) rfl rfl 80 _ HZ3.out sizeRun rfl (runL_one H1.out rfl HV0.out) ?_)
    intro wz gz hoz
    have HZZ := Lib.hid gz
    have HSS := Lib.hid (HR3.out.st.off HZ3.out (Nat.le_trans HLW.out (Nat.le_add_right _ 3)) hoz)
    have HOO := Lib.hid (HO33.out.only hoz (Nat.le_add_right _ 3))
    clear gz hoz k0 k1 k2 k3 k4 k5 k6 k7 k8 k9 k10 k11 k12
    go_wp2_with fail
    refine bodyPost_ret (v := .agg (runL rv c { a with id := up a.id } (.slice aa an ac) ov).toArray) (results_cell_row (P := Tryz.prog) (fn := Tryz.f34) rfl _ _ (w.heap.size + 3) 80 _ (0, 0) _ rfl HZZ.out Tryz.underlying80 rfl sizeRun) rfl ?_
    refine ⟨ov, os, ?_, HSS.out, ?_, HOO.out⟩
    · rw [HXX.out]
    · rw [HXX.out]
      try (first | rfl | (rw [plainC_append]; rfl))
end Go.Proofs.YtclplbapedmihaaGreat.Au
namespace Go.Proofs.YtclplbapedmihaaGreat.Au
set_option maxRecDepth 4000
open Go.RowKit O Ng
open Go.Proofs.YtclplbapedmihaaGreat.Fs (AO AO.ar AO.nil AR AR.at rStep_any rTimed_any)
set_option linter.unusedVariables false
set_option linter.unusedSimpArgs false
theorem ract_any (x : Nat) (hx : 1 ≤ x ∧ x ≤ 13) (rv : Value) (h1 : rv.oneCell' = true) (c : Cfg) (a : Aut) (aa : Option Addr) (an ac : Nat) (ts : List Tg) (ov : Value) (os : List Ct) (dv : Value) (L : List Int) (qc qi : Int) (qa : Option Addr) (qn qk : Nat) (ql : List UInt8) (nc ni : Int) (na : Option Addr) (nn nk : Nat) (nl : List UInt8) (t : Int) (w0 w : World) (h : Rs w0 w ov os dv L) (I : AcIn w0 c a aa an ac ts L os qa qn qk ql na nn nk nl t) :
    Calls Tryz.prog 34 #[.agg #[rv, .int .i64 c.conf, .int .i64 c.term, .int .i64 c.fail, .int .i64 c.wait, .int .i64 a.st, .int .i64 a.id, .int .i64 a.req, .slice aa an ac, .int .i64 a.count, .int .i64 a.timer, .int .i64 a.naks, ov], .int .i64 (x : Int), dv, .agg #[.int .i64 qc, .int .i64 qi, .slice qa qn qk], .agg #[.int .i64 nc, .int .i64 ni, .slice na nn nk], .int .i64 t] w
      (ActR rv c (.slice aa an ac) dv L (act c L ⟨qc, qi, ql⟩ ⟨nc, ni, nl⟩ t ⟨a, plainC os⟩ (x : Int)) w0 ov w) := by
  obtain rfl | rfl | rfl | rfl | rfl | rfl | rfl | rfl | rfl | rfl | rfl | rfl | rfl : x = 1 ∨ x = 2 ∨ x = 3 ∨ x = 4 ∨ x = 5 ∨ x = 6 ∨ x = 7 ∨ x = 8 ∨ x = 9 ∨ x = 10 ∨ x = 11 ∨ x = 12 ∨ x = 13 := by omega
  · exact ract_1 rv h1 c a aa an ac ts ov os dv L qc qi qa qn qk ql nc ni na nn nk nl t w0 w h I
  · exact ract_2 rv h1 c a aa an ac ts ov os dv L qc qi qa qn qk ql nc ni na nn nk nl t w0 w h I
  · exact ract_3 rv h1 c a aa an ac ts ov os dv L qc qi qa qn qk ql nc ni na nn nk nl t w0 w h I
  · exact ract_4 rv h1 c a aa an ac ts ov os dv L qc qi qa qn qk ql nc ni na nn nk nl t w0 w h I
  · exact ract_5 rv h1 c a aa an ac ts ov os dv L qc qi qa qn qk ql nc ni na nn nk nl t w0 w h I
  · exact ract_6 rv h1 c a aa an ac ts ov os dv L qc qi qa qn qk ql nc ni na nn nk nl t w0 w h I
  · exact ract_7 rv h1 c a aa an ac ts ov os dv L qc qi qa qn qk ql nc ni na nn nk nl t w0 w h I
  · exact ract_8 rv h1 c a aa an ac ts ov os dv L qc qi qa qn qk ql nc ni na nn nk nl t w0 w h I
  · exact ract_9 rv h1 c a aa an ac ts ov os dv L qc qi qa qn qk ql nc ni na nn nk nl t w0 w h I
  · exact ract_10 rv h1 c a aa an ac ts ov os dv L qc qi qa qn qk ql nc ni na nn nk nl t w0 w h I
  · exact ract_11 rv h1 c a aa an ac ts ov os dv L qc qi qa qn qk ql nc ni na nn nk nl t w0 w h I
  · exact ract_12 rv h1 c a aa an ac ts ov os dv L qc qi qa qn qk ql nc ni na nn nk nl t w0 w h I
  · exact ract_13 rv h1 c a aa an ac ts ov os dv L qc qi qa qn qk ql nc ni na nn nk nl t w0 w h I
/-- What the document's Do and the like tell, beside what they answer: it can be read. -/
structure RDAt (x : Aut × List QC × List Int) (w w' : World) (av ov dv : Value) : Prop where
  ask : ∃ n ts, TR w' av n ts ∧ plain ts = x.1.ask
  out : ∃ os, (w'.ownsRow w.heap.size 32 3 ov os.length (flatC os) ∧ ∀ t ∈ os, Bs w' t.val t.l) ∧ plainC os = x.2.1
  done : AO w' w.heap.size dv x.2.2
  old : Below w.heap.size w w'
theorem RDAt.stay {w w' : World} {a : Aut} {av : Value} {n : Nat} {ts : List Tg} (h : TR w av n ts) (hp : plain ts = a.ask) (hb : Below w.heap.size w w') : RDAt (a, [], []) w w' av (.slice none 0 0) (.slice none 0 0) :=
  ⟨⟨n, ts, h.below hb, hp⟩, ⟨[], ⟨World.ownsRow_nil w' _ _ 3, fun t h => by cases h⟩, rfl⟩, AO.nil w' _, hb⟩
theorem range_row {w : World} {g : Nat} {cs : List Value} {t : TypeId} {fr : Nat × Nat} (h : w.heap[g]? = some (.cells cs.toArray t fr)) (o : Nat) : w.rangeAt g o (cs.drop o) := fun j v hj => by
  rw [cell_of_row w g _ _ t fr h]
  rw [List.getElem?_drop] at hj
  simpa using hj
theorem acts_fit {c : Cfg} {a : Aut} {t : Int} (hf : fine c a t) (N : Int) (L : List Int) (q an : QC) (k : Nat) (hk : k ≤ L.length) (hL : L.length ≤ 10) :
    Mid c N a.ask (acts c L q an t ⟨{ a with st := N }, []⟩ (L.take k)) ∧ (acts c L q an t ⟨{ a with st := N }, []⟩ (L.take k)).out.length ≤ 900 := by
  refine ⟨(acts_mid hf.1 hf.2.2 L q an (L.take k) _ (isA_mid (c := c) hf.2.1 N)).1, ?_⟩
  have h1 := acts_len c L q an t (L.take k) ⟨{ a with st := N }, []⟩
  have h2 : (L.take k).length ≤ k := by rw [List.length_take]; omega
  simp at h1 ⊢
  omega
/-- Bytes do not lie in a block that holds none. -/
theorem bs_off {w w' : World} {p : Nat} {t : TypeId} {cs : Array Value} {fr : Nat × Nat} {v : Value} {l : List UInt8} (h : Bs w v l) (hp : w.heap[p]? = some (.cells cs t fr)) (hcs : ∀ u ∈ cs.toList, ∀ b, u ≠ u8v b) (ho : Only p w w') : Bs w' v l := by
  have hh := h
  obtain ⟨h0, ao, cap, rfl, g1, g2, g3, g4⟩ := h
  refine ⟨h0, ao, cap, rfl, g1, g2, g3, fun ad had j u hu => ?_⟩
  have hj := (List.getElem?_eq_some_iff.1 hu).1
  rw [List.length_map] at hj
  obtain ⟨b, o, hao, _, hall⟩ := Bs.cells hh (by omega)
  obtain rfl : ad = ⟨b, o, none⟩ := Option.some.inj (had.symm.trans hao)
  have hc := g4 _ had j u hu
  by_cases e : b = p
  · exfalso
    subst e
    rw [Addr.add_lit, cell_of_row _ _ _ _ _ _ hp] at hc
    rw [List.getElem?_map, List.getElem?_eq_getElem hj] at hu
    obtain rfl := Option.some.inj hu
    exact hcs _ (by simpa using Array.mem_of_getElem? hc) _ rfl
  · refine ho.cell ?_ hc
    rw [add_block]; exact e
theorem auto_in {rv av ov : Value} {c : Cfg} {a : Aut} {j : Nat} {u : Value} (h : (autoC a av)[j]? = some u) : ((runL rv c a av ov).drop 5)[j]? = some u := by
  show ([.int .i64 a.st, .int .i64 a.id, .int .i64 a.req, av, .int .i64 a.count, .int .i64 a.timer, .int .i64 a.naks, ov] : List Value)[j]? = some u
  match j, h with
  | 0, h => exact h
  | 1, h => exact h
  | 2, h => exact h
  | 3, h => exact h
  | 4, h => exact h
  | 5, h => exact h
  | 6, h => exact h
  | j + 7, h => exact absurd h (by simp [autoC])
theorem zero_no : ∀ u ∈ (#[.int .i64 0, .int .i64 0, .int .i64 0, .slice none 0 0, .int .i64 0, .int .i64 0, .int .i64 0] : Array Value).toList, ∀ b, u ≠ u8v b := by
  intro u hu b hb
  subst hb
  simp [u8v] at hu
theorem rdat_of {wb w wc w' : World} {p : Nat} {A : Aut} {OUT : List QC} {ov av dv : Value} {os : List Ct} {L : List Int} {n : Nat} {ts : List Tg} {cs : Array Value} {fr : Nat × Nat} (h : Rs wb wc ov os dv L) (hp : wc.heap[p]? = some (.cells cs 28 fr)) (hcs : ∀ u ∈ cs.toList, ∀ b, u ≠ u8v b) (ho : Only p wc w') (hr : TR w av n ts) (ha : plain ts = A.ask) (hb : Below w.heap.size w wb) (hl : w.heap.size ≤ p) (hos : plainC os = OUT) :
    RDAt (A, OUT, L) w w' av ov dv := by
  have hbw : Below w.heap.size w w' := ho.below _ _ hl (hb.trans (h.old.mono hb.size))
  refine ⟨⟨n, ts, hr.below hbw, ha⟩, ⟨os, ⟨?_, fun t ht => ?_⟩, hos⟩, ?_, hbw⟩
  · exact ownsRow_mono (own_off h.out.own hp (by decide) ho) hb.size
  · rcases h.out.vals t ht with h1 | ⟨w0, h0, h1, hk⟩
    · exact OwnB.bs (own_off h1 hp (by decide) ho)
    · by_cases hpw : w0.heap.size ≤ p
      · exact h1.below (ho.below _ _ hpw hk)
      · exact bs_off (h1.below hk) hp hcs ho
  · exact ownsRow_mono (show AO w' wb.heap.size dv L from own_off h.done hp (by decide) ho) hb.size
theorem doE_ask (c : Cfg) (a : Aut) (e : Int) (q an : QC) (t : Int) : (doE c a e q an t).1.ask = a.ask := by
  by_cases h : fine c a t ∧ (Fs.stp a.st e).2.2 = 0
  · rw [doE_yes h.1 h.2]
    have := (acts_mid h.1.1 h.1.2.2 (Fs.stp a.st e).2.1 q an (Fs.stp a.st e).2.1 _ (isA_mid (c := c) h.1.2.1 (Fs.stp a.st e).1)).1.ask
    show (rest _ _).ask = _
    unfold rest
    split
    · exact this
    · exact this
  · rw [doE_no h]
/-- The box of the answer was written: what was told stands. -/
theorem RDAt.off {x : Aut × List QC × List Int} {w0 w w1 w' : World} {p n : Nat} {av ov dv : Value} {ts : List Tg} {cs : Array Value} {fr : Nat × Nat} (h : RDAt x w w1 av ov dv) (hp : w1.heap[p]? = some (.cells cs 28 fr)) (hcs : ∀ u ∈ cs.toList, ∀ b, u ≠ u8v b) (ho : Only p w1 w') (hr : TR w0 av n ts) (ha : plain ts = x.1.ask) (hb : Below w0.heap.size w0 w) (hl : w0.heap.size ≤ p) :
    RDAt x w0 w' av ov dv := by
  have hbw : Below w0.heap.size w0 w' := ho.below _ _ hl (hb.trans (h.old.mono hb.size))
  obtain ⟨os, ⟨h1, h2⟩, h3⟩ := h.out
  refine ⟨⟨n, ts, hr.below hbw, ha⟩, ⟨os, ⟨ownsRow_mono (own_off h1 hp (by decide) ho) hb.size, fun t ht => bs_off (h2 t ht) hp hcs ho⟩, h3⟩, ownsRow_mono (show AO w' w.heap.size dv x.2.2 from own_off h.done hp (by decide) ho) hb.size, hbw⟩
set_option maxRecDepth 100000 in
set_option maxHeartbeats 8000000 in
theorem rDo_any (ra : Option Addr) (rn rc : Nat) (rs : List Ru) (k1 k2 k3 k4 : Int) (s i r : Int) (ao : Option Addr) (n c : Nat) (ts : List Tg) (ct tm nk : Int) (ev : Int) (qc qi : Int) (qa : Option Addr) (qn qk : Nat) (ql : List UInt8) (nc ni : Int) (na : Option Addr) (nn nk2 : Nat) (nl : List UInt8) (t : Int) (w : World)
    (hrr : RR w (.slice ra rn rc) rn rs) (hr : TR w (.slice ao n c) n ts) (hn : n ≤ 1000) (hm : ∀ x ∈ ts, x.l.length ≤ 1000) (hq : Bs w (.slice qa qn qk) ql) (hql : ql.length = qn ∧ qn ≤ 1500) (ha : Bs w (.slice na nn nk2) nl) :
    Calls Tryz.prog 12 #[.agg #[.slice ra rn rc, .int .i64 k1, .int .i64 k2, .int .i64 k3, .int .i64 k4], .agg #[.int .i64 s, .int .i64 i, .int .i64 r, .slice ao n c, .int .i64 ct, .int .i64 tm, .int .i64 nk], .int .i64 ev, .agg #[.int .i64 qc, .int .i64 qi, .slice qa qn qk], .agg #[.int .i64 nc, .int .i64 ni, .slice na nn nk2], .int .i64 t] w fun e w' => ∃ ov dv, e = .returned (.tuple #[autoV (doE (⟨rs, k1, k2, k3, k4⟩ : Cfg) (⟨s, i, r, plain ts, ct, tm, nk⟩ : Aut) ev (⟨qc, qi, ql⟩ : QC) (⟨nc, ni, nl⟩ : QC) t).1 (.slice ao n c), ov, dv]) ∧ RDAt (doE (⟨rs, k1, k2, k3, k4⟩ : Cfg) (⟨s, i, r, plain ts, ct, tm, nk⟩ : Aut) ev (⟨qc, qi, ql⟩ : QC) (⟨nc, ni, nl⟩ : QC) t) w w' (.slice ao n c) ov dv := by
  have BA : Gr w (((((w.alloc (.cells #[.slice ra rn rc, .int .i64 k1, .int .i64 k2, .int .i64 k3, .int .i64 k4] 24)).alloc (.cells #[.int .i64 s, .int .i64 i, .int .i64 r, .slice ao n c, .int .i64 ct, .int .i64 tm, .int .i64 nk] 28)).alloc (.cells #[.int .i64 qc, .int .i64 qi, .slice qa qn qk] 32)).alloc (.cells #[.int .i64 nc, .int .i64 ni, .slice na nn nk2] 32)).alloc (.cells #[.int .i64 0, .int .i64 0, .int .i64 0, .slice none 0 0, .int .i64 0, .int .i64 0, .int .i64 0] 28)) := (((((Gr.refl w).alloc _).alloc _).alloc _).alloc _).alloc _
  obtain ⟨g0, g1, g2, g3, g4⟩ := heap5 w (.cells #[.slice ra rn rc, .int .i64 k1, .int .i64 k2, .int .i64 k3, .int .i64 k4] 24) (.cells #[.int .i64 s, .int .i64 i, .int .i64 r, .slice ao n c, .int .i64 ct, .int .i64 tm, .int .i64 nk] 28) (.cells #[.int .i64 qc, .int .i64 qi, .slice qa qn qk] 32) (.cells #[.int .i64 nc, .int .i64 ni, .slice na nn nk2] 32) (.cells #[.int .i64 0, .int .i64 0, .int .i64 0, .slice none 0 0, .int .i64 0, .int .i64 0, .int .i64 0] 28)
  obtain ⟨i0, i1, i2, i3, i4⟩ := cells5 g0
  obtain ⟨j0, j1, j2, j3, j4, j5, j6⟩ := cells7 g1
  have HG0 := Lib.hid g0
  have HG1 := Lib.hid g1
  have HG2 := Lib.hid g2
  have HG3 := Lib.hid g3
  have HG4 := Lib.hid g4
  have FN := Lib.hid (rfine_any ra rn rc rs k1 k2 k3 k4 s i r ao n c ts ct tm nk t (((((w.alloc (.cells #[.slice ra rn rc, .int .i64 k1, .int .i64 k2, .int .i64 k3, .int .i64 k4] 24)).alloc (.cells #[.int .i64 s, .int .i64 i, .int .i64 r, .slice ao n c, .int .i64 ct, .int .i64 tm, .int .i64 nk] 28)).alloc (.cells #[.int .i64 qc, .int .i64 qi, .slice qa qn qk] 32)).alloc (.cells #[.int .i64 nc, .int .i64 ni, .slice na nn nk2] 32)).alloc (.cells #[.int .i64 0, .int .i64 0, .int .i64 0, .slice none 0 0, .int .i64 0, .int .i64 0, .int .i64 0] 28)) (hrr.below BA) (hr.below BA) hn (fun x hx => by have := hm x hx; omega))
  have HBA := Lib.hid BA
  have HTR := Lib.hid hr
  have HARG : Hid (TR (((((w.alloc (.cells #[.slice ra rn rc, .int .i64 k1, .int .i64 k2, .int .i64 k3, .int .i64 k4] 24)).alloc (.cells #[.int .i64 s, .int .i64 i, .int .i64 r, .slice ao n c, .int .i64 ct, .int .i64 tm, .int .i64 nk] 28)).alloc (.cells #[.int .i64 qc, .int .i64 qi, .slice qa qn qk] 32)).alloc (.cells #[.int .i64 nc, .int .i64 ni, .slice na nn nk2] 32)).alloc (.cells #[.int .i64 0, .int .i64 0, .int .i64 0, .slice none 0 0, .int .i64 0, .int .i64 0, .int .i64 0] 28)) (.slice ao n c) n ts ∧ n ≤ 1000 ∧ (∀ x ∈ ts, x.l.length ≤ 1000) ∧ Bs (((((w.alloc (.cells #[.slice ra rn rc, .int .i64 k1, .int .i64 k2, .int .i64 k3, .int .i64 k4] 24)).alloc (.cells #[.int .i64 s, .int .i64 i, .int .i64 r, .slice ao n c, .int .i64 ct, .int .i64 tm, .int .i64 nk] 28)).alloc (.cells #[.int .i64 qc, .int .i64 qi, .slice qa qn qk] 32)).alloc (.cells #[.int .i64 nc, .int .i64 ni, .slice na nn nk2] 32)).alloc (.cells #[.int .i64 0, .int .i64 0, .int .i64 0, .slice none 0 0, .int .i64 0, .int .i64 0, .int .i64 0] 28)) (.slice qa qn qk) ql ∧ (ql.length = qn ∧ qn ≤ 1500) ∧ Bs (((((w.alloc (.cells #[.slice ra rn rc, .int .i64 k1, .int .i64 k2, .int .i64 k3, .int .i64 k4] 24)).alloc (.cells #[.int .i64 s, .int .i64 i, .int .i64 r, .slice ao n c, .int .i64 ct, .int .i64 tm, .int .i64 nk] 28)).alloc (.cells #[.int .i64 qc, .int .i64 qi, .slice qa qn qk] 32)).alloc (.cells #[.int .i64 nc, .int .i64 ni, .slice na nn nk2] 32)).alloc (.cells #[.int .i64 0, .int .i64 0, .int .i64 0, .slice none 0 0, .int .i64 0, .int .i64 0, .int .i64 0] 28)) (.slice na nn nk2) nl) := ⟨hr.below BA, hn, hm, hq.below BA, hql, ha.below BA⟩
  obtain ⟨x, hx⟩ : ∃ x, x = doE (⟨rs, k1, k2, k3, k4⟩ : Cfg) (⟨s, i, r, plain ts, ct, tm, nk⟩ : Aut) ev (⟨qc, qi, ql⟩ : QC) (⟨nc, ni, nl⟩ : QC) t := ⟨_, rfl⟩
  rw [← hx]
  have HX := Lib.hid hx
  clear BA hrr hr hn hm hq hql ha g0 g1 g2 g3 g4 hx
  by_cases hf : fine (⟨rs, k1, k2, k3, k4⟩ : Cfg) (⟨s, i, r, plain ts, ct, tm, nk⟩ : Aut) t
  · rw [decide_eq_true hf] at FN
    have HF := Lib.hid hf
    have ST := Lib.hid (fun w' => rStep_any s ev w')
    clear hf
    by_cases hz : (Fs.stp s ev).2.2 = 0
    · have hxe := doE_yes (e := ev) (q := (⟨qc, qi, ql⟩ : QC)) (an := (⟨nc, ni, nl⟩ : QC)) HF.out (show (Fs.stp ((⟨s, i, r, plain ts, ct, tm, nk⟩ : Aut) : Aut).st ev).2.2 = 0 from hz)
      obtain ⟨hl, hx13⟩ := stp_acts hz
      unfold Fs.TRes at ST
      rw [hz] at ST
      obtain ⟨N, hN⟩ : ∃ N, N = (Fs.stp s ev).1 := ⟨_, rfl⟩
      obtain ⟨L, hL⟩ : ∃ L, L = (Fs.stp s ev).2.1 := ⟨_, rfl⟩
      have hxe2 : x = (rest N (acts (⟨rs, k1, k2, k3, k4⟩ : Cfg) L (⟨qc, qi, ql⟩ : QC) (⟨nc, ni, nl⟩ : QC) t ⟨⟨N, i, r, plain ts, ct, tm, nk⟩, []⟩ L).a, (acts (⟨rs, k1, k2, k3, k4⟩ : Cfg) L (⟨qc, qi, ql⟩ : QC) (⟨nc, ni, nl⟩ : QC) t ⟨⟨N, i, r, plain ts, ct, tm, nk⟩, []⟩ L).out, L) := by
        rw [HX.out, hxe, hN, hL]
      have HXE := Lib.hid hxe2
      rw [← hL] at hl hx13
      rw [← hN, ← hL] at ST
      have H13 := Lib.hid hx13
      have HL10 := Lib.hid hl
      clear hz hxe hxe2 hN hL hl hx13
      go_enter Tryz.func12, Tryz.ntmps12
      go_wp2_with fail
      obtain ⟨wb, hwb⟩ : ∃ wb, wb = (((((w.alloc (.cells #[.slice ra rn rc, .int .i64 k1, .int .i64 k2, .int .i64 k3, .int .i64 k4] 24)).alloc (.cells #[.int .i64 s, .int .i64 i, .int .i64 r, .slice ao n c, .int .i64 ct, .int .i64 tm, .int .i64 nk] 28)).alloc (.cells #[.int .i64 qc, .int .i64 qi, .slice qa qn qk] 32)).alloc (.cells #[.int .i64 nc, .int .i64 ni, .slice na nn nk2] 32)).alloc (.cells #[.int .i64 0, .int .i64 0, .int .i64 0, .slice none 0 0, .int .i64 0, .int .i64 0, .int .i64 0] 28)) := ⟨_, rfl⟩
      rw [← hwb] at FN HG0 HG1 HG2 HG3 HG4 HBA HARG ⊢
      clear hwb i0 i1 i2 i3 i4 j0 j1 j2 j3 j4 j5 j6
      refine FN.out.mono ?_
      rintro e w1 ⟨rfl, hb1⟩
      obtain ⟨i0', i1', i2', i3', i4'⟩ := cells5 (heap_below HG0.out hb1)
      obtain ⟨j0', j1', j2', j3', j4', j5', j6'⟩ := cells7 (heap_below HG1.out hb1)
      have HB1 : Hid (Gr wb w1) := hb1
      clear hb1 FN
      go_wp2_with fail
      refine (ST.out w1).mono ?_
      rintro e w2 ⟨v, rfl, ho, hb2⟩
      have HB2 : Hid (Gr wb w2) := Gr.trans HB1.out hb2
      have HO2 : Hid (AO w2 wb.heap.size v L) := ownsRow_mono ho HB1.out.size
      obtain ⟨i0, i1, i2, i3, i4⟩ := cells5 (heap_below HG0.out HB2.out)
      obtain ⟨j0, j1, j2, j3, j4, j5, j6⟩ := cells7 (heap_below HG1.out HB2.out)
      obtain ⟨va, vc, ev1, _, hvm⟩ := HO2.out.ar.shape
      subst ev1
      obtain ⟨M, hM⟩ : ∃ M, M = L.length := ⟨_, rfl⟩
      have HM := Lib.hid hM
      have hM10 : M ≤ 10 := by rw [hM]; exact HL10.out
      rw [← hM] at HO2
      clear ho hb2 ST HB1 i0' i1' i2' i3' i4' j0' j1' j2' j3' j4' j5' j6' hvm
      go_upto_region 8 with fail
      have hal : Gr w2 (w2.alloc (.cells #[.slice ra rn rc, .int .i64 k1, .int .i64 k2, .int .i64 k3, .int .i64 k4, .int .i64 N, .int .i64 i, .int .i64 r, .slice ao n c, .int .i64 ct, .int .i64 tm, .int .i64 nk, .slice none 0 0] 80)) := (Gr.refl _).alloc _
      have HROW : Hid ((w2.alloc (.cells #[.slice ra rn rc, .int .i64 k1, .int .i64 k2, .int .i64 k3, .int .i64 k4, .int .i64 N, .int .i64 i, .int .i64 r, .slice ao n c, .int .i64 ct, .int .i64 tm, .int .i64 nk, .slice none 0 0] 80)).heap[w2.heap.size]? = some (.cells #[.slice ra rn rc, .int .i64 k1, .int .i64 k2, .int .i64 k3, .int .i64 k4, .int .i64 N, .int .i64 i, .int .i64 r, .slice ao n c, .int .i64 ct, .int .i64 tm, .int .i64 nk, .slice none 0 0] 80)) := heap_alloc_last _ _
      have HRS : Hid (Rs wb (w2.alloc (.cells #[.slice ra rn rc, .int .i64 k1, .int .i64 k2, .int .i64 k3, .int .i64 k4, .int .i64 N, .int .i64 i, .int .i64 r, .slice ao n c, .int .i64 ct, .int .i64 tm, .int .i64 nk, .slice none 0 0] 80)) (.slice none 0 0) [] (.slice va M vc) L) := ⟨Gr.trans HB2.out hal, CO.nil _ _ _, ownsRow_below HO2.out hal⟩
      have HGG : Hid (wb.heap.size ≤ w2.heap.size) := HB2.out.size
      obtain ⟨g, hg⟩ : ∃ g, g = w2.heap.size := ⟨_, rfl⟩
      obtain ⟨wg, hwg⟩ : ∃ x, x = w2.alloc (.cells #[.slice ra rn rc, .int .i64 k1, .int .i64 k2, .int .i64 k3, .int .i64 k4, .int .i64 N, .int .i64 i, .int .i64 r, .slice ao n c, .int .i64 ct, .int .i64 tm, .int .i64 nk, .slice none 0 0] 80) := ⟨_, rfl⟩
      rw [← hwg, ← hM] at ⊢
      rw [← hwg, ← hg] at HROW
      rw [← hwg] at HRS
      rw [← hg] at HGG ⊢
      clear hal hwg hg HO2 HB2 hM i0 i1 i2 i3 i4 j0 j1 j2 j3 j4 j5 j6
      go_wp2_with fail
      go_loopw [19] (fun iv wr => ∃ (k : Nat) (ov : Value) (os : List Ct), k ≤ M ∧ iv = .int .i64 (k : Int) ∧ wr.heap[g]? = some (.cells (runL (.slice ra rn rc) (⟨rs, k1, k2, k3, k4⟩ : Cfg) (acts (⟨rs, k1, k2, k3, k4⟩ : Cfg) L (⟨qc, qi, ql⟩ : QC) (⟨nc, ni, nl⟩ : QC) t ⟨⟨N, i, r, plain ts, ct, tm, nk⟩, []⟩ (L.take k)).a (.slice ao n c) ov).toArray 80 (0, 0)) ∧ Rs wb wr ov os (.slice va M vc) L ∧ plainC os = (acts (⟨rs, k1, k2, k3, k4⟩ : Cfg) L (⟨qc, qi, ql⟩ : QC) (⟨nc, ni, nl⟩ : QC) t ⟨⟨N, i, r, plain ts, ct, tm, nk⟩, []⟩ (L.take k)).out) (fun iv _ => M - (intOf iv).toNat)
      case atStart => exact ⟨0, .slice none 0 0, [], Nat.zero_le _, rfl, HROW.out, HRS.out, rfl⟩
      case round =>
        clear HROW HRS
        obtain ⟨k, ov, os, hkM, rfl, hrow, hrs, hos⟩ := hrel
        have HROW := Lib.hid hrow
        have HRS := Lib.hid hrs
        have HOS := Lib.hid hos
        clear hrow hrs hos
        by_cases hlt : k < M
        · have hil : k < L.length := by rw [← HM.out]; exact hlt
          have har : AR wr (.slice va M vc) L := HRS.out.done.ar
          obtain ⟨b, o, ea, hc⟩ := AR.at har HM.out (by omega)
          subst ea
          obtain ⟨y, hy⟩ : ∃ y : Nat, (y : Int) = L[k] := ⟨L[k].toNat, by have := H13.out L[k] (List.getElem_mem hil); omega⟩
          have d0 := hc k hil
          rw [← hy] at d0
          have hy13 : 1 ≤ y ∧ y ≤ 13 := by have := H13.out L[k] (List.getElem_mem hil); omega
          obtain ⟨hmid, hol⟩ := acts_fit HF.out N L (⟨qc, qi, ql⟩ : QC) (⟨nc, ni, nl⟩ : QC) k (Nat.le_of_lt hil) HL10.out
          have HK := Lib.hid (acts_snoc (⟨rs, k1, k2, k3, k4⟩ : Cfg) L (⟨qc, qi, ql⟩ : QC) (⟨nc, ni, nl⟩ : QC) t ⟨⟨N, i, r, plain ts, ct, tm, nk⟩, []⟩ L k hil)
          obtain ⟨R, hR⟩ : ∃ R, R = (acts (⟨rs, k1, k2, k3, k4⟩ : Cfg) L (⟨qc, qi, ql⟩ : QC) (⟨nc, ni, nl⟩ : QC) t ⟨⟨N, i, r, plain ts, ct, tm, nk⟩, []⟩ (L.take k)) := ⟨_, rfl⟩
          rw [← hR] at HK HROW HOS
          have hmid' : Mid (⟨rs, k1, k2, k3, k4⟩ : Cfg) N (plain ts) R := by rw [hR]; exact hmid
          have hol' : R.out.length ≤ 900 := by rw [hR]; exact hol
          have hosl : os.length ≤ 900 := by rw [← plainC_length, HOS.out]; exact hol'
          have HI : Hid (AcIn wb (⟨rs, k1, k2, k3, k4⟩ : Cfg) R.a ao n c ts L os qa qn qk ql na nn nk2 nl t) := ⟨HARG.out.1, hmid'.ask.symm, ⟨HARG.out.2.1, HARG.out.2.2.1⟩, HARG.out.2.2.2.1, HARG.out.2.2.2.2.1, HARG.out.2.2.2.2.2, hmid'.id, hmid'.count, hmid'.naks, HF.out.2.2, HF.out.1.2.2.2.2, by have := HL10.out; omega, hosl⟩
          have HY := Lib.hid hy
          have HY13 := Lib.hid hy13
          have hle : k + 1 ≤ M := by omega
          have HD0 := Lib.hid d0
          clear har hc hy hy13 hmid hol hmid' hol' hosl hR
          have ACT := Lib.hid (fun w' (h' : Rs wb w' ov os (.slice (some ⟨b, o, none⟩) M vc) L) => ract_any y HY13.out (.slice ra rn rc) rfl (⟨rs, k1, k2, k3, k4⟩ : Cfg) R.a ao n c ts ov os (.slice (some ⟨b, o, none⟩) M vc) L qc qi qa qn qk ql nc ni na nn nk2 nl t wb w' h' HI.out)
          go_upto_region 11 with fail
          have HC : Hid (Gr wr wr.drew) := Gr.drew _
          refine wp_region_G 9 Gr (by kernel_rfl) ?_
          generalize wr.drew = wc at HC ⊢
          -- 0: slot 49
          refine wpG_take preGr (i := 0) (v := ?_) (by kernel_rfl) (some 49) (by kernel_rfl) rfl (by kernel_rfl) (by kernel_rfl) (by kernel_rfl) (fun _ _ _ h => h) (by rfl) (fun w' hw' => ?_) rfl ?_
          rotate_left
          · refine Eq.trans (load_mid_run (P := Tryz.prog) 80 (.tmp 18) ?_ g 0 ?_ _ _ (range_row (heap_below HROW.out (Gr.trans HC.out hw')) 0) Tryz.underlying80 rfl sizeRun) ?_
            · rfl
            · rfl
            · with_reducible rfl
          simp only [Act.put, List.setIfInBounds_toArray, List.set_cons_zero, List.set_cons_succ]
          -- 1: slot 50
          refine wpG_take preGr (i := 1) (v := ?_) (by kernel_rfl) (some 50) (by kernel_rfl) rfl (by kernel_rfl) (by kernel_rfl) (by kernel_rfl) (fun _ _ _ h => h) (by rfl) (fun w' hw' => ?_) rfl ?_
          rotate_left
          · try (have hd := cell_gr (Gr.trans HC.out hw') HD0.out; have hq := cells3 (heap_below HG2.out (HRS.out.gr (Gr.trans HC.out hw')).old); have hn := cells3 (heap_below HG3.out (HRS.out.gr (Gr.trans HC.out hw')).old); obtain ⟨q0, q1, q2⟩ := hq; obtain ⟨n0, n1, n2⟩ := hn)
            go_simp
            with_reducible rfl
          simp only [Act.put, List.setIfInBounds_toArray, List.set_cons_zero, List.set_cons_succ]
          -- 2: slot 51
          refine wpG_take preGr (i := 2) (v := ?_) (by kernel_rfl) (some 51) (by kernel_rfl) rfl (by kernel_rfl) (by kernel_rfl) (by kernel_rfl) (fun _ _ _ h => h) (by rfl) (fun w' hw' => ?_) rfl ?_
          rotate_left
          · try (have hd := cell_gr (Gr.trans HC.out hw') HD0.out; have hq := cells3 (heap_below HG2.out (HRS.out.gr (Gr.trans HC.out hw')).old); have hn := cells3 (heap_below HG3.out (HRS.out.gr (Gr.trans HC.out hw')).old); obtain ⟨q0, q1, q2⟩ := hq; obtain ⟨n0, n1, n2⟩ := hn)
            go_simp
            with_reducible rfl
          simp only [Act.put, List.setIfInBounds_toArray, List.set_cons_zero, List.set_cons_succ]
          -- 3: slot 52
          refine wpG_take preGr (i := 3) (v := ?_) (by kernel_rfl) (some 52) (by kernel_rfl) rfl (by kernel_rfl) (by kernel_rfl) (by kernel_rfl) (fun _ _ _ h => h) (by rfl) (fun w' hw' => ?_) rfl ?_
          rotate_left
          · try (have hd := cell_gr (Gr.trans HC.out hw') HD0.out; have hq := cells3 (heap_below HG2.out (HRS.out.gr (Gr.trans HC.out hw')).old); have hn := cells3 (heap_below HG3.out (HRS.out.gr (Gr.trans HC.out hw')).old); obtain ⟨q0, q1, q2⟩ := hq; obtain ⟨n0, n1, n2⟩ := hn)
            go_simp
            with_reducible rfl
          simp only [Act.put, List.setIfInBounds_toArray, List.set_cons_zero, List.set_cons_succ]
          -- 4: slot 53
          refine wpG_take preGr (i := 4) (v := ?_) (by kernel_rfl) (some 53) (by kernel_rfl) rfl (by kernel_rfl) (by kernel_rfl) (by kernel_rfl) (fun _ _ _ h => h) (by rfl) (fun w' hw' => ?_) rfl ?_
          rotate_left
          · try (have hd := cell_gr (Gr.trans HC.out hw') HD0.out; have hq := cells3 (heap_below HG2.out (HRS.out.gr (Gr.trans HC.out hw')).old); have hn := cells3 (heap_below HG3.out (HRS.out.gr (Gr.trans HC.out hw')).old); obtain ⟨q0, q1, q2⟩ := hq; obtain ⟨n0, n1, n2⟩ := hn)
            go_simp
            with_reducible rfl
          simp only [Act.put, List.setIfInBounds_toArray, List.set_cons_zero, List.set_cons_succ]
          -- 5: slot 54
          refine wpG_take preGr (i := 5) (v := ?_) (by kernel_rfl) (some 54) (by kernel_rfl) rfl (by kernel_rfl) (by kernel_rfl) (by kernel_rfl) (fun _ _ _ h => h) (by rfl) (fun w' hw' => ?_) rfl ?_
          rotate_left
          · try (have hd := cell_gr (Gr.trans HC.out hw') HD0.out; have hq := cells3 (heap_below HG2.out (HRS.out.gr (Gr.trans HC.out hw')).old); have hn := cells3 (heap_below HG3.out (HRS.out.gr (Gr.trans HC.out hw')).old); obtain ⟨q0, q1, q2⟩ := hq; obtain ⟨n0, n1, n2⟩ := hn)
            go_simp
            with_reducible rfl
          simp only [Act.put, List.setIfInBounds_toArray, List.set_cons_zero, List.set_cons_succ]
          -- 6: slot 55
          refine wpG_take preGr (i := 6) (v := ?_) (by kernel_rfl) (some 55) (by kernel_rfl) rfl (by kernel_rfl) (by kernel_rfl) (by kernel_rfl) (fun _ _ _ h => h) (by rfl) (fun w' hw' => ?_) rfl ?_
          rotate_left
          · try (have hd := cell_gr (Gr.trans HC.out hw') HD0.out; have hq := cells3 (heap_below HG2.out (HRS.out.gr (Gr.trans HC.out hw')).old); have hn := cells3 (heap_below HG3.out (HRS.out.gr (Gr.trans HC.out hw')).old); obtain ⟨q0, q1, q2⟩ := hq; obtain ⟨n0, n1, n2⟩ := hn)
            go_simp
            with_reducible rfl
          simp only [Act.put, List.setIfInBounds_toArray, List.set_cons_zero, List.set_cons_succ]
          -- 7: slot 56
          refine wpG_take preGr (i := 7) (v := ?_) (by kernel_rfl) (some 56) (by kernel_rfl) rfl (by kernel_rfl) (by kernel_rfl) (by kernel_rfl) (fun _ _ _ h => h) (by rfl) (fun w' hw' => ?_) rfl ?_
          rotate_left
          · try (have hd := cell_gr (Gr.trans HC.out hw') HD0.out; have hq := cells3 (heap_below HG2.out (HRS.out.gr (Gr.trans HC.out hw')).old); have hn := cells3 (heap_below HG3.out (HRS.out.gr (Gr.trans HC.out hw')).old); obtain ⟨q0, q1, q2⟩ := hq; obtain ⟨n0, n1, n2⟩ := hn)
            go_simp
            with_reducible rfl
          simp only [Act.put, List.setIfInBounds_toArray, List.set_cons_zero, List.set_cons_succ]
          -- 8: slot 57
          refine wpG_take preGr (i := 8) (v := ?_) (by kernel_rfl) (some 57) (by kernel_rfl) rfl (by kernel_rfl) (by kernel_rfl) (by kernel_rfl) (fun _ _ _ h => h) (by rfl) (fun w' hw' => ?_) rfl ?_
          rotate_left
          · try (have hd := cell_gr (Gr.trans HC.out hw') HD0.out; have hq := cells3 (heap_below HG2.out (HRS.out.gr (Gr.trans HC.out hw')).old); have hn := cells3 (heap_below HG3.out (HRS.out.gr (Gr.trans HC.out hw')).old); obtain ⟨q0, q1, q2⟩ := hq; obtain ⟨n0, n1, n2⟩ := hn)
            go_simp
            with_reducible rfl
          simp only [Act.put, List.setIfInBounds_toArray, List.set_cons_zero, List.set_cons_succ]
          refine wpG_tail (i := 9) (by decide) rfl (by kernel_rfl) (by rfl) ?_
          go_simp
          refine (ACT.out wc (HRS.out.gr HC.out)).mono ?_
          rintro e w4 ⟨ov4, os4, rfl, hs4, hp4, ho4⟩
          have hrc := heap_below HROW.out HC.out
          have HROW4 := Lib.hid (ho4.2 _ _ hrc (own_ne_cell (HRS.out.gr HC.out).out.own hrc (by decide)))
          have HS4 := Lib.hid hs4
          have HP4 := Lib.hid hp4
          clear hs4 hp4 ho4 hrc
          try simp only [Act.put, List.setIfInBounds_toArray, List.set_cons_zero, List.set_cons_succ]
          refine wpG_tail (i := 10) (by decide) rfl (by kernel_rfl) (by rfl) ?_
          refine wp_store_whole (none) 80 (.tmp 18) (.tmp 58) rfl g (runL (.slice ra rn rc) (⟨rs, k1, k2, k3, k4⟩ : Cfg) (act (⟨rs, k1, k2, k3, k4⟩ : Cfg) L (⟨qc, qi, ql⟩ : QC) (⟨nc, ni, nl⟩ : QC) t ⟨R.a, plainC os⟩ (y : Int)).a (.slice ao n c) ov4) rfl rfl 80 _ HROW4.out sizeRun rfl (runL_one rfl rfl (own_one HS4.out.out.own)) rfl ?_
          intro w5 h5 ho5
          have HROW5 := Lib.hid h5
          have HS5 := Lib.hid (HS4.out.off HROW4.out HGG.out ho5)
          clear h5 ho5
          try simp only [Act.put, List.setIfInBounds_toArray, List.set_cons_zero, List.set_cons_succ]
          refine wpG_done (by kernel_rfl) ?_ _
          clear HROW HRS ACT HROW4 HS4 d0
          go_wp2_with fail
          go_roundw
          case rel =>
            have HE : act (⟨rs, k1, k2, k3, k4⟩ : Cfg) L (⟨qc, qi, ql⟩ : QC) (⟨nc, ni, nl⟩ : QC) t ⟨R.a, plainC os⟩ (y : Int) = acts (⟨rs, k1, k2, k3, k4⟩ : Cfg) L (⟨qc, qi, ql⟩ : QC) (⟨nc, ni, nl⟩ : QC) t ⟨⟨N, i, r, plain ts, ct, tm, nk⟩, []⟩ (L.take (k + 1)) := by rw [HK.out, HOS.out, HY.out]
            have h1 := HROW5.out
            have h3 := HP4.out
            rw [HE] at h1 h3
            first
              | exact ⟨k + 1, ov4, os4, hle, by go_num, h1, HS5.out, h3⟩
              | ((repeat apply Exists.intro); exact ⟨⟨k + 1, ov4, os4, hle, by go_num, h1, HS5.out, h3⟩, rfl⟩)
          case measure => simp [intOf]; omega
        · obtain rfl : k = M := by omega
          have HT : Hid (L.take k = L) := List.take_of_length_le (by rw [HM.out]; exact Nat.le_refl _)
          obtain ⟨R, hR⟩ : ∃ R, R = (acts (⟨rs, k1, k2, k3, k4⟩ : Cfg) L (⟨qc, qi, ql⟩ : QC) (⟨nc, ni, nl⟩ : QC) t ⟨⟨N, i, r, plain ts, ct, tm, nk⟩, []⟩ (L.take k)) := ⟨_, rfl⟩
          rw [← hR] at HROW HOS
          rw [HT.out] at hR
          rw [← hR] at HXE
          have TM := Lib.hid (rTimed_any N wr)
          have HASK : Hid (plain ts = R.a.ask) := by
            show _ = _
            rw [hR]
            have h1 := (acts_mid HF.out.1 HF.out.2.2 L (⟨qc, qi, ql⟩ : QC) (⟨nc, ni, nl⟩ : QC) L _ (isA_mid (c := (⟨rs, k1, k2, k3, k4⟩ : Cfg)) HF.out.2.1 N)).1.ask
            exact h1.symm
          clear hR
          have HP : Hid (wr.heap[w.heap.size + 4]? = some (.cells #[.int .i64 0, .int .i64 0, .int .i64 0, .slice none 0 0, .int .i64 0, .int .i64 0, .int .i64 0] 28)) := heap_below HG4.out HRS.out.old
          cases ht : Fs.timed N with
          | true =>
            rw [ht] at TM
            have HRT := Lib.hid ht
            clear ht
            have HXR : Hid (x = (R.a, R.out, L)) := by show _ = _; rw [HXE.out]; unfold rest; rw [if_pos HRT.out]
            go_wp2_with fail
            refine TM.out.mono ?_
            rintro e w4 ⟨rfl, rfl⟩
            go_upto_region 14 with fail
            have HC : Hid (Gr w4 w4.drew) := Gr.drew _
            refine wp_region_H 5 Gr (Kp [g]) (by kernel_rfl) ?_
            generalize w4.drew = wc at HC ⊢
            -- 0: slot 64
            refine wpH_take preGr (preKp _) (i := 0) (v := ?_) (by kernel_rfl) (some 64) (by kernel_rfl) rfl (by kernel_rfl) (by kernel_rfl) (by kernel_rfl) (fun _ _ _ h => h) (by rfl) (fun w' hw' => ?_) rfl ?_
            rotate_left
            · try (have hq2 := cells13 (heap_below HROW.out (Gr.trans HC.out hw')); obtain ⟨k0, k1, k2, k3, k4, k5, k6, k7, k8, k9, k10, k11, k12⟩ := hq2; clear k0 k1 k2 k3 k4 k5 k6 k7 k8 k9 k10 k11)
              go_simp
              with_reducible rfl
            simp only [Act.put, List.setIfInBounds_toArray, List.set_cons_zero, List.set_cons_succ]
            -- 1: slot 65
            refine wpH_take preGr (preKp _) (i := 1) (v := ?_) (by kernel_rfl) (some 65) (by kernel_rfl) rfl (by kernel_rfl) (by kernel_rfl) (by kernel_rfl) (fun _ _ _ h => h) (by rfl) (fun w' hw' => ?_) rfl ?_
            rotate_left
            · refine Eq.trans (load_mid_run (P := Tryz.prog) 28 (.tmp 64) ?_ g 5 ?_ (autoC R.a (.slice ao n c)) _ (fun j u hj => range_row (heap_below HROW.out (Gr.trans HC.out hw')) 5 j u (auto_in hj)) Tryz.underlying28 rfl sizeAuto) ?_
              · rfl
              · simp [go_sem]
              · with_reducible rfl
            simp only [Act.put, List.setIfInBounds_toArray, List.set_cons_zero, List.set_cons_succ]
            -- 2: slot 66
            refine wpH_takeH preGr (preKp _) (i := 2) (v := ?_) (some 66) (by kernel_rfl) rfl (by kernel_rfl) (by kernel_rfl) (by kernel_rfl) (fun _ _ _ h => h) (by rfl) (fun w' hw' => ?_) rfl ?_
            rotate_left
            · have hq2 := cells13 ((hw'.2 g (by simp)).trans (heap_below HROW.out HC.out))
              obtain ⟨k0, k1, k2, k3, k4, k5, k6, k7, k8, k9, k10, k11, k12⟩ := hq2
              clear k0 k1 k2 k3 k4 k5 k6 k7 k8 k9 k10 k11
              go_simp
              with_reducible rfl
            simp only [Act.put, List.setIfInBounds_toArray, List.set_cons_zero, List.set_cons_succ]
            -- 3: slot 67
            refine wpH_takeH preGr (preKp _) (i := 3) (v := ?_) (some 67) (by kernel_rfl) rfl (by kernel_rfl) (by kernel_rfl) (by kernel_rfl) (fun _ _ _ h => h) (by rfl) (fun w' hw' => ?_) rfl ?_
            rotate_left
            · have hq2 := cells13 ((hw'.2 g (by simp)).trans (heap_below HROW.out HC.out))
              obtain ⟨k0, k1, k2, k3, k4, k5, k6, k7, k8, k9, k10, k11, k12⟩ := hq2
              clear k0 k1 k2 k3 k4 k5 k6 k7 k8 k9 k10 k11
              go_simp
              with_reducible rfl
            simp only [Act.put, List.setIfInBounds_toArray, List.set_cons_zero, List.set_cons_succ]
            -- 4: slot 68
            refine wpH_takeH preGr (preKp _) (i := 4) (v := ?_) (some 68) (by kernel_rfl) rfl (by kernel_rfl) (by kernel_rfl) (by kernel_rfl) (fun _ _ _ h => h) (by rfl) (fun w' hw' => ?_) rfl ?_
            rotate_left
            · have hq2 := cells13 ((hw'.2 g (by simp)).trans (heap_below HROW.out HC.out))
              obtain ⟨k0, k1, k2, k3, k4, k5, k6, k7, k8, k9, k10, k11, k12⟩ := hq2
              clear k0 k1 k2 k3 k4 k5 k6 k7 k8 k9 k10 k11
              go_simp
              with_reducible rfl
            simp only [Act.put, List.setIfInBounds_toArray, List.set_cons_zero, List.set_cons_succ]
            refine wpH_tail (i := 5) (by decide) rfl (by kernel_rfl) (by rfl) ?_
            refine wp_store_whole (none) 28 (.tmp 12) (.tmp 65) rfl (w.heap.size + 4) (autoC R.a (.slice ao n c)) rfl rfl 28 _ (heap_below HP.out HC.out) sizeAuto rfl (autoC_one rfl) rfl ?_
            intro w8 h8 ho8
            have H8 := Lib.hid h8
            have HO8 := Lib.hid ho8
            refine ⟨⟨ho8.size, fun b hb => ?_⟩, ?_⟩
            · simp only [List.mem_cons, List.not_mem_nil, or_false] at hb
              subst hb
              exact ho8.heap _ (Array.getElem?_eq_some_iff.1 (heap_below HROW.out HC.out)).1 (ne_of_block (heap_below HROW.out HC.out) (heap_below HP.out HC.out) (by decide))
            clear h8 ho8
            try simp only [Act.put, List.setIfInBounds_toArray, List.set_cons_zero, List.set_cons_succ]
            refine wpH_tail (i := 6) (by decide) rfl (by kernel_rfl) (by rfl) ?_
            go_simp
            refine ⟨(pre_refl (preKp _) _), ?_⟩
            try simp only [Act.put, List.setIfInBounds_toArray, List.set_cons_zero, List.set_cons_succ]
            refine wpH_tail (i := 7) (by decide) rfl (by kernel_rfl) (by rfl) ?_
            go_simp
            refine ⟨(pre_refl (preKp _) _), ?_⟩
            try simp only [Act.put, List.setIfInBounds_toArray, List.set_cons_zero, List.set_cons_succ]
            refine wpH_done (by kernel_rfl) ?_ _
            go_wp2
            refine bodyPost_ret (v := .tuple #[autoV R.a (.slice ao n c), ov, .slice va k vc]) (results_cell_tmp_tmp_row (P := Tryz.prog) (fn := Tryz.f12) rfl _ _ (w.heap.size + 4) 28 _ (0, 0) _ rfl H8.out Tryz.underlying28 rfl sizeAuto) rfl ?_
            rw [HXR.out]
            exact ⟨_, _, rfl, rdat_of (HRS.out.gr HC.out) (heap_below HP.out HC.out) zero_no HO8.out HTR.out HASK.out HBA.out (Nat.le_add_right _ _) HOS.out⟩
          | false =>
            rw [ht] at TM
            have HRT := Lib.hid ht
            clear ht
            have HXR : Hid (x = ({ R.a with timer := 0 }, R.out, L)) := by show _ = _; rw [HXE.out]; unfold rest; rw [if_neg (by rw [HRT.out]; decide)]
            go_wp2_with fail
            refine TM.out.mono ?_
            rintro e w4 ⟨rfl, rfl⟩
            go_wp2_with (refine wpList_store_cell rfl 3 (.tmp 63) (.const (.int .i64 0)) rfl g 10 (.int .i64 0) rfl rfl 80 _ HROW.out sizeI (by simp [runL]) rfl ?_)
            intro w6 g6 ho6
            have HROW6 : Hid (w6.heap[g]? = some (.cells (runL (.slice ra rn rc) (⟨rs, k1, k2, k3, k4⟩ : Cfg) { R.a with timer := 0 } (.slice ao n c) ov).toArray 80 (0, 0))) := g6
            have HRS6 := Lib.hid (HRS.out.off HROW.out HGG.out ho6)
            have HP6 := Lib.hid (only_heap HP.out ho6 (by have := (Array.getElem?_eq_some_iff.1 HG4.out).1; have := HGG.out; omega))
            clear g6 ho6 HROW HRS HP
            go_upto_region 14 with fail
            have HC : Hid (Gr w6 w6.drew) := Gr.drew _
            refine wp_region_H 5 Gr (Kp [g]) (by kernel_rfl) ?_
            generalize w6.drew = wc at HC ⊢
            -- 0: slot 64
            refine wpH_take preGr (preKp _) (i := 0) (v := ?_) (by kernel_rfl) (some 64) (by kernel_rfl) rfl (by kernel_rfl) (by kernel_rfl) (by kernel_rfl) (fun _ _ _ h => h) (by rfl) (fun w' hw' => ?_) rfl ?_
            rotate_left
            · try (have hq2 := cells13 (heap_below HROW6.out (Gr.trans HC.out hw')); obtain ⟨k0, k1, k2, k3, k4, k5, k6, k7, k8, k9, k10, k11, k12⟩ := hq2; clear k0 k1 k2 k3 k4 k5 k6 k7 k8 k9 k10 k11)
              go_simp
              with_reducible rfl
            simp only [Act.put, List.setIfInBounds_toArray, List.set_cons_zero, List.set_cons_succ]
            -- 1: slot 65
            refine wpH_take preGr (preKp _) (i := 1) (v := ?_) (by kernel_rfl) (some 65) (by kernel_rfl) rfl (by kernel_rfl) (by kernel_rfl) (by kernel_rfl) (fun _ _ _ h => h) (by rfl) (fun w' hw' => ?_) rfl ?_
            rotate_left
            · refine Eq.trans (load_mid_run (P := Tryz.prog) 28 (.tmp 64) ?_ g 5 ?_ (autoC ({ R.a with timer := 0 } : Aut) (.slice ao n c)) _ (fun j u hj => range_row (heap_below HROW6.out (Gr.trans HC.out hw')) 5 j u (auto_in hj)) Tryz.underlying28 rfl sizeAuto) ?_
              · rfl
              · simp [go_sem]
              · with_reducible rfl
            simp only [Act.put, List.setIfInBounds_toArray, List.set_cons_zero, List.set_cons_succ]
            -- 2: slot 66
            refine wpH_takeH preGr (preKp _) (i := 2) (v := ?_) (some 66) (by kernel_rfl) rfl (by kernel_rfl) (by kernel_rfl) (by kernel_rfl) (fun _ _ _ h => h) (by rfl) (fun w' hw' => ?_) rfl ?_
            rotate_left
            · have hq2 := cells13 ((hw'.2 g (by simp)).trans (heap_below HROW6.out HC.out))
              obtain ⟨k0, k1, k2, k3, k4, k5, k6, k7, k8, k9, k10, k11, k12⟩ := hq2
              clear k0 k1 k2 k3 k4 k5 k6 k7 k8 k9 k10 k11
              go_simp
              with_reducible rfl
            simp only [Act.put, List.setIfInBounds_toArray, List.set_cons_zero, List.set_cons_succ]
            -- 3: slot 67
            refine wpH_takeH preGr (preKp _) (i := 3) (v := ?_) (some 67) (by kernel_rfl) rfl (by kernel_rfl) (by kernel_rfl) (by kernel_rfl) (fun _ _ _ h => h) (by rfl) (fun w' hw' => ?_) rfl ?_
            rotate_left
            · have hq2 := cells13 ((hw'.2 g (by simp)).trans (heap_below HROW6.out HC.out))
              obtain ⟨k0, k1, k2, k3, k4, k5, k6, k7, k8, k9, k10, k11, k12⟩ := hq2
              clear k0 k1 k2 k3 k4 k5 k6 k7 k8 k9 k10 k11
              go_simp
              with_reducible rfl
            simp only [Act.put, List.setIfInBounds_toArray, List.set_cons_zero, List.set_cons_succ]
            -- 4: slot 68
            refine wpH_takeH preGr (preKp _) (i := 4) (v := ?_) (some 68) (by kernel_rfl) rfl (by kernel_rfl) (by kernel_rfl) (by kernel_rfl) (fun _ _ _ h => h) (by rfl) (fun w' hw' => ?_) rfl ?_
            rotate_left
            · have hq2 := cells13 ((hw'.2 g (by simp)).trans (heap_below HROW6.out HC.out))
              obtain ⟨k0, k1, k2, k3, k4, k5, k6, k7, k8, k9, k10, k11, k12⟩ := hq2
              clear k0 k1 k2 k3 k4 k5 k6 k7 k8 k9 k10 k11
              go_simp
              with_reducible rfl
            simp only [Act.put, List.setIfInBounds_toArray, List.set_cons_zero, List.set_cons_succ]
            refine wpH_tail (i := 5) (by decide) rfl (by kernel_rfl) (by rfl) ?_
            refine wp_store_whole (none) 28 (.tmp 12) (.tmp 65) rfl (w.heap.size + 4) (autoC ({ R.a with timer := 0 } : Aut) (.slice ao n c)) rfl rfl 28 _ (heap_below HP6.out HC.out) sizeAuto rfl (autoC_one rfl) rfl ?_
            intro w8 h8 ho8
            have H8 := Lib.hid h8
            have HO8 := Lib.hid ho8
            refine ⟨⟨ho8.size, fun b hb => ?_⟩, ?_⟩
            · simp only [List.mem_cons, List.not_mem_nil, or_false] at hb
              subst hb
              exact ho8.heap _ (Array.getElem?_eq_some_iff.1 (heap_below HROW6.out HC.out)).1 (ne_of_block (heap_below HROW6.out HC.out) (heap_below HP6.out HC.out) (by decide))
            clear h8 ho8
            try simp only [Act.put, List.setIfInBounds_toArray, List.set_cons_zero, List.set_cons_succ]
            refine wpH_tail (i := 6) (by decide) rfl (by kernel_rfl) (by rfl) ?_
            go_simp
            refine ⟨(pre_refl (preKp _) _), ?_⟩
            try simp only [Act.put, List.setIfInBounds_toArray, List.set_cons_zero, List.set_cons_succ]
            refine wpH_tail (i := 7) (by decide) rfl (by kernel_rfl) (by rfl) ?_
            go_simp
            refine ⟨(pre_refl (preKp _) _), ?_⟩
            try simp only [Act.put, List.setIfInBounds_toArray, List.set_cons_zero, List.set_cons_succ]
            refine wpH_done (by kernel_rfl) ?_ _
            go_wp2
            refine bodyPost_ret (v := .tuple #[autoV ({ R.a with timer := 0 } : Aut) (.slice ao n c), ov, .slice va k vc]) (results_cell_tmp_tmp_row (P := Tryz.prog) (fn := Tryz.f12) rfl _ _ (w.heap.size + 4) 28 _ (0, 0) _ rfl H8.out Tryz.underlying28 rfl sizeAuto) rfl ?_
            rw [HXR.out]
            exact ⟨_, _, rfl, rdat_of (HRS6.out.gr HC.out) (heap_below HP6.out HC.out) zero_no HO8.out HTR.out HASK.out HBA.out (Nat.le_add_right _ _) HOS.out⟩
    · have hxe : x = ((⟨s, i, r, plain ts, ct, tm, nk⟩ : Aut), [], []) := by rw [HX.out]; exact doE_no fun h => hz h.2
      have HXE := Lib.hid hxe
      unfold Fs.TRes at ST
      obtain ⟨N, hN⟩ : ∃ N, N = (Fs.stp s ev).1 := ⟨_, rfl⟩
      obtain ⟨L, hL⟩ : ∃ L, L = (Fs.stp s ev).2.1 := ⟨_, rfl⟩
      obtain ⟨F, hF⟩ : ∃ F, F = (Fs.stp s ev).2.2 := ⟨_, rfl⟩
      rw [← hF] at hz
      rw [← hN, ← hL, ← hF] at ST
      have hz2 : (F != 0) = true := by simpa using hz
      clear hN hL hF hxe hz
      go_enter Tryz.func12, Tryz.ntmps12
      go_wp2_with fail
      obtain ⟨wb, hwb⟩ : ∃ wb, wb = (((((w.alloc (.cells #[.slice ra rn rc, .int .i64 k1, .int .i64 k2, .int .i64 k3, .int .i64 k4] 24)).alloc (.cells #[.int .i64 s, .int .i64 i, .int .i64 r, .slice ao n c, .int .i64 ct, .int .i64 tm, .int .i64 nk] 28)).alloc (.cells #[.int .i64 qc, .int .i64 qi, .slice qa qn qk] 32)).alloc (.cells #[.int .i64 nc, .int .i64 ni, .slice na nn nk2] 32)).alloc (.cells #[.int .i64 0, .int .i64 0, .int .i64 0, .slice none 0 0, .int .i64 0, .int .i64 0, .int .i64 0] 28)) := ⟨_, rfl⟩
      rw [← hwb] at FN HG0 HG1 HG2 HG3 HG4 HBA HARG ⊢
      clear hwb i0 i1 i2 i3 i4 j0 j1 j2 j3 j4 j5 j6
      refine FN.out.mono ?_
      rintro e w1 ⟨rfl, hb1⟩
      obtain ⟨j0', j1', j2', j3', j4', j5', j6'⟩ := cells7 (heap_below HG1.out hb1)
      have HB1 : Hid (Gr wb w1) := hb1
      clear hb1 FN
      go_wp2_with fail
      refine (ST.out w1).mono ?_
      rintro e w2 ⟨v, rfl, ho, hb2⟩
      have HB2 : Hid (Gr wb w2) := Gr.trans HB1.out hb2
      obtain ⟨j0, j1, j2, j3, j4, j5, j6⟩ := cells7 (heap_below HG1.out HB2.out)
      clear ho hb2 ST HB1 j0' j1' j2' j3' j4' j5' j6'
      go_wp2_with (refine wpList_store_whole rfl 28 (.tmp 12) (.tmp 36) rfl (w.heap.size + 4) (autoC (⟨s, i, r, plain ts, ct, tm, nk⟩ : Aut) (.slice ao n c)) rfl rfl 28 _ (heap_below HG4.out HB2.out) sizeAuto rfl (autoC_one rfl) ?_)
      intro w6 g6 ho6
      have H6 := Lib.hid g6
      have HB6 : Hid (Below w.heap.size w w6) := by
        have h2 : Below wb.heap.size wb w2 := HB2.out
        have h1 : Below w.heap.size w wb := HBA.out
        exact ho6.below _ _ (Nat.le_add_right _ _) (h1.trans (h2.mono h1.size))
      clear g6 ho6 j0 j1 j2 j3 j4 j5 j6
      go_wp2_with fail
      refine bodyPost_ret (v := .tuple #[autoV (⟨s, i, r, plain ts, ct, tm, nk⟩ : Aut) (.slice ao n c), .slice none 0 0, .slice none 0 0]) (results_cell_tmp_tmp_row (P := Tryz.prog) (fn := Tryz.f12) rfl _ _ (w.heap.size + 4) 28 _ (0, 0) _ rfl H6.out Tryz.underlying28 rfl sizeAuto) rfl ?_
      rw [HXE.out]
      exact ⟨_, _, rfl, RDAt.stay HTR.out rfl HB6.out⟩
  · rw [decide_eq_false hf] at FN
    have hxe : x = ((⟨s, i, r, plain ts, ct, tm, nk⟩ : Aut), [], []) := by rw [HX.out]; exact doE_no fun h => hf h.1
    have HXE := Lib.hid hxe
    clear hxe hf
    go_enter Tryz.func12, Tryz.ntmps12
    go_wp2_with fail
    obtain ⟨wb, hwb⟩ : ∃ wb, wb = (((((w.alloc (.cells #[.slice ra rn rc, .int .i64 k1, .int .i64 k2, .int .i64 k3, .int .i64 k4] 24)).alloc (.cells #[.int .i64 s, .int .i64 i, .int .i64 r, .slice ao n c, .int .i64 ct, .int .i64 tm, .int .i64 nk] 28)).alloc (.cells #[.int .i64 qc, .int .i64 qi, .slice qa qn qk] 32)).alloc (.cells #[.int .i64 nc, .int .i64 ni, .slice na nn nk2] 32)).alloc (.cells #[.int .i64 0, .int .i64 0, .int .i64 0, .slice none 0 0, .int .i64 0, .int .i64 0, .int .i64 0] 28)) := ⟨_, rfl⟩
    rw [← hwb] at FN HG0 HG1 HG2 HG3 HG4 HBA HARG ⊢
    clear hwb i0 i1 i2 i3 i4 j0 j1 j2 j3 j4 j5 j6
    refine FN.out.mono ?_
    rintro e w2 ⟨rfl, hb1⟩
    have HB2 : Hid (Gr wb w2) := hb1
    obtain ⟨j0, j1, j2, j3, j4, j5, j6⟩ := cells7 (heap_below HG1.out HB2.out)
    clear hb1 FN
    go_wp2_with (refine wpList_store_whole rfl 28 (.tmp 12) (.tmp 25) rfl (w.heap.size + 4) (autoC (⟨s, i, r, plain ts, ct, tm, nk⟩ : Aut) (.slice ao n c)) rfl rfl 28 _ (heap_below HG4.out HB2.out) sizeAuto rfl (autoC_one rfl) ?_)
    intro w6 g6 ho6
    have H6 := Lib.hid g6
    have HB6 : Hid (Below w.heap.size w w6) := by
        have h2 : Below wb.heap.size wb w2 := HB2.out
        have h1 : Below w.heap.size w wb := HBA.out
        exact ho6.below _ _ (Nat.le_add_right _ _) (h1.trans (h2.mono h1.size))
    clear g6 ho6 j0 j1 j2 j3 j4 j5 j6
    go_wp2_with fail
    refine bodyPost_ret (v := .tuple #[autoV (⟨s, i, r, plain ts, ct, tm, nk⟩ : Aut) (.slice ao n c), .slice none 0 0, .slice none 0 0]) (results_cell_tmp_tmp_row (P := Tryz.prog) (fn := Tryz.f12) rfl _ _ (w.heap.size + 4) 28 _ (0, 0) _ rfl H6.out Tryz.underlying28 rfl sizeAuto) rfl ?_
    rw [HXE.out]
    exact ⟨_, _, rfl, RDAt.stay HTR.out rfl HB6.out⟩
end Go.Proofs.YtclplbapedmihaaGreat.Au
namespace Go.Proofs.YtclplbapedmihaaGreat.Au
set_option maxRecDepth 4000
open Go.RowKit O Ng
open Go.Proofs.YtclplbapedmihaaGreat.Fs (AO AO.ar AO.nil AR AR.at)
set_option linter.unusedVariables false
set_option linter.unusedSimpArgs false
/-- What was answered, as it reads. -/
structure Said (x : Aut × List QC × List Int) (w : World) (av ov dv : Value) : Prop where
  ask : ∃ n ts, TR w av n ts ∧ plain ts = x.1.ask
  out : ∃ os, CR w ov os.length os ∧ plainC os = x.2.1
  done : AR w dv x.2.2
theorem Said.below {x : Aut × List QC × List Int} {w w' : World} {av ov dv : Value} (h : Said x w av ov dv) (hb : Below w.heap.size w w') : Said x w' av ov dv := by
  obtain ⟨n, ts, h1, h2⟩ := h.ask
  obtain ⟨os, h3, h4⟩ := h.out
  exact ⟨⟨n, ts, h1.below hb, h2⟩, ⟨os, h3.below hb, h4⟩, Rd.below h.done hb⟩
theorem DAt.said {x : Aut × List QC × List Int} {w w' : World} {av ov dv : Value} (h : DAt x w w' av ov dv) : Said x w' av ov dv := by
  obtain ⟨ts, h1, h2⟩ := h.ask
  obtain ⟨os, h3, h4⟩ := h.out
  exact ⟨⟨_, ts, h1.tr, h2⟩, ⟨os, h3.cr, h4⟩, h.done.ar⟩
theorem RDAt.said {x : Aut × List QC × List Int} {w w' : World} {av ov dv : Value} (h : RDAt x w w' av ov dv) : Said x w' av ov dv := by
  obtain ⟨os, ⟨h1, h2⟩, h3⟩ := h.out
  exact ⟨h.ask, ⟨os, ⟨own_rd h1, h2⟩, h3⟩, h.done.ar⟩
theorem Said.av {x : Aut × List QC × List Int} {w : World} {av ov dv : Value} (h : Said x w av ov dv) : ∃ a n c, av = .slice a n c := by
  obtain ⟨n, ts, h1, _⟩ := h.ask
  obtain ⟨a, c, e, _, _⟩ := h1.shape
  exact ⟨a, n, c, e⟩
theorem Said.ov {x : Aut × List QC × List Int} {w : World} {av ov dv : Value} (h : Said x w av ov dv) : ∃ a c, ov = .slice a x.2.1.length c := by
  obtain ⟨os, h1, h2⟩ := h.out
  obtain ⟨a, c, e, _, _⟩ := h1.shape
  refine ⟨a, c, ?_⟩
  rw [← h2, plainC_length]; exact e
theorem Said.dv {x : Aut × List QC × List Int} {w : World} {av ov dv : Value} (h : Said x w av ov dv) : ∃ a c, dv = .slice a x.2.2.length c := by
  obtain ⟨a, c, e, _, _⟩ := h.done.shape
  exact ⟨a, c, e⟩
theorem Said.same {s i r ct tm nk : Int} {ask : List PT} {xo : List QC} {xl : List Int} {w : World} {av ov dv av' ov' dv' : Value} (h : Said (⟨s, i, r, ask, ct, tm, nk⟩, xo, xl) w av ov dv) (h' : Said (⟨s, i, r, ask, ct, tm, nk⟩, xo, xl) w av' ov' dv') :
    Calls Tryz.prog 13 #[.agg #[.int .i64 s, .int .i64 i, .int .i64 r, av, .int .i64 ct, .int .i64 tm, .int .i64 nk], .agg #[.int .i64 s, .int .i64 i, .int .i64 r, av', .int .i64 ct, .int .i64 tm, .int .i64 nk]] w fun e w' => e = .returned (.bool true) ∧ Below w.heap.size w w' := by
  obtain ⟨n, ts, h1, h2⟩ := h.ask
  obtain ⟨n', us, h3, h4⟩ := h'.ask
  obtain ⟨a, c, rfl, _, _⟩ := h1.shape
  obtain ⟨b, d, rfl, _, _⟩ := h3.shape
  exact rsame_auto ⟨s, i, r, ask, ct, tm, nk⟩ a n c ts b n' d us w h1 h3 (h2.trans h4.symm)
theorem Said.outs {x : Aut × List QC × List Int} {w : World} {av ov dv av' ov' dv' : Value} (h : Said x w av ov dv) (h' : Said x w av' ov' dv') :
    Calls Tryz.prog 14 #[ov, ov'] w fun e w' => e = .returned (.bool true) ∧ Below w.heap.size w w' := by
  obtain ⟨os, h1, h2⟩ := h.out
  obtain ⟨us, h3, h4⟩ := h'.out
  exact sameAll_co h1 h3 (h2.trans h4.symm)
theorem Said.deeds {x : Aut × List QC × List Int} {w : World} {av ov dv av' ov' dv' : Value} (h : Said x w av ov dv) (h' : Said x w av' ov' dv') (hb : x.2.2.length ≤ 65534) :
    Calls Tryz.prog 15 #[dv, dv'] w fun e w' => e = .returned (.bool true) ∧ Below w.heap.size w w' := Fs.same_same w h.done h'.done hb
theorem doE_short (c : Cfg) (a : Aut) (e : Int) (q an : QC) (t : Int) : (doE c a e q an t).2.2.length ≤ 65534 := by
  unfold doE
  split
  · next h => have := Fs.stp_short a.st e; show (Fs.stp a.st e).2.1.length ≤ _; omega
  · exact Nat.zero_le _
theorem tmo_short (c : Cfg) (a : Aut) (t : Int) : (tmo c a t).2.2.length ≤ 65534 := by
  unfold tmo
  split
  · exact Nat.zero_le _
  · exact doE_short _ _ _ _ _ _
end Go.Proofs.YtclplbapedmihaaGreat.Au
namespace Go.Proofs.YtclplbapedmihaaGreat.Au
set_option maxRecDepth 4000
open Go.RowKit O Ng
open Go.Proofs.YtclplbapedmihaaGreat.Fs (AO AO.ar AO.nil AR AR.at)
set_option linter.unusedVariables false
set_option linter.unusedSimpArgs false
set_option maxRecDepth 20000 in
set_option maxHeartbeats 8000000 in
theorem rTimeout_any (ra : Option Addr) (rn rc : Nat) (rs : List Ru) (k1 k2 k3 k4 : Int) (s i r : Int) (ao : Option Addr) (n c : Nat) (ts : List Tg) (ct tm nk : Int) (t : Int) (w : World)
    (hrr : RR w (.slice ra rn rc) rn rs) (hr : TR w (.slice ao n c) n ts) (hn : n ≤ 1000) (hm : ∀ x ∈ ts, x.l.length ≤ 1000) :
    Calls Tryz.prog 20 #[.agg #[.slice ra rn rc, .int .i64 k1, .int .i64 k2, .int .i64 k3, .int .i64 k4], .agg #[.int .i64 s, .int .i64 i, .int .i64 r, .slice ao n c, .int .i64 ct, .int .i64 tm, .int .i64 nk], .int .i64 t] w fun e w' => ∃ ov dv, e = .returned (.tuple #[autoV (tmo (⟨rs, k1, k2, k3, k4⟩ : Cfg) (⟨s, i, r, plain ts, ct, tm, nk⟩ : Aut) t).1 (.slice ao n c), ov, dv]) ∧ RDAt (tmo (⟨rs, k1, k2, k3, k4⟩ : Cfg) (⟨s, i, r, plain ts, ct, tm, nk⟩ : Aut) t) w w' (.slice ao n c) ov dv := by
  have BA : Gr w (((w.alloc (.cells #[.slice ra rn rc, .int .i64 k1, .int .i64 k2, .int .i64 k3, .int .i64 k4] 24)).alloc (.cells #[.int .i64 s, .int .i64 i, .int .i64 r, .slice ao n c, .int .i64 ct, .int .i64 tm, .int .i64 nk] 28)).alloc (.cells #[.int .i64 0, .int .i64 0, .int .i64 0, .slice none 0 0, .int .i64 0, .int .i64 0, .int .i64 0] 28)) := (((Gr.refl w).alloc _).alloc _).alloc _
  obtain ⟨g0, g1, g2⟩ := heap3 w (.cells #[.slice ra rn rc, .int .i64 k1, .int .i64 k2, .int .i64 k3, .int .i64 k4] 24) (.cells #[.int .i64 s, .int .i64 i, .int .i64 r, .slice ao n c, .int .i64 ct, .int .i64 tm, .int .i64 nk] 28) (.cells #[.int .i64 0, .int .i64 0, .int .i64 0, .slice none 0 0, .int .i64 0, .int .i64 0, .int .i64 0] 28)
  obtain ⟨i0, i1, i2, i3, i4⟩ := cells5 g0
  obtain ⟨j0, j1, j2, j3, j4, j5, j6⟩ := cells7 g1
  have HG2 := Lib.hid g2
  have HBA : Hid (Below w.heap.size w (((w.alloc (.cells #[.slice ra rn rc, .int .i64 k1, .int .i64 k2, .int .i64 k3, .int .i64 k4] 24)).alloc (.cells #[.int .i64 s, .int .i64 i, .int .i64 r, .slice ao n c, .int .i64 ct, .int .i64 tm, .int .i64 nk] 28)).alloc (.cells #[.int .i64 0, .int .i64 0, .int .i64 0, .slice none 0 0, .int .i64 0, .int .i64 0, .int .i64 0] 28))) := BA
  have HTR := Lib.hid hr
  have RD := Lib.hid (fun ev => rDo_any ra rn rc rs k1 k2 k3 k4 s i r ao n c ts ct tm nk ev 0 0 none 0 0 [] 0 0 none 0 0 [] t (((w.alloc (.cells #[.slice ra rn rc, .int .i64 k1, .int .i64 k2, .int .i64 k3, .int .i64 k4] 24)).alloc (.cells #[.int .i64 s, .int .i64 i, .int .i64 r, .slice ao n c, .int .i64 ct, .int .i64 tm, .int .i64 nk] 28)).alloc (.cells #[.int .i64 0, .int .i64 0, .int .i64 0, .slice none 0 0, .int .i64 0, .int .i64 0, .int .i64 0] 28)) (hrr.below BA) (hr.below BA) hn hm (Bs.nil _) ⟨rfl, by decide⟩ (Bs.nil _))
  obtain ⟨x, hx⟩ : ∃ x, x = tmo (⟨rs, k1, k2, k3, k4⟩ : Cfg) (⟨s, i, r, plain ts, ct, tm, nk⟩ : Aut) t := ⟨_, rfl⟩
  rw [← hx]
  have HX := Lib.hid hx
  clear BA hrr hr hn hm g0 g1 g2 hx
  by_cases hd : tm = 0 ∨ t < tm
  · have hxe : x = ((⟨s, i, r, plain ts, ct, tm, nk⟩ : Aut), [], []) := by rw [HX.out]; unfold tmo; rw [if_pos hd]
    have HXE := Lib.hid hxe
    clear hxe RD HX
    by_cases h0 : tm = 0
    · have h00 : (tm == 0) = true := by simp [h0]
      have hd0 : decide (tm = 0) = true := decide_eq_true h0
      clear h0 hd
      go_enter Tryz.func20, Tryz.ntmps20
      go_wp2_with (refine wpList_store_whole rfl 28 (.tmp 6) (.tmp 19) rfl (w.heap.size + 2) (autoC (⟨s, i, r, plain ts, ct, tm, nk⟩ : Aut) (.slice ao n c)) rfl rfl 28 _ HG2.out sizeAuto rfl (autoC_one rfl) ?_)
      intro w6 g6 ho6
      have H6 := Lib.hid g6
      have HB6 : Hid (Below w.heap.size w w6) := ho6.below _ _ (Nat.le_add_right _ _) HBA.out
      clear g6 ho6
      go_wp2_with fail
      refine bodyPost_ret (v := .tuple #[autoV (⟨s, i, r, plain ts, ct, tm, nk⟩ : Aut) (.slice ao n c), .slice none 0 0, .slice none 0 0]) (results_cell_tmp_tmp_row (P := Tryz.prog) (fn := Tryz.f20) rfl _ _ (w.heap.size + 2) 28 _ (0, 0) _ rfl H6.out Tryz.underlying28 rfl sizeAuto) rfl ?_
      rw [HXE.out]
      exact ⟨_, _, rfl, RDAt.stay HTR.out rfl HB6.out⟩
    · have h00 : (tm == 0) = false := by simp [h0]
      have hd0 : decide (tm = 0) = false := decide_eq_false h0
      have h1 : t < tm := by omega
      clear h0 hd
      go_enter Tryz.func20, Tryz.ntmps20
      go_wp2_with (refine wpList_store_whole rfl 28 (.tmp 6) (.tmp 19) rfl (w.heap.size + 2) (autoC (⟨s, i, r, plain ts, ct, tm, nk⟩ : Aut) (.slice ao n c)) rfl rfl 28 _ HG2.out sizeAuto rfl (autoC_one rfl) ?_)
      intro w6 g6 ho6
      have H6 := Lib.hid g6
      have HB6 : Hid (Below w.heap.size w w6) := ho6.below _ _ (Nat.le_add_right _ _) HBA.out
      clear g6 ho6
      go_wp2_with fail
      refine bodyPost_ret (v := .tuple #[autoV (⟨s, i, r, plain ts, ct, tm, nk⟩ : Aut) (.slice ao n c), .slice none 0 0, .slice none 0 0]) (results_cell_tmp_tmp_row (P := Tryz.prog) (fn := Tryz.f20) rfl _ _ (w.heap.size + 2) 28 _ (0, 0) _ rfl H6.out Tryz.underlying28 rfl sizeAuto) rfl ?_
      rw [HXE.out]
      exact ⟨_, _, rfl, RDAt.stay HTR.out rfl HB6.out⟩
  by_cases hc : 0 < ct
  · skip
    have hx : doE (⟨rs, k1, k2, k3, k4⟩ : Cfg) (⟨s, i, r, plain ts, ct, tm, nk⟩ : Aut) 5 (⟨0, 0, []⟩ : QC) (⟨0, 0, []⟩ : QC) t = x := by
      show doE (⟨rs, k1, k2, k3, k4⟩ : Cfg) (⟨s, i, r, plain ts, ct, tm, nk⟩ : Aut) 5 QC.zero QC.zero t = x
      rw [HX.out]
      unfold tmo
      rw [if_neg (show ¬ (tm = 0 ∨ t < tm) by omega), if_pos hc]
    have RD2 := Lib.hid (RD.out 5)
    rw [hx] at RD2
    have HXA : Hid (x.1.ask = plain ts) := by
      rw [← hx]
      exact doE_ask _ _ _ _ _ _
    have h00 : (tm == 0) = false := by simp; omega
    have hd0 : decide (tm = 0) = false := decide_eq_false (by omega)
    have h1 : ¬ t < tm := by omega
    clear hx RD hd
    go_enter Tryz.func20, Tryz.ntmps20
    go_wp2_with fail
    obtain ⟨wb, hwb⟩ : ∃ wb, wb = (((w.alloc (.cells #[.slice ra rn rc, .int .i64 k1, .int .i64 k2, .int .i64 k3, .int .i64 k4] 24)).alloc (.cells #[.int .i64 s, .int .i64 i, .int .i64 r, .slice ao n c, .int .i64 ct, .int .i64 tm, .int .i64 nk] 28)).alloc (.cells #[.int .i64 0, .int .i64 0, .int .i64 0, .slice none 0 0, .int .i64 0, .int .i64 0, .int .i64 0] 28)) := ⟨_, rfl⟩
    rw [← hwb] at RD2 HG2 HBA ⊢
    clear hwb i0 i1 i2 i3 i4 j0 j1 j2 j3 j4 j5 j6
    refine RD2.out.mono ?_
    rintro e w1 ⟨ov, dv, rfl, hd⟩
    have HD := Lib.hid hd
    have HP := Lib.hid (heap_below HG2.out hd.old)
    obtain ⟨oa, oc, rfl⟩ : ∃ a c, ov = .slice a x.2.1.length c := by
      obtain ⟨os, ⟨h1, _⟩, h3⟩ := hd.out
      obtain ⟨a, c, e, _, _⟩ := (own_rd h1).shape
      exact ⟨a, c, by rw [← h3, plainC_length]; exact e⟩
    obtain ⟨da, dc, rfl⟩ : ∃ a c, dv = .slice a x.2.2.length c := by
      obtain ⟨a, c, e, _, _⟩ := hd.done.ar.shape
      exact ⟨a, c, e⟩
    clear hd RD2
    go_wp2_with (refine wpList_store_whole rfl 28 (.tmp 6) (.tmp 30) rfl (w.heap.size + 2) (autoC x.1 (.slice ao n c)) rfl rfl 28 _ HP.out sizeAuto rfl (autoC_one rfl) ?_)
    intro w6 g6 ho6
    have H6 := Lib.hid g6
    have HD6 := Lib.hid (HD.out.off HP.out zero_no ho6 HTR.out HXA.out.symm HBA.out (Nat.le_add_right _ _))
    clear g6 ho6
    go_wp2_with fail
    refine bodyPost_ret (v := .tuple #[autoV x.1 (.slice ao n c), .slice oa x.2.1.length oc, .slice da x.2.2.length dc]) (results_cell_tmp_tmp_row (P := Tryz.prog) (fn := Tryz.f20) rfl _ _ (w.heap.size + 2) 28 _ (0, 0) _ rfl H6.out Tryz.underlying28 rfl sizeAuto) rfl ?_
    exact ⟨_, _, rfl, HD6.out⟩
  · skip
    have hx : doE (⟨rs, k1, k2, k3, k4⟩ : Cfg) (⟨s, i, r, plain ts, ct, tm, nk⟩ : Aut) 6 (⟨0, 0, []⟩ : QC) (⟨0, 0, []⟩ : QC) t = x := by
      show doE (⟨rs, k1, k2, k3, k4⟩ : Cfg) (⟨s, i, r, plain ts, ct, tm, nk⟩ : Aut) 6 QC.zero QC.zero t = x
      rw [HX.out]
      unfold tmo
      rw [if_neg (show ¬ (tm = 0 ∨ t < tm) by omega), if_neg hc]
    have RD2 := Lib.hid (RD.out 6)
    rw [hx] at RD2
    have HXA : Hid (x.1.ask = plain ts) := by
      rw [← hx]
      exact doE_ask _ _ _ _ _ _
    have h00 : (tm == 0) = false := by simp; omega
    have hd0 : decide (tm = 0) = false := decide_eq_false (by omega)
    have h1 : ¬ t < tm := by omega
    clear hx RD hd
    go_enter Tryz.func20, Tryz.ntmps20
    go_wp2_with fail
    obtain ⟨wb, hwb⟩ : ∃ wb, wb = (((w.alloc (.cells #[.slice ra rn rc, .int .i64 k1, .int .i64 k2, .int .i64 k3, .int .i64 k4] 24)).alloc (.cells #[.int .i64 s, .int .i64 i, .int .i64 r, .slice ao n c, .int .i64 ct, .int .i64 tm, .int .i64 nk] 28)).alloc (.cells #[.int .i64 0, .int .i64 0, .int .i64 0, .slice none 0 0, .int .i64 0, .int .i64 0, .int .i64 0] 28)) := ⟨_, rfl⟩
    rw [← hwb] at RD2 HG2 HBA ⊢
    clear hwb i0 i1 i2 i3 i4 j0 j1 j2 j3 j4 j5 j6
    refine RD2.out.mono ?_
    rintro e w1 ⟨ov, dv, rfl, hd⟩
    have HD := Lib.hid hd
    have HP := Lib.hid (heap_below HG2.out hd.old)
    obtain ⟨oa, oc, rfl⟩ : ∃ a c, ov = .slice a x.2.1.length c := by
      obtain ⟨os, ⟨h1, _⟩, h3⟩ := hd.out
      obtain ⟨a, c, e, _, _⟩ := (own_rd h1).shape
      exact ⟨a, c, by rw [← h3, plainC_length]; exact e⟩
    obtain ⟨da, dc, rfl⟩ : ∃ a c, dv = .slice a x.2.2.length c := by
      obtain ⟨a, c, e, _, _⟩ := hd.done.ar.shape
      exact ⟨a, c, e⟩
    clear hd RD2
    go_wp2_with (refine wpList_store_whole rfl 28 (.tmp 6) (.tmp 30) rfl (w.heap.size + 2) (autoC x.1 (.slice ao n c)) rfl rfl 28 _ HP.out sizeAuto rfl (autoC_one rfl) ?_)
    intro w6 g6 ho6
    have H6 := Lib.hid g6
    have HD6 := Lib.hid (HD.out.off HP.out zero_no ho6 HTR.out HXA.out.symm HBA.out (Nat.le_add_right _ _))
    clear g6 ho6
    go_wp2_with fail
    refine bodyPost_ret (v := .tuple #[autoV x.1 (.slice ao n c), .slice oa x.2.1.length oc, .slice da x.2.2.length dc]) (results_cell_tmp_tmp_row (P := Tryz.prog) (fn := Tryz.f20) rfl _ _ (w.heap.size + 2) 28 _ (0, 0) _ rfl H6.out Tryz.underlying28 rfl sizeAuto) rfl ?_
    exact ⟨_, _, rfl, HD6.out⟩
end Go.Proofs.YtclplbapedmihaaGreat.Au
