/-
  A packet, a question, a row of texts that come in as data, opened.
-/
import Derived.Test.YtcpeglljcipcbaaPpM
import Derived.Test.YtcpeglljcipcbaaPpF
import Derived.Test.YtcpeglljcipcbaaOpen
import Derived.SliceStrings
import Derived.ChangeArms
namespace Go.Proofs.Ytcpeglljcipcbaa
open Go.ChangeShapes Go.WideShapes Go.ChangeAt Go.RowKit
set_option linter.unusedVariables false
set_option linter.unusedSimpArgs false
section
variable {H : Type} {enc : TypeId × Value → H} {P : Program} {W : World} {base : Nat}

/-- A cell that is a slice of bytes. -/
theorem bytes_cell2 {m : Nat} {t e : TypeId} {cs : List Value} {y : DataW H × List MemPlace} (ht : P.underlying t = some (.slice e)) (he : P.underlying e = some (.int .u8)) (hc : P.cellsOf e = 1)
    (h : DataW.trod enc P W 0 (fun _ => true) true m t cs = some y) : ∃ a n c l, cs = [.slice a n c] ∧ l.length = n ∧ Bs W (.slice a n c) l := by
  rcases open_ints ht he hc h with ⟨hcs, _⟩ | ⟨x, l, c', zs, hcs, _, hl, hm, hz, _, hcell, hwz⟩
  · exact ⟨none, 0, 0, [], hcs, rfl, Bs.nil _⟩
  · obtain ⟨bs, rfl⟩ := bytes_of_ints zs hwz
    simp at hz
    have hlen : (bs.take l).length = l := by rw [List.length_take]; omega
    refine ⟨some x, l, c', bs.take l, hcs, hlen, ?_⟩
    unfold Bs
    rw [hlen]
    refine ⟨by simp; omega, some x, c', rfl, hl, hm, (fun h => by cases h), fun ad had j u hu => ?_⟩
    obtain rfl := Option.some.inj had
    rw [List.getElem?_map] at hu
    cases hj : (bs.take l)[j]? with
    | none => rw [hj] at hu; cases hu
    | some b =>
      rw [hj] at hu
      obtain rfl := Option.some.inj hu
      have hjn : j < l := by have := (List.getElem?_eq_some_iff.1 hj).1; omega
      have hb : bs[j]? = some b := by rwa [List.getElem?_take, if_pos hjn] at hj
      have := hcell j (by simp; omega)
      rw [this]
      simp [u8v, hb]
/-- A packet that came in. -/
theorem open_pppoe {t e : TypeId} {f0 f1 f2 : Field} {v : Value} {d : DataW H} {p : List MemPlace} (ht : P.underlying t = some (.struct #[f0, f1, f2])) (hoff : f0.offset = 0 ∧ f1.offset = 1 ∧ f2.offset = 2)
    (u0 : P.underlying f0.type = some (.int .i64)) (u1 : P.underlying f1.type = some (.int .i64)) (u2 : P.underlying f2.type = some (.slice e)) (he : P.underlying e = some (.int .u8))
    (hc : P.cellsOf t = 3 ∧ P.cellsOf f0.type = 1 ∧ P.cellsOf f1.type = 1 ∧ P.cellsOf f2.type = 1 ∧ P.cellsOf e = 1)
    (hval : Value.okWide P W .any base t v) (h : DataW.Trod enc P W 0 (fun _ => true) true t v d p) :
    ∃ (C S : Int) (a : Option Addr) (n c : Nat) (l : List UInt8), v = .agg #[.int .i64 C, .int .i64 S, .slice a n c] ∧ l.length = n ∧ Bs W (.slice a n c) l := by
  obtain ⟨cs, rfl, hsz, _⟩ : ∃ cs, v = .agg cs ∧ cs.size = P.cellsOf t ∧ Row.okWide P W .any base t cs := by
    simpa [Value.okWide, ht] using hval
  obtain ⟨fuel, hf⟩ := h
  obtain ⟨o0, o1, o2⟩ := hoff
  obtain ⟨ct, c0, c1, c2, ce⟩ := hc
  obtain ⟨xs, m, _, _, _, hl, hx⟩ := DataW.trod_struct ht hf
  rw [ct] at hsz
  obtain ⟨l⟩ := cs
  simp only [List.size_toArray] at hsz
  match xs, hl with
  | [y0, y1, y2], _ =>
    have h0 := hx 0 f0 rfl
    have h1 := hx 1 f1 rfl
    have h2 := hx 2 f2 rfl
    simp only [Value.cells, o0, o1, o2, c0, c1, c2, List.getElem?_cons_zero, List.getElem?_cons_succ] at h0 h1 h2
    match l, hsz with
    | [x0, x1, x2], _ =>
      obtain ⟨k0, e0, _, _⟩ := DataW.trod_int u0 h0
      obtain ⟨k1, e1, _, _⟩ := DataW.trod_int u1 h1
      obtain ⟨a, n, c, bs, e2, hn, hb⟩ := bytes_cell2 u2 he ce h2
      refine ⟨k0, k1, a, n, c, bs, ?_, hn, hb⟩
      simp at e0 e1 e2
      simp [e0, e1, e2]
/-- A question that came in. -/
theorem open_disc {t e : TypeId} {f0 f1 f2 f3 f4 f5 f6 f7 : Field} {v : Value} {d : DataW H} {p : List MemPlace} (ht : P.underlying t = some (.struct #[f0, f1, f2, f3, f4, f5, f6, f7]))
    (hoff : f0.offset = 0 ∧ f1.offset = 1 ∧ f2.offset = 2 ∧ f3.offset = 3 ∧ f4.offset = 4 ∧ f5.offset = 5 ∧ f6.offset = 6 ∧ f7.offset = 7)
    (u0 : P.underlying f0.type = some (.int .i64)) (u1 : P.underlying f1.type = some (.int .i64)) (u2 : P.underlying f2.type = some .string) (u3 : P.underlying f3.type = some (.slice e)) (u4 : P.underlying f4.type = some (.slice e))
    (u5 : P.underlying f5.type = some .bool) (u6 : P.underlying f6.type = some .bool) (u7 : P.underlying f7.type = some (.slice e)) (he : P.underlying e = some (.int .u8))
    (hc : P.cellsOf t = 8 ∧ P.cellsOf f0.type = 1 ∧ P.cellsOf f1.type = 1 ∧ P.cellsOf f2.type = 1 ∧ P.cellsOf f3.type = 1 ∧ P.cellsOf f4.type = 1 ∧ P.cellsOf f5.type = 1 ∧ P.cellsOf f6.type = 1 ∧ P.cellsOf f7.type = 1 ∧ P.cellsOf e = 1)
    (hval : Value.okWide P W .any base t v) (h : DataW.Trod enc P W 0 (fun _ => true) true t v d p) :
    ∃ (d : Dm), v = .agg #[.int .i64 d.c, .int .i64 d.s, .string d.v, .slice d.ua d.un d.uc, .slice d.ra d.rn d.rc, .bool d.hu, .bool d.hr, .slice d.ka d.kn d.kc] ∧ DOk W d ∧ d.ul.length = d.un ∧ d.rl.length = d.rn ∧ d.kl.length = d.kn ∧ d.v.size ≤ maxLen := by
  obtain ⟨cs, rfl, hsz, _⟩ : ∃ cs, v = .agg cs ∧ cs.size = P.cellsOf t ∧ Row.okWide P W .any base t cs := by
    simpa [Value.okWide, ht] using hval
  obtain ⟨fuel, hf⟩ := h
  obtain ⟨o0, o1, o2, o3, o4, o5, o6, o7⟩ := hoff
  obtain ⟨ct, c0, c1, c2, c3, c4, c5, c6, c7, ce⟩ := hc
  obtain ⟨xs, m, _, _, _, hl, hx⟩ := DataW.trod_struct ht hf
  rw [ct] at hsz
  obtain ⟨l⟩ := cs
  simp only [List.size_toArray] at hsz
  match xs, hl with
  | [y0, y1, y2, y3, y4, y5, y6, y7], _ =>
    have h0 := hx 0 f0 rfl
    have h1 := hx 1 f1 rfl
    have h2 := hx 2 f2 rfl
    have h3 := hx 3 f3 rfl
    have h4 := hx 4 f4 rfl
    have h5 := hx 5 f5 rfl
    have h6 := hx 6 f6 rfl
    have h7 := hx 7 f7 rfl
    simp only [Value.cells, o0, o1, o2, o3, o4, o5, o6, o7, c0, c1, c2, c3, c4, c5, c6, c7, List.getElem?_cons_zero, List.getElem?_cons_succ] at h0 h1 h2 h3 h4 h5 h6 h7
    match l, hsz with
    | [x0, x1, x2, x3, x4, x5, x6, x7], _ =>
      obtain ⟨k0, e0, _, _⟩ := DataW.trod_int u0 h0
      obtain ⟨k1, e1, _, _⟩ := DataW.trod_int u1 h1
      obtain ⟨s, e2, _, hs⟩ := DataW.trod_string u2 h2
      obtain ⟨a3, n3, g3, l3, e3, hn3, hb3⟩ := bytes_cell2 u3 he ce h3
      obtain ⟨a4, n4, g4, l4, e4, hn4, hb4⟩ := bytes_cell2 u4 he ce h4
      obtain ⟨b5, e5, _⟩ := DataW.trod_bool u5 h5
      obtain ⟨b6, e6, _⟩ := DataW.trod_bool u6 h6
      obtain ⟨a7, n7, g7, l7, e7, hn7, hb7⟩ := bytes_cell2 u7 he ce h7
      refine ⟨⟨k0, k1, s, a3, n3, g3, l3, a4, n4, g4, l4, b5, b6, a7, n7, g7, l7⟩, ?_, ⟨hb3, hb4, hb7⟩, hn3, hn4, hn7, hs⟩
      simp at e0 e1 e2 e3 e4 e5 e6 e7
      simp [e0, e1, e2, e3, e4, e5, e6, e7]
/-- A row of texts that came in. -/
theorem open_texts {t e : TypeId} {v : Value} {d : DataW H} {p : List MemPlace} (ht : P.underlying t = some (.slice e)) (he : P.underlying e = some .string) (hc : P.cellsOf e = 1)
    (hval : Value.okWide P W .any base t v) (h : DataW.Trod enc P W 0 (fun _ => true) true t v d p) : ∃ (a : Option Addr) (n c : Nat) (ss : List ByteArray), v = .slice a n c ∧ Rd W 1 (.slice a n c) n (ss.map Value.string) := by
  obtain ⟨a, n, c, rfl⟩ := okWide_slice ht hval
  obtain ⟨fuel, hf⟩ := h
  rcases open_strings ht he hc hf with ⟨hcs, _⟩ | ⟨x, len, cap, ss, hcs, _, hl, hm, hlen, _, hcell, _⟩
  · simp [Value.cells] at hcs
    obtain ⟨rfl, rfl, rfl⟩ := hcs
    exact ⟨none, 0, 0, [], rfl, Rd.nil _ _⟩
  · simp [Value.cells] at hcs
    obtain ⟨rfl, rfl, rfl⟩ := hcs
    simp at hlen
    refine ⟨some x, n, c, ss.take n, rfl, by simp; omega, some x, c, rfl, hl, hm, (fun h => by cases h), fun ad had j u hu => ?_⟩
    obtain rfl := Option.some.inj had
    rw [List.getElem?_map] at hu
    cases hj : (ss.take n)[j]? with
    | none => rw [hj] at hu; cases hu
    | some b =>
      rw [hj] at hu
      obtain rfl := Option.some.inj hu
      have hjn : j < n := by have := (List.getElem?_eq_some_iff.1 hj).1; rw [List.length_take] at this; omega
      have hb : ss[j]? = some b := by rwa [List.getElem?_take, if_pos hjn] at hj
      have := hcell j (by omega)
      rw [this]
      simp [List.getD, hb]
end
end Go.Proofs.Ytcpeglljcipcbaa
