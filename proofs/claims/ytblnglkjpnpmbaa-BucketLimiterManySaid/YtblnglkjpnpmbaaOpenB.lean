/-
  Structs of two ints (a rate, a bucket), a slice of asks (a byte, a byte, a bool, an int) that come in as data, opened.
-/
import Derived.Test.YtblnglkjpnpmbaaOpen
import Derived.ChangeArms
import Derived.Deep.Slices
namespace Go.Proofs.Ytblnglkjpnpmbaa
open Go.ChangeShapes Go.WideShapes Go.ChangeAt Go.RowKit
set_option linter.unusedVariables false
set_option linter.unusedSimpArgs false
/-- One who asks: the address's last byte, how many ticks later, whether at a tick of its own, that tick. -/
structure Ak where
  m : UInt8
  later : UInt8
  raw : Bool
  at_ : Int
def akCells (q : Ak) : List Value := [.int .u8 (q.m.toNat : Int), .int .u8 (q.later.toNat : Int), .bool q.raw, .int .i64 q.at_]
def akFlat (qs : List Ak) : List Value := qs.flatMap akCells
theorem akFlat_length (qs : List Ak) : (akFlat qs).length = qs.length * 4 := by
  induction qs with
  | nil => rfl
  | cons q qs ih =>
    show (akCells q ++ akFlat qs).length = _
    rw [List.length_append, ih, List.length_cons]
    show 4 + _ = _
    omega
theorem akFlat_get : ∀ (qs : List Ak) (i : Nat) (hi : i < qs.length) (j : Nat), j < 4 → (akFlat qs)[i * 4 + j]? = (akCells qs[i])[j]?
  | q :: qs, 0, _, j, hj => by
    show (akCells q ++ akFlat qs)[0 * 4 + j]? = _
    rw [List.getElem?_append_left (by show _ < 4; omega)]
    simp
  | q :: qs, i + 1, hi, j, hj => by
    show (akCells q ++ akFlat qs)[(i + 1) * 4 + j]? = _
    rw [List.getElem?_append_right (by show 4 ≤ _; omega), show (i + 1) * 4 + j - (akCells q).length = i * 4 + j by show _ - 4 = _; omega]
    rw [akFlat_get qs i (by simpa using hi) j hj]
    rfl
/-- A slice of asks. -/
structure AkR (w : World) (v : Value) (n : Nat) (qs : List Ak) : Prop where
  rd : Rd w 4 v n (akFlat qs)
  wf : ∀ q ∈ qs, (Lit.int .i64 q.at_).wf = true
theorem AkR.len {w : World} {v : Value} {n : Nat} {qs : List Ak} (h : AkR w v n qs) : qs.length = n := by
  have h1 := h.rd.1
  rw [akFlat_length] at h1
  omega
theorem AkR.below {w w' : World} {v : Value} {n : Nat} {qs : List Ak} (h : AkR w v n qs) (hb : Below w.heap.size w w') : AkR w' v n qs := ⟨h.rd.below hb, h.wf⟩
theorem AkR.cells {w : World} {ao : Option Addr} {n c : Nat} {qs : List Ak} (h : AkR w (.slice ao n c) n qs) (hn : 0 < n) :
    ∃ b o, ao = some ⟨b, o, none⟩ ∧ b < w.heap.size ∧ ∀ i (hi : i < qs.length), w.cell? ⟨b, o + i * 4, none⟩ = some (.int .u8 (qs[i].m.toNat : Int)) ∧ w.cell? ⟨b, o + i * 4 + 1, none⟩ = some (.int .u8 (qs[i].later.toNat : Int)) ∧
      w.cell? ⟨b, o + i * 4 + 2, none⟩ = some (.bool qs[i].raw) ∧ w.cell? ⟨b, o + i * 4 + 3, none⟩ = some (.int .i64 qs[i].at_) := by
  obtain ⟨b, o, h1, h2, h3⟩ := Rd.cells h.rd hn (by omega)
  exact ⟨b, o, h1, h2, fun i hi => ⟨h3 _ _ (akFlat_get qs i hi 0 (by decide)), h3 _ _ (akFlat_get qs i hi 1 (by decide)), h3 _ _ (akFlat_get qs i hi 2 (by decide)), h3 _ _ (akFlat_get qs i hi 3 (by decide))⟩⟩
section
variable {H : Type} {enc : TypeId × Value → H} {P : Program} {W : World} {base : Nat}
theorem open_two {t : TypeId} {f0 f1 : Field} {v : Value} {d : DataW H} {p : List MemPlace} (ht : P.underlying t = some (.struct #[f0, f1])) (hoff : f0.offset = 0 ∧ f1.offset = 1)
    (u0 : P.underlying f0.type = some (.int .i64)) (u1 : P.underlying f1.type = some (.int .i64))
    (hc : P.cellsOf t = 2 ∧ P.cellsOf f0.type = 1 ∧ P.cellsOf f1.type = 1)
    (hval : Value.okWide P W .any base t v) (h : DataW.Trod enc P W 0 (fun _ => true) true t v d p) :
    ∃ x y : Int, v = .agg #[.int .i64 x, .int .i64 y] ∧ (Lit.int .i64 x).wf = true ∧ (Lit.int .i64 y).wf = true := by
  obtain ⟨cs, rfl, hsz, _⟩ : ∃ cs, v = .agg cs ∧ cs.size = P.cellsOf t ∧ Row.okWide P W .any base t cs := by
    simpa [Value.okWide, ht] using hval
  obtain ⟨fuel, hf⟩ := h
  obtain ⟨o0, o1⟩ := hoff
  obtain ⟨ct, c0, c1⟩ := hc
  obtain ⟨xs, m, _, _, _, hl, hx⟩ := DataW.trod_struct ht hf
  rw [ct] at hsz
  obtain ⟨l⟩ := cs
  simp only [List.size_toArray] at hsz
  match xs, hl with
  | [y0, y1], _ =>
    have h0 := hx 0 f0 rfl
    have h1 := hx 1 f1 rfl
    simp only [Value.cells, o0, o1, c0, c1, List.getElem?_cons_zero, List.getElem?_cons_succ] at h0 h1
    match l, hsz with
    | [x0, x1], _ =>
      obtain ⟨k0, e0, _, w0⟩ := DataW.trod_int u0 h0
      obtain ⟨k1, e1, _, w1⟩ := DataW.trod_int u1 h1
      refine ⟨k0, k1, ?_, w0, w1⟩
      simp at e0 e1
      simp [e0, e1]
/-- A slice of asks that came in. -/
theorem open_asks {t e : TypeId} {f0 f1 f2 f3 : Field} {v : Value} {d : DataW H} {p : List MemPlace} (ht : P.underlying t = some (.slice e)) (he : P.underlying e = some (.struct #[f0, f1, f2, f3]))
    (ho : f0.offset = 0 ∧ f1.offset = 1 ∧ f2.offset = 2 ∧ f3.offset = 3) (u0 : P.underlying f0.type = some (.int .u8)) (u1 : P.underlying f1.type = some (.int .u8)) (u2 : P.underlying f2.type = some .bool) (u3 : P.underlying f3.type = some (.int .i64))
    (hcs : P.cellsOf e = 4 ∧ P.cellsOf f0.type = 1 ∧ P.cellsOf f1.type = 1 ∧ P.cellsOf f2.type = 1 ∧ P.cellsOf f3.type = 1)
    (hval : Value.okWide P W .any base t v) (h : DataW.Trod enc P W 0 (fun _ => true) true t v d p) : ∃ a n c qs, v = .slice a n c ∧ AkR W (.slice a n c) n qs := by
  obtain ⟨a, n, c, rfl⟩ := okWide_slice ht hval
  obtain ⟨fuel, hf⟩ := h
  obtain ⟨ce, c0, c1, c2, c3⟩ := hcs
  obtain ⟨o0, o1, o2, o3⟩ := ho
  rcases Go.Deep.open_slice ht hf with ⟨hcs, _⟩ | ⟨x, len, cap, m, k, D, Pl, hc, _, hl, hm, hmm, _, hall⟩
  · simp [Value.cells] at hcs
    obtain ⟨rfl, rfl, rfl⟩ := hcs
    exact ⟨none, 0, 0, [], rfl, ⟨Rd.nil _ _, fun q hq => by cases hq⟩⟩
  · simp [Value.cells] at hc
    obtain ⟨rfl, rfl, rfl⟩ := hc
    have hnm : n ≤ m := by rw [hmm]; simp; omega
    have each : ∀ i, i < n → ∃ q : Ak, (∀ j u, (akCells q)[j]? = some u → W.cell? (x.add (i * 4 + j)) = some u) ∧ (Lit.int .i64 q.at_).wf = true := by
      intro i hi
      obtain ⟨cs', h1, h2⟩ := hall i (by omega)
      rw [ce] at h1
      obtain ⟨_, hlen, hcell⟩ := World.cells?_some h1
      obtain ⟨xs, k', hk, hxy, _, hxl, hf'⟩ := DataW.trod_struct he h2
      match xs, hxl, cs', hlen with
      | [y0, y1, y2, y3], _, [v0, v1, v2, v3], _ =>
        have g0 := hf' 0 f0 rfl
        have g1 := hf' 1 f1 rfl
        have g2 := hf' 2 f2 rfl
        have g3 := hf' 3 f3 rfl
        simp [o0, o1, o2, o3, c0, c1, c2, c3] at g0 g1 g2 g3
        have e0 := hcell 0 (by omega)
        have e1 := hcell 1 (by omega)
        have e2 := hcell 2 (by omega)
        have e3 := hcell 3 (by omega)
        rw [Go.Deep.add_add] at e0 e1 e2 e3
        obtain ⟨z0, q0, _, w0⟩ := DataW.trod_int u0 g0
        obtain ⟨z1, q1, _, w1⟩ := DataW.trod_int u1 g1
        obtain ⟨z2, q2, _⟩ := DataW.trod_bool u2 g2
        obtain ⟨z3, q3, _, w3⟩ := DataW.trod_int u3 g3
        obtain ⟨b0, rfl⟩ := u8_of_wf w0
        obtain ⟨b1, rfl⟩ := u8_of_wf w1
        simp only [List.cons.injEq, and_true] at q0 q1 q2 q3
        subst q0 q1 q2 q3
        refine ⟨⟨b0, b1, z2, z3⟩, fun j u hu => ?_, w3⟩
        match j, hu with
        | 0, hu => obtain rfl := Option.some.inj hu; simpa using e0
        | 1, hu => obtain rfl := Option.some.inj hu; simpa using e1
        | 2, hu => obtain rfl := Option.some.inj hu; simpa using e2
        | 3, hu => obtain rfl := Option.some.inj hu; simpa using e3
        | j + 4, hu => exact absurd hu (by simp [akCells])
    have inh : Inhabited Ak := ⟨⟨0, 0, false, 0⟩⟩
    obtain ⟨q, hq⟩ := Go.Deep.choose_lt each
    refine ⟨some x, n, c, (List.range n).map q, rfl, ⟨⟨by rw [akFlat_length]; simp, some x, c, rfl, hl, hm, (fun h => by cases h), fun ad had j u hu => ?_⟩, fun t ht => ?_⟩⟩
    · obtain rfl := Option.some.inj had
      have hj := (List.getElem?_eq_some_iff.1 hu).1
      rw [akFlat_length, List.length_map, List.length_range] at hj
      have hi : j / 4 < n := by omega
      have hg := akFlat_get ((List.range n).map q) (j / 4) (by simpa using hi) (j % 4) (by omega)
      rw [show j / 4 * 4 + j % 4 = j by omega, hu] at hg
      simp only [List.getElem_map, List.getElem_range] at hg
      have := (hq _ hi).1 (j % 4) u hg.symm
      rwa [show j / 4 * 4 + j % 4 = j by omega] at this
    · obtain ⟨i, hi, rfl⟩ := List.mem_map.1 ht
      exact (hq i (List.mem_range.1 hi)).2
end
end Go.Proofs.Ytblnglkjpnpmbaa
