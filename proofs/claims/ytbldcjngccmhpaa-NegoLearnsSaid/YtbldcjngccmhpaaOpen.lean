/-
  What comes in as data, opened: a slice of bytes, an array of integers.
-/
import Derived.Test.YtbldcjngccmhpaaLib
import Derived.ProofKit
import Derived.OpenShut
namespace Go.Proofs.Ytbldcjngccmhpaa
open Go.ChangeShapes Go.WideShapes Go.ChangeAt Go.RowKit
set_option linter.unusedVariables false
set_option linter.unusedSimpArgs false
section
variable {H : Type} {enc : TypeId × Value → H} {P : Program} {W : World} {base : Nat}

theorem u8_of_wf {n : Int} (h : (Lit.int .u8 n).wf = true) : ∃ b : UInt8, n = (b.toNat : Int) := by
  have h' : 0 ≤ n ∧ n ≤ 255 := by simpa [Lit.wf, IntKind.min, IntKind.max, IntKind.signed, IntKind.bits] using h
  refine ⟨UInt8.ofNat n.toNat, ?_⟩
  rw [UInt8.toNat_ofNat', Nat.mod_eq_of_lt (by omega)]
  omega
theorem bytes_of_ints : ∀ (zs : List Int), (∀ n ∈ zs, (Lit.int .u8 n).wf = true) → ∃ l : List UInt8, zs = l.map (fun b => (b.toNat : Int))
  | [], _ => ⟨[], rfl⟩
  | z :: zs, h => by
    obtain ⟨b, hb⟩ := u8_of_wf (h z (by simp))
    obtain ⟨l, hl⟩ := bytes_of_ints zs (fun n hn => h n (by simp [hn]))
    exact ⟨b :: l, by rw [hb, hl]; rfl⟩

/-- A slice of bytes that came in. -/
theorem open_bytes {t e : TypeId} {v : Value} {d : DataW H} {p : List MemPlace} (ht : P.underlying t = some (.slice e)) (he : P.underlying e = some (.int .u8)) (hc : P.cellsOf e = 1)
    (hval : Value.okWide P W .any base t v) (h : DataW.Trod enc P W 0 (fun _ => true) true t v d p) : ∃ a n c l, v = .slice a n c ∧ l.length = n ∧ Bs W (.slice a n c) l := by
  obtain ⟨a, n, c, rfl⟩ := okWide_slice ht hval
  obtain ⟨fuel, hf⟩ := h
  rcases open_ints ht he hc hf with ⟨hcs, _⟩ | ⟨x, l, c', zs, hcs, _, hl, hm, hz, _, hcell, hwz⟩
  · simp [Value.cells] at hcs
    obtain ⟨rfl, rfl, rfl⟩ := hcs
    exact ⟨none, 0, 0, [], rfl, rfl, Bs.nil _⟩
  · simp [Value.cells] at hcs
    obtain ⟨rfl, rfl, rfl⟩ := hcs
    obtain ⟨bs, rfl⟩ := bytes_of_ints zs hwz
    simp at hz
    have hlen : (bs.take n).length = n := by rw [List.length_take]; omega
    refine ⟨some x, n, c, bs.take n, rfl, hlen, ?_⟩
    unfold Bs
    rw [hlen]
    refine ⟨by simp; omega, some x, c, rfl, hl, hm, (fun h => by cases h), fun ad had j u hu => ?_⟩
    obtain rfl := Option.some.inj had
    rw [List.getElem?_map] at hu
    cases hj : (bs.take n)[j]? with
    | none => rw [hj] at hu; cases hu
    | some b =>
      rw [hj] at hu
      obtain rfl := Option.some.inj hu
      have hjn : j < n := by have := (List.getElem?_eq_some_iff.1 hj).1; omega
      have hb : bs[j]? = some b := by rwa [List.getElem?_take, if_pos hjn] at hj
      have := hcell j (by simp; omega)
      rw [this]
      simp [u8v, hb]

/-- A cell that is a slice of bytes. -/
theorem bytes_cell2 {m : Nat} {t e : TypeId} {cs : List Value} {y : DataW H × List MemPlace} (ht : P.underlying t = some (.slice e)) (he : P.underlying e = some (.int .u8)) (hc : P.cellsOf e = 1)
    (h : DataW.trod enc P W 0 (fun _ => true) true m t cs = some y) : ∃ a n c l, cs = [.slice a n c] ∧ l.length = n ∧ Bs W (.slice a n c) l := by
  rcases open_ints ht he hc h with ⟨hcs, _⟩ | ⟨x, l, c', zs, hcs, _, hl, hm, hz, _, hcell, hwz⟩
  · exact ⟨none, 0, 0, [], hcs, rfl, Bs.nil _⟩
  · obtain ⟨bs, rfl⟩ := bytes_of_ints zs hwz
    simp at hz
    have hlen : (bs.take l).length = l := by rw [List.length_take]; omega
    refine ⟨some x, l, c', bs.take l, hcs, hlen, ?_⟩
    unfold Bs
    rw [hlen]
    refine ⟨by simp; omega, some x, c', rfl, hl, hm, (fun h => by cases h), fun ad had j u hu => ?_⟩
    obtain rfl := Option.some.inj had
    rw [List.getElem?_map] at hu
    cases hj : (bs.take l)[j]? with
    | none => rw [hj] at hu; cases hu
    | some b =>
      rw [hj] at hu
      obtain rfl := Option.some.inj hu
      have hjn : j < l := by have := (List.getElem?_eq_some_iff.1 hj).1; omega
      have hb : bs[j]? = some b := by rwa [List.getElem?_take, if_pos hjn] at hj
      have := hcell j (by simp; omega)
      rw [this]
      simp [u8v, hb]
/-- An array of six bytes that came in. -/
theorem open_mac {t e : TypeId} {v : Value} {d : DataW H} {p : List MemPlace} (ht : P.underlying t = some (.array 6 e)) (he : P.underlying e = some (.int .u8)) (hc : P.cellsOf e = 1) (hct : P.cellsOf t = 6)
    (hval : Value.okWide P W .any base t v) (h : DataW.Trod enc P W 0 (fun _ => true) true t v d p) :
    ∃ m0 m1 m2 m3 m4 m5 : UInt8, v = .agg #[.int .u8 (m0.toNat : Int), .int .u8 (m1.toNat : Int), .int .u8 (m2.toNat : Int), .int .u8 (m3.toNat : Int), .int .u8 (m4.toNat : Int), .int .u8 (m5.toNat : Int)] := by
  obtain ⟨cs, rfl, hsz, _⟩ : ∃ cs, v = .agg cs ∧ cs.size = P.cellsOf t ∧ Row.okWide P W .any base t cs := by
    simpa [Value.okWide, ht] using hval
  obtain ⟨fuel, hf⟩ := h
  obtain ⟨xs, m, _, _, _, hl, hx⟩ := DataW.trod_array ht hf
  rw [hct] at hsz
  obtain ⟨l⟩ := cs
  simp only [List.size_toArray] at hsz
  match l, hsz with
  | [c0, c1, c2, c3, c4, c5], _ =>
    match xs, hl with
    | [y0, y1, y2, y3, y4, y5], _ =>
      have g : ∀ (c : Value) (y : DataW H × List MemPlace), DataW.trod enc P W 0 (fun _ => true) true m e [c] = some y → ∃ b : UInt8, c = .int .u8 (b.toNat : Int) := by
        intro c y hy
        obtain ⟨z, e1, _, wz⟩ := DataW.trod_int he hy
        obtain ⟨b, rfl⟩ := u8_of_wf wz
        simp at e1
        exact ⟨b, e1⟩
      have h0 := hx 0 (by omega)
      have h1 := hx 1 (by omega)
      have h2 := hx 2 (by omega)
      have h3 := hx 3 (by omega)
      have h4 := hx 4 (by omega)
      have h5 := hx 5 (by omega)
      simp [hc, Value.cells] at h0 h1 h2 h3 h4 h5
      obtain ⟨m0, rfl⟩ := g _ _ h0
      obtain ⟨m1, rfl⟩ := g _ _ h1
      obtain ⟨m2, rfl⟩ := g _ _ h2
      obtain ⟨m3, rfl⟩ := g _ _ h3
      obtain ⟨m4, rfl⟩ := g _ _ h4
      obtain ⟨m5, rfl⟩ := g _ _ h5
      exact ⟨m0, m1, m2, m3, m4, m5, rfl⟩
end
theorem Bs.upto {w : World} {a : Option Addr} {n c : Nat} {l : List UInt8} (h : Bs w (.slice a n c) l) (hn : l.length = n) (m : Nat) (hm : m ≤ n) : Bs w (.slice a m c) (l.take m) := by
  subst hn
  obtain ⟨h0, ao, cap, e, h1, h2, h3, h4⟩ := h
  simp only [Value.slice.injEq] at e
  obtain ⟨rfl, _, rfl⟩ := e
  have hl : (l.take m).length = m := by rw [List.length_take]; omega
  unfold Bs
  rw [hl]
  refine ⟨by simp; omega, a, c, rfl, by omega, h2, h3, fun ad had j u hu => h4 ad had j u ?_⟩
  rw [List.map_take, List.getElem?_take] at hu
  split at hu
  · exact hu
  · cases hu
end Go.Proofs.Ytbldcjngccmhpaa
