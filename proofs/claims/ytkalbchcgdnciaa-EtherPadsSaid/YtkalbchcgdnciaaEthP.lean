/-
  A frame (api.Ether): its fourteen cells; one that comes in as data, opened; its bytes in plain words.
-/
import Derived.Test.YtkalbchcgdnciaaArr
import Derived.Test.YtkalbchcgdnciaaPlain
namespace Go.Proofs.Ytkalbchcgdnciaa
open Go.ChangeShapes Go.WideShapes Go.ChangeAt Go.RowKit
set_option linter.unusedVariables false
set_option linter.unusedSimpArgs false

/-- The cells of a frame: to whom, of whom, its type, its payload. -/
def ethL (D S : List UInt8) (t : Int) (v : Value) : List Value := D.map u8v ++ (S.map u8v ++ [.int .i64 t, v])
theorem ethL_length {D S : List UInt8} (t : Int) (v : Value) (hD : D.length = 6) (hS : S.length = 6) : (ethL D S t v).length = 14 := by simp [ethL, hD, hS]
theorem ethL_12 {D S : List UInt8} (t : Int) (v : Value) (hD : D.length = 6) (hS : S.length = 6) : (ethL D S t v)[12]? = some (.int .i64 t) := by
  match D, S, hD, hS with
  | [_, _, _, _, _, _], [_, _, _, _, _, _], _, _ => rfl
theorem ethL_13 {D S : List UInt8} (t : Int) (v : Value) (hD : D.length = 6) (hS : S.length = 6) : (ethL D S t v)[13]? = some v := by
  match D, S, hD, hS with
  | [_, _, _, _, _, _], [_, _, _, _, _, _], _, _ => rfl
theorem ethL_set12 {D S : List UInt8} (t t' : Int) (v : Value) (hD : D.length = 6) (hS : S.length = 6) : (ethL D S t v).set 12 (.int .i64 t') = ethL D S t' v := by
  match D, S, hD, hS with
  | [_, _, _, _, _, _], [_, _, _, _, _, _], _, _ => rfl
theorem ethL_set13 {D S : List UInt8} (t : Int) (v v' : Value) (hD : D.length = 6) (hS : S.length = 6) : (ethL D S t v).set 13 v' = ethL D S t v' := by
  match D, S, hD, hS with
  | [_, _, _, _, _, _], [_, _, _, _, _, _], _, _ => rfl
theorem ethL_D {D S : List UInt8} (t : Int) (v : Value) : ∀ j u, (D.map u8v)[j]? = some u → (ethL D S t v)[0 + j]? = some u := by
  intro j u hu
  have hj := (List.getElem?_eq_some_iff.1 hu).1
  unfold ethL
  rw [Nat.zero_add, List.getElem?_append_left hj]
  exact hu
theorem ethL_S {D S : List UInt8} (t : Int) (v : Value) (hD : D.length = 6) : ∀ j u, (S.map u8v)[j]? = some u → (ethL D S t v)[6 + j]? = some u := by
  intro j u hu
  have hj := (List.getElem?_eq_some_iff.1 hu).1
  unfold ethL
  rw [List.getElem?_append_right (by simp; omega), List.getElem?_append_left (by simp at hj ⊢; omega)]
  simpa [hD] using hu
theorem ethL_one (D S : List UInt8) (t : Int) (v : Value) (hv : v.oneCell' = true) : ∀ u ∈ ethL D S t v, u.oneCell' = true := by
  intro u hu
  simp only [ethL, List.mem_append, List.mem_cons, List.not_mem_nil, or_false] at hu
  rcases hu with h | h | h | h
  · exact oneCell_u8 _ u h
  · exact oneCell_u8 _ u h
  · rw [h]; rfl
  · rw [h]; exact hv

/-- What may be: the error's number, or 0. -/
def chk (t : Int) (n : Nat) : Int := if t < 1536 ∨ 65535 < t then 40 else if 1500 < n then 2 else 0
theorem chk_type {t : Int} {n : Nat} (h : t < 1536 ∨ 65535 < t) : chk t n = 40 := if_pos h
theorem chk_long {t : Int} {n : Nat} (h : ¬ (t < 1536 ∨ 65535 < t)) (h2 : 1500 < n) : chk t n = 2 := by unfold chk; rw [if_neg h, if_pos h2]
theorem chk_ok {t : Int} {n : Nat} (h : ¬ (t < 1536 ∨ 65535 < t)) (h2 : ¬ 1500 < n) : chk t n = 0 := by unfold chk; rw [if_neg h, if_neg h2]
theorem chk_zero {t : Int} {n : Nat} (h : chk t n = 0) : 1536 ≤ t ∧ t ≤ 65535 ∧ n ≤ 1500 := by
  unfold chk at h
  split at h
  · cases h
  · split at h
    · cases h
    · omega
theorem chk_of {t : Int} {n : Nat} (h : 1536 ≤ t ∧ t ≤ 65535 ∧ n ≤ 1500) : chk t n = 0 := chk_ok (by omega) (by omega)
/-- A frame's bytes. -/
def wireL (D S : List UInt8) (t : Nat) (l : List UInt8) : List UInt8 := D ++ S ++ putL t 2 ++ l
theorem wireL_length {D S : List UInt8} (t : Nat) (l : List UInt8) (hD : D.length = 6) (hS : S.length = 6) : (wireL D S t l).length = 14 + l.length := by
  simp [wireL, hD, hS, putL_length]; omega
theorem putL_two (t : Nat) : putL t 2 = [UInt8.ofNat (t / 256), UInt8.ofNat t] := by simp [putL, List.range_succ]
/-- The type that stands in bytes. -/
def typN (l : List UInt8) : Nat := takeN (l.drop 12) 2
theorem typN_eq (l : List UInt8) (h : 14 ≤ l.length) : typN l = 256 * l[12].toNat + l[13].toNat := by
  unfold typN
  rw [takeN_succ _ 1 (by rw [List.length_drop]; omega), takeN_succ _ 0 (by rw [List.length_drop]; omega), takeN_zero]
  simp
  omega
theorem typN_lt (l : List UInt8) (h : 14 ≤ l.length) : typN l < 65536 := by
  rw [typN_eq l h]
  have := UInt8.toNat_lt l[12]
  have := UInt8.toNat_lt l[13]
  omega
/-- What is decoded: the error's number, or 0. -/
def dchk (l : List UInt8) : Int := if l.length < 14 then 6 else chk (typN l) (l.length - 14)
theorem dchk_short {l : List UInt8} (h : l.length < 14) : dchk l = 6 := if_pos h
theorem dchk_long {l : List UInt8} (h : ¬ l.length < 14) : dchk l = chk (typN l) (l.length - 14) := if_neg h
theorem dchk_zero {l : List UInt8} (h : dchk l = 0) : 14 ≤ l.length ∧ 1536 ≤ typN l ∧ l.length ≤ 1514 ∧ typN l ≤ 65535 := by
  unfold dchk at h
  split at h
  · cases h
  · have := chk_zero h; omega
theorem typN_wire {D S : List UInt8} (t : Nat) (l : List UInt8) (hD : D.length = 6) (hS : S.length = 6) (ht : t < 65536) : typN (wireL D S t l) = t := by
  rw [typN_eq _ (by rw [wireL_length t l hD hS]; omega)]
  match D, S, hD, hS with
  | [_, _, _, _, _, _], [_, _, _, _, _, _], _, _ =>
    simp only [wireL, putL_two, List.cons_append, List.nil_append, List.getElem_cons_succ, List.getElem_cons_zero, UInt8.toNat_ofNat']
    omega
theorem wire_take (b : List UInt8) (h : 14 ≤ b.length) : wireL (b.take 6) ((b.drop 6).take 6) (typN b) (b.drop 14) = b := by
  have h12 : b.drop 12 = b[12] :: b[13] :: b.drop 14 := by
    rw [List.drop_eq_getElem_cons (by omega), List.drop_eq_getElem_cons (by omega)]
  have hp : putL (typN b) 2 = [b[12], b[13]] := by
    rw [putL_two, typN_eq b h]
    have h1 := UInt8.toNat_lt b[12]
    have h2 := UInt8.toNat_lt b[13]
    congr 1
    · rw [show (256 * b[12].toNat + b[13].toNat) / 256 = b[12].toNat by omega, UInt8.ofNat_toNat]
    · congr 1
      apply UInt8.toNat_inj.1
      rw [UInt8.toNat_ofNat']
      omega
  have e1 : (b.drop 6).drop 6 = b.drop 12 := by rw [List.drop_drop]
  unfold wireL
  rw [hp, List.append_assoc, List.append_assoc]
  show b.take 6 ++ ((b.drop 6).take 6 ++ (b[12] :: b[13] :: b.drop 14)) = b
  rw [← h12, ← e1, List.take_append_drop, List.take_append_drop]
theorem wire_D {D S : List UInt8} (t : Nat) (l : List UInt8) (hD : D.length = 6) : (wireL D S t l).take 6 = D := by
  unfold wireL
  rw [List.append_assoc, List.append_assoc, List.take_append_of_le_length (by omega), List.take_of_length_le (by omega)]
theorem wire_S {D S : List UInt8} (t : Nat) (l : List UInt8) (hD : D.length = 6) (hS : S.length = 6) : ((wireL D S t l).drop 6).take 6 = S := by
  unfold wireL
  rw [List.append_assoc, List.append_assoc, List.drop_left' hD, List.take_append_of_le_length (by omega), List.take_of_length_le (by omega)]
theorem wire_l {D S : List UInt8} (t : Nat) (l : List UInt8) (hD : D.length = 6) (hS : S.length = 6) : (wireL D S t l).drop 14 = l := by
  unfold wireL
  rw [List.drop_left' (by simp [hD, hS, putL_length])]
theorem dchk_wire {D S : List UInt8} (t : Nat) (l : List UInt8) (hD : D.length = 6) (hS : S.length = 6) (ht : 1536 ≤ t) (ht2 : t < 65536) (hl : l.length ≤ 1500) : dchk (wireL D S t l) = 0 := by
  rw [dchk_long (by rw [wireL_length t l hD hS]; omega), typN_wire t l hD hS ht2, wireL_length t l hD hS]
  exact chk_of (by omega)
/-- Padded. -/
def padL (l : List UInt8) : List UInt8 := l ++ List.replicate (60 - l.length) 0
theorem padL_length (l : List UInt8) : (padL l).length = max l.length 60 := by simp [padL]; omega
theorem pad_wire (D S : List UInt8) (t : Nat) (l : List UInt8) (hD : D.length = 6) (hS : S.length = 6) : padL (wireL D S t l) = wireL D S t (l ++ List.replicate (60 - (14 + l.length)) 0) := by
  unfold padL
  rw [wireL_length t l hD hS]
  simp [wireL]

section
variable {H : Type} {enc : TypeId × Value → H} {P : Program} {W : World} {base : Nat}
/-- The cells of an array of bytes. -/
theorem arr_cells {n m : Nat} {t e : TypeId} {cs : List Value} {y : DataW H × List MemPlace} (ht : P.underlying t = some (.array n e)) (he : P.underlying e = some (.int .u8)) (hc : P.cellsOf e = 1) (hct : P.cellsOf t = n)
    (h : DataW.trod enc P W 0 (fun _ => true) true m t cs = some y) : ∃ l : List UInt8, l.length = n ∧ cs = l.map u8v := by
  obtain ⟨xs, m', _, _, hsz, hl, hx⟩ := DataW.trod_array ht h
  rw [hct] at hsz
  obtain ⟨zs, h1, rfl⟩ := ints_of_cells (k := .u8) cs (fun c hcl => by
    obtain ⟨i, hi, rfl⟩ := List.mem_iff_getElem.1 hcl
    have hy := hx i (by omega)
    rw [hc, List.getElem?_eq_getElem (by omega)] at hy
    have e1 : ((cs.drop (i * 1)).take 1) = [cs[i]] := by
      rw [Nat.mul_one, List.drop_eq_getElem_cons hi]; rfl
    rw [e1] at hy
    obtain ⟨z, e1, _, wz⟩ := DataW.trod_int he hy
    simp at e1
    exact ⟨z, e1, wz⟩)
  obtain ⟨l, rfl⟩ := bytes_of_ints zs h1
  exact ⟨l, by simpa using hsz, by simp [u8v, Function.comp_def]⟩
/-- The cell of a slice of bytes. -/
theorem bytes_cell {m : Nat} {t e : TypeId} {cs : List Value} {y : DataW H × List MemPlace} (ht : P.underlying t = some (.slice e)) (he : P.underlying e = some (.int .u8)) (hc : P.cellsOf e = 1)
    (h : DataW.trod enc P W 0 (fun _ => true) true m t cs = some y) : ∃ a n c l, cs = [.slice a n c] ∧ l.length = n ∧ Bs W (.slice a n c) l := by
  rcases open_ints ht he hc h with ⟨hcs, _⟩ | ⟨x, l, c', zs, hcs, _, hl, hm, hz, _, hcell, hwz⟩
  · exact ⟨none, 0, 0, [], hcs, rfl, Bs.nil _⟩
  · obtain ⟨bs, rfl⟩ := bytes_of_ints zs hwz
    simp at hz
    have hlen : (bs.take l).length = l := by rw [List.length_take]; omega
    refine ⟨some x, l, c', bs.take l, hcs, hlen, ?_⟩
    unfold Bs
    rw [hlen]
    refine ⟨by simp; omega, some x, c', rfl, hl, hm, (fun h => by cases h), fun ad had j u hu => ?_⟩
    obtain rfl := Option.some.inj had
    rw [List.getElem?_map] at hu
    cases hj : (bs.take l)[j]? with
    | none => rw [hj] at hu; cases hu
    | some b =>
      rw [hj] at hu
      obtain rfl := Option.some.inj hu
      have hjn : j < l := by have := (List.getElem?_eq_some_iff.1 hj).1; omega
      have hb : bs[j]? = some b := by rwa [List.getElem?_take, if_pos hjn] at hj
      have := hcell j (by simp; omega)
      rw [this]
      simp [u8v, hb]
/-- A frame that came in. -/
theorem open_ether {t e : TypeId} {f0 f1 f2 f3 : Field} {v : Value} {d : DataW H} {p : List MemPlace} (ht : P.underlying t = some (.struct #[f0, f1, f2, f3])) (hoff : f0.offset = 0 ∧ f1.offset = 6 ∧ f2.offset = 12 ∧ f3.offset = 13)
    (u0 : P.underlying f0.type = some (.array 6 e)) (u1 : P.underlying f1.type = some (.array 6 e)) (u2 : P.underlying f2.type = some (.int .i64)) (u3 : P.underlying f3.type = some (.slice e)) (he : P.underlying e = some (.int .u8))
    (hc : P.cellsOf t = 14 ∧ P.cellsOf f0.type = 6 ∧ P.cellsOf f1.type = 6 ∧ P.cellsOf f2.type = 1 ∧ P.cellsOf f3.type = 1 ∧ P.cellsOf e = 1)
    (hval : Value.okWide P W .any base t v) (h : DataW.Trod enc P W 0 (fun _ => true) true t v d p) :
    ∃ (D S : List UInt8) (k : Int) (a : Option Addr) (n c : Nat) (l : List UInt8), v = .agg (ethL D S k (.slice a n c)).toArray ∧ D.length = 6 ∧ S.length = 6 ∧ (Lit.int .i64 k).wf = true ∧ l.length = n ∧ Bs W (.slice a n c) l := by
  obtain ⟨cs, rfl, hsz, _⟩ : ∃ cs, v = .agg cs ∧ cs.size = P.cellsOf t ∧ Row.okWide P W .any base t cs := by
    simpa [Value.okWide, ht] using hval
  obtain ⟨fuel, hf⟩ := h
  obtain ⟨o0, o1, o2, o3⟩ := hoff
  obtain ⟨ct, c0, c1, c2, c3, ce⟩ := hc
  obtain ⟨xs, m, _, _, _, hl, hx⟩ := DataW.trod_struct ht hf
  rw [ct] at hsz
  obtain ⟨l⟩ := cs
  simp only [List.size_toArray] at hsz
  match xs, hl with
  | [y0, y1, y2, y3], _ =>
    have h0 := hx 0 f0 rfl
    have h1 := hx 1 f1 rfl
    have h2 := hx 2 f2 rfl
    have h3 := hx 3 f3 rfl
    simp only [Value.cells, o0, o1, o2, o3, c0, c1, c2, c3, List.getElem?_cons_zero, List.getElem?_cons_succ] at h0 h1 h2 h3
    match l, hsz with
    | [x0, x1, x2, x3, x4, x5, x6, x7, x8, x9, x10, x11, x12, x13], _ =>
      obtain ⟨D, hD, eD⟩ := arr_cells u0 he ce c0 h0
      obtain ⟨S, hS, eS⟩ := arr_cells u1 he ce c1 h1
      obtain ⟨k, ek, _, wk⟩ := DataW.trod_int u2 h2
      obtain ⟨a, n, c, bs, ev, hn, hb⟩ := bytes_cell u3 he ce h3
      refine ⟨D, S, k, a, n, c, bs, ?_, hD, hS, wk, hn, hb⟩
      unfold ethL
      rw [← eD, ← eS]
      simp at ek ev
      simp [ek, ev]
end
end Go.Proofs.Ytkalbchcgdnciaa
