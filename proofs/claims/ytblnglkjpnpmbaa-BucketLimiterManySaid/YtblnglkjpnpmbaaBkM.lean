/-
  A map of addresses (six bytes) with buckets, in memory: what it reads as, whatever order it has.
-/
import Derived.Test.YtblnglkjpnpmbaaBkA
import Derived.Test.YtblnglkjpnpmbaaOpenB
import Derived.Maps.RangeWalk
import Derived.DeepKeys4
namespace Go.Proofs.Ytblnglkjpnpmbaa.Bk
open Go.RowKit
open Go.Maps (Keyed)
set_option linter.unusedVariables false
set_option linter.unusedSimpArgs false

theorem laidOutB_ : laidOutB Try.prog = true := by kernel_rfl
theorem law : Keyed Try.prog 49 := Keyed.of_law (deep_law_laid laidOutB_ (m := 2) (by omega) (of_decide_eq_true (by kernel_rfl)) (by kernel_rfl) (by rw [Try.underlying49]))
theorem keyType_ : Try.prog.keyType 49 = true := by kernel_rfl
theorem cells_ : Try.prog.cellsOf 49 = 6 := by kernel_rfl
theorem cell1_ : Try.prog.cellsOf 5 = 1 := by kernel_rfl
theorem two_ : ∃ m, Try.prog.types.size = m + 2 := by
  have h : 2 ≤ Try.prog.types.size := of_decide_eq_true (by kernel_rfl)
  exact ⟨Try.prog.types.size - 2, by omega⟩
def macV (m : List UInt8) : Value := .agg (m.map u8v).toArray
theorem kb (a : UInt8) : Lit.keyBytes (.int .u8 (a.toNat : Int)) = [a] := by
  have h : a.toNat < 256 := UInt8.toNat_lt _
  show bytesBE 1 (((a.toNat : Int) % 256).toNat) = [a]
  have e : (((a.toNat : Int) % 256).toNat) = a.toNat := by omega
  rw [e]
  show [UInt8.ofNat (a.toNat % 256)] = [a]
  rw [Nat.mod_eq_of_lt h, UInt8.ofNat_toNat]
theorem wf8 (a : UInt8) : (Lit.int .u8 (a.toNat : Int)).wf = true := by
  have h : a.toNat < 256 := UInt8.toNat_lt _
  show (decide ((0 : Int) ≤ (a.toNat : Int)) && decide ((a.toNat : Int) ≤ 255)) = true
  simp; omega
theorem list6 {α : Type} {m : List α} (h : m.length = 6) : ∃ a b c d e f, m = [a, b, c, d, e, f] := by
  match m, h with
  | [a, b, c, d, e, f], _ => exact ⟨a, b, c, d, e, f, rfl⟩
theorem keyOf_mac {m : List UInt8} (h : m.length = 6) : keyOf Try.prog 49 (macV m) = some (.string m) := by
  obtain ⟨a, b, c, d, e, f, rfl⟩ := list6 h
  obtain ⟨k, hk⟩ := two_
  have hu := Try.underlying49
  unfold keyOf
  simp only [hu]
  rw [if_pos (by simp [keyType_, macV, Value.formed, hu, cells_]), hk]
  unfold Program.keyLits
  simp only [hu, Value.cells, macV]
  rw [if_pos (by rw [cells_]; rfl), show List.range 6 = [0, 1, 2, 3, 4, 5] from rfl]
  simp only [List.mapM_cons, List.mapM_nil, cell1_]
  simp [Program.keyLits, Try.underlying5, u8v, wf8, keyBytes, kb]
theorem mapM_each {α β : Type} {f : α → Option β} : ∀ {L : List α} {ys : List β}, L.mapM f = some ys → ∀ x ∈ L, ∃ y, f x = some y
  | [], _, _, x, hx => by cases hx
  | a :: L, ys, h, x, hx => by
    rw [List.mapM_cons] at h
    simp only [bind, Option.bind_eq_some_iff, pure, Option.some.injEq] at h
    obtain ⟨y, hy, zs, hzs, _⟩ := h
    rcases List.mem_cons.1 hx with rfl | hx
    · exact ⟨y, hy⟩
    · exact mapM_each hzs x hx
theorem keyOf_inv {v : Value} {l : Lit} (h : keyOf Try.prog 49 v = some l) : ∃ m : List UInt8, m.length = 6 ∧ v = macV m ∧ l = .string m := by
  have h0 := h
  obtain ⟨k, hk⟩ := two_
  have hu := Try.underlying49
  unfold keyOf at h
  simp only [hu] at h
  split at h
  · rename_i hc
    simp only [Bool.and_eq_true] at hc
    obtain ⟨_, hf⟩ := hc
    cases v <;> simp [Value.formed, hu] at hf
    rename_i cs
    rw [hk] at h
    unfold Program.keyLits at h
    simp only [hu, Value.cells] at h
    rw [cells_] at hf
    obtain ⟨a, b, c, d, e, f, he⟩ := list6 (m := cs.toList) (by simpa using hf)
    rw [he, if_pos (by rw [cells_]; rfl)] at h
    obtain ⟨ys, hys, _⟩ := Option.map_eq_some_iff.1 h
    obtain ⟨ys, hys, _⟩ := Option.map_eq_some_iff.1 hys
    have e0 : ∃ q : UInt8, a = u8v q := by
      obtain ⟨y, hy⟩ := mapM_each hys 0 (by simp)
      cases a <;> simp [Program.keyLits, Try.underlying5, cell1_] at hy
      obtain ⟨⟨rfl, hw⟩, _⟩ := hy
      obtain ⟨q, rfl⟩ := u8_of_wf hw
      exact ⟨q, rfl⟩
    have e1 : ∃ q : UInt8, b = u8v q := by
      obtain ⟨y, hy⟩ := mapM_each hys 1 (by simp)
      cases b <;> simp [Program.keyLits, Try.underlying5, cell1_] at hy
      obtain ⟨⟨rfl, hw⟩, _⟩ := hy
      obtain ⟨q, rfl⟩ := u8_of_wf hw
      exact ⟨q, rfl⟩
    have e2 : ∃ q : UInt8, c = u8v q := by
      obtain ⟨y, hy⟩ := mapM_each hys 2 (by simp)
      cases c <;> simp [Program.keyLits, Try.underlying5, cell1_] at hy
      obtain ⟨⟨rfl, hw⟩, _⟩ := hy
      obtain ⟨q, rfl⟩ := u8_of_wf hw
      exact ⟨q, rfl⟩
    have e3 : ∃ q : UInt8, d = u8v q := by
      obtain ⟨y, hy⟩ := mapM_each hys 3 (by simp)
      cases d <;> simp [Program.keyLits, Try.underlying5, cell1_] at hy
      obtain ⟨⟨rfl, hw⟩, _⟩ := hy
      obtain ⟨q, rfl⟩ := u8_of_wf hw
      exact ⟨q, rfl⟩
    have e4 : ∃ q : UInt8, e = u8v q := by
      obtain ⟨y, hy⟩ := mapM_each hys 4 (by simp)
      cases e <;> simp [Program.keyLits, Try.underlying5, cell1_] at hy
      obtain ⟨⟨rfl, hw⟩, _⟩ := hy
      obtain ⟨q, rfl⟩ := u8_of_wf hw
      exact ⟨q, rfl⟩
    have e5 : ∃ q : UInt8, f = u8v q := by
      obtain ⟨y, hy⟩ := mapM_each hys 5 (by simp)
      cases f <;> simp [Program.keyLits, Try.underlying5, cell1_] at hy
      obtain ⟨⟨rfl, hw⟩, _⟩ := hy
      obtain ⟨q, rfl⟩ := u8_of_wf hw
      exact ⟨q, rfl⟩
    obtain ⟨q0, rfl⟩ := e0
    obtain ⟨q1, rfl⟩ := e1
    obtain ⟨q2, rfl⟩ := e2
    obtain ⟨q3, rfl⟩ := e3
    obtain ⟨q4, rfl⟩ := e4
    obtain ⟨q5, rfl⟩ := e5
    have hv : Value.agg cs = macV [q0, q1, q2, q3, q4, q5] := by
      unfold macV
      congr 1
      exact Array.toList_inj.1 he
    refine ⟨[q0, q1, q2, q3, q4, q5], rfl, hv, ?_⟩
    rw [hv, keyOf_mac rfl] at h0
    exact (Option.some.inj h0).symm
  · cases h
theorem macV_inj {m m' : List UInt8} (h : macV m = macV m') : m = m' := by
  have h1 : (m.map u8v).toArray = (m'.map u8v).toArray := by simpa [macV] using h
  have h2 := congrArg Array.toList h1
  simp only at h2
  have inj : ∀ (l l' : List UInt8), l.map u8v = l'.map u8v → l = l' := by
    intro l
    induction l with
    | nil => intro l' h; cases l' with
      | nil => rfl
      | cons => cases h
    | cons a l ih =>
      intro l' h
      cases l' with
      | nil => cases h
      | cons b l' =>
        rw [List.map_cons, List.map_cons, List.cons.injEq] at h
        have hab : (a.toNat : Int) = (b.toNat : Int) := by simpa [u8v] using h.1
        rw [ih l' h.2, UInt8.toNat_inj.1 (show a.toNat = b.toNat by omega)]
  exact inj _ _ h2
/-! Buckets as elements. -/
def buV (b : Bu) : Value := .agg #[.int .i64 b.k, .int .i64 b.t]
def bD (b : Bu) : DataW Unit := .agg [.lit (.int .i64 b.k), .lit (.int .i64 b.t)]
theorem bD_inj {a b : Bu} (h : bD a = bD b) : a = b := by
  cases a; cases b
  simpa [bD] using h
def bkR : Value → Option (DataW Unit × List MemPlace)
  | .agg cs => match cs.toList with
    | [.int .i64 x, .int .i64 y] => some (bD ⟨x, y⟩, [])
    | _ => none
  | _ => none
theorem bkR_mk (b : Bu) : bkR (buV b) = some (bD b, []) := rfl
theorem bkR_inv {v : Value} {y : DataW Unit × List MemPlace} (h : bkR v = some y) : ∃ b, v = buV b ∧ y = (bD b, []) := by
  unfold bkR at h
  split at h
  · split at h
    · rename_i cs x z he
      cases h
      refine ⟨⟨x, z⟩, ?_, rfl⟩
      unfold buV
      congr 1
      exact Array.toList_inj.1 he
    · cases h
  · cases h
/-! A map of such, in memory. -/
def ent (p : List UInt8 × Bu) : Lit × DataW Unit := (.string p.1, bD p.2)
structure MapAt (w : World) (b : Nat) (es : List (List UInt8 × Bu)) : Prop where
  six : ∀ p ∈ es, p.1.length = 6
  nd : (es.map (·.1)).Nodup
  own : ∃ E, w.ownsMap Try.prog 49 bkR b es.length (.map E) ∧ E.Perm (es.map ent)
theorem tight {w : World} {b n : Nat} {E : List (Lit × DataW Unit)} (h : w.ownsMap Try.prog 49 bkR b n (.map E)) : w.ownsMap Try.prog 49 bkR b E.length (.map E) := by
  obtain ⟨es, clock, h1, h2, h3, h4⟩ := h
  refine ⟨es, clock, h1, h2, ?_, h4⟩
  have : E = _ := DataW.map.inj h4
  rw [this, length_sorted]
  simp
theorem ent_apart {es : List (List UInt8 × Bu)} (h : (es.map (·.1)).Nodup) : (es.map ent).Pairwise (fun p q => p.1 ≠ q.1) := by
  rw [List.pairwise_map]
  have h1 : es.Pairwise (fun p q => p.1 ≠ q.1) := List.pairwise_map.1 h
  exact h1.imp fun hne e => hne (by simpa [ent] using e)
theorem strKey (m : List UInt8) : WideAt.IsKeyLit (.string m) := by unfold WideAt.IsKeyLit; trivial
theorem same_str (m m' : List UInt8) : (Lit.string m).sameKey (.string m') = (m == m') := by
  by_cases h : m = m'
  · subst h; rw [WideAt.sameKey_self (strKey m)]; simp
  · rw [Maps.sameKey_ne (fun e => h (by simpa using e))]; simp [h]
theorem MapAt.lt {w : World} {b : Nat} {es : List (List UInt8 × Bu)} (h : MapAt w b es) : b < w.heap.size := by
  obtain ⟨E, h1, _⟩ := h.own
  exact h1.lt
theorem MapAt.keep {w w' : World} {b : Nat} {es : List (List UInt8 × Bu)} (h : MapAt w b es) (hb : w'.heap[b]? = w.heap[b]?) : MapAt w' b es := by
  obtain ⟨E, ⟨a, c, h1, h2⟩, h3⟩ := h.own
  exact ⟨h.six, h.nd, E, ⟨a, c, hb.trans h1, h2⟩, h3⟩
theorem MapAt.made (w : World) : MapAt (w.alloc (.map #[] 0)) w.heap.size [] :=
  ⟨(fun p hp => by cases hp), List.nodup_nil, [], World.ownsMap_made _ _ _ _, List.Perm.refl _⟩
theorem MapAt.copy {w : World} {b : Nat} {es : List (List UInt8 × Bu)} (h : MapAt w b es) : ∃ a c, w.heap[b]? = some (.map a c) ∧ MapAt (w.alloc (.map a c)) w.heap.size es := by
  obtain ⟨E, ⟨a, c, h1, h2, h4, h5⟩, h3⟩ := h.own
  exact ⟨a, c, h1, h.six, h.nd, E, ⟨a, c, (MapKept.heap_alloc w _).1, h2, h4, h5⟩, h3⟩
theorem mem_of_find {es : List (List UInt8 × Bu)} {m : List UInt8} {b : Bu} (h : find es m = some b) : (m, b) ∈ es := find_mem h
theorem MapAt.has {w : World} {b : Nat} {es : List (List UInt8 × Bu)} (h : MapAt w b es) {E : List (Lit × DataW Unit)} (hp : E.Perm (es.map ent)) (m : List UInt8) : Maps.has (.map E) (.string m) = (find es m).isSome := by
  rw [Maps.has_eq, hp.any_eq, List.any_map]
  cases hf : find es m with
  | none =>
    unfold find at hf
    rw [Option.map_eq_none_iff, List.find?_eq_none] at hf
    rw [Option.isSome_none, List.any_eq_false]
    intro p hq
    have := hf p hq
    simp only [Function.comp, ent, same_str]
    exact this
  | some x =>
    rw [Option.isSome_some, List.any_eq_true]
    exact ⟨_, find_mem hf, by simp [ent, same_str]⟩
theorem MapAt.at {w : World} {b : Nat} {es : List (List UInt8 × Bu)} (h : MapAt w b es) {E : List (Lit × DataW Unit)} (hp : E.Perm (es.map ent)) (m : List UInt8) : (DataW.map E).atKey (.string m) (bD zero) = bD ((find es m).getD zero) := by
  cases hf : find es m with
  | none =>
    have := h.has hp m
    rw [hf] at this
    rw [Maps.atKey_of_not_has this]; rfl
  | some x =>
    rw [WideAt.atKey_mem (d := bD x) _ (strKey m) ((hp.pairwise_iff (fun {a b} (h : a.1 ≠ b.1) => h.symm)).2 (ent_apart h.nd)) (hp.mem_iff.2 (List.mem_map.2 ⟨_, find_mem hf, rfl⟩))]
    rfl
theorem zero_bk (w : World) : (zeroValue 25).run Try.prog w = .ok (buV zero) w := by kernel_rfl
/-- 'v, ok := m[k]'. -/
theorem MapAt.look {w : World} {b : Nat} {es : List (List UInt8 × Bu)} (h : MapAt w b es) {m : List UInt8} (hm : m.length = 6) :
    (Instr.lookup 61 (.map (some b)) (macV m) true).run Try.prog w = .ok (.tuple #[buV ((find es m).getD zero), .bool (find es m).isSome]) w := by
  obtain ⟨E, ho, hp⟩ := h.own
  obtain ⟨v, ps, h1, h2⟩ := ho.look_ok law Try.underlying61 (zero_bk w) (bkR_mk zero) (keyOf_mac hm)
  obtain ⟨x, rfl, h3⟩ := bkR_inv h2
  have h4 : bD ((find es m).getD zero) = bD x := by rw [← h.at hp m]; exact congrArg Prod.fst h3
  rw [bD_inj h4, ← h.has hp m]
  exact h1
/-- 'len(m)'. -/
theorem MapAt.len {w : World} {b : Nat} {es : List (List UInt8 × Bu)} (h : MapAt w b es) (ty : TypeId) : (Builtin.len_ #[61] ty #[.map (some b)]).run Try.prog w = .ok (.int .i64 es.length) w := by
  obtain ⟨E, ho, hp⟩ := h.own
  have := ho.len (t := 61) Try.underlying61 ty
  have e : Maps.size (DataW.map E) = es.length := by rw [Maps.size_eq, hp.length_eq, List.length_map]
  rw [e] at this
  exact this
end Go.Proofs.Ytblnglkjpnpmbaa.Bk
