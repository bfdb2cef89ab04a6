/-
  Windows, and buckets that are always kept, in plain words: a round of the laws' loops.
-/
import Derived.Test.YtblnglkjpnpmbaaBkV
namespace Go.Proofs.Ytblnglkjpnpmbaa.Bk
open Go.RowKit
set_option linter.unusedVariables false
set_option linter.unusedSimpArgs false

/-- An address's number. -/
def kbn (j : Nat) : UInt8 := UInt8.ofNat j
theorem kbn_inj {i j : Nat} (hi : i < 4) (hj : j < 4) (h : kbn i = kbn j) : i = j := by
  have := congrArg UInt8.toNat h
  simp only [kbn, UInt8.toNat_ofNat'] at this
  omega
theorem kbn_toNat {j : Nat} (h : j < 4) : (kbn j).toNat = j := by
  simp only [kbn, UInt8.toNat_ofNat']
  omega
theorem addr_ne {i j : Nat} (hi : i < 4) (hj : j < 4) (h : i ≠ j) : macL (kbn i) ≠ macL (kbn j) := fun e => h (kbn_inj hi hj (macL_inj e))
/-- Who was counted: in all, and of each address. -/
structure Ws (F w : Int) (A O : Rt) (S : Li) (c : Int) (cs : List Int) : Prop where
  ok : OkL S
  all : S.all = A
  own : S.own = O
  len : cs.length = 4
  c0 : 0 ≤ c
  cs0 : ∀ x ∈ cs, 0 ≤ x
  wa : Win A.e A.m F w S.t c (va S S.t)
  wo : ∀ (j : Nat) (hj : j < cs.length), Win O.e O.m F w S.t cs[j] (vt S (macL (kbn j)) S.t)
/-- What a round counts. -/
def hit (F w u : Int) (X : Bool) : Int := if F ≤ u ∧ u < F + w then one X else 0
theorem hit_nn (F w u : Int) (X : Bool) : 0 ≤ hit F w u X := by
  unfold hit one
  split
  · split <;> omega
  · omega
theorem Win.step {e M F w x u c v v' : Int} {ok : Bool} (h : Win e M F w x c v) (he : 0 ≤ e) (hM : 0 ≤ M) (hw : 0 ≤ w) (hxu : x ≤ u) (hv : v' ≤ v + e * (u - x)) (hvM : v' ≤ M) (h0 : 0 ≤ v' - one ok) :
    Win e M F w u (c + hit F w u ok) (v' - one ok) := Win.next h he hM hw hxu hv hvM h0
theorem Ws.next {F w : Int} {A O : Rt} {S : Li} {c : Int} {cs : List Int} (h : Ws F w A O S c cs) (hw : 0 ≤ w) {u : Int} (hu : S.t ≤ u) (hu1 : u ≤ top) {k : Nat} (hk : k < cs.length) {T : Li} {X : Bool}
    (hT : T = (allow S (macL (kbn k)) u).1) (hX : X = (allow S (macL (kbn k)) u).2) : T.t = u ∧ Ws F w A O T (c + hit F w u X) (cs.set k (cs[k] + hit F w u X)) := by
  have hlen := h.len
  have htk : tickOf S u = u := if_pos ⟨hu, hu1⟩
  have hok := allow_ok h.ok (macL (kbn k)) u
  have ha := allow_all h.ok (macL (kbn k)) u
  have ho := allow_own h.ok (macL (kbn k)) u
  have hoth := fun m' (hm : m' ≠ macL (kbn k)) => allow_other h.ok (macL (kbn k)) u hm
  have hva := va_more h.ok (Int.le_refl _) hu
  have hvt := fun m => vt_more h.ok m (Int.le_refl _) hu
  have h9 := hit_nn F w u X
  rw [htk] at hok ha ho hoth
  rw [← hT] at hok ha ho hoth
  rw [← hX] at ha ho
  rw [h.all] at hva
  rw [h.own] at hvt
  have hA : okR A := by rw [← h.all]; exact h.ok.all
  have hO : okR O := by rw [← h.own]; exact h.ok.own
  have a1 := hA.1
  have a2 := hA.2.2.1
  have o1 := hO.1
  have o2 := hO.2.2.1
  have hone : ∀ v : Int, 0 ≤ v → (X = true → 1 ≤ v) → 0 ≤ v - one X := by
    intro v h0 h1
    cases X with
    | true => have := h1 rfl; unfold one; simp only [if_true]; omega
    | false => unfold one; simp; omega
  refine ⟨hok.2.1, hok.1, by rw [hok.2.2.1]; exact h.all, by rw [hok.2.2.2]; exact h.own, by rw [List.length_set]; exact hlen, by have := h.c0; omega, ?_, ?_, ?_⟩
  · intro x hx
    rcases List.mem_or_eq_of_mem_set hx with hx | rfl
    · exact h.cs0 x hx
    · have := h.cs0 _ (List.getElem_mem hk); omega
  · rw [hok.2.1, ha.1]
    exact h.wa.step a1 (by omega) hw hu hva.2.2.2 hva.2.1 (hone _ (by omega) ha.2)
  · intro j hj
    rw [List.length_set] at hj
    rw [List.getElem_set, hok.2.1]
    by_cases hkj : k = j
    · subst hkj
      rw [if_pos rfl, ho.1]
      have g := hvt (macL (kbn k))
      exact (h.wo k hk).step o1 (by omega) hw hu g.2.2.2 g.2.1 (hone _ (by omega) ho.2)
    · rw [if_neg hkj, hoth _ (addr_ne (by omega) (by omega) (fun e => hkj e.symm))]
      have g := hvt (macL (kbn j))
      have := (h.wo j hj).step (ok := false) o1 (by omega) hw hu g.2.2.2 g.2.1 (by unfold one; simp; omega)
      have e1 : hit F w u false = 0 := by unfold hit one; simp
      have e2 : one false = 0 := rfl
      rw [e1, e2, Int.add_zero, Int.sub_zero] at this
      exact this
theorem hit_yes {F w u : Int} (h1 : F ≤ u) (h2 : u < F + w) : hit F w u true = 1 := by unfold hit one; rw [if_pos ⟨h1, h2⟩]; rfl
theorem hit_no {F w u : Int} {X : Bool} (h : X = false ∨ u < F ∨ F + w ≤ u) : hit F w u X = 0 := by
  unfold hit one
  rcases h with rfl | h | h
  · simp
  · rw [if_neg (by omega)]
  · rw [if_neg (by omega)]
theorem Ws.miss {F w : Int} {A O : Rt} {S : Li} {c : Int} {cs : List Int} {k : Nat} (hk : k < cs.length) {x : Int} (h : Ws F w A O S (c + x) (cs.set k (cs[k] + x))) (hx : x = 0) : Ws F w A O S c cs := by
  subst hx
  rw [Int.add_zero, Int.add_zero, List.set_getElem_self] at h
  exact h
theorem Ws.start {A O : Rt} (hA : okR A) (hO : okR O) {F w : Int} (hF : 0 ≤ F) (hw : 0 ≤ w) : Ws F w A O (born A O) 0 [0, 0, 0, 0] := by
  have hok := born_ok hA hO
  have g1 := va_more hok (Int.le_refl _) (Int.le_refl _)
  have g2 := fun m => vt_more hok m (Int.le_refl _) (Int.le_refl _)
  have a2 := hA.2.2.1
  have o2 := hO.2.2.1
  refine ⟨hok, rfl, rfl, rfl, Int.le_refl _, by simp, ?_, ?_⟩
  · exact Win.start hA.1 (by omega) hF hw g1.2.1
  · intro j hj
    have e : ([0, 0, 0, 0] : List Int)[j] = 0 := by
      have hj' : j < 4 := hj
      match j, hj' with
      | 0, _ => rfl
      | 1, _ => rfl
      | 2, _ => rfl
      | 3, _ => rfl
    rw [e]
    exact Win.start hO.1 (by omega) hF hw (g2 _).2.1
theorem Ws.few {F w : Int} {A O : Rt} {S : Li} {c : Int} {cs : List Int} (h : Ws F w A O S c cs) : c ≤ A.m + A.e * w ∧ ∀ (j : Nat) (hj : j < cs.length), cs[j] ≤ O.m + O.e * w := ⟨h.wa.2.2, fun j hj => (h.wo j hj).2.2⟩
/-! Buckets that are always kept. -/
structure Fs (O : Rt) (i : Nat) (S : Li) (bs : List Bu) : Prop where
  ok : OkL S
  own : S.own = O
  len : bs.length = 4
  av : 1000 - (i : Int) ≤ va S S.t
  keys : ∀ k ∈ S.es.map (·.1), k ∈ (List.range 4).map fun j => macL (kbn j)
  bok : ∀ (j : Nat) (hj : j < bs.length), okB O bs[j] ∧ bs[j].t ≤ S.t ∧ vt S (macL (kbn j)) S.t = tok O bs[j] S.t
theorem Fs.next {O : Rt} {i : Nat} {S : Li} {bs : List Bu} (h : Fs O i S bs) (hi : i < 100) {u : Int} (hu : S.t ≤ u) (hu1 : u ≤ top) {k : Nat} (hk : k < bs.length) {T : Li} {X : Bool}
    (hT : T = (allow S (macL (kbn k)) u).1) (hX : X = (allow S (macL (kbn k)) u).2) : T.t = u ∧ X = (takB O bs[k] u).2 ∧ Fs O (i + 1) T (bs.set k (takB O bs[k] u).1) := by
  have hlen := h.len
  have htk : tickOf S u = u := if_pos ⟨hu, hu1⟩
  have hok := allow_ok h.ok (macL (kbn k)) u
  have ha := allow_all h.ok (macL (kbn k)) u
  have ho := allow_own h.ok (macL (kbn k)) u
  have hoth := fun m' (hm : m' ≠ macL (kbn k)) => allow_other h.ok (macL (kbn k)) u hm
  have hks := allow_keys S (macL (kbn k)) u
  have hva := va_more h.ok (Int.le_refl _) hu
  have hv := h.av
  have hroom := kept_le h.ok _ h.keys u
  have hy := allow_yes h.ok (macL (kbn k)) u (by rw [htk]; simp only [List.length_map, List.length_range] at hroom; omega)
  have hO : okR O := by rw [← h.own]; exact h.ok.own
  have same : ∀ (j : Nat) (hj : j < bs.length), vt S (macL (kbn j)) u = tok O bs[j] u := by
    intro j hj
    obtain ⟨b1, b2, b3⟩ := h.bok j hj
    have := vt_same h.ok (macL (kbn j)) b2 (by rw [h.own]; exact b3) hu
    rw [h.own] at this
    exact this
  rw [htk] at hok ha ho hoth hy
  rw [← hT] at hok ha ho hoth hks
  rw [← hX] at ha ho hy
  obtain ⟨b1, b2, b3⟩ := h.bok k hk
  have hat : okAt O bs[k] u := ⟨hO, b1, by omega, hu1⟩
  have ty := takB_yes hat
  have tk := takB_ok hat
  have hrange := tok_range hO b1 (show bs[k].t ≤ u by omega)
  have e1 : X = (takB O bs[k] u).2 := by
    rw [hy, ty.1, same k hk, decide_eq_true (show va S u ≠ 0 by omega), Bool.true_and]
  refine ⟨hok.2.1, e1, hok.1, by rw [hok.2.2.2]; exact h.own, by rw [List.length_set]; exact hlen, ?_, ?_, ?_⟩
  · rw [hok.2.1, ha.1]
    have : one X ≤ 1 := by unfold one; split <;> omega
    omega
  · intro x hx
    rcases hks x hx with rfl | hx
    · exact List.mem_map.2 ⟨k, List.mem_range.2 (by omega), rfl⟩
    · exact h.keys x hx
  · intro j hj
    rw [List.length_set] at hj
    rw [List.getElem_set, hok.2.1]
    by_cases hkj : k = j
    · subst hkj
      rw [if_pos rfl]
      refine ⟨tk.1, by rw [tk.2]; exact Int.le_refl _, ?_⟩
      rw [ho.1, same k hk, ty.2]
      rw [ty.1] at e1
      rw [← e1, tok_now (by have : 0 ≤ one X := by { unfold one; split <;> omega }; omega)]
    · rw [if_neg hkj]
      obtain ⟨c1, c2, c3⟩ := h.bok j hj
      refine ⟨c1, by omega, ?_⟩
      rw [hoth _ (addr_ne (by omega) (by omega) (fun e => hkj e.symm)), same j hj]
theorem Fs.start {O : Rt} (hO : okR O) : Fs O 0 (born ⟨0, 1000⟩ O) [⟨O.m, 0⟩, ⟨O.m, 0⟩, ⟨O.m, 0⟩, ⟨O.m, 0⟩] := by
  have hok := born_ok (all := ⟨0, 1000⟩) (by simp [okR]) hO
  have o2 := hO.2.2.1
  refine ⟨hok, rfl, rfl, ?_, (fun k hk => by cases hk), ?_⟩
  · show 1000 - ((0 : Nat) : Int) ≤ tok ⟨0, 1000⟩ ⟨1000, 0⟩ 0
    rw [tok_now (by decide)]
    decide
  · intro j hj
    have e : ([⟨O.m, 0⟩, ⟨O.m, 0⟩, ⟨O.m, 0⟩, ⟨O.m, 0⟩] : List Bu)[j] = ⟨O.m, 0⟩ := by
      have hj' : j < 4 := hj
      match j, hj' with
      | 0, _ => rfl
      | 1, _ => rfl
      | 2, _ => rfl
      | 3, _ => rfl
    rw [e]
    refine ⟨⟨by show 0 ≤ O.m; omega, Int.le_refl _, Int.le_refl _, (show (0 : Int) ≤ top by decide)⟩, Int.le_refl _, ?_⟩
    show O.m = tok O ⟨O.m, 0⟩ 0
    exact (tok_now (Int.le_refl _)).symm
end Go.Proofs.Ytblnglkjpnpmbaa.Bk
