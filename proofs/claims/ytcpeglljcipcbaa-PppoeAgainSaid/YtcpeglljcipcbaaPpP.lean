/-
  PPPoE in plain words: a packet's bytes, what is decoded, there and back; what a client asks; the tags of an answer.
-/
import Derived.Test.YtcpeglljcipcbaaTagP
namespace Go.Proofs.Ytcpeglljcipcbaa
set_option linter.unusedVariables false
set_option linter.unusedSimpArgs false

/-- A packet: its code, its session, its payload. -/
structure PP where
  c : Int
  s : Int
  l : List UInt8
def PP.zero : PP := ⟨0, 0, []⟩
def pmay (p : PP) : Prop := 0 ≤ p.c ∧ p.c ≤ 255 ∧ 0 ≤ p.s ∧ p.s ≤ 65535
instance (p : PP) : Decidable (pmay p) := by unfold pmay; infer_instance
def pencE (p : PP) : Int := if pmay p then (if 1494 < p.l.length then 2 else 0) else 60
def wireP (p : PP) : List UInt8 := 17 :: UInt8.ofNat p.c.toNat :: UInt8.ofNat (p.s.toNat / 256) :: UInt8.ofNat p.s.toNat :: UInt8.ofNat (p.l.length / 256) :: UInt8.ofNat p.l.length :: p.l
def pencB (p : PP) : List UInt8 := if pencE p = 0 then wireP p else []
theorem wireP_length (p : PP) : (wireP p).length = 6 + p.l.length := by simp [wireP]; omega
theorem pencE_no {p : PP} (h : ¬ pmay p) : pencE p = 60 := if_neg h
theorem pencE_long {p : PP} (h : pmay p) (h2 : 1494 < p.l.length) : pencE p = 2 := by unfold pencE; rw [if_pos h, if_pos h2]
theorem pencE_ok {p : PP} (h : pmay p) (h2 : ¬ 1494 < p.l.length) : pencE p = 0 := by unfold pencE; rw [if_pos h, if_neg h2]
theorem pencE_zero {p : PP} (h : pencE p = 0) : pmay p ∧ p.l.length ≤ 1494 := by
  unfold pencE at h
  split at h
  · split at h
    · cases h
    · exact ⟨by assumption, by omega⟩
  · cases h
theorem pencB_no {p : PP} (h : pencE p ≠ 0) : pencB p = [] := if_neg h
theorem pencB_yes {p : PP} (h : pencE p = 0) : pencB p = wireP p := if_pos h

/-- Byte i of a row, as a number. -/
def bN (l : List UInt8) (i : Nat) : Nat := (l.getD i 0).toNat
theorem bN_lt (l : List UInt8) (i : Nat) : bN l i < 256 := UInt8.toNat_lt _
theorem bN_get (l : List UInt8) (i : Nat) (h : i < l.length) : bN l i = l[i].toNat := by simp [bN, List.getD, h]
def pS (l : List UInt8) : Nat := 256 * bN l 2 + bN l 3
def pN (l : List UInt8) : Nat := 256 * bN l 4 + bN l 5
theorem pS_lt (l : List UInt8) : pS l < 65536 := by unfold pS; have := bN_lt l 2; have := bN_lt l 3; omega
theorem pN_lt (l : List UInt8) : pN l < 65536 := by unfold pN; have := bN_lt l 4; have := bN_lt l 5; omega
/-- What Decode tells. -/
def pdec (l : List UInt8) : PP × Int :=
  if l.length < 6 then (PP.zero, 6) else if bN l 0 ≠ 17 then (PP.zero, 60) else if 1494 < pN l then (PP.zero, 2) else if l.length < 6 + pN l then (PP.zero, 6)
  else (⟨bN l 1, pS l, (l.drop 6).take (pN l)⟩, 0)
theorem pdec_short {l : List UInt8} (h : l.length < 6) : pdec l = (PP.zero, 6) := if_pos h
theorem pdec_other {l : List UInt8} (h : ¬ l.length < 6) (h2 : bN l 0 ≠ 17) : pdec l = (PP.zero, 60) := by unfold pdec; rw [if_neg h, if_pos h2]
theorem pdec_long {l : List UInt8} (h : ¬ l.length < 6) (h2 : bN l 0 = 17) (h3 : 1494 < pN l) : pdec l = (PP.zero, 2) := by unfold pdec; rw [if_neg h, if_neg (by omega), if_pos h3]
theorem pdec_less {l : List UInt8} (h : ¬ l.length < 6) (h2 : bN l 0 = 17) (h3 : ¬ 1494 < pN l) (h4 : l.length < 6 + pN l) : pdec l = (PP.zero, 6) := by unfold pdec; rw [if_neg h, if_neg (by omega), if_neg h3, if_pos h4]
theorem pdec_yes {l : List UInt8} (h : ¬ l.length < 6) (h2 : bN l 0 = 17) (h3 : ¬ 1494 < pN l) (h4 : ¬ l.length < 6 + pN l) : pdec l = (⟨bN l 1, pS l, (l.drop 6).take (pN l)⟩, 0) := by unfold pdec; rw [if_neg h, if_neg (by omega), if_neg h3, if_neg h4]
theorem pdec_err {l : List UInt8} (h : (pdec l).2 ≠ 0) : (pdec l).1 = PP.zero := by
  unfold pdec at h ⊢
  split
  · rfl
  · split
    · rfl
    · split
      · rfl
      · split
        · rfl
        · rename_i h1 h2 h3 h4
          rw [if_neg h1, if_neg h2, if_neg h3, if_neg h4] at h
          exact absurd rfl h
theorem pdec_zero {l : List UInt8} (h : (pdec l).2 = 0) : ¬ l.length < 6 ∧ bN l 0 = 17 ∧ ¬ 1494 < pN l ∧ ¬ l.length < 6 + pN l := by
  unfold pdec at h
  split at h
  · cases h
  · split at h
    · cases h
    · split at h
      · cases h
      · split at h
        · cases h
        · exact ⟨by assumption, by omega, by assumption, by assumption⟩
theorem ofNat_toNat8 (n : Nat) (h : n < 256) : (UInt8.ofNat n).toNat = n := by rw [UInt8.toNat_ofNat']; omega
/-- What was encoded is decoded, whatever stands behind it. -/
theorem pdec_wire {p : PP} (h : pencE p = 0) (more : List UInt8) : pdec (wireP p ++ more) = (p, 0) := by
  obtain ⟨⟨h1, h2, h3, h4⟩, h5⟩ := pencE_zero h
  have hl : (wireP p ++ more).length = 6 + p.l.length + more.length := by rw [List.length_append, wireP_length]
  have e0 : bN (wireP p ++ more) 0 = 17 := rfl
  have e1 : bN (wireP p ++ more) 1 = p.c.toNat := ofNat_toNat8 _ (by omega)
  have e2 : bN (wireP p ++ more) 2 = p.s.toNat / 256 := ofNat_toNat8 _ (by omega)
  have e3 : bN (wireP p ++ more) 3 = p.s.toNat % 256 := by show (UInt8.ofNat p.s.toNat).toNat = _; rw [UInt8.toNat_ofNat']
  have e4 : bN (wireP p ++ more) 4 = p.l.length / 256 := ofNat_toNat8 _ (by omega)
  have e5 : bN (wireP p ++ more) 5 = p.l.length % 256 := by show (UInt8.ofNat p.l.length).toNat = _; rw [UInt8.toNat_ofNat']
  have eN : pN (wireP p ++ more) = p.l.length := by unfold pN; rw [e4, e5]; omega
  have eS : pS (wireP p ++ more) = p.s.toNat := by unfold pS; rw [e2, e3]; omega
  rw [pdec_yes (by omega) e0 (by omega) (by omega), eN, eS, e1]
  have e6 : ((wireP p ++ more).drop 6).take p.l.length = p.l := by
    show (p.l ++ more).take p.l.length = p.l
    simp
  rw [e6, Int.toNat_of_nonneg h1, Int.toNat_of_nonneg h3]
/-- What is decoded, encoded, stands at the beginning of what it was decoded of. -/
theorem pdec_again {l : List UInt8} (h : (pdec l).2 = 0) : pencE (pdec l).1 = 0 ∧ ∃ r, wireP (pdec l).1 ++ r = l := by
  obtain ⟨h1, h2, h3, h4⟩ := pdec_zero h
  rw [pdec_yes h1 h2 h3 h4]
  have b1 := bN_lt l 1
  have b2 := bN_lt l 2
  have b3 := bN_lt l 3
  have b4 := bN_lt l 4
  have b5 := bN_lt l 5
  have s1 := pS_lt l
  have hl : ((l.drop 6).take (pN l)).length = pN l := by rw [List.length_take, List.length_drop]; omega
  refine ⟨pencE_ok ⟨by simp, by simp; omega, by simp, by simp; omega⟩ (by rw [hl]; omega), l.drop (6 + pN l), ?_⟩
  have g : ∀ i, i < l.length → UInt8.ofNat (bN l i) = l.getD i 0 := fun i hi => by unfold bN; rw [UInt8.ofNat_toNat]
  have hd : ∀ a b : Nat, b < 256 → (256 * a + b) / 256 = a := fun a b hb => by omega
  have hm : ∀ a b : Nat, b < 256 → UInt8.ofNat (256 * a + b) = UInt8.ofNat b := fun a b hb => by
    apply UInt8.toNat_inj.1
    rw [UInt8.toNat_ofNat', UInt8.toNat_ofNat']
    omega
  show 17 :: UInt8.ofNat ((bN l 1 : Nat) : Int).toNat :: UInt8.ofNat ((pS l : Int).toNat / 256) :: UInt8.ofNat (pS l : Int).toNat :: UInt8.ofNat (((l.drop 6).take (pN l)).length / 256) :: UInt8.ofNat ((l.drop 6).take (pN l)).length :: ((l.drop 6).take (pN l) ++ l.drop (6 + pN l)) = l
  rw [hl, Int.toNat_natCast, Int.toNat_natCast, ← List.drop_drop, List.take_append_drop]
  have eN : pN l = 256 * bN l 4 + bN l 5 := rfl
  have eS : pS l = 256 * bN l 2 + bN l 3 := rfl
  rw [eS, hd _ _ b3, hm _ _ b3, eN, hd _ _ b5, hm _ _ b5, g 1 (by omega), g 2 (by omega), g 3 (by omega), g 4 (by omega), g 5 (by omega)]
  have e17 : (17 : UInt8) = l.getD 0 0 := by
    have := g 0 (by omega)
    rw [h2] at this
    exact this
  rw [e17]
  match l, h1 with
  | a :: b :: c :: d :: e :: f :: r, _ => rfl
  | [], h => exact absurd (by decide) h
  | [_], h => exact absurd (by simp) h
  | [_, _], h => exact absurd (by simp) h
  | [_, _, _], h => exact absurd (by simp) h
  | [_, _, _, _], h => exact absurd (by simp) h
  | [_, _, _, _, _], h => exact absurd (by simp) h

/-- The bytes of a text. -/
def bl (s : ByteArray) : List UInt8 := s.data.toList
theorem bl_length (s : ByteArray) : (bl s).length = s.size := by unfold bl; rw [Array.length_toList]; rfl
/-- What a client asks. -/
structure DD where
  c : Int
  s : Int
  v : ByteArray
  ul : List UInt8
  rl : List UInt8
  hu : Bool
  hr : Bool
  kl : List UInt8
def DD.zero : DD := ⟨0, 0, ⟨#[]⟩, [], [], false, false, []⟩
/-- What is told again. -/
def againL (d : DD) : List PT := (if d.hu then [((259 : Int), d.ul)] else []) ++ (if d.hr then [((272 : Int), d.rl)] else [])
/-- The packet of tags, and the error. -/
def packP (c s : Int) (ls : List PT) : PP × Int := if encE ls = 0 then (⟨c, s, wireT ls⟩, 0) else (PP.zero, encE ls)
theorem packP_ok {c s : Int} {ls : List PT} (h : encE ls = 0) : packP c s ls = (⟨c, s, wireT ls⟩, 0) := if_pos h
theorem packP_no {c s : Int} {ls : List PT} (h : encE ls ≠ 0) : packP c s ls = (PP.zero, encE ls) := if_neg h
theorem packP_zero {c s : Int} {ls : List PT} (h : (packP c s ls).2 = 0) : encE ls = 0 := by
  by_cases e : encE ls = 0
  · exact e
  · rw [packP_no e] at h; exact absurd h e
def svcL (v : ByteArray) (ss : List ByteArray) : List PT := (ss.filter fun s => decide (s ≠ v)).map fun s => ((257 : Int), bl s)
theorem svcL_snoc (v : ByteArray) (ss : List ByteArray) (k : Nat) (h : k < ss.length) : svcL v (ss.take (k + 1)) = svcL v (ss.take k) ++ (if ss[k] = v then [] else [((257 : Int), bl ss[k])]) := by
  unfold svcL
  rw [List.take_succ_eq_append_getElem h, List.filter_append, List.map_append]
  by_cases e : ss[k] = v <;> simp [e]
def offerL (name : ByteArray) (ss : List ByteArray) (d : DD) (ck : List UInt8) : List PT := (([((258 : Int), bl name), (257, bl d.v)] ++ svcL d.v ss) ++ againL d) ++ [((260 : Int), ck)]
def offerP (name : ByteArray) (ss : List ByteArray) (d : DD) (ck : List UInt8) : PP × Int := if d.c = 9 then packP 7 0 (offerL name ss d ck) else (PP.zero, 61)
def sessP (d : DD) (id : Int) : PP × Int := if d.c = 25 then (if 1 ≤ id ∧ id ≤ 65534 then packP 101 id ([((257 : Int), bl d.v)] ++ againL d) else (PP.zero, 5)) else (PP.zero, 61)
def refP (d : DD) (t : Int) (why : ByteArray) : PP × Int := if d.c = 25 then (if t = 513 ∨ t = 514 ∨ t = 515 then packP 101 0 ([(t, bl why)] ++ againL d) else (PP.zero, 1)) else (PP.zero, 61)
def termP (id : Int) : PP × Int := if 1 ≤ id ∧ id ≤ 65534 then (⟨167, id, []⟩, 0) else (PP.zero, 5)
/-- Of these tags, those of a type. -/
theorem again_u (d : DD) : allL (againL d) 259 = if d.hu then [d.ul] else [] := by unfold allL againL; cases d.hu <;> cases d.hr <;> simp
theorem again_r (d : DD) : allL (againL d) 272 = if d.hr then [d.rl] else [] := by unfold allL againL; cases d.hu <;> cases d.hr <;> simp
theorem allL_append (a b : List PT) (t : Int) : allL (a ++ b) t = allL a t ++ allL b t := by simp [allL]
theorem allL_other (a : List PT) (t : Int) (h : ∀ x ∈ a, x.1 ≠ t) : allL a t = [] := by
  unfold allL
  rw [List.filter_eq_nil_iff.2 (fun x hx => by simpa using h x hx)]
  rfl
theorem svcL_type (v : ByteArray) (ss : List ByteArray) : ∀ x ∈ svcL v ss, x.1 = 257 := by
  intro x hx
  obtain ⟨s, _, rfl⟩ := List.mem_map.1 hx
  rfl
theorem offer_u (name : ByteArray) (ss : List ByteArray) (d : DD) (ck : List UInt8) : allL (offerL name ss d ck) 259 = if d.hu then [d.ul] else [] := by
  unfold offerL
  rw [allL_append, allL_append, allL_append, again_u, allL_other (svcL d.v ss) _ (fun x hx => by rw [svcL_type _ _ x hx]; decide)]
  simp [allL]
theorem offer_r (name : ByteArray) (ss : List ByteArray) (d : DD) (ck : List UInt8) : allL (offerL name ss d ck) 272 = if d.hr then [d.rl] else [] := by
  unfold offerL
  rw [allL_append, allL_append, allL_append, again_r, allL_other (svcL d.v ss) _ (fun x hx => by rw [svcL_type _ _ x hx]; decide)]
  simp [allL]

/-- The first tag of a type: its value, is there one. -/
def firstL (ls : List PT) (t : Int) : List UInt8 := ((ls.find? fun x => decide (x.1 = t)).map (·.2)).getD []
def hasL (ls : List PT) (t : Int) : Bool := (ls.find? fun x => decide (x.1 = t)).isSome
/-- Does the packet's code, its session, the number of services serve? -/
def asksP (p : PP) (n : Nat) : Bool := if p.c = 9 ∨ p.c = 25 then decide (p.s = 0) && decide (n = 1) else if p.c = 167 then decide (p.s ≠ 0) && decide (p.s ≤ 65535) else false
/-- What a client asks by a packet, and the error. -/
def cliP (p : PP) : DD × Int :=
  if (dec p.l).2 = 0 ∧ asksP p (allL (dec p.l).1 257).length = true then
    (⟨p.c, p.s, if p.c = 167 then ⟨#[]⟩ else ⟨(firstL (dec p.l).1 257).toArray⟩, firstL (dec p.l).1 259, firstL (dec p.l).1 272, hasL (dec p.l).1 259, hasL (dec p.l).1 272, if p.c = 25 then firstL (dec p.l).1 260 else []⟩, 0)
  else (DD.zero, 61)
end Go.Proofs.Ytcpeglljcipcbaa
