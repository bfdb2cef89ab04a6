import Derived.Test.YtjpihjonkdgnhaaOrd
import Derived.Test.YtjpihjonkdgnhaaOctO
namespace Go.Proofs.Ytjpihjonkdgnhaa
open Go.RowKit
set_option linter.unusedVariables false
set_option linter.unusedSimpArgs false

theorem foldl_putL : ∀ (k n c : Nat), n < 256 ^ k → (putL n k).foldl (fun n b => n * 256 + b.toNat) c = c * 256 ^ k + n
  | 0, n, c, h => by
    have : n = 0 := by simpa using h
    subst this; simp [putL]
  | k + 1, n, c, h => by
    have hp : 0 < 256 ^ k := Nat.pow_pos (by omega)
    have q : n / 256 ^ k < 256 := Nat.div_lt_of_lt_mul (by rw [Nat.pow_succ] at h; exact h)
    rw [putL_succ, List.foldl_cons, foldl_putL k _ _ (Nat.mod_lt n hp)]
    have t : (UInt8.ofNat (n / 256 ^ k)).toNat = n / 256 ^ k := by rw [UInt8.toNat_ofNat', Nat.mod_eq_of_lt q]
    rw [t, Nat.add_mul, Nat.pow_succ]
    have := Nat.div_add_mod n (256 ^ k)
    rw [Nat.mul_comm (256 ^ k) (n / 256 ^ k)] at this
    rw [Nat.mul_assoc, Nat.mul_comm 256 (256 ^ k)]
    omega
theorem takeN_put (n k : Nat) (m : List UInt8) (h : n < 256 ^ k) : takeN (putL n k ++ m) k = n := by
  unfold takeN
  rw [List.take_append_of_le_length (by rw [putL_length]; exact Nat.le_refl _), List.take_of_length_le (by rw [putL_length]; exact Nat.le_refl _), foldl_putL k n 0 h]
  omega
theorem drop_put (n k : Nat) (m : List UInt8) : (putL n k ++ m).drop k = m := by
  have := List.drop_left (l₁ := putL n k) (l₂ := m)
  rwa [putL_length] at this

theorem hexL_get : ∀ (m : List UInt8) (j : Nat), j < m.length → ((hexL m).getD (2 * j) 0).toNat = hexN ((m.getD j 0).toNat / 16) ∧ ((hexL m).getD (2 * j + 1) 0).toNat = hexN ((m.getD j 0).toNat % 16)
  | [], j, h => by cases h
  | b :: m, j, h => by
    have hb := UInt8.toNat_lt b
    have h1 := hexN_lt (b.toNat / 16) (by omega)
    have h2 := hexN_lt (b.toNat % 16) (by omega)
    have e : hexL (b :: m) = UInt8.ofNat (hexN (b.toNat / 16)) :: UInt8.ofNat (hexN (b.toNat % 16)) :: hexL m := by simp [hexL, hexP]
    rw [e]
    cases j with
    | zero =>
      refine ⟨?_, ?_⟩
      · simp [UInt8.toNat_ofNat', Nat.mod_eq_of_lt h1]
      · simp [UInt8.toNat_ofNat', Nat.mod_eq_of_lt h2]
    | succ j =>
      have ih := hexL_get m j (by simpa using h)
      rw [show 2 * (j + 1) = 2 * j + 1 + 1 by omega, show 2 * j + 1 + 1 + 1 = (2 * j + 1) + 1 + 1 by omega]
      simpa using ih
theorem chr_mk (l : List UInt8) (i : Nat) : chr ⟨l.toArray⟩ i = (l.getD i 0).toNat := rfl
theorem size_mk (l : List UInt8) : (⟨l.toArray⟩ : ByteArray).size = l.length := by show l.toArray.size = _; simp
theorem unhex_hex (m : List UInt8) : UnhexOk ⟨(hexL m).toArray⟩ ∧ unhexK ⟨(hexL m).toArray⟩ ((⟨(hexL m).toArray⟩ : ByteArray).size / 2) = m := by
  have hs : (⟨(hexL m).toArray⟩ : ByteArray).size = 2 * m.length := by rw [size_mk, hexL_length]
  have hp : ∀ j, j < m.length → digV (chr ⟨(hexL m).toArray⟩ (2 * j)) = some ((m.getD j 0).toNat / 16) ∧ digV (chr ⟨(hexL m).toArray⟩ (2 * j + 1)) = some ((m.getD j 0).toNat % 16) := by
    intro j hj
    have hb := UInt8.toNat_lt (m.getD j 0)
    obtain ⟨a, b⟩ := hexL_get m j hj
    rw [chr_mk, chr_mk, a, b]
    exact ⟨hexN_digV _ (by omega), hexN_digV _ (by omega)⟩
  refine ⟨⟨by rw [hs]; omega, fun j hj => ?_⟩, ?_⟩
  · rw [hs] at hj
    obtain ⟨a, b⟩ := hp j (by omega)
    exact ⟨by rw [a]; rfl, by rw [b]; rfl⟩
  · rw [hs, show 2 * m.length / 2 = m.length by omega]
    apply List.ext_getElem
    · rw [unhexK_length]
    · intro j h1 h2
      simp only [unhexK, List.getElem_map, List.getElem_range]
      obtain ⟨a, b⟩ := hp j h2
      simp only [pairB, a, b, Option.getD_some]
      apply UInt8.toNat_inj.1
      have hb := UInt8.toNat_lt (m.getD j 0)
      rw [UInt8.toNat_ofNat']
      have : m.getD j 0 = m[j] := by simp [h2]
      rw [this] at hb ⊢
      omega
theorem hex_unhex (s : ByteArray) (h : UnhexOk s) : hexL (unhexK s (s.size / 2)) = s.data.toList := by
  obtain ⟨hev, hall⟩ := h
  have hl : s.data.toList.length = s.size := Array.length_toList
  apply List.ext_getElem
  · rw [hexL_length, unhexK_length, hl]; omega
  · intro i h1 h2
    rw [hexL_length, unhexK_length] at h1
    have hj : i / 2 < s.size / 2 := by omega
    obtain ⟨a, b, ha, hb, hp, ha16, hb16⟩ := pairOk_some (hall (i / 2) hj)
    obtain ⟨g1, g2⟩ := hexL_get (unhexK s (s.size / 2)) (i / 2) (by rw [unhexK_length]; exact hj)
    have hv : ((unhexK s (s.size / 2)).getD (i / 2) 0).toNat = a * 16 + b := by
      simp only [unhexK, List.getD_eq_getElem?_getD, List.getElem?_map, List.getElem?_range hj, Option.map_some, Option.getD_some, hp]
      rw [UInt8.toNat_ofNat']; omega
    rw [hv] at g1 g2
    rw [show (a * 16 + b) / 16 = a by omega, digV_hexN ha] at g1
    rw [show (a * 16 + b) % 16 = b by omega, digV_hexN hb] at g2
    apply UInt8.toNat_inj.1
    have r : (s.data.toList[i]).toNat = chr s i := by unfold chr; rw [List.getD_eq_getElem?_getD, List.getElem?_eq_getElem h2]; rfl
    rw [r]
    have l : ((hexL (unhexK s (s.size / 2)))[i]'(by rw [hexL_length, unhexK_length]; exact h1)).toNat = ((hexL (unhexK s (s.size / 2))).getD i 0).toNat := by
      rw [List.getD_eq_getElem?_getD, List.getElem?_eq_getElem (by rw [hexL_length, unhexK_length]; exact h1)]; rfl
    rw [l]
    rcases Nat.mod_two_eq_zero_or_one i with e | e
    · rw [show i = 2 * (i / 2) by omega]; exact g1
    · rw [show i = 2 * (i / 2) + 1 by omega]; exact g2

theorem text_six (m0 m1 m2 m3 m4 m5 : UInt8) : textK [m0, m1, m2, m3, m4, m5] 6 = hexP m0 ++ 58 :: (hexP m1 ++ 58 :: (hexP m2 ++ 58 :: (hexP m3 ++ 58 :: (hexP m4 ++ 58 :: hexP m5)))) := by
  simp [textK]
theorem hexP_get (b : UInt8) : hexP b = [UInt8.ofNat (hexN (b.toNat / 16)), UInt8.ofNat (hexN (b.toNat % 16))] := rfl
theorem ofNat_hexN (d : Nat) (h : d < 16) : (UInt8.ofNat (hexN d)).toNat = hexN d := by rw [UInt8.toNat_ofNat', Nat.mod_eq_of_lt (hexN_lt d h)]
theorem parse_text (m0 m1 m2 m3 m4 m5 : UInt8) : ParseOk ⟨(textK [m0, m1, m2, m3, m4, m5] 6).toArray⟩ ∧ macC ⟨(textK [m0, m1, m2, m3, m4, m5] 6).toArray⟩ 6 = #[.int .u8 (m0.toNat : Int), .int .u8 (m1.toNat : Int), .int .u8 (m2.toNat : Int), .int .u8 (m3.toNat : Int), .int .u8 (m4.toNat : Int), .int .u8 (m5.toNat : Int)] := by
  have hd : ∀ b : UInt8, digV ((UInt8.ofNat (hexN (b.toNat / 16))).toNat) = some (b.toNat / 16) ∧ digV ((UInt8.ofNat (hexN (b.toNat % 16))).toNat) = some (b.toNat % 16) := by
    intro b
    have := UInt8.toNat_lt b
    rw [ofNat_hexN _ (by omega), ofNat_hexN _ (by omega)]
    exact ⟨hexN_digV _ (by omega), hexN_digV _ (by omega)⟩
  have hv : ∀ b : UInt8, b.toNat / 16 * 16 + b.toNat % 16 = b.toNat := fun b => by omega
  rw [text_six]
  simp only [hexP_get, List.cons_append, List.nil_append]
  refine ⟨⟨rfl, ?_⟩, ?_⟩
  · intro i hi
    have hi' : i = 0 ∨ i = 1 ∨ i = 2 ∨ i = 3 ∨ i = 4 ∨ i = 5 := by omega
    rcases hi' with rfl | rfl | rfl | rfl | rfl | rfl
    all_goals
      refine ⟨?_, ?_, ?_⟩
      · simp only [chr_mk, Nat.mul_zero, Nat.reduceMul, List.getD_cons_zero, List.getD_cons_succ, hd, Option.isSome_some]
      · simp only [chr_mk, Nat.mul_zero, Nat.reduceMul, Nat.reduceAdd, List.getD_cons_zero, List.getD_cons_succ, hd, Option.isSome_some]
      · intro _; first | rfl | omega
  · rw [macC_six]
    simp only [macB, chr_mk, Nat.mul_zero, Nat.reduceMul, Nat.reduceAdd, Nat.mul_one, Nat.zero_add, List.getD_cons_zero, List.getD_cons_succ, hd, Option.getD_some, hv]

theorem text_parse (s : ByteArray) (h : ParseOk s) : textK [UInt8.ofNat (macB s 0), UInt8.ofNat (macB s 1), UInt8.ofNat (macB s 2), UInt8.ofNat (macB s 3), UInt8.ofNat (macB s 4), UInt8.ofNat (macB s 5)] 6 = s.data.toList := by
  obtain ⟨hsz, hall⟩ := h
  have hl : s.data.toList.length = 17 := by rw [← hsz]; exact Array.length_toList
  have hp : ∀ i, i < 6 → hexP (UInt8.ofNat (macB s i)) = [UInt8.ofNat (chr s (3 * i)), UInt8.ofNat (chr s (3 * i + 1))] ∧ (0 < i → chr s (3 * i - 1) = 58) := by
    intro i hi
    obtain ⟨a, b, ha, hb, hm, ha16, hb16, hc⟩ := macOk_some (hall i hi)
    refine ⟨?_, hc⟩
    rw [hexP_get, UInt8.toNat_ofNat', hm, Nat.mod_eq_of_lt (by omega), show (a * 16 + b) / 16 = a by omega, show (a * 16 + b) % 16 = b by omega, digV_hexN ha, digV_hexN hb]
  have p0 := hp 0 (by omega)
  have p1 := hp 1 (by omega)
  have p2 := hp 2 (by omega)
  have p3 := hp 3 (by omega)
  have p4 := hp 4 (by omega)
  have p5 := hp 5 (by omega)
  rw [text_six, p0.1, p1.1, p2.1, p3.1, p4.1, p5.1]
  have c1 := p1.2 (by omega)
  have c2 := p2.2 (by omega)
  have c3 := p3.2 (by omega)
  have c4 := p4.2 (by omega)
  have c5 := p5.2 (by omega)
  have ho : ∀ i, UInt8.ofNat (chr s i) = s.data.toList.getD i 0 := fun i => by
    apply UInt8.toNat_inj.1
    rw [UInt8.toNat_ofNat', Nat.mod_eq_of_lt (chr_lt s i)]
    rfl
  have hc : ∀ i, chr s i = 58 → (58 : UInt8) = s.data.toList.getD i 0 := fun i h => by
    rw [← ho i, h]
    rfl
  rw [ho, ho, ho, ho, ho, ho, ho, ho, ho, ho, ho, ho]
  have q2 := hc _ c1
  have q5 := hc _ c2
  have q8 := hc _ c3
  have q11 := hc _ c4
  have q14 := hc _ c5
  clear ho hc c1 c2 c3 c4 c5 p0 p1 p2 p3 p4 p5 hp hall hsz
  generalize s.data.toList = l at *
  match l, hl with
  | [x0, x1, x2, x3, x4, x5, x6, x7, x8, x9, x10, x11, x12, x13, x14, x15, x16], _ =>
    change (58 : UInt8) = x2 at q2
    change (58 : UInt8) = x5 at q5
    change (58 : UInt8) = x8 at q8
    change (58 : UInt8) = x11 at q11
    change (58 : UInt8) = x14 at q14
    subst q2 q5 q8 q11 q14
    rfl

theorem own_some {w : World} {base : Nat} {e : TypeId} {size n cap : Nat} {ao : Option Addr} {xs : List Value} (h : w.ownsRow base e size (.slice ao n cap) n xs) (hn : 0 < xs.length) : ∃ g, ao = some ⟨g, 0, none⟩ ∧ base ≤ g ∧ g < w.heap.size := by
  rcases h.2 with ⟨h1, h2⟩ | ⟨g, cap', cur, h1, h2, h3, _⟩
  · have h0 := h.1
    rw [h2, Nat.zero_mul] at h0
    omega
  · simp only [Value.slice.injEq] at h1
    exact ⟨g, h1.1, h2, (Array.getElem?_eq_some_iff.1 h3).1⟩

theorem macB_lt (s : ByteArray) (i : Nat) : macB s i < 256 := by
  unfold macB
  have h : ∀ c, (digV c).getD 0 < 16 := fun c => by
    cases h : digV c with
    | none => simp
    | some d => have := digV_lt h; simpa using this
  have h1 := h (chr s (3 * i))
  have h2 := h (chr s (3 * i + 1))
  omega
theorem parseB_lt (s : ByteArray) (i : Nat) : parseB s i < 256 := by
  unfold parseB
  split
  · exact macB_lt s i
  · omega
theorem mk_data (t : ByteArray) (l : List UInt8) (h : l = t.data.toList) : (⟨l.toArray⟩ : ByteArray) = t := by
  subst h
  simp
theorem parse_back (t : ByteArray) (ht : t.size ≤ 1000000) : ∃ (p0 p1 p2 p3 p4 p5 : UInt8) (e : Int),
    (∀ w, Calls Try.prog 19 #[.string t] w fun x w' => x = .returned (.tuple #[.agg #[.int .u8 (p0.toNat : Int), .int .u8 (p1.toNat : Int), .int .u8 (p2.toNat : Int), .int .u8 (p3.toNat : Int), .int .u8 (p4.toNat : Int), .int .u8 (p5.toNat : Int)], .int .i64 e]) ∧ Below w.heap.size w w') ∧
    ((e = 0 ∧ (⟨(textK [p0, p1, p2, p3, p4, p5] 6).toArray⟩ : ByteArray) = t) ∨ e = 10) := by
  refine ⟨UInt8.ofNat (parseB t 0), UInt8.ofNat (parseB t 1), UInt8.ofNat (parseB t 2), UInt8.ofNat (parseB t 3), UInt8.ofNat (parseB t 4), UInt8.ofNat (parseB t 5), parseE t, fun w => ?_, ?_⟩
  · have h : ∀ i, (UInt8.ofNat (parseB t i)).toNat = parseB t i := fun i => by
      have := parseB_lt t i
      rw [UInt8.toNat_ofNat', Nat.mod_eq_of_lt (by omega)]
    rw [h, h, h, h, h, h]
    exact parse_any w t ht
  · by_cases h : ParseOk t
    · refine .inl ⟨if_pos h, mk_data t _ ?_⟩
      have e : ∀ i, parseB t i = macB t i := fun i => if_pos h
      rw [e, e, e, e, e, e]
      exact text_parse t h
    · exact .inr (if_neg h)
theorem unhex_back (t : ByteArray) (ht : t.size ≤ 1000000) : ∃ (l : List UInt8) (e : Int), l.length ≤ 1000000 ∧
    (∀ w, Calls Try.prog 15 #[.string t] w fun x w' => ∃ v, x = .returned (.tuple #[v, .int .i64 e]) ∧ OwnB w' w.heap.size 5 v l ∧ Below w.heap.size w w') ∧
    ((e = 0 ∧ (⟨(hexL l).toArray⟩ : ByteArray) = t) ∨ e = 10) := by
  refine ⟨unhexX t, unhexE t, ?_, fun w => unhex_any w t ht, ?_⟩
  · unfold unhexX
    split
    · rw [unhexK_length]; omega
    · simp
  · by_cases h : UnhexOk t
    · refine .inl ⟨if_pos h, mk_data t _ ?_⟩
      rw [show unhexX t = _ from if_pos h]
      exact hex_unhex t h
    · exact .inr (if_neg h)
end Go.Proofs.Ytjpihjonkdgnhaa
