/-
  The laws' example: a tag there and back, found; a head that is cut.
-/
import Derived.Test.YtlpafphlecajhaaTagD
import Derived.Test.YtlpafphlecajhaaTagE
import Derived.Test.YtlpafphlecajhaaTagI
import Derived.Test.YtlpafphlecajhaaOwnC
namespace Go.Proofs.Ytlpafphlecajhaa
open Go.RowKit
set_option linter.unusedVariables false
set_option linter.unusedSimpArgs false

/-- 'append(s, x...)': s the call's own, x not empty: what is told is read, and so is s. -/
theorem wpList_append_keep {P : Program} (w : World) {ops : Array Oper} {rest : List Oper} {o : Oper} {a : Act} {Q : Exit → Act → World → Prop} (hgd : o.guard = none) (s x : Operand) (t : TypeId)
    (ho : o.op = Op.call { callee := Callee.builtin Builtin.append, args := #[s, x], argTypes := #[t, t] })
    (base : Nat) (e : TypeId) (i : TypeInfo) (z : Value) (bytes : Nat) (ht : P.underlying t = some (.slice e)) (hi : P.info? e = some i) (hz : i.zero = some z)
    (hsize : i.size = 1) (hby : i.bytes = bytes) (hzs : z.cells.size = 1)
    (v : Value) (n : Nat) (xs : List Value) (hs : a.eval s = v) (hown : OwnC w base v n xs)
    (y : Value) (m : Nat) (ys : List Value) (hx : a.eval x = y) (hy : Rd w 1 y m ys) (hm : 0 < m) (h1 : ∀ u ∈ ys, u.oneCell' = true)
    (hbytes : (n + m) * bytes ≤ 140737488355328) (hb1 : 0 < bytes) (hbase : base ≤ w.heap.size)
    (h : ∀ v' w', Rd w' 1 v' (n + m) (xs ++ ys) → Rd w' 1 v n xs → Below base w w' → wpList P ops Q rest (a.put o.dst v') w') : wpList P ops Q (o :: rest) a w := by
  have h63 : n + m ≤ maxLen := by
    have : n + m ≤ (n + m) * bytes := Nat.le_mul_of_pos_right _ hb1
    unfold maxLen; omega
  have hrd := hown.rd
  obtain ⟨h0, g, cap, rfl, k1, k2, k3, k4, k5, k6, k7⟩ := hown
  obtain ⟨hl, ao, c, rfl, g1, g2, g3, g4⟩ := hy
  cases ao with
  | none => have := g3 rfl; omega
  | some ad =>
    refine wpList_append_arg w hgd s x t ho e i z 1 bytes ht hi hz hsize hby hzs (by decide) g 0 n cap xs hs (by omega) (fun j u hu => by rw [Nat.zero_add]; exact k5 j u hu) ad m c ys hx hl (g4 ad rfl) h1 (fun hr j hj => by
      rw [show 0 + n * 1 + j = n + j by omega]
      exact ⟨k6 _ (by omega), k7 _ (by omega)⟩) h63 hbytes (fun hr => ?_) (fun hr v' w' r1 r2 => ?_)
    · have hk : ∀ j u, xs[j]? = some u → (w.setCells g (0 + n * 1) ys).cell? ⟨g, j, none⟩ = some u := fun j u hu => by
        have hj := (List.getElem?_eq_some_iff.1 hu).1
        rw [World.cell?_setCells_out g ys (0 + n * 1) w ⟨g, j, none⟩ (fun _ _ => .inl (by show j < _; omega))]
        exact k5 j u hu
      refine h _ _ (OwnC.rd (base := base) ⟨by rw [List.length_append]; omega, g, cap, rfl, k1, ?_, hr, k4, fun j u hu => ?_, fun j hj => ?_, fun j hj => ?_⟩) (OwnC.rd (base := base) ⟨h0, g, cap, rfl, k1, ?_, k3, k4, hk, fun j hj => ?_, fun j hj => ?_⟩) ((only_setCells ys (0 + n * 1) w).below base w k1 (Below.refl _ _))
      · exact Nat.lt_of_lt_of_le k2 (only_setCells (g := g) ys (0 + n * 1) w).size
      · by_cases hj : j < xs.length
        · rw [List.getElem?_append_left hj] at hu
          exact hk j u hu
        · rw [List.getElem?_append_right (by omega)] at hu
          have hj2 := (List.getElem?_eq_some_iff.1 hu).1
          have := World.cell?_setCells_in g ys (0 + n * 1) w (fun i hi => k6 _ (by omega)) (j - xs.length) hj2
          rw [show 0 + n * 1 + (j - xs.length) = j by omega] at this
          rw [this, ← hu, List.getElem?_eq_getElem hj2]
      · by_cases hj2 : j < n ∨ n + m ≤ j
        · rw [World.cell?_setCells_out g ys (0 + n * 1) w ⟨g, j, none⟩ (fun _ _ => by show j < _ ∨ _ ≤ j; omega)]
          exact k6 j hj
        · have := World.cell?_setCells_in g ys (0 + n * 1) w (fun i hi => k6 _ (by omega)) (j - n) (by omega)
          rw [show 0 + n * 1 + (j - n) = j by omega] at this
          rw [this]; rfl
      · rw [World.frozen?_setCells]
        exact k7 j hj
      · exact Nat.lt_of_lt_of_le k2 (only_setCells (g := g) ys (0 + n * 1) w).size
      · by_cases hj2 : j < n ∨ n + m ≤ j
        · rw [World.cell?_setCells_out g ys (0 + n * 1) w ⟨g, j, none⟩ (fun _ _ => by show j < _ ∨ _ ≤ j; omega)]
          exact k6 j hj
        · have := World.cell?_setCells_in g ys (0 + n * 1) w (fun i hi => k6 _ (by omega)) (j - n) (by omega)
          rw [show 0 + n * 1 + (j - n) = j by omega] at this
          rw [this]; rfl
      · rw [World.frozen?_setCells]
        exact k7 j hj
    · have hbl : Below w.heap.size w w' := (Below.refl _ _).grown r2 (Nat.le_refl _) (fun _ h => by cases h)
      exact h v' w' (OwnC.rd (base := base) (ownC_of (e := e) (ownsRow_mono r1 hbase) (by omega))) (hrd.below hbl) (hbl.mono hbase)

/-- A row of one tag. -/
theorem TR.one {w : World} {t : Int} {A : Option Addr} {L C : Nat} {l : List UInt8} (hb : Bs w (.slice A L C) l) : TR (w.alloc (.cells #[.int .i64 t, .slice A L C] 34)) (.slice (some ⟨w.heap.size, 0, none⟩) 1 1) 1 [⟨t, .slice A L C, l⟩] := by
  refine ⟨rd_new w [.int .i64 t, .slice A L C] 34 1 2 rfl (by decide), fun x hx => ?_⟩
  rw [List.mem_singleton.1 hx]
  exact hb.below ((Below.refl _ _).alloc (Nat.le_refl _) _)
def bytes12 : List UInt8 := [1, 2]
def tag12 : PT := (259, bytes12)
theorem enc12 : encE [tag12] = 0 := by decide +kernel
theorem wire12 : wireT [tag12] = [1, 3, 0, 2, 1, 2] := by decide +kernel
theorem dec12 : dec ([1, 3, 0, 2, 1, 2] ++ [0, 0, 0, 0, 9]) = ([tag12], 0) := by
  have := dec_stop enc12 [9] (by rw [wire12]; decide)
  rw [wire12] at this
  exact this
theorem dec3 : dec [1, 3, 0] = ([], 50) := by
  rw [dec_fits (by decide)]
  exact decL_short _ _ (by decide) (by decide)

set_option maxRecDepth 20000 in
set_option maxHeartbeats 4000000 in
theorem awake_any (w : World) : Calls Try.prog 12 #[] w fun e w' => e = .returned (.bool true) ∧ Below w.heap.size w w' := by
  obtain ⟨j0, hj, hy0, hy1, hy2⟩ := info_parts info5
  have BA : Below w.heap.size w (w.alloc (.cells #[.int .u8 1, .int .u8 2] 5)) := (Below.refl _ _).alloc (Nat.le_refl _) _
  have hb0 : Bs (w.alloc (.cells #[.int .u8 1, .int .u8 2] 5)) (.slice (some ⟨w.heap.size, 0, none⟩) 2 2) bytes12 := rd_new w (bytes12.map u8v) 5 2 1 rfl (by decide)
  have ht := TR.one (t := 259) hb0
  rw [World.size_alloc] at ht
  have BB : Below w.heap.size w ((w.alloc (.cells #[.int .u8 1, .int .u8 2] 5)).alloc (.cells #[.int .i64 259, .slice (some ⟨w.heap.size, 0, none⟩) 2 2] 34)) := BA.alloc (by simp) _
  have HT := Lib.hid ht
  have HB := Lib.hid BB
  clear BA hb0 ht BB
  go_enter Try.func12, Try.ntmps12
  go_wp2_with fail
  generalize ((w.alloc (.cells #[.int .u8 1, .int .u8 2] 5)).alloc (.cells #[.int .i64 259, .slice (some ⟨w.heap.size, 0, none⟩) 2 2] 34)) = w1 at HT HB ⊢
  refine (encode_any _ 1 1 _ w1 HT.out (by decide) (by intro x hx; rw [List.mem_singleton.1 hx]; exact (by decide : bytes12.length ≤ 1000000))).mono ?_
  rintro e w2 ⟨v2, rfl, hown2, hb2⟩
  have e1 : plain [(⟨259, .slice (some ⟨w.heap.size, 0, none⟩) 2 2, bytes12⟩ : Tg)] = [tag12] := rfl
  rw [e1, encB_yes enc12, wire12] at hown2
  rw [e1, enc12]
  have HB2 := Lib.hid (HB.out.trans (hb2.mono HB.out.size))
  obtain ⟨A2, L2, C2, ev, hL2, _, _⟩ := hown2.bs.sl
  obtain rfl : L2 = 6 := hL2.symm
  subst ev
  have HC2 : Hid (OwnC w2 w.heap.size (.slice A2 6 C2) 6 ([1, 3, 0, 2, 1, 2].map u8v)) := ownC_of (e := 5) (ownsRow_mono hown2 HB.out.size) (by decide)
  have HE := Lib.hid ((Below.refl w2.heap.size w2).alloc (Nat.le_refl _) (.cells #[.int .u8 0, .int .u8 0, .int .u8 0, .int .u8 0, .int .u8 9] 5))
  have HC3 := Lib.hid (OwnC.below HC2.out HE.out)
  have HR3 : Hid (Rd (w2.alloc (.cells #[.int .u8 0, .int .u8 0, .int .u8 0, .int .u8 0, .int .u8 9] 5)) 1 (.slice (some ⟨w2.heap.size, 0, none⟩) 5 5) 5 ([0, 0, 0, 0, 9].map u8v)) := rd_new w2 ([0, 0, 0, 0, 9].map u8v) 5 5 1 rfl (by decide)
  have HB3 := Lib.hid (HB2.out.trans (HE.out.mono HB2.out.size))
  clear hown2 hb2 hL2 e1
  go_wp2_with (at_builtin; refine wpList_append_keep _ rfl (.tmp 19) (.tmp 20) 24 rfl w.heap.size 5 j0 (.int .u8 0) 1 Try.underlying24 hj hy0 hy1 hy2 rfl _ _ _ rfl HC3.out _ _ _ rfl HR3.out (by decide) (oneCell_u8 _) (by decide) (by decide) HB3.out.size ?_)
  intro v4 w4 hv4 hk4 hb4
  have HB4 := Lib.hid (HB3.out.trans hb4)
  have hbs4 : Bs w4 v4 ([1, 3, 0, 2, 1, 2] ++ [0, 0, 0, 0, 9]) := Bs.of_rd hv4 rfl
  have hbk4 : Bs w4 (.slice A2 6 C2) [1, 3, 0, 2, 1, 2] := Bs.of_rd hk4 rfl
  obtain ⟨A4, L4, C4, ev, hL4, _, _⟩ := hbs4.sl
  obtain rfl : L4 = 11 := hL4.symm
  subst ev
  have HK4 := Lib.hid hbk4
  have DC := Lib.hid (decode_any A4 11 C4 _ rfl w4 hbs4 (by decide))
  clear hv4 hk4 hb4 hbs4 hbk4 hL4
  go_wp2_with fail
  refine DC.out.mono ?_
  rintro e w5 ⟨v5, rfl, ⟨ts, hts, hto⟩, hb5⟩
  rw [dec12] at hts
  rw [dec12]
  have HB5 := Lib.hid (HB4.out.trans (hb5.mono HB4.out.size))
  have HK5 := Lib.hid (HK4.out.below hb5)
  have htr := hto.tr
  have hlen : ts.length = 1 := by have := congrArg List.length hts; rw [plain_length] at this; exact this
  obtain ⟨x, rfl⟩ : ∃ x, ts = [x] := List.length_eq_one_iff.1 hlen
  have hx : x.typ = 259 ∧ x.l = bytes12 := by
    have : (x.typ, x.l) = tag12 := List.singleton_inj.1 hts
    exact ⟨congrArg Prod.fst this, congrArg Prod.snd this⟩
  obtain ⟨A5, C5, ev, _, _⟩ := htr.shape
  subst ev
  have HTR := Lib.hid htr
  have HX := Lib.hid hx
  have F1 : Hid (findT [x] 259 = some x) := by show _ = _; unfold findT; simp [hx.1]
  have F2 : Hid (findT [x] 258 = none) := by show _ = _; unfold findT; simp [hx.1]
  have hsm : ∀ y ∈ [x], y.l.length ≤ 140737488351232 := by intro y hy; rw [List.mem_singleton.1 hy, hx.2]; decide
  have FD1 := Lib.hid (find_any A5 1 C5 [x] 259 w5 HTR.out (by decide) hsm)
  clear hts hto hb5 htr hlen hx
  go_wp2_with fail
  refine FD1.out.mono ?_
  rintro e w6 ⟨v6, rfl, hown6, hb6⟩
  rw [F1.out]
  have e6 : findL [x] 259 = bytes12 := by unfold findL; rw [F1.out]; exact HX.out.2
  rw [e6] at hown6
  have HB6 := Lib.hid (HB5.out.trans (hb6.mono HB5.out.size))
  have HK6 := Lib.hid (HK5.out.below hb6)
  have HV6 := Lib.hid hown6.bs
  have FD2 := Lib.hid (find_any A5 1 C5 [x] 258 w6 (HTR.out.below hb6) (by decide) hsm)
  obtain ⟨A6, L6, C6, ev, hL6, _, _⟩ := hown6.bs.sl
  obtain rfl : L6 = 2 := hL6.symm
  subst ev
  clear hown6 hb6 e6 hL6 hsm
  go_wp2_with fail
  refine FD2.out.mono ?_
  rintro e w7 ⟨v7, rfl, hown7, hb7⟩
  rw [F2.out]
  have HB7 := Lib.hid (HB6.out.trans (hb7.mono HB6.out.size))
  have HK7 := Lib.hid (HK6.out.below hb7)
  have HV7 := Lib.hid (HV6.out.below hb7)
  have hE8 := (Below.refl w7.heap.size w7).alloc (Nat.le_refl _) (.cells #[.int .u8 1, .int .u8 3, .int .u8 0] 5)
  have HB8 := Lib.hid (HB7.out.trans (hE8.mono HB7.out.size))
  have HK8 := Lib.hid (HK7.out.below hE8)
  have HV8 := Lib.hid (HV7.out.below hE8)
  have hbs8 : Bs (w7.alloc (.cells #[.int .u8 1, .int .u8 3, .int .u8 0] 5)) (.slice (some ⟨w7.heap.size, 0, none⟩) 3 3) [1, 3, 0] := rd_new w7 ([1, 3, 0].map u8v) 5 3 1 rfl (by decide)
  have D3 := Lib.hid (decode_any _ 3 3 _ rfl _ hbs8 (by decide))
  clear hown7 hb7 hE8 hbs8
  go_wp2_with fail
  refine D3.out.mono ?_
  rintro e w9 ⟨v9, rfl, _, hb9⟩
  rw [dec3]
  have HB9 := Lib.hid (HB8.out.trans (hb9.mono HB8.out.size))
  have s1 := run_string_of (P := Try.prog) 24 9 5 Try.underlying24 Try.underlying5 Try.underlying9 (HK8.out.below hb9)
  have s2 := run_string_of (P := Try.prog) 24 9 5 Try.underlying24 Try.underlying5 Try.underlying9 (HV8.out.below hb9)
  unfold bytes12 at s2
  clear hb9
  go_wp2
  go_ret
  exact ⟨rfl, HB9.out⟩
end Go.Proofs.Ytlpafphlecajhaa
