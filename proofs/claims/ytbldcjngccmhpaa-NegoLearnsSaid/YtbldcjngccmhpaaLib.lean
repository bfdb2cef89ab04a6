/-
  Plain words over the kit, for all walks of this seat: a slice that reads a list of cells ('Rd'), a slice of the call's own ('Own'), bytes as cells ('u8v').
-/
import Derived.WalkKit
import Derived.WalkLawsBesides
import Derived.WalkSpells
import Derived.Lib.Hide
import Derived.Laws.AppendOwnNone
import Derived.Laws.IdiomStrings
import Derived.Laws.Concat
import Derived.Laws.StructEq
import Derived.Laws.ResultCell
import Derived.Lib.SlBytesConst
import Derived.Deep.MidRow
import Derived.Deep.WholeRow
import Derived.Laws.CopyOwn
namespace Go.Proofs.Ytbldcjngccmhpaa
open Go.RowKit
set_option linter.unusedVariables false
set_option linter.unusedSimpArgs false

/-- A byte as a cell. -/
def u8v (b : UInt8) : Value := .int .u8 (b.toNat : Int)

theorem u8v_ofNat (n : Nat) : u8v (UInt8.ofNat n) = .int .u8 ((n % 256 : Nat) : Int) := by
  simp [u8v, UInt8.toNat_ofNat']

/-- v is a slice of n elements, each of 'size' cells, that reads the cells xs in w; whoever made it. -/
def Rd (w : World) (size : Nat) (v : Value) (n : Nat) (xs : List Value) : Prop :=
  xs.length = n * size ∧ ∃ ao cap, v = .slice ao n cap ∧ n ≤ cap ∧ cap ≤ maxLen ∧ (ao = none → cap = 0) ∧
    ∀ ad, ao = some ad → ∀ j u, xs[j]? = some u → w.cell? (ad.add j) = some u

/-- v is a slice of bytes that reads l. -/
def Bs (w : World) (v : Value) (l : List UInt8) : Prop := Rd w 1 v l.length (l.map u8v)

theorem add_block (ad : Addr) (j : Nat) : (ad.add j).block = ad.block := by
  unfold Addr.add; split <;> rfl

theorem Rd.below {w w' : World} {size n : Nat} {v : Value} {xs : List Value} (h : Rd w size v n xs) (hb : Below w.heap.size w w') : Rd w' size v n xs := by
  obtain ⟨h0, ao, cap, rfl, h1, h2, h3, h4⟩ := h
  refine ⟨h0, ao, cap, rfl, h1, h2, h3, fun ad had j u hu => ?_⟩
  have := h4 ad had j u hu
  rw [hb.cell (World.block_lt_of_cell? w _ this)]
  exact this

theorem Bs.below {w w' : World} {v : Value} {l : List UInt8} (h : Bs w v l) (hb : Below w.heap.size w w') : Bs w' v l := Rd.below h hb

/-- The shape of a slice. -/
theorem Rd.shape {w : World} {size n : Nat} {v : Value} {xs : List Value} (h : Rd w size v n xs) : ∃ ao cap, v = .slice ao n cap ∧ n ≤ cap ∧ cap ≤ maxLen := by
  obtain ⟨h0, ao, cap, rfl, h1, h2, h3, h4⟩ := h
  exact ⟨ao, cap, rfl, h1, h2⟩

theorem Bs.shape {w : World} {v : Value} {l : List UInt8} (h : Bs w v l) : ∃ ao cap, v = .slice ao l.length cap ∧ l.length ≤ cap ∧ cap ≤ maxLen := Rd.shape h

theorem Rd.nil (w : World) (size : Nat) : Rd w size (.slice none 0 0) 0 [] := ⟨by simp, none, 0, rfl, Nat.le_refl _, Nat.zero_le _, fun _ => rfl, fun _ h => by cases h⟩
theorem Bs.nil (w : World) : Bs w (.slice none 0 0) [] := Rd.nil w 1

/-- A slice that is not empty begins at an address. -/
theorem Rd.cells {w : World} {size n cap : Nat} {ao : Option Addr} {xs : List Value} (h : Rd w size (.slice ao n cap) n xs) (hn : 0 < n) (hs : 0 < size) :
    ∃ b o, ao = some ⟨b, o, none⟩ ∧ b < w.heap.size ∧ ∀ j u, xs[j]? = some u → w.cell? ⟨b, o + j, none⟩ = some u := by
  obtain ⟨h0, ao', cap', h, h1, h2, h3, h4⟩ := h
  simp only [Value.slice.injEq] at h
  obtain ⟨rfl, _, rfl⟩ := h
  cases ao with
  | none => have := h3 rfl; omega
  | some ad =>
    have hx : 0 < xs.length := by rw [h0]; exact Nat.mul_pos hn hs
    have hc := h4 ad rfl 0 _ (List.getElem?_eq_getElem hx)
    obtain ⟨b, o, spot⟩ := ad
    have hspot : spot = none := by simpa [Addr.add] using World.cell?_spot hc
    subst hspot
    refine ⟨b, o, rfl, ?_, fun j u hu => ?_⟩
    · have := World.block_lt_of_cell? w _ hc
      rwa [add_block] at this
    · have := h4 _ rfl j u hu
      rwa [Addr.add_lit] at this

theorem Bs.cells {w : World} {n cap : Nat} {ao : Option Addr} {l : List UInt8} (h : Bs w (.slice ao n cap) l) (hn : 0 < l.length) :
    ∃ b o, ao = some ⟨b, o, none⟩ ∧ b < w.heap.size ∧ ∀ j (hj : j < l.length), w.cell? ⟨b, o + j, none⟩ = some (.int .u8 (l[j].toNat : Int)) := by
  obtain ⟨_, _, e, _⟩ := h.shape
  simp only [Value.slice.injEq] at e
  obtain ⟨_, rfl, _⟩ := e
  obtain ⟨b, o, h1, h2, h3⟩ := Rd.cells h hn (by omega)
  exact ⟨b, o, h1, h2, fun j hj => h3 j _ (by simp [hj, u8v])⟩

/-- What the call owns can be read. -/
theorem own_rd {w : World} {base : Nat} {e : TypeId} {v : Value} {size n : Nat} {xs : List Value} (h : w.ownsRow base e size v n xs) : Rd w size v n xs := by
  obtain ⟨hl, h2⟩ := h
  refine ⟨hl, ?_⟩
  rcases h2 with ⟨rfl, rfl⟩ | ⟨g, cap, cur, rfl, hb, hg, hn, hm, hs, ht⟩
  · exact (Rd.nil w size).2 |> fun ⟨ao, cap, a, b, c, d, _⟩ => ⟨none, 0, rfl, Nat.le_refl _, Nat.zero_le _, fun _ => rfl, fun _ h => by cases h⟩
  · refine ⟨_, cap, rfl, hn, hm, (fun h => by cases h), fun ad had j u hu => ?_⟩
    obtain rfl := Option.some.inj had
    rw [Addr.add_lit, Nat.zero_add, cell_of_row w g j cur e (0, 0) hg]
    rw [← ht] at hu
    rw [List.getElem?_take] at hu
    split at hu
    · simpa using hu
    · cases hu

/-- A slice of bytes of the call's own (element type e, blocks from base on). -/
def OwnB (w : World) (base : Nat) (e : TypeId) (v : Value) (l : List UInt8) : Prop := w.ownsRow base e 1 v l.length (l.map u8v)

theorem OwnB.bs {w : World} {base : Nat} {e : TypeId} {v : Value} {l : List UInt8} (h : OwnB w base e v l) : Bs w v l := own_rd h

theorem OwnB.nil (w : World) (base : Nat) (e : TypeId) : OwnB w base e (.slice none 0 0) [] := World.ownsRow_nil w base e 1

theorem ownsRow_mono {w : World} {base base' : Nat} {e : TypeId} {size n : Nat} {v : Value} {xs : List Value} (h : w.ownsRow base e size v n xs) (hb : base' ≤ base) : w.ownsRow base' e size v n xs := by
  refine ⟨h.1, ?_⟩
  rcases h.2 with h | ⟨g, cap, cur, h1, h2, h3⟩
  · exact .inl h
  · exact .inr ⟨g, cap, cur, h1, Nat.le_trans hb h2, h3⟩

theorem OwnB.mono {w : World} {base base' : Nat} {e : TypeId} {v : Value} {l : List UInt8} (h : OwnB w base e v l) (hb : base' ≤ base) : OwnB w base' e v l := ownsRow_mono h hb

/-- What is owned stays owned where nothing that was there has turned. -/
theorem ownsRow_below {w w' : World} {base : Nat} {e : TypeId} {size n : Nat} {v : Value} {xs : List Value} (h : w.ownsRow base e size v n xs) (hb : Below w.heap.size w w') : w'.ownsRow base e size v n xs := by
  refine ⟨h.1, ?_⟩
  rcases h.2 with h | ⟨g, cap, cur, h1, h2, h3, h4⟩
  · exact .inl h
  · refine .inr ⟨g, cap, cur, h1, h2, ?_, h4⟩
    rw [hb.block g (Array.getElem?_eq_some_iff.1 h3).1]
    exact h3

theorem OwnB.below {w w' : World} {base : Nat} {e : TypeId} {v : Value} {l : List UInt8} (h : OwnB w base e v l) (hb : Below w.heap.size w w') : OwnB w' base e v l := ownsRow_below h hb

section
variable {P : Program}

/-- 'string(b)'. -/
theorem run_string_of {w : World} {v : Value} {l : List UInt8} (src dst e : TypeId) (hs : P.underlying src = some (.slice e)) (he : P.underlying e = some (.int .u8)) (hd : P.underlying dst = some .string)
    (h : Bs w v l) : (convert src dst v).run P w = .ok (.string ⟨l.toArray⟩) w := by
  obtain ⟨h0, ao, cap, rfl, h1, h2, h3, h4⟩ := h
  cases ao with
  | none =>
    have := h3 rfl
    subst this
    have hl : l = [] := List.eq_nil_of_length_eq_zero (by simpa using h1)
    subst hl
    rw [run_convert_bytes_string w src dst e none _ _ hs he hd]
    simp [Conv.bytesToString]
    rfl
  | some ad =>
    refine run_convert_bytes_back w src dst e ad cap l hs he hd fun j hj => ?_
    exact h4 ad rfl j _ (by simp [hj, u8v])

/-- 'append(s, x...)': s the call's own, x whatever. -/
theorem wpList_append_rd (w : World) {ops : Array Oper} {rest : List Oper} {o : Oper} {a : Act} {Q : Exit → Act → World → Prop} (hgd : o.guard = none) (s x : Operand) (t : TypeId)
    (ho : o.op = .call { callee := .builtin .append, args := #[s, x], argTypes := #[t, t] })
    (base : Nat) (e : TypeId) (i : TypeInfo) (z : Value) (size bytes : Nat) (ht : P.underlying t = some (.slice e)) (hi : P.info? e = some i) (hz : i.zero = some z)
    (hsize : i.size = size) (hby : i.bytes = bytes) (hzs : z.cells.size = size) (hsz : 0 < size)
    (v : Value) (n : Nat) (xs : List Value) (hs : a.eval s = v) (hown : w.ownsRow base e size v n xs)
    (y : Value) (m : Nat) (ys : List Value) (hx : a.eval x = y) (hy : Rd w size y m ys) (h1 : ∀ u ∈ ys, u.oneCell' = true)
    (hbytes : (n + m) * bytes ≤ 140737488355328) (hb1 : 0 < bytes) (hbase : base ≤ w.heap.size)
    (h : ∀ v' w', w'.ownsRow base e size v' (n + m) (xs ++ ys) → Below base w w' → wpList P ops Q rest (a.put o.dst v') w') : wpList P ops Q (o :: rest) a w := by
  have h63 : n + m ≤ maxLen := by
    have : n + m ≤ (n + m) * bytes := Nat.le_mul_of_pos_right _ hb1
    unfold maxLen; omega
  obtain ⟨h0, ao, cap, rfl, g1, g2, g3, g4⟩ := hy
  cases ao with
  | none =>
    have := g3 rfl
    subst this
    have hm : m = 0 := by omega
    subst hm
    have hl : ys = [] := List.eq_nil_of_length_eq_zero (by simpa using h0)
    subst hl
    refine wpList_append_own_none hgd s x t ho base e i size ht hi v n xs hs hown hx ?_
    refine h v w ?_ (Below.refl _ _)
    simpa using hown
  | some ad =>
    refine wpList_append_own w hgd s x t ho base e i z size bytes ht hi hz hsize hby hzs hsz v n xs hs hown ad m cap ys hx h0 (g4 ad rfl) h1 h63 hbytes hbase fun v' w' k1 k2 k3 => ?_
    exact h v' w' k1 ((Below.refl _ _).grown k2 hbase fun k hk => (hown.lt k hk).1)
end

theorem oneCell_u8 (l : List UInt8) : ∀ u ∈ l.map u8v, u.oneCell' = true := by
  intro u hu
  obtain ⟨_, _, rfl⟩ := List.mem_map.1 hu
  rfl

section
variable {P : Program}
theorem elem_of {t e : TypeId} (ht : P.underlying t = some (.slice e)) : P.elem t = e := by simp [Program.elem, ht]
theorem run_sizeOf {e : TypeId} {i : TypeInfo} {size : Nat} (hi : P.info? e = some i) (hs : i.size = size) (w : World) : (sizeOf e).run P w = .ok size w := by
  simp [sizeOf, typeInfo, hi, hs]

theorem addr_add_add (a : Addr) (m n : Nat) : (a.add m).add n = a.add (m + n) := by
  unfold Addr.add
  by_cases hm : m = 0
  · subst hm; simp
  · by_cases hn : n = 0
    · subst hn; simp
    · rw [if_neg hm, if_neg hn, if_neg (by omega)]; simp [Nat.add_assoc]

theorem Rd.cut {w : World} {size n n' c k : Nat} {ao : Option Addr} {xs : List Value} (h : Rd w size (.slice ao n c) n xs) (hk : k + n' ≤ n) :
    Rd w size (.slice (if c = k then ao else ao.map (·.add (k * size))) n' (c - k)) n' ((xs.drop (k * size)).take (n' * size)) := by
  obtain ⟨h0, ao', cap', e, h1, h2, h3, h4⟩ := h
  simp only [Value.slice.injEq] at e
  obtain ⟨rfl, _, rfl⟩ := e
  refine ⟨?_, _, _, rfl, by omega, by omega, ?_, ?_⟩
  · rw [List.length_take, List.length_drop, h0, ← Nat.sub_mul, Nat.min_eq_left]
    exact Nat.mul_le_mul_right _ (by omega)
  · intro hn
    split at hn
    · omega
    · cases ao with
      | none => have := h3 rfl; omega
      | some ad => cases hn
  · intro ad had j u hu
    split at had
    · rename_i hck
      have hj := (List.getElem?_eq_some_iff.1 hu).1
      rw [List.length_take, List.length_drop, h0] at hj
      have : n - k = 0 := by omega
      have : n' = 0 := by omega
      subst this
      simp at hj
    · cases ao with
      | none => cases had
      | some ad' =>
        simp only [Option.map_some, Option.some.injEq] at had
        subst had
        have hj := (List.getElem?_eq_some_iff.1 hu).1
        rw [List.getElem?_take] at hu
        split at hu
        · rw [List.getElem?_drop] at hu
          rw [addr_add_add]
          exact h4 ad' rfl (k * size + j) u hu
        · cases hu

/-- 's[k:]'. -/
theorem slice_from {t e : TypeId} {i : TypeInfo} {size : Nat} (ht : P.underlying t = some (.slice e)) (hi : P.info? e = some i) (hs : i.size = size) {w : World} {n c : Nat} {ao : Option Addr} {xs : List Value}
    (h : Rd w size (.slice ao n c) n xs) (kk : IntKind) (K : Int) (k : Nat) (hK : K = (k : Int)) (hk : k ≤ n) :
    ∃ ao', (∀ w', (Instr.slice t (.slice ao n c) (some (.int kk K)) none none).run P w' = .ok (.slice ao' (n - k) (c - k)) w') ∧ Rd w size (.slice ao' (n - k) (c - k)) (n - k) (xs.drop (k * size)) := by
  subst hK
  refine ⟨if c = k then ao else ao.map (·.add (k * size)), fun w' => ?_, ?_⟩
  · rw [run_slice_l w' t ao n c (by rw [elem_of ht]; exact ht) kk k (by omega) (by omega), elem_of ht, run_sizeOf hi hs]
    simp only [Result.andThen, sliced, Int.toNat_natCast]
  · have := Rd.cut (n' := n - k) (k := k) h (by omega)
    rwa [List.take_of_length_le] at this
    rw [List.length_drop, h.1, Nat.sub_mul]
    exact Nat.le_refl _

/-- 's[k:m]'. -/
theorem slice_range {t e : TypeId} {i : TypeInfo} {size : Nat} (ht : P.underlying t = some (.slice e)) (hi : P.info? e = some i) (hs : i.size = size) {w : World} {n c : Nat} {ao : Option Addr} {xs : List Value}
    (h : Rd w size (.slice ao n c) n xs) (kk km : IntKind) (K M : Int) (k m : Nat) (hK : K = (k : Int)) (hM : M = (m : Int)) (hk : k ≤ m) (hm : m ≤ n) :
    ∃ ao', (∀ w', (Instr.slice t (.slice ao n c) (some (.int kk K)) (some (.int km M)) none).run P w' = .ok (.slice ao' (m - k) (c - k)) w') ∧ Rd w size (.slice ao' (m - k) (c - k)) (m - k) ((xs.drop (k * size)).take ((m - k) * size)) := by
  subst hK hM
  have hnc : n ≤ c := by
    obtain ⟨_, _, _, e, h1, _⟩ := h
    simp only [Value.slice.injEq] at e
    obtain ⟨_, _, rfl⟩ := e
    exact h1
  refine ⟨if c = k then ao else ao.map (·.add (k * size)), fun w' => ?_, ?_⟩
  · rw [run_slice_lh w' t ao n c (by rw [elem_of ht]; exact ht) kk km k m (by omega) (by omega) (by omega), elem_of ht, run_sizeOf hi hs]
    simp only [Result.andThen, sliced, Int.toNat_natCast]
  · exact Rd.cut (n' := m - k) (k := k) h (by omega)

/-- 's[:m]'. -/
theorem slice_upto {t e : TypeId} {i : TypeInfo} {size : Nat} (ht : P.underlying t = some (.slice e)) (hi : P.info? e = some i) (hs : i.size = size) {w : World} {n c : Nat} {ao : Option Addr} {xs : List Value}
    (h : Rd w size (.slice ao n c) n xs) (km : IntKind) (M : Int) (m : Nat) (hM : M = (m : Int)) (hm : m ≤ n) :
    ∃ ao', (∀ w', (Instr.slice t (.slice ao n c) none (some (.int km M)) none).run P w' = .ok (.slice ao' m c) w') ∧ Rd w size (.slice ao' m c) m (xs.take (m * size)) := by
  subst hM
  have hnc : n ≤ c := by
    obtain ⟨_, _, _, e, h1, _⟩ := h
    simp only [Value.slice.injEq] at e
    obtain ⟨_, _, rfl⟩ := e
    exact h1
  refine ⟨if c = 0 then ao else ao.map (·.add (0 * size)), fun w' => ?_, ?_⟩
  · rw [run_slice_h w' t ao n c (by rw [elem_of ht]; exact ht) km m (by omega) (by omega), elem_of ht, run_sizeOf hi hs]
    simp only [Result.andThen, sliced, Int.toNat_natCast, Nat.sub_zero]
  · have := Rd.cut (n' := m) (k := 0) h (by omega)
    simpa using this
end

theorem Bs.of_rd {w : World} {n : Nat} {v : Value} {xs : List Value} {l : List UInt8} (h : Rd w 1 v n xs) (hx : xs = l.map u8v) : Bs w v l := by
  subst hx
  have : l.length = n := by have := h.1; simpa using this
  unfold Bs
  rw [this]
  exact h

/-- The cells of a new block. -/
theorem cells_new (w : World) (l : List Value) (e : TypeId) : ∀ j u, l[j]? = some u → (w.alloc (.cells l.toArray e)).cell? ((⟨w.heap.size, 0, none⟩ : Addr).add j) = some u := by
  intro j u hu
  rw [Addr.add_lit, Nat.zero_add, World.cell?_alloc_new]
  simpa using hu
theorem rd_new (w : World) (l : List Value) (e : TypeId) (n size : Nat) (hn : l.length = n * size) (hm : n ≤ maxLen) : Rd (w.alloc (.cells l.toArray e)) size (.slice (some ⟨w.heap.size, 0, none⟩) n n) n l :=
  ⟨hn, _, n, rfl, Nat.le_refl _, hm, (fun h => by cases h), fun ad had => by obtain rfl := Option.some.inj had; exact cells_new w l e⟩

theorem run_add_lists {P : Program} (l m : List UInt8) (h : l.length + m.length ≤ 4611686018427387904) (w : World) :
    (Op.stringOp .add ⟨l.toArray⟩ ⟨m.toArray⟩).run P w = .ok (.string ⟨(l ++ m).toArray⟩) w := by
  rw [run_string_add_sum w _ _ (by show l.toArray.size + m.toArray.size ≤ _; simp; omega)]
  congr 2
theorem cell_gr {w w' : World} {p : Addr} {v : Value} (hw : Below w.heap.size w w') (h : w.cell? p = some v) : w'.cell? p = some v := by
  rw [hw.cell (World.block_lt_of_cell? w _ h)]
  exact h
section
variable {P : Program}
theorem run_part_int {e : TypeId} {k : IntKind} (he : P.underlying e = some (.int k)) (xs : List Int) (i : Nat) (hi : i < xs.length) (w : World) :
    (part e (xs.map (Value.int k)).toArray i).run P w = .ok (.int k (xs.getD i 0)) w := by
  have h : ((xs.map (Value.int k)).toArray)[i]? = some (.int k (xs.getD i 0)) := by simp [hi]
  simp only [part, isAgg, Sem.run_bind, run_underlying he, Result.andThen_ok, Sem.run_pure, h]
  simp

theorem run_eql_loop (X Y : Nat → Int) (f : Nat → Option Bool × Unit → Sem (ForInStep (Option Bool × Unit))) (w : World) :
    ∀ (is : List Nat) (s : Option Bool × Unit), s = (none, ()) → (∀ i ∈ is, ∀ s, (f i s).run P w = .ok (if X i = Y i then .yield (none, ()) else .done (some false, ())) w) →
    (forIn is s f).run P w = .ok (if ∀ i ∈ is, X i = Y i then (none, ()) else (some false, ())) w
  | [], s, hs, _ => by subst hs; simp [Sem.run_pure]
  | i :: is, s, hs, hf => by
    subst hs
    rw [List.forIn_cons, Sem.run_bind, hf i (by simp)]
    by_cases h : X i = Y i
    · rw [if_pos h]
      simp only [Result.andThen_ok]
      rw [run_eql_loop X Y f w is _ rfl (fun j hj => hf j (by simp [hj]))]
      simp [h]
    · rw [if_neg h]
      simp [Sem.run_pure, h]

/-- '==' between two arrays of integers. -/
theorem run_equalIn_array {t e : TypeId} {k : IntKind} {n : Nat} {i : TypeInfo} (ht : P.underlying t = some (.array n e)) (he : P.underlying e = some (.int k)) (hi : P.info? e = some i) (hs : i.size = 1)
    (xs ys : List Int) (hx : xs.length = n) (hy : ys.length = n) (d : Nat) (w : World) :
    (Op.equalIn (d + 2) t (.agg (xs.map (Value.int k)).toArray) (.agg (ys.map (Value.int k)).toArray)).run P w = .ok (decide (xs = ys)) w := by
  rw [Op.equalIn]
  simp only [Sem.run_bind, run_underlying ht, Result.andThen_ok, run_sizeOf hi hs]
  simp only [Std.Legacy.Range.forIn_eq_forIn_range', Std.Legacy.Range.size, Nat.sub_zero, Nat.add_sub_cancel, Nat.div_one, Sem.run_bind]
  rw [run_eql_loop (P := P) (fun i => xs.getD i 0) (fun i => ys.getD i 0) _ w (List.range' 0 n) _ rfl]
  · have e1 : (∀ i ∈ List.range' 0 n, xs.getD i 0 = ys.getD i 0) ↔ xs = ys := by
      constructor
      · intro h
        apply List.ext_getElem (by omega)
        intro j h1 h2
        have := h j (by simp; omega)
        simpa [h1, h2] using this
      · rintro rfl; intros; rfl
    by_cases h : xs = ys
    · rw [if_pos (e1.2 h)]; simp [h, Sem.run_pure]
    · rw [if_neg (fun h' => h (e1.1 h'))]; simp [h, Sem.run_pure]
  · intro j hj s
    have hj' : j < n := by simpa using hj
    rw [Sem.run_bind, Nat.mul_one, run_part_int he xs j (by omega), Result.andThen_ok, Sem.run_bind, run_part_int he ys j (by omega), Result.andThen_ok, Sem.run_bind, run_equalIn_int w d e k k _ _ he, Result.andThen_ok]
    simp [Sem.run_pure]
    split <;> rfl
theorem run_eql_array {t e : TypeId} {k : IntKind} {n : Nat} {i : TypeInfo} (ht : P.underlying t = some (.array n e)) (he : P.underlying e = some (.int k)) (hi : P.info? e = some i) (hs : i.size = 1)
    (xs ys : List Int) (hx : xs.length = n) (hy : ys.length = n) (w : World) :
    (binOp .eql t (.agg (xs.map (Value.int k)).toArray) (.agg (ys.map (Value.int k)).toArray)).run P w = .ok (.bool (decide (xs = ys))) w := by
  rw [run_eql_struct, run_equalIn_array ht he hi hs xs ys hx hy 9998]
  rfl
theorem run_neq_array {t e : TypeId} {k : IntKind} {n : Nat} {i : TypeInfo} (ht : P.underlying t = some (.array n e)) (he : P.underlying e = some (.int k)) (hi : P.info? e = some i) (hs : i.size = 1)
    (xs ys : List Int) (hx : xs.length = n) (hy : ys.length = n) (w : World) :
    (binOp .neq t (.agg (xs.map (Value.int k)).toArray) (.agg (ys.map (Value.int k)).toArray)).run P w = .ok (.bool (!decide (xs = ys))) w := by
  rw [run_neq_struct, run_equalIn_array ht he hi hs xs ys hx hy 9998]
  rfl
end

theorem cells6 {w : World} {g : Nat} {a b c d e f : Value} {t : TypeId} {fr : Nat × Nat} (h : w.heap[g]? = some (.cells #[a, b, c, d, e, f] t fr)) :
    w.cell? ⟨g, 0, none⟩ = some a ∧ w.cell? ⟨g, 1, none⟩ = some b ∧ w.cell? ⟨g, 2, none⟩ = some c ∧ w.cell? ⟨g, 3, none⟩ = some d ∧ w.cell? ⟨g, 4, none⟩ = some e ∧ w.cell? ⟨g, 5, none⟩ = some f := by
  refine ⟨?_, ?_, ?_, ?_, ?_, ?_⟩ <;> (rw [cell_of_row w g _ _ _ _ h]; rfl)

/-- A result that lies in a variable of the function's own, and one beside it. -/
theorem results_cell_tmp_row {P : Program} {fn : Func} {p u : Tmp} {ty : TypeId} (h : fn.results = #[.cell p ty, .tmp u]) (tmps : Array Value) (w : World) (g : Nat) (t : TypeId) (cs : Array Value) (fr : Nat × Nat) (d : TypeDesc)
    (hp : tmps.getD p undef = .pointer (some ⟨g, 0, none⟩)) (hg : w.heap[g]? = some (.cells cs t fr))
    (hu : P.underlying ty = some d) (hd : (match d with | .struct _ | .array _ _ => true | _ => false) = true) (hi : (P.info? ty).map (·.size) = some cs.size) :
    (results fn tmps).run P w = .ok (.tuple #[.agg cs, tmps.getD u undef]) w := by
  rw [results_cell_tmp h, hp]
  simp [asAddr, run_loadVar_row w g t ty cs fr d hg hu hd hi, Result.andThen]
theorem range_of_row {w : World} {g : Nat} {cs : List Value} {t : TypeId} {fr : Nat × Nat} (h : w.heap[g]? = some (.cells cs.toArray t fr)) : w.rangeAt g 0 cs := fun j v hj => by
  rw [cell_of_row w g _ _ t fr h]; simpa using hj
theorem there_of_row {w : World} {g n : Nat} {cs : Array Value} {t : TypeId} (h : w.heap[g]? = some (.cells cs t (0, 0))) (hn : cs.size = n) : w.there g 0 n := fun j hj => by
  subst hn
  rw [Nat.zero_add, cell_of_row w g _ _ t (0, 0) h, frozen_of_row w g _ _ t h]
  exact ⟨by simp [hj], rfl⟩
theorem heap_below {w w' : World} {g : Nat} {o : Obj} (h : w.heap[g]? = some o) (hb : Below w.heap.size w w') : w'.heap[g]? = some o := by
  rw [hb.block g (Array.getElem?_eq_some_iff.1 h).1]; exact h
/-- A whole array or struct into a block of its own. -/
theorem wpList_store_row {P : Program} {ops : Array Oper} {rest : List Oper} {op : Oper} {a : Act} {w : World} {Q : Exit → Act → World → Prop} (hgd : op.guard = none) (ty : TypeId) (x y : Operand) (ho : op.op = .store ty x y)
    (g : Nat) (cells : Array Value) (hx : a.eval x = .pointer (some ⟨g, 0, none⟩)) (hy : a.eval y = .agg cells) (t : TypeId) (old : Array Value) (hg : w.heap[g]? = some (.cells old t (0, 0)))
    (hi : (P.info? ty).map (·.size) = some cells.size) (hn : old.size = cells.size) (h1 : cells.all (·.oneCell') = true)
    (h : ∀ w', w'.heap[g]? = some (.cells cells t (0, 0)) → (∀ B w0, B ≤ g → Below B w0 w → Below B w0 w') → (∀ k, k ≠ g → w'.heap[k]? = w.heap[k]?) → wpList P ops Q rest (a.put op.dst undef) w') : wpList P ops Q (op :: rest) a w := by
  refine wpList_plain hgd fun _ hK => ?_
  have hr := run_storeVar_row (P := P) w g t ty old cells hg hi hn h1
  unfold Oper.wp execOp
  simp only [ho, hx, hy, Instr.storeAt, Instr.sureAddr, Sem.run_bind, Sem.run_pure, Result.andThen_ok, hr]
  exact hK _ _ (h _ (setRow_heap w g _ _ t _ hg) (fun B w0 hB hb => below_setRow hb hB _) (fun k hk => setRow_other w g k _ hk))
/-- A result that lies in a variable of the function's own. -/
theorem results_cell_row {P : Program} {fn : Func} {p : Tmp} {ty : TypeId} (h : fn.results = #[.cell p ty]) (tmps : Array Value) (w : World) (g : Nat) (t : TypeId) (cs : Array Value) (fr : Nat × Nat) (d : TypeDesc)
    (hp : tmps.getD p undef = .pointer (some ⟨g, 0, none⟩)) (hg : w.heap[g]? = some (.cells cs t fr))
    (hu : P.underlying ty = some d) (hd : (match d with | .struct _ | .array _ _ => true | _ => false) = true) (hi : (P.info? ty).map (·.size) = some cs.size) :
    (results fn tmps).run P w = .ok (.agg cs) w := by
  have hp' : tmps[p]?.getD undef = .pointer (some ⟨g, 0, none⟩) := by simpa using hp
  have hr := run_loadVar_row w g t ty cs fr d hg hu hd hi
  simp only [results, h]
  simp [Sem.run_bind, Result.andThen, hp', asAddr, hr]
theorem set6 {w : World} {g : Nat} {t : TypeId} {z0 z1 z2 z3 z4 z5 : Value} (h : w.heap[g]? = some (.cells #[z0, z1, z2, z3, z4, z5] t (0, 0))) (a b c d e f : Value) :
    ((((((w.setCell ⟨g, 0, none⟩ a).setCell ⟨g, 1, none⟩ b).setCell ⟨g, 2, none⟩ c).setCell ⟨g, 3, none⟩ d).setCell ⟨g, 4, none⟩ e).setCell ⟨g, 5, none⟩ f).heap[g]? = some (.cells #[a, b, c, d, e, f] t (0, 0)) :=
  heap_setCell_same _ g 5 _ t f (heap_setCell_same _ g 4 _ t e (heap_setCell_same _ g 3 _ t d (heap_setCell_same _ g 2 _ t c (heap_setCell_same _ g 1 _ t b (heap_setCell_same _ g 0 _ t a h)))))
theorem below_set6 {B : Nat} {w0 w : World} {g : Nat} (h : Below B w0 w) (hg : B ≤ g) (a b c d e f : Value) :
    Below B w0 ((((((w.setCell ⟨g, 0, none⟩ a).setCell ⟨g, 1, none⟩ b).setCell ⟨g, 2, none⟩ c).setCell ⟨g, 3, none⟩ d).setCell ⟨g, 4, none⟩ e).setCell ⟨g, 5, none⟩ f) :=
  (((((h.setCell hg a).setCell hg b).setCell hg c).setCell hg d).setCell hg e).setCell hg f

theorem set6d {w : World} {g : Nat} {t : TypeId} {z0 z1 z2 z3 z4 z5 : Value} (h : w.heap[g]? = some (.cells #[z0, z1, z2, z3, z4, z5] t (0, 0))) (a b c d e f : Value) :
    ((((((w.setCell ⟨g, 0, none⟩ a).setCell ⟨g, 1, none⟩ b).setCell ⟨g, 2, none⟩ c).setCell ⟨g, 3, none⟩ d).setCell ⟨g, 4, none⟩ e).setCell ⟨g, 5, none⟩ f).drew.heap[g]? = some (.cells #[a, b, c, d, e, f] t (0, 0)) := by
  rw [heap_drew]
  exact set6 h a b c d e f

/-- A new block that bears a mark. -/
theorem rd_newm (w : World) (l : List Value) (e : TypeId) (fr : Nat × Nat) (n size : Nat) (hn : l.length = n * size) (hm : n ≤ maxLen) : Rd (w.alloc (.cells l.toArray e fr)) size (.slice (some ⟨w.heap.size, 0, none⟩) n n) n l :=
  ⟨hn, _, n, rfl, Nat.le_refl _, hm, (fun h => by cases h), fun ad had => by
    obtain rfl := Option.some.inj had
    intro j u hu
    rw [Addr.add_lit, Nat.zero_add, World.cell?_alloc_mark]
    simpa using hu⟩
theorem bs_pos {w : World} {ao : Option Addr} {n c : Nat} {l : List UInt8} (h : Bs w (.slice ao n c) l) : 0 < (l.map u8v).length → ∃ ad, ao = some ad ∧ ∀ i v, (l.map u8v)[i]? = some v → w.cell? (ad.add i) = some v := by
  intro h0
  obtain ⟨hl, ao', cap, e, h1, h2, h3, h4⟩ := h
  simp only [Value.slice.injEq] at e
  obtain ⟨rfl, _, rfl⟩ := e
  cases ao with
  | none => have := h3 rfl; rw [List.length_map] at h0; omega
  | some ad => exact ⟨ad, rfl, h4 ad rfl⟩
def slen : Value → Nat | .slice _ n _ => n | _ => 0
end Go.Proofs.Ytbldcjngccmhpaa
