/- Lib Make Grow Only Plain Put OwnC Gen GrowH Take Rng RPut Far Open Flip Four -/
import Derived.WalkKit
import Derived.WalkLawsBesides
import Derived.WalkSpells
import Derived.Lib.Hide
import Derived.Laws.AppendOwnNone
import Derived.Laws.IdiomStrings
import Derived.Laws.Concat
import Derived.Laws.StructEq
import Derived.Laws.ResultCell
import Derived.Lib.SlBytesConst
import Derived.Deep.MidRow
import Derived.Deep.WholeRow
import Derived.Laws.CopyOwn
import Derived.OrdersHeld
import Derived.StillTail
import Derived.Laws.Rows
import Derived.Laws.BitsAllLaws
import Derived.Test.YtclplbapedmihaaGreatRows
import Derived.ProofKit
import Derived.BigQuiet
import Derived.Deep.QuietTactic
import Derived.ArgAppend
import Derived.RangeFuncFrom
import Derived.RangeFuncBox
import Derived.RangeFuncBound
import Derived.RangeFuncCalls
import Derived.RangeFuncLeaves
import Derived.OpenShut
namespace Go.Proofs.YtclplbapedmihaaGreat
set_option maxRecDepth 4000
open Go.RowKit
set_option linter.unusedVariables false
set_option linter.unusedSimpArgs false
theorem hd_ {p : Prop} (h : p) : Go.RowKit.Hid p := Lib.hid h
def u8v (b : UInt8) : Value := .int .u8 (b.toNat : Int)
theorem u8v_ofNat (n : Nat) : u8v (UInt8.ofNat n) = .int .u8 ((n % 256 : Nat) : Int) := by
 simp [u8v, UInt8.toNat_ofNat']
def Rd (w : World) (size : Nat) (v : Value) (n : Nat) (xs : List Value) : Prop :=
 xs.length = n * size /\ ∃ ao cap, v = .slice ao n cap /\ n <= cap /\ cap <= maxLen /\ (ao = none -> cap = 0) /\
  ∀ ad, ao = some ad -> ∀ j u, xs[j]? = some u -> w.cell? (ad.add j) = some u
def Bs (w : World) (v : Value) (l : List UInt8) : Prop := Rd w 1 v l.length (l.map u8v)
theorem add_block (ad : Addr) (j : Nat) : (ad.add j).block = ad.block := by
 unfold Addr.add; split <;> rfl
theorem Rd.below {w w' : World} {size n : Nat} {v : Value} {xs : List Value} (h : Rd w size v n xs) (hb : Below w.heap.size w w') : Rd w' size v n xs := by
 obtain ⟨h0, ao, cap, rfl, h1, h2, h3, h4⟩ := h;refine ⟨h0, ao, cap, rfl, h1, h2, h3, fun ad had j u hu => ?_⟩;have := h4 ad had j u hu;rw [hb.cell (World.block_lt_of_cell? w _ this)];exact this
theorem Bs.below {w w' : World} {v : Value} {l : List UInt8} (h : Bs w v l) (hb : Below w.heap.size w w') : Bs w' v l := Rd.below h hb
theorem Rd.shape {w : World} {size n : Nat} {v : Value} {xs : List Value} (h : Rd w size v n xs) : ∃ ao cap, v = .slice ao n cap /\ n <= cap /\ cap <= maxLen := by
 obtain ⟨h0, ao, cap, rfl, h1, h2, h3, h4⟩ := h;exact ⟨ao, cap, rfl, h1, h2⟩
theorem Bs.shape {w : World} {v : Value} {l : List UInt8} (h : Bs w v l) : ∃ ao cap, v = .slice ao l.length cap /\ l.length <= cap /\ cap <= maxLen := Rd.shape h
theorem Rd.nil (w : World) (size : Nat) : Rd w size (.slice none 0 0) 0 [] := ⟨by simp, none, 0, rfl, Nat.le_refl _, Nat.zero_le _, fun _ => rfl, fun _ h => by cases h⟩
theorem Bs.nil (w : World) : Bs w (.slice none 0 0) [] := Rd.nil w 1
theorem Rd.cells {w : World} {size n cap : Nat} {ao : Option Addr} {xs : List Value} (h : Rd w size (.slice ao n cap) n xs) (hn : 0 < n) (hs : 0 < size) :
 ∃ b o, ao = some ⟨b, o, none⟩ /\ b < w.heap.size /\ ∀ j u, xs[j]? = some u -> w.cell? ⟨b, o + j, none⟩ = some u := by
 obtain ⟨h0, ao', cap', h, h1, h2, h3, h4⟩ := h;simp only [Value.slice.injEq] at h;obtain ⟨rfl, _, rfl⟩ := h;cases ao with
 | none => have := h3 rfl; omega
 | some ad =>
  have hx : 0 < xs.length := by rw [h0]; exact Nat.mul_pos hn hs
  have hc := h4 ad rfl 0 _ (List.getElem?_eq_getElem hx);obtain ⟨b, o, spot⟩ := ad;have hspot : spot = none := by simpa [Addr.add] using World.cell?_spot hc
  subst hspot;refine ⟨b, o, rfl, ?_, fun j u hu => ?_⟩
  · have := World.block_lt_of_cell? w _ hc
    rwa [add_block] at this
  · have := h4 _ rfl j u hu
    rwa [Addr.add_lit] at this
theorem Bs.cells {w : World} {n cap : Nat} {ao : Option Addr} {l : List UInt8} (h : Bs w (.slice ao n cap) l) (hn : 0 < l.length) :
 ∃ b o, ao = some ⟨b, o, none⟩ /\ b < w.heap.size /\ ∀ j (hj : j < l.length), w.cell? ⟨b, o + j, none⟩ = some (.int .u8 (l[j].toNat : Int)) := by
 obtain ⟨_, _, e, _⟩ := h.shape;simp only [Value.slice.injEq] at e;obtain ⟨_, rfl, _⟩ := e;obtain ⟨b, o, h1, h2, h3⟩ := Rd.cells h hn (by omega);exact ⟨b, o, h1, h2, fun j hj => h3 j _ (by simp [hj, u8v])⟩
theorem or2 {w : World} {base : Nat} {e : TypeId} {v : Value} {size n : Nat} {xs : List Value} (h : w.ownsRow base e size v n xs) : Rd w size v n xs := by
 obtain ⟨hl, h2⟩ := h;refine ⟨hl, ?_⟩
 rcases h2 with ⟨rfl, rfl⟩ | ⟨g, cap, cur, rfl, hb, hg, hn, hm, hs, ht⟩
 · exact (Rd.nil w size).2 |> fun ⟨ao, cap, a, b, c, d, _⟩ => ⟨none, 0, rfl, Nat.le_refl _, Nat.zero_le _, fun _ => rfl, fun _ h => by cases h⟩
 · refine ⟨_, cap, rfl, hn, hm, (fun h => by cases h), fun ad had j u hu => ?_⟩;obtain rfl := Option.some.inj had;rw [Addr.add_lit, Nat.zero_add, cell_of_row w g j cur e (0, 0) hg];rw [<- ht] at hu;rw [List.getElem?_take] at hu;split at hu
   · simpa using hu
   · cases hu
def OwnB (w : World) (base : Nat) (e : TypeId) (v : Value) (l : List UInt8) : Prop := w.ownsRow base e 1 v l.length (l.map u8v)
theorem OwnB.bs {w : World} {base : Nat} {e : TypeId} {v : Value} {l : List UInt8} (h : OwnB w base e v l) : Bs w v l := or2 h
theorem OwnB.nil (w : World) (base : Nat) (e : TypeId) : OwnB w base e (.slice none 0 0) [] := World.ownsRow_nil w base e 1
theorem or1 {w : World} {base base' : Nat} {e : TypeId} {size n : Nat} {v : Value} {xs : List Value} (h : w.ownsRow base e size v n xs) (hb : base' <= base) : w.ownsRow base' e size v n xs := by
 refine ⟨h.1, ?_⟩
 rcases h.2 with h | ⟨g, cap, cur, h1, h2, h3⟩
 · exact .inl h
 · exact .inr ⟨g, cap, cur, h1, Nat.le_trans hb h2, h3⟩
theorem OwnB.mono {w : World} {base base' : Nat} {e : TypeId} {v : Value} {l : List UInt8} (h : OwnB w base e v l) (hb : base' <= base) : OwnB w base' e v l := or1 h hb
theorem or0 {w w' : World} {base : Nat} {e : TypeId} {size n : Nat} {v : Value} {xs : List Value} (h : w.ownsRow base e size v n xs) (hb : Below w.heap.size w w') : w'.ownsRow base e size v n xs := by
 refine ⟨h.1, ?_⟩
 rcases h.2 with h | ⟨g, cap, cur, h1, h2, h3, h4⟩
 · exact .inl h
 · refine .inr ⟨g, cap, cur, h1, h2, ?_, h4⟩;rw [hb.block g (Array.getElem?_eq_some_iff.1 h3).1];exact h3
theorem OwnB.below {w w' : World} {base : Nat} {e : TypeId} {v : Value} {l : List UInt8} (h : OwnB w base e v l) (hb : Below w.heap.size w w') : OwnB w' base e v l := or0 h hb
section
variable {P : Program}
theorem rs_ {w : World} {v : Value} {l : List UInt8} (src dst e : TypeId) (hs : P.underlying src = some (.slice e)) (he : P.underlying e = some (.int .u8)) (hd : P.underlying dst = some .string)
 (h : Bs w v l) : (convert src dst v).run P w = .ok (.string ⟨l.toArray⟩) w := by
 obtain ⟨h0, ao, cap, rfl, h1, h2, h3, h4⟩ := h;cases ao with
 | none =>
  have := h3 rfl;subst this;have hl : l = [] := List.eq_nil_of_length_eq_zero (by simpa using h1);subst hl;rw [run_convert_bytes_string w src dst e none _ _ hs he hd];simp [Conv.bytesToString];rfl
 | some ad =>
  refine run_convert_bytes_back w src dst e ad cap l hs he hd fun j hj => ?_
  exact h4 ad rfl j _ (by simp [hj, u8v])
theorem wpList_append_rd (w : World) {ops : Array Oper} {rest : List Oper} {o : Oper} {a : Act} {Q : Exit -> Act -> World -> Prop} (hgd : o.guard = none) (s x : Operand) (t : TypeId)
 (ho : o.op = .call { callee := .builtin .append, args := #[s, x], argTypes := #[t, t] })
 (base : Nat) (e : TypeId) (i : TypeInfo) (z : Value) (size bytes : Nat) (ht : P.underlying t = some (.slice e)) (hi : P.info? e = some i) (hz : i.zero = some z)
 (hsize : i.size = size) (hby : i.bytes = bytes) (hzs : z.cells.size = size) (hsz : 0 < size)
 (v : Value) (n : Nat) (xs : List Value) (hs : a.eval s = v) (hown : w.ownsRow base e size v n xs)
 (y : Value) (m : Nat) (ys : List Value) (hx : a.eval x = y) (hy : Rd w size y m ys) (h1 : ∀ u ∈ ys, u.oneCell' = true)
 (hbytes : (n + m) * bytes <= 140737488355328) (hb1 : 0 < bytes) (hbase : base <= w.heap.size)
 (h : ∀ v' w', w'.ownsRow base e size v' (n + m) (xs ++ ys) -> Below base w w' -> wpList P ops Q rest (a.put o.dst v') w') : wpList P ops Q (o :: rest) a w := by
 have h63 : n + m <= maxLen := by
  have : n + m <= (n + m) * bytes := Nat.le_mul_of_pos_right _ hb1;unfold maxLen; omega
 obtain ⟨h0, ao, cap, rfl, g1, g2, g3, g4⟩ := hy;cases ao with
 | none =>
  have := g3 rfl;subst this;have hm : m = 0 := by omega
  subst hm;have hl : ys = [] := List.eq_nil_of_length_eq_zero (by simpa using h0);subst hl;refine wpList_append_own_none hgd s x t ho base e i size ht hi v n xs hs hown hx ?_;refine h v w ?_ (Below.refl _ _);simpa using hown
 | some ad =>
  refine wpList_append_own w hgd s x t ho base e i z size bytes ht hi hz hsize hby hzs hsz v n xs hs hown ad m cap ys hx h0 (g4 ad rfl) h1 h63 hbytes hbase fun v' w' k1 k2 k3 => ?_
  exact h v' w' k1 ((Below.refl _ _).grown k2 hbase fun k hk => (hown.lt k hk).1)
end
theorem oc0 (l : List UInt8) : ∀ u ∈ l.map u8v, u.oneCell' = true := by
 intro u hu;obtain ⟨_, _, rfl⟩ := List.mem_map.1 hu;rfl
section
variable {P : Program}
theorem elem_of {t e : TypeId} (ht : P.underlying t = some (.slice e)) : P.elem t = e := by simp [Program.elem, ht]
theorem run_sizeOf {e : TypeId} {i : TypeInfo} {size : Nat} (hi : P.info? e = some i) (hs : i.size = size) (w : World) : (sizeOf e).run P w = .ok size w := by
 simp [sizeOf, typeInfo, hi, hs]
theorem addr_add_add (a : Addr) (m n : Nat) : (a.add m).add n = a.add (m + n) := by
 unfold Addr.add
 by_cases hm : m = 0
 · subst hm; simp
 · by_cases hn : n = 0
   · subst hn; simp
   · rw [if_neg hm, if_neg hn, if_neg (by omega)]; simp [Nat.add_assoc]
theorem Rd.cut {w : World} {size n n' c k : Nat} {ao : Option Addr} {xs : List Value} (h : Rd w size (.slice ao n c) n xs) (hk : k + n' <= n) :
 Rd w size (.slice (if c = k then ao else ao.map (·.add (k * size))) n' (c - k)) n' ((xs.drop (k * size)).take (n' * size)) := by
 obtain ⟨h0, ao', cap', e, h1, h2, h3, h4⟩ := h;simp only [Value.slice.injEq] at e;obtain ⟨rfl, _, rfl⟩ := e;refine ⟨?_, _, _, rfl, by omega, by omega, ?_, ?_⟩
 · rw [List.length_take, List.length_drop, h0, <- Nat.sub_mul, Nat.min_eq_left];exact Nat.mul_le_mul_right _ (by omega)
 · intro hn;split at hn
   · omega
   · cases ao with
     | none => have := h3 rfl; omega
     | some ad => cases hn
 · intro ad had j u hu;split at had
   · rename_i hck
     have hj := (List.getElem?_eq_some_iff.1 hu).1;rw [List.length_take, List.length_drop, h0] at hj;have : n - k = 0 := by omega
     have : n' = 0 := by omega
     subst this;simp at hj
   · cases ao with
     | none => cases had
     | some ad' =>
      simp only [Option.map_some, Option.some.injEq] at had;subst had;have hj := (List.getElem?_eq_some_iff.1 hu).1;rw [List.getElem?_take] at hu;split at hu
      · rw [List.getElem?_drop] at hu;rw [addr_add_add];exact h4 ad' rfl (k * size + j) u hu
      · cases hu
theorem slice_from {t e : TypeId} {i : TypeInfo} {size : Nat} (ht : P.underlying t = some (.slice e)) (hi : P.info? e = some i) (hs : i.size = size) {w : World} {n c : Nat} {ao : Option Addr} {xs : List Value}
 (h : Rd w size (.slice ao n c) n xs) (kk : IntKind) (K : Int) (k : Nat) (hK : K = (k : Int)) (hk : k <= n) :
 ∃ ao', (∀ w', (Instr.slice t (.slice ao n c) (some (.int kk K)) none none).run P w' = .ok (.slice ao' (n - k) (c - k)) w') /\ Rd w size (.slice ao' (n - k) (c - k)) (n - k) (xs.drop (k * size)) := by
 subst hK;refine ⟨if c = k then ao else ao.map (·.add (k * size)), fun w' => ?_, ?_⟩
 · rw [run_slice_l w' t ao n c (by rw [elem_of ht]; exact ht) kk k (by omega) (by omega), elem_of ht, run_sizeOf hi hs];simp only [Result.andThen, sliced, Int.toNat_natCast]
 · have := Rd.cut (n' := n - k) (k := k) h (by omega)
   rwa [List.take_of_length_le] at this
   rw [List.length_drop, h.1, Nat.sub_mul];exact Nat.le_refl _
theorem slice_range {t e : TypeId} {i : TypeInfo} {size : Nat} (ht : P.underlying t = some (.slice e)) (hi : P.info? e = some i) (hs : i.size = size) {w : World} {n c : Nat} {ao : Option Addr} {xs : List Value}
 (h : Rd w size (.slice ao n c) n xs) (kk km : IntKind) (K M : Int) (k m : Nat) (hK : K = (k : Int)) (hM : M = (m : Int)) (hk : k <= m) (hm : m <= n) :
 ∃ ao', (∀ w', (Instr.slice t (.slice ao n c) (some (.int kk K)) (some (.int km M)) none).run P w' = .ok (.slice ao' (m - k) (c - k)) w') /\ Rd w size (.slice ao' (m - k) (c - k)) (m - k) ((xs.drop (k * size)).take ((m - k) * size)) := by
 subst hK hM;have hnc : n <= c := by
  obtain ⟨_, _, _, e, h1, _⟩ := h;simp only [Value.slice.injEq] at e;obtain ⟨_, _, rfl⟩ := e;exact h1
 refine ⟨if c = k then ao else ao.map (·.add (k * size)), fun w' => ?_, ?_⟩
 · rw [run_slice_lh w' t ao n c (by rw [elem_of ht]; exact ht) kk km k m (by omega) (by omega) (by omega), elem_of ht, run_sizeOf hi hs];simp only [Result.andThen, sliced, Int.toNat_natCast]
 · exact Rd.cut (n' := m - k) (k := k) h (by omega)
theorem su_ {t e : TypeId} {i : TypeInfo} {size : Nat} (ht : P.underlying t = some (.slice e)) (hi : P.info? e = some i) (hs : i.size = size) {w : World} {n c : Nat} {ao : Option Addr} {xs : List Value}
 (h : Rd w size (.slice ao n c) n xs) (km : IntKind) (M : Int) (m : Nat) (hM : M = (m : Int)) (hm : m <= n) :
 ∃ ao', (∀ w', (Instr.slice t (.slice ao n c) none (some (.int km M)) none).run P w' = .ok (.slice ao' m c) w') /\ Rd w size (.slice ao' m c) m (xs.take (m * size)) := by
 subst hM;have hnc : n <= c := by
  obtain ⟨_, _, _, e, h1, _⟩ := h;simp only [Value.slice.injEq] at e;obtain ⟨_, _, rfl⟩ := e;exact h1
 refine ⟨if c = 0 then ao else ao.map (·.add (0 * size)), fun w' => ?_, ?_⟩
 · rw [run_slice_h w' t ao n c (by rw [elem_of ht]; exact ht) km m (by omega) (by omega), elem_of ht, run_sizeOf hi hs];simp only [Result.andThen, sliced, Int.toNat_natCast, Nat.sub_zero]
 · have := Rd.cut (n' := m) (k := 0) h (by omega);simpa using this
end
theorem Bs.of_rd {w : World} {n : Nat} {v : Value} {xs : List Value} {l : List UInt8} (h : Rd w 1 v n xs) (hx : xs = l.map u8v) : Bs w v l := by
 subst hx;have : l.length = n := by have := h.1; simpa using this
 unfold Bs;rw [this];exact h
theorem cells_new (w : World) (l : List Value) (e : TypeId) : ∀ j u, l[j]? = some u -> (w.alloc (.cells l.toArray e)).cell? ((⟨w.heap.size, 0, none⟩ : Addr).add j) = some u := by
 intro j u hu;rw [Addr.add_lit, Nat.zero_add, World.cell?_alloc_new];simpa using hu
theorem rn_ (w : World) (l : List Value) (e : TypeId) (n size : Nat) (hn : l.length = n * size) (hm : n <= maxLen) : Rd (w.alloc (.cells l.toArray e)) size (.slice (some ⟨w.heap.size, 0, none⟩) n n) n l :=
 ⟨hn, _, n, rfl, Nat.le_refl _, hm, (fun h => by cases h), fun ad had => by obtain rfl := Option.some.inj had; exact cells_new w l e⟩
theorem cg_ {w w' : World} {p : Addr} {v : Value} (hw : Below w.heap.size w w') (h : w.cell? p = some v) : w'.cell? p = some v := by
 rw [hw.cell (World.block_lt_of_cell? w _ h)];exact h
section
variable {P : Program}
end
theorem rc_ {P : Program} {fn : Func} {p u : Tmp} {ty : TypeId} (h : fn.results = #[.cell p ty, .tmp u]) (tmps : Array Value) (w : World) (g : Nat) (t : TypeId) (cs : Array Value) (fr : Nat × Nat) (d : TypeDesc)
 (hp : tmps.getD p undef = .pointer (some ⟨g, 0, none⟩)) (hg : w.heap[g]? = some (.cells cs t fr))
 (hu : P.underlying ty = some d) (hd : (match d with | .struct _ | .array _ _ => true | _ => false) = true) (hi : (P.info? ty).map (·.size) = some cs.size) :
 (results fn tmps).run P w = .ok (.tuple #[.agg cs, tmps.getD u undef]) w := by
 rw [results_cell_tmp h, hp];simp [asAddr, run_loadVar_row w g t ty cs fr d hg hu hd hi, Result.andThen]
theorem hb_ {w w' : World} {g : Nat} {o : Obj} (h : w.heap[g]? = some o) (hb : Below w.heap.size w w') : w'.heap[g]? = some o := by
 rw [hb.block g (Array.getElem?_eq_some_iff.1 h).1]; exact h
theorem wl2 {P : Program} {ops : Array Oper} {rest : List Oper} {op : Oper} {a : Act} {w : World} {Q : Exit -> Act -> World -> Prop} (hgd : op.guard = none) (ty : TypeId) (x y : Operand) (ho : op.op = .store ty x y)
 (g : Nat) (cells : Array Value) (hx : a.eval x = .pointer (some ⟨g, 0, none⟩)) (hy : a.eval y = .agg cells) (t : TypeId) (old : Array Value) (hg : w.heap[g]? = some (.cells old t (0, 0)))
 (hi : (P.info? ty).map (·.size) = some cells.size) (hn : old.size = cells.size) (h1 : cells.all (·.oneCell') = true)
 (h : ∀ w', w'.heap[g]? = some (.cells cells t (0, 0)) -> (∀ B w0, B <= g -> Below B w0 w -> Below B w0 w') -> (∀ k, k ≠ g -> w'.heap[k]? = w.heap[k]?) -> wpList P ops Q rest (a.put op.dst undef) w') : wpList P ops Q (op :: rest) a w := by
 refine wpList_plain hgd fun _ hK => ?_
 have hr := run_storeVar_row (P := P) w g t ty old cells hg hi hn h1;unfold Oper.wp execOp;simp only [ho, hx, hy, Instr.storeAt, Instr.sureAddr, Sem.run_bind, Sem.run_pure, Result.andThen_ok, hr];exact hK _ _ (h _ (setRow_heap w g _ _ t _ hg) (fun B w0 hB hb => below_setRow hb hB _) (fun k hk => setRow_other w g k _ hk))
theorem rc0 {P : Program} {fn : Func} {p : Tmp} {ty : TypeId} (h : fn.results = #[.cell p ty]) (tmps : Array Value) (w : World) (g : Nat) (t : TypeId) (cs : Array Value) (fr : Nat × Nat) (d : TypeDesc)
 (hp : tmps.getD p undef = .pointer (some ⟨g, 0, none⟩)) (hg : w.heap[g]? = some (.cells cs t fr))
 (hu : P.underlying ty = some d) (hd : (match d with | .struct _ | .array _ _ => true | _ => false) = true) (hi : (P.info? ty).map (·.size) = some cs.size) :
 (results fn tmps).run P w = .ok (.agg cs) w := by
 have hp' : tmps[p]?.getD undef = .pointer (some ⟨g, 0, none⟩) := by simpa using hp
 have hr := run_loadVar_row w g t ty cs fr d hg hu hd hi;simp only [results, h];simp [Sem.run_bind, Result.andThen, hp', asAddr, hr]
def slen : Value -> Nat | .slice _ n _ => n | _ => 0
theorem wpList_make_cap {P : Program} (w : World) {ops : Array Oper} {rest : List Oper} {o : Oper} {a : Act} {Q : Exit -> Act -> World -> Prop}
 (hg : o.guard = none) (l c : Operand) (t : TypeId) (hop : o.op = Op.makeSlice t l c)
 (base : Nat) (e : TypeId) (i : TypeInfo) (z : Value) (h1 : P.underlying t = some (.slice e)) (h2 : P.info? e = some i) (h3 : i.zero = some z) (h4 : i.size = 1) (h5 : z.cells = #[z])
 (kl kc : IntKind) (L C : Int) (n m : Nat) (hl : a.eval l = .int kl L) (hc : a.eval c = .int kc C) (hL : L = (n : Int)) (hC : C = (m : Int)) (hnm : n <= m) (b2 : i.bytes * m <= 281474976710656) (b3 : m <= maxLen) (b4 : base <= w.heap.size)
 (hK : ∀ w', w'.ownsRow base e 1 (.slice (some ⟨w.heap.size, 0, none⟩) n m) n (List.replicate n z) -> Below w.heap.size w w' -> wpList P ops Q rest (a.put o.dst (.slice (some ⟨w.heap.size, 0, none⟩) n m)) w') :
 wpList P ops Q (o :: rest) a w := by
 refine wpList_plain hg fun K hK' => ?_
 subst hL;subst hC;have hb3 : (m : Int) <= 9223372036854775807 := by unfold maxLen at b3; omega
 have hb2 : (i.bytes : Int) * (m : Int) <= 281474976710656 := by rw [<- Int.natCast_mul]; exact Int.ofNat_le.2 b2
 have hr := run_make (P := P) w t e i z h1 h2 h3 kl kc n m (by omega) (by omega) hb2 hb3;simp only [Int.toNat_natCast] at hr;unfold Oper.wp;simp [execOp, hop, hl, hc, hr, Result.andThen];refine hK' _ _ (hK _ ⟨by simp, .inr ⟨w.heap.size, m, _, rfl, b4, heap_alloc_last _ _, hnm, b3, by simp [size_madeCells, h4], ?_⟩⟩ ((Below.refl _ _).alloc (Nat.le_refl _) _));have hm : (madeCells z.cells (m * i.size)).toList = List.replicate m z := by
  have := toList_madeCells_one z m;rw [h4, h5];simpa using this
 rw [hm, List.take_replicate]
 congr 1
 omega
end Go.Proofs.YtclplbapedmihaaGreat
namespace Go.Proofs.YtclplbapedmihaaGreat
set_option maxRecDepth 4000
open Go.RowKit
set_option linter.unusedVariables false
def Gr (w w' : World) : Prop := Below w.heap.size w w'
theorem Gr.refl (w : World) : Gr w w := Below.refl _ _
theorem Gr.trans {a b c : World} (h : Gr a b) (k : Gr b c) : Gr a c := Below.trans h (Below.mono k h.size)
theorem Gr.drew (w : World) : Gr w w.drew := (Below.refl _ _).drew
theorem Gr.alloc {a w : World} (h : Gr a w) (o : Obj) : Gr a (w.alloc o) := Below.alloc h h.size o
structure Pre (G : World -> World -> Prop) : Prop where
 refl : ∀ w, G w w
 trans : ∀ {a b c}, G a b -> G b c -> G a c
theorem preGr : Pre Gr := ⟨Gr.refl, Gr.trans⟩
theorem pb_ (B : Nat) : Pre (Below B) := ⟨Below.refl B, Below.trans⟩
def Any (_ _ : World) : Prop := True
theorem preAny : Pre Any := ⟨fun _ => trivial, fun _ _ => trivial⟩
section
variable {P : Program} {ops : Array Oper} {Q : Exit -> Act -> World -> Prop} {md : Region.Mode} {G : World -> World -> Prop} {n : Nat}
def wpG (P : Program) (md : Region.Mode) (ops : Array Oper) (n : Nat) (G : World -> World -> Prop) (Q : Exit -> Act -> World -> Prop) : Nat -> Array Bool -> Act -> World -> Prop
 | 0, listed, a, w => Region.ready md ops listed = [] /\ Q .normal a w
 | fuel + 1, listed, a, w =>
  (Region.ready md ops listed = [] -> Q .normal a w) /\
  ∀ i ∈ Region.ready md ops listed, wpOp P ops Q i (fun a' w' => (i < n -> G w w') /\ wpG P md ops n G Q fuel (listed.setIfInBounds i true) a' w') a w
def waits (md : Region.Mode) (ops : Array Oper) : Nat -> Nat -> Nat -> Bool
 | 0, _, _ => false
 | f + 1, j, i => match ops[j]? with
  | some oj => oj.after.any fun e => Region.binds md e && (e.on == i || waits md ops f e.on i)
  | none => false
def tailOk (md : Region.Mode) (ops : Array Oper) (n i : Nat) : Bool := (List.range ops.size).all fun j => decide (j < n) || waits md ops 8 j i
def Closed (md : Region.Mode) (ops : Array Oper) (listed : Array Bool) : Prop := ∀ j oj, ops[j]? = some oj -> listed.getD j false = true -> ∀ e ∈ oj.after, Region.binds md e = true -> listed.getD e.on false = true
def closedB (md : Region.Mode) (ops : Array Oper) (listed : Array Bool) : Bool := (List.range ops.size).all fun j => !(listed.getD j false) || match ops[j]? with
 | some oj => oj.after.all fun e => !(Region.binds md e) || listed.getD e.on false
 | none => true
theorem closed_of {listed : Array Bool} (h : closedB md ops listed = true) : Closed md ops listed := by
 intro j oj hj hl e he hb;have h1 := List.all_eq_true.1 h j (List.mem_range.2 (Array.getElem?_eq_some_iff.1 hj).1);simp only [hl, hj, Bool.not_true, Bool.false_or] at h1;have h2 := Array.all_eq_true'.1 h1 e he;simpa [hb] using h2
theorem waits_listed {listed : Array Bool} (hc : Closed md ops listed) {i : Nat} : ∀ (f j : Nat), listed.getD j false = true -> waits md ops f j i = true -> listed.getD i false = true
 | 0, _, _, h => by cases h
 | f + 1, j, hl, h => by
  unfold waits at h;split at h
  · rename_i oj hj
    obtain ⟨e, he, hb⟩ := Array.any_eq_true'.1 h;simp only [Bool.and_eq_true, Bool.or_eq_true, beq_iff_eq] at hb;have h1 := hc j oj hj hl e he hb.1
    rcases hb.2 with h2 | h2
    · rw [<- h2]; exact h1
    · exact waits_listed hc f e.on h1 h2
  · cases h
theorem tailOk_lt {listed : Array Bool} {i j : Nat} (hc : Closed md ops listed) (h : tailOk md ops n i = true) (hj : j ∈ Region.ready md ops listed) (hi : listed.getD i false = false) : j < n := by
 obtain ⟨_, oj, hoj, hall⟩ := mem_ready.1 hj;have h1 := List.all_eq_true.1 h j (List.mem_range.2 (Array.getElem?_eq_some_iff.1 hoj).1);simp only [Bool.or_eq_true, decide_eq_true_eq] at h1
 rcases h1 with h1 | h1
 · exact h1
 · unfold waits at h1;rw [hoj] at h1;obtain ⟨e, he, hb⟩ := Array.any_eq_true'.1 h1;simp only [Bool.and_eq_true, Bool.or_eq_true, beq_iff_eq] at hb;have h2 := hall e he hb.1;have h3 : listed.getD i false = true := by
    rcases hb.2 with h4 | h4
    · rw [<- h4]; exact h2
    · exact waits_listed hc 7 e.on h2 h4
   rw [h3] at hi;cases hi
theorem Closed.set {listed : Array Bool} {j : Nat} (hc : Closed md ops listed) (hj : j ∈ Region.ready md ops listed) : Closed md ops (listed.setIfInBounds j true) := by
 obtain ⟨_, oj, hoj, hall⟩ := mem_ready.1 hj;intro k ok hk hl e he hb
 by_cases hjk : j = k
 · subst hjk;obtain rfl : ok = oj := Option.some.inj (hk.symm.trans hoj);exact getD_set_true (hall e he hb)
 · rw [getD_set_ne false hjk] at hl;exact getD_set_true (hc k ok hk hl e he hb)
theorem wpAny_of_G : ∀ (fuel : Nat) (listed : Array Bool) (a : Act) (w : World), wpG P md ops n G Q fuel listed a w -> wpAny P md ops Q fuel listed a w
 | 0, _, _, _, h => h
 | fuel + 1, _, _, _, h => ⟨h.1, fun i hi => wpOp_mono (fun a' w' h' => wpAny_of_G fuel _ a' w' h'.2) (h.2 i hi)⟩
theorem yields_on (hG : Pre G) {o : Oper} {v : Value} {a : Act} {w w' : World} (h : YieldsIf P ops (G w) o v a) (hg : G w w') : YieldsIf P ops (G w') o v a :=
 h.imp (fun ⟨hw, hv⟩ => ⟨hw, fun x hx => hv x (hG.trans hg hx)⟩) id
theorem wpG_first (hG : Pre G) {i : Nat} {oi : Oper} {v : Value} (hin : tailOk md ops n i = true) (hi : ops[i]? = some oi) (hsel : ∀ (j : Nat) (o : Oper) cs b, ops[j]? = some o -> o.op ≠ .select cs b)
 (hQ : ∀ c a w, Q (.panic c) (a.put oi.dst v) w -> Q (.panic c) a w) :
 ∀ (fuel : Nat) (listed : Array Bool) (a : Act) (w : World),
  (∀ j oj, ops[j]? = some oj -> j ≠ i -> listed.getD j true = false -> (∀ e ∈ oj.after, Region.binds md e = true -> e.on ≠ i) -> oi.apart ops oj = true) ->
  Closed md ops listed -> i ∈ Region.ready md ops listed -> YieldsIf P ops (G w) oi v a ->
  wpG P md ops n G Q fuel (listed.setIfInBounds i true) (a.put oi.dst v) w -> wpG P md ops n G Q (fuel + 1) listed a w := by
 intro fuel
 induction fuel with
 | zero =>
  intro listed a w _ _ hr hy H;refine ⟨fun h => (by rw [h] at hr; cases hr), fun j hj => ?_⟩
  by_cases hji : j = i
  · subst hji; exact hy.wpOp hi (hG.refl w) ⟨fun _ => hG.refl w, H⟩
  · have := ready_mono hj hji;rw [H.1] at this;cases this
 | succ fuel ih =>
  intro listed a w hfree hcl hr hy H;refine ⟨fun h => (by rw [h] at hr; cases hr), fun j hj => ?_⟩
  by_cases hji : j = i
  · subst hji; exact hy.wpOp hi (hG.refl w) ⟨fun _ => hG.refl w, H⟩
  · have h1 := H.2 j (ready_mono hj hji);obtain ⟨hjun, oj, hoj, hall⟩ := mem_ready.1 hj;have hnot : ∀ e ∈ oj.after, Region.binds md e = true -> e.on ≠ i := fun e he hb heq => by
     have h1 := hall e he hb;have h0 := (mem_ready.1 hr).1;rw [heq] at h1
     rcases Nat.lt_or_ge i listed.size with h' | h'
     · simp [h'] at h0 h1; rw [h0] at h1; cases h1
     · simp [Array.getElem?_eq_none h'] at h1
    have h2 := wpOp_putIf hoj (hfree j oj hoj hji hjun hnot) (fun cs b => hsel i oi cs b hi) (fun cs b => hsel j oj cs b hoj) hQ hy h1;have hfree' : ∀ k ok, ops[k]? = some ok -> k ≠ i -> (listed.setIfInBounds j true).getD k true = false ->
     (∀ e ∈ ok.after, Region.binds md e = true -> e.on ≠ i) -> oi.apart ops ok = true := fun k ok hk hki hun hno => by
     refine hfree k ok hk hki ?_ hno
     by_cases hjk : j = k
     · subst hjk; exact hjun
     · rw [getD_set_ne true hjk] at hun; exact hun
    refine wpOp_mono (fun a' w' h3 => ?_) h2;obtain ⟨hy', hg', hk⟩ := h3;have hg : G w w' := hg' (tailOk_lt hcl hin hj (getD_both (mem_ready.1 hr).1));refine ⟨fun _ => hg, ih (listed.setIfInBounds j true) a' w' hfree' (hcl.set hj) (ready_mono hr (Ne.symm hji)) (yields_on hG hy' hg) ?_⟩;rw [Array.setIfInBounds_comm _ _ hji];exact hk
theorem wg2 (hG : Pre G) {i : Nat} (hin : tailOk md ops n i = true) (d : Option Tmp) {oi : Oper} {v : Value} {fuel : Nat} {listed : Array Bool} {a : Act} {w : World} (hcl : closedB md ops listed = true) (hi : ops[i]? = some oi)
 (hs : Region.noSelect ops = true) (hf : Region.free md ops listed i = true) (hr : (Region.ready md ops listed).contains i = true)
 (hQ : ∀ c a w, Q (.panic c) (a.put oi.dst v) w -> Q (.panic c) a w) (hw : Region.wanted oi (yielded ops a.tmps) = true)
 (hy : ∀ w', G w w' -> (execOp a.eval oi).run P w' = .ok (.value v) w')
 (hd : oi.dst = d) (h : wpG P md ops n G Q fuel (listed.setIfInBounds i true) (a.put d v) w) : wpG P md ops n G Q (fuel + 1) listed a w :=
 wpG_first hG hin hi (Region.noSelect_spec hs) hQ fuel listed a w (Region.free_spec hi hf) (closed_of hcl) (by simpa using hr) (.inl ⟨hw, hy⟩) (hd ▸ h)
theorem wpG_pass (hG : Pre G) {i : Nat} (hin : tailOk md ops n i = true) (d : Option Tmp) {oi : Oper} {fuel : Nat} {listed : Array Bool} {a : Act} {w : World} (hcl : closedB md ops listed = true) (hi : ops[i]? = some oi)
 (hs : Region.noSelect ops = true) (hf : Region.free md ops listed i = true) (hr : (Region.ready md ops listed).contains i = true)
 (hQ : ∀ c a w, Q (.panic c) (a.put oi.dst undef) w -> Q (.panic c) a w) (hw : Region.wanted oi (yielded ops a.tmps) = false)
 (hd : oi.dst = d) (h : wpG P md ops n G Q fuel (listed.setIfInBounds i true) (a.put d undef) w) : wpG P md ops n G Q (fuel + 1) listed a w :=
 wpG_first hG hin hi (Region.noSelect_spec hs) hQ fuel listed a w (Region.free_spec hi hf) (closed_of hcl) (by simpa using hr) (.inr ⟨hw, rfl⟩) (hd ▸ h)
theorem aq1 {α : Type} (l : List α) (i : Nat) (a : α) : l.toArray.setIfInBounds i a = (l.set i a).toArray := List.setIfInBounds_toArray ..
theorem aq2 {α : Type} (a b : α) (l : List α) : (a :: l).set 0 b = b :: l := List.set_cons_zero
theorem aq3 {α : Type} (a b : α) (l : List α) (n : Nat) : (a :: l).set (n + 1) b = a :: l.set n b := List.set_cons_succ
theorem wg_ (hG : Pre G) (i : Nat) (d : Option Tmp) {oi : Oper} {v : Value} {fuel : Nat} {listed : Array Bool} {a a' : Act} {w : World}
 (h : wpG P md ops n G Q fuel (listed.setIfInBounds i true) a' w) (hin : tailOk md ops n i = true := by kernel_rfl) (hcl : closedB md ops listed = true := by kernel_rfl) (hi : ops[i]? = some oi := by rfl) (hs : Region.noSelect ops = true := by kernel_rfl) (hf : Region.free md ops listed i = true := by kernel_rfl) (hr : (Region.ready md ops listed).contains i = true := by kernel_rfl) (hQ : ∀ c a w, Q (.panic c) (a.put oi.dst v) w -> Q (.panic c) a w := by exact fun _ _ _ h => h) (hw : Region.wanted oi (yielded ops a.tmps) = true := by rfl) (hd : oi.dst = d := by rfl) (hy : ∀ w', G w w' -> (execOp a.eval oi).run P w' = .ok (.value v) w' := by intro w' hw'; go_simp; with_reducible rfl) (ha : a.put d v = a' := by simp only [Act.put, aq1, aq2, aq3]; rfl) : wpG P md ops n G Q (fuel + 1) listed a w :=
 wg2 hG hin d hcl hi hs hf hr hQ hw hy hd (ha ▸ h)
theorem wg3 (hG : Pre G) (i : Nat) (d : Option Tmp) {oi : Oper} {fuel : Nat} {listed : Array Bool} {a a' : Act} {w : World}
 (h : wpG P md ops n G Q fuel (listed.setIfInBounds i true) a' w) (hin : tailOk md ops n i = true := by kernel_rfl) (hcl : closedB md ops listed = true := by kernel_rfl) (hi : ops[i]? = some oi := by rfl) (hs : Region.noSelect ops = true := by kernel_rfl) (hf : Region.free md ops listed i = true := by kernel_rfl) (hr : (Region.ready md ops listed).contains i = true := by kernel_rfl) (hQ : ∀ c a w, Q (.panic c) (a.put oi.dst undef) w -> Q (.panic c) a w := by exact fun _ _ _ h => h) (hw : Region.wanted oi (yielded ops a.tmps) = false := by rfl) (hd : oi.dst = d := by rfl) (ha : a.put d undef = a' := by simp only [Act.put, aq1, aq2, aq3]; rfl) : wpG P md ops n G Q (fuel + 1) listed a w :=
 wpG_pass hG hin d hcl hi hs hf hr hQ hw hd (ha ▸ h)
theorem wg0 {i : Nat} {oi : Oper} {fuel : Nat} {listed : Array Bool} {a : Act} {w : World} (hi : ops[i]? = some oi)
 (hr : Region.ready md ops listed = [i]) (hw : Region.wanted oi (yielded ops a.tmps) = true)
 (h : oi.wp P a w (fun a' w' => G w w' /\ wpG P md ops n G Q fuel (listed.setIfInBounds i true) a' w') Q) : wpG P md ops n G Q (fuel + 1) listed a w := by
 refine ⟨(fun h0 => by rw [hr] at h0; cases h0), fun j hj => ?_⟩;rw [hr, List.mem_singleton] at hj;subst hj;unfold wpOp;simp only [hi];rw [if_pos hw];exact .inl (Oper.wp_mono (fun a' w' h' => ⟨fun _ => h'.1, h'.2⟩) h)
theorem wg4 {i : Nat} {oi : Oper} {fuel : Nat} {listed : Array Bool} {a : Act} {w : World} (hin : n <= i) (hi : ops[i]? = some oi)
 (hr : Region.ready md ops listed = [i]) (hw : Region.wanted oi (yielded ops a.tmps) = true)
 (h : oi.wp P a w (fun a' w' => wpG P md ops n G Q fuel (listed.setIfInBounds i true) a' w') Q) : wpG P md ops n G Q (fuel + 1) listed a w := by
 refine ⟨(fun h0 => by rw [hr] at h0; cases h0), fun j hj => ?_⟩;rw [hr, List.mem_singleton] at hj;subst hj;unfold wpOp;simp only [hi];rw [if_pos hw];exact .inl (Oper.wp_mono (fun a' w' h' => ⟨fun h0 => absurd h0 (Nat.not_lt.2 hin), h'⟩) h)
theorem wg5 {i j : Nat} {oi oj : Oper} {fuel : Nat} {listed : Array Bool} {a : Act} {w : World} (hi : ops[i]? = some oi) (hj : ops[j]? = some oj)
 (hr : Region.ready md ops listed = [i, j]) (hw : Region.wanted oi (yielded ops a.tmps) = true) (hw2 : Region.wanted oj (yielded ops a.tmps) = true)
 (h : oi.wp P a w (fun a' w' => G w w' /\ wpG P md ops n G Q fuel (listed.setIfInBounds i true) a' w') Q)
 (h2 : oj.wp P a w (fun a' w' => G w w' /\ wpG P md ops n G Q fuel (listed.setIfInBounds j true) a' w') Q) : wpG P md ops n G Q (fuel + 1) listed a w := by
 refine ⟨(fun h0 => by rw [hr] at h0; cases h0), fun k hk => ?_⟩;rw [hr] at hk;simp only [List.mem_cons, List.not_mem_nil, or_false] at hk
 rcases hk with rfl | rfl
 · unfold wpOp;simp only [hi];rw [if_pos hw];exact .inl (Oper.wp_mono (fun a' w' h' => ⟨fun _ => h'.1, h'.2⟩) h)
 · unfold wpOp;simp only [hj];rw [if_pos hw2];exact .inl (Oper.wp_mono (fun a' w' h' => ⟨fun _ => h'.1, h'.2⟩) h2)
theorem wpG_three {i j k : Nat} {oi oj ok : Oper} {fuel : Nat} {listed : Array Bool} {a : Act} {w : World} (hi : ops[i]? = some oi) (hj : ops[j]? = some oj) (hk : ops[k]? = some ok)
 (hr : Region.ready md ops listed = [i, j, k]) (hw : Region.wanted oi (yielded ops a.tmps) = true) (hw2 : Region.wanted oj (yielded ops a.tmps) = true) (hw3 : Region.wanted ok (yielded ops a.tmps) = true)
 (h : oi.wp P a w (fun a' w' => G w w' /\ wpG P md ops n G Q fuel (listed.setIfInBounds i true) a' w') Q)
 (h2 : oj.wp P a w (fun a' w' => G w w' /\ wpG P md ops n G Q fuel (listed.setIfInBounds j true) a' w') Q)
 (h3 : ok.wp P a w (fun a' w' => G w w' /\ wpG P md ops n G Q fuel (listed.setIfInBounds k true) a' w') Q) : wpG P md ops n G Q (fuel + 1) listed a w := by
 refine ⟨(fun h0 => by rw [hr] at h0; cases h0), fun q hq => ?_⟩;rw [hr] at hq;simp only [List.mem_cons, List.not_mem_nil, or_false] at hq
 rcases hq with rfl | rfl | rfl
 · unfold wpOp;simp only [hi];rw [if_pos hw];exact .inl (Oper.wp_mono (fun a' w' h' => ⟨fun _ => h'.1, h'.2⟩) h)
 · unfold wpOp;simp only [hj];rw [if_pos hw2];exact .inl (Oper.wp_mono (fun a' w' h' => ⟨fun _ => h'.1, h'.2⟩) h2)
 · unfold wpOp;simp only [hk];rw [if_pos hw3];exact .inl (Oper.wp_mono (fun a' w' h' => ⟨fun _ => h'.1, h'.2⟩) h3)
theorem wg1 {listed : Array Bool} {a : Act} {w : World} (hr : Region.ready md ops listed = []) (h : Q .normal a w) :
 ∀ fuel, wpG P md ops n G Q fuel listed a w
 | 0 => ⟨hr, h⟩
 | _ + 1 => ⟨fun _ => h, by rw [hr]; simp⟩
theorem wr_ (n : Nat) (G : World -> World -> Prop) {id : Nat} {a : Act} {w : World} (hm : P.follows .mixedOrders = true)
 (h : wpG P .any ops n G Q ops.size (Array.replicate ops.size false) a w.drew) : (Code.region id ops true).wp P Q a w :=
 wp_region_any hm (wpAny_of_G _ _ _ _ h)
end
theorem hg_ {w w' : World} {g : Nat} {o : Obj} (h : Gr w w') (hg : w.heap[g]? = some o) : w'.heap[g]? = some o := by
 rw [Below.block h g (Array.getElem?_eq_some_iff.1 hg).1];exact hg
end Go.Proofs.YtclplbapedmihaaGreat
namespace Go.Proofs.YtclplbapedmihaaGreat
set_option maxRecDepth 4000
open Go.RowKit
set_option linter.unusedVariables false
set_option linter.unusedSimpArgs false
structure Only (g : Nat) (w w' : World) : Prop where
 size : w.heap.size <= w'.heap.size
 below : ∀ B w0, B <= g -> Below B w0 w -> Below B w0 w'
 heap : ∀ k, k < w.heap.size -> k ≠ g -> w'.heap[k]? = w.heap[k]?
theorem Only.refl (g : Nat) (w : World) : Only g w w := ⟨Nat.le_refl _, fun _ _ _ h => h, fun _ _ _ => rfl⟩
theorem Only.trans {g : Nat} {a b c : World} (h : Only g a b) (k : Only g b c) : Only g a c :=
 ⟨Nat.le_trans h.size k.size, fun B w0 hB hb => k.below B w0 hB (h.below B w0 hB hb), fun i hi hn => by rw [k.heap i (Nat.lt_of_lt_of_le hi h.size) hn, h.heap i hi hn]⟩
theorem Only.grown {g : Nat} {w w' : World} (h : Below w.heap.size w w') (hg : g <= w.heap.size) : Only g w w' :=
 ⟨h.size, fun B w0 hB hb => hb.trans (h.mono (by omega)), fun k hk _ => h.block k hk⟩
theorem Only.cell {g : Nat} {w w' : World} (h : Only g w w') {p : Addr} {v : Value} (hp : p.block ≠ g) (hc : w.cell? p = some v) : w'.cell? p = some v := by
 rw [World.cell?_of_block (w := w) (h.heap p.block (World.block_lt_of_cell? w _ hc) hp)]; exact hc
theorem Only.setCell {g : Nat} (w : World) (o : Nat) (v : Value) : Only g w (w.setCell ⟨g, o, none⟩ v) :=
 ⟨by simp, fun B w0 hB hb => hb.setCell hB v, fun k _ hk => heap_setCell_other _ _ _ _ hk⟩
theorem ownsRow_only {g : Nat} {w w' : World} {base : Nat} {e : TypeId} {size n : Nat} {v : Value} {xs : List Value} (h : w.ownsRow base e size v n xs) (ho : Only g w w') (hg : g < base) : w'.ownsRow base e size v n xs := by
 refine ⟨h.1, ?_⟩
 rcases h.2 with h | ⟨k, cap, cur, h1, h2, h3, h4⟩
 · exact .inl h
 · refine .inr ⟨k, cap, cur, h1, h2, ?_, h4⟩;rw [ho.heap k (Array.getElem?_eq_some_iff.1 h3).1 (by omega)];exact h3
theorem OwnB.off {g : Nat} {w w' : World} {base : Nat} {e : TypeId} {v : Value} {l : List UInt8} (h : OwnB w base e v l) (ho : Only g w w') (hg : ∀ k, v.ownBlock = some k -> k ≠ g) : OwnB w' base e v l := by
 refine ⟨h.1, ?_⟩
 rcases h.2 with h | ⟨k, cap, cur, h1, h2, h3, h4⟩
 · exact .inl h
 · refine .inr ⟨k, cap, cur, h1, h2, ?_, h4⟩;rw [ho.heap k (Array.getElem?_eq_some_iff.1 h3).1 (hg k (by rw [h1]; rfl))];exact h3
theorem heap_setCells {g : Nat} {t : TypeId} : ∀ (vs : List Value) (o : Nat) (w : World) (cur : List Value), w.heap[g]? = some (.cells cur.toArray t (0, 0)) -> o + vs.length <= cur.length ->
 (w.setCells g o vs).heap[g]? = some (.cells (splice cur o vs).toArray t (0, 0))
 | [], o, w, cur, h, _ => by simpa [World.setCells, splice] using h
 | v :: r, o, w, cur, h, hl => by
  have h2 : (w.setCell ⟨g, o, none⟩ v).heap[g]? = some (.cells (cur.set o v).toArray t (0, 0)) := by
   rw [heap_setCell_same _ _ _ _ _ _ h]; simp
  have hl' : o + (r.length + 1) <= cur.length := by simpa using hl
  rw [World.setCells, heap_setCells r (o + 1) _ _ h2 (by rw [List.length_set]; omega)]
  congr 3
  unfold splice;apply List.ext_getElem?;intro i;simp only [List.getElem?_append, List.getElem?_take, List.getElem?_drop, List.getElem?_set, List.length_take, List.length_set, List.length_cons, List.getElem?_cons]
  by_cases h1 : i < o
  · simp only [h1, if_true, show i < o + 1 by omega, show i < min (o + 1) cur.length by omega, show i < min o cur.length by omega, show ¬ o = i by omega, if_false]
  · by_cases h2 : i = o
    · subst h2;simp [show i < min (i + 1) cur.length by omega, show ¬ i < min i cur.length by omega, show i < cur.length by omega, show i - min i cur.length = 0 by omega]
    · have m1 : min (o + 1) cur.length = o + 1 := by omega
      have m2 : min o cur.length = o := by omega
      simp only [m1, m2, show ¬ i < o + 1 by omega, h1, if_false, show ¬ i - o = 0 by omega]
      by_cases h3 : i - (o + 1) < r.length
      · simp only [h3, if_true, show i - o < r.length + 1 by omega, show i - o - 1 = i - (o + 1) by omega]
      · simp only [h3, if_false, show ¬ i - o < r.length + 1 by omega];rw [if_neg (by omega)]
        congr 1
        omega
theorem only_setCells {g : Nat} : ∀ (vs : List Value) (o : Nat) (w : World), Only g w (w.setCells g o vs)
 | [], o, w => Only.refl g w
 | v :: r, o, w => (Only.setCell w o v).trans (only_setCells r (o + 1) _)
section
variable {P : Program}
theorem wp_store_splice {op : Oper} {a : Act} {w : World} {K : Act -> World -> Prop} {Q : Exit -> Act -> World -> Prop} (d : Option Tmp) (ty : TypeId) (x y : Operand) (ho : op.op = .store ty x y)
 (g o : Nat) (cs : List Value) (hx : a.eval x = .pointer (some ⟨g, o, none⟩)) (hy : a.eval y = .agg cs.toArray) (t : TypeId) (cur : List Value) (hg : w.heap[g]? = some (.cells cur.toArray t (0, 0)))
 (hi : (P.info? ty).map (·.size) = some cs.length) (hfit : o + cs.length <= cur.length) (h1 : ∀ v ∈ cs, v.oneCell' = true) (hd : op.dst = d)
 (h : ∀ w', w'.heap[g]? = some (.cells (splice cur o cs).toArray t (0, 0)) -> Only g w w' -> K (a.put d undef) w') : op.wp P a w K Q := by
 refine wp_store_mid ty x y ho g o cs.toArray hx hy ?_ (by simpa using hi) (all_oneCell_toArray h1) ?_
 · intro j hj;have hj' : j < cs.length := by simpa using hj
   rw [cell_of_row _ _ _ _ _ _ hg, frozen_of_row _ _ _ _ _ hg];exact ⟨by simp; omega, rfl⟩
 · subst hd;exact h _ (heap_setCells _ _ _ _ hg hfit) (only_setCells _ _ _)
theorem lm_ {o : Oper} {a : Act} {w : World} (ty : TypeId) (x : Operand) (ho : o.op = .load ty x)
 (g off : Nat) (hx : a.eval x = .pointer (some ⟨g, off, none⟩)) (cs : List Value) (d : TypeDesc) (hc : w.rangeAt g off cs)
 (hu : P.underlying ty = some d) (hd : d.isRow = true) (hi : (P.info? ty).map (·.size) = some cs.length) :
 (execOp a.eval o).run P w = .ok (.value (.agg cs.toArray)) w := by
 unfold execOp;simp only [ho, hx, Instr.loadAt, Instr.sureAddr, Sem.run_bind, Sem.run_pure, Result.andThen_ok, run_loadVar_mid w g off ty cs d hc hu hd hi]
end
section
variable {P : Program}
theorem run_storeVar_cell (w : World) (g o : Nat) (ty : TypeId) (v : Value) (ht : w.there g o 1) (hi : (P.info? ty).map (·.size) = some 1) (h1 : v.oneCell' = true) : (storeVar ty ⟨g, o, none⟩ v).run P w = .ok () (w.setCells g o [v]) := by
 have hc : v.cells = #[v] := by cases v <;> first | rfl | cases h1
 have := run_storeVar_mid (P := P) w g o ty #[v] ht hi (by simpa using h1);unfold storeVar at this ⊢;rw [hc];exact this
theorem br_ {o : Oper} {a : Act} {w : World} (t : TypeId) (parts : List (Nat × Operand)) (ho : o.op = .build t parts.toArray) (cells : Array Value) (hf : P.built t (parts.map fun (i, x) => (i, a.eval x)) = some cells) :
 (execOp a.eval o).run P w = .ok (.value (.agg cells)) w := by
 have hf' : P.built t (parts.toArray.map fun (i, x) => (i, a.eval x)).toList = some cells := by rw [List.map_toArray]; exact hf
 unfold execOp;simp only [ho, Sem.run_bind, run_build w t _ cells hf', Result.andThen_ok, Sem.run_pure]
theorem wpList_store_splice {ops : Array Oper} {rest : List Oper} {op : Oper} {a : Act} {w : World} {Q : Exit -> Act -> World -> Prop} (hgd : op.guard = none) (ty : TypeId) (x y : Operand) (ho : op.op = .store ty x y)
 (g o : Nat) (cs : List Value) (hx : a.eval x = .pointer (some ⟨g, o, none⟩)) (hy : a.eval y = .agg cs.toArray) (t : TypeId) (cur : List Value) (hg : w.heap[g]? = some (.cells cur.toArray t (0, 0)))
 (hi : (P.info? ty).map (·.size) = some cs.length) (hfit : o + cs.length <= cur.length) (h1 : ∀ v ∈ cs, v.oneCell' = true)
 (h : ∀ w', w'.heap[g]? = some (.cells (splice cur o cs).toArray t (0, 0)) -> Only g w w' -> wpList P ops Q rest (a.put op.dst undef) w') : wpList P ops Q (op :: rest) a w :=
 wpList_plain hgd fun K hK => wp_store_splice op.dst ty x y ho g o cs hx hy t cur hg hi hfit h1 rfl fun w' k1 k2 => hK _ _ (h w' k1 k2)
theorem wp_store_cell {op : Oper} {a : Act} {w : World} {K : Act -> World -> Prop} {Q : Exit -> Act -> World -> Prop} (d : Option Tmp) (ty : TypeId) (x y : Operand) (ho : op.op = .store ty x y)
 (g o : Nat) (v : Value) (hx : a.eval x = .pointer (some ⟨g, o, none⟩)) (hy : a.eval y = v) (t : TypeId) (cur : List Value) (hg : w.heap[g]? = some (.cells cur.toArray t (0, 0)))
 (hi : (P.info? ty).map (·.size) = some 1) (hfit : o < cur.length) (h1 : v.oneCell' = true) (hd : op.dst = d)
 (h : ∀ w', w'.heap[g]? = some (.cells (cur.set o v).toArray t (0, 0)) -> Only g w w' -> K (a.put d undef) w') : op.wp P a w K Q := by
 have ht : w.there g o 1 := by
  intro j hj;rw [cell_of_row _ _ _ _ _ _ hg, frozen_of_row _ _ _ _ _ hg];exact ⟨by simp; omega, rfl⟩
 unfold Oper.wp execOp;simp only [ho, hx, hy, Instr.storeAt, Instr.sureAddr, Sem.run_bind, Sem.run_pure, Result.andThen_ok, run_storeVar_cell w g o ty v ht hi h1];subst hd;exact h _ (by simpa [World.setCells] using heap_setCell_same w g o cur.toArray t v hg) (Only.setCell w o v)
theorem wl0 {ops : Array Oper} {rest : List Oper} {op : Oper} {a : Act} {w : World} {Q : Exit -> Act -> World -> Prop} (hgd : op.guard = none) (ty : TypeId) (x y : Operand) (ho : op.op = .store ty x y)
 (g o : Nat) (v : Value) (hx : a.eval x = .pointer (some ⟨g, o, none⟩)) (hy : a.eval y = v) (t : TypeId) (cur : List Value) (hg : w.heap[g]? = some (.cells cur.toArray t (0, 0)))
 (hi : (P.info? ty).map (·.size) = some 1) (hfit : o < cur.length) (h1 : v.oneCell' = true)
 (h : ∀ w', w'.heap[g]? = some (.cells (cur.set o v).toArray t (0, 0)) -> Only g w w' -> wpList P ops Q rest (a.put op.dst undef) w') : wpList P ops Q (op :: rest) a w :=
 wpList_plain hgd fun K hK => wp_store_cell op.dst ty x y ho g o v hx hy t cur hg hi hfit h1 rfl fun w' k1 k2 => hK _ _ (h w' k1 k2)
theorem ws_ {op : Oper} {a : Act} {w : World} {K : Act -> World -> Prop} {Q : Exit -> Act -> World -> Prop} (d : Option Tmp) (ty : TypeId) (x y : Operand) (ho : op.op = .store ty x y)
 (g : Nat) (cs : List Value) (hx : a.eval x = .pointer (some ⟨g, 0, none⟩)) (hy : a.eval y = .agg cs.toArray) (t : TypeId) (cur : List Value) (hg : w.heap[g]? = some (.cells cur.toArray t (0, 0)))
 (hi : (P.info? ty).map (·.size) = some cs.length) (hn : cs.length = cur.length) (h1 : ∀ v ∈ cs, v.oneCell' = true) (hd : op.dst = d)
 (h : ∀ w', w'.heap[g]? = some (.cells cs.toArray t (0, 0)) -> Only g w w' -> K (a.put d undef) w') : op.wp P a w K Q :=
 wp_store_splice d ty x y ho g 0 cs hx hy t cur hg hi (by omega) h1 hd fun w' k1 k2 => h w' (by
  have e : splice cur 0 cs = cs := by unfold splice; rw [List.take_zero, List.nil_append, Nat.zero_add, List.drop_of_length_le (by omega), List.append_nil]
  rwa [e] at k1) k2
theorem wl_ {ops : Array Oper} {rest : List Oper} {op : Oper} {a : Act} {w : World} {Q : Exit -> Act -> World -> Prop} (hgd : op.guard = none) (ty : TypeId) (x y : Operand) (ho : op.op = .store ty x y)
 (g : Nat) (cs : List Value) (hx : a.eval x = .pointer (some ⟨g, 0, none⟩)) (hy : a.eval y = .agg cs.toArray) (t : TypeId) (cur : List Value) (hg : w.heap[g]? = some (.cells cur.toArray t (0, 0)))
 (hi : (P.info? ty).map (·.size) = some cs.length) (hn : cs.length = cur.length) (h1 : ∀ v ∈ cs, v.oneCell' = true)
 (h : ∀ w', w'.heap[g]? = some (.cells cs.toArray t (0, 0)) -> Only g w w' -> wpList P ops Q rest (a.put op.dst undef) w') : wpList P ops Q (op :: rest) a w :=
 wpList_plain hgd fun K hK => ws_ op.dst ty x y ho g cs hx hy t cur hg hi hn h1 rfl fun w' k1 k2 => hK _ _ (h w' k1 k2)
end
end Go.Proofs.YtclplbapedmihaaGreat
namespace Go.Proofs.YtclplbapedmihaaGreat
set_option maxRecDepth 4000
set_option linter.unusedVariables false
def putL (n size : Nat) : List UInt8 := (List.range size).map fun j => UInt8.ofNat (n / 256 ^ (size - 1 - j))
def putK (n size k : Nat) : List Value := (List.range size).map fun j => if size <= j + k then u8v (UInt8.ofNat (n / 256 ^ (size - 1 - j))) else .int .u8 0
theorem pl0 (n size : Nat) : (putL n size).length = size := by simp [putL]
theorem putK_length (n size k : Nat) : (putK n size k).length = size := by simp [putK]
theorem putK_zero (n size : Nat) : putK n size 0 = List.replicate size (.int .u8 0) := by
 apply List.ext_getElem
 · simp [putK]
 · intro j h1 h2;simp [putK] at h1 ⊢;omega
theorem putK_full (n size : Nat) : putK n size size = (putL n size).map u8v := by
 apply List.ext_getElem
 · simp [putK, putL]
 · intro j h1 h2;simp [putK, putL] at h1 ⊢
theorem putK_step (n size k : Nat) (hk : k < size) :
 (putK n size k).set (size - 1 - k) (.int .u8 ((n / 256 ^ k % 256 : Nat) : Int)) = putK n size (k + 1) := by
 apply List.ext_getElem
 · simp [putK]
 · intro j h1 h2;simp [putK] at h1;rw [List.getElem_set];simp only [putK, List.getElem_map, List.getElem_range]
   by_cases e : size - 1 - k = j
   · rw [if_pos e, if_pos (by omega)];have : size - 1 - j = k := by omega
     rw [this, u8v_ofNat]
   · rw [if_neg e]
     by_cases h : size <= j + k
     · rw [if_pos h, if_pos (by omega)]
     · rw [if_neg h, if_neg (by omega)]
theorem pow_step (n k : Nat) : n / 256 ^ k / 256 = n / 256 ^ (k + 1) := by
 rw [Nat.div_div_eq_div_mul, Nat.pow_succ]
end Go.Proofs.YtclplbapedmihaaGreat
namespace Go.Proofs.YtclplbapedmihaaGreat
set_option maxRecDepth 4000
def takeN (l : List UInt8) (k : Nat) : Nat := (l.take k).foldl (fun n b => n * 256 + b.toNat) 0
theorem tn1 (l : List UInt8) : takeN l 0 = 0 := by simp [takeN]
theorem tn0 (l : List UInt8) (k : Nat) (h : k < l.length) : takeN l (k + 1) = takeN l k * 256 + l[k].toNat := by
 unfold takeN;rw [List.take_succ_eq_append_getElem h, List.foldl_append];rfl
theorem takeN_lt (l : List UInt8) : ∀ k, k <= l.length -> takeN l k < 256 ^ k
 | 0, _ => by simp [takeN]
 | k + 1, h => by
  have ih := takeN_lt l k (by omega);rw [tn0 l k (by omega), Nat.pow_succ];have := UInt8.toNat_lt l[k];omega
theorem takeN_lt7 (l : List UInt8) (k : Nat) (h : k <= l.length) (h7 : k <= 7) : takeN l k < 72057594037927936 :=
 Nat.lt_of_lt_of_le (takeN_lt l k h) (Nat.le_trans (Nat.pow_le_pow_right (by omega) h7) (by decide))
end Go.Proofs.YtclplbapedmihaaGreat
namespace Go.Proofs.YtclplbapedmihaaGreat
set_option maxRecDepth 4000
theorem u64_or256 (m b : Nat) (hm : m < 72057594037927936) (hb : b < 256) : bits .or .u64 ((m : Int) * 256) (b : Int) = ((m * 256 + b : Nat) : Int) := by
 have e : ((m : Int) * 256) = ((m * 256 : Nat) : Int) := by omega
 rw [e, u64_or_nat _ _ (by omega) (by omega)]
 congr 1
 have := Nat.two_pow_add_eq_or_of_lt (i := 8) (show b < 2 ^ 8 by omega) m;rw [show m * 256 = 2 ^ 8 * m from by omega, <- this]
theorem drop_u8 (l : List UInt8) (k : Nat) : (l.map u8v).drop (k * 1) = (l.drop k).map u8v := by simp
theorem take_u8 (l : List UInt8) (k : Nat) : (l.map u8v).take (k * 1) = (l.take k).map u8v := by simp
end Go.Proofs.YtclplbapedmihaaGreat
namespace Go.Proofs.YtclplbapedmihaaGreat
set_option maxRecDepth 4000
theorem tup3 {k : IntKind} {a b : Int} {v u : Value} (h : a = b) : Ending.returned (.tuple #[.int k a, v, u]) = .returned (.tuple #[.int k b, v, u]) := by rw [h]
end Go.Proofs.YtclplbapedmihaaGreat
namespace Go.Proofs.YtclplbapedmihaaGreat
set_option maxRecDepth 4000
def digV (c : Nat) : Option Nat := if 48 <= c /\ c <= 57 then some (c - 48) else if 97 <= c /\ c <= 102 then some (c - 87) else none
end Go.Proofs.YtclplbapedmihaaGreat
namespace Go.Proofs.YtclplbapedmihaaGreat
set_option maxRecDepth 4000
end Go.Proofs.YtclplbapedmihaaGreat
namespace Go.Proofs.YtclplbapedmihaaGreat
set_option maxRecDepth 4000
end Go.Proofs.YtclplbapedmihaaGreat
namespace Go.Proofs.YtclplbapedmihaaGreat
set_option maxRecDepth 4000
def chr (s : ByteArray) (i : Nat) : Nat := (s.data.toList.getD i 0).toNat
theorem index_chr {P : Program} {t : TypeId} (ht : P.underlying t = some .string) (s : ByteArray) (kk : IntKind) (i : Int) (n : Nat) (hi : i = (n : Int)) (hn : n < s.size) (w : World) :
 (Instr.index t (.string s) (.int kk i)).run P w = .ok (.int .u8 (chr s n : Nat)) w := by
 subst hi;rw [run_index_string (h := ht), dif_pos ⟨by omega, by omega⟩];have hn' : n < s.data.toList.length := by simpa using hn
 simp only [Int.toNat_natCast, chr, List.getD_eq_getElem?_getD, List.getElem?_eq_getElem hn', Option.getD_some]
 congr 1
def pairOk (s : ByteArray) (j : Nat) : Prop := (digV (chr s (2 * j))).isSome = true /\ (digV (chr s (2 * j + 1))).isSome = true
instance (s : ByteArray) (j : Nat) : Decidable (pairOk s j) := by unfold pairOk; infer_instance
end Go.Proofs.YtclplbapedmihaaGreat
namespace Go.Proofs.YtclplbapedmihaaGreat
set_option maxRecDepth 4000
open Go.RowKit
set_option linter.unusedVariables false
set_option linter.unusedSimpArgs false
theorem info5 : (Tryz.prog.info? 5).map (fun i => (i.zero, i.size, i.bytes)) = some (some (.int .u8 0), 1, 1) := by kernel_rfl
theorem sizeMayBe_yes (n : Int) (w : World) (h0 : 1 <= n) (h1 : n <= 8) :
 Calls Tryz.prog 85 #[.int .i64 n] w fun e w' => e = .returned (.bool true) /\ w = w' := by
 go_enter Tryz.func85, Tryz.ntmps85
 go_wp2
 go_ret
 exact ⟨rfl, rfl⟩
theorem put_yes (n size : Nat) (w : World) (h0 : 1 <= size) (h1 : size <= 8) (hn : n < 18446744073709551616):
 Calls Tryz.prog 67 #[.int .u64 n, .int .i64 size] w fun e w' => ∃ v, e = .returned v /\ OwnB w' w.heap.size 5 v (putL n size) /\ Below w.heap.size w w' := by
 obtain ⟨i0, hi, hz0, hz1, hz2⟩ := info_parts info5;go_enter Tryz.func67, Tryz.ntmps67
 go_wp2_with (first | (go_at_call 85; refine (sizeMayBe_yes _ _ (by omega) (by omega)).mono ?_; rintro e w' ⟨rfl, rfl⟩) | (at_make; refine wpList_make_full _ rfl _ _ 30 rfl w.heap.size 5 i0 (.int .u8 0) 1 Tryz.underlying30 hi hz0 hz1 _ _ _ _ size rfl rfl rfl rfl ?c1 ?c2 ?c3 ?_))
 case c1 => rw [hz2]; omega
 case c2 => unfold maxLen; omega
 case c3 => simp
 intro w1 hown hg;have hb : Below w.heap.size w w1 := (Below.refl _ _).grown hg (Nat.le_refl _) (fun _ h => by cases h);clear hg;go_wp2
 go_loopw [0, 13] (fun nv iv wr => ∃ k : Nat, k <= size /\ iv = .int .i64 k /\ nv = .int .u64 (n / 256 ^ k : Nat) /\ wr.ownsRow w.heap.size 5 1 (.slice (some ⟨w.heap.size, 0, none⟩) size size) size (putK n size k) /\ Below w.heap.size w wr) (fun _ iv _ => size - (intOf iv).toNat)
 case atStart =>
  refine ⟨0, Nat.zero_le _, rfl, by simp, ?_, hb⟩;rw [putK_zero]
  rwa [toList_madeCells_one] at hown
 case round =>
  clear hown hb;obtain ⟨k, hk, rfl, rfl, hown, hb⟩ := hrel
  by_cases hlt : k < size
  · have hf : wr.frozen? ⟨w.heap.size, size - 1 - k, none⟩ = false := hown.frozenAt _;obtain ⟨u, hu⟩ : ∃ u, wr.cell? ⟨w.heap.size, size - 1 - k, none⟩ = some u := by
     rw [hown.cellAt _ (by omega)];exact ⟨_, List.getElem?_eq_getElem (by rw [putK_length]; omega)⟩
    go_wp2
    go_roundw
    case rel =>
     refine ⟨k + 1, by omega, by go_num, ?_, ?_, hb.setCell (Nat.le_refl _) _⟩
     · rw [<- pow_step]; rfl
     · have := (hown.stored (size - 1 - k) (.int .u8 ((n / 256 ^ k % 256 : Nat) : Int))).1;rw [putK_step n size k hlt] at this;exact this
    case measure => simp [intOf]; omega
  · obtain rfl : k = size := by omega
    go_wp2
    go_ret
    exact ⟨_, rfl, by unfold OwnB; rw [pl0, <- putK_full]; exact hown, hb⟩
theorem take2_eq (l : List UInt8) (h : 2 <= l.length) : takeN l 2 = 256 * l[0].toNat + l[1].toNat := by
 rw [tn0 _ 1 (by omega), tn0 _ 0 (by omega), tn1];omega
def bN (l : List UInt8) (i : Nat) : Nat := (l.getD i 0).toNat
theorem bN_lt (l : List UInt8) (i : Nat) : bN l i < 256 := UInt8.toNat_lt _
theorem bN_get (l : List UInt8) (i : Nat) (h : i < l.length) : bN l i = l[i].toNat := by simp [bN, List.getD, h]
def bl (s : ByteArray) : List UInt8 := s.data.toList
theorem bl_length (s : ByteArray) : (bl s).length = s.size := by unfold bl; rw [Array.length_toList]; rfl
theorem takeN_eq1 (l : List UInt8) (h : 1 <= l.length) : takeN l 1 = bN l 0 := by
 rw [tn0 _ 0 (by omega), tn1, bN_get _ _ (by omega)];omega
theorem takeN_eq2 (l : List UInt8) (h : 2 <= l.length) : takeN l 2 = 256 * bN l 0 + bN l 1 := by
 rw [take2_eq _ h, bN_get _ _ (by omega), bN_get _ _ (by omega)]
theorem bN_drop (l : List UInt8) (k i : Nat) : bN (l.drop k) i = bN l (k + i) := by simp [bN, List.getD, List.getElem?_drop]
theorem on0 {w : World} {base base' : Nat} {e e' : TypeId} {size size' n n' : Nat} {v v' : Value} {xs xs' : List Value} (h : w.ownsRow base e size v n xs) (h' : w.ownsRow base' e' size' v' n' xs') (he : e ≠ e') :
 v.ownBlock = none \/ v.ownBlock ≠ v'.ownBlock := by
 rcases h.2 with ⟨rfl, _⟩ | ⟨g, cap, cur, rfl, hb, hg, _⟩
 · exact .inl rfl
 · rcases h'.2 with ⟨rfl, _⟩ | ⟨g', cap', cur', rfl, hb', hg', _⟩
   · exact .inr (by simp [Value.ownBlock])
   · refine .inr fun e1 => he ?_
     simp only [Value.ownBlock, Option.some.injEq] at e1;subst e1;rw [hg] at hg';simp only [Option.some.injEq, Obj.cells.injEq] at hg';exact hg'.2.1
theorem OwnB.kept {w w' : World} {base : Nat} {e : TypeId} {v : Value} {l : List UInt8} {row : Option Nat} (h : OwnB w base e v l) (hg : w.grownBy w' row) (hne : v.ownBlock = none \/ v.ownBlock ≠ row) : OwnB w' base e v l := World.ownsRow.kept h hg hne
theorem gb_ {w w' : World} {base : Nat} {e : TypeId} {size n : Nat} {v : Value} {xs : List Value} (h : w.ownsRow base e size v n xs) (hb : base <= w.heap.size) (hg : w.grownBy w' v.ownBlock) : Below base w w' :=
 (Below.refl _ _).grown hg hb fun k hk => (h.lt k hk).1
theorem Bs.oneCell {w : World} {v : Value} {l : List UInt8} (h : Bs w v l) : v.oneCell' = true := by
 obtain ⟨_, _, ev, _⟩ := h.shape;rw [ev]; rfl
theorem Bs.sl {w : World} {v : Value} {l : List UInt8} (h : Bs w v l) : ∃ A L C, v = .slice A L C /\ l.length = L /\ L <= C /\ C <= maxLen := by
 obtain ⟨A, C, ev, h1, h2⟩ := h.shape;exact ⟨A, _, C, ev, rfl, h1, h2⟩
theorem gh_ {w w' : World} {base : Nat} {e e' : TypeId} {size n g : Nat} {v : Value} {xs : List Value} {cs : Array Value} {fr : Nat × Nat} (h : w.ownsRow base e size v n xs) (hg : w.grownBy w' v.ownBlock) (hc : w.heap[g]? = some (.cells cs e' fr)) (he : e ≠ e') : w'.heap[g]? = some (.cells cs e' fr) := by
 rw [hg.block g (Array.getElem?_eq_some_iff.1 hc).1 ?_]
 · exact hc
 · intro e1
   rcases h.2 with ⟨rfl, _⟩ | ⟨g', cap, cur, rfl, hb, hg', _⟩
   · cases e1
   · simp only [Value.ownBlock, Option.some.injEq] at e1;subst e1;rw [hg'] at hc;simp only [Option.some.injEq, Obj.cells.injEq] at hc;exact he hc.2.1
theorem cc_ {w : World} {g : Nat} {x y : Value} {t : TypeId} {fr : Nat × Nat} (h : w.heap[g]? = some (.cells #[x, y] t fr)) : w.cell? ⟨g, 0, none⟩ = some x /\ w.cell? ⟨g, 1, none⟩ = some y :=
 ⟨by rw [cell_of_row w g _ _ _ _ h]; rfl, by rw [cell_of_row w g _ _ _ _ h]; rfl⟩
section
variable {P : Program}
theorem wa_ (w : World) {o : Oper} {a : Act} {K : Act -> World -> Prop} {Q : Exit -> Act -> World -> Prop} (d : Option Tmp) (s x : Operand) (t : TypeId)
 (ho : o.op = .call { callee := .builtin .append, args := #[s, x], argTypes := #[t, t] })
 (base : Nat) (e : TypeId) (i : TypeInfo) (z : Value) (size bytes : Nat) (ht : P.underlying t = some (.slice e)) (hi : P.info? e = some i) (hz : i.zero = some z)
 (hsize : i.size = size) (hby : i.bytes = bytes) (hzs : z.cells.size = size) (hsz : 0 < size)
 (v : Value) (n : Nat) (xs : List Value) (hs : a.eval s = v) (hown : w.ownsRow base e size v n xs)
 (y : Value) (m : Nat) (ys : List Value) (hx : a.eval x = y) (hy : Rd w size y m ys) (h1 : ∀ u ∈ ys, u.oneCell' = true)
 (hbytes : (n + m) * bytes <= 140737488355328) (hb1 : 0 < bytes) (hbase : base <= w.heap.size) (hd : o.dst = d)
 (h : ∀ v' w', w'.ownsRow base e size v' (n + m) (xs ++ ys) -> w.grownBy w' v.ownBlock -> K (a.put d v') w') : o.wp P a w K Q := by
 have h63 : n + m <= maxLen := by
  have : n + m <= (n + m) * bytes := Nat.le_mul_of_pos_right _ hb1;unfold maxLen; omega
 subst hd;obtain ⟨h0, ao, cap, rfl, g1, g2, g3, g4⟩ := hy;cases ao with
 | none =>
  have := g3 rfl;subst this;have hm : m = 0 := by omega
  subst hm;have hl : ys = [] := List.eq_nil_of_length_eq_zero (by simpa using h0);subst hl;have hrun := run_append_owned_none (P := P) (w := w) base t o.type e i size ht hi v n xs hown;unfold Oper.wp;simp [execOp, ho, resolve, invoke, builtin, hs, hx, hrun, Result.andThen];exact h v w (by simpa using hown) ⟨rfl, rfl, rfl, Nat.le_refl _, fun _ _ _ => rfl⟩
 | some ad =>
  exact wp_append_own w s x t ho base e i z size bytes ht hi hz hsize hby hzs hsz v n xs hs hown ad m cap ys hx h0 (g4 ad rfl) h1 h63 hbytes hbase fun v' w' k1 k2 k3 => h v' w' k1 k2
theorem wl1 (w : World) {ops : Array Oper} {rest : List Oper} {o : Oper} {a : Act} {Q : Exit -> Act -> World -> Prop} (hgd : o.guard = none) (s x : Operand) (t : TypeId)
 (ho : o.op = .call { callee := .builtin .append, args := #[s, x], argTypes := #[t, t] })
 (base : Nat) (e : TypeId) (i : TypeInfo) (z : Value) (size bytes : Nat) (ht : P.underlying t = some (.slice e)) (hi : P.info? e = some i) (hz : i.zero = some z)
 (hsize : i.size = size) (hby : i.bytes = bytes) (hzs : z.cells.size = size) (hsz : 0 < size)
 (v : Value) (n : Nat) (xs : List Value) (hs : a.eval s = v) (hown : w.ownsRow base e size v n xs)
 (y : Value) (m : Nat) (ys : List Value) (hx : a.eval x = y) (hy : Rd w size y m ys) (h1 : ∀ u ∈ ys, u.oneCell' = true)
 (hbytes : (n + m) * bytes <= 140737488355328) (hb1 : 0 < bytes) (hbase : base <= w.heap.size)
 (h : ∀ v' w', w'.ownsRow base e size v' (n + m) (xs ++ ys) -> w.grownBy w' v.ownBlock -> wpList P ops Q rest (a.put o.dst v') w') : wpList P ops Q (o :: rest) a w :=
 wpList_plain hgd fun K hK => wa_ w o.dst s x t ho base e i z size bytes ht hi hz hsize hby hzs hsz v n xs hs hown y m ys hx hy h1 hbytes hb1 hbase rfl fun v' w' k1 k2 => hK _ _ (h v' w' k1 k2)
end
theorem cells3 {w : World} {g : Nat} {x y z : Value} {t : TypeId} {fr : Nat × Nat} (h : w.heap[g]? = some (.cells #[x, y, z] t fr)) : w.cell? ⟨g, 0, none⟩ = some x /\ w.cell? ⟨g, 1, none⟩ = some y /\ w.cell? ⟨g, 2, none⟩ = some z :=
 ⟨by rw [cell_of_row w g _ _ _ _ h]; rfl, by rw [cell_of_row w g _ _ _ _ h]; rfl, by rw [cell_of_row w g _ _ _ _ h]; rfl⟩
theorem cell1 {w : World} {g : Nat} {x : Value} {t : TypeId} {fr : Nat × Nat} (h : w.heap[g]? = some (.cells #[x] t fr)) : w.cell? ⟨g, 0, none⟩ = some x := by rw [cell_of_row w g _ _ _ _ h]; rfl
theorem OwnB.of_app {w : World} {base : Nat} {e : TypeId} {v : Value} {l m : List UInt8} {n k : Nat} (h : w.ownsRow base e 1 v (n + k) (l.map u8v ++ m.map u8v)) (h1 : l.length = n) (h2 : m.length = k) : OwnB w base e v (l ++ m) := by
 unfold OwnB;rw [List.length_append, h1, h2, List.map_append];exact h
theorem h0_ (w : World) (o p : Obj) : ((w.alloc o).alloc p).heap[w.heap.size]? = some o := by
 rw [Below.heap_alloc _ _ _ (by simp), heap_alloc_last]
theorem h1_ (w : World) (o p : Obj) : ((w.alloc o).alloc p).heap[w.heap.size + 1]? = some p := by
 have := heap_alloc_last (w.alloc o) p
 rwa [World.size_alloc] at this
theorem set3 {w : World} {g : Nat} {t : TypeId} {z0 z1 z2 : Value} (h : w.heap[g]? = some (.cells #[z0, z1, z2] t (0, 0))) (a b c : Value) :
 (((w.setCell ⟨g, 0, none⟩ a).setCell ⟨g, 1, none⟩ b).setCell ⟨g, 2, none⟩ c).heap[g]? = some (.cells #[a, b, c] t (0, 0)) :=
 heap_setCell_same _ g 2 _ t c (heap_setCell_same _ g 1 _ t b (heap_setCell_same _ g 0 _ t a h))
theorem own_set3 {w : World} {base g : Nat} {e : TypeId} {v : Value} {l : List UInt8} (h : OwnB w base e v l) (hg : g < base) (a b c : Value) : OwnB (((w.setCell ⟨g, 0, none⟩ a).setCell ⟨g, 1, none⟩ b).setCell ⟨g, 2, none⟩ c) base e v l :=
 ownsRow_setCell_below (ownsRow_setCell_below (ownsRow_setCell_below h hg a) hg b) hg c
theorem own_new (w : World) (l : List Value) (e : TypeId) (n size : Nat) (hn : l.length = n * size) (hm : n <= maxLen) : (w.alloc (.cells l.toArray e)).ownsRow w.heap.size e size (.slice (some ⟨w.heap.size, 0, none⟩) n n) n l := by
 refine ⟨hn, .inr ⟨w.heap.size, n, l.toArray, rfl, Nat.le_refl _, heap_alloc_last _ _, Nat.le_refl _, hm, ?_, ?_⟩⟩
 · simpa using hn
 · simp [<- hn]
theorem rc1 {P : Program} {fn : Func} {p u u2 : Tmp} {ty : TypeId} (h : fn.results = #[.cell p ty, .tmp u, .tmp u2]) (tmps : Array Value) (w : World) (g : Nat) (t : TypeId) (cs : Array Value) (fr : Nat × Nat) (d : TypeDesc)
 (hp : tmps.getD p undef = .pointer (some ⟨g, 0, none⟩)) (hg : w.heap[g]? = some (.cells cs t fr))
 (hu : P.underlying ty = some d) (hd : (match d with | .struct _ | .array _ _ => true | _ => false) = true) (hi : (P.info? ty).map (·.size) = some cs.size) :
 (results fn tmps).run P w = .ok (.tuple #[.agg cs, tmps.getD u undef, tmps.getD u2 undef]) w := by
 have hp' : tmps[p]?.getD undef = .pointer (some ⟨g, 0, none⟩) := by simpa using hp
 have hr := run_loadVar_row w g t ty cs fr d hg hu hd hi;simp only [results, h];simp [Sem.run_bind, Result.andThen, hp', asAddr, hr]
theorem take_u8' (l : List UInt8) (k : Nat) : (l.map u8v).take (k * 1) = (l.take k).map u8v := by simp
theorem on_ {w : World} {base g : Nat} {e e' : TypeId} {size n : Nat} {v : Value} {xs : List Value} {cs : Array Value} {fr : Nat × Nat} (h : w.ownsRow base e size v n xs) (hc : w.heap[g]? = some (.cells cs e' fr)) (he : e ≠ e') : v.ownBlock ≠ some g := by
 intro e1
 rcases h.2 with ⟨rfl, _⟩ | ⟨g', cap, cur, rfl, hb, hg', _⟩
 · cases e1
 · simp only [Value.ownBlock, Option.some.injEq] at e1;subst e1;rw [hg'] at hc;simp only [Option.some.injEq, Obj.cells.injEq] at hc;exact he hc.2.1
theorem text_ne {s t : ByteArray} (h : ¬ s = t) : (s.toList == t.toList) = false := by
 rw [beq_eq_false_iff_ne];intro e;apply h;rw [ByteArray.toList_eq, ByteArray.toList_eq] at e;have := Array.toList_inj.1 e;cases s; cases t;exact congrArg ByteArray.mk this
end Go.Proofs.YtclplbapedmihaaGreat
namespace Go.Proofs.YtclplbapedmihaaGreat
set_option maxRecDepth 4000
open Go.RowKit
set_option linter.unusedVariables false
theorem pr_ {G : World -> World -> Prop} (h : Pre G) (w : World) : G w w := h.refl w
def Kp (bs : List Nat) (w w' : World) : Prop := w.heap.size <= w'.heap.size /\ ∀ b ∈ bs, w'.heap[b]? = w.heap[b]?
theorem preKp (bs : List Nat) : Pre (Kp bs) := ⟨fun w => ⟨Nat.le_refl _, fun _ _ => rfl⟩, fun h k => ⟨Nat.le_trans h.1 k.1, fun b hb => (k.2 b hb).trans (h.2 b hb)⟩⟩
section
variable {P : Program} {ops : Array Oper} {Q : Exit -> Act -> World -> Prop} {md : Region.Mode} {G H : World -> World -> Prop} {n : Nat}
def wpH (P : Program) (md : Region.Mode) (ops : Array Oper) (n : Nat) (G H : World -> World -> Prop) (Q : Exit -> Act -> World -> Prop) : Nat -> Array Bool -> Act -> World -> Prop
 | 0, listed, a, w => Region.ready md ops listed = [] /\ Q .normal a w
 | fuel + 1, listed, a, w =>
  (Region.ready md ops listed = [] -> Q .normal a w) /\
  ∀ i ∈ Region.ready md ops listed, wpOp P ops Q i (fun a' w' => ((i < n -> G w w') /\ H w w') /\ wpH P md ops n G H Q fuel (listed.setIfInBounds i true) a' w') a w
theorem wpAny_of_H : ∀ (fuel : Nat) (listed : Array Bool) (a : Act) (w : World), wpH P md ops n G H Q fuel listed a w -> wpAny P md ops Q fuel listed a w
 | 0, _, _, _, h => h
 | fuel + 1, _, _, _, h => ⟨h.1, fun i hi => wpOp_mono (fun a' w' h' => wpAny_of_H fuel _ a' w' h'.2) (h.2 i hi)⟩
theorem wpH_first (hG : Pre G) (hH : Pre H) {K : World -> World -> Prop} (hK : Pre K) {i : Nat} {oi : Oper} {v : Value}
 (hin : ∀ (listed : Array Bool) (j : Nat) (w w' : World), Closed md ops listed -> j ∈ Region.ready md ops listed -> listed.getD i false = false -> (j < n -> G w w') -> H w w' -> K w w')
 (hi : ops[i]? = some oi) (hsel : ∀ (j : Nat) (o : Oper) cs b, ops[j]? = some o -> o.op ≠ .select cs b)
 (hQ : ∀ c a w, Q (.panic c) (a.put oi.dst v) w -> Q (.panic c) a w) :
 ∀ (fuel : Nat) (listed : Array Bool) (a : Act) (w : World),
  (∀ j oj, ops[j]? = some oj -> j ≠ i -> listed.getD j true = false -> (∀ e ∈ oj.after, Region.binds md e = true -> e.on ≠ i) -> oi.apart ops oj = true) ->
  Closed md ops listed -> i ∈ Region.ready md ops listed -> YieldsIf P ops (K w) oi v a ->
  wpH P md ops n G H Q fuel (listed.setIfInBounds i true) (a.put oi.dst v) w -> wpH P md ops n G H Q (fuel + 1) listed a w := by
 intro fuel
 induction fuel with
 | zero =>
  intro listed a w _ _ hr hy Hh;refine ⟨fun h => (by rw [h] at hr; cases hr), fun j hj => ?_⟩
  by_cases hji : j = i
  · subst hji; exact hy.wpOp hi (hK.refl w) ⟨⟨fun _ => hG.refl w, hH.refl w⟩, Hh⟩
  · have := ready_mono hj hji;rw [Hh.1] at this;cases this
 | succ fuel ih =>
  intro listed a w hfree hcl hr hy Hh;refine ⟨fun h => (by rw [h] at hr; cases hr), fun j hj => ?_⟩
  by_cases hji : j = i
  · subst hji; exact hy.wpOp hi (hK.refl w) ⟨⟨fun _ => hG.refl w, hH.refl w⟩, Hh⟩
  · have h1 := Hh.2 j (ready_mono hj hji);obtain ⟨hjun, oj, hoj, hall⟩ := mem_ready.1 hj;have hnot : ∀ e ∈ oj.after, Region.binds md e = true -> e.on ≠ i := fun e he hb heq => by
     have h1 := hall e he hb;have h0 := (mem_ready.1 hr).1;rw [heq] at h1
     rcases Nat.lt_or_ge i listed.size with h' | h'
     · simp [h'] at h0 h1; rw [h0] at h1; cases h1
     · simp [Array.getElem?_eq_none h'] at h1
    have h2 := wpOp_putIf hoj (hfree j oj hoj hji hjun hnot) (fun cs b => hsel i oi cs b hi) (fun cs b => hsel j oj cs b hoj) hQ hy h1;have hfree' : ∀ k ok, ops[k]? = some ok -> k ≠ i -> (listed.setIfInBounds j true).getD k true = false ->
     (∀ e ∈ ok.after, Region.binds md e = true -> e.on ≠ i) -> oi.apart ops ok = true := fun k ok hk hki hun hno => by
     refine hfree k ok hk hki ?_ hno
     by_cases hjk : j = k
     · subst hjk; exact hjun
     · rw [getD_set_ne true hjk] at hun; exact hun
    refine wpOp_mono (fun a' w' h3 => ?_) h2;obtain ⟨hy', hg', hk⟩ := h3;have hk' : K w w' := hin listed j w w' hcl hj (getD_both (mem_ready.1 hr).1) hg'.1 hg'.2;refine ⟨hg', ih (listed.setIfInBounds j true) a' w' hfree' (hcl.set hj) (ready_mono hr (Ne.symm hji)) (yields_on hK hy' hk') ?_⟩;rw [Array.setIfInBounds_comm _ _ hji];exact hk
theorem wpH_take (hG : Pre G) (hH : Pre H) {i : Nat} (hin : tailOk md ops n i = true) (d : Option Tmp) {oi : Oper} {v : Value} {fuel : Nat} {listed : Array Bool} {a : Act} {w : World} (hcl : closedB md ops listed = true) (hi : ops[i]? = some oi)
 (hs : Region.noSelect ops = true) (hf : Region.free md ops listed i = true) (hr : (Region.ready md ops listed).contains i = true)
 (hQ : ∀ c a w, Q (.panic c) (a.put oi.dst v) w -> Q (.panic c) a w) (hw : Region.wanted oi (yielded ops a.tmps) = true)
 (hy : ∀ w', G w w' -> (execOp a.eval oi).run P w' = .ok (.value v) w')
 (hd : oi.dst = d) (h : wpH P md ops n G H Q fuel (listed.setIfInBounds i true) (a.put d v) w) : wpH P md ops n G H Q (fuel + 1) listed a w :=
 wpH_first hG hH hG (fun _ _ _ _ hc hj hl hg _ => hg (tailOk_lt hc hin hj hl)) hi (Region.noSelect_spec hs) hQ fuel listed a w (Region.free_spec hi hf) (closed_of hcl) (by simpa using hr) (.inl ⟨hw, hy⟩) (hd ▸ h)
theorem wpH_takeH (hG : Pre G) (hH : Pre H) {i : Nat} (d : Option Tmp) {oi : Oper} {v : Value} {fuel : Nat} {listed : Array Bool} {a : Act} {w : World} (hcl : closedB md ops listed = true) (hi : ops[i]? = some oi)
 (hs : Region.noSelect ops = true) (hf : Region.free md ops listed i = true) (hr : (Region.ready md ops listed).contains i = true)
 (hQ : ∀ c a w, Q (.panic c) (a.put oi.dst v) w -> Q (.panic c) a w) (hw : Region.wanted oi (yielded ops a.tmps) = true)
 (hy : ∀ w', H w w' -> (execOp a.eval oi).run P w' = .ok (.value v) w')
 (hd : oi.dst = d) (h : wpH P md ops n G H Q fuel (listed.setIfInBounds i true) (a.put d v) w) : wpH P md ops n G H Q (fuel + 1) listed a w :=
 wpH_first hG hH hH (fun _ _ _ _ _ _ _ _ hh => hh) hi (Region.noSelect_spec hs) hQ fuel listed a w (Region.free_spec hi hf) (closed_of hcl) (by simpa using hr) (.inl ⟨hw, hy⟩) (hd ▸ h)
theorem wpH_pass (hG : Pre G) (hH : Pre H) {i : Nat} (d : Option Tmp) {oi : Oper} {fuel : Nat} {listed : Array Bool} {a : Act} {w : World} (hcl : closedB md ops listed = true) (hi : ops[i]? = some oi)
 (hs : Region.noSelect ops = true) (hf : Region.free md ops listed i = true) (hr : (Region.ready md ops listed).contains i = true)
 (hQ : ∀ c a w, Q (.panic c) (a.put oi.dst undef) w -> Q (.panic c) a w) (hw : Region.wanted oi (yielded ops a.tmps) = false)
 (hd : oi.dst = d) (h : wpH P md ops n G H Q fuel (listed.setIfInBounds i true) (a.put d undef) w) : wpH P md ops n G H Q (fuel + 1) listed a w :=
 wpH_first hG hH hH (fun _ _ _ _ _ _ _ _ hh => hh) hi (Region.noSelect_spec hs) hQ fuel listed a w (Region.free_spec hi hf) (closed_of hcl) (by simpa using hr) (.inr ⟨hw, rfl⟩) (hd ▸ h)
theorem wh1 (hG : Pre G) (hH : Pre H) (i : Nat) (d : Option Tmp) {oi : Oper} {v : Value} {fuel : Nat} {listed : Array Bool} {a a' : Act} {w : World} (h : wpH P md ops n G H Q fuel (listed.setIfInBounds i true) a' w) (hin : tailOk md ops n i = true := by kernel_rfl) (hcl : closedB md ops listed = true := by kernel_rfl) (hi : ops[i]? = some oi := by rfl) (hs : Region.noSelect ops = true := by kernel_rfl) (hf : Region.free md ops listed i = true := by kernel_rfl) (hr : (Region.ready md ops listed).contains i = true := by kernel_rfl) (hQ : ∀ c a w, Q (.panic c) (a.put oi.dst v) w -> Q (.panic c) a w := by exact fun _ _ _ h => h) (hw : Region.wanted oi (yielded ops a.tmps) = true := by rfl) (hd : oi.dst = d := by rfl) (hy : ∀ w', G w w' -> (execOp a.eval oi).run P w' = .ok (.value v) w' := by intro w' hw'; go_simp; with_reducible rfl) (ha : a.put d v = a' := by simp only [Act.put, aq1, aq2, aq3]; rfl) : wpH P md ops n G H Q (fuel + 1) listed a w := wpH_take hG hH hin d hcl hi hs hf hr hQ hw hy hd (ha ▸ h)
theorem wh0 (hG : Pre G) (hH : Pre H) (i : Nat) (d : Option Tmp) {oi : Oper} {v : Value} {fuel : Nat} {listed : Array Bool} {a a' : Act} {w : World} (h : wpH P md ops n G H Q fuel (listed.setIfInBounds i true) a' w) (hcl : closedB md ops listed = true := by kernel_rfl) (hi : ops[i]? = some oi := by rfl) (hs : Region.noSelect ops = true := by kernel_rfl) (hf : Region.free md ops listed i = true := by kernel_rfl) (hr : (Region.ready md ops listed).contains i = true := by kernel_rfl) (hQ : ∀ c a w, Q (.panic c) (a.put oi.dst v) w -> Q (.panic c) a w := by exact fun _ _ _ h => h) (hw : Region.wanted oi (yielded ops a.tmps) = true := by rfl) (hd : oi.dst = d := by rfl) (hy : ∀ w', H w w' -> (execOp a.eval oi).run P w' = .ok (.value v) w' := by intro w' hw'; go_simp; with_reducible rfl) (ha : a.put d v = a' := by simp only [Act.put, aq1, aq2, aq3]; rfl) : wpH P md ops n G H Q (fuel + 1) listed a w := wpH_takeH hG hH d hcl hi hs hf hr hQ hw hy hd (ha ▸ h)
theorem wpH_p (hG : Pre G) (hH : Pre H) (i : Nat) (d : Option Tmp) {oi : Oper} {fuel : Nat} {listed : Array Bool} {a a' : Act} {w : World} (h : wpH P md ops n G H Q fuel (listed.setIfInBounds i true) a' w) (hcl : closedB md ops listed = true := by kernel_rfl) (hi : ops[i]? = some oi := by rfl) (hs : Region.noSelect ops = true := by kernel_rfl) (hf : Region.free md ops listed i = true := by kernel_rfl) (hr : (Region.ready md ops listed).contains i = true := by kernel_rfl) (hQ : ∀ c a w, Q (.panic c) (a.put oi.dst undef) w -> Q (.panic c) a w := by exact fun _ _ _ h => h) (hw : Region.wanted oi (yielded ops a.tmps) = false := by rfl) (hd : oi.dst = d := by rfl) (ha : a.put d undef = a' := by simp only [Act.put, aq1, aq2, aq3]; rfl) : wpH P md ops n G H Q (fuel + 1) listed a w := wpH_pass hG hH d hcl hi hs hf hr hQ hw hd (ha ▸ h)
theorem wpH_one {i : Nat} {oi : Oper} {fuel : Nat} {listed : Array Bool} {a : Act} {w : World} (hi : ops[i]? = some oi)
 (hr : Region.ready md ops listed = [i]) (hw : Region.wanted oi (yielded ops a.tmps) = true)
 (h : oi.wp P a w (fun a' w' => G w w' /\ H w w' /\ wpH P md ops n G H Q fuel (listed.setIfInBounds i true) a' w') Q) : wpH P md ops n G H Q (fuel + 1) listed a w := by
 refine ⟨(fun h0 => by rw [hr] at h0; cases h0), fun j hj => ?_⟩;rw [hr, List.mem_singleton] at hj;subst hj;unfold wpOp;simp only [hi];rw [if_pos hw];exact .inl (Oper.wp_mono (fun a' w' h' => ⟨⟨fun _ => h'.1, h'.2.1⟩, h'.2.2⟩) h)
theorem wh_ {i : Nat} {oi : Oper} {fuel : Nat} {listed : Array Bool} {a : Act} {w : World} (hin : n <= i) (hi : ops[i]? = some oi)
 (hr : Region.ready md ops listed = [i]) (hw : Region.wanted oi (yielded ops a.tmps) = true)
 (h : oi.wp P a w (fun a' w' => H w w' /\ wpH P md ops n G H Q fuel (listed.setIfInBounds i true) a' w') Q) : wpH P md ops n G H Q (fuel + 1) listed a w := by
 refine ⟨(fun h0 => by rw [hr] at h0; cases h0), fun j hj => ?_⟩;rw [hr, List.mem_singleton] at hj;subst hj;unfold wpOp;simp only [hi];rw [if_pos hw];exact .inl (Oper.wp_mono (fun a' w' h' => ⟨⟨fun h0 => absurd h0 (Nat.not_lt.2 hin), h'.1⟩, h'.2⟩) h)
theorem wh2 {listed : Array Bool} {a : Act} {w : World} (hr : Region.ready md ops listed = []) (h : Q .normal a w) : ∀ fuel, wpH P md ops n G H Q fuel listed a w
 | 0 => ⟨hr, h⟩
 | _ + 1 => ⟨fun _ => h, by rw [hr]; simp⟩
theorem wr0 (n : Nat) (G H : World -> World -> Prop) {id : Nat} {a : Act} {w : World} (hm : P.follows .mixedOrders = true)
 (h : wpH P .any ops n G H Q ops.size (Array.replicate ops.size false) a w.drew) : (Code.region id ops true).wp P Q a w :=
 wp_region_any hm (wpAny_of_H _ _ _ _ h)
end
end Go.Proofs.YtclplbapedmihaaGreat
namespace Go.Proofs.YtclplbapedmihaaGreat
set_option maxRecDepth 4000
open Go.RowKit
set_option linter.unusedVariables false
set_option linter.unusedSimpArgs false
theorem clone_any (w : World) (a : Option Addr) (n c : Nat) (l : List UInt8) (hn : l.length = n) (h : Bs w (.slice a n c) l) (hr : n <= 140737488351232) :
 Calls Tryz.prog 77 #[.slice a n c] w fun e w' => ∃ v, e = .returned v /\ OwnB w' w.heap.size 5 v l /\ Below w.heap.size w w' := by
 subst hn;obtain ⟨i0, hi, hz0, hz1, hz2⟩ := info_parts info5;cases a with
 | none =>
  obtain ⟨h0, ao, cap, e, h1, h2, h3, h4⟩ := h;simp only [Value.slice.injEq] at e;obtain ⟨rfl, _, rfl⟩ := e;have : c = 0 := h3 rfl;subst this;have hl : l = [] := List.eq_nil_of_length_eq_zero (by omega);subst hl;have hq : ∀ w, (binOp .eql 30 (.slice none 0 0) (.slice none 0 0)).run Tryz.prog w = .ok (.bool true) w := fun w => Lib.run_eql_slice_nil (P := Tryz.prog) w 30 5 none 0 0 0 0 Tryz.underlying30
  simp only [List.length_nil];go_enter Tryz.func77, Tryz.ntmps77
  go_wp2
  go_ret
  exact ⟨_, rfl, OwnB.nil _ _ _, Below.refl _ _⟩
 | some ad =>
  have hq : ∀ w, (binOp .eql 30 (.slice (some ad) l.length c) (.slice none 0 0)).run Tryz.prog w = .ok (.bool false) w := fun w => Lib.run_eql_slice_nil (P := Tryz.prog) w 30 5 (some ad) l.length c 0 0 Tryz.underlying30
  go_enter Tryz.func77, Tryz.ntmps77
  go_wp2_with (at_builtin; refine wpList_append_rd _ rfl _ _ 30 rfl w.heap.size 5 i0 (.int .u8 0) 1 1 Tryz.underlying30 hi hz0 hz1 hz2 rfl (by decide) _ 0 [] rfl (World.ownsRow_made _ _ _ (Nat.le_refl _) (Nat.zero_le _) rfl) _ l.length (l.map u8v) rfl (Bs.below h ((Below.refl _ _).alloc (Nat.le_refl _) _)) (oc0 l) ?c1 (by decide) ?c2 ?_)
  case c1 => omega
  case c2 => simp
  intro v' w' hown hb;go_wp2
  go_ret
  refine ⟨_, rfl, ?_, ((Below.refl _ _).alloc (Nat.le_refl _) _).trans hb⟩;unfold OwnB;simpa using hown
theorem take_yes (w : World) (a : Option Addr) (n c : Nat) (l : List UInt8) (size : Nat) (hn : l.length = n) (h : Bs w (.slice a n c) l) (h1 : 1 <= size) (h8 : size <= 8) (hs : size <= n) (hr : n <= 140737488351232) :
 Calls Tryz.prog 160 #[.slice a n c, .int .i64 size] w fun e w' => ∃ v, e = .returned (.tuple #[.int .u64 (takeN l size), v, .bool true]) /\ OwnB w' w.heap.size 5 v (l.drop size) /\ Below w.heap.size w w' := by
 subst hn;obtain ⟨b, o, rfl, hb, hc⟩ := h.cells (by omega);obtain ⟨ao', cap', hsh, hcap, hmax⟩ := h.shape;simp only [Value.slice.injEq] at hsh;obtain ⟨rfl, _, rfl⟩ := hsh;unfold maxLen at hmax;obtain ⟨i0, hi, hz0, hz1, hz2⟩ := info_parts info5;obtain ⟨ao, hsl, hrd⟩ := slice_from (P := Tryz.prog) Tryz.underlying30 hi hz1 h .i64 size size rfl hs;have hrd' : Bs w (.slice ao (l.length - size) (c - size)) (l.drop size) := Bs.of_rd hrd (drop_u8 l size);clear hrd;have hcl := clone_any w ao (l.length - size) (c - size) (l.drop size) (by simp) hrd' (by omega);have HCL := hd_ hcl;clear hcl hrd' hi hz0 hz1 hz2;go_enter Tryz.func160, Tryz.ntmps160
 go_wp2_with (go_at_call 85; refine (sizeMayBe_yes _ _ (by omega) (by omega)).mono ?_; rintro e w' ⟨rfl, rfl⟩)
 go_loopw [7, 19] (fun nv iv wr => ∃ k m : Nat, k <= size /\ m = takeN l k /\ iv = .int .i64 k /\ nv = .int .u64 (m : Nat) /\ w = wr) (fun _ iv _ => size - (intOf iv).toNat)
 case atStart => exact ⟨0, 0, by omega, (tn1 l).symm, rfl, rfl, rfl⟩
 case round =>
  obtain ⟨k, m, hk, hm, rfl, rfl, rfl⟩ := hrel
  by_cases hlt : k < size
  · have hm' : m < 72057594037927936 := by rw [hm]; exact takeN_lt7 l k (by omega) (by omega)
    have hck := hc k (by omega);have hlt' := UInt8.toNat_lt l[k];have HM := hd_ hm;clear hm;go_wp2
    go_roundw
    case rel =>
     refine ⟨k + 1, m * 256 + l[k].toNat, by omega, by rw [tn0 l k (by omega), HM.out], by go_num, ?_, trivial⟩;rw [u64_or256 m _ hm' hlt']
    case measure => simp [intOf]; omega
  · obtain rfl : k = size := by omega
    have HM := hd_ hm;clear hm;go_wp2_with (go_at_call 77; refine HCL.out.mono ?_; rintro e w' ⟨v, rfl, hown, hbel⟩)
    go_ret3
    exact ⟨_, tup3 (by rw [HM.out]), by assumption, by assumption⟩
end Go.Proofs.YtclplbapedmihaaGreat
namespace Go.Proofs.YtclplbapedmihaaGreat
set_option maxRecDepth 4000
open Go.RowKit
set_option linter.unusedVariables false
set_option linter.unusedSimpArgs false
def endsR {α : Type} (B B' : Nat) (I Ix : List α -> World -> Prop) (xs : List α) (W : World) : Exit -> Act -> World -> Prop
 | .normal, _, W' => KeepsFrom B W W' /\ Below B' W W' /\ I xs W'
 | .ret, _, W' => KeepsFrom B W W' /\ Ix xs W'
 | _, _, _ => False
def Turns (B : Nat) (p : World -> Prop) : Prop := ∀ A l o o', p A -> B <= l -> A.heap[l]? = some o -> o.isCells = false -> p (A.putObj l o')
theorem put_below {B l : Nat} {A : World} {o : Obj} (o' : Obj) (hl : B <= l) (h : A.heap[l]? = some o) : Below B A (A.putObj l o') :=
 (Below.refl B A).grown (grownBy_putObj' A l o') (by have := (Array.getElem?_eq_some_iff.1 h).1; omega) (fun k e => by cases e; exact hl)
theorem tb0 {B n : Nat} {w : World} (hn : n <= B) : Turns B (Below n w) := fun A l o o' h hl ho _ => h.trans ((put_below o' hl ho).mono hn)
theorem turns_row {B base : Nat} {e : TypeId} {size n : Nat} {v : Value} {xs : List Value} : Turns B fun A => A.ownsRow base e size v n xs := fun A l o o' h hl ho hc => by
 refine World.ownsRow.kept h (grownBy_putObj' A l o') ?_
 rcases h.2 with ⟨rfl, _⟩ | ⟨g, cap, cur, rfl, _, hg, _⟩
 · exact .inl rfl
 · refine .inr fun e1 => ?_
   simp only [Value.ownBlock, Option.some.injEq] at e1;subst e1;rw [ho] at hg;obtain rfl := Option.some.inj hg;cases hc
theorem tb_ {B g : Nat} {cs : Array Value} {t : TypeId} {fr : Nat × Nat} : Turns B fun A => A.heap[g]? = some (.cells cs t fr) := fun A l o o' h hl ho hc => by
 refine (World.putObj_heap_other fun e => ?_).trans h;subst e;have h' : A.heap[g]? = some (.cells cs t fr) := h;rw [ho] at h';obtain rfl := Option.some.inj h';cases hc
section
variable {P : Program} {α : Type} {g : Operand} {ps : Array Tmp} {assign body : Code} {Q : Exit -> Act -> World -> Prop} {a : Act} {w : World}
theorem ranged {B : Nat} (hB : B <= w.heap.size) {gf : Nat} {lb : Array Value} (hg : a.eval g = .func (.func gf) #[] lb) (eg : ∀ args w, (callFunc gf args).run P w = .ok (.enter gf args) w)
 (encs : α -> Array Value) (hps : ∀ x, (encs x).size = ps.size)
 (Good : List α -> α -> World -> Prop) (I Ix : List α -> World -> Prop) (Mid : List α -> α -> Act -> World -> Prop) (S : List α -> Prop)
 (tI : ∀ xs, Turns w.heap.size (I xs)) (tX : ∀ xs, Turns w.heap.size (Ix xs)) (tM : ∀ xs x b, Turns w.heap.size (Mid xs x b))
 (gI : ∀ xs A B, I xs A -> Gr A B -> I xs B) (h0 : I [] w)
 (hassign : ∀ l xs x W, I xs W -> Good xs x W -> assign.wpIn (Fence.wide.inRound l) 0 P
  (Exit.then (fun b W' => KeepsFrom w.heap.size W W' /\ Below B W W' /\ Mid xs x b W') (fun _ _ _ => False)) { tmps := (ps.zip (encs x)).foldl (fun t (p, v) => t.setIfInBounds p v) a.tmps, defers := [] } W)
 (hbody : ∀ l xs x b W, Mid xs x b W -> body.wpIn (Fence.wide.inRound l) 0 P (endsR w.heap.size B I Ix (xs ++ [x]) W) b W)
 (hseq : ∀ (l : Nat) (J Jx : List α -> World -> Prop) (W : World), Gr w W -> (∀ xs A B, J xs A -> Gr A B -> J xs B) ->
  (∀ xs x V, J xs V -> Good xs x V -> YieldAt Fence.wide 0 P l (encs x) V fun e V' => (e = .returned (.bool true) /\ J (xs ++ [x]) V' /\ Below B V V') \/ (e = .returned (.bool false) /\ Jx (xs ++ [x]) V')) ->
  J [] W -> CallsIn Fence.wide 0 P gf (#[.func (.yield l) #[] #[]] ++ lb) W fun e V => (∃ v, e = .returned v) /\ ((∃ xs, S xs /\ J xs V) \/ (∃ xs, Jx xs V)))
 (hdone : ∀ D xs W, w.heap.size <= D -> S xs -> I xs W -> W.heap[D]? = some (.deferred (some [])) -> Q .normal { a with defers := { target := .collected D, args := #[] } :: a.defers } W)
 (hstop : ∀ D xs W, w.heap.size <= D -> Ix xs W -> W.heap[D]? = some (.deferred (some [])) -> Code.ret.wpIn Fence.wide 0 P Q { a with defers := { target := .collected D, args := #[] } :: a.defers } W) :
 (Code.rangeFunc g ps assign body).wpIn Fence.wide 0 P Q a w := by
 refine wpIn_rangeFunc fun fn _ => ?_
 let rc : LoopState -> Option Code -> Loop := fun st pe => { state := st, pending := pe, fn, tmps := a.tmps, params := ps, assign, body, defers := w.heap.size }
 let w1 : World := (w.alloc (.deferred (some []))).alloc (.loop (rc .ready none))
 have q1 : Gr w w1 := ((Gr.refl w).alloc _).alloc _;have hrec1 : w1.heap[w.heap.size + 1]? = some (.loop (rc .ready none)) := h1_ w _ _;have hdef1 : w1.heap[w.heap.size]? = some (.deferred (some [])) := h0_ w _ _
 let At : LoopState -> Option Code -> World -> Prop := fun st pe W => W.heap[w.heap.size + 1]? = some (.loop (rc st pe)) /\ W.heap[w.heap.size]? = some (.deferred (some []))
 have atGr : ∀ st pe A B, At st pe A -> Gr A B -> At st pe B := fun st pe A B h hq => ⟨hg_ hq h.1, hg_ hq h.2⟩
 have atPut : ∀ st pe st' pe' A, At st pe A -> At st' pe' (A.putObj (w.heap.size + 1) (.loop (rc st' pe'))) := fun st pe st' pe' A h =>
  ⟨World.putObj_heap_same (Array.getElem?_eq_some_iff.1 h.1).1, (World.putObj_heap_other (by omega)).trans h.2⟩
 have atKeep : ∀ st pe A B, At st pe A -> KeepsFrom w.heap.size A B -> At st pe B := fun st pe A B h hk => ⟨hk.same _ _ (by omega) h.1 rfl, hk.same _ _ (Nat.le_refl _) h.2 rfl⟩
 refine ⟨w.heap.size + 1, [{ target := .collected w.heap.size, args := #[] }], w1, { target := .fn (.func gf) lb, args := #[.func (.yield (w.heap.size + 1)) #[] #[]] }, w1, gf,
  #[.func (.yield (w.heap.size + 1)) #[] #[]] ++ lb, w1, run_enterLoop_outer _ _ _ _ _, ?_, fun _ _ => trivial, ?_, fun h => ?_, ?_⟩
 · simp only [resolve, hg];simp [go_sem]
 · simp [invoke, go_sem, eg]
 · cases h
 · refine (hseq (w.heap.size + 1) (fun xs W => I xs W /\ At .ready none W) (fun xs W => Ix xs W /\ At .done (some .ret) W) w1 q1
    (fun xs A B h hq => ⟨gI xs A B h.1 hq, atGr _ _ A B h.2 hq⟩) ?_ ⟨gI [] w w1 h0 q1, hrec1, hdef1⟩).mono ?_
   · rintro xs x V ⟨hi, hat⟩ hgood;refine ⟨fn, _, assign, body, run_yield (P := P) (args := encs x) hat.1 (hps x), roundIn_of_wpIn trivial (wpIn_mono (hassign _ xs x V hi hgood) ?_)⟩;rintro e b V1 he;cases e with
     | normal =>
      obtain ⟨k1, b1, hm⟩ := he;have at1 := atKeep _ _ _ _ hat k1;have at2 := atPut _ _ .busy none _ at1;refine ⟨_, run_beginRound at1.1 rfl, wpIn_mono (hbody _ xs x b _ (tM xs x b _ _ _ _ hm (by omega) at1.1 rfl)) ?_⟩;rintro e b2 V2 hp;cases e with
      | normal =>
       obtain ⟨k2, b2', hi2⟩ := hp;have at3 := atKeep _ _ _ _ at2 k2;exact ⟨_, _, run_endRound (P := P) none at3.1, .inl ⟨rfl, ⟨tI _ _ _ _ _ hi2 (by omega) at3.1 rfl, atPut _ _ _ _ _ at3⟩,
        ((b1.trans (put_below _ (by omega) at1.1)).trans b2').trans (put_below _ (by omega) at3.1)⟩⟩
      | ret =>
       obtain ⟨k2, hi2⟩ := hp;have at3 := atKeep _ _ _ _ at2 k2;exact ⟨_, _, run_endRound (P := P) (some .ret) at3.1, .inr ⟨rfl, tX _ _ _ _ _ hi2 (by omega) at3.1 rfl, atPut _ _ _ _ _ at3⟩⟩
      | exit id => exact hp.elim
      | goto t => exact hp.elim
      | panic ch => exact hp.elim
      | outgrown => exact hp.elim
     | exit id => exact he.elim
     | goto t => exact he.elim
     | ret => exact he.elim
     | panic ch => exact he.elim
     | outgrown => exact he.elim
   · rintro e V ⟨⟨v, rfl⟩, (⟨xs, hS, hi, hat⟩ | ⟨xs, hi, hat⟩)⟩
     · exact ⟨none, _, run_endLoop (P := P) hat.1 (fun h => by cases h), hdone _ xs _ (Nat.le_refl _) hS (tI _ _ _ _ _ hi (by omega) hat.1 rfl) ((World.putObj_heap_other (by omega)).trans hat.2)⟩
     · exact ⟨some .ret, _, run_endLoop (P := P) hat.1 (fun h => by cases h), hstop _ xs _ (Nat.le_refl _) (tX _ _ _ _ _ hi (by omega) hat.1 rfl) ((World.putObj_heap_other (by omega)).trans hat.2)⟩
theorem rput_yes (n size : Nat) (w : World) (h0 : 1 <= size) (h1 : size <= 8) (hn : n < 18446744073709551616):
 Calls Tryz.prog 73 #[.int .u64 n, .int .i64 size] w fun e w' => ∃ v, e = .returned v /\ OwnB w' w.heap.size 5 v (putL n size) /\ Below w.heap.size w w' := by
 obtain ⟨i0, hi, hz0, hz1, hz2⟩ := info_parts info5;go_enter Tryz.func73, Tryz.ntmps73
 go_wp2_with (at_make; refine wpList_make_full _ rfl _ _ 30 rfl w.heap.size 5 i0 (.int .u8 0) 1 Tryz.underlying30 hi hz0 hz1 _ _ _ _ size rfl rfl rfl rfl ?c1 ?c2 ?c3 ?_)
 case c1 => rw [hz2]; omega
 case c2 => unfold maxLen; omega
 case c3 => simp
 intro w1 hown hg;have hb : Below w.heap.size w w1 := (Below.refl _ _).grown hg (Nat.le_refl _) (fun _ h => by cases h);clear hg;go_wp2
 go_loopw [0, 6] (fun nv iv wr => ∃ k m : Nat, k <= size /\ m = n / 256 ^ k /\ iv = .int .i64 k /\ nv = .int .u64 (m : Nat) /\ wr.ownsRow w.heap.size 5 1 (.slice (some ⟨w.heap.size, 0, none⟩) size size) size (putK n size k) /\ Below w.heap.size w wr) (fun _ iv _ => size - (intOf iv).toNat)
 case atStart =>
  refine ⟨0, n, Nat.zero_le _, by simp, rfl, rfl, ?_, hb⟩;rw [putK_zero]
  rwa [toList_madeCells_one] at hown
 case round =>
  clear hown hb;obtain ⟨k, m, hk, hm, rfl, rfl, hown, hb⟩ := hrel;have hm' : m < 18446744073709551616 := by rw [hm]; exact Nat.lt_of_le_of_lt (Nat.div_le_self _ _) hn
  have HM := hd_ hm;clear hm
  by_cases hlt : k < size
  · have hf : wr.frozen? ⟨w.heap.size, size - 1 - k, none⟩ = false := hown.frozenAt _;obtain ⟨u, hu⟩ : ∃ u, wr.cell? ⟨w.heap.size, size - 1 - k, none⟩ = some u := by
     rw [hown.cellAt _ (by omega)];exact ⟨_, List.getElem?_eq_getElem (by rw [putK_length]; omega)⟩
    go_wp2
    go_roundw
    case rel =>
     refine ⟨k + 1, m / 256, by omega, by rw [HM.out, pow_step], by go_num, ?_, ?_, hb.setCell (Nat.le_refl _) _⟩
     · go_num
     · have := (hown.stored (size - 1 - k) (.int .u8 ((n / 256 ^ k % 256 : Nat) : Int))).1;rw [putK_step n size k hlt, <- HM.out] at this;simpa using this
    case measure => simp [intOf]; omega
  · obtain rfl : k = size := by omega
    go_wp2
    go_ret
    exact ⟨_, rfl, by unfold OwnB; rw [pl0, <- putK_full]; exact hown, hb⟩
end
end Go.Proofs.YtclplbapedmihaaGreat
namespace Go.Proofs.YtclplbapedmihaaGreat.Ng
set_option maxRecDepth 4000
open Go.RowKit
set_option linter.unusedVariables false
set_option linter.unusedSimpArgs false
def blk : Value -> List Nat
 | .slice (some ad) _ _ => [ad.block]
 | _ => []
theorem own_blk {w : World} {base : Nat} {e : TypeId} {v : Value} {size n : Nat} {xs : List Value} (h : w.ownsRow base e size v n xs) : ∀ k ∈ blk v, base <= k /\ k < w.heap.size := by
 intro k hk
 rcases h.2 with ⟨rfl, _⟩ | ⟨g, cap, cur, rfl, hb, hg, _⟩
 · cases hk
 · obtain rfl := List.mem_singleton.1 hk;exact ⟨hb, (Array.getElem?_eq_some_iff.1 hg).1⟩
section
variable {P : Program}
theorem run_append_where (w : World) (base : Nat) (t ty e : TypeId) (i : TypeInfo) (z : Value) (size bytes : Nat) (ht : P.underlying t = some (.slice e)) (hi : P.info? e = some i) (hz : i.zero = some z)
 (hsize : i.size = size) (hby : i.bytes = bytes) (hzs : z.cells.size = size) (hsz : 0 < size)
 (v : Value) (n : Nat) (xs : List Value) (hown : w.ownsRow base e size v n xs)
 (a : Addr) (m c : Nat) (news : List Value) (hl : news.length = m * size) (hnews : ∀ j u, news[j]? = some u -> w.cell? (a.add j) = some u) (h1 : ∀ u ∈ news, u.oneCell' = true)
 (h63 : n + m <= maxLen) (hbytes : (n + m) * bytes <= 140737488355328) (hbase : base <= w.heap.size) :
 ∃ v' w', (Builtin.append_ #[t, t] ty #[v, .slice (some a) m c]).run P w = .ok v' w' /\ w'.ownsRow base e size v' (n + m) (xs ++ news) /\ w.grownBy w' v.ownBlock /\ ∀ k ∈ blk v', k ∈ blk v \/ w.heap.size <= k := by
 obtain ⟨v', w', hr, h2, h3, h4⟩ := run_append_own (P := P) w base t ty e i z size bytes ht hi hz hsize hby hzs hsz v n xs hown a m c news hl hnews h1 h63 hbytes hbase;refine ⟨v', w', hr, h2, h3, ?_⟩;subst hsize;subst hby;have h63' : n + m <= 9223372036854775807 := by simp only [maxLen] at h63; omega
 rcases hown.2 with ⟨rfl, rfl⟩ | ⟨g, cap, cur, rfl, hbg, hg, hnc, hcm, hcs, htake⟩
 · by_cases hm : m = 0
   · have := h4.2 ⟨rfl, hm⟩;subst this;intro k hk; cases hk
   · have hr2 := run_append_nil (P := P) w t ty e i z ht hi hz a m c news hl hnews (by omega) (by omega) (by have hb := hbytes; simp only [Nat.zero_add] at hb; omega);rw [hr] at hr2;injection hr2 with e1 e2
     subst e1;intro k hk;exact .inr (Nat.le_of_eq (List.mem_singleton.1 hk).symm)
 · by_cases hroom : n + m <= cap
   · have hr2 := run_append_room (P := P) w t ty e i ht hi g n cap cur hg a m c news hl hnews h1 hroom (by rw [hl, hcs, <- Nat.add_mul]; exact Nat.mul_le_mul_right _ hroom);rw [hr] at hr2;injection hr2 with e1 e2
     subst e1;intro k hk;exact .inl hk
   · have holds : ∀ j u, xs[j]? = some u -> w.cell? ((⟨g, 0, none⟩ : Addr).add j) = some u := hown.cells (g := g) rfl;have hr2 := run_append_grow (P := P) w t ty e i z ht hi hz ⟨g, 0, none⟩ n cap xs hown.1 holds a m c news hl hnews (by omega) (by omega) (growslice_fits (by omega) hbytes);rw [hr] at hr2;injection hr2 with e1 e2
     subst e1;intro k hk;exact .inr (Nat.le_of_eq (List.mem_singleton.1 hk).symm)
theorem wl3 (w : World) {ops : Array Oper} {rest : List Oper} {o : Oper} {a : Act} {Q : Exit -> Act -> World -> Prop} (hgd : o.guard = none) (s x : Operand) (t : TypeId)
 (ho : o.op = .call { callee := .builtin .append, args := #[s, x], argTypes := #[t, t] })
 (base : Nat) (e : TypeId) (i : TypeInfo) (z : Value) (size bytes : Nat) (ht : P.underlying t = some (.slice e)) (hi : P.info? e = some i) (hz : i.zero = some z)
 (hsize : i.size = size) (hby : i.bytes = bytes) (hzs : z.cells.size = size) (hsz : 0 < size)
 (v : Value) (n : Nat) (xs : List Value) (hs : a.eval s = v) (hown : w.ownsRow base e size v n xs)
 (ad : Addr) (m c : Nat) (news : List Value) (hx : a.eval x = .slice (some ad) m c) (hl : news.length = m * size) (hnews : ∀ j u, news[j]? = some u -> w.cell? (ad.add j) = some u) (h1 : ∀ u ∈ news, u.oneCell' = true)
 (h63 : n + m <= maxLen) (hbytes : (n + m) * bytes <= 140737488355328) (hbase : base <= w.heap.size)
 (h : ∀ v' w', w'.ownsRow base e size v' (n + m) (xs ++ news) -> w.grownBy w' v.ownBlock -> (∀ k ∈ blk v', k ∈ blk v \/ w.heap.size <= k) -> wpList P ops Q rest (a.put o.dst v') w') : wpList P ops Q (o :: rest) a w := by
 refine wpList_plain hgd fun K hK => ?_
 obtain ⟨v', w', hr, h2, h3, h4⟩ := run_append_where (P := P) w base t o.type e i z size bytes ht hi hz hsize hby hzs hsz v n xs hown ad m c news hl hnews h1 h63 hbytes hbase;unfold Oper.wp execOp;simp only [ho, resolve, invoke, builtin, Sem.run_bind, Sem.run_pure, Result.andThen_ok, List.map_toArray, List.map_cons, List.map_nil, hs, hx, hr];exact hK _ _ (h v' w' h2 h3 h4)
end
theorem own_keepW {w w' : World} {base n size : Nat} {e : TypeId} {v : Value} {xs : List Value} (h : w.ownsRow base e size v n xs) (hb : ∀ k ∈ blk v, w'.heap[k]? = w.heap[k]?) : w'.ownsRow base e size v n xs := by
 refine ⟨h.1, ?_⟩
 rcases h.2 with h | ⟨g, cap, cur, rfl, h2, h3, h4⟩
 · exact .inl h
 · exact .inr ⟨g, cap, cur, rfl, h2, (hb g (List.mem_singleton.2 rfl)).trans h3, h4⟩
theorem far_sym {u v : Value} (h : ∀ k ∈ blk u, k ∉ blk v) : ∀ k ∈ blk v, k ∉ blk u := fun k h1 h2 => h k h2 h1
theorem blk_own {v : Value} {k : Nat} (h : v.ownBlock = some k) : k ∈ blk v := by
 unfold Value.ownBlock at h;split at h
 · injection h with h; subst h; exact List.mem_singleton.2 rfl
 · cases h
theorem far_grow {w w' : World} {base size n : Nat} {e : TypeId} {u v v' : Value} {xs : List Value} (h : w.ownsRow base e size u n xs) (hd : ∀ k ∈ blk u, k ∉ blk v) (hg : w.grownBy w' v.ownBlock) (hw : ∀ k ∈ blk v', k ∈ blk v \/ w.heap.size <= k) :
 w'.ownsRow base e size u n xs /\ ∀ k ∈ blk u, k ∉ blk v' := by
 refine ⟨own_keepW h fun k hk => hg.block k ((own_blk h k hk).2) fun e1 => hd k hk (blk_own e1.symm), fun k hk h2 => ?_⟩
 rcases hw k h2 with h3 | h3
 · exact hd k hk h3
 · have := (own_blk h k hk).2; omega
end Go.Proofs.YtclplbapedmihaaGreat.Ng
namespace Go.Proofs.YtclplbapedmihaaGreat
set_option maxRecDepth 4000
open Go.ChangeShapes Go.WideShapes Go.ChangeAt Go.RowKit
set_option linter.unusedVariables false
set_option linter.unusedSimpArgs false
section
variable {H : Type} {enc : TypeId × Value -> H} {P : Program} {W : World} {base : Nat}
theorem u8_of_wf {n : Int} (h : (Lit.int .u8 n).wf = true) : ∃ b : UInt8, n = (b.toNat : Int) := by
 have h' : 0 <= n /\ n <= 255 := by simpa [Lit.wf, IntKind.min, IntKind.max, IntKind.signed, IntKind.bits] using h
 refine ⟨UInt8.ofNat n.toNat, ?_⟩;rw [UInt8.toNat_ofNat', Nat.mod_eq_of_lt (by omega)];omega
theorem bytes_of_ints : ∀ (zs : List Int), (∀ n ∈ zs, (Lit.int .u8 n).wf = true) -> ∃ l : List UInt8, zs = l.map (fun b => (b.toNat : Int))
 | [], _ => ⟨[], rfl⟩
 | z :: zs, h => by
  obtain ⟨b, hb⟩ := u8_of_wf (h z (by simp));obtain ⟨l, hl⟩ := bytes_of_ints zs (fun n hn => h n (by simp [hn]));exact ⟨b :: l, by rw [hb, hl]; rfl⟩
theorem bytes_cell2 {m : Nat} {t e : TypeId} {cs : List Value} {y : DataW H × List MemPlace} (ht : P.underlying t = some (.slice e)) (he : P.underlying e = some (.int .u8)) (hc : P.cellsOf e = 1)
 (h : DataW.trod enc P W 0 (fun _ => true) true m t cs = some y) : ∃ a n c l, cs = [.slice a n c] /\ l.length = n /\ Bs W (.slice a n c) l := by
 rcases open_ints ht he hc h with ⟨hcs, _⟩ | ⟨x, l, c', zs, hcs, _, hl, hm, hz, _, hcell, hwz⟩
 · exact ⟨none, 0, 0, [], hcs, rfl, Bs.nil _⟩
 · obtain ⟨bs, rfl⟩ := bytes_of_ints zs hwz;simp at hz;have hlen : (bs.take l).length = l := by rw [List.length_take]; omega
   refine ⟨some x, l, c', bs.take l, hcs, hlen, ?_⟩;unfold Bs;rw [hlen];refine ⟨by simp; omega, some x, c', rfl, hl, hm, (fun h => by cases h), fun ad had j u hu => ?_⟩;obtain rfl := Option.some.inj had;rw [List.getElem?_map] at hu;cases hj : (bs.take l)[j]? with
   | none => rw [hj] at hu; cases hu
   | some b =>
    rw [hj] at hu;obtain rfl := Option.some.inj hu;have hjn : j < l := by have := (List.getElem?_eq_some_iff.1 hj).1; omega
    have hb : bs[j]? = some b := by rwa [List.getElem?_take, if_pos hjn] at hj
    have := hcell j (by simp; omega);rw [this];simp [u8v, hb]
end
end Go.Proofs.YtclplbapedmihaaGreat
namespace Go.Proofs.YtclplbapedmihaaGreat
set_option maxRecDepth 4000
open Go.RowKit
set_option linter.unusedVariables false
set_option linter.unusedSimpArgs false
end Go.Proofs.YtclplbapedmihaaGreat
namespace Go.Proofs.YtclplbapedmihaaGreat
set_option maxRecDepth 4000
open Go.RowKit
set_option linter.unusedVariables false
section
variable {P : Program} {ops : Array Oper} {Q : Exit -> Act -> World -> Prop} {md : Region.Mode} {G : World -> World -> Prop} {n : Nat}
theorem wpG_four {i j k l : Nat} {oi oj ok ol : Oper} {fuel : Nat} {listed : Array Bool} {a : Act} {w : World} (hi : ops[i]? = some oi) (hj : ops[j]? = some oj) (hk : ops[k]? = some ok) (hl : ops[l]? = some ol)
 (hr : Region.ready md ops listed = [i, j, k, l]) (hw : Region.wanted oi (yielded ops a.tmps) = true) (hw2 : Region.wanted oj (yielded ops a.tmps) = true) (hw3 : Region.wanted ok (yielded ops a.tmps) = true) (hw4 : Region.wanted ol (yielded ops a.tmps) = true)
 (h : oi.wp P a w (fun a' w' => G w w' /\ wpG P md ops n G Q fuel (listed.setIfInBounds i true) a' w') Q)
 (h2 : oj.wp P a w (fun a' w' => G w w' /\ wpG P md ops n G Q fuel (listed.setIfInBounds j true) a' w') Q)
 (h3 : ok.wp P a w (fun a' w' => G w w' /\ wpG P md ops n G Q fuel (listed.setIfInBounds k true) a' w') Q)
 (h4 : ol.wp P a w (fun a' w' => G w w' /\ wpG P md ops n G Q fuel (listed.setIfInBounds l true) a' w') Q) : wpG P md ops n G Q (fuel + 1) listed a w := by
 refine ⟨(fun h0 => by rw [hr] at h0; cases h0), fun q hq => ?_⟩;rw [hr] at hq;simp only [List.mem_cons, List.not_mem_nil, or_false] at hq
 rcases hq with rfl | rfl | rfl | rfl
 · unfold wpOp;simp only [hi];rw [if_pos hw];exact .inl (Oper.wp_mono (fun a' w' h' => ⟨fun _ => h'.1, h'.2⟩) h)
 · unfold wpOp;simp only [hj];rw [if_pos hw2];exact .inl (Oper.wp_mono (fun a' w' h' => ⟨fun _ => h'.1, h'.2⟩) h2)
 · unfold wpOp;simp only [hk];rw [if_pos hw3];exact .inl (Oper.wp_mono (fun a' w' h' => ⟨fun _ => h'.1, h'.2⟩) h3)
 · unfold wpOp;simp only [hl];rw [if_pos hw4];exact .inl (Oper.wp_mono (fun a' w' h' => ⟨fun _ => h'.1, h'.2⟩) h4)
theorem wpG_hide {fuel : Nat} {listed : Array Bool} {a : Act} {w : World} (l : Array Bool) (hl : listed = l) (k : Nat) (hk : fuel = k) (h : ∀ a0 Q0, a0 = a -> Q0 = Q -> wpG P md ops n G Q0 k l a0 w) : wpG P md ops n G Q fuel listed a w := by
 rw [hl, hk];exact h a Q rfl rfl
theorem size_put (a : Act) (i : Tmp) (v : Value) : (a.put (some i) v).tmps.size = a.tmps.size := by simp [Act.put]
theorem ep_ {a : Act} {i j : Tmp} {v : Value} (h : i ≠ j) : (a.put (some i) v).eval (.tmp j) = a.eval (.tmp j) := by
 simp [Act.put, Act.eval, h]
theorem ep0 {a : Act} {i : Tmp} {v : Value} (h : i < a.tmps.size) : (a.put (some i) v).eval (.tmp i) = v := by
 simp [Act.put, Act.eval, h]
theorem ps_ (i j : Tmp) (h : i ≠ j) (a : Act) (u v : Value) : (a.put (some i) u).put (some j) v = (a.put (some j) v).put (some i) u := by
 simp only [Act.put];rw [Array.setIfInBounds_comm _ _ h]
theorem put_none (a : Act) (v : Value) : a.put none v = a := rfl
theorem wv_ (d : Option Tmp) {o : Oper} {a : Act} {w w' : World} {v : Value} {next : Act -> World -> Prop} (h : (execOp a.eval o).run P w = .ok (.value v) w') (hd : o.dst = d) (hn : next (a.put d v) w') : o.wp P a w next Q := by
 subst hd;unfold Oper.wp;rw [h];exact hn
theorem wp_enter (d : Option Tmp) {o : Oper} {a : Act} {w : World} {f : FuncId} {args : Array Value} {next : Act -> World -> Prop} (h : (execOp a.eval o).run P w = .ok (.enter f args) w)
 (hd : o.dst = d) (hc : Calls P f args w fun e w' => ∃ v, e = .returned v /\ next (a.put d v) w') : o.wp P a w next Q := by
 subst hd;unfold Oper.wp;rw [h];refine hc.mono ?_;rintro e w' ⟨v, rfl, hn⟩;exact hn
theorem ym_ {a : Act} {x : Operand} {v : Value} {w : World} {d : Option Tmp} {t : TypeId} {pos : String} {af : Array Edge} (h : a.eval x = v) : (execOp a.eval { dst := d, op := .move x, type := t, pos := pos, after := af, guard := none }).run P w = .ok (.value v) w := by
 rw [<- h];rfl
theorem ye_ {a : Act} {x : Operand} {vs : Array Value} {ix : Nat} {v : Value} {w : World} {d : Option Tmp} {t : TypeId} {pos : String} {af : Array Edge} (h : a.eval x = .tuple vs) (hv : vs[ix]? = some v) : (execOp a.eval { dst := d, op := .extract x ix, type := t, pos := pos, after := af, guard := none }).run P w = .ok (.value v) w := by
 simp only [execOp, h];simp [Instr.extract, hv, go_sem]
end
end Go.Proofs.YtclplbapedmihaaGreat
