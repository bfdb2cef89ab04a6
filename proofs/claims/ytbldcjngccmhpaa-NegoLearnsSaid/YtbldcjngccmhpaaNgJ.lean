/-
  A map of ints to ints in memory, as a function; slices.Backward over a row of options.
-/
import Derived.Test.YtbldcjngccmhpaaNgM
import Derived.Test.YtbldcjngccmhpaaRng
import Derived.Maps.OwnSet
import Derived.RangeFuncNested
import Derived.Shelf.Abstract
import Derived.WalkKit
import Derived.OwnWalkIn
import Derived.TacticsInMore
import Derived.LoopNIn
import Derived.LoopIn
namespace Go.Proofs.Ytbldcjngccmhpaa.Ng
open Go.RowKit Go.Shelf O
open Go.Maps (Keyed)
set_option linter.unusedVariables false
set_option linter.unusedSimpArgs false
def upd (f : Int → Option Nat) (k : Int) (o : Option Nat) : Int → Option Nat := fun x => if x = k then o else f x
/-! A map of ints. -/
def I64 (k : Int) : Prop := -9223372036854775808 ≤ k ∧ k ≤ 9223372036854775807
theorem I64.wf {k : Int} (h : I64 k) : (Lit.int .i64 k).wf = true := by
  show (decide (-9223372036854775808 ≤ k) && decide (k ≤ 9223372036854775807)) = true
  simp [h.1, h.2]
theorem law : Keyed Try.prog 3 := Maps.int_keyed Try.underlying3
theorem keyI {k : Int} (h : I64 k) : keyOf Try.prog 3 (.int .i64 k) = some (.int .i64 k) := Maps.keyOf_int_mk Try.underlying3 h.wf
theorem zeroI (w : World) : (zeroValue 3).run Try.prog w = .ok (.int .i64 0) w := by kernel_rfl
/-- Block b is a map of n entries that reads as f. -/
def FM (w : World) (b : Nat) (f : Int → Option Nat) (n : Nat) : Prop :=
  ∃ D, w.ownsMap Try.prog 3 (plainElem (H := Unit) Try.prog 3) b n D ∧ Maps.size D = n ∧ ∀ k, I64 k → Maps.has D (.int .i64 k) = (f k).isSome ∧ D.atKey (.int .i64 k) (.lit (.int .i64 0)) = .lit (.int .i64 (((f k).getD 0 : Nat) : Int))
theorem own_tight {w : World} {b n : Nat} {D : DataW Unit} (h : w.ownsMap Try.prog 3 (plainElem Try.prog 3) b n D) : w.ownsMap Try.prog 3 (plainElem Try.prog 3) b (Maps.size D) D := by
  obtain ⟨es, clock, h1, h2, h3, h4⟩ := h
  refine ⟨es, clock, h1, h2, ?_, h4⟩
  rw [h4, Maps.size_eq, length_sorted]
  simp
theorem isKey (k : Int) : WideAt.IsKeyLit (.int .i64 k) := by unfold WideAt.IsKeyLit; trivial
theorem FM.lt {w : World} {b n : Nat} {f : Int → Option Nat} (h : FM w b f n) : b < w.heap.size := by
  obtain ⟨D, h1, _⟩ := h
  exact h1.lt
theorem FM.keep {w w' : World} {b n : Nat} {f : Int → Option Nat} (h : FM w b f n) (hb : w'.heap[b]? = w.heap[b]?) : FM w' b f n := by
  obtain ⟨D, ⟨a, c, h1, h2⟩, h3⟩ := h
  exact ⟨D, ⟨a, c, hb.trans h1, h2⟩, h3⟩
theorem FM.made (w : World) : FM (w.alloc (.map #[] 0)) w.heap.size (fun _ => none) 0 :=
  ⟨.map [], World.ownsMap_made _ _ _ _, rfl, fun k hk => ⟨rfl, rfl⟩⟩
theorem FM.copy {w : World} {b n : Nat} {f : Int → Option Nat} (h : FM w b f n) : ∃ a c, w.heap[b]? = some (.map a c) ∧ ∀ w' b', w'.heap[b']? = some (.map a c) → FM w' b' f n := by
  obtain ⟨D, ⟨a, c, h1, h2, h4, h5⟩, h3⟩ := h
  exact ⟨a, c, h1, fun w' b' hb => ⟨D, ⟨a, c, hb, h2, h4, h5⟩, h3⟩⟩
/-- 'i, ok := m[k]'. -/
theorem FM.look {w : World} {b n : Nat} {f : Int → Option Nat} (h : FM w b f n) {k : Int} (hk : I64 k) :
    (Instr.lookup 69 (.map (some b)) (.int .i64 k) true).run Try.prog w = .ok (.tuple #[.int .i64 (((f k).getD 0 : Nat) : Int), .bool (f k).isSome]) w := by
  obtain ⟨D, ho, hs, hf⟩ := h
  obtain ⟨v, ps, h1, h2⟩ := ho.look_ok law Try.underlying69 (zeroI w) (plainElem_int Try.underlying3 (a := 0) (by decide)) (keyI hk)
  obtain ⟨c, rfl, h3, h4⟩ := plainElem_int_inv Try.underlying3 h2
  obtain ⟨g1, g2⟩ := hf k hk
  have h5 := congrArg Prod.fst h3
  simp only at h5
  rw [g2] at h5
  have h6 : (((f k).getD 0 : Nat) : Int) = c := by simpa using h5
  rw [← h6, g1] at h1
  exact h1
/-- 'm[k] = i'. -/
theorem FM.set {w : World} {b n : Nat} {f : Int → Option Nat} (h : FM w b f n) {k : Int} (hk : I64 k) {i : Nat} (hi : (i : Int) ≤ 9223372036854775807) (hn : n < maxLen) :
    ∃ w', (Instr.mapUpdate 69 (.map (some b)) (.int .i64 k) (.int .i64 (i : Int))).run Try.prog w = .ok () w' ∧ FM w' b (upd f k (some i)) (if (f k).isSome then n else n + 1) ∧ w.mapTurned w' b := by
  obtain ⟨D, ho, hs, hf⟩ := h
  have hw : (Lit.int .i64 (i : Int)).wf = true := I64.wf ⟨by omega, hi⟩
  obtain ⟨w', hr, ho', ht⟩ := ho.store law Try.underlying69 hn (keyI hk) (plainElem_int Try.underlying3 hw)
  have hT := ho.tidy law
  have hsz := Maps.size_put (k := .int .i64 k) hT (DataW.lit (.int .i64 (i : Int)))
  rw [(hf k hk).1, hs] at hsz
  refine ⟨w', hr, ⟨_, ?_, hsz, fun x hx => ?_⟩, ht⟩
  · rw [← hsz]; exact own_tight ho'
  · unfold upd
    by_cases e : x = k
    · subst e
      rw [if_pos rfl, Maps.has_put_same hT.isMap (isKey _), Maps.atKey_put_same hT.isMap (isKey _)]
      exact ⟨rfl, rfl⟩
    · have hne : Lit.int .i64 x ≠ Lit.int .i64 k := fun h => e (by simpa using h)
      rw [if_neg e, Maps.has_put_other hne, Maps.atKey_put_other hne]
      exact hf x hx
/-- 'delete(m, k)'. -/
theorem FM.del {w : World} {b n : Nat} {f : Int → Option Nat} (h : FM w b f (n + 1)) {k : Int} (hk : I64 k) (hs : (f k).isSome = true) (ty : TypeId) :
    ∃ w', (Builtin.delete_ #[69, 3] ty #[.map (some b), .int .i64 k]).run Try.prog w = .ok (.tuple #[]) w' ∧ FM w' b (upd f k none) n ∧ w.mapTurned w' b := by
  obtain ⟨D, ho, hsz, hf⟩ := h
  obtain ⟨w', hr, ho', ht⟩ := ho.drop law Try.underlying69 (keyI hk) ty
  have hT := ho.tidy law
  have hsz2 := Maps.size_del (k := .int .i64 k) hT
  rw [(hf k hk).1, hs, if_pos rfl, hsz] at hsz2
  have e1 : Maps.size (D.del (.int .i64 k)) = n := by omega
  refine ⟨w', hr, ⟨_, ?_, e1, fun x hx => ?_⟩, ht⟩
  · rw [← e1]; exact own_tight ho'
  · unfold upd
    by_cases e : x = k
    · subst e
      rw [if_pos rfl, Maps.has_del_same, Maps.atKey_del_same]
      exact ⟨rfl, rfl⟩
    · have hne : Lit.int .i64 x ≠ Lit.int .i64 k := fun h => e (by simpa using h)
      rw [if_neg e, Maps.has_del_other hne, Maps.atKey_del_other hne]
      exact hf x hx

theorem FM.below {w w' : World} {b n : Nat} {f : Int → Option Nat} (h : FM w b f n) (hb : Below w.heap.size w w') : FM w' b f n := h.keep (hb.block _ h.lt)
theorem wpListIn_mapUpdate_fm {F : Fence} {nF : Nat} (w : World) {ops : Array Oper} {rest : List Oper} {o : Oper} {a : Act} {Q : Exit → Act → World → Prop}
    (hg : o.guard = none) (m x v : Operand) (hop : o.op = Op.mapUpdate 69 m x v) (b n : Nat) (f : Int → Option Nat) (k : Int) (i : Nat)
    (hm : a.eval m = .map (some b)) (hx : a.eval x = .int .i64 k) (hv : a.eval v = .int .i64 (i : Int)) (h : FM w b f n) (hk : I64 k) (hi : (i : Int) ≤ 9223372036854775807) (hn : n < maxLen)
    (hK : ∀ w', FM w' b (upd f k (some i)) (if (f k).isSome then n else n + 1) → w.grownBy w' (some b) → wpListIn F nF Try.prog ops Q rest (a.put o.dst undef) w') : wpListIn F nF Try.prog ops Q (o :: rest) a w := by
  refine wpListIn_plain hg fun K' hK' => ?_
  obtain ⟨w', hr, h1, h2⟩ := h.set hk hi hn
  unfold Oper.wpIn
  refine ⟨by simp [Oper.about, hop], ?_⟩
  rw [Oper.semAt_plain F _ _ (by rw [hop]; intro c hc'; cases hc')]
  simp [execOp, hop, hm, hx, hv, hr, Result.andThen]
  exact hK' _ _ (hK w' h1 h2.grown)
section
variable {P : Program} {α : Type} {g : Operand} {ps : Array Tmp} {assign body : Code} {Q : Exit → Act → World → Prop} {a : Act} {w : World}
/-- As 'ranged', but the iterator knows what stands between two rounds. -/
theorem rangedI {B : Nat} (hB : B ≤ w.heap.size) {gf : Nat} {lb : Array Value} (hg : a.eval g = .func (.func gf) #[] lb) (eg : ∀ args w, (callFunc gf args).run P w = .ok (.enter gf args) w)
    (encs : α → Array Value) (hps : ∀ x, (encs x).size = ps.size)
    (Good : List α → α → World → Prop) (I Ix : List α → World → Prop) (Mid : List α → α → Act → World → Prop) (S : List α → Prop)
    (tI : ∀ xs, Turns w.heap.size (I xs)) (tX : ∀ xs, Turns w.heap.size (Ix xs)) (tM : ∀ xs x b, Turns w.heap.size (Mid xs x b))
    (gI : ∀ xs A B, I xs A → Gr A B → I xs B) (h0 : I [] w)
    (hassign : ∀ l xs x W, I xs W → Good xs x W → assign.wpIn (Fence.wide.inRound l) 0 P
      (Exit.then (fun b W' => KeepsFrom w.heap.size W W' ∧ Below B W W' ∧ Mid xs x b W') (fun _ _ _ => False)) { tmps := (ps.zip (encs x)).foldl (fun t (p, v) => t.setIfInBounds p v) a.tmps, defers := [] } W)
    (hbody : ∀ l xs x b W, Mid xs x b W → body.wpIn (Fence.wide.inRound l) 0 P (endsR w.heap.size B I Ix (xs ++ [x]) W) b W)
    (hseq : ∀ (l : Nat) (J Jx : List α → World → Prop) (W : World), Gr w W → (∀ xs A, J xs A → I xs A) → (∀ xs A B, J xs A → Gr A B → J xs B) →
      (∀ xs x V, J xs V → Good xs x V → YieldAt Fence.wide 0 P l (encs x) V fun e V' => (e = .returned (.bool true) ∧ J (xs ++ [x]) V' ∧ Below B V V') ∨ (e = .returned (.bool false) ∧ Jx (xs ++ [x]) V')) →
      J [] W → CallsIn Fence.wide 0 P gf (#[.func (.yield l) #[] #[]] ++ lb) W fun e V => (∃ v, e = .returned v) ∧ ((∃ xs, S xs ∧ J xs V) ∨ (∃ xs, Jx xs V)))
    (hdone : ∀ D xs W, w.heap.size ≤ D → S xs → I xs W → W.heap[D]? = some (.deferred (some [])) → Q .normal { a with defers := { target := .collected D, args := #[] } :: a.defers } W)
    (hstop : ∀ D xs W, w.heap.size ≤ D → Ix xs W → W.heap[D]? = some (.deferred (some [])) → Code.ret.wpIn Fence.wide 0 P Q { a with defers := { target := .collected D, args := #[] } :: a.defers } W) :
    (Code.rangeFunc g ps assign body).wpIn Fence.wide 0 P Q a w := by
  refine wpIn_rangeFunc fun fn _ => ?_
  let rc : LoopState → Option Code → Loop := fun st pe => { state := st, pending := pe, fn, tmps := a.tmps, params := ps, assign, body, defers := w.heap.size }
  let w1 : World := (w.alloc (.deferred (some []))).alloc (.loop (rc .ready none))
  have q1 : Gr w w1 := ((Gr.refl w).alloc _).alloc _
  have hrec1 : w1.heap[w.heap.size + 1]? = some (.loop (rc .ready none)) := heap2_1' w _ _
  have hdef1 : w1.heap[w.heap.size]? = some (.deferred (some [])) := heap2_0' w _ _
  -- the loop's two blocks as they lie between two rounds
  let At : LoopState → Option Code → World → Prop := fun st pe W => W.heap[w.heap.size + 1]? = some (.loop (rc st pe)) ∧ W.heap[w.heap.size]? = some (.deferred (some []))
  have atGr : ∀ st pe A B, At st pe A → Gr A B → At st pe B := fun st pe A B h hq => ⟨heap_gr hq h.1, heap_gr hq h.2⟩
  have atPut : ∀ st pe st' pe' A, At st pe A → At st' pe' (A.putObj (w.heap.size + 1) (.loop (rc st' pe'))) := fun st pe st' pe' A h =>
    ⟨World.putObj_heap_same (Array.getElem?_eq_some_iff.1 h.1).1, (World.putObj_heap_other (by omega)).trans h.2⟩
  have atKeep : ∀ st pe A B, At st pe A → KeepsFrom w.heap.size A B → At st pe B := fun st pe A B h hk => ⟨hk.same _ _ (by omega) h.1 rfl, hk.same _ _ (Nat.le_refl _) h.2 rfl⟩
  refine ⟨w.heap.size + 1, [{ target := .collected w.heap.size, args := #[] }], w1, { target := .fn (.func gf) lb, args := #[.func (.yield (w.heap.size + 1)) #[] #[]] }, w1, gf,
    #[.func (.yield (w.heap.size + 1)) #[] #[]] ++ lb, w1, run_enterLoop_outer _ _ _ _ _, ?_, fun _ _ => trivial, ?_, fun h => ?_, ?_⟩
  · simp only [resolve, hg]
    simp [go_sem]
  · simp [invoke, go_sem, eg]
  · cases h
  · refine (hseq (w.heap.size + 1) (fun xs W => I xs W ∧ At .ready none W) (fun xs W => Ix xs W ∧ At .done (some .ret) W) w1 q1 (fun xs A h => h.1)
      (fun xs A B h hq => ⟨gI xs A B h.1 hq, atGr _ _ A B h.2 hq⟩) ?_ ⟨gI [] w w1 h0 q1, hrec1, hdef1⟩).mono ?_
    · rintro xs x V ⟨hi, hat⟩ hgood
      refine ⟨fn, _, assign, body, run_yield (P := P) (args := encs x) hat.1 (hps x), roundIn_of_wpIn trivial (wpIn_mono (hassign _ xs x V hi hgood) ?_)⟩
      rintro e b V1 he
      cases e with
      | normal =>
        obtain ⟨k1, b1, hm⟩ := he
        have at1 := atKeep _ _ _ _ hat k1
        have at2 := atPut _ _ .busy none _ at1
        refine ⟨_, run_beginRound at1.1 rfl, wpIn_mono (hbody _ xs x b _ (tM xs x b _ _ _ _ hm (by omega) at1.1 rfl)) ?_⟩
        rintro e b2 V2 hp
        cases e with
        | normal =>
          obtain ⟨k2, b2', hi2⟩ := hp
          have at3 := atKeep _ _ _ _ at2 k2
          exact ⟨_, _, run_endRound (P := P) none at3.1, .inl ⟨rfl, ⟨tI _ _ _ _ _ hi2 (by omega) at3.1 rfl, atPut _ _ _ _ _ at3⟩,
            ((b1.trans (put_below _ (by omega) at1.1)).trans b2').trans (put_below _ (by omega) at3.1)⟩⟩
        | ret =>
          obtain ⟨k2, hi2⟩ := hp
          have at3 := atKeep _ _ _ _ at2 k2
          exact ⟨_, _, run_endRound (P := P) (some .ret) at3.1, .inr ⟨rfl, tX _ _ _ _ _ hi2 (by omega) at3.1 rfl, atPut _ _ _ _ _ at3⟩⟩
        | exit id => exact hp.elim
        | goto t => exact hp.elim
        | panic ch => exact hp.elim
        | outgrown => exact hp.elim
      | exit id => exact he.elim
      | goto t => exact he.elim
      | ret => exact he.elim
      | panic ch => exact he.elim
      | outgrown => exact he.elim
    · rintro e V ⟨⟨v, rfl⟩, (⟨xs, hS, hi, hat⟩ | ⟨xs, hi, hat⟩)⟩
      · exact ⟨none, _, run_endLoop (P := P) hat.1 (fun h => by cases h), hdone _ xs _ (Nat.le_refl _) hS (tI _ _ _ _ _ hi (by omega) hat.1 rfl) ((World.putObj_heap_other (by omega)).trans hat.2)⟩
      · exact ⟨some .ret, _, run_endLoop (P := P) hat.1 (fun h => by cases h), hstop _ xs _ (Nat.le_refl _) (tX _ _ _ _ _ hi (by omega) hat.1 rfl) ((World.putObj_heap_other (by omega)).trans hat.2)⟩
end
section
attribute [local go_sem] Oper.semAt_some
/-- What a round is handed: a place, the option there. -/
def encI (x : Nat × Tg) : Array Value := #[.int .i64 (x.1 : Int), .agg #[.int .i64 x.2.typ, x.2.val]]
theorem backward_any (a : Option Addr) (n c : Nat) (w : World) :
    Calls Try.prog 51 #[.slice a n c] w fun e w' => e = .returned (.func (.func 61) #[] #[.pointer (some ⟨w.heap.size, 0, none⟩)]) ∧ w' = w.alloc (.cells #[.slice a n c] 23) := by
  go_enter Try.func51, Try.ntmps51
  go_wp2
  go_ret
  exact ⟨rfl, rfl⟩
/-- What a round knows of what it is handed. -/
def GoodI (ts : List Tg) (xs : List (Nat × Tg)) (x : Nat × Tg) : Prop := x.1 + xs.length + 1 = ts.length ∧ ts[x.1]? = some x.2
set_option maxRecDepth 100000 in
set_option maxHeartbeats 4000000 in
theorem backward1_in (lp B0 bx : Nat) (w0 W : World) (a : Option Addr) (n c : Nat) (ts : List Tg) (hr : TR w0 (.slice a n c) n ts) (hn : n ≤ 65536) (hW : Below w0.heap.size w0 W) (hB0 : w0.heap.size ≤ B0)
    (J Jx : List (Nat × Tg) → World → Prop) (hJ : ∀ xs A B, J xs A → Gr A B → J xs B)
    (hY : ∀ xs x V, J xs V → GoodI ts xs x → YieldAt Fence.wide 0 Try.prog lp (encI x) V fun e V' => (e = .returned (.bool true) ∧ J (xs ++ [x]) V' ∧ Below B0 V V') ∨ (e = .returned (.bool false) ∧ Jx (xs ++ [x]) V'))
    (hbox : ∀ xs V, J xs V → V.heap[bx]? = some (.cells #[.slice a n c] 23 (0, 0))) (h0 : J [] W) :
    CallsIn Fence.wide 0 Try.prog 61 #[.func (.yield lp) #[] #[], .pointer (some ⟨bx, 0, none⟩)] W fun e V => (∃ v, e = .returned v) ∧ ((∃ xs, xs.length = n ∧ J xs V) ∨ (∃ xs, Jx xs V)) := by
  have HJ := Lib.hid hJ
  have HY := Lib.hid hY
  have H0 := Lib.hid h0
  have HW := Lib.hid hW
  have hcc : n ≤ c ∧ c ≤ maxLen := by
    obtain ⟨_, _, es, h1, h2⟩ := hr.shape
    simp only [Value.slice.injEq] at es
    obtain ⟨_, _, rfl⟩ := es
    exact ⟨h1, h2⟩
  obtain ⟨hc1, hc2⟩ := hcc
  unfold maxLen at hc2
  have HR := Lib.hid hr
  have HLN := Lib.hid hr.len
  have HBX := Lib.hid hbox
  have kbx := cell1 (hbox _ _ h0)
  clear hJ hY h0 hW hbox hr
  refine callsIn_of_wp Try.func61 rfl trivial ?_ rfl
  simp only [Try.ntmps61, List.size_toArray, List.length_cons, List.length_nil, Nat.reduceAdd, Nat.reduceSub, Array.replicate_succ, Array.replicate_zero, List.push_toArray, List.append_toArray, List.nil_append, List.cons_append]
  gi_wp2
  clear kbx
  gi_loopw [3] (fun iv wr => ∃ (m : Nat) (z : Int) (xs : List (Nat × Tg)), iv = .int .i64 z ∧ z + 1 = (m : Int) ∧ m ≤ n ∧ xs.length + m = n ∧ Hid (J xs wr) ∧ Hid (Below w0.heap.size w0 wr)) (fun iv _ => (intOf iv + 1).toNat)
  case atStart => exact ⟨n, (n : Int) - 1, [], by go_num, by omega, Nat.le_refl _, by simp, H0, HW⟩
  case round =>
    obtain ⟨m, z, xs, rfl, hz, hmn, hxs, HJX, HLOW⟩ := hrel
    by_cases hm : m = 0
    · obtain rfl : z = -1 := by omega
      have HX : Hid (xs.length = n) := by show _ = _; omega
      clear hz hxs
      gi_wp2
      go_end0
      exact ⟨⟨_, rfl⟩, .inl ⟨xs, HX.out, HJX.out⟩⟩
    · obtain ⟨k, rfl⟩ : ∃ k, m = k + 1 := ⟨m - 1, by omega⟩
      obtain rfl : z = (k : Int) := by omega
      have hk : k < ts.length := by rw [HLN.out]; omega
      obtain ⟨b, o, ea, _, hcel⟩ := (HR.out.below HLOW.out).cells (by omega)
      subst ea
      obtain ⟨c0, c1⟩ := hcel k hk
      obtain ⟨x, hx⟩ : ∃ x, x = ts[k] := ⟨_, rfl⟩
      rw [← hx] at c0 c1
      have HG : Hid (GoodI ts xs (k, x)) := ⟨by rw [HLN.out]; show k + xs.length + 1 = n; omega, by rw [hx]; exact List.getElem?_eq_getElem hk⟩
      have HXS : Hid (xs.length + (k + 1) = n) := hxs
      have kb := cell1 (HBX.out _ _ HJX.out)
      obtain ⟨fn, tmps, assign, body, hy, hR⟩ := HY.out xs (k, x) wr HJX.out HG.out
      dsimp only [encI] at hy
      have hkn : k < n := by omega
      have hkn2 : (k : Int) < (n : Int) := by omega
      clear hcel hx hk hz hxs hm
      gi_wp2
      refine ⟨rfl, hR.mono ?_⟩
      rintro e w5 (⟨rfl, hj5, hb5⟩ | ⟨rfl, hx5⟩)
      · have HJ5 := Lib.hid hj5
        have HLOW5 := Lib.hid (HLOW.out.trans (hb5.mono hB0))
        clear hj5 hb5 hy hR c0 c1 kb
        gi_wp2
        go_roundw
        case rel =>
          have e1 : (xs ++ [(k, x)]).length + k = n := by have := HXS.out; rw [List.length_append, List.length_singleton]; omega
          have hle : k ≤ n := by omega
          first | exact ⟨k, (k : Int) - 1, _, by go_num, by omega, hle, e1, HJ5, HLOW5⟩ | ((repeat apply Exists.intro); exact ⟨⟨k, (k : Int) - 1, _, by go_num, by omega, hle, e1, HJ5, HLOW5⟩, rfl⟩)
        case measure => first | (simp [intOf]; omega) | simp [intOf]
      · have HX5 := Lib.hid hx5
        clear hx5 hy hR c0 c1 kb
        gi_wp2
        refine bodyPost_ret (results_none rfl _ _ _) rfl ?_
        exact ⟨⟨_, rfl⟩, .inr ⟨_, HX5.out⟩⟩
end
end Go.Proofs.Ytbldcjngccmhpaa.Ng
