/-
  Rates, buckets and limiters in plain words: no program. As of a tick; what a limiter answers; windows; buckets that are forgotten change nothing.
-/
import Derived.Test.YtblnglkjpnpmbaaLib
namespace Go.Proofs.Ytblnglkjpnpmbaa.Bk
set_option linter.unusedVariables false

/-- The highest tick. -/
def top : Int := 1099511627776
structure Rt where
  e : Int
  m : Int
structure Bu where
  k : Int
  t : Int
/-- A rate may be. -/
def okR (r : Rt) : Prop := 0 ≤ r.e ∧ r.e ≤ 1048576 ∧ 1 ≤ r.m ∧ r.m ≤ 1048576
instance (r : Rt) : Decidable (okR r) := by unfold okR; infer_instance
/-- A bucket of a rate may be. -/
def okB (r : Rt) (b : Bu) : Prop := 0 ≤ b.k ∧ b.k ≤ r.m ∧ 0 ≤ b.t ∧ b.t ≤ top
instance (r : Rt) (b : Bu) : Decidable (okB r b) := by unfold okB; infer_instance
/-- There is a bucket as of the tick. -/
def okAt (r : Rt) (b : Bu) (s : Int) : Prop := okR r ∧ okB r b ∧ b.t ≤ s ∧ s ≤ top
instance (r : Rt) (b : Bu) (s : Int) : Decidable (okAt r b s) := by unfold okAt; infer_instance
/-- How many tokens as of the tick. -/
def tok (r : Rt) (b : Bu) (s : Int) : Int := if r.m < b.k + r.e * (s - b.t) then r.m else b.k + r.e * (s - b.t)
def zero : Bu := ⟨0, 0⟩
def atB (r : Rt) (b : Bu) (s : Int) : Bu := if okAt r b s then ⟨tok r b s, s⟩ else zero
def full (r : Rt) : Bu := if okR r then ⟨r.m, 0⟩ else zero
def takB (r : Rt) (b : Bu) (s : Int) : Bu × Bool := if okAt r b s then (if tok r b s = 0 then (⟨0, s⟩, false) else (⟨tok r b s - 1, s⟩, true)) else (zero, false)

theorem grow_nn {e a b : Int} (he : 0 ≤ e) (h : a ≤ b) : 0 ≤ e * (b - a) := Int.mul_nonneg he (by omega)
theorem tok_range {r : Rt} {b : Bu} {s : Int} (hr : okR r) (hb : okB r b) (h : b.t ≤ s) : 0 ≤ tok r b s ∧ tok r b s ≤ r.m := by
  obtain ⟨h1, h2, h3, h4⟩ := hr
  obtain ⟨k1, k2, k3, k4⟩ := hb
  have := grow_nn h1 h
  unfold tok
  split <;> omega
/-- As of a tick behind another one. -/
theorem tok_tok {r : Rt} {b : Bu} {s u : Int} (hr : okR r) (h : b.t ≤ s) (h2 : s ≤ u) : tok r ⟨tok r b s, s⟩ u = tok r b u := by
  obtain ⟨h1, _, _, _⟩ := hr
  have g1 := grow_nn h1 h2
  have e : r.e * (u - b.t) = r.e * (s - b.t) + r.e * (u - s) := by rw [← Int.mul_add]; congr 1; omega
  unfold tok
  rw [e]
  simp only []
  split <;> split <;> split <;> omega
theorem tok_more {r : Rt} {b : Bu} {s u : Int} (hr : okR r) (h : b.t ≤ s) (h2 : s ≤ u) : tok r b s ≤ tok r b u ∧ tok r b u ≤ tok r b s + r.e * (u - s) := by
  obtain ⟨h1, _, _, _⟩ := hr
  have g1 := grow_nn h1 h2
  have e : r.e * (u - b.t) = r.e * (s - b.t) + r.e * (u - s) := by rw [← Int.mul_add]; congr 1; omega
  unfold tok
  rw [e]
  split <;> split <;> omega
theorem tok_now {r : Rt} {k s : Int} (h : k ≤ r.m) : tok r ⟨k, s⟩ s = k := by
  unfold tok
  simp only [Int.sub_self, Int.mul_zero, Int.add_zero]
  rw [if_neg (by omega)]
theorem tok_full {r : Rt} {b : Bu} {s u : Int} (hr : okR r) (h : b.t ≤ s) (h2 : s ≤ u) (hf : tok r b s = r.m) : tok r b u = r.m := by
  have := (tok_more hr h h2).1
  have h3 : tok r b u ≤ r.m := by unfold tok; split <;> omega
  omega
theorem atB_at {r : Rt} {b : Bu} {s u : Int} (h : okAt r b s) (h2 : okAt r (atB r b s) u) : okAt r b u ∧ atB r (atB r b s) u = atB r b u := by
  have e : atB r b s = ⟨tok r b s, s⟩ := if_pos h
  rw [e] at h2 ⊢
  obtain ⟨hr, hb, h3, h4⟩ := h
  obtain ⟨_, _, h5, h6⟩ := h2
  have h5' : s ≤ u := h5
  have hu : okAt r b u := ⟨hr, hb, by omega, h6⟩
  refine ⟨hu, ?_⟩
  have hs : okAt r ⟨tok r b s, s⟩ u := ⟨hr, ‹_›, h5, h6⟩
  unfold atB
  rw [if_pos hs, if_pos hu, tok_tok hr h3 h5']

/-! A limiter: both rates, the bucket of all, the addresses' buckets (in the document's order), its tick. -/
structure Li where
  all : Rt
  own : Rt
  b : Bu
  es : List (List UInt8 × Bu)
  t : Int
def tickOf (S : Li) (s : Int) : Int := if S.t ≤ s ∧ s ≤ top then s else S.t
def kept (S : Li) (t : Int) : List (List UInt8 × Bu) := S.es.filter fun p => decide (tok S.own p.2 t < S.own.m)
/-- An address's bucket, or none. -/
def find (es : List (List UInt8 × Bu)) (m : List UInt8) : Option Bu := (es.find? fun p => p.1 == m).map (·.2)
def rest (es : List (List UInt8 × Bu)) (m : List UInt8) : List (List UInt8 × Bu) := es.filter fun p => !(p.1 == m)
/-- An address's tokens as of a tick. -/
def vt (S : Li) (m : List UInt8) (s : Int) : Int := match find S.es m with
  | none => S.own.m
  | some b => tok S.own b s
def va (S : Li) (s : Int) : Int := tok S.all S.b s
/-- May the address have a bucket? -/
def room (S : Li) (m : List UInt8) (t : Int) : Bool := (find (kept S t) m).isSome || decide ((kept S t).length < 256)
def mine (S : Li) (m : List UInt8) (t : Int) : Bu := (find (kept S t) m).getD ⟨S.own.m, t⟩
def yes (S : Li) (m : List UInt8) (t : Int) : Bool := room S m t && (decide (va S t ≠ 0) && decide (tok S.own (mine S m t) t ≠ 0))
/-- What Allow leaves, and answers. -/
def allow (S : Li) (m : List UInt8) (s : Int) : Li × Bool :=
  if yes S m (tickOf S s) then ({ S with b := ⟨va S (tickOf S s) - 1, tickOf S s⟩, es := rest (kept S (tickOf S s)) m ++ [(m, ⟨tok S.own (mine S m (tickOf S s)) (tickOf S s) - 1, tickOf S s⟩)], t := tickOf S s }, true)
  else ({ S with es := kept S (tickOf S s), t := tickOf S s }, false)
/-- What a limiter keeps to. -/
structure OkL (S : Li) : Prop where
  all : okR S.all
  own : okR S.own
  b : okB S.all S.b
  bt : S.b.t ≤ S.t
  es : ∀ p ∈ S.es, okB S.own p.2 ∧ p.2.t ≤ S.t
  keys : (S.es.map (·.1)).Nodup
  t0 : 0 ≤ S.t
  t1 : S.t ≤ top
theorem tickOf_ge (S : Li) (s : Int) (h : S.t ≤ top) : S.t ≤ tickOf S s ∧ tickOf S s ≤ top := by
  unfold tickOf; split <;> omega
theorem find_mem {es : List (List UInt8 × Bu)} {m : List UInt8} {b : Bu} (h : find es m = some b) : (m, b) ∈ es := by
  unfold find at h
  obtain ⟨p, hp, rfl⟩ := Option.map_eq_some_iff.1 h
  have h1 := List.find?_some hp
  have h2 := List.mem_of_find?_eq_some hp
  have : p.1 = m := by simpa using h1
  rw [← this]; exact h2
theorem find_none {es : List (List UInt8 × Bu)} {m : List UInt8} (h : m ∉ es.map (·.1)) : find es m = none := by
  unfold find
  rw [Option.map_eq_none_iff, List.find?_eq_none]
  intro p hp
  simp only [beq_iff_eq]
  rintro rfl
  exact h (List.mem_map_of_mem hp)
theorem find_of {m : List UInt8} {b : Bu} : ∀ {es : List (List UInt8 × Bu)}, (es.map (·.1)).Nodup → (m, b) ∈ es → find es m = some b
  | p :: es, hn, hm => by
    rw [List.map_cons, List.nodup_cons] at hn
    unfold find
    rw [List.find?_cons]
    by_cases h : p.1 = m
    · have hb : (p.1 == m) = true := by simp [h]
      rw [hb]
      rcases List.mem_cons.1 hm with e | e
      · rw [← e]; rfl
      · have h2 : m ∈ es.map (·.1) := List.mem_map_of_mem (f := fun p : List UInt8 × Bu => p.1) e
        rw [h] at hn
        exact absurd h2 hn.1
    · have hb : (p.1 == m) = false := by simp [h]
      rw [hb]
      rcases List.mem_cons.1 hm with e | e
      · exact absurd (by rw [← e]) h
      · exact find_of hn.2 e
theorem kept_find {S : Li} (hS : OkL S) {t : Int} {m : List UInt8} : find (kept S t) m = (find S.es m).bind fun b => if tok S.own b t < S.own.m then some b else none := by
  cases hf : find S.es m with
  | none =>
    refine find_none fun h => ?_
    obtain ⟨p, hp, rfl⟩ := List.mem_map.1 h
    have h2 := (List.mem_filter.1 hp).1
    have := find_of hS.keys (show (p.1, p.2) ∈ S.es from h2)
    rw [hf] at this; cases this
  | some b =>
    have hm := find_mem hf
    simp only [Option.bind_some]
    have hn : ((kept S t).map (·.1)).Nodup := hS.keys.sublist ((List.filter_sublist).map _)
    split
    · rename_i h
      exact find_of hn (List.mem_filter.2 ⟨hm, by simpa using h⟩)
    · rename_i h
      refine find_none fun h' => ?_
      obtain ⟨p, hp, e⟩ := List.mem_map.1 h'
      obtain ⟨h2, h3⟩ := List.mem_filter.1 hp
      have := find_of hS.keys (show (p.1, p.2) ∈ S.es from h2)
      rw [e, hf] at this
      obtain rfl := Option.some.inj this
      exact h (by simpa using h3)
/-- Forgotten or not: an address's tokens are the same. -/
theorem mine_tok {S : Li} (hS : OkL S) {t : Int} (ht : S.t ≤ t) (m : List UInt8) : tok S.own (mine S m t) t = vt S m t := by
  unfold mine vt
  rw [kept_find hS]
  cases hf : find S.es m with
  | none => simp only [Option.bind_none, Option.getD_none]; exact tok_now (Int.le_refl _)
  | some b =>
    simp only [Option.bind_some]
    have hb : okB S.own b ∧ b.t ≤ S.t := hS.es (m, b) (find_mem hf)
    have hr := tok_range hS.own hb.1 (Int.le_trans hb.2 ht)
    split
    · simp only [Option.getD_some]
    · rename_i h
      simp only [Option.getD_none]
      rw [tok_now (Int.le_refl _)]
      omega
theorem kept_sub (S : Li) (t : Int) : (kept S t).Sublist S.es := List.filter_sublist
theorem rest_sub (es : List (List UInt8 × Bu)) (m : List UInt8) : (rest es m).Sublist es := List.filter_sublist
theorem rest_not (es : List (List UInt8 × Bu)) (m : List UInt8) : m ∉ (rest es m).map (·.1) := by
  intro h
  obtain ⟨p, hp, rfl⟩ := List.mem_map.1 h
  have := (List.mem_filter.1 hp).2
  simp at this
theorem rest_find {es : List (List UInt8 × Bu)} (hn : (es.map (·.1)).Nodup) {m m' : List UInt8} (h : m' ≠ m) : find (rest es m) m' = find es m' := by
  cases hf : find es m' with
  | none =>
    refine find_none fun h' => ?_
    obtain ⟨p, hp, rfl⟩ := List.mem_map.1 h'
    have := find_of hn (show (p.1, p.2) ∈ es from (rest_sub es m).subset hp)
    rw [hf] at this; cases this
  | some b =>
    refine find_of (hn.sublist ((rest_sub es m).map _)) (List.mem_filter.2 ⟨find_mem hf, ?_⟩)
    simpa using h
theorem find_append_one {es : List (List UInt8 × Bu)} {m : List UInt8} {b : Bu} (h : m ∉ es.map (·.1)) : find (es ++ [(m, b)]) m = some b := by
  have h0 := find_none h
  unfold find at h0 ⊢
  rw [List.find?_append, Option.map_eq_none_iff.1 h0]
  simp
theorem find_append_other {es : List (List UInt8 × Bu)} {m m' : List UInt8} {b : Bu} (h : m' ≠ m) : find (es ++ [(m, b)]) m' = find es m' := by
  have h1 : (m == m') = false := by simp; exact fun e => h e.symm
  unfold find
  rw [List.find?_append]
  cases es.find? (fun p => p.1 == m') with
  | none => simp [h1]
  | some x => simp
theorem mine_ok {S : Li} (hS : OkL S) {t : Int} (ht : S.t ≤ t) (ht1 : t ≤ top) (m : List UInt8) : okB S.own (mine S m t) ∧ (mine S m t).t ≤ t := by
  unfold mine
  cases hf : find (kept S t) m with
  | none =>
    have h := hS.own
    have h0 := hS.t0
    exact ⟨⟨by show 0 ≤ S.own.m; have := h.2.2.1; omega, Int.le_refl _, by show 0 ≤ t; omega, ht1⟩, Int.le_refl _⟩
  | some b =>
    have h := hS.es (m, b) ((kept_sub S t).subset (find_mem hf))
    exact ⟨h.1, Int.le_trans h.2 ht⟩
/-- A limiter stays one that may be. -/
theorem allow_ok {S : Li} (hS : OkL S) (m : List UInt8) (s : Int) : OkL (allow S m s).1 ∧ (allow S m s).1.t = tickOf S s ∧ (allow S m s).1.all = S.all ∧ (allow S m s).1.own = S.own := by
  obtain ⟨ht, ht1⟩ := tickOf_ge S s hS.t1
  generalize hx : tickOf S s = x at ht ht1
  have hr := tok_range hS.all hS.b (Int.le_trans hS.bt ht)
  have hm := mine_ok hS ht ht1 m
  have hmr := tok_range hS.own hm.1 hm.2
  have h0 := hS.t0
  unfold allow
  rw [hx]
  split
  · rename_i hy
    unfold yes at hy
    simp only [Bool.and_eq_true, decide_eq_true_eq] at hy
    obtain ⟨_, hy1, hy2⟩ := hy
    unfold va at hy1
    refine ⟨⟨hS.all, hS.own, ⟨?_, ?_, ?_, ht1⟩, Int.le_refl _, fun p hp => ?_, ?_, by show 0 ≤ x; omega, ht1⟩, rfl, rfl, rfl⟩
    · show 0 ≤ tok S.all S.b x - 1; omega
    · show tok S.all S.b x - 1 ≤ S.all.m; omega
    · show 0 ≤ x; omega
    · rcases List.mem_append.1 hp with hp | hp
      · have h := hS.es p ((kept_sub S x).subset ((rest_sub _ _).subset hp))
        exact ⟨h.1, Int.le_trans h.2 ht⟩
      · obtain rfl := List.mem_singleton.1 hp
        exact ⟨⟨by show 0 ≤ tok S.own (mine S m x) x - 1; omega, by show tok S.own (mine S m x) x - 1 ≤ S.own.m; omega, by show 0 ≤ x; omega, ht1⟩, Int.le_refl _⟩
    · simp only [List.map_append, List.map_cons, List.map_nil]
      rw [List.nodup_append]
      refine ⟨hS.keys.sublist (((rest_sub _ _).trans (kept_sub S x)).map _), by simp, ?_⟩
      intro a ha b hb
      obtain rfl := List.mem_singleton.1 hb
      rintro rfl
      exact rest_not _ _ ha
  · exact ⟨⟨hS.all, hS.own, hS.b, Int.le_trans hS.bt ht, fun p hp => by
      have h := hS.es p ((kept_sub S x).subset hp)
      exact ⟨h.1, Int.le_trans h.2 ht⟩, hS.keys.sublist ((kept_sub S x).map _), by show 0 ≤ x; omega, ht1⟩, rfl, rfl, rfl⟩
/-- What an answer takes. -/
def one (ok : Bool) : Int := if ok then 1 else 0
theorem vt_kept {S : Li} (hS : OkL S) {t : Int} (ht : S.t ≤ t) (m : List UInt8) (E : Rt) (B : Bu) (x : Int) : vt ⟨E, S.own, B, kept S t, x⟩ m t = vt S m t := by
  rw [← mine_tok hS ht m]
  unfold vt mine
  simp only []
  cases find (kept S t) m with
  | none => simp only [Option.getD_none]; exact (tok_now (Int.le_refl _)).symm
  | some b => simp only [Option.getD_some]
theorem allow_all {S : Li} (hS : OkL S) (m : List UInt8) (s : Int) : va (allow S m s).1 (tickOf S s) = va S (tickOf S s) - one (allow S m s).2 ∧ ((allow S m s).2 = true → 1 ≤ va S (tickOf S s)) := by
  obtain ⟨ht, ht1⟩ := tickOf_ge S s hS.t1
  generalize hx : tickOf S s = x at ht ht1
  have hr := tok_range hS.all hS.b (Int.le_trans hS.bt ht)
  unfold allow
  rw [hx]
  split
  · rename_i hy
    unfold yes at hy
    simp only [Bool.and_eq_true, decide_eq_true_eq] at hy
    have hv : va S x = tok S.all S.b x := rfl
    refine ⟨?_, fun _ => by have := hy.2.1; omega⟩
    show tok S.all ⟨va S x - 1, x⟩ x = va S x - 1
    exact tok_now (by omega)
  · refine ⟨?_, fun h => by cases h⟩
    show tok S.all S.b x = va S x - 0
    rw [Int.sub_zero]; rfl
theorem allow_own {S : Li} (hS : OkL S) (m : List UInt8) (s : Int) : vt (allow S m s).1 m (tickOf S s) = vt S m (tickOf S s) - one (allow S m s).2 ∧ ((allow S m s).2 = true → 1 ≤ vt S m (tickOf S s)) := by
  obtain ⟨ht, ht1⟩ := tickOf_ge S s hS.t1
  generalize hx : tickOf S s = x at ht ht1
  have hm := mine_ok hS ht ht1 m
  have hmr := tok_range hS.own hm.1 hm.2
  have he := mine_tok hS ht m
  unfold allow
  rw [hx]
  split
  · rename_i hy
    unfold yes at hy
    simp only [Bool.and_eq_true, decide_eq_true_eq] at hy
    refine ⟨?_, fun _ => by have := hy.2.2; omega⟩
    rw [← he]
    show vt ⟨S.all, S.own, _, rest (kept S x) m ++ [(m, ⟨tok S.own (mine S m x) x - 1, x⟩)], x⟩ m x = _
    unfold vt
    simp only []
    rw [find_append_one (rest_not _ _)]
    exact tok_now (by show tok S.own (mine S m x) x - 1 ≤ S.own.m; omega)
  · refine ⟨?_, fun h => by cases h⟩
    show vt ⟨S.all, S.own, S.b, kept S x, x⟩ m x = vt S m x - 0
    rw [Int.sub_zero, vt_kept hS ht]
theorem allow_other {S : Li} (hS : OkL S) (m : List UInt8) (s : Int) {m' : List UInt8} (h : m' ≠ m) : vt (allow S m s).1 m' (tickOf S s) = vt S m' (tickOf S s) := by
  obtain ⟨ht, ht1⟩ := tickOf_ge S s hS.t1
  generalize hx : tickOf S s = x at ht ht1
  unfold allow
  rw [hx]
  split
  · rw [← vt_kept hS ht m' S.all S.b x]
    show vt ⟨S.all, S.own, _, rest (kept S x) m ++ [(m, _)], x⟩ m' x = _
    unfold vt
    simp only []
    rw [find_append_other h, rest_find (hS.keys.sublist ((kept_sub S x).map _)) h]
  · exact vt_kept hS ht m' _ _ _
/-- An address's tokens grow with the ticks, by the rate at most. -/
theorem vt_more {S : Li} (hS : OkL S) (m : List UInt8) {s u : Int} (h : S.t ≤ s) (h2 : s ≤ u) : 0 ≤ vt S m s ∧ vt S m u ≤ S.own.m ∧ vt S m s ≤ vt S m u ∧ vt S m u ≤ vt S m s + S.own.e * (u - s) := by
  have g := grow_nn hS.own.1 h2
  have hm := hS.own.2.2.1
  unfold vt
  cases hf : find S.es m with
  | none => simp only []; omega
  | some b =>
    simp only []
    have hb : okB S.own b ∧ b.t ≤ S.t := hS.es (m, b) (find_mem hf)
    have h1 := tok_range hS.own hb.1 (Int.le_trans hb.2 h)
    have h3 := tok_range hS.own hb.1 (Int.le_trans hb.2 (Int.le_trans h h2))
    have h4 := tok_more hS.own (Int.le_trans hb.2 h) h2
    omega
theorem va_more {S : Li} (hS : OkL S) {s u : Int} (h : S.t ≤ s) (h2 : s ≤ u) : 0 ≤ va S s ∧ va S u ≤ S.all.m ∧ va S s ≤ va S u ∧ va S u ≤ va S s + S.all.e * (u - s) := by
  have h1 := tok_range hS.all hS.b (Int.le_trans hS.bt h)
  have h3 := tok_range hS.all hS.b (Int.le_trans hS.bt (Int.le_trans h h2))
  have h4 := tok_more hS.all (Int.le_trans hS.bt h) h2
  unfold va
  omega
/-- Windows: what is allowed from the tick F on, within w ticks; x: the limiter's tick; v: the tokens as of it. -/
def Win (e M F w x c v : Int) : Prop := (x < F → c = 0) ∧ (F ≤ x → x < F + w → c + v ≤ M + e * (x - F)) ∧ c ≤ M + e * w
theorem Win.start {e M F w : Int} (he : 0 ≤ e) (hM : 0 ≤ M) (hF : 0 ≤ F) (hw : 0 ≤ w) {v : Int} (hv : v ≤ M) : Win e M F w 0 0 v := by
  have := Int.mul_nonneg he hw
  refine ⟨fun _ => rfl, fun h1 _ => ?_, by omega⟩
  obtain rfl : F = 0 := by omega
  simp only [Int.sub_zero, Int.mul_zero]
  omega
/-- A round: from the tick x to u; v: the tokens as of u, ahead of the answer. -/
theorem Win.next {e M F w x u c v v' : Int} {ok : Bool} (h : Win e M F w x c v) (he : 0 ≤ e) (hM : 0 ≤ M) (hw : 0 ≤ w) (hxu : x ≤ u) (hv : v' ≤ v + e * (u - x)) (hvM : v' ≤ M) (h0 : 0 ≤ v' - one ok) :
    Win e M F w u (c + (if F ≤ u ∧ u < F + w then one ok else 0)) (v' - one ok) := by
  obtain ⟨h1, h2, h3⟩ := h
  have hone : 0 ≤ one ok := by unfold one; split <;> omega
  by_cases hF : F ≤ u
  · by_cases hW : u < F + w
    · rw [if_pos ⟨hF, hW⟩]
      have hb : c + v' ≤ M + e * (u - F) := by
        by_cases hx : x < F
        · have := h1 hx
          have := grow_nn he hF
          omega
        · have h4 := h2 (by omega) (by omega)
          have e1 : e * (u - F) = e * (x - F) + e * (u - x) := by rw [← Int.mul_add]; congr 1; omega
          omega
      have h5 : e * (u - F) ≤ e * w := Int.mul_le_mul_of_nonneg_left (by omega) he
      exact ⟨fun h => by omega, fun _ _ => by omega, by omega⟩
    · rw [if_neg (by omega)]
      exact ⟨fun h => by omega, fun _ h => by omega, by omega⟩
  · rw [if_neg (by omega)]
    exact ⟨fun _ => by have := h1 (by omega); omega, fun h => by omega, by omega⟩
/-! Buckets that are forgotten change nothing: an address's tokens against a bucket that is always kept. -/
theorem vt_tok {S : Li} (hS : OkL S) (m : List UInt8) {x u : Int} (h : S.t ≤ x) (h2 : x ≤ u) : vt S m u = tok S.own ⟨vt S m x, x⟩ u := by
  unfold vt
  cases hf : find S.es m with
  | none =>
    simp only []
    have h1 : tok S.own ⟨S.own.m, x⟩ x = S.own.m := tok_now (Int.le_refl _)
    exact (tok_full hS.own (Int.le_refl _) h2 h1).symm
  | some b =>
    simp only []
    have hb : okB S.own b ∧ b.t ≤ S.t := hS.es (m, b) (find_mem hf)
    exact (tok_tok hS.own (Int.le_trans hb.2 h) h2).symm
theorem vt_same {S : Li} (hS : OkL S) (m : List UInt8) {b : Bu} (hb : b.t ≤ S.t) (he : vt S m S.t = tok S.own b S.t) {x : Int} (h : S.t ≤ x) : vt S m x = tok S.own b x := by
  rw [vt_tok hS m (Int.le_refl _) h, he]
  exact tok_tok hS.own hb h
theorem allow_yes {S : Li} (hS : OkL S) (m : List UInt8) (s : Int) (hroom : (kept S (tickOf S s)).length < 256) : (allow S m s).2 = (decide (va S (tickOf S s) ≠ 0) && decide (vt S m (tickOf S s) ≠ 0)) := by
  have ht := (tickOf_ge S s hS.t1).1
  have he := mine_tok hS ht m
  have hy : yes S m (tickOf S s) = (decide (va S (tickOf S s) ≠ 0) && decide (vt S m (tickOf S s) ≠ 0)) := by
    unfold yes room
    rw [he, decide_eq_true hroom, Bool.or_true, Bool.true_and]
  unfold allow
  rw [hy]
  cases hb : (decide (va S (tickOf S s) ≠ 0) && decide (vt S m (tickOf S s) ≠ 0)) <;> simp
theorem takB_yes {r : Rt} {b : Bu} {s : Int} (h : okAt r b s) : (takB r b s).2 = decide (tok r b s ≠ 0) ∧ (takB r b s).1 = ⟨tok r b s - one (decide (tok r b s ≠ 0)), s⟩ := by
  unfold takB
  rw [if_pos h]
  by_cases h0 : tok r b s = 0
  · rw [if_pos h0, h0]; exact ⟨rfl, rfl⟩
  · rw [if_neg h0, decide_eq_true h0]; exact ⟨rfl, rfl⟩
theorem takB_ok {r : Rt} {b : Bu} {s : Int} (h : okAt r b s) : okB r (takB r b s).1 ∧ (takB r b s).1.t = s := by
  obtain ⟨hr, hb, h1, h2⟩ := h
  have ht := tok_range hr hb h1
  have h0 := hb.2.2.1
  rw [(takB_yes ⟨hr, hb, h1, h2⟩).2]
  refine ⟨⟨?_, ?_, by show 0 ≤ s; omega, h2⟩, rfl⟩
  · show 0 ≤ tok r b s - one (decide (tok r b s ≠ 0))
    by_cases h : tok r b s = 0
    · simp [h, one]
    · simp [h, one]; omega
  · show tok r b s - one (decide (tok r b s ≠ 0)) ≤ r.m
    unfold one; split <;> omega
theorem allow_keys (S : Li) (m : List UInt8) (s : Int) : ∀ k ∈ (allow S m s).1.es.map (·.1), k = m ∨ k ∈ S.es.map (·.1) := by
  intro k hk
  unfold allow at hk
  split at hk
  · simp only [List.map_append, List.map_cons, List.map_nil, List.mem_append, List.mem_singleton] at hk
    rcases hk with hk | hk
    · exact .inr ((((rest_sub _ _).trans (kept_sub S _)).map _).subset hk)
    · exact .inl hk
  · exact .inr (((kept_sub S _).map _).subset hk)
theorem nodup_le : ∀ (l xs : List (List UInt8)), xs.Nodup → (∀ x ∈ xs, x ∈ l) → xs.length ≤ l.length
  | [], xs, _, h => by
    cases xs with
    | nil => exact Nat.le_refl _
    | cons x r => exact absurd (h x (by simp)) (by simp)
  | a :: l, xs, hn, h => by
    have h1 := nodup_le l (xs.erase a) (hn.erase a) (fun x hx => by
      have h2 := h x (List.mem_of_mem_erase hx)
      rcases List.mem_cons.1 h2 with rfl | h2
      · exact absurd hx (hn.not_mem_erase)
      · exact h2)
    have h2 := List.length_erase (a := a) (l := xs)
    simp only [List.length_cons]
    split at h2 <;> omega
theorem kept_le {S : Li} (hS : OkL S) (l : List (List UInt8)) (h : ∀ k ∈ S.es.map (·.1), k ∈ l) (t : Int) : (kept S t).length ≤ l.length := by
  have h1 := nodup_le l (S.es.map (·.1)) hS.keys h
  have h2 := (kept_sub S t).length_le
  rw [List.length_map] at h1
  omega
end Go.Proofs.Ytblnglkjpnpmbaa.Bk
