/-
  A map of addresses with buckets: a store in two steps (the entry, its value), delete, ranging.
-/
import Derived.Test.YtblnglkjpnpmbaaBkM
namespace Go.Proofs.Ytblnglkjpnpmbaa.Bk
open Go.RowKit
open Go.Maps (Keyed)
open Go.ChangeMaps (setBlock heap_setBlock_same heap_setBlock_other)
set_option linter.unusedVariables false
set_option linter.unusedSimpArgs false

theorem setBlock_twice (w : World) (b : Nat) (o p : Obj) : setBlock (setBlock w b o) b p = setBlock w b p := by simp [setBlock]
theorem idx_of {a : Array MapEntry} {j : Nat} {e : MapEntry} (hn : (a.toList.map (·.born)).Nodup) (hj : a[j]? = some e) : a.findIdx? (fun x => (x.born : Int) == (e.born : Int)) = some j := by
  rw [Array.findIdx?_eq_some_iff_getElem]
  obtain ⟨h, rfl⟩ := Array.getElem?_eq_some_iff.1 hj
  refine ⟨h, by simp, fun i hij => ?_⟩
  intro hh
  have hb0 : (a[i].born : Int) = (a[j].born : Int) := by simpa using hh
  have hb : a[i].born = a[j].born := by omega
  have h1 := List.pairwise_iff_getElem.1 hn i j (by simp; omega) (by simpa using h) hij
  simp only [List.getElem_map, Array.getElem_toList] at h1
  exact h1 hb
theorem array_modify2 (a : Array MapEntry) (j : Nat) (f g : MapEntry → MapEntry) : (a.modify j f).modify j g = a.modify j (fun e => g (f e)) := by
  apply Array.ext_getElem?
  intro i
  simp only [Array.getElem?_modify]
  by_cases h : j = i
  · subst h; cases a[j]? <;> simp
  · simp [h]
/-- 'm[k]' as the target of one assignment among several: the entry is laid, then its value stored: as 'm[k] = v' would. -/
theorem pair_run {w : World} {b : Nat} {es : List (List UInt8 × Bu)} (h : MapAt w b es) {m : List UInt8} (hm : m.length = 6) (x : Bu) (hl : es.length < maxLen) :
    ∃ u born w1 w2, (Instr.mapEntry 61 (.map (some b)) (macV m)).run Try.prog w = .ok (.tuple #[u, .int .i64 born]) w1 ∧ (Instr.entryStore 61 (.map (some b)) (.int .i64 born) (buV x)).run Try.prog w1 = .ok () w2 ∧
      w.mapTurned w1 b ∧ w.mapTurned w2 b ∧ MapAt w2 b (rest es m ++ [(m, x)]) := by
  obtain ⟨E, ho, hp⟩ := h.own
  have hkey := keyOf_mac hm
  have ht := Try.underlying61
  obtain ⟨w2, hrun, hown, hturn⟩ := ho.store (t := 61) law ht hl hkey (bkR_mk x)
  have hfin : MapAt w2 b (rest es m ++ [(m, x)]) := by
    refine ⟨?_, ?_, ?_⟩
    · intro p hq
      rcases List.mem_append.1 hq with hq | hq
      · exact h.six p ((rest_sub es m).subset hq)
      · obtain rfl := List.mem_singleton.1 hq; exact hm
    · rw [List.map_append, List.map_singleton, List.nodup_append]
      refine ⟨h.nd.sublist ((rest_sub es m).map _), by simp, ?_⟩
      intro a ha c hc
      obtain rfl := List.mem_singleton.1 hc
      rintro rfl
      exact rest_not _ _ ha
    · have hperm : (DataW.insert (Lit.string m, bD x) (E.filter fun p => !p.1.sameKey (.string m))).Perm ((rest es m ++ [(m, x)]).map ent) := by
        refine (WideShapes.insert_perm _ _).trans ?_
        rw [List.map_append, List.map_singleton]
        refine List.Perm.trans ?_ (List.perm_append_singleton _ _).symm
        refine List.Perm.cons _ ?_
        refine (hp.filter _).trans (List.Perm.of_eq ?_)
        unfold rest
        rw [List.filter_map]
        congr 1
      have hlen : (rest es m ++ [(m, x)]).length = (DataW.insert (Lit.string m, bD x) (E.filter fun p => !p.1.sameKey (.string m))).length := by rw [hperm.length_eq, List.length_map]
      refine ⟨_, ?_, hperm⟩
      rw [hlen]
      exact tight hown
  obtain ⟨a, clock, hb, F, hs, hD⟩ := ho
  obtain ⟨s1, s2, s3⟩ := F.stamped
  rcases law.find w hkey a.toList F.keys with ⟨h1, h2⟩ | ⟨j, e0, h1, h2, h3⟩
  · -- no entry
    have r1 : (Instr.mapEntry 61 (.map (some b)) (macV m)).run Try.prog w = .ok (.tuple #[buV zero, .int .i64 clock]) (setBlock w b (.map (a.push ⟨macV m, buV zero, clock⟩) (clock + 1))) := by
      simp [Instr.mapEntry, run_underlying ht, MapKept.run_getObj_map hb, law.check w false hkey, h1, zero_bk w, MapKept.run_setObj_map _ hb, Result.andThen, setBlock, goInt]
    have r0 : (Instr.mapUpdate 61 (.map (some b)) (macV m) (buV x)).run Try.prog w = .ok () (setBlock w b (.map (a.push ⟨macV m, buV x, clock⟩) (clock + 1))) := by
      simp [Instr.mapUpdate, run_underlying ht, MapKept.run_getObj_map hb, law.check w false hkey, h1, MapKept.run_setObj_map _ hb, Result.andThen, setBlock]
    have hb1 := heap_setBlock_same hb (.map (a.push ⟨macV m, buV zero, clock⟩) (clock + 1))
    have hn : ((a.push ⟨macV m, buV zero, clock⟩).toList.map (·.born)).Nodup := by
      rw [Array.toList_push, List.map_append, List.map_singleton, List.nodup_append]
      refine ⟨s2, by simp, ?_⟩
      intro p hp' q hq
      obtain rfl := List.mem_singleton.1 hq
      obtain ⟨y, hy, rfl⟩ := List.mem_map.1 hp'
      exact Nat.ne_of_lt (s1 y hy)
    have hi : (a.push ⟨macV m, buV zero, clock⟩).findIdx? (fun y => (y.born : Int) == (clock : Int)) = some a.size := idx_of (e := ⟨macV m, buV zero, clock⟩) hn (by simp)
    have hmod : (a.push ⟨macV m, buV zero, clock⟩).modify a.size (fun y => { y with val := buV x }) = a.push ⟨macV m, buV x, clock⟩ := by
      apply Array.ext_getElem?
      intro i
      rw [Array.getElem?_modify]
      by_cases he : a.size = i
      · subst he; simp
      · simp only [he, if_false]
        simp only [Array.getElem?_push]
        split
        · rename_i hh; exact absurd hh.symm he
        · rfl
    have r2 : (Instr.entryStore 61 (.map (some b)) (.int .i64 clock) (buV x)).run Try.prog (setBlock w b (.map (a.push ⟨macV m, buV zero, clock⟩) (clock + 1))) = .ok () (setBlock w b (.map (a.push ⟨macV m, buV x, clock⟩) (clock + 1))) := by
      have hset : ∀ o, (setObj b o).run Try.prog (setBlock w b (.map (a.push ⟨macV m, buV zero, clock⟩) (clock + 1))) = .ok () (setBlock (setBlock w b (.map (a.push ⟨macV m, buV zero, clock⟩) (clock + 1))) b o) := fun o => MapKept.run_setObj_map _ hb1
      simp only [Instr.entryStore, Sem.run_bind, MapKept.run_getObj_map hb1, Result.andThen_ok, asInt, asIntOf]
      simp only [Result.andThen, Sem.run_pure, hi, hset, setBlock_twice, hmod]
    have e : w2 = setBlock w b (.map (a.push ⟨macV m, buV x, clock⟩) (clock + 1)) := by rw [r0] at hrun; exact ((Result.ok.injEq _ _ _ _).mp hrun).2.symm
    exact ⟨_, _, _, _, r1, r2, ⟨a, clock, _, _, hb, rfl⟩, ⟨a, clock, _, _, hb, rfl⟩, e ▸ hfin⟩
  · have hj : a[j]? = some e0 := by simpa using h2
    have r1 : (Instr.mapEntry 61 (.map (some b)) (macV m)).run Try.prog w = .ok (.tuple #[e0.val, .int .i64 e0.born]) (setBlock w b (.map (a.modify j fun e => { e with key := macV m }) clock)) := by
      simp [Instr.mapEntry, run_underlying ht, MapKept.run_getObj_map hb, law.check w false hkey, h1, hj, h3, law.stays w hkey, MapKept.run_setObj_map _ hb, Result.andThen, setBlock, goInt]
    have r0 : (Instr.mapUpdate 61 (.map (some b)) (macV m) (buV x)).run Try.prog w = .ok () (setBlock w b (.map (a.modify j fun e => { e with key := macV m, val := buV x }) clock)) := by
      simp [Instr.mapUpdate, run_underlying ht, MapKept.run_getObj_map hb, law.check w false hkey, h1, hj, h3, law.stays w hkey, MapKept.run_setObj_map _ hb, Result.andThen, setBlock]
    have hb1 := heap_setBlock_same hb (.map (a.modify j fun e => { e with key := macV m }) clock)
    have hborn : (a.modify j fun e => { e with key := macV m }).toList.map (·.born) = a.toList.map (·.born) := by
      apply List.ext_getElem?
      intro i
      simp only [List.getElem?_map, Array.getElem?_toList, Array.getElem?_modify]
      by_cases hij : j = i
      · subst hij; cases a[j]? <;> simp
      · simp [hij]
    have hi : (a.modify j fun e => { e with key := macV m }).findIdx? (fun y => (y.born : Int) == (e0.born : Int)) = some j :=
      idx_of (e := { e0 with key := macV m }) (by rw [hborn]; exact s2) (by rw [Array.getElem?_modify, if_pos rfl, hj]; rfl)
    have r2 : (Instr.entryStore 61 (.map (some b)) (.int .i64 e0.born) (buV x)).run Try.prog (setBlock w b (.map (a.modify j fun e => { e with key := macV m }) clock)) = .ok () (setBlock w b (.map (a.modify j fun e => { e with key := macV m, val := buV x }) clock)) := by
      have hset : ∀ o, (setObj b o).run Try.prog (setBlock w b (.map (a.modify j fun e => { e with key := macV m }) clock)) = .ok () (setBlock (setBlock w b (.map (a.modify j fun e => { e with key := macV m }) clock)) b o) := fun o => MapKept.run_setObj_map _ hb1
      simp only [Instr.entryStore, Sem.run_bind, MapKept.run_getObj_map hb1, Result.andThen_ok, asInt, asIntOf]
      simp only [Result.andThen, Sem.run_pure, hi, hset, setBlock_twice, array_modify2]
    have e : w2 = setBlock w b (.map (a.modify j fun e => { e with key := macV m, val := buV x }) clock) := by rw [r0] at hrun; exact ((Result.ok.injEq _ _ _ _).mp hrun).2.symm
    exact ⟨_, _, _, _, r1, r2, ⟨a, clock, _, _, hb, rfl⟩, ⟨a, clock, _, _, hb, rfl⟩, e ▸ hfin⟩
/-! Ranging. -/
def strike (left : Lit → Bool) (m : List UInt8) : Lit → Bool := fun z => left z && !z.sameKey (.string m)
def Rg (w : World) (b r : Nat) (es : List (List UInt8 × Bu)) (left : Lit → Bool) (cnt : Nat) : Prop :=
  (∀ p ∈ es, p.1.length = 6) ∧ (es.map (·.1)).Nodup ∧ ∃ n E, w.ranges Try.prog 49 bkR b r n (.map E) left cnt ∧ E.Perm (es.map ent)
theorem Rg.map {w : World} {b r cnt : Nat} {es : List (List UInt8 × Bu)} {left : Lit → Bool} (h : Rg w b r es left cnt) : MapAt w b es := by
  obtain ⟨h1, h2, n, E, h3, h4⟩ := h
  refine ⟨h1, h2, E, ?_, h4⟩
  have := tight h3.owns
  rwa [h4.length_eq, List.length_map] at this
theorem Rg.kept {w w' : World} {b r cnt : Nat} {es : List (List UInt8 × Bu)} {left : Lit → Bool} (h : Rg w b r es left cnt) (hb : w'.heap[b]? = w.heap[b]?) (hr : w'.heap[r]? = w.heap[r]?) : Rg w' b r es left cnt := by
  obtain ⟨h1, h2, n, E, ⟨a, clock, since, seen, c0, k1, k2, k3, k4, k5, k6⟩, h4⟩ := h
  exact ⟨h1, h2, n, E, ⟨a, clock, since, seen, c0, hb.trans k1, k2, k3, k4, hr.trans k5, k6⟩, h4⟩
theorem Rg.lt {w : World} {b r cnt : Nat} {es : List (List UInt8 × Bu)} {left : Lit → Bool} (h : Rg w b r es left cnt) : r < w.heap.size ∧ r ≠ b := by
  obtain ⟨h1, h2, n, E, h3, h4⟩ := h
  exact ⟨h3.lt, h3.ne⟩
theorem Rg.left_eq {w : World} {b r cnt : Nat} {es : List (List UInt8 × Bu)} {left : Lit → Bool} (h : Rg w b r es left cnt) : w.rangeLeft b r = cnt := by
  obtain ⟨h1, h2, n, E, h3, h4⟩ := h
  exact h3.left_eq
section
variable (w : World) {ops : Array Oper} {rest_ : List Oper} {o : Oper} {a : Act} {Q : Exit → Act → World → Prop}
/-- 'range m'. -/
theorem wpList_range_bk (hg : o.guard = none) (m : Operand) (hop : o.op = Op.range 61 m) (b : Nat) (es : List (List UInt8 × Bu)) (hm : a.eval m = .map (some b)) (h : MapAt w b es)
    (hK : ∀ w' left, Rg w' b w.heap.size es left es.length → (∀ p ∈ es, left (.string p.1) = true) → w.grownBy w' none → w'.heap.size = w.heap.size + 1 → wpList Try.prog ops Q rest_ (a.put o.dst (.pointer (some ⟨w.heap.size, 0, none⟩))) w') :
    wpList Try.prog ops Q (o :: rest_) a w := by
  obtain ⟨E, ho, hp⟩ := h.own
  refine wpList_range_own w hg m 61 hop 49 25 law Try.underlying61 bkR b _ _ hm ho fun w' h1 h2 h3 => ?_
  have e : Maps.size (DataW.map E) = es.length := by rw [Maps.size_eq, hp.length_eq, List.length_map]
  rw [e] at h1
  refine hK w' _ ⟨h.six, h.nd, _, E, h1, hp⟩ (fun p hp' => ?_) h2 h3
  have hf : find es p.1 = some p.2 := find_of h.nd hp'
  rw [h.has hp p.1, hf]
  rfl
/-- The step. -/
theorem wpList_next_bk (hg : o.guard = none) (it : Operand) (hop : o.op = Op.next it false) (b r : Nat) (es : List (List UInt8 × Bu)) (left : Lit → Bool) (cnt : Nat)
    (hit : a.eval it = .pointer (some ⟨r, 0, none⟩)) (h : Rg w b r es left cnt)
    (hDone : cnt = 0 → (∀ kl, left kl = false) → wpList Try.prog ops Q rest_ (a.put o.dst (.tuple #[.bool false])) w)
    (hMore : ∀ (a0 a1 a2 a3 a4 a5 : UInt8) (k t : Int) (w' : World) (cnt' : Nat), ([a0, a1, a2, a3, a4, a5], (⟨k, t⟩ : Bu)) ∈ es → left (.string [a0, a1, a2, a3, a4, a5]) = true → Rg w' b r es (strike left [a0, a1, a2, a3, a4, a5]) cnt' → cnt' < cnt →
      w.grownBy w' (some r) → w'.heap.size = w.heap.size → (Instr.entry (.pointer (some ⟨r, 0, none⟩))).run Try.prog w' = .ok (.tuple #[.agg #[.int .u8 (a0.toNat : Int), .int .u8 (a1.toNat : Int), .int .u8 (a2.toNat : Int), .int .u8 (a3.toNat : Int), .int .u8 (a4.toNat : Int), .int .u8 (a5.toNat : Int)], .agg #[.int .i64 k, .int .i64 t]]) w' →
      wpList Try.prog ops Q rest_ (a.put o.dst (.tuple #[.bool true, .agg #[.int .u8 (a0.toNat : Int), .int .u8 (a1.toNat : Int), .int .u8 (a2.toNat : Int), .int .u8 (a3.toNat : Int), .int .u8 (a4.toNat : Int), .int .u8 (a5.toNat : Int)], .agg #[.int .i64 k, .int .i64 t]])) w') :
    wpList Try.prog ops Q (o :: rest_) a w := by
  have h0 := h.map
  obtain ⟨h1, h2, n, E, h3, h4⟩ := h
  refine wpList_next_ranges w hg it hop 49 law bkR macV buV (fun key kl hk => ?_) (fun v y hv => ?_) b r n _ left cnt hit h3 hDone ?_
  · obtain ⟨m, _, rfl, _⟩ := keyOf_inv hk
    exact ⟨m, rfl⟩
  · obtain ⟨x, rfl, _⟩ := bkR_inv hv
    exact ⟨x, rfl⟩
  · intro m x kl y w' cnt' hk hl hv hat hr hlt hgr hsz hen
    obtain ⟨m', hm', e1, rfl⟩ := keyOf_inv hk
    obtain rfl := macV_inj e1
    obtain ⟨x', e2, rfl⟩ := bkR_inv hv
    have e3 : x' = x := by
      have : buV x = buV x' := e2
      cases x; cases x'
      simp [buV] at this
      simp [this]
    subst e3
    have hmem : (m, x') ∈ es := by
      have h5 := h0.at h4 m
      rw [hat] at h5
      have h6 : Maps.has (.map E) (.string m) = true := Maps.has_true_of_atKey hat
      rw [h0.has h4 m] at h6
      obtain ⟨y, hy⟩ := Option.isSome_iff_exists.1 h6
      rw [hy] at h5
      rw [bD_inj h5]
      exact find_mem hy
    obtain ⟨a0, a1, a2, a3, a4, a5, rfl⟩ := list6 hm'
    exact hMore a0 a1 a2 a3 a4 a5 x'.k x'.t w' cnt' hmem hl ⟨h1, h2, n, E, hr, h4⟩ hlt hgr hsz hen
/-- 'delete(m, k)' in the round, as an operation. -/
theorem wp_delete_bk {K : Act → World → Prop} (d : Option Tmp) (m x : Operand) (hop : o.op = Op.call { callee := Callee.builtin Builtin.delete, args := #[m, x], argTypes := #[61, 49] }) (b r : Nat) (es : List (List UInt8 × Bu)) (left : Lit → Bool) (cnt : Nat)
    (hm : a.eval m = .map (some b)) (h : Rg w b r es left cnt) (mac : List UInt8) (h6 : mac.length = 6) (hx : a.eval x = macV mac) (hd : o.dst = d)
    (hK : ∀ w' cnt', Rg w' b r (rest es mac) (strike left mac) cnt' → cnt' ≤ cnt → w.mapTurned w' b → K (a.put d (.tuple #[])) w') : o.wp Try.prog a w K Q := by
  obtain ⟨h1, h2, n, E, h3, h4⟩ := h
  obtain ⟨w', cnt', hrun, r1, r2, r3⟩ := h3.drop (t := 61) law Try.underlying61 (keyOf_mac h6) o.type
  unfold Oper.wp
  simp [execOp, hop, resolve, invoke, builtin, hm, hx, hrun, Result.andThen]
  rw [Oper.upon_value, hd]
  refine hK w' cnt' ⟨fun p hp => h1 p ((rest_sub es mac).subset hp), h2.sublist ((rest_sub es mac).map _), n, _, r1, ?_⟩ r2 r3
  refine (h4.filter _).trans (List.Perm.of_eq ?_)
  unfold rest
  rw [List.filter_map]
  congr 1
end
theorem strike_self (left : Lit → Bool) (m : List UInt8) : strike (strike left m) m = strike left m := by
  funext z
  unfold strike
  cases left z <;> cases z.sameKey (.string m) <;> rfl
/-- What the map holds as a function of what is still to come. -/
def cur (es : List (List UInt8 × Bu)) (keep : List UInt8 × Bu → Bool) (left : Lit → Bool) : List (List UInt8 × Bu) := es.filter fun p => left (.string p.1) || keep p
theorem cur_start {es : List (List UInt8 × Bu)} {keep : List UInt8 × Bu → Bool} {left : Lit → Bool} (h : ∀ p ∈ es, left (.string p.1) = true) : cur es keep left = es :=
  List.filter_eq_self.2 fun p hp => by rw [h p hp]; rfl
theorem cur_end {es : List (List UInt8 × Bu)} {keep : List UInt8 × Bu → Bool} {left : Lit → Bool} (h : ∀ kl, left kl = false) : cur es keep left = es.filter keep :=
  List.filter_congr fun p hp => by rw [h]; rfl
theorem one_at {es : List (List UInt8 × Bu)} (hn : (es.map (·.1)).Nodup) {p q : List UInt8 × Bu} (hp : p ∈ es) (hq : q ∈ es) (h : p.1 = q.1) : p = q := by
  have h1 := find_of hn (show (p.1, p.2) ∈ es from hp)
  have h2 := find_of hn (show (q.1, q.2) ∈ es from hq)
  rw [h, h2] at h1
  exact Prod.ext h (Option.some.inj h1).symm
theorem strike_at (left : Lit → Bool) (m m' : List UInt8) : strike left m (.string m') = (left (.string m') && !(m' == m)) := by unfold strike; rw [same_str]
theorem cur_stays {es : List (List UInt8 × Bu)} (hn : (es.map (·.1)).Nodup) {keep : List UInt8 × Bu → Bool} {left : Lit → Bool} {p : List UInt8 × Bu} (hp : p ∈ es) (hk : keep p = true) : cur es keep (strike left p.1) = cur es keep left := by
  refine List.filter_congr fun q hq => ?_
  rw [strike_at]
  by_cases h : q.1 = p.1
  · rw [one_at hn hq hp h, hk]; simp
  · have hb : (q.1 == p.1) = false := beq_eq_false_iff_ne.2 h
    rw [hb]; simp
theorem cur_gone {es : List (List UInt8 × Bu)} (hn : (es.map (·.1)).Nodup) {keep : List UInt8 × Bu → Bool} {left : Lit → Bool} {p : List UInt8 × Bu} (hp : p ∈ es) (hk : keep p = false) : rest (cur es keep left) p.1 = cur es keep (strike left p.1) := by
  unfold rest cur
  rw [List.filter_filter]
  refine List.filter_congr fun q hq => ?_
  rw [strike_at]
  by_cases h : q.1 = p.1
  · rw [one_at hn hq hp h, hk]; simp
  · have hb : (q.1 == p.1) = false := beq_eq_false_iff_ne.2 h
    rw [hb]; simp
end Go.Proofs.Ytblnglkjpnpmbaa.Bk
