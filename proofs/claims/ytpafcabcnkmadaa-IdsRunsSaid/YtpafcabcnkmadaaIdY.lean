/-
  Rows that a law holds beside its allocator: they stand where it turns; 'append' tells where it went.
-/
import Derived.Test.YtpafcabcnkmadaaIdW
namespace Go.Proofs.Ytpafcabcnkmadaa.Id
open Go.RowKit
set_option linter.unusedVariables false
set_option linter.unusedSimpArgs false

/-- This slice lies in none of the allocator's blocks. -/
def Beside (w : World) (g : Nat) (m : Am) (v : Value) : Prop := ∀ k ∈ blk v, k < w.heap.size ∧ k ∉ Fm g m
theorem Beside.nil (w : World) (g : Nat) (m : Am) (n c : Nat) : Beside w g m (.slice none n c) := fun k hk => by cases hk
theorem Beside.stp {w w' : World} {g : Nat} {m m' : Am} {v : Value} (h : Beside w g m v) (hs : Stp g m m' w w') : Beside w' g m' v := fun k hk => by
  obtain ⟨h1, h2⟩ := h k hk
  refine ⟨Nat.lt_of_lt_of_le h1 hs.tr.size, fun h3 => ?_⟩
  rcases hs.blk k h3 with h4 | h4
  · exact h2 h4
  · omega
theorem Beside.gr {w w' : World} {g : Nat} {m : Am} {v : Value} (h : Beside w g m v) (hb : Below w.heap.size w w') : Beside w' g m v := fun k hk => ⟨Nat.lt_of_lt_of_le (h k hk).1 hb.size, (h k hk).2⟩
theorem own_stp {w w' : World} {base n size g : Nat} {e : TypeId} {v : Value} {xs : List Value} {m m' : Am} (h : w.ownsRow base e size v n xs) (ha : Beside w g m v) (hs : Stp g m m' w w') : w'.ownsRow base e size v n xs :=
  own_keep h fun k hk => hs.tr.block k (ha k hk).1 (ha k hk).2
theorem Rd.stp {w w' : World} {size n g : Nat} {v : Value} {xs : List Value} {m m' : Am} (h : Rd w size v n xs) (ha : Beside w g m v) (hs : Stp g m m' w w') : Rd w' size v n xs := Rd.tr h hs.tr fun k hk => (ha k hk).2
/-- Another row of the law's own turns: the allocator stands. -/
theorem LA.grown {W w w' : World} {g : Nat} {m : Am} {S : Al} (h : LA W g m w S) {v : Value} (hg : w.grownBy w' v.ownBlock) (ha : ∀ k ∈ blk v, k ∉ Fm g m ∧ W.heap.size ≤ k) : LA W g m w' S := by
  have hk : ∀ k, v.ownBlock = some k → k ∈ blk v := by
    intro k hk
    cases v with
    | slice a n c =>
      cases a with
      | none => cases hk
      | some ad => simp only [Value.ownBlock, Option.some.injEq] at hk; subst hk; simp [blk]
    | _ => cases hk
  refine ⟨⟨h.al.am.keep fun k hk2 => hg.block k (h.al.am.lt k hk2) fun e => ?_, h.al.sh, h.al.ok, h.al.sorted⟩, (h.low).grown hg h.low.size fun k he => (ha k (hk k he)).2, h.own⟩
  exact (ha k (hk k e.symm)).1 hk2
theorem LA.stp {W w w' : World} {g : Nat} {m m' : Am} {S T : Al} (h : LA W g m w S) (ha : AlAt w' g m' T) (hs : Stp g m m' w w') : LA W g m' w' T := by
  refine ⟨ha, Tr.below h.low h.low.size hs.tr h.own, fun k hk => ?_⟩
  rcases hs.blk k hk with h1 | h1
  · exact h.own k h1
  · exact Nat.le_trans h.low.size h1
theorem take_lb {W w : World} {g : Nat} {m : Am} {S : Al} (h : LA W g m w S) (t : Int) :
    Calls Try.prog 14 #[.pointer (some ⟨g, 0, none⟩), .int .i64 t] w fun e w' => e = .returned (.tuple #[.int .i64 (take S t).2.1, .int .i64 (take S t).2.2]) ∧ ∃ m', LA W g m' w' (take S t).1 ∧ Stp g m m' w w' :=
  (take_any g t w h.al).mono fun e w' ⟨he, m', ha, hs⟩ => ⟨he, m', h.stp ha hs, hs⟩
theorem give_lb {W w : World} {g : Nat} {m : Am} {S : Al} (h : LA W g m w S) (id t : Int) :
    Calls Try.prog 18 #[.pointer (some ⟨g, 0, none⟩), .int .i64 id, .int .i64 t] w fun e w' => e = .returned (.int .i64 (give S id t).2) ∧ ∃ m', LA W g m' w' (give S id t).1 ∧ Stp g m m' w w' :=
  (give_any g id t w h.al).mono fun e w' ⟨he, m', ha, hs⟩ => ⟨he, m', h.stp ha hs, hs⟩
section
variable {P : Program}
/-- 'append(s, x..)', s of one's own: what is told lies where s lay, or in new memory. -/
theorem run_append_where (w : World) (base : Nat) (t ty e : TypeId) (i : TypeInfo) (z : Value) (size bytes : Nat) (ht : P.underlying t = some (.slice e)) (hi : P.info? e = some i) (hz : i.zero = some z)
    (hsize : i.size = size) (hby : i.bytes = bytes) (hzs : z.cells.size = size) (hsz : 0 < size)
    (v : Value) (n : Nat) (xs : List Value) (hown : w.ownsRow base e size v n xs)
    (a : Addr) (m c : Nat) (news : List Value) (hl : news.length = m * size) (hnews : ∀ j u, news[j]? = some u → w.cell? (a.add j) = some u) (h1 : ∀ u ∈ news, u.oneCell' = true)
    (h63 : n + m ≤ maxLen) (hbytes : (n + m) * bytes ≤ 140737488355328) (hbase : base ≤ w.heap.size) :
    ∃ v' w', (Builtin.append_ #[t, t] ty #[v, .slice (some a) m c]).run P w = .ok v' w' ∧ w'.ownsRow base e size v' (n + m) (xs ++ news) ∧ w.grownBy w' v.ownBlock ∧ ∀ k ∈ blk v', k ∈ blk v ∨ w.heap.size ≤ k := by
  obtain ⟨v', w', hr, h2, h3, h4⟩ := run_append_own (P := P) w base t ty e i z size bytes ht hi hz hsize hby hzs hsz v n xs hown a m c news hl hnews h1 h63 hbytes hbase
  refine ⟨v', w', hr, h2, h3, ?_⟩
  subst hsize
  subst hby
  have h63' : n + m ≤ 9223372036854775807 := by simp only [maxLen] at h63; omega
  rcases hown.2 with ⟨rfl, rfl⟩ | ⟨g, cap, cur, rfl, hbg, hg, hnc, hcm, hcs, htake⟩
  · by_cases hm : m = 0
    · have := h4.2 ⟨rfl, hm⟩
      subst this
      intro k hk; cases hk
    · have hr2 := run_append_nil (P := P) w t ty e i z ht hi hz a m c news hl hnews (by omega) (by omega) (by have hb := hbytes; simp only [Nat.zero_add] at hb; omega)
      rw [hr] at hr2
      injection hr2 with e1 e2
      subst e1
      intro k hk
      exact .inr (Nat.le_of_eq (List.mem_singleton.1 hk).symm)
  · by_cases hroom : n + m ≤ cap
    · have hr2 := run_append_room (P := P) w t ty e i ht hi g n cap cur hg a m c news hl hnews h1 hroom (by rw [hl, hcs, ← Nat.add_mul]; exact Nat.mul_le_mul_right _ hroom)
      rw [hr] at hr2
      injection hr2 with e1 e2
      subst e1
      intro k hk
      exact .inl hk
    · have holds : ∀ j u, xs[j]? = some u → w.cell? ((⟨g, 0, none⟩ : Addr).add j) = some u := hown.cells (g := g) rfl
      have hr2 := run_append_grow (P := P) w t ty e i z ht hi hz ⟨g, 0, none⟩ n cap xs hown.1 holds a m c news hl hnews (by omega) (by omega) (growslice_fits (by omega) hbytes)
      rw [hr] at hr2
      injection hr2 with e1 e2
      subst e1
      intro k hk
      exact .inr (Nat.le_of_eq (List.mem_singleton.1 hk).symm)
theorem wpList_append_where (w : World) {ops : Array Oper} {rest : List Oper} {o : Oper} {a : Act} {Q : Exit → Act → World → Prop} (hgd : o.guard = none) (s x : Operand) (t : TypeId)
    (ho : o.op = .call { callee := .builtin .append, args := #[s, x], argTypes := #[t, t] })
    (base : Nat) (e : TypeId) (i : TypeInfo) (z : Value) (size bytes : Nat) (ht : P.underlying t = some (.slice e)) (hi : P.info? e = some i) (hz : i.zero = some z)
    (hsize : i.size = size) (hby : i.bytes = bytes) (hzs : z.cells.size = size) (hsz : 0 < size)
    (v : Value) (n : Nat) (xs : List Value) (hs : a.eval s = v) (hown : w.ownsRow base e size v n xs)
    (ad : Addr) (m c : Nat) (news : List Value) (hx : a.eval x = .slice (some ad) m c) (hl : news.length = m * size) (hnews : ∀ j u, news[j]? = some u → w.cell? (ad.add j) = some u) (h1 : ∀ u ∈ news, u.oneCell' = true)
    (h63 : n + m ≤ maxLen) (hbytes : (n + m) * bytes ≤ 140737488355328) (hbase : base ≤ w.heap.size)
    (h : ∀ v' w', w'.ownsRow base e size v' (n + m) (xs ++ news) → w.grownBy w' v.ownBlock → (∀ k ∈ blk v', k ∈ blk v ∨ w.heap.size ≤ k) → wpList P ops Q rest (a.put o.dst v') w') : wpList P ops Q (o :: rest) a w := by
  refine wpList_plain hgd fun K hK => ?_
  obtain ⟨v', w', hr, h2, h3, h4⟩ := run_append_where (P := P) w base t o.type e i z size bytes ht hi hz hsize hby hzs hsz v n xs hown ad m c news hl hnews h1 h63 hbytes hbase
  unfold Oper.wp execOp
  simp only [ho, resolve, invoke, builtin, Sem.run_bind, Sem.run_pure, Result.andThen_ok, List.map_toArray, List.map_cons, List.map_nil, hs, hx, hr]
  exact hK _ _ (h v' w' h2 h3 h4)
end
end Go.Proofs.Ytpafcabcnkmadaa.Id
