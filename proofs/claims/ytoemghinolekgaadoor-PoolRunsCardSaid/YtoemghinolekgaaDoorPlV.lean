/-
  The document's pool in a block of the law's own, beside a pool of ours (PoolRuns).
-/
import Derived.Test.YtoemghinolekgaaDoorPlKc
import Derived.Test.YtoemghinolekgaaDoorPlU
namespace Go.Proofs.YtoemghinolekgaaDoor.Pl
open Go.RowKit
open Go.Proofs.YtoemghinolekgaaDoor.Id (Tr Tr.refl Tr.gr Tr.only Tr.below blk own_blk IR IR.cells IR.shape)
set_option linter.unusedVariables false
set_option linter.unusedSimpArgs false

section
variable {ops : Array Oper} {rest : List Oper} {op : Oper} {a : Act} {w : World} {Q : Exit → Act → World → Prop}
theorem wpList_store_dw (hgd : op.guard = none) (x y : Operand) (ho : op.op = .store 35 x y) (g : Nat) (b z : Int) (ar : Option Addr) (nr cr : Nat) (al : Option Addr) (nl cl : Nat) (hx : a.eval x = .pointer (some ⟨g, 0, none⟩)) (hy : a.eval y = .agg #[.int .i64 b, .int .i64 z, .slice ar nr cr, .slice al nl cl])
    (c0 c1 c2 c3 : Value) (hg : w.heap[g]? = some (.cells #[c0, c1, c2, c3] 35 (0, 0)))
    (h : ∀ w', w'.heap[g]? = some (.cells #[.int .i64 b, .int .i64 z, .slice ar nr cr, .slice al nl cl] 35 (0, 0)) → Only g w w' → wpList Tryd.prog ops Q rest (a.put op.dst undef) w') : wpList Tryd.prog ops Q (op :: rest) a w :=
  wpList_store_whole hgd 35 x y ho g [.int .i64 b, .int .i64 z, .slice ar nr cr, .slice al nl cl] hx hy 35 [c0, c1, c2, c3] hg sizeDT rfl (one_doc b z ar nr cr al nl cl) h
end
/-- A call of the pool's has gone on: a row of ints stands. -/
theorem own_off {U : World} {g : Nat} {m : Pm} {S : Po} {w w' : World} {v : Value} {n : Nat} {xs : List Value} (h : LP U g m w S) (ht : Tr (Fm g m) w w') (ho : w.ownsRow U.heap.size 3 1 v n xs) : w'.ownsRow U.heap.size 3 1 v n xs := by
  refine own_keep ho fun q hq => ht.block q ((own_blk ho q hq).2) fun hk => ?_
  simp only [Fm, List.mem_cons, List.mem_append] at hk
  rcases hk with hk | hk | hk
  · exact blk_ne_g ho h.po.pm.row (by decide) q hq hk
  · exact blk_ne_blk ho h.po.pm.fo.own (by decide) q hq hk
  · exact blk_ne_blk ho h.po.pm.lo.own (by decide) q hq hk
theorem off_doc {w : World} {g gw : Nat} {m : Pm} {S : Po} {cs : Array Value} {fr : Nat × Nat} (h : PoAt w g m S) (hc : w.heap[gw]? = some (.cells cs 35 fr)) : gw ∉ Fm g m := by
  intro hk
  simp only [Fm, List.mem_cons, List.mem_append] at hk
  rcases hk with hk | hk | hk
  · subst hk
    rw [h.pm.row] at hc
    injection hc with h1
    injection h1 with _ h2 _
    exact absurd h2 (by decide)
  · exact blk_ne_g h.pm.fo.own hc (by decide) gw hk rfl
  · exact blk_ne_g h.pm.lo.own hc (by decide) gw hk rfl
/-- The document's pool in its block. -/
structure Ds (U : World) (gw : Nat) (b : Int) (Z : Nat) (rv : Value) (L : List Int) (al : Option Addr) (nl cl : Nat) (w : World) : Prop where
  cell : w.heap[gw]? = some (.cells #[.int .i64 b, .int .i64 (Z : Int), rv, .slice al nl cl] 35 (0, 0))
  own : w.ownsRow U.heap.size 3 1 (.slice al nl cl) nl (ints L)
  len : nl = L.length
  le : U.heap.size ≤ gw
  pos : 1 ≤ gw
section
variable {U w w' : World} {gw g : Nat} {b : Int} {Z : Nat} {rv : Value} {L : List Int} {al : Option Addr} {nl cl : Nat} {m : Pm} {S T : Po}
theorem Ds.gr (h : Ds U gw b Z rv L al nl cl w) (hb : Below w.heap.size w w') : Ds U gw b Z rv L al nl cl w' :=
  ⟨heap_gr hb h.cell, own_keep h.own fun q hq => hb.block q (own_blk h.own q hq).2, h.len, h.le, h.pos⟩
theorem Ds.go (h : Ds U gw b Z rv L al nl cl w) (hp : LP U g m w S) (ht : Tr (Fm g m) w w') : Ds U gw b Z rv L al nl cl w' :=
  ⟨ht.heap h.cell (off_doc hp.po h.cell), own_off hp ht h.own, h.len, h.le, h.pos⟩
theorem Ds.ir (h : Ds U gw b Z rv L al nl cl w) : IR w (.slice al nl cl) L := by
  have := own_rd h.own
  show Rd _ _ _ _ _
  rw [← h.len]
  exact this
/-- Its block is overwritten. -/
theorem Ds.put {al' : Option Addr} {nl' cl' : Nat} {L' : List Int} {w2 : World} (h : Ds U gw b Z rv L al nl cl w) (hb : Below w.heap.size w w2) (hown : w2.ownsRow U.heap.size 3 1 (.slice al' nl' cl') nl' (ints L')) (hl : nl' = L'.length)
    (h3 : w'.heap[gw]? = some (.cells #[.int .i64 b, .int .i64 (Z : Int), rv, .slice al' nl' cl'] 35 (0, 0))) (ho : Only gw w2 w') : Ds U gw b Z rv L' al' nl' cl' w' :=
  ⟨h3, own_keep hown fun q hq => ho.heap q (own_blk hown q hq).2 (blk_ne_g hown (heap_gr hb h.cell) (by decide) q hq), hl, h.le, h.pos⟩
theorem LP.only {cs : Array Value} {fr : Nat × Nat} (h : LP U g m w S) (hc : w.heap[gw]? = some (.cells cs 35 fr)) (ho : Only gw w w') (hle : U.heap.size ≤ gw) (h1 : 1 ≤ gw) : LP U g m w' S :=
  have ht : Tr [gw] w w' := Tr.only ho (List.mem_singleton.2 rfl)
  ⟨h.po.tr ht (fun k hk => by rw [List.mem_singleton.1 hk]; exact h1) (fun k hk hk2 => off_doc h.po hc (List.mem_singleton.1 hk2 ▸ hk)), h.off, Tr.below h.low h.low.size ht fun k hk => by rw [List.mem_singleton.1 hk]; exact hle⟩
/-- What a call of the document's that changes it hands on. -/
def Dx (U w : World) (b : Int) (Z : Nat) (rv : Value) (L : List Int) (v : Value) (w' : World) : Prop :=
  ∃ al' nl' cl', v = .agg #[.int .i64 b, .int .i64 (Z : Int), rv, .slice al' nl' cl'] ∧ w'.ownsRow U.heap.size 3 1 (.slice al' nl' cl') nl' (ints L) ∧ nl' = L.length ∧ Below w.heap.size w w'
/-- What the range is. -/
structure Rng (S : Po) (b : Int) (Z : Nat) (l : List Int) : Prop where
  base : S.base = b
  size : S.size = Z
  res : S.res = l
theorem Rng.take {l : List Int} (h : Rng S b Z l) : Rng (Pl.take S).1 b Z l := ⟨(take_range S).1.trans h.base, (take_range S).2.1.trans h.size, (take_range S).2.2.trans h.res⟩
theorem Rng.want {l : List Int} (h : Rng S b Z l) (a : Int) : Rng (Pl.want S a).1 b Z l := ⟨(want_range S a).1.trans h.base, (want_range S a).2.1.trans h.size, (want_range S a).2.2.trans h.res⟩
theorem Rng.give {l : List Int} (h : Rng S b Z l) (a : Int) : Rng (Pl.give S a).1 b Z l := ⟨(give_range S a).1.trans h.base, (give_range S a).2.1.trans h.size, (give_range S a).2.2.trans h.res⟩
theorem DGo.dx {lv v : Value} {l : List Int} (hle : U.heap.size ≤ w.heap.size) (hr : Rng T b Z l) (ho : w.ownsRow U.heap.size 3 1 lv S.L.length (ints S.L)) (h : DGo w S T rv lv v w') : Dx U w b Z rv T.L v w' := by
  obtain ⟨lv', rfl, h1, h2⟩ := h
  have h3 := h1 _ hle ho
  obtain ⟨A, C, rfl, _, _⟩ := (own_rd h3).shape
  exact ⟨A, _, C, by unfold DV; rw [hr.base, hr.size], h3, rfl, h2⟩
end
section
variable {U w : World} {gw g : Nat} {b : Int} {Z : Nat} {rv : Value} {al : Option Addr} {nl cl : Nat} {m : Pm} {S : Po} {l : List Int}
theorem Ds.dv (h : Ds U gw b Z rv S.L al nl cl w) (hr : Rng S b Z l) : DV S rv (.slice al nl cl) = .agg #[.int .i64 b, .int .i64 (Z : Int), rv, .slice al nl cl] := by unfold DV; rw [hr.base, hr.size]
theorem dtake_ds (h : Ds U gw b Z rv S.L al nl cl w) (hr : Rng S b Z l) (hu : U.heap.size ≤ w.heap.size) (ok : OkP S) (hi : IR w rv l) :
    Calls Tryd.prog 16 #[.agg #[.int .i64 b, .int .i64 (Z : Int), rv, .slice al nl cl]] w fun e w' => ∃ v, e = .returned (.tuple #[v, .int .i64 (take S).2.1, .int .i64 (take S).2.2]) ∧ Dx U w b Z rv (take S).1.L v w' := by
  rw [← h.dv hr]
  exact (dtake_any w ok ⟨by rw [hr.res]; exact hi, h.ir⟩).mono fun e w' ⟨v, h1, h2⟩ => ⟨v, h1, h2.dx hu hr.take (by rw [← h.len]; exact h.own)⟩
theorem dgive_ds (h : Ds U gw b Z rv S.L al nl cl w) (hr : Rng S b Z l) (hu : U.heap.size ≤ w.heap.size) (ok : OkP S) (hi : IR w rv l) (a : Int) (ha : a ≤ 9223372036854775807) :
    Calls Tryd.prog 18 #[.agg #[.int .i64 b, .int .i64 (Z : Int), rv, .slice al nl cl], .int .i64 a] w fun e w' => ∃ v, e = .returned (.tuple #[v, .int .i64 (give S a).2]) ∧ Dx U w b Z rv (give S a).1.L v w' := by
  rw [← h.dv hr]
  exact (dgive_any a ha w ok ⟨by rw [hr.res]; exact hi, h.ir⟩).mono fun e w' ⟨v, h1, h2⟩ => ⟨v, h1, h2.dx hu (hr.give a) (by rw [← h.len]; exact h.own)⟩
theorem dwant_ds (h : Ds U gw b Z rv S.L al nl cl w) (hr : Rng S b Z l) (hu : U.heap.size ≤ w.heap.size) (ok : OkP S) (hi : IR w rv l) (a : Int) (ha : a ≤ 9223372036854775807) :
    Calls Tryd.prog 20 #[.agg #[.int .i64 b, .int .i64 (Z : Int), rv, .slice al nl cl], .int .i64 a] w fun e w' => ∃ v, e = .returned (.tuple #[v, .int .i64 (want S a).2]) ∧ Dx U w b Z rv (want S a).1.L v w' := by
  rw [← h.dv hr]
  exact (dwant_any a ha w ok ⟨by rw [hr.res]; exact hi, h.ir⟩).mono fun e w' ⟨v, h1, h2⟩ => ⟨v, h1, h2.dx hu (hr.want a) (by rw [← h.len]; exact h.own)⟩
theorem dhas_ds (h : Ds U gw b Z rv S.L al nl cl w) (hr : Rng S b Z l) (ok : OkP S) (hi : IR w rv l) (a : Int) (ha : a ≤ 9223372036854775807) :
    Calls Tryd.prog 27 #[.agg #[.int .i64 b, .int .i64 (Z : Int), rv, .slice al nl cl], .int .i64 a] w fun e w' => e = .returned (.bool (has S a)) ∧ Below w.heap.size w w' := by
  rw [← h.dv hr]
  exact dhas_any a ha w ok ⟨by rw [hr.res]; exact hi, h.ir⟩
theorem dfree_ds (h : Ds U gw b Z rv S.L al nl cl w) (hr : Rng S b Z l) (ok : OkP S) (hi : IR w rv l) :
    Calls Tryd.prog 25 #[.agg #[.int .i64 b, .int .i64 (Z : Int), rv, .slice al nl cl]] w fun e w' => e = .returned (.int .i64 (free S)) ∧ Below w.heap.size w w' := by
  rw [← h.dv hr]
  exact dfree_any w ok ⟨by rw [hr.res]; exact hi, h.ir⟩
end
end Go.Proofs.YtoemghinolekgaaDoor.Pl
