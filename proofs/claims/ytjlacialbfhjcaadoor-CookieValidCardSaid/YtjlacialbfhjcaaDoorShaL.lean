/-
  What the tie gives the walks ('of_laid'), and a state that comes in.
-/
import Derived.Test.YtjlacialbfhjcaaDoorShaK
import Derived.Test.YtjlacialbfhjcaaDoorArr
import Derived.Test.YtjlacialbfhjcaaDoorTie
import Derived.Test.YtjlacialbfhjcaaDoorCards
import Derived.LaidMore
import Derived.Stop.Joined
namespace Go.Proofs.YtjlacialbfhjcaaDoor
open Go.ChangeShapes Go.WideShapes Go.ChangeAt Go.RowKit
set_option linter.unusedVariables false
set_option linter.unusedSimpArgs false

theorem gRounds : Tryd.prog.globalNamed "concierge/sha.rounds" = some 0 := by kernel_rfl
theorem tRounds : (Tryd.prog.globals[0]?).map (·.type) = some 87 := by kernel_rfl
theorem kL_datum : (Rows.laid_concierge_sha_rounds : DataW Unit) = .agg (kL.map fun x => .lit (.int .u32 (iv x))) := by rfl
theorem of_laid {W : World} (h : laidMetH Tryd.prog [("concierge/sha.rounds", Rows.laid_concierge_sha_rounds)] W) : Laid W := by
  rw [MakeChecks.laidMetH_plain _ _ _ (by kernel_rfl)] at h
  obtain ⟨ps, ⟨g0, t0, cs0, f0, p0, q0, hg0, ht0, hv0, hd0, _, _⟩, _, _⟩ := h
  obtain rfl := Option.some.inj (gRounds.symm.trans hg0)
  obtain rfl := Option.some.inj (tRounds.symm.trans ht0)
  obtain ⟨xs, m1, hx, hx1, hlen, hn3, hel⟩ := DataW.trod_array Tryd.underlying87 hd0
  have c3 : Tryd.prog.cellsOf 77 = 1 := by kernel_rfl
  have hc : ∀ i, i < 64 → W.cell? ⟨0, i, none⟩ = some (u32v (kL.getD i 0)) := by
    intro i hi
    have h0 := hel i hi
    rw [c3, Nat.mul_one, List.getElem?_eq_getElem (by omega)] at h0
    obtain ⟨z, e1, e2, _⟩ := DataW.trod_int Tryd.underlying77 h0
    have hx2 : (kL.map fun x => (DataW.lit (.int .u32 (iv x)) : DataW Unit)) = xs.map (·.1) := by
      have := (Prod.mk.inj hx1).1
      rw [kL_datum] at this
      simpa using this
    have hz : z = iv (kL.getD i 0) := by
      have h3 := congrArg (fun l => l[i]?) hx2
      have hk : i < kL.length := hi
      simp only [List.getElem?_map, List.getElem?_eq_getElem hk, List.getElem?_eq_getElem (show i < xs.length by omega), Option.map_some, Option.some.injEq, e2, DataW.lit.injEq, Lit.int.injEq, true_and] at h3
      rw [← h3, List.getD_eq_getElem?_getD, List.getElem?_eq_getElem hk]
      rfl
    have hc64 : Tryd.prog.cellsOf 87 = 64 := by kernel_rfl
    have hi2 : i < cs0.toList.length := by rw [hlen, hc64]; exact hi
    rw [List.drop_eq_getElem_cons hi2] at e1
    simp at e1
    have := World.var?_cell hg0 hv0 i
    rw [this]
    show _ = some (Value.int .u32 (iv (kL.getD i 0)))
    rw [← hz, ← e1]
    simp at hi2
    simp [hi2]
  refine ⟨World.block_lt_of_cell? W _ (hc 0 (by omega)), hc⟩
theorem info_w : ∃ i, Tryd.prog.info? 77 = some i ∧ i.size = 1 := by
  obtain ⟨i0, hi, _, h1, _⟩ := info_parts info_u32
  exact ⟨i0, hi, h1⟩
theorem begin_cells (w : World) : Calls Tryd.prog 49 #[] w fun e w' => e = .returned (.agg st0.cells.toArray) ∧ Below w.heap.size w w' := begin_any w
theorem eql_words (s : St) (w : World) : (binOp .eql 78 (.agg s.cells.toArray) (.agg s.cells.toArray)).run Tryd.prog w = .ok (.bool true) w := by
  obtain ⟨i0, hi, h1⟩ := info_w
  have := run_eql_array Tryd.underlying78 Tryd.underlying77 hi h1 (s.list.map iv) (s.list.map iv) rfl rfl w
  simpa [St.cells, Function.comp_def] using this
theorem eql_bytes32 (l : List UInt8) (h : l.length = 32) (w : World) : (binOp .eql 56 (.agg (l.map u8v).toArray) (.agg (l.map u8v).toArray)).run Tryd.prog w = .ok (.bool true) w := by
  obtain ⟨i0, hi, _, h1, _⟩ := info_parts info5
  have := run_eql_array Tryd.underlying56 Tryd.underlying5 hi h1 (l.map fun b => (b.toNat : Int)) (l.map fun b => (b.toNat : Int)) (by simpa using h) (by simpa using h) w
  have e : l.map u8v = (l.map fun b => (b.toNat : Int)).map (Value.int .u8) := by rw [List.map_map]; rfl
  rw [e, this]
  simp
section
variable {H : Type} {enc : TypeId × Value → H} {P : Program} {W : World} {base : Nat}
theorem words_of_ints : ∀ (zs : List Int), (∀ z ∈ zs, (Lit.int .u32 z).wf = true) → ∃ l : List UInt32, zs = l.map iv
  | [], _ => ⟨[], rfl⟩
  | z :: zs, h => by
    have h' : 0 ≤ z ∧ z ≤ 4294967295 := by simpa [Lit.wf, IntKind.min, IntKind.max, IntKind.signed, IntKind.bits] using h z (by simp)
    obtain ⟨l, hl⟩ := words_of_ints zs (fun n hn => h n (by simp [hn]))
    refine ⟨UInt32.ofNat z.toNat :: l, ?_⟩
    rw [List.map_cons, ← hl, iv_mk _ (by omega)]
    congr 1
    omega
/-- A state that comes in. -/
theorem open_words8 {t e : TypeId} {v : Value} {d : DataW H} {p : List MemPlace} (ht : P.underlying t = some (.array 8 e)) (he : P.underlying e = some (.int .u32)) (hc : P.cellsOf e = 1) (hct : P.cellsOf t = 8)
    (hval : Value.okWide P W .any base t v) (h : DataW.Trod enc P W 0 (fun _ => true) true t v d p) : ∃ s : St, v = .agg s.cells.toArray := by
  obtain ⟨zs, hl, hw, rfl⟩ := open_arr ht he hc hct hval h
  obtain ⟨l, rfl⟩ := words_of_ints zs hw
  rw [List.length_map] at hl
  match l, hl with
  | [a, b, c, d, e, f, g, h], _ => exact ⟨⟨a, b, c, d, e, f, g, h⟩, rfl⟩
end
end Go.Proofs.YtjlacialbfhjcaaDoor
