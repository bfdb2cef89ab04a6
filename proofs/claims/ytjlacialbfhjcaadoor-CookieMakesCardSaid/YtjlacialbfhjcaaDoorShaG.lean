import Derived.Test.YtjlacialbfhjcaaDoorShaF
namespace Go.Proofs.YtjlacialbfhjcaaDoor
open Go.RowKit
set_option linter.unusedVariables false
set_option linter.unusedSimpArgs false

theorem size_hash : (Tryd.prog.info? 82).map (·.size) = some 74 := by kernel_rfl
/-- The cells of a Hash that nobody made. -/
def zh : Array Value := (Value.bool false :: (List.replicate 8 (Value.int .u32 0) ++ (List.replicate 64 (Value.int .u8 0) ++ [Value.int .i64 0]))).toArray
theorem zero_hash (w : World) : (zeroValue 82).run Tryd.prog w = .ok (.agg zh) w := by kernel_rfl
theorem one_hcells (s : St) (left : List UInt8) (n : Nat) : ∀ v ∈ hcells s left n, v.oneCell' = true := by
  intro v hv
  simp only [hcells, List.mem_cons, List.mem_append, List.mem_map, St.cells, List.not_mem_nil, or_false] at hv
  rcases hv with rfl | ⟨x, _, rfl⟩ | ⟨x, _, rfl⟩ | rfl <;> rfl
theorem fork_any (g : Nat) (t : List UInt8) (w : World) (h : HashAt w g t) :
    Calls Tryd.prog 44 #[.pointer (some ⟨g, 0, none⟩)] w fun e w' => ∃ g', e = .returned (.pointer (some ⟨g', 0, none⟩)) ∧ w.heap.size ≤ g' ∧ HashAt w' g' t ∧ Below w.heap.size w w' := by
  obtain ⟨left, hl, hg⟩ := id h
  have hlen := hcells_length (hashS t) left t.length hl.1
  have hsz : (Tryd.prog.info? 82).map (·.size) = some (hcells (hashS t) left t.length).length := by rw [hlen]; exact size_hash
  have HSZ := Lib.hid hsz
  have HR := Lib.hid (range_of_row hg)
  have HLL := Lib.hid hl
  have HLEN := Lib.hid hlen
  have HM := Lib.hid (isMade_yes g w h.made)
  obtain ⟨cs, hcs⟩ : ∃ cs, cs = hcells (hashS t) left t.length := ⟨_, rfl⟩
  rw [← hcs] at HSZ HR HLEN
  have HCS := Lib.hid hcs
  clear h hg hl hlen hsz hcs
  have HZ := zero_hash
  go_enter Tryd.func44, Tryd.ntmps44
  go_wp2_with (first | (go_at_call 50; refine HM.out.mono ?_; rintro e w1 ⟨rfl, rfl⟩) | (with_reducible refine wpList_load_mid rfl 82 (.tmp 8) rfl g 0 rfl cs _ HR.out Tryd.underlying82 rfl HSZ.out ?_) | (with_reducible refine wpList_store_row rfl 82 (.tmp 3) (.tmp 9) rfl w.heap.size cs.toArray rfl rfl 82 zh (heap_alloc_last _ _) ?a1 ?a2 ?a3 ?_))
  case a1 => rw [List.size_toArray]; exact HSZ.out
  case a2 => show zh.size = cs.length; rw [HLEN.out]; rfl
  case a3 => rw [HCS.out]; exact all_oneCell_toArray (one_hcells _ _ _)
  intro w2 h1 h2 _
  have H1 := Lib.hid h1
  have H2 := Lib.hid (h2 _ _ (Nat.le_refl _) ((Below.refl _ _).alloc (Nat.le_refl _) _))
  clear h1 h2
  go_wp2
  go_ret
  exact ⟨w.heap.size, rfl, Nat.le_refl _, ⟨left, HLL.out, by rw [H1.out, HCS.out]⟩, H2.out⟩
end Go.Proofs.YtjlacialbfhjcaaDoor
