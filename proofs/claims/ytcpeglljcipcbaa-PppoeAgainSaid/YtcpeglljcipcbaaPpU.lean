/-
  A constant's conversion behind other moves; what an offer, a session, a refusal hold; what Client tells is short.
-/
import Derived.Test.YtcpeglljcipcbaaPpT
import Derived.Test.YtcpeglljcipcbaaPpH
import Derived.Test.YtcpeglljcipcbaaPpO
namespace Go.Proofs.Ytcpeglljcipcbaa
open Go.RowKit
set_option linter.unusedVariables false
set_option linter.unusedSimpArgs false

theorem run_mark {P : Program} (w : World) (t e : TypeId) (g : Nat) (C : Array Value) (n c : Nat) (hg : w.heap[g]? = some (.cells C e (0, 0))) (ht : P.underlying t = some (.slice e)) (he : P.underlying e = some (.int .u8)) :
    ∃ wn, (convert t t (.slice (some ⟨g, 0, none⟩) n c)).run P w = .ok (.slice (some ⟨g, 0, none⟩) n c) wn ∧ Only g w wn ∧ wn.heap[g]? = some (.cells C e (C.size, C.size + 1)) := by
  have hsh : w.shape? g = some (e, C.size) := by
    unfold World.shape?
    rw [hg]
  have hh : (w.freeze ⟨g, C.size, none⟩ 1).heap = w.heap.modify g fun
      | .cells c elem (lo, hi) => .cells c elem (if lo == hi then (C.size, C.size + 1) else (min lo C.size, max hi (C.size + 1)))
      | o => o := by
    unfold World.freeze
    rw [if_neg (by decide)]
    rfl
  have hother : ∀ k, k ≠ g → (w.freeze ⟨g, C.size, none⟩ 1).heap[k]? = w.heap[k]? := fun k hk => by
    rw [hh, Array.getElem?_modify, if_neg (Ne.symm hk)]
  have hsz : (w.freeze ⟨g, C.size, none⟩ 1).heap.size = w.heap.size := by rw [hh, Array.size_modify]
  have hfz : w.freeze ⟨g, C.size, none⟩ 1 = { w with heap := (w.freeze ⟨g, C.size, none⟩ 1).heap } := by
    unfold World.freeze
    rw [if_neg (by decide)]
  refine ⟨w.freeze ⟨g, C.size, none⟩ 1, ?_, ⟨Nat.le_of_eq hsz.symm, fun B w0 hB hb => ⟨?_, ?_, ?_, ?_, fun k hk => ?_⟩, fun k _ hk => hother k hk⟩, ?_⟩
  · simp [convert, run_underlying ht, run_underlying he, markStringish, hsh]
  · rw [hfz]; exact hb.os
  · rw [hfz]; exact hb.tape
  · rw [hfz]; exact hb.output
  · rw [hsz]; exact hb.size
  · rw [hother k (by omega)]; exact hb.block k hk
  · rw [hh, Array.getElem?_modify, if_pos rfl, hg]
    rfl
theorem only_heap {w w' : World} {g g' : Nat} {cs cs' : Array Value} {e e' : TypeId} {fr fr' : Nat × Nat} (ho : Only g w w') (h : w.heap[g']? = some (.cells cs e fr)) (hk : w.heap[g]? = some (.cells cs' e' fr')) (he : e ≠ e') : w'.heap[g']? = some (.cells cs e fr) := by
  have hne : g' ≠ g := fun e1 => by
    subst e1
    rw [h] at hk
    simp only [Option.some.injEq, Obj.cells.injEq] at hk
    exact he hk.2.1
  rw [ho.heap g' (Array.getElem?_eq_some_iff.1 h).1 hne]
  exact h
theorem only_own {w w' : World} {g base : Nat} {e e' : TypeId} {size n : Nat} {v : Value} {xs : List Value} {cs' : Array Value} {fr' : Nat × Nat} (ho : Only g w w') (h : w.ownsRow base e size v n xs) (hk : w.heap[g]? = some (.cells cs' e' fr')) (he : e ≠ e') : w'.ownsRow base e size v n xs := by
  refine ⟨h.1, ?_⟩
  rcases h.2 with h | ⟨k, cap, cur, h1, h2, h3, h4⟩
  · exact .inl h
  · exact .inr ⟨k, cap, cur, h1, h2, only_heap ho h3 hk he, h4⟩
/-- A marked block of bytes is read. -/
theorem mark_bs {w : World} {g : Nat} {fr : Nat × Nat} {e : TypeId} (l : List UInt8) (n : Nat) (hn : l.length = n) (hm : n ≤ maxLen) (h : w.heap[g]? = some (.cells (l.map u8v).toArray e fr)) : Bs w (.slice (some ⟨g, 0, none⟩) n n) l := by
  subst hn
  refine ⟨by simp, _, l.length, rfl, Nat.le_refl _, hm, (fun h => by cases h), fun ad had j u hu => ?_⟩
  obtain rfl := Option.some.inj had
  rw [Addr.add_lit, Nat.zero_add, cell_of_row _ _ _ _ _ _ h]
  simpa using hu

def cook : List UInt8 := [99, 111, 111, 107, 105, 101]
theorem cook_cells : (#[.int .u8 99, .int .u8 111, .int .u8 111, .int .u8 107, .int .u8 105, .int .u8 101] : Array Value) = (cook.map u8v).toArray := by kernel_rfl
/-- What told asks of a packet. -/
def Told (d : DD) (p : PP) : Prop := ∃ ls, dec p.l = (ls, 0) ∧ allL ls 259 = (if d.hu then [d.ul] else []) ∧ allL ls 272 = if d.hr then [d.rl] else []
theorem pack_told {d : DD} {c s : Int} {ls : List PT} (h : (packP c s ls).2 = 0) (h1 : allL ls 259 = if d.hu then [d.ul] else []) (h2 : allL ls 272 = if d.hr then [d.rl] else []) : (packP c s ls).1.c = c ∧ (packP c s ls).1.s = s ∧ Told d (packP c s ls).1 := by
  have h0 := packP_zero h
  rw [packP_ok h0]
  exact ⟨rfl, rfl, ls, dec_wire h0, h1, h2⟩
theorem offer_told {y : ByteArray} {ss : List ByteArray} {d : DD} {ck : List UInt8} (h : (offerP y ss d ck).2 = 0) : d.c = 9 ∧ (offerP y ss d ck).1.c = 7 ∧ (offerP y ss d ck).1.s = 0 ∧ Told d (offerP y ss d ck).1 := by
  unfold offerP at h ⊢
  split at h
  · rename_i hc
    rw [if_pos hc]
    exact ⟨hc, pack_told h (offer_u _ _ _ _) (offer_r _ _ _ _)⟩
  · cases h
theorem sess_told {d : DD} {id : Int} (h : (sessP d id).2 = 0) : d.c = 25 ∧ (sessP d id).1.c = 101 ∧ (sessP d id).1.s = id ∧ Told d (sessP d id).1 := by
  unfold sessP at h ⊢
  split at h
  · rename_i hc
    split at h
    · rename_i hid
      rw [if_pos hc, if_pos hid]
      refine ⟨hc, pack_told h ?_ ?_⟩
      · rw [allL_append, again_u]; simp [allL]
      · rw [allL_append, again_r]; simp [allL]
    · cases h
  · cases h
theorem ref_told {d : DD} {why : ByteArray} (h : (refP d 514 why).2 = 0) : d.c = 25 ∧ (refP d 514 why).1.c = 101 ∧ (refP d 514 why).1.s = 0 ∧ Told d (refP d 514 why).1 := by
  unfold refP at h ⊢
  split at h
  · rename_i hc
    rw [if_pos (by decide)] at h
    rw [if_pos hc, if_pos (by decide)]
    refine ⟨hc, pack_told h ?_ ?_⟩
    · rw [allL_append, again_u]; simp [allL]
    · rw [allL_append, again_r]; simp [allL]
  · cases h
theorem first_small {l : List UInt8} {t : Int} : (firstL (dec l).1 t).length ≤ 1494 := by
  unfold firstL
  cases h : (dec l).1.find? fun x => decide (x.1 = t) with
  | none => simp
  | some x => exact (dec_small l _ _ rfl).2 x (List.mem_of_find?_eq_some h)
theorem cli_short {p : PP} : ((cliP p).2 = 0 ∨ (cliP p).2 = 61) ∧ (cliP p).1.v.size ≤ 1600 ∧ (cliP p).1.ul.length ≤ 1600 ∧ (cliP p).1.rl.length ≤ 1600 ∧ (cliP p).1.kl.length ≤ 1600 := by
  unfold cliP
  split
  · refine ⟨.inl rfl, ?_, Nat.le_trans first_small (by decide), Nat.le_trans first_small (by decide), ?_⟩
    · show (if p.c = 167 then (⟨#[]⟩ : ByteArray) else ⟨(firstL (dec p.l).1 257).toArray⟩).size ≤ 1600
      split
      · decide
      · show (firstL (dec p.l).1 257).toArray.size ≤ 1600
        rw [List.size_toArray]
        exact Nat.le_trans first_small (by decide)
    · show (if p.c = 25 then firstL (dec p.l).1 260 else []).length ≤ 1600
      split
      · exact Nat.le_trans first_small (by decide)
      · decide
  · exact ⟨.inr rfl, by decide, by decide, by decide, by decide⟩
end Go.Proofs.Ytcpeglljcipcbaa
