/-
  The document's Same and SameBytes, of two rows that are the same.
-/
import Derived.Test.YtcpeglljcipcbaaTagB
namespace Go.Proofs.Ytcpeglljcipcbaa
open Go.RowKit
set_option linter.unusedVariables false
set_option linter.unusedSimpArgs false

theorem plain_at {ts us : List Tg} (h : plain ts = plain us) (i : Nat) (h1 : i < ts.length) (h2 : i < us.length) : ts[i].typ = us[i].typ ∧ ts[i].l = us[i].l := by
  have e1 := plain_get ts i h1
  have e2 := plain_get us i h2
  have h3 : (plain ts)[i]'(by rw [plain_length]; exact h1) = (plain us)[i]'(by rw [plain_length]; exact h2) := by simp only [h]
  rw [e1, e2] at h3
  exact ⟨congrArg Prod.fst h3, congrArg Prod.snd h3⟩

/-- v is a row of n slices of bytes that reads the values of ts in w. -/
structure SR (w : World) (v : Value) (n : Nat) (ts : List Tg) : Prop where
  rd : Rd w 1 v n (vals ts)
  vs : ∀ t ∈ ts, Bs w t.val t.l
theorem SR.len {w : World} {v : Value} {n : Nat} {ts : List Tg} (h : SR w v n ts) : ts.length = n := by
  have := h.rd.1
  rw [vals_length] at this
  omega
theorem SR.below {w w' : World} {v : Value} {n : Nat} {ts : List Tg} (h : SR w v n ts) (hb : Below w.heap.size w w') : SR w' v n ts := ⟨h.rd.below hb, fun t ht => (h.vs t ht).below hb⟩
theorem SR.cells {w : World} {ao : Option Addr} {n c : Nat} {ts : List Tg} (h : SR w (.slice ao n c) n ts) (hn : 0 < n) :
    ∃ b o, ao = some ⟨b, o, none⟩ ∧ b < w.heap.size ∧ ∀ i (hi : i < ts.length), w.cell? ⟨b, o + i, none⟩ = some ts[i].val := by
  obtain ⟨b, o, h1, h2, h3⟩ := Rd.cells h.rd hn (by omega)
  exact ⟨b, o, h1, h2, fun i hi => h3 _ _ (by simp [vals, hi])⟩
theorem SR.val {w : World} {v : Value} {n : Nat} {ts : List Tg} (h : SR w v n ts) (i : Nat) (hi : i < ts.length) : Bs w ts[i].val ts[i].l := h.vs _ (List.getElem_mem hi)
theorem ls_at {ts us : List Tg} (h : ts.map (·.l) = us.map (·.l)) (i : Nat) (h1 : i < ts.length) (h2 : i < us.length) : ts[i].l = us[i].l := by
  have h3 : (ts.map (·.l))[i]'(by simpa using h1) = (us.map (·.l))[i]'(by simpa using h2) := by simp only [h]
  simpa using h3

end Go.Proofs.Ytcpeglljcipcbaa
