/-
  A Mac: New, Add, Sum, Len, isMade.
-/
import Derived.Test.YtjlacialbfhjcaaDoorMacA
namespace Go.Proofs.YtjlacialbfhjcaaDoor
open Go.RowKit
set_option linter.unusedVariables false
set_option linter.unusedSimpArgs false

/-- In block m lies a Mac of the key, to which msg was added. -/
def MacAt (w : World) (m gi go : Nat) (key msg : List UInt8) : Prop :=
  w.heap[m]? = some (.cells #[.pointer (some ⟨gi, 0, none⟩), .pointer (some ⟨go, 0, none⟩)] 76 (0, 0)) ∧ HashAt w gi (innerL key msg) ∧ HashAt w go (outerL key []) ∧ gi ≠ go ∧ m ≠ gi
theorem MacAt.below {w w' : World} {m gi go : Nat} {key msg : List UInt8} (h : MacAt w m gi go key msg) (hb : Below w.heap.size w w') : MacAt w' m gi go key msg :=
  ⟨heap_below h.1 hb, h.2.1.below hb, h.2.2.1.below hb, h.2.2.2⟩
theorem MacAt.only {w w' : World} {m gi go g : Nat} {key msg : List UInt8} (h : MacAt w m gi go key msg) (ho : Only g w w') (h1 : m ≠ g) (h2 : gi ≠ g) (h3 : go ≠ g) : MacAt w' m gi go key msg :=
  ⟨by rw [ho.heap _ (Array.getElem?_eq_some_iff.1 h.1).1 h1]; exact h.1, h.2.1.only ho h2, h.2.2.1.only ho h3, h.2.2.2⟩
theorem MacAt.cell0 {w : World} {m gi go : Nat} {key msg : List UInt8} (h : MacAt w m gi go key msg) : w.cell? ⟨m, 0, none⟩ = some (.pointer (some ⟨gi, 0, none⟩)) := by
  rw [cell_of_row _ _ _ _ _ _ h.1]; rfl
theorem MacAt.cell1 {w : World} {m gi go : Nat} {key msg : List UInt8} (h : MacAt w m gi go key msg) : w.cell? ⟨m, 1, none⟩ = some (.pointer (some ⟨go, 0, none⟩)) := by
  rw [cell_of_row _ _ _ _ _ _ h.1]; rfl
theorem mac_made (m gi go : Nat) (w : World) (h0 : w.cell? ⟨m, 0, none⟩ = some (.pointer (some ⟨gi, 0, none⟩))) (h1 : w.cell? ⟨m, 1, none⟩ = some (.pointer (some ⟨go, 0, none⟩))) :
    Calls Tryd.prog 42 #[.pointer (some ⟨m, 0, none⟩)] w fun e w' => e = .returned (.bool true) ∧ w = w' := by
  go_enter Tryd.func42, Tryd.ntmps42
  go_wp2
  go_ret
  exact ⟨rfl, rfl⟩
theorem mac_not (m : Nat) (w : World) (h0 : w.cell? ⟨m, 0, none⟩ = some (.pointer none)) :
    Calls Tryd.prog 42 #[.pointer (some ⟨m, 0, none⟩)] w fun e w' => e = .returned (.bool false) ∧ w = w' := by
  go_enter Tryd.func42, Tryd.ntmps42
  go_wp2
  go_ret
  exact ⟨rfl, rfl⟩
theorem mac_nil (w : World) :
    Calls Tryd.prog 42 #[.pointer none] w fun e w' => e = .returned (.bool false) ∧ w = w' := by
  go_enter Tryd.func42, Tryd.ntmps42
  go_wp2
  exact bodyPost_ret (v := .bool false) (by simp [results, Tryd.results42, go_sem]) rfl ⟨rfl, rfl⟩
theorem begin54 (gb : Nat) (l : List UInt8) (hl : l.length = 64) (w : World) (hg : w.heap[gb]? = some (.cells (l.map u8v).toArray 69 (0, 0))) (hL : Laid w) :
    Calls Tryd.prog 39 #[.int .u8 54, .pointer (some ⟨gb, 0, none⟩)] w fun e w' => ∃ g, e = .returned (.pointer (some ⟨g, 0, none⟩)) ∧ w.heap.size ≤ g ∧ HashAt w' g (turnL l 54) ∧ Below w.heap.size w w' := begin2_any gb 54 l hl w hg hL
theorem begin92 (gb : Nat) (l : List UInt8) (hl : l.length = 64) (w : World) (hg : w.heap[gb]? = some (.cells (l.map u8v).toArray 69 (0, 0))) (hL : Laid w) :
    Calls Tryd.prog 39 #[.int .u8 92, .pointer (some ⟨gb, 0, none⟩)] w fun e w' => ∃ g, e = .returned (.pointer (some ⟨g, 0, none⟩)) ∧ w.heap.size ≤ g ∧ HashAt w' g (turnL l 92) ∧ Below w.heap.size w w' := begin2_any gb 92 l hl w hg hL
set_option maxHeartbeats 1000000 in
theorem mac_new_any (ao : Option Addr) (n c : Nat) (l : List UInt8) (hn : l.length = n) (w : World) (hb : Bs w (.slice ao n c) l) (hL : Laid w) (hl : l.length < 1152921504606846976) :
    Calls Tryd.prog 33 #[.slice ao n c] w fun e w' => ∃ m gi go, e = .returned (.pointer (some ⟨m, 0, none⟩)) ∧ w.heap.size ≤ m ∧ w.heap.size ≤ gi ∧ w.heap.size ≤ go ∧ MacAt w' m gi go l [] ∧ Below w.heap.size w w' := by
  have HK := Lib.hid (keyBlock_any ao n c l hn w hb hL hl)
  have HLD := Lib.hid hL
  have hmf : ∀ (fn : Fn) (first cap : Array Value) (w : World), (Instr.makeFunc fn first cap).run Tryd.prog w = .ok (.func fn first cap) w := fun _ _ _ _ => rfl
  clear hb hL
  go_enter Tryd.func33, Tryd.ntmps33
  go_wp2_with fail
  refine HK.out.mono ?_
  rintro e w1 ⟨rfl, hb1⟩
  have HB1 := Lib.hid hb1
  clear hb1
  go_wp2_with (with_reducible refine wpList_store_row rfl 69 (.tmp 3) (.tmp 6) rfl w1.heap.size ((keyB l).map u8v).toArray rfl rfl 69 z64 (heap_alloc_last _ _) ?e1 ?e2 ?e3 ?_)
  case e1 => exact size64l _ (keyB_length l)
  case e2 => show z64.size = ((keyB l).map u8v).length; rw [List.length_map, keyB_length]; rfl
  case e3 => exact all_oneCell_toArray (oneCell_u8 _)
  intro w2 h1 h2 _
  have HG2 := Lib.hid h1
  have HB2 := Lib.hid (h2 _ _ HB1.out.size (HB1.out.alloc HB1.out.size _))
  clear h1 h2
  go_wp2_with fail
  refine (begin54 w1.heap.size (keyB l) (keyB_length l) w2 HG2.out (HLD.out.below HB2.out)).mono ?_
  rintro e w3 ⟨gi, rfl, hgi, hh3, hb3⟩
  have H3 := Lib.hid hh3
  have HG3 := Lib.hid (heap_below HG2.out hb3)
  have HB3 := Lib.hid (HB2.out.trans (hb3.mono HB2.out.size))
  have hs2 := HB2.out.size
  clear hh3 hb3
  go_wp2_with fail
  refine (begin92 w1.heap.size (keyB l) (keyB_length l) w3 HG3.out (HLD.out.below HB3.out)).mono ?_
  rintro e w4 ⟨go, rfl, hgo, hh4, hb4⟩
  have K4 := Lib.hid hh4
  have H4 := Lib.hid (H3.out.below hb4)
  have HB4 := Lib.hid (HB3.out.trans (hb4.mono HB3.out.size))
  have hs3 := H3.out.lt
  clear hh4 hb4
  go_wp2_with (with_reducible refine wpList_build rfl 76 #[(0, .tmp 9), (1, .tmp 11)] rfl ?b1 ?_)
  case b1 => rfl
  go_ret
  refine ⟨w4.heap.size, gi, go, rfl, HB4.out.size, by omega, by have := HB3.out.size; omega, ⟨?_, ?_, ?_, by omega, by have := H4.out.lt; omega⟩, HB4.out.alloc HB4.out.size _⟩
  · rw [heap_alloc_last]
    rfl
  · rw [innerL_nil]; exact H4.out.below ((Below.refl _ _).alloc (Nat.le_refl _) _)
  · rw [outerL_nil]; exact K4.out.below ((Below.refl _ _).alloc (Nat.le_refl _) _)
theorem mac_add_any (m gi go : Nat) (key msg : List UInt8) (w : World) (h : MacAt w m gi go key msg) (hL : Laid w) (hg : 0 < gi) (ao : Option Addr) (n c : Nat) (l : List UInt8) (hn : l.length = n) (hb : Bs w (.slice ao n c) l) (hoff : 0 < n → Off gi ao) (hsz : msg.length + l.length < 1152921504606846976) :
    Calls Tryd.prog 34 #[.pointer (some ⟨m, 0, none⟩), .slice ao n c] w fun e w' => e = .returned (.tuple #[]) ∧ MacAt w' m gi go key (msg ++ l) ∧ Only gi w w' := by
  have c0 := h.cell0
  have HM := Lib.hid (mac_made m gi go w h.cell0 h.cell1)
  have HA := Lib.hid (add_any gi (innerL key msg) w h.2.1 hL hg ao n c l hn hb hoff (by rw [innerL_length]; omega))
  have HH := Lib.hid h
  clear h hL hb hoff
  go_enter Tryd.func34, Tryd.ntmps34
  go_wp2_with fail
  refine HM.out.mono ?_
  rintro e w' ⟨rfl, rfl⟩
  go_wp2_with fail
  refine HA.out.mono ?_
  rintro e w1 ⟨rfl, hh, ho⟩
  have H1 : Hid (MacAt w1 m gi go key (msg ++ l)) := by
    obtain ⟨a1, a2, a3, a4, a5⟩ := HH.out
    rw [innerL_append] at hh
    exact ⟨by rw [ho.heap _ (Array.getElem?_eq_some_iff.1 a1).1 a5]; exact a1, hh, a3.only ho (Ne.symm a4), a4, a5⟩
  have HO := Lib.hid ho
  clear hh ho
  go_wp2
  go_end0
  exact ⟨rfl, H1.out, HO.out⟩
end Go.Proofs.YtjlacialbfhjcaaDoor
