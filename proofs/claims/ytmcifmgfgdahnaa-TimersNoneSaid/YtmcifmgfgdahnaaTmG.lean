/-
  Timers in memory: New, Set, Stop, Next, Len.
-/
import Derived.Test.YtmcifmgfgdahnaaTmF
namespace Go.Proofs.Ytmcifmgfgdahnaa.Tm
open Go.RowKit
open Go.Proofs.Ytmcifmgfgdahnaa.Id (Tr Tr.refl Tr.gr Tr.only blk own_blk flatR flatR_len flatR_get flatR_cons flatR_append flatR_one flatR_cell RR)
set_option linter.unusedVariables false
set_option linter.unusedSimpArgs false

/-- Timers in memory: these, in order. -/
structure TM (w : World) (p g : Nat) (v : Value) (b : Nat) (l : List D) : Prop where
  row : w.heap[p]? = some (.cells #[.pointer (some ⟨g, 0, none⟩)] 51 (0, 0))
  heap : ∃ q, Heap w g v b q ∧ q.Perm l
  srt : Srt l
/-- The blocks that they lie in. -/
def Ft (p g : Nat) (v : Value) (b : Nat) : List Nat := p :: Fq g v b
theorem TM.plt {w : World} {p g b : Nat} {v : Value} {l : List D} (h : TM w p g v b l) : p < w.heap.size := (Array.getElem?_eq_some_iff.1 h.row).1
theorem TM.lt {w : World} {p g b : Nat} {v : Value} {l : List D} (h : TM w p g v b l) : ∀ k ∈ Ft p g v b, k < w.heap.size := by
  intro k hk
  rcases List.mem_cons.1 hk with rfl | hk
  · exact h.plt
  · obtain ⟨q, hq, _⟩ := h.heap
    exact hq.1.lt k hk
theorem TM.few {w : World} {p g b : Nat} {v : Value} {l : List D} (h : TM w p g v b l) : l.length ≤ 65536 := by
  obtain ⟨q, hq, hp⟩ := h.heap
  rw [← hp.length_eq]
  exact hq.1.few
theorem TM.apart {w : World} {p g b : Nat} {v : Value} {l : List D} (h : TM w p g v b l) : Apart l := by
  obtain ⟨q, hq, hp⟩ := h.heap
  exact hq.apart.perm hp
/-- Its own block is none of its queue's. -/
theorem TM.pne {w : World} {p g b : Nat} {v : Value} {l : List D} (h : TM w p g v b l) : p ∉ Fq g v b := by
  obtain ⟨q, ⟨⟨f, hq, _⟩, _⟩, _⟩ := h.heap
  intro hk
  simp only [Fq, List.mem_cons] at hk
  rcases hk with hk | hk | hk
  · have h1 := hq.row
    rw [← hk, h.row] at h1
    simp at h1
  · obtain ⟨D, ⟨a, c, h1, _⟩, _⟩ := hq.map
    rw [← hk, h.row] at h1
    cases h1
  · exact blk_ne_g hq.own h.row (by decide) p hk rfl
theorem TM.tr {K : List Nat} {w w' : World} {p g b : Nat} {v : Value} {l : List D} (h : TM w p g v b l) (ht : Tr K w w') (hd : ∀ k ∈ Ft p g v b, k ∉ K) : TM w' p g v b l := by
  obtain ⟨q, hq, hp⟩ := h.heap
  exact ⟨ht.heap h.row (hd p (by simp [Ft])), ⟨q, hq.tr ht fun k hk => hd k (by simp [Ft, hk]), hp⟩, h.srt⟩
theorem TM.gr {w w' : World} {p g b : Nat} {v : Value} {l : List D} (h : TM w p g v b l) (hb : Below w.heap.size w w') : TM w' p g v b l := by
  obtain ⟨q, hq, hp⟩ := h.heap
  exact ⟨heap_below h.row hb, ⟨q, hq.gr hb, hp⟩, h.srt⟩
/-- A call has gone on to the timers L. -/
def TGo (p g : Nat) (v : Value) (b : Nat) (w : World) (L : List D) (w' : World) : Prop := ∃ v', TM w' p g v' b L ∧ Stp g b v v' w w'
theorem TGo.refl {w : World} {p g b : Nat} {v : Value} {l : List D} (h : TM w p g v b l) : TGo p g v b w l w := ⟨v, h, Stp.refl _ _ _ _⟩
theorem TGo.of {w w' : World} {p g b : Nat} {v : Value} {l q L : List D} (h : TM w p g v b l) (hg : Goes g v b w L w') {M : List D} (hM : L.Perm M) (hs : Srt M) : TGo p g v b w M w' := by
  obtain ⟨v', q', h1, h2, h3⟩ := hg
  exact ⟨v', ⟨h3.tr.heap h.row h.pne, ⟨q', h1, h2.trans hM⟩, hs⟩, h3⟩
theorem isMade_yes (p g : Nat) (w : World) (h : w.heap[p]? = some (.cells #[.pointer (some ⟨g, 0, none⟩)] 51 (0, 0))) :
    Calls Try.prog 20 #[.pointer (some ⟨p, 0, none⟩)] w fun e w' => e = .returned (.bool true) ∧ w = w' := by
  have k0 := cell1 h
  clear h
  go_enter Try.func20, Try.ntmps20
  go_wp2
  go_ret
  exact ⟨rfl, rfl⟩
theorem tlen_any {p g : Nat} {v : Value} {b : Nat} {l : List D} (w : World) (h : TM w p g v b l) :
    Calls Try.prog 17 #[.pointer (some ⟨p, 0, none⟩)] w fun e w' => e = .returned (.int .i64 (l.length : Int)) ∧ w = w' := by
  have HM := Lib.hid (isMade_yes p g w h.row)
  have k0 := cell1 h.row
  obtain ⟨q, hq, hp⟩ := h.heap
  have HL := Lib.hid hq.1.len
  rw [hp.length_eq] at HL
  clear h hq hp
  go_enter Try.func17, Try.ntmps17
  go_wp2_with fail
  refine HM.out.mono ?_
  rintro e w' ⟨rfl, rfl⟩
  go_wp2_with fail
  refine HL.out.mono ?_
  rintro e w' ⟨rfl, rfl⟩
  go_wp2_with fail
  go_ret
  exact ⟨rfl, rfl⟩
def okD (k t : Int) : Prop := 0 ≤ k ∧ k ≤ 1099511627776 ∧ 1 ≤ t ∧ t ≤ 1099511627776
instance (k t : Int) : Decidable (okD k t) := by unfold okD; infer_instance
theorem okD.k {k t : Int} (h : okD k t) : I64 k := ⟨by have := h.1; omega, by have := h.2.1; omega⟩
/-- What Set tells, and leaves. -/
def setE (k t : Int) : Int := if okD k t then 0 else 130
def setL (l : List D) (k t : Int) : List D := if okD k t then set l (k, t) else l
set_option maxRecDepth 20000 in
theorem tset_any {p g : Nat} (key t : Int) {v : Value} {b : Nat} {l : List D} (w : World) (h : TM w p g v b l) (hn : l.length < 65536) :
    Calls Try.prog 9 #[.pointer (some ⟨p, 0, none⟩), .int .i64 key, .int .i64 t] w fun e w' => e = .returned (.int .i64 (setE key t)) ∧ TGo p g v b w (setL l key t) w' := by
  have HH := Lib.hid h
  have HM := Lib.hid (isMade_yes p g w h.row)
  have k0 := cell1 h.row
  by_cases ok : okD key t
  · rw [show setE key t = 0 from if_pos ok, show setL l key t = set l (key, t) from if_pos ok]
    obtain ⟨q, hq, hp⟩ := h.heap
    have HS := Lib.hid (qset_any g (key, t) w hq (by rw [hp.length_eq]; exact hn) ok.k)
    have HP := Lib.hid hp
    have c1 : ¬ key < 0 := by have := ok.1; omega
    have c2 : ¬ 1099511627776 < key := by have := ok.2.1; omega
    have c3 : ¬ t < 1 := by have := ok.2.2.1; omega
    have c4 : ¬ 1099511627776 < t := by have := ok.2.2.2; omega
    clear h hn hq hp ok
    go_enter Try.func9, Try.ntmps9
    go_wp2_with fail
    refine HM.out.mono ?_
    rintro e w' ⟨rfl, rfl⟩
    go_wp2_with fail
    refine HS.out.mono ?_
    rintro e w1 ⟨rfl, hg⟩
    have HG := Lib.hid hg
    clear hg HS HM k0
    go_wp2_with fail
    go_ret
    exact ⟨rfl, TGo.of (q := q) HH.out HG.out (set_perm _ HP.out) (HH.out.srt.set _)⟩
  · rw [show setE key t = 130 from if_neg ok, show setL l key t = l from if_neg ok]
    have hc : key < 0 ∨ ¬ key < 0 ∧ (1099511627776 < key ∨ ¬ 1099511627776 < key ∧ (t < 1 ∨ ¬ t < 1 ∧ 1099511627776 < t)) := by unfold okD at ok; omega
    clear h hn ok
    rcases hc with c1 | ⟨c1, c2 | ⟨c2, c3 | ⟨c3, c4⟩⟩⟩
    all_goals
      go_enter Try.func9, Try.ntmps9
      go_wp2_with fail
      refine HM.out.mono ?_
      rintro e w' ⟨rfl, rfl⟩
      go_wp2_with fail
      go_ret
      exact ⟨rfl, TGo.refl HH.out⟩
theorem without_len {l : List D} {k : Int} (h : k ∈ l.map (·.1)) : (without l k).length < l.length := by
  rcases Nat.lt_or_ge (without l k).length l.length with h1 | h1
  · exact h1
  · have e := (without_sub l k).eq_of_length_le h1
    have := without_not l k
    rw [e] at this
    exact absurd h this
def stopB (l : List D) (k : Int) : Bool := decide ((without l k).length < l.length)
set_option maxRecDepth 20000 in
theorem tstop_any {p g : Nat} (key : Int) {v : Value} {b : Nat} {l : List D} (w : World) (h : TM w p g v b l) (hk : I64 key) :
    Calls Try.prog 11 #[.pointer (some ⟨p, 0, none⟩), .int .i64 key] w fun e w' => e = .returned (.bool (stopB l key)) ∧ TGo p g v b w (without l key) w' := by
  have HH := Lib.hid h
  have HM := Lib.hid (isMade_yes p g w h.row)
  have k0 := cell1 h.row
  obtain ⟨q, hq, hp⟩ := h.heap
  have HQ := Lib.hid hq
  have HP := Lib.hid hp
  obtain ⟨⟨f, hq1, hf⟩, hh⟩ := hq
  obtain ⟨c0, c1, c2⟩ := cellsQ hq1.row
  have hlk := hq1.map.look hk
  cases hfd : f key with
  | some i =>
    have hti := ties_some hf hfd
    rw [hfd] at hlk
    have hb : stopB l key = true := by
      unfold stopB
      rw [decide_eq_true_eq]
      refine without_len ((hp.map _).mem_iff.1 ?_)
      rw [← hti.2, at_get hti.1]
      exact List.mem_map_of_mem (List.getElem_mem _)
    have HR := Lib.hid (qremove_any g i w HQ.out hti.1)
    rw [hti.2] at HR
    rw [hb]
    simp only [Option.getD_some, Option.isSome_some] at hlk
    clear h hp hq1 hf hh hfd hti hb hk
    go_enter Try.func11, Try.ntmps11
    go_wp2_with fail
    refine HM.out.mono ?_
    rintro e w' ⟨rfl, rfl⟩
    go_wp2_with fail
    refine HR.out.mono ?_
    rintro e w1 ⟨rfl, hg⟩
    have HG := Lib.hid hg
    clear hg HR HM k0 c0 c1 c2 hlk
    go_wp2_with fail
    go_ret
    exact ⟨rfl, TGo.of (q := q) HH.out HG.out (HP.out.filter _) (HH.out.srt.without _)⟩
  | none =>
    rw [hfd] at hlk
    have hno := ties_none hf hfd
    have hno2 : key ∉ l.map (·.1) := fun hm => hno ((hp.map _).mem_iff.2 hm)
    have hb : stopB l key = false := by
      unfold stopB
      rw [without_of hno2]
      simp
    rw [hb, without_of hno2]
    simp only [Option.getD_none, Option.isSome_none] at hlk
    clear h hp hq1 hf hh hfd hb hk hno hno2
    go_enter Try.func11, Try.ntmps11
    go_wp2_with fail
    refine HM.out.mono ?_
    rintro e w' ⟨rfl, rfl⟩
    go_wp2_with fail
    go_ret
    exact ⟨rfl, TGo.refl HH.out⟩
end Go.Proofs.Ytmcifmgfgdahnaa.Tm
