/-
  An Alloc that stands as plain words say; Len, Resting, Has, Take.
-/
import Derived.Test.YtpafcabcnkmadaaIdL
namespace Go.Proofs.Ytpafcabcnkmadaa.Id
open Go.RowKit
set_option linter.unusedVariables false
set_option linter.unusedSimpArgs false

/-- Which numbers are taken. -/
def takenL (lo hi : Int) (used : List Int) : List Bool := (numbers lo hi).map fun x => decide (x ∈ used)
theorem takenL_length (lo hi : Int) (u : List Int) : (takenL lo hi u).length = (hi - lo + 1).toNat := by rw [takenL, List.length_map, numbers_length]
theorem takenL_get {lo hi : Int} {u : List Int} {i : Nat} (h : i < (takenL lo hi u).length) : (takenL lo hi u)[i] = decide (lo + (i : Int) ∈ u) := by simp [takenL, numbers]
theorem takenL_set {lo hi : Int} {u v : List Int} {i : Nat} {b : Bool} (hb : b = decide (lo + (i : Int) ∈ v)) (ho : ∀ x, x ≠ lo + (i : Int) → (x ∈ v ↔ x ∈ u)) : (takenL lo hi u).set i b = takenL lo hi v := by
  apply List.ext_getElem
  · rw [List.length_set, takenL_length, takenL_length]
  · intro j h1 h2
    have h3 : j < (takenL lo hi u).length := by rwa [List.length_set] at h1
    rw [takenL_get h2, List.getElem_set]
    by_cases e : i = j
    · rw [if_pos e, ← e]
      exact hb
    · rw [if_neg e, takenL_get h3]
      have := ho (lo + (j : Int)) (by omega)
      simp only [this]
theorem takenL_none (lo hi : Int) : takenL lo hi [] = List.replicate (hi - lo + 1).toNat false := by
  apply List.ext_getElem
  · rw [takenL_length, List.length_replicate]
  · intro j h1 h2
    rw [takenL_get]
    simp
structure AlAt (w : World) (g : Nat) (m : Am) (S : Al) : Prop where
  am : AmAt w g m
  sh : m.sh = ⟨S.low, S.high, S.quiet, S.row, S.rest, takenL S.low S.high S.used, m.fell⟩
  ok : OkA S
  sorted : m.fell = false → rising2 S.rest
theorem AlAt.gr {w w' : World} {g : Nat} {m : Am} {S : Al} (h : AlAt w g m S) (hb : Below w.heap.size w w') : AlAt w' g m S := ⟨h.am.gr hb, h.sh, h.ok, h.sorted⟩
theorem AlAt.tr {K : List Nat} {w w' : World} {g : Nat} {m : Am} {S : Al} (h : AlAt w g m S) (ht : Tr K w w') (hd : ∀ k ∈ Fm g m, k ∉ K) : AlAt w' g m S := ⟨h.am.tr ht hd, h.sh, h.ok, h.sorted⟩
theorem AlAt.lo {w : World} {g : Nat} {m : Am} {S : Al} (h : AlAt w g m S) : m.lo = S.low := congrArg Sh.lo h.sh
theorem AlAt.hi {w : World} {g : Nat} {m : Am} {S : Al} (h : AlAt w g m S) : m.hi = S.high := congrArg Sh.hi h.sh
theorem AlAt.q {w : World} {g : Nat} {m : Am} {S : Al} (h : AlAt w g m S) : m.q = S.quiet := congrArg Sh.q h.sh
theorem AlAt.fl {w : World} {g : Nat} {m : Am} {S : Al} (h : AlAt w g m S) : m.fl = S.row := congrArg Sh.fl h.sh
theorem AlAt.rl {w : World} {g : Nat} {m : Am} {S : Al} (h : AlAt w g m S) : m.rl = S.rest := congrArg Sh.rl h.sh
theorem AlAt.tl {w : World} {g : Nat} {m : Am} {S : Al} (h : AlAt w g m S) : m.tl = takenL S.low S.high S.used := congrArg Sh.tl h.sh
theorem AlAt.len {w : World} {g : Nat} {m : Am} {S : Al} (h : AlAt w g m S) : (m.tl.length : Int) = S.high - S.low + 1 := by
  rw [h.tl, takenL_length]
  have := h.ok.set
  unfold okSet at this
  omega
/-- A call has gone on to S. -/
def GoesA (g : Nat) (m : Am) (w : World) (S : Al) (w' : World) : Prop := ∃ m', AlAt w' g m' S ∧ Stp g m m' w w'
theorem OkA.lens {S : Al} (h : OkA S) : S.row.length + S.rest.length ≤ 65534 := by
  have h1 := h.sum
  have h2 := h.set
  unfold okSet at h2
  omega
theorem len_any (g : Nat) {m : Am} {S : Al} (w : World) (h : AlAt w g m S) :
    Calls Try.prog 21 #[.pointer (some ⟨g, 0, none⟩)] w fun e w' => e = .returned (.int .i64 (S.high - S.low + 1)) ∧ w = w' := by
  obtain ⟨k0, k1, k2, k3, k4, k5, k6, k7, k8, k9, k10⟩ := cells11 h.am.row
  obtain ⟨b, cap, cur, ev, _⟩ := own_open h.am.to (.inr h.am.made)
  rw [ev] at k9
  have HM := Lib.hid (isMade_yes g w h.am)
  rw [← h.len]
  clear h ev k0 k1 k2 k3 k4 k5 k6 k7 k8 k10
  go_enter Try.func21, Try.ntmps21
  go_wp2_with fail
  refine HM.out.mono ?_
  rintro e w' ⟨rfl, rfl⟩
  go_wp2
  go_ret
  exact ⟨rfl, rfl⟩
theorem len_nil (w : World) :
    Calls Try.prog 21 #[.pointer none] w fun e w' => e = .returned (.int .i64 0) ∧ w = w' := by
  go_enter Try.func21, Try.ntmps21
  go_wp2_with fail
  refine (isMade_nil w).mono ?_
  rintro e w' ⟨rfl, rfl⟩
  go_wp2
  go_ret
  exact ⟨rfl, rfl⟩
theorem resting_any (g : Nat) {m : Am} {S : Al} (w : World) (h : AlAt w g m S) :
    Calls Try.prog 20 #[.pointer (some ⟨g, 0, none⟩)] w fun e w' => ∃ v, e = .returned v ∧ w'.ownsRow w.heap.size 54 2 v S.rest.length (flatR S.rest) ∧ Below w.heap.size w w' := by
  have HM := Lib.hid (isMade_yes g w h.am)
  have A := all_r g w h.am
  rw [h.rl] at A
  have HA := Lib.hid A
  clear h A
  go_enter Try.func20, Try.ntmps20
  go_wp2_with fail
  refine HM.out.mono ?_
  rintro e w' ⟨rfl, rfl⟩
  go_wp2_with fail
  refine HA.out.mono ?_
  rintro e w1 ⟨v, rfl, ho, hb⟩
  have HO := Lib.hid ho
  have HB := Lib.hid hb
  clear ho hb HA
  go_wp2
  go_ret
  exact ⟨_, rfl, HO.out, HB.out⟩
set_option maxRecDepth 20000 in
theorem has_any (g : Nat) (id : Int) {m : Am} {S : Al} (w : World) (h : AlAt w g m S) :
    Calls Try.prog 15 #[.pointer (some ⟨g, 0, none⟩), .int .i64 id] w fun e w' => e = .returned (.bool (decide (id ∈ S.used))) ∧ Below w.heap.size w w' := by
  have hrow := h.am.row
  rw [h.lo, h.hi] at hrow
  have HM := Lib.hid (fun w' hw' => isMade_yes g w' (h.am.gr hw'))
  have HU : Hid (∀ x ∈ S.used, S.low ≤ x ∧ x ≤ S.high) := fun x hx => h.ok.used hx
  have hset := h.ok.set
  unfold okSet topT at hset
  have HROW := Lib.hid hrow
  by_cases h1 : S.low ≤ id
  · have d1 : decide (S.low ≤ id) = true := decide_eq_true h1
    by_cases h2 : id ≤ S.high
    · have d2 : decide (id ≤ S.high) = true := decide_eq_true h2
      have hlen := h.len
      obtain ⟨b, cap, cur, ev, hbl, hb, hc1, hc2, hc3, hc4⟩ := own_open h.am.to (.inr h.am.made)
      obtain ⟨p, hp⟩ : ∃ p : Nat, (p : Int) = id - S.low := ⟨(id - S.low).toNat, by omega⟩
      have hpl : p < m.tl.length := by omega
      have hcell := own_bool_at hb hc4 p hpl
      have htl := h.tl
      have hx : m.tl[p] = decide (id ∈ S.used) := by
        have e : id = S.low + (p : Int) := by omega
        have e2 : m.tl[p] = (takenL S.low S.high S.used)[p]'(by rw [← htl]; exact hpl) := by simp only [htl]
        rw [e2, takenL_get, ← e]
      rw [hx] at hcell
      have x1 : wrap64 (id - S.low) = id - S.low := wrap64_in (by omega) (by omega)
      obtain ⟨L, hL⟩ : ∃ L, L = m.tl.length := ⟨_, rfl⟩
      rw [← hL] at ev
      rw [ev] at hrow
      have HR := Lib.hid hrow
      have HCE := Lib.hid hcell
      have e0 : id - S.low = (p : Int) := hp.symm
      have hpi : (0 : Int) ≤ (p : Int) := by omega
      have hpl2 : (p : Int) < (L : Int) := by omega
      have hpn : ((p : Int)).toNat = p := by omega
      have x2 : IntKind.i64.wrap (p : Int) = (p : Int) := IntWalk.i64_in _ (by omega)
      clear hset hlen hb hc1 hc2 hc3 hc4 hp hpl hcell htl hx ev hbl hL h hrow HROW x1
      go_enter Try.func15, Try.ntmps15
      go_upto_region 1 with fail
      have HC : Hid (Gr w w.drew) := Gr.drew w
      refine wp_region_G 33 Gr (by kernel_rfl) ?_
      generalize w.drew = wc at HC ⊢
      -- 0: slot 5
      refine wpG_take preGr (i := 0) (v := ?_) (by kernel_rfl) (some 5) (by kernel_rfl) rfl (by kernel_rfl) (by kernel_rfl) (by kernel_rfl) (fun _ _ _ h => h) (by rfl) (fun w' hw' => ?_) rfl ?_
      rotate_left
      · try (have hxx := cells11 (heap_gr (Gr.trans HC.out hw') HR.out); obtain ⟨k0, k1, k2, k3, k4, k5, k6, k7, k8, k9, k10⟩ := hxx; have hc := cell_gr (Gr.trans HC.out hw') HCE.out)
        go_simp
        with_reducible rfl
      simp only [Act.put, List.setIfInBounds_toArray, List.set_cons_zero, List.set_cons_succ]
      refine wpG_one (i := 1) rfl (by kernel_rfl) (by rfl) ?_
      go_simp
      refine (HM.out wc HC.out).mono ?_
      rintro e wn ⟨rfl, rfl⟩
      refine ⟨Gr.refl _, ?_⟩
      try simp only [Act.put, List.setIfInBounds_toArray, List.set_cons_zero, List.set_cons_succ]
      -- 2: slot 7
      refine wpG_take preGr (i := 2) (v := ?_) (by kernel_rfl) (some 7) (by kernel_rfl) rfl (by kernel_rfl) (by kernel_rfl) (by kernel_rfl) (fun _ _ _ h => h) (by rfl) (fun w' hw' => ?_) rfl ?_
      rotate_left
      · try (have hxx := cells11 (heap_gr (Gr.trans HC.out hw') HR.out); obtain ⟨k0, k1, k2, k3, k4, k5, k6, k7, k8, k9, k10⟩ := hxx; have hc := cell_gr (Gr.trans HC.out hw') HCE.out)
        go_simp
        with_reducible rfl
      simp only [Act.put, List.setIfInBounds_toArray, List.set_cons_zero, List.set_cons_succ]
      -- 3: slot 8
      refine wpG_take preGr (i := 3) (v := ?_) (by kernel_rfl) (some 8) (by kernel_rfl) rfl (by kernel_rfl) (by kernel_rfl) (by kernel_rfl) (fun _ _ _ h => h) (by rfl) (fun w' hw' => ?_) rfl ?_
      rotate_left
      · try (have hxx := cells11 (heap_gr (Gr.trans HC.out hw') HR.out); obtain ⟨k0, k1, k2, k3, k4, k5, k6, k7, k8, k9, k10⟩ := hxx; have hc := cell_gr (Gr.trans HC.out hw') HCE.out)
        go_simp
        with_reducible rfl
      simp only [Act.put, List.setIfInBounds_toArray, List.set_cons_zero, List.set_cons_succ]
      -- 4: slot 9
      refine wpG_take preGr (i := 4) (v := ?_) (by kernel_rfl) (some 9) (by kernel_rfl) rfl (by kernel_rfl) (by kernel_rfl) (by kernel_rfl) (fun _ _ _ h => h) (by rfl) (fun w' hw' => ?_) rfl ?_
      rotate_left
      · try (have hxx := cells11 (heap_gr (Gr.trans HC.out hw') HR.out); obtain ⟨k0, k1, k2, k3, k4, k5, k6, k7, k8, k9, k10⟩ := hxx; have hc := cell_gr (Gr.trans HC.out hw') HCE.out)
        go_simp
        with_reducible rfl
      simp only [Act.put, List.setIfInBounds_toArray, List.set_cons_zero, List.set_cons_succ]
      -- 5: slot 10
      refine wpG_take preGr (i := 5) (v := ?_) (by kernel_rfl) (some 10) (by kernel_rfl) rfl (by kernel_rfl) (by kernel_rfl) (by kernel_rfl) (fun _ _ _ h => h) (by rfl) (fun w' hw' => ?_) rfl ?_
      rotate_left
      · try (have hxx := cells11 (heap_gr (Gr.trans HC.out hw') HR.out); obtain ⟨k0, k1, k2, k3, k4, k5, k6, k7, k8, k9, k10⟩ := hxx; have hc := cell_gr (Gr.trans HC.out hw') HCE.out)
        go_simp
        with_reducible rfl
      simp only [Act.put, List.setIfInBounds_toArray, List.set_cons_zero, List.set_cons_succ]
      -- 6: slot 11
      refine wpG_take preGr (i := 6) (v := ?_) (by kernel_rfl) (some 11) (by kernel_rfl) rfl (by kernel_rfl) (by kernel_rfl) (by kernel_rfl) (fun _ _ _ h => h) (by rfl) (fun w' hw' => ?_) rfl ?_
      rotate_left
      · try (have hxx := cells11 (heap_gr (Gr.trans HC.out hw') HR.out); obtain ⟨k0, k1, k2, k3, k4, k5, k6, k7, k8, k9, k10⟩ := hxx; have hc := cell_gr (Gr.trans HC.out hw') HCE.out)
        go_simp
        with_reducible rfl
      simp only [Act.put, List.setIfInBounds_toArray, List.set_cons_zero, List.set_cons_succ]
      -- 7: slot 12
      refine wpG_take preGr (i := 7) (v := ?_) (by kernel_rfl) (some 12) (by kernel_rfl) rfl (by kernel_rfl) (by kernel_rfl) (by kernel_rfl) (fun _ _ _ h => h) (by rfl) (fun w' hw' => ?_) rfl ?_
      rotate_left
      · try (have hxx := cells11 (heap_gr (Gr.trans HC.out hw') HR.out); obtain ⟨k0, k1, k2, k3, k4, k5, k6, k7, k8, k9, k10⟩ := hxx; have hc := cell_gr (Gr.trans HC.out hw') HCE.out)
        go_simp
        with_reducible rfl
      simp only [Act.put, List.setIfInBounds_toArray, List.set_cons_zero, List.set_cons_succ]
      -- 8: slot 13
      refine wpG_take preGr (i := 8) (v := ?_) (by kernel_rfl) (some 13) (by kernel_rfl) rfl (by kernel_rfl) (by kernel_rfl) (by kernel_rfl) (fun _ _ _ h => h) (by rfl) (fun w' hw' => ?_) rfl ?_
      rotate_left
      · try (have hxx := cells11 (heap_gr (Gr.trans HC.out hw') HR.out); obtain ⟨k0, k1, k2, k3, k4, k5, k6, k7, k8, k9, k10⟩ := hxx; have hc := cell_gr (Gr.trans HC.out hw') HCE.out)
        go_simp
        with_reducible rfl
      simp only [Act.put, List.setIfInBounds_toArray, List.set_cons_zero, List.set_cons_succ]
      -- 9: slot 14
      refine wpG_take preGr (i := 9) (v := ?_) (by kernel_rfl) (some 14) (by kernel_rfl) rfl (by kernel_rfl) (by kernel_rfl) (by kernel_rfl) (fun _ _ _ h => h) (by rfl) (fun w' hw' => ?_) rfl ?_
      rotate_left
      · try (have hxx := cells11 (heap_gr (Gr.trans HC.out hw') HR.out); obtain ⟨k0, k1, k2, k3, k4, k5, k6, k7, k8, k9, k10⟩ := hxx; have hc := cell_gr (Gr.trans HC.out hw') HCE.out)
        go_simp
        with_reducible rfl
      simp only [Act.put, List.setIfInBounds_toArray, List.set_cons_zero, List.set_cons_succ]
      -- 10: slot 15
      refine wpG_take preGr (i := 10) (v := ?_) (by kernel_rfl) (some 15) (by kernel_rfl) rfl (by kernel_rfl) (by kernel_rfl) (by kernel_rfl) (fun _ _ _ h => h) (by rfl) (fun w' hw' => ?_) rfl ?_
      rotate_left
      · try (have hxx := cells11 (heap_gr (Gr.trans HC.out hw') HR.out); obtain ⟨k0, k1, k2, k3, k4, k5, k6, k7, k8, k9, k10⟩ := hxx; have hc := cell_gr (Gr.trans HC.out hw') HCE.out)
        go_simp
        with_reducible rfl
      simp only [Act.put, List.setIfInBounds_toArray, List.set_cons_zero, List.set_cons_succ]
      -- 11: slot 16
      refine wpG_take preGr (i := 11) (v := ?_) (by kernel_rfl) (some 16) (by kernel_rfl) rfl (by kernel_rfl) (by kernel_rfl) (by kernel_rfl) (fun _ _ _ h => h) (by rfl) (fun w' hw' => ?_) rfl ?_
      rotate_left
      · try (have hxx := cells11 (heap_gr (Gr.trans HC.out hw') HR.out); obtain ⟨k0, k1, k2, k3, k4, k5, k6, k7, k8, k9, k10⟩ := hxx; have hc := cell_gr (Gr.trans HC.out hw') HCE.out)
        go_simp
        with_reducible rfl
      simp only [Act.put, List.setIfInBounds_toArray, List.set_cons_zero, List.set_cons_succ]
      -- 12: slot 17
      refine wpG_take preGr (i := 12) (v := ?_) (by kernel_rfl) (some 17) (by kernel_rfl) rfl (by kernel_rfl) (by kernel_rfl) (by kernel_rfl) (fun _ _ _ h => h) (by rfl) (fun w' hw' => ?_) rfl ?_
      rotate_left
      · try (have hxx := cells11 (heap_gr (Gr.trans HC.out hw') HR.out); obtain ⟨k0, k1, k2, k3, k4, k5, k6, k7, k8, k9, k10⟩ := hxx; have hc := cell_gr (Gr.trans HC.out hw') HCE.out)
        go_simp
        with_reducible rfl
      simp only [Act.put, List.setIfInBounds_toArray, List.set_cons_zero, List.set_cons_succ]
      -- 13: slot 18
      refine wpG_take preGr (i := 13) (v := ?_) (by kernel_rfl) (some 18) (by kernel_rfl) rfl (by kernel_rfl) (by kernel_rfl) (by kernel_rfl) (fun _ _ _ h => h) (by rfl) (fun w' hw' => ?_) rfl ?_
      rotate_left
      · try (have hxx := cells11 (heap_gr (Gr.trans HC.out hw') HR.out); obtain ⟨k0, k1, k2, k3, k4, k5, k6, k7, k8, k9, k10⟩ := hxx; have hc := cell_gr (Gr.trans HC.out hw') HCE.out)
        go_simp
        with_reducible rfl
      simp only [Act.put, List.setIfInBounds_toArray, List.set_cons_zero, List.set_cons_succ]
      -- 14: slot 19
      refine wpG_take preGr (i := 14) (v := ?_) (by kernel_rfl) (some 19) (by kernel_rfl) rfl (by kernel_rfl) (by kernel_rfl) (by kernel_rfl) (fun _ _ _ h => h) (by rfl) (fun w' hw' => ?_) rfl ?_
      rotate_left
      · try (have hxx := cells11 (heap_gr (Gr.trans HC.out hw') HR.out); obtain ⟨k0, k1, k2, k3, k4, k5, k6, k7, k8, k9, k10⟩ := hxx; have hc := cell_gr (Gr.trans HC.out hw') HCE.out)
        go_simp
        with_reducible rfl
      simp only [Act.put, List.setIfInBounds_toArray, List.set_cons_zero, List.set_cons_succ]
      -- 15: slot 20
      refine wpG_take preGr (i := 15) (v := ?_) (by kernel_rfl) (some 20) (by kernel_rfl) rfl (by kernel_rfl) (by kernel_rfl) (by kernel_rfl) (fun _ _ _ h => h) (by rfl) (fun w' hw' => ?_) rfl ?_
      rotate_left
      · try (have hxx := cells11 (heap_gr (Gr.trans HC.out hw') HR.out); obtain ⟨k0, k1, k2, k3, k4, k5, k6, k7, k8, k9, k10⟩ := hxx; have hc := cell_gr (Gr.trans HC.out hw') HCE.out)
        go_simp
        with_reducible rfl
      simp only [Act.put, List.setIfInBounds_toArray, List.set_cons_zero, List.set_cons_succ]
      -- 16: slot 21
      refine wpG_take preGr (i := 16) (v := ?_) (by kernel_rfl) (some 21) (by kernel_rfl) rfl (by kernel_rfl) (by kernel_rfl) (by kernel_rfl) (fun _ _ _ h => h) (by rfl) (fun w' hw' => ?_) rfl ?_
      rotate_left
      · try (have hxx := cells11 (heap_gr (Gr.trans HC.out hw') HR.out); obtain ⟨k0, k1, k2, k3, k4, k5, k6, k7, k8, k9, k10⟩ := hxx; have hc := cell_gr (Gr.trans HC.out hw') HCE.out)
        go_simp
        with_reducible rfl
      simp only [Act.put, List.setIfInBounds_toArray, List.set_cons_zero, List.set_cons_succ]
      -- 17: slot 22
      refine wpG_take preGr (i := 17) (v := ?_) (by kernel_rfl) (some 22) (by kernel_rfl) rfl (by kernel_rfl) (by kernel_rfl) (by kernel_rfl) (fun _ _ _ h => h) (by rfl) (fun w' hw' => ?_) rfl ?_
      rotate_left
      · try (have hxx := cells11 (heap_gr (Gr.trans HC.out hw') HR.out); obtain ⟨k0, k1, k2, k3, k4, k5, k6, k7, k8, k9, k10⟩ := hxx; have hc := cell_gr (Gr.trans HC.out hw') HCE.out)
        go_simp
        with_reducible rfl
      simp only [Act.put, List.setIfInBounds_toArray, List.set_cons_zero, List.set_cons_succ]
      -- 18: slot 23
      refine wpG_take preGr (i := 18) (v := ?_) (by kernel_rfl) (some 23) (by kernel_rfl) rfl (by kernel_rfl) (by kernel_rfl) (by kernel_rfl) (fun _ _ _ h => h) (by rfl) (fun w' hw' => ?_) rfl ?_
      rotate_left
      · try (have hxx := cells11 (heap_gr (Gr.trans HC.out hw') HR.out); obtain ⟨k0, k1, k2, k3, k4, k5, k6, k7, k8, k9, k10⟩ := hxx; have hc := cell_gr (Gr.trans HC.out hw') HCE.out)
        go_simp
        with_reducible rfl
      simp only [Act.put, List.setIfInBounds_toArray, List.set_cons_zero, List.set_cons_succ]
      -- 19: slot 24
      refine wpG_take preGr (i := 19) (v := ?_) (by kernel_rfl) (some 24) (by kernel_rfl) rfl (by kernel_rfl) (by kernel_rfl) (by kernel_rfl) (fun _ _ _ h => h) (by rfl) (fun w' hw' => ?_) rfl ?_
      rotate_left
      · try (have hxx := cells11 (heap_gr (Gr.trans HC.out hw') HR.out); obtain ⟨k0, k1, k2, k3, k4, k5, k6, k7, k8, k9, k10⟩ := hxx; have hc := cell_gr (Gr.trans HC.out hw') HCE.out)
        go_simp
        with_reducible rfl
      simp only [Act.put, List.setIfInBounds_toArray, List.set_cons_zero, List.set_cons_succ]
      -- 20: slot 25
      refine wpG_take preGr (i := 20) (v := ?_) (by kernel_rfl) (some 25) (by kernel_rfl) rfl (by kernel_rfl) (by kernel_rfl) (by kernel_rfl) (fun _ _ _ h => h) (by rfl) (fun w' hw' => ?_) rfl ?_
      rotate_left
      · try (have hxx := cells11 (heap_gr (Gr.trans HC.out hw') HR.out); obtain ⟨k0, k1, k2, k3, k4, k5, k6, k7, k8, k9, k10⟩ := hxx; have hc := cell_gr (Gr.trans HC.out hw') HCE.out)
        go_simp
        with_reducible rfl
      simp only [Act.put, List.setIfInBounds_toArray, List.set_cons_zero, List.set_cons_succ]
      -- 21: slot 26
      refine wpG_take preGr (i := 21) (v := ?_) (by kernel_rfl) (some 26) (by kernel_rfl) rfl (by kernel_rfl) (by kernel_rfl) (by kernel_rfl) (fun _ _ _ h => h) (by rfl) (fun w' hw' => ?_) rfl ?_
      rotate_left
      · try (have hxx := cells11 (heap_gr (Gr.trans HC.out hw') HR.out); obtain ⟨k0, k1, k2, k3, k4, k5, k6, k7, k8, k9, k10⟩ := hxx; have hc := cell_gr (Gr.trans HC.out hw') HCE.out)
        go_simp
        with_reducible rfl
      simp only [Act.put, List.setIfInBounds_toArray, List.set_cons_zero, List.set_cons_succ]
      -- 22: slot 27
      refine wpG_take preGr (i := 22) (v := ?_) (by kernel_rfl) (some 27) (by kernel_rfl) rfl (by kernel_rfl) (by kernel_rfl) (by kernel_rfl) (fun _ _ _ h => h) (by rfl) (fun w' hw' => ?_) rfl ?_
      rotate_left
      · try (have hxx := cells11 (heap_gr (Gr.trans HC.out hw') HR.out); obtain ⟨k0, k1, k2, k3, k4, k5, k6, k7, k8, k9, k10⟩ := hxx; have hc := cell_gr (Gr.trans HC.out hw') HCE.out)
        go_simp
        with_reducible rfl
      simp only [Act.put, List.setIfInBounds_toArray, List.set_cons_zero, List.set_cons_succ]
      -- 23: slot 28
      refine wpG_take preGr (i := 23) (v := ?_) (by kernel_rfl) (some 28) (by kernel_rfl) rfl (by kernel_rfl) (by kernel_rfl) (by kernel_rfl) (fun _ _ _ h => h) (by rfl) (fun w' hw' => ?_) rfl ?_
      rotate_left
      · try (have hxx := cells11 (heap_gr (Gr.trans HC.out hw') HR.out); obtain ⟨k0, k1, k2, k3, k4, k5, k6, k7, k8, k9, k10⟩ := hxx; have hc := cell_gr (Gr.trans HC.out hw') HCE.out)
        go_simp
        with_reducible rfl
      simp only [Act.put, List.setIfInBounds_toArray, List.set_cons_zero, List.set_cons_succ]
      -- 24: slot 29
      refine wpG_take preGr (i := 24) (v := ?_) (by kernel_rfl) (some 29) (by kernel_rfl) rfl (by kernel_rfl) (by kernel_rfl) (by kernel_rfl) (fun _ _ _ h => h) (by rfl) (fun w' hw' => ?_) rfl ?_
      rotate_left
      · try (have hxx := cells11 (heap_gr (Gr.trans HC.out hw') HR.out); obtain ⟨k0, k1, k2, k3, k4, k5, k6, k7, k8, k9, k10⟩ := hxx; have hc := cell_gr (Gr.trans HC.out hw') HCE.out)
        go_simp
        with_reducible rfl
      simp only [Act.put, List.setIfInBounds_toArray, List.set_cons_zero, List.set_cons_succ]
      -- 25: slot 30
      refine wpG_take preGr (i := 25) (v := ?_) (by kernel_rfl) (some 30) (by kernel_rfl) rfl (by kernel_rfl) (by kernel_rfl) (by kernel_rfl) (fun _ _ _ h => h) (by rfl) (fun w' hw' => ?_) rfl ?_
      rotate_left
      · try (have hxx := cells11 (heap_gr (Gr.trans HC.out hw') HR.out); obtain ⟨k0, k1, k2, k3, k4, k5, k6, k7, k8, k9, k10⟩ := hxx; have hc := cell_gr (Gr.trans HC.out hw') HCE.out)
        go_simp
        with_reducible rfl
      simp only [Act.put, List.setIfInBounds_toArray, List.set_cons_zero, List.set_cons_succ]
      -- 26: slot 31
      refine wpG_take preGr (i := 26) (v := ?_) (by kernel_rfl) (some 31) (by kernel_rfl) rfl (by kernel_rfl) (by kernel_rfl) (by kernel_rfl) (fun _ _ _ h => h) (by rfl) (fun w' hw' => ?_) rfl ?_
      rotate_left
      · try (have hxx := cells11 (heap_gr (Gr.trans HC.out hw') HR.out); obtain ⟨k0, k1, k2, k3, k4, k5, k6, k7, k8, k9, k10⟩ := hxx; have hc := cell_gr (Gr.trans HC.out hw') HCE.out)
        go_simp
        with_reducible rfl
      simp only [Act.put, List.setIfInBounds_toArray, List.set_cons_zero, List.set_cons_succ]
      -- 27: slot 32
      refine wpG_take preGr (i := 27) (v := ?_) (by kernel_rfl) (some 32) (by kernel_rfl) rfl (by kernel_rfl) (by kernel_rfl) (by kernel_rfl) (fun _ _ _ h => h) (by rfl) (fun w' hw' => ?_) rfl ?_
      rotate_left
      · try (have hxx := cells11 (heap_gr (Gr.trans HC.out hw') HR.out); obtain ⟨k0, k1, k2, k3, k4, k5, k6, k7, k8, k9, k10⟩ := hxx; have hc := cell_gr (Gr.trans HC.out hw') HCE.out)
        go_simp
        with_reducible rfl
      simp only [Act.put, List.setIfInBounds_toArray, List.set_cons_zero, List.set_cons_succ]
      -- 28: slot 33
      refine wpG_take preGr (i := 28) (v := ?_) (by kernel_rfl) (some 33) (by kernel_rfl) rfl (by kernel_rfl) (by kernel_rfl) (by kernel_rfl) (fun _ _ _ h => h) (by rfl) (fun w' hw' => ?_) rfl ?_
      rotate_left
      · try (have hxx := cells11 (heap_gr (Gr.trans HC.out hw') HR.out); obtain ⟨k0, k1, k2, k3, k4, k5, k6, k7, k8, k9, k10⟩ := hxx; have hc := cell_gr (Gr.trans HC.out hw') HCE.out)
        go_simp
        with_reducible rfl
      simp only [Act.put, List.setIfInBounds_toArray, List.set_cons_zero, List.set_cons_succ]
      -- 29: slot 34
      refine wpG_take preGr (i := 29) (v := ?_) (by kernel_rfl) (some 34) (by kernel_rfl) rfl (by kernel_rfl) (by kernel_rfl) (by kernel_rfl) (fun _ _ _ h => h) (by rfl) (fun w' hw' => ?_) rfl ?_
      rotate_left
      · try (have hxx := cells11 (heap_gr (Gr.trans HC.out hw') HR.out); obtain ⟨k0, k1, k2, k3, k4, k5, k6, k7, k8, k9, k10⟩ := hxx; have hc := cell_gr (Gr.trans HC.out hw') HCE.out)
        go_simp
        with_reducible rfl
      simp only [Act.put, List.setIfInBounds_toArray, List.set_cons_zero, List.set_cons_succ]
      -- 30: slot 35
      refine wpG_take preGr (i := 30) (v := ?_) (by kernel_rfl) (some 35) (by kernel_rfl) rfl (by kernel_rfl) (by kernel_rfl) (by kernel_rfl) (fun _ _ _ h => h) (by rfl) (fun w' hw' => ?_) rfl ?_
      rotate_left
      · try (have hxx := cells11 (heap_gr (Gr.trans HC.out hw') HR.out); obtain ⟨k0, k1, k2, k3, k4, k5, k6, k7, k8, k9, k10⟩ := hxx; have hc := cell_gr (Gr.trans HC.out hw') HCE.out)
        go_simp
        with_reducible rfl
      simp only [Act.put, List.setIfInBounds_toArray, List.set_cons_zero, List.set_cons_succ]
      -- 31: slot 36
      refine wpG_take preGr (i := 31) (v := ?_) (by kernel_rfl) (some 36) (by kernel_rfl) rfl (by kernel_rfl) (by kernel_rfl) (by kernel_rfl) (fun _ _ _ h => h) (by rfl) (fun w' hw' => ?_) rfl ?_
      rotate_left
      · try (have hxx := cells11 (heap_gr (Gr.trans HC.out hw') HR.out); obtain ⟨k0, k1, k2, k3, k4, k5, k6, k7, k8, k9, k10⟩ := hxx; have hc := cell_gr (Gr.trans HC.out hw') HCE.out)
        go_simp
        with_reducible rfl
      simp only [Act.put, List.setIfInBounds_toArray, List.set_cons_zero, List.set_cons_succ]
      -- 32: slot 4
      refine wpG_take preGr (i := 32) (v := ?_) (by kernel_rfl) (some 4) (by kernel_rfl) rfl (by kernel_rfl) (by kernel_rfl) (by kernel_rfl) (fun _ _ _ h => h) (by rfl) (fun w' hw' => ?_) rfl ?_
      rotate_left
      · try (have hxx := cells11 (heap_gr (Gr.trans HC.out hw') HR.out); obtain ⟨k0, k1, k2, k3, k4, k5, k6, k7, k8, k9, k10⟩ := hxx; have hc := cell_gr (Gr.trans HC.out hw') HCE.out)
        go_simp
        with_reducible rfl
      simp only [Act.put, List.setIfInBounds_toArray, List.set_cons_zero, List.set_cons_succ]
      refine wpG_done (by kernel_rfl) ?_ _
      go_wp2
      go_ret
      exact ⟨rfl, HC.out⟩
    · have d2 : decide (id ≤ S.high) = false := decide_eq_false h2
      rw [show decide (id ∈ S.used) = false from decide_eq_false fun hm => h2 (HU.out id hm).2]
      clear hset h hrow
      go_enter Try.func15, Try.ntmps15
      go_upto_region 1 with fail
      have HC : Hid (Gr w w.drew) := Gr.drew w
      refine wp_region_G 33 Gr (by kernel_rfl) ?_
      generalize w.drew = wc at HC ⊢
      -- 0: slot 5
      refine wpG_take preGr (i := 0) (v := ?_) (by kernel_rfl) (some 5) (by kernel_rfl) rfl (by kernel_rfl) (by kernel_rfl) (by kernel_rfl) (fun _ _ _ h => h) (by rfl) (fun w' hw' => ?_) rfl ?_
      rotate_left
      · try (have hxx := cells11 (heap_gr (Gr.trans HC.out hw') HROW.out); obtain ⟨k0, k1, k2, k3, k4, k5, k6, k7, k8, k9, k10⟩ := hxx)
        go_simp
        with_reducible rfl
      simp only [Act.put, List.setIfInBounds_toArray, List.set_cons_zero, List.set_cons_succ]
      refine wpG_one (i := 1) rfl (by kernel_rfl) (by rfl) ?_
      go_simp
      refine (HM.out wc HC.out).mono ?_
      rintro e wn ⟨rfl, rfl⟩
      refine ⟨Gr.refl _, ?_⟩
      try simp only [Act.put, List.setIfInBounds_toArray, List.set_cons_zero, List.set_cons_succ]
      -- 2: slot 7
      refine wpG_take preGr (i := 2) (v := ?_) (by kernel_rfl) (some 7) (by kernel_rfl) rfl (by kernel_rfl) (by kernel_rfl) (by kernel_rfl) (fun _ _ _ h => h) (by rfl) (fun w' hw' => ?_) rfl ?_
      rotate_left
      · try (have hxx := cells11 (heap_gr (Gr.trans HC.out hw') HROW.out); obtain ⟨k0, k1, k2, k3, k4, k5, k6, k7, k8, k9, k10⟩ := hxx)
        go_simp
        with_reducible rfl
      simp only [Act.put, List.setIfInBounds_toArray, List.set_cons_zero, List.set_cons_succ]
      -- 3: slot 8
      refine wpG_take preGr (i := 3) (v := ?_) (by kernel_rfl) (some 8) (by kernel_rfl) rfl (by kernel_rfl) (by kernel_rfl) (by kernel_rfl) (fun _ _ _ h => h) (by rfl) (fun w' hw' => ?_) rfl ?_
      rotate_left
      · try (have hxx := cells11 (heap_gr (Gr.trans HC.out hw') HROW.out); obtain ⟨k0, k1, k2, k3, k4, k5, k6, k7, k8, k9, k10⟩ := hxx)
        go_simp
        with_reducible rfl
      simp only [Act.put, List.setIfInBounds_toArray, List.set_cons_zero, List.set_cons_succ]
      -- 4: slot 9
      refine wpG_take preGr (i := 4) (v := ?_) (by kernel_rfl) (some 9) (by kernel_rfl) rfl (by kernel_rfl) (by kernel_rfl) (by kernel_rfl) (fun _ _ _ h => h) (by rfl) (fun w' hw' => ?_) rfl ?_
      rotate_left
      · try (have hxx := cells11 (heap_gr (Gr.trans HC.out hw') HROW.out); obtain ⟨k0, k1, k2, k3, k4, k5, k6, k7, k8, k9, k10⟩ := hxx)
        go_simp
        with_reducible rfl
      simp only [Act.put, List.setIfInBounds_toArray, List.set_cons_zero, List.set_cons_succ]
      -- 5: slot 10
      refine wpG_take preGr (i := 5) (v := ?_) (by kernel_rfl) (some 10) (by kernel_rfl) rfl (by kernel_rfl) (by kernel_rfl) (by kernel_rfl) (fun _ _ _ h => h) (by rfl) (fun w' hw' => ?_) rfl ?_
      rotate_left
      · try (have hxx := cells11 (heap_gr (Gr.trans HC.out hw') HROW.out); obtain ⟨k0, k1, k2, k3, k4, k5, k6, k7, k8, k9, k10⟩ := hxx)
        go_simp
        with_reducible rfl
      simp only [Act.put, List.setIfInBounds_toArray, List.set_cons_zero, List.set_cons_succ]
      -- 6: slot 11
      refine wpG_take preGr (i := 6) (v := ?_) (by kernel_rfl) (some 11) (by kernel_rfl) rfl (by kernel_rfl) (by kernel_rfl) (by kernel_rfl) (fun _ _ _ h => h) (by rfl) (fun w' hw' => ?_) rfl ?_
      rotate_left
      · try (have hxx := cells11 (heap_gr (Gr.trans HC.out hw') HROW.out); obtain ⟨k0, k1, k2, k3, k4, k5, k6, k7, k8, k9, k10⟩ := hxx)
        go_simp
        with_reducible rfl
      simp only [Act.put, List.setIfInBounds_toArray, List.set_cons_zero, List.set_cons_succ]
      -- 7: slot 12
      refine wpG_take preGr (i := 7) (v := ?_) (by kernel_rfl) (some 12) (by kernel_rfl) rfl (by kernel_rfl) (by kernel_rfl) (by kernel_rfl) (fun _ _ _ h => h) (by rfl) (fun w' hw' => ?_) rfl ?_
      rotate_left
      · try (have hxx := cells11 (heap_gr (Gr.trans HC.out hw') HROW.out); obtain ⟨k0, k1, k2, k3, k4, k5, k6, k7, k8, k9, k10⟩ := hxx)
        go_simp
        with_reducible rfl
      simp only [Act.put, List.setIfInBounds_toArray, List.set_cons_zero, List.set_cons_succ]
      -- 8: slot 13
      refine wpG_take preGr (i := 8) (v := ?_) (by kernel_rfl) (some 13) (by kernel_rfl) rfl (by kernel_rfl) (by kernel_rfl) (by kernel_rfl) (fun _ _ _ h => h) (by rfl) (fun w' hw' => ?_) rfl ?_
      rotate_left
      · try (have hxx := cells11 (heap_gr (Gr.trans HC.out hw') HROW.out); obtain ⟨k0, k1, k2, k3, k4, k5, k6, k7, k8, k9, k10⟩ := hxx)
        go_simp
        with_reducible rfl
      simp only [Act.put, List.setIfInBounds_toArray, List.set_cons_zero, List.set_cons_succ]
      -- 9: slot 14
      refine wpG_take preGr (i := 9) (v := ?_) (by kernel_rfl) (some 14) (by kernel_rfl) rfl (by kernel_rfl) (by kernel_rfl) (by kernel_rfl) (fun _ _ _ h => h) (by rfl) (fun w' hw' => ?_) rfl ?_
      rotate_left
      · try (have hxx := cells11 (heap_gr (Gr.trans HC.out hw') HROW.out); obtain ⟨k0, k1, k2, k3, k4, k5, k6, k7, k8, k9, k10⟩ := hxx)
        go_simp
        with_reducible rfl
      simp only [Act.put, List.setIfInBounds_toArray, List.set_cons_zero, List.set_cons_succ]
      -- 10: slot 15
      refine wpG_take preGr (i := 10) (v := ?_) (by kernel_rfl) (some 15) (by kernel_rfl) rfl (by kernel_rfl) (by kernel_rfl) (by kernel_rfl) (fun _ _ _ h => h) (by rfl) (fun w' hw' => ?_) rfl ?_
      rotate_left
      · try (have hxx := cells11 (heap_gr (Gr.trans HC.out hw') HROW.out); obtain ⟨k0, k1, k2, k3, k4, k5, k6, k7, k8, k9, k10⟩ := hxx)
        go_simp
        with_reducible rfl
      simp only [Act.put, List.setIfInBounds_toArray, List.set_cons_zero, List.set_cons_succ]
      -- 11: slot 16
      refine wpG_take preGr (i := 11) (v := ?_) (by kernel_rfl) (some 16) (by kernel_rfl) rfl (by kernel_rfl) (by kernel_rfl) (by kernel_rfl) (fun _ _ _ h => h) (by rfl) (fun w' hw' => ?_) rfl ?_
      rotate_left
      · try (have hxx := cells11 (heap_gr (Gr.trans HC.out hw') HROW.out); obtain ⟨k0, k1, k2, k3, k4, k5, k6, k7, k8, k9, k10⟩ := hxx)
        go_simp
        with_reducible rfl
      simp only [Act.put, List.setIfInBounds_toArray, List.set_cons_zero, List.set_cons_succ]
      -- 12: slot 17
      refine wpG_take preGr (i := 12) (v := ?_) (by kernel_rfl) (some 17) (by kernel_rfl) rfl (by kernel_rfl) (by kernel_rfl) (by kernel_rfl) (fun _ _ _ h => h) (by rfl) (fun w' hw' => ?_) rfl ?_
      rotate_left
      · try (have hxx := cells11 (heap_gr (Gr.trans HC.out hw') HROW.out); obtain ⟨k0, k1, k2, k3, k4, k5, k6, k7, k8, k9, k10⟩ := hxx)
        go_simp
        with_reducible rfl
      simp only [Act.put, List.setIfInBounds_toArray, List.set_cons_zero, List.set_cons_succ]
      -- 13: slot 18
      refine wpG_take preGr (i := 13) (v := ?_) (by kernel_rfl) (some 18) (by kernel_rfl) rfl (by kernel_rfl) (by kernel_rfl) (by kernel_rfl) (fun _ _ _ h => h) (by rfl) (fun w' hw' => ?_) rfl ?_
      rotate_left
      · try (have hxx := cells11 (heap_gr (Gr.trans HC.out hw') HROW.out); obtain ⟨k0, k1, k2, k3, k4, k5, k6, k7, k8, k9, k10⟩ := hxx)
        go_simp
        with_reducible rfl
      simp only [Act.put, List.setIfInBounds_toArray, List.set_cons_zero, List.set_cons_succ]
      -- 14: slot 19
      refine wpG_take preGr (i := 14) (v := ?_) (by kernel_rfl) (some 19) (by kernel_rfl) rfl (by kernel_rfl) (by kernel_rfl) (by kernel_rfl) (fun _ _ _ h => h) (by rfl) (fun w' hw' => ?_) rfl ?_
      rotate_left
      · try (have hxx := cells11 (heap_gr (Gr.trans HC.out hw') HROW.out); obtain ⟨k0, k1, k2, k3, k4, k5, k6, k7, k8, k9, k10⟩ := hxx)
        go_simp
        with_reducible rfl
      simp only [Act.put, List.setIfInBounds_toArray, List.set_cons_zero, List.set_cons_succ]
      -- 15: slot 20
      refine wpG_take preGr (i := 15) (v := ?_) (by kernel_rfl) (some 20) (by kernel_rfl) rfl (by kernel_rfl) (by kernel_rfl) (by kernel_rfl) (fun _ _ _ h => h) (by rfl) (fun w' hw' => ?_) rfl ?_
      rotate_left
      · try (have hxx := cells11 (heap_gr (Gr.trans HC.out hw') HROW.out); obtain ⟨k0, k1, k2, k3, k4, k5, k6, k7, k8, k9, k10⟩ := hxx)
        go_simp
        with_reducible rfl
      simp only [Act.put, List.setIfInBounds_toArray, List.set_cons_zero, List.set_cons_succ]
      -- 16: slot 21
      refine wpG_take preGr (i := 16) (v := ?_) (by kernel_rfl) (some 21) (by kernel_rfl) rfl (by kernel_rfl) (by kernel_rfl) (by kernel_rfl) (fun _ _ _ h => h) (by rfl) (fun w' hw' => ?_) rfl ?_
      rotate_left
      · try (have hxx := cells11 (heap_gr (Gr.trans HC.out hw') HROW.out); obtain ⟨k0, k1, k2, k3, k4, k5, k6, k7, k8, k9, k10⟩ := hxx)
        go_simp
        with_reducible rfl
      simp only [Act.put, List.setIfInBounds_toArray, List.set_cons_zero, List.set_cons_succ]
      -- 17: slot 22
      refine wpG_take preGr (i := 17) (v := ?_) (by kernel_rfl) (some 22) (by kernel_rfl) rfl (by kernel_rfl) (by kernel_rfl) (by kernel_rfl) (fun _ _ _ h => h) (by rfl) (fun w' hw' => ?_) rfl ?_
      rotate_left
      · try (have hxx := cells11 (heap_gr (Gr.trans HC.out hw') HROW.out); obtain ⟨k0, k1, k2, k3, k4, k5, k6, k7, k8, k9, k10⟩ := hxx)
        go_simp
        with_reducible rfl
      simp only [Act.put, List.setIfInBounds_toArray, List.set_cons_zero, List.set_cons_succ]
      -- 18: slot 23
      refine wpG_take preGr (i := 18) (v := ?_) (by kernel_rfl) (some 23) (by kernel_rfl) rfl (by kernel_rfl) (by kernel_rfl) (by kernel_rfl) (fun _ _ _ h => h) (by rfl) (fun w' hw' => ?_) rfl ?_
      rotate_left
      · try (have hxx := cells11 (heap_gr (Gr.trans HC.out hw') HROW.out); obtain ⟨k0, k1, k2, k3, k4, k5, k6, k7, k8, k9, k10⟩ := hxx)
        go_simp
        with_reducible rfl
      simp only [Act.put, List.setIfInBounds_toArray, List.set_cons_zero, List.set_cons_succ]
      refine wpG_pass preGr (i := 19) (by kernel_rfl) (some 24) (by kernel_rfl) rfl (by kernel_rfl) (by kernel_rfl) (by kernel_rfl) (fun _ _ _ h => h) (by rfl) rfl ?_
      simp only [Act.put, List.setIfInBounds_toArray, List.set_cons_zero, List.set_cons_succ]
      refine wpG_pass preGr (i := 20) (by kernel_rfl) (some 25) (by kernel_rfl) rfl (by kernel_rfl) (by kernel_rfl) (by kernel_rfl) (fun _ _ _ h => h) (by rfl) rfl ?_
      simp only [Act.put, List.setIfInBounds_toArray, List.set_cons_zero, List.set_cons_succ]
      refine wpG_pass preGr (i := 21) (by kernel_rfl) (some 26) (by kernel_rfl) rfl (by kernel_rfl) (by kernel_rfl) (by kernel_rfl) (fun _ _ _ h => h) (by rfl) rfl ?_
      simp only [Act.put, List.setIfInBounds_toArray, List.set_cons_zero, List.set_cons_succ]
      refine wpG_pass preGr (i := 22) (by kernel_rfl) (some 27) (by kernel_rfl) rfl (by kernel_rfl) (by kernel_rfl) (by kernel_rfl) (fun _ _ _ h => h) (by rfl) rfl ?_
      simp only [Act.put, List.setIfInBounds_toArray, List.set_cons_zero, List.set_cons_succ]
      refine wpG_pass preGr (i := 23) (by kernel_rfl) (some 28) (by kernel_rfl) rfl (by kernel_rfl) (by kernel_rfl) (by kernel_rfl) (fun _ _ _ h => h) (by rfl) rfl ?_
      simp only [Act.put, List.setIfInBounds_toArray, List.set_cons_zero, List.set_cons_succ]
      refine wpG_pass preGr (i := 24) (by kernel_rfl) (some 29) (by kernel_rfl) rfl (by kernel_rfl) (by kernel_rfl) (by kernel_rfl) (fun _ _ _ h => h) (by rfl) rfl ?_
      simp only [Act.put, List.setIfInBounds_toArray, List.set_cons_zero, List.set_cons_succ]
      refine wpG_pass preGr (i := 25) (by kernel_rfl) (some 30) (by kernel_rfl) rfl (by kernel_rfl) (by kernel_rfl) (by kernel_rfl) (fun _ _ _ h => h) (by rfl) rfl ?_
      simp only [Act.put, List.setIfInBounds_toArray, List.set_cons_zero, List.set_cons_succ]
      refine wpG_pass preGr (i := 26) (by kernel_rfl) (some 31) (by kernel_rfl) rfl (by kernel_rfl) (by kernel_rfl) (by kernel_rfl) (fun _ _ _ h => h) (by rfl) rfl ?_
      simp only [Act.put, List.setIfInBounds_toArray, List.set_cons_zero, List.set_cons_succ]
      refine wpG_pass preGr (i := 27) (by kernel_rfl) (some 32) (by kernel_rfl) rfl (by kernel_rfl) (by kernel_rfl) (by kernel_rfl) (fun _ _ _ h => h) (by rfl) rfl ?_
      simp only [Act.put, List.setIfInBounds_toArray, List.set_cons_zero, List.set_cons_succ]
      refine wpG_pass preGr (i := 28) (by kernel_rfl) (some 33) (by kernel_rfl) rfl (by kernel_rfl) (by kernel_rfl) (by kernel_rfl) (fun _ _ _ h => h) (by rfl) rfl ?_
      simp only [Act.put, List.setIfInBounds_toArray, List.set_cons_zero, List.set_cons_succ]
      refine wpG_pass preGr (i := 29) (by kernel_rfl) (some 34) (by kernel_rfl) rfl (by kernel_rfl) (by kernel_rfl) (by kernel_rfl) (fun _ _ _ h => h) (by rfl) rfl ?_
      simp only [Act.put, List.setIfInBounds_toArray, List.set_cons_zero, List.set_cons_succ]
      refine wpG_pass preGr (i := 30) (by kernel_rfl) (some 35) (by kernel_rfl) rfl (by kernel_rfl) (by kernel_rfl) (by kernel_rfl) (fun _ _ _ h => h) (by rfl) rfl ?_
      simp only [Act.put, List.setIfInBounds_toArray, List.set_cons_zero, List.set_cons_succ]
      -- 31: slot 36
      refine wpG_take preGr (i := 31) (v := ?_) (by kernel_rfl) (some 36) (by kernel_rfl) rfl (by kernel_rfl) (by kernel_rfl) (by kernel_rfl) (fun _ _ _ h => h) (by rfl) (fun w' hw' => ?_) rfl ?_
      rotate_left
      · try (have hxx := cells11 (heap_gr (Gr.trans HC.out hw') HROW.out); obtain ⟨k0, k1, k2, k3, k4, k5, k6, k7, k8, k9, k10⟩ := hxx)
        go_simp
        with_reducible rfl
      simp only [Act.put, List.setIfInBounds_toArray, List.set_cons_zero, List.set_cons_succ]
      -- 32: slot 4
      refine wpG_take preGr (i := 32) (v := ?_) (by kernel_rfl) (some 4) (by kernel_rfl) rfl (by kernel_rfl) (by kernel_rfl) (by kernel_rfl) (fun _ _ _ h => h) (by rfl) (fun w' hw' => ?_) rfl ?_
      rotate_left
      · try (have hxx := cells11 (heap_gr (Gr.trans HC.out hw') HROW.out); obtain ⟨k0, k1, k2, k3, k4, k5, k6, k7, k8, k9, k10⟩ := hxx)
        go_simp
        with_reducible rfl
      simp only [Act.put, List.setIfInBounds_toArray, List.set_cons_zero, List.set_cons_succ]
      refine wpG_done (by kernel_rfl) ?_ _
      go_wp2
      go_ret
      exact ⟨rfl, HC.out⟩
  · have d1 : decide (S.low ≤ id) = false := decide_eq_false h1
    rw [show decide (id ∈ S.used) = false from decide_eq_false fun hm => h1 (HU.out id hm).1]
    clear hset h hrow
    go_enter Try.func15, Try.ntmps15
    go_upto_region 1 with fail
    have HC : Hid (Gr w w.drew) := Gr.drew w
    refine wp_region_G 33 Gr (by kernel_rfl) ?_
    generalize w.drew = wc at HC ⊢
    -- 0: slot 5
    refine wpG_take preGr (i := 0) (v := ?_) (by kernel_rfl) (some 5) (by kernel_rfl) rfl (by kernel_rfl) (by kernel_rfl) (by kernel_rfl) (fun _ _ _ h => h) (by rfl) (fun w' hw' => ?_) rfl ?_
    rotate_left
    · try (have hxx := cells11 (heap_gr (Gr.trans HC.out hw') HROW.out); obtain ⟨k0, k1, k2, k3, k4, k5, k6, k7, k8, k9, k10⟩ := hxx)
      go_simp
      with_reducible rfl
    simp only [Act.put, List.setIfInBounds_toArray, List.set_cons_zero, List.set_cons_succ]
    refine wpG_one (i := 1) rfl (by kernel_rfl) (by rfl) ?_
    go_simp
    refine (HM.out wc HC.out).mono ?_
    rintro e wn ⟨rfl, rfl⟩
    refine ⟨Gr.refl _, ?_⟩
    try simp only [Act.put, List.setIfInBounds_toArray, List.set_cons_zero, List.set_cons_succ]
    -- 2: slot 7
    refine wpG_take preGr (i := 2) (v := ?_) (by kernel_rfl) (some 7) (by kernel_rfl) rfl (by kernel_rfl) (by kernel_rfl) (by kernel_rfl) (fun _ _ _ h => h) (by rfl) (fun w' hw' => ?_) rfl ?_
    rotate_left
    · try (have hxx := cells11 (heap_gr (Gr.trans HC.out hw') HROW.out); obtain ⟨k0, k1, k2, k3, k4, k5, k6, k7, k8, k9, k10⟩ := hxx)
      go_simp
      with_reducible rfl
    simp only [Act.put, List.setIfInBounds_toArray, List.set_cons_zero, List.set_cons_succ]
    -- 3: slot 8
    refine wpG_take preGr (i := 3) (v := ?_) (by kernel_rfl) (some 8) (by kernel_rfl) rfl (by kernel_rfl) (by kernel_rfl) (by kernel_rfl) (fun _ _ _ h => h) (by rfl) (fun w' hw' => ?_) rfl ?_
    rotate_left
    · try (have hxx := cells11 (heap_gr (Gr.trans HC.out hw') HROW.out); obtain ⟨k0, k1, k2, k3, k4, k5, k6, k7, k8, k9, k10⟩ := hxx)
      go_simp
      with_reducible rfl
    simp only [Act.put, List.setIfInBounds_toArray, List.set_cons_zero, List.set_cons_succ]
    -- 4: slot 9
    refine wpG_take preGr (i := 4) (v := ?_) (by kernel_rfl) (some 9) (by kernel_rfl) rfl (by kernel_rfl) (by kernel_rfl) (by kernel_rfl) (fun _ _ _ h => h) (by rfl) (fun w' hw' => ?_) rfl ?_
    rotate_left
    · try (have hxx := cells11 (heap_gr (Gr.trans HC.out hw') HROW.out); obtain ⟨k0, k1, k2, k3, k4, k5, k6, k7, k8, k9, k10⟩ := hxx)
      go_simp
      with_reducible rfl
    simp only [Act.put, List.setIfInBounds_toArray, List.set_cons_zero, List.set_cons_succ]
    -- 5: slot 10
    refine wpG_take preGr (i := 5) (v := ?_) (by kernel_rfl) (some 10) (by kernel_rfl) rfl (by kernel_rfl) (by kernel_rfl) (by kernel_rfl) (fun _ _ _ h => h) (by rfl) (fun w' hw' => ?_) rfl ?_
    rotate_left
    · try (have hxx := cells11 (heap_gr (Gr.trans HC.out hw') HROW.out); obtain ⟨k0, k1, k2, k3, k4, k5, k6, k7, k8, k9, k10⟩ := hxx)
      go_simp
      with_reducible rfl
    simp only [Act.put, List.setIfInBounds_toArray, List.set_cons_zero, List.set_cons_succ]
    -- 6: slot 11
    refine wpG_take preGr (i := 6) (v := ?_) (by kernel_rfl) (some 11) (by kernel_rfl) rfl (by kernel_rfl) (by kernel_rfl) (by kernel_rfl) (fun _ _ _ h => h) (by rfl) (fun w' hw' => ?_) rfl ?_
    rotate_left
    · try (have hxx := cells11 (heap_gr (Gr.trans HC.out hw') HROW.out); obtain ⟨k0, k1, k2, k3, k4, k5, k6, k7, k8, k9, k10⟩ := hxx)
      go_simp
      with_reducible rfl
    simp only [Act.put, List.setIfInBounds_toArray, List.set_cons_zero, List.set_cons_succ]
    -- 7: slot 12
    refine wpG_take preGr (i := 7) (v := ?_) (by kernel_rfl) (some 12) (by kernel_rfl) rfl (by kernel_rfl) (by kernel_rfl) (by kernel_rfl) (fun _ _ _ h => h) (by rfl) (fun w' hw' => ?_) rfl ?_
    rotate_left
    · try (have hxx := cells11 (heap_gr (Gr.trans HC.out hw') HROW.out); obtain ⟨k0, k1, k2, k3, k4, k5, k6, k7, k8, k9, k10⟩ := hxx)
      go_simp
      with_reducible rfl
    simp only [Act.put, List.setIfInBounds_toArray, List.set_cons_zero, List.set_cons_succ]
    -- 8: slot 13
    refine wpG_take preGr (i := 8) (v := ?_) (by kernel_rfl) (some 13) (by kernel_rfl) rfl (by kernel_rfl) (by kernel_rfl) (by kernel_rfl) (fun _ _ _ h => h) (by rfl) (fun w' hw' => ?_) rfl ?_
    rotate_left
    · try (have hxx := cells11 (heap_gr (Gr.trans HC.out hw') HROW.out); obtain ⟨k0, k1, k2, k3, k4, k5, k6, k7, k8, k9, k10⟩ := hxx)
      go_simp
      with_reducible rfl
    simp only [Act.put, List.setIfInBounds_toArray, List.set_cons_zero, List.set_cons_succ]
    -- 9: slot 14
    refine wpG_take preGr (i := 9) (v := ?_) (by kernel_rfl) (some 14) (by kernel_rfl) rfl (by kernel_rfl) (by kernel_rfl) (by kernel_rfl) (fun _ _ _ h => h) (by rfl) (fun w' hw' => ?_) rfl ?_
    rotate_left
    · try (have hxx := cells11 (heap_gr (Gr.trans HC.out hw') HROW.out); obtain ⟨k0, k1, k2, k3, k4, k5, k6, k7, k8, k9, k10⟩ := hxx)
      go_simp
      with_reducible rfl
    simp only [Act.put, List.setIfInBounds_toArray, List.set_cons_zero, List.set_cons_succ]
    -- 10: slot 15
    refine wpG_take preGr (i := 10) (v := ?_) (by kernel_rfl) (some 15) (by kernel_rfl) rfl (by kernel_rfl) (by kernel_rfl) (by kernel_rfl) (fun _ _ _ h => h) (by rfl) (fun w' hw' => ?_) rfl ?_
    rotate_left
    · try (have hxx := cells11 (heap_gr (Gr.trans HC.out hw') HROW.out); obtain ⟨k0, k1, k2, k3, k4, k5, k6, k7, k8, k9, k10⟩ := hxx)
      go_simp
      with_reducible rfl
    simp only [Act.put, List.setIfInBounds_toArray, List.set_cons_zero, List.set_cons_succ]
    refine wpG_pass preGr (i := 11) (by kernel_rfl) (some 16) (by kernel_rfl) rfl (by kernel_rfl) (by kernel_rfl) (by kernel_rfl) (fun _ _ _ h => h) (by rfl) rfl ?_
    simp only [Act.put, List.setIfInBounds_toArray, List.set_cons_zero, List.set_cons_succ]
    refine wpG_pass preGr (i := 12) (by kernel_rfl) (some 17) (by kernel_rfl) rfl (by kernel_rfl) (by kernel_rfl) (by kernel_rfl) (fun _ _ _ h => h) (by rfl) rfl ?_
    simp only [Act.put, List.setIfInBounds_toArray, List.set_cons_zero, List.set_cons_succ]
    refine wpG_pass preGr (i := 13) (by kernel_rfl) (some 18) (by kernel_rfl) rfl (by kernel_rfl) (by kernel_rfl) (by kernel_rfl) (fun _ _ _ h => h) (by rfl) rfl ?_
    simp only [Act.put, List.setIfInBounds_toArray, List.set_cons_zero, List.set_cons_succ]
    refine wpG_pass preGr (i := 14) (by kernel_rfl) (some 19) (by kernel_rfl) rfl (by kernel_rfl) (by kernel_rfl) (by kernel_rfl) (fun _ _ _ h => h) (by rfl) rfl ?_
    simp only [Act.put, List.setIfInBounds_toArray, List.set_cons_zero, List.set_cons_succ]
    refine wpG_pass preGr (i := 15) (by kernel_rfl) (some 20) (by kernel_rfl) rfl (by kernel_rfl) (by kernel_rfl) (by kernel_rfl) (fun _ _ _ h => h) (by rfl) rfl ?_
    simp only [Act.put, List.setIfInBounds_toArray, List.set_cons_zero, List.set_cons_succ]
    refine wpG_pass preGr (i := 16) (by kernel_rfl) (some 21) (by kernel_rfl) rfl (by kernel_rfl) (by kernel_rfl) (by kernel_rfl) (fun _ _ _ h => h) (by rfl) rfl ?_
    simp only [Act.put, List.setIfInBounds_toArray, List.set_cons_zero, List.set_cons_succ]
    -- 17: slot 22
    refine wpG_take preGr (i := 17) (v := ?_) (by kernel_rfl) (some 22) (by kernel_rfl) rfl (by kernel_rfl) (by kernel_rfl) (by kernel_rfl) (fun _ _ _ h => h) (by rfl) (fun w' hw' => ?_) rfl ?_
    rotate_left
    · try (have hxx := cells11 (heap_gr (Gr.trans HC.out hw') HROW.out); obtain ⟨k0, k1, k2, k3, k4, k5, k6, k7, k8, k9, k10⟩ := hxx)
      go_simp
      with_reducible rfl
    simp only [Act.put, List.setIfInBounds_toArray, List.set_cons_zero, List.set_cons_succ]
    -- 18: slot 23
    refine wpG_take preGr (i := 18) (v := ?_) (by kernel_rfl) (some 23) (by kernel_rfl) rfl (by kernel_rfl) (by kernel_rfl) (by kernel_rfl) (fun _ _ _ h => h) (by rfl) (fun w' hw' => ?_) rfl ?_
    rotate_left
    · try (have hxx := cells11 (heap_gr (Gr.trans HC.out hw') HROW.out); obtain ⟨k0, k1, k2, k3, k4, k5, k6, k7, k8, k9, k10⟩ := hxx)
      go_simp
      with_reducible rfl
    simp only [Act.put, List.setIfInBounds_toArray, List.set_cons_zero, List.set_cons_succ]
    refine wpG_pass preGr (i := 19) (by kernel_rfl) (some 24) (by kernel_rfl) rfl (by kernel_rfl) (by kernel_rfl) (by kernel_rfl) (fun _ _ _ h => h) (by rfl) rfl ?_
    simp only [Act.put, List.setIfInBounds_toArray, List.set_cons_zero, List.set_cons_succ]
    refine wpG_pass preGr (i := 20) (by kernel_rfl) (some 25) (by kernel_rfl) rfl (by kernel_rfl) (by kernel_rfl) (by kernel_rfl) (fun _ _ _ h => h) (by rfl) rfl ?_
    simp only [Act.put, List.setIfInBounds_toArray, List.set_cons_zero, List.set_cons_succ]
    refine wpG_pass preGr (i := 21) (by kernel_rfl) (some 26) (by kernel_rfl) rfl (by kernel_rfl) (by kernel_rfl) (by kernel_rfl) (fun _ _ _ h => h) (by rfl) rfl ?_
    simp only [Act.put, List.setIfInBounds_toArray, List.set_cons_zero, List.set_cons_succ]
    refine wpG_pass preGr (i := 22) (by kernel_rfl) (some 27) (by kernel_rfl) rfl (by kernel_rfl) (by kernel_rfl) (by kernel_rfl) (fun _ _ _ h => h) (by rfl) rfl ?_
    simp only [Act.put, List.setIfInBounds_toArray, List.set_cons_zero, List.set_cons_succ]
    refine wpG_pass preGr (i := 23) (by kernel_rfl) (some 28) (by kernel_rfl) rfl (by kernel_rfl) (by kernel_rfl) (by kernel_rfl) (fun _ _ _ h => h) (by rfl) rfl ?_
    simp only [Act.put, List.setIfInBounds_toArray, List.set_cons_zero, List.set_cons_succ]
    refine wpG_pass preGr (i := 24) (by kernel_rfl) (some 29) (by kernel_rfl) rfl (by kernel_rfl) (by kernel_rfl) (by kernel_rfl) (fun _ _ _ h => h) (by rfl) rfl ?_
    simp only [Act.put, List.setIfInBounds_toArray, List.set_cons_zero, List.set_cons_succ]
    refine wpG_pass preGr (i := 25) (by kernel_rfl) (some 30) (by kernel_rfl) rfl (by kernel_rfl) (by kernel_rfl) (by kernel_rfl) (fun _ _ _ h => h) (by rfl) rfl ?_
    simp only [Act.put, List.setIfInBounds_toArray, List.set_cons_zero, List.set_cons_succ]
    refine wpG_pass preGr (i := 26) (by kernel_rfl) (some 31) (by kernel_rfl) rfl (by kernel_rfl) (by kernel_rfl) (by kernel_rfl) (fun _ _ _ h => h) (by rfl) rfl ?_
    simp only [Act.put, List.setIfInBounds_toArray, List.set_cons_zero, List.set_cons_succ]
    refine wpG_pass preGr (i := 27) (by kernel_rfl) (some 32) (by kernel_rfl) rfl (by kernel_rfl) (by kernel_rfl) (by kernel_rfl) (fun _ _ _ h => h) (by rfl) rfl ?_
    simp only [Act.put, List.setIfInBounds_toArray, List.set_cons_zero, List.set_cons_succ]
    refine wpG_pass preGr (i := 28) (by kernel_rfl) (some 33) (by kernel_rfl) rfl (by kernel_rfl) (by kernel_rfl) (by kernel_rfl) (fun _ _ _ h => h) (by rfl) rfl ?_
    simp only [Act.put, List.setIfInBounds_toArray, List.set_cons_zero, List.set_cons_succ]
    refine wpG_pass preGr (i := 29) (by kernel_rfl) (some 34) (by kernel_rfl) rfl (by kernel_rfl) (by kernel_rfl) (by kernel_rfl) (fun _ _ _ h => h) (by rfl) rfl ?_
    simp only [Act.put, List.setIfInBounds_toArray, List.set_cons_zero, List.set_cons_succ]
    refine wpG_pass preGr (i := 30) (by kernel_rfl) (some 35) (by kernel_rfl) rfl (by kernel_rfl) (by kernel_rfl) (by kernel_rfl) (fun _ _ _ h => h) (by rfl) rfl ?_
    simp only [Act.put, List.setIfInBounds_toArray, List.set_cons_zero, List.set_cons_succ]
    -- 31: slot 36
    refine wpG_take preGr (i := 31) (v := ?_) (by kernel_rfl) (some 36) (by kernel_rfl) rfl (by kernel_rfl) (by kernel_rfl) (by kernel_rfl) (fun _ _ _ h => h) (by rfl) (fun w' hw' => ?_) rfl ?_
    rotate_left
    · try (have hxx := cells11 (heap_gr (Gr.trans HC.out hw') HROW.out); obtain ⟨k0, k1, k2, k3, k4, k5, k6, k7, k8, k9, k10⟩ := hxx)
      go_simp
      with_reducible rfl
    simp only [Act.put, List.setIfInBounds_toArray, List.set_cons_zero, List.set_cons_succ]
    -- 32: slot 4
    refine wpG_take preGr (i := 32) (v := ?_) (by kernel_rfl) (some 4) (by kernel_rfl) rfl (by kernel_rfl) (by kernel_rfl) (by kernel_rfl) (fun _ _ _ h => h) (by rfl) (fun w' hw' => ?_) rfl ?_
    rotate_left
    · try (have hxx := cells11 (heap_gr (Gr.trans HC.out hw') HROW.out); obtain ⟨k0, k1, k2, k3, k4, k5, k6, k7, k8, k9, k10⟩ := hxx)
      go_simp
      with_reducible rfl
    simp only [Act.put, List.setIfInBounds_toArray, List.set_cons_zero, List.set_cons_succ]
    refine wpG_done (by kernel_rfl) ?_ _
    go_wp2
    go_ret
    exact ⟨rfl, HC.out⟩
end Go.Proofs.Ytpafcabcnkmadaa.Id
