/-
  Timers in memory: New; Fork.
-/
import Derived.Test.YtmcifmgfgdahnaaTmH
import Derived.Shelf.SlMaps.Clone
namespace Go.Proofs.Ytmcifmgfgdahnaa.Tm
open Go.RowKit
open Go.Proofs.Ytmcifmgfgdahnaa.Id (Tr Tr.refl Tr.gr Tr.only blk own_blk flatR flatR_len flatR_get flatR_cons flatR_append flatR_one flatR_cell RR)
set_option linter.unusedVariables false
set_option linter.unusedSimpArgs false

/-- Timers that a call has just made, in blocks of their own. -/
def Made (w w' : World) (p : Nat) (l : List D) : Prop := ∃ g v b, TM w' p g v b l ∧ (∀ k ∈ Ft p g v b, w.heap.size ≤ k) ∧ Below w.heap.size w w'
def QMade (w w' : World) (g : Nat) (q : List D) : Prop := ∃ v b, HQ w' g v b q ∧ (∀ k ∈ Fq g v b, w.heap.size ≤ k) ∧ Below w.heap.size w w'
set_option maxRecDepth 20000 in
theorem newQueue_any (w : World) : Calls Try.prog 19 #[] w fun e w' => ∃ g, e = .returned (.pointer (some ⟨g, 0, none⟩)) ∧ QMade w w' g [] := by
  have hmm := @run_makeMap Try.prog
  have hbu : Try.prog.built 62 [(1, .func (.func 27) #[] #[]), (2, .map (some w.heap.size))] = some #[.slice none 0 0, .func (.func 27) #[] #[], .map (some w.heap.size)] := by kernel_rfl
  go_enter Try.func19, Try.ntmps19
  go_wp2_with fail
  go_ret
  have h0 : Below w.heap.size w (w.alloc (.map #[] 0)) := (Below.refl _ _).alloc (Nat.le_refl _) _
  have hm := FM.made w
  have hsz : (w.alloc (.map #[] 0)).heap.size = w.heap.size + 1 := World.size_alloc _ _
  generalize w.alloc (.map #[] 0) = w1 at h0 hm hsz ⊢
  have hg := heap_alloc_last w1 (.cells #[.slice none 0 0, .func (.func 27) #[] #[], .map (some w.heap.size)] 62)
  have h1 : Below w1.heap.size w1 (w1.alloc (.cells #[.slice none 0 0, .func (.func 27) #[] #[], .map (some w.heap.size)] 62)) := (Below.refl _ _).alloc (Nat.le_refl _) _
  refine ⟨w1.heap.size, by rw [hsz]; rfl, .slice none 0 0, w.heap.size, ⟨fun _ => none, ⟨hg, World.ownsRow_nil _ 0 56 2, hm.keep (h1.block _ hm.lt), by decide, fun d hd => by cases hd⟩, Ties.nil⟩, fun k hk => ?_, h0.trans (h1.mono h0.size)⟩
  simp only [Fq, blk, List.mem_cons, List.not_mem_nil, or_false] at hk
  rcases hk with rfl | rfl <;> omega
theorem made_of {w w1 w2 : World} {g p : Nat} {q : List D} {l : List D} (h : QMade w w1 g q) (hh : Hp q q.length) (hp : q.Perm l) (hs : Srt l) (hg : w2.heap[p]? = some (.cells #[.pointer (some ⟨g, 0, none⟩)] 51 (0, 0))) (hb : Below w1.heap.size w1 w2) (hpl : w1.heap.size ≤ p) : Made w w2 p l := by
  obtain ⟨v, b, h1, h2, h3⟩ := h
  refine ⟨g, v, b, ⟨hg, ⟨q, ⟨h1.gr hb, hh⟩, hp⟩, hs⟩, fun k hk => ?_, h3.trans (hb.mono h3.size)⟩
  rcases List.mem_cons.1 hk with rfl | hk
  · exact Nat.le_trans h3.size hpl
  · exact h2 k hk
theorem new_any (w : World) : Calls Try.prog 6 #[] w fun e w' => ∃ p, e = .returned (.pointer (some ⟨p, 0, none⟩)) ∧ Made w w' p [] := by
  have HN := Lib.hid (newQueue_any w)
  go_enter Try.func6, Try.ntmps6
  go_wp2_with fail
  refine HN.out.mono ?_
  rintro e w1 ⟨g, rfl, hq⟩
  have HQ := Lib.hid hq
  clear hq HN
  have hbu : Try.prog.built 51 [(0, .pointer (some ⟨g, 0, none⟩))] = some #[.pointer (some ⟨g, 0, none⟩)] := by kernel_rfl
  go_wp2_with fail
  go_ret
  exact ⟨_, rfl, made_of HQ.out (fun c h0 hc => by simp at hc) (List.Perm.refl _) List.Pairwise.nil (heap_alloc_last _ _) ((Below.refl _ _).alloc (Nat.le_refl _) _) (Nat.le_refl _)⟩
/-! Fork. -/
set_option maxRecDepth 20000 in
theorem clone_any {v : Value} {q : List D} (w : World) (h : Rw w 56 v q) (hn : q.length ≤ 65536) :
    Calls Try.prog 31 #[v] w fun e w' => ∃ v', e = .returned v' ∧ w'.ownsRow w.heap.size 56 2 v' q.length (flatR q) ∧ Below w.heap.size w w' := by
  obtain ⟨i0, hi, hz0, hz1, hz2⟩ := info_parts infoT
  have HR := Lib.hid h.rr
  have HBY : Hid ((0 + q.length) * 16 ≤ 140737488355328) := by show _ ≤ _; omega
  rcases h.2 with ⟨rfl, h0⟩ | ⟨r, cap, cur, rfl, hb, hg, h1, h2, h3, h4⟩
  · have e : q = [] := List.length_eq_zero_iff.1 h0
    subst e
    have hq : ∀ w, (binOp .eql 58 (.slice none 0 0) (.slice none 0 0)).run Try.prog w = .ok (.bool true) w := fun w => Lib.run_eql_slice_nil (P := Try.prog) w 58 56 none 0 0 0 0 Try.underlying58
    go_enter Try.func31, Try.ntmps31
    go_wp2
    go_ret
    exact ⟨_, rfl, World.ownsRow_nil _ _ 56 2, Below.refl _ _⟩
  · clear h hg h1 h2 h3 h4 hb
    obtain ⟨L, hL⟩ : ∃ L, L = q.length := ⟨_, rfl⟩
    have HL := Lib.hid hL
    unfold RR at HR
    rw [← hL] at HR HBY ⊢
    clear hL
    have hq : ∀ w, (binOp .eql 58 (.slice (some ⟨r, 0, none⟩) L cap) (.slice none 0 0)).run Try.prog w = .ok (.bool false) w := fun w => Lib.run_eql_slice_nil (P := Try.prog) w 58 56 (some ⟨r, 0, none⟩) L cap 0 0 Try.underlying58
    go_enter Try.func31, Try.ntmps31
    have HE : Hid (Gr w (w.alloc (.cells #[] 56))) := (Below.refl _ _).alloc (Nat.le_refl _) _
    have HO : Hid ((w.alloc (.cells #[] 56)).ownsRow w.heap.size 56 2 (.slice (some ⟨w.heap.size, 0, none⟩) 0 0) 0 []) := own_new w [] 56 0 2 rfl (Nat.zero_le _)
    have HR1 := Lib.hid (Rd.below HR.out HE.out)
    go_wp2_with (at_builtin; refine wpList_append_gr _ rfl (.tmp 5) (.tmp 6) 58 rfl w.heap.size 56 i0 _ 2 16 Try.underlying58 hi hz0 hz1 hz2 rfl (by decide) _ 0 _ rfl HO.out _ L _ rfl HR1.out (flatR_cell q) HBY.out (by decide) HE.out.size ?_)
    intro v' w2 ho hg
    have HO2 := Lib.hid ho
    have HB2 := Lib.hid (Below.trans HE.out (grown_below HO.out HE.out.size hg))
    clear ho hg
    go_wp2
    go_ret
    refine ⟨_, rfl, ?_, HB2.out⟩
    first
      | exact HO2.out
      | (have := HO2.out; rwa [Nat.zero_add, List.nil_append] at this)
set_option maxRecDepth 20000 in
theorem mclone_any (b : Nat) (es : Array MapEntry) (clock : Nat) (w : World) (hb : w.heap[b]? = some (.map es clock)) :
    Calls Try.prog 32 #[.map (some b)] w fun e w' => e = .returned (.map (some w.heap.size)) ∧ w' = w.alloc (.map es clock) := by
  have ht := Try.underlying60
  have hq := fun w => run_eql_map_nil_sl (P := Try.prog) w 60 _ _ (some b) ht
  go_enter Try.func32, Try.ntmps32
  go_wp2
  rw [run_callFunc_extern Try.func40 (by kernel_rfl) (by kernel_rfl) (by kernel_rfl) (e := Extern.MapsClone.clone) (by kernel_rfl), run_maps_clone_sl w 60 hb]
  simp only [Result.andThen]
  rw [Oper.upon_value]
  go_wp2
  rw [run_typeAssert_map_sl _ 60 _ _ _ _ ht]
  simp only [Result.andThen]
  rw [Oper.upon_value]
  go_wp2
  go_ret
  exact ⟨rfl, rfl⟩
set_option maxRecDepth 20000 in
set_option maxHeartbeats 4000000 in
theorem qfork_any {g : Nat} {v : Value} {b : Nat} {q : List D} (w : World) (h : HQ w g v b q) :
    Calls Try.prog 23 #[.pointer (some ⟨g, 0, none⟩)] w fun e w' => ∃ g', e = .returned (.pointer (some ⟨g', 0, none⟩)) ∧ QMade w w' g' q := by
  obtain ⟨f, hq, hf⟩ := h
  have HH := Lib.hid hq
  have HF := Lib.hid hf
  have HFEW := Lib.hid hq.few.1
  obtain ⟨a, c, hm1, hm2⟩ := hq.map.copy
  have HM1 := Lib.hid hm1
  have HM2 := Lib.hid hm2
  clear hq hf hm1 hm2
  go_enter Try.func23, Try.ntmps23
  go_upto_region 1 with fail
  have HC : Hid (Gr w w.drew) := Gr.drew w
  refine wp_region_G 17 Gr (by kernel_rfl) ?_
  generalize w.drew = wc at HC ⊢
  -- 0: slot 3
  refine wpG_take preGr (i := 0) (v := ?_) (by kernel_rfl) (some 3) (by kernel_rfl) rfl (by kernel_rfl) (by kernel_rfl) (by kernel_rfl) (fun _ _ _ h => h) (by rfl) (fun w' hw' => ?_) rfl ?_
  rotate_left
  · try (have hxx := cellsQ (heap_gr (Gr.trans HC.out hw') HH.out.row); obtain ⟨k0, k1, k2⟩ := hxx)
    try (have hbu : ∀ A L C b0, Try.prog.built 62 [(0, .slice A L C), (1, .func (.func 27) #[] #[]), (2, .map (some b0))] = some #[.slice A L C, .func (.func 27) #[] #[], .map (some b0)] := fun _ _ _ _ => by kernel_rfl)
    go_simp
    with_reducible rfl
  simp only [Act.put, List.setIfInBounds_toArray, List.set_cons_zero, List.set_cons_succ]
  -- 1: slot 4
  refine wpG_take preGr (i := 1) (v := ?_) (by kernel_rfl) (some 4) (by kernel_rfl) rfl (by kernel_rfl) (by kernel_rfl) (by kernel_rfl) (fun _ _ _ h => h) (by rfl) (fun w' hw' => ?_) rfl ?_
  rotate_left
  · try (have hxx := cellsQ (heap_gr (Gr.trans HC.out hw') HH.out.row); obtain ⟨k0, k1, k2⟩ := hxx)
    try (have hbu : ∀ A L C b0, Try.prog.built 62 [(0, .slice A L C), (1, .func (.func 27) #[] #[]), (2, .map (some b0))] = some #[.slice A L C, .func (.func 27) #[] #[], .map (some b0)] := fun _ _ _ _ => by kernel_rfl)
    go_simp
    with_reducible rfl
  simp only [Act.put, List.setIfInBounds_toArray, List.set_cons_zero, List.set_cons_succ]
  -- 2: slot 5
  refine wpG_take preGr (i := 2) (v := ?_) (by kernel_rfl) (some 5) (by kernel_rfl) rfl (by kernel_rfl) (by kernel_rfl) (by kernel_rfl) (fun _ _ _ h => h) (by rfl) (fun w' hw' => ?_) rfl ?_
  rotate_left
  · try (have hxx := cellsQ (heap_gr (Gr.trans HC.out hw') HH.out.row); obtain ⟨k0, k1, k2⟩ := hxx)
    try (have hbu : ∀ A L C b0, Try.prog.built 62 [(0, .slice A L C), (1, .func (.func 27) #[] #[]), (2, .map (some b0))] = some #[.slice A L C, .func (.func 27) #[] #[], .map (some b0)] := fun _ _ _ _ => by kernel_rfl)
    go_simp
    with_reducible rfl
  simp only [Act.put, List.setIfInBounds_toArray, List.set_cons_zero, List.set_cons_succ]
  -- 3: slot 6
  refine wpG_take preGr (i := 3) (v := ?_) (by kernel_rfl) (some 6) (by kernel_rfl) rfl (by kernel_rfl) (by kernel_rfl) (by kernel_rfl) (fun _ _ _ h => h) (by rfl) (fun w' hw' => ?_) rfl ?_
  rotate_left
  · try (have hxx := cellsQ (heap_gr (Gr.trans HC.out hw') HH.out.row); obtain ⟨k0, k1, k2⟩ := hxx)
    try (have hbu : ∀ A L C b0, Try.prog.built 62 [(0, .slice A L C), (1, .func (.func 27) #[] #[]), (2, .map (some b0))] = some #[.slice A L C, .func (.func 27) #[] #[], .map (some b0)] := fun _ _ _ _ => by kernel_rfl)
    go_simp
    with_reducible rfl
  simp only [Act.put, List.setIfInBounds_toArray, List.set_cons_zero, List.set_cons_succ]
  -- 5: slot 8
  refine wpG_take preGr (i := 5) (v := ?_) (by kernel_rfl) (some 8) (by kernel_rfl) rfl (by kernel_rfl) (by kernel_rfl) (by kernel_rfl) (fun _ _ _ h => h) (by rfl) (fun w' hw' => ?_) rfl ?_
  rotate_left
  · try (have hxx := cellsQ (heap_gr (Gr.trans HC.out hw') HH.out.row); obtain ⟨k0, k1, k2⟩ := hxx)
    try (have hbu : ∀ A L C b0, Try.prog.built 62 [(0, .slice A L C), (1, .func (.func 27) #[] #[]), (2, .map (some b0))] = some #[.slice A L C, .func (.func 27) #[] #[], .map (some b0)] := fun _ _ _ _ => by kernel_rfl)
    go_simp
    with_reducible rfl
  simp only [Act.put, List.setIfInBounds_toArray, List.set_cons_zero, List.set_cons_succ]
  -- 6: slot 9
  refine wpG_take preGr (i := 6) (v := ?_) (by kernel_rfl) (some 9) (by kernel_rfl) rfl (by kernel_rfl) (by kernel_rfl) (by kernel_rfl) (fun _ _ _ h => h) (by rfl) (fun w' hw' => ?_) rfl ?_
  rotate_left
  · try (have hxx := cellsQ (heap_gr (Gr.trans HC.out hw') HH.out.row); obtain ⟨k0, k1, k2⟩ := hxx)
    try (have hbu : ∀ A L C b0, Try.prog.built 62 [(0, .slice A L C), (1, .func (.func 27) #[] #[]), (2, .map (some b0))] = some #[.slice A L C, .func (.func 27) #[] #[], .map (some b0)] := fun _ _ _ _ => by kernel_rfl)
    go_simp
    with_reducible rfl
  simp only [Act.put, List.setIfInBounds_toArray, List.set_cons_zero, List.set_cons_succ]
  -- 7: slot 10
  refine wpG_take preGr (i := 7) (v := ?_) (by kernel_rfl) (some 10) (by kernel_rfl) rfl (by kernel_rfl) (by kernel_rfl) (by kernel_rfl) (fun _ _ _ h => h) (by rfl) (fun w' hw' => ?_) rfl ?_
  rotate_left
  · try (have hxx := cellsQ (heap_gr (Gr.trans HC.out hw') HH.out.row); obtain ⟨k0, k1, k2⟩ := hxx)
    try (have hbu : ∀ A L C b0, Try.prog.built 62 [(0, .slice A L C), (1, .func (.func 27) #[] #[]), (2, .map (some b0))] = some #[.slice A L C, .func (.func 27) #[] #[], .map (some b0)] := fun _ _ _ _ => by kernel_rfl)
    go_simp
    with_reducible rfl
  simp only [Act.put, List.setIfInBounds_toArray, List.set_cons_zero, List.set_cons_succ]
  -- 8: slot 11
  refine wpG_take preGr (i := 8) (v := ?_) (by kernel_rfl) (some 11) (by kernel_rfl) rfl (by kernel_rfl) (by kernel_rfl) (by kernel_rfl) (fun _ _ _ h => h) (by rfl) (fun w' hw' => ?_) rfl ?_
  rotate_left
  · try (have hxx := cellsQ (heap_gr (Gr.trans HC.out hw') HH.out.row); obtain ⟨k0, k1, k2⟩ := hxx)
    try (have hbu : ∀ A L C b0, Try.prog.built 62 [(0, .slice A L C), (1, .func (.func 27) #[] #[]), (2, .map (some b0))] = some #[.slice A L C, .func (.func 27) #[] #[], .map (some b0)] := fun _ _ _ _ => by kernel_rfl)
    go_simp
    with_reducible rfl
  simp only [Act.put, List.setIfInBounds_toArray, List.set_cons_zero, List.set_cons_succ]
  -- 9: slot 12
  refine wpG_take preGr (i := 9) (v := ?_) (by kernel_rfl) (some 12) (by kernel_rfl) rfl (by kernel_rfl) (by kernel_rfl) (by kernel_rfl) (fun _ _ _ h => h) (by rfl) (fun w' hw' => ?_) rfl ?_
  rotate_left
  · try (have hxx := cellsQ (heap_gr (Gr.trans HC.out hw') HH.out.row); obtain ⟨k0, k1, k2⟩ := hxx)
    try (have hbu : ∀ A L C b0, Try.prog.built 62 [(0, .slice A L C), (1, .func (.func 27) #[] #[]), (2, .map (some b0))] = some #[.slice A L C, .func (.func 27) #[] #[], .map (some b0)] := fun _ _ _ _ => by kernel_rfl)
    go_simp
    with_reducible rfl
  simp only [Act.put, List.setIfInBounds_toArray, List.set_cons_zero, List.set_cons_succ]
  -- 10: slot 13
  refine wpG_take preGr (i := 10) (v := ?_) (by kernel_rfl) (some 13) (by kernel_rfl) rfl (by kernel_rfl) (by kernel_rfl) (by kernel_rfl) (fun _ _ _ h => h) (by rfl) (fun w' hw' => ?_) rfl ?_
  rotate_left
  · try (have hxx := cellsQ (heap_gr (Gr.trans HC.out hw') HH.out.row); obtain ⟨k0, k1, k2⟩ := hxx)
    try (have hbu : ∀ A L C b0, Try.prog.built 62 [(0, .slice A L C), (1, .func (.func 27) #[] #[]), (2, .map (some b0))] = some #[.slice A L C, .func (.func 27) #[] #[], .map (some b0)] := fun _ _ _ _ => by kernel_rfl)
    go_simp
    with_reducible rfl
  simp only [Act.put, List.setIfInBounds_toArray, List.set_cons_zero, List.set_cons_succ]
  -- 11: slot 14
  refine wpG_take preGr (i := 11) (v := ?_) (by kernel_rfl) (some 14) (by kernel_rfl) rfl (by kernel_rfl) (by kernel_rfl) (by kernel_rfl) (fun _ _ _ h => h) (by rfl) (fun w' hw' => ?_) rfl ?_
  rotate_left
  · try (have hxx := cellsQ (heap_gr (Gr.trans HC.out hw') HH.out.row); obtain ⟨k0, k1, k2⟩ := hxx)
    try (have hbu : ∀ A L C b0, Try.prog.built 62 [(0, .slice A L C), (1, .func (.func 27) #[] #[]), (2, .map (some b0))] = some #[.slice A L C, .func (.func 27) #[] #[], .map (some b0)] := fun _ _ _ _ => by kernel_rfl)
    go_simp
    with_reducible rfl
  simp only [Act.put, List.setIfInBounds_toArray, List.set_cons_zero, List.set_cons_succ]
  -- 12: slot 15
  refine wpG_take preGr (i := 12) (v := ?_) (by kernel_rfl) (some 15) (by kernel_rfl) rfl (by kernel_rfl) (by kernel_rfl) (by kernel_rfl) (fun _ _ _ h => h) (by rfl) (fun w' hw' => ?_) rfl ?_
  rotate_left
  · try (have hxx := cellsQ (heap_gr (Gr.trans HC.out hw') HH.out.row); obtain ⟨k0, k1, k2⟩ := hxx)
    try (have hbu : ∀ A L C b0, Try.prog.built 62 [(0, .slice A L C), (1, .func (.func 27) #[] #[]), (2, .map (some b0))] = some #[.slice A L C, .func (.func 27) #[] #[], .map (some b0)] := fun _ _ _ _ => by kernel_rfl)
    go_simp
    with_reducible rfl
  simp only [Act.put, List.setIfInBounds_toArray, List.set_cons_zero, List.set_cons_succ]
  refine wpG_one (i := 4) rfl (by kernel_rfl) (by rfl) ?_
  go_simp
  refine (clone_any wc (HH.out.gr HC.out).own HFEW.out).mono ?_
  rintro e wn ⟨v1, rfl, ho, hb⟩
  refine ⟨hb, ?_⟩
  obtain ⟨A1, L1, C1, rfl⟩ : ∃ A1 L1 C1, v1 = .slice A1 L1 C1 := by
    obtain ⟨_, A1, C1, e1, _⟩ := own_rd ho
    exact ⟨A1, _, C1, e1⟩
  have HO := Lib.hid ho
  have HW : Hid (Gr wc wn) := hb
  have HC' : Hid (Gr w wn) := Gr.trans HC.out hb
  have HS : Hid (w.heap.size ≤ wc.heap.size) := HC.out.size
  clear HC hb ho
  have HC := HC'
  clear HC'
  try simp only [Act.put, List.setIfInBounds_toArray, List.set_cons_zero, List.set_cons_succ]
  refine wpG_one (i := 13) rfl (by kernel_rfl) (by rfl) ?_
  go_simp
  refine (mclone_any b a c wn (heap_gr HC.out HM1.out)).mono ?_
  rintro e w2 ⟨rfl, rfl⟩
  have hb : Gr wn (wn.alloc (.map a c)) := (Below.refl _ _).alloc (Nat.le_refl _) _
  refine ⟨hb, ?_⟩
  have HO2 := Lib.hid (ownsRow_below HO.out hb)
  have HMP : Hid ((wn.alloc (.map a c)).heap[wn.heap.size]? = some (.map a c)) := (MapKept.heap_alloc wn _).1
  have HC' : Hid (Gr w (wn.alloc (.map a c))) := Gr.trans HC.out hb
  have HS2 : Hid (w.heap.size ≤ wn.heap.size) := HC.out.size
  clear HC hb HO
  have HC := HC'
  clear HC'
  try simp only [Act.put, List.setIfInBounds_toArray, List.set_cons_zero, List.set_cons_succ]
  -- 14: slot 17
  refine wpG_take preGr (i := 14) (v := ?_) (by kernel_rfl) (some 17) (by kernel_rfl) rfl (by kernel_rfl) (by kernel_rfl) (by kernel_rfl) (fun _ _ _ h => h) (by rfl) (fun w' hw' => ?_) rfl ?_
  rotate_left
  · try (have hxx := cellsQ (heap_gr (Gr.trans HC.out hw') HH.out.row); obtain ⟨k0, k1, k2⟩ := hxx)
    try (have hbu : ∀ A L C b0, Try.prog.built 62 [(0, .slice A L C), (1, .func (.func 27) #[] #[]), (2, .map (some b0))] = some #[.slice A L C, .func (.func 27) #[] #[], .map (some b0)] := fun _ _ _ _ => by kernel_rfl)
    go_simp
    with_reducible rfl
  simp only [Act.put, List.setIfInBounds_toArray, List.set_cons_zero, List.set_cons_succ]
  refine wpG_one (i := 15) rfl (by kernel_rfl) (by rfl) ?_
  go_simp
  have hb : Gr (wn.alloc (.map a c)) ((wn.alloc (.map a c)).alloc (.cells #[.slice A1 L1 C1, .func (.func 27) #[] #[], .map (some wn.heap.size)] 62)) := (Below.refl _ _).alloc (Nat.le_refl _) _
  refine ⟨hb, ?_⟩
  have HG : Hid (((wn.alloc (.map a c)).alloc (.cells #[.slice A1 L1 C1, .func (.func 27) #[] #[], .map (some wn.heap.size)] 62)).heap[(wn.alloc (.map a c)).heap.size]? = some (.cells #[.slice A1 L1 C1, .func (.func 27) #[] #[], .map (some wn.heap.size)] 62 (0, 0))) := heap_alloc_last _ _
  have HB : Hid (Gr (wn.alloc (.map a c)) ((wn.alloc (.map a c)).alloc (.cells #[.slice A1 L1 C1, .func (.func 27) #[] #[], .map (some wn.heap.size)] 62))) := hb
  clear hb
  try simp only [Act.put, List.setIfInBounds_toArray, List.set_cons_zero, List.set_cons_succ]
  -- 16: slot 2
  refine wpG_take preGr (i := 16) (v := ?_) (by kernel_rfl) (some 2) (by kernel_rfl) rfl (by kernel_rfl) (by kernel_rfl) (by kernel_rfl) (fun _ _ _ h => h) (by rfl) (fun w' hw' => ?_) rfl ?_
  rotate_left
  · try (have hxx := cellsQ (heap_gr (Gr.trans HC.out hw') HH.out.row); obtain ⟨k0, k1, k2⟩ := hxx)
    try (have hbu : ∀ A L C b0, Try.prog.built 62 [(0, .slice A L C), (1, .func (.func 27) #[] #[]), (2, .map (some b0))] = some #[.slice A L C, .func (.func 27) #[] #[], .map (some b0)] := fun _ _ _ _ => by kernel_rfl)
    go_simp
    with_reducible rfl
  simp only [Act.put, List.setIfInBounds_toArray, List.set_cons_zero, List.set_cons_succ]
  refine wpG_done (by kernel_rfl) ?_ _
  go_wp2
  go_ret
  have hsz : (wn.alloc (.map a c)).heap.size = wn.heap.size + 1 := World.size_alloc _ _
  have ho := ownsRow_below HO2.out HB.out
  have hbk := fun k hk => own_blk ho k hk
  refine ⟨(wn.alloc (.map a c)).heap.size, by rw [hsz]; rfl, .slice A1 L1 C1, wn.heap.size, ⟨f, ⟨HG.out, ?_, ?_, HH.out.few, HH.out.keys⟩, HF.out⟩, fun k hk => ?_, Gr.trans HC.out HB.out⟩
  · exact ownsRow_mono ho (Nat.zero_le _)
  · exact HM2.out _ _ (heap_below HMP.out HB.out)
  · have h1 := HS.out
    have h2 := HS2.out
    simp only [Fq, List.mem_cons] at hk
    rcases hk with hk | hk | hk
    · omega
    · omega
    · have := (hbk k hk).1; omega
theorem tfork_any {p g : Nat} {v : Value} {b : Nat} {l : List D} (w : World) (h : TM w p g v b l) :
    Calls Try.prog 15 #[.pointer (some ⟨p, 0, none⟩)] w fun e w' => ∃ p', e = .returned (.pointer (some ⟨p', 0, none⟩)) ∧ Made w w' p' l := by
  have HM := Lib.hid (isMade_yes p g w h.row)
  have k0 := cell1 h.row
  obtain ⟨q, hq, hp⟩ := h.heap
  have HF := Lib.hid (qfork_any w hq.1)
  have HP := Lib.hid hp
  have HH := Lib.hid hq.2
  have HS := Lib.hid h.srt
  clear h hq hp
  go_enter Try.func15, Try.ntmps15
  go_wp2_with fail
  refine HM.out.mono ?_
  rintro e w' ⟨rfl, rfl⟩
  go_wp2_with fail
  refine HF.out.mono ?_
  rintro e w1 ⟨g1, rfl, hq⟩
  have HQ := Lib.hid hq
  clear hq HF HM k0
  have hbu : Try.prog.built 51 [(0, .pointer (some ⟨g1, 0, none⟩))] = some #[.pointer (some ⟨g1, 0, none⟩)] := by kernel_rfl
  go_wp2_with fail
  go_ret
  exact ⟨_, rfl, made_of HQ.out HH.out HP.out HS.out (heap_alloc_last _ _) ((Below.refl _ _).alloc (Nat.le_refl _) _) (Nat.le_refl _)⟩
end Go.Proofs.Ytmcifmgfgdahnaa.Tm
