/-
  pppoe.Client, whatever packet comes.
-/
import Derived.Test.YtcpeglljcipcbaaPpQ
namespace Go.Proofs.Ytcpeglljcipcbaa
open Go.RowKit
set_option linter.unusedVariables false
set_option linter.unusedSimpArgs false

/-- A question that is the call's own. -/
structure DOwn (w : World) (base : Nat) (d : Dm) : Prop where
  u : OwnB w base 5 (.slice d.ua d.un d.uc) d.ul
  r : OwnB w base 5 (.slice d.ra d.rn d.rc) d.rl
  k : OwnB w base 5 (.slice d.ka d.kn d.kc) d.kl
  ne : ∀ g, (Value.slice d.ua d.un d.uc).ownBlock = some g → (Value.slice d.ka d.kn d.kc).ownBlock ≠ some g
def CliR (p : PP) (w : World) (e : Ending) (w' : World) : Prop :=
  ∃ d : Dm, e = .returned (.tuple #[.agg #[.int .i64 d.c, .int .i64 d.s, .string d.v, .slice d.ua d.un d.uc, .slice d.ra d.rn d.rc, .bool d.hu, .bool d.hr, .slice d.ka d.kn d.kc], .int .i64 (cliP p).2]) ∧ d.plain = (cliP p).1 ∧ DOwn w' w.heap.size d ∧ Below w.heap.size w w'
theorem cliP_no {p : PP} (h : ¬ ((dec p.l).2 = 0 ∧ asksP p (allL (dec p.l).1 257).length = true)) : cliP p = (DD.zero, 61) := if_neg h
def Dm.zero : Dm := ⟨0, 0, ⟨#[]⟩, Option.none, 0, 0, [], Option.none, 0, 0, [], false, false, Option.none, 0, 0, []⟩
theorem Dm.zero_plain : Dm.zero.plain = DD.zero := rfl
theorem Dm.zero_own (w : World) (base : Nat) : DOwn w base Dm.zero := ⟨OwnB.nil _ _ _, OwnB.nil _ _ _, OwnB.nil _ _ _, fun _ h => by cases h⟩
theorem CliR.none {p : PP} {w w' : World} (h : cliP p = (DD.zero, 61)) (hb : Below w.heap.size w w') : CliR p w (.returned (.tuple #[.agg #[.int .i64 0, .int .i64 0, .string ⟨#[]⟩, .slice none 0 0, .slice none 0 0, .bool false, .bool false, .slice none 0 0], .int .i64 61])) w' := by
  have h1 : (cliP p).1 = DD.zero := by rw [h]
  have h2 : (cliP p).2 = 61 := by rw [h]
  refine Exists.intro Dm.zero ⟨?_, ?_, Dm.zero_own _ _, hb⟩
  · rw [h2]; rfl
  · rw [h1]; exact Dm.zero_plain
theorem set8 {w : World} {g : Nat} {t : TypeId} {a b c d e f k l : Value} (h : w.heap[g]? = some (.cells #[a, b, c, d, e, f, k, l] t (0, 0))) (a' b' c' d' e' f' k' l' : Value) :
    ((((((((w.setCell ⟨g, 0, none⟩ a').setCell ⟨g, 1, none⟩ b').setCell ⟨g, 2, none⟩ c').setCell ⟨g, 3, none⟩ d').setCell ⟨g, 4, none⟩ e').setCell ⟨g, 5, none⟩ f').setCell ⟨g, 6, none⟩ k').setCell ⟨g, 7, none⟩ l').heap[g]? = some (.cells #[a', b', c', d', e', f', k', l'] t (0, 0)) := by
  have h0 : (w.setCell ⟨g, 0, none⟩ a').heap[g]? = some (.cells #[a', b, c, d, e, f, k, l] t (0, 0)) := heap_setCell_same _ g 0 _ t _ h
  have h1 : ((w.setCell ⟨g, 0, none⟩ a').setCell ⟨g, 1, none⟩ b').heap[g]? = some (.cells #[a', b', c, d, e, f, k, l] t (0, 0)) := heap_setCell_same _ g 1 _ t _ h0
  have h2 : (((w.setCell ⟨g, 0, none⟩ a').setCell ⟨g, 1, none⟩ b').setCell ⟨g, 2, none⟩ c').heap[g]? = some (.cells #[a', b', c', d, e, f, k, l] t (0, 0)) := heap_setCell_same _ g 2 _ t _ h1
  have h3 : ((((w.setCell ⟨g, 0, none⟩ a').setCell ⟨g, 1, none⟩ b').setCell ⟨g, 2, none⟩ c').setCell ⟨g, 3, none⟩ d').heap[g]? = some (.cells #[a', b', c', d', e, f, k, l] t (0, 0)) := heap_setCell_same _ g 3 _ t _ h2
  have h4 : (((((w.setCell ⟨g, 0, none⟩ a').setCell ⟨g, 1, none⟩ b').setCell ⟨g, 2, none⟩ c').setCell ⟨g, 3, none⟩ d').setCell ⟨g, 4, none⟩ e').heap[g]? = some (.cells #[a', b', c', d', e', f, k, l] t (0, 0)) := heap_setCell_same _ g 4 _ t _ h3
  have h5 : ((((((w.setCell ⟨g, 0, none⟩ a').setCell ⟨g, 1, none⟩ b').setCell ⟨g, 2, none⟩ c').setCell ⟨g, 3, none⟩ d').setCell ⟨g, 4, none⟩ e').setCell ⟨g, 5, none⟩ f').heap[g]? = some (.cells #[a', b', c', d', e', f', k, l] t (0, 0)) := heap_setCell_same _ g 5 _ t _ h4
  have h6 : (((((((w.setCell ⟨g, 0, none⟩ a').setCell ⟨g, 1, none⟩ b').setCell ⟨g, 2, none⟩ c').setCell ⟨g, 3, none⟩ d').setCell ⟨g, 4, none⟩ e').setCell ⟨g, 5, none⟩ f').setCell ⟨g, 6, none⟩ k').heap[g]? = some (.cells #[a', b', c', d', e', f', k', l] t (0, 0)) := heap_setCell_same _ g 6 _ t _ h5
  have h7 : ((((((((w.setCell ⟨g, 0, none⟩ a').setCell ⟨g, 1, none⟩ b').setCell ⟨g, 2, none⟩ c').setCell ⟨g, 3, none⟩ d').setCell ⟨g, 4, none⟩ e').setCell ⟨g, 5, none⟩ f').setCell ⟨g, 6, none⟩ k').setCell ⟨g, 7, none⟩ l').heap[g]? = some (.cells #[a', b', c', d', e', f', k', l'] t (0, 0)) := heap_setCell_same _ g 7 _ t _ h6
  exact h7
theorem pick_plain (ts : List Tg) (t : Int) : (pickT ts t).map (·.l) = allL (plain ts) t := by
  unfold pickT allL plain
  rw [List.filter_map, List.map_map]
  rfl
theorem find_plain (ts : List Tg) (t : Int) : findL ts t = firstL (plain ts) t ∧ (findT ts t).isSome = hasL (plain ts) t := by
  unfold findL findT firstL hasL plain
  rw [List.find?_map]
  refine ⟨?_, ?_⟩
  · rw [Option.map_map]; rfl
  · rw [Option.isSome_map]; rfl
/-- What is decoded has no long value. -/
theorem dec_small (l : List UInt8) (m : List PT) (k : Int) (h : dec l = (m, k)) : m.length ≤ 64 ∧ ∀ x ∈ m, x.2.length ≤ 1494 := by
  by_cases hk : k = 0
  · subst hk
    obtain ⟨h1, r, h2⟩ := dec_again h
    obtain ⟨h3, h4, h5⟩ := encE_zero h1
    refine ⟨h3, fun x hx => ?_⟩
    obtain ⟨a, b, rfl⟩ := List.append_of_mem hx
    rw [wireT_append, List.length_append, wireT_cons, List.length_append, tagL_length] at h5
    omega
  · have := dec_err (l := l) (by rw [h]; exact hk)
    rw [h] at this
    obtain rfl : m = [] := this
    exact ⟨Nat.zero_le _, fun x hx => by cases hx⟩

theorem asks_code {p : PP} {n : Nat} (h : asksP p n = true) : p.c = 9 ∨ p.c = 25 ∨ p.c = 167 := by
  unfold asksP at h
  split at h
  · rename_i h1; omega
  · split at h
    · rename_i h1; exact .inr (.inr h1)
    · cases h
theorem cliP_yes {p : PP} {ts : List Tg} {N : Nat} (hd : dec p.l = (plain ts, 0)) (hN : N = (allL (plain ts) 257).length) (ha : asksP p N = true) :
    cliP p = (⟨p.c, p.s, if p.c = 167 then ⟨#[]⟩ else ⟨(findL ts 257).toArray⟩, findL ts 259, findL ts 272, (findT ts 259).isSome, (findT ts 272).isSome, if p.c = 25 then findL ts 260 else []⟩, 0) := by
  unfold cliP
  rw [hd, ← hN, if_pos ⟨rfl, ha⟩, ← (find_plain ts 257).1, ← (find_plain ts 259).1, ← (find_plain ts 272).1, ← (find_plain ts 259).2, ← (find_plain ts 272).2, ← (find_plain ts 260).1]
theorem CliR.some {p : PP} {w w' : World} (d : Dm) (h : cliP p = (d.plain, 0)) (ho : DOwn w' w.heap.size d) (hb : Below w.heap.size w w') : CliR p w (.returned (.tuple #[.agg #[.int .i64 d.c, .int .i64 d.s, .string d.v, .slice d.ua d.un d.uc, .slice d.ra d.rn d.rc, .bool d.hu, .bool d.hr, .slice d.ka d.kn d.kc], .int .i64 0])) w' := by
  have h1 : (cliP p).1 = d.plain := by rw [h]
  have h2 : (cliP p).2 = 0 := by rw [h]
  refine Exists.intro d ⟨?_, h1.symm, ho, hb⟩
  rw [h2]
theorem one8 {a b c d e f k l : Value} (h : a.oneCell' = true ∧ b.oneCell' = true ∧ c.oneCell' = true ∧ d.oneCell' = true ∧ e.oneCell' = true ∧ f.oneCell' = true ∧ k.oneCell' = true ∧ l.oneCell' = true) : ∀ u ∈ [a, b, c, d, e, f, k, l], u.oneCell' = true := by
  obtain ⟨h1, h2, h3, h4, h5, h6, h7, h8⟩ := h
  intro u hu
  simp only [List.mem_cons, List.not_mem_nil, or_false] at hu
  rcases hu with rfl | rfl | rfl | rfl | rfl | rfl | rfl | rfl <;> assumption

set_option maxRecDepth 20000 in
set_option maxHeartbeats 8000000 in
theorem client_any (C S : Int) (A : Option Addr) (L K : Nat) (l : List UInt8) (hl : l.length = L) (w : World) (hb : Bs w (.slice A L K) l) (hL : L ≤ 1000000) :
    Calls Try.prog 26 #[.agg #[.int .i64 C, .int .i64 S, .slice A L K]] w (CliR ⟨C, S, l⟩ w) := by
  have BA : Below w.heap.size w ((w.alloc (.cells #[.int .i64 C, .int .i64 S, .slice A L K] 24)).alloc (.cells #[.int .i64 0, .int .i64 0, .string ⟨#[]⟩, .slice none 0 0, .slice none 0 0, .bool false, .bool false, .slice none 0 0] 36)) := ((Below.refl _ _).alloc (Nat.le_refl _) _).alloc (by simp) _
  have HBA := Lib.hid BA
  have HGP : Hid (((w.alloc (.cells #[.int .i64 C, .int .i64 S, .slice A L K] 24)).alloc (.cells #[.int .i64 0, .int .i64 0, .string ⟨#[]⟩, .slice none 0 0, .slice none 0 0, .bool false, .bool false, .slice none 0 0] 36)).heap[w.heap.size]? = some (.cells #[.int .i64 C, .int .i64 S, .slice A L K] 24)) := heap2_0' _ _ _
  have HGR : Hid (((w.alloc (.cells #[.int .i64 C, .int .i64 S, .slice A L K] 24)).alloc (.cells #[.int .i64 0, .int .i64 0, .string ⟨#[]⟩, .slice none 0 0, .slice none 0 0, .bool false, .bool false, .slice none 0 0] 36)).heap[w.heap.size + 1]? = some (.cells #[.int .i64 0, .int .i64 0, .string ⟨#[]⟩, .slice none 0 0, .slice none 0 0, .bool false, .bool false, .slice none 0 0] 36 (0, 0))) := heap2_1' _ _ _
  have HSZ : Hid (w.heap.size + 2 ≤ ((w.alloc (.cells #[.int .i64 C, .int .i64 S, .slice A L K] 24)).alloc (.cells #[.int .i64 0, .int .i64 0, .string ⟨#[]⟩, .slice none 0 0, .slice none 0 0, .bool false, .bool false, .slice none 0 0] 36)).heap.size) := by show _ ≤ _; simp
  have DE := Lib.hid (decode_any A L K l hl ((w.alloc (.cells #[.int .i64 C, .int .i64 S, .slice A L K] 24)).alloc (.cells #[.int .i64 0, .int .i64 0, .string ⟨#[]⟩, .slice none 0 0, .slice none 0 0, .bool false, .bool false, .slice none 0 0] 36)) (hb.below BA) (by omega))
  clear BA hb hl
  go_enter Try.func26, Try.ntmps26
  go_wp2_with fail
  refine DE.out.mono ?_
  rintro e w1 ⟨v1, rfl, ⟨ts, hts, hto⟩, hb1⟩
  have HB1 := Lib.hid (HBA.out.trans (hb1.mono HBA.out.size))
  have HGP1 := Lib.hid (heap_below HGP.out hb1)
  have HGR1 := Lib.hid (heap_below HGR.out hb1)
  have htr := hto.tr
  obtain ⟨a1, c1, ev, _, _⟩ := htr.shape
  subst ev
  have HZ1 : Hid (w.heap.size + 2 ≤ w1.heap.size) := Nat.le_trans HSZ.out hb1.size
  obtain ⟨k, hk⟩ : ∃ k, k = (dec l).2 := ⟨_, rfl⟩
  have HD : Hid (dec l = (plain ts, k)) := by show _ = _; rw [hts, hk]
  obtain ⟨n, hn⟩ : ∃ n, n = ts.length := ⟨_, rfl⟩
  have hsm := dec_small l _ _ HD.out
  have hn64 : n ≤ 64 := by rw [hn, ← plain_length]; exact hsm.1
  have hsm2 : ∀ x ∈ ts, x.l.length ≤ 140737488351232 := fun x hx => by
    have := hsm.2 (x.typ, x.l) (List.mem_map.2 ⟨x, hx, rfl⟩)
    simp only at this
    omega
  rw [← hk]
  rw [← hn] at htr ⊢
  have HTR := Lib.hid htr
  have HSM := Lib.hid hsm2
  have HNN := Lib.hid hn
  clear DE hts hto hb1 htr hk hn hsm hsm2 HBA HGP HGR HSZ
  obtain ⟨k0, k1, k2⟩ := cells3 HGP1.out
  by_cases hk0 : k = 0
  · subst hk0
    have ALL := Lib.hid (all_any a1 n c1 ts 257 w1.drew (HTR.out.below (Gr.drew w1)) (by omega) HSM.out)
    clear k0 k1 k2
    go_wp2_with fail
    refine wp_region_G 10 Gr (by kernel_rfl) ?_
    -- 0: slot 13
    refine wpG_take preGr (i := 0) (v := ?_) (by kernel_rfl) (some 13) (by kernel_rfl) rfl (by kernel_rfl) (by kernel_rfl) (by kernel_rfl) (fun _ _ _ h => h) (by rfl) (fun w' hw' => ?_) rfl ?_
    rotate_left
    · try have g0 := (cells3 (heap_below HGP1.out ((Gr.drew w1).trans hw'))).1
      try have g1 := (cells3 (heap_below HGP1.out ((Gr.drew w1).trans hw'))).2.1
      try have g2 := (cells3 (heap_below HGP1.out ((Gr.drew w1).trans hw'))).2.2
      go_simp
      with_reducible rfl
    simp only [Act.put, List.setIfInBounds_toArray, List.set_cons_zero, List.set_cons_succ]
    -- 1: slot 14
    refine wpG_take preGr (i := 1) (v := ?_) (by kernel_rfl) (some 14) (by kernel_rfl) rfl (by kernel_rfl) (by kernel_rfl) (by kernel_rfl) (fun _ _ _ h => h) (by rfl) (fun w' hw' => ?_) rfl ?_
    rotate_left
    · try have g0 := (cells3 (heap_below HGP1.out ((Gr.drew w1).trans hw'))).1
      try have g1 := (cells3 (heap_below HGP1.out ((Gr.drew w1).trans hw'))).2.1
      try have g2 := (cells3 (heap_below HGP1.out ((Gr.drew w1).trans hw'))).2.2
      go_simp
      with_reducible rfl
    simp only [Act.put, List.setIfInBounds_toArray, List.set_cons_zero, List.set_cons_succ]
    -- 2: slot 15
    refine wpG_take preGr (i := 2) (v := ?_) (by kernel_rfl) (some 15) (by kernel_rfl) rfl (by kernel_rfl) (by kernel_rfl) (by kernel_rfl) (fun _ _ _ h => h) (by rfl) (fun w' hw' => ?_) rfl ?_
    rotate_left
    · try have g0 := (cells3 (heap_below HGP1.out ((Gr.drew w1).trans hw'))).1
      try have g1 := (cells3 (heap_below HGP1.out ((Gr.drew w1).trans hw'))).2.1
      try have g2 := (cells3 (heap_below HGP1.out ((Gr.drew w1).trans hw'))).2.2
      go_simp
      with_reducible rfl
    simp only [Act.put, List.setIfInBounds_toArray, List.set_cons_zero, List.set_cons_succ]
    -- 3: slot 16
    refine wpG_take preGr (i := 3) (v := ?_) (by kernel_rfl) (some 16) (by kernel_rfl) rfl (by kernel_rfl) (by kernel_rfl) (by kernel_rfl) (fun _ _ _ h => h) (by rfl) (fun w' hw' => ?_) rfl ?_
    rotate_left
    · try have g0 := (cells3 (heap_below HGP1.out ((Gr.drew w1).trans hw'))).1
      try have g1 := (cells3 (heap_below HGP1.out ((Gr.drew w1).trans hw'))).2.1
      try have g2 := (cells3 (heap_below HGP1.out ((Gr.drew w1).trans hw'))).2.2
      go_simp
      with_reducible rfl
    simp only [Act.put, List.setIfInBounds_toArray, List.set_cons_zero, List.set_cons_succ]
    -- 4: slot 17
    refine wpG_take preGr (i := 4) (v := ?_) (by kernel_rfl) (some 17) (by kernel_rfl) rfl (by kernel_rfl) (by kernel_rfl) (by kernel_rfl) (fun _ _ _ h => h) (by rfl) (fun w' hw' => ?_) rfl ?_
    rotate_left
    · try have g0 := (cells3 (heap_below HGP1.out ((Gr.drew w1).trans hw'))).1
      try have g1 := (cells3 (heap_below HGP1.out ((Gr.drew w1).trans hw'))).2.1
      try have g2 := (cells3 (heap_below HGP1.out ((Gr.drew w1).trans hw'))).2.2
      go_simp
      with_reducible rfl
    simp only [Act.put, List.setIfInBounds_toArray, List.set_cons_zero, List.set_cons_succ]
    refine wpG_one (i := 5) rfl (by kernel_rfl) (by rfl) ?_
    go_simp
    refine ALL.out.mono ?_
    rintro e w2 ⟨v2, rfl, ⟨us, hso, hus⟩, hb2⟩
    refine ⟨hb2, ?_⟩
    obtain ⟨a2, c2, ev, _, _⟩ := hso.sr.rd.shape
    subst ev
    obtain ⟨N, hN⟩ : ∃ N, N = us.length := ⟨_, rfl⟩
    have hNL : N = (allL (plain ts) 257).length := by rw [← pick_plain, ← hus, List.length_map, hN]
    have HNL := Lib.hid hNL
    have HB2 := Lib.hid (HB1.out.trans (((Gr.drew w1).trans hb2).mono HB1.out.size))
    have HG12 : Hid (Gr w1 w2) := (Gr.drew w1).trans hb2
    have AS := Lib.hid (asks_any C S A L K l N w2)
    rw [← hN]
    clear hso hus hb2 hN hNL
    try simp only [Act.put, List.setIfInBounds_toArray, List.set_cons_zero, List.set_cons_succ]
    -- 6: slot 19
    refine wpG_take preGr (i := 6) (v := ?_) (by kernel_rfl) (some 19) (by kernel_rfl) rfl (by kernel_rfl) (by kernel_rfl) (by kernel_rfl) (fun _ _ _ h => h) (by rfl) (fun w' hw' => ?_) rfl ?_
    rotate_left
    · try have g0 := (cells3 (heap_below HGP1.out ((Gr.drew w1).trans hw'))).1
      try have g1 := (cells3 (heap_below HGP1.out ((Gr.drew w1).trans hw'))).2.1
      try have g2 := (cells3 (heap_below HGP1.out ((Gr.drew w1).trans hw'))).2.2
      go_simp
      with_reducible rfl
    simp only [Act.put, List.setIfInBounds_toArray, List.set_cons_zero, List.set_cons_succ]
    refine wpG_one (i := 7) rfl (by kernel_rfl) (by rfl) ?_
    go_simp
    refine AS.out.mono ?_
    rintro e w3 ⟨rfl, hb3⟩
    refine ⟨hb3, ?_⟩
    have HB3 := Lib.hid (HB2.out.trans (hb3.mono HB2.out.size))
    have HG13 : Hid (Gr w1 w3) := Below.trans HG12.out (Below.mono hb3 (Below.size HG12.out))
    clear hb3
    try simp only [Act.put, List.setIfInBounds_toArray, List.set_cons_zero, List.set_cons_succ]
    -- 8: slot 21
    refine wpG_take preGr (i := 8) (v := ?_) (by kernel_rfl) (some 21) (by kernel_rfl) rfl (by kernel_rfl) (by kernel_rfl) (by kernel_rfl) (fun _ _ _ h => h) (by rfl) (fun w' hw' => ?_) rfl ?_
    rotate_left
    · try have g0 := (cells3 (heap_below HGP1.out ((Gr.drew w1).trans hw'))).1
      try have g1 := (cells3 (heap_below HGP1.out ((Gr.drew w1).trans hw'))).2.1
      try have g2 := (cells3 (heap_below HGP1.out ((Gr.drew w1).trans hw'))).2.2
      go_simp
      with_reducible rfl
    simp only [Act.put, List.setIfInBounds_toArray, List.set_cons_zero, List.set_cons_succ]
    -- 9: slot 22
    refine wpG_take preGr (i := 9) (v := ?_) (by kernel_rfl) (some 22) (by kernel_rfl) rfl (by kernel_rfl) (by kernel_rfl) (by kernel_rfl) (fun _ _ _ h => h) (by rfl) (fun w' hw' => ?_) rfl ?_
    rotate_left
    · try have g0 := (cells3 (heap_below HGP1.out ((Gr.drew w1).trans hw'))).1
      try have g1 := (cells3 (heap_below HGP1.out ((Gr.drew w1).trans hw'))).2.1
      try have g2 := (cells3 (heap_below HGP1.out ((Gr.drew w1).trans hw'))).2.2
      go_simp
      with_reducible rfl
    simp only [Act.put, List.setIfInBounds_toArray, List.set_cons_zero, List.set_cons_succ]
    refine wpG_done (by kernel_rfl) ?_ _
    have HTR3 := Lib.hid (HTR.out.below HG13.out)
    have HGP3 := Lib.hid (heap_below HGP1.out HG13.out)
    have HGR3 := Lib.hid (heap_below HGR1.out HG13.out)
    have hz3 : w.heap.size + 2 ≤ w3.heap.size := Nat.le_trans HZ1.out (Below.size HG13.out)
    by_cases hA : asksP ⟨C, S, l⟩ N = true
    · have HA := Lib.hid hA
      have ha : Gr w3 (w3.alloc (.cells #[.int .i64 C, .int .i64 S, .string ⟨#[]⟩, .slice none 0 0, .slice none 0 0, .bool false, .bool false, .slice none 0 0] 36)) := (Below.refl _ _).alloc (Nat.le_refl _) _
      have HDa : Hid ((w3.alloc (.cells #[.int .i64 C, .int .i64 S, .string ⟨#[]⟩, .slice none 0 0, .slice none 0 0, .bool false, .bool false, .slice none 0 0] 36)).heap[w3.heap.size]? = some (.cells #[.int .i64 C, .int .i64 S, .string ⟨#[]⟩, .slice none 0 0, .slice none 0 0, .bool false, .bool false, .slice none 0 0] 36 (0, 0))) := heap_alloc_last _ _
      have F1 := Lib.hid (find_any a1 n c1 ts 259 _ (HTR3.out.below ha) (by omega) HSM.out)
      have HGA := Lib.hid ha
      have hsza : (w3.alloc (.cells #[.int .i64 C, .int .i64 S, .string ⟨#[]⟩, .slice none 0 0, .slice none 0 0, .bool false, .bool false, .slice none 0 0] 36)).heap.size = w3.heap.size + 1 := World.size_alloc _ _
      have HSZA := Lib.hid hsza
      have hcode := asks_code hA
      have HCO := Lib.hid hcode
      rw [hA]
      obtain ⟨q0, q1, q2⟩ := cells3 HGP3.out
      clear ha hsza hA hcode
      go_wp2_with fail
      refine F1.out.mono ?_
      rintro e w4 ⟨v4, rfl, hown4, hb4⟩
      rw [HSZA.out] at hown4
      obtain ⟨A4, L4, C4, ev, _, _, _⟩ := hown4.bs.sl
      subst ev
      obtain ⟨h4, hh4⟩ : ∃ x, x = (findT ts 259).isSome := ⟨_, rfl⟩
      rw [← hh4]
      have HD4 := Lib.hid (heap_below HDa.out hb4)
      have HG4 : Hid (Gr w3 w4) := Below.trans HGA.out (Below.mono hb4 (Below.size HGA.out))
      have HU4 := Lib.hid hown4
      have HH4 := Lib.hid hh4
      obtain ⟨k0, k1, k2, k3, k4, k5, k6, k7⟩ := cells8 HD4.out
      have f3 := frozen_of_row _ _ 3 _ _ HD4.out
      have f5 := frozen_of_row _ _ 5 _ _ HD4.out
      obtain ⟨w5, hw5⟩ : ∃ x, x = (w4.setCell ⟨w3.heap.size, 3, none⟩ (.slice A4 L4 C4)).setCell ⟨w3.heap.size, 5, none⟩ (.bool h4) := ⟨_, rfl⟩
      have HD5 : Hid (w5.heap[w3.heap.size]? = some (.cells #[.int .i64 C, .int .i64 S, .string ⟨#[]⟩, .slice A4 L4 C4, .slice none 0 0, .bool h4, .bool false, .slice none 0 0] 36 (0, 0))) := by
        show _ = _
        rw [hw5]
        exact heap_setCell_same _ _ 5 _ _ _ (heap_setCell_same _ _ 3 _ _ _ HD4.out)
      have HG5 : Hid (Gr w3 w5) := by
        show Below _ _ _
        rw [hw5]
        exact Below.setCell (Below.setCell HG4.out (Nat.le_refl _) _) (Nat.le_refl _) _
      have HU5 : Hid (OwnB w5 (w3.heap.size + 1) 5 (.slice A4 L4 C4) (findL ts 259)) := by
        show OwnB _ _ _ _ _
        rw [hw5]
        exact ownsRow_setCell_below (ownsRow_setCell_below HU4.out (Nat.lt_succ_self _) _) (Nat.lt_succ_self _) _
      have F2 := Lib.hid (find_any a1 n c1 ts 272 w5 (HTR3.out.below HG5.out) (by omega) HSM.out)
      have HW5 := Lib.hid hw5
      clear hown4 hb4 hh4 F1 HDa HGA HSZA q0 q1 q2 hw5
      go_wp2_with fail
      rw [← HW5.out]
      clear HW5 k0 k1 k2 k3 k4 k5 k6 k7 f3 f5 HD4 HG4 HU4
      refine F2.out.mono ?_
      rintro e w6 ⟨v6, rfl, hown6, hb6⟩
      have hsz5 : w3.heap.size + 1 ≤ w5.heap.size := (Array.getElem?_eq_some_iff.1 HD5.out).1
      obtain ⟨A6, L6, C6, ev, _, _, _⟩ := hown6.bs.sl
      subst ev
      obtain ⟨h6, hh6⟩ : ∃ x, x = (findT ts 272).isSome := ⟨_, rfl⟩
      rw [← hh6]
      have HD6 := Lib.hid (heap_below HD5.out hb6)
      have HG6 : Hid (Gr w3 w6) := Below.trans HG5.out (Below.mono hb6 (Below.size HG5.out))
      have HU6 := Lib.hid (HU5.out.below hb6)
      have HR6 := Lib.hid (hown6.mono hsz5)
      have HH6 := Lib.hid hh6
      obtain ⟨k0, k1, k2, k3, k4, k5, k6, k7⟩ := cells8 HD6.out
      have f4 := frozen_of_row _ _ 4 _ _ HD6.out
      have f6 := frozen_of_row _ _ 6 _ _ HD6.out
      obtain ⟨w7, hw7⟩ : ∃ x, x = (w6.setCell ⟨w3.heap.size, 4, none⟩ (.slice A6 L6 C6)).setCell ⟨w3.heap.size, 6, none⟩ (.bool h6) := ⟨_, rfl⟩
      have HD7 : Hid (w7.heap[w3.heap.size]? = some (.cells #[.int .i64 C, .int .i64 S, .string ⟨#[]⟩, .slice A4 L4 C4, .slice A6 L6 C6, .bool h4, .bool h6, .slice none 0 0] 36 (0, 0))) := by
        show _ = _
        rw [hw7]
        exact heap_setCell_same _ _ 6 _ _ _ (heap_setCell_same _ _ 4 _ _ _ HD6.out)
      have HG7 : Hid (Gr w3 w7) := by
        show Below _ _ _
        rw [hw7]
        exact Below.setCell (Below.setCell HG6.out (Nat.le_refl _) _) (Nat.le_refl _) _
      have HU7 : Hid (OwnB w7 (w3.heap.size + 1) 5 (.slice A4 L4 C4) (findL ts 259)) := by
        show OwnB _ _ _ _ _
        rw [hw7]
        exact ownsRow_setCell_below (ownsRow_setCell_below HU6.out (Nat.lt_succ_self _) _) (Nat.lt_succ_self _) _
      have HR7 : Hid (OwnB w7 (w3.heap.size + 1) 5 (.slice A6 L6 C6) (findL ts 272)) := by
        show OwnB _ _ _ _ _
        rw [hw7]
        exact ownsRow_setCell_below (ownsRow_setCell_below HR6.out (Nat.lt_succ_self _) _) (Nat.lt_succ_self _) _
      have HW7 := Lib.hid hw7
      have hgp := heap_below HGP3.out HG6.out
      have q0 : w6.cell? ⟨w.heap.size, 0, none⟩ = some (.int .i64 C) := (cells3 hgp).1
      have HGP7 := Lib.hid (heap_below HGP3.out HG7.out)
      have HTR7 := Lib.hid (HTR3.out.below HG7.out)
      have hneq : w.heap.size ≠ w3.heap.size := by omega
      clear hown6 hb6 hh6 F2 hw7 hgp HD5 HG5 HU5 hsz5
      rcases HCO.out with hC | hC | hC
      · obtain rfl : C = 9 := hC
        have SV := Lib.hid (service_any a1 n c1 ts w7 HTR7.out (by omega) HSM.out)
        go_wp2_with fail
        rw [← HW7.out]
        clear HW7 k0 k1 k2 k3 k4 k5 k6 k7 f4 f6 q0 HD6 HG6 HU6 HR6
        refine SV.out.mono ?_
        rintro e w8 ⟨rfl, hb8⟩
        obtain ⟨X, hX⟩ : ∃ X : ByteArray, X = ⟨(findL ts 257).toArray⟩ := ⟨_, rfl⟩
        rw [← hX]
        have HX := Lib.hid hX
        have HD8 := Lib.hid (heap_below HD7.out hb8)
        have HG8 : Hid (Gr w3 w8) := Below.trans HG7.out (Below.mono hb8 (Below.size HG7.out))
        have HU8 := Lib.hid (HU7.out.below hb8)
        have HR8 := Lib.hid (HR7.out.below hb8)
        have f2 := frozen_of_row _ _ 2 _ _ HD8.out
        have HD9 : Hid ((w8.setCell ⟨w3.heap.size, 2, none⟩ (.string X)).heap[w3.heap.size]? = some (.cells #[.int .i64 9, .int .i64 S, .string X, .slice A4 L4 C4, .slice A6 L6 C6, .bool h4, .bool h6, .slice none 0 0] 36 (0, 0))) := heap_setCell_same _ _ 2 _ _ _ HD8.out
        have HG9 : Hid (Gr w3 (w8.setCell ⟨w3.heap.size, 2, none⟩ (.string X))) := Below.setCell HG8.out (Nat.le_refl _) _
        have HU9 : Hid (OwnB (w8.setCell ⟨w3.heap.size, 2, none⟩ (.string X)) (w3.heap.size + 1) 5 (.slice A4 L4 C4) (findL ts 259)) := ownsRow_setCell_below HU8.out (Nat.lt_succ_self _) _
        have HR9 : Hid (OwnB (w8.setCell ⟨w3.heap.size, 2, none⟩ (.string X)) (w3.heap.size + 1) 5 (.slice A6 L6 C6) (findL ts 272)) := ownsRow_setCell_below HR8.out (Nat.lt_succ_self _) _
        have HB9 : Hid (Below w.heap.size w (w8.setCell ⟨w3.heap.size, 2, none⟩ (.string X))) := HB3.out.trans (Below.mono HG9.out HB3.out.size)
        have g2 := (cells8 HD8.out).2.2.1
        clear hb8 SV hX
        have HGR9 : Hid ((w8.setCell ⟨w3.heap.size, 2, none⟩ (.string X)).heap[w.heap.size + 1]? = some (.cells #[.int .i64 0, .int .i64 0, .string ⟨#[]⟩, .slice none 0 0, .slice none 0 0, .bool false, .bool false, .slice none 0 0] 36 (0, 0))) := by
          show _ = _
          exact heap_below HGR3.out HG9.out
        obtain ⟨k0, k1, k2, k3, k4, k5, k6, k7⟩ := cells8 HD9.out
        go_wp2_with (with_reducible refine wpList_store_whole rfl 36 (.tmp 2) (.tmp 61) rfl (w.heap.size + 1) [.int .i64 9, .int .i64 S, .string X, .slice A4 L4 C4, .slice A6 L6 C6, .bool h4, .bool h6, .slice none 0 0] rfl rfl 36 [.int .i64 0, .int .i64 0, .string ⟨#[]⟩, .slice none 0 0, .slice none 0 0, .bool false, .bool false, .slice none 0 0] HGR9.out ?s1 rfl ?s2 ?_)
        case s1 => kernel_rfl
        case s2 => exact one8 ⟨rfl, rfl, rfl, rfl, rfl, rfl, rfl, rfl⟩
        intro wz hz hoz
        have HBz := Lib.hid (hoz.below _ _ (Nat.le_succ _) HB9.out)
        have HZZ := Lib.hid hz
        have hlt9 : w.heap.size + 1 < w3.heap.size + 1 := by omega
        have HUz : Hid (OwnB wz w.heap.size 5 (.slice A4 L4 C4) (findL ts 259)) := (HU9.out.only hoz hlt9).mono (by omega)
        have HRz : Hid (OwnB wz w.heap.size 5 (.slice A6 L6 C6) (findL ts 272)) := (HR9.out.only hoz hlt9).mono (by omega)
        clear hz hoz k0 k1 k2 k3 k4 k5 k6 k7
        go_wp2
        refine bodyPost_ret (v := .tuple #[.agg #[.int .i64 9, .int .i64 S, .string X, .slice A4 L4 C4, .slice A6 L6 C6, .bool h4, .bool h6, .slice none 0 0], .int .i64 0]) (results_cell_tmp_row (P := Try.prog) (fn := Try.f26) rfl _ _ (w.heap.size + 1) 36 _ (0, 0) _ rfl HZZ.out Try.underlying36 rfl (by kernel_rfl)) rfl ?_
        refine CliR.some ⟨9, S, X, A4, L4, C4, findL ts 259, A6, L6, C6, findL ts 272, h4, h6, none, 0, 0, []⟩ ?_ ?_ HBz.out
        · rw [cliP_yes (p := ⟨_, S, l⟩) (N := N) HD.out HNL.out HA.out, ← HH4.out, ← HH6.out]
          rw [HX.out]
          rfl
        · exact ⟨HUz.out, HRz.out, OwnB.nil _ _ _, fun _ _ h => by cases h⟩
      · obtain rfl : C = 25 := hC
        have F3 := Lib.hid (find_any a1 n c1 ts 260 w7 HTR7.out (by omega) HSM.out)
        go_wp2_with fail
        rw [← HW7.out]
        clear HW7 k0 k1 k2 k3 k4 k5 k6 k7 f4 f6 q0 HD6 HG6 HU6 HR6
        refine F3.out.mono ?_
        rintro e wa ⟨va, rfl, howna, hba⟩
        have hsz7 : w3.heap.size + 1 ≤ w7.heap.size := (Array.getElem?_eq_some_iff.1 HD7.out).1
        obtain ⟨Aa, La, Ca, ev, _, _, _⟩ := howna.bs.sl
        subst ev
        have HNE : Hid (∀ g, (Value.slice A4 L4 C4).ownBlock = some g → (Value.slice Aa La Ca).ownBlock ≠ some g) := fun g h1 h2 => by
          have g1 := World.ownsRow.lt HU7.out g h1
          have g2 := World.ownsRow.lt howna g h2
          omega
        have HDa := Lib.hid (heap_below HD7.out hba)
        have HGa : Hid (Gr w3 wa) := Below.trans HG7.out (Below.mono hba (Below.size HG7.out))
        have HUa := Lib.hid (HU7.out.below hba)
        have HRa := Lib.hid (HR7.out.below hba)
        have HKa := Lib.hid (howna.mono hsz7)
        have f7 := frozen_of_row _ _ 7 _ _ HDa.out
        have g7 := (cells8 HDa.out).2.2.2.2.2.2.2
        obtain ⟨wb, hwb⟩ : ∃ x, x = wa.setCell ⟨w3.heap.size, 7, none⟩ (.slice Aa La Ca) := ⟨_, rfl⟩
        have HDb : Hid (wb.heap[w3.heap.size]? = some (.cells #[.int .i64 25, .int .i64 S, .string ⟨#[]⟩, .slice A4 L4 C4, .slice A6 L6 C6, .bool h4, .bool h6, .slice Aa La Ca] 36 (0, 0))) := by
          show _ = _
          rw [hwb]
          exact heap_setCell_same _ _ 7 _ _ _ HDa.out
        have HGb : Hid (Gr w3 wb) := by
          show Below _ _ _
          rw [hwb]
          exact Below.setCell HGa.out (Nat.le_refl _) _
        have HUb : Hid (OwnB wb (w3.heap.size + 1) 5 (.slice A4 L4 C4) (findL ts 259)) := by
          show OwnB _ _ _ _ _
          rw [hwb]
          exact ownsRow_setCell_below HUa.out (Nat.lt_succ_self _) _
        have HRb : Hid (OwnB wb (w3.heap.size + 1) 5 (.slice A6 L6 C6) (findL ts 272)) := by
          show OwnB _ _ _ _ _
          rw [hwb]
          exact ownsRow_setCell_below HRa.out (Nat.lt_succ_self _) _
        have HKb : Hid (OwnB wb (w3.heap.size + 1) 5 (.slice Aa La Ca) (findL ts 260)) := by
          show OwnB _ _ _ _ _
          rw [hwb]
          exact ownsRow_setCell_below HKa.out (Nat.lt_succ_self _) _
        have SV := Lib.hid (service_any a1 n c1 ts wb (HTR3.out.below HGb.out) (by omega) HSM.out)
        have HWb := Lib.hid hwb
        clear F3 howna hba hsz7 hwb
        go_wp2_with fail
        rw [← HWb.out]
        clear HWb f7 g7 HDa HGa HUa HRa HKa
        refine SV.out.mono ?_
        rintro e w8 ⟨rfl, hb8⟩
        obtain ⟨X, hX⟩ : ∃ X : ByteArray, X = ⟨(findL ts 257).toArray⟩ := ⟨_, rfl⟩
        rw [← hX]
        have HX := Lib.hid hX
        have HD8 := Lib.hid (heap_below HDb.out hb8)
        have HG8 : Hid (Gr w3 w8) := Below.trans HGb.out (Below.mono hb8 (Below.size HGb.out))
        have HU8 := Lib.hid (HUb.out.below hb8)
        have HR8 := Lib.hid (HRb.out.below hb8)
        have HK8 := Lib.hid (HKb.out.below hb8)
        have f2 := frozen_of_row _ _ 2 _ _ HD8.out
        have HD9 : Hid ((w8.setCell ⟨w3.heap.size, 2, none⟩ (.string X)).heap[w3.heap.size]? = some (.cells #[.int .i64 25, .int .i64 S, .string X, .slice A4 L4 C4, .slice A6 L6 C6, .bool h4, .bool h6, .slice Aa La Ca] 36 (0, 0))) := heap_setCell_same _ _ 2 _ _ _ HD8.out
        have HG9 : Hid (Gr w3 (w8.setCell ⟨w3.heap.size, 2, none⟩ (.string X))) := Below.setCell HG8.out (Nat.le_refl _) _
        have HU9 : Hid (OwnB (w8.setCell ⟨w3.heap.size, 2, none⟩ (.string X)) (w3.heap.size + 1) 5 (.slice A4 L4 C4) (findL ts 259)) := ownsRow_setCell_below HU8.out (Nat.lt_succ_self _) _
        have HR9 : Hid (OwnB (w8.setCell ⟨w3.heap.size, 2, none⟩ (.string X)) (w3.heap.size + 1) 5 (.slice A6 L6 C6) (findL ts 272)) := ownsRow_setCell_below HR8.out (Nat.lt_succ_self _) _
        have HK9 : Hid (OwnB (w8.setCell ⟨w3.heap.size, 2, none⟩ (.string X)) (w3.heap.size + 1) 5 (.slice Aa La Ca) (findL ts 260)) := ownsRow_setCell_below HK8.out (Nat.lt_succ_self _) _
        have HB9 : Hid (Below w.heap.size w (w8.setCell ⟨w3.heap.size, 2, none⟩ (.string X))) := HB3.out.trans (Below.mono HG9.out HB3.out.size)
        have g2 := (cells8 HD8.out).2.2.1
        clear hb8 SV hX
        have HGR9 : Hid ((w8.setCell ⟨w3.heap.size, 2, none⟩ (.string X)).heap[w.heap.size + 1]? = some (.cells #[.int .i64 0, .int .i64 0, .string ⟨#[]⟩, .slice none 0 0, .slice none 0 0, .bool false, .bool false, .slice none 0 0] 36 (0, 0))) := by
          show _ = _
          exact heap_below HGR3.out HG9.out
        obtain ⟨k0, k1, k2, k3, k4, k5, k6, k7⟩ := cells8 HD9.out
        go_wp2_with (with_reducible refine wpList_store_whole rfl 36 (.tmp 2) (.tmp 61) rfl (w.heap.size + 1) [.int .i64 25, .int .i64 S, .string X, .slice A4 L4 C4, .slice A6 L6 C6, .bool h4, .bool h6, .slice Aa La Ca] rfl rfl 36 [.int .i64 0, .int .i64 0, .string ⟨#[]⟩, .slice none 0 0, .slice none 0 0, .bool false, .bool false, .slice none 0 0] HGR9.out ?s1 rfl ?s2 ?_)
        case s1 => kernel_rfl
        case s2 => exact one8 ⟨rfl, rfl, rfl, rfl, rfl, rfl, rfl, rfl⟩
        intro wz hz hoz
        have HBz := Lib.hid (hoz.below _ _ (Nat.le_succ _) HB9.out)
        have HZZ := Lib.hid hz
        have hlt9 : w.heap.size + 1 < w3.heap.size + 1 := by omega
        have HUz : Hid (OwnB wz w.heap.size 5 (.slice A4 L4 C4) (findL ts 259)) := (HU9.out.only hoz hlt9).mono (by omega)
        have HRz : Hid (OwnB wz w.heap.size 5 (.slice A6 L6 C6) (findL ts 272)) := (HR9.out.only hoz hlt9).mono (by omega)
        have HKz : Hid (OwnB wz w.heap.size 5 (.slice Aa La Ca) (findL ts 260)) := (HK9.out.only hoz hlt9).mono (by omega)
        clear hz hoz k0 k1 k2 k3 k4 k5 k6 k7
        go_wp2
        refine bodyPost_ret (v := .tuple #[.agg #[.int .i64 25, .int .i64 S, .string X, .slice A4 L4 C4, .slice A6 L6 C6, .bool h4, .bool h6, .slice Aa La Ca], .int .i64 0]) (results_cell_tmp_row (P := Try.prog) (fn := Try.f26) rfl _ _ (w.heap.size + 1) 36 _ (0, 0) _ rfl HZZ.out Try.underlying36 rfl (by kernel_rfl)) rfl ?_
        refine CliR.some ⟨25, S, X, A4, L4, C4, findL ts 259, A6, L6, C6, findL ts 272, h4, h6, Aa, La, Ca, findL ts 260⟩ ?_ ?_ HBz.out
        · rw [cliP_yes (p := ⟨_, S, l⟩) (N := N) HD.out HNL.out HA.out, ← HH4.out, ← HH6.out]
          rw [HX.out]
          rfl
        · exact ⟨HUz.out, HRz.out, HKz.out, HNE.out⟩
      · obtain rfl : C = 167 := hC
        have HD9 : Hid (((w6.setCell ⟨w3.heap.size, 4, none⟩ (.slice A6 L6 C6)).setCell ⟨w3.heap.size, 6, none⟩ (.bool h6)).heap[w3.heap.size]? = some (.cells #[.int .i64 167, .int .i64 S, .string ⟨#[]⟩, .slice A4 L4 C4, .slice A6 L6 C6, .bool h4, .bool h6, .slice none 0 0] 36 (0, 0))) := by
          have := HD7.out
          rwa [HW7.out] at this
        have HG9 : Hid (Gr w3 ((w6.setCell ⟨w3.heap.size, 4, none⟩ (.slice A6 L6 C6)).setCell ⟨w3.heap.size, 6, none⟩ (.bool h6))) := by
          have := HG7.out
          rwa [HW7.out] at this
        have HU9 : Hid (OwnB ((w6.setCell ⟨w3.heap.size, 4, none⟩ (.slice A6 L6 C6)).setCell ⟨w3.heap.size, 6, none⟩ (.bool h6)) (w3.heap.size + 1) 5 (.slice A4 L4 C4) (findL ts 259)) := by
          have := HU7.out
          rwa [HW7.out] at this
        have HR9 : Hid (OwnB ((w6.setCell ⟨w3.heap.size, 4, none⟩ (.slice A6 L6 C6)).setCell ⟨w3.heap.size, 6, none⟩ (.bool h6)) (w3.heap.size + 1) 5 (.slice A6 L6 C6) (findL ts 272)) := by
          have := HR7.out
          rwa [HW7.out] at this
        have HB9 : Hid (Below w.heap.size w ((w6.setCell ⟨w3.heap.size, 4, none⟩ (.slice A6 L6 C6)).setCell ⟨w3.heap.size, 6, none⟩ (.bool h6))) := HB3.out.trans (Below.mono HG9.out HB3.out.size)
        have HGR9 : Hid (((w6.setCell ⟨w3.heap.size, 4, none⟩ (.slice A6 L6 C6)).setCell ⟨w3.heap.size, 6, none⟩ (.bool h6)).heap[w.heap.size + 1]? = some (.cells #[.int .i64 0, .int .i64 0, .string ⟨#[]⟩, .slice none 0 0, .slice none 0 0, .bool false, .bool false, .slice none 0 0] 36 (0, 0))) := by
          show _ = _
          exact heap_below HGR3.out HG9.out
        obtain ⟨g0, g1, g2, g3, g4, g5, g6, g7⟩ := cells8 HD9.out
        go_wp2_with (with_reducible refine wpList_store_whole rfl 36 (.tmp 2) (.tmp 61) rfl (w.heap.size + 1) [.int .i64 167, .int .i64 S, .string ⟨#[]⟩, .slice A4 L4 C4, .slice A6 L6 C6, .bool h4, .bool h6, .slice none 0 0] rfl rfl 36 [.int .i64 0, .int .i64 0, .string ⟨#[]⟩, .slice none 0 0, .slice none 0 0, .bool false, .bool false, .slice none 0 0] HGR9.out ?s1 rfl ?s2 ?_)
        case s1 => kernel_rfl
        case s2 => exact one8 ⟨rfl, rfl, rfl, rfl, rfl, rfl, rfl, rfl⟩
        intro wz hz hoz
        have HBz := Lib.hid (hoz.below _ _ (Nat.le_succ _) HB9.out)
        have HZZ := Lib.hid hz
        have hlt9 : w.heap.size + 1 < w3.heap.size + 1 := by omega
        have HUz : Hid (OwnB wz w.heap.size 5 (.slice A4 L4 C4) (findL ts 259)) := (HU9.out.only hoz hlt9).mono (by omega)
        have HRz : Hid (OwnB wz w.heap.size 5 (.slice A6 L6 C6) (findL ts 272)) := (HR9.out.only hoz hlt9).mono (by omega)
        clear hz hoz k0 k1 k2 k3 k4 k5 k6 k7
        go_wp2
        refine bodyPost_ret (v := .tuple #[.agg #[.int .i64 167, .int .i64 S, .string ⟨#[]⟩, .slice A4 L4 C4, .slice A6 L6 C6, .bool h4, .bool h6, .slice none 0 0], .int .i64 0]) (results_cell_tmp_row (P := Try.prog) (fn := Try.f26) rfl _ _ (w.heap.size + 1) 36 _ (0, 0) _ rfl HZZ.out Try.underlying36 rfl (by kernel_rfl)) rfl ?_
        refine CliR.some ⟨167, S, ⟨#[]⟩, A4, L4, C4, findL ts 259, A6, L6, C6, findL ts 272, h4, h6, none, 0, 0, []⟩ ?_ ?_ HBz.out
        · rw [cliP_yes (p := ⟨_, S, l⟩) (N := N) HD.out HNL.out HA.out, ← HH4.out, ← HH6.out]
          rfl
        · exact ⟨HUz.out, HRz.out, OwnB.nil _ _ _, fun _ _ h => by cases h⟩
    · have HP : Hid (cliP ⟨C, S, l⟩ = (DD.zero, 61)) := cliP_no fun h => hA (by have h2 := h.2; rw [HD.out, ← HNL.out] at h2; exact h2)
      rw [eq_false_of_ne_true hA]
      clear hA
      go_wp2_with (with_reducible refine wpList_store_whole rfl 36 (.tmp 2) (.tmp 23) rfl (w.heap.size + 1) [.int .i64 0, .int .i64 0, .string ⟨#[]⟩, .slice none 0 0, .slice none 0 0, .bool false, .bool false, .slice none 0 0] rfl rfl 36 [.int .i64 0, .int .i64 0, .string ⟨#[]⟩, .slice none 0 0, .slice none 0 0, .bool false, .bool false, .slice none 0 0] HGR3.out ?s1 rfl ?s2 ?_)
      case s1 => kernel_rfl
      case s2 => exact one8 ⟨rfl, rfl, rfl, rfl, rfl, rfl, rfl, rfl⟩
      intro wz hz hoz
      have HBz := Lib.hid (hoz.below _ _ (Nat.le_succ _) HB3.out)
      have HZZ := Lib.hid hz
      clear hz hoz
      go_wp2
      refine bodyPost_ret (v := .tuple #[.agg #[.int .i64 0, .int .i64 0, .string ⟨#[]⟩, .slice none 0 0, .slice none 0 0, .bool false, .bool false, .slice none 0 0], .int .i64 61]) (results_cell_tmp_row (P := Try.prog) (fn := Try.f26) rfl _ _ (w.heap.size + 1) 36 _ (0, 0) _ rfl HZZ.out Try.underlying36 rfl (by kernel_rfl)) rfl ?_
      exact CliR.none HP.out HBz.out
  · have HP : Hid (cliP ⟨C, S, l⟩ = (DD.zero, 61)) := cliP_no fun h => hk0 (by have h1 := h.1; rw [HD.out] at h1; exact h1)
    have hkb : (k != 0) = true := by rw [bne_iff_ne]; exact hk0
    have HGRD : Hid (w1.drew.heap[w.heap.size + 1]? = some (.cells #[.int .i64 0, .int .i64 0, .string ⟨#[]⟩, .slice none 0 0, .slice none 0 0, .bool false, .bool false, .slice none 0 0] 36 (0, 0))) := HGR1.out
    have HBD : Hid (Below w.heap.size w w1.drew) := HB1.out.drew
    clear k0 k1 k2
    go_wp2_with fail
    refine wp_region_G 10 Gr (by kernel_rfl) ?_
    -- 0: slot 13
    refine wpG_take preGr (i := 0) (v := ?_) (by kernel_rfl) (some 13) (by kernel_rfl) rfl (by kernel_rfl) (by kernel_rfl) (by kernel_rfl) (fun _ _ _ h => h) (by rfl) (fun w' hw' => ?_) rfl ?_
    rotate_left
    · go_simp
      with_reducible rfl
    simp only [Act.put, List.setIfInBounds_toArray, List.set_cons_zero, List.set_cons_succ]
    -- 1: slot 14
    refine wpG_take preGr (i := 1) (v := ?_) (by kernel_rfl) (some 14) (by kernel_rfl) rfl (by kernel_rfl) (by kernel_rfl) (by kernel_rfl) (fun _ _ _ h => h) (by rfl) (fun w' hw' => ?_) rfl ?_
    rotate_left
    · go_simp
      with_reducible rfl
    simp only [Act.put, List.setIfInBounds_toArray, List.set_cons_zero, List.set_cons_succ]
    -- 2: slot 15
    refine wpG_take preGr (i := 2) (v := ?_) (by kernel_rfl) (some 15) (by kernel_rfl) rfl (by kernel_rfl) (by kernel_rfl) (by kernel_rfl) (fun _ _ _ h => h) (by rfl) (fun w' hw' => ?_) rfl ?_
    rotate_left
    · go_simp
      with_reducible rfl
    simp only [Act.put, List.setIfInBounds_toArray, List.set_cons_zero, List.set_cons_succ]
    refine wpG_pass preGr (i := 3) (by kernel_rfl) (some 16) (by kernel_rfl) rfl (by kernel_rfl) (by kernel_rfl) (by kernel_rfl) (fun _ _ _ h => h) (by rfl) rfl ?_
    simp only [Act.put, List.setIfInBounds_toArray, List.set_cons_zero, List.set_cons_succ]
    refine wpG_pass preGr (i := 4) (by kernel_rfl) (some 17) (by kernel_rfl) rfl (by kernel_rfl) (by kernel_rfl) (by kernel_rfl) (fun _ _ _ h => h) (by rfl) rfl ?_
    simp only [Act.put, List.setIfInBounds_toArray, List.set_cons_zero, List.set_cons_succ]
    refine wpG_pass preGr (i := 5) (by kernel_rfl) (some 18) (by kernel_rfl) rfl (by kernel_rfl) (by kernel_rfl) (by kernel_rfl) (fun _ _ _ h => h) (by rfl) rfl ?_
    simp only [Act.put, List.setIfInBounds_toArray, List.set_cons_zero, List.set_cons_succ]
    refine wpG_pass preGr (i := 6) (by kernel_rfl) (some 19) (by kernel_rfl) rfl (by kernel_rfl) (by kernel_rfl) (by kernel_rfl) (fun _ _ _ h => h) (by rfl) rfl ?_
    simp only [Act.put, List.setIfInBounds_toArray, List.set_cons_zero, List.set_cons_succ]
    refine wpG_pass preGr (i := 7) (by kernel_rfl) (some 20) (by kernel_rfl) rfl (by kernel_rfl) (by kernel_rfl) (by kernel_rfl) (fun _ _ _ h => h) (by rfl) rfl ?_
    simp only [Act.put, List.setIfInBounds_toArray, List.set_cons_zero, List.set_cons_succ]
    refine wpG_pass preGr (i := 8) (by kernel_rfl) (some 21) (by kernel_rfl) rfl (by kernel_rfl) (by kernel_rfl) (by kernel_rfl) (fun _ _ _ h => h) (by rfl) rfl ?_
    simp only [Act.put, List.setIfInBounds_toArray, List.set_cons_zero, List.set_cons_succ]
    -- 9: slot 22
    refine wpG_take preGr (i := 9) (v := ?_) (by kernel_rfl) (some 22) (by kernel_rfl) rfl (by kernel_rfl) (by kernel_rfl) (by kernel_rfl) (fun _ _ _ h => h) (by rfl) (fun w' hw' => ?_) rfl ?_
    rotate_left
    · go_simp
      with_reducible rfl
    simp only [Act.put, List.setIfInBounds_toArray, List.set_cons_zero, List.set_cons_succ]
    refine wpG_done (by kernel_rfl) ?_ _
    go_wp2_with (with_reducible refine wpList_store_whole rfl 36 (.tmp 2) (.tmp 23) rfl (w.heap.size + 1) [.int .i64 0, .int .i64 0, .string ⟨#[]⟩, .slice none 0 0, .slice none 0 0, .bool false, .bool false, .slice none 0 0] rfl rfl 36 [.int .i64 0, .int .i64 0, .string ⟨#[]⟩, .slice none 0 0, .slice none 0 0, .bool false, .bool false, .slice none 0 0] HGRD.out ?s1 rfl ?s2 ?_)
    case s1 => kernel_rfl
    case s2 => exact one8 ⟨rfl, rfl, rfl, rfl, rfl, rfl, rfl, rfl⟩
    intro wz hz hoz
    have HBz := Lib.hid (hoz.below _ _ (Nat.le_succ _) HBD.out)
    have HZZ := Lib.hid hz
    clear hz hoz
    go_wp2
    refine bodyPost_ret (v := .tuple #[.agg #[.int .i64 0, .int .i64 0, .string ⟨#[]⟩, .slice none 0 0, .slice none 0 0, .bool false, .bool false, .slice none 0 0], .int .i64 61]) (results_cell_tmp_row (P := Try.prog) (fn := Try.f26) rfl _ _ (w.heap.size + 1) 36 _ (0, 0) _ rfl HZZ.out Try.underlying36 rfl (by kernel_rfl)) rfl ?_
    exact CliR.none HP.out HBz.out
end Go.Proofs.Ytcpeglljcipcbaa
