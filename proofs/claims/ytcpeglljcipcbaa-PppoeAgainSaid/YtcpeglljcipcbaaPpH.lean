/-
  pppoe.Session, pppoe.Refuse, pppoe.Offer.
-/
import Derived.Test.YtcpeglljcipcbaaPpG
namespace Go.Proofs.Ytcpeglljcipcbaa
open Go.RowKit
set_option linter.unusedVariables false
set_option linter.unusedSimpArgs false

theorem heap4_0 (w : World) (a b c e : Obj) : ((((w.alloc a).alloc b).alloc c).alloc e).heap[w.heap.size]? = some a := by
  rw [Below.heap_alloc _ _ _ (by simp; omega), Below.heap_alloc _ _ _ (by simp; omega), Below.heap_alloc _ _ _ (by simp), heap_alloc_last]
theorem heap4_1 (w : World) (a b c e : Obj) : ((((w.alloc a).alloc b).alloc c).alloc e).heap[w.heap.size + 1]? = some b := by
  rw [Below.heap_alloc _ _ _ (by simp), Below.heap_alloc _ _ _ (by simp)]; exact heap2_1' _ _ _
theorem heap4_2 (w : World) (a b c e : Obj) : ((((w.alloc a).alloc b).alloc c).alloc e).heap[w.heap.size + 2]? = some c := by
  rw [Below.heap_alloc _ _ _ (by simp)]
  have := heap_alloc_last ((w.alloc a).alloc b) c
  rwa [World.size_alloc, World.size_alloc] at this
theorem heap4_3 (w : World) (a b c e : Obj) : ((((w.alloc a).alloc b).alloc c).alloc e).heap[w.heap.size + 3]? = some e := by
  have := heap_alloc_last (((w.alloc a).alloc b).alloc c) e
  rwa [World.size_alloc, World.size_alloc, World.size_alloc] at this
theorem heap5_0 (w : World) (a b c e f : Obj) : (((((w.alloc a).alloc b).alloc c).alloc e).alloc f).heap[w.heap.size]? = some a := by
  rw [Below.heap_alloc _ _ _ (by simp; omega)]; exact heap4_0 _ _ _ _ _
theorem heap5_1 (w : World) (a b c e f : Obj) : (((((w.alloc a).alloc b).alloc c).alloc e).alloc f).heap[w.heap.size + 1]? = some b := by
  rw [Below.heap_alloc _ _ _ (by simp)]; exact heap4_1 _ _ _ _ _
theorem heap5_2 (w : World) (a b c e f : Obj) : (((((w.alloc a).alloc b).alloc c).alloc e).alloc f).heap[w.heap.size + 2]? = some c := by
  rw [Below.heap_alloc _ _ _ (by simp)]; exact heap4_2 _ _ _ _ _
theorem heap5_3 (w : World) (a b c e f : Obj) : (((((w.alloc a).alloc b).alloc c).alloc e).alloc f).heap[w.heap.size + 3]? = some e := by
  rw [Below.heap_alloc _ _ _ (by simp)]; exact heap4_3 _ _ _ _ _
theorem heap5_4 (w : World) (a b c e f : Obj) : (((((w.alloc a).alloc b).alloc c).alloc e).alloc f).heap[w.heap.size + 4]? = some f := by
  have := heap_alloc_last ((((w.alloc a).alloc b).alloc c).alloc e) f
  rwa [World.size_alloc, World.size_alloc, World.size_alloc, World.size_alloc] at this
/-- A packet that came out of a call, stored into a block of its own. -/
theorem PRes.kept {r : PP × Int} {w w1 w2 : World} {g : Nat} {A : Option Addr} {L C : Nat} (ho : OwnB w2 w1.heap.size 5 (.slice A L C) r.1.l) (hb : Below w.heap.size w w2) (h0 : w.heap.size ≤ g) (h1 : g < w1.heap.size) (hw : w.heap.size ≤ w1.heap.size) :
    PRes r w (.returned (.tuple #[.agg #[.int .i64 r.1.c, .int .i64 r.1.s, .slice A L C], .int .i64 r.2])) (((w2.setCell ⟨g, 0, Option.none⟩ (.int .i64 r.1.c)).setCell ⟨g, 1, Option.none⟩ (.int .i64 r.1.s)).setCell ⟨g, 2, Option.none⟩ (.slice A L C)) :=
  ⟨A, L, C, rfl, (own_set3 ho h1 _ _ _).mono hw, ((hb.setCell h0 _).setCell h0 _).setCell h0 _⟩

set_option maxHeartbeats 2000000 in
theorem session_any (d : Dm) (id : Int) (w : World) (hd : DOk w d) (hs : DShort d) : Calls Try.prog 20 #[.agg #[.int .i64 d.c, .int .i64 d.s, .string d.v, .slice d.ua d.un d.uc, .slice d.ra d.rn d.rc, .bool d.hu, .bool d.hr, .slice d.ka d.kn d.kc], .int .i64 id] w (PRes (sessP d.plain id) w) := by
  have BA : Below w.heap.size w ((w.alloc (.cells #[.int .i64 d.c, .int .i64 d.s, .string d.v, .slice d.ua d.un d.uc, .slice d.ra d.rn d.rc, .bool d.hu, .bool d.hr, .slice d.ka d.kn d.kc] 36)).alloc (.cells #[.int .i64 0, .int .i64 0, .slice none 0 0] 24)) := ((Below.refl _ _).alloc (Nat.le_refl _) _).alloc (by simp) _
  have HBA := Lib.hid BA
  have HGD : Hid (((w.alloc (.cells #[.int .i64 d.c, .int .i64 d.s, .string d.v, .slice d.ua d.un d.uc, .slice d.ra d.rn d.rc, .bool d.hu, .bool d.hr, .slice d.ka d.kn d.kc] 36)).alloc (.cells #[.int .i64 0, .int .i64 0, .slice none 0 0] 24)).heap[w.heap.size]? = some (.cells #[.int .i64 d.c, .int .i64 d.s, .string d.v, .slice d.ua d.un d.uc, .slice d.ra d.rn d.rc, .bool d.hu, .bool d.hr, .slice d.ka d.kn d.kc] 36 (0, 0))) := heap2_0' _ _ _
  have HG0 : Hid (((w.alloc (.cells #[.int .i64 d.c, .int .i64 d.s, .string d.v, .slice d.ua d.un d.uc, .slice d.ra d.rn d.rc, .bool d.hu, .bool d.hr, .slice d.ka d.kn d.kc] 36)).alloc (.cells #[.int .i64 0, .int .i64 0, .slice none 0 0] 24)).heap[w.heap.size + 1]? = some (.cells #[.int .i64 0, .int .i64 0, .slice none 0 0] 24 (0, 0))) := heap2_1' _ _ _
  have HD := Lib.hid (hd.below BA)
  have HS := Lib.hid hs
  have hsz : ((w.alloc (.cells #[.int .i64 d.c, .int .i64 d.s, .string d.v, .slice d.ua d.un d.uc, .slice d.ra d.rn d.rc, .bool d.hu, .bool d.hr, .slice d.ka d.kn d.kc] 36)).alloc (.cells #[.int .i64 0, .int .i64 0, .slice none 0 0] 24)).heap.size = w.heap.size + 2 := by simp
  have HSZ := Lib.hid hsz
  clear hd hs BA hsz
  by_cases hc : d.c = 25
  · have MB := Lib.hid (mayBegin_any id ((w.alloc (.cells #[.int .i64 d.c, .int .i64 d.s, .string d.v, .slice d.ua d.un d.uc, .slice d.ra d.rn d.rc, .bool d.hu, .bool d.hr, .slice d.ka d.kn d.kc] 36)).alloc (.cells #[.int .i64 0, .int .i64 0, .slice none 0 0] 24)))
    have HC := Lib.hid hc
    have hcb : (d.c == 25) = true := by rw [hc]; rfl
    clear hc
    go_enter Try.func20, Try.ntmps20
    go_wp2_with fail
    generalize ((w.alloc (.cells #[.int .i64 d.c, .int .i64 d.s, .string d.v, .slice d.ua d.un d.uc, .slice d.ra d.rn d.rc, .bool d.hu, .bool d.hr, .slice d.ka d.kn d.kc] 36)).alloc (.cells #[.int .i64 0, .int .i64 0, .slice none 0 0] 24)) = w1 at HBA HGD HG0 HD HSZ MB ⊢
    refine MB.out.mono ?_
    rintro e w2 ⟨rfl, hb2⟩
    have HB2 := Lib.hid (HBA.out.trans (hb2.mono HBA.out.size))
    have HGD2 := Lib.hid (heap_below HGD.out hb2)
    have HG2 := Lib.hid (heap_below HG0.out hb2)
    have HD2 := Lib.hid (HD.out.below hb2)
    have hz2 : w.heap.size + 2 ≤ w2.heap.size := by rw [← HSZ.out]; exact hb2.size
    have HZ2 := Lib.hid hz2
    clear hb2 MB HBA HGD HG0 HD HSZ hz2
    by_cases h : 1 ≤ id ∧ id ≤ 65534
    · have HP : Hid (sessP d.plain id = packP 101 id ([((257 : Int), bl d.v)] ++ againL d.plain)) := by
        show _ = _
        unfold sessP
        rw [if_pos (by exact HC.out), if_pos h]
        rfl
      obtain ⟨r, hr⟩ : ∃ r, r = packP 101 id ([((257 : Int), bl d.v)] ++ againL d.plain) := ⟨_, rfl⟩
      rw [← hr] at HP
      have AN : Hid (Calls Try.prog 31 #[.int .i64 101, .int .i64 id, .func (.func 37) #[] #[.pointer (some ⟨w.heap.size, 0, none⟩)]] w2 (PRes r w2)) := by
       rw [hr]
       exact (answer_any 37 (fun _ _ => rfl) #[.pointer (some ⟨w.heap.size, 0, none⟩)] 101 id _ w2
        (fun w' g hp => tellS_any w2 w' g w.heap.size [] hp d HD2.out HGD2.out HS.out.v (by simp))
        (by have := againL_len d.plain; rw [List.length_append]; simp; omega)
        (short_again HS.out _ (by intro x hx; rw [List.mem_singleton.1 hx]; show (bl d.v).length ≤ 1600; rw [bl_length]; exact HS.out.v)))
      rw [show decide (1 ≤ id ∧ id ≤ 65534) = true from decide_eq_true h]
      clear h hr
      go_wp2_with fail
      refine AN.out.mono ?_
      rintro e w3 ⟨A3, L3, C3, rfl, hown3, hb3⟩
      have HB3 := Lib.hid (HB2.out.trans (hb3.mono HB2.out.size))
      have HG3 := Lib.hid (heap_below HG2.out hb3)
      have HO3 := Lib.hid hown3
      have HLT : Hid (w.heap.size + 1 < w2.heap.size) := by have := HZ2.out; show _ < _; omega
      clear hown3 hb3 AN
      obtain ⟨q0, q1, q2⟩ := cells3 HG3.out
      have f0 := frozen_of_row _ _ 0 _ _ HG3.out
      have f1 := frozen_of_row _ _ 1 _ _ HG3.out
      have f2 := frozen_of_row _ _ 2 _ _ HG3.out
      go_wp2
      refine bodyPost_ret (v := .tuple #[.agg #[.int .i64 r.1.c, .int .i64 r.1.s, .slice A3 L3 C3], .int .i64 r.2]) (results_cell_tmp_row (P := Try.prog) (fn := Try.f20) rfl _ _ (w.heap.size + 1) 24 _ (0, 0) _ rfl (set3 HG3.out _ _ _) Try.underlying24 rfl (by kernel_rfl)) rfl ?_
      rw [HP.out]
      exact PRes.kept HO3.out HB3.out (by omega) HLT.out HB2.out.size
    · have HP : Hid (sessP d.plain id = (PP.zero, 5)) := by
        show _ = _
        unfold sessP
        rw [if_pos (by exact HC.out), if_neg h]
      rw [show decide (1 ≤ id ∧ id ≤ 65534) = false from decide_eq_false h]
      obtain ⟨q0, q1, q2⟩ := cells3 HG2.out
      have f0 := frozen_of_row _ _ 0 _ _ HG2.out
      have f1 := frozen_of_row _ _ 1 _ _ HG2.out
      have f2 := frozen_of_row _ _ 2 _ _ HG2.out
      clear h
      go_wp2
      refine bodyPost_ret (v := .tuple #[.agg #[.int .i64 0, .int .i64 0, .slice none 0 0], .int .i64 5]) (results_cell_tmp_row (P := Try.prog) (fn := Try.f20) rfl _ _ (w.heap.size + 1) 24 _ (0, 0) _ rfl (set3 HG2.out _ _ _) Try.underlying24 rfl (by kernel_rfl)) rfl ?_
      exact PRes.none HP.out (((HB2.out.setCell (Nat.le_succ _) _).setCell (Nat.le_succ _) _).setCell (Nat.le_succ _) _)
  · have HP : Hid (sessP d.plain id = (PP.zero, 61)) := if_neg hc
    go_enter Try.func20, Try.ntmps20
    go_wp2
    refine bodyPost_ret (v := .tuple #[.agg #[.int .i64 0, .int .i64 0, .slice none 0 0], .int .i64 61]) (results_cell_tmp_row (P := Try.prog) (fn := Try.f20) rfl _ _ (w.heap.size + 1) 24 _ (0, 0) _ rfl HG0.out Try.underlying24 rfl (by kernel_rfl)) rfl ?_
    exact PRes.none HP.out HBA.out

set_option maxHeartbeats 2000000 in
theorem refuse_any (d : Dm) (T : Int) (y : ByteArray) (w : World) (hd : DOk w d) (hs : DShort d) (hy : y.size ≤ 1600) : Calls Try.prog 22 #[.agg #[.int .i64 d.c, .int .i64 d.s, .string d.v, .slice d.ua d.un d.uc, .slice d.ra d.rn d.rc, .bool d.hu, .bool d.hr, .slice d.ka d.kn d.kc], .int .i64 T, .string y] w (PRes (refP d.plain T y) w) := by
  have BA : Below w.heap.size w ((((w.alloc (.cells #[.int .i64 d.c, .int .i64 d.s, .string d.v, .slice d.ua d.un d.uc, .slice d.ra d.rn d.rc, .bool d.hu, .bool d.hr, .slice d.ka d.kn d.kc] 36)).alloc (.cells #[.int .i64 T] 3)).alloc (.cells #[.string y] 9)).alloc (.cells #[.int .i64 0, .int .i64 0, .slice none 0 0] 24)) := ((((Below.refl _ _).alloc (Nat.le_refl _) _).alloc (by simp) _).alloc (by simp; omega) _).alloc (by simp; omega) _
  have HBA := Lib.hid BA
  have HGD : Hid (((((w.alloc (.cells #[.int .i64 d.c, .int .i64 d.s, .string d.v, .slice d.ua d.un d.uc, .slice d.ra d.rn d.rc, .bool d.hu, .bool d.hr, .slice d.ka d.kn d.kc] 36)).alloc (.cells #[.int .i64 T] 3)).alloc (.cells #[.string y] 9)).alloc (.cells #[.int .i64 0, .int .i64 0, .slice none 0 0] 24)).heap[w.heap.size]? = some (.cells #[.int .i64 d.c, .int .i64 d.s, .string d.v, .slice d.ua d.un d.uc, .slice d.ra d.rn d.rc, .bool d.hu, .bool d.hr, .slice d.ka d.kn d.kc] 36 (0, 0))) := heap4_0 _ _ _ _ _
  have HGT : Hid (((((w.alloc (.cells #[.int .i64 d.c, .int .i64 d.s, .string d.v, .slice d.ua d.un d.uc, .slice d.ra d.rn d.rc, .bool d.hu, .bool d.hr, .slice d.ka d.kn d.kc] 36)).alloc (.cells #[.int .i64 T] 3)).alloc (.cells #[.string y] 9)).alloc (.cells #[.int .i64 0, .int .i64 0, .slice none 0 0] 24)).heap[w.heap.size + 1]? = some (.cells #[.int .i64 T] 3 (0, 0))) := heap4_1 _ _ _ _ _
  have HGY : Hid (((((w.alloc (.cells #[.int .i64 d.c, .int .i64 d.s, .string d.v, .slice d.ua d.un d.uc, .slice d.ra d.rn d.rc, .bool d.hu, .bool d.hr, .slice d.ka d.kn d.kc] 36)).alloc (.cells #[.int .i64 T] 3)).alloc (.cells #[.string y] 9)).alloc (.cells #[.int .i64 0, .int .i64 0, .slice none 0 0] 24)).heap[w.heap.size + 2]? = some (.cells #[.string y] 9 (0, 0))) := heap4_2 _ _ _ _ _
  have HG0 : Hid (((((w.alloc (.cells #[.int .i64 d.c, .int .i64 d.s, .string d.v, .slice d.ua d.un d.uc, .slice d.ra d.rn d.rc, .bool d.hu, .bool d.hr, .slice d.ka d.kn d.kc] 36)).alloc (.cells #[.int .i64 T] 3)).alloc (.cells #[.string y] 9)).alloc (.cells #[.int .i64 0, .int .i64 0, .slice none 0 0] 24)).heap[w.heap.size + 3]? = some (.cells #[.int .i64 0, .int .i64 0, .slice none 0 0] 24 (0, 0))) := heap4_3 _ _ _ _ _
  have HD := Lib.hid (hd.below BA)
  have HS := Lib.hid hs
  have hsz : ((((w.alloc (.cells #[.int .i64 d.c, .int .i64 d.s, .string d.v, .slice d.ua d.un d.uc, .slice d.ra d.rn d.rc, .bool d.hu, .bool d.hr, .slice d.ka d.kn d.kc] 36)).alloc (.cells #[.int .i64 T] 3)).alloc (.cells #[.string y] 9)).alloc (.cells #[.int .i64 0, .int .i64 0, .slice none 0 0] 24)).heap.size = w.heap.size + 4 := by simp
  have HSZ := Lib.hid hsz
  clear hd hs BA hsz
  by_cases hc : d.c = 25
  · have HC := Lib.hid hc
    have hcb : (d.c == 25) = true := by rw [hc]; rfl
    clear hc
    by_cases h : T = 513 ∨ T = 514 ∨ T = 515
    · have HP : Hid (refP d.plain T y = packP 101 0 ([(T, bl y)] ++ againL d.plain)) := by
        show _ = _
        unfold refP
        rw [if_pos (by exact HC.out), if_pos h]
      obtain ⟨b1, hb1⟩ : ∃ b, b = (T == 513) := ⟨_, rfl⟩
      obtain ⟨b2, hb2⟩ : ∃ b, b = (T == 514) := ⟨_, rfl⟩
      obtain ⟨b3, hb3⟩ : ∃ b, b = (T == 515) := ⟨_, rfl⟩
      have hbb : b1 = true ∨ (b1 = false ∧ b2 = true) ∨ (b1 = false ∧ b2 = false ∧ b3 = true) := by
        rw [hb1, hb2, hb3]
        by_cases g1 : T = 513
        · exact .inl (by rw [g1]; rfl)
        · have g1' : (T == 513) = false := by rw [beq_eq_false_iff_ne]; exact g1
          by_cases g2 : T = 514
          · exact .inr (.inl ⟨g1', by rw [g2]; rfl⟩)
          · have g2' : (T == 514) = false := by rw [beq_eq_false_iff_ne]; exact g2
            have g3 : T = 515 := by omega
            exact .inr (.inr ⟨g1', g2', by rw [g3]; rfl⟩)
      obtain ⟨w2, hw2⟩ : ∃ x, x = ((((w.alloc (.cells #[.int .i64 d.c, .int .i64 d.s, .string d.v, .slice d.ua d.un d.uc, .slice d.ra d.rn d.rc, .bool d.hu, .bool d.hr, .slice d.ka d.kn d.kc] 36)).alloc (.cells #[.int .i64 T] 3)).alloc (.cells #[.string y] 9)).alloc (.cells #[.int .i64 0, .int .i64 0, .slice none 0 0] 24)) := ⟨_, rfl⟩
      rw [← hw2] at HBA HGD HGT HGY HG0 HD HSZ
      have hz2 : w.heap.size + 4 ≤ w2.heap.size := Nat.le_of_eq HSZ.out.symm
      have HZ2 := Lib.hid hz2
      have HB2 := HBA
      have HG2 := HG0
      have HY := Lib.hid hy
      obtain ⟨r, hr⟩ : ∃ r, r = packP 101 0 ([(T, bl y)] ++ againL d.plain) := ⟨_, rfl⟩
      rw [← hr] at HP
      have AN : Hid (Calls Try.prog 31 #[.int .i64 101, .int .i64 0, .func (.func 38) #[] #[.pointer (some ⟨w.heap.size + 1, 0, none⟩), .pointer (some ⟨w.heap.size + 2, 0, none⟩), .pointer (some ⟨w.heap.size, 0, none⟩)]] w2 (PRes r w2)) := by
       rw [hr]
       exact (answer_any 38 (fun _ _ => rfl) #[.pointer (some ⟨w.heap.size + 1, 0, none⟩), .pointer (some ⟨w.heap.size + 2, 0, none⟩), .pointer (some ⟨w.heap.size, 0, none⟩)] 101 0 _ w2
        (fun w' g hp => tellR_any w2 w' g (w.heap.size + 1) (w.heap.size + 2) w.heap.size [] hp d HD.out T y HGT.out HGY.out HGD.out HY.out (by simp))
        (by have := againL_len d.plain; rw [List.length_append]; simp; omega)
        (short_again HS.out _ (by intro x hx; rw [List.mem_singleton.1 hx]; show (bl y).length ≤ 1600; rw [bl_length]; exact HY.out)))
      have HEQ := Lib.hid hw2
      clear hr h hz2 hy HBA HG0 HGT HGY HGD hw2
      rcases hbb with e1 | ⟨e1, e2⟩ | ⟨e1, e2, e3⟩
      · rw [e1] at hb1
        have hb1' : (T == 513) = true := hb1.symm
        clear hb1 hb2 hb3 e1
        go_enter Try.func22, Try.ntmps22
        go_wp2_with fail
        rw [← HEQ.out]
        clear HEQ
        refine AN.out.mono ?_
        rintro e w3 ⟨A3, L3, C3, rfl, hown3, hb3⟩
        have HB3 := Lib.hid (HB2.out.trans (hb3.mono HB2.out.size))
        have HG3 := Lib.hid (heap_below HG2.out hb3)
        have HO3 := Lib.hid hown3
        have HLT : Hid (w.heap.size + 3 < w2.heap.size) := by have := HZ2.out; show _ < _; omega
        clear hown3 hb3 AN
        obtain ⟨q0, q1, q2⟩ := cells3 HG3.out
        have f0 := frozen_of_row _ _ 0 _ _ HG3.out
        have f1 := frozen_of_row _ _ 1 _ _ HG3.out
        have f2 := frozen_of_row _ _ 2 _ _ HG3.out
        go_wp2
        refine bodyPost_ret (v := .tuple #[.agg #[.int .i64 r.1.c, .int .i64 r.1.s, .slice A3 L3 C3], .int .i64 r.2]) (results_cell_tmp_row (P := Try.prog) (fn := Try.f22) rfl _ _ (w.heap.size + 3) 24 _ (0, 0) _ rfl (set3 HG3.out _ _ _) Try.underlying24 rfl (by kernel_rfl)) rfl ?_
        rw [HP.out]
        exact PRes.kept HO3.out HB3.out (by omega) HLT.out HB2.out.size
      · rw [e1] at hb1
        rw [e2] at hb2
        have hb1' : (T == 513) = false := hb1.symm
        have hb2' : (T == 514) = true := hb2.symm
        clear hb1 hb2 hb3 e1 e2
        go_enter Try.func22, Try.ntmps22
        go_wp2_with fail
        rw [← HEQ.out]
        clear HEQ
        refine AN.out.mono ?_
        rintro e w3 ⟨A3, L3, C3, rfl, hown3, hb3⟩
        have HB3 := Lib.hid (HB2.out.trans (hb3.mono HB2.out.size))
        have HG3 := Lib.hid (heap_below HG2.out hb3)
        have HO3 := Lib.hid hown3
        have HLT : Hid (w.heap.size + 3 < w2.heap.size) := by have := HZ2.out; show _ < _; omega
        clear hown3 hb3 AN
        obtain ⟨q0, q1, q2⟩ := cells3 HG3.out
        have f0 := frozen_of_row _ _ 0 _ _ HG3.out
        have f1 := frozen_of_row _ _ 1 _ _ HG3.out
        have f2 := frozen_of_row _ _ 2 _ _ HG3.out
        go_wp2
        refine bodyPost_ret (v := .tuple #[.agg #[.int .i64 r.1.c, .int .i64 r.1.s, .slice A3 L3 C3], .int .i64 r.2]) (results_cell_tmp_row (P := Try.prog) (fn := Try.f22) rfl _ _ (w.heap.size + 3) 24 _ (0, 0) _ rfl (set3 HG3.out _ _ _) Try.underlying24 rfl (by kernel_rfl)) rfl ?_
        rw [HP.out]
        exact PRes.kept HO3.out HB3.out (by omega) HLT.out HB2.out.size
      · rw [e1] at hb1
        rw [e2] at hb2
        rw [e3] at hb3
        have hb1' : (T == 513) = false := hb1.symm
        have hb2' : (T == 514) = false := hb2.symm
        have hb3' : (T == 515) = true := hb3.symm
        clear hb1 hb2 hb3 e1 e2 e3
        go_enter Try.func22, Try.ntmps22
        go_wp2_with fail
        rw [← HEQ.out]
        clear HEQ
        refine AN.out.mono ?_
        rintro e w3 ⟨A3, L3, C3, rfl, hown3, hb3⟩
        have HB3 := Lib.hid (HB2.out.trans (hb3.mono HB2.out.size))
        have HG3 := Lib.hid (heap_below HG2.out hb3)
        have HO3 := Lib.hid hown3
        have HLT : Hid (w.heap.size + 3 < w2.heap.size) := by have := HZ2.out; show _ < _; omega
        clear hown3 hb3 AN
        obtain ⟨q0, q1, q2⟩ := cells3 HG3.out
        have f0 := frozen_of_row _ _ 0 _ _ HG3.out
        have f1 := frozen_of_row _ _ 1 _ _ HG3.out
        have f2 := frozen_of_row _ _ 2 _ _ HG3.out
        go_wp2
        refine bodyPost_ret (v := .tuple #[.agg #[.int .i64 r.1.c, .int .i64 r.1.s, .slice A3 L3 C3], .int .i64 r.2]) (results_cell_tmp_row (P := Try.prog) (fn := Try.f22) rfl _ _ (w.heap.size + 3) 24 _ (0, 0) _ rfl (set3 HG3.out _ _ _) Try.underlying24 rfl (by kernel_rfl)) rfl ?_
        rw [HP.out]
        exact PRes.kept HO3.out HB3.out (by omega) HLT.out HB2.out.size
    · have HP : Hid (refP d.plain T y = (PP.zero, 1)) := by
        show _ = _
        unfold refP
        rw [if_pos (by exact HC.out), if_neg h]
      have hb1' : (T == 513) = false := by rw [beq_eq_false_iff_ne]; omega
      have hb2' : (T == 514) = false := by rw [beq_eq_false_iff_ne]; omega
      have hb3' : (T == 515) = false := by rw [beq_eq_false_iff_ne]; omega
      clear h
      go_enter Try.func22, Try.ntmps22
      go_wp2
      refine bodyPost_ret (v := .tuple #[.agg #[.int .i64 0, .int .i64 0, .slice none 0 0], .int .i64 1]) (results_cell_tmp_row (P := Try.prog) (fn := Try.f22) rfl _ _ (w.heap.size + 3) 24 _ (0, 0) _ rfl HG0.out Try.underlying24 rfl (by kernel_rfl)) rfl ?_
      exact PRes.none HP.out HBA.out
  · have HP : Hid (refP d.plain T y = (PP.zero, 61)) := if_neg hc
    go_enter Try.func22, Try.ntmps22
    go_wp2
    refine bodyPost_ret (v := .tuple #[.agg #[.int .i64 0, .int .i64 0, .slice none 0 0], .int .i64 61]) (results_cell_tmp_row (P := Try.prog) (fn := Try.f22) rfl _ _ (w.heap.size + 3) 24 _ (0, 0) _ rfl HG0.out Try.underlying24 rfl (by kernel_rfl)) rfl ?_
    exact PRes.none HP.out HBA.out

set_option maxHeartbeats 2000000 in
theorem offer_any (y : ByteArray) (sa : Option Addr) (sn sc : Nat) (ss : List ByteArray) (d : Dm) (ka : Option Addr) (kn kc : Nat) (kl : List UInt8) (w : World) (hss : StrR w sa sn sc ss) (hd : DOk w d) (hs : DShort d) (hk : Bs w (.slice ka kn kc) kl) (hkl : kl.length ≤ 1600) (hy : y.size ≤ 1600) :
    Calls Try.prog 18 #[.string y, .slice sa sn sc, .agg #[.int .i64 d.c, .int .i64 d.s, .string d.v, .slice d.ua d.un d.uc, .slice d.ra d.rn d.rc, .bool d.hu, .bool d.hr, .slice d.ka d.kn d.kc], .slice ka kn kc] w (PRes (offerP y ss d.plain kl) w) := by
  have BA : Below w.heap.size w (((((w.alloc (.cells #[.string y] 9)).alloc (.cells #[.slice sa sn sc] 34)).alloc (.cells #[.int .i64 d.c, .int .i64 d.s, .string d.v, .slice d.ua d.un d.uc, .slice d.ra d.rn d.rc, .bool d.hu, .bool d.hr, .slice d.ka d.kn d.kc] 36)).alloc (.cells #[.slice ka kn kc] 22)).alloc (.cells #[.int .i64 0, .int .i64 0, .slice none 0 0] 24)) := (((((Below.refl _ _).alloc (Nat.le_refl _) _).alloc (by simp) _).alloc (by simp; omega) _).alloc (by simp; omega) _).alloc (by simp; omega) _
  have HBA := Lib.hid BA
  have HGY : Hid ((((((w.alloc (.cells #[.string y] 9)).alloc (.cells #[.slice sa sn sc] 34)).alloc (.cells #[.int .i64 d.c, .int .i64 d.s, .string d.v, .slice d.ua d.un d.uc, .slice d.ra d.rn d.rc, .bool d.hu, .bool d.hr, .slice d.ka d.kn d.kc] 36)).alloc (.cells #[.slice ka kn kc] 22)).alloc (.cells #[.int .i64 0, .int .i64 0, .slice none 0 0] 24)).heap[w.heap.size]? = some (.cells #[.string y] 9 (0, 0))) := heap5_0 _ _ _ _ _ _
  have HGS : Hid ((((((w.alloc (.cells #[.string y] 9)).alloc (.cells #[.slice sa sn sc] 34)).alloc (.cells #[.int .i64 d.c, .int .i64 d.s, .string d.v, .slice d.ua d.un d.uc, .slice d.ra d.rn d.rc, .bool d.hu, .bool d.hr, .slice d.ka d.kn d.kc] 36)).alloc (.cells #[.slice ka kn kc] 22)).alloc (.cells #[.int .i64 0, .int .i64 0, .slice none 0 0] 24)).heap[w.heap.size + 1]? = some (.cells #[.slice sa sn sc] 34 (0, 0))) := heap5_1 _ _ _ _ _ _
  have HGD : Hid ((((((w.alloc (.cells #[.string y] 9)).alloc (.cells #[.slice sa sn sc] 34)).alloc (.cells #[.int .i64 d.c, .int .i64 d.s, .string d.v, .slice d.ua d.un d.uc, .slice d.ra d.rn d.rc, .bool d.hu, .bool d.hr, .slice d.ka d.kn d.kc] 36)).alloc (.cells #[.slice ka kn kc] 22)).alloc (.cells #[.int .i64 0, .int .i64 0, .slice none 0 0] 24)).heap[w.heap.size + 2]? = some (.cells #[.int .i64 d.c, .int .i64 d.s, .string d.v, .slice d.ua d.un d.uc, .slice d.ra d.rn d.rc, .bool d.hu, .bool d.hr, .slice d.ka d.kn d.kc] 36 (0, 0))) := heap5_2 _ _ _ _ _ _
  have HGK : Hid ((((((w.alloc (.cells #[.string y] 9)).alloc (.cells #[.slice sa sn sc] 34)).alloc (.cells #[.int .i64 d.c, .int .i64 d.s, .string d.v, .slice d.ua d.un d.uc, .slice d.ra d.rn d.rc, .bool d.hu, .bool d.hr, .slice d.ka d.kn d.kc] 36)).alloc (.cells #[.slice ka kn kc] 22)).alloc (.cells #[.int .i64 0, .int .i64 0, .slice none 0 0] 24)).heap[w.heap.size + 3]? = some (.cells #[.slice ka kn kc] 22 (0, 0))) := heap5_3 _ _ _ _ _ _
  have HG0 : Hid ((((((w.alloc (.cells #[.string y] 9)).alloc (.cells #[.slice sa sn sc] 34)).alloc (.cells #[.int .i64 d.c, .int .i64 d.s, .string d.v, .slice d.ua d.un d.uc, .slice d.ra d.rn d.rc, .bool d.hu, .bool d.hr, .slice d.ka d.kn d.kc] 36)).alloc (.cells #[.slice ka kn kc] 22)).alloc (.cells #[.int .i64 0, .int .i64 0, .slice none 0 0] 24)).heap[w.heap.size + 4]? = some (.cells #[.int .i64 0, .int .i64 0, .slice none 0 0] 24 (0, 0))) := heap5_4 _ _ _ _ _ _
  have HD := Lib.hid (hd.below BA)
  have HSS := Lib.hid (hss.below BA)
  have HK := Lib.hid (hk.below BA)
  have HS := Lib.hid hs
  have hsz : (((((w.alloc (.cells #[.string y] 9)).alloc (.cells #[.slice sa sn sc] 34)).alloc (.cells #[.int .i64 d.c, .int .i64 d.s, .string d.v, .slice d.ua d.un d.uc, .slice d.ra d.rn d.rc, .bool d.hu, .bool d.hr, .slice d.ka d.kn d.kc] 36)).alloc (.cells #[.slice ka kn kc] 22)).alloc (.cells #[.int .i64 0, .int .i64 0, .slice none 0 0] 24)).heap.size = w.heap.size + 5 := by simp
  have HSZ := Lib.hid hsz
  have hn70 := hss.few
  have hln := hss.len
  have HSM := Lib.hid hss.small
  clear hd hs BA hsz hss hk
  by_cases hc : d.c = 9
  · have HP : Hid (offerP y ss d.plain kl = packP 7 0 (offerL y ss d.plain kl)) := if_pos hc
    have hcb : (d.c == 9) = true := by rw [hc]; rfl
    clear hc
    have HY := Lib.hid hy
    have HL : Hid ((offerL y ss d.plain kl).length ≤ 100 ∧ ∀ x ∈ offerL y ss d.plain kl, x.2.length ≤ 1600) := by
      refine ⟨?_, ?_⟩
      · have h1 := againL_len d.plain
        have h2 := svcL_len d.plain.v ss
        unfold offerL
        rw [List.length_append, List.length_append, List.length_append]
        simp
        omega
      · intro x hx
        unfold offerL at hx
        rcases List.mem_append.1 hx with hx | hx
        · refine short_again HS.out _ (fun x hx => ?_) x hx
          rcases List.mem_append.1 hx with hx | hx
          · simp only [List.mem_cons, List.not_mem_nil, or_false] at hx
            rcases hx with rfl | rfl
            · show (bl y).length ≤ 1600; rw [bl_length]; exact HY.out
            · show (bl d.v).length ≤ 1600; rw [bl_length]; exact HS.out.v
          · obtain ⟨s, hs, rfl⟩ := List.mem_map.1 hx
            show (bl s).length ≤ 1600
            rw [bl_length]
            exact HSM.out s (List.mem_filter.1 hs).1
        · rw [List.mem_singleton.1 hx]; exact hkl
    clear hy hkl hln hn70
    go_enter Try.func18, Try.ntmps18
    go_wp2_with fail
    generalize (((((w.alloc (.cells #[.string y] 9)).alloc (.cells #[.slice sa sn sc] 34)).alloc (.cells #[.int .i64 d.c, .int .i64 d.s, .string d.v, .slice d.ua d.un d.uc, .slice d.ra d.rn d.rc, .bool d.hu, .bool d.hr, .slice d.ka d.kn d.kc] 36)).alloc (.cells #[.slice ka kn kc] 22)).alloc (.cells #[.int .i64 0, .int .i64 0, .slice none 0 0] 24)) = w2 at HBA HGY HGS HGD HGK HG0 HD HSS HK HSZ ⊢
    have HB2 := HBA
    have HG2 := HG0
    have HZ2 : Hid (w.heap.size + 5 ≤ w2.heap.size) := Nat.le_of_eq HSZ.out.symm
    obtain ⟨r, hr⟩ : ∃ r, r = packP 7 0 (offerL y ss d.plain kl) := ⟨_, rfl⟩
    rw [← hr] at HP
    have AN : Hid (Calls Try.prog 31 #[.int .i64 7, .int .i64 0, .func (.func 32) #[] #[.pointer (some ⟨w.heap.size, 0, none⟩), .pointer (some ⟨w.heap.size + 2, 0, none⟩), .pointer (some ⟨w.heap.size + 1, 0, none⟩), .pointer (some ⟨w.heap.size + 3, 0, none⟩)]] w2 (PRes r w2)) := by
     rw [hr]
     exact (answer_any 32 (fun _ _ => rfl) #[.pointer (some ⟨w.heap.size, 0, none⟩), .pointer (some ⟨w.heap.size + 2, 0, none⟩), .pointer (some ⟨w.heap.size + 1, 0, none⟩), .pointer (some ⟨w.heap.size + 3, 0, none⟩)] 7 0 _ w2
        (fun w' g hp => tellO_any w2 w' g w.heap.size (w.heap.size + 2) (w.heap.size + 1) (w.heap.size + 3) hp d HD.out y sa sn sc ss HSS.out ka kn kc kl HK.out HGY.out HGD.out HGS.out HGK.out HY.out HS.out.v)
        HL.out.1 HL.out.2)
    clear hr
    refine AN.out.mono ?_
    rintro e w3 ⟨A3, L3, C3, rfl, hown3, hb3⟩
    have HB3 := Lib.hid (HB2.out.trans (hb3.mono HB2.out.size))
    have HG3 := Lib.hid (heap_below HG2.out hb3)
    have HO3 := Lib.hid hown3
    have HLT : Hid (w.heap.size + 4 < w2.heap.size) := by have := HZ2.out; show _ < _; omega
    clear hown3 hb3 AN
    obtain ⟨q0, q1, q2⟩ := cells3 HG3.out
    have f0 := frozen_of_row _ _ 0 _ _ HG3.out
    have f1 := frozen_of_row _ _ 1 _ _ HG3.out
    have f2 := frozen_of_row _ _ 2 _ _ HG3.out
    go_wp2
    refine bodyPost_ret (v := .tuple #[.agg #[.int .i64 r.1.c, .int .i64 r.1.s, .slice A3 L3 C3], .int .i64 r.2]) (results_cell_tmp_row (P := Try.prog) (fn := Try.f18) rfl _ _ (w.heap.size + 4) 24 _ (0, 0) _ rfl (set3 HG3.out _ _ _) Try.underlying24 rfl (by kernel_rfl)) rfl ?_
    rw [HP.out]
    exact PRes.kept HO3.out HB3.out (by omega) HLT.out HB2.out.size
  · have HP : Hid (offerP y ss d.plain kl = (PP.zero, 61)) := if_neg hc
    go_enter Try.func18, Try.ntmps18
    go_wp2
    refine bodyPost_ret (v := .tuple #[.agg #[.int .i64 0, .int .i64 0, .slice none 0 0], .int .i64 61]) (results_cell_tmp_row (P := Try.prog) (fn := Try.f18) rfl _ _ (w.heap.size + 4) 24 _ (0, 0) _ rfl HG0.out Try.underlying24 rfl (by kernel_rfl)) rfl ?_
    exact PRes.none HP.out HBA.out
end Go.Proofs.Ytcpeglljcipcbaa
