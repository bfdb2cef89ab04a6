/-
  The tags of an answer, gathered by a closure: one more; what is told again.
-/
import Derived.Test.YtcpeglljcipcbaaPpM
namespace Go.Proofs.Ytcpeglljcipcbaa
open Go.RowKit
set_option linter.unusedVariables false
set_option linter.unusedSimpArgs false

theorem own_ne_cell {w : World} {base g : Nat} {e e' : TypeId} {size n : Nat} {v : Value} {xs : List Value} {cs : Array Value} {fr : Nat × Nat} (h : w.ownsRow base e size v n xs) (hc : w.heap[g]? = some (.cells cs e' fr)) (he : e ≠ e') : v.ownBlock ≠ some g := by
  intro e1
  rcases h.2 with ⟨rfl, _⟩ | ⟨g', cap, cur, rfl, hb, hg', _⟩
  · cases e1
  · simp only [Value.ownBlock, Option.some.injEq] at e1
    subst e1
    rw [hg'] at hc
    simp only [Option.some.injEq, Obj.cells.injEq] at hc
    exact he hc.2.1
theorem adds_grown {w w' : World} {base size n : Nat} {v : Value} {xs : List Value} (h : w.ownsRow base 61 size v n xs) (hb : base ≤ w.heap.size) (hg : w.grownBy w' v.ownBlock) : Adds w w' :=
  ⟨(grown_below h hb hg).size, fun b cs e fr hc h1 h2 => grown_heap h hg hc (Ne.symm h1)⟩
theorem heap_grown_cell {w w' : World} {base size n g : Nat} {v : Value} {xs : List Value} {cs : Array Value} {fr : Nat × Nat} (h : w.ownsRow base 61 size v n xs) (hg : w.grownBy w' v.ownBlock) (hc : w.heap[g]? = some (.cells cs 62 fr)) : w'.heap[g]? = some (.cells cs 62 fr) := grown_heap h hg hc (by decide)
theorem adds_set {w : World} {g : Nat} {x : Value} {fr : Nat × Nat} (h : w.heap[g]? = some (.cells #[x] 62 fr)) (y : Value) : Adds w (w.setCell ⟨g, 0, none⟩ y) := by
  have ho := Only.setCell (g := g) w 0 y
  refine ⟨ho.size, fun b cs e fr' hb h1 h2 => ?_⟩
  have hne : b ≠ g := fun e1 => by
    subst e1
    rw [h] at hb
    simp only [Option.some.injEq, Obj.cells.injEq] at hb
    exact h2 hb.2.1.symm
  rw [ho.heap b (Array.getElem?_eq_some_iff.1 hb).1 hne]
  exact hb
/-- One tag more in the variable. -/
theorem AL.more {w0 w w2 : World} {g : Nat} {ts : List Tg} {t : Tg} {v' x : Value} (h : AL w0 w g ts) (hlow : Below w0.heap.size w0 w2) (ha : Adds w w2) (hc : w2.heap[g]? = some (.cells #[x] 62 (0, 0))) (ht : LV w0 w t.val t.l)
    (ho : w2.ownsRow w0.heap.size 61 2 v' (ts.length + 1) (flat ts ++ [.int .i64 t.typ, t.val])) : AL w0 (w2.setCell ⟨g, 0, none⟩ v') g (ts ++ [t]) := by
  have hs := adds_set hc v'
  refine ⟨h.at_, ⟨v', heap_setCell_same _ g 0 _ _ v' hc, ?_⟩, fun u hu => ?_, hlow.setCell h.at_ _⟩
  · rw [flat_append, List.length_append]
    exact ownsRow_setCell_other ho (own_ne_cell ho hc (by decide)) v'
  · rcases List.mem_append.1 hu with hu | hu
    · exact ((h.vals u hu).add ha).add hs
    · rw [List.mem_singleton.1 hu]
      exact (ht.add ha).add hs

set_option maxHeartbeats 1000000 in
theorem adder_any (w0 w : World) (g : Nat) (ls : List PT) (h : AP w0 w g ls) (T : Int) (A : Option Addr) (L C : Nat) (l : List UInt8) (hv : LV w0 w (.slice A L C) l) (hn : ls.length ≤ 500) :
    Calls Try.prog 47 #[.int .i64 T, .slice A L C, .pointer (some ⟨g, 0, none⟩)] w fun e w' => e = .returned (.tuple #[]) ∧ AP w0 w' g (ls ++ [(T, l)]) ∧ Adds w w' := by
  obtain ⟨i0, hi, hz0, hz1, hz2⟩ := info_parts infoT
  obtain ⟨ts, hts, hal⟩ := h
  obtain ⟨v, hg, ho⟩ := hal.row
  obtain ⟨a, c, ev, _, _⟩ := (own_rd ho).shape
  subst ev
  have hlen : ts.length ≤ 500 := by rw [← plain_length, hts]; exact hn
  have BA : Below w.heap.size w (w.alloc (.cells #[.int .i64 T, .slice A L C] 61)) := (Below.refl _ _).alloc (Nat.le_refl _) _
  have HO1 : Hid ((w.alloc (.cells #[.int .i64 T, .slice A L C] 61)).ownsRow w0.heap.size 61 2 (.slice a ts.length c) ts.length (flat ts)) := ownsRow_below ho BA
  have HG1 : Hid ((w.alloc (.cells #[.int .i64 T, .slice A L C] 61)).heap[g]? = some (.cells #[.slice a ts.length c] 62 (0, 0))) := heap_below hg BA
  have HL1 : Hid (Below w0.heap.size w0 (w.alloc (.cells #[.int .i64 T, .slice A L C] 61))) := hal.low.trans (BA.mono hal.low.size)
  have HR1 : Hid (Rd (w.alloc (.cells #[.int .i64 T, .slice A L C] 61)) 2 (.slice (some ⟨w.heap.size, 0, none⟩) 1 1) 1 [.int .i64 T, .slice A L C]) := rd_new w [.int .i64 T, .slice A L C] 61 1 2 rfl (by decide)
  have hs1 : w0.heap.size ≤ (w.alloc (.cells #[.int .i64 T, .slice A L C] 61)).heap.size := HL1.out.size
  have HS1 := Lib.hid hs1
  have HA1 := Lib.hid (Adds.of_below BA)
  have HAL := Lib.hid hal
  have HV := Lib.hid hv
  have HTS := Lib.hid hts
  have hc0 := cell1 hg
  clear hal hv hts ho BA hs1
  go_enter Try.func47, Try.ntmps47
  go_wp2_with (at_builtin; refine wpList_append_gr _ rfl _ _ 62 rfl w0.heap.size 61 i0 _ 2 32 Try.underlying62 hi hz0 hz1 hz2 rfl (by decide) _ _ _ rfl HO1.out _ 1 [.int .i64 T, .slice A L C] rfl HR1.out (one_tag T rfl) ?q1 (by decide) HS1.out ?_)
  case q1 => omega
  intro v' w2 ho' hg'
  have HO2 := Lib.hid ho'
  have HG2 := Lib.hid (heap_grown_cell HO1.out hg' HG1.out)
  have HL2 := Lib.hid (HL1.out.trans (grown_below HO1.out HS1.out hg'))
  have HA2 := Lib.hid (HA1.out.trans (adds_grown HO1.out HS1.out hg'))
  obtain ⟨a2, c2, ev, _, _⟩ := (own_rd HO2.out).shape
  subst ev
  have k0 := cell1 HG2.out
  have f0 := frozen_of_row _ _ 0 _ _ HG2.out
  clear ho' hg' hc0 hg
  go_wp2
  go_end0
  refine ⟨rfl, ⟨ts ++ [⟨T, .slice A L C, l⟩], by rw [plain_append, HTS.out]; rfl, AL.more HAL.out HL2.out HA2.out HG2.out HV.out HO2.out⟩, HA2.out.trans (adds_set HG2.out _)⟩

theorem againL_len (d : DD) : (againL d).length ≤ 2 := by unfold againL; cases d.hu <;> cases d.hr <;> simp
set_option maxHeartbeats 2000000 in
theorem again_any (w0 w : World) (g : Nat) (ls : List PT) (h : AP w0 w g ls) (d : Dm) (hd : DOk w0 d) (hn : ls.length ≤ 400) :
    Calls Try.prog 33 #[.agg #[.int .i64 d.c, .int .i64 d.s, .string d.v, .slice d.ua d.un d.uc, .slice d.ra d.rn d.rc, .bool d.hu, .bool d.hr, .slice d.ka d.kn d.kc], .func (.func 47) #[] #[.pointer (some ⟨g, 0, none⟩)]] w fun e w' => e = .returned (.tuple #[]) ∧ AP w0 w' g (ls ++ againL d.plain) ∧ Adds w w' := by
  have BA : Below w.heap.size w (w.alloc (.cells #[.int .i64 d.c, .int .i64 d.s, .string d.v, .slice d.ua d.un d.uc, .slice d.ra d.rn d.rc, .bool d.hu, .bool d.hr, .slice d.ka d.kn d.kc] 36)) := (Below.refl _ _).alloc (Nat.le_refl _) _
  have HG1 : Hid ((w.alloc (.cells #[.int .i64 d.c, .int .i64 d.s, .string d.v, .slice d.ua d.un d.uc, .slice d.ra d.rn d.rc, .bool d.hu, .bool d.hr, .slice d.ka d.kn d.kc] 36)).heap[w.heap.size]? = some (.cells #[.int .i64 d.c, .int .i64 d.s, .string d.v, .slice d.ua d.un d.uc, .slice d.ra d.rn d.rc, .bool d.hu, .bool d.hr, .slice d.ka d.kn d.kc] 36 (0, 0))) := heap_alloc_last _ _
  have HA1 := Lib.hid (Adds.of_below BA)
  have HP1 := Lib.hid (h.below BA)
  have HD := Lib.hid hd
  clear h hd BA
  cases hu : d.hu with
  | false =>
    cases hr : d.hr with
    | false =>
      have e : againL d.plain = [] := by unfold againL Dm.plain; simp [hu, hr]
      have HE := Lib.hid e
      have c5 := hu
      rw [hu, hr] at HG1 HA1 HP1
      clear hu hr e
      go_enter Try.func33, Try.ntmps33
      go_wp2
      go_end0
      rw [HE.out, List.append_nil]
      exact ⟨rfl, HP1.out, HA1.out⟩
    | true =>
      have e : againL d.plain = [(272, d.rl)] := by unfold againL Dm.plain; simp [hu, hr]
      have HE := Lib.hid e
      rw [hu, hr] at HG1 HA1 HP1
      have AD := Lib.hid (adder_any w0 _ g ls HP1.out 272 d.ra d.rn d.rc d.rl (.inl HD.out.r) (by omega))
      clear hu hr e
      go_enter Try.func33, Try.ntmps33
      go_wp2_with fail
      refine AD.out.mono ?_
      rintro e w2 ⟨rfl, hp2, ha2⟩
      have HP2 := Lib.hid hp2
      have HA2 := Lib.hid (HA1.out.trans ha2)
      clear hp2 ha2
      go_wp2
      go_end0
      rw [HE.out]
      exact ⟨rfl, HP2.out, HA2.out⟩
  | true =>
    have HG := HG1.out
    rw [hu] at HG1 HA1 HP1
    have AD := Lib.hid (adder_any w0 _ g ls HP1.out 259 d.ua d.un d.uc d.ul (.inl HD.out.u) (by omega))
    have HU := Lib.hid hu
    clear HG hu
    go_enter Try.func33, Try.ntmps33
    go_wp2_with fail
    refine AD.out.mono ?_
    rintro e w2 ⟨rfl, hp2, ha2⟩
    have HP2 := Lib.hid hp2
    have HA2 := Lib.hid (HA1.out.trans ha2)
    have HG2 := Lib.hid (ha2.keep _ _ _ _ HG1.out (by decide) (by decide))
    obtain ⟨k0, k1, k2, k3, k4, k5, k6, k7⟩ := cells8 HG2.out
    clear hp2 ha2 AD
    cases hr : d.hr with
    | false =>
      have HE : Hid (againL d.plain = [(259, d.ul)]) := by show _ = _; unfold againL Dm.plain; simp [HU.out, hr]
      rw [hr] at k6
      clear hr
      go_wp2
      go_end0
      rw [HE.out]
      exact ⟨rfl, HP2.out, HA2.out⟩
    | true =>
      have HE : Hid (againL d.plain = [(259, d.ul)] ++ [(272, d.rl)]) := by show _ = _; unfold againL Dm.plain; simp [HU.out, hr]
      rw [hr] at k6
      have AD := Lib.hid (adder_any w0 w2 g _ HP2.out 272 d.ra d.rn d.rc d.rl (.inl HD.out.r) (by rw [List.length_append]; simp; omega))
      clear hr
      go_wp2_with fail
      refine AD.out.mono ?_
      rintro e w3 ⟨rfl, hp3, ha3⟩
      have HP3 := Lib.hid hp3
      have HA3 := Lib.hid (HA2.out.trans ha3)
      clear hp3 ha3
      go_wp2
      go_end0
      rw [HE.out, ← List.append_assoc]
      exact ⟨rfl, HP3.out, HA3.out⟩
end Go.Proofs.Ytcpeglljcipcbaa
