/-
  The document's rows of tags, the packet of tags, what is told again, the end of a session.
-/
import Derived.Test.YtcpeglljcipcbaaPpH
import Derived.Test.YtcpeglljcipcbaaTagF
namespace Go.Proofs.Ytcpeglljcipcbaa
open Go.RowKit
set_option linter.unusedVariables false
set_option linter.unusedSimpArgs false

/-- v is a row of tags of the call's own, from B on. -/
structure AQ (w0 : World) (B : Nat) (w : World) (v : Value) (ts : List Tg) : Prop where
  own : w.ownsRow B 61 2 v ts.length (flat ts)
  vals : ∀ t ∈ ts, LV w0 w t.val t.l
  low : Below w0.heap.size w0 w
  base : w0.heap.size ≤ B
  top : B ≤ w.heap.size
theorem AQ.nil {w0 w : World} {B : Nat} (h : Below w0.heap.size w0 w) (h1 : w0.heap.size ≤ B) (h2 : B ≤ w.heap.size) : AQ w0 B w (.slice none 0 0) [] := ⟨World.ownsRow_nil _ _ _ _, (fun t h => by cases h), h, h1, h2⟩
theorem AQ.below {w0 w w' : World} {B : Nat} {v : Value} {ts : List Tg} (h : AQ w0 B w v ts) (hb : Below w.heap.size w w') : AQ w0 B w' v ts := ⟨ownsRow_below h.own hb, fun t ht => (h.vals t ht).add (Adds.of_below hb), h.low.trans (hb.mono h.low.size), h.base, Nat.le_trans h.top hb.size⟩
theorem AQ.mono {w0 w : World} {B B' : Nat} {v : Value} {ts : List Tg} (h : AQ w0 B w v ts) (h1 : B' ≤ B) (h2 : w0.heap.size ≤ B') : AQ w0 B' w v ts := ⟨ownsRow_mono h.own h1, h.vals, h.low, h2, Nat.le_trans h1 h.top⟩
theorem AQ.tr {w0 w : World} {B : Nat} {v : Value} {ts : List Tg} (h : AQ w0 B w v ts) : TR w v ts.length ts := ⟨own_rd h.own, fun t ht => (h.vals t ht).bs h.low⟩
theorem AQ.app {w0 w w' : World} {B : Nat} {v v' : Value} {ts us : List Tg} (h : AQ w0 B w v ts) (hu : ∀ t ∈ us, LV w0 w t.val t.l) (ho : w'.ownsRow B 61 2 v' (ts.length + us.length) (flat ts ++ flat us)) (hg : w.grownBy w' v.ownBlock) : AQ w0 B w' v' (ts ++ us) := by
  have ha := adds_grown h.own h.top hg
  have hb := grown_below h.own h.top hg
  refine ⟨?_, fun t ht => ?_, h.low.trans (hb.mono h.base), h.base, Nat.le_trans h.top hb.size⟩
  · rw [flat_append, List.length_append]; exact ho
  · rcases List.mem_append.1 ht with ht | ht
    · exact (h.vals t ht).add ha
    · exact (hu t ht).add ha
theorem AQ.one {w0 w : World} {B : Nat} {T : Int} {A : Option Addr} {L C : Nat} {l : List UInt8} (hv : LV w0 w (.slice A L C) l) (hb : Below w0.heap.size w0 w) (h1 : w0.heap.size ≤ B) (h2 : B ≤ w.heap.size) : AQ w0 B (w.alloc (.cells #[.int .i64 T, .slice A L C] 61)) (.slice (some ⟨w.heap.size, 0, none⟩) 1 1) [⟨T, .slice A L C, l⟩] := by
  have ha : Below w.heap.size w (w.alloc (.cells #[.int .i64 T, .slice A L C] 61)) := (Below.refl _ _).alloc (Nat.le_refl _) _
  refine ⟨ownsRow_mono (own_new w [.int .i64 T, .slice A L C] 61 1 2 rfl (by decide)) h2, fun t ht => ?_, hb.trans (ha.mono hb.size), h1, Nat.le_trans h2 ha.size⟩
  rw [List.mem_singleton.1 ht]
  exact hv.add (Adds.of_below ha)
/-- The result of a function that tells tags of the call's own. -/
def ARes (w0 : World) (ls : List PT) (w : World) (e : Ending) (w' : World) : Prop := ∃ a n c ts, e = .returned (.slice a n c) ∧ ts.length = n ∧ plain ts = ls ∧ AQ w0 w.heap.size w' (.slice a n c) ts ∧ Below w.heap.size w w'

set_option maxHeartbeats 2000000 in
theorem ragain_any (w0 w : World) (d : Dm) (hd : DOk w0 d) (hw : Below w0.heap.size w0 w) :
    Calls Try.prog 34 #[.agg #[.int .i64 d.c, .int .i64 d.s, .string d.v, .slice d.ua d.un d.uc, .slice d.ra d.rn d.rc, .bool d.hu, .bool d.hr, .slice d.ka d.kn d.kc]] w (ARes w0 (againL d.plain) w) := by
  obtain ⟨i0, hi, hz0, hz1, hz2⟩ := info_parts infoT
  have HD := Lib.hid hd
  have BA : Below w.heap.size w (w.alloc (.cells #[.int .i64 d.c, .int .i64 d.s, .string d.v, .slice d.ua d.un d.uc, .slice d.ra d.rn d.rc, .bool d.hu, .bool d.hr, .slice d.ka d.kn d.kc] 36)) := (Below.refl _ _).alloc (Nat.le_refl _) _
  have HG1 : Hid ((w.alloc (.cells #[.int .i64 d.c, .int .i64 d.s, .string d.v, .slice d.ua d.un d.uc, .slice d.ra d.rn d.rc, .bool d.hu, .bool d.hr, .slice d.ka d.kn d.kc] 36)).heap[w.heap.size]? = some (.cells #[.int .i64 d.c, .int .i64 d.s, .string d.v, .slice d.ua d.un d.uc, .slice d.ra d.rn d.rc, .bool d.hu, .bool d.hr, .slice d.ka d.kn d.kc] 36 (0, 0))) := heap_alloc_last _ _
  have HQ1 : Hid (AQ w0 w.heap.size (w.alloc (.cells #[.int .i64 d.c, .int .i64 d.s, .string d.v, .slice d.ua d.un d.uc, .slice d.ra d.rn d.rc, .bool d.hu, .bool d.hr, .slice d.ka d.kn d.kc] 36)) (.slice none 0 0) []) := AQ.nil (hw.trans (BA.mono hw.size)) hw.size BA.size
  have HB1 := Lib.hid BA
  clear BA hd hw
  have SU : Hid (∀ (wq : World) (gq : Nat) (hq : wq.heap.size = gq) (v : Value) (ts : List Tg), AQ w0 w.heap.size wq v ts → AQ w0 w.heap.size (wq.alloc (.cells #[.int .i64 259, .slice d.ua d.un d.uc] 61)) v ts ∧ Rd (wq.alloc (.cells #[.int .i64 259, .slice d.ua d.un d.uc] 61)) 2 (.slice (some ⟨gq, 0, none⟩) 1 1) 1 [.int .i64 259, .slice d.ua d.un d.uc] ∧ Below wq.heap.size wq (wq.alloc (.cells #[.int .i64 259, .slice d.ua d.un d.uc] 61))) := fun wq gq hq v ts h => by
    subst hq
    have hb : Below wq.heap.size wq (wq.alloc (.cells #[.int .i64 259, .slice d.ua d.un d.uc] 61)) := (Below.refl _ _).alloc (Nat.le_refl _) _
    exact ⟨h.below hb, rd_new _ [.int .i64 259, .slice d.ua d.un d.uc] 61 1 2 rfl (by decide), hb⟩
  have SR : Hid (∀ (wq : World) (gq : Nat) (hq : wq.heap.size = gq) (v : Value) (ts : List Tg), AQ w0 w.heap.size wq v ts → AQ w0 w.heap.size (wq.alloc (.cells #[.int .i64 272, .slice d.ra d.rn d.rc] 61)) v ts ∧ Rd (wq.alloc (.cells #[.int .i64 272, .slice d.ra d.rn d.rc] 61)) 2 (.slice (some ⟨gq, 0, none⟩) 1 1) 1 [.int .i64 272, .slice d.ra d.rn d.rc] ∧ Below wq.heap.size wq (wq.alloc (.cells #[.int .i64 272, .slice d.ra d.rn d.rc] 61))) := fun wq gq hq v ts h => by
    subst hq
    have hb : Below wq.heap.size wq (wq.alloc (.cells #[.int .i64 272, .slice d.ra d.rn d.rc] 61)) := (Below.refl _ _).alloc (Nat.le_refl _) _
    exact ⟨h.below hb, rd_new _ [.int .i64 272, .slice d.ra d.rn d.rc] 61 1 2 rfl (by decide), hb⟩
  cases hu : d.hu with
  | false =>
    rw [hu] at HG1 HQ1 HB1
    have HU := Lib.hid hu
    clear hu
    cases hr : d.hr with
    | false =>
      have HE : Hid (againL d.plain = []) := by show _ = _; unfold againL Dm.plain; simp [HU.out, hr]
      rw [hr] at HG1 HQ1 HB1
      clear hr
      go_enter Try.func34, Try.ntmps34
      go_wp2
      go_ret
      rw [HE.out]
      exact ⟨_, _, _, _, rfl, rfl, rfl, HQ1.out, HB1.out⟩
    | true =>
      have HE : Hid (againL d.plain = [(272, d.rl)]) := by show _ = _; unfold againL Dm.plain; simp [HU.out, hr]
      rw [hr] at HG1 HQ1 HB1
      clear hr
      go_enter Try.func34, Try.ntmps34
      obtain ⟨s1, s2, s3⟩ := SR.out _ (w.heap.size + 1) (World.size_alloc _ _) _ _ HQ1.out
      have HQ2 := Lib.hid s1
      have HR2 := Lib.hid s2
      have HB2 := Lib.hid (HB1.out.trans (s3.mono HB1.out.size))
      have HO2 := Lib.hid HQ2.out.own
      have HL2 := Lib.hid HQ2.out.top
      clear s1 s2 s3
      go_wp2_with (at_builtin; refine wpList_append_gr _ rfl _ _ 62 rfl w.heap.size 61 i0 _ 2 32 Try.underlying62 hi hz0 hz1 hz2 rfl (by decide) _ _ _ rfl HO2.out _ 1 [.int .i64 272, (.slice d.ra d.rn d.rc)] rfl HR2.out (one_tag 272 rfl) (by simp) (by decide) HL2.out ?_)
      intro v3 w3 ho hg
      have HB3 := Lib.hid (HB2.out.trans (grown_below HO2.out HL2.out hg))
      obtain ⟨a3, c3, ev, _, _⟩ := (own_rd ho).shape
      subst ev
      have HQ3 := Lib.hid (AQ.app (us := [⟨272, (.slice d.ra d.rn d.rc), d.rl⟩]) HQ2.out (by intro t ht; rw [List.mem_singleton.1 ht]; exact .inl HD.out.r) ho hg)
      clear ho hg
      go_wp2
      go_ret
      rw [HE.out]
      exact ⟨_, _, _, _, rfl, rfl, rfl, HQ3.out, HB3.out⟩
  | true =>
    rw [hu] at HG1 HQ1 HB1
    have HU := Lib.hid hu
    clear hu
    go_enter Try.func34, Try.ntmps34
    obtain ⟨s1, s2, s3⟩ := SU.out _ (w.heap.size + 1) (World.size_alloc _ _) _ _ HQ1.out
    have HQ2 := Lib.hid s1
    have HR2 := Lib.hid s2
    have HB2 := Lib.hid (HB1.out.trans (s3.mono HB1.out.size))
    have HO2 := Lib.hid HQ2.out.own
    have HL2 := Lib.hid HQ2.out.top
    clear s1 s2 s3
    go_wp2_with (at_builtin; refine wpList_append_gr _ rfl _ _ 62 rfl w.heap.size 61 i0 _ 2 32 Try.underlying62 hi hz0 hz1 hz2 rfl (by decide) _ _ _ rfl HO2.out _ 1 [.int .i64 259, (.slice d.ua d.un d.uc)] rfl HR2.out (one_tag 259 rfl) (by simp) (by decide) HL2.out ?_)
    intro v3 w3 ho hg
    have HB3 := Lib.hid (HB2.out.trans (grown_below HO2.out HL2.out hg))
    obtain ⟨a3, c3, ev, _, _⟩ := (own_rd ho).shape
    subst ev
    have HQ3 := Lib.hid (AQ.app (us := [⟨259, (.slice d.ua d.un d.uc), d.ul⟩]) HQ2.out (by intro t ht; rw [List.mem_singleton.1 ht]; exact .inl HD.out.u) ho hg)
    clear ho
    have hg2 := hg
    clear hg
    have HG3 : Hid (w3.heap[w.heap.size]? = some (.cells #[.int .i64 d.c, .int .i64 d.s, .string d.v, .slice d.ua d.un d.uc, .slice d.ra d.rn d.rc, .bool true, .bool d.hr, .slice d.ka d.kn d.kc] 36 (0, 0))) := grown_heap HO2.out hg2 (heap_below HG1.out ((Below.refl _ _).alloc (Nat.le_refl _) _)) (by decide)
    obtain ⟨k0, k1, k2, k3, k4, k5, k6, k7⟩ := cells8 HG3.out
    clear hg2
    cases hr : d.hr with
    | false =>
      have HE : Hid (againL d.plain = [(259, d.ul)]) := by show _ = _; unfold againL Dm.plain; simp [HU.out, hr]
      rw [hr] at k6
      clear hr
      go_wp2
      go_ret
      rw [HE.out]
      exact ⟨_, _, _, _, rfl, rfl, rfl, HQ3.out, HB3.out⟩
    | true =>
      have HE : Hid (againL d.plain = [(259, d.ul), (272, d.rl)]) := by show _ = _; unfold againL Dm.plain; simp [HU.out, hr]
      rw [hr] at k6
      clear hr
      obtain ⟨s1, s2, s3⟩ := SR.out _ _ rfl _ _ HQ3.out
      have HQ4 := Lib.hid s1
      have HR4 := Lib.hid s2
      have HB4 := Lib.hid (HB3.out.trans (s3.mono HB3.out.size))
      have HO4 := Lib.hid HQ4.out.own
      have HL4 := Lib.hid HQ4.out.top
      clear s1 s2 s3
      go_wp2_with (at_builtin; refine wpList_append_gr _ rfl _ _ 62 rfl w.heap.size 61 i0 _ 2 32 Try.underlying62 hi hz0 hz1 hz2 rfl (by decide) _ _ _ rfl HO4.out _ 1 [.int .i64 272, (.slice d.ra d.rn d.rc)] rfl HR4.out (one_tag 272 rfl) (by simp) (by decide) HL4.out ?_)
      intro v5 w5 ho hg
      have HB5 := Lib.hid (HB4.out.trans (grown_below HO4.out HL4.out hg))
      obtain ⟨a5, c5, ev, _, _⟩ := (own_rd ho).shape
      subst ev
      have HQ5 := Lib.hid (AQ.app (us := [⟨272, (.slice d.ra d.rn d.rc), d.rl⟩]) HQ4.out (by intro t ht; rw [List.mem_singleton.1 ht]; exact .inl HD.out.r) ho hg)
      clear ho hg
      go_wp2
      go_ret
      rw [HE.out]
      exact ⟨_, _, _, _, rfl, rfl, rfl, HQ5.out, HB5.out⟩
end Go.Proofs.Ytcpeglljcipcbaa
