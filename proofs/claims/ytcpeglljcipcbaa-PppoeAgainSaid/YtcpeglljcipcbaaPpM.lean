/-
  Packets and questions in memory; the tags of an answer as they are gathered.
-/
import Derived.Test.YtcpeglljcipcbaaPpP
import Derived.Test.YtcpeglljcipcbaaTagD
import Derived.Test.YtcpeglljcipcbaaOwnC
namespace Go.Proofs.Ytcpeglljcipcbaa
open Go.RowKit
set_option linter.unusedVariables false
set_option linter.unusedSimpArgs false

theorem cells3 {w : World} {g : Nat} {x y z : Value} {t : TypeId} {fr : Nat × Nat} (h : w.heap[g]? = some (.cells #[x, y, z] t fr)) : w.cell? ⟨g, 0, none⟩ = some x ∧ w.cell? ⟨g, 1, none⟩ = some y ∧ w.cell? ⟨g, 2, none⟩ = some z :=
  ⟨by rw [cell_of_row w g _ _ _ _ h]; rfl, by rw [cell_of_row w g _ _ _ _ h]; rfl, by rw [cell_of_row w g _ _ _ _ h]; rfl⟩
theorem cells8 {w : World} {g : Nat} {a b c d e f k l : Value} {t : TypeId} {fr : Nat × Nat} (h : w.heap[g]? = some (.cells #[a, b, c, d, e, f, k, l] t fr)) :
    w.cell? ⟨g, 0, none⟩ = some a ∧ w.cell? ⟨g, 1, none⟩ = some b ∧ w.cell? ⟨g, 2, none⟩ = some c ∧ w.cell? ⟨g, 3, none⟩ = some d ∧ w.cell? ⟨g, 4, none⟩ = some e ∧ w.cell? ⟨g, 5, none⟩ = some f ∧ w.cell? ⟨g, 6, none⟩ = some k ∧ w.cell? ⟨g, 7, none⟩ = some l :=
  ⟨by rw [cell_of_row w g _ _ _ _ h]; rfl, by rw [cell_of_row w g _ _ _ _ h]; rfl, by rw [cell_of_row w g _ _ _ _ h]; rfl, by rw [cell_of_row w g _ _ _ _ h]; rfl, by rw [cell_of_row w g _ _ _ _ h]; rfl, by rw [cell_of_row w g _ _ _ _ h]; rfl, by rw [cell_of_row w g _ _ _ _ h]; rfl, by rw [cell_of_row w g _ _ _ _ h]; rfl⟩
theorem cell1 {w : World} {g : Nat} {x : Value} {t : TypeId} {fr : Nat × Nat} (h : w.heap[g]? = some (.cells #[x] t fr)) : w.cell? ⟨g, 0, none⟩ = some x := by rw [cell_of_row w g _ _ _ _ h]; rfl
theorem OwnB.of_app {w : World} {base : Nat} {e : TypeId} {v : Value} {l m : List UInt8} {n k : Nat} (h : w.ownsRow base e 1 v (n + k) (l.map u8v ++ m.map u8v)) (h1 : l.length = n) (h2 : m.length = k) : OwnB w base e v (l ++ m) := by
  unfold OwnB
  rw [List.length_append, h1, h2, List.map_append]
  exact h
theorem heap2_0' (w : World) (o p : Obj) : ((w.alloc o).alloc p).heap[w.heap.size]? = some o := by
  rw [Below.heap_alloc _ _ _ (by simp), heap_alloc_last]
theorem heap2_1' (w : World) (o p : Obj) : ((w.alloc o).alloc p).heap[w.heap.size + 1]? = some p := by
  have := heap_alloc_last (w.alloc o) p
  rwa [World.size_alloc] at this
theorem set3 {w : World} {g : Nat} {t : TypeId} {z0 z1 z2 : Value} (h : w.heap[g]? = some (.cells #[z0, z1, z2] t (0, 0))) (a b c : Value) :
    (((w.setCell ⟨g, 0, none⟩ a).setCell ⟨g, 1, none⟩ b).setCell ⟨g, 2, none⟩ c).heap[g]? = some (.cells #[a, b, c] t (0, 0)) :=
  heap_setCell_same _ g 2 _ t c (heap_setCell_same _ g 1 _ t b (heap_setCell_same _ g 0 _ t a h))
theorem own_set3 {w : World} {base g : Nat} {e : TypeId} {v : Value} {l : List UInt8} (h : OwnB w base e v l) (hg : g < base) (a b c : Value) : OwnB (((w.setCell ⟨g, 0, none⟩ a).setCell ⟨g, 1, none⟩ b).setCell ⟨g, 2, none⟩ c) base e v l :=
  ownsRow_setCell_below (ownsRow_setCell_below (ownsRow_setCell_below h hg a) hg b) hg c
/-- A slice just made is the call's own. -/
theorem own_new (w : World) (l : List Value) (e : TypeId) (n size : Nat) (hn : l.length = n * size) (hm : n ≤ maxLen) : (w.alloc (.cells l.toArray e)).ownsRow w.heap.size e size (.slice (some ⟨w.heap.size, 0, none⟩) n n) n l := by
  refine ⟨hn, .inr ⟨w.heap.size, n, l.toArray, rfl, Nat.le_refl _, heap_alloc_last _ _, Nat.le_refl _, hm, ?_, ?_⟩⟩
  · simpa using hn
  · simp [← hn]
/-- What a function tells that answers with a packet. -/
def PRes (r : PP × Int) (w : World) (e : Ending) (w' : World) : Prop :=
  ∃ A L C, e = .returned (.tuple #[.agg #[.int .i64 r.1.c, .int .i64 r.1.s, .slice A L C], .int .i64 r.2]) ∧ OwnB w' w.heap.size 5 (.slice A L C) r.1.l ∧ Below w.heap.size w w'
theorem PRes.none {r : PP × Int} {k : Int} {w w' : World} (h : r = (PP.zero, k)) (hb : Below w.heap.size w w') : PRes r w (.returned (.tuple #[.agg #[.int .i64 0, .int .i64 0, .slice Option.none 0 0], .int .i64 k])) w' := by
  subst h
  exact ⟨_, _, _, rfl, OwnB.nil _ _ _, hb⟩
theorem PRes.some {r : PP × Int} {c s : Int} {l : List UInt8} {A : Option Addr} {L C : Nat} {w w' : World} (h : r = (⟨c, s, l⟩, 0)) (ho : OwnB w' w.heap.size 5 (.slice A L C) l) (hb : Below w.heap.size w w') : PRes r w (.returned (.tuple #[.agg #[.int .i64 c, .int .i64 s, .slice A L C], .int .i64 0])) w' := by
  subst h
  exact ⟨_, _, _, rfl, ho, hb⟩
/-- A question as it lies in memory. -/
structure Dm where
  c : Int
  s : Int
  v : ByteArray
  ua : Option Addr
  un : Nat
  uc : Nat
  ul : List UInt8
  ra : Option Addr
  rn : Nat
  rc : Nat
  rl : List UInt8
  hu : Bool
  hr : Bool
  ka : Option Addr
  kn : Nat
  kc : Nat
  kl : List UInt8
def Dm.plain (d : Dm) : DD := ⟨d.c, d.s, d.v, d.ul, d.rl, d.hu, d.hr, d.kl⟩
structure DOk (w : World) (d : Dm) : Prop where
  u : Bs w (.slice d.ua d.un d.uc) d.ul
  r : Bs w (.slice d.ra d.rn d.rc) d.rl
  k : Bs w (.slice d.ka d.kn d.kc) d.kl
theorem DOk.below {w w' : World} {d : Dm} (h : DOk w d) (hb : Below w.heap.size w w') : DOk w' d := ⟨h.u.below hb, h.r.below hb, h.k.below hb⟩
/-- Its texts are not long. -/
structure DShort (d : Dm) : Prop where
  v : d.v.size ≤ 1600
  u : d.ul.length ≤ 1600
  r : d.rl.length ≤ 1600
  k : d.kl.length ≤ 1600
/-- All blocks stand but those of tags, and of variables that hold rows of tags. -/
structure Adds (w w' : World) : Prop where
  size : w.heap.size ≤ w'.heap.size
  keep : ∀ (b : Nat) (cs : Array Value) (e : TypeId) (fr : Nat × Nat), w.heap[b]? = some (Obj.cells cs e fr) → e ≠ 61 → e ≠ 62 → w'.heap[b]? = some (Obj.cells cs e fr)
theorem Adds.refl (w : World) : Adds w w := ⟨Nat.le_refl _, fun _ _ _ _ h _ _ => h⟩
theorem Adds.trans {a b c : World} (h : Adds a b) (k : Adds b c) : Adds a c := ⟨Nat.le_trans h.size k.size, fun g cs e fr hg h1 h2 => k.keep g cs e fr (h.keep g cs e fr hg h1 h2) h1 h2⟩
theorem Adds.of_below {w w' : World} (h : Below w.heap.size w w') : Adds w w' := ⟨h.size, fun g cs e fr hg _ _ => heap_below hg h⟩
/-- A value of a tag: it lies below, or in a block of bytes. -/
def LV (w0 w : World) (v : Value) (l : List UInt8) : Prop := Bs w0 v l ∨ (∃ b o n c cs fr, v = .slice (some ⟨b, o, none⟩) n c ∧ w.heap[b]? = some (.cells cs 5 fr) ∧ Bs w v l)
theorem LV.bs {w0 w : World} {v : Value} {l : List UInt8} (h : LV w0 w v l) (hb : Below w0.heap.size w0 w) : Bs w v l := by
  rcases h with h | ⟨_, _, _, _, _, _, _, _, h⟩
  · exact h.below hb
  · exact h
theorem Bs.same_block {w w' : World} {b o n c : Nat} {l : List UInt8} (h : Bs w (.slice (some ⟨b, o, none⟩) n c) l) (hg : w'.heap[b]? = w.heap[b]?) : Bs w' (.slice (some ⟨b, o, none⟩) n c) l := by
  obtain ⟨h0, ao, cap, e, h1, h2, h3, h4⟩ := h
  refine ⟨h0, ao, cap, e, h1, h2, h3, fun ad had j u hu => ?_⟩
  simp only [Value.slice.injEq] at e
  have e1 := e.1
  rw [had] at e1
  obtain rfl := Option.some.inj e1
  have := h4 _ had j u hu
  rw [Addr.add_lit] at this ⊢
  rw [World.cell?_of_block (w := w) hg]
  exact this
theorem LV.add {w0 w w' : World} {v : Value} {l : List UInt8} (h : LV w0 w v l) (ha : Adds w w') : LV w0 w' v l := by
  rcases h with h | ⟨b, o, n, c, cs, fr, rfl, hg, h⟩
  · exact .inl h
  · have hg' := ha.keep _ _ _ _ hg (by decide) (by decide)
    exact .inr ⟨b, o, n, c, cs, fr, rfl, hg', h.same_block (by rw [hg', hg])⟩
/-- The variable in block g holds the tags ts, a row of the call's own from w0 on. -/
structure AL (w0 w : World) (g : Nat) (ts : List Tg) : Prop where
  at_ : w0.heap.size ≤ g
  row : ∃ v, w.heap[g]? = some (.cells #[v] 62 (0, 0)) ∧ w.ownsRow w0.heap.size 61 2 v ts.length (flat ts)
  vals : ∀ t ∈ ts, LV w0 w t.val t.l
  low : Below w0.heap.size w0 w
/-- The same, of tags in plain words. -/
def AP (w0 w : World) (g : Nat) (ls : List PT) : Prop := ∃ ts, plain ts = ls ∧ AL w0 w g ts
theorem AP.at_ {w0 w : World} {g : Nat} {ls : List PT} (h : AP w0 w g ls) : w0.heap.size ≤ g := by obtain ⟨_, _, h⟩ := h; exact h.at_
theorem AP.low {w0 w : World} {g : Nat} {ls : List PT} (h : AP w0 w g ls) : Below w0.heap.size w0 w := by obtain ⟨_, _, h⟩ := h; exact h.low
theorem AL.lt {w0 w : World} {g : Nat} {ts : List Tg} (h : AL w0 w g ts) : g < w.heap.size := by
  obtain ⟨v, hv, _⟩ := h.row
  exact (Array.getElem?_eq_some_iff.1 hv).1
theorem AL.below {w0 w w' : World} {g : Nat} {ts : List Tg} (h : AL w0 w g ts) (hb : Below w.heap.size w w') : AL w0 w' g ts := by
  obtain ⟨v, hv, ho⟩ := h.row
  exact ⟨h.at_, ⟨v, heap_below hv hb, ownsRow_below ho hb⟩, fun t ht => (h.vals t ht).add (Adds.of_below hb), h.low.trans (hb.mono h.low.size)⟩
theorem AP.below {w0 w w' : World} {g : Nat} {ls : List PT} (h : AP w0 w g ls) (hb : Below w.heap.size w w') : AP w0 w' g ls := by
  obtain ⟨ts, h1, h2⟩ := h
  exact ⟨ts, h1, h2.below hb⟩
theorem AL.tr {w0 w : World} {g : Nat} {ts : List Tg} (h : AL w0 w g ts) : ∃ a c, w.heap[g]? = some (.cells #[.slice a ts.length c] 62 (0, 0)) ∧ TR w (.slice a ts.length c) ts.length ts := by
  obtain ⟨v, hv, ho⟩ := h.row
  have hr := own_rd ho
  obtain ⟨a, c, ev, _, _⟩ := hr.shape
  subst ev
  exact ⟨a, c, hv, hr, fun t ht => (h.vals t ht).bs h.low⟩
/-- '[]byte(s)': a new block of bytes. -/
theorem string_lv {src dst e : TypeId} (hs : Try.prog.underlying src = some .string) (hd : Try.prog.underlying dst = some (.slice e)) (he : Try.prog.underlying e = some (.int .u8)) (h5 : e = 5) (s : ByteArray) (hm : s.size ≤ maxLen) (w0 w : World) :
    ∃ c W1, (convert src dst (.string s)).run Try.prog w = .ok (.slice (some ⟨w.heap.size, 0, none⟩) s.size c) W1 ∧ LV w0 W1 (.slice (some ⟨w.heap.size, 0, none⟩) s.size c) (bl s) ∧ Below w.heap.size w W1 := by
  subst h5
  have hg := heap_alloc_last w.drew (.cells (bytesRow s (grownCap w s.size 0 5)) 5 ((bytesRow s (grownCap w s.size 0 5)).size, (bytesRow s (grownCap w s.size 0 5)).size + 1))
  rw [show w.drew.heap.size = w.heap.size from rfl] at hg
  have hl : (bl s).length = s.size := bl_length s
  have hb : Bs (w.drew.alloc (.cells (bytesRow s (grownCap w s.size 0 5)) 5 ((bytesRow s (grownCap w s.size 0 5)).size, (bytesRow s (grownCap w s.size 0 5)).size + 1))) (.slice (some ⟨w.heap.size, 0, none⟩) s.size (grownCap w s.size 0 5)) (bl s) := Bs.of_rd (OwnC.rd (ownC_string w 5 s hm)) rfl
  exact ⟨_, _, run_bytes_of_string w src dst _ s hs hd he, .inr ⟨_, _, _, _, _, _, rfl, hg, hb⟩, (Gr.drew w).trans ((Below.refl _ _).alloc (Nat.le_refl _) _)⟩
end Go.Proofs.Ytcpeglljcipcbaa
