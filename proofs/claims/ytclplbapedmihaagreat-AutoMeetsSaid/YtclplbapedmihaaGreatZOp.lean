/- OpP OpM OpA OpC OpE OpF OpD OpB OpG OpR OpenO OpenQ -/
import Derived.Test.YtclplbapedmihaaGreatZBase
import Derived.IntWalk
import Derived.RangeFuncNested
import Derived.Shelf.Abstract
import Derived.WalkKit
import Derived.OwnWalkIn
import Derived.TacticsInMore
import Derived.LoopNIn
import Derived.LoopIn
import Derived.Deep.SlicePairs
import Derived.ChangeArms
namespace Go.Proofs.YtclplbapedmihaaGreat.O
set_option maxRecDepth 4000
set_option linter.unusedVariables false
set_option linter.unusedSimpArgs false
abbrev PT := Int × List UInt8
def isT (t : PT) : Prop := 0 <= t.1 /\ t.1 <= 255 /\ t.2.length <= 253
instance (t : PT) : Decidable (isT t) := by unfold isT; infer_instance
def tagL (t : PT) : List UInt8 := UInt8.ofNat t.1.toNat :: UInt8.ofNat (t.2.length + 2) :: t.2
def wireT (ls : List PT) : List UInt8 := ls.flatMap tagL
theorem tagL_length (t : PT) : (tagL t).length = 2 + t.2.length := by simp [tagL]; omega
theorem wireT_cons (t : PT) (ls : List PT) : wireT (t :: ls) = tagL t ++ wireT ls := rfl
theorem wireT_append (a b : List PT) : wireT (a ++ b) = wireT a ++ wireT b := by simp [wireT]
theorem wireT_snoc (ls : List PT) (k : Nat) (h : k < ls.length) : wireT (ls.take (k + 1)) = wireT (ls.take k) ++ tagL ls[k] := by
 rw [List.take_succ_eq_append_getElem h, wireT_append]; simp [wireT]
theorem wireT_le (ls : List PT) (M : Nat) (h : ∀ t ∈ ls, t.2.length <= M) : (wireT ls).length <= ls.length * (2 + M) := by
 induction ls with
 | nil => simp [wireT]
 | cons t ls ih =>
  rw [wireT_cons, List.length_append, tagL_length, List.length_cons, Nat.add_mul];have h1 := h t (by simp);have h2 := ih (fun t ht => h t (by simp [ht]));omega
theorem wireT_take_le (ls : List PT) (k : Nat) : (wireT (ls.take k)).length <= (wireT ls).length := by
 conv => rhs; rw [<- List.take_append_drop k ls, wireT_append, List.length_append]
 omega
def encE (ls : List PT) : Int := if 64 < ls.length then 3 else if ∀ t ∈ ls, isT t then (if 1488 < (wireT ls).length then 2 else 0) else 80
def encB (ls : List PT) : List UInt8 := if encE ls = 0 then wireT ls else []
theorem encE_many {ls : List PT} (h : 64 < ls.length) : encE ls = 3 := if_pos h
theorem encE_tag {ls : List PT} (h : ¬ 64 < ls.length) (h2 : ¬ ∀ t ∈ ls, isT t) : encE ls = 80 := by unfold encE; rw [if_neg h, if_neg h2]
theorem encE_long {ls : List PT} (h : ¬ 64 < ls.length) (h2 : ∀ t ∈ ls, isT t) (h3 : 1488 < (wireT ls).length) : encE ls = 2 := by unfold encE; rw [if_neg h, if_pos h2, if_pos h3]
theorem encE_ok {ls : List PT} (h : ¬ 64 < ls.length) (h2 : ∀ t ∈ ls, isT t) (h3 : ¬ 1488 < (wireT ls).length) : encE ls = 0 := by unfold encE; rw [if_neg h, if_pos h2, if_neg h3]
theorem encE_zero {ls : List PT} (h : encE ls = 0) : ls.length <= 64 /\ (∀ t ∈ ls, isT t) /\ (wireT ls).length <= 1488 := by
 unfold encE at h;split at h
 · cases h
 · split at h
   · split at h
     · cases h
     · rename_i h1 h2 h3; exact ⟨by omega, h2, by omega⟩
   · cases h
theorem encB_no {ls : List PT} (h : encE ls ≠ 0) : encB ls = [] := if_neg h
theorem encB_yes {ls : List PT} (h : encE ls = 0) : encB ls = wireT ls := if_pos h
theorem encB_le (ls : List PT) : (encB ls).length <= 1488 := by
 by_cases h : encE ls = 0
 · rw [encB_yes h]; exact (encE_zero h).2.2
 · rw [encB_no h]; simp
def fok (l : List UInt8) : Prop := 2 <= l.length /\ 2 <= bN l 1 /\ bN l 1 <= l.length
instance (l : List UInt8) : Decidable (fok l) := by unfold fok; infer_instance
def headP (l : List UInt8) : PT := ((bN l 0 : Int), (l.drop 2).take (bN l 1 - 2))
def decL (acc : List PT) (l : List UInt8) : List PT × Int :=
 if h0 : l.length = 0 then (acc, 0)
 else if hf : fok l then (if acc.length = 64 then ([], 3) else decL (acc ++ [headP l]) (l.drop (bN l 1)))
 else ([], 80)
termination_by l.length
decreasing_by rw [List.length_drop]; have := hf.2.1; omega
theorem decL_nil (acc : List PT) (l : List UInt8) (h : l.length = 0) : decL acc l = (acc, 0) := by rw [decL, dif_pos h]
theorem decL_bad (acc : List PT) (l : List UInt8) (h : l.length ≠ 0) (hf : ¬ fok l) : decL acc l = ([], 80) := by rw [decL, dif_neg h, dif_neg hf]
theorem fok_pos {l : List UInt8} (hf : fok l) : l.length ≠ 0 := by have := hf.1; omega
theorem decL_many (acc : List PT) (l : List UInt8) (hf : fok l) (h4 : acc.length = 64) : decL acc l = ([], 3) := by rw [decL, dif_neg (fok_pos hf), dif_pos hf, if_pos h4]
theorem decL_next (acc : List PT) (l : List UInt8) (hf : fok l) (h4 : acc.length ≠ 64) : decL acc l = decL (acc ++ [headP l]) (l.drop (bN l 1)) := by rw [decL, dif_neg (fok_pos hf), dif_pos hf, if_neg h4]
def dec (l : List UInt8) : List PT × Int := if 1488 < l.length then ([], 2) else decL [] l
theorem dec_long {l : List UInt8} (h : 1488 < l.length) : dec l = ([], 2) := if_pos h
theorem dec_fits {l : List UInt8} (h : ¬ 1488 < l.length) : dec l = decL [] l := if_neg h
theorem head_bN0 {t : PT} (h : isT t) (r : List UInt8) : bN (tagL t ++ r) 0 = t.1.toNat := by
 unfold isT at h;simp [tagL, bN];omega
theorem head_bN1 {t : PT} (h : isT t) (r : List UInt8) : bN (tagL t ++ r) 1 = t.2.length + 2 := by
 unfold isT at h;simp [tagL, bN];omega
theorem head_fok {t : PT} (h : isT t) (r : List UInt8) : fok (tagL t ++ r) := by
 unfold fok;rw [head_bN1 h, List.length_append, tagL_length];omega
theorem head_P {t : PT} (h : isT t) (r : List UInt8) : headP (tagL t ++ r) = t := by
 unfold headP;rw [head_bN0 h, head_bN1 h];unfold isT at h;have e1 : ((t.1.toNat : Nat) : Int) = t.1 := Int.toNat_of_nonneg h.1;have e2 : ((tagL t ++ r).drop 2).take (t.2.length + 2 - 2) = t.2 := by simp [tagL]
 rw [e1, e2]
theorem head_drop {t : PT} (h : isT t) (r : List UInt8) : (tagL t ++ r).drop (bN (tagL t ++ r) 1) = r := by
 rw [head_bN1 h];simp [tagL]
theorem decL_wire (ls : List PT) : ∀ (acc : List PT) (r : List UInt8), (∀ t ∈ ls, isT t) -> acc.length + ls.length <= 64 -> decL acc (wireT ls ++ r) = decL (acc ++ ls) r := by
 induction ls with
 | nil => intro acc r _ _; simp [wireT]
 | cons t ls ih =>
  intro acc r h hn;have ht := h t (by simp);rw [List.length_cons] at hn;rw [wireT_cons, List.append_assoc, decL_next _ _ (head_fok ht _) (by omega), head_P ht, head_drop ht];rw [ih _ _ (fun t ht => h t (by simp [ht])) (by simp; omega)];simp
theorem head_again (l : List UInt8) (hf : fok l) : tagL (headP l) ++ l.drop (bN l 1) = l := by
 obtain ⟨h1, h2, h3⟩ := hf
 match l, h1 with
 | a :: b :: r, _ =>
  have e1 : bN (a :: b :: r) 1 = b.toNat := by simp [bN]
  have e0 : bN (a :: b :: r) 0 = a.toNat := by simp [bN]
  rw [e1] at h2 h3;obtain ⟨k, hk⟩ : ∃ k, b.toNat = k + 2 := ⟨b.toNat - 2, by omega⟩;have hl : (r.take k).length = k := by rw [List.length_take]; simp at h3; omega
  have eb : UInt8.ofNat (k + 2) = b := by rw [<- hk, UInt8.ofNat_toNat]
  unfold headP tagL;rw [e1, e0, hk];simp [hl, eb]
theorem headP_isT (l : List UInt8) (hf : fok l) : isT (headP l) := by
 have h0 := bN_lt l 0;have h1 := bN_lt l 1;refine ⟨by show (0 : Int) <= (bN l 0 : Int); omega, by show (bN l 0 : Int) <= 255; omega, ?_⟩;show ((l.drop 2).take (bN l 1 - 2)).length <= 253;rw [List.length_take]; omega
theorem decL_again (n : Nat) : ∀ (acc : List PT) (l : List UInt8) (m : List PT), l.length <= n -> acc.length <= 64 -> decL acc l = (m, 0) -> ∃ ls, m = acc ++ ls /\ (∀ t ∈ ls, isT t) /\ wireT ls = l /\ m.length <= 64 := by
 induction n with
 | zero =>
  intro acc l m hn ha h;rw [decL_nil _ _ (by omega)] at h;obtain rfl : acc = m := congrArg Prod.fst h;exact ⟨[], by simp, by simp, (List.eq_nil_of_length_eq_zero (by omega)).symm, ha⟩
 | succ n ih =>
  intro acc l m hn ha h
  by_cases h0 : l.length = 0
  · rw [decL_nil _ _ h0] at h;obtain rfl : acc = m := congrArg Prod.fst h;exact ⟨[], by simp, by simp, (List.eq_nil_of_length_eq_zero h0).symm, ha⟩
  by_cases hf : fok l
  · by_cases hM : acc.length = 64
    · rw [decL_many _ _ hf hM] at h;have : (3 : Int) = 0 := congrArg Prod.snd h;omega
    rw [decL_next _ _ hf hM] at h;obtain ⟨ls, h1, h2, h3, h5⟩ := ih _ _ _ (by rw [List.length_drop]; have := hf.2.1; omega) (by simp; omega) h;refine ⟨headP l :: ls, by rw [h1]; simp, ?_, ?_, h5⟩
    · intro t ht
      rcases List.mem_cons.1 ht with rfl | ht
      · exact headP_isT l hf
      · exact h2 t ht
    · rw [wireT_cons, h3];exact head_again l hf
  · rw [decL_bad _ _ h0 hf] at h;have : (80 : Int) = 0 := congrArg Prod.snd h;omega
theorem decL_err (n : Nat) : ∀ (acc : List PT) (l : List UInt8), l.length <= n -> (decL acc l).2 ≠ 0 -> (decL acc l).1 = [] := by
 induction n with
 | zero => intro acc l hn h; rw [decL_nil _ _ (by omega)] at h; exact absurd rfl h
 | succ n ih =>
  intro acc l hn h
  by_cases h0 : l.length = 0
  · rw [decL_nil _ _ h0] at h; exact absurd rfl h
  by_cases hf : fok l
  · by_cases hM : acc.length = 64
    · rw [decL_many _ _ hf hM]
    rw [decL_next _ _ hf hM] at h ⊢;exact ih _ _ (by rw [List.length_drop]; have := hf.2.1; omega) h
  · rw [decL_bad _ _ h0 hf]
theorem dec_err {l : List UInt8} (h : (dec l).2 ≠ 0) : (dec l).1 = [] := by
 unfold dec at h ⊢;split
 · rfl
 · rename_i h1; rw [if_neg h1] at h; exact decL_err _ _ _ (Nat.le_refl _) h
theorem dec_wire {ls : List PT} (h : encE ls = 0) : dec (wireT ls) = (ls, 0) := by
 obtain ⟨h1, h2, h3⟩ := encE_zero h;rw [dec_fits (by omega)];have := decL_wire ls [] [] h2 (by simpa using h1);rw [List.append_nil, decL_nil _ [] rfl] at this;simpa using this
theorem dec_again {l : List UInt8} {m : List PT} (h : dec l = (m, 0)) : encE m = 0 /\ wireT m = l := by
 unfold dec at h;split at h
 · have : (2 : Int) = 0 := congrArg Prod.snd h;omega
 · obtain ⟨ls, h1, h2, h3, h4⟩ := decL_again _ _ _ _ (Nat.le_refl _) (by decide) h;rw [List.nil_append] at h1;subst h1;exact ⟨encE_ok (by omega) h2 (by rw [h3]; assumption), h3⟩
theorem dec_few {l : List UInt8} {m : List PT} (h : dec l = (m, 0)) : m.length <= 64 /\ ∀ t ∈ m, isT t := by
 obtain ⟨h1, h2, _⟩ := encE_zero (dec_again h).1;exact ⟨h1, h2⟩
def makOk (T S N : Int) : Prop := 0 <= T /\ T <= 255 /\ 1 <= S /\ S <= 4 /\ 0 <= N /\ N < ((256 ^ S.toNat : Nat) : Int)
instance (T S N : Int) : Decidable (makOk T S N) := by unfold makOk; infer_instance
end Go.Proofs.YtclplbapedmihaaGreat.O
namespace Go.Proofs.YtclplbapedmihaaGreat.O
set_option maxRecDepth 4000
open Go.RowKit
set_option linter.unusedVariables false
set_option linter.unusedSimpArgs false
structure Tg where
 typ : Int
 val : Value
 l : List UInt8
def Tg.plain (t : Tg) : PT := (t.typ, t.l)
def plain (ts : List Tg) : List PT := ts.map Tg.plain
def flat (ts : List Tg) : List Value := ts.flatMap fun t => [.int .i64 t.typ, t.val]
theorem flat_cons (t : Tg) (ts : List Tg) : flat (t :: ts) = .int .i64 t.typ :: t.val :: flat ts := rfl
theorem flat_append (a b : List Tg) : flat (a ++ b) = flat a ++ flat b := by simp [flat]
theorem flat_length (ts : List Tg) : (flat ts).length = ts.length * 2 := by
 induction ts with
 | nil => rfl
 | cons t ts ih => rw [flat_cons, List.length_cons, List.length_cons, List.length_cons, ih]; omega
theorem flat_get (ts : List Tg) : ∀ (i : Nat) (h : i < ts.length), (flat ts)[i * 2]? = some (.int .i64 ts[i].typ) /\ (flat ts)[i * 2 + 1]? = some ts[i].val := by
 induction ts with
 | nil => intro i h; simp at h
 | cons t ts ih =>
  intro i h;cases i with
  | zero => exact ⟨rfl, rfl⟩
  | succ i =>
   have := ih i (by simpa using h);rw [flat_cons, show (i + 1) * 2 = i * 2 + 1 + 1 by omega];simpa using this
theorem plain_length (ts : List Tg) : (plain ts).length = ts.length := by simp [plain]
theorem plain_append (a b : List Tg) : plain (a ++ b) = plain a ++ plain b := by simp [plain]
theorem plain_get (ts : List Tg) (i : Nat) (h : i < ts.length) : (plain ts)[i]'(by rw [plain_length]; exact h) = (ts[i].typ, ts[i].l) := by simp [plain, Tg.plain]
structure TR (w : World) (v : Value) (n : Nat) (ts : List Tg) : Prop where
 rd : Rd w 2 v n (flat ts)
 vals : ∀ t ∈ ts, Bs w t.val t.l
theorem TR.len {w : World} {v : Value} {n : Nat} {ts : List Tg} (h : TR w v n ts) : ts.length = n := by
 have := h.rd.1;rw [flat_length] at this;omega
theorem TR.below {w w' : World} {v : Value} {n : Nat} {ts : List Tg} (h : TR w v n ts) (hb : Below w.heap.size w w') : TR w' v n ts := ⟨h.rd.below hb, fun t ht => (h.vals t ht).below hb⟩
theorem TR.nil (w : World) : TR w (.slice none 0 0) 0 [] := ⟨Rd.nil w 2, fun t h => by cases h⟩
theorem TR.shape {w : World} {v : Value} {n : Nat} {ts : List Tg} (h : TR w v n ts) : ∃ ao cap, v = .slice ao n cap /\ n <= cap /\ cap <= maxLen := h.rd.shape
theorem TR.cells {w : World} {ao : Option Addr} {n c : Nat} {ts : List Tg} (h : TR w (.slice ao n c) n ts) (hn : 0 < n) :
 ∃ b o, ao = some ⟨b, o, none⟩ /\ b < w.heap.size /\ ∀ i (hi : i < ts.length), w.cell? ⟨b, o + i * 2, none⟩ = some (.int .i64 ts[i].typ) /\ w.cell? ⟨b, o + i * 2 + 1, none⟩ = some ts[i].val := by
 obtain ⟨b, o, h1, h2, h3⟩ := Rd.cells h.rd hn (by omega);exact ⟨b, o, h1, h2, fun i hi => ⟨h3 _ _ (flat_get ts i hi).1, h3 _ _ (flat_get ts i hi).2⟩⟩
theorem TR.val {w : World} {v : Value} {n : Nat} {ts : List Tg} (h : TR w v n ts) (i : Nat) (hi : i < ts.length) : Bs w ts[i].val ts[i].l := h.vals _ (List.getElem_mem hi)
structure TO (w : World) (base : Nat) (v : Value) (ts : List Tg) : Prop where
 own : w.ownsRow base 69 2 v ts.length (flat ts)
 vals : ∀ t ∈ ts, OwnB w base 5 t.val t.l
theorem TO.tr {w : World} {base : Nat} {v : Value} {ts : List Tg} (h : TO w base v ts) : TR w v ts.length ts := ⟨own_rd h.own, fun t ht => (h.vals t ht).bs⟩
theorem TO.nil (w : World) (base : Nat) : TO w base (.slice none 0 0) [] := ⟨World.ownsRow_nil w base _ 2, fun t h => by cases h⟩
theorem TO.below {w w' : World} {base : Nat} {v : Value} {ts : List Tg} (h : TO w base v ts) (hb : Below w.heap.size w w') : TO w' base v ts := ⟨ownsRow_below h.own hb, fun t ht => (h.vals t ht).below hb⟩
theorem TO.mono {w : World} {base base' : Nat} {v : Value} {ts : List Tg} (h : TO w base v ts) (hb : base' <= base) : TO w base' v ts := ⟨ownsRow_mono h.own hb, fun t ht => (h.vals t ht).mono hb⟩
theorem TO.more {w w' : World} {base : Nat} {v v' : Value} {ts : List Tg} {t : Tg} (h : TO w base v ts) (ht : OwnB w base 5 t.val t.l) (ho : w'.ownsRow base 69 2 v' (ts.length + 1) (flat ts ++ [.int .i64 t.typ, t.val])) (hg : w.grownBy w' v.ownBlock) :
 TO w' base v' (ts ++ [t]) := by
 refine ⟨?_, fun u hu => ?_⟩
 · rw [flat_append, List.length_append]; exact ho
 · rcases List.mem_append.1 hu with hu | hu
   · exact (h.vals u hu).kept hg (own_ne_block (h.vals u hu) h.own (by decide))
   · rw [List.mem_singleton.1 hu];exact ht.kept hg (own_ne_block ht h.own (by decide))
theorem infoT : (Tryz.prog.info? 69).map (fun i => (i.zero, i.size, i.bytes)) = some (some (.agg #[.int .i64 0, .slice none 0 0]), 2, 32) := by kernel_rfl
theorem sizeT : (Tryz.prog.info? 69).map (·.size) = some 2 := by kernel_rfl
theorem one_tag {v : Value} (t : Int) (h : v.oneCell' = true) : ∀ u ∈ [Value.int .i64 t, v], u.oneCell' = true := by
 intro u hu;simp only [List.mem_cons, List.not_mem_nil, or_false] at hu
 rcases hu with rfl | rfl
 · rfl
 · exact h
theorem builtT (t : Int) (A : Option Addr) (L C : Nat) : Tryz.prog.built 69 [(0, .int .i64 t), (1, .slice A L C)] = some #[.int .i64 t, .slice A L C] := by kernel_rfl
theorem range_gr {w w' : World} {g off : Nat} {cs : List Value} (hw : Below w.heap.size w w') (h : w.rangeAt g off cs) : w'.rangeAt g off cs := fun j v hj => cell_gr hw (h j v hj)
theorem isType_any (T : Int) (w : World) :
 Calls Tryz.prog 90 #[.int .i64 T] w fun e w' => e = .returned (.bool (decide (0 <= T /\ T <= 255))) /\ w = w' := by
 by_cases h1 : 0 <= T
 · go_enter Tryz.func90, Tryz.ntmps90
   go_wp2
   go_ret
   refine ⟨by simp [h1]; try (intros; omega), rfl⟩
 · go_enter Tryz.func90, Tryz.ntmps90
   go_wp2
   go_ret
   refine ⟨by simp [h1]; try (intros; omega), rfl⟩
theorem mayBe_any (T : Int) (a : Option Addr) (n c : Nat) (l : List UInt8) (hn : l.length = n) (w : World) :
 Calls Tryz.prog 76 #[.agg #[.int .i64 T, .slice a n c]] w fun e w' => e = .returned (.bool (decide (isT (T, l)))) /\ Below w.heap.size w w' := by
 have e : decide (isT (T, l)) = (decide (0 <= T /\ T <= 255) && decide ((n : Int) <= 253)) := by
  rw [Bool.eq_iff_iff];simp only [Bool.and_eq_true, decide_eq_true_eq];show (0 <= T /\ T <= 255 /\ l.length <= 253) ↔ _;omega
 rw [e];clear e hn;have IT := hd_ (isType_any T (w.alloc (.cells #[.int .i64 T, .slice a n c] 69)))
 by_cases h1 : 0 <= T /\ T <= 255
 · have e1 : decide (0 <= T /\ T <= 255) = true := decide_eq_true h1;rw [e1] at IT ⊢;clear e1 h1;go_enter Tryz.func76, Tryz.ntmps76
   go_wp2_with fail
   refine IT.out.mono ?_;rintro e w1 ⟨rfl, rfl⟩;go_wp2
   go_ret
   refine ⟨by simp; try omega, ?_⟩;exact (Below.refl _ _).alloc (Nat.le_refl _) _
 · have e1 : decide (0 <= T /\ T <= 255) = false := decide_eq_false h1;rw [e1] at IT ⊢;clear e1 h1;go_enter Tryz.func76, Tryz.ntmps76
   go_wp2_with fail
   refine IT.out.mono ?_;rintro e w1 ⟨rfl, rfl⟩;go_wp2
   go_ret
   refine ⟨by simp; try omega, ?_⟩;exact (Below.refl _ _).alloc (Nat.le_refl _) _
theorem is_any (T : Int) (a : Option Addr) (n c : Nat) (l : List UInt8) (hn : l.length = n) (w : World) :
 Calls Tryz.prog 49 #[.agg #[.int .i64 T, .slice a n c]] w fun e w' => e = .returned (.bool (decide (isT (T, l)))) /\ Below w.heap.size w w' := by
 have e : decide (isT (T, l)) = (decide (0 <= T) && decide (T <= 255) && decide ((n : Int) <= 253)) := by
  rw [Bool.eq_iff_iff];simp only [Bool.and_eq_true, decide_eq_true_eq];show (0 <= T /\ T <= 255 /\ l.length <= 253) ↔ _;omega
 rw [e];clear e hn
 by_cases h1 : 0 <= T
 · by_cases h2 : T <= 255
   · go_enter Tryz.func49, Tryz.ntmps49
     go_wp2
     go_ret
     refine ⟨by simp [h1, h2]; try omega, ?_⟩;exact (Below.refl _ _).alloc (Nat.le_refl _) _
   · go_enter Tryz.func49, Tryz.ntmps49
     go_wp2
     go_ret
     refine ⟨by simp [h1, h2]; try omega, ?_⟩;exact (Below.refl _ _).alloc (Nat.le_refl _) _
 · go_enter Tryz.func49, Tryz.ntmps49
   go_wp2
   go_ret
   refine ⟨by simp [h1]; try omega, ?_⟩;exact (Below.refl _ _).alloc (Nat.le_refl _) _
theorem sizeOf_any (a : Option Addr) (n c : Nat) (l : List UInt8) (hn : l.length = n) (w : World) (hb : Bs w (.slice a n c) l) :
 Calls Tryz.prog 139 #[.slice a n c] w fun e w' => (∃ k : Nat, e = .returned (.tuple #[.int .i64 (k : Int), .bool (decide (fok l))]) /\ (fok l -> k = bN l 1)) /\ w = w' := by
 subst hn;obtain ⟨_, _, es0, hc0, hm0⟩ := hb.shape;simp only [Value.slice.injEq] at es0;obtain ⟨rfl, z0, rfl⟩ := es0;clear z0;unfold maxLen at hm0
 by_cases h2 : l.length < 2
 · have hf : ¬ fok l := fun h => by have := h.1; omega
   have e : decide (fok l) = false := decide_eq_false hf;rw [e];have HF := hd_ hf;clear hb e hf;go_enter Tryz.func139, Tryz.ntmps139
   go_wp2
   go_ret2
   exact ⟨⟨0, rfl, fun h => absurd h HF.out⟩, rfl⟩
 · obtain ⟨b, o, rfl, hbl, hc⟩ := hb.cells (by omega);have h1 := hc 1 (by omega);have e : decide (fok l) = (decide (2 <= (bN l 1 : Int)) && decide ((bN l 1 : Int) <= (l.length : Int))) := by
    rw [Bool.eq_iff_iff];simp only [Bool.and_eq_true, decide_eq_true_eq];unfold fok;omega
   have HE := hd_ e;have hk := bN_lt l 1;rw [<- bN_get l 1 (by omega)] at h1;generalize bN l 1 = k at HE h1 hk ⊢;clear hc hb e
   by_cases hk2 : (2 : Int) <= (k : Int)
   · rw [HE.out];go_enter Tryz.func139, Tryz.ntmps139
     go_wp2
     go_ret2
     exact ⟨⟨k, by simp [hk2]; try (intros; omega), fun _ => rfl⟩, rfl⟩
   · rw [HE.out];go_enter Tryz.func139, Tryz.ntmps139
     go_wp2
     go_ret2
     exact ⟨⟨k, by simp [hk2]; try (intros; omega), fun _ => rfl⟩, rfl⟩
def EncR (ls : List PT) (w : World) (e : Ending) (w' : World) : Prop :=
 ∃ v, e = .returned (.tuple #[v, .int .i64 (encE ls)]) /\ OwnB w' w.heap.size 5 v (encB ls) /\ Below w.heap.size w w'
theorem EncR.none {ls : List PT} {w w' : World} {k : Int} (hk : encE ls = k) (h : k ≠ 0) (hb : Below w.heap.size w w') : EncR ls w (.returned (.tuple #[.slice Option.none 0 0, .int .i64 k])) w' := by
 subst hk;refine ⟨_, rfl, ?_, hb⟩;rw [encB_no h];exact OwnB.nil _ _ _
theorem EncR.some {ls : List PT} {w w' : World} {v : Value} (h : encE ls = 0) (ho : OwnB w' w.heap.size 5 v (wireT ls)) (hb : Below w.heap.size w w') : EncR ls w (.returned (.tuple #[v, .int .i64 0])) w' := by
 refine ⟨v, by rw [h], ?_, hb⟩;rw [encB_yes h];exact ho
structure EI (ts : List Tg) (k S : Nat) : Prop where
 ok : ∀ j (hj : j < k) (h2 : j < ts.length), isT ts[j].plain
 size : S = (wireT ((plain ts).take k)).length
theorem EI.zero (ts : List Tg) : EI ts 0 0 := ⟨fun j hj => by omega, by simp [wireT]⟩
theorem EI.next {ts : List Tg} {k S : Nat} (h : EI ts k S) (hk : k < ts.length) (ht : isT ts[k].plain) : EI ts (k + 1) (S + (2 + ts[k].l.length)) := by
 refine ⟨fun j hj h2 => ?_, ?_⟩
 · by_cases e : j = k
   · subst e; exact ht
   · exact h.ok j (by omega) h2
 · rw [wireT_snoc _ k (by rw [plain_length]; exact hk), List.length_append, <- h.size, tagL_length, plain_get ts k hk]
theorem EI.all {ts : List Tg} {S : Nat} (h : EI ts ts.length S) : (∀ t ∈ plain ts, isT t) /\ S = (wireT (plain ts)).length := by
 refine ⟨fun t ht => ?_, ?_⟩
 · obtain ⟨x, hx, rfl⟩ := List.mem_map.1 ht;obtain ⟨i, hi, rfl⟩ := List.mem_iff_getElem.1 hx;exact h.ok i hi hi
 · have := h.size
   rwa [<- plain_length, List.take_length] at this
theorem EI.le {ts : List Tg} {k S : Nat} (h : EI ts k S) (hk : k <= ts.length) : S <= k * 255 := by
 rw [h.size];refine Nat.le_trans (wireT_le _ 253 fun t ht => ?_) ?_
 · obtain ⟨i, hi, rfl⟩ := List.mem_iff_getElem.1 ht;rw [List.length_take, plain_length] at hi;rw [List.getElem_take, plain_get ts i (by omega)];exact (h.ok i (by omega) (by omega)).2.2
 · rw [List.length_take, plain_length];exact Nat.mul_le_mul (by omega) (by omega)
theorem not_all {ts : List Tg} {k : Nat} (hk : k < ts.length) (h : ¬ isT ts[k].plain) : ¬ ∀ t ∈ plain ts, isT t := fun h2 => h (h2 _ (List.mem_map.2 ⟨_, List.getElem_mem hk, rfl⟩))
theorem two_u8 (x y : Nat) (hx : x < 256) (hy : y < 256) : [Value.int .u8 (x : Int), .int .u8 (y : Int)] = [UInt8.ofNat x, UInt8.ofNat y].map u8v := by
 simp only [List.map_cons, List.map_nil, u8v_ofNat];rw [Nat.mod_eq_of_lt hx, Nat.mod_eq_of_lt hy]
theorem wireT_head (ts : List Tg) (k X L : Nat) (hk : k < ts.length) (hX : (X : Int) = ts[k].typ) (hL : ts[k].l.length = L) :
 wireT ((plain ts).take (k + 1)) = wireT ((plain ts).take k) ++ ([UInt8.ofNat X, UInt8.ofNat (2 + L)] ++ ts[k].l) := by
 rw [wireT_snoc _ k (by rw [plain_length]; exact hk), plain_get ts k hk];unfold tagL;simp only [<- hX, Int.toNat_natCast, hL, Nat.add_comm L 2];rfl
set_option maxRecDepth 20000 in
set_option maxHeartbeats 4000000 in
theorem encode_any (ao : Option Addr) (n c : Nat) (ts : List Tg) (w : World) (hr : TR w (.slice ao n c) n ts) (hn : n <= 1000) (hm : ∀ x ∈ ts, x.l.length <= 1000000) :
 Calls Tryz.prog 46 #[.slice ao n c] w (EncR (plain ts) w) := by
 obtain ⟨i0, hi, hz0, hz1, hz2⟩ := info_parts info5;have hl := hr.len;have HR := hd_ hr;clear hr
 by_cases h64 : 64 < n
 · have HE := hd_ (encE_many (ls := plain ts) (by rw [plain_length]; omega));go_enter Tryz.func46, Tryz.ntmps46
   go_wp2
   go_ret2
   exact EncR.none HE.out (by decide) (Below.refl _ _)
 have HN64 : Hid (¬ 64 < (plain ts).length) := by show ¬ _; rw [plain_length]; omega
 go_enter Tryz.func46, Tryz.ntmps46
 go_wp2
 go_loopw [4, 15] (fun sv iv wr => ∃ k S : Nat, k <= n /\ iv = .int .i64 k /\ sv = .int .i64 S /\ EI ts k S /\ Below w.heap.size w wr) (fun _ iv _ => n - (intOf iv).toNat)
 case atStart => exact ⟨0, 0, Nat.zero_le _, rfl, rfl, EI.zero ts, Below.refl _ _⟩
 case round =>
  obtain ⟨k, S, hk, rfl, rfl, hei, hb⟩ := hrel;have HEI := hd_ hei;have HSL := hd_ (hei.le (by omega));have HB := hd_ hb;have HBN := hd_ hb.size;clear hei hb
  by_cases hlt : k < n
  · obtain ⟨b, o, rfl, hbl, hc⟩ := (HR.out.below HB.out).cells (by omega);obtain ⟨hc0, hc1⟩ := hc k (by omega);obtain ⟨A, L, C, hv, hL, hLC, hCm⟩ := (HR.out.val k (by omega)).sl;rw [hv] at hc1;have HE := hd_ hv;have HL := hd_ hL;have HM := hd_ (hm ts[k] (List.getElem_mem _));obtain ⟨T, hT⟩ : ∃ T, T = ts[k].typ := ⟨_, rfl⟩;rw [<- hT] at hc0;have HTT := hd_ hT;have HB1 := hd_ (HB.out.trans (((Below.refl wr.heap.size wr).alloc (Nat.le_refl _) (.cells #[.int .i64 T, .slice A L C] 69)).mono HBN.out));have HG1 : Hid ((wr.alloc (.cells #[.int .i64 T, .slice A L C] 69)).heap[wr.heap.size]? = some (.cells #[.int .i64 T, .slice A L C] 69)) := heap_alloc_last _ _;have MB := hd_ (mayBe_any T A L C ts[k].l HL.out (wr.alloc (.cells #[.int .i64 T, .slice A L C] 69)));have HPL : Hid (ts[k].plain = (T, ts[k].l)) := by show _ = _; rw [hT]; rfl
    have hLm : L <= 1000000 := by have := HM.out; omega
    clear hv hL hT hc hm;go_wp2_with fail
    refine MB.out.mono ?_;rintro e w1 ⟨rfl, hb1⟩;have HB2 := hd_ (HB1.out.trans (hb1.mono HB1.out.size));have HG2 := hd_ (heap_below HG1.out hb1);obtain ⟨k0, k1⟩ := copy_cells HG2.out;clear hb1 hc0 hc1
    by_cases hT : isT (T, ts[k].l)
    · have hd : decide (isT (T, ts[k].l)) = true := decide_eq_true hT;have HIT := hd_ hT;rw [hd];have hs2 := HSL.out;clear hd hT;go_wp2
      go_roundw
      case rel =>
       have HN := EI.next HEI.out (by omega) (by rw [HPL.out]; exact HIT.out);rw [HL.out] at HN
       first | exact ⟨k + 1, S + (2 + L), by omega, by go_num, by go_num, HN, HB2.out⟩ | ((repeat apply Exists.intro); exact ⟨⟨k + 1, S + (2 + L), by omega, by go_num, by go_num, HN, HB2.out⟩, rfl⟩)
      case measure => simp [intOf]; omega
    · have hd : decide (isT (T, ts[k].l)) = false := decide_eq_false hT;have HE := hd_ (encE_tag HN64.out (not_all (k := k) (by omega) (by rw [HPL.out]; exact hT)));rw [hd];clear hd hT;go_wp2
      go_ret2
      exact EncR.none HE.out (by decide) HB2.out
  · obtain rfl : n = k := by omega
    have HA : Hid ((∀ t ∈ plain ts, isT t) /\ S = (wireT (plain ts)).length) := EI.all (by rw [hl]; exact HEI.out)
    by_cases hS : 1488 < S
    · have HE := hd_ (encE_long HN64.out HA.out.1 (by rw [<- HA.out.2]; exact hS));go_wp2
      go_ret2
      exact EncR.none HE.out (by decide) HB.out
    have HE := hd_ (encE_ok HN64.out HA.out.1 (by rw [<- HA.out.2]; exact hS));have HLS : Hid ((wireT (plain ts)).length <= 1488) := by show _ <= _; rw [<- HA.out.2]; omega
    obtain ⟨wA, hA⟩ : ∃ x, x = wr := ⟨_, rfl⟩;subst hA;go_wp2_with (at_make; refine wpList_make_cap _ rfl _ _ 30 rfl w.heap.size 5 i0 (.int .u8 0) Tryz.underlying30 hi hz0 hz1 rfl _ _ _ _ 0 S rfl rfl rfl rfl (Nat.zero_le _) ?c1 ?c2 ?c3 ?_)
    case c1 => rw [hz2]; omega
    case c2 => unfold maxLen; omega
    case c3 => exact HBN.out
    intro w1 hown hb1;have HB1 := hd_ (HB.out.trans (hb1.mono HBN.out));have HO1 := hd_ hown;have hbn1 := HBN.out;clear hown hb1;go_wp2
    go_loopw [7, 35] (fun bv iv wr => ∃ k : Nat, k <= n /\ iv = .int .i64 k /\ OwnB wr w.heap.size 5 bv (wireT ((plain ts).take k)) /\ Below w.heap.size w wr) (fun _ iv _ => n - (intOf iv).toNat)
    case atStart => exact ⟨0, Nat.zero_le _, rfl, HO1.out, HB1.out⟩
    case round =>
     obtain ⟨k, hk, rfl, hown, hb⟩ := hrel;have HB := hd_ hb;have HBN := hd_ hb.size;have HO := hd_ hown;clear hb hown
     by_cases hlt : k < n
     · obtain ⟨b, o, rfl, hbl, hc⟩ := (HR.out.below HB.out).cells (by omega);obtain ⟨hc0, hc1⟩ := hc k (by omega);have HV := hd_ (HR.out.val k (by omega));obtain ⟨A, L, C, hv, hL, hLC, hCm⟩ := HV.out.sl;rw [hv] at hc1;have HE1 := hd_ hv;have HL := hd_ hL;have hIT := HA.out.1 ts[k].plain (List.mem_map.2 ⟨_, List.getElem_mem _, rfl⟩);obtain ⟨T, hT⟩ : ∃ T : Nat, (T : Int) = ts[k].typ := ⟨ts[k].typ.toNat, by have := hIT.1; unfold Tg.plain at this; simp only at this; omega⟩;rw [<- hT] at hc0;have HTT := hd_ hT;have hT1 : T <= 255 := by have := hIT.2.1; unfold Tg.plain at this; simp only at this; omega
       have hL1 : L <= 253 := by have := hIT.2.2; unfold Tg.plain at this; simp only at this; omega
       have HB1 := hd_ (HB.out.trans (((Below.refl wr.heap.size wr).alloc (Nat.le_refl _) (.cells #[.int .i64 (T : Int), .slice A L C] 69)).mono HBN.out));have HG1 : Hid ((wr.alloc (.cells #[.int .i64 (T : Int), .slice A L C] 69)).heap[wr.heap.size]? = some (.cells #[.int .i64 (T : Int), .slice A L C] 69)) := heap_alloc_last _ _;have HO1 := hd_ (HO.out.below ((Below.refl wr.heap.size wr).alloc (Nat.le_refl _) (.cells #[.int .i64 (T : Int), .slice A L C] 69)));have HTK := hd_ (wireT_head ts k T L (by omega) hT hL);have HKL : Hid ((wireT ((plain ts).take k)).length <= 1488) := Nat.le_trans (wireT_take_le _ k) HLS.out;have W1 : IntKind.u8.wrap (T : Int) = (T : Int) := IntWalk.u8_in _ (by omega);have W2 : IntKind.u8.wrap (2 + (L : Int)) = 2 + (L : Int) := IntWalk.u8_in _ (by omega);have e2L : ((2 + L : Nat) : Int) = 2 + (L : Int) := by omega
       have HR2 : Hid (Rd ((wr.alloc (.cells #[.int .i64 (T : Int), .slice A L C] 69)).alloc (.cells #[.int .u8 (T : Int), .int .u8 (2 + (L : Int))] 5)) 1 (.slice (some ⟨wr.heap.size + 1, 0, none⟩) 2 2) 2 ([UInt8.ofNat T, UInt8.ofNat (2 + L)].map u8v)) := by
        have := rd_new (wr.alloc (.cells #[.int .i64 (T : Int), .slice A L C] 69)) ([UInt8.ofNat T, UInt8.ofNat (2 + L)].map u8v) 5 2 1 rfl (by decide);rw [<- two_u8 T (2 + L) (by omega) (by omega), e2L, World.size_alloc] at this;show Rd _ _ _ _ _;rw [<- two_u8 T (2 + L) (by omega) (by omega), e2L];exact this
       have HBA : Hid (Below (wr.alloc (.cells #[.int .i64 (T : Int), .slice A L C] 69)).heap.size (wr.alloc (.cells #[.int .i64 (T : Int), .slice A L C] 69)) ((wr.alloc (.cells #[.int .i64 (T : Int), .slice A L C] 69)).alloc (.cells #[.int .u8 (T : Int), .int .u8 (2 + (L : Int))] 5))) := (Below.refl _ _).alloc (Nat.le_refl _) _;have HB2 := hd_ (HB1.out.trans (HBA.out.mono HB1.out.size));have HO2 := hd_ (HO1.out.below HBA.out);have HG2 := hd_ (heap_below HG1.out HBA.out);clear hv hL hT hc hIT e2L;go_wp2_with (at_builtin; refine wpList_append_gr _ rfl (.tmp 39) (.tmp 48) 30 rfl w.heap.size 5 i0 (.int .u8 0) 1 1 Tryz.underlying30 hi hz0 hz1 hz2 rfl (by decide) _ _ _ rfl HO2.out _ _ _ rfl HR2.out (oneCell_u8 _) ?q1 (by decide) HB2.out.size ?_)
       case q1 => have := HKL.out; omega
       intro v2 w2 hown2 hg2;have HG3 := hd_ (grown_heap HO2.out hg2 HG2.out (by decide));have HB3 := hd_ (HB2.out.trans (grown_below HO2.out HB2.out.size hg2));have HO3 := hd_ hown2;obtain ⟨k0, k1⟩ := copy_cells HG3.out;have HV5 : Hid (Rd w2 1 (.slice A L C) L (ts[k].l.map u8v)) := by
        have := HV.out.below HB3.out;rw [HE1.out] at this;unfold Bs at this;rw [HL.out] at this;exact this
       clear hown2 hg2 hc0 hc1 W1 W2;go_wp2_with (at_builtin; refine wpList_append_gr _ rfl (.tmp 50) (.tmp 52) 30 rfl w.heap.size 5 i0 (.int .u8 0) 1 1 Tryz.underlying30 hi hz0 hz1 hz2 rfl (by decide) _ _ _ rfl HO3.out _ _ _ rfl HV5.out (oneCell_u8 _) ?q1 (by decide) HB3.out.size ?_)
       case q1 => have := HKL.out; omega
       intro v6 w6 hown6 hg6;have HB6 := hd_ (HB3.out.trans (grown_below HO3.out HB3.out.size hg6));have HO6 : Hid (OwnB w6 w.heap.size 5 v6 (wireT ((plain ts).take (k + 1)))) := by
        show OwnB _ _ _ _ _;rw [HTK.out];unfold OwnB;have e1 : (wireT ((plain ts).take k) ++ ([UInt8.ofNat T, UInt8.ofNat (2 + L)] ++ ts[k].l)).length = (wireT ((plain ts).take k)).length + 2 + L := by
         simp only [List.length_append, List.length_cons, List.length_nil];rw [HL.out]; omega
        rw [e1];simpa using hown6
       clear hown6 hg6 k0 k1;go_wp2
       go_roundw
       case rel =>
        first | exact ⟨k + 1, by omega, by go_num, HO6.out, HB6.out⟩ | ((repeat apply Exists.intro); exact ⟨⟨k + 1, by omega, by go_num, HO6.out, HB6.out⟩, rfl⟩)
       case measure => simp [intOf]; omega
     · obtain rfl : n = k := by omega
       have HW : Hid ((plain ts).take n = plain ts) := by show _ = _; rw [<- hl, <- plain_length, List.take_length]
       go_wp2
       go_ret2
       exact EncR.some HE.out (by have := HO.out; rwa [HW.out] at this) HB.out
end Go.Proofs.YtclplbapedmihaaGreat.O
namespace Go.Proofs.YtclplbapedmihaaGreat.O
set_option maxRecDepth 4000
open Go.RowKit Go.Shelf
set_option linter.unusedVariables false
set_option linter.unusedSimpArgs false
attribute [local go_sem] Oper.semAt_some
abbrev El := Tg × Bool
def encE2 (x : El) : Array Value := #[.agg #[.int .i64 x.1.typ, x.1.val], .bool x.2]
def optsOf (xs : List El) : List Tg := xs.map Prod.fst
theorem optsOf_snoc (xs : List El) (x : El) : optsOf (xs ++ [x]) = optsOf xs ++ [x.1] := by simp [optsOf]
theorem optsOf_length (xs : List El) : (optsOf xs).length = xs.length := by simp [optsOf]
def Left (l : List UInt8) (xs : List El) (r : List UInt8) : Prop := xs.length <= 64 -> decL [] l = decL (plain (optsOf xs)) r
theorem Left.zero (l : List UInt8) : Left l [] l := fun _ => rfl
theorem Left.next {l r : List UInt8} {xs : List El} (h : Left l xs r) (hf : fok r) (v : Value) : Left l (xs ++ [(⟨(bN r 0 : Int), v, (r.drop 2).take (bN r 1 - 2)⟩, true)]) (r.drop (bN r 1)) := fun hn => by
 rw [List.length_append] at hn;simp only [List.length_cons, List.length_nil] at hn;rw [h (by omega), decL_next _ _ hf (by rw [plain_length, optsOf_length]; omega), optsOf_snoc, plain_append];rfl
structure Good (l : List UInt8) (base : Nat) (xs : List El) (x : El) (V : World) : Prop where
 whole : x.2 = true -> OwnB V base 5 x.1.val x.1.l /\ (xs.length = 64 -> decL [] l = ([], 3))
 torn : x.2 = false -> x.1 = ⟨0, .slice none 0 0, []⟩ /\ (xs.length <= 64 -> decL [] l = ([], 80))
def AllCame (l : List UInt8) (xs : List El) : Prop := (∀ x ∈ xs, x.2 = true) -> xs.length <= 64 -> decL [] l = (plain (optsOf xs), 0)
theorem each_any (a : Option Addr) (n c : Nat) (w : World) :
 Calls Tryz.prog 106 #[.slice a n c] w fun e w' => e = .returned (.func (.func 138) #[] #[.pointer (some ⟨w.heap.size, 0, none⟩)]) /\ w' = w.alloc (.cells #[.slice a n c] 30) := by
 go_enter Tryz.func106, Tryz.ntmps106
 go_wp2
 go_ret
 exact ⟨rfl, rfl⟩
set_option maxRecDepth 100000 in
set_option maxHeartbeats 4000000 in
theorem each1_in (lp B0 bx : Nat) (w0 W : World) (a : Option Addr) (n c : Nat) (l : List UInt8) (hn : l.length = n) (hb : Bs w0 (.slice a n c) l) (hW : Below w0.heap.size w0 W) (hB0 : w0.heap.size <= B0) (hr : n <= 140737488351232)
 (J Jx : List El -> World -> Prop) (hJ : ∀ xs A B, J xs A -> Gr A B -> J xs B)
 (hY : ∀ xs x V, J xs V -> Good l w0.heap.size xs x V -> YieldAt Fence.wide 0 Tryz.prog lp (encE2 x) V fun e V' => (e = .returned (.bool true) /\ J (xs ++ [x]) V' /\ Below B0 V V') \/ (e = .returned (.bool false) /\ Jx (xs ++ [x]) V'))
 (hbox : W.heap[bx]? = some (.cells #[.slice a n c] 30 (0, 0))) (h0 : J [] W) :
 CallsIn Fence.wide 0 Tryz.prog 138 #[.func (.yield lp) #[] #[], .pointer (some ⟨bx, 0, none⟩)] W fun e V => (∃ v, e = .returned v) /\ ((∃ xs, AllCame l xs /\ J xs V) \/ (∃ xs, Jx xs V)) := by
 obtain ⟨i0, hi, hz0, hz1, hz2⟩ := info_parts info5;have HJ := hd_ hJ;have HY := hd_ hY;have H0 := hd_ h0;have HW := hd_ hW;have HBS := hd_ hb;have HN := hd_ hn;have kbx := cell1 hbox;clear hJ hY h0 hW hb hn hbox;refine callsIn_of_wp Tryz.func138 rfl trivial ?_ rfl;simp only [Tryz.ntmps138, List.size_toArray, List.length_cons, List.length_nil, Nat.reduceAdd, Nat.reduceSub, Array.replicate_succ, Array.replicate_zero, List.push_toArray, List.append_toArray, List.nil_append, List.cons_append]
 gi_wp2
 gi_loopw [3] (fun rv wr => ∃ (m : Nat) (a' : Option Addr) (c' : Nat) (r : List UInt8) (xs : List El), rv = .slice a' m c' /\ m <= n /\ r.length = m /\ Hid (Bs w0 (.slice a' m c') r) /\ Hid (Left l xs r) /\ Hid (J xs wr) /\ Hid (Below w0.heap.size w0 wr)) (fun rv _ => slen rv)
 case atStart => exact ⟨n, a, c, l, [], rfl, Nat.le_refl _, HN.out, HBS, Left.zero l, H0, HW⟩
 case round =>
  obtain ⟨m, a', c', r, xs, rfl, hmn, hrm, HB, HLE, HJX, HLOW⟩ := hrel;have HRM := hd_ hrm;clear hrm
  by_cases h0 : m = 0
  · subst h0;have HA : Hid (AllCame l xs) := fun _ hx => by
     rw [HLE.out hx];exact decL_nil _ _ HRM.out
    gi_wp2
    go_end0
    exact ⟨⟨_, rfl⟩, .inl ⟨xs, HA.out, HJX.out⟩⟩
  have hm0 : 0 < m := by omega
  have SO := hd_ (sizeOf_any a' m c' r HRM.out wr (HB.out.below HLOW.out))
  by_cases hf : fok r
  · have HF := hd_ hf;have e1 : decide (fok r) = true := decide_eq_true hf;rw [e1] at SO;obtain ⟨K, hK⟩ : ∃ K, K = bN r 1 := ⟨_, rfl⟩;have HK := hd_ hK;have hK2 : 2 <= K := by rw [hK]; exact hf.2.1
    have hKm : K <= m := by have := hf.2.2; rw [<- hK, HRM.out] at this; exact this
    clear e1 hf hK;have hKr := HF.out.2.2;obtain ⟨b, o, rfl, hbl, hcell⟩ := HB.out.cells (by rw [HRM.out]; omega);have hc0 := hcell 0 (by rw [HRM.out]; omega);rw [<- bN_get r 0 (by rw [HRM.out]; omega), Nat.add_zero] at hc0;have hT8 := bN_lt r 0;obtain ⟨T, hT⟩ : ∃ T, T = bN r 0 := ⟨_, rfl⟩;rw [<- hT] at hc0 hT8;have HT := hd_ hT;have HC0 := hd_ (cell_gr HLOW.out hc0);obtain ⟨_, _, es0, hcc, hcm⟩ := HB.out.shape;simp only [Value.slice.injEq] at es0;obtain ⟨rfl, z0, rfl⟩ := es0;rw [HRM.out] at hcc;clear z0 hT hc0 hcell hKr;unfold maxLen at hcm;have hb1 : Rd w0 1 (.slice (some ⟨b, o, none⟩) m c') m (r.map u8v) := by
     have := HB.out;unfold Bs at this;rw [HRM.out] at this;exact this
    obtain ⟨a5, hs5, hr5⟩ := slice_range (P := Tryz.prog) Tryz.underlying30 hi hz1 hb1 .i64 .i64 2 K 2 K rfl rfl hK2 hKm;obtain ⟨a6, hs6, hr6⟩ := slice_from (P := Tryz.prog) Tryz.underlying30 hi hz1 hb1 .i64 K K rfl hKm;rw [drop_u8, take_u8'] at hr5;rw [drop_u8] at hr6;have HS6 : Hid (Bs w0 (.slice a6 (m - K) (c' - K)) (r.drop K)) := Bs.of_rd hr6 rfl;have HS5 : Hid (Bs w0 (.slice a5 (K - 2) (c' - 2)) ((r.drop 2).take (K - 2))) := Bs.of_rd hr5 rfl;have hl5 : ((r.drop 2).take (K - 2)).length = K - 2 := by rw [List.length_take, List.length_drop, HRM.out]; omega
    have HL5 := hd_ hl5;have CL : Hid (∀ w', Gr wr w' -> Calls Tryz.prog 77 #[.slice a5 (K - 2) (c' - 2)] w' fun e w2 => ∃ v, e = .returned v /\ OwnB w2 w'.heap.size 5 v ((r.drop 2).take (K - 2)) /\ Below w'.heap.size w' w2) := fun w' hw' =>
     clone_any w' a5 (K - 2) (c' - 2) _ HL5.out (HS5.out.below (HLOW.out.trans (Below.mono hw' HLOW.out.size))) (by omega)
    have W1 : IntKind.i64.wrap (T : Int) = (T : Int) := IntWalk.i64_in _ (by omega);have hlow := HLOW.out.size;clear hb1 hr5 hr6 hl5
    gi_wp2_with (refine ⟨trivial, rfl, ?_⟩; refine (callsIn_wide.2 SO.out).mono ?_; rintro e w1 ⟨⟨k, rfl, hk⟩, rfl⟩; obtain rfl : K = k := ((hk HF.out).trans HK.out.symm).symm; clear hk)
    refine wpIn_wide.2 ?_;have HC : Hid (Gr wr wr.drew) := Gr.drew wr;have hm0' : (0 : Int) < (m : Int) := by omega
    clear SO;refine wp_region_G 10 Gr (by kernel_rfl) ?_;generalize wr.drew = wc at HC ⊢;refine wpG_u preGr 0 (some 21) ?_;refine wpG_u preGr 1 (some 22) ?_ (hy := fun w' hw' => by
     try have g0 := cell_gr (Gr.trans HC.out hw') HC0.out
     go_simp;with_reducible rfl)
    refine wpG_u preGr 2 (some 23) ?_ (hy := fun w' hw' => by
     try have g0 := cell_gr (Gr.trans HC.out hw') HC0.out
     go_simp;with_reducible rfl)
    refine wpG_u preGr 3 (some 24) ?_ (hy := fun w' hw' => by
     try have g0 := cell_gr (Gr.trans HC.out hw') HC0.out
     go_simp;with_reducible rfl)
    refine wpG_u preGr 4 (some 25) ?_;refine wpG_u preGr 5 (some 26) ?_;refine wpG_u preGr 6 (some 27) ?_ (hy := fun w' hw' => by
     try have g0 := cell_gr (Gr.trans HC.out hw') HC0.out
     go_simp;with_reducible rfl)
    refine wpG_two (i := 7) (j := 9) rfl rfl (by kernel_rfl) (by rfl) (by rfl) ?_ ?_
    · go_simp;refine (CL.out _ HC.out).mono ?_;rintro e w3 ⟨v3, rfl, hown3, hb3⟩;obtain ⟨A3, L3, C3, ev, hL3, _, _⟩ := hown3.bs.sl;rw [HL5.out] at hL3;subst hL3;subst ev;refine ⟨hb3, ?_⟩;have HC' : Hid (Gr wr w3) := Gr.trans HC.out hb3;have HO := hd_ (hown3.mono (base' := w0.heap.size) (Nat.le_trans hlow HC.out.size));try have HZ' := hd_ (heap_gr hb3 HZ.out)
      try clear HZ
      try (have HZ := HZ'; clear HZ')
      clear HC hown3 hb3;have HC := HC';clear HC';obtain ⟨wc, hwc⟩ : ∃ x, x = w3 := ⟨_, rfl⟩;subst hwc;try simp only [Act.put, aq1, aq2, aq3]
      refine wpG_u preGr 8 (some 29) ?_ (hy := fun w' hw' => by
       refine Eq.trans (build_run (P := Tryz.prog) 69 [(0, .tmp 24), (1, .tmp 28)] ?_ #[.int .i64 T, .slice A3 (K - 2) C3] ?_) ?_
       · rfl
       · exact builtT T A3 (K - 2) C3
       · with_reducible rfl)
      refine wpG_one (i := 9) rfl (by kernel_rfl) (by rfl) ?_;go_simp;refine ⟨(Gr.refl _).alloc _, ?_⟩;obtain ⟨g, hg⟩ : ∃ g, g = wc.heap.size := ⟨_, rfl⟩;have HZ : Hid ((wc.alloc (.cells #[.int .i64 0, .slice none 0 0] 69)).heap[g]? = some (.cells #[.int .i64 0, .slice none 0 0] 69)) := by show _ = _; rw [hg]; exact heap_alloc_last _ _
      have HGL : Hid (wr.heap.size <= g) := by show _ <= _; rw [hg]; exact HC.out.size
      have HC' : Hid (Gr wr (wc.alloc (.cells #[.int .i64 0, .slice none 0 0] 69))) := HC.out.alloc _;try have HO' := hd_ (HO.out.below ((Gr.refl wc).alloc (.cells #[.int .i64 0, .slice none 0 0] 69)))
      try clear HO
      try (have HO := HO'; clear HO')
      clear HC;rw [<- hg];clear hg
      first
       | generalize wc.alloc (.cells #[.int .i64 0, .slice none 0 0] 69) = wd at HC' HZ HO ⊢
       | generalize wc.alloc (.cells #[.int .i64 0, .slice none 0 0] 69) = wd at HC' HZ ⊢
      have HC := HC';clear HC';obtain ⟨wc, hwc⟩ : ∃ x, x = wd := ⟨_, rfl⟩;subst hwc;try simp only [Act.put, aq1, aq2, aq3]
      refine wpG_tail (i := 10) (by decide) rfl (by kernel_rfl) (by rfl) ?_;refine wp_store_whole (none) 69 (.tmp 6) (.tmp 29) rfl g [.int .i64 T, .slice A3 (K - 2) C3] rfl rfl 69 [.int .i64 0, .slice none 0 0] HZ.out sizeT rfl (one_tag _ rfl) rfl ?_;intro w4 h4 ho4;have H4 := hd_ h4;have HC4 : Hid (Gr wr w4) := ho4.below _ _ HGL.out HC.out;have HO4 : Hid (OwnB w4 w0.heap.size 5 (.slice A3 (K - 2) C3) ((r.drop 2).take (K - 2))) := HO.out.off ho4 (fun k hk e => own_ne_cell HO.out HZ.out (by decide) (by rw [hk, e]));clear h4 ho4 HC HO HZ HGL;try simp only [Act.put, aq1, aq2, aq3]
      refine wpG_done (by kernel_rfl) ?_ _;have HLE2 : Hid (Left l (xs ++ [((⟨(T : Int), .slice A3 (K - 2) C3, (r.drop 2).take (K - 2)⟩ : Tg), true)]) (r.drop K)) := by
       have := HLE.out.next HF.out (.slice A3 (K - 2) C3);rw [<- HT.out, <- HK.out] at this;exact this
      have HX : Hid (Good l w0.heap.size xs ((⟨(T : Int), .slice A3 (K - 2) C3, (r.drop 2).take (K - 2)⟩ : Tg), true) w4) := ⟨fun _ => ⟨HO4.out, fun h64 => by
       rw [HLE.out (by omega)];exact decL_many _ _ HF.out (by rw [plain_length, optsOf_length]; exact h64)⟩, fun h => (by cases h)⟩
      have hl2 : (r.drop K).length = m - K := by rw [List.length_drop, HRM.out]
      have HL2 := hd_ hl2;have HLOW4 := hd_ (HLOW.out.trans (Below.mono HC4.out HLOW.out.size));obtain ⟨fn, tmps, assign, body, hy, hR⟩ := HY.out xs _ w4 (HJ.out _ _ _ HJX.out HC4.out) HX.out
      dsimp only [encE2] at hy
      obtain ⟨k0, k1⟩ := copy_cells H4.out;clear hl2 W1 hm0'
      gi_wp2
      refine ⟨rfl, hR.mono ?_⟩;rintro e w5 (⟨rfl, hj5, hb5⟩ | ⟨rfl, hx5⟩)
      · have HJ5 := hd_ hj5;have HLOW5 := hd_ (HLOW4.out.trans (hb5.mono hB0));clear hj5 hb5 k0 k1 hy hR
        gi_wp2
        go_roundw
        case rel =>
         have hle : m - K <= n := by omega
         first | exact ⟨m - K, a6, c' - K, r.drop K, _, rfl, hle, HL2.out, HS6, HLE2, HJ5, HLOW5⟩ | ((repeat apply Exists.intro); exact ⟨⟨m - K, a6, c' - K, r.drop K, _, rfl, hle, HL2.out, HS6, HLE2, HJ5, HLOW5⟩, rfl⟩)
        case measure => simp [slen]; omega
      · have HX5 := hd_ hx5;clear hx5 k0 k1 hy hR
        gi_wp2
        refine bodyPost_ret (results_none rfl _ _ _) rfl ?_;exact ⟨⟨_, rfl⟩, .inr ⟨_, HX5.out⟩⟩
    · go_simp;refine ⟨(Gr.refl _).alloc _, ?_⟩;obtain ⟨g, hg⟩ : ∃ g, g = wc.heap.size := ⟨_, rfl⟩;have HZ : Hid ((wc.alloc (.cells #[.int .i64 0, .slice none 0 0] 69)).heap[g]? = some (.cells #[.int .i64 0, .slice none 0 0] 69)) := by show _ = _; rw [hg]; exact heap_alloc_last _ _
      have HGL : Hid (wr.heap.size <= g) := by show _ <= _; rw [hg]; exact HC.out.size
      have HC' : Hid (Gr wr (wc.alloc (.cells #[.int .i64 0, .slice none 0 0] 69))) := HC.out.alloc _;try have HO' := hd_ (HO.out.below ((Gr.refl wc).alloc (.cells #[.int .i64 0, .slice none 0 0] 69)))
      try clear HO
      try (have HO := HO'; clear HO')
      clear HC;rw [<- hg];clear hg
      first
       | generalize wc.alloc (.cells #[.int .i64 0, .slice none 0 0] 69) = wd at HC' HZ HO ⊢
       | generalize wc.alloc (.cells #[.int .i64 0, .slice none 0 0] 69) = wd at HC' HZ ⊢
      have HC := HC';clear HC';obtain ⟨wc, hwc⟩ : ∃ x, x = wd := ⟨_, rfl⟩;subst hwc;try simp only [Act.put, aq1, aq2, aq3]
      refine wpG_one (i := 7) rfl (by kernel_rfl) (by rfl) ?_;go_simp;refine (CL.out _ HC.out).mono ?_;rintro e w3 ⟨v3, rfl, hown3, hb3⟩;obtain ⟨A3, L3, C3, ev, hL3, _, _⟩ := hown3.bs.sl;rw [HL5.out] at hL3;subst hL3;subst ev;refine ⟨hb3, ?_⟩;have HC' : Hid (Gr wr w3) := Gr.trans HC.out hb3;have HO := hd_ (hown3.mono (base' := w0.heap.size) (Nat.le_trans hlow HC.out.size));try have HZ' := hd_ (heap_gr hb3 HZ.out)
      try clear HZ
      try (have HZ := HZ'; clear HZ')
      clear HC hown3 hb3;have HC := HC';clear HC';obtain ⟨wc, hwc⟩ : ∃ x, x = w3 := ⟨_, rfl⟩;subst hwc;try simp only [Act.put, aq1, aq2, aq3]
      refine wpG_u preGr 8 (some 29) ?_ (hy := fun w' hw' => by
       refine Eq.trans (build_run (P := Tryz.prog) 69 [(0, .tmp 24), (1, .tmp 28)] ?_ #[.int .i64 T, .slice A3 (K - 2) C3] ?_) ?_
       · rfl
       · exact builtT T A3 (K - 2) C3
       · with_reducible rfl)
      refine wpG_tail (i := 10) (by decide) rfl (by kernel_rfl) (by rfl) ?_;refine wp_store_whole (none) 69 (.tmp 6) (.tmp 29) rfl g [.int .i64 T, .slice A3 (K - 2) C3] rfl rfl 69 [.int .i64 0, .slice none 0 0] HZ.out sizeT rfl (one_tag _ rfl) rfl ?_;intro w4 h4 ho4;have H4 := hd_ h4;have HC4 : Hid (Gr wr w4) := ho4.below _ _ HGL.out HC.out;have HO4 : Hid (OwnB w4 w0.heap.size 5 (.slice A3 (K - 2) C3) ((r.drop 2).take (K - 2))) := HO.out.off ho4 (fun k hk e => own_ne_cell HO.out HZ.out (by decide) (by rw [hk, e]));clear h4 ho4 HC HO HZ HGL;try simp only [Act.put, aq1, aq2, aq3]
      refine wpG_done (by kernel_rfl) ?_ _;have HLE2 : Hid (Left l (xs ++ [((⟨(T : Int), .slice A3 (K - 2) C3, (r.drop 2).take (K - 2)⟩ : Tg), true)]) (r.drop K)) := by
       have := HLE.out.next HF.out (.slice A3 (K - 2) C3);rw [<- HT.out, <- HK.out] at this;exact this
      have HX : Hid (Good l w0.heap.size xs ((⟨(T : Int), .slice A3 (K - 2) C3, (r.drop 2).take (K - 2)⟩ : Tg), true) w4) := ⟨fun _ => ⟨HO4.out, fun h64 => by
       rw [HLE.out (by omega)];exact decL_many _ _ HF.out (by rw [plain_length, optsOf_length]; exact h64)⟩, fun h => (by cases h)⟩
      have hl2 : (r.drop K).length = m - K := by rw [List.length_drop, HRM.out]
      have HL2 := hd_ hl2;have HLOW4 := hd_ (HLOW.out.trans (Below.mono HC4.out HLOW.out.size));obtain ⟨fn, tmps, assign, body, hy, hR⟩ := HY.out xs _ w4 (HJ.out _ _ _ HJX.out HC4.out) HX.out
      dsimp only [encE2] at hy
      obtain ⟨k0, k1⟩ := copy_cells H4.out;clear hl2 W1 hm0'
      gi_wp2
      refine ⟨rfl, hR.mono ?_⟩;rintro e w5 (⟨rfl, hj5, hb5⟩ | ⟨rfl, hx5⟩)
      · have HJ5 := hd_ hj5;have HLOW5 := hd_ (HLOW4.out.trans (hb5.mono hB0));clear hj5 hb5 k0 k1 hy hR
        gi_wp2
        go_roundw
        case rel =>
         have hle : m - K <= n := by omega
         first | exact ⟨m - K, a6, c' - K, r.drop K, _, rfl, hle, HL2.out, HS6, HLE2, HJ5, HLOW5⟩ | ((repeat apply Exists.intro); exact ⟨⟨m - K, a6, c' - K, r.drop K, _, rfl, hle, HL2.out, HS6, HLE2, HJ5, HLOW5⟩, rfl⟩)
        case measure => simp [slen]; omega
      · have HX5 := hd_ hx5;clear hx5 k0 k1 hy hR
        gi_wp2
        refine bodyPost_ret (results_none rfl _ _ _) rfl ?_;exact ⟨⟨_, rfl⟩, .inr ⟨_, HX5.out⟩⟩
  · have e1 : decide (fok r) = false := decide_eq_false hf;rw [e1] at SO;have hd : xs.length <= 64 -> decL [] l = ([], 80) := fun hx => by
     rw [HLE.out hx];exact decL_bad _ _ (by rw [HRM.out]; omega) hf
    have HX : Hid (Good l w0.heap.size xs ((⟨0, .slice none 0 0, []⟩ : Tg), false) wr) := ⟨fun h => (by cases h), fun _ => ⟨rfl, hd⟩⟩;obtain ⟨fn, tmps, assign, body, hy, hR⟩ := HY.out xs _ wr HJX.out HX.out
    dsimp only [encE2] at hy
    clear e1 hf hd
    gi_wp2_with (refine ⟨trivial, rfl, ?_⟩; refine (callsIn_wide.2 SO.out).mono ?_; rintro e w1 ⟨⟨k, rfl, hk⟩, rfl⟩; clear hk)
    refine ⟨rfl, hR.mono ?_⟩;rintro e w5 (⟨rfl, hj5, hb5⟩ | ⟨rfl, hx5⟩)
    · have HJ5 := hd_ hj5;clear hj5 hb5 hy hR
      gi_wp2
      refine bodyPost_ret (results_none rfl _ _ _) rfl ?_;refine ⟨⟨_, rfl⟩, .inl ⟨_, fun h => ?_, HJ5.out⟩⟩;have := h _ (List.mem_append.2 (.inr (List.mem_singleton.2 rfl)));cases this
    · have HX5 := hd_ hx5;clear hx5 hy hR
      gi_wp2
      refine bodyPost_ret (results_none rfl _ _ _) rfl ?_;exact ⟨⟨_, rfl⟩, .inr ⟨_, HX5.out⟩⟩
attribute [local go_sem] Oper.semAt_some
def DecR (l : List UInt8) (w : World) (e : Ending) (w' : World) : Prop :=
 ∃ v, e = .returned (.tuple #[v, .int .i64 (dec l).2]) /\ (∃ ts, plain ts = (dec l).1 /\ TO w' w.heap.size v ts) /\ Below w.heap.size w w'
theorem DecR.none {l : List UInt8} {w w' : World} {k : Int} (h : dec l = ([], k)) (hb : Below w.heap.size w w') : DecR l w (.returned (.tuple #[.slice Option.none 0 0, .int .i64 k])) w' :=
 ⟨_, by rw [h], ⟨[], by rw [h]; rfl, TO.nil _ _⟩, hb⟩
theorem DecR.some {l : List UInt8} {w w' : World} {v : Value} {ts : List Tg} (h : dec l = (plain ts, 0)) (ho : TO w' w.heap.size v ts) (hb : Below w.heap.size w w') : DecR l w (.returned (.tuple #[v, .int .i64 0])) w' :=
 ⟨_, by rw [h], ⟨ts, by rw [h], ho⟩, hb⟩
theorem results_cells2 {P : Program} {fn : Func} {p q : Tmp} {t u : TypeId} (h : fn.results = #[.cell p t, .cell q u]) (tmps : Array Value) (w : World) (ap aq : Addr) (x y : Value)
 (hp : tmps.getD p undef = .pointer (some ap)) (hq : tmps.getD q undef = .pointer (some aq)) (hx : (loadVar t ap).run P w = .ok x w) (hy : (loadVar u aq).run P w = .ok y w) :
 (results fn tmps).run P w = .ok (.tuple #[x, y]) w := by
 have hp' : tmps[p]?.getD undef = .pointer (some ap) := by simpa using hp
 have hq' : tmps[q]?.getD undef = .pointer (some aq) := by simpa using hq
 simp only [results, h];simp [Sem.run_bind, Result.andThen, hp', hq', asAddr, hx, hy]
structure RI (w : World) (xs : List El) (W : World) : Prop where
 whole : ∀ x ∈ xs, x.2 = true
 few : xs.length <= 64
 low : Below w.heap.size w W
 c0 : W.heap[w.heap.size]? = some (.cells #[.slice none 0 0] 26)
 c1 : W.heap[w.heap.size + 1]? = some (.cells #[.int .i64 0] 50)
 lv : ∃ v, W.heap[w.heap.size + 2]? = some (.cells #[v] 26 (0, 0)) /\ TO W w.heap.size v (optsOf xs)
structure RX (l : List UInt8) (w W : World) : Prop where
 low : Below w.heap.size w W
 err : ∃ k : Int, decL [] l = ([], k) /\ W.heap[w.heap.size + 1]? = some (.cells #[.int .i64 k] 50 (0, 0))
 c0 : W.heap[w.heap.size]? = some (.cells #[.slice none 0 0] 26)
theorem RI.turns (w : World) (B : Nat) (hB : w.heap.size <= B) (xs : List El) : Turns B (RI w xs) := fun A l o o' h hl ho hc => by
 refine ⟨h.whole, h.few, turns_below hB A l o o' h.low hl ho hc, turns_block A l o o' h.c0 hl ho hc, turns_block A l o o' h.c1 hl ho hc, ?_⟩;obtain ⟨v, h1, h2⟩ := h.lv;exact ⟨v, turns_block A l o o' h1 hl ho hc, turns_row A l o o' h2.own hl ho hc, fun t ht => turns_row A l o o' (h2.vals t ht) hl ho hc⟩
theorem RX.turns (l' : List UInt8) (w : World) (B : Nat) (hB : w.heap.size <= B) : Turns B (RX l' w) := fun A l o o' h hl ho hc => by
 refine ⟨turns_below hB A l o o' h.low hl ho hc, ?_, turns_block A l o o' h.c0 hl ho hc⟩;obtain ⟨k, h1, h2⟩ := h.err;exact ⟨k, h1, turns_block A l o o' h2 hl ho hc⟩
theorem Good.turns (l' : List UInt8) (base B : Nat) (xs : List El) (x : El) : Turns B (Good l' base xs x) := fun A l o o' h hl ho hc =>
 ⟨fun e => ⟨turns_row A l o o' (h.whole e).1 hl ho hc, (h.whole e).2⟩, h.torn⟩
theorem Good.gr {l : List UInt8} {base : Nat} {xs : List El} {x : El} {A B : World} (h : Good l base xs x A) (hq : Gr A B) : Good l base xs x B :=
 ⟨fun e => ⟨(h.whole e).1.below hq, (h.whole e).2⟩, h.torn⟩
theorem RI.gr {w : World} {xs : List El} {A B : World} (h : RI w xs A) (hq : Gr A B) : RI w xs B := by
 refine ⟨h.whole, h.few, h.low.trans (Below.mono hq h.low.size), heap_gr hq h.c0, heap_gr hq h.c1, ?_⟩;obtain ⟨v, h1, h2⟩ := h.lv;exact ⟨v, heap_gr hq h1, h2.below hq⟩
theorem TO.box {w : World} {base B : Nat} {v : Value} {ts : List Tg} {t : TypeId} {cs : Array Value} {fr : Nat × Nat} (h : TO w base v ts) (hB : w.heap[B]? = some (.cells cs t fr)) (h1 : 69 ≠ t) (h2 : 5 ≠ t) (u : Value) : TO (w.setCell ⟨B, 0, none⟩ u) base v ts :=
 ⟨World.ownsRow.kept h.own (grownBy_setCell' w B u) (.inr (own_ne_cell h.own hB h1)), fun x hx => World.ownsRow.kept (h.vals x hx) (grownBy_setCell' w B u) (.inr (own_ne_cell (h.vals x hx) hB h2))⟩
def Mid (l : List UInt8) (w : World) (xs : List El) (x : El) (b : Act) (W : World) : Prop :=
 RI w xs W /\ Good l w.heap.size xs x W /\ ∃ g, w.heap.size <= g /\ W.heap[g]? = some (.cells #[.int .i64 x.1.typ, x.1.val] 69 (0, 0)) /\
  ∃ t0 t1 t7 t8 t9 t10 t11 t12 t13 t14 t15 t16 t17 t18 t19 t20 t21 t22 t23 t24 t25, b = { tmps := #[t0, t1, .pointer (some ⟨w.heap.size, 0, none⟩), .pointer (some ⟨w.heap.size + 1, 0, none⟩), .pointer (some ⟨w.heap.size + 2, 0, none⟩), .pointer (some ⟨g, 0, none⟩), .bool x.2, t7, t8, t9, t10, t11, t12, t13, t14, t15, t16, t17, t18, t19, t20, t21, t22, t23, t24, t25], defers := [] }
theorem Mid.turns (l' : List UInt8) (w : World) (B : Nat) (hB : w.heap.size <= B) (xs : List El) (x : El) (b : Act) : Turns B (Mid l' w xs x b) := fun A l o o' h hl ho hc => by
 obtain ⟨h1, h2, g, h3, h4, h5⟩ := h;exact ⟨RI.turns w B hB xs A l o o' h1 hl ho hc, Good.turns l' _ B xs x A l o o' h2 hl ho hc, g, h3, turns_block A l o o' h4 hl ho hc, h5⟩
set_option maxRecDepth 100000 in
set_option maxHeartbeats 4000000 in
theorem decode_any (a : Option Addr) (n c : Nat) (l : List UInt8) (hn : l.length = n) (w : World) (hb : Bs w (.slice a n c) l) (hr : n <= 140737488351232) :
 Calls Tryz.prog 86 #[.slice a n c] w (DecR l w) := by
 obtain ⟨i0, hi, hz0, hz1, hz2⟩ := info_parts infoT;have HN := hd_ hn;have HBS := hd_ hb
 by_cases hlong : 1488 < n
 · have HD := hd_ (dec_long (l := l) (by omega));clear hn hb;go_enter Tryz.func86, Tryz.ntmps86
   go_wp2
   have b0 : Boxed ((w.alloc (.cells #[.slice none 0 0] 26)).alloc (.cells #[.int .i64 2] 50)) w.heap.size 26 (.slice none 0 0) := heap2_0' w _ _;have b1 : Boxed ((w.alloc (.cells #[.slice none 0 0] 26)).alloc (.cells #[.int .i64 2] 50)) (w.heap.size + 1) 50 (.int .i64 2) := heap2_1' w _ _;have c0 := b0.cell;have c1 := b1.cell;refine bodyPost_ret (v := .tuple #[.slice none 0 0, .int .i64 2]) (results_cells2 (P := Tryz.prog) (fn := Tryz.f86) rfl _ _ ⟨w.heap.size, 0, none⟩ ⟨w.heap.size + 1, 0, none⟩ _ _ rfl rfl (by simp [go_sem, c0]) (by simp [go_sem, c1])) rfl ?_;exact DecR.none HD.out (((Below.refl _ _).alloc (Nat.le_refl _) _).alloc (by simp) _)
 have HD := hd_ (dec_fits (l := l) (by omega));refine (callsIn_wide (n := 0)).1 ?_;refine callsIn_of_wp_marks Tryz.func86 rfl trivial ?_ rfl;simp only [Tryz.ntmps86, List.size_toArray, List.length_cons, List.length_nil, Nat.reduceAdd, Nat.reduceSub, Array.replicate_succ, Array.replicate_zero, List.push_toArray, List.append_toArray, List.nil_append, List.cons_append];clear hn hb
 gi_wp2_with (refine ⟨trivial, rfl, ?_⟩; refine (callsIn_wide.2 (each_any _ _ _ _)).mono ?_; rintro e w1 ⟨rfl, rfl⟩)
 obtain ⟨w4, hw4⟩ : ∃ w4, w4 = (((w.alloc (.cells #[.slice none 0 0] 26)).alloc (.cells #[.int .i64 0] 50)).alloc (.cells #[.slice none 0 0] 26)).alloc (.cells #[.slice a n c] 30) := ⟨_, rfl⟩;have hsz4 : w4.heap.size = w.heap.size + 4 := by rw [hw4]; simp
 have hq4 : Below w.heap.size w w4 := by
  rw [hw4];exact ((((Below.refl _ _).alloc (Nat.le_refl _) _).alloc (by simp) _).alloc (by simp; omega) _).alloc (by simp; omega) _
 have b3 : Boxed w4 (w.heap.size + 3) 30 (.slice a n c) := by
  have := Boxed.new (((w.alloc (.cells #[.slice none 0 0] 26)).alloc (.cells #[.int .i64 0] 50)).alloc (.cells #[.slice none 0 0] 26)) 30 (.slice a n c);rw [<- hw4] at this;simpa using this
 have b2 : Boxed w4 (w.heap.size + 2) 26 (.slice none 0 0) := by
  have := (Boxed.new ((w.alloc (.cells #[.slice none 0 0] 26)).alloc (.cells #[.int .i64 0] 50)) 26 (.slice none 0 0)).alloc (.cells #[.slice a n c] 30);rw [<- hw4] at this;simpa using this
 have b1 : Boxed w4 (w.heap.size + 1) 50 (.int .i64 0) := by
  have := ((Boxed.new (w.alloc (.cells #[.slice none 0 0] 26)) 50 (.int .i64 0)).alloc (.cells #[.slice none 0 0] 26)).alloc (.cells #[.slice a n c] 30);rw [<- hw4] at this;simpa using this
 have b0 : Boxed w4 w.heap.size 26 (.slice none 0 0) := by
  have := (((Boxed.new w 26 (.slice none 0 0)).alloc (.cells #[.int .i64 0] 50)).alloc (.cells #[.slice none 0 0] 26)).alloc (.cells #[.slice a n c] 30);rw [<- hw4] at this;exact this
 have H0 : Hid (RI w [] w4) := ⟨fun x h => (by cases h), Nat.zero_le _, hq4, b0, b1, _, b2, TO.nil _ _⟩;have HQ4 := hd_ hq4;have HB3 := hd_ b3;rw [<- hw4];have hle4 : w.heap.size <= w4.heap.size := by omega
 have HSZ := hd_ hsz4;clear hw4 b0 b1 b2 b3 hq4 hsz4;refine ranged (B := w.heap.size) hle4 (gf := 138) (lb := #[.pointer (some ⟨w.heap.size + 3, 0, none⟩)]) rfl (enters_of Tryz.func138 (by kernel_rfl) rfl) encE2 (fun _ => rfl)
  (Good l w.heap.size) (RI w) (fun _ => RX l w) (Mid l w) (AllCame l) (RI.turns w _ hle4) (fun _ => RX.turns l w _ hle4) (Mid.turns l w _ hle4) (fun _ _ _ h hq => h.gr hq) H0.out ?assign ?body ?seq ?done ?stop
 case seq =>
  intro lp J Jx W hW hJ hY h0;exact each1_in lp w.heap.size (w.heap.size + 3) w W a n c l HN.out HBS.out (HQ4.out.trans (Below.mono hW hle4)) (Nat.le_refl _) hr J Jx hJ hY (heap_gr hW HB3.out) h0
 case assign =>
  intro lp xs x W hI hG;obtain ⟨⟨T, v, lx⟩, ok⟩ := x;have hv : ∃ A L C, v = .slice A L C := by
   cases ok with
   | true => obtain ⟨A, L, C, e, _⟩ := (hG.whole rfl).1.bs.sl; exact ⟨A, L, C, e⟩
   | false => have := congrArg Tg.val (hG.torn rfl).1; exact ⟨_, _, _, this⟩
  obtain ⟨A, L, C, rfl⟩ := hv;have HI := hd_ hI;have HG := hd_ hG;clear hI hG;simp only [encE2]
  gi_wp2
  have hal : Gr W (W.alloc (.cells #[.int .i64 T, .slice A L C] 69)) := (Gr.refl W).alloc _;exact ⟨(KeepsOthers.alloc _ _).from _, Below.alloc (Below.refl _ W) HI.out.low.size _, HI.out.gr hal, HG.out.gr hal, W.heap.size, HI.out.low.size, heap_alloc_last _ _, _, _, _, _, _, _, _, _, _, _, _, _, _, _, _, _, _, _, _, _, _, rfl⟩
 case body =>
  rintro lp xs x b W ⟨hI, hG, g, hgl, hg, t0, t1, t7, t8, t9, t10, t11, t12, t13, t14, t15, t16, t17, t18, t19, t20, t21, t22, t23, t24, t25, rfl⟩;obtain ⟨⟨T, v, lx⟩, ok⟩ := x;have b0 : Boxed W w.heap.size 26 (.slice none 0 0) := hI.c0;have b1 : Boxed W (w.heap.size + 1) 50 (.int .i64 0) := hI.c1;have q0 : w.heap.size ≠ w.heap.size + 1 := by omega
  have hlowe : ∀ k : Int, Below w.heap.size w ((W.setCell ⟨w.heap.size, 0, none⟩ (.slice none 0 0)).setCell ⟨w.heap.size + 1, 0, none⟩ (.int .i64 k)) := fun k => (hI.low.setCell (Nat.le_refl _) _).setCell (by show _ <= w.heap.size + 1; omega) _
  have hrx : ∀ k : Int, decL [] l = ([], k) -> RX l w ((W.setCell ⟨w.heap.size, 0, none⟩ (.slice none 0 0)).setCell ⟨w.heap.size + 1, 0, none⟩ (.int .i64 k)) := fun k hk =>
   ⟨hlowe k, ⟨k, hk, ((b1.other (Ne.symm q0) _).set _)⟩, (b0.set _).other q0 _⟩
  have hke : ∀ k : Int, KeepsFrom w4.heap.size W ((W.setCell ⟨w.heap.size, 0, none⟩ (.slice none 0 0)).setCell ⟨w.heap.size + 1, 0, none⟩ (.int .i64 k)) := fun k => ((KeepsOthers.setCell _ _ _).trans (KeepsOthers.setCell _ _ _)).from _
  have HRX := hd_ hrx;have HKE := hd_ hke;have c0 := b0.cell;have f0 := b0.frozen;have c1 := b1.cell;have f1 := b1.frozen;have c1' : (W.setCell ⟨w.heap.size, 0, none⟩ (.slice none 0 0)).cell? ⟨w.heap.size + 1, 0, none⟩ = some (.int .i64 0) := (b1.other (Ne.symm q0) _).cell;have f1' : (W.setCell ⟨w.heap.size, 0, none⟩ (.slice none 0 0)).frozen? ⟨w.heap.size + 1, 0, none⟩ = false := (b1.other (Ne.symm q0) _).frozen;cases ok with
  | false =>
   have HE := hd_ ((hG.torn rfl).2 hI.few);clear hI hG hg b0 b1 hlowe hrx hke
   gi_wp2
   exact ⟨HKE.out 80, HRX.out 80 HE.out⟩
  | true =>
   obtain ⟨hown, h64⟩ := hG.whole rfl;obtain ⟨vl, hv, hto⟩ := hI.lv;obtain ⟨A, L, C, rfl, _, _, _⟩ := hown.bs.sl;obtain ⟨al, cl, rfl, _, _⟩ := hto.tr.shape;obtain ⟨N, hN⟩ : ∃ N, N = (optsOf xs).length := ⟨_, rfl⟩;have bl : Boxed W (w.heap.size + 2) 26 (.slice al (optsOf xs).length cl) := hv;rw [<- hN] at bl;have hN64 : N <= 64 := by rw [hN, optsOf_length]; exact hI.few
   have hcl := bl.cell;have hfl := bl.frozen;obtain ⟨k0, k1⟩ := copy_cells hg;have HXN : Hid (N = xs.length) := by show _ = _; rw [hN, optsOf_length]
   have HI := hd_ hI;have HTO : Hid (TO W w.heap.size (.slice al N cl) (optsOf xs)) := by rw [hN]; exact hto
   have HOW := hd_ hown;have H64 := hd_ h64;have HB0 := hd_ b0;have HB1 := hd_ b1;have HBL := hd_ bl;have HNN := hd_ hN;have hlow := hI.low.size;clear hI hG hg b0 b1 hlowe hrx hke hv hto bl h64 hown hN
   by_cases h64 : N = 64
   · have HE := hd_ (H64.out (by rw [<- HXN.out]; exact h64));subst h64
     gi_wp2
     exact ⟨HKE.out 3, HRX.out 3 HE.out⟩
   · have h64' : ((N : Int) == 64) = false := by rw [beq_eq_false_iff_ne]; omega
     have hrow : W.ownsRow w.heap.size 69 2 (.slice al N cl) N (flat (optsOf xs)) := by have := HTO.out.own; rwa [<- HNN.out] at this
     have HROW := hd_ hrow;clear hrow
     gi_wp2_with (gi_at_builtin; refine wpListIn_append_own _ rfl (.tmp 21) (.tmp 23) 26 rfl w.heap.size 69 i0 _ 2 32 Tryz.underlying26 hi hz0 hz1 hz2 rfl (by decide) _ _ _ rfl (World.ownsRow.alloc HROW.out _) ⟨W.heap.size, 0, none⟩ 1 1 [.int .i64 T, .slice A L C] rfl rfl (cells_new W [.int .i64 T, .slice A L C] 69) (one_tag T rfl) (by unfold maxLen; omega) (by omega) (by simp; omega) ?_; intro v' w1 hown' hgrow _; obtain ⟨g', cap', rfl⟩ := ownsRow_succ hown'; obtain ⟨hv1, hv2, hr2, hk2, hb2⟩ := HBL.out.appended (by decide) HROW.out hlow (by omega) hown' hgrow; have hc1 := hv1.cell; have hf1 := hv1.frozen)
     have hal : Gr W (W.alloc (.cells #[.int .i64 T, .slice A L C] 69)) := (Gr.refl W).alloc _;have ho2 : w1.ownsRow w.heap.size 69 2 (.slice (some ⟨g', 0, none⟩) (N + 1) cap') ((optsOf xs).length + 1) (flat (optsOf xs) ++ [.int .i64 T, .slice A L C]) := by rw [<- HNN.out]; exact hown'
     have hto2 := (TO.more (t := ⟨T, .slice A L C, lx⟩) (HTO.out.below hal) (HOW.out.below hal) ho2 hgrow).box hv1 (by decide) (by decide) (.slice (some ⟨g', 0, none⟩) (N + 1) cap');refine ⟨hk2.from _, hb2, ⟨?_, ?_, HI.out.low.trans hb2, ?_, ?_, _, hv2, ?_⟩⟩
     · intro y hy
       rcases List.mem_append.1 hy with hy | hy
       · exact HI.out.whole y hy
       · rw [List.mem_singleton.1 hy]
     · rw [List.length_append, <- HXN.out]; simp; omega
     · exact ((HB0.out.alloc _).kept hgrow (HB0.out.not_row (by decide) HROW.out)).other (by omega) _
     · exact ((HB1.out.alloc _).kept hgrow (HB1.out.not_row (by decide) HROW.out)).other (by omega) _
     · rw [optsOf_snoc]; exact hto2
 case done =>
  intro D xs W hD hS hI hK;obtain ⟨v, hv, hto⟩ := hI.lv;obtain ⟨al, cl, rfl, _, _⟩ := hto.tr.shape;have b0 : Boxed W w.heap.size 26 (.slice none 0 0) := hI.c0;have b1 : Boxed W (w.heap.size + 1) 50 (.int .i64 0) := hI.c1;have bl : Boxed W (w.heap.size + 2) 26 (.slice al (optsOf xs).length cl) := hv;have HDE : Hid (dec l = (plain (optsOf xs), 0)) := by show _ = _; rw [HD.out]; exact hS hI.whole hI.few
  have HTO := hd_ hto;have HI := hd_ hI;have HB0 := hd_ b0;have HB1 := hd_ b1;have HKK := hd_ hK;have HDD := hd_ hD;obtain ⟨sv, hsv⟩ : ∃ sv, sv = Value.slice al (optsOf xs).length cl := ⟨_, rfl⟩;have h1c : sv.oneCell' = true := by rw [hsv]; rfl
  have q0 : w.heap.size ≠ w.heap.size + 1 := by omega
  have c0 := b0.cell;have f0 := b0.frozen;have cl0 := bl.cell;have c1' : (W.setCell ⟨w.heap.size, 0, none⟩ (.slice al (optsOf xs).length cl)).cell? ⟨w.heap.size + 1, 0, none⟩ = some (.int .i64 0) := (b1.other (Ne.symm q0) _).cell;have f1' : (W.setCell ⟨w.heap.size, 0, none⟩ (.slice al (optsOf xs).length cl)).frozen? ⟨w.heap.size + 1, 0, none⟩ = false := (b1.other (Ne.symm q0) _).frozen;clear hI hto hv b0 b1 bl hS hK hD
  gi_wp2
  have hK2 := ((KeepsOthers.setCell W ⟨w.heap.size, 0, none⟩ (.slice al (optsOf xs).length cl)).trans (KeepsOthers.setCell _ ⟨w.heap.size + 1, 0, none⟩ (.int .i64 0))).same D _ HKK.out rfl;have r0 := turns_block (B := w4.heap.size) _ D _ (.deferred none) (((HB0.out.set (.slice al (optsOf xs).length cl)).other q0 (.int .i64 0)) : Boxed _ _ _ _) HDD.out hK2 rfl;have r1 := turns_block (B := w4.heap.size) _ D _ (.deferred none) (((HB1.out.other (Ne.symm q0) (.slice al (optsOf xs).length cl)).set (.int .i64 0)) : Boxed _ _ _ _) HDD.out hK2 rfl;have c2 := Boxed.cell r0;have c3 := Boxed.cell r1;have t1 := (HTO.out.box HB0.out (by decide) (by decide) (.slice al (optsOf xs).length cl)).box (HB1.out.other (Ne.symm q0) (.slice al (optsOf xs).length cl)) (by decide) (by decide) (.int .i64 0);have t2 : TO _ _ _ _ := ⟨turns_row (B := w4.heap.size) _ D _ (.deferred none) t1.own HDD.out hK2 rfl, fun y hy => turns_row (B := w4.heap.size) _ D _ (.deferred none) (t1.vals y hy) HDD.out hK2 rfl⟩;have t3 := ((HI.out.low.setCell (p := ⟨w.heap.size, 0, none⟩) (Nat.le_refl _) (.slice al (optsOf xs).length cl)).setCell (p := ⟨w.heap.size + 1, 0, none⟩) (by show _ <= w.heap.size + 1; omega) (.int .i64 0));have t4 := turns_below hle4 _ D _ (.deferred none) t3 HDD.out hK2 rfl;refine ⟨by simp, .inl ⟨_, _, rfl, run_takeDeferred hK2, ?_⟩⟩;exact ⟨_, results_cells2 (P := Tryz.prog) (fn := Tryz.f86) rfl _ _ ⟨w.heap.size, 0, none⟩ ⟨w.heap.size + 1, 0, none⟩ _ _ rfl rfl (by simp [go_sem, c2]) (by simp [go_sem, c3]), DecR.some HDE.out t2 t4⟩
 case stop =>
  intro D xs W hD hX hK;obtain ⟨k, hk, hk1⟩ := hX.err;have b0 : Boxed W w.heap.size 26 (.slice none 0 0) := hX.c0;have b1 : Boxed W (w.heap.size + 1) 50 (.int .i64 k) := hk1;have HDE : Hid (dec l = ([], k)) := by show _ = _; rw [HD.out]; exact hk
  gi_wp2
  have r0 := turns_block (B := w4.heap.size) _ D _ (.deferred none) b0 hD hK rfl;have r1 := turns_block (B := w4.heap.size) _ D _ (.deferred none) b1 hD hK rfl;have c2 := Boxed.cell r0;have c3 := Boxed.cell r1;have t4 := turns_below hle4 _ D _ (.deferred none) hX.low hD hK rfl;refine ⟨by simp, .inl ⟨_, _, rfl, run_takeDeferred hK, ?_⟩⟩;exact ⟨_, results_cells2 (P := Tryz.prog) (fn := Tryz.f86) rfl _ _ ⟨w.heap.size, 0, none⟩ ⟨w.heap.size + 1, 0, none⟩ _ _ rfl rfl (by simp [go_sem, c2]) (by simp [go_sem, c3]), DecR.none HDE.out t4⟩
end Go.Proofs.YtclplbapedmihaaGreat.O
namespace Go.Proofs.YtclplbapedmihaaGreat.O
set_option maxRecDepth 4000
open Go.RowKit
set_option linter.unusedVariables false
set_option linter.unusedSimpArgs false
set_option maxRecDepth 20000 in
set_option maxHeartbeats 4000000 in
theorem rencode_any (ao : Option Addr) (n c : Nat) (ts : List Tg) (w : World) (hr : TR w (.slice ao n c) n ts) (hn : n <= 1000) (hm : ∀ x ∈ ts, x.l.length <= 1000000) :
 Calls Tryz.prog 23 #[.slice ao n c] w (EncR (plain ts) w) := by
 obtain ⟨i0, hi, hz0, hz1, hz2⟩ := info_parts info5;have hl := hr.len;have HR := hd_ hr;clear hr
 by_cases h64 : 64 < n
 · have HE := hd_ (encE_many (ls := plain ts) (by rw [plain_length]; omega));go_enter Tryz.func23, Tryz.ntmps23
   go_wp2
   go_ret2
   exact EncR.none HE.out (by decide) (Below.refl _ _)
 have HN64 : Hid (¬ 64 < (plain ts).length) := by show ¬ _; rw [plain_length]; omega
 go_enter Tryz.func23, Tryz.ntmps23
 go_wp2
 go_loopw [4] (fun iv wr => ∃ k S : Nat, k <= n /\ iv = .int .i64 k /\ EI ts k S /\ Below w.heap.size w wr) (fun iv _ => n - (intOf iv).toNat)
 case atStart => exact ⟨0, 0, Nat.zero_le _, rfl, EI.zero ts, Below.refl _ _⟩
 case round =>
  obtain ⟨k, S, hk, rfl, hei, hb⟩ := hrel;have HEI := hd_ hei;have HSL := hd_ (hei.le (by omega));have HB := hd_ hb;have HBN := hd_ hb.size;clear hei hb
  by_cases hlt : k < n
  · obtain ⟨b, o, rfl, hbl, hc⟩ := (HR.out.below HB.out).cells (by omega);obtain ⟨hc0, hc1⟩ := hc k (by omega);obtain ⟨A, L, C, hv, hL, hLC, hCm⟩ := (HR.out.val k (by omega)).sl;rw [hv] at hc1;have HE := hd_ hv;have HL := hd_ hL;obtain ⟨T, hT⟩ : ∃ T, T = ts[k].typ := ⟨_, rfl⟩;rw [<- hT] at hc0;have HTT := hd_ hT;have HRA : Hid (wr.rangeAt b (o + k * 2) [.int .i64 T, .slice A L C]) := by
     intro j u hj
     match j, hj with
     | 0, hj => obtain rfl := Option.some.inj hj; exact hc0
     | 1, hj => obtain rfl := Option.some.inj hj; exact hc1
    have MB := hd_ (is_any T A L C ts[k].l HL.out wr);have HPL : Hid (ts[k].plain = (T, ts[k].l)) := by show _ = _; rw [hT]; rfl
    clear hv hL hT hc hm;go_wp2_with (first | (with_reducible refine wpList_load_mid rfl 69 (.tmp 18) rfl b (o + k * 2) rfl [.int .i64 T, .slice A L C] _ HRA.out Tryz.underlying69 rfl sizeT ?_) | fail)
    refine MB.out.mono ?_;rintro e w1 ⟨rfl, hb1⟩;have HB2 := hd_ (HB.out.trans (hb1.mono HB.out.size));clear hb1 hc0 hc1
    by_cases hT : isT (T, ts[k].l)
    · have hd : decide (isT (T, ts[k].l)) = true := decide_eq_true hT;have HIT := hd_ hT;rw [hd];have hs2 := HSL.out;clear hd hT;go_wp2
      go_roundw
      case rel =>
       have HN := EI.next HEI.out (by omega) (by rw [HPL.out]; exact HIT.out)
       first | exact ⟨k + 1, _, by omega, by go_num, HN, HB2.out⟩ | ((repeat apply Exists.intro); exact ⟨⟨k + 1, _, by omega, by go_num, HN, HB2.out⟩, rfl⟩)
      case measure => simp [intOf]; omega
    · have hd : decide (isT (T, ts[k].l)) = false := decide_eq_false hT;have HE := hd_ (encE_tag HN64.out (not_all (k := k) (by omega) (by rw [HPL.out]; exact hT)));rw [hd];clear hd hT;go_wp2
      go_ret2
      exact EncR.none HE.out (by decide) HB2.out
  · obtain rfl : n = k := by omega
    have HA : Hid ((∀ t ∈ plain ts, isT t) /\ S = (wireT (plain ts)).length) := EI.all (by rw [hl]; exact HEI.out);have HSS : Hid ((wireT (plain ts)).length <= 255000) := by have e1 := HEI.out.le (by omega); show _ <= _; rw [<- HA.out.2]; omega
    obtain ⟨wA, hA⟩ : ∃ x, x = wr := ⟨_, rfl⟩;subst hA;go_wp2
    go_loopw [5, 6] (fun bv iv wr => ∃ k : Nat, k <= n /\ iv = .int .i64 k /\ OwnB wr w.heap.size 5 bv (wireT ((plain ts).take k)) /\ Below w.heap.size w wr) (fun _ iv _ => n - (intOf iv).toNat)
    case atStart => exact ⟨0, Nat.zero_le _, rfl, OwnB.nil _ _ _, HB.out⟩
    case round =>
     obtain ⟨k, hk, rfl, hown, hb⟩ := hrel;have HB := hd_ hb;have HBN := hd_ hb.size;have HO := hd_ hown;clear hb hown
     by_cases hlt : k < n
     · obtain ⟨b, o, rfl, hbl, hc⟩ := HR.out.cells (by omega);obtain ⟨hc0, hc1⟩ := hc k (by omega);have HV := hd_ (HR.out.val k (by omega));obtain ⟨A, L, C, hv, hL, hLC, hCm⟩ := HV.out.sl;rw [hv] at hc1;have HE1 := hd_ hv;have HL := hd_ hL;have hIT := HA.out.1 ts[k].plain (List.mem_map.2 ⟨_, List.getElem_mem _, rfl⟩);obtain ⟨X, hX⟩ : ∃ X : Nat, (X : Int) = ts[k].typ := ⟨ts[k].typ.toNat, by have := hIT.1; unfold Tg.plain at this; simp only at this; omega⟩;rw [<- hX] at hc0;have hX1 : X <= 255 := by have := hIT.2.1; unfold Tg.plain at this; simp only at this; omega
       have hL1 : L <= 253 := by have := hIT.2.2; unfold Tg.plain at this; simp only at this; omega
       have HTK := hd_ (wireT_head ts k X L (by omega) hX hL);have HKL : Hid ((wireT ((plain ts).take k)).length <= 255000) := Nat.le_trans (wireT_take_le _ k) HSS.out;obtain ⟨M, hM⟩ : ∃ M : Nat, (L : Int) + 2 = (M : Int) := ⟨L + 2, by omega⟩;have HM : Hid (2 + L = M) := by show _ = _; omega
       have W1 : IntKind.i64.wrap ((L : Int) + 2) = (M : Int) := by rw [hM]; exact IntWalk.i64_in _ (by omega)
       have W2 : IntKind.i64.wrap (M : Int) = (M : Int) := IntWalk.i64_in _ (by omega);have W3 : IntKind.u8.wrap (X : Int) = (X : Int) := IntWalk.u8_in _ (by omega);have W4 : IntKind.u8.wrap (M : Int) = (M : Int) := IntWalk.u8_in _ (by omega);have HC0 := hd_ hc0;have HC1 := hd_ hc1;have hM256 : M < 256 := by omega
       clear hv hL hX hc hIT hc0 hc1;have i0' : (k : Int) < (n : Int) := by omega
       go_wp2_with fail
       refine wp_region_G 18 (Below (w.heap.size)) (by kernel_rfl) ?_;refine wpG_u (preBelow (w.heap.size)) 0 (some 28) ?_;refine wpG_u (preBelow (w.heap.size)) 1 (some 29) ?_;refine wpG_u (preBelow (w.heap.size)) 2 (some 30) ?_;refine wpG_u (preBelow (w.heap.size)) 3 (some 31) ?_ (hy := fun w' hw' => by
        try have g0 := cell_gr (HB.out.trans ((Below.drew (Below.refl w.heap.size wr)).trans hw')) HC0.out
        try have g1 := cell_gr (HB.out.trans ((Below.drew (Below.refl w.heap.size wr)).trans hw')) HC1.out
        go_simp;with_reducible rfl)
       refine wpG_u (preBelow (w.heap.size)) 4 (some 32) ?_;refine wpG_u (preBelow (w.heap.size)) 5 (some 33) ?_ (hy := fun w' hw' => by
        try have g0 := cell_gr (HB.out.trans ((Below.drew (Below.refl w.heap.size wr)).trans hw')) HC0.out
        try have g1 := cell_gr (HB.out.trans ((Below.drew (Below.refl w.heap.size wr)).trans hw')) HC1.out
        go_simp;with_reducible rfl)
       refine wpG_u (preBelow (w.heap.size)) 6 (some 34) ?_ (hy := fun w' hw' => by
        try have g0 := cell_gr (HB.out.trans ((Below.drew (Below.refl w.heap.size wr)).trans hw')) HC0.out
        try have g1 := cell_gr (HB.out.trans ((Below.drew (Below.refl w.heap.size wr)).trans hw')) HC1.out
        go_simp;with_reducible rfl)
       refine wpG_u (preBelow (w.heap.size)) 7 (some 35) ?_;refine wpG_u (preBelow (w.heap.size)) 8 (some 36) ?_;refine wpG_u (preBelow (w.heap.size)) 9 (some 37) ?_ (hy := fun w' hw' => by
        try have g0 := cell_gr (HB.out.trans ((Below.drew (Below.refl w.heap.size wr)).trans hw')) HC0.out
        try have g1 := cell_gr (HB.out.trans ((Below.drew (Below.refl w.heap.size wr)).trans hw')) HC1.out
        go_simp;with_reducible rfl)
       refine wpG_u (preBelow (w.heap.size)) 10 (some 38) ?_;refine wpG_u (preBelow (w.heap.size)) 11 (some 39) ?_ (hy := fun w' hw' => by
        try have g0 := cell_gr (HB.out.trans ((Below.drew (Below.refl w.heap.size wr)).trans hw')) HC0.out
        try have g1 := cell_gr (HB.out.trans ((Below.drew (Below.refl w.heap.size wr)).trans hw')) HC1.out
        go_simp;with_reducible rfl)
       refine wpG_u (preBelow (w.heap.size)) 12 (some 40) ?_ (hy := fun w' hw' => by
        try have g0 := cell_gr (HB.out.trans ((Below.drew (Below.refl w.heap.size wr)).trans hw')) HC0.out
        try have g1 := cell_gr (HB.out.trans ((Below.drew (Below.refl w.heap.size wr)).trans hw')) HC1.out
        go_simp;with_reducible rfl)
       refine wpG_u (preBelow (w.heap.size)) 13 (some 41) ?_;refine wpG_u (preBelow (w.heap.size)) 14 (some 42) ?_ (hy := fun w' hw' => by
        try have g0 := cell_gr (HB.out.trans ((Below.drew (Below.refl w.heap.size wr)).trans hw')) HC0.out
        try have g1 := cell_gr (HB.out.trans ((Below.drew (Below.refl w.heap.size wr)).trans hw')) HC1.out
        go_simp;with_reducible rfl)
       refine wpG_one (i := 15) rfl (by kernel_rfl) (by rfl) ?_;go_simp;have hA : Below wr.drew.heap.size wr.drew (wr.drew.alloc (.cells #[.int .u8 (X : Int), .int .u8 (M : Int)] 5)) := (Below.refl _ _).alloc (Nat.le_refl _) _;refine ⟨hA.mono HBN.out, ?_⟩;have HB2 : Hid (Below w.heap.size w (wr.drew.alloc (.cells #[.int .u8 (X : Int), .int .u8 (M : Int)] 5))) := HB.out.drew.trans (hA.mono HBN.out);have HO2 := hd_ ((HO.out.below (Gr.drew wr)).below hA);have HR2 : Hid (Rd (wr.drew.alloc (.cells #[.int .u8 (X : Int), .int .u8 (M : Int)] 5)) 1 (.slice (some ⟨wr.heap.size, 0, none⟩) 2 2) 2 ([UInt8.ofNat X, UInt8.ofNat M].map u8v)) := by
        have := rd_new wr.drew ([UInt8.ofNat X, UInt8.ofNat M].map u8v) 5 2 1 rfl (by decide);rw [<- two_u8 X M (by omega) hM256] at this;show Rd _ _ _ _ _;rw [<- two_u8 X M (by omega) hM256];exact this
       have HQ : Hid (Gr wr (wr.drew.alloc (.cells #[.int .u8 (X : Int), .int .u8 (M : Int)] 5))) := (Gr.drew wr).trans hA;clear hA;try simp only [Act.put, aq1, aq2, aq3]
       refine wpG_one (i := 16) rfl (by kernel_rfl) (by rfl) ?_;refine wp_append_gr _ (some 44) (.tmp 28) (.tmp 43) 30 rfl w.heap.size 5 i0 (.int .u8 0) 1 1 Tryz.underlying30 hi hz0 hz1 hz2 rfl (by decide) _ _ _ rfl HO2.out _ _ _ rfl HR2.out (oneCell_u8 _) ?q1 (by decide) HB2.out.size rfl ?_
       case q1 => have := HKL.out; omega
       intro v3 w3 hown3 hg3;have hb3 := grown_below HO2.out HB2.out.size hg3;refine ⟨hb3, ?_⟩;have HB3 := hd_ (HB2.out.trans hb3);have HO3 := hd_ hown3;clear hown3 hg3 hb3;try simp only [Act.put, aq1, aq2, aq3]
       refine wpG_u (preBelow (w.heap.size)) 17 (some 5) ?_;refine wpG_done (by kernel_rfl) ?_ _;have k0 := cell_gr HB3.out HC0.out;have k1 := cell_gr HB3.out HC1.out;have HV5 : Hid (Rd w3 1 (.slice A L C) L (ts[k].l.map u8v)) := by
        have := HV.out.below HB3.out;rw [HE1.out] at this;unfold Bs at this;rw [HL.out] at this;exact this
       clear W1 W2 W3 W4;go_wp2_with (at_builtin; refine wpList_append_gr _ rfl (.tmp 45) (.tmp 50) 30 rfl w.heap.size 5 i0 (.int .u8 0) 1 1 Tryz.underlying30 hi hz0 hz1 hz2 rfl (by decide) _ _ _ rfl HO3.out _ _ _ rfl HV5.out (oneCell_u8 _) ?q1 (by decide) HB3.out.size ?_)
       case q1 => have := HKL.out; omega
       intro v6 w6 hown6 hg6;have HB6 := hd_ (HB3.out.trans (grown_below HO3.out HB3.out.size hg6));have HO6 : Hid (OwnB w6 w.heap.size 5 v6 (wireT ((plain ts).take (k + 1)))) := by
        show OwnB _ _ _ _ _;rw [HTK.out, HM.out];unfold OwnB;have e1 : (wireT ((plain ts).take k) ++ ([UInt8.ofNat X, UInt8.ofNat M] ++ ts[k].l)).length = (wireT ((plain ts).take k)).length + 2 + L := by
         simp only [List.length_append, List.length_cons, List.length_nil];rw [HL.out]; omega
        rw [e1];simpa using hown6
       clear hown6 hg6 k0 k1;go_wp2
       go_roundw
       case rel =>
        first | exact ⟨k + 1, by omega, by go_num, HO6.out, HB6.out⟩ | ((repeat apply Exists.intro); exact ⟨⟨k + 1, by omega, by go_num, HO6.out, HB6.out⟩, rfl⟩)
       case measure => simp [intOf]; omega
     · obtain rfl : n = k := by omega
       have HW : Hid ((plain ts).take n = plain ts) := by show _ = _; rw [<- hl, <- plain_length, List.take_length]
       have HO1 := HO.out;rw [HW.out] at HO1;obtain ⟨A, L, C, rfl, hL, hLC, hCm⟩ := HO1.bs.sl;have HO2 := hd_ HO1;have HLL := hd_ hL;clear HO1 hL
       by_cases hS : 1488 < L
       · have HE := hd_ (encE_long HN64.out HA.out.1 (by rw [HLL.out]; exact hS));go_wp2
         go_ret2
         exact EncR.none HE.out (by decide) HB.out
       · have HE := hd_ (encE_ok HN64.out HA.out.1 (by rw [HLL.out]; exact hS));go_wp2
         go_ret2
         exact EncR.some HE.out HO2.out HB.out
theorem bytes_ne {l m : List UInt8} (h : ¬ l = m) : (l == m) = false := beq_eq_false_iff_ne.2 h
theorem bytesEqual_any (a b : Option Addr) (n n' c c' : Nat) (l m : List UInt8) (w : World) (h : Bs w (.slice a n c) l) (h' : Bs w (.slice b n' c') m) :
 Calls Tryz.prog 88 #[.slice a n c, .slice b n' c'] w fun e w' => e = .returned (.bool (decide (l = m))) /\ w = w' := by
 have s1 := run_string_of (P := Tryz.prog) 30 9 5 Tryz.underlying30 Tryz.underlying5 Tryz.underlying9 h;have s2 := run_string_of (P := Tryz.prog) 30 9 5 Tryz.underlying30 Tryz.underlying5 Tryz.underlying9 h'
 by_cases hd : l = m
 · have e : decide (l = m) = true := decide_eq_true hd;rw [e];subst hd;clear h h' e;go_enter Tryz.func88, Tryz.ntmps88
   go_wp2
   go_ret
   exact ⟨rfl, rfl⟩
 · have e : decide (l = m) = false := decide_eq_false hd;rw [e];have hb := bytes_ne hd;clear h h' hd e;go_enter Tryz.func88, Tryz.ntmps88
   go_wp2
   go_ret
   exact ⟨rfl, rfl⟩
theorem one_any (T U : Int) (a b : Option Addr) (n n' c c' : Nat) (l m : List UInt8) (w : World) (h : Bs w (.slice a n c) l) (h' : Bs w (.slice b n' c') m) :
 Calls Tryz.prog 65 #[.agg #[.int .i64 T, .slice a n c], .agg #[.int .i64 U, .slice b n' c']] w fun e w' => e = .returned (.bool (decide ((T, l) = (U, m)))) /\ Below w.heap.size w w' := by
 have hb : Below w.heap.size w ((w.alloc (.cells #[.int .i64 T, .slice a n c] 69)).alloc (.cells #[.int .i64 U, .slice b n' c'] 69)) := ((Below.refl _ _).alloc (Nat.le_refl _) _).alloc (by simp) _;have s1 := run_string_of (P := Tryz.prog) 30 9 5 Tryz.underlying30 Tryz.underlying5 Tryz.underlying9 (h.below hb);have s2 := run_string_of (P := Tryz.prog) 30 9 5 Tryz.underlying30 Tryz.underlying5 Tryz.underlying9 (h'.below hb);have HB := hd_ hb;clear h h' hb
 by_cases hT : T = U
 · subst hT
   by_cases hd : l = m
   · have e : decide ((T, l) = (T, m)) = true := decide_eq_true (by rw [hd]);rw [e];subst hd;clear e;go_enter Tryz.func65, Tryz.ntmps65
     go_wp2
     go_ret
     exact ⟨rfl, HB.out⟩
   · have e : decide ((T, l) = (T, m)) = false := decide_eq_false (fun e => hd (congrArg Prod.snd e));rw [e];have hb := bytes_ne hd;clear hd e;go_enter Tryz.func65, Tryz.ntmps65
     go_wp2
     go_ret
     exact ⟨rfl, HB.out⟩
 · have e : decide ((T, l) = (U, m)) = false := decide_eq_false (fun e => hT (congrArg Prod.fst e));rw [e];have hb : (T == U) = false := beq_eq_false_iff_ne.2 hT;clear hT e s1 s2;go_enter Tryz.func65, Tryz.ntmps65
   go_wp2
   go_ret
   exact ⟨rfl, HB.out⟩
def Alike (ts us : List Tg) (k : Nat) : Prop := (plain ts).take k = (plain us).take k
theorem Alike.zero (ts us : List Tg) : Alike ts us 0 := rfl
theorem Alike.next {ts us : List Tg} {k : Nat} (h : Alike ts us k) (h1 : k < ts.length) (h2 : k < us.length) (e : (ts[k].typ, ts[k].l) = (us[k].typ, us[k].l)) : Alike ts us (k + 1) := by
 unfold Alike at *;rw [List.take_succ_eq_append_getElem (by rw [plain_length]; exact h1), List.take_succ_eq_append_getElem (by rw [plain_length]; exact h2), h, plain_get ts k h1, plain_get us k h2, e]
theorem Alike.all {ts us : List Tg} {n : Nat} (h : Alike ts us n) (h1 : ts.length = n) (h2 : us.length = n) : plain ts = plain us := by
 unfold Alike at h
 rwa [List.take_of_length_le (by rw [plain_length]; omega), List.take_of_length_le (by rw [plain_length]; omega)] at h
theorem plain_at {ts us : List Tg} (h : plain ts = plain us) (i : Nat) (h1 : i < ts.length) (h2 : i < us.length) : (ts[i].typ, ts[i].l) = (us[i].typ, us[i].l) := by
 have e1 := plain_get ts i h1;have e2 := plain_get us i h2;have h3 : (plain ts)[i]'(by rw [plain_length]; exact h1) = (plain us)[i]'(by rw [plain_length]; exact h2) := by simp only [h]
 rw [e1, e2] at h3;exact h3
theorem plain_len {ts us : List Tg} (h : plain ts = plain us) : ts.length = us.length := by
 have := congrArg List.length h; rwa [plain_length, plain_length] at this
set_option maxHeartbeats 1000000 in
theorem rsame_any (ao bo : Option Addr) (n n' c c' : Nat) (ts us : List Tg) (w : World) (hr : TR w (.slice ao n c) n ts) (hs : TR w (.slice bo n' c') n' us) :
 Calls Tryz.prog 36 #[.slice ao n c, .slice bo n' c'] w fun e w' => e = .returned (.bool (decide (plain ts = plain us))) /\ Below w.heap.size w w' := by
 have hl := hr.len;have hl' := hs.len;obtain ⟨_, _, es, hca, hcm⟩ := hr.shape;simp only [Value.slice.injEq] at es;obtain ⟨rfl, z1, rfl⟩ := es;clear z1;unfold maxLen at hcm
 by_cases hnn : n = n'
 · subst hnn;have HR := hd_ hr;have HS := hd_ hs;clear hr hs;go_enter Tryz.func36, Tryz.ntmps36
   go_wp2
   go_loopw [5] (fun iv wr => ∃ k : Nat, k <= n /\ iv = .int .i64 k /\ Alike ts us k /\ Below w.heap.size w wr) (fun iv _ => n - (intOf iv).toNat)
   case atStart => exact ⟨0, Nat.zero_le _, rfl, Alike.zero _ _, Below.refl _ _⟩
   case round =>
    obtain ⟨k, hk, rfl, hal, hb⟩ := hrel;have HA := hd_ hal;have HB := hd_ hb;clear hal hb
    by_cases hlt : k < n
    · obtain ⟨b, o, rfl, hbl, hc⟩ := (HR.out.below HB.out).cells (by omega);obtain ⟨b2, o2, rfl, hbl2, hd⟩ := (HS.out.below HB.out).cells (by omega);obtain ⟨hc0, hc1⟩ := hc k (by omega);obtain ⟨hd0, hd1⟩ := hd k (by omega);have hv := HR.out.val k (by omega);have hw := HS.out.val k (by omega);obtain ⟨A, L, C, ev, hL, hLC, hCm⟩ := hv.sl;obtain ⟨A2, L2, C2, ew, hL2, hLC2, hCm2⟩ := hw.sl;rw [ev] at hc1 hv;rw [ew] at hd1 hw;have HK : Hid (decide ((ts[k].typ, ts[k].l) = (us[k].typ, us[k].l)) = true -> Alike ts us (k + 1)) := fun e => HA.out.next (by omega) (by omega) (of_decide_eq_true e)
      have HNK : Hid (decide ((ts[k].typ, ts[k].l) = (us[k].typ, us[k].l)) = false -> decide (plain ts = plain us) = false) := fun e => decide_eq_false fun h => of_decide_eq_false e (plain_at h k (by omega) (by omega))
      generalize ts[k].typ = T at hc0 HK HNK;generalize ts[k].l = x at hv HK HNK;generalize us[k].typ = U at hd0 HK HNK;generalize us[k].l = y at hw HK HNK;have HRA : Hid (wr.rangeAt b (o + k * 2) [.int .i64 T, .slice A L C]) := by
       intro j u hj
       match j, hj with
       | 0, hj => obtain rfl := Option.some.inj hj; exact hc0
       | 1, hj => obtain rfl := Option.some.inj hj; exact hc1
      have HRB : Hid (wr.rangeAt b2 (o2 + k * 2) [.int .i64 U, .slice A2 L2 C2]) := by
       intro j u hj
       match j, hj with
       | 0, hj => obtain rfl := Option.some.inj hj; exact hd0
       | 1, hj => obtain rfl := Option.some.inj hj; exact hd1
      have OA : Hid (∀ w', Gr wr w' -> Calls Tryz.prog 65 #[.agg #[.int .i64 T, .slice A L C], .agg #[.int .i64 U, .slice A2 L2 C2]] w' fun e w2 => e = .returned (.bool (decide ((T, x) = (U, y)))) /\ Below w'.heap.size w' w2) := fun w' hw' =>
       one_any T U A A2 L L2 C C2 x y w' (hv.below (HB.out.trans (Below.mono hw' HB.out.size))) (hw.below (HB.out.trans (Below.mono hw' HB.out.size)))
      have hbn := HB.out.size;generalize decide ((T, x) = (U, y)) = q at OA HK HNK;clear hv hw hc hd ev ew hc0 hc1 hd0 hd1 hL hL2;go_wp2_with fail
      refine wp_region_G 10 Gr (by kernel_rfl) ?_;refine wpG_u preGr 0 (some 17) ?_;refine wpG_u preGr 1 (some 18) ?_;refine wpG_u preGr 2 (some 19) ?_;refine wpG_u preGr 3 (some 20) ?_ (hy := fun w' hw' => by
       refine Eq.trans (load_mid_run (P := Tryz.prog) 69 (.tmp 19) ?_ b (o + k * 2) ?_ [.int .i64 T, .slice A L C] _ (range_gr ((Gr.drew wr).trans hw') HRA.out) Tryz.underlying69 rfl sizeT) ?_
       · rfl
       · rfl
       · with_reducible rfl)
      refine wpG_u preGr 4 (some 21) ?_;refine wpG_u preGr 5 (some 22) ?_;refine wpG_u preGr 6 (some 23) ?_;refine wpG_u preGr 7 (some 24) ?_ (hy := fun w' hw' => by
       refine Eq.trans (load_mid_run (P := Tryz.prog) 69 (.tmp 23) ?_ b2 (o2 + k * 2) ?_ [.int .i64 U, .slice A2 L2 C2] _ (range_gr ((Gr.drew wr).trans hw') HRB.out) Tryz.underlying69 rfl sizeT) ?_
       · rfl
       · rfl
       · with_reducible rfl)
      refine wpG_one (i := 8) rfl (by kernel_rfl) (by rfl) ?_;go_simp;refine (OA.out _ (Gr.drew _)).mono ?_;rintro e w2 ⟨rfl, hb2⟩;refine ⟨hb2, ?_⟩;have HB2 := hd_ (HB.out.drew.trans (hb2.mono hbn));clear hb2;try simp only [Act.put, aq1, aq2, aq3]
      refine wpG_u preGr 9 (some 26) ?_;refine wpG_done (by kernel_rfl) ?_ _;cases q with
      | true =>
       have HA1 := hd_ (HK.out rfl);clear HNK HK;go_wp2
       go_roundw
       case rel =>
        have HA2 := HA1.out
        first | exact ⟨k + 1, by omega, by go_num, HA2, HB2.out⟩ | ((repeat apply Exists.intro); exact ⟨⟨k + 1, by omega, by go_num, HA2, HB2.out⟩, rfl⟩)
       case measure => simp [intOf]; omega
      | false =>
       have HN := hd_ (HNK.out rfl);clear HNK HK;go_wp2
       go_ret
       exact ⟨by rw [HN.out]; rfl, HB2.out⟩
    · obtain rfl : k = n := by omega
      have HE := hd_ (decide_eq_true (HA.out.all (by omega) (by omega)));go_wp2
      go_ret
      exact ⟨by rw [HE.out]; rfl, HB.out⟩
 · have e : decide (plain ts = plain us) = false := decide_eq_false fun h => hnn (by have := plain_len h; omega)
   rw [e];have hne : ((n : Int) != (n' : Int)) = true := by rw [bne_iff_ne]; omega
   clear hr hs e hnn;go_enter Tryz.func36, Tryz.ntmps36
   go_wp2
   go_ret
   exact ⟨rfl, Below.refl _ _⟩
structure DI (l : List UInt8) (w wr : World) (lv : Value) (n p : Nat) (ts : List Tg) : Prop where
 dec : decL [] l = decL (plain ts) (l.drop p)
 own : TO wr w.heap.size lv ts
 few : ts.length <= 64
 low : Below w.heap.size w wr
set_option maxRecDepth 20000 in
set_option maxHeartbeats 4000000 in
theorem rdecode_any (a : Option Addr) (n c : Nat) (l : List UInt8) (hn : l.length = n) (w : World) (hb : Bs w (.slice a n c) l) (hr : n <= 140737488351232) :
 Calls Tryz.prog 74 #[.slice a n c] w (DecR l w) := by
 obtain ⟨i0, hi, hz0, hz1, hz2⟩ := info_parts infoT;obtain ⟨j0, hj, hy0, hy1, hy2⟩ := info_parts info5;have HN := hd_ hn;have HBS := hd_ hb
 by_cases hlong : 1488 < n
 · have HD := hd_ (dec_long (l := l) (by omega));clear hn hb;go_enter Tryz.func74, Tryz.ntmps74
   go_wp2
   go_ret2
   exact DecR.none HD.out (Below.refl _ _)
 have HD := hd_ (dec_fits (l := l) (by omega));have HI0 : Hid (DI l w w (.slice none 0 0) n 0 []) := ⟨rfl, TO.nil _ _, Nat.zero_le _, Below.refl _ _⟩;clear hn hb;go_enter Tryz.func74, Tryz.ntmps74
 go_wp2
 go_loopw [4, 5] (fun lv pv wr => ∃ (p : Nat) (ts : List Tg), pv = .int .i64 p /\ p <= n /\ Hid (DI l w wr lv n p ts)) (fun _ pv _ => n - (intOf pv).toNat)
 case atStart => exact ⟨0, [], rfl, Nat.zero_le _, HI0⟩
 case round =>
  clear HI0;obtain ⟨p, ts, rfl, hpn, HI⟩ := hrel;have HLOW := hd_ HI.out.low;have HOWN := hd_ HI.out.own;have hlow : w.heap.size <= wr.heap.size := HLOW.out.size;have HDL : Hid ((l.drop p).length = n - p) := by show _ = _; rw [List.length_drop, HN.out]
  by_cases h0 : p = n
  · have HD2 : Hid (dec l = (plain ts, 0)) := by
     show _ = _;rw [HD.out, HI.out.dec];exact decL_nil _ _ (by rw [HDL.out]; omega)
    subst h0;go_wp2
    go_ret2
    exact DecR.some HD2.out HOWN.out HLOW.out
  have hpl : p < n := by omega
  have hbad : ¬ fok (l.drop p) -> dec l = ([], 80) := fun h => by
   rw [HD.out, HI.out.dec];exact decL_bad _ _ (by rw [HDL.out]; omega) h
  have HBAD := hd_ hbad;clear hbad h0
  by_cases h2 : n - p < 2
  · have HD2 := hd_ (HBAD.out fun h => by have := h.1; rw [HDL.out] at this; omega);go_wp2
    go_ret2
    exact DecR.none HD2.out HLOW.out
  obtain ⟨b, o, rfl, hbl, hcell⟩ := HBS.out.cells (by rw [HN.out]; omega);obtain ⟨_, _, es0, hcc, hcm⟩ := HBS.out.shape;simp only [Value.slice.injEq] at es0;obtain ⟨rfl, z0, rfl⟩ := es0;rw [HN.out] at hcc;clear z0;unfold maxLen at hcm;have hc0 := hcell p (by rw [HN.out]; omega);have hc1 := hcell (p + 1) (by rw [HN.out]; omega);rw [<- bN_get l p (by rw [HN.out]; omega)] at hc0;rw [<- bN_get l (p + 1) (by rw [HN.out]; omega)] at hc1;have hX8 := bN_lt l p;have hK8 := bN_lt l (p + 1);obtain ⟨X, hX⟩ : ∃ X, X = bN l p := ⟨_, rfl⟩;obtain ⟨K, hK⟩ : ∃ K, K = bN l (p + 1) := ⟨_, rfl⟩;rw [<- hX] at hc0 hX8;rw [<- hK] at hc1 hK8;have HX : Hid (bN (l.drop p) 0 = X) := by show _ = _; rw [bN_drop, hX]; rfl
  have HK : Hid (bN (l.drop p) 1 = K) := by show _ = _; rw [bN_drop, hK]
  have k1 := cell_gr HLOW.out hc1;have HC0 := hd_ hc0;clear hX hK hcell hc0 hc1
  by_cases hk2 : K < 2
  · have HD2 := hd_ (HBAD.out fun h => by have := h.2.1; rw [HK.out] at this; omega);go_wp2
    go_ret2
    exact DecR.none HD2.out HLOW.out
  by_cases hkn : n - p < K
  · have HD2 := hd_ (HBAD.out fun h => by have := h.2.2; rw [HK.out, HDL.out] at this; omega);go_wp2
    go_ret2
    exact DecR.none HD2.out HLOW.out
  have HF : Hid (fok (l.drop p)) := by show _ /\ _ /\ _; rw [HK.out, HDL.out]; omega
  obtain ⟨N, hN⟩ : ∃ N, N = ts.length := ⟨_, rfl⟩;obtain ⟨al, cl, evl, _, _⟩ := HOWN.out.tr.shape;rw [<- hN] at evl;subst evl;have HNN := hd_ hN;have hN64 : N <= 64 := by rw [hN]; exact HI.out.few
  clear hN
  by_cases h64 : N = 64
  · have HD2 : Hid (dec l = ([], 3)) := by
     show _ = _;rw [HD.out, HI.out.dec];exact decL_many _ _ HF.out (by rw [plain_length, <- HNN.out]; exact h64)
    subst h64;go_wp2
    go_ret2
    exact DecR.none HD2.out HLOW.out
  have h64' : ((N : Int) == 64) = false := by rw [beq_eq_false_iff_ne]; omega
  have hN63 : N + 1 <= 64 := by omega
  have hb1 : Rd w 1 (.slice (some ⟨b, o, none⟩) n c) n (l.map u8v) := by
   have := HBS.out;unfold Bs at this;rw [HN.out] at this;exact this
  obtain ⟨P2, hP2⟩ : ∃ P2 : Nat, (p : Int) + 2 = (P2 : Int) := ⟨p + 2, by omega⟩;obtain ⟨Q2, hQ2⟩ : ∃ Q2 : Nat, (p : Int) + (K : Int) = (Q2 : Int) := ⟨p + K, by omega⟩;obtain ⟨a5, hs5, hr5⟩ := slice_range (P := Tryz.prog) Tryz.underlying30 hj hy1 hb1 .i64 .i64 P2 Q2 P2 Q2 rfl rfl (by omega) (by omega);rw [drop_u8, take_u8', show Q2 - P2 = K - 2 by omega, show P2 = p + 2 by omega, <- List.drop_drop] at hr5;rw [show Q2 - P2 = K - 2 by omega] at hs5;have HS5 : Hid (Rd w 1 (.slice a5 (K - 2) (c - (p + 2))) (K - 2) ((((l.drop p).drop 2).take (K - 2)).map u8v)) := hr5;rw [show c - P2 = c - (p + 2) by omega] at hs5;have hl5 : (((l.drop p).drop 2).take (K - 2)).length = K - 2 := by rw [List.length_take, List.length_drop, HDL.out]; omega
  have HL5 := hd_ hl5;have HP : Hid (headP (l.drop p) = ((X : Int), ((l.drop p).drop 2).take (K - 2))) := by show _ = _; unfold headP; rw [HX.out, HK.out]
  have HD2 : Hid (∀ V, decL [] l = decL (plain (ts ++ [(⟨(X : Int), V, ((l.drop p).drop 2).take (K - 2)⟩ : Tg)])) (l.drop (p + K))) := fun V => by
   rw [HI.out.dec, decL_next _ _ HF.out (by rw [plain_length, <- HNN.out]; omega), HP.out, HK.out, plain_append, show l.drop (p + K) = (l.drop p).drop K by rw [List.drop_drop]];rfl
  have W1 : IntKind.i64.wrap ((p : Int) + 2) = (P2 : Int) := by rw [hP2]; exact IntWalk.i64_in _ (by omega)
  have W2 : IntKind.i64.wrap (P2 : Int) = (P2 : Int) := IntWalk.i64_in _ (by omega);have W3 : IntKind.i64.wrap ((p : Int) + (K : Int)) = (Q2 : Int) := by rw [hQ2]; exact IntWalk.i64_in _ (by omega)
  have W4 : IntKind.i64.wrap (Q2 : Int) = (Q2 : Int) := IntWalk.i64_in _ (by omega);have W5 : IntKind.i64.wrap (X : Int) = (X : Int) := IntWalk.i64_in _ (by omega);have i0' : (p : Int) < (n : Int) := by omega
  clear hb1 hr5 hl5 h64;go_wp2_with fail
  refine wp_region_G 19 (Below (w.heap.size)) (by kernel_rfl) ?_;refine wpG_u (preBelow (w.heap.size)) 0 (some 38) ?_;refine wpG_u (preBelow (w.heap.size)) 1 (some 39) ?_;refine wpG_u (preBelow (w.heap.size)) 2 (some 40) ?_;refine wpG_u (preBelow (w.heap.size)) 3 (some 41) ?_ (hy := fun w' hw' => by
   try have g0 := cell_gr (HLOW.out.trans ((Below.drew (Below.refl w.heap.size wr)).trans hw')) HC0.out
   go_simp;with_reducible rfl)
  refine wpG_u (preBelow (w.heap.size)) 4 (some 42) ?_ (hy := fun w' hw' => by
   try have g0 := cell_gr (HLOW.out.trans ((Below.drew (Below.refl w.heap.size wr)).trans hw')) HC0.out
   go_simp;with_reducible rfl)
  refine wpG_u (preBelow (w.heap.size)) 5 (some 43) ?_ (hy := fun w' hw' => by
   try have g0 := cell_gr (HLOW.out.trans ((Below.drew (Below.refl w.heap.size wr)).trans hw')) HC0.out
   go_simp;with_reducible rfl)
  refine wpG_u (preBelow (w.heap.size)) 7 (some 45) ?_;refine wpG_u (preBelow (w.heap.size)) 8 (some 46) ?_;refine wpG_u (preBelow (w.heap.size)) 9 (some 47) ?_;refine wpG_u (preBelow (w.heap.size)) 10 (some 48) ?_;refine wpG_u (preBelow (w.heap.size)) 11 (some 49) ?_;refine wpG_u (preBelow (w.heap.size)) 12 (some 50) ?_;refine wpG_u (preBelow (w.heap.size)) 13 (some 51) ?_ (hy := fun w' hw' => by
   try have g0 := cell_gr (HLOW.out.trans ((Below.drew (Below.refl w.heap.size wr)).trans hw')) HC0.out
   go_simp;with_reducible rfl)
  refine wpG_one (i := 6) rfl (by kernel_rfl) (by rfl) ?_;go_simp;have hA : Below wr.drew.heap.size wr.drew (wr.drew.alloc (.cells #[] 5)) := (Below.refl _ _).alloc (Nat.le_refl _) _;refine ⟨hA.mono hlow, ?_⟩;have HOE : Hid ((wr.drew.alloc (.cells #[] 5)).ownsRow wr.heap.size 5 1 (.slice (some ⟨wr.heap.size, 0, none⟩) 0 0) 0 []) := World.ownsRow_made (base := wr.drew.heap.size) _ _ _ (Nat.le_refl _) (Nat.zero_le _) rfl;have HLO1 : Hid (Below w.heap.size w (wr.drew.alloc (.cells #[] 5))) := HLOW.out.drew.trans (hA.mono hlow);have HQ1 : Hid (Gr wr (wr.drew.alloc (.cells #[] 5))) := (Gr.drew wr).trans hA;clear hA;try simp only [Act.put, aq1, aq2, aq3]
  refine wpG_one (i := 14) rfl (by kernel_rfl) (by rfl) ?_;have HRA := hd_ (HS5.out.below HLO1.out);refine wp_append_gr _ (some 52) (.tmp 44) (.tmp 51) 30 rfl wr.heap.size 5 j0 (.int .u8 0) 1 1 Tryz.underlying30 hj hy0 hy1 hy2 rfl (by decide) _ _ _ rfl HOE.out _ _ _ rfl HRA.out (oneCell_u8 _) ?q1 (by decide) HQ1.out.size rfl ?_
  case q1 => omega
  intro v1 w1 ho1 hg1;have hb1 := grown_below HOE.out HQ1.out.size hg1;refine ⟨hb1.mono hlow, ?_⟩;have hq1 : Gr wr w1 := Below.trans HQ1.out hb1;have HOV : Hid (OwnB w1 w.heap.size 5 v1 (((l.drop p).drop 2).take (K - 2))) := by
   show OwnB _ _ _ _ _;unfold OwnB;rw [HL5.out];exact ownsRow_mono (by simpa using ho1) hlow
  have HOW2 := hd_ (HOWN.out.below hq1);have HLO2 := hd_ (HLOW.out.trans (Below.mono hq1 hlow));obtain ⟨A, L, C, ev, hL1, _, _⟩ := HOV.out.bs.sl;rw [HL5.out] at hL1;subst hL1;subst ev;clear ho1 hg1 hb1 hq1 HOE HRA HQ1;try simp only [Act.put, aq1, aq2, aq3]
  refine wpG_u (preBelow (w.heap.size)) 15 (some 53) ?_ (hy := fun w' hw' => by
   refine Eq.trans (build_run (P := Tryz.prog) 69 [(0, .tmp 43), (1, .tmp 52)] ?_ #[.int .i64 X, .slice A (K - 2) C] ?_) ?_
   · rfl
   · exact builtT X A (K - 2) C
   · with_reducible rfl)
  refine wpG_one (i := 16) rfl (by kernel_rfl) (by rfl) ?_;go_simp;have hEB : Below w1.heap.size w1 (w1.alloc (.cells #[.int .i64 (X : Int), .slice A (K - 2) C] 69)) := (Below.refl _ _).alloc (Nat.le_refl _) _;refine ⟨hEB.mono HLO2.out.size, ?_⟩;have HLO3 : Hid (Below w.heap.size w (w1.alloc (.cells #[.int .i64 (X : Int), .slice A (K - 2) C] 69))) := HLO2.out.trans (hEB.mono HLO2.out.size);have HOW3 := hd_ (HOW2.out.below hEB);have HOV3 := hd_ (HOV.out.below hEB);have HRD := hd_ (rd_new w1 [.int .i64 (X : Int), .slice A (K - 2) C] 69 1 2 rfl (by decide));clear hEB;try simp only [Act.put, aq1, aq2, aq3]
  refine wpG_one (i := 17) rfl (by kernel_rfl) (by rfl) ?_;have hro : (w1.alloc (.cells #[.int .i64 (X : Int), .slice A (K - 2) C] 69)).ownsRow w.heap.size 69 2 (.slice al N cl) ts.length (flat ts) := HOW3.out.own;refine wp_append_gr _ (some 55) (.tmp 38) (.tmp 54) 26 rfl w.heap.size 69 i0 _ 2 32 Tryz.underlying26 hi hz0 hz1 hz2 rfl (by decide) _ _ _ rfl hro _ 1 _ rfl HRD.out (one_tag _ rfl) ?p4 (by decide) HLO3.out.size rfl ?_
  case p4 => rw [<- HNN.out]; omega
  intro v' wo ho' hg';have hb' := grown_below hro HLO3.out.size hg';refine ⟨hb', ?_⟩;have HO4 := hd_ (TO.more (t := ⟨(X : Int), .slice A (K - 2) C, ((l.drop p).drop 2).take (K - 2)⟩) HOW3.out HOV3.out ho' hg');have HLO4 := hd_ (HLO3.out.trans hb');clear ho' hg' hb' hro;try simp only [Act.put, aq1, aq2, aq3]
  refine wpG_u (preBelow (w.heap.size)) 18 (some 4) ?_;refine wpG_done (by kernel_rfl) ?_ _;have HI2 : Hid (DI l w wo v' n (p + K) (ts ++ [(⟨(X : Int), .slice A (K - 2) C, ((l.drop p).drop 2).take (K - 2)⟩ : Tg)])) := by
   refine ⟨HD2.out _, HO4.out, ?_, HLO4.out⟩;rw [List.length_append, <- HNN.out]; exact hN63
  clear W1 W2 W3 W4 W5;go_wp2
  go_roundw
  case rel =>
   have hle : p + K <= n := by omega
   first | exact ⟨p + K, _, by go_num, hle, HI2⟩ | ((repeat apply Exists.intro); exact ⟨⟨p + K, _, by go_num, hle, HI2⟩, rfl⟩)
  case measure => simp [intOf]; omega
end Go.Proofs.YtclplbapedmihaaGreat.O
namespace Go.Proofs.YtclplbapedmihaaGreat.O
set_option maxRecDepth 4000
open Go.ChangeShapes Go.WideShapes Go.ChangeAt Go.RowKit
set_option linter.unusedVariables false
set_option linter.unusedSimpArgs false
section
variable {H : Type} {enc : TypeId × Value -> H} {P : Program} {W : World} {base : Nat}
theorem bytes_cell {t e : TypeId} {v : Value} {fuel : Nat} {x : DataW H × List MemPlace} (ht : P.underlying t = some (.slice e)) (he : P.underlying e = some (.int .u8)) (hc : P.cellsOf e = 1)
 (hf : DataW.trod enc P W 0 (fun _ => true) true fuel t [v] = some x) : ∃ l, Bs W v l := by
 rcases open_ints ht he hc hf with ⟨hcs, _⟩ | ⟨x, len, c', zs, hcs, _, hl, hm, hz, _, hcell, hwz⟩
 · obtain rfl : v = .slice none 0 0 := by simpa using hcs
   exact ⟨[], Bs.nil _⟩
 · obtain rfl : v = .slice (some x) len c' := by simpa using hcs
   obtain ⟨bs, rfl⟩ := bytes_of_ints zs hwz;simp at hz;have hlen : (bs.take len).length = len := by rw [List.length_take]; omega
   refine ⟨bs.take len, ?_⟩;unfold Bs;rw [hlen];refine ⟨by simp; omega, some x, c', rfl, hl, hm, (fun h => by cases h), fun ad had j u hu => ?_⟩;obtain rfl := Option.some.inj had;rw [List.getElem?_map] at hu;cases hj : (bs.take len)[j]? with
   | none => rw [hj] at hu; cases hu
   | some b =>
    rw [hj] at hu;obtain rfl := Option.some.inj hu;have hjn : j < len := by have := (List.getElem?_eq_some_iff.1 hj).1; omega
    have hb : bs[j]? = some b := by rwa [List.getElem?_take, if_pos hjn] at hj
    have := hcell j (by simp; omega);rw [this];simp [u8v, hb]
theorem flat_cells {w : World} {a : Addr} (q : Nat -> Tg) (n : Nat) (h : ∀ i, i < n -> w.cell? (a.add (i * 2)) = some (.int .i64 (q i).typ) /\ w.cell? (a.add (i * 2 + 1)) = some (q i).val) :
 ∀ j u, (flat ((List.range n).map q))[j]? = some u -> w.cell? (a.add j) = some u := by
 intro j u hu;have hj := (List.getElem?_eq_some_iff.1 hu).1;rw [flat_length, List.length_map, List.length_range] at hj;have hi : j / 2 < n := by omega
 have hg := flat_get ((List.range n).map q) (j / 2) (by simpa using hi);simp only [List.getElem_map, List.getElem_range] at hg
 rcases Nat.mod_two_eq_zero_or_one j with h2 | h2
 · rw [show j = j / 2 * 2 by omega] at hu ⊢;rw [hg.1] at hu;obtain rfl := Option.some.inj hu;exact (h _ hi).1
 · rw [show j = j / 2 * 2 + 1 by omega] at hu ⊢;rw [hg.2] at hu;obtain rfl := Option.some.inj hu;exact (h _ hi).2
theorem open_opts {t e u8 : TypeId} {f0 f1 : Field} {v : Value} {d : DataW H} {p : List MemPlace} (ht : P.underlying t = some (.slice e)) (he : P.underlying e = some (.struct #[f0, f1]))
 (ho : f0.offset = 0 /\ f1.offset = 1) (h0 : P.underlying f0.type = some (.int .i64)) (h1 : P.underlying f1.type = some (.slice u8)) (hu : P.underlying u8 = some (.int .u8))
 (hcs : P.cellsOf e = 2 /\ P.cellsOf f0.type = 1 /\ P.cellsOf f1.type = 1 /\ P.cellsOf u8 = 1)
 (hval : Value.okWide P W .any base t v) (h : DataW.Trod enc P W 0 (fun _ => true) true t v d p) : ∃ a n c ts, v = .slice a n c /\ TR W (.slice a n c) n ts := by
 obtain ⟨a, n, c, rfl⟩ := okWide_slice ht hval;obtain ⟨fuel, hf⟩ := h
 rcases Go.Deep.open_slice_pairs ht he hcs.1 ho.1 ho.2 hcs.2.1 hcs.2.2.1 hf with ⟨hcs, _⟩ | ⟨x, len, cap, m, k, V0, V1, D0, D1, P0, P1, hc, _, hl, hm, hmm, _, hall⟩
 · simp [Value.cells] at hcs;obtain ⟨rfl, rfl, rfl⟩ := hcs;exact ⟨none, 0, 0, [], rfl, TR.nil _⟩
 · simp [Value.cells] at hc;obtain ⟨rfl, rfl, rfl⟩ := hc;have hnm : n <= m := by rw [hmm]; simp; omega
   have each : ∀ i, i < n -> ∃ q : Tg, W.cell? (x.add (i * 2)) = some (.int .i64 q.typ) /\ W.cell? (x.add (i * 2 + 1)) = some q.val /\ Bs W q.val q.l := by
    intro i hi;obtain ⟨g0, g1, g2, g3⟩ := hall i (by omega);obtain ⟨z, e1, _, wz⟩ := DataW.trod_int h0 g2;obtain ⟨l, hb⟩ := bytes_cell h1 hu hcs.2.2.2 g3;refine ⟨⟨z, V1 i, l⟩, ?_, g1, hb⟩;rw [g0];simpa using e1
   have inh : Inhabited Tg := ⟨⟨0, undef, []⟩⟩;obtain ⟨q, hq⟩ := Go.Deep.choose_lt each;refine ⟨some x, n, c, (List.range n).map q, rfl, ⟨by rw [flat_length]; simp, some x, c, rfl, hl, hm, (fun h => by cases h), fun ad had => ?_⟩, fun t ht => ?_⟩
   · obtain rfl := Option.some.inj had;exact flat_cells q n fun i hi => ⟨(hq i hi).1, (hq i hi).2.1⟩
   · obtain ⟨i, hi, rfl⟩ := List.mem_map.1 ht;exact (hq i (List.mem_range.1 hi)).2.2
end
end Go.Proofs.YtclplbapedmihaaGreat.O
namespace Go.Proofs.YtclplbapedmihaaGreat
set_option maxRecDepth 4000
open Go.ChangeShapes Go.WideShapes Go.ChangeAt Go.RowKit
set_option linter.unusedVariables false
set_option linter.unusedSimpArgs false
section
variable {H : Type} {enc : TypeId × Value -> H} {P : Program} {W : World} {base : Nat}
theorem open_ctl {t e : TypeId} {f0 f1 f2 : Field} {v : Value} {d : DataW H} {p : List MemPlace} (ht : P.underlying t = some (.struct #[f0, f1, f2])) (hoff : f0.offset = 0 /\ f1.offset = 1 /\ f2.offset = 2)
 (u0 : P.underlying f0.type = some (.int .i64)) (u1 : P.underlying f1.type = some (.int .i64)) (u2 : P.underlying f2.type = some (.slice e)) (he : P.underlying e = some (.int .u8))
 (hc : P.cellsOf t = 3 /\ P.cellsOf f0.type = 1 /\ P.cellsOf f1.type = 1 /\ P.cellsOf f2.type = 1 /\ P.cellsOf e = 1)
 (hval : Value.okWide P W .any base t v) (h : DataW.Trod enc P W 0 (fun _ => true) true t v d p) :
 ∃ (C S : Int) (a : Option Addr) (n c : Nat) (l : List UInt8), v = .agg #[.int .i64 C, .int .i64 S, .slice a n c] /\ l.length = n /\ Bs W (.slice a n c) l := by
 obtain ⟨cs, rfl, hsz, _⟩ : ∃ cs, v = .agg cs /\ cs.size = P.cellsOf t /\ Row.okWide P W .any base t cs := by
  simpa [Value.okWide, ht] using hval
 obtain ⟨fuel, hf⟩ := h;obtain ⟨o0, o1, o2⟩ := hoff;obtain ⟨ct, c0, c1, c2, ce⟩ := hc;obtain ⟨xs, m, _, _, _, hl, hx⟩ := DataW.trod_struct ht hf;rw [ct] at hsz;obtain ⟨l⟩ := cs;simp only [List.size_toArray] at hsz
 match xs, hl with
 | [y0, y1, y2], _ =>
  have h0 := hx 0 f0 rfl;have h1 := hx 1 f1 rfl;have h2 := hx 2 f2 rfl;simp only [Value.cells, o0, o1, o2, c0, c1, c2, List.getElem?_cons_zero, List.getElem?_cons_succ] at h0 h1 h2
  match l, hsz with
  | [x0, x1, x2], _ =>
   obtain ⟨k0, e0, _, _⟩ := DataW.trod_int u0 h0;obtain ⟨k1, e1, _, _⟩ := DataW.trod_int u1 h1;obtain ⟨a, n, c, bs, e2, hn, hb⟩ := bytes_cell2 u2 he ce h2;refine ⟨k0, k1, a, n, c, bs, ?_, hn, hb⟩;simp at e0 e1 e2;simp [e0, e1, e2]
end
end Go.Proofs.YtclplbapedmihaaGreat
