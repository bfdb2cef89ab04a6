/- AuMt AuMs AuMw -/
import Derived.Test.YtclplbapedmihaaGreatZAuA
import Derived.Test.YtclplbapedmihaaGreatZAuB
import Derived.Test.YtclplbapedmihaaGreatZBase
import Derived.ArgAppend
import Derived.Deep.Upon
import Derived.Test.YtclplbapedmihaaGreatXAuC
import Derived.Test.YtclplbapedmihaaGreatXAuE
namespace Go.Proofs.YtclplbapedmihaaGreat.Au
set_option maxRecDepth 4000
open Go.RowKit O Ng
set_option linter.unusedVariables false
set_option linter.unusedSimpArgs false
structure At (w : World) (g o n cap : Nat) (us : List Ct) : Prop where
 ex : ∃ cur : List Value, w.heap[g]? = some (.cells cur.toArray 32 (0, 0)) /\ o + cap * 3 <= cur.length /\ (cur.drop o).take (n * 3) = flatC us
 room : n <= cap /\ cap <= maxLen
 len : us.length = n
 vals : ∀ t ∈ us, OwnB w 0 5 t.val t.l
theorem At.lt {w : World} {g o n cap : Nat} {us : List Ct} (h : At w g o n cap us) : g < w.heap.size := by
 obtain ⟨cur, h1, _⟩ := h.ex;exact (Array.getElem?_eq_some_iff.1 h1).1
theorem At.gr {w w' : World} {g o n cap : Nat} {us : List Ct} (h : At w g o n cap us) (hb : Gr w w') : At w' g o n cap us := by
 obtain ⟨cur, h1, h2, h3⟩ := h.ex;exact ⟨⟨cur, heap_below h1 hb, h2, h3⟩, h.room, h.len, fun t ht => ownsRow_below (h.vals t ht) hb⟩
theorem At.off {w w' : World} {g o n cap p : Nat} {us : List Ct} {cs : Array Value} {t : TypeId} {fr : Nat × Nat} (h : At w g o n cap us) (hp : w.heap[p]? = some (.cells cs t fr)) (h1 : g ≠ p) (h2 : 5 ≠ t) (ho : Only p w w') : At w' g o n cap us := by
 obtain ⟨cur, h3, h4, h5⟩ := h.ex;exact ⟨⟨cur, only_heap h3 ho h1, h4, h5⟩, h.room, h.len, fun x hx => own_off (h.vals x hx) hp h2 ho⟩
theorem At.of {w : World} {base : Nat} {v : Value} {us : List Ct} (h : CO true w base v us) (h0 : us ≠ []) : ∃ g cap, v = .slice (some ⟨g, 0, none⟩) us.length cap /\ base <= g /\ At w g 0 us.length cap us := by
 rcases h.own.2 with ⟨_, h1⟩ | ⟨g, cap, cur, h1, h2, h3, h4, h5, h6, h7⟩
 · exact absurd (List.eq_nil_of_length_eq_zero h1) h0
 · refine ⟨g, cap, h1, h2, ⟨cur.toList, by simpa using h3, by simp [h6], by simpa using h7⟩, ⟨h4, h5⟩, rfl, fun t ht => ownsRow_mono (h.vals t ht) (Nat.zero_le _)⟩
theorem At.cells {w : World} {g o n cap : Nat} {us : List Ct} (h : At w g o n cap us) (j : Nat) (u : Value) (hu : (flatC us)[j]? = some u) : w.cell? ⟨g, o + j, none⟩ = some u := by
 obtain ⟨cur, h1, h2, h3⟩ := h.ex;rw [cell_of_row w g (o + j) _ _ _ h1];rw [<- h3, List.getElem?_take] at hu;split at hu
 · rw [List.getElem?_drop] at hu;simpa using hu
 · cases hu
theorem At.head {w : World} {g o n cap : Nat} {us : List Ct} (h : At w g o n cap us) (hn : 0 < n) : ∃ t rest, us = t :: rest /\ w.rangeAt g o [.int .i64 t.c, .int .i64 t.i, t.val] /\ OwnB w 0 5 t.val t.l := by
 have hl := h.len;cases us with
 | nil => simp at hl; omega
 | cons t rest =>
  refine ⟨t, rest, rfl, fun j u hj => ?_, h.vals t (List.mem_cons_self ..)⟩;have h1 := h.cells j u (by
   rw [flatC_cons]
   match j, hj with
   | 0, hj => exact hj
   | 1, hj => exact hj
   | 2, hj => exact hj)
  simpa using h1
theorem At.tail {w : World} {g o n cap : Nat} {t : Ct} {us : List Ct} (h : At w g o (n + 1) cap (t :: us)) : At w g (o + 3) n (cap - 1) us := by
 obtain ⟨cur, h1, h2, h3⟩ := h.ex;have h4 := h.room;refine ⟨⟨cur, h1, by omega, ?_⟩, by omega, by have := h.len; simpa using this, fun x hx => h.vals x (List.mem_cons_of_mem _ hx)⟩;have h5 : ((cur.drop o).take ((n + 1) * 3)).drop 3 = flatC us := by rw [h3, flatC_cons]; rfl
 rw [List.drop_take, List.drop_drop, show (n + 1) * 3 - 3 = n * 3 by omega] at h5;exact h5
theorem At.cut {w : World} {g o n cap o2 : Nat} {t : Ct} {us : List Ct} (h : At w g o (n + 1) cap (t :: us)) (ho : o2 = o + 3 \/ cap = 1 /\ o2 = o) : At w g o2 n (cap - 1) us := by
 rcases ho with rfl | ⟨rfl, rfl⟩
 · exact h.tail
 · obtain ⟨cur, h1, h2, h3⟩ := h.ex;have h4 := h.room.1;have hn : n = 0 := by omega
   subst hn;have h5 : us = [] := List.eq_nil_of_length_eq_zero (by have := h.len; simpa using this);subst h5;exact ⟨⟨cur, h1, by omega, by simp [flatC]⟩, by omega, rfl, fun x hx => by cases hx⟩
section
variable {P : Program}
theorem run_append_none (w : World) (t ty e : TypeId) (i : TypeInfo) (ht : P.underlying t = some (.slice e)) (hi : P.info? e = some i) (b : Addr) (n cap : Nat) (hn : n <= cap) :
 (Builtin.append_ #[t, t] ty #[.slice (some b) n cap, .slice none 0 0]).run P w = .ok (.slice (some b) n cap) w := by
 simp [Builtin.append_, run_underlying ht, sizeOf, typeInfo, hi, Builtin.lenOf, Builtin.firstCells, hn, storeCells]
theorem splice_take {cur : List Value} {o k : Nat} {xs news : List Value} (hl : o + k + news.length <= cur.length) (h : (cur.drop o).take k = xs) : ((splice cur (o + k) news).drop o).take (k + news.length) = xs ++ news := by
 unfold splice;have h1 : (cur.take (o + k)).length = o + k := by rw [List.length_take]; omega
 rw [List.drop_append_of_le_length (by omega), List.drop_take, show o + k - o = k by omega, h];have h2 : xs.length = k := by rw [<- h, List.length_take, List.length_drop]; omega
 rw [<- h2, List.take_length_add_append, List.take_left]
theorem splice_length {cur : List Value} {o : Nat} {vs : List Value} (h : o + vs.length <= cur.length) : (splice cur o vs).length = cur.length := by
 unfold splice;rw [List.length_append, List.length_append, List.length_take, List.length_drop];omega
theorem wpList_append_at (w : World) {ops : Array Oper} {rest : List Oper} {o : Oper} {a : Act} {Q : Exit -> Act -> World -> Prop} (hgd : o.guard = none) (s x : Operand) (t : TypeId)
 (hop : o.op = Op.call { callee := Callee.builtin Builtin.append, args := #[s, x], argTypes := #[t, t] })
 (i : TypeInfo) (z : Value) (h1 : P.underlying t = some (.slice 32)) (h2 : P.info? 32 = some i) (h3 : i.zero = some z) (h4 : i.size = 3) (h5 : i.bytes = 40) (h6 : z.cells.size = 3)
 (g off n cap : Nat) (us : List Ct) (hs : a.eval s = .slice (some ⟨g, off, none⟩) n cap) (hat : At w g off n cap us) (base : Nat) (v : Value) (os : List Ct) (hx : a.eval x = v) (hco : CO true w base v os) (hsm : n + os.length <= 1000)
 (h1' : ∀ g' o' cap' w', Hid (At w' g' o' (n + os.length) cap' (us ++ os) /\ (g' = g /\ Only g w w' \/ w.heap.size <= g' /\ Gr w w')) -> wpList P ops Q rest (a.put o.dst (.slice (some ⟨g', o', none⟩) (n + os.length) cap')) w') : wpList P ops Q (o :: rest) a w := by
 have h : ∀ g' o' cap' w', At w' g' o' (n + os.length) cap' (us ++ os) -> (g' = g /\ Only g w w' \/ w.heap.size <= g' /\ Gr w w') -> wpList P ops Q rest (a.put o.dst (.slice (some ⟨g', o', none⟩) (n + os.length) cap')) w' := fun g' o' cap' w' h1 h2 => h1' g' o' cap' w' (hd_ ⟨h1, h2⟩)
 obtain ⟨cur, c1, c2, c3⟩ := hat.ex;have hl := hat.len;have hfl : (flatC us).length = n * 3 := by rw [flatC_length, hl]
 rcases hco.own.2 with ⟨e1, e2⟩ | ⟨k, cap2, cur2, e1, e2, e3, e4, e5, e6, e7⟩
 · have hos : os = [] := List.eq_nil_of_length_eq_zero e2;subst hos;refine wpList_plain hgd fun K hK => ?_
   have hrun := run_append_none (P := P) w t o.type 32 i h1 h2 ⟨g, off, none⟩ n cap hat.room.1;unfold Oper.wp;simp [execOp, hop, resolve, invoke, builtin, hs, hx, e1, hrun, Result.andThen];have := h g off cap w (by simpa using hat) (.inl ⟨rfl, Only.refl _ _⟩);exact hK _ _ (by simpa using this)
 · rw [e1] at hx;have hnl : (flatC os).length = os.length * 3 := flatC_length os;have hnews : ∀ j u, (flatC os)[j]? = some u -> w.cell? ((⟨k, 0, none⟩ : Addr).add j) = some u := fun j u hj => by
    rw [Addr.add_lit, cell_of_row w k _ _ _ _ e3];rw [<- e7, List.getElem?_take] at hj;split at hj
    · simpa using hj
    · cases hj
   have hone : ∀ u ∈ flatC os, u.oneCell' = true := fun u hu => by
    obtain ⟨x, hx1, hx2⟩ := List.mem_flatMap.1 hu;have hv := hco.vals x hx1;simp only [Ct.cells, List.mem_cons, List.not_mem_nil, or_false] at hx2
    rcases hx2 with rfl | rfl | rfl
    · rfl
    · rfl
    · exact own_one hv
   refine wpList_append_arg w hgd s x t hop 32 i z 3 40 h1 h2 h3 h4 h5 h6 (by decide) g off n cap (flatC us) hs hfl (fun j u hj => hat.cells j u hj) ⟨k, 0, none⟩ os.length cap2 (flatC os) hx hnl hnews hone ?_ (by unfold maxLen; omega) (by omega) ?_ ?_
   · intro hr j hj;rw [cell_of_row w g _ _ _ _ c1, frozen_of_row _ _ _ _ _ c1];refine ⟨?_, rfl⟩;have h9 : off + n * 3 + j < cur.length := by have := Nat.mul_le_mul_right 3 hr; omega
     simp [h9]
   · intro hr;have ho : Only g w (w.setCells g (off + n * 3) (flatC os)) := only_setCells _ _ _;refine h g off cap _ ⟨⟨splice cur (off + n * 3) (flatC os), heap_setCells _ _ _ _ c1 (by rw [hnl]; have := Nat.mul_le_mul_right 3 hr; omega), by rw [splice_length (by rw [hnl]; have := Nat.mul_le_mul_right 3 hr; omega)]; exact c2, ?_⟩, ⟨hr, hat.room.2⟩, by rw [List.length_append, hl], ?_⟩ (.inl ⟨rfl, ho⟩)
     · rw [flatC_append, show (n + os.length) * 3 = n * 3 + (flatC os).length by rw [hnl]; omega];exact splice_take (by rw [hnl]; have := Nat.mul_le_mul_right 3 hr; omega) c3
     · intro y hy
       rcases List.mem_append.1 hy with hy | hy
       · exact own_off (hat.vals y hy) c1 (by decide) ho
       · exact ownsRow_mono (own_off (hco.vals y hy) c1 (by decide) ho) (Nat.zero_le _)
   · intro hr v' w' hown hg;have hgr : Gr w w' := grown_below (World.ownsRow_nil w w.heap.size 32 3) (Nat.le_refl _) hg;have hv : ∀ y ∈ us ++ os, OwnB w' 0 5 y.val y.l := fun y hy => by
      rcases List.mem_append.1 hy with hy | hy
      · exact ownsRow_below (hat.vals y hy) hgr
      · exact ownsRow_mono (ownsRow_below (hco.vals y hy) hgr) (Nat.zero_le _)
     have hco' : CO true w' 0 v' (us ++ os) := ⟨by rw [List.length_append, hl, flatC_append]; exact ownsRow_mono hown (Nat.zero_le _), hv⟩;have hne : us ++ os ≠ [] := by
      intro e;have := congrArg List.length e;rw [List.length_append, hl] at this;have h9 := hat.room.1;simp only [List.length_nil] at this;omega
     obtain ⟨g', cap', ev, _, hA⟩ := At.of hco' hne;have hlt := (World.ownsRow.lt hown g' (by rw [ev]; rfl)).1;have hlen : (us ++ os).length = n + os.length := by rw [List.length_append, hl]
     rw [hlen] at ev hA;rw [ev];exact h g' 0 cap' w' hA (.inr ⟨hlt, hgr⟩)
def SideR (c : Cfg) (ask : List PT) (w : World) (e : Ending) (w' : World) : Prop :=
 ∃ x av us ov ok, e = .returned (.tuple #[autoV x av, ov, .bool ok]) /\ TO w' w.heap.size av us /\ Below w.heap.size w w' /\ (ok = true -> isC c /\ encE ask = 0 /\ x = first c ask /\ plain us = ask /\ ∃ os, CO true w' w.heap.size ov os /\ plainC os = [⟨1, 1, encB ask⟩])
set_option maxRecDepth 20000 in
set_option maxHeartbeats 8000000 in
theorem side_any (ra : Option Addr) (rn rc : Nat) (rs : List Ru) (k1 k2 k3 k4 : Int) (ao : Option Addr) (n c : Nat) (ts : List Tg) (w : World) (hrr : RR w (.slice ra rn rc) rn rs) (hr : TR w (.slice ao n c) n ts) (hn : n <= 1000) (hm : ∀ x ∈ ts, x.l.length <= 1000) :
 Calls Tryz.prog 27 #[.agg #[.slice ra rn rc, .int .i64 k1, .int .i64 k2, .int .i64 k3, .int .i64 k4], .slice ao n c] w (SideR (⟨rs, k1, k2, k3, k4⟩ : Cfg) (plain ts) w) := by
 have BA : Gr w ((w.alloc (.cells #[.slice ra rn rc, .int .i64 k1, .int .i64 k2, .int .i64 k3, .int .i64 k4] 24)).alloc (.cells #[.int .i64 0, .int .i64 0, .int .i64 0, .slice none 0 0, .int .i64 0, .int .i64 0, .int .i64 0] 28)) := ((Gr.refl w).alloc _).alloc _;have g0 := heap2_0' w (.cells #[.slice ra rn rc, .int .i64 k1, .int .i64 k2, .int .i64 k3, .int .i64 k4] 24) (.cells #[.int .i64 0, .int .i64 0, .int .i64 0, .slice none 0 0, .int .i64 0, .int .i64 0, .int .i64 0] 28);have g1 := heap2_1' w (.cells #[.slice ra rn rc, .int .i64 k1, .int .i64 k2, .int .i64 k3, .int .i64 k4] 24) (.cells #[.int .i64 0, .int .i64 0, .int .i64 0, .slice none 0 0, .int .i64 0, .int .i64 0, .int .i64 0] 28);obtain ⟨i0, i1, i2, i3, i4⟩ := cells5 g0;have G0 := hd_ g0;have G1 := hd_ g1;have HBA : Hid (Gr w ((w.alloc (.cells #[.slice ra rn rc, .int .i64 k1, .int .i64 k2, .int .i64 k3, .int .i64 k4] 24)).alloc (.cells #[.int .i64 0, .int .i64 0, .int .i64 0, .slice none 0 0, .int .i64 0, .int .i64 0, .int .i64 0] 28))) := BA;have HRR := hd_ hrr;have NW := hd_ (New_any ao n c ts ((w.alloc (.cells #[.slice ra rn rc, .int .i64 k1, .int .i64 k2, .int .i64 k3, .int .i64 k4] 24)).alloc (.cells #[.int .i64 0, .int .i64 0, .int .i64 0, .slice none 0 0, .int .i64 0, .int .i64 0, .int .i64 0] 28)) (hr.below BA) hn (fun x hx => by have := hm x hx; omega));have HNM := hd_ (And.intro hn hm);have HSZ : Hid (w.heap.size + 1 < (((w.alloc (.cells #[.slice ra rn rc, .int .i64 k1, .int .i64 k2, .int .i64 k3, .int .i64 k4] 24)).alloc (.cells #[.int .i64 0, .int .i64 0, .int .i64 0, .slice none 0 0, .int .i64 0, .int .i64 0, .int .i64 0] 28))).heap.size) := (Array.getElem?_eq_some_iff.1 g1).1;have HLT := hd_ hr.len;clear BA g0 g1 hrr hr hn hm;go_enter Tryz.func27, Tryz.ntmps27
 go_wp2_with fail
 refine NW.out.mono ?_;rintro e w1 ⟨av, us, rfl, hto, hpu, hb1⟩;have HU := hd_ hpu;have HTO := hd_ hto;have HB1 : Hid (Gr w w1) := Gr.trans HBA.out hb1;have G0 := hd_ (heap_below G0.out hb1);have G1 := hd_ (heap_below G1.out hb1);have HSZ1 : Hid (w.heap.size + 1 < w1.heap.size /\ w.heap.size <= (((w.alloc (.cells #[.slice ra rn rc, .int .i64 k1, .int .i64 k2, .int .i64 k3, .int .i64 k4] 24)).alloc (.cells #[.int .i64 0, .int .i64 0, .int .i64 0, .slice none 0 0, .int .i64 0, .int .i64 0, .int .i64 0] 28))).heap.size) := ⟨Nat.lt_of_lt_of_le HSZ.out hb1.size, HBA.out.size⟩;obtain ⟨ba, bc, rfl, _, _⟩ := hto.tr.shape;have HTO := hd_ (HTO.out.mono HSZ1.out.2);clear hpu hto hb1 NW HBA HSZ i0 i1 i2 i3 i4;obtain ⟨bn, hbn⟩ : ∃ b, b = us.length := ⟨_, rfl⟩;have HBN := hd_ hbn
 by_cases hz : encE (plain ts) = 0
 · rw [show new (plain ts) = (⟨0, 0, 0, plain ts, 0, 0, 0⟩, 0) from if_pos hz] at HU ⊢;have HZ := hd_ hz;have HLB : Hid (bn <= 1000 /\ ∀ x ∈ us, x.l.length <= 1000) := by
    have h1 : plain us = plain ts := HU.out;have h2 := congrArg List.length h1;rw [plain_length, plain_length] at h2;refine ⟨by have := HNM.out.1; have := HLT.out; omega, ?_⟩;exact (small_row (by rw [h1]; exact small_isT (encE_zero hz).2.1)).1
   rw [<- hbn];clear hz;simp only [autoV, autoC];have hal : Gr w1 (w1.alloc (.cells #[.int .i64 0, .int .i64 0, .int .i64 0, .slice ba bn bc, .int .i64 0, .int .i64 0, .int .i64 0] 28)) := (Gr.refl _).alloc _;have HP : Hid ((w1.alloc (.cells #[.int .i64 0, .int .i64 0, .int .i64 0, .slice ba bn bc, .int .i64 0, .int .i64 0, .int .i64 0] 28)).heap[w1.heap.size]? = some (.cells #[.int .i64 0, .int .i64 0, .int .i64 0, .slice ba bn bc, .int .i64 0, .int .i64 0, .int .i64 0] 28)) := heap_alloc_last _ _;have HTO := hd_ (HTO.out.below hal);have G0 := hd_ (heap_below G0.out hal);have G1 := hd_ (heap_below G1.out hal);have HB2 := hd_ (Gr.trans HB1.out hal);rw [<- hbn] at HTO;obtain ⟨p, hp⟩ : ∃ g, g = w1.heap.size := ⟨_, rfl⟩;obtain ⟨w2, hw2⟩ : ∃ x, x = w1.alloc (.cells #[.int .i64 0, .int .i64 0, .int .i64 0, .slice ba bn bc, .int .i64 0, .int .i64 0, .int .i64 0] 28) := ⟨_, rfl⟩;clear hal HB1 hbn;go_upto_region 2 with fail
   rw [<- hw2, <- hp] at HP;rw [<- hw2] at HTO G0 G1 HB2;rw [<- hp] at HSZ1;rw [<- hw2, <- hp];clear hp hw2;have RC := hd_ (rconf_any ra rn rc rs k1 k2 k3 k4 w2 (HRR.out.below HB2.out));obtain ⟨i0, i1, i2, i3, i4⟩ := cells5 G0.out
   by_cases hC : isC (⟨rs, k1, k2, k3, k4⟩ : Cfg)
   · rw [decide_eq_true hC] at RC;have HC := hd_ hC;clear hC;go_wp2_with fail
     refine RC.out.mono ?_;rintro e w3 ⟨rfl, hb⟩;have HP := hd_ (heap_below HP.out hb);have HTO := hd_ (HTO.out.below hb);have G0 := hd_ (heap_below G0.out hb);have G1 := hd_ (heap_below G1.out hb);have HB3 := hd_ (Gr.trans HB2.out hb);clear hb RC HB2 i0 i1 i2 i3 i4;obtain ⟨i0, i1, i2, i3, i4⟩ := cells5 G0.out;obtain ⟨j0, j1, j2, j3, j4, j5, j6⟩ := cells7 HP.out;have HTR : Hid (TR w3 (.slice ba bn bc) bn us) := by
      have h := HTO.out.tr;rw [<- HBN.out] at h;exact h
     have da := Do_any ra rn rc rs k1 k2 k3 k4 0 0 0 ba bn bc us 0 0 0 1 0 0 none 0 0 [] 0 0 none 0 0 [] 0 w3 (HRR.out.below HB3.out) HTR.out HLB.out.1 HLB.out.2 (Bs.nil _) (Nat.zero_le _) (Bs.nil _) (Nat.zero_le _);rw [show plain us = plain ts from HU.out, side_1 HC.out HZ.out] at da;have DA := hd_ da;clear da HTR;go_wp2_with fail
     refine DA.out.mono ?_;rintro e w4 ⟨av, ov, dv, rfl, hd⟩;obtain ⟨us4, hto4, hpu4⟩ := hd.ask;have HTO4 := hd_ (hto4.mono HB3.out.size);have HPU4 : Hid (plain us4 = plain ts) := hpu4;obtain ⟨ca, cc, rfl, _, _⟩ := hto4.tr.shape;obtain ⟨os4, hco4, hpo4⟩ := hd.out;have hdv := hd.done.ar;obtain ⟨oa, oc, rfl, _, _⟩ := hco4.cr.shape;obtain ⟨da, dc, rfl, _, _⟩ := hdv.shape;have HP := hd_ (heap_below HP.out hd.old);have G0 := hd_ (heap_below G0.out hd.old);have G1 := hd_ (heap_below G1.out hd.old);have HB4 := hd_ (Gr.trans HB3.out hd.old);obtain ⟨cn, hcn⟩ : ∃ b, b = us4.length := ⟨_, rfl⟩;have HCN := hd_ hcn;rw [<- hcn] at HTO4 ⊢;simp only [autoV, autoC];clear hd hto4 hpu4 hco4 hpo4 hdv DA HB3 i0 i1 i2 i3 i4 j0 j1 j2 j3 j4 j5 j6 hcn HTO;go_wp2_with (refine wpList_store_whole rfl 28 (.tmp 7) (.tmp 30) rfl p [.int .i64 2, .int .i64 0, .int .i64 0, .slice ca cn cc, .int .i64 0, .int .i64 0, .int .i64 0] rfl rfl 28 _ HP.out sizeAuto rfl (autoC_one (a := ⟨2, 0, 0, [], 0, 0, 0⟩) rfl) ?_)
     intro w5 g5 o5;have HTO5 := hd_ (TO.off HTO4.out HP.out (by decide) (by decide) o5);have HP5 := hd_ g5;have G0 := hd_ (only_heap G0.out o5 (ne_of_block G0.out HP.out (by decide)));have HPL : Hid (w.heap.size + 1 < p) := HSZ1.out.1;have G1 := hd_ (only_heap G1.out o5 (by have := HPL.out; omega));have HB5 : Hid (Gr w w5) := o5.below _ _ (by have := HPL.out; omega) HB4.out;clear g5 o5 HP HTO4 HB4;obtain ⟨i0, i1, i2, i3, i4⟩ := cells5 G0.out;obtain ⟨j0, j1, j2, j3, j4, j5, j6⟩ := cells7 HP5.out;have HTR : Hid (TR w5 (.slice ca cn cc) cn us4) := by
      have h := HTO5.out.tr;rw [<- HCN.out] at h;exact h
     have HLC : Hid (cn <= 1000 /\ ∀ x ∈ us4, x.l.length <= 1000) := by
      have h1 : plain us4 = plain ts := HPU4.out;have h2 := congrArg List.length h1;rw [plain_length, plain_length] at h2;refine ⟨by have := HNM.out.1; have := HLT.out; have := HCN.out; omega, ?_⟩;exact (small_row (by rw [h1]; exact small_isT (encE_zero HZ.out).2.1)).1
     have da := Do_any ra rn rc rs k1 k2 k3 k4 2 0 0 ca cn cc us4 0 0 0 3 0 0 none 0 0 [] 0 0 none 0 0 [] 0 w5 (HRR.out.below HB5.out) HTR.out HLC.out.1 HLC.out.2 (Bs.nil _) (Nat.zero_le _) (Bs.nil _) (Nat.zero_le _);rw [show plain us4 = plain ts from HPU4.out, side_2 HC.out HZ.out] at da;have DA := hd_ da;clear da HTR;go_wp2_with fail
     refine DA.out.mono ?_;rintro e w6 ⟨av, ov, dv, rfl, hd⟩;obtain ⟨us6, hto6, hpu6⟩ := hd.ask;have HTO6 := hd_ (hto6.mono HB5.out.size);have HPU6 : Hid (plain us6 = plain ts) := hpu6;obtain ⟨ea, ec, rfl, _, _⟩ := hto6.tr.shape;obtain ⟨os6, hco6, hpo6⟩ := hd.out;have HCO6 := hd_ (hco6.mono HB5.out.size);have HPO6 : Hid (plainC os6 = [⟨1, 1, encB (plain ts)⟩]) := hpo6;have HP6 := hd_ (heap_below HP5.out hd.old);have G1 := hd_ (heap_below G1.out hd.old);have HB6 := hd_ (Gr.trans HB5.out hd.old);obtain ⟨en, hen⟩ : ∃ b, b = us6.length := ⟨_, rfl⟩;have HEN := hd_ hen;rw [<- hen] at HTO6 ⊢;simp only [autoV, autoC, first];clear hd hto6 hpu6 hco6 hpo6 DA HB5 i0 i1 i2 i3 i4 j0 j1 j2 j3 j4 j5 j6 hen G0 HTO5;go_wp2_with (refine wpList_store_whole rfl 28 (.tmp 7) (.tmp 39) rfl p [.int .i64 6, .int .i64 1, .int .i64 1, .slice ea en ec, .int .i64 (k1 - 1), .int .i64 k4, .int .i64 0] rfl rfl 28 _ HP6.out sizeAuto rfl (autoC_one (a := ⟨6, 1, 1, [], k1 - 1, k4, 0⟩) rfl) ?_)
     intro w7 g7 o7;have HTO7 := hd_ (TO.off HTO6.out HP6.out (by decide) (by decide) o7);have HCO7 := hd_ (CO.off HCO6.out HP6.out (by decide) (by decide) (by have := HPL.out; omega) o7);have HP7 := hd_ g7;have G1 := hd_ (only_heap G1.out o7 (by have := HPL.out; omega));have HB7 : Hid (Gr w w7) := o7.below _ _ (by have := HPL.out; omega) HB6.out;clear g7 o7 HP6 HTO6 HCO6 HB6;obtain ⟨j0, j1, j2, j3, j4, j5, j6⟩ := cells7 HP7.out;go_wp2_with (refine wpList_store_whole rfl 28 (.tmp 4) (.tmp 42) rfl (w.heap.size + 1) [.int .i64 6, .int .i64 1, .int .i64 1, .slice ea en ec, .int .i64 (k1 - 1), .int .i64 k4, .int .i64 0] rfl rfl 28 _ G1.out sizeAuto rfl (autoC_one (a := ⟨6, 1, 1, [], k1 - 1, k4, 0⟩) rfl) ?_)
     intro w8 g8 o8;have H8 := hd_ g8;have HTO8 := hd_ (TO.off HTO7.out G1.out (by decide) (by decide) o8);have HCO8 := hd_ (CO.off HCO7.out G1.out (by decide) (by decide) (by omega) o8);have HB8 : Hid (Below w.heap.size w w8) := o8.below _ _ (by omega) HB7.out;clear g8 o8 HTO7 HCO7 HB7;go_wp2_with fail
     refine bodyPost_ret (v := .tuple #[autoV (first (⟨rs, k1, k2, k3, k4⟩ : Cfg) (plain ts)) (.slice ea en ec), ov, .bool true]) (results_cell_tmp_tmp_row (P := Tryz.prog) (fn := Tryz.f27) rfl _ _ (w.heap.size + 1) 28 _ (0, 0) _ rfl H8.out Tryz.underlying28 rfl sizeAuto) rfl ?_;refine ⟨_, _, us6, _, _, rfl, ?_, HB8.out, fun _ => ⟨HC.out, HZ.out, rfl, HPU6.out, os6, HCO8.out, HPO6.out⟩⟩;exact HTO8.out
   · rw [decide_eq_false hC] at RC;clear hC;go_wp2_with fail
     refine RC.out.mono ?_;rintro e w3 ⟨rfl, hb⟩;have HP := hd_ (heap_below HP.out hb);have HTO := hd_ (HTO.out.below hb);have G1 := hd_ (heap_below G1.out hb);have HB3 := hd_ (Gr.trans HB2.out hb);clear hb RC HB2 i0 i1 i2 i3 i4;obtain ⟨j0, j1, j2, j3, j4, j5, j6⟩ := cells7 HP.out;go_wp2_with (refine wpList_store_whole rfl 28 (.tmp 4) (.tmp 23) rfl (w.heap.size + 1) [.int .i64 0, .int .i64 0, .int .i64 0, .slice ba bn bc, .int .i64 0, .int .i64 0, .int .i64 0] rfl rfl 28 _ G1.out sizeAuto rfl (autoC_one (a := ⟨0, 0, 0, [], 0, 0, 0⟩) rfl) ?_)
     intro w8 g8 o8;have H8 := hd_ g8;have HTO8 := hd_ (TO.off HTO.out G1.out (by decide) (by decide) o8);have HB8 : Hid (Below w.heap.size w w8) := o8.below _ _ (by omega) HB3.out;clear g8 o8;go_wp2_with fail
     refine bodyPost_ret (v := .tuple #[autoV ⟨0, 0, 0, [], 0, 0, 0⟩ (.slice ba bn bc), .slice none 0 0, .bool false]) (results_cell_tmp_tmp_row (P := Tryz.prog) (fn := Tryz.f27) rfl _ _ (w.heap.size + 1) 28 _ (0, 0) _ rfl H8.out Tryz.underlying28 rfl sizeAuto) rfl ?_;exact ⟨_, _, us, _, _, rfl, HTO8.out, HB8.out, fun h => by cases h⟩
 · rw [show new (plain ts) = (⟨0, 0, 0, [], 0, 0, 0⟩, 160) from if_neg hz];clear hz HU;rw [<- hbn] at HTO ⊢;clear hbn HBN;simp only [autoV, autoC];have hal : Gr w1 (w1.alloc (.cells #[.int .i64 0, .int .i64 0, .int .i64 0, .slice ba bn bc, .int .i64 0, .int .i64 0, .int .i64 0] 28)) := (Gr.refl _).alloc _;have HP : Hid ((w1.alloc (.cells #[.int .i64 0, .int .i64 0, .int .i64 0, .slice ba bn bc, .int .i64 0, .int .i64 0, .int .i64 0] 28)).heap[w1.heap.size]? = some (.cells #[.int .i64 0, .int .i64 0, .int .i64 0, .slice ba bn bc, .int .i64 0, .int .i64 0, .int .i64 0] 28)) := heap_alloc_last _ _;have HTO := hd_ (HTO.out.below hal);have G1 := hd_ (heap_below G1.out hal);have HB2 := hd_ (Gr.trans HB1.out hal);obtain ⟨p, hp⟩ : ∃ g, g = w1.heap.size := ⟨_, rfl⟩;obtain ⟨w2, hw2⟩ : ∃ x, x = w1.alloc (.cells #[.int .i64 0, .int .i64 0, .int .i64 0, .slice ba bn bc, .int .i64 0, .int .i64 0, .int .i64 0] 28) := ⟨_, rfl⟩;clear hal HB1;go_upto_region 2 with fail
   rw [<- hw2, <- hp] at HP;rw [<- hw2] at HTO G1 HB2;rw [<- hw2, <- hp];clear hp hw2;obtain ⟨j0, j1, j2, j3, j4, j5, j6⟩ := cells7 HP.out;go_wp2_with (refine wpList_store_whole rfl 28 (.tmp 4) (.tmp 23) rfl (w.heap.size + 1) [.int .i64 0, .int .i64 0, .int .i64 0, .slice ba bn bc, .int .i64 0, .int .i64 0, .int .i64 0] rfl rfl 28 _ G1.out sizeAuto rfl (autoC_one (a := ⟨0, 0, 0, [], 0, 0, 0⟩) rfl) ?_)
   intro w8 g8 o8;have H8 := hd_ g8;have HTO8 := hd_ (TO.off HTO.out G1.out (by decide) (by decide) o8);have HB8 : Hid (Below w.heap.size w w8) := o8.below _ _ (by omega) HB2.out;clear g8 o8;go_wp2_with fail
   refine bodyPost_ret (v := .tuple #[autoV ⟨0, 0, 0, [], 0, 0, 0⟩ (.slice ba bn bc), .slice none 0 0, .bool false]) (results_cell_tmp_tmp_row (P := Tryz.prog) (fn := Tryz.f27) rfl _ _ (w.heap.size + 1) 28 _ (0, 0) _ rfl H8.out Tryz.underlying28 rfl sizeAuto) rfl ?_;exact ⟨_, _, us, _, _, rfl, HTO8.out, HB8.out, fun h => by cases h⟩
structure Mt (W : World) (G1 G2 p q : Nat) (f1 f2 : Array Value) (c1 c2 : Cfg) (A B : List PT) (i j ga oa na ka gb ob nb kb : Nat) (w : World) : Prop where
 f1 : w.heap[G1]? = some (.cells f1 24 (0, 0))
 f2 : w.heap[G2]? = some (.cells f2 24 (0, 0))
 b1 : ∃ av n us, w.heap[p]? = some (.cells (autoC (sideA c1 A i) (.slice av n us)).toArray 28 (0, 0)) /\ ∃ ts, TO w 0 (.slice av n us) ts /\ ts.length = n /\ plain ts = A
 b2 : ∃ av n us, w.heap[q]? = some (.cells (autoC (sideA c2 B j) (.slice av n us)).toArray 28 (0, 0)) /\ ∃ ts, TO w 0 (.slice av n us) ts /\ ts.length = n /\ plain ts = B
 ra : ∃ us, At w ga oa na ka us /\ plainC us = (sent B A j).drop i
 rb : ∃ us, At w gb ob nb kb us /\ plainC us = (sent A B i).drop j
 ne : ga ≠ gb /\ p ≠ q
 low : W.heap.size <= p /\ W.heap.size <= q /\ W.heap.size <= ga /\ W.heap.size <= gb
 le : i <= (sent B A j).length /\ j <= (sent A B i).length
 gr : Gr W w
theorem Mt.flip {W w : World} {G1 G2 p q : Nat} {f1 f2 : Array Value} {c1 c2 : Cfg} {A B : List PT} {i j ga oa na ka gb ob nb kb : Nat} (h : Mt W G1 G2 p q f1 f2 c1 c2 A B i j ga oa na ka gb ob nb kb w) : Mt W G2 G1 q p f2 f1 c2 c1 B A j i gb ob nb kb ga oa na ka w :=
 ⟨h.f2, h.f1, h.b2, h.b1, h.rb, h.ra, ⟨fun e => h.ne.1 e.symm, fun e => h.ne.2 e.symm⟩, ⟨h.low.2.1, h.low.1, h.low.2.2.2, h.low.2.2.1⟩, ⟨h.le.2, h.le.1⟩, h.gr⟩
theorem Mt.go {W w w' : World} {G1 G2 p q : Nat} {f1 f2 : Array Value} {c1 c2 : Cfg} {A B : List PT} {i j ga oa na ka gb ob nb kb : Nat} (h : Mt W G1 G2 p q f1 f2 c1 c2 A B i j ga oa na ka gb ob nb kb w) (hb : Gr w w') : Mt W G1 G2 p q f1 f2 c1 c2 A B i j ga oa na ka gb ob nb kb w' := by
 obtain ⟨av, n, us, h1, ts, h2, h3⟩ := h.b1;obtain ⟨bv, m, vs, k1, qs, k2, k3⟩ := h.b2;obtain ⟨xs, x1, x2⟩ := h.ra;obtain ⟨zs, z1, z2⟩ := h.rb;exact ⟨heap_below h.f1 hb, heap_below h.f2 hb, ⟨av, n, us, heap_below h1 hb, ts, h2.below hb, h3⟩, ⟨bv, m, vs, heap_below k1 hb, qs, k2.below hb, k3⟩, ⟨xs, x1.gr hb, x2⟩, ⟨zs, z1.gr hb, z2⟩, h.ne, h.low, h.le, Gr.trans h.gr hb⟩
theorem Mt.lens {W w : World} {G1 G2 p q : Nat} {f1 f2 : Array Value} {c1 c2 : Cfg} {A B : List PT} {i j ga oa na ka gb ob nb kb : Nat} (h : Mt W G1 G2 p q f1 f2 c1 c2 A B i j ga oa na ka gb ob nb kb w) : na = (sent B A j).length - i /\ nb = (sent A B i).length - j := by
 obtain ⟨xs, x1, x2⟩ := h.ra;obtain ⟨zs, z1, z2⟩ := h.rb;have e1 := congrArg List.length x2;have e2 := congrArg List.length z2;rw [plainC_length, List.length_drop, x1.len] at e1;rw [plainC_length, List.length_drop, z1.len] at e2;exact ⟨e1, e2⟩
theorem Mt.over {W w : World} {G1 G2 p q : Nat} {f1 f2 : Array Value} {c1 c2 : Cfg} {A B : List PT} {i j ga oa na ka gb ob nb kb : Nat} (h : Mt W G1 G2 p q f1 f2 c1 c2 A B i j ga oa na ka gb ob nb kb w) (h1 : na = 0) (h2 : nb = 0) : i = 2 /\ j = 2 := by
 obtain ⟨l1, l2⟩ := h.lens;obtain ⟨e1, e2⟩ := h.le;rw [sent_len] at l1 l2 e1 e2
 by_cases i0 : i = 0
 · subst i0;simp at l1 l2 e1 e2
   by_cases j0 : j = 0
   · subst j0;simp at l1 l2 e1 e2;omega
   · rw [if_neg (by omega)] at l1;omega
 · rw [if_neg (by omega)] at l2 e2
   by_cases j0 : j = 0
   · subst j0;omega
   · rw [if_neg (by omega)] at l1 e1;omega
theorem Mt.small {W w : World} {G1 G2 p q : Nat} {f1 f2 : Array Value} {c1 c2 : Cfg} {A B : List PT} {i j ga oa na ka gb ob nb kb : Nat} (h : Mt W G1 G2 p q f1 f2 c1 c2 A B i j ga oa na ka gb ob nb kb w) : i <= 2 /\ j <= 2 /\ na <= 2 /\ nb <= 2 := by
 obtain ⟨l1, l2⟩ := h.lens;obtain ⟨e1, e2⟩ := h.le;rw [sent_len] at l1 l2 e1 e2;split at l1 <;> split at l2 <;> simp_all <;> omega
theorem Mt.step {W w v2 v3 v4 : World} {G1 G2 p q : Nat} {f1 f2 : Array Value} {c1 c2 : Cfg} {A B : List PT} {i j ga oa na ka gb ob nb kb g' o' k' o2 : Nat} {av : Option Addr} {n us : Nat} {ts : List Tg} {os : List Ct} {zs : List Ct}
 (h : Mt W G1 G2 p q f1 f2 c1 c2 A B i j ga oa (na + 1) ka gb ob nb kb w) (hb : Gr w v2) (e : v3.heap[p]? = some (.cells (autoC (sideA c1 A ((i + 1 : Nat) : Int)) (.slice av n us)).toArray 28 (0, 0))) (o : Only p v2 v3) (ht : TO v3 0 (.slice av n us) ts /\ ts.length = n /\ plain ts = A)
 (hs : sent A B i ++ plainC os = sent A B ((i + 1 : Nat) : Int)) (hz : At v3 gb ob nb kb zs /\ plainC zs = (sent A B i).drop j) (ha : At v4 g' o' (nb + os.length) k' (zs ++ os)) (hw : g' = gb /\ Only gb v3 v4 \/ v3.heap.size <= g' /\ Gr v3 v4) (ho2 : o2 = oa + 3 \/ ka = 1 /\ o2 = oa) :
 Mt W G1 G2 p q f1 f2 c1 c2 A B (i + 1) j ga o2 na (ka - 1) g' o' (nb + os.length) k' v4 := by
 have h' := h.go hb;obtain ⟨a1, n1, u1, hp, _⟩ := h'.b1;obtain ⟨bv, m, vs, hq, qs, k2, k3⟩ := h'.b2;obtain ⟨xs, x1, x2⟩ := h'.ra;obtain ⟨cur, c1', _⟩ := x1.ex;have hgp : ga ≠ p := ne_of_block c1' hp (by decide);obtain ⟨curb, cb, _⟩ := hz.1.ex;have y1 := x1.off hp hgp (by decide) o;have gr3 : Gr W v3 := o.below _ _ h.low.1 h'.gr;have F1 := box_off h'.f1 hp (by decide) o;have F2 := box_off h'.f2 hp (by decide) o;have B2 := only_heap hq o (fun e => h.ne.2 e.symm);have K2 := TO.off k2 hp (by decide) (by decide) o;have hlt3 : ga < v3.heap.size := y1.lt;have hxs : ∃ x r, xs = x :: r := by
  have := x1.len;cases xs with
  | nil => simp at this
  | cons x r => exact ⟨x, r, rfl⟩
 obtain ⟨x, r, rfl⟩ := hxs;have hr : plainC r = (sent B A j).drop (i + 1) := by
  have h9 := congrArg (List.drop 1) x2;rw [List.drop_drop] at h9;exact h9
 have hl1 := (h.lens).1;have hle : j <= (sent A B ((i + 1 : Nat) : Int)).length := by
  have := congrArg List.length hs;rw [List.length_append] at this;have := h.le.2;omega
 have hrb : plainC (zs ++ os) = (sent A B ((i + 1 : Nat) : Int)).drop j := by
  rw [plainC_append, hz.2, <- hs, List.drop_append_of_le_length h.le.2]
 have hgl : W.heap.size <= g' /\ ga ≠ g' := by
  rcases hw with ⟨rfl, _⟩ | ⟨h1, _⟩
  · exact ⟨h.low.2.2.2, h.ne.1⟩
  · exact ⟨Nat.le_trans gr3.size h1, by omega⟩
 rcases hw with ⟨rfl, ow⟩ | ⟨_, gw⟩
 · exact ⟨box_off F1 cb (by decide) ow, box_off F2 cb (by decide) ow, ⟨av, n, us, box_off e cb (by decide) ow, ts, TO.off ht.1 cb (by decide) (by decide) ow, ht.2⟩, ⟨bv, m, vs, box_off B2 cb (by decide) ow, qs, TO.off K2 cb (by decide) (by decide) ow, k3⟩,
    ⟨r, (y1.cut ho2).off cb h.ne.1 (by decide) ow, hr⟩, ⟨zs ++ os, ha, hrb⟩, ⟨hgl.2, h.ne.2⟩, ⟨h.low.1, h.low.2.1, h.low.2.2.1, hgl.1⟩, ⟨by omega, hle⟩, ow.below _ _ h.low.2.2.2 gr3⟩
 · exact ⟨heap_below F1 gw, heap_below F2 gw, ⟨av, n, us, heap_below e gw, ts, ht.1.below gw, ht.2⟩, ⟨bv, m, vs, heap_below B2 gw, qs, K2.below gw, k3⟩,
    ⟨r, (y1.cut ho2).gr gw, hr⟩, ⟨zs ++ os, ha, hrb⟩, ⟨hgl.2, h.ne.2⟩, ⟨h.low.1, h.low.2.1, h.low.2.2.1, hgl.1⟩, ⟨by omega, hle⟩, Gr.trans gr3 gw⟩
theorem sideA_ask (c : Cfg) (A : List PT) (i : Int) : (sideA c A i).ask = A := by
 unfold sideA;split
 · rfl
 · split <;> rfl
theorem sent_short {A B : List PT} {i : Int} {x : QC} (h : x ∈ sent A B i) : x.l.length <= 1488 := by
 unfold sent at h;split at h
 · simp only [List.mem_cons, List.not_mem_nil, or_false] at h;subst h;exact encB_le A
 · simp only [List.mem_cons, List.not_mem_nil, or_false] at h
   rcases h with rfl | rfl
   · exact encB_le A
   · exact encB_le B
theorem Mt.next {W w : World} {G1 G2 p q : Nat} {f1 f2 : Array Value} {c1 c2 : Cfg} {A B : List PT} {i j ga oa na ka gb ob nb kb : Nat} (h : Mt W G1 G2 p q f1 f2 c1 c2 A B i j ga oa (na + 1) ka gb ob nb kb w) (hc : isC c1) (hA : encE A = 0) (hB : encE B = 0) (hn : (ans c1.rs B 0 c1.fail).1 = 2) :
 ∃ t : Ct, w.rangeAt ga oa [.int .i64 t.c, .int .i64 t.i, t.val] /\ OwnB w 0 5 t.val t.l /\ t.l.length <= 1488 /\ (pack c1 (sideA c1 A i) ⟨t.c, t.i, t.l⟩ 1).1.1 = sideA c1 A ((i + 1 : Nat) : Int) /\ sent A B i ++ (pack c1 (sideA c1 A i) ⟨t.c, t.i, t.l⟩ 1).1.2.1 = sent A B ((i + 1 : Nat) : Int) := by
 obtain ⟨us, h1, h2⟩ := h.ra;obtain ⟨t, rest, rfl, h3, h4⟩ := h1.head (Nat.succ_pos _);have hl := (h.lens).1;have hi : i < (sent B A j).length := by omega
 have h5 : (sent B A j)[i] = ⟨t.c, t.i, t.l⟩ := by
  have h6 : plainC (t :: rest) = (⟨t.c, t.i, t.l⟩ : QC) :: plainC rest := rfl;rw [h6, List.drop_eq_getElem_cons hi] at h2;exact (List.cons.inj h2).1.symm
 have hm := meet_next (c := c1) (ask := A) (other := B) (i := (i : Int)) (j := (j : Int)) hc hA hB hn (Int.natCast_nonneg _) (Int.natCast_nonneg _) (by exact_mod_cast hi);have h7 : (sent B A j).getD ((i : Int)).toNat QC.zero = ⟨t.c, t.i, t.l⟩ := by
  rw [Int.toNat_natCast, List.getD_eq_getElem?_getD, List.getElem?_eq_getElem hi, h5];rfl
 rw [h7] at hm;refine ⟨t, h3, h4, ?_, ?_, ?_⟩
 · have := sent_short (List.getElem_mem hi);rw [h5] at this;exact this
 · simpa using hm.1
 · simpa using hm.2
end
end Go.Proofs.YtclplbapedmihaaGreat.Au
