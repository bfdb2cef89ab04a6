/- CpP CpM CpA CpB CpE CpF CpG CpL CpI CpK -/
import Derived.Test.YtclplbapedmihaaGreatYBase
import Derived.IntWalk
namespace Go.Proofs.YtclplbapedmihaaGreat
set_option maxRecDepth 4000
set_option linter.unusedVariables false
set_option linter.unusedSimpArgs false
structure QC where
 c : Int
 i : Int
 l : List UInt8
def QC.zero : QC := ⟨0, 0, []⟩
def byteB (n : Int) : Bool := decide (0 <= n) && decide (n <= 255)
theorem byteB_true {p : Int} (h : byteB p = true) : 0 <= p /\ p <= 255 := by
 unfold byteB at h;simpa using h
theorem byteB_yes {p : Int} (h : 0 <= p) (h2 : p <= 255) : byteB p = true := by unfold byteB; simp [h, h2]
def cencE (q : QC) : Int := if byteB q.c = true /\ byteB q.i = true then (if 1488 < q.l.length then 2 else 0) else 1
def wireC (q : QC) : List UInt8 := UInt8.ofNat q.c.toNat :: UInt8.ofNat q.i.toNat :: UInt8.ofNat ((4 + q.l.length) / 256) :: UInt8.ofNat (4 + q.l.length) :: q.l
def cencB (q : QC) : List UInt8 := if cencE q = 0 then wireC q else []
theorem wireC_length (q : QC) : (wireC q).length = 4 + q.l.length := by simp [wireC]; omega
theorem cencE_code {q : QC} (h : byteB q.c = false) : cencE q = 1 := if_neg (by rw [h]; simp)
theorem cencE_num {q : QC} (h : byteB q.i = false) : cencE q = 1 := if_neg (by rw [h]; simp)
theorem cencE_long {q : QC} (h : byteB q.c = true) (h1 : byteB q.i = true) (h2 : 1488 < q.l.length) : cencE q = 2 := by unfold cencE; rw [if_pos ⟨h, h1⟩, if_pos h2]
theorem cencE_ok {q : QC} (h : byteB q.c = true) (h1 : byteB q.i = true) (h2 : ¬ 1488 < q.l.length) : cencE q = 0 := by unfold cencE; rw [if_pos ⟨h, h1⟩, if_neg h2]
theorem cencB_no {q : QC} (h : cencE q ≠ 0) : cencB q = [] := if_neg h
theorem cencB_yes {q : QC} (h : cencE q = 0) : cencB q = wireC q := if_pos h
def tellP (code id : Int) (e : Int) (b : List UInt8) : QC × Int := if byteB id = true then (if e = 0 then (⟨code, id, b.take 1488⟩, 0) else (QC.zero, e)) else (QC.zero, 1)
def rejP (q : QC) (id : Int) : QC × Int := tellP 7 id (cencE q) (cencB q)
theorem tellP_no {code id e : Int} {b : List UInt8} (h : byteB id = false) : tellP code id e b = (QC.zero, 1) := if_neg (by rw [h]; decide)
theorem tellP_err {code id e : Int} {b : List UInt8} (h : byteB id = true) (h2 : e ≠ 0) : tellP code id e b = (QC.zero, e) := by unfold tellP; rw [if_pos h, if_neg h2]
theorem tellP_ok {code id e : Int} {b : List UInt8} (h : byteB id = true) (h2 : e = 0) : tellP code id e b = (⟨code, id, b.take 1488⟩, 0) := by unfold tellP; rw [if_pos h, if_pos h2]
end Go.Proofs.YtclplbapedmihaaGreat
namespace Go.Proofs.YtclplbapedmihaaGreat
set_option maxRecDepth 4000
open Go.RowKit
set_option linter.unusedVariables false
set_option linter.unusedSimpArgs false
def CRes (r : QC × Int) (w : World) (e : Ending) (w' : World) : Prop :=
 ∃ A L C, e = .returned (.tuple #[.agg #[.int .i64 r.1.c, .int .i64 r.1.i, .slice A L C], .int .i64 r.2]) /\ OwnB w' w.heap.size 5 (.slice A L C) r.1.l /\ Below w.heap.size w w'
theorem CRes.none {r : QC × Int} {k : Int} {w w' : World} (h : r = (QC.zero, k)) (hb : Below w.heap.size w w') : CRes r w (.returned (.tuple #[.agg #[.int .i64 0, .int .i64 0, .slice Option.none 0 0], .int .i64 k])) w' := by
 subst h;exact ⟨_, _, _, rfl, OwnB.nil _ _ _, hb⟩
theorem CRes.some {r : QC × Int} {c s : Int} {l : List UInt8} {A : Option Addr} {L C : Nat} {w w' : World} (h : r = (⟨c, s, l⟩, 0)) (ho : OwnB w' w.heap.size 5 (.slice A L C) l) (hb : Below w.heap.size w w') : CRes r w (.returned (.tuple #[.agg #[.int .i64 c, .int .i64 s, .slice A L C], .int .i64 0])) w' := by
 subst h;exact ⟨_, _, _, rfl, ho, hb⟩
def BRes (E : Int) (b : List UInt8) (w : World) (e : Ending) (w' : World) : Prop :=
 ∃ v, e = .returned (.tuple #[v, .int .i64 E]) /\ OwnB w' w.heap.size 5 v b /\ Below w.heap.size w w'
theorem BRes.none {E : Int} {b : List UInt8} {w w' : World} {k : Int} (hk : E = k) (h : b = []) (hb : Below w.heap.size w w') : BRes E b w (.returned (.tuple #[.slice Option.none 0 0, .int .i64 k])) w' := by
 subst hk h;exact ⟨_, rfl, OwnB.nil _ _ _, hb⟩
theorem BRes.some {E : Int} {b c : List UInt8} {w w' : World} {v : Value} (h : E = 0) (hc : b = c) (ho : OwnB w' w.heap.size 5 v c) (hb : Below w.heap.size w w') : BRes E b w (.returned (.tuple #[v, .int .i64 0])) w' := by
 subst h hc;exact ⟨v, rfl, ho, hb⟩
theorem builtC (c s : Int) (A : Option Addr) (L C : Nat) : Tryz.prog.built 32 [(0, .int .i64 c), (1, .int .i64 s), (2, .slice A L C)] = some #[.int .i64 c, .int .i64 s, .slice A L C] := by kernel_rfl
section
variable {P : Program}
theorem Rd.clip {w : World} {size n c : Nat} {ao : Option Addr} {xs : List Value} (h : Rd w size (.slice ao n c) n xs) (m : Nat) (hm : m <= n) : Rd w size (.slice ao m m) m (xs.take (m * size)) := by
 obtain ⟨h0, ao', cap', e, h1, h2, h3, h4⟩ := h;simp only [Value.slice.injEq] at e;obtain ⟨rfl, _, rfl⟩ := e;refine ⟨?_, ao, m, rfl, Nat.le_refl _, by omega, fun ha => by have := h3 ha; omega, fun ad had j u hu => h4 ad had j u ?_⟩
 · rw [List.length_take, h0, Nat.min_eq_left];exact Nat.mul_le_mul_right _ hm
 · rw [List.getElem?_take] at hu;split at hu
   · exact hu
   · cases hu
theorem slice_three {t e : TypeId} {i : TypeInfo} {size : Nat} (ht : P.underlying t = some (.slice e)) (hi : P.info? e = some i) (hs : i.size = size) {w : World} {n c : Nat} {ao : Option Addr} {xs : List Value}
 (h : Rd w size (.slice ao n c) n xs) (kk km kx : IntKind) (K M : Int) (k m : Nat) (hK : K = (k : Int)) (hM : M = (m : Int)) (hk : k <= m) (hm : m <= n) :
 ∃ ao', (∀ w', (Instr.slice t (.slice ao n c) (some (.int kk K)) (some (.int km M)) (some (.int kx M))).run P w' = .ok (.slice ao' (m - k) (m - k)) w') /\ Rd w size (.slice ao' (m - k) (m - k)) (m - k) ((xs.drop (k * size)).take ((m - k) * size)) := by
 subst hK hM;have hnc : n <= c := by
  obtain ⟨_, _, _, e, h1, _⟩ := h;simp only [Value.slice.injEq] at e;obtain ⟨_, _, rfl⟩ := e;exact h1
 refine ⟨if m = k then ao else ao.map (·.add (k * size)), fun w' => ?_, ?_⟩
 · rw [run_slice_lhm w' t ao n c (by rw [elem_of ht]; exact ht) kk km kx k m m (by omega) (by omega) (by omega) (by omega), elem_of ht, run_sizeOf hi hs];simp only [Result.andThen, sliced, Int.toNat_natCast]
 · have := Rd.cut (n' := m - k) (k := k) (Rd.clip h m hm) (by omega)
   rwa [List.drop_take, <- Nat.sub_mul, List.take_take, Nat.min_self] at this
theorem isByte_any (n : Int) (w : World) : Calls Tryz.prog 66 #[.int .i64 n] w fun e w' => e = .returned (.bool (byteB n)) /\ w = w' := by
 by_cases h1 : 0 <= n
 · by_cases h2 : n <= 255
   · rw [byteB_yes h1 h2];go_enter Tryz.func66, Tryz.ntmps66
     go_wp2
     go_ret
     exact ⟨rfl, rfl⟩
   · rw [show byteB n = false by unfold byteB; simp [h2]];go_enter Tryz.func66, Tryz.ntmps66
     go_wp2
     go_ret
     exact ⟨rfl, rfl⟩
 · rw [show byteB n = false by unfold byteB; simp [h1]];go_enter Tryz.func66, Tryz.ntmps66
   go_wp2
   go_ret
   exact ⟨rfl, rfl⟩
theorem byteOK_any (n : Int) (w : World) : Calls Tryz.prog 72 #[.int .i64 n] w fun e w' => e = .returned (.bool (byteB n)) /\ w = w' := by
 by_cases h1 : 0 <= n
 · by_cases h2 : n <= 255
   · rw [byteB_yes h1 h2];go_enter Tryz.func72, Tryz.ntmps72
     go_wp2
     go_ret
     exact ⟨rfl, rfl⟩
   · rw [show byteB n = false by unfold byteB; simp [h2]];go_enter Tryz.func72, Tryz.ntmps72
     go_wp2
     go_ret
     exact ⟨rfl, rfl⟩
 · rw [show byteB n = false by unfold byteB; simp [h1]];go_enter Tryz.func72, Tryz.ntmps72
   go_wp2
   go_ret
   exact ⟨rfl, rfl⟩
theorem piece_any (w : World) (a : Option Addr) (n c : Nat) (l : List UInt8) (hn : l.length = n) (h : Bs w (.slice a n c) l) (k m : Nat) (hk : k <= m) (hm : m <= n) (hr : n <= 1000000) :
 Calls Tryz.prog 167 #[.slice a n c, .int .i64 k, .int .i64 m] w fun e w' => ∃ v, e = .returned v /\ OwnB w' w.heap.size 5 v ((l.drop k).take (m - k)) /\ Below w.heap.size w w' := by
 obtain ⟨i0, hi, hz0, hz1, hz2⟩ := info_parts info5;have h' : Rd w 1 (.slice a n c) n (l.map u8v) := by
  have := h;unfold Bs at this;rw [hn] at this;exact this
 obtain ⟨ao, hsl, hrd⟩ := slice_three (P := Tryz.prog) Tryz.underlying30 hi hz1 h' .i64 .i64 .i64 k m k m rfl rfl hk hm;rw [drop_u8, take_u8] at hrd;have hbs : Bs w (.slice ao (m - k) (m - k)) ((l.drop k).take (m - k)) := Bs.of_rd hrd rfl;have CL := hd_ (clone_any w ao (m - k) (m - k) _ (by rw [List.length_take, List.length_drop]; omega) hbs (by omega));clear hn h h' hrd hbs hi hz0 hz1 hz2;go_enter Tryz.func167, Tryz.ntmps167
 go_wp2_with fail
 refine CL.out.mono ?_;rintro e w' ⟨v, rfl, hown, hb⟩;have HO := hd_ hown;have HB := hd_ hb;clear hown hb;go_wp2
 go_ret
 exact ⟨v, rfl, HO.out, HB.out⟩
theorem wireC_eq (X Y : Nat) (l : List UInt8) : wireC ⟨X, Y, l⟩ = ([UInt8.ofNat X, UInt8.ofNat Y] ++ putL (4 + l.length) 2) ++ l := by
 simp [wireC, putL, List.range_succ]
set_option maxHeartbeats 4000000 in
theorem cencode_any (C S : Int) (A : Option Addr) (L K : Nat) (l : List UInt8) (hl : l.length = L) (w : World) (hb : Bs w (.slice A L K) l) (hL : L <= 1000000) :
 Calls Tryz.prog 40 #[.agg #[.int .i64 C, .int .i64 S, .slice A L K]] w (BRes (cencE ⟨C, S, l⟩) (cencB ⟨C, S, l⟩) w) := by
 obtain ⟨i0, hi, hz0, hz1, hz2⟩ := info_parts info5;have BA : Below w.heap.size w (w.alloc (.cells #[.int .i64 C, .int .i64 S, .slice A L K] 32)) := (Below.refl _ _).alloc (Nat.le_refl _) _;have HB := hd_ BA;have IB1 := hd_ (isByte_any C (w.alloc (.cells #[.int .i64 C, .int .i64 S, .slice A L K] 32)));have IB2 := hd_ (isByte_any S (w.alloc (.cells #[.int .i64 C, .int .i64 S, .slice A L K] 32)));have HG0 : Hid ((w.alloc (.cells #[.int .i64 C, .int .i64 S, .slice A L K] 32)).heap[w.heap.size]? = some (.cells #[.int .i64 C, .int .i64 S, .slice A L K] 32)) := heap_alloc_last _ _;have HV := hd_ hb;have HL := hd_ hl;clear BA hb hl;go_enter Tryz.func40, Tryz.ntmps40
 go_wp2_with fail
 refine IB1.out.mono ?_;rintro e w' ⟨rfl, rfl⟩;cases hp : byteB C with
 | false =>
  have HE := hd_ (cencE_code (q := ⟨C, S, l⟩) hp);clear hp IB1 IB2;go_wp2
  go_ret2
  exact BRes.none HE.out (cencB_no (by rw [HE.out]; decide)) HB.out
 | true =>
  go_wp2_with fail
  refine IB2.out.mono ?_;rintro e w' ⟨rfl, rfl⟩;cases hq : byteB S with
  | false =>
   have HE := hd_ (cencE_num (q := ⟨C, S, l⟩) hq);clear hp hq IB1 IB2;go_wp2
   go_ret2
   exact BRes.none HE.out (cencB_no (by rw [HE.out]; decide)) HB.out
  | true =>
   obtain ⟨p1, p2⟩ := byteB_true hp;obtain ⟨p3, p4⟩ := byteB_true hq;obtain ⟨k0, k1, k2⟩ := cells3 HG0.out
   by_cases h5 : 1488 < L
   · have HE := hd_ (cencE_long (q := ⟨C, S, l⟩) hp hq (by show 1488 < l.length; rw [HL.out]; exact h5));clear hp hq IB1 IB2;go_wp2
     go_ret2
     exact BRes.none HE.out (cencB_no (by rw [HE.out]; decide)) HB.out
   have HE := hd_ (cencE_ok (q := ⟨C, S, l⟩) hp hq (by show ¬ 1488 < l.length; rw [HL.out]; exact h5));clear hp hq IB1 IB2;obtain ⟨X, rfl⟩ : ∃ X : Nat, C = (X : Int) := ⟨C.toNat, by omega⟩;obtain ⟨Y, rfl⟩ : ∃ Y : Nat, S = (Y : Int) := ⟨S.toNat, by omega⟩;obtain ⟨M, hM⟩ : ∃ M : Nat, (4 : Int) + (L : Int) = (M : Int) := ⟨4 + L, by omega⟩;have hsz : (w.alloc (.cells #[.int .i64 (X : Int), .int .i64 (Y : Int), .slice A L K] 32)).heap.size = w.heap.size + 1 := World.size_alloc _ _;have HBN := hd_ HB.out.size;have HSZ := hd_ hsz;clear hsz;go_wp2_with (refine wpList_make_cap _ rfl _ _ 30 rfl w.heap.size 5 i0 (.int .u8 0) Tryz.underlying30 hi hz0 hz1 rfl _ _ _ _ 0 M rfl rfl rfl rfl ?a3 ?a4 ?a5 HBN.out ?_)
   case a3 => exact Nat.zero_le _
   case a4 => rw [hz2]; omega
   case a5 => unfold maxLen; omega
   intro w3 hown3 hb3;rw [<- HSZ.out] at hb3;have HO3 : Hid (OwnB w3 w.heap.size 5 (.slice (some ⟨w.heap.size + 1, 0, none⟩) 0 M) []) := hown3;have HB3 := hd_ (HB.out.trans (hb3.mono HBN.out));have HG3 := hd_ (hb_ HG0.out hb3);have HE4 := hd_ ((Below.refl w3.heap.size w3).alloc (Nat.le_refl _) (.cells #[.int .u8 (X : Int), .int .u8 (Y : Int)] 5));have HB4 := hd_ (HB3.out.trans (HE4.out.mono HB3.out.size));have HO4 := hd_ (HO3.out.below HE4.out);have HG4 := hd_ (hb_ HG3.out HE4.out);have e2 : [Value.int .u8 (X : Int), .int .u8 (Y : Int)] = ([UInt8.ofNat X, UInt8.ofNat Y] : List UInt8).map u8v := by
    have g : ∀ n : Nat, n < 256 -> Value.int .u8 (n : Int) = u8v (UInt8.ofNat n) := fun n hn => by
     unfold u8v;rw [UInt8.toNat_ofNat', Nat.mod_eq_of_lt hn]
    rw [g X (by omega), g Y (by omega)];rfl
   have hr4 := rn_ w3 [Value.int .u8 (X : Int), .int .u8 (Y : Int)] 5 2 1 rfl (by decide);rw [e2] at hr4;have e3 : ((.cells #[.int .u8 (X : Int), .int .u8 (Y : Int)] 5) : Obj) = .cells (([UInt8.ofNat X, UInt8.ofNat Y] : List UInt8).map u8v).toArray 5 := by rw [<- e2]
   rw [<- e3] at hr4;have HR4 : Hid (Rd (w3.alloc (.cells #[.int .u8 (X : Int), .int .u8 (Y : Int)] 5)) 1 (.slice (some ⟨w3.heap.size, 0, none⟩) 2 2) 2 (([UInt8.ofNat X, UInt8.ofNat Y] : List UInt8).map u8v)) := hr4;clear hown3 hb3 k0 k1 k2 e2 e3 hr4;obtain ⟨k0, k1, k2⟩ := cells3 HG3.out;go_wp2_with (at_builtin; refine wl1 _ rfl _ _ 30 rfl w.heap.size 5 i0 (.int .u8 0) 1 1 Tryz.underlying30 hi hz0 hz1 hz2 rfl (by decide) _ _ _ rfl HO4.out _ _ _ rfl HR4.out (oc0 _) (by decide) (by decide) HB4.out.size ?_)
   intro v5 w5 hown5 hg5;have HG5 := hd_ (gh_ HO4.out hg5 HG4.out (by decide));have HB5 := hd_ (HB4.out.trans (gb_ HO4.out HB4.out.size hg5));have HO5 : Hid (OwnB w5 w.heap.size 5 v5 ([] ++ [UInt8.ofNat X, UInt8.ofNat Y])) := OwnB.of_app hown5 rfl rfl;clear hown5 hg5 k0 k1 k2;obtain ⟨k0, k1, k2⟩ := cells3 HG5.out;have PT := hd_ (put_yes M 2 w5 (by decide) (by decide) (by omega));go_wp2_with fail
   refine PT.out.mono ?_;rintro e w6 ⟨v6, rfl, hown6, hb6⟩;have HB6 := hd_ (HB5.out.trans (hb6.mono HB5.out.size));have HG6 := hd_ (hb_ HG5.out hb6);have HO6 := hd_ (HO5.out.below hb6);have HR6 : Hid (Rd w6 1 v6 2 ((putL M 2).map u8v)) := hown6.bs;clear hown6 hb6 PT k0 k1 k2;go_wp2_with (at_builtin; refine wl1 _ rfl _ _ 30 rfl w.heap.size 5 i0 (.int .u8 0) 1 1 Tryz.underlying30 hi hz0 hz1 hz2 rfl (by decide) _ _ _ rfl HO6.out _ _ _ rfl HR6.out (oc0 _) (by simp) (by decide) HB6.out.size ?_)
   intro v7 w7 hown7 hg7;have HG7 := hd_ (gh_ HO6.out hg7 HG6.out (by decide));have HB7 := hd_ (HB6.out.trans (gb_ HO6.out HB6.out.size hg7));have HO7 : Hid (OwnB w7 w.heap.size 5 v7 (([] ++ [UInt8.ofNat X, UInt8.ofNat Y]) ++ putL M 2)) := OwnB.of_app hown7 rfl (pl0 _ _);have HV7 : Hid (Rd w7 1 (.slice A L K) L (l.map u8v)) := by
    have := HV.out.below HB7.out;unfold Bs at this;rw [HL.out] at this;exact this
   obtain ⟨k0, k1, k2⟩ := cells3 HG7.out;clear hown7 hg7;go_wp2_with (at_builtin; refine wl1 _ rfl _ _ 30 rfl w.heap.size 5 i0 (.int .u8 0) 1 1 Tryz.underlying30 hi hz0 hz1 hz2 rfl (by decide) _ _ _ rfl HO7.out _ _ _ rfl HV7.out (oc0 _) ?q1 (by decide) HB7.out.size ?_)
   case q1 => simp [pl0]; omega
   intro v8 w8 hown8 hg8;have HB8 := hd_ (HB7.out.trans (gb_ HO7.out HB7.out.size hg8));have HO8 : Hid (OwnB w8 w.heap.size 5 v8 (wireC ⟨X, Y, l⟩)) := by
    show OwnB _ _ _ _ _;rw [wireC_eq, show 4 + l.length = M by rw [HL.out]; omega];exact OwnB.of_app hown8 (by simp [pl0]) HL.out
   clear hown8 hg8 k0 k1 k2;go_wp2
   go_ret2
   exact BRes.some HE.out (cencB_yes HE.out) HO8.out HB8.out
theorem take_min (b : List UInt8) (m : Nat) (h : m = min b.length 1488) : (b.drop 0).take (m - 0) = b.take 1488 := by
 subst h;rw [List.drop_zero, Nat.sub_zero]
 by_cases h : b.length <= 1488
 · rw [Nat.min_eq_left h, List.take_length, List.take_of_length_le h]
 · rw [Nat.min_eq_right (by omega)]
set_option maxHeartbeats 4000000 in
theorem reject_any (k : Nat) (hk : ∀ (args : Array Value) (w' : World), (callFunc k args).run Tryz.prog w' = .ok (.enter k args) w') (caps : Array Value) (code id E : Int) (b : List UInt8) (w : World)
 (HF : ∀ w1, Below w.heap.size w w1 -> Calls Tryz.prog k caps w1 (BRes E b w1)) (hl : b.length <= 100000) :
 Calls Tryz.prog 158 #[.int .i64 code, .int .i64 id, .func (.func k) #[] caps] w (CRes (tellP code id E b) w) := by
 have BA : Below w.heap.size w (w.alloc (.cells #[.int .i64 0, .int .i64 0, .slice none 0 0] 32)) := (Below.refl _ _).alloc (Nat.le_refl _) _;have HB := hd_ BA;have HG0 : Hid ((w.alloc (.cells #[.int .i64 0, .int .i64 0, .slice none 0 0] 32)).heap[w.heap.size]? = some (.cells #[.int .i64 0, .int .i64 0, .slice none 0 0] 32 (0, 0))) := heap_alloc_last _ _;have IB := hd_ (isByte_any id (w.alloc (.cells #[.int .i64 0, .int .i64 0, .slice none 0 0] 32)));have HC := hd_ (HF _ BA);clear BA HF;go_enter Tryz.func158, Tryz.ntmps158
 go_wp2_with fail
 refine IB.out.mono ?_;rintro e w' ⟨rfl, rfl⟩;cases hp : byteB id with
 | false =>
  have HP := hd_ (tellP_no (code := code) (id := id) (e := E) (b := b) hp);clear hp IB HC hk;go_wp2
  refine bodyPost_ret (v := .tuple #[.agg #[.int .i64 0, .int .i64 0, .slice none 0 0], .int .i64 1]) (rc_ (P := Tryz.prog) (fn := Tryz.f158) rfl _ _ w.heap.size 32 _ (0, 0) _ rfl HG0.out Tryz.underlying32 rfl (by kernel_rfl)) rfl ?_;exact CRes.none HP.out HB.out
 | true =>
  go_wp2_with fail
  refine HC.out.mono ?_;rintro e w2 ⟨v2, rfl, hown2, hb2⟩;have HB2 := hd_ (HB.out.trans (hb2.mono HB.out.size));have HG2 := hd_ (hb_ HG0.out hb2);have HO2 := hd_ hown2;obtain ⟨A2, L2, C2, ev, hL2, _, _⟩ := hown2.bs.sl;subst ev;obtain ⟨k0, k1, k2⟩ := cells3 HG2.out;have f0 := frozen_of_row _ _ 0 _ _ HG2.out;have f1 := frozen_of_row _ _ 1 _ _ HG2.out;have f2 := frozen_of_row _ _ 2 _ _ HG2.out;clear hown2 hb2 HC IB hk HB HG0;have HB := HB2
  by_cases hE : E = 0
  · have HP := hd_ (tellP_ok (code := code) (id := id) (e := E) (b := b) hp hE);subst hE;have hmin : ((min L2 1488 : Nat) : Int) = if (1488 : Int) < (L2 : Int) then 1488 else (L2 : Int) := by split <;> omega
    obtain ⟨m, hm⟩ : ∃ m, m = min L2 1488 := ⟨_, rfl⟩;have HM := hd_ hm;have PC := hd_ (piece_any w2 A2 L2 C2 b hL2 HO2.out.bs 0 m (Nat.zero_le _) (by rw [hm]; omega) (by omega));rw [take_min b m (by rw [hL2]; exact hm)] at PC;rw [<- hm] at hmin;have hmin' := hmin.symm;clear hp hm hmin k0 k1 k2 f0 f1 f2;go_wp2_with fail
    refine PC.out.mono ?_;rintro e w3 ⟨v3, rfl, hown3, hb3⟩;have HB3 := hd_ (HB.out.trans (hb3.mono HB.out.size));have HG3 := hd_ (hb_ HG2.out hb3);have HO3 := hd_ (hown3.mono (show w.heap.size + 1 <= w2.heap.size from (Array.getElem?_eq_some_iff.1 HG2.out).1));obtain ⟨A3, L3, C3, ev, _, _, _⟩ := hown3.bs.sl;subst ev;obtain ⟨k0, k1, k2⟩ := cells3 HG3.out;have f0 := frozen_of_row _ _ 0 _ _ HG3.out;have f1 := frozen_of_row _ _ 1 _ _ HG3.out;have f2 := frozen_of_row _ _ 2 _ _ HG3.out;clear hown3 hb3 PC hL2 HB;have HB := HB3;go_wp2
    refine bodyPost_ret (v := .tuple #[.agg #[.int .i64 code, .int .i64 id, .slice A3 L3 C3], .int .i64 0]) (rc_ (P := Tryz.prog) (fn := Tryz.f158) rfl _ _ w.heap.size 32 _ (0, 0) _ rfl (set3 HG3.out _ _ _) Tryz.underlying32 rfl (by kernel_rfl)) rfl ?_;refine CRes.some HP.out ?_ (((HB.out.setCell (Nat.le_refl _) _).setCell (Nat.le_refl _) _).setCell (Nat.le_refl _) _);exact OwnB.mono (base := w.heap.size + 1) (own_set3 HO3.out (Nat.lt_succ_self _) _ _ _) (Nat.le_succ _)
  · have HP := hd_ (tellP_err (code := code) (id := id) (e := E) (b := b) hp hE);clear hp hL2;go_wp2
    refine bodyPost_ret (v := .tuple #[.agg #[.int .i64 0, .int .i64 0, .slice none 0 0], .int .i64 E]) (rc_ (P := Tryz.prog) (fn := Tryz.f158) rfl _ _ w.heap.size 32 _ (0, 0) _ rfl (set3 HG2.out _ _ _) Tryz.underlying32 rfl (by kernel_rfl)) rfl ?_;exact CRes.none HP.out (((HB.out.setCell (Nat.le_refl _) _).setCell (Nat.le_refl _) _).setCell (Nat.le_refl _) _)
theorem cencB_len (q : QC) : (cencB q).length <= 4 + q.l.length := by
 unfold cencB;split
 · rw [wireC_length]; exact Nat.le_refl _
 · exact Nat.zero_le _
theorem reject1C_any (C S : Int) (A : Option Addr) (L K : Nat) (l : List UInt8) (hl : l.length = L) (w : World) (g : Nat) (hg : w.heap[g]? = some (.cells #[.int .i64 C, .int .i64 S, .slice A L K] 32)) (hb : Bs w (.slice A L K) l) (hL : L <= 1000000) :
 Calls Tryz.prog 159 #[.pointer (some ⟨g, 0, none⟩)] w (BRes (cencE ⟨C, S, l⟩) (cencB ⟨C, S, l⟩) w) := by
 have EN := hd_ (cencode_any C S A L K l hl w hb hL);obtain ⟨k0, k1, k2⟩ := cells3 hg;clear hl hb;generalize cencE ⟨C, S, l⟩ = E at EN ⊢;generalize cencB ⟨C, S, l⟩ = B at EN ⊢;go_enter Tryz.func159, Tryz.ntmps159
 go_wp2_with fail
 refine EN.out.mono ?_;rintro e w2 ⟨v2, rfl, hown2, hb2⟩;have HO := hd_ hown2;have HB := hd_ hb2;clear hown2 hb2 EN k0 k1 k2;go_wp2
 go_ret2
 exact ⟨v2, rfl, HO.out, HB.out⟩
set_option maxHeartbeats 2000000 in
theorem reject1_any (C S id : Int) (A : Option Addr) (L K : Nat) (l : List UInt8) (hl : l.length = L) (w : World) (hb : Bs w (.slice A L K) l) (hL : L <= 10000) :
 Calls Tryz.prog 137 #[.agg #[.int .i64 C, .int .i64 S, .slice A L K], .int .i64 id] w (CRes (rejP ⟨C, S, l⟩ id) w) := by
 have BA : Below w.heap.size w ((w.alloc (.cells #[.int .i64 C, .int .i64 S, .slice A L K] 32)).alloc (.cells #[.int .i64 0, .int .i64 0, .slice none 0 0] 32)) := ((Below.refl _ _).alloc (Nat.le_refl _) _).alloc (by simp) _;have HG0 : Hid (((w.alloc (.cells #[.int .i64 C, .int .i64 S, .slice A L K] 32)).alloc (.cells #[.int .i64 0, .int .i64 0, .slice none 0 0] 32)).heap[w.heap.size]? = some (.cells #[.int .i64 C, .int .i64 S, .slice A L K] 32)) := h0_ _ _ _;have HG1 : Hid (((w.alloc (.cells #[.int .i64 C, .int .i64 S, .slice A L K] 32)).alloc (.cells #[.int .i64 0, .int .i64 0, .slice none 0 0] 32)).heap[w.heap.size + 1]? = some (.cells #[.int .i64 0, .int .i64 0, .slice none 0 0] 32 (0, 0))) := h1_ _ _ _;have HB1 := hd_ BA;have RJ := hd_ (reject_any 159 (fun _ _ => rfl) #[.pointer (some ⟨w.heap.size, 0, none⟩)] 7 id (cencE ⟨C, S, l⟩) (cencB ⟨C, S, l⟩) ((w.alloc (.cells #[.int .i64 C, .int .i64 S, .slice A L K] 32)).alloc (.cells #[.int .i64 0, .int .i64 0, .slice none 0 0] 32))
  (fun w1 h1 => reject1C_any C S A L K l hl w1 w.heap.size (hb_ HG0.out h1) (hb.below (BA.trans (h1.mono BA.size))) (by omega)) (Nat.le_trans (cencB_len _) (by show 4 + l.length <= _; omega)))
 obtain ⟨r, hr⟩ : ∃ r, r = rejP ⟨C, S, l⟩ id := ⟨_, rfl⟩;have hr' : tellP 7 id (cencE ⟨C, S, l⟩) (cencB ⟨C, S, l⟩) = r := hr.symm;rw [hr'] at RJ;rw [<- hr];clear BA hl hb hr hr';go_enter Tryz.func137, Tryz.ntmps137
 go_wp2_with fail
 refine RJ.out.mono ?_;rintro e w2 ⟨A2, L2, C2, rfl, hown2, hb2⟩;have hsz : w.heap.size + 2 <= ((w.alloc (.cells #[.int .i64 C, .int .i64 S, .slice A L K] 32)).alloc (.cells #[.int .i64 0, .int .i64 0, .slice none 0 0] 32)).heap.size := by rw [World.size_alloc, World.size_alloc]; exact Nat.le_refl _
 have HO2 := hd_ (hown2.mono hsz);have HB2 := hd_ (HB1.out.trans (hb2.mono HB1.out.size));have HG2 := hd_ (hb_ HG1.out hb2);obtain ⟨k0, k1, k2⟩ := cells3 HG2.out;have f0 := frozen_of_row _ _ 0 _ _ HG2.out;have f1 := frozen_of_row _ _ 1 _ _ HG2.out;have f2 := frozen_of_row _ _ 2 _ _ HG2.out;clear hown2 hb2 RJ hsz;go_wp2
 refine bodyPost_ret (v := .tuple #[.agg #[.int .i64 r.1.c, .int .i64 r.1.i, .slice A2 L2 C2], .int .i64 r.2]) (rc_ (P := Tryz.prog) (fn := Tryz.f137) rfl _ _ (w.heap.size + 1) 32 _ (0, 0) _ rfl (set3 HG2.out _ _ _) Tryz.underlying32 rfl (by kernel_rfl)) rfl ?_;exact ⟨_, _, _, rfl, OwnB.mono (base := w.heap.size + 2) (own_set3 HO2.out (Nat.lt_succ_self _) _ _ _) (by omega), ((HB2.out.setCell (Nat.le_succ _) _).setCell (Nat.le_succ _) _).setCell (Nat.le_succ _) _⟩
set_option maxHeartbeats 1000000 in
theorem csame_true (c s : Int) (A A' : Option Addr) (L C C' : Nat) (l : List UInt8) (w : World) (h1 : Bs w (.slice A L C) l) (h2 : Bs w (.slice A' L C') l) :
 Calls Tryz.prog 37 #[.agg #[.int .i64 c, .int .i64 s, .slice A L C], .agg #[.int .i64 c, .int .i64 s, .slice A' L C']] w fun e w' => e = .returned (.bool true) /\ Below w.heap.size w w' := by
 have BA : Below w.heap.size w ((w.alloc (.cells #[.int .i64 c, .int .i64 s, .slice A L C] 32)).alloc (.cells #[.int .i64 c, .int .i64 s, .slice A' L C'] 32)) := ((Below.refl _ _).alloc (Nat.le_refl _) _).alloc (by simp) _;have HBA := hd_ BA;have s1 := rs_ (P := Tryz.prog) 30 9 5 Tryz.underlying30 Tryz.underlying5 Tryz.underlying9 (h1.below BA);have s2 := rs_ (P := Tryz.prog) 30 9 5 Tryz.underlying30 Tryz.underlying5 Tryz.underlying9 (h2.below BA);clear BA h1 h2;go_enter Tryz.func37, Tryz.ntmps37
 go_wp2
 go_ret
 exact ⟨by simp, HBA.out⟩
set_option maxHeartbeats 4000000 in
theorem rcencode_any (C S : Int) (A : Option Addr) (L K : Nat) (l : List UInt8) (hl : l.length = L) (w : World) (hb : Bs w (.slice A L K) l) (hL : L <= 1000000) :
 Calls Tryz.prog 42 #[.agg #[.int .i64 C, .int .i64 S, .slice A L K]] w (BRes (cencE ⟨C, S, l⟩) (cencB ⟨C, S, l⟩) w) := by
 obtain ⟨i0, hi, hz0, hz1, hz2⟩ := info_parts info5;have BA : Below w.heap.size w (w.alloc (.cells #[.int .i64 C, .int .i64 S, .slice A L K] 32)) := (Below.refl _ _).alloc (Nat.le_refl _) _;have HB := hd_ BA;have IB1 := hd_ (byteOK_any C (w.alloc (.cells #[.int .i64 C, .int .i64 S, .slice A L K] 32)));have IB2 := hd_ (byteOK_any S (w.alloc (.cells #[.int .i64 C, .int .i64 S, .slice A L K] 32)));have HG0 : Hid ((w.alloc (.cells #[.int .i64 C, .int .i64 S, .slice A L K] 32)).heap[w.heap.size]? = some (.cells #[.int .i64 C, .int .i64 S, .slice A L K] 32)) := heap_alloc_last _ _;have HV := hd_ hb;have HL := hd_ hl;clear BA hb hl;go_enter Tryz.func42, Tryz.ntmps42
 go_wp2_with fail
 refine IB1.out.mono ?_;rintro e w' ⟨rfl, rfl⟩;cases hp : byteB C with
 | false =>
  have HE := hd_ (cencE_code (q := ⟨C, S, l⟩) hp);clear hp IB1 IB2;go_wp2
  go_ret2
  exact BRes.none HE.out (cencB_no (by rw [HE.out]; decide)) HB.out
 | true =>
  go_wp2_with fail
  refine IB2.out.mono ?_;rintro e w' ⟨rfl, rfl⟩;cases hq : byteB S with
  | false =>
   have HE := hd_ (cencE_num (q := ⟨C, S, l⟩) hq);clear hp hq IB1 IB2;go_wp2
   go_ret2
   exact BRes.none HE.out (cencB_no (by rw [HE.out]; decide)) HB.out
  | true =>
   obtain ⟨p1, p2⟩ := byteB_true hp;obtain ⟨p3, p4⟩ := byteB_true hq
   by_cases h5 : 1488 < L
   · have HE := hd_ (cencE_long (q := ⟨C, S, l⟩) hp hq (by show 1488 < l.length; rw [HL.out]; exact h5));obtain ⟨k0, k1, k2⟩ := cells3 HG0.out;clear hp hq IB1 IB2;go_wp2
     go_ret2
     exact BRes.none HE.out (cencB_no (by rw [HE.out]; decide)) HB.out
   have HE := hd_ (cencE_ok (q := ⟨C, S, l⟩) hp hq (by show ¬ 1488 < l.length; rw [HL.out]; exact h5));clear hp hq IB1 IB2;obtain ⟨X, rfl⟩ : ∃ X : Nat, C = (X : Int) := ⟨C.toNat, by omega⟩;obtain ⟨Y, rfl⟩ : ∃ Y : Nat, S = (Y : Int) := ⟨S.toNat, by omega⟩;obtain ⟨M, hM⟩ : ∃ M : Nat, (L : Int) + 4 = (M : Int) := ⟨4 + L, by omega⟩;obtain ⟨wq, hwq⟩ : ∃ x, x = w.alloc (.cells #[.int .i64 (X : Int), .int .i64 (Y : Int), .slice A L K] 32) := ⟨_, rfl⟩;have PT : Hid (∀ w', Calls Tryz.prog 73 #[.int .u64 M, .int .i64 2] w' fun e w'' => ∃ v, e = .returned v /\ OwnB w'' w'.heap.size 5 v (putL M 2) /\ Below w'.heap.size w' w'') := fun w' => rput_yes M 2 w' (by decide) (by decide) (by omega)
   have W1 : IntKind.u64.wrap (M : Int) = (M : Int) := IntWalk.u64_in _ (by omega);have W2 : IntKind.i64.wrap ((L : Int) + 4) = (M : Int) := by rw [hM]; exact IntWalk.i64_in _ (by omega)
   have W5 : IntKind.i64.wrap (M : Int) = (M : Int) := IntWalk.i64_in _ (by omega);have W3 : IntKind.u8.wrap (X : Int) = (X : Int) := IntWalk.u8_in _ (by omega);have W4 : IntKind.u8.wrap (Y : Int) = (Y : Int) := IntWalk.u8_in _ (by omega);rw [<- hwq] at HB HG0 ⊢;clear hwq;obtain ⟨k0, k1, k2⟩ := cells3 HG0.out;have e2 : [Value.int .u8 (X : Int), .int .u8 (Y : Int)] = ([UInt8.ofNat X, UInt8.ofNat Y] : List UInt8).map u8v := by
    have g : ∀ n : Nat, n < 256 -> Value.int .u8 (n : Int) = u8v (UInt8.ofNat n) := fun n hn => by
     unfold u8v;rw [UInt8.toNat_ofNat', Nat.mod_eq_of_lt hn]
    rw [g X (by omega), g Y (by omega)];rfl
   have HE2 := hd_ e2;clear e2;have HC : Hid (Gr wq wq.drew) := Gr.drew wq;go_wp2_with fail
   refine wr_ 15 (Below (wq.heap.size)) (by kernel_rfl) ?_;generalize wq.drew = wc at HC ⊢;refine wg_ (pb_ (wq.heap.size)) 0 (some 19) ?_;refine wg_ (pb_ (wq.heap.size)) 1 (some 20) ?_ (hy := fun w' hw' => by
    try have g0 := cg_ (Below.trans HC.out hw') k0
    try have g1 := cg_ (Below.trans HC.out hw') k1
    try have g2 := cg_ (Below.trans HC.out hw') k2
    go_simp;with_reducible rfl)
   refine wg_ (pb_ (wq.heap.size)) 2 (some 21) ?_ (hy := fun w' hw' => by
    try have g0 := cg_ (Below.trans HC.out hw') k0
    try have g1 := cg_ (Below.trans HC.out hw') k1
    try have g2 := cg_ (Below.trans HC.out hw') k2
    go_simp;with_reducible rfl)
   refine wg_ (pb_ (wq.heap.size)) 3 (some 22) ?_;refine wg_ (pb_ (wq.heap.size)) 4 (some 23) ?_ (hy := fun w' hw' => by
    try have g0 := cg_ (Below.trans HC.out hw') k0
    try have g1 := cg_ (Below.trans HC.out hw') k1
    try have g2 := cg_ (Below.trans HC.out hw') k2
    go_simp;with_reducible rfl)
   refine wg_ (pb_ (wq.heap.size)) 5 (some 24) ?_ (hy := fun w' hw' => by
    try have g0 := cg_ (Below.trans HC.out hw') k0
    try have g1 := cg_ (Below.trans HC.out hw') k1
    try have g2 := cg_ (Below.trans HC.out hw') k2
    go_simp;with_reducible rfl)
   refine wg_ (pb_ (wq.heap.size)) 7 (some 26) ?_;refine wg_ (pb_ (wq.heap.size)) 8 (some 27) ?_ (hy := fun w' hw' => by
    try have g0 := cg_ (Below.trans HC.out hw') k0
    try have g1 := cg_ (Below.trans HC.out hw') k1
    try have g2 := cg_ (Below.trans HC.out hw') k2
    go_simp;with_reducible rfl)
   refine wg_ (pb_ (wq.heap.size)) 9 (some 28) ?_ (hy := fun w' hw' => by
    try have g0 := cg_ (Below.trans HC.out hw') k0
    try have g1 := cg_ (Below.trans HC.out hw') k1
    try have g2 := cg_ (Below.trans HC.out hw') k2
    go_simp;with_reducible rfl)
   refine wg_ (pb_ (wq.heap.size)) 10 (some 29) ?_;refine wg_ (pb_ (wq.heap.size)) 11 (some 30) ?_ (hy := fun w' hw' => by
    try have g0 := cg_ (Below.trans HC.out hw') k0
    try have g1 := cg_ (Below.trans HC.out hw') k1
    try have g2 := cg_ (Below.trans HC.out hw') k2
    go_simp;with_reducible rfl)
   refine wg5 (i := 6) (j := 12) rfl rfl (by kernel_rfl) (by rfl) (by rfl) ?_ ?_
   · go_simp;have hA : Below wc.heap.size wc (wc.alloc (.cells #[.int .u8 (X : Int), .int .u8 (Y : Int)] 5)) := (Below.refl _ _).alloc (Nat.le_refl _) _;have hAq : Below wq.heap.size wc (wc.alloc (.cells #[.int .u8 (X : Int), .int .u8 (Y : Int)] 5)) := hA.mono HC.out.size;refine ⟨hAq, ?_⟩;have HC' : Hid (Gr wq (wc.alloc (.cells #[.int .u8 (X : Int), .int .u8 (Y : Int)] 5))) := Below.trans HC.out hAq;have hs := or1 (own_new wc [Value.int .u8 (X : Int), .int .u8 (Y : Int)] 5 2 1 rfl (by decide)) (base' := wq.heap.size) HC.out.size;have HS : Hid ((wc.alloc (.cells #[.int .u8 (X : Int), .int .u8 (Y : Int)] 5)).ownsRow wq.heap.size 5 1 (.slice (some ⟨wc.heap.size, 0, none⟩) 2 2) 2 [Value.int .u8 (X : Int), .int .u8 (Y : Int)]) := hs;clear hs;try have HP' := hd_ (HP.out.below hA)
     try clear HP
     try (have HP := HP'; clear HP')
     clear HC hA hAq
     first
      | generalize wc.alloc (.cells #[.int .u8 (X : Int), .int .u8 (Y : Int)] 5) = wd at HC' HS HP ⊢
      | generalize wc.alloc (.cells #[.int .u8 (X : Int), .int .u8 (Y : Int)] 5) = wd at HC' HS ⊢
     generalize Value.slice (some ⟨wc.heap.size, 0, none⟩) 2 2 = S6 at HS ⊢;have HC := HC';clear HC';obtain ⟨wc, hwc⟩ : ∃ x, x = wd := ⟨_, rfl⟩;subst hwc;try simp only [Act.put, aq1, aq2, aq3]
     refine wg0 (i := 12) rfl (by kernel_rfl) (by rfl) ?_;go_simp;refine (PT.out _).mono ?_;rintro e w2 ⟨v2, rfl, hown2, hb2⟩;have hq : Below wq.heap.size wc w2 := hb2.mono HC.out.size;refine ⟨hq, ?_⟩;have HP := hd_ (hown2.mono HC.out.size);have HC' : Hid (Gr wq w2) := Below.trans HC.out hq;try have HS' := hd_ (or0 HS.out hb2)
     try clear HS
     try (have HS := HS'; clear HS')
     clear HC hown2 hb2 hq;have HC := HC';clear HC';obtain ⟨wc, hwc⟩ : ∃ x, x = w2 := ⟨_, rfl⟩;subst hwc;try simp only [Act.put, aq1, aq2, aq3]
     refine wg0 (i := 13) rfl (by kernel_rfl) (by rfl) ?_;have HR : Hid (Rd wc 1 v2 2 ((putL M 2).map u8v)) := HP.out.bs;refine wa_ _ (some 32) (.tmp 25) (.tmp 31) 30 rfl wq.heap.size 5 i0 (.int .u8 0) 1 1 Tryz.underlying30 hi hz0 hz1 hz2 rfl (by decide) _ _ _ rfl HS.out _ _ _ rfl HR.out (oc0 _) (by decide) (by decide) HC.out.size rfl ?_;intro v7 w7 hown7 hg7;have hb7 : Below wq.heap.size wc w7 := gb_ HS.out HC.out.size hg7;refine ⟨hb7, ?_⟩;have HC7 : Hid (Gr wq w7) := Below.trans HC.out hb7;rw [HE2.out] at hown7;have HO7 : Hid (OwnB w7 w.heap.size 5 v7 ([UInt8.ofNat X, UInt8.ofNat Y] ++ putL M 2)) := (OwnB.of_app hown7 rfl (pl0 _ _)).mono HB.out.size;clear hown7 hg7 hb7 HR HS HP HC;try simp only [Act.put, aq1, aq2, aq3]
     refine wg_ (pb_ (wq.heap.size)) 14 (some 4) ?_;refine wg1 (by kernel_rfl) ?_ _;have HB7 := hd_ (HB.out.trans (Below.mono HC7.out HB.out.size));have HG7 := hd_ (hg_ HC7.out HG0.out);have HV7 : Hid (Rd w7 1 (.slice A L K) L (l.map u8v)) := by
      have := HV.out.below HB7.out;unfold Bs at this;rw [HL.out] at this;exact this
     clear k0 k1 k2 HC7;obtain ⟨k0, k1, k2⟩ := cells3 HG7.out;go_wp2_with (at_builtin; refine wl1 _ rfl _ _ 30 rfl w.heap.size 5 i0 (.int .u8 0) 1 1 Tryz.underlying30 hi hz0 hz1 hz2 rfl (by decide) _ _ _ rfl HO7.out _ _ _ rfl HV7.out (oc0 _) ?q1 (by decide) HB7.out.size ?_)
     case q1 => simp [pl0]; omega
     intro v8 w8 hown8 hg8;have HB8 := hd_ (HB7.out.trans (gb_ HO7.out HB7.out.size hg8));have HO8 : Hid (OwnB w8 w.heap.size 5 v8 (wireC ⟨X, Y, l⟩)) := by
      show OwnB _ _ _ _ _;rw [wireC_eq, show 4 + l.length = M by rw [HL.out]; omega];exact OwnB.of_app hown8 (by simp [pl0]) HL.out
     clear hown8 hg8 k0 k1 k2;go_wp2
     go_ret2
     exact BRes.some HE.out (cencB_yes HE.out) HO8.out HB8.out
   · go_simp;refine (PT.out _).mono ?_;rintro e w2 ⟨v2, rfl, hown2, hb2⟩;have hq : Below wq.heap.size wc w2 := hb2.mono HC.out.size;refine ⟨hq, ?_⟩;have HP := hd_ (hown2.mono HC.out.size);have HC' : Hid (Gr wq w2) := Below.trans HC.out hq;try have HS' := hd_ (or0 HS.out hb2)
     try clear HS
     try (have HS := HS'; clear HS')
     clear HC hown2 hb2 hq;have HC := HC';clear HC';obtain ⟨wc, hwc⟩ : ∃ x, x = w2 := ⟨_, rfl⟩;subst hwc;try simp only [Act.put, aq1, aq2, aq3]
     refine wg0 (i := 6) rfl (by kernel_rfl) (by rfl) ?_;go_simp;have hA : Below wc.heap.size wc (wc.alloc (.cells #[.int .u8 (X : Int), .int .u8 (Y : Int)] 5)) := (Below.refl _ _).alloc (Nat.le_refl _) _;have hAq : Below wq.heap.size wc (wc.alloc (.cells #[.int .u8 (X : Int), .int .u8 (Y : Int)] 5)) := hA.mono HC.out.size;refine ⟨hAq, ?_⟩;have HC' : Hid (Gr wq (wc.alloc (.cells #[.int .u8 (X : Int), .int .u8 (Y : Int)] 5))) := Below.trans HC.out hAq;have hs := or1 (own_new wc [Value.int .u8 (X : Int), .int .u8 (Y : Int)] 5 2 1 rfl (by decide)) (base' := wq.heap.size) HC.out.size;have HS : Hid ((wc.alloc (.cells #[.int .u8 (X : Int), .int .u8 (Y : Int)] 5)).ownsRow wq.heap.size 5 1 (.slice (some ⟨wc.heap.size, 0, none⟩) 2 2) 2 [Value.int .u8 (X : Int), .int .u8 (Y : Int)]) := hs;clear hs;try have HP' := hd_ (HP.out.below hA)
     try clear HP
     try (have HP := HP'; clear HP')
     clear HC hA hAq
     first
      | generalize wc.alloc (.cells #[.int .u8 (X : Int), .int .u8 (Y : Int)] 5) = wd at HC' HS HP ⊢
      | generalize wc.alloc (.cells #[.int .u8 (X : Int), .int .u8 (Y : Int)] 5) = wd at HC' HS ⊢
     generalize Value.slice (some ⟨wc.heap.size, 0, none⟩) 2 2 = S6 at HS ⊢;have HC := HC';clear HC';obtain ⟨wc, hwc⟩ : ∃ x, x = wd := ⟨_, rfl⟩;subst hwc;try simp only [Act.put, aq1, aq2, aq3]
     refine wg0 (i := 13) rfl (by kernel_rfl) (by rfl) ?_;have HR : Hid (Rd wc 1 v2 2 ((putL M 2).map u8v)) := HP.out.bs;refine wa_ _ (some 32) (.tmp 25) (.tmp 31) 30 rfl wq.heap.size 5 i0 (.int .u8 0) 1 1 Tryz.underlying30 hi hz0 hz1 hz2 rfl (by decide) _ _ _ rfl HS.out _ _ _ rfl HR.out (oc0 _) (by decide) (by decide) HC.out.size rfl ?_;intro v7 w7 hown7 hg7;have hb7 : Below wq.heap.size wc w7 := gb_ HS.out HC.out.size hg7;refine ⟨hb7, ?_⟩;have HC7 : Hid (Gr wq w7) := Below.trans HC.out hb7;rw [HE2.out] at hown7;have HO7 : Hid (OwnB w7 w.heap.size 5 v7 ([UInt8.ofNat X, UInt8.ofNat Y] ++ putL M 2)) := (OwnB.of_app hown7 rfl (pl0 _ _)).mono HB.out.size;clear hown7 hg7 hb7 HR HS HP HC;try simp only [Act.put, aq1, aq2, aq3]
     refine wg_ (pb_ (wq.heap.size)) 14 (some 4) ?_;refine wg1 (by kernel_rfl) ?_ _;have HB7 := hd_ (HB.out.trans (Below.mono HC7.out HB.out.size));have HG7 := hd_ (hg_ HC7.out HG0.out);have HV7 : Hid (Rd w7 1 (.slice A L K) L (l.map u8v)) := by
      have := HV.out.below HB7.out;unfold Bs at this;rw [HL.out] at this;exact this
     clear k0 k1 k2 HC7;obtain ⟨k0, k1, k2⟩ := cells3 HG7.out;go_wp2_with (at_builtin; refine wl1 _ rfl _ _ 30 rfl w.heap.size 5 i0 (.int .u8 0) 1 1 Tryz.underlying30 hi hz0 hz1 hz2 rfl (by decide) _ _ _ rfl HO7.out _ _ _ rfl HV7.out (oc0 _) ?q1 (by decide) HB7.out.size ?_)
     case q1 => simp [pl0]; omega
     intro v8 w8 hown8 hg8;have HB8 := hd_ (HB7.out.trans (gb_ HO7.out HB7.out.size hg8));have HO8 : Hid (OwnB w8 w.heap.size 5 v8 (wireC ⟨X, Y, l⟩)) := by
      show OwnB _ _ _ _ _;rw [wireC_eq, show 4 + l.length = M by rw [HL.out]; omega];exact OwnB.of_app hown8 (by simp [pl0]) HL.out
     clear hown8 hg8 k0 k1 k2;go_wp2
     go_ret2
     exact BRes.some HE.out (cencB_yes HE.out) HO8.out HB8.out
set_option maxHeartbeats 2000000 in
theorem told_any (code id : Int) (a : Option Addr) (n c : Nat) (l : List UInt8) (hn : l.length = n) (w : World) (hb : Bs w (.slice a n c) l) (hr : n <= 1000000) :
 Calls Tryz.prog 84 #[.int .i64 code, .int .i64 id, .slice a n c] w fun e w' => ∃ A L C, e = .returned (.agg #[.int .i64 code, .int .i64 id, .slice A L C]) /\ OwnB w' w.heap.size 5 (.slice A L C) (l.take 1488) /\ Below w.heap.size w w' := by
 obtain ⟨i0, hi, hz0, hz1, hz2⟩ := info_parts info5;have BA : Below w.heap.size w ((w.alloc (.cells #[.int .i64 0, .int .i64 0, .slice none 0 0] 32)).alloc (.cells #[] 5)) := ((Below.refl _ _).alloc (Nat.le_refl _) _).alloc (by simp) _;have HBA := hd_ BA;have HG0 : Hid (((w.alloc (.cells #[.int .i64 0, .int .i64 0, .slice none 0 0] 32)).alloc (.cells #[] 5)).heap[w.heap.size]? = some (.cells #[.int .i64 0, .int .i64 0, .slice none 0 0] 32 (0, 0))) := h0_ _ _ _;have hb1 : Rd w 1 (.slice a n c) n (l.map u8v) := by
  have := hb;unfold Bs at this;rw [hn] at this;exact this
 obtain ⟨m, hm⟩ : ∃ m, m = min n 1488 := ⟨_, rfl⟩;have hmin : (if (1488 : Int) < (n : Int) then 1488 else (n : Int)) = (m : Int) := by split <;> omega
 obtain ⟨a7, hs7, hr7⟩ := su_ (P := Tryz.prog) Tryz.underlying30 hi hz1 hb1 .i64 (m : Int) m rfl (by omega);rw [take_u8] at hr7;have et : l.take m = l.take 1488 := by
  have := take_min l m (by rw [hn]; exact hm)
  rwa [List.drop_zero, Nat.sub_zero] at this
 rw [et] at hr7;have hl7 : (l.take 1488).length = m := by rw [List.length_take, hn, hm]; omega
 have HL7 := hd_ hl7;have HR7 : Hid (Rd ((w.alloc (.cells #[.int .i64 0, .int .i64 0, .slice none 0 0] 32)).alloc (.cells #[] 5)) 1 (.slice a7 m c) m ((l.take 1488).map u8v)) := hr7.below BA;have hsz : (w.alloc (.cells #[.int .i64 0, .int .i64 0, .slice none 0 0] 32)).heap.size = w.heap.size + 1 := World.size_alloc _ _;have ho := own_new (w.alloc (.cells #[.int .i64 0, .int .i64 0, .slice none 0 0] 32)) [] 5 0 1 rfl (Nat.zero_le _);rw [hsz] at ho;have HO7 : Hid (((w.alloc (.cells #[.int .i64 0, .int .i64 0, .slice none 0 0] 32)).alloc (.cells #[] 5)).ownsRow (w.heap.size + 1) 5 1 (.slice (some ⟨w.heap.size + 1, 0, none⟩) 0 0) 0 []) := ho;have HTS : Hid (w.heap.size + 1 <= ((w.alloc (.cells #[.int .i64 0, .int .i64 0, .slice none 0 0] 32)).alloc (.cells #[] 5)).heap.size) := by show _ <= _; rw [World.size_alloc, World.size_alloc]; exact Nat.le_succ _
 have hmm : m <= 1488 := by omega
 have hc0 : m <= n := by omega
 have hnc : n <= c := by
  obtain ⟨_, _, ev, h1, _⟩ := hb1.shape;simp only [Value.slice.injEq] at ev;obtain ⟨_, _, rfl⟩ := ev;exact h1
 clear BA hb hb1 hn hr7 et hl7 hsz ho hm;go_enter Tryz.func84, Tryz.ntmps84
 go_wp2_with (at_builtin; refine wl1 _ rfl _ _ 30 rfl (w.heap.size + 1) 5 i0 (.int .u8 0) 1 1 Tryz.underlying30 hi hz0 hz1 hz2 rfl (by decide) _ _ _ rfl HO7.out _ _ _ rfl HR7.out (oc0 _) ?q1 (by decide) HTS.out ?_)
 case q1 => omega
 intro v8 w8 hown8 hg8;have HB8 := hd_ (HBA.out.trans ((gb_ HO7.out HTS.out hg8).mono (Nat.le_succ _)));have HG8 := hd_ (gh_ HO7.out hg8 HG0.out (by decide));have HO8 : Hid (OwnB w8 (w.heap.size + 1) 5 v8 (l.take 1488)) := by
  show OwnB _ _ _ _ _;unfold OwnB;rw [HL7.out];simpa using hown8
 obtain ⟨A8, L8, C8, ev, hL8, _, _⟩ := HO8.out.bs.sl;subst ev;obtain ⟨k0, k1, k2⟩ := cells3 HG8.out;have f0 := frozen_of_row _ _ 0 _ _ HG8.out;have f1 := frozen_of_row _ _ 1 _ _ HG8.out;have f2 := frozen_of_row _ _ 2 _ _ HG8.out;clear hown8 hg8 hL8;go_wp2
 refine bodyPost_ret (v := .agg #[.int .i64 code, .int .i64 id, .slice A8 L8 C8]) (rc0 (P := Tryz.prog) (fn := Tryz.f84) rfl _ _ w.heap.size 32 _ (0, 0) _ rfl (set3 HG8.out _ _ _) Tryz.underlying32 rfl (by kernel_rfl)) rfl ?_;exact ⟨_, _, _, rfl, OwnB.mono (base := w.heap.size + 1) (own_set3 HO8.out (Nat.lt_succ_self _) _ _ _) (Nat.le_succ _), ((HB8.out.setCell (Nat.le_refl _) _).setCell (Nat.le_refl _) _).setCell (Nat.le_refl _) _⟩
set_option maxHeartbeats 2000000 in
theorem rreject_any (C S id : Int) (A : Option Addr) (L K : Nat) (l : List UInt8) (hl : l.length = L) (w : World) (hb : Bs w (.slice A L K) l) (hL : L <= 10000) :
 Calls Tryz.prog 64 #[.agg #[.int .i64 C, .int .i64 S, .slice A L K], .int .i64 id] w (CRes (rejP ⟨C, S, l⟩ id) w) := by
 have BA : Below w.heap.size w ((w.alloc (.cells #[.int .i64 C, .int .i64 S, .slice A L K] 32)).alloc (.cells #[.int .i64 0, .int .i64 0, .slice none 0 0] 32)) := ((Below.refl _ _).alloc (Nat.le_refl _) _).alloc (by simp) _;have HG0 : Hid (((w.alloc (.cells #[.int .i64 C, .int .i64 S, .slice A L K] 32)).alloc (.cells #[.int .i64 0, .int .i64 0, .slice none 0 0] 32)).heap[w.heap.size]? = some (.cells #[.int .i64 C, .int .i64 S, .slice A L K] 32)) := h0_ _ _ _;have HG1 : Hid (((w.alloc (.cells #[.int .i64 C, .int .i64 S, .slice A L K] 32)).alloc (.cells #[.int .i64 0, .int .i64 0, .slice none 0 0] 32)).heap[w.heap.size + 1]? = some (.cells #[.int .i64 0, .int .i64 0, .slice none 0 0] 32 (0, 0))) := h1_ _ _ _;have HB1 := hd_ BA;have EN := hd_ (rcencode_any C S A L K l hl ((w.alloc (.cells #[.int .i64 C, .int .i64 S, .slice A L K] 32)).alloc (.cells #[.int .i64 0, .int .i64 0, .slice none 0 0] 32)) (hb.below BA) (by omega));have HLB : Hid ((cencB ⟨C, S, l⟩).length <= 20000) := Nat.le_trans (cencB_len _) (by show 4 + l.length <= _; omega);obtain ⟨E, hE⟩ : ∃ E, E = cencE ⟨C, S, l⟩ := ⟨_, rfl⟩;obtain ⟨B, hB⟩ : ∃ B, B = cencB ⟨C, S, l⟩ := ⟨_, rfl⟩;have HPP : Hid (rejP ⟨C, S, l⟩ id = tellP 7 id E B) := by show _ = _; rw [hE, hB]; rfl
 rw [HPP.out];rw [<- hE, <- hB] at EN;rw [<- hB] at HLB;have hsz : w.heap.size + 2 <= ((w.alloc (.cells #[.int .i64 C, .int .i64 S, .slice A L K] 32)).alloc (.cells #[.int .i64 0, .int .i64 0, .slice none 0 0] 32)).heap.size := by rw [World.size_alloc, World.size_alloc]; exact Nat.le_refl _
 have HSZ := hd_ hsz;obtain ⟨k0, k1, k2⟩ := cells3 HG0.out;clear BA hl hb hE hB HPP hsz;go_enter Tryz.func64, Tryz.ntmps64
 go_wp2_with fail
 refine EN.out.mono ?_;rintro e w2 ⟨v2, rfl, hown2, hb2⟩;have HO2 := hd_ (hown2.mono HSZ.out);have HB2 := hd_ (HB1.out.trans (hb2.mono HB1.out.size));have HG2 := hd_ (hb_ HG1.out hb2);have IB := hd_ (byteOK_any id w2);have HW2 : Hid (w.heap.size + 2 <= w2.heap.size) := Nat.le_trans HSZ.out hb2.size;obtain ⟨A2, L2, C2, ev, hL2, _, _⟩ := hown2.bs.sl;subst ev;clear hown2 hb2 EN k0 k1 k2;go_wp2_with fail
 refine IB.out.mono ?_;rintro e w' ⟨rfl, rfl⟩;obtain ⟨k0, k1, k2⟩ := cells3 HG2.out;have f0 := frozen_of_row _ _ 0 _ _ HG2.out;have f1 := frozen_of_row _ _ 1 _ _ HG2.out;have f2 := frozen_of_row _ _ 2 _ _ HG2.out;cases hp : byteB id with
 | false =>
  have HP := hd_ (tellP_no (code := 7) (id := id) (e := E) (b := B) hp);clear hp IB hL2;go_wp2
  refine bodyPost_ret (v := .tuple #[.agg #[.int .i64 0, .int .i64 0, .slice none 0 0], .int .i64 1]) (rc_ (P := Tryz.prog) (fn := Tryz.f64) rfl _ _ (w.heap.size + 1) 32 _ (0, 0) _ rfl (set3 HG2.out _ _ _) Tryz.underlying32 rfl (by kernel_rfl)) rfl ?_;exact CRes.none HP.out (((HB2.out.setCell (Nat.le_succ _) _).setCell (Nat.le_succ _) _).setCell (Nat.le_succ _) _)
 | true =>
  by_cases hE : E = 0
  · have HP := hd_ (tellP_ok (code := 7) (id := id) (e := E) (b := B) hp hE);subst hE;have TD := hd_ (told_any 7 id A2 L2 C2 B hL2 w2 HO2.out.bs (by have := HLB.out; omega));clear hp IB hL2 k0 k1 k2 f0 f1 f2;go_wp2_with fail
    refine TD.out.mono ?_;rintro e w3 ⟨A3, L3, C3, rfl, hown3, hb3⟩;have HB3 := hd_ (HB2.out.trans (hb3.mono HB2.out.size));have HG3 := hd_ (hb_ HG2.out hb3);have HO3 := hd_ (hown3.mono HW2.out);obtain ⟨k0, k1, k2⟩ := cells3 HG3.out;have f0 := frozen_of_row _ _ 0 _ _ HG3.out;have f1 := frozen_of_row _ _ 1 _ _ HG3.out;have f2 := frozen_of_row _ _ 2 _ _ HG3.out;clear hown3 hb3 TD;go_wp2
    refine bodyPost_ret (v := .tuple #[.agg #[.int .i64 7, .int .i64 id, .slice A3 L3 C3], .int .i64 0]) (rc_ (P := Tryz.prog) (fn := Tryz.f64) rfl _ _ (w.heap.size + 1) 32 _ (0, 0) _ rfl (set3 HG3.out _ _ _) Tryz.underlying32 rfl (by kernel_rfl)) rfl ?_;exact CRes.some HP.out (OwnB.mono (base := w.heap.size + 2) (own_set3 HO3.out (Nat.lt_succ_self _) _ _ _) (by omega)) (((HB3.out.setCell (Nat.le_succ _) _).setCell (Nat.le_succ _) _).setCell (Nat.le_succ _) _)
  · have HP := hd_ (tellP_err (code := 7) (id := id) (e := E) (b := B) hp hE);have hE' : (E == 0) = false := by rw [beq_eq_false_iff_ne]; exact hE
    clear hp IB hL2;go_wp2
    refine bodyPost_ret (v := .tuple #[.agg #[.int .i64 0, .int .i64 0, .slice none 0 0], .int .i64 E]) (rc_ (P := Tryz.prog) (fn := Tryz.f64) rfl _ _ (w.heap.size + 1) 32 _ (0, 0) _ rfl (set3 HG2.out _ _ _) Tryz.underlying32 rfl (by kernel_rfl)) rfl ?_;exact CRes.none HP.out (((HB2.out.setCell (Nat.le_succ _) _).setCell (Nat.le_succ _) _).setCell (Nat.le_succ _) _)
end
end Go.Proofs.YtclplbapedmihaaGreat
