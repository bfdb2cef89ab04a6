/-
  For any rate of each address and any asks (the first 100) an address is answered as by a bucket of its own that is always kept (conciergelaw10.BucketLimiterFair answers true). No condition.
-/
import Derived.Test.YtblnglkjpnpmbaaBkX
import Derived.Test.YtblnglkjpnpmbaaBkB
import Derived.Test.YtblnglkjpnpmbaaOpenB
import Derived.ProofKit
import Derived.OpenShut
import Derived.ChangeOld
namespace Go.Proofs.Ytblnglkjpnpmbaa.bucketLimiterFair
open Go.ChangeShapes Go.WideShapes Go.ChangeAt Go.RowKit
open Go.Proofs.Ytblnglkjpnpmbaa.Bk
set_option linter.unusedVariables false
set_option linter.unusedSimpArgs false

def flatB (bs : List Bu) : List Value := bs.flatMap fun b => [.int .i64 b.k, .int .i64 b.t]
theorem flatB_cons (b : Bu) (bs : List Bu) : flatB (b :: bs) = .int .i64 b.k :: .int .i64 b.t :: flatB bs := rfl
theorem flatB_len : ∀ (bs : List Bu), (flatB bs).length = bs.length * 2
  | [] => rfl
  | b :: bs => by rw [flatB_cons, List.length_cons, List.length_cons, flatB_len bs, List.length_cons]; omega
theorem flatB_get : ∀ (bs : List Bu) (k : Nat) (hk : k < bs.length), (flatB bs)[k * 2]? = some (.int .i64 bs[k].k) ∧ (flatB bs)[k * 2 + 1]? = some (.int .i64 bs[k].t)
  | b :: bs, 0, _ => ⟨rfl, rfl⟩
  | b :: bs, k + 1, hk => by
    have h := flatB_get bs k (by simpa using hk)
    rw [flatB_cons, show (k + 1) * 2 = k * 2 + 1 + 1 by omega]
    simpa using h
theorem flatB_set : ∀ (bs : List Bu) (k : Nat) (hk : k < bs.length) (x : Bu), splice (flatB bs) (k * 2) [.int .i64 x.k, .int .i64 x.t] = flatB (bs.set k x)
  | b :: bs, 0, _, x => by simp [splice, flatB]
  | b :: bs, k + 1, hk, x => by
    have h := flatB_set bs k (by simpa using hk) x
    rw [List.set_cons_succ, flatB_cons, flatB_cons, ← h, show (k + 1) * 2 = k * 2 + 1 + 1 by omega]
    simp [splice]
theorem flatB_one (bs : List Bu) : ∀ v ∈ flatB bs, v.oneCell' = true := by
  intro v hv
  obtain ⟨b, _, h⟩ := List.mem_flatMap.1 hv
  simp only [List.mem_cons, List.not_mem_nil, or_false] at h
  rcases h with rfl | rfl <;> rfl
structure FJ (g bm gB gO : Nat) (W wr : World) (oe om : Int) (i : Nat) (S : Li) (bs : List Bu) : Prop where
  lim : LimAt wr g bm S
  fs : Fs ⟨oe, om⟩ i S bs
  row : wr.heap[gB]? = some (.cells (flatB bs).toArray 59 (0, 0))
  ro : wr.heap[gO]? = some (.cells #[.int .i64 oe, .int .i64 om] 23 (0, 0))
  bel : Below W.heap.size W wr
  ge : W.heap.size ≤ g ∧ W.heap.size ≤ bm ∧ W.heap.size ≤ gB
theorem off {w : World} {g bm k : Nat} {S : Li} (h : LimAt w g bm S) {cs : Array Value} {t : TypeId} {fr : Nat × Nat} (hk : w.heap[k]? = some (.cells cs t fr)) (ht : t ≠ 63) : k ≠ g ∧ k ≠ bm := by
  constructor
  · rintro rfl
    rw [h.row] at hk
    simp only [Option.some.injEq, Obj.cells.injEq] at hk
    exact ht hk.2.1.symm
  · rintro rfl
    obtain ⟨a, c, hm⟩ := h.map.obj
    rw [hk] at hm
    cases hm
section
variable {g bm gB gO i j : Nat} {W wr wx : World} {oe om : Int} {S T : Li} {bs : List Bu}
theorem FJ.gr (h : FJ g bm gB gO W wr oe om i S bs) (hb : Below wr.heap.size wr wx) : FJ g bm gB gO W wx oe om i S bs :=
  ⟨h.lim.gr hb, h.fs, heap_below h.row hb, heap_below h.ro hb, h.bel.trans (hb.mono h.bel.size), h.ge⟩
/-- The row has turned, the limiter not yet. -/
structure FK (g bm gB gO : Nat) (W wr : World) (oe om : Int) (S : Li) (bs : List Bu) : Prop where
  lim : LimAt wr g bm S
  row : wr.heap[gB]? = some (.cells (flatB bs).toArray 59 (0, 0))
  ro : wr.heap[gO]? = some (.cells #[.int .i64 oe, .int .i64 om] 23 (0, 0))
  bel : Below W.heap.size W wr
  ge : W.heap.size ≤ g ∧ W.heap.size ≤ bm ∧ W.heap.size ≤ gB
theorem FK.gr (h : FK g bm gB gO W wr oe om S bs) (hb : Below wr.heap.size wr wx) : FK g bm gB gO W wx oe om S bs :=
  ⟨h.lim.gr hb, heap_below h.row hb, heap_below h.ro hb, h.bel.trans (hb.mono h.bel.size), h.ge⟩
theorem FK.tu (h : FK g bm gB gO W wr oe om S bs) (hl : LimAt wx g bm T) (ht : Tu g bm wr wx) (hf : Fs ⟨oe, om⟩ j T bs) : FJ g bm gB gO W wx oe om j T bs := by
  have n1 := off h.lim h.row (by decide)
  have n3 := off h.lim h.ro (by decide)
  exact ⟨hl, hf, ht.heap h.row n1.1 n1.2, ht.heap h.ro n3.1 n3.2, Tu.below h.bel h.bel.size ht h.ge.1 h.ge.2.1, h.ge⟩
/-- A bucket of the row is written. -/
theorem FK.set (hl : LimAt wr g bm S) (hr : wr.heap[gB]? = some (.cells (flatB bs).toArray 59 (0, 0))) (ho : wr.heap[gO]? = some (.cells #[.int .i64 oe, .int .i64 om] 23 (0, 0))) (hbel : Below W.heap.size W wr) (hge : W.heap.size ≤ g ∧ W.heap.size ≤ bm ∧ W.heap.size ≤ gB)
    {cs : List Bu} (hx : wx.heap[gB]? = some (.cells (flatB cs).toArray 59 (0, 0))) (hon : Only gB wr wx) : FK g bm gB gO W wx oe om S cs := by
  have n1 := off hl hr (by decide)
  have n2 : gO ≠ gB := by
    rintro rfl
    rw [hr] at ho
    simp at ho
  exact ⟨hl.keep (hon.heap _ hl.lt.1 (Ne.symm n1.1)) (hon.heap _ hl.lt.2 (Ne.symm n1.2)), hx, (hon.heap _ (Array.getElem?_eq_some_iff.1 ho).1 n2).trans ho, hon.below _ _ hge.2.2 hbel, hge⟩
theorem row_cells {x : World} (h : x.heap[gB]? = some (.cells (flatB bs).toArray 59 (0, 0))) {k : Nat} (hk : k < bs.length) : x.cell? ⟨gB, k * 2, none⟩ = some (.int .i64 bs[k].k) ∧ x.cell? ⟨gB, k * 2 + 1, none⟩ = some (.int .i64 bs[k].t) := by
  have h2 := flatB_get bs k hk
  constructor
  · rw [cell_of_row x gB _ _ _ _ h]
    simpa using h2.1
  · rw [cell_of_row x gB _ _ _ _ h]
    simpa using h2.2
end
set_option maxRecDepth 20000 in
set_option maxHeartbeats 8000000 in
theorem walk (W : World) (oe om : Int) (woe : (Lit.int .i64 oe).wf = true) (wom : (Lit.int .i64 om).wf = true)
    (a : Option Addr) (n c : Nat) (qs : List Ak) (hq : AkR W (.slice a n c) n qs) :
    Calls Try.prog 9 #[.agg #[.int .i64 oe, .int .i64 om], .slice a n c] W fun e w' => e = .returned (.bool true) ∧ Below W.heap.size W w' := by
  have HB : Hid (Below W.heap.size W (W.alloc (.cells #[.int .i64 oe, .int .i64 om] 23))) := (Below.refl _ _).alloc (Nat.le_refl _) _
  have HG0 : Hid ((W.alloc (.cells #[.int .i64 oe, .int .i64 om] 23)).heap[W.heap.size]? = some (.cells #[.int .i64 oe, .int .i64 om] 23 (0, 0))) := heap_alloc_last _ _
  have HQ := Lib.hid hq
  have HA := Lib.hid (fun w => awake_any w)
  have RC := rcheck_any oe om
  clear woe wom hq
  by_cases hok : okR ⟨oe, om⟩
  · have HOK := Lib.hid hok
    rw [show ckE ⟨oe, om⟩ = 0 from if_pos hok] at RC
    have HRC := Lib.hid RC
    clear hok RC
    go_enter Try.func9, Try.ntmps9
    go_wp2_with fail
    generalize (W.alloc (.cells #[.int .i64 oe, .int .i64 om] 23)) = w1 at HB HG0 ⊢
    refine (HRC.out w1).mono ?_
    rintro e w2 ⟨rfl, hb⟩
    have HG02 := Lib.hid (heap_below HG0.out hb)
    have HB2 := Lib.hid (HB.out.trans (hb.mono HB.out.size))
    obtain ⟨k0, k1⟩ := cells2 HG02.out
    clear hb HB HG0 HRC
    go_wp2_with fail
    refine (new_yes 0 1000 oe om (by simp [okR]) HOK.out w2).mono ?_
    rintro e w3 ⟨g, bm, rfl, hg, hbm, hl, hb⟩
    have HL3 := Lib.hid hl
    have HG03 := Lib.hid (heap_below HG02.out hb)
    have HB3 := Lib.hid (HB2.out.trans (hb.mono HB2.out.size))
    have HGE : Hid (W.heap.size ≤ g ∧ W.heap.size ≤ bm) := ⟨Nat.le_trans HB2.out.size hg, Nat.le_trans HB2.out.size hbm⟩
    clear hl hb hg hbm HB2 HG02 k0 k1
    go_wp2_with fail
    refine (HA.out _).mono ?_
    rintro e w4 ⟨rfl, hb⟩
    have ha : Below w4.heap.size w4 (w4.alloc (.cells #[.int .i64 0, .int .i64 0, .int .i64 0, .int .i64 0, .int .i64 0, .int .i64 0, .int .i64 0, .int .i64 0] 59)) := (Below.refl _ _).alloc (Nat.le_refl _) _
    have hr : (w4.alloc (.cells #[.int .i64 0, .int .i64 0, .int .i64 0, .int .i64 0, .int .i64 0, .int .i64 0, .int .i64 0, .int .i64 0] 59)).heap[w4.heap.size]? = some (.cells #[.int .i64 0, .int .i64 0, .int .i64 0, .int .i64 0, .int .i64 0, .int .i64 0, .int .i64 0, .int .i64 0] 59 (0, 0)) := heap_alloc_last _ _
    have hb' := Below.trans hb (ha.mono hb.size)
    have HK0 : Hid (FK g bm w4.heap.size W.heap.size W (w4.alloc (.cells #[.int .i64 0, .int .i64 0, .int .i64 0, .int .i64 0, .int .i64 0, .int .i64 0, .int .i64 0, .int .i64 0] 59)) oe om (born ⟨0, 1000⟩ ⟨oe, om⟩) [zero, zero, zero, zero]) :=
      ⟨HL3.out.gr hb', hr, heap_below HG03.out hb', HB3.out.trans (hb'.mono HB3.out.size), HGE.out.1, HGE.out.2, Nat.le_trans HB3.out.size hb.size⟩
    clear hb ha hr hb' HL3 HG03 HB3 HGE HA
    go_upto_region 7 with fail
    generalize w4.alloc (.cells #[.int .i64 0, .int .i64 0, .int .i64 0, .int .i64 0, .int .i64 0, .int .i64 0, .int .i64 0, .int .i64 0] 59) = w5 at HK0 ⊢
    obtain ⟨gB, hgB⟩ : ∃ b, b = w4.heap.size := ⟨_, rfl⟩
    rw [← hgB] at HK0 ⊢
    obtain ⟨S0, hS0⟩ : ∃ S, S = born ⟨0, 1000⟩ ⟨oe, om⟩ := ⟨_, rfl⟩
    have HS0 := Lib.hid hS0
    rw [← hS0] at HK0
    clear hgB hS0
    have RF := fun w => rfull_any oe om w
    rw [show full ⟨oe, om⟩ = ⟨om, 0⟩ from if_pos HOK.out] at RF
    have HRF := Lib.hid RF
    clear RF
    have HI : Hid ((Try.prog.info? 25).map (·.size) = some ([.int .i64 om, .int .i64 0] : List Value).length) := by
      show _ = _
      kernel_rfl
    go_wp2_with fail
    go_loopw [8] (fun kv wr => ∃ (j : Nat) (bs : List Bu), j ≤ 4 ∧ kv = .int .i64 (j : Int) ∧ bs.length = 4 ∧ (∀ (i : Nat) (h : i < bs.length), i < j → bs[i] = ⟨om, 0⟩) ∧ FK g bm gB W.heap.size W wr oe om S0 bs) (fun kv _ => 4 - (intOf kv).toNat)
    case atStart => exact ⟨0, _, by omega, rfl, rfl, (fun i h h0 => by omega), HK0.out⟩
    case round =>
      clear HK0
      obtain ⟨j, bs, hj4, hkv, hbl, hbs, hfk⟩ := hrel
      subst hkv
      have HK := Lib.hid hfk
      have HBS := Lib.hid hbs
      have HBL := Lib.hid hbl
      clear hfk hbs hbl
      by_cases hjlt : j < 4
      · have hj5 : (j : Int) < 4 := by omega
        have x1 : wrap64 ((j : Int) + 1) = (j : Int) + 1 := wrap64_in (by omega) (by omega)
        obtain ⟨k0, k1⟩ := cells2 HK.out.ro
        go_wp2_with fail
        refine (HRF.out _).mono ?_
        rintro e w6 ⟨rfl, hb⟩
        have HK6 := Lib.hid (HK.out.gr hb)
        clear hb k0 k1 HK
        have HROW := Lib.hid HK6.out.row
        have HFIT : Hid (j * 2 + ([.int .i64 om, .int .i64 0] : List Value).length ≤ (flatB bs).length) := by
          show _ ≤ _
          rw [flatB_len, HBL.out]
          simp
          omega
        have HONE : Hid (∀ v ∈ ([.int .i64 om, .int .i64 0] : List Value), v.oneCell' = true) := by
          intro v hv
          simp only [List.mem_cons, List.not_mem_nil, or_false] at hv
          rcases hv with rfl | rfl <;> rfl
        go_upto_region 9 with (with_reducible refine wpList_store_splice rfl 25 (.tmp 41) (.tmp 40) rfl gB _ [.int .i64 om, .int .i64 0] rfl rfl 59 _ HROW.out HI.out HFIT.out HONE.out ?_)
        intro w8 h8 ho8
        have e8 : splice (flatB bs) (j * 2) [.int .i64 om, .int .i64 0] = flatB (bs.set j ⟨om, 0⟩) := flatB_set bs j (by rw [HBL.out]; exact hjlt) ⟨om, 0⟩
        rw [e8] at h8
        have HK8 := Lib.hid (FK.set HK6.out.lim HK6.out.row HK6.out.ro HK6.out.bel HK6.out.ge h8 ho8)
        clear h8 ho8 e8 HROW HFIT HONE HK6
        go_wp2_with fail
        go_roundw
        case rel =>
          have hset : ∀ (i : Nat) (h : i < (bs.set j ⟨om, 0⟩).length), i < j + 1 → (bs.set j ⟨om, 0⟩)[i] = ⟨om, 0⟩ := by
            intro i h hi
            rw [List.getElem_set]
            by_cases e : j = i
            · rw [if_pos e]
            · rw [if_neg e]; exact HBS.out i (by rw [List.length_set] at h; exact h) (by omega)
          have hlen : (bs.set j (⟨om, 0⟩ : Bu)).length = 4 := by rw [List.length_set]; exact HBL.out
          first
            | exact ⟨j + 1, bs.set j ⟨om, 0⟩, by omega, by go_num, hlen, hset, HK8.out⟩
            | ((repeat apply Exists.intro); exact ⟨⟨j + 1, bs.set j ⟨om, 0⟩, by omega, by go_num, hlen, hset, HK8.out⟩, rfl⟩)
        case measure => simp [intOf]; omega
      · have hbs : bs = [⟨om, 0⟩, ⟨om, 0⟩, ⟨om, 0⟩, ⟨om, 0⟩] := by
          refine List.ext_getElem HBL.out fun i h1 h2 => ?_
          rw [HBS.out i h1 (by rw [HBL.out] at h1; omega)]
          have hi : i < 4 := h2
          match i, hi with
          | 0, _ => rfl
          | 1, _ => rfl
          | 2, _ => rfl
          | 3, _ => rfl
        have HF0 : Hid (Fs ⟨oe, om⟩ 0 S0 bs) := by rw [HS0.out, hbs]; exact Fs.start HOK.out
        have HT0 : Hid (S0.t = 0) := by rw [HS0.out]; rfl
        have HJ0 : Hid (FJ g bm gB W.heap.size W wr oe om 0 S0 bs) := ⟨HK.out.lim, HF0.out, HK.out.row, HK.out.ro, HK.out.bel, HK.out.ge⟩
        clear HF0 hbs HBL HBS HK HRF HI HS0
        obtain ⟨wA, hwA⟩ : ∃ x, x = wr := ⟨_, rfl⟩
        subst hwA
        go_wp2_with fail
        go_loopw [9, 10] (fun tv iv wr => ∃ (i : Nat) (tk : Int) (S : Li) (bs : List Bu), i ≤ n ∧ i ≤ 100 ∧ iv = .int .i64 (i : Int) ∧ tv = .int .i64 tk ∧ S.t = tk ∧ 0 ≤ tk ∧ tk ≤ (i : Int) * 255 ∧ FJ g bm gB W.heap.size W wr oe om i S bs) (fun _ iv _ => n - (intOf iv).toNat)
        case atStart => exact ⟨0, 0, S0, bs, Nat.zero_le _, Nat.zero_le _, rfl, rfl, HT0.out, Int.le_refl _, by decide, HJ0.out⟩
        case round =>
          clear HJ0 HT0
          obtain ⟨i, tk, S, bs, hin, hi100, hiv, htv, hst, ht0, ht1, hfj⟩ := hrel
          subst hiv htv
          have HJ := Lib.hid hfj
          clear hfj
          by_cases hlt : i < n
          · by_cases hlt2 : i < 100
            · obtain ⟨b, o, ⟨qm, ql, qr, qa⟩, rfl, hbl, hqi, hcc⟩ := ask_at HQ.out hlt
              dsimp only at hcc
              have hqt : ql.toNat < 256 := UInt8.toNat_lt _
              have hi256 : (i : Int) < 100 := by omega
              obtain ⟨tk2, htk2⟩ : ∃ x, tk + (ql.toNat : Int) = x := ⟨_, rfl⟩
              have x0 : wrap64 (ql.toNat : Int) = (ql.toNat : Int) := wrap64_in (by omega) (by omega)
              have x1 : wrap64 (tk + (ql.toNat : Int)) = tk2 := by rw [← htk2]; exact wrap64_in (by omega) (by omega)
              have HTK : Hid (0 ≤ tk2 ∧ tk2 ≤ ((i : Int) + 1) * 255) := by constructor <;> omega
              obtain ⟨k, hk⟩ : ∃ k : Nat, k = qm.toNat % 4 := ⟨_, rfl⟩
              have hk4 : k < 4 := by omega
              have hk5 : (k : Int) < 4 := by omega
              have hkq : Int.tmod (qm.toNat : Int) 4 = (k : Int) := by rw [Int.tmod_eq_emod_of_nonneg (by omega)]; omega
              have hkq2 : (qm.toNat : Int) % 4 = (k : Int) := by omega
              have hkl : k < bs.length := by rw [HJ.out.fs.len]; exact hk4
              obtain ⟨T, hT⟩ : ∃ T, T = (allow S (macL (kbn k)) tk2).1 := ⟨_, rfl⟩
              obtain ⟨X, hX⟩ : ∃ X, X = (allow S (macL (kbn k)) tk2).2 := ⟨_, rfl⟩
              have HN := HJ.out.fs.next hlt2 (u := tk2) (by omega) (by unfold top; omega) hkl hT hX
              have LA := fun w => lim_allow (S := S) g bm tk2 _ _ _ _ _ _ (macL (kbn k)) (macL_is (kbn k)) w
              have MA := fun w => mac_any (kbn k) w
              rw [← hT, ← hX] at LA
              rw [kbn_toNat hk4] at LA MA
              have HLA := Lib.hid LA
              have HMA := Lib.hid MA
              obtain ⟨⟨bk, bt⟩, hb0⟩ : ∃ b, b = bs[k] := ⟨_, rfl⟩
              have HRC : Hid (∀ x : World, x.heap[gB]? = some (.cells (flatB bs).toArray 59 (0, 0)) → x.cell? ⟨gB, k * 2, none⟩ = some (.int .i64 bk) ∧ x.cell? ⟨gB, k * 2 + 1, none⟩ = some (.int .i64 bt)) := fun x h => by
                have h2 := row_cells h hkl
                rw [← hb0] at h2
                exact h2
              have RT := fun w => rtake_any oe om bk bt tk2 w
              rw [← hb0] at HN
              obtain ⟨⟨⟨nk, nt⟩, Y⟩, hp⟩ : ∃ p, p = takB ⟨oe, om⟩ ⟨bk, bt⟩ tk2 := ⟨_, rfl⟩
              rw [← hp] at HN RT
              dsimp only at HN RT
              obtain ⟨HN1, rfl, HN2⟩ := HN
              have HNT := Lib.hid HN1
              have HNF := Lib.hid HN2
              have HRT := Lib.hid RT
              obtain ⟨c0', c1, c2, c3⟩ := hcc wr HJ.out.bel
              clear hcc hbl hqi ht0 ht1 hqt htk2 LA MA hT hX hk hst hb0 RT hp HN1 HN2
              go_upto_region 17 with fail
              clear c0' c1 c2 c3 hkq hkq2
              rw [x1]
              clear x0 x1
              obtain ⟨w5, hw5⟩ : ∃ x, x = wr := ⟨_, rfl⟩
              subst hw5
              go_cut [12, 13] (fun s12 s13 wx => ∃ g12, s12 = .pointer (some ⟨g12, 0, none⟩) ∧ s13 = .bool X ∧ Hid (wx.heap[g12]? = some (.cells #[.int .i64 nk, .int .i64 nt] 25 (0, 0))) ∧ Hid (Gr w5 wx) ∧ Hid (w5.heap.size ≤ g12))
              case first =>
                have HC : Hid (Gr w5 w5.drew) := Gr.drew w5
                refine wp_region_G 12 (Below (w5.heap.size)) (by kernel_rfl) ?_
                generalize w5.drew = wc at HC ⊢
                -- 0: slot 67
                refine wpG_take (preBelow (w5.heap.size)) (i := 0) (v := ?_) (by kernel_rfl) (some 67) (by kernel_rfl) rfl (by kernel_rfl) (by kernel_rfl) (by kernel_rfl) (fun _ _ _ h => h) (by rfl) (fun w' hw' => ?_) rfl ?_
                rotate_left
                · try (have hxx := HJ.out.gr (Below.trans HC.out hw'); have hqr := HRC.out _ hxx.row; obtain ⟨m0, m1⟩ := hqr; have hq2 := cells2 hxx.ro; obtain ⟨n0, n1⟩ := hq2; clear hxx)
                  go_simp
                  with_reducible rfl
                simp only [Act.put, List.setIfInBounds_toArray, List.set_cons_zero, List.set_cons_succ]
                -- 1: slot 68
                refine wpG_take (preBelow (w5.heap.size)) (i := 1) (v := ?_) (by kernel_rfl) (some 68) (by kernel_rfl) rfl (by kernel_rfl) (by kernel_rfl) (by kernel_rfl) (fun _ _ _ h => h) (by rfl) (fun w' hw' => ?_) rfl ?_
                rotate_left
                · try (have hxx := HJ.out.gr (Below.trans HC.out hw'); have hqr := HRC.out _ hxx.row; obtain ⟨m0, m1⟩ := hqr; have hq2 := cells2 hxx.ro; obtain ⟨n0, n1⟩ := hq2; clear hxx)
                  go_simp
                  with_reducible rfl
                simp only [Act.put, List.setIfInBounds_toArray, List.set_cons_zero, List.set_cons_succ]
                -- 2: slot 69
                refine wpG_take (preBelow (w5.heap.size)) (i := 2) (v := ?_) (by kernel_rfl) (some 69) (by kernel_rfl) rfl (by kernel_rfl) (by kernel_rfl) (by kernel_rfl) (fun _ _ _ h => h) (by rfl) (fun w' hw' => ?_) rfl ?_
                rotate_left
                · try (have hxx := HJ.out.gr (Below.trans HC.out hw'); have hqr := HRC.out _ hxx.row; obtain ⟨m0, m1⟩ := hqr; have hq2 := cells2 hxx.ro; obtain ⟨n0, n1⟩ := hq2; clear hxx)
                  go_simp
                  with_reducible rfl
                simp only [Act.put, List.setIfInBounds_toArray, List.set_cons_zero, List.set_cons_succ]
                -- 3: slot 70
                refine wpG_take (preBelow (w5.heap.size)) (i := 3) (v := ?_) (by kernel_rfl) (some 70) (by kernel_rfl) rfl (by kernel_rfl) (by kernel_rfl) (by kernel_rfl) (fun _ _ _ h => h) (by rfl) (fun w' hw' => ?_) rfl ?_
                rotate_left
                · try (have hxx := HJ.out.gr (Below.trans HC.out hw'); have hqr := HRC.out _ hxx.row; obtain ⟨m0, m1⟩ := hqr; have hq2 := cells2 hxx.ro; obtain ⟨n0, n1⟩ := hq2; clear hxx)
                  go_simp
                  with_reducible rfl
                simp only [Act.put, List.setIfInBounds_toArray, List.set_cons_zero, List.set_cons_succ]
                -- 4: slot 71
                refine wpG_take (preBelow (w5.heap.size)) (i := 4) (v := ?_) (by kernel_rfl) (some 71) (by kernel_rfl) rfl (by kernel_rfl) (by kernel_rfl) (by kernel_rfl) (fun _ _ _ h => h) (by rfl) (fun w' hw' => ?_) rfl ?_
                rotate_left
                · try (have hxx := HJ.out.gr (Below.trans HC.out hw'); have hqr := HRC.out _ hxx.row; obtain ⟨m0, m1⟩ := hqr; have hq2 := cells2 hxx.ro; obtain ⟨n0, n1⟩ := hq2; clear hxx)
                  go_simp
                  with_reducible rfl
                simp only [Act.put, List.setIfInBounds_toArray, List.set_cons_zero, List.set_cons_succ]
                refine wpG_two (i := 5) (j := 9) rfl rfl (by kernel_rfl) (by rfl) (by rfl) ?_ ?_
                · go_simp
                  refine (HRT.out wc).mono ?_
                  rintro e wn ⟨rfl, hb⟩
                  refine ⟨hb.mono (Below.size HC.out), ?_⟩
                  try (have HK' := Lib.hid (heap_below HK.out hb); clear HK; have HK := HK'; clear HK')
                  have HC' : Hid (Gr w5 wn) := Below.trans HC.out (Below.mono hb (Below.size HC.out))
                  clear HC hb
                  have HC := HC'
                  clear HC'
                  obtain ⟨wc, hwc⟩ : ∃ x, x = wn := ⟨_, rfl⟩
                  subst hwc
                  try simp only [Act.put, List.setIfInBounds_toArray, List.set_cons_zero, List.set_cons_succ]
                  -- 6: slot 66
                  refine wpG_take (preBelow (w5.heap.size)) (i := 6) (v := ?_) (by kernel_rfl) (some 66) (by kernel_rfl) rfl (by kernel_rfl) (by kernel_rfl) (by kernel_rfl) (fun _ _ _ h => h) (by rfl) (fun w' hw' => ?_) rfl ?_
                  rotate_left
                  · try (have hxx := HJ.out.gr (Below.trans HC.out hw'); have hqr := HRC.out _ hxx.row; obtain ⟨m0, m1⟩ := hqr; have hq2 := cells2 hxx.ro; obtain ⟨n0, n1⟩ := hq2; clear hxx)
                    go_simp
                    with_reducible rfl
                  simp only [Act.put, List.setIfInBounds_toArray, List.set_cons_zero, List.set_cons_succ]
                  -- 7: slot 73
                  refine wpG_take (preBelow (w5.heap.size)) (i := 7) (v := ?_) (by kernel_rfl) (some 73) (by kernel_rfl) rfl (by kernel_rfl) (by kernel_rfl) (by kernel_rfl) (fun _ _ _ h => h) (by rfl) (fun w' hw' => ?_) rfl ?_
                  rotate_left
                  · try (have hxx := HJ.out.gr (Below.trans HC.out hw'); have hqr := HRC.out _ hxx.row; obtain ⟨m0, m1⟩ := hqr; have hq2 := cells2 hxx.ro; obtain ⟨n0, n1⟩ := hq2; clear hxx)
                    go_simp
                    with_reducible rfl
                  simp only [Act.put, List.setIfInBounds_toArray, List.set_cons_zero, List.set_cons_succ]
                  -- 8: slot 74
                  refine wpG_take (preBelow (w5.heap.size)) (i := 8) (v := ?_) (by kernel_rfl) (some 74) (by kernel_rfl) rfl (by kernel_rfl) (by kernel_rfl) (by kernel_rfl) (fun _ _ _ h => h) (by rfl) (fun w' hw' => ?_) rfl ?_
                  rotate_left
                  · try (have hxx := HJ.out.gr (Below.trans HC.out hw'); have hqr := HRC.out _ hxx.row; obtain ⟨m0, m1⟩ := hqr; have hq2 := cells2 hxx.ro; obtain ⟨n0, n1⟩ := hq2; clear hxx)
                    go_simp
                    with_reducible rfl
                  simp only [Act.put, List.setIfInBounds_toArray, List.set_cons_zero, List.set_cons_succ]
                  refine wpG_one (i := 9) rfl (by kernel_rfl) (by rfl) ?_
                  go_simp
                  have hb : Below wc.heap.size wc (wc.alloc (.cells #[.int .i64 0, .int .i64 0] 25)) := (Below.refl _ _).alloc (Nat.le_refl _) _
                  refine ⟨hb.mono (Below.size HC.out), ?_⟩
                  have hk : (wc.alloc (.cells #[.int .i64 0, .int .i64 0] 25)).heap[wc.heap.size]? = some (.cells #[.int .i64 0, .int .i64 0] 25 (0, 0)) := heap_alloc_last _ _
                  have hgb : w5.heap.size ≤ wc.heap.size := Below.size HC.out
                  generalize wc.alloc (.cells #[.int .i64 0, .int .i64 0] 25) = wn at *
                  have HC' : Hid (Gr w5 wn) := Below.trans HC.out (Below.mono hb (Below.size HC.out))
                  clear HC
                  have HC := HC'
                  clear HC'
                  obtain ⟨gk, hgk⟩ : ∃ g, g = wc.heap.size := ⟨_, rfl⟩
                  rw [← hgk] at hk hgb ⊢
                  have HK := Lib.hid hk
                  have HGB := Lib.hid hgb
                  clear hgk hb hk hgb
                  obtain ⟨wc, hwc⟩ : ∃ x, x = wn := ⟨_, rfl⟩
                  subst hwc
                  try simp only [Act.put, List.setIfInBounds_toArray, List.set_cons_zero, List.set_cons_succ]
                  refine wpG_one (i := 10) rfl (by kernel_rfl) (by rfl) ?_
                  refine wp_store_whole (none) 25 (.tmp 12) (.tmp 73) rfl gk [.int .i64 nk, .int .i64 nt] rfl rfl 25 [.int .i64 0, .int .i64 0] HK.out (by kernel_rfl) rfl ?o1 rfl ?_
                  case o1 => intro u hu; simp only [List.mem_cons, List.not_mem_nil, or_false] at hu; rcases hu with rfl | rfl <;> rfl
                  intro wn h5 ho
                  refine ⟨ho.below _ _ HGB.out (Below.refl _ _), ?_⟩
                  have HE5 : Hid (wn.heap[gk]? = some (.cells #[.int .i64 nk, .int .i64 nt] 25 (0, 0))) := h5
                  have HE6 : Hid (Gr w5 wn) := ho.below _ _ HGB.out HC.out
                  clear h5 ho
                  try simp only [Act.put, List.setIfInBounds_toArray, List.set_cons_zero, List.set_cons_succ]
                  -- 11: slot 13
                  refine wpG_take (preBelow (w5.heap.size)) (i := 11) (v := ?_) (by kernel_rfl) (some 13) (by kernel_rfl) rfl (by kernel_rfl) (by kernel_rfl) (by kernel_rfl) (fun _ _ _ h => h) (by rfl) (fun w' hw' => ?_) rfl ?_
                  rotate_left
                  · try (have hxx := HJ.out.gr (Below.trans HC.out hw'); have hqr := HRC.out _ hxx.row; obtain ⟨m0, m1⟩ := hqr; have hq2 := cells2 hxx.ro; obtain ⟨n0, n1⟩ := hq2; clear hxx)
                    go_simp
                    with_reducible rfl
                  simp only [Act.put, List.setIfInBounds_toArray, List.set_cons_zero, List.set_cons_succ]
                  refine wpG_done (by kernel_rfl) ?_ _
                  go_wp2_with fail
                  go_meet
                  exact ⟨gk, rfl, rfl, HE5, HE6, HGB⟩
                · go_simp
                  have hb : Below wc.heap.size wc (wc.alloc (.cells #[.int .i64 0, .int .i64 0] 25)) := (Below.refl _ _).alloc (Nat.le_refl _) _
                  refine ⟨hb.mono (Below.size HC.out), ?_⟩
                  have hk : (wc.alloc (.cells #[.int .i64 0, .int .i64 0] 25)).heap[wc.heap.size]? = some (.cells #[.int .i64 0, .int .i64 0] 25 (0, 0)) := heap_alloc_last _ _
                  have hgb : w5.heap.size ≤ wc.heap.size := Below.size HC.out
                  generalize wc.alloc (.cells #[.int .i64 0, .int .i64 0] 25) = wn at *
                  have HC' : Hid (Gr w5 wn) := Below.trans HC.out (Below.mono hb (Below.size HC.out))
                  clear HC
                  have HC := HC'
                  clear HC'
                  obtain ⟨gk, hgk⟩ : ∃ g, g = wc.heap.size := ⟨_, rfl⟩
                  rw [← hgk] at hk hgb ⊢
                  have HK := Lib.hid hk
                  have HGB := Lib.hid hgb
                  clear hgk hb hk hgb
                  obtain ⟨wc, hwc⟩ : ∃ x, x = wn := ⟨_, rfl⟩
                  subst hwc
                  try simp only [Act.put, List.setIfInBounds_toArray, List.set_cons_zero, List.set_cons_succ]
                  refine wpG_one (i := 5) rfl (by kernel_rfl) (by rfl) ?_
                  go_simp
                  refine (HRT.out wc).mono ?_
                  rintro e wn ⟨rfl, hb⟩
                  refine ⟨hb.mono (Below.size HC.out), ?_⟩
                  try (have HK' := Lib.hid (heap_below HK.out hb); clear HK; have HK := HK'; clear HK')
                  have HC' : Hid (Gr w5 wn) := Below.trans HC.out (Below.mono hb (Below.size HC.out))
                  clear HC hb
                  have HC := HC'
                  clear HC'
                  obtain ⟨wc, hwc⟩ : ∃ x, x = wn := ⟨_, rfl⟩
                  subst hwc
                  try simp only [Act.put, List.setIfInBounds_toArray, List.set_cons_zero, List.set_cons_succ]
                  -- 6: slot 66
                  refine wpG_take (preBelow (w5.heap.size)) (i := 6) (v := ?_) (by kernel_rfl) (some 66) (by kernel_rfl) rfl (by kernel_rfl) (by kernel_rfl) (by kernel_rfl) (fun _ _ _ h => h) (by rfl) (fun w' hw' => ?_) rfl ?_
                  rotate_left
                  · try (have hxx := HJ.out.gr (Below.trans HC.out hw'); have hqr := HRC.out _ hxx.row; obtain ⟨m0, m1⟩ := hqr; have hq2 := cells2 hxx.ro; obtain ⟨n0, n1⟩ := hq2; clear hxx)
                    go_simp
                    with_reducible rfl
                  simp only [Act.put, List.setIfInBounds_toArray, List.set_cons_zero, List.set_cons_succ]
                  -- 7: slot 73
                  refine wpG_take (preBelow (w5.heap.size)) (i := 7) (v := ?_) (by kernel_rfl) (some 73) (by kernel_rfl) rfl (by kernel_rfl) (by kernel_rfl) (by kernel_rfl) (fun _ _ _ h => h) (by rfl) (fun w' hw' => ?_) rfl ?_
                  rotate_left
                  · try (have hxx := HJ.out.gr (Below.trans HC.out hw'); have hqr := HRC.out _ hxx.row; obtain ⟨m0, m1⟩ := hqr; have hq2 := cells2 hxx.ro; obtain ⟨n0, n1⟩ := hq2; clear hxx)
                    go_simp
                    with_reducible rfl
                  simp only [Act.put, List.setIfInBounds_toArray, List.set_cons_zero, List.set_cons_succ]
                  -- 8: slot 74
                  refine wpG_take (preBelow (w5.heap.size)) (i := 8) (v := ?_) (by kernel_rfl) (some 74) (by kernel_rfl) rfl (by kernel_rfl) (by kernel_rfl) (by kernel_rfl) (fun _ _ _ h => h) (by rfl) (fun w' hw' => ?_) rfl ?_
                  rotate_left
                  · try (have hxx := HJ.out.gr (Below.trans HC.out hw'); have hqr := HRC.out _ hxx.row; obtain ⟨m0, m1⟩ := hqr; have hq2 := cells2 hxx.ro; obtain ⟨n0, n1⟩ := hq2; clear hxx)
                    go_simp
                    with_reducible rfl
                  simp only [Act.put, List.setIfInBounds_toArray, List.set_cons_zero, List.set_cons_succ]
                  refine wpG_one (i := 10) rfl (by kernel_rfl) (by rfl) ?_
                  refine wp_store_whole (none) 25 (.tmp 12) (.tmp 73) rfl gk [.int .i64 nk, .int .i64 nt] rfl rfl 25 [.int .i64 0, .int .i64 0] HK.out (by kernel_rfl) rfl ?o1 rfl ?_
                  case o1 => intro u hu; simp only [List.mem_cons, List.not_mem_nil, or_false] at hu; rcases hu with rfl | rfl <;> rfl
                  intro wn h5 ho
                  refine ⟨ho.below _ _ HGB.out (Below.refl _ _), ?_⟩
                  have HE5 : Hid (wn.heap[gk]? = some (.cells #[.int .i64 nk, .int .i64 nt] 25 (0, 0))) := h5
                  have HE6 : Hid (Gr w5 wn) := ho.below _ _ HGB.out HC.out
                  clear h5 ho
                  try simp only [Act.put, List.setIfInBounds_toArray, List.set_cons_zero, List.set_cons_succ]
                  -- 11: slot 13
                  refine wpG_take (preBelow (w5.heap.size)) (i := 11) (v := ?_) (by kernel_rfl) (some 13) (by kernel_rfl) rfl (by kernel_rfl) (by kernel_rfl) (by kernel_rfl) (fun _ _ _ h => h) (by rfl) (fun w' hw' => ?_) rfl ?_
                  rotate_left
                  · try (have hxx := HJ.out.gr (Below.trans HC.out hw'); have hqr := HRC.out _ hxx.row; obtain ⟨m0, m1⟩ := hqr; have hq2 := cells2 hxx.ro; obtain ⟨n0, n1⟩ := hq2; clear hxx)
                    go_simp
                    with_reducible rfl
                  simp only [Act.put, List.setIfInBounds_toArray, List.set_cons_zero, List.set_cons_succ]
                  refine wpG_done (by kernel_rfl) ?_ _
                  go_wp2_with fail
                  go_meet
                  exact ⟨gk, rfl, rfl, HE5, HE6, HGB⟩
              case rest =>
                obtain ⟨g12, hs12, hs13, h12, hgr, hg12⟩ := hcut
                subst hs12 hs13
                obtain ⟨w8, hw8⟩ : ∃ x, x = wc := ⟨_, rfl⟩
                subst hw8
                have HJ8 := Lib.hid (HJ.out.gr hgr.out)
                obtain ⟨k0, k1⟩ := cells2 h12.out
                have HI : Hid ((Try.prog.info? 25).map (·.size) = some ([.int .i64 nk, .int .i64 nt] : List Value).length) := by
                  show _ = _
                  kernel_rfl
                have HROW := Lib.hid HJ8.out.row
                have HFIT : Hid (k * 2 + ([.int .i64 nk, .int .i64 nt] : List Value).length ≤ (flatB bs).length) := by
                  show _ ≤ _
                  rw [flatB_len]
                  simp
                  omega
                have HONE : Hid (∀ v ∈ ([.int .i64 nk, .int .i64 nt] : List Value), v.oneCell' = true) := by
                  intro v hv
                  simp only [List.mem_cons, List.not_mem_nil, or_false] at hv
                  rcases hv with rfl | rfl <;> rfl
                clear h12 hgr hg12 HJ HRC HRT
                go_upto_region 19 with (with_reducible refine wpList_store_splice rfl 25 (.tmp 77) (.tmp 76) rfl gB _ [.int .i64 nk, .int .i64 nt] rfl rfl 59 _ HROW.out HI.out HFIT.out HONE.out ?_)
                intro w9 h9 ho9
                have e9 : splice (flatB bs) (k * 2) [.int .i64 nk, .int .i64 nt] = flatB (bs.set k ⟨nk, nt⟩) := flatB_set bs k hkl ⟨nk, nt⟩
                rw [e9] at h9
                have HK9 := Lib.hid (FK.set HJ8.out.lim HJ8.out.row HJ8.out.ro HJ8.out.bel HJ8.out.ge h9 ho9)
                clear h9 ho9 e9 HROW HFIT HONE HJ8 HI k0 k1
                have hyy : (X != X) = false := by simp
                go_wp2_with fail
                refine (HMA.out _).mono ?_
                rintro e w10 ⟨rfl, hb⟩
                have HK10 := Lib.hid (HK9.out.gr hb)
                clear hb HMA HK9
                go_wp2_with fail
                refine (HLA.out _ HK10.out.lim).mono ?_
                rintro e w11 ⟨rfl, hl, ht⟩
                have HJ11 := Lib.hid (HK10.out.tu hl ht HNF.out)
                clear hl ht HLA HK10 HNF
                go_wp2_with fail
                go_roundw
                case rel =>
                  first
                    | exact ⟨i + 1, tk2, T, bs.set k ⟨nk, nt⟩, by omega, by omega, by go_num, rfl, HNT.out, HTK.out.1, by have := HTK.out.2; omega, HJ11.out⟩
                    | ((repeat apply Exists.intro); exact ⟨⟨i + 1, tk2, T, bs.set k ⟨nk, nt⟩, by omega, by omega, by go_num, rfl, HNT.out, HTK.out.1, by have := HTK.out.2; omega, HJ11.out⟩, rfl⟩)
                case measure => simp [intOf]; omega
            · go_wp2
              go_ret
              exact ⟨rfl, HJ.out.bel⟩
          · go_wp2
            go_ret
            exact ⟨rfl, HJ.out.bel⟩
  · rw [show ckE ⟨oe, om⟩ = 100 from if_neg hok] at RC
    have HRC := Lib.hid RC
    clear hok RC
    go_enter Try.func9, Try.ntmps9
    go_wp2_with fail
    generalize (W.alloc (.cells #[.int .i64 oe, .int .i64 om] 23)) = w1 at HB HG0 ⊢
    refine (HRC.out w1).mono ?_
    rintro e w2 ⟨rfl, hb⟩
    have HB2 := Lib.hid (HB.out.trans (hb.mono HB.out.size))
    clear hb
    go_wp2_with fail
    refine (HA.out _).mono ?_
    rintro e w3 ⟨rfl, hb⟩
    have HB3 := Lib.hid (HB2.out.trans (hb.mono HB2.out.size))
    clear hb
    go_wp2
    go_ret
    exact ⟨rfl, HB3.out⟩

theorem own : ownKnob Try.prog.godebug = none := by kernel_rfl
theorem laidOut : laidOutB Try.prog = true := by kernel_rfl
set_option maxRecDepth 100000 in
theorem lifted (os : Os) (started : os.Started) (H : Type) (enc : TypeId × Value → H) :
    ReturnsInHanded {} Try.checked os 9 .any (Rows.bucketLimiterFairSpec.pre6 enc Try.prog Try.f9 Rows.bucketLimiterFairRow.domain false) (Rows.bucketLimiterFairSpec.post enc Try.prog Try.f9 false true false false) := by
  refine returnsInHanded_of_change (C := Try.checked) own started (by kernel_rfl) Try.func9
    (ChangeSpec.witness6 (enc := enc) (C := Try.checked) false ⟨#[], #[.agg #[.int .i64 0, .int .i64 0], .slice none 0 0], []⟩ 8 (by kernel_rfl) (by kernel_rfl) (by kernel_rfl) (by kernel_rfl)) ?_
  intro W base args ds gs before hval0 hW hcnd _
  have hval : ∀ (j : Nat) t v, Try.f9.params[j]? = some t → args[j]? = some v → Value.okWide Try.prog W .any base t v := hval0
  have hW' := hW
  obtain ⟨p, q, hA0, hV, rfl, hfz, hnd⟩ := hW
  have hA : DataW.TrodAll enc Try.prog W 0 (fun _ => true) true Try.f9.params.toList args.toList ds p := hA0
  rw [Try.params9] at hA hval
  obtain ⟨v0, vs0, d0, ds0, p0, q0, hargs, rfl, rfl, h0, r0⟩ := trodAll_cons hA
  obtain ⟨v1, vs1, d1, ds1, p1, q1, rfl, rfl, rfl, h1, r1⟩ := trodAll_cons r0
  obtain ⟨rfl, rfl, rfl⟩ := trodAll_nil r1
  obtain rfl : args = #[v0, v1] := by cases args; simp_all
  obtain ⟨rfl, rfl⟩ := trodVars_none hV
  have k0 := h0
  have lt0 : ∀ x ∈ p0, x.block < W.heap.size := by obtain ⟨m, hm⟩ := k0; exact DataW.trod_lt m _ _ _ hm
  obtain ⟨x0, y0, rfl, wx0, wy0⟩ := open_two Try.underlying23 ⟨rfl, rfl⟩ Try.underlying3 Try.underlying3 ⟨by kernel_rfl, by kernel_rfl, by kernel_rfl⟩ (hval 0 23 v0 rfl rfl) h0
  have k1 := h1
  have lt1 : ∀ x ∈ p1, x.block < W.heap.size := by obtain ⟨m, hm⟩ := k1; exact DataW.trod_lt m _ _ _ hm
  obtain ⟨a1, n1, c1, qs1, rfl, b1⟩ := open_asks Try.underlying36 Try.underlying46 ⟨rfl, rfl, rfl, rfl⟩ Try.underlying5 Try.underlying5 Try.underlying4 Try.underlying3 ⟨by kernel_rfl, by kernel_rfl, by kernel_rfl, by kernel_rfl, by kernel_rfl⟩ (hval 1 36 v1 rfl rfl) h1
  clear hA0 hval0
  refine (walk W x0 y0 wx0 wy0 a1 n1 c1 qs1 b1).mono fun e W' ⟨he, bel⟩ => ?_
  subst he
  exact ⟨_, rfl, _, _, _, [], _, [], hW', trodAll_mk1 (shut_bool Try.underlying4 _), (trodAll_cons_mk (Below.trod laidOut (by kernel_rfl) (of_decide_eq_true (by kernel_rfl)) k0 bel lt0) (trodAll_cons_mk (Below.trod laidOut (by kernel_rfl) (of_decide_eq_true (by kernel_rfl)) k1 bel lt1) trodAll_mk0)), rfl, bel.frame _, fun h => by cases h⟩
theorem over : Rows.bucketLimiterFairRow.holds Try.pinned (OpenSpec.ofChange Rows.bucketLimiterFairSpec) :=
  OpenClaim.holds_of_wide 9 Try.f9 rfl rfl rfl rfl rfl rfl rfl ⟨rfl, rfl, rfl, rfl, rfl⟩ rfl rfl rfl rfl rfl (by kernel_rfl) Try.func9 (by kernel_rfl)
    (of_decide_eq_true (by kernel_rfl)) (by unfold Func.isWrapper; first | (rw [if_pos (by decide +kernel)]; kernel_rfl) | (rw [if_neg (by decide +kernel)]; exact ⟨rfl, rfl⟩))
    (fun os started H enc _ => lifted os started H enc)
/-- The statement. -/
theorem proved : Rows.BucketLimiterFairSaid := over
end Go.Proofs.Ytblnglkjpnpmbaa.bucketLimiterFair
