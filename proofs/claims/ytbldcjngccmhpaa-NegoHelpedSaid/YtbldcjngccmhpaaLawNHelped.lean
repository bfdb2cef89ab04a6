/-
  For every rules that may be, every options of different types (rules and options not more than 20, each option with the first 20 bytes of its data) and every byte: who takes over what nego.Answer tells, as long as not too many answers were ConfNak, is answered by ConfAck behind at most two more questions (conciergelaw15.NegoHelped answers true). No conditions.
-/
import Derived.Test.YtbldcjngccmhpaaNgYb
import Derived.Test.YtbldcjngccmhpaaNgV
import Derived.Test.YtbldcjngccmhpaaNgW
import Derived.Test.YtbldcjngccmhpaaOpenN
import Derived.ProofKit
import Derived.OpenShut
import Derived.ChangeOld
namespace Go.Proofs.Ytbldcjngccmhpaa.negoHelped
open Go.ChangeShapes Go.WideShapes Go.ChangeAt Go.RowKit O Ng
set_option linter.unusedVariables false
set_option linter.unusedSimpArgs false
theorem infoI : (Try.prog.info? 3).map (fun i => (i.zero, i.size, i.bytes)) = some (some (.int .i64 0), 1, 8) := by kernel_rfl
/-- The types of options. -/
def tyC (l : List Ng.PT) : List Value := l.map fun o => .int .i64 o.1

set_option maxRecDepth 20000 in
set_option maxHeartbeats 8000000 in
theorem walk (W : World) (a0 : Option Addr) (n0 c0 : Nat) (rs0 : List Ru) (b0 : RR W (.slice a0 n0 c0) n0 rs0) (a1 : Option Addr) (n1 c1 : Nat) (ts1 : List Tg) (b1 : TR W (.slice a1 n1 c1) n1 ts1) (i1 : ∀ x ∈ ts1, I64 x.typ) (q0 : Int) (wq : (Lit.int .u8 q0).wf = true) :
    Calls Try.prog 6 #[.slice a0 n0 c0, .slice a1 n1 c1, .int .u8 q0] W fun e w' => e = .returned (.bool true) ∧ Below W.heap.size W w' := by
  obtain ⟨z, rfl⟩ := u8_of_wf wq
  obtain ⟨N, hN⟩ : ∃ N, N = z.toNat := ⟨_, rfl⟩
  have hN8 : N < 256 := by rw [hN]; exact UInt8.toNat_lt z
  rw [← hN]
  obtain ⟨i0, hi, hz0, hz1, hz2⟩ := info_parts infoI
  have AW := Lib.hid awake_any
  obtain ⟨m, rs, hm18, hrr, hrules⟩ := rules_in b0
  have HRU := Lib.hid hrules
  have HRR := Lib.hid hrr
  have OP := Lib.hid (opts_any a1 n1 c1 ts1 W b1 i1)
  clear b0 b1 i1 wq hrr hrules hN
  go_enter Try.func6, Try.ntmps6
  go_wp2_with fail
  refine (HRU.out W).mono ?_
  rintro e w1 ⟨rfl, rfl⟩
  go_wp2_with fail
  refine OP.out.mono ?_
  rintro e w2 ⟨a4, n, c4, ts, rfl, htr, hn20, hlen, hti, hb2⟩
  have HB2 := Lib.hid hb2
  have HT2 := Lib.hid htr
  have HR2 := Lib.hid (HRR.out.below hb2)
  have HSM : Hid (Small (plain ts)) := row_small (fun x hx => Nat.le_trans (hlen x hx) (by decide)) hti
  have AR := Lib.hid (are_any a0 m c0 rs w2 HR2.out)
  have htl := htr.len
  clear hb2 htr hlen hti OP HRU HRR
  by_cases ha : areR rs
  · rw [decide_eq_true ha] at AR
    have HA := Lib.hid ha
    clear ha
    by_cases h20 : n + m ≤ 20
    · have h20i : ¬ (20 : Int) < (n : Int) + (m : Int) := by omega
      go_wp2_with fail
      refine AR.out.mono ?_
      rintro e w3 ⟨rfl, hb3⟩
      have HB3 := Lib.hid (HB2.out.trans (hb3.mono HB2.out.size))
      have HT3 := Lib.hid (HT2.out.below hb3)
      have HR3 := Lib.hid (HR2.out.below hb3)
      clear hb3 AR HT2 HR2 HB2
      go_wp2
      go_loopw [7, 8] (fun sv iv wr => ∃ (i : Nat) (lv : Value), i ≤ n ∧ iv = .int .i64 (i : Int) ∧ lv = sv ∧ wr.ownsRow w3.heap.size 3 1 lv i (tyC ((plain ts).take i)) ∧ (((plain ts).take i).map (·.1)).Nodup ∧ Below w3.heap.size w3 wr) (fun _ iv _ => n - (intOf iv).toNat)
      case atStart => exact ⟨0, _, Nat.zero_le _, rfl, rfl, World.ownsRow_nil _ _ _ _, by rw [List.take_zero]; exact List.nodup_nil, Below.refl _ _⟩
      case round =>
        obtain ⟨i, lv, hin, rfl, rfl, hown, hnd, hb⟩ := hrel
        have HOW := Lib.hid hown
        have HND := Lib.hid hnd
        have HB := Lib.hid hb
        clear hown hnd hb
        by_cases hlt : i < n
        · obtain ⟨b, o, rfl, hbl, hc⟩ := HT3.out.cells (by omega)
          have hc0 := (hc i (by omega)).1
          obtain ⟨T, hT⟩ : ∃ T, T = ts[i].typ := ⟨_, rfl⟩
          rw [← hT] at hc0
          have HC0 := Lib.hid hc0
          have HTK : Hid ((plain ts).take (i + 1) = (plain ts).take i ++ [(T, ts[i].l)]) := by
            show _ = _
            rw [List.take_succ_eq_append_getElem (by rw [plain_length]; omega), plain_get _ _ (by omega), hT]
          have HLI : Hid (((plain ts).take i).length = i) := by show _ = _; rw [List.length_take, plain_length]; omega
          obtain ⟨ax, cs, ev, hsc, hsm⟩ := (own_rd HOW.out).shape
          subst ev
          unfold maxLen at hsm
          have hin2 : (i : Int) < (n : Int) := by omega
          obtain ⟨wA, hwA⟩ : ∃ x, x = wr := ⟨_, rfl⟩
          subst hwA
          clear hc hc0 hT
          go_wp2
          go_loopw [9] (fun kv wr => ∃ k : Nat, k ≤ i ∧ kv = .int .i64 (k : Int) ∧ (∀ j (hj : j < k) (h2 : j < ((plain ts).take i).length), ((plain ts).take i)[j].1 ≠ T) ∧ Gr wA wr) (fun kv _ => i - (intOf kv).toNat)
          case atStart => exact ⟨0, Nat.zero_le _, rfl, fun j hj => by omega, Gr.refl _⟩
          case round =>
            obtain ⟨k, hk, rfl, hne, hgr⟩ := hrel
            have HNE := Lib.hid hne
            have HGR := Lib.hid hgr
            have HBW : Hid (Below w3.heap.size w3 wr) := HB.out.trans (Below.mono hgr HB.out.size)
            clear hne hgr
            by_cases hlt2 : k < i
            · obtain ⟨b2, o2, rfl, hbl2, hd⟩ := Rd.cells (own_rd HOW.out) (by omega) (by decide)
              have hkl : k < ((plain ts).take i).length := by rw [HLI.out]; exact hlt2
              obtain ⟨U, hU⟩ : ∃ U, U = (((plain ts).take i)[k]'hkl).1 := ⟨_, rfl⟩
              have hd0 := hd k (.int .i64 U) (by unfold tyC; rw [List.getElem?_map, List.getElem?_eq_getElem hkl, hU]; rfl)
              have HD0 := Lib.hid hd0
              have HU := Lib.hid hU
              have hki : (k : Int) < (i : Int) := by omega
              clear hd hd0 hU
              by_cases ht : U = T
              · have hte : (U == T) = true := by simpa using ht
                clear ht
                go_upto_region 11 with fail
                refine wp_region_G 10 Gr (by kernel_rfl) ?_
                -- 0: slot 44
                refine wpG_take preGr (i := 0) (v := ?_) (by kernel_rfl) (some 44) (by kernel_rfl) rfl (by kernel_rfl) (by kernel_rfl) (by kernel_rfl) (fun _ _ _ h => h) (by rfl) (fun w' hw' => ?_) rfl ?_
                rotate_left
                · try have g0 := cellB' (HBW.out.drew.trans (hw'.mono HBW.out.size)) hbl HC0.out
                  try have g1 := cellB' (Below.trans (HGR.out.trans (Gr.drew wr)) (Below.mono hw' HGR.out.size)) hbl2 HD0.out
                  go_simp
                  with_reducible rfl
                simp only [Act.put, List.setIfInBounds_toArray, List.set_cons_zero, List.set_cons_succ]
                -- 1: slot 45
                refine wpG_take preGr (i := 1) (v := ?_) (by kernel_rfl) (some 45) (by kernel_rfl) rfl (by kernel_rfl) (by kernel_rfl) (by kernel_rfl) (fun _ _ _ h => h) (by rfl) (fun w' hw' => ?_) rfl ?_
                rotate_left
                · try have g0 := cellB' (HBW.out.drew.trans (hw'.mono HBW.out.size)) hbl HC0.out
                  try have g1 := cellB' (Below.trans (HGR.out.trans (Gr.drew wr)) (Below.mono hw' HGR.out.size)) hbl2 HD0.out
                  go_simp
                  with_reducible rfl
                simp only [Act.put, List.setIfInBounds_toArray, List.set_cons_zero, List.set_cons_succ]
                -- 2: slot 46
                refine wpG_take preGr (i := 2) (v := ?_) (by kernel_rfl) (some 46) (by kernel_rfl) rfl (by kernel_rfl) (by kernel_rfl) (by kernel_rfl) (fun _ _ _ h => h) (by rfl) (fun w' hw' => ?_) rfl ?_
                rotate_left
                · try have g0 := cellB' (HBW.out.drew.trans (hw'.mono HBW.out.size)) hbl HC0.out
                  try have g1 := cellB' (Below.trans (HGR.out.trans (Gr.drew wr)) (Below.mono hw' HGR.out.size)) hbl2 HD0.out
                  go_simp
                  with_reducible rfl
                simp only [Act.put, List.setIfInBounds_toArray, List.set_cons_zero, List.set_cons_succ]
                -- 3: slot 47
                refine wpG_take preGr (i := 3) (v := ?_) (by kernel_rfl) (some 47) (by kernel_rfl) rfl (by kernel_rfl) (by kernel_rfl) (by kernel_rfl) (fun _ _ _ h => h) (by rfl) (fun w' hw' => ?_) rfl ?_
                rotate_left
                · try have g0 := cellB' (HBW.out.drew.trans (hw'.mono HBW.out.size)) hbl HC0.out
                  try have g1 := cellB' (Below.trans (HGR.out.trans (Gr.drew wr)) (Below.mono hw' HGR.out.size)) hbl2 HD0.out
                  go_simp
                  with_reducible rfl
                simp only [Act.put, List.setIfInBounds_toArray, List.set_cons_zero, List.set_cons_succ]
                -- 4: slot 48
                refine wpG_take preGr (i := 4) (v := ?_) (by kernel_rfl) (some 48) (by kernel_rfl) rfl (by kernel_rfl) (by kernel_rfl) (by kernel_rfl) (fun _ _ _ h => h) (by rfl) (fun w' hw' => ?_) rfl ?_
                rotate_left
                · try have g0 := cellB' (HBW.out.drew.trans (hw'.mono HBW.out.size)) hbl HC0.out
                  try have g1 := cellB' (Below.trans (HGR.out.trans (Gr.drew wr)) (Below.mono hw' HGR.out.size)) hbl2 HD0.out
                  go_simp
                  with_reducible rfl
                simp only [Act.put, List.setIfInBounds_toArray, List.set_cons_zero, List.set_cons_succ]
                -- 5: slot 49
                refine wpG_take preGr (i := 5) (v := ?_) (by kernel_rfl) (some 49) (by kernel_rfl) rfl (by kernel_rfl) (by kernel_rfl) (by kernel_rfl) (fun _ _ _ h => h) (by rfl) (fun w' hw' => ?_) rfl ?_
                rotate_left
                · try have g0 := cellB' (HBW.out.drew.trans (hw'.mono HBW.out.size)) hbl HC0.out
                  try have g1 := cellB' (Below.trans (HGR.out.trans (Gr.drew wr)) (Below.mono hw' HGR.out.size)) hbl2 HD0.out
                  go_simp
                  with_reducible rfl
                simp only [Act.put, List.setIfInBounds_toArray, List.set_cons_zero, List.set_cons_succ]
                -- 6: slot 50
                refine wpG_take preGr (i := 6) (v := ?_) (by kernel_rfl) (some 50) (by kernel_rfl) rfl (by kernel_rfl) (by kernel_rfl) (by kernel_rfl) (fun _ _ _ h => h) (by rfl) (fun w' hw' => ?_) rfl ?_
                rotate_left
                · try have g0 := cellB' (HBW.out.drew.trans (hw'.mono HBW.out.size)) hbl HC0.out
                  try have g1 := cellB' (Below.trans (HGR.out.trans (Gr.drew wr)) (Below.mono hw' HGR.out.size)) hbl2 HD0.out
                  go_simp
                  with_reducible rfl
                simp only [Act.put, List.setIfInBounds_toArray, List.set_cons_zero, List.set_cons_succ]
                -- 7: slot 51
                refine wpG_take preGr (i := 7) (v := ?_) (by kernel_rfl) (some 51) (by kernel_rfl) rfl (by kernel_rfl) (by kernel_rfl) (by kernel_rfl) (fun _ _ _ h => h) (by rfl) (fun w' hw' => ?_) rfl ?_
                rotate_left
                · try have g0 := cellB' (HBW.out.drew.trans (hw'.mono HBW.out.size)) hbl HC0.out
                  try have g1 := cellB' (Below.trans (HGR.out.trans (Gr.drew wr)) (Below.mono hw' HGR.out.size)) hbl2 HD0.out
                  go_simp
                  with_reducible rfl
                simp only [Act.put, List.setIfInBounds_toArray, List.set_cons_zero, List.set_cons_succ]
                -- 8: slot 52
                refine wpG_take preGr (i := 8) (v := ?_) (by kernel_rfl) (some 52) (by kernel_rfl) rfl (by kernel_rfl) (by kernel_rfl) (by kernel_rfl) (fun _ _ _ h => h) (by rfl) (fun w' hw' => ?_) rfl ?_
                rotate_left
                · try have g0 := cellB' (HBW.out.drew.trans (hw'.mono HBW.out.size)) hbl HC0.out
                  try have g1 := cellB' (Below.trans (HGR.out.trans (Gr.drew wr)) (Below.mono hw' HGR.out.size)) hbl2 HD0.out
                  go_simp
                  with_reducible rfl
                simp only [Act.put, List.setIfInBounds_toArray, List.set_cons_zero, List.set_cons_succ]
                -- 9: slot 53
                refine wpG_take preGr (i := 9) (v := ?_) (by kernel_rfl) (some 53) (by kernel_rfl) rfl (by kernel_rfl) (by kernel_rfl) (by kernel_rfl) (fun _ _ _ h => h) (by rfl) (fun w' hw' => ?_) rfl ?_
                rotate_left
                · try have g0 := cellB' (HBW.out.drew.trans (hw'.mono HBW.out.size)) hbl HC0.out
                  try have g1 := cellB' (Below.trans (HGR.out.trans (Gr.drew wr)) (Below.mono hw' HGR.out.size)) hbl2 HD0.out
                  go_simp
                  with_reducible rfl
                simp only [Act.put, List.setIfInBounds_toArray, List.set_cons_zero, List.set_cons_succ]
                refine wpG_done (by kernel_rfl) ?_ _
                go_wp2_with fail
                refine (AW.out _).mono ?_
                rintro e w7 ⟨rfl, hb7⟩
                have HB7 := Lib.hid (HB3.out.trans (Below.mono (HBW.out.drew.trans (hb7.mono HBW.out.size)) HB3.out.size))
                clear hb7
                go_wp2
                go_ret
                exact ⟨rfl, HB7.out⟩
              · have hte : (U == T) = false := by simpa using ht
                have HTN := Lib.hid ht
                clear ht
                go_upto_region 11 with fail
                refine wp_region_G 10 Gr (by kernel_rfl) ?_
                -- 0: slot 44
                refine wpG_take preGr (i := 0) (v := ?_) (by kernel_rfl) (some 44) (by kernel_rfl) rfl (by kernel_rfl) (by kernel_rfl) (by kernel_rfl) (fun _ _ _ h => h) (by rfl) (fun w' hw' => ?_) rfl ?_
                rotate_left
                · try have g0 := cellB' (HBW.out.drew.trans (hw'.mono HBW.out.size)) hbl HC0.out
                  try have g1 := cellB' (Below.trans (HGR.out.trans (Gr.drew wr)) (Below.mono hw' HGR.out.size)) hbl2 HD0.out
                  go_simp
                  with_reducible rfl
                simp only [Act.put, List.setIfInBounds_toArray, List.set_cons_zero, List.set_cons_succ]
                -- 1: slot 45
                refine wpG_take preGr (i := 1) (v := ?_) (by kernel_rfl) (some 45) (by kernel_rfl) rfl (by kernel_rfl) (by kernel_rfl) (by kernel_rfl) (fun _ _ _ h => h) (by rfl) (fun w' hw' => ?_) rfl ?_
                rotate_left
                · try have g0 := cellB' (HBW.out.drew.trans (hw'.mono HBW.out.size)) hbl HC0.out
                  try have g1 := cellB' (Below.trans (HGR.out.trans (Gr.drew wr)) (Below.mono hw' HGR.out.size)) hbl2 HD0.out
                  go_simp
                  with_reducible rfl
                simp only [Act.put, List.setIfInBounds_toArray, List.set_cons_zero, List.set_cons_succ]
                -- 2: slot 46
                refine wpG_take preGr (i := 2) (v := ?_) (by kernel_rfl) (some 46) (by kernel_rfl) rfl (by kernel_rfl) (by kernel_rfl) (by kernel_rfl) (fun _ _ _ h => h) (by rfl) (fun w' hw' => ?_) rfl ?_
                rotate_left
                · try have g0 := cellB' (HBW.out.drew.trans (hw'.mono HBW.out.size)) hbl HC0.out
                  try have g1 := cellB' (Below.trans (HGR.out.trans (Gr.drew wr)) (Below.mono hw' HGR.out.size)) hbl2 HD0.out
                  go_simp
                  with_reducible rfl
                simp only [Act.put, List.setIfInBounds_toArray, List.set_cons_zero, List.set_cons_succ]
                -- 3: slot 47
                refine wpG_take preGr (i := 3) (v := ?_) (by kernel_rfl) (some 47) (by kernel_rfl) rfl (by kernel_rfl) (by kernel_rfl) (by kernel_rfl) (fun _ _ _ h => h) (by rfl) (fun w' hw' => ?_) rfl ?_
                rotate_left
                · try have g0 := cellB' (HBW.out.drew.trans (hw'.mono HBW.out.size)) hbl HC0.out
                  try have g1 := cellB' (Below.trans (HGR.out.trans (Gr.drew wr)) (Below.mono hw' HGR.out.size)) hbl2 HD0.out
                  go_simp
                  with_reducible rfl
                simp only [Act.put, List.setIfInBounds_toArray, List.set_cons_zero, List.set_cons_succ]
                -- 4: slot 48
                refine wpG_take preGr (i := 4) (v := ?_) (by kernel_rfl) (some 48) (by kernel_rfl) rfl (by kernel_rfl) (by kernel_rfl) (by kernel_rfl) (fun _ _ _ h => h) (by rfl) (fun w' hw' => ?_) rfl ?_
                rotate_left
                · try have g0 := cellB' (HBW.out.drew.trans (hw'.mono HBW.out.size)) hbl HC0.out
                  try have g1 := cellB' (Below.trans (HGR.out.trans (Gr.drew wr)) (Below.mono hw' HGR.out.size)) hbl2 HD0.out
                  go_simp
                  with_reducible rfl
                simp only [Act.put, List.setIfInBounds_toArray, List.set_cons_zero, List.set_cons_succ]
                -- 5: slot 49
                refine wpG_take preGr (i := 5) (v := ?_) (by kernel_rfl) (some 49) (by kernel_rfl) rfl (by kernel_rfl) (by kernel_rfl) (by kernel_rfl) (fun _ _ _ h => h) (by rfl) (fun w' hw' => ?_) rfl ?_
                rotate_left
                · try have g0 := cellB' (HBW.out.drew.trans (hw'.mono HBW.out.size)) hbl HC0.out
                  try have g1 := cellB' (Below.trans (HGR.out.trans (Gr.drew wr)) (Below.mono hw' HGR.out.size)) hbl2 HD0.out
                  go_simp
                  with_reducible rfl
                simp only [Act.put, List.setIfInBounds_toArray, List.set_cons_zero, List.set_cons_succ]
                -- 6: slot 50
                refine wpG_take preGr (i := 6) (v := ?_) (by kernel_rfl) (some 50) (by kernel_rfl) rfl (by kernel_rfl) (by kernel_rfl) (by kernel_rfl) (fun _ _ _ h => h) (by rfl) (fun w' hw' => ?_) rfl ?_
                rotate_left
                · try have g0 := cellB' (HBW.out.drew.trans (hw'.mono HBW.out.size)) hbl HC0.out
                  try have g1 := cellB' (Below.trans (HGR.out.trans (Gr.drew wr)) (Below.mono hw' HGR.out.size)) hbl2 HD0.out
                  go_simp
                  with_reducible rfl
                simp only [Act.put, List.setIfInBounds_toArray, List.set_cons_zero, List.set_cons_succ]
                -- 7: slot 51
                refine wpG_take preGr (i := 7) (v := ?_) (by kernel_rfl) (some 51) (by kernel_rfl) rfl (by kernel_rfl) (by kernel_rfl) (by kernel_rfl) (fun _ _ _ h => h) (by rfl) (fun w' hw' => ?_) rfl ?_
                rotate_left
                · try have g0 := cellB' (HBW.out.drew.trans (hw'.mono HBW.out.size)) hbl HC0.out
                  try have g1 := cellB' (Below.trans (HGR.out.trans (Gr.drew wr)) (Below.mono hw' HGR.out.size)) hbl2 HD0.out
                  go_simp
                  with_reducible rfl
                simp only [Act.put, List.setIfInBounds_toArray, List.set_cons_zero, List.set_cons_succ]
                -- 8: slot 52
                refine wpG_take preGr (i := 8) (v := ?_) (by kernel_rfl) (some 52) (by kernel_rfl) rfl (by kernel_rfl) (by kernel_rfl) (by kernel_rfl) (fun _ _ _ h => h) (by rfl) (fun w' hw' => ?_) rfl ?_
                rotate_left
                · try have g0 := cellB' (HBW.out.drew.trans (hw'.mono HBW.out.size)) hbl HC0.out
                  try have g1 := cellB' (Below.trans (HGR.out.trans (Gr.drew wr)) (Below.mono hw' HGR.out.size)) hbl2 HD0.out
                  go_simp
                  with_reducible rfl
                simp only [Act.put, List.setIfInBounds_toArray, List.set_cons_zero, List.set_cons_succ]
                -- 9: slot 53
                refine wpG_take preGr (i := 9) (v := ?_) (by kernel_rfl) (some 53) (by kernel_rfl) rfl (by kernel_rfl) (by kernel_rfl) (by kernel_rfl) (fun _ _ _ h => h) (by rfl) (fun w' hw' => ?_) rfl ?_
                rotate_left
                · try have g0 := cellB' (HBW.out.drew.trans (hw'.mono HBW.out.size)) hbl HC0.out
                  try have g1 := cellB' (Below.trans (HGR.out.trans (Gr.drew wr)) (Below.mono hw' HGR.out.size)) hbl2 HD0.out
                  go_simp
                  with_reducible rfl
                simp only [Act.put, List.setIfInBounds_toArray, List.set_cons_zero, List.set_cons_succ]
                refine wpG_done (by kernel_rfl) ?_ _
                go_wp2
                go_roundw
                case rel =>
                  have HN1 : ∀ j (hj : j < k + 1) (h2 : j < ((plain ts).take i).length), ((plain ts).take i)[j].1 ≠ T := fun j hj h2 => by
                    by_cases e : j = k
                    · subst e; rw [← HU.out]; exact HTN.out
                    · exact HNE.out j (by omega) h2
                  have HY : Gr wA wr.drew := HGR.out.trans (Gr.drew wr)
                  first | exact ⟨k + 1, by omega, by go_num, HN1, HY⟩ | ((repeat apply Exists.intro); exact ⟨⟨k + 1, by omega, by go_num, HN1, HY⟩, rfl⟩)
                case measure => simp [intOf]; omega
            · obtain rfl : k = i := by omega
              have HOW2 := Lib.hid (ownsRow_below HOW.out HGR.out)
              have hal : Gr wr (wr.alloc (.cells #[.int .i64 T] 3)) := (Gr.refl _).alloc _
              have HOW3 := Lib.hid (ownsRow_below HOW2.out hal)
              have HB4 := Lib.hid (HBW.out.trans (Below.mono hal HBW.out.size))
              have HRD := Lib.hid (rd_new wr [.int .i64 T] 3 1 1 rfl (by decide))
              have HND2 : Hid ((((plain ts).take (k + 1)).map (·.1)).Nodup) := by
                show List.Nodup _
                rw [HTK.out, List.map_append]
                refine List.nodup_append.2 ⟨HND.out, by simp, fun a h1 b h2 e => ?_⟩
                obtain ⟨p, hp, rfl⟩ := List.mem_map.1 h1
                have hb' : b = T := by simpa using h2
                obtain ⟨j, hj, rfl⟩ := List.mem_iff_getElem.1 hp
                exact HNE.out j (by rw [HLI.out] at hj; exact hj) hj (e.trans hb')
              have q0 := cellB' HBW.out hbl HC0.out
              clear hal
              go_wp2_with (at_builtin; refine wpList_append_gr _ rfl (.tmp 55) (.tmp 61) 45 rfl w3.heap.size 3 i0 _ 1 8 Try.underlying45 hi hz0 hz1 hz2 rfl (by decide) _ _ _ rfl HOW3.out _ 1 _ rfl HRD.out (by intro u hu; rw [List.mem_singleton.1 hu]; rfl) ?p4 (by decide) HB4.out.size ?_)
              case p4 => omega
              intro v' wo ho' hg'
              have HO5 : Hid (wo.ownsRow w3.heap.size 3 1 v' (k + 1) (tyC ((plain ts).take (k + 1)))) := by
                show World.ownsRow _ _ _ _ _ _ _
                rw [HTK.out]
                unfold tyC
                rw [List.map_append]
                exact ho'
              have HB5 := Lib.hid (HB4.out.trans (grown_below HOW3.out HB4.out.size hg'))
              clear ho' hg' q0
              go_wp2
              go_roundw
              case rel =>
                first | exact ⟨k + 1, _, by omega, by go_num, rfl, HO5.out, HND2.out, HB5.out⟩ | ((repeat apply Exists.intro); exact ⟨⟨k + 1, _, by omega, by go_num, rfl, HO5.out, HND2.out, HB5.out⟩, rfl⟩)
              case measure => simp [intOf]; omega
        · obtain rfl : i = n := by omega
          have HND2 : Hid (((plain ts).map (·.1)).Nodup) := by have := HND.out; rwa [List.take_of_length_le (by rw [plain_length]; omega)] at this
          have HBW := Lib.hid (HB3.out.trans (HB.out.mono HB3.out.size))
          have HT4 := Lib.hid (HT3.out.below HB.out)
          have HR4 := Lib.hid (HR3.out.below HB.out)
          have HST : Hid (Stage rs (plain ts) 0) := .inl ⟨rfl, HND2.out⟩
          obtain ⟨wA, hwA⟩ : ∃ x, x = wr := ⟨_, rfl⟩
          subst hwA
          clear HOW HND HT3 HR3 HB HND2
          go_wp2
          go_loopw [1, 11] (fun s1 jv wr => ∃ (j : Nat) (a : Option Addr) (p c : Nat) (us : List Tg), j ≤ 3 ∧ jv = .int .i64 (j : Int) ∧ s1 = .slice a p c ∧ TR wr (.slice a p c) p us ∧ p + 16 ≤ 36 * 2 ^ j ∧ Small (plain us) ∧ Stage rs (plain us) j ∧ Gr wA wr) (fun _ jv _ => 3 - (intOf jv).toNat)
          case atStart => exact ⟨0, a4, i, c4, ts, Nat.zero_le _, rfl, rfl, HT4.out, by omega, HSM.out, HST.out, Gr.refl _⟩
          case round =>
            clear HT4 HSM HST
            obtain ⟨j, a, p, c, us, hj, rfl, rfl, htr, hp, hsm, hst, hgr⟩ := hrel
            have HTR := Lib.hid htr
            have HSM := Lib.hid hsm
            have HST := Lib.hid hst
            have HGR := Lib.hid hgr
            have HPB := Lib.hid hp
            have HBR : Hid (Below W.heap.size W wr) := HBW.out.trans (Below.mono hgr HBW.out.size)
            clear htr hsm hst hgr
            by_cases hlt : j < 3
            · have hp4 : (2 : Nat) ^ j ≤ 4 := Nat.pow_le_pow_right (by decide) (show j ≤ 2 by omega)
              have hp1 : p ≤ 128 := by omega
              have hsr := small_row HSM.out
              have hpl := HTR.out.len
              have HR5 := Lib.hid (HR4.out.below HGR.out)
              have AN := Lib.hid (answer_any a0 m c0 rs a p c us (N : Int) ((N : Int) + 3) wr HR5.out HTR.out (by omega) hsr.1)
              have SA := Lib.hid (small_ans (n := (N : Int)) (m := (N : Int) + 3) HA.out HSM.out)
              have SS := Lib.hid (stage_step HA.out (N : Int) HST.out)
              obtain ⟨R, hR⟩ : ∃ R, R = ans rs (plain us) (N : Int) ((N : Int) + 3) := ⟨_, rfl⟩
              rw [← hR] at AN SA SS
              obtain ⟨K, X⟩ := R
              have hj3 : (j : Int) < 3 := by omega
              clear hp hp4 hR
              go_wp2_with fail
              refine AN.out.mono ?_
              rintro e w5 ⟨v5, us5, rfl, hp5, hto5, hb5⟩
              have hp5' : plain us5 = X := hp5
              subst hp5'
              obtain ⟨x5, y5, ev, _, _⟩ := hto5.tr.shape
              subst ev
              have HGR5 : Hid (Gr wA w5) := HGR.out.trans hb5
              have HB5 := Lib.hid (HBR.out.trans (Below.mono hb5 HBR.out.size))
              have HT5 := Lib.hid (HTR.out.below hb5)
              have HU5 := Lib.hid hto5.tr
              obtain ⟨M5, hM5⟩ : ∃ M, M = us5.length := ⟨_, rfl⟩
              have hM5b : M5 ≤ p + 16 := by
                have h := SA.out.2
                rw [plain_length, plain_length, hpl] at h
                omega
              rw [← hM5] at HU5 ⊢
              clear hp5 hto5 hb5 hM5 AN HTR
              by_cases hk : K = 2
              · subst hk
                go_wp2_with fail
                refine (AW.out w5).mono ?_
                rintro e w7 ⟨rfl, hb7⟩
                have HB7 := Lib.hid (HB5.out.trans (hb7.mono HB5.out.size))
                clear hb7
                go_wp2
                go_ret
                exact ⟨rfl, HB7.out⟩
              · have hkb : (K == 2) = false := by simpa using hk
                obtain ⟨s1, s2⟩ : (fol (plain us) K (plain us5)).2 = true ∧ Stage rs (fol (plain us) K (plain us5)).1 (j + 1) := by
                  rcases SS.out with h | ⟨_, h1, h2⟩
                  · exact absurd h hk
                  · exact ⟨h1, h2⟩
                have HS2 := Lib.hid s2
                have hsr5 := small_row SA.out.1
                have SF := Lib.hid (small_fol (k := K) HSM.out SA.out.1)
                have FO := Lib.hid (follow_any a p c us K x5 M5 y5 us5 w5 HT5.out HU5.out (by omega) (by omega) hsr.1 hsr5.1 hsr.2 hsr5.2)
                obtain ⟨Y, hY⟩ : ∃ Y, Y = fol (plain us) K (plain us5) := ⟨_, rfl⟩
                rw [← hY] at FO SF HS2 s1
                obtain ⟨Y1, Y2⟩ := Y
                have s1' : Y2 = true := s1
                subst s1'
                have hul5 := HU5.out.len
                clear hk hsr hsr5 s1 s2 hY SS
                go_wp2_with fail
                refine FO.out.mono ?_
                rintro e w6 ⟨a6, m6, c6, us6, rfl, hp6, htr6, hb6⟩
                have hp6' : plain us6 = Y1 := hp6
                subst hp6'
                have HX6 : Hid (m6 + 16 ≤ 36 * 2 ^ (j + 1)) := by
                  show _ ≤ _
                  have h1 := SF.out.2
                  rw [plain_length, plain_length, plain_length, htr6.len, hpl, hul5] at h1
                  have h2 := HPB.out
                  rw [Nat.pow_succ]
                  omega
                have HT6 := Lib.hid htr6
                have HG6 : Hid (Gr wA w6) := HGR5.out.trans hb6
                clear hp6 htr6 hb6 FO hul5
                go_wp2
                go_roundw
                case rel =>
                  have h1 := HX6.out
                  have h2 := SF.out.1
                  have h3 := HS2.out
                  first | exact ⟨j + 1, a6, m6, c6, us6, by omega, by go_num, rfl, HT6.out, h1, h2, h3, HG6.out⟩ | ((repeat apply Exists.intro); exact ⟨⟨j + 1, a6, m6, c6, us6, by omega, by go_num, rfl, HT6.out, h1, h2, h3, HG6.out⟩, rfl⟩)
                case measure => simp [intOf]; omega
            · obtain rfl : j = 3 := by omega
              exact (stage_end HST.out).elim
    · have h20i : (20 : Int) < (n : Int) + (m : Int) := by omega
      go_wp2_with fail
      refine AR.out.mono ?_
      rintro e w3 ⟨rfl, hb3⟩
      have HB3 := Lib.hid (HB2.out.trans (hb3.mono HB2.out.size))
      clear hb3
      go_wp2_with fail
      refine (AW.out w3).mono ?_
      rintro e w7 ⟨rfl, hb7⟩
      have HB7 := Lib.hid (HB3.out.trans (hb7.mono HB3.out.size))
      clear hb7
      go_wp2
      go_ret
      exact ⟨rfl, HB7.out⟩
  · rw [decide_eq_false ha] at AR
    clear ha
    go_wp2_with fail
    refine AR.out.mono ?_
    rintro e w3 ⟨rfl, hb3⟩
    have HB3 := Lib.hid (HB2.out.trans (hb3.mono HB2.out.size))
    clear hb3
    go_wp2_with fail
    refine (AW.out w3).mono ?_
    rintro e w7 ⟨rfl, hb7⟩
    have HB7 := Lib.hid (HB3.out.trans (hb7.mono HB3.out.size))
    clear hb7
    go_wp2
    go_ret
    exact ⟨rfl, HB7.out⟩

theorem own : ownKnob Try.prog.godebug = none := by kernel_rfl
theorem laidOut : laidOutB Try.prog = true := by kernel_rfl
set_option maxRecDepth 100000 in
theorem lifted (os : Os) (started : os.Started) (H : Type) (enc : TypeId × Value → H) :
    ReturnsInHanded {} Try.checked os 6 .any (Rows.negoHelpedSpec.pre6 enc Try.prog Try.f6 Rows.negoHelpedRow.domain false) (Rows.negoHelpedSpec.post enc Try.prog Try.f6 false true false false) := by
  refine returnsInHanded_of_change (C := Try.checked) own started (by kernel_rfl) Try.func6
    (ChangeSpec.witness6 (enc := enc) (C := Try.checked) false ⟨#[], #[.slice none 0 0, .slice none 0 0, .int .u8 0], []⟩ 8 (by kernel_rfl) (by kernel_rfl) (by kernel_rfl) (by kernel_rfl)) ?_
  intro W base args ds gs before hval0 hW hcnd _
  have hval : ∀ (j : Nat) t v, Try.f6.params[j]? = some t → args[j]? = some v → Value.okWide Try.prog W .any base t v := hval0
  have hW' := hW
  obtain ⟨p, q, hA0, hV, rfl, hfz, hnd⟩ := hW
  have hA : DataW.TrodAll enc Try.prog W 0 (fun _ => true) true Try.f6.params.toList args.toList ds p := hA0
  rw [Try.params6] at hA hval
  obtain ⟨v0, vs0, d0, ds0, p0, q0, hargs, rfl, rfl, h0, r0⟩ := trodAll_cons hA
  obtain ⟨v1, vs1, d1, ds1, p1, q1, rfl, rfl, rfl, h1, r1⟩ := trodAll_cons r0
  obtain ⟨v2, vs2, d2, ds2, p2, q2, rfl, rfl, rfl, h2, r2⟩ := trodAll_cons r1
  obtain ⟨rfl, rfl, rfl⟩ := trodAll_nil r2
  obtain rfl : args = #[v0, v1, v2] := by cases args; simp_all
  obtain ⟨rfl, rfl⟩ := trodVars_none hV
  have k0 := h0
  have lt0 : ∀ x ∈ p0, x.block < W.heap.size := by obtain ⟨m, hm⟩ := k0; exact DataW.trod_lt m _ _ _ hm
  obtain ⟨a0, n0, c0, rs0, rfl, b0⟩ := Ng.open_rules Try.underlying22 Try.underlying39 ⟨rfl, rfl, rfl, rfl, rfl, rfl, rfl⟩ Try.underlying3 Try.underlying3 Try.underlying37 Try.underlying3 Try.underlying3 Try.underlying3 Try.underlying4 ⟨by kernel_rfl, by kernel_rfl, by kernel_rfl, by kernel_rfl, by kernel_rfl, by kernel_rfl, by kernel_rfl, by kernel_rfl⟩ (hval 0 22 v0 rfl rfl) h0
  have k1 := h1
  have lt1 : ∀ x ∈ p1, x.block < W.heap.size := by obtain ⟨m, hm⟩ := k1; exact DataW.trod_lt m _ _ _ hm
  obtain ⟨a1, n1, c1, ts1, rfl, b1, i1⟩ := Ng.open_optw Try.underlying23 Try.underlying42 ⟨rfl, rfl⟩ Try.underlying3 Try.underlying40 Try.underlying5 ⟨by kernel_rfl, by kernel_rfl, by kernel_rfl, by kernel_rfl⟩ (hval 1 23 v1 rfl rfl) h1
  have k2 := h2
  have lt2 : ∀ x ∈ p2, x.block < W.heap.size := by obtain ⟨m, hm⟩ := k2; exact DataW.trod_lt m _ _ _ hm
  obtain ⟨a2, rfl, rfl, rfl, w2⟩ := open_int Try.underlying5 (hval 2 5 v2 rfl rfl) h2
  clear hA0 hval0
  refine (walk W a0 n0 c0 rs0 b0 a1 n1 c1 ts1 b1 i1 a2 w2).mono fun e W' ⟨he, bel⟩ => ?_
  subst he
  exact ⟨_, rfl, _, _, _, [], _, [], hW', trodAll_mk1 (shut_bool Try.underlying4 _), (trodAll_cons_mk (Below.trod laidOut (by kernel_rfl) (of_decide_eq_true (by kernel_rfl)) k0 bel lt0) (trodAll_cons_mk (Below.trod laidOut (by kernel_rfl) (of_decide_eq_true (by kernel_rfl)) k1 bel lt1) (trodAll_cons_mk (Below.trod laidOut (by kernel_rfl) (of_decide_eq_true (by kernel_rfl)) k2 bel lt2) trodAll_mk0))), rfl, bel.frame _, fun h => by cases h⟩
theorem over : Rows.negoHelpedRow.holds Try.pinned (OpenSpec.ofChange Rows.negoHelpedSpec) :=
  OpenClaim.holds_of_wide 6 Try.f6 rfl rfl rfl rfl rfl rfl rfl ⟨rfl, rfl, rfl, rfl, rfl⟩ rfl rfl rfl rfl rfl (by kernel_rfl) Try.func6 (by kernel_rfl)
    (of_decide_eq_true (by kernel_rfl)) (by unfold Func.isWrapper; first | (rw [if_pos (by decide +kernel)]; kernel_rfl) | (rw [if_neg (by decide +kernel)]; exact ⟨rfl, rfl⟩))
    (fun os started H enc _ => lifted os started H enc)
/-- The statement. -/
theorem proved : Rows.NegoHelpedSaid := over
end Go.Proofs.Ytbldcjngccmhpaa.negoHelped
