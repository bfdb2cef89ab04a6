/-
  places.each: what it hands to each round.
-/
import Derived.Test.YtoemghinolekgaaDoorPlC
import Derived.Test.YtoemghinolekgaaDoorRngM
import Derived.RangeFuncNested
import Derived.Shelf.Abstract
import Derived.WalkKit
import Derived.OwnWalkIn
import Derived.TacticsInMore
import Derived.LoopNIn
import Derived.LoopIn
import Derived.OrdersIn
namespace Go.Proofs.YtoemghinolekgaaDoor.Pl
open Go.RowKit Go.Shelf
open Go.Proofs.YtoemghinolekgaaDoor.Id (Tr Tr.refl Tr.gr Tr.only blk own_blk IR)
set_option linter.unusedVariables false
set_option linter.unusedSimpArgs false
attribute [local go_sem] Oper.semAt_some

def encN (x : Nat) : Array Value := #[.int .i64 (x : Int)]
theorem less_int (y : Nat) (h0 : y ≠ 0) (hy : y < 18446744073709551616) : bits BinOp.and IntKind.u64 (y : Int) (IntKind.u64.wrap ((y : Int) - 1)) = ((y &&& (y - 1) : Nat) : Int) := by
  have e : ((y : Int) - 1) = ((y - 1 : Nat) : Int) := by omega
  rw [e, wrap_nat _ (by omega), bits_and_u64_nat _ _ hy (by omega)]
theorem place_int (i c p : Nat) (hp : p = c + 64 * i) (hi : i ≤ 1024) (hc : c < 64) : wrap64 ((i : Int) * 64) = (i : Int) * 64 ∧ wrap64 ((i : Int) * 64 + (c : Int)) = (p : Int) :=
  ⟨wrap64_in (by omega) (by omega), by rw [wrap64_in (by omega) (by omega)]; omega⟩
theorem place_lt (i c p n : Nat) (hp : p = c + 64 * i) (hi : i < n) (hn : n ≤ 1024) (hc : c < 64) : p < 65536 := by omega
set_option maxRecDepth 100000 in
set_option maxHeartbeats 4000000 in
theorem each_in (lp B0 : Nat) {v : Value} {ws : List Nat} (W : World)
    (J Jx : List Nat → World → Prop) (hJ : ∀ xs A B, J xs A → Gr A B → J xs B) (hA : ∀ xs V, J xs V → WAt V v ws ∧ Laid V)
    (hY : ∀ xs x V, J xs V → xs.length < 65536 → x < 65536 → YieldAt Fence.wide 0 Tryd.prog lp (encN x) V fun e V' => (e = .returned (.bool true) ∧ J (xs ++ [x]) V' ∧ Below B0 V V') ∨ (e = .returned (.bool false) ∧ Jx (xs ++ [x]) V'))
    (h0 : J [] W) :
    CallsIn Fence.wide 0 Tryd.prog 43 #[v, .func (.yield lp) #[] #[]] W fun e V => (∃ v, e = .returned v) ∧ ((∃ xs, xs = eachW ws ∧ J xs V) ∨ (∃ xs, Jx xs V)) := by
  have HJ := Lib.hid hJ
  have HA := Lib.hid hA
  have HY := Lib.hid hY
  have H0 := Lib.hid h0
  obtain ⟨b, cap, cur, rfl, h1, h2, h3, h4, h5, h6, h7, h8⟩ := (hA _ _ h0).1.at
  have hfew := (hA _ _ h0).1.few
  have HOK := Lib.hid (hA _ _ h0).1.ok
  obtain ⟨n, hn⟩ : ∃ n, n = ws.length := ⟨_, rfl⟩
  have HN := Lib.hid hn
  rw [← hn] at hfew h4 ⊢
  rw [← hn] at hA HA
  have HCELL : Hid (∀ xs V, J xs V → ∀ k, k < ws.length → V.cell? ⟨b, k, none⟩ = some (.int .u64 (ws.getD k 0 : Nat))) := by
    intro xs V hV k hk
    obtain ⟨b', cap', cur', ev, _, _, _, _, _, _, _, q8⟩ := (HA.out xs V hV).1.at
    simp only [Value.slice.injEq, Option.some.injEq, Addr.mk.injEq] at ev
    obtain ⟨⟨rfl, _⟩, _⟩ := ev
    exact q8 k hk
  clear hJ hY h0 hA hn h1 h2 h3 h5 h6 h7 h8
  refine callsIn_of_wp Tryd.func43 rfl trivial ?_ rfl
  simp only [Tryd.ntmps43, List.size_toArray, List.length_cons, List.length_nil, Nat.reduceAdd, Nat.reduceSub, Array.replicate_succ, Array.replicate_zero, List.push_toArray, List.append_toArray, List.nil_append, List.cons_append]
  gi_wp2
  gi_loopw [8] (fun iv wr => ∃ i : Nat, iv = .int .i64 (i : Int) ∧ i ≤ n ∧ Hid (J (eachW (ws.take i)) wr)) (fun iv _ => n - (intOf iv).toNat)
  case atStart => exact ⟨0, rfl, Nat.zero_le _, H0⟩
  case round =>
    obtain ⟨i, rfl, hin, HJX⟩ := hrel
    by_cases hlt : i < n
    · have hi : i < ws.length := by rw [← HN.out]; exact hlt
      have hc := HCELL.out _ _ HJX.out i hi
      have hgd : ws.getD i 0 = ws[i] := by simp [List.getD_eq_getElem?_getD, hi]
      have hxl := HOK.out.at i
      have hts := eachW_take_succ ws i hi
      have hcl := count_le (ws.take i)
      have hcl2 := count_le (ws.take (i + 1))
      rw [List.length_take] at hcl hcl2
      rw [hgd] at hc hxl
      obtain ⟨x, hx⟩ : ∃ x, x = ws[i] := ⟨_, rfl⟩
      rw [← hx] at hc hts hxl
      have HTS := Lib.hid hts
      have HCL : Hid ((eachW (ws.take (i + 1))).length ≤ 64 * (i + 1) ∧ i < n ∧ n ≤ 1024) := ⟨by omega, hlt, hfew⟩
      have HXL := Lib.hid hxl
      obtain ⟨wA, hwA⟩ : ∃ y, y = wr := ⟨_, rfl⟩
      subst hwA
      clear hgd hx hts hcl hcl2 hxl
      gi_wp2
      gi_loopw [5] (fun xv wr => ∃ (y : Nat) (d : List Nat), xv = .int .u64 (y : Int) ∧ Hid (y < 18446744073709551616 ∧ d ++ bitsL y = bitsL x) ∧ Hid (J (eachW (ws.take i) ++ d.map (· + 64 * i)) wr)) (fun xv _ => (intOf xv).toNat)
      case atStart => exact ⟨x, [], rfl, ⟨HXL.out, rfl⟩, by rw [List.map_nil, List.append_nil]; exact HJX⟩
      case round =>
        clear HJX hc
        obtain ⟨y, d, rfl, HD, HJ2⟩ := hrel
        by_cases hy0 : y = 0
        · have hy2 : ((y : Int) != 0) = false := by rw [hy0]; rfl
          have HE : Hid (J (eachW (ws.take (i + 1))) wr) := by
            show J _ wr
            have e := HD.out.2
            rw [hy0, bitsL_zero, List.append_nil] at e
            rw [HTS.out, ← e]
            exact HJ2.out
          clear hy0 HD HJ2
          gi_wp2
          go_roundw
          case rel =>
            have hle : i + 1 ≤ n := by omega
            first | exact ⟨i + 1, by go_num, hle, HE⟩ | ((repeat apply Exists.intro); exact ⟨⟨i + 1, by go_num, hle, HE⟩, rfl⟩)
          case measure => simp [intOf]; omega
        · have hy2 : ((y : Int) != 0) = true := by simp; omega
          have hst := bitsL_step hy0 HD.out.1
          have hc64 := (Lib.lowest_bit 64 y hy0 HD.out.1).2
          have hless := less_int y hy0 HD.out.1
          have hlt2 := less_less hy0
          have hlt3 := less_lt HD.out.1
          have HT := Lib.hid (tz_any y hy0 HD.out.1 wr (HA.out _ _ HJ2.out).2)
          obtain ⟨c, hce⟩ : ∃ c, c = Lib.ctz 64 y := ⟨_, rfl⟩
          obtain ⟨z, hz⟩ : ∃ z, z = y &&& (y - 1) := ⟨_, rfl⟩
          rw [← hce] at hst hc64 HT
          rw [← hz] at hst hless hlt2 hlt3
          obtain ⟨p, hp⟩ : ∃ p, p = c + 64 * i := ⟨_, rfl⟩
          obtain ⟨x1, x2⟩ := place_int i c p hp (Nat.le_trans hin hfew) hc64
          have HD2 : Hid (z < 18446744073709551616 ∧ (d ++ [c]) ++ bitsL z = bitsL x) := ⟨hlt3, by rw [← HD.out.2, hst]; simp⟩
          have HLEN : Hid ((eachW (ws.take i) ++ d.map (· + 64 * i)).length < 65536) := by
            show _ < _
            have e := congrArg List.length HTS.out
            have e2 := congrArg List.length HD2.out.2
            simp only [List.length_append, List.length_map, List.length_cons, List.length_nil] at e e2 ⊢
            have := HCL.out
            omega
          have hp16 : p < 65536 := place_lt i c p n hp hlt hfew hc64
          have HX : Hid (eachW (ws.take i) ++ d.map (· + 64 * i) ++ [p] = eachW (ws.take i) ++ (d ++ [c]).map (· + 64 * i)) := by
            show _ = _
            rw [hp]; simp
          have HLT2 := Lib.hid hlt2
          obtain ⟨fn, tmps, assign, body, hyy, hR⟩ := HY.out _ p wr HJ2.out HLEN.out hp16
          dsimp only [encN] at hyy
          clear hst hc64 hce hz hp HD hlt2 hlt3 hy0 hp16
          gi_wp2_with fail
          refine ⟨trivial, rfl, ?_⟩
          refine (callsIn_wide.2 HT.out).mono ?_
          rintro e w1 ⟨rfl, rfl⟩
          gi_wp2_with fail
          refine ⟨rfl, hR.mono ?_⟩
          rintro e w5 (⟨rfl, hj5, hb5⟩ | ⟨rfl, hx5⟩)
          · rw [HX.out] at hj5
            have HJ5 := Lib.hid hj5
            clear hj5 hb5 hyy hR
            gi_wp2
            go_roundw
            case rel =>
              first | exact ⟨z, d ++ [c], by first | rfl | rw [hless], HD2, HJ5⟩ | ((repeat apply Exists.intro); exact ⟨⟨z, d ++ [c], by first | rfl | rw [hless], HD2, HJ5⟩, rfl⟩)
            case measure => simp [intOf]; have := HLT2.out; omega
          · have HX5 := Lib.hid hx5
            clear hx5 hyy hR
            gi_wp2
            refine bodyPost_ret (results_none rfl _ _ _) rfl ?_
            exact ⟨⟨_, rfl⟩, .inr ⟨_, HX5.out⟩⟩
    · have HE : Hid (ws.take i = ws) := by show _ = _; rw [List.take_of_length_le]; have := HN.out; omega
      have HJE : Hid (J (eachW ws) wr) := by show J _ wr; have := HJX.out; rw [HE.out] at this; exact this
      gi_wp2
      go_end0
      exact ⟨⟨_, rfl⟩, .inl ⟨_, rfl, HJE.out⟩⟩
end Go.Proofs.YtoemghinolekgaaDoor.Pl
