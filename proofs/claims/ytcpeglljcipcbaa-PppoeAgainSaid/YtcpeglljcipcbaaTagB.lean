/-
  The document's All, Without.
-/
import Derived.Test.YtcpeglljcipcbaaTagM
namespace Go.Proofs.Ytcpeglljcipcbaa
open Go.RowKit
set_option linter.unusedVariables false
set_option linter.unusedSimpArgs false

/-- Those of the first k whose type is t; the values' slices. -/
def pickT (ts : List Tg) (t : Int) : List Tg := ts.filter fun x => decide (x.typ = t)
def dropT (ts : List Tg) (t : Int) : List Tg := ts.filter fun x => decide (x.typ ≠ t)
def vals (ts : List Tg) : List Value := ts.map (·.val)
theorem pickT_snoc (ts : List Tg) (t : Int) (k : Nat) (h : k < ts.length) : pickT (ts.take (k + 1)) t = if ts[k].typ = t then pickT (ts.take k) t ++ [ts[k]] else pickT (ts.take k) t := by
  unfold pickT
  rw [List.take_succ_eq_append_getElem h, List.filter_append]
  by_cases e : ts[k].typ = t <;> simp [e]
theorem dropT_snoc (ts : List Tg) (t : Int) (k : Nat) (h : k < ts.length) : dropT (ts.take (k + 1)) t = if ts[k].typ = t then dropT (ts.take k) t else dropT (ts.take k) t ++ [ts[k]] := by
  unfold dropT
  rw [List.take_succ_eq_append_getElem h, List.filter_append]
  by_cases e : ts[k].typ = t <;> simp [e]
theorem pickT_le (ts : List Tg) (t : Int) : (pickT ts t).length ≤ ts.length := List.length_filter_le _ _
theorem dropT_le (ts : List Tg) (t : Int) : (dropT ts t).length ≤ ts.length := List.length_filter_le _ _
theorem vals_length (ts : List Tg) : (vals ts).length = ts.length := by simp [vals]

set_option maxHeartbeats 1000000 in
theorem rall_any (ao : Option Addr) (n c : Nat) (ts : List Tg) (t : Int) (w : World) (hr : TR w (.slice ao n c) n ts) (hn : n ≤ 1000) :
    Calls Try.prog 45 #[.slice ao n c, .int .i64 t] w fun e w' => ∃ v, e = .returned v ∧ w'.ownsRow w.heap.size 22 1 v (pickT ts t).length (vals (pickT ts t)) ∧ Below w.heap.size w w' := by
  obtain ⟨i0, hi, hz0, hz1, hz2⟩ := info_parts infoS
  have hl := hr.len
  go_enter Try.func45, Try.ntmps45
  go_wp2
  go_loopw [5, 6] (fun ov iv wr => ∃ k : Nat, k ≤ n ∧ iv = .int .i64 k ∧ wr.ownsRow w.heap.size 22 1 ov (pickT (ts.take k) t).length (vals (pickT (ts.take k) t)) ∧ Below w.heap.size w wr) (fun _ iv _ => n - (intOf iv).toNat)
  case atStart => exact ⟨0, Nat.zero_le _, rfl, World.ownsRow_nil _ _ _ _, Below.refl _ _⟩
  case round =>
    obtain ⟨k, hk, rfl, hown, hb⟩ := hrel
    by_cases hlt : k < n
    · obtain ⟨b, o, rfl, hbl, hc⟩ := (hr.below hb).cells (by omega)
      obtain ⟨hc0, hc1⟩ := hc k (by omega)
      have HV := Lib.hid (hr.val k (by omega))
      have H1 := Lib.hid HV.out.oneCell
      have HO := Lib.hid hown
      obtain ⟨A, L, C, hv, hL, hLC, hCm⟩ := HV.out.sl
      rw [hv] at hc1
      have HE := Lib.hid hv
      have HL := Lib.hid hL
      clear hv hL
      by_cases ht : ts[k].typ = t
      · have hc0' : wr.cell? ⟨b, o + k * 2, none⟩ = some (.int .i64 t) := by rw [← ht]; exact hc0
        have HT := Lib.hid ht
        clear hc0 hc hown ht hr
        go_wp2_with (at_builtin; refine wpList_append_gr _ rfl (.tmp 20) (.tmp 26) 69 rfl w.heap.size 22 i0 (.slice none 0 0) 1 24 Try.underlying69 hi hz0 hz1 hz2 rfl (by decide) _ _ _ rfl (World.ownsRow.alloc HO.out _) _ 1 [.slice A L C] rfl ?p2 ?p3 ?p4 (by decide) ?p5 ?_)
        case p2 => exact rd_new wr [.slice A L C] 22 1 1 rfl (by decide)
        case p3 => intro u hu; rw [List.mem_singleton.1 hu]; rfl
        case p4 => have := pickT_le (ts.take k) t; rw [List.length_take] at this; omega
        case p5 => have := hb.size; simp; omega
        intro v' wo ho' hg'
        have hb' := hb.trans ((((Below.refl _ _).alloc (Nat.le_refl _) _).mono hb.size).trans ((grown_below (World.ownsRow.alloc HO.out _) (by have := hb.size; simp; omega) hg')))
        have HO' := Lib.hid ho'
        have HB' := Lib.hid hb'
        clear ho' hg' hb'
        go_wp2
        go_roundw
        case rel =>
          have HO2 : wo.ownsRow w.heap.size 22 1 v' (pickT (ts.take (k + 1)) t).length (vals (pickT (ts.take (k + 1)) t)) := by
            rw [pickT_snoc ts t k (by omega), if_pos HT.out, List.length_append]
            unfold vals
            rw [List.map_append]
            have := HO'.out
            rw [← HE.out] at this
            exact this
          first | exact ⟨k + 1, by omega, by go_num, HO2, HB'.out⟩ | ((repeat apply Exists.intro); exact ⟨⟨k + 1, by omega, by go_num, HO2, HB'.out⟩, rfl⟩)
        case measure => simp [intOf]; omega
      · have hne : (ts[k].typ == t) = false := by simpa using ht
        obtain ⟨T, hT⟩ : ∃ T, T = ts[k].typ := ⟨_, rfl⟩
        rw [← hT] at hne hc0
        have HT := Lib.hid ht
        clear hT hc hown ht hr
        go_wp2
        go_roundw
        case rel =>
          have HO2 : wr.ownsRow w.heap.size 22 1 u5 (pickT (ts.take (k + 1)) t).length (vals (pickT (ts.take (k + 1)) t)) := by
            rw [pickT_snoc ts t k (by omega), if_neg HT.out]
            exact HO.out
          first | exact ⟨k + 1, by omega, by go_num, HO2, hb⟩ | ((repeat apply Exists.intro); exact ⟨⟨k + 1, by omega, by go_num, HO2, hb⟩, rfl⟩)
        case measure => simp [intOf]; omega
    · obtain rfl : k = n := by omega
      have e : ts.take k = ts := List.take_of_length_le (by omega)
      rw [e] at hown
      have HO := Lib.hid hown
      clear hown
      go_wp2
      go_ret
      exact ⟨_, rfl, HO.out, hb⟩

end Go.Proofs.Ytcpeglljcipcbaa
