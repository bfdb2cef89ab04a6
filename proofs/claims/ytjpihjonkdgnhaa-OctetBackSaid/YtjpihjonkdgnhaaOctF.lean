import Derived.Test.YtjpihjonkdgnhaaOctE
namespace Go.Proofs.Ytjpihjonkdgnhaa
open Go.RowKit
set_option linter.unusedVariables false
set_option linter.unusedSimpArgs false

theorem rdigit_yes (c d : Nat) (w : World) (hc : c < 256) (h : digV c = some d) :
    Calls Try.prog 29 #[.int .u8 c] w fun e w' => e = .returned (.int .i64 d) ∧ w = w' := by
  have := rdigit_any c w hc
  rw [h] at this
  exact this
theorem rdigit_no (c : Nat) (w : World) (hc : c < 256) (h : digV c = none) :
    Calls Try.prog 29 #[.int .u8 c] w fun e w' => e = .returned (.int .i64 (-1)) ∧ w = w' := by
  have := rdigit_any c w hc
  rw [h] at this
  exact this

/-- ref.Unhex, where the text is bytes' digits. -/
theorem runhex_yes (w : World) (s : ByteArray) (hs : s.size ≤ 1000000) (h : UnhexOk s) :
    Calls Try.prog 16 #[.string s] w fun e w' => ∃ v, e = .returned (.tuple #[v, .int .i64 0]) ∧ OwnB w' w.heap.size 5 v (unhexK s (s.size / 2)) ∧ Below w.heap.size w w' := by
  obtain ⟨i0, hi, hz0, hz1, hz2⟩ := info_parts info5
  obtain ⟨hev, hall⟩ := h
  obtain ⟨n, hn⟩ : ∃ n, s.size = 2 * n := ⟨s.size / 2, by omega⟩
  have hn2 : s.size / 2 = n := by omega
  rw [hn2] at hall ⊢
  have HALL := Lib.hid hall
  have HN := Lib.hid hn
  have hsz : 2 * n ≤ 1000000 := by omega
  have e1 : ((s.size : Int)) = 2 * (n : Int) := by omega
  clear hall hev hn2 hn hs
  go_enter Try.func16, Try.ntmps16
  go_wp2
  go_loopw [4, 5] (fun bv iv wr => ∃ k : Nat, k ≤ n ∧ iv = .int .i64 (2 * k : Nat) ∧ OwnB wr w.heap.size 5 bv (unhexK s k) ∧ Below w.heap.size w wr) (fun _ iv _ => 2 * n - (intOf iv).toNat)
  case atStart => exact ⟨0, Nat.zero_le _, rfl, OwnB.nil _ _ _, Below.refl _ _⟩
  case round =>
    obtain ⟨k, hk, rfl, hown, hb⟩ := hrel
    by_cases hlt : k < n
    · obtain ⟨a, b, ha, hb2, hp, ha16, hb16⟩ := pairOk_some (HALL.out k hlt)
      have x1 := index_chr (P := Try.prog) Try.underlying9 s .i64 (2 * (k : Int)) (2 * k) (by omega) (by have := HN.out; omega)
      have x2 := index_chr (P := Try.prog) Try.underlying9 s .i64 (2 * (k : Int) + 1) (2 * k + 1) (by omega) (by have := HN.out; omega)
      have m2 : IntKind.i64.wrap (2 * (k : Int) + 1) = 2 * (k : Int) + 1 := IntWalk.i64_in _ (by omega)
      have hc1 := chr_lt s (2 * k)
      have hc2 := chr_lt s (2 * k + 1)
      have hsz2 := hb.size
      have HA := Lib.hid ha
      have HB := Lib.hid hb2
      have HP := Lib.hid hp
      clear ha hb2 hp
      go_wp2
      refine wp_region_G Any (by kernel_rfl) ?_
      -- 0: slot 18
      refine wpG_take preAny (i := 0) (v := ?_) (some 18) rfl (by kernel_rfl) (by kernel_rfl) (by kernel_rfl) (fun _ _ _ h => h) (by rfl) (fun w' hw' => ?_) rfl ?_
      rotate_left
      · go_simp
        with_reducible rfl
      simp only [Act.put, List.setIfInBounds_toArray, List.set_cons_zero, List.set_cons_succ]
      -- 1: slot 19
      refine wpG_take preAny (i := 1) (v := ?_) (some 19) rfl (by kernel_rfl) (by kernel_rfl) (by kernel_rfl) (fun _ _ _ h => h) (by rfl) (fun w' hw' => ?_) rfl ?_
      rotate_left
      · go_simp
        with_reducible rfl
      simp only [Act.put, List.setIfInBounds_toArray, List.set_cons_zero, List.set_cons_succ]
      -- 2: slot 20
      refine wpG_take preAny (i := 2) (v := ?_) (some 20) rfl (by kernel_rfl) (by kernel_rfl) (by kernel_rfl) (fun _ _ _ h => h) (by rfl) (fun w' hw' => ?_) rfl ?_
      rotate_left
      · go_simp
        with_reducible rfl
      simp only [Act.put, List.setIfInBounds_toArray, List.set_cons_zero, List.set_cons_succ]
      -- 4: slot 22
      refine wpG_take preAny (i := 4) (v := ?_) (some 22) rfl (by kernel_rfl) (by kernel_rfl) (by kernel_rfl) (fun _ _ _ h => h) (by rfl) (fun w' hw' => ?_) rfl ?_
      rotate_left
      · go_simp
        with_reducible rfl
      simp only [Act.put, List.setIfInBounds_toArray, List.set_cons_zero, List.set_cons_succ]
      -- 5: slot 23
      refine wpG_take preAny (i := 5) (v := ?_) (some 23) rfl (by kernel_rfl) (by kernel_rfl) (by kernel_rfl) (fun _ _ _ h => h) (by rfl) (fun w' hw' => ?_) rfl ?_
      rotate_left
      · go_simp
        with_reducible rfl
      simp only [Act.put, List.setIfInBounds_toArray, List.set_cons_zero, List.set_cons_succ]
      -- 6: slot 24
      refine wpG_take preAny (i := 6) (v := ?_) (some 24) rfl (by kernel_rfl) (by kernel_rfl) (by kernel_rfl) (fun _ _ _ h => h) (by rfl) (fun w' hw' => ?_) rfl ?_
      rotate_left
      · go_simp
        with_reducible rfl
      simp only [Act.put, List.setIfInBounds_toArray, List.set_cons_zero, List.set_cons_succ]
      -- 7: slot 25
      refine wpG_take preAny (i := 7) (v := ?_) (some 25) rfl (by kernel_rfl) (by kernel_rfl) (by kernel_rfl) (fun _ _ _ h => h) (by rfl) (fun w' hw' => ?_) rfl ?_
      rotate_left
      · go_simp
        with_reducible rfl
      simp only [Act.put, List.setIfInBounds_toArray, List.set_cons_zero, List.set_cons_succ]
      refine wpG_one (i := 3) rfl (by kernel_rfl) (by rfl) ?_
      go_simp
      refine (rdigit_yes _ a _ hc1 HA.out).mono ?_
      rintro e w' ⟨rfl, rfl⟩
      refine ⟨trivial, ?_⟩
      try simp only [Act.put, List.setIfInBounds_toArray, List.set_cons_zero, List.set_cons_succ]
      refine wpG_one (i := 8) rfl (by kernel_rfl) (by rfl) ?_
      go_simp
      refine (rdigit_yes _ b _ hc2 HB.out).mono ?_
      rintro e w' ⟨rfl, rfl⟩
      refine ⟨trivial, ?_⟩
      try simp only [Act.put, List.setIfInBounds_toArray, List.set_cons_zero, List.set_cons_succ]
      -- 9: slot 6
      refine wpG_take preAny (i := 9) (v := ?_) (some 6) rfl (by kernel_rfl) (by kernel_rfl) (by kernel_rfl) (fun _ _ _ h => h) (by rfl) (fun w' hw' => ?_) rfl ?_
      rotate_left
      · go_simp
        with_reducible rfl
      simp only [Act.put, List.setIfInBounds_toArray, List.set_cons_zero, List.set_cons_succ]
      -- 10: slot 7
      refine wpG_take preAny (i := 10) (v := ?_) (some 7) rfl (by kernel_rfl) (by kernel_rfl) (by kernel_rfl) (fun _ _ _ h => h) (by rfl) (fun w' hw' => ?_) rfl ?_
      rotate_left
      · go_simp
        with_reducible rfl
      simp only [Act.put, List.setIfInBounds_toArray, List.set_cons_zero, List.set_cons_succ]
      refine wpG_done (by kernel_rfl) ?_ _
      go_wp2_with (at_builtin; refine wpList_append_rd _ rfl _ _ 23 rfl w.heap.size 5 i0 (.int .u8 0) 1 1 Try.underlying23 hi hz0 hz1 hz2 rfl (by decide) _ k ((unhexK s k).map u8v) rfl ?c0 _ 1 [.int .u8 (16 * (a : Int) + b)] rfl (rd_new _ _ _ 1 1 rfl (by decide)) ?c3 ?c1 (by decide) ?c2 ?_)
      case c0 =>
        have := World.ownsRow.alloc hown (.cells [Value.int .u8 (16 * (a : Int) + b)].toArray 5)
        rwa [unhexK_length] at this
      case c3 => intro u hu; simp at hu; subst hu; rfl
      case c1 => omega
      case c2 => simp; omega
      intro v' w1 hown' hbel
      go_wp2
      go_roundw
      case rel =>
        refine ⟨k + 1, by omega, by go_num, ?_, (hb.alloc hsz2 _).drew.trans hbel⟩
        unfold OwnB
        rw [unhexK_length, unhexK_succ, List.map_append]
        have e : [UInt8.ofNat (pairB s k)].map u8v = [.int .u8 (16 * (a : Int) + b)] := by
          simp only [List.map_cons, List.map_nil, u8v_ofNat, HP.out]
          congr 2
          omega
        rw [e]
        exact hown'
      case measure => simp [intOf]; omega
    · obtain rfl : k = n := by omega
      go_wp2
      go_ret2
      exact ⟨_, rfl, hown, hb⟩

set_option maxHeartbeats 1600000 in
theorem runhex_no (w : World) (s : ByteArray) (hs : s.size ≤ 1000000) (h : ¬ UnhexOk s) :
    Calls Try.prog 16 #[.string s] w fun e w' => e = .returned (.tuple #[.slice none 0 0, .int .i64 10]) ∧ Below w.heap.size w w' := by
  obtain ⟨i0, hi, hz0, hz1, hz2⟩ := info_parts info5
  by_cases hev : s.size % 2 = 0
  · rcases first_bad (pairOk s) (s.size / 2) with hall | ⟨j, hj, hbad, hgood⟩
    · exact absurd ⟨hev, hall⟩ h
    obtain ⟨n, hn⟩ : ∃ n, s.size = 2 * n := ⟨s.size / 2, by omega⟩
    have hjn : j < n := by omega
    have HG := Lib.hid hgood
    have HBAD := Lib.hid hbad
    have HN := Lib.hid hn
    have hsz : 2 * n ≤ 1000000 := by omega
    have e1 : ((s.size : Int)) = 2 * (n : Int) := by omega
    clear hgood hev hn hs h hbad hj
    go_enter Try.func16, Try.ntmps16
    go_wp2
    go_loopw [4, 5] (fun bv iv wr => ∃ k : Nat, k ≤ j ∧ iv = .int .i64 (2 * k : Nat) ∧ OwnB wr w.heap.size 5 bv (unhexK s k) ∧ Below w.heap.size w wr) (fun _ iv _ => 2 * n - (intOf iv).toNat)
    case atStart => exact ⟨0, Nat.zero_le _, rfl, OwnB.nil _ _ _, Below.refl _ _⟩
    case round =>
      obtain ⟨k, hk, rfl, hown, hb⟩ := hrel
      have x1 := index_chr (P := Try.prog) Try.underlying9 s .i64 (2 * (k : Int)) (2 * k) (by omega) (by have := HN.out; omega)
      have x2 := index_chr (P := Try.prog) Try.underlying9 s .i64 (2 * (k : Int) + 1) (2 * k + 1) (by omega) (by have := HN.out; omega)
      have m2 : IntKind.i64.wrap (2 * (k : Int) + 1) = 2 * (k : Int) + 1 := IntWalk.i64_in _ (by omega)
      have hc1 := chr_lt s (2 * k)
      have hc2 := chr_lt s (2 * k + 1)
      have hsz2 := hb.size
      by_cases hlt : k < j
      · obtain ⟨a, b, ha, hb2, hp, ha16, hb16⟩ := pairOk_some (HG.out k hlt)
        have HA := Lib.hid ha
        have HB := Lib.hid hb2
        have HP := Lib.hid hp
        clear ha hb2 hp
        go_wp2
        refine wp_region_G Any (by kernel_rfl) ?_
        -- 0: slot 18
        refine wpG_take preAny (i := 0) (v := ?_) (some 18) rfl (by kernel_rfl) (by kernel_rfl) (by kernel_rfl) (fun _ _ _ h => h) (by rfl) (fun w' hw' => ?_) rfl ?_
        rotate_left
        · go_simp
          with_reducible rfl
        simp only [Act.put, List.setIfInBounds_toArray, List.set_cons_zero, List.set_cons_succ]
        -- 1: slot 19
        refine wpG_take preAny (i := 1) (v := ?_) (some 19) rfl (by kernel_rfl) (by kernel_rfl) (by kernel_rfl) (fun _ _ _ h => h) (by rfl) (fun w' hw' => ?_) rfl ?_
        rotate_left
        · go_simp
          with_reducible rfl
        simp only [Act.put, List.setIfInBounds_toArray, List.set_cons_zero, List.set_cons_succ]
        -- 2: slot 20
        refine wpG_take preAny (i := 2) (v := ?_) (some 20) rfl (by kernel_rfl) (by kernel_rfl) (by kernel_rfl) (fun _ _ _ h => h) (by rfl) (fun w' hw' => ?_) rfl ?_
        rotate_left
        · go_simp
          with_reducible rfl
        simp only [Act.put, List.setIfInBounds_toArray, List.set_cons_zero, List.set_cons_succ]
        -- 4: slot 22
        refine wpG_take preAny (i := 4) (v := ?_) (some 22) rfl (by kernel_rfl) (by kernel_rfl) (by kernel_rfl) (fun _ _ _ h => h) (by rfl) (fun w' hw' => ?_) rfl ?_
        rotate_left
        · go_simp
          with_reducible rfl
        simp only [Act.put, List.setIfInBounds_toArray, List.set_cons_zero, List.set_cons_succ]
        -- 5: slot 23
        refine wpG_take preAny (i := 5) (v := ?_) (some 23) rfl (by kernel_rfl) (by kernel_rfl) (by kernel_rfl) (fun _ _ _ h => h) (by rfl) (fun w' hw' => ?_) rfl ?_
        rotate_left
        · go_simp
          with_reducible rfl
        simp only [Act.put, List.setIfInBounds_toArray, List.set_cons_zero, List.set_cons_succ]
        -- 6: slot 24
        refine wpG_take preAny (i := 6) (v := ?_) (some 24) rfl (by kernel_rfl) (by kernel_rfl) (by kernel_rfl) (fun _ _ _ h => h) (by rfl) (fun w' hw' => ?_) rfl ?_
        rotate_left
        · go_simp
          with_reducible rfl
        simp only [Act.put, List.setIfInBounds_toArray, List.set_cons_zero, List.set_cons_succ]
        -- 7: slot 25
        refine wpG_take preAny (i := 7) (v := ?_) (some 25) rfl (by kernel_rfl) (by kernel_rfl) (by kernel_rfl) (fun _ _ _ h => h) (by rfl) (fun w' hw' => ?_) rfl ?_
        rotate_left
        · go_simp
          with_reducible rfl
        simp only [Act.put, List.setIfInBounds_toArray, List.set_cons_zero, List.set_cons_succ]
        refine wpG_one (i := 3) rfl (by kernel_rfl) (by rfl) ?_
        go_simp
        refine (rdigit_yes _ a _ hc1 HA.out).mono ?_
        rintro e w' ⟨rfl, rfl⟩
        refine ⟨trivial, ?_⟩
        try simp only [Act.put, List.setIfInBounds_toArray, List.set_cons_zero, List.set_cons_succ]
        refine wpG_one (i := 8) rfl (by kernel_rfl) (by rfl) ?_
        go_simp
        refine (rdigit_yes _ b _ hc2 HB.out).mono ?_
        rintro e w' ⟨rfl, rfl⟩
        refine ⟨trivial, ?_⟩
        try simp only [Act.put, List.setIfInBounds_toArray, List.set_cons_zero, List.set_cons_succ]
        -- 9: slot 6
        refine wpG_take preAny (i := 9) (v := ?_) (some 6) rfl (by kernel_rfl) (by kernel_rfl) (by kernel_rfl) (fun _ _ _ h => h) (by rfl) (fun w' hw' => ?_) rfl ?_
        rotate_left
        · go_simp
          with_reducible rfl
        simp only [Act.put, List.setIfInBounds_toArray, List.set_cons_zero, List.set_cons_succ]
        -- 10: slot 7
        refine wpG_take preAny (i := 10) (v := ?_) (some 7) rfl (by kernel_rfl) (by kernel_rfl) (by kernel_rfl) (fun _ _ _ h => h) (by rfl) (fun w' hw' => ?_) rfl ?_
        rotate_left
        · go_simp
          with_reducible rfl
        simp only [Act.put, List.setIfInBounds_toArray, List.set_cons_zero, List.set_cons_succ]
        refine wpG_done (by kernel_rfl) ?_ _
        go_wp2_with (at_builtin; refine wpList_append_rd _ rfl _ _ 23 rfl w.heap.size 5 i0 (.int .u8 0) 1 1 Try.underlying23 hi hz0 hz1 hz2 rfl (by decide) _ k ((unhexK s k).map u8v) rfl ?c0 _ 1 [.int .u8 (16 * (a : Int) + b)] rfl (rd_new _ _ _ 1 1 rfl (by decide)) ?c3 ?c1 (by decide) ?c2 ?_)
        case c0 =>
          have := World.ownsRow.alloc hown (.cells [Value.int .u8 (16 * (a : Int) + b)].toArray 5)
          rwa [unhexK_length] at this
        case c3 => intro u hu; simp at hu; subst hu; rfl
        case c1 => omega
        case c2 => simp; omega
        intro v' w1 hown' hbel
        go_wp2
        go_roundw
        case rel =>
          refine ⟨k + 1, by omega, by go_num, ?_, (hb.alloc hsz2 _).drew.trans hbel⟩
          unfold OwnB
          rw [unhexK_length, unhexK_succ, List.map_append]
          have e : [UInt8.ofNat (pairB s k)].map u8v = [.int .u8 (16 * (a : Int) + b)] := by
            simp only [List.map_cons, List.map_nil, u8v_ofNat, HP.out]
            congr 2
            omega
          rw [e]
          exact hown'
        case measure => simp [intOf]; omega
      · obtain rfl : k = j := by omega
        cases hd1 : digV (chr s (2 * k)) with
        | none =>
          have HA := Lib.hid hd1
          clear hd1
          cases hd2 : digV (chr s (2 * k + 1)) with
          | none =>
            have HB := Lib.hid hd2
            clear hd2
            go_wp2
            refine wp_region_G Any (by kernel_rfl) ?_
            -- 0: slot 18
            refine wpG_take preAny (i := 0) (v := ?_) (some 18) rfl (by kernel_rfl) (by kernel_rfl) (by kernel_rfl) (fun _ _ _ h => h) (by rfl) (fun w' hw' => ?_) rfl ?_
            rotate_left
            · go_simp
              with_reducible rfl
            simp only [Act.put, List.setIfInBounds_toArray, List.set_cons_zero, List.set_cons_succ]
            -- 1: slot 19
            refine wpG_take preAny (i := 1) (v := ?_) (some 19) rfl (by kernel_rfl) (by kernel_rfl) (by kernel_rfl) (fun _ _ _ h => h) (by rfl) (fun w' hw' => ?_) rfl ?_
            rotate_left
            · go_simp
              with_reducible rfl
            simp only [Act.put, List.setIfInBounds_toArray, List.set_cons_zero, List.set_cons_succ]
            -- 2: slot 20
            refine wpG_take preAny (i := 2) (v := ?_) (some 20) rfl (by kernel_rfl) (by kernel_rfl) (by kernel_rfl) (fun _ _ _ h => h) (by rfl) (fun w' hw' => ?_) rfl ?_
            rotate_left
            · go_simp
              with_reducible rfl
            simp only [Act.put, List.setIfInBounds_toArray, List.set_cons_zero, List.set_cons_succ]
            -- 4: slot 22
            refine wpG_take preAny (i := 4) (v := ?_) (some 22) rfl (by kernel_rfl) (by kernel_rfl) (by kernel_rfl) (fun _ _ _ h => h) (by rfl) (fun w' hw' => ?_) rfl ?_
            rotate_left
            · go_simp
              with_reducible rfl
            simp only [Act.put, List.setIfInBounds_toArray, List.set_cons_zero, List.set_cons_succ]
            -- 5: slot 23
            refine wpG_take preAny (i := 5) (v := ?_) (some 23) rfl (by kernel_rfl) (by kernel_rfl) (by kernel_rfl) (fun _ _ _ h => h) (by rfl) (fun w' hw' => ?_) rfl ?_
            rotate_left
            · go_simp
              with_reducible rfl
            simp only [Act.put, List.setIfInBounds_toArray, List.set_cons_zero, List.set_cons_succ]
            -- 6: slot 24
            refine wpG_take preAny (i := 6) (v := ?_) (some 24) rfl (by kernel_rfl) (by kernel_rfl) (by kernel_rfl) (fun _ _ _ h => h) (by rfl) (fun w' hw' => ?_) rfl ?_
            rotate_left
            · go_simp
              with_reducible rfl
            simp only [Act.put, List.setIfInBounds_toArray, List.set_cons_zero, List.set_cons_succ]
            -- 7: slot 25
            refine wpG_take preAny (i := 7) (v := ?_) (some 25) rfl (by kernel_rfl) (by kernel_rfl) (by kernel_rfl) (fun _ _ _ h => h) (by rfl) (fun w' hw' => ?_) rfl ?_
            rotate_left
            · go_simp
              with_reducible rfl
            simp only [Act.put, List.setIfInBounds_toArray, List.set_cons_zero, List.set_cons_succ]
            refine wpG_one (i := 3) rfl (by kernel_rfl) (by rfl) ?_
            go_simp
            refine (rdigit_no _ _ hc1 HA.out).mono ?_
            rintro e w' ⟨rfl, rfl⟩
            refine ⟨trivial, ?_⟩
            try simp only [Act.put, List.setIfInBounds_toArray, List.set_cons_zero, List.set_cons_succ]
            refine wpG_one (i := 8) rfl (by kernel_rfl) (by rfl) ?_
            go_simp
            refine (rdigit_no _ _ hc2 HB.out).mono ?_
            rintro e w' ⟨rfl, rfl⟩
            refine ⟨trivial, ?_⟩
            try simp only [Act.put, List.setIfInBounds_toArray, List.set_cons_zero, List.set_cons_succ]
            -- 9: slot 6
            refine wpG_take preAny (i := 9) (v := ?_) (some 6) rfl (by kernel_rfl) (by kernel_rfl) (by kernel_rfl) (fun _ _ _ h => h) (by rfl) (fun w' hw' => ?_) rfl ?_
            rotate_left
            · go_simp
              with_reducible rfl
            simp only [Act.put, List.setIfInBounds_toArray, List.set_cons_zero, List.set_cons_succ]
            -- 10: slot 7
            refine wpG_take preAny (i := 10) (v := ?_) (some 7) rfl (by kernel_rfl) (by kernel_rfl) (by kernel_rfl) (fun _ _ _ h => h) (by rfl) (fun w' hw' => ?_) rfl ?_
            rotate_left
            · go_simp
              with_reducible rfl
            simp only [Act.put, List.setIfInBounds_toArray, List.set_cons_zero, List.set_cons_succ]
            refine wpG_done (by kernel_rfl) ?_ _
            go_wp2
            go_ret2
            exact ⟨rfl, hb.drew⟩
          | some b =>
            have hb16 := digV_lt hd2
            have HB := Lib.hid hd2
            clear hd2
            go_wp2
            refine wp_region_G Any (by kernel_rfl) ?_
            -- 0: slot 18
            refine wpG_take preAny (i := 0) (v := ?_) (some 18) rfl (by kernel_rfl) (by kernel_rfl) (by kernel_rfl) (fun _ _ _ h => h) (by rfl) (fun w' hw' => ?_) rfl ?_
            rotate_left
            · go_simp
              with_reducible rfl
            simp only [Act.put, List.setIfInBounds_toArray, List.set_cons_zero, List.set_cons_succ]
            -- 1: slot 19
            refine wpG_take preAny (i := 1) (v := ?_) (some 19) rfl (by kernel_rfl) (by kernel_rfl) (by kernel_rfl) (fun _ _ _ h => h) (by rfl) (fun w' hw' => ?_) rfl ?_
            rotate_left
            · go_simp
              with_reducible rfl
            simp only [Act.put, List.setIfInBounds_toArray, List.set_cons_zero, List.set_cons_succ]
            -- 2: slot 20
            refine wpG_take preAny (i := 2) (v := ?_) (some 20) rfl (by kernel_rfl) (by kernel_rfl) (by kernel_rfl) (fun _ _ _ h => h) (by rfl) (fun w' hw' => ?_) rfl ?_
            rotate_left
            · go_simp
              with_reducible rfl
            simp only [Act.put, List.setIfInBounds_toArray, List.set_cons_zero, List.set_cons_succ]
            -- 4: slot 22
            refine wpG_take preAny (i := 4) (v := ?_) (some 22) rfl (by kernel_rfl) (by kernel_rfl) (by kernel_rfl) (fun _ _ _ h => h) (by rfl) (fun w' hw' => ?_) rfl ?_
            rotate_left
            · go_simp
              with_reducible rfl
            simp only [Act.put, List.setIfInBounds_toArray, List.set_cons_zero, List.set_cons_succ]
            -- 5: slot 23
            refine wpG_take preAny (i := 5) (v := ?_) (some 23) rfl (by kernel_rfl) (by kernel_rfl) (by kernel_rfl) (fun _ _ _ h => h) (by rfl) (fun w' hw' => ?_) rfl ?_
            rotate_left
            · go_simp
              with_reducible rfl
            simp only [Act.put, List.setIfInBounds_toArray, List.set_cons_zero, List.set_cons_succ]
            -- 6: slot 24
            refine wpG_take preAny (i := 6) (v := ?_) (some 24) rfl (by kernel_rfl) (by kernel_rfl) (by kernel_rfl) (fun _ _ _ h => h) (by rfl) (fun w' hw' => ?_) rfl ?_
            rotate_left
            · go_simp
              with_reducible rfl
            simp only [Act.put, List.setIfInBounds_toArray, List.set_cons_zero, List.set_cons_succ]
            -- 7: slot 25
            refine wpG_take preAny (i := 7) (v := ?_) (some 25) rfl (by kernel_rfl) (by kernel_rfl) (by kernel_rfl) (fun _ _ _ h => h) (by rfl) (fun w' hw' => ?_) rfl ?_
            rotate_left
            · go_simp
              with_reducible rfl
            simp only [Act.put, List.setIfInBounds_toArray, List.set_cons_zero, List.set_cons_succ]
            refine wpG_one (i := 3) rfl (by kernel_rfl) (by rfl) ?_
            go_simp
            refine (rdigit_no _ _ hc1 HA.out).mono ?_
            rintro e w' ⟨rfl, rfl⟩
            refine ⟨trivial, ?_⟩
            try simp only [Act.put, List.setIfInBounds_toArray, List.set_cons_zero, List.set_cons_succ]
            refine wpG_one (i := 8) rfl (by kernel_rfl) (by rfl) ?_
            go_simp
            refine (rdigit_yes _ b _ hc2 HB.out).mono ?_
            rintro e w' ⟨rfl, rfl⟩
            refine ⟨trivial, ?_⟩
            try simp only [Act.put, List.setIfInBounds_toArray, List.set_cons_zero, List.set_cons_succ]
            -- 9: slot 6
            refine wpG_take preAny (i := 9) (v := ?_) (some 6) rfl (by kernel_rfl) (by kernel_rfl) (by kernel_rfl) (fun _ _ _ h => h) (by rfl) (fun w' hw' => ?_) rfl ?_
            rotate_left
            · go_simp
              with_reducible rfl
            simp only [Act.put, List.setIfInBounds_toArray, List.set_cons_zero, List.set_cons_succ]
            -- 10: slot 7
            refine wpG_take preAny (i := 10) (v := ?_) (some 7) rfl (by kernel_rfl) (by kernel_rfl) (by kernel_rfl) (fun _ _ _ h => h) (by rfl) (fun w' hw' => ?_) rfl ?_
            rotate_left
            · go_simp
              with_reducible rfl
            simp only [Act.put, List.setIfInBounds_toArray, List.set_cons_zero, List.set_cons_succ]
            refine wpG_done (by kernel_rfl) ?_ _
            go_wp2
            go_ret2
            exact ⟨rfl, hb.drew⟩
        | some a =>
          cases hd2 : digV (chr s (2 * k + 1)) with
          | none =>
            have ha16 := digV_lt hd1
            have HA := Lib.hid hd1
            have HB := Lib.hid hd2
            clear hd1 hd2
            go_wp2
            refine wp_region_G Any (by kernel_rfl) ?_
            -- 0: slot 18
            refine wpG_take preAny (i := 0) (v := ?_) (some 18) rfl (by kernel_rfl) (by kernel_rfl) (by kernel_rfl) (fun _ _ _ h => h) (by rfl) (fun w' hw' => ?_) rfl ?_
            rotate_left
            · go_simp
              with_reducible rfl
            simp only [Act.put, List.setIfInBounds_toArray, List.set_cons_zero, List.set_cons_succ]
            -- 1: slot 19
            refine wpG_take preAny (i := 1) (v := ?_) (some 19) rfl (by kernel_rfl) (by kernel_rfl) (by kernel_rfl) (fun _ _ _ h => h) (by rfl) (fun w' hw' => ?_) rfl ?_
            rotate_left
            · go_simp
              with_reducible rfl
            simp only [Act.put, List.setIfInBounds_toArray, List.set_cons_zero, List.set_cons_succ]
            -- 2: slot 20
            refine wpG_take preAny (i := 2) (v := ?_) (some 20) rfl (by kernel_rfl) (by kernel_rfl) (by kernel_rfl) (fun _ _ _ h => h) (by rfl) (fun w' hw' => ?_) rfl ?_
            rotate_left
            · go_simp
              with_reducible rfl
            simp only [Act.put, List.setIfInBounds_toArray, List.set_cons_zero, List.set_cons_succ]
            -- 4: slot 22
            refine wpG_take preAny (i := 4) (v := ?_) (some 22) rfl (by kernel_rfl) (by kernel_rfl) (by kernel_rfl) (fun _ _ _ h => h) (by rfl) (fun w' hw' => ?_) rfl ?_
            rotate_left
            · go_simp
              with_reducible rfl
            simp only [Act.put, List.setIfInBounds_toArray, List.set_cons_zero, List.set_cons_succ]
            -- 5: slot 23
            refine wpG_take preAny (i := 5) (v := ?_) (some 23) rfl (by kernel_rfl) (by kernel_rfl) (by kernel_rfl) (fun _ _ _ h => h) (by rfl) (fun w' hw' => ?_) rfl ?_
            rotate_left
            · go_simp
              with_reducible rfl
            simp only [Act.put, List.setIfInBounds_toArray, List.set_cons_zero, List.set_cons_succ]
            -- 6: slot 24
            refine wpG_take preAny (i := 6) (v := ?_) (some 24) rfl (by kernel_rfl) (by kernel_rfl) (by kernel_rfl) (fun _ _ _ h => h) (by rfl) (fun w' hw' => ?_) rfl ?_
            rotate_left
            · go_simp
              with_reducible rfl
            simp only [Act.put, List.setIfInBounds_toArray, List.set_cons_zero, List.set_cons_succ]
            -- 7: slot 25
            refine wpG_take preAny (i := 7) (v := ?_) (some 25) rfl (by kernel_rfl) (by kernel_rfl) (by kernel_rfl) (fun _ _ _ h => h) (by rfl) (fun w' hw' => ?_) rfl ?_
            rotate_left
            · go_simp
              with_reducible rfl
            simp only [Act.put, List.setIfInBounds_toArray, List.set_cons_zero, List.set_cons_succ]
            refine wpG_one (i := 3) rfl (by kernel_rfl) (by rfl) ?_
            go_simp
            refine (rdigit_yes _ a _ hc1 HA.out).mono ?_
            rintro e w' ⟨rfl, rfl⟩
            refine ⟨trivial, ?_⟩
            try simp only [Act.put, List.setIfInBounds_toArray, List.set_cons_zero, List.set_cons_succ]
            refine wpG_one (i := 8) rfl (by kernel_rfl) (by rfl) ?_
            go_simp
            refine (rdigit_no _ _ hc2 HB.out).mono ?_
            rintro e w' ⟨rfl, rfl⟩
            refine ⟨trivial, ?_⟩
            try simp only [Act.put, List.setIfInBounds_toArray, List.set_cons_zero, List.set_cons_succ]
            -- 9: slot 6
            refine wpG_take preAny (i := 9) (v := ?_) (some 6) rfl (by kernel_rfl) (by kernel_rfl) (by kernel_rfl) (fun _ _ _ h => h) (by rfl) (fun w' hw' => ?_) rfl ?_
            rotate_left
            · go_simp
              with_reducible rfl
            simp only [Act.put, List.setIfInBounds_toArray, List.set_cons_zero, List.set_cons_succ]
            -- 10: slot 7
            refine wpG_take preAny (i := 10) (v := ?_) (some 7) rfl (by kernel_rfl) (by kernel_rfl) (by kernel_rfl) (fun _ _ _ h => h) (by rfl) (fun w' hw' => ?_) rfl ?_
            rotate_left
            · go_simp
              with_reducible rfl
            simp only [Act.put, List.setIfInBounds_toArray, List.set_cons_zero, List.set_cons_succ]
            refine wpG_done (by kernel_rfl) ?_ _
            go_wp2
            go_ret2
            exact ⟨rfl, hb.drew⟩
          | some b => exact absurd ⟨by rw [hd1]; rfl, by rw [hd2]; rfl⟩ HBAD.out
  · have hodd : ((s.size : Int) % 2 == 1) = true := by simp; omega
    go_enter Try.func16, Try.ntmps16
    go_wp2
    go_ret2
    exact ⟨rfl, Below.refl _ _⟩
end Go.Proofs.Ytjpihjonkdgnhaa
