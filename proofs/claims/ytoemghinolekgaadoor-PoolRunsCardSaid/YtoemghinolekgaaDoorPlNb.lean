/-
  A pool in memory: lease, release, settle, Take, Want, Give.
-/
import Derived.Test.YtoemghinolekgaaDoorPlN
import Derived.Shelf.Abstract
namespace Go.Proofs.YtoemghinolekgaaDoor.Pl
open Go.RowKit Go.Shelf
open Go.Proofs.YtoemghinolekgaaDoor.Id (Tr Tr.refl Tr.gr Tr.only blk own_blk IR)
set_option linter.unusedVariables false
set_option linter.unusedSimpArgs false

theorem freeL_lt {S : Po} {i : Nat} (h : i ∈ freeL S) : i < S.size := (mem_freeL.1 h).1
theorem leasedL_lt {S : Po} {i : Nat} (h : i ∈ leasedL S) : i < S.size := (mem_leasedL.1 h).1
theorem lease_any (g i : Nat) {m : Pm} {S : Po} (w : World) (h : PoAt w g m S) (hi : i ∈ freeL S) :
    Calls Tryd.prog 35 #[.pointer (some ⟨g, 0, none⟩), .int .i64 i] w fun e w' => e = .returned (.tuple #[]) ∧ Goes g m w (put S (S.base + (i : Int))) w' := by
  obtain ⟨k0, k1, k2⟩ := cells3' h.pm.row
  have HH := Lib.hid h
  have HI := Lib.hid hi
  have HD := Lib.hid (drop_any i (h.ties.inF (freeL_lt hi)) w h.pm.fo)
  obtain ⟨bf, cf, curf, ef, h9⟩ := h.pm.fo.at
  have HEF := Lib.hid ef
  rw [ef] at HD k1
  clear h hi ef h9 k0 k2
  go_enter Tryd.func35, Tryd.ntmps35
  go_wp2_with fail
  refine HD.out.mono ?_
  rintro e w1 ⟨rfl, hw1, ht1⟩
  rw [← HEF.out] at hw1 ht1
  have hp1 := HH.out.pm.setF hw1 ht1
  have HP1 := Lib.hid hp1
  obtain ⟨k0, k1, k2⟩ := cells3' hp1.row
  have HU := Lib.hid (put_any i (HH.out.ties.inL (freeL_lt HI.out)) w1 hp1.lo)
  obtain ⟨bl, cl, curl, el, h9⟩ := hp1.lo.at
  have HEL : Hid (m.lv = .slice (some ⟨bl, 0, none⟩) m.le.length cl) := el
  have k2' : w1.cell? ⟨g, 2, none⟩ = some m.lv := k2
  rw [HEL.out] at k2'
  have HU2 : Hid (Calls Tryd.prog 29 #[.slice (some ⟨bl, 0, none⟩) m.le.length cl, .int .i64 i] w1 fun e w' => e = .returned (.tuple #[]) ∧ WAt w' m.lv (putW m.le i) ∧ Tr (blk m.lv) w1 w') := by
    have := HU.out
    show Calls _ _ _ _ _
    rw [← HEL.out]
    exact this
  have HT1 := Lib.hid ht1
  clear hw1 ht1 hp1 HU HD el h9 k0 k1 k2
  go_wp2_with fail
  refine HU2.out.mono ?_
  rintro e w2 ⟨rfl, hw2, ht2⟩
  have hp2 := HP1.out.setL hw2 ht2
  have HP2 := Lib.hid hp2
  have HT2 := Lib.hid ht2
  clear hw2 ht2 hp2 HU2 k2'
  go_wp2
  go_end0
  refine ⟨rfl, _, ⟨HP2.out, put_ok HH.out.ok (free_has HI.out).1 (free_has HI.out).2, HH.out.ties.lease HI.out⟩, rfl, rfl, ?_⟩
  have a : Tr (Fm g m) w w1 := ⟨HT1.out.os, HT1.out.tape, HT1.out.output, HT1.out.size, fun k hk hn => HT1.out.block k hk fun h1 => hn (Fm.fv h1)⟩
  exact a.trans HT2.out fun k hk => .inl (Fm.lv hk)
theorem release_any (g i : Nat) {m : Pm} {S : Po} (w : World) (h : PoAt w g m S) (hi : i ∈ leasedL S) :
    Calls Tryd.prog 39 #[.pointer (some ⟨g, 0, none⟩), .int .i64 i] w fun e w' => e = .returned (.tuple #[]) ∧ Goes g m w (drop S (S.base + (i : Int))) w' := by
  obtain ⟨k0, k1, k2⟩ := cells3' h.pm.row
  have HH := Lib.hid h
  have HI := Lib.hid hi
  have HD := Lib.hid (drop_any i (h.ties.inL (leasedL_lt hi)) w h.pm.lo)
  obtain ⟨bf, cf, curf, ef, h9⟩ := h.pm.lo.at
  have HEF := Lib.hid ef
  rw [ef] at HD k2
  clear h hi ef h9 k0 k1
  go_enter Tryd.func39, Tryd.ntmps39
  go_wp2_with fail
  refine HD.out.mono ?_
  rintro e w1 ⟨rfl, hw1, ht1⟩
  rw [← HEF.out] at hw1 ht1
  have hp1 := HH.out.pm.setL hw1 ht1
  have HP1 := Lib.hid hp1
  obtain ⟨k0, k1, k2⟩ := cells3' hp1.row
  have HU := Lib.hid (put_any i (HH.out.ties.inF (leasedL_lt HI.out)) w1 hp1.fo)
  obtain ⟨bl, cl, curl, el, h9⟩ := hp1.fo.at
  have HEL : Hid (m.fv = .slice (some ⟨bl, 0, none⟩) m.fr.length cl) := el
  have k2' : w1.cell? ⟨g, 1, none⟩ = some m.fv := k1
  rw [HEL.out] at k2'
  have HU2 : Hid (Calls Tryd.prog 29 #[.slice (some ⟨bl, 0, none⟩) m.fr.length cl, .int .i64 i] w1 fun e w' => e = .returned (.tuple #[]) ∧ WAt w' m.fv (putW m.fr i) ∧ Tr (blk m.fv) w1 w') := by
    have := HU.out
    show Calls _ _ _ _ _
    rw [← HEL.out]
    exact this
  have HT1 := Lib.hid ht1
  clear hw1 ht1 hp1 HU HD el h9 k0 k1 k2
  go_wp2_with fail
  refine HU2.out.mono ?_
  rintro e w2 ⟨rfl, hw2, ht2⟩
  have hp2 := HP1.out.setF hw2 ht2
  have HP2 := Lib.hid hp2
  have HT2 := Lib.hid ht2
  clear hw2 ht2 hp2 HU2 k2'
  go_wp2
  go_end0
  refine ⟨rfl, _, ⟨HP2.out, drop_ok HH.out.ok _, HH.out.ties.release HH.out.ok HI.out⟩, rfl, rfl, ?_⟩
  have a : Tr (Fm g m) w w1 := ⟨HT1.out.os, HT1.out.tape, HT1.out.output, HT1.out.size, fun k hk hn => HT1.out.block k hk fun h1 => hn (Fm.lv h1)⟩
  exact a.trans HT2.out fun k hk => .inl (Fm.fv hk)
/-- The change is made at the place; an error is handed on. -/
theorem settle_no (p : Value) (i : Nat) (err : Int) (c : Value) (herr : err ≠ 0) (w : World) :
    Calls Tryd.prog 34 #[p, .int .i64 i, .int .i64 err, c] w fun e w' => e = .returned (.tuple #[.int .i64 0, .int .i64 err]) ∧ w = w' := by
  have h0 : (err != 0) = true := by simpa using herr
  clear herr
  go_enter Tryd.func34, Tryd.ntmps34
  go_wp2
  go_ret2
  exact ⟨rfl, rfl⟩
theorem settle_err (g i : Nat) (err : Int) (c : Value) (herr : err ≠ 0) (w : World) :
    Calls Tryd.prog 34 #[.pointer (some ⟨g, 0, none⟩), .int .i64 i, .int .i64 err, c] w fun e w' => e = .returned (.tuple #[.int .i64 0, .int .i64 err]) ∧ w = w' := settle_no _ i err c herr w
theorem settle_any (k g i : Nat) (hk : ∀ args w, (callFunc k args).run Tryd.prog w = .ok (.enter k args) w) {m : Pm} {S T : Po} (w : World) (hT : T.base = S.base) (hb : 1 ≤ S.base ∧ S.base ≤ 4294967294) (hi : i ≤ 65536)
    (hc : Calls Tryd.prog k #[.pointer (some ⟨g, 0, none⟩), .int .i64 i] w fun e w' => e = .returned (.tuple #[]) ∧ Goes g m w T w') :
    Calls Tryd.prog 34 #[.pointer (some ⟨g, 0, none⟩), .int .i64 i, .int .i64 0, .func (.func k) #[.pointer (some ⟨g, 0, none⟩)] #[]] w fun e w' => e = .returned (.tuple #[.int .i64 (S.base + (i : Int)), .int .i64 0]) ∧ Goes g m w T w' := by
  have HC := Lib.hid hc
  have x1 : wrap64 (S.base + (i : Int)) = S.base + (i : Int) := wrap64_in (by omega) (by omega)
  have HT := Lib.hid hT
  clear hc hT hi hb
  go_enter Tryd.func34, Tryd.ntmps34
  go_wp2_with fail
  refine HC.out.mono ?_
  rintro e w1 ⟨rfl, m1, h1, h2, h3, h4⟩
  obtain ⟨k0, k1, k2⟩ := cells3' h1.pm.row
  rw [HT.out] at k0
  have HG : Hid (Goes g m w T w1) := ⟨m1, h1, h2, h3, h4⟩
  clear h1 h2 h3 h4 k1 k2 HC
  go_wp2
  go_ret2
  exact ⟨by show Ending.returned (.tuple #[.int .i64 (wrap64 (S.base + (i : Int))), .int .i64 0]) = _; rw [x1], HG.out⟩
theorem enter_lease : ∀ args w, (callFunc 35 args).run Tryd.prog w = .ok (.enter 35 args) w := enters_of Tryd.func35 (by kernel_rfl) rfl
theorem enter_release : ∀ args w, (callFunc 39 args).run Tryd.prog w = .ok (.enter 39 args) w := enters_of Tryd.func39 (by kernel_rfl) rfl
theorem take_any (g : Nat) {m : Pm} {S : Po} (w : World) (h : PoAt w g m S) :
    Calls Tryd.prog 15 #[.pointer (some ⟨g, 0, none⟩)] w fun e w' => e = .returned (.tuple #[.int .i64 (take S).2.1, .int .i64 (take S).2.2]) ∧ Goes g m w (take S).1 w' := by
  have hl := lowest_any g w h
  unfold take
  cases hfl : freeL S with
  | nil =>
    rw [hfl] at hl
    have HL := Lib.hid hl
    have HS := Lib.hid (settle_err g 0 121 (.func (.func 35) #[.pointer (some ⟨g, 0, none⟩)] #[]) (by decide) w)
    have HG := Lib.hid (Goes.refl h)
    clear h hl hfl
    go_enter Tryd.func15, Tryd.ntmps15
    go_wp2_with fail
    refine HL.out.mono ?_
    rintro e w' ⟨rfl, rfl⟩
    go_wp2_with fail
    refine HS.out.mono ?_
    rintro e w' ⟨rfl, rfl⟩
    go_wp2
    go_ret2
    exact ⟨rfl, HG.out⟩
  | cons i r =>
    rw [hfl] at hl
    have hi : i ∈ freeL S := by rw [hfl]; simp
    have HL := Lib.hid hl
    have HS := Lib.hid (settle_any 35 g i enter_lease (S := S) (T := put S (S.base + (i : Int))) w rfl h.ok.r.base (by have := freeL_lt hi; have := h.ok.r.size; omega) (lease_any g i w h hi))
    clear h hl hfl hi
    go_enter Tryd.func15, Tryd.ntmps15
    go_wp2_with fail
    refine HL.out.mono ?_
    rintro e w' ⟨rfl, rfl⟩
    go_wp2_with fail
    refine HS.out.mono ?_
    rintro e w1 ⟨rfl, hg⟩
    have HG := Lib.hid hg
    clear hg HS
    go_wp2
    go_ret2
    exact ⟨rfl, HG.out⟩
theorem want_any (g : Nat) (a : Int) (ha : a ≤ 9223372036854775807) {m : Pm} {S : Po} (w : World) (h : PoAt w g m S) :
    Calls Tryd.prog 19 #[.pointer (some ⟨g, 0, none⟩), .int .i64 a] w fun e w' => e = .returned (.int .i64 (want S a).2) ∧ Goes g m w (want S a).1 w' := by
  have hf := find_any g a false 122 ha w h
  unfold want
  by_cases hh : has S a = true
  · rw [if_pos hh] at hf ⊢
    by_cases hl : a ∈ S.L
    · rw [if_pos hl]
      rw [decide_eq_true hl, if_neg (by decide)] at hf
      have HF := Lib.hid hf
      have HS := Lib.hid (settle_err g 0 122 (.func (.func 35) #[.pointer (some ⟨g, 0, none⟩)] #[]) (by decide) w)
      have HG := Lib.hid (Goes.refl h)
      clear h hf hh hl
      go_enter Tryd.func19, Tryd.ntmps19
      go_wp2_with fail
      refine HF.out.mono ?_
      rintro e w' ⟨rfl, rfl⟩
      go_wp2_with fail
      refine HS.out.mono ?_
      rintro e w' ⟨rfl, rfl⟩
      go_wp2
      go_ret
      exact ⟨rfl, HG.out⟩
    · rw [if_neg hl]
      rw [decide_eq_false hl, if_pos rfl] at hf
      obtain ⟨hi, e⟩ := has_free hh hl
      obtain ⟨i, hie⟩ : ∃ i, i = (a - S.base).toNat := ⟨_, rfl⟩
      rw [← hie] at hf hi e
      have hs := settle_any 35 g i enter_lease (S := S) (T := put S (S.base + (i : Int))) w rfl h.ok.r.base (by have := freeL_lt hi; have := h.ok.r.size; omega) (lease_any g i w h hi)
      rw [e] at hs
      have HF := Lib.hid hf
      have HS := Lib.hid hs
      clear h hf hh hl hi e hie hs
      go_enter Tryd.func19, Tryd.ntmps19
      go_wp2_with fail
      refine HF.out.mono ?_
      rintro e w' ⟨rfl, rfl⟩
      go_wp2_with fail
      refine HS.out.mono ?_
      rintro e w1 ⟨rfl, hg⟩
      have HG := Lib.hid hg
      clear hg HS
      go_wp2
      go_ret
      exact ⟨rfl, HG.out⟩
  · rw [if_neg hh] at hf ⊢
    have HF := Lib.hid hf
    have HS := Lib.hid (settle_err g 0 5 (.func (.func 35) #[.pointer (some ⟨g, 0, none⟩)] #[]) (by decide) w)
    have HG := Lib.hid (Goes.refl h)
    clear h hf hh
    go_enter Tryd.func19, Tryd.ntmps19
    go_wp2_with fail
    refine HF.out.mono ?_
    rintro e w' ⟨rfl, rfl⟩
    go_wp2_with fail
    refine HS.out.mono ?_
    rintro e w' ⟨rfl, rfl⟩
    go_wp2
    go_ret
    exact ⟨rfl, HG.out⟩
theorem give_any (g : Nat) (a : Int) (ha : a ≤ 9223372036854775807) {m : Pm} {S : Po} (w : World) (h : PoAt w g m S) :
    Calls Tryd.prog 17 #[.pointer (some ⟨g, 0, none⟩), .int .i64 a] w fun e w' => e = .returned (.int .i64 (give S a).2) ∧ Goes g m w (give S a).1 w' := by
  have hf := find_any g a true 112 ha w h
  unfold give
  by_cases hh : has S a = true
  · rw [if_pos hh] at hf ⊢
    by_cases hl : a ∈ S.L
    · rw [if_pos hl]
      rw [decide_eq_true hl, if_pos rfl] at hf
      have hr := has_iff.1 hh
      obtain ⟨i, hie⟩ : ∃ i, i = (a - S.base).toNat := ⟨_, rfl⟩
      have e : S.base + (i : Int) = a := by omega
      have hi : i ∈ leasedL S := mem_leasedL.2 ⟨by omega, by rw [e]; exact hl⟩
      rw [← hie] at hf
      have hs := settle_any 39 g i enter_release (S := S) (T := drop S (S.base + (i : Int))) w rfl h.ok.r.base (by have := leasedL_lt hi; have := h.ok.r.size; omega) (release_any g i w h hi)
      rw [e] at hs
      have HF := Lib.hid hf
      have HS := Lib.hid hs
      clear h hf hh hl hi e hie hs hr
      go_enter Tryd.func17, Tryd.ntmps17
      go_wp2_with fail
      refine HF.out.mono ?_
      rintro e w' ⟨rfl, rfl⟩
      go_wp2_with fail
      refine HS.out.mono ?_
      rintro e w1 ⟨rfl, hg⟩
      have HG := Lib.hid hg
      clear hg HS
      go_wp2
      go_ret
      exact ⟨rfl, HG.out⟩
    · rw [if_neg hl]
      rw [decide_eq_false hl, if_neg (by decide)] at hf
      have HF := Lib.hid hf
      have HS := Lib.hid (settle_err g 0 112 (.func (.func 39) #[.pointer (some ⟨g, 0, none⟩)] #[]) (by decide) w)
      have HG := Lib.hid (Goes.refl h)
      clear h hf hh hl
      go_enter Tryd.func17, Tryd.ntmps17
      go_wp2_with fail
      refine HF.out.mono ?_
      rintro e w' ⟨rfl, rfl⟩
      go_wp2_with fail
      refine HS.out.mono ?_
      rintro e w' ⟨rfl, rfl⟩
      go_wp2
      go_ret
      exact ⟨rfl, HG.out⟩
  · rw [if_neg hh] at hf ⊢
    have HF := Lib.hid hf
    have HS := Lib.hid (settle_err g 0 5 (.func (.func 39) #[.pointer (some ⟨g, 0, none⟩)] #[]) (by decide) w)
    have HG := Lib.hid (Goes.refl h)
    clear h hf hh
    go_enter Tryd.func17, Tryd.ntmps17
    go_wp2_with fail
    refine HF.out.mono ?_
    rintro e w' ⟨rfl, rfl⟩
    go_wp2_with fail
    refine HS.out.mono ?_
    rintro e w' ⟨rfl, rfl⟩
    go_wp2
    go_ret
    exact ⟨rfl, HG.out⟩
end Go.Proofs.YtoemghinolekgaaDoor.Pl
