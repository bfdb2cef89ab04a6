/-
  Same of two packets that are the same; the laws' cut, few.
-/
import Derived.Test.YtcpeglljcipcbaaPpF
import Derived.Test.YtcpeglljcipcbaaOpen
namespace Go.Proofs.Ytcpeglljcipcbaa
open Go.RowKit
set_option linter.unusedVariables false
set_option linter.unusedSimpArgs false

set_option maxHeartbeats 1000000 in
theorem psame_true (c s : Int) (A A' : Option Addr) (L C C' : Nat) (l : List UInt8) (w : World) (h1 : Bs w (.slice A L C) l) (h2 : Bs w (.slice A' L C') l) :
    Calls Try.prog 14 #[.agg #[.int .i64 c, .int .i64 s, .slice A L C], .agg #[.int .i64 c, .int .i64 s, .slice A' L C']] w fun e w' => e = .returned (.bool true) ∧ Below w.heap.size w w' := by
  have BA : Below w.heap.size w ((w.alloc (.cells #[.int .i64 c, .int .i64 s, .slice A L C] 24)).alloc (.cells #[.int .i64 c, .int .i64 s, .slice A' L C'] 24)) := ((Below.refl _ _).alloc (Nat.le_refl _) _).alloc (by simp) _
  have HBA := Lib.hid BA
  have s1 := run_string_of (P := Try.prog) 22 9 5 Try.underlying22 Try.underlying5 Try.underlying9 (h1.below BA)
  have s2 := run_string_of (P := Try.prog) 22 9 5 Try.underlying22 Try.underlying5 Try.underlying9 (h2.below BA)
  clear BA h1 h2
  go_enter Try.func14, Try.ntmps14
  go_wp2
  go_ret
  exact ⟨by simp, HBA.out⟩

theorem cut6_any (a : Option Addr) (n c : Nat) (w : World) (hn : n ≤ c) (hc : c ≤ maxLen):
    Calls Try.prog 9 #[.slice a n c] w fun e w' => e = .returned (.slice a (min n 1600) c) ∧ w = w' := by
  unfold maxLen at hc
  by_cases h : n ≤ 1600
  · have e : min n 1600 = n := by omega
    rw [e]
    go_enter Try.func9, Try.ntmps9
    go_wp2
    go_ret
    exact ⟨rfl, rfl⟩
  · have e : min n 1600 = 1600 := by omega
    rw [e]
    go_enter Try.func9, Try.ntmps9
    go_wp2
    go_ret
    exact ⟨rfl, rfl⟩
theorem cut6_in {W : World} {a : Option Addr} {n c : Nat} {l : List UInt8} (hn : l.length = n) (b : Bs W (.slice a n c) l) :
    ∃ (m : Nat) (x : List UInt8), m ≤ 1600 ∧ x.length = m ∧ Bs W (.slice a m c) x ∧ ∀ w, Calls Try.prog 9 #[.slice a n c] w fun e w' => e = .returned (.slice a m c) ∧ w = w' := by
  obtain ⟨_, _, es, hc, hm⟩ := b.shape
  simp only [Value.slice.injEq] at es
  obtain ⟨rfl, _, rfl⟩ := es
  have u := b.upto hn (min n 1600) (by omega)
  have g : (l.take (min n 1600)).length = min n 1600 := by rw [List.length_take]; omega
  exact ⟨min n 1600, l.take (min n 1600), by omega, g, u, fun w => cut6_any a n c w (by omega) hm⟩
/-- Of a question no more than is looked at. -/
theorem few_any (d : Dm) (w0 w : World) (hd : DOk w0 d) (hu : d.ul.length = d.un) (hr : d.rl.length = d.rn) (hk : d.kl.length = d.kn) :
    Calls Try.prog 17 #[.agg #[.int .i64 d.c, .int .i64 d.s, .string d.v, .slice d.ua d.un d.uc, .slice d.ra d.rn d.rc, .bool d.hu, .bool d.hr, .slice d.ka d.kn d.kc]] w fun e w' => ∃ d : Dm, e = .returned (.agg #[.int .i64 d.c, .int .i64 d.s, .string d.v, .slice d.ua d.un d.uc, .slice d.ra d.rn d.rc, .bool d.hu, .bool d.hr, .slice d.ka d.kn d.kc]) ∧ DOk w0 d ∧ DShort d ∧ Below w.heap.size w w' := by
  obtain ⟨m1, x1, hm1, hx1, b1, C1⟩ := cut6_in hu hd.u
  obtain ⟨m2, x2, hm2, hx2, b2, C2⟩ := cut6_in hr hd.r
  obtain ⟨m3, x3, hm3, hx3, b3, C3⟩ := cut6_in hk hd.k
  have HC1 := Lib.hid C1
  have HC2 := Lib.hid C2
  have HC3 := Lib.hid C3
  have HB1 := Lib.hid b1
  have HB2 := Lib.hid b2
  have HB3 := Lib.hid b3
  clear C1 C2 C3 b1 b2 b3
  by_cases hv : d.v.size ≤ 1600
  · go_enter Try.func17, Try.ntmps17
    go_wp2_with fail
    refine (HC1.out _).mono ?_
    rintro e w' ⟨rfl, rfl⟩
    go_wp2_with fail
    refine (HC2.out _).mono ?_
    rintro e w' ⟨rfl, rfl⟩
    go_wp2_with fail
    refine (HC3.out _).mono ?_
    rintro e w' ⟨rfl, rfl⟩
    go_wp2
    have HB0 : Below w.heap.size w ((w.alloc (.cells #[.int .i64 d.c, .int .i64 d.s, .string d.v, .slice d.ua m1 d.uc, .slice d.ra m2 d.rc, .bool d.hu, .bool d.hr, .slice d.ka m3 d.kc] 36)).alloc (.cells #[.int .i64 d.c, .int .i64 d.s, .string d.v, .slice d.ua m1 d.uc, .slice d.ra m2 d.rc, .bool d.hu, .bool d.hr, .slice d.ka m3 d.kc] 36)) := ((Below.refl _ _).alloc (Nat.le_refl _) _).alloc (by simp) _
    refine bodyPost_ret (v := .agg #[.int .i64 d.c, .int .i64 d.s, .string d.v, .slice d.ua m1 d.uc, .slice d.ra m2 d.rc, .bool d.hu, .bool d.hr, .slice d.ka m3 d.kc]) (results_cell_row Try.results17 _ _ (w.heap.size + 1) 36 _ (0, 0) _ rfl (heap2_1' w (.cells #[.int .i64 d.c, .int .i64 d.s, .string d.v, .slice d.ua m1 d.uc, .slice d.ra m2 d.rc, .bool d.hu, .bool d.hr, .slice d.ka m3 d.kc] 36) (.cells #[.int .i64 d.c, .int .i64 d.s, .string d.v, .slice d.ua m1 d.uc, .slice d.ra m2 d.rc, .bool d.hu, .bool d.hr, .slice d.ka m3 d.kc] 36)) Try.underlying36 rfl (by kernel_rfl)) rfl ?_
    exact ⟨⟨d.c, d.s, d.v, d.ua, m1, d.uc, x1, d.ra, m2, d.rc, x2, d.hu, d.hr, d.ka, m3, d.kc, x3⟩, rfl, ⟨HB1.out, HB2.out, HB3.out⟩, ⟨by exact hv, by show x1.length ≤ 1600; omega, by show x2.length ≤ 1600; omega, by show x3.length ≤ 1600; omega⟩, HB0⟩
  · go_enter Try.func17, Try.ntmps17
    go_wp2_with fail
    refine (HC1.out _).mono ?_
    rintro e w' ⟨rfl, rfl⟩
    go_wp2_with fail
    refine (HC2.out _).mono ?_
    rintro e w' ⟨rfl, rfl⟩
    go_wp2_with fail
    refine (HC3.out _).mono ?_
    rintro e w' ⟨rfl, rfl⟩
    go_wp2
    have HB0 : Below w.heap.size w ((w.alloc (.cells #[.int .i64 d.c, .int .i64 d.s, .string (d.v.extract 0 1600), .slice d.ua m1 d.uc, .slice d.ra m2 d.rc, .bool d.hu, .bool d.hr, .slice d.ka m3 d.kc] 36)).alloc (.cells #[.int .i64 d.c, .int .i64 d.s, .string (d.v.extract 0 1600), .slice d.ua m1 d.uc, .slice d.ra m2 d.rc, .bool d.hu, .bool d.hr, .slice d.ka m3 d.kc] 36)) := ((Below.refl _ _).alloc (Nat.le_refl _) _).alloc (by simp) _
    refine bodyPost_ret (v := .agg #[.int .i64 d.c, .int .i64 d.s, .string (d.v.extract 0 1600), .slice d.ua m1 d.uc, .slice d.ra m2 d.rc, .bool d.hu, .bool d.hr, .slice d.ka m3 d.kc]) (results_cell_row Try.results17 _ _ (w.heap.size + 1) 36 _ (0, 0) _ rfl (heap2_1' w (.cells #[.int .i64 d.c, .int .i64 d.s, .string (d.v.extract 0 1600), .slice d.ua m1 d.uc, .slice d.ra m2 d.rc, .bool d.hu, .bool d.hr, .slice d.ka m3 d.kc] 36) (.cells #[.int .i64 d.c, .int .i64 d.s, .string (d.v.extract 0 1600), .slice d.ua m1 d.uc, .slice d.ra m2 d.rc, .bool d.hu, .bool d.hr, .slice d.ka m3 d.kc] 36)) Try.underlying36 rfl (by kernel_rfl)) rfl ?_
    exact ⟨⟨d.c, d.s, (d.v.extract 0 1600), d.ua, m1, d.uc, x1, d.ra, m2, d.rc, x2, d.hu, d.hr, d.ka, m3, d.kc, x3⟩, rfl, ⟨HB1.out, HB2.out, HB3.out⟩, ⟨by show (d.v.extract 0 1600).size ≤ 1600; rw [ByteArray.size_extract]; omega, by show x1.length ≤ 1600; omega, by show x2.length ≤ 1600; omega, by show x3.length ≤ 1600; omega⟩, HB0⟩
end Go.Proofs.Ytcpeglljcipcbaa
