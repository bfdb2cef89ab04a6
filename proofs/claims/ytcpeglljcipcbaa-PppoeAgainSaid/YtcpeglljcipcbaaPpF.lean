/-
  What each answer tells: the closures of Session, Refuse, Offer.
-/
import Derived.Test.YtcpeglljcipcbaaPpE
namespace Go.Proofs.Ytcpeglljcipcbaa
open Go.RowKit
set_option linter.unusedVariables false
set_option linter.unusedSimpArgs false

set_option maxHeartbeats 2000000 in
theorem tellS_any (w0 w : World) (g gd : Nat) (ls : List PT) (h : AP w0 w g ls) (d : Dm) (hd : DOk w0 d) (hg : w0.heap[gd]? = some (.cells #[.int .i64 d.c, .int .i64 d.s, .string d.v, .slice d.ua d.un d.uc, .slice d.ra d.rn d.rc, .bool d.hu, .bool d.hr, .slice d.ka d.kn d.kc] 36 (0, 0))) (hv : d.v.size ≤ 1600) (hn : ls.length ≤ 300) :
    Calls Try.prog 37 #[.func (.func 47) #[] #[.pointer (some ⟨g, 0, none⟩)], .pointer (some ⟨gd, 0, none⟩)] w fun e w' => e = .returned (.tuple #[]) ∧ AP w0 w' g (ls ++ ([(257, bl d.v)] ++ againL d.plain)) ∧ Adds w w' := by
  have HG1 := Lib.hid (heap_below hg h.low)
  obtain ⟨c, W1, hrun, hlv, hb⟩ := string_lv Try.underlying9 Try.underlying22 Try.underlying5 rfl d.v (by unfold maxLen; omega) w0 w
  have HP1 := Lib.hid (h.below hb)
  have HA1 := Lib.hid (Adds.of_below hb)
  have AD := Lib.hid (adder_any w0 W1 g ls HP1.out 257 _ _ _ _ hlv (by omega))
  have HD := Lib.hid hd
  obtain ⟨k0, k1, k2, k3, k4, k5, k6, k7⟩ := cells8 HG1.out
  clear h hb hlv hd hg
  go_enter Try.func37, Try.ntmps37
  go_wp2_with fail
  refine AD.out.mono ?_
  rintro e w2 ⟨rfl, hp2, ha2⟩
  have HP2 := Lib.hid hp2
  have HA2 := Lib.hid (HA1.out.trans ha2)
  have HG2 := Lib.hid (HA2.out.keep _ _ _ _ HG1.out (by decide) (by decide))
  clear k0 k1 k2 k3 k4 k5 k6 k7 hrun AD hp2 ha2
  obtain ⟨k0, k1, k2, k3, k4, k5, k6, k7⟩ := cells8 HG2.out
  have AG := Lib.hid (again_any w0 w2 g _ HP2.out d HD.out (by rw [List.length_append]; simp; omega))
  go_wp2_with fail
  refine AG.out.mono ?_
  rintro e w3 ⟨rfl, hp3, ha3⟩
  rw [List.append_assoc] at hp3
  have HP3 := Lib.hid hp3
  have HA3 := Lib.hid (HA2.out.trans ha3)
  clear hp3 ha3 k0 k1 k2 k3 k4 k5 k6 k7
  go_wp2
  go_end0
  exact ⟨rfl, HP3.out, HA3.out⟩

set_option maxHeartbeats 2000000 in
theorem tellR_any (w0 w : World) (g gt gw gd : Nat) (ls : List PT) (h : AP w0 w g ls) (d : Dm) (hd : DOk w0 d) (T : Int) (y : ByteArray) (ht : w0.heap[gt]? = some (.cells #[.int .i64 T] 3 (0, 0))) (hw : w0.heap[gw]? = some (.cells #[.string y] 9 (0, 0)))
    (hg : w0.heap[gd]? = some (.cells #[.int .i64 d.c, .int .i64 d.s, .string d.v, .slice d.ua d.un d.uc, .slice d.ra d.rn d.rc, .bool d.hu, .bool d.hr, .slice d.ka d.kn d.kc] 36 (0, 0))) (hy : y.size ≤ 1600) (hn : ls.length ≤ 300) :
    Calls Try.prog 38 #[.func (.func 47) #[] #[.pointer (some ⟨g, 0, none⟩)], .pointer (some ⟨gt, 0, none⟩), .pointer (some ⟨gw, 0, none⟩), .pointer (some ⟨gd, 0, none⟩)] w fun e w' => e = .returned (.tuple #[]) ∧ AP w0 w' g (ls ++ ([(T, bl y)] ++ againL d.plain)) ∧ Adds w w' := by
  have HG1 := Lib.hid (heap_below hg h.low)
  have kt := cell1 (heap_below ht h.low)
  have kw := cell1 (heap_below hw h.low)
  obtain ⟨c, W1, hrun, hlv, hb⟩ := string_lv Try.underlying9 Try.underlying22 Try.underlying5 rfl y (by unfold maxLen; omega) w0 w
  have HP1 := Lib.hid (h.below hb)
  have HA1 := Lib.hid (Adds.of_below hb)
  have AD := Lib.hid (adder_any w0 W1 g ls HP1.out T _ _ _ _ hlv (by omega))
  have HD := Lib.hid hd
  clear h hb hlv hd hg ht hw
  go_enter Try.func38, Try.ntmps38
  go_wp2_with fail
  refine AD.out.mono ?_
  rintro e w2 ⟨rfl, hp2, ha2⟩
  have HP2 := Lib.hid hp2
  have HA2 := Lib.hid (HA1.out.trans ha2)
  have HG2 := Lib.hid (HA2.out.keep _ _ _ _ HG1.out (by decide) (by decide))
  clear hrun AD hp2 ha2 kt kw
  obtain ⟨k0, k1, k2, k3, k4, k5, k6, k7⟩ := cells8 HG2.out
  have AG := Lib.hid (again_any w0 w2 g _ HP2.out d HD.out (by rw [List.length_append]; simp; omega))
  go_wp2_with fail
  refine AG.out.mono ?_
  rintro e w3 ⟨rfl, hp3, ha3⟩
  rw [List.append_assoc] at hp3
  have HP3 := Lib.hid hp3
  have HA3 := Lib.hid (HA2.out.trans ha3)
  clear hp3 ha3 k0 k1 k2 k3 k4 k5 k6 k7
  go_wp2
  go_end0
  exact ⟨rfl, HP3.out, HA3.out⟩

theorem short_again {d : Dm} (h : DShort d) (ls : List PT) (hl : ∀ x ∈ ls, x.2.length ≤ 1600) : ∀ x ∈ ls ++ againL d.plain, x.2.length ≤ 1600 := by
  intro x hx
  rcases List.mem_append.1 hx with hx | hx
  · exact hl x hx
  · unfold againL at hx
    rcases List.mem_append.1 hx with hx | hx
    · split at hx
      · rw [List.mem_singleton.1 hx]; exact h.u
      · cases hx
    · split at hx
      · rw [List.mem_singleton.1 hx]; exact h.r
      · cases hx
theorem text_ne {s t : ByteArray} (h : ¬ s = t) : (s.toList == t.toList) = false := by
  rw [beq_eq_false_iff_ne]
  intro e
  apply h
  rw [ByteArray.toList_eq, ByteArray.toList_eq] at e
  have := Array.toList_inj.1 e
  cases s; cases t
  exact congrArg ByteArray.mk this
theorem svcL_len (v : ByteArray) (ss : List ByteArray) : (svcL v ss).length ≤ ss.length := by unfold svcL; rw [List.length_map]; exact List.length_filter_le _ _
/-- A row of n texts that reads ss. -/
structure StrR (w : World) (a : Option Addr) (n c : Nat) (ss : List ByteArray) : Prop where
  rd : Rd w 1 (.slice a n c) n (ss.map Value.string)
  small : ∀ s ∈ ss, s.size ≤ 1600
  few : n ≤ 70
theorem StrR.len {w : World} {a : Option Addr} {n c : Nat} {ss : List ByteArray} (h : StrR w a n c ss) : ss.length = n := by have := h.rd.1; simpa using this
theorem StrR.below {w w' : World} {a : Option Addr} {n c : Nat} {ss : List ByteArray} (h : StrR w a n c ss) (hb : Below w.heap.size w w') : StrR w' a n c ss := ⟨h.rd.below hb, h.small, h.few⟩
theorem StrR.cells {w : World} {a : Option Addr} {n c : Nat} {ss : List ByteArray} (h : StrR w a n c ss) (hn : 0 < n) : ∃ b o, a = some ⟨b, o, none⟩ ∧ b < w.heap.size ∧ ∀ j (hj : j < ss.length), w.cell? ⟨b, o + j, none⟩ = some (.string ss[j]) := by
  obtain ⟨b, o, h1, h2, h3⟩ := Rd.cells h.rd hn (by omega)
  exact ⟨b, o, h1, h2, fun j hj => h3 j _ (by simp [hj])⟩

set_option maxHeartbeats 4000000 in
theorem tellO_any (w0 w : World) (g gn gd gs gk : Nat) (h : AP w0 w g []) (d : Dm) (hd : DOk w0 d) (y : ByteArray) (sa : Option Addr) (sn sc : Nat) (ss : List ByteArray) (hss : StrR w0 sa sn sc ss) (ka : Option Addr) (kn kc : Nat) (kl : List UInt8) (hk : Bs w0 (.slice ka kn kc) kl)
    (hgn : w0.heap[gn]? = some (.cells #[.string y] 9 (0, 0))) (hg : w0.heap[gd]? = some (.cells #[.int .i64 d.c, .int .i64 d.s, .string d.v, .slice d.ua d.un d.uc, .slice d.ra d.rn d.rc, .bool d.hu, .bool d.hr, .slice d.ka d.kn d.kc] 36 (0, 0))) (hgs : w0.heap[gs]? = some (.cells #[.slice sa sn sc] 34 (0, 0))) (hgk : w0.heap[gk]? = some (.cells #[.slice ka kn kc] 22 (0, 0)))
    (hy : y.size ≤ 1600) (hv : d.v.size ≤ 1600) :
    Calls Try.prog 32 #[.func (.func 47) #[] #[.pointer (some ⟨g, 0, none⟩)], .pointer (some ⟨gn, 0, none⟩), .pointer (some ⟨gd, 0, none⟩), .pointer (some ⟨gs, 0, none⟩), .pointer (some ⟨gk, 0, none⟩)] w fun e w' => e = .returned (.tuple #[]) ∧ AP w0 w' g (offerL y ss d.plain kl) ∧ Adds w w' := by
  have HGD := Lib.hid hg
  have HGN := Lib.hid hgn
  have HGS := Lib.hid hgs
  have HGK := Lib.hid hgk
  have HK := Lib.hid hk
  have HD := Lib.hid hd
  have HSS := Lib.hid hss
  have hsn : sn ≤ 70 := hss.few
  have hln := hss.len
  have kn0 := cell1 (heap_below hgn h.low)
  obtain ⟨c1, W1, hrun1, hlv1, hb1⟩ := string_lv Try.underlying9 Try.underlying22 Try.underlying5 rfl y (by unfold maxLen; omega) w0 w
  have HP1 := Lib.hid (h.below hb1)
  have HA1 := Lib.hid (Adds.of_below hb1)
  have AD1 := Lib.hid (adder_any w0 W1 g [] HP1.out 258 _ _ _ _ hlv1 (by decide))
  clear h hb1 hlv1 hd hg hgn hgs hgk hk hss
  go_enter Try.func32, Try.ntmps32
  go_wp2_with fail
  refine AD1.out.mono ?_
  rintro e w2 ⟨rfl, hp2, ha2⟩
  have HP2 := Lib.hid hp2
  have HA2 := Lib.hid (HA1.out.trans ha2)
  clear hrun1 AD1 hp2 ha2 kn0
  have kd := (cells8 (heap_below HGD.out HP2.out.low)).2.2.1
  obtain ⟨c3, W3, hrun3, hlv3, hb3⟩ := string_lv Try.underlying9 Try.underlying22 Try.underlying5 rfl d.v (by unfold maxLen; omega) w0 w2
  have HP3 := Lib.hid (HP2.out.below hb3)
  have HA3 := Lib.hid (HA2.out.trans (Adds.of_below hb3))
  have AD3 := Lib.hid (adder_any w0 W3 g _ HP3.out 257 _ _ _ _ hlv3 (by simp))
  clear hb3 hlv3
  go_wp2_with fail
  refine AD3.out.mono ?_
  rintro e w4 ⟨rfl, hp4, ha4⟩
  have HP4 : Hid (AP w0 w4 g ([((258 : Int), bl y), (257, bl d.v)] ++ svcL d.v (ss.take 0))) := hp4
  have HA4 := Lib.hid (HA3.out.trans ha4)
  clear hrun3 AD3 hp4 ha4 kd
  have ks := cell1 (heap_below HGS.out HP4.out.low)
  go_wp2
  go_loopw [19] (fun iv wr => ∃ k : Nat, k ≤ sn ∧ iv = .int .i64 k ∧ AP w0 wr g ([((258 : Int), bl y), (257, bl d.v)] ++ svcL d.v (ss.take k)) ∧ Adds w wr) (fun iv _ => sn - (intOf iv).toNat)
  case atStart => exact ⟨0, Nat.zero_le _, rfl, HP4.out, HA4.out⟩
  case round =>
    clear ks HP1 HP2 HP3 HP4 HA1 HA2 HA3 HA4
    obtain ⟨k, hk, rfl, hp, ha⟩ := hrel
    have HP := Lib.hid hp
    have HA := Lib.hid ha
    clear hp ha
    by_cases hlt : k < sn
    · obtain ⟨b, o, rfl, hbl, hc⟩ := (HSS.out.below HP.out.low).cells (by omega)
      have hck := hc k (by omega)
      have kd := (cells8 (heap_below HGD.out HP.out.low)).2.2.1
      obtain ⟨s, hs⟩ : ∃ s, s = ss[k] := ⟨_, rfl⟩
      rw [← hs] at hck
      have HS := Lib.hid hs
      have HSM : Hid (s.size ≤ 1600) := by show _ ≤ _; rw [hs]; exact HSS.out.small _ (List.getElem_mem _)
      clear hs hc
      by_cases hsv : s = d.v
      · have HN : Hid (svcL d.v (ss.take (k + 1)) = svcL d.v (ss.take k)) := by
          show _ = _
          rw [svcL_snoc _ _ _ (by omega), if_pos (by rw [← HS.out]; exact hsv), List.append_nil]
        subst hsv
        have hq := HP.out
        rw [← HN.out] at hq
        have HQ := Lib.hid hq
        clear hq
        go_wp2
        all_goals
          refine ⟨?_, ?_⟩
          · first | exact ⟨k + 1, by omega, by go_num, HQ.out, HA.out⟩ | ((repeat apply Exists.intro); exact ⟨⟨k + 1, by omega, by go_num, HQ.out, HA.out⟩, rfl⟩)
          · simp [intOf]; omega
      · have HN : Hid (svcL d.v (ss.take (k + 1)) = svcL d.v (ss.take k) ++ [(257, bl s)]) := by
          show _ = _
          rw [svcL_snoc _ _ _ (by omega), if_neg (by rw [← HS.out]; exact hsv), ← HS.out]
        have hne : (s.toList == d.v.toList) = false := text_ne hsv
        obtain ⟨c5, W5, hrun5, hlv5, hb5⟩ := string_lv Try.underlying9 Try.underlying22 Try.underlying5 rfl s (by have := HSM.out; unfold maxLen; omega) w0 wr
        have HP5 := Lib.hid (HP.out.below hb5)
        have HA5 := Lib.hid (HA.out.trans (Adds.of_below hb5))
        have AD5 := Lib.hid (adder_any w0 W5 g _ HP5.out 257 _ _ _ _ hlv5 (by rw [List.length_append]; have := svcL_len d.v (ss.take k); rw [List.length_take] at this; simp; omega))
        clear hb5 hlv5
        go_wp2_with fail
        refine AD5.out.mono ?_
        rintro e w6 ⟨rfl, hp6, ha6⟩
        rw [List.append_assoc, ← HN.out] at hp6
        have HP6 := Lib.hid hp6
        have HA6 := Lib.hid (HA5.out.trans ha6)
        clear hrun5 AD5 hp6 ha6
        go_wp2
        go_roundw
        case rel =>
          first | exact ⟨k + 1, by omega, by go_num, HP6.out, HA6.out⟩ | ((repeat apply Exists.intro); exact ⟨⟨k + 1, by omega, by go_num, HP6.out, HA6.out⟩, rfl⟩)
        case measure => simp [intOf]; omega
    · obtain rfl : sn = k := by omega
      have HW : Hid (ss.take sn = ss) := by show _ = _; rw [← hln, List.take_length]
      have hp := HP.out
      rw [HW.out] at hp
      have HP7 := Lib.hid hp
      clear hp
      obtain ⟨k0, k1, k2, k3, k4, k5, k6, k7⟩ := cells8 (heap_below HGD.out HP7.out.low)
      have AG := Lib.hid (again_any w0 wr g _ HP7.out d HD.out (by rw [List.length_append]; have := svcL_len d.v ss; simp; omega))
      go_wp2_with fail
      refine AG.out.mono ?_
      rintro e w8 ⟨rfl, hp8, ha8⟩
      have HP8 := Lib.hid hp8
      have HA8 := Lib.hid (HA.out.trans ha8)
      clear AG hp8 ha8 k0 k1 k2 k3 k4 k5 k6 k7
      have kk := cell1 (heap_below HGK.out HP8.out.low)
      have AD9 := Lib.hid (adder_any w0 w8 g _ HP8.out 260 ka kn kc kl (.inl HK.out) (by rw [List.length_append, List.length_append]; have := svcL_len d.v ss; have := againL_len d.plain; simp; omega))
      go_wp2_with fail
      refine AD9.out.mono ?_
      rintro e w9 ⟨rfl, hp9, ha9⟩
      have HP9 : Hid (AP w0 w9 g (offerL y ss d.plain kl)) := hp9
      have HA9 := Lib.hid (HA8.out.trans ha9)
      clear AD9 hp9 ha9 kk
      go_wp2
      go_end0
      exact ⟨rfl, HP9.out, HA9.out⟩
end Go.Proofs.Ytcpeglljcipcbaa
