/-
  A walk along events: ours, the document's.
-/
import Derived.Test.YtmhiajjnkcneoaaFsK
namespace Go.Proofs.Ytmhiajjnkcneoaa.Fs
open Go.RowKit
open Go.Proofs.Ytmhiajjnkcneoaa.Id (Tr Tr.refl Tr.gr Tr.only)
set_option linter.unusedVariables false
set_option linter.unusedSimpArgs false
/-- What 'Walk' tells, ours and the document's. -/
def WRes (s : Int) (es : List Int) (w : World) (x : Ending) (w' : World) : Prop :=
  ∃ v, x = .returned (.tuple #[.int .i64 (wlk s es).1, v, .int .i64 ((wlk s es).2.2.1 : Int), .int .i64 (wlk s es).2.2.2]) ∧ AO w' w.heap.size v (wlk s es).2.1 ∧ Below w.heap.size w w'
theorem wres_of {s t f : Int} {k : Nat} {es acc : List Int} {v : Value} {w w' : World} (h : wlk s es = (t, acc, k, f)) (ho : AO w' w.heap.size v acc) (hb : Below w.heap.size w w') :
    WRes s es w (.returned (.tuple #[.int .i64 t, v, .int .i64 (k : Int), .int .i64 f])) w' := by
  unfold WRes
  rw [h]
  exact ⟨v, rfl, ho, hb⟩
theorem AO.tr {w w' : World} {p base : Nat} {s : Int} {v : Value} {l : List Int} (h : AO w base v l) (hs : Sm w p s) (ht : Tr [p] w w') : AO w' base v l := by
  refine ⟨h.1, ?_⟩
  rcases h.2 with h | ⟨g, cap, cur, h1, h2, h3, h4⟩
  · exact .inl h
  · refine .inr ⟨g, cap, cur, h1, h2, ?_, h4⟩
    refine ht.heap h3 fun hg => ?_
    obtain rfl := List.mem_singleton.1 hg
    have hs : w.heap[g]? = _ := hs
    rw [hs] at h3
    simp at h3
/-- Between two rounds. -/
structure Mid (s : Int) (es : List Int) (w : World) (p : Nat) (k : Nat) (t : Int) (acc : List Int) (v : Value) (wr : World) : Prop where
  gone : Gone s es k t acc
  ins : InS t
  few : acc.length ≤ 3 * k
  own : AO wr w.heap.size v acc
  low : Below w.heap.size w wr
  mem : Sm wr p t
theorem results4 {P : Program} {fn : Func} {a b c d : Tmp} (h : fn.results = #[.tmp a, .tmp b, .tmp c, .tmp d]) (tmps : Array Value) (w : World) :
    (results fn tmps).run P w = .ok (.tuple #[tmps.getD a undef, tmps.getD b undef, tmps.getD c undef, tmps.getD d undef]) w := by
  simp [results, h, Sem.run_bind, Result.andThen, Sem.run_pure]
set_option maxHeartbeats 4000000 in
set_option maxRecDepth 20000 in
theorem walk_in (s : Int) (a : Option Addr) (n c : Nat) (es : List Int) (w : World) (h : AR w (.slice a n c) es) (hn : n = es.length) (h60 : n ≤ 60) (hs : InS s) :
    Calls Try.prog 15 #[.int .i64 s, .slice a n c] w (WRes s es w) := by
  have HN := Lib.hid hn
  have H := Lib.hid h
  have HW : Hid (wlk s es = run s es) := by show _ = _; unfold wlk; rw [if_pos hs]
  have ha := (Below.refl w.heap.size w).alloc (Nat.le_refl _) (.cells #[.int .i64 s] 46)
  have HM : Hid (Sm (w.alloc (.cells #[.int .i64 s] 46)) w.heap.size s) := heap_alloc_last _ _
  have HO := Lib.hid (isOne_any w.heap.size s _ HM.out)
  rw [decide_eq_true hs] at HO
  have H0 : Hid (Mid s es w w.heap.size 0 s [] (.slice none 0 0) (w.alloc (.cells #[.int .i64 s] 46))) := ⟨Gone.start s es, hs, by simp, AO.nil _ _, ha, HM.out⟩
  obtain ⟨i0, hi, hz0, hz1, hz2⟩ := info_parts infoA
  clear h hn hs ha HM
  go_enter Try.func15, Try.ntmps15
  go_wp2_with fail
  refine HO.out.mono ?_
  rintro x w1 ⟨rfl, rfl⟩
  clear HO
  go_wp2_with fail
  go_loopw [10, 22] (fun lv iv wr => ∃ (k : Nat) (t : Int) (acc : List Int) (v : Value), k ≤ n ∧ iv = .int .i64 (k : Int) ∧ v = lv ∧ Mid s es w w.heap.size k t acc v wr) (fun _ iv _ => n - (intOf iv).toNat)
  case atStart => exact ⟨0, s, [], _, Nat.zero_le _, rfl, rfl, H0.out⟩
  case round =>
    clear H0
    obtain ⟨k, t, acc, lv, hk, rfl, rfl, hm⟩ := hrel
    have HM := Lib.hid hm
    clear hm
    by_cases hlt : k < n
    · have hkl : k < es.length := by rw [← HN.out]; exact hlt
      obtain ⟨b, o, ea, hc⟩ := AR.at (H.out.below HM.out.low) HN.out (by omega)
      subst ea
      obtain ⟨ev, hev⟩ : ∃ ev, ev = es[k] := ⟨_, rfl⟩
      have d0 := hc k hkl
      rw [← hev] at d0
      have HS := Lib.hid (step_any w.heap.size t ev wr HM.out.mem)
      have HY : Hid ((stp t ev).2.2 = 0 → Gone s es (k + 1) (stp t ev).1 (acc ++ (stp t ev).2.1)) := by
        intro h0; rw [hev] at h0 ⊢; exact HM.out.gone.more hkl h0
      have HX : Hid ((stp t ev).2.2 ≠ 0 → run s es = (t, acc, k, (stp t ev).2.2)) := by
        intro h0; rw [hev] at h0 ⊢; exact HM.out.gone.stop hkl h0
      have hle : k + 1 ≤ n := by omega
      clear hev hc hkl
      go_wp2_with fail
      refine HS.out.mono ?_
      rintro x w2 ⟨v2, rfl, ho2, hm2, ht2⟩
      have HO2 := Lib.hid ho2
      have HA2 := Lib.hid (HM.out.own.tr HM.out.mem ht2)
      have hsz : w.heap.size < wr.heap.size := (Array.getElem?_eq_some_iff.1 HM.out.mem).1
      have HB2 : Hid (Below w.heap.size w w2) := Tr.below HM.out.low (Nat.le_of_lt hsz) ht2 (fun k hk => by rw [List.mem_singleton.1 hk]; exact Nat.le_refl _)
      by_cases h0 : (stp t ev).2.2 = 0
      · have HM2 : Hid (Sm w2 w.heap.size (stp t ev).1) := by
          have := hm2
          unfold nxt at this
          rwa [if_pos h0] at this
        have HIN := Lib.hid (stp_in h0)
        have HG := Lib.hid (HY.out h0)
        have HF : Hid (acc.length ≤ 180 ∧ (stp t ev).2.1.length ≤ 3 ∧ acc.length ≤ 3 * k) := ⟨by have := HM.out.few; omega, stp_short _ _, HM.out.few⟩
        clear ho2 hm2 ht2 HX HY HS HM hsz d0
        go_wp2_with (at_builtin; refine wpList_append_gr _ rfl (.tmp 40) (.tmp 41) 24 rfl w.heap.size 36 i0 (.int .i64 0) 1 8 Try.underlying24 hi hz0 hz1 hz2 rfl (by decide) lv _ _ rfl HA2.out v2 _ _ rfl HO2.out.ar (ints_cell _) ?q1 (by decide) HB2.out.size ?_)
        case q1 => have := HF.out; omega
        intro v4 w4 hown hg
        have HB4 := Lib.hid (HB2.out.trans (grown_below HA2.out HB2.out.size hg))
        have HO4 : Hid (AO w4 w.heap.size v4 (acc ++ (stp t ev).2.1)) := by
          show World.ownsRow ..
          rw [ints_app, List.length_append]
          exact hown
        have HM4 : Hid (Sm w4 w.heap.size (stp t ev).1) := grown_heap HA2.out hg HM2.out (by decide)
        have HR : Hid (Mid s es w w.heap.size (k + 1) (stp t ev).1 (acc ++ (stp t ev).2.1) v4 w4) := ⟨HG.out, HIN.out, by rw [List.length_append]; have := HF.out; omega, HO4.out, HB4.out, HM4.out⟩
        clear hown hg HB4 HO4 HM4 HG HF HA2 HO2 HB2 HM2 HIN
        go_wp2_with fail
        go_roundw
        case rel =>
          first
            | exact ⟨k + 1, _, _, v4, hle, by go_num, rfl, HR.out⟩
            | ((repeat apply Exists.intro); exact ⟨⟨k + 1, _, _, v4, hle, by go_num, rfl, HR.out⟩, rfl⟩)
        case measure => simp [intOf]; omega
      · have hm3 : Sm w2 w.heap.size t := by
          have := hm2
          unfold nxt at this
          rwa [if_neg h0] at this
        have k0 := cell1 (show w2.heap[w.heap.size]? = some (.cells #[.int .i64 t] 46 (0, 0)) from hm3)
        have HRS := Lib.hid (wres_of (HW.out.trans (HX.out h0)) HA2.out HB2.out)
        clear ho2 hm2 hm3 ht2 HX HY HS HM hsz d0
        go_wp2_with fail
        refine bodyPost_ret (results4 Try.results15 _ _) rfl ?_
        exact HRS.out
    · have k0 := cell1 (show wr.heap[w.heap.size]? = some (.cells #[.int .i64 t] 46 (0, 0)) from HM.out.mem)
      have HRS := Lib.hid (wres_of (HW.out.trans (HM.out.gone.done (by have := HN.out; omega) (by have := HN.out; omega))) HM.out.own HM.out.low)
      rw [← HN.out] at HRS
      go_wp2_with fail
      refine bodyPost_ret (results4 Try.results15 _ _) rfl ?_
      exact HRS.out
theorem wlk_out {s : Int} {es : List Int} (h : ¬ InS s) : wlk s es = (0, [], 0, 140) := by unfold wlk; rw [if_neg h]
set_option maxHeartbeats 2000000 in
theorem Walk_any (s : Int) (v : Value) (es : List Int) (w : World) (h : AR w v es) (h60 : es.length ≤ 60) :
    Calls Try.prog 15 #[.int .i64 s, v] w (WRes s es w) := by
  obtain ⟨a, c, rfl, _⟩ := h.shape
  by_cases hs : InS s
  · exact walk_in s a es.length c es w h rfl h60 hs
  · have ha := (Below.refl w.heap.size w).alloc (Nat.le_refl _) (.cells #[.int .i64 s] 46)
    have HM : Hid (Sm (w.alloc (.cells #[.int .i64 s] 46)) w.heap.size s) := heap_alloc_last _ _
    have HO := Lib.hid (isOne_any w.heap.size s _ HM.out)
    rw [decide_eq_false hs] at HO
    have HR := Lib.hid (wres_of (wlk_out (es := es) hs) (AO.nil _ _) ha)
    clear h h60 hs ha HM
    go_enter Try.func15, Try.ntmps15
    go_wp2_with fail
    refine HO.out.mono ?_
    rintro x w1 ⟨rfl, rfl⟩
    clear HO
    go_wp2_with fail
    refine bodyPost_ret (results4 Try.results15 _ _) rfl ?_
    exact HR.out
set_option maxHeartbeats 4000000 in
set_option maxRecDepth 20000 in
theorem rwalk_in (s : Int) (a : Option Addr) (n c : Nat) (es : List Int) (w : World) (h : AR w (.slice a n c) es) (hn : n = es.length) (h60 : n ≤ 60) (hs : InS s) :
    Calls Try.prog 16 #[.int .i64 s, .slice a n c] w (WRes s es w) := by
  have HN := Lib.hid hn
  have H := Lib.hid h
  have HW : Hid (wlk s es = run s es) := by show _ = _; unfold wlk; rw [if_pos hs]
  have HI := Lib.hid hs
  have n1 : ¬ s < 0 := by unfold InS at hs; omega
  have n2 : ¬ 9 < s := by unfold InS at hs; omega
  obtain ⟨i0, hi, hz0, hz1, hz2⟩ := info_parts infoA
  clear h hn hs
  go_enter Try.func16, Try.ntmps16
  go_wp2_with fail
  go_loopw [0, 8, 9] (fun sv lv iv wr => ∃ (k : Nat) (t : Int) (acc : List Int) (v : Value), k ≤ n ∧ sv = .int .i64 t ∧ iv = .int .i64 (k : Int) ∧ v = lv ∧ Gone s es k t acc ∧ acc.length ≤ 3 * k ∧ AO wr w.heap.size v acc ∧ Below w.heap.size w wr) (fun _ _ iv _ => n - (intOf iv).toNat)
  case atStart => exact ⟨0, s, [], _, Nat.zero_le _, rfl, rfl, rfl, Gone.start s es, by simp, AO.nil _ _, Below.refl _ _⟩
  case round =>
    clear n1 n2
    obtain ⟨k, t, acc, lv, hk, rfl, rfl, rfl, hg, hf, ho, hb⟩ := hrel
    have HG := Lib.hid hg
    have HF := Lib.hid hf
    have HO := Lib.hid ho
    have HB := Lib.hid hb
    clear hg hf ho hb
    by_cases hlt : k < n
    · have hkl : k < es.length := by rw [← HN.out]; exact hlt
      obtain ⟨b, o, ea, hc⟩ := AR.at (H.out.below HB.out) HN.out (by omega)
      subst ea
      obtain ⟨ev, hev⟩ : ∃ ev, ev = es[k] := ⟨_, rfl⟩
      have d0 := hc k hkl
      rw [← hev] at d0
      have HS := Lib.hid (rStep_any t ev wr)
      have HY : Hid ((stp t ev).2.2 = 0 → Gone s es (k + 1) (stp t ev).1 (acc ++ (stp t ev).2.1)) := by
        intro h0; rw [hev] at h0 ⊢; exact HG.out.more hkl h0
      have HX : Hid ((stp t ev).2.2 ≠ 0 → run s es = (t, acc, k, (stp t ev).2.2)) := by
        intro h0; rw [hev] at h0 ⊢; exact HG.out.stop hkl h0
      have hle : k + 1 ≤ n := by omega
      clear hev hc hkl
      go_wp2_with fail
      refine HS.out.mono ?_
      rintro x w2 ⟨v2, rfl, ho2, hb2⟩
      have HO2 := Lib.hid ho2
      have HA2 := Lib.hid (HO.out.below hb2)
      have HB2 : Hid (Below w.heap.size w w2) := HB.out.trans (hb2.mono HB.out.size)
      by_cases h0 : (stp t ev).2.2 = 0
      · have HGN := Lib.hid (HY.out h0)
        have HFN : Hid (acc.length ≤ 180 ∧ (stp t ev).2.1.length ≤ 3 ∧ acc.length ≤ 3 * k) := ⟨by have := HF.out; omega, stp_short _ _, HF.out⟩
        clear ho2 hb2 HX HY HS HG HF HO HB d0
        go_wp2_with (at_builtin; refine wpList_append_gr _ rfl (.tmp 42) (.tmp 43) 24 rfl w.heap.size 36 i0 (.int .i64 0) 1 8 Try.underlying24 hi hz0 hz1 hz2 rfl (by decide) lv _ _ rfl HA2.out v2 _ _ rfl HO2.out.ar (ints_cell _) ?q1 (by decide) HB2.out.size ?_)
        case q1 => have := HFN.out; omega
        intro v4 w4 hown hg
        have HB4 := Lib.hid (HB2.out.trans (grown_below HA2.out HB2.out.size hg))
        have HO4 : Hid (AO w4 w.heap.size v4 (acc ++ (stp t ev).2.1)) := by
          show World.ownsRow ..
          rw [ints_app, List.length_append]
          exact hown
        have HFM : Hid ((acc ++ (stp t ev).2.1).length ≤ 3 * (k + 1)) := by show _ ≤ _; rw [List.length_append]; have := HFN.out; omega
        clear hown hg HFN HA2 HO2 HB2
        go_wp2_with fail
        go_roundw
        case rel =>
          first
            | exact ⟨k + 1, _, _, v4, hle, rfl, by go_num, rfl, HGN.out, HFM.out, HO4.out, HB4.out⟩
            | ((repeat apply Exists.intro); exact ⟨⟨k + 1, _, _, v4, hle, rfl, by go_num, rfl, HGN.out, HFM.out, HO4.out, HB4.out⟩, rfl⟩)
        case measure => simp [intOf]; omega
      · have HRS := Lib.hid (wres_of (HW.out.trans (HX.out h0)) HA2.out HB2.out)
        clear ho2 hb2 HX HY HS HG HF HO HB d0
        go_wp2_with fail
        refine bodyPost_ret (results4 Try.results16 _ _) rfl ?_
        exact HRS.out
    · have HRS := Lib.hid (wres_of (HW.out.trans (HG.out.done (by have := HN.out; omega) (by have := HN.out; omega))) HO.out HB.out)
      rw [← HN.out] at HRS
      go_wp2_with fail
      refine bodyPost_ret (results4 Try.results16 _ _) rfl ?_
      exact HRS.out
set_option maxHeartbeats 2000000 in
theorem rWalk_any (s : Int) (v : Value) (es : List Int) (w : World) (h : AR w v es) (h60 : es.length ≤ 60) :
    Calls Try.prog 16 #[.int .i64 s, v] w (WRes s es w) := by
  obtain ⟨a, c, rfl, _⟩ := h.shape
  by_cases hs : InS s
  · exact rwalk_in s a es.length c es w h rfl h60 hs
  · have HR := Lib.hid (wres_of (wlk_out (es := es) hs) (AO.nil _ _) (Below.refl w.heap.size w))
    by_cases n1 : s < 0
    · clear h h60 hs
      go_enter Try.func16, Try.ntmps16
      go_wp2_with fail
      refine bodyPost_ret (results4 Try.results16 _ _) rfl ?_
      exact HR.out
    · have n2 : 9 < s := by unfold InS at hs; omega
      clear h h60 hs
      go_enter Try.func16, Try.ntmps16
      go_wp2_with fail
      refine bodyPost_ret (results4 Try.results16 _ _) rfl ?_
      exact HR.out
end Go.Proofs.Ytmhiajjnkcneoaa.Fs
