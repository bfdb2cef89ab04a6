/-
  The document's: tickOK, Has, Free; two rows held against each other that are the same.
-/
import Derived.Test.YtpafcabcnkmadaaIdDb
namespace Go.Proofs.Ytpafcabcnkmadaa.Id
open Go.RowKit
set_option linter.unusedVariables false
set_option linter.unusedSimpArgs false

def Bd (rv uv ev : Value) : List Nat := blk rv ++ (blk uv ++ blk ev)
/-- The document's, its rows in blocks of their own. -/
structure DQ (w : World) (g : Nat) (rv uv ev : Value) (S : Al) : Prop where
  doc : DAt w g rv uv ev S
  ne : ∀ k ∈ Bd rv uv ev, k ≠ g ∧ k < w.heap.size
theorem DQ.gr {w w' : World} {g : Nat} {rv uv ev : Value} {S : Al} (h : DQ w g rv uv ev S) (hb : Below w.heap.size w w') : DQ w' g rv uv ev S := ⟨h.doc.gr hb, fun k hk => ⟨(h.ne k hk).1, Nat.lt_of_lt_of_le (h.ne k hk).2 hb.size⟩⟩
theorem DQ.lt {w : World} {g : Nat} {rv uv ev : Value} {S : Al} (h : DQ w g rv uv ev S) : g < w.heap.size := (Array.getElem?_eq_some_iff.1 h.doc.row).1
/-- Some other blocks have turned. -/
theorem DQ.tr {K : List Nat} {w w' : World} {g : Nat} {rv uv ev : Value} {S : Al} (h : DQ w g rv uv ev S) (ht : Tr K w w') (hd : ∀ k ∈ Fd g rv uv ev, k ∉ K) : DQ w' g rv uv ev S := by
  refine ⟨⟨ht.heap h.doc.row (hd g (by simp [Fd])), IR.tr h.doc.r ht fun k hk => hd k (by simp [Fd, hk]), IR.tr h.doc.u ht fun k hk => hd k (by simp [Fd, hk]), RR.tr h.doc.e ht fun k hk => hd k (by simp [Fd, hk])⟩, fun k hk => ⟨(h.ne k hk).1, Nat.lt_of_lt_of_le (h.ne k hk).2 ht.size⟩⟩
/-- A call of the document's has gone on to S. -/
def DGoes (g : Nat) (rv uv ev : Value) (w : World) (S : Al) (w' : World) : Prop :=
  ∃ rv' uv' ev', DQ w' g rv' uv' ev' S ∧ Tr [g] w w' ∧ ∀ k ∈ Bd rv' uv' ev', k ∈ Bd rv uv ev ∨ w.heap.size ≤ k
theorem dtick_any (t : Int) (w : World) :
    Calls Try.prog 45 #[.int .i64 t] w fun e w' => e = .returned (.bool (decide (okT t))) ∧ w = w' := by
  by_cases h0 : 0 ≤ t
  · by_cases h1 : t ≤ 1099511627776
    · rw [decide_eq_true (show okT t from ⟨h0, h1⟩)]
      go_enter Try.func45, Try.ntmps45
      go_wp2
      go_ret
      exact ⟨rfl, rfl⟩
    · rw [decide_eq_false (show ¬ okT t from fun h => h1 h.2)]
      go_enter Try.func45, Try.ntmps45
      go_wp2
      go_ret
      exact ⟨rfl, rfl⟩
  · rw [decide_eq_false (show ¬ okT t from fun h => h0 h.1)]
    go_enter Try.func45, Try.ntmps45
    go_wp2
    go_ret
    exact ⟨rfl, rfl⟩
set_option maxRecDepth 20000 in
theorem dhas_any (g : Nat) (id : Int) {rv uv ev : Value} {S : Al} (w : World) (h : DQ w g rv uv ev S) :
    Calls Try.prog 25 #[.pointer (some ⟨g, 0, none⟩), .int .i64 id] w fun e w' => e = .returned (.bool (decide (id ∈ S.used))) ∧ w = w' := by
  obtain ⟨k0, k1, k2, k3, k4, k5⟩ := cells6 h.doc.row
  have HU := Lib.hid h.doc.u
  obtain ⟨n, hn⟩ : ∃ n, n = S.used.length := ⟨_, rfl⟩
  obtain ⟨a, c, ev1, hc1, hc2⟩ := h.doc.u.shape
  rw [ev1] at HU k4
  rw [← hn] at HU k4 hc1
  have hn63 : (n : Int) ≤ 9223372036854775807 := by unfold maxLen at hc2; omega
  have HN := Lib.hid hn
  clear h ev1 hc1 hc2 hn
  go_enter Try.func25, Try.ntmps25
  go_wp2_with fail
  go_loopw [5] (fun iv wr => ∃ i : Nat, i ≤ n ∧ iv = .int .i64 (i : Int) ∧ w = wr ∧ ∀ k, (hk : k < i) → (hk2 : k < S.used.length) → S.used[k] ≠ id) (fun iv _ => n - (intOf iv).toNat)
  case atStart => exact ⟨0, Nat.zero_le _, rfl, rfl, fun k hk => by omega⟩
  case round =>
    obtain ⟨i, hin, rfl, rfl, hno⟩ := hrel
    have HNO := Lib.hid hno
    clear hno
    by_cases hlt : i < n
    · have hil : i < S.used.length := by rw [← HN.out]; exact hlt
      have hu0 := HU.out
      rw [HN.out] at hu0
      obtain ⟨b, o, ea, _, hcel⟩ := IR.cells hu0 (by omega)
      subst ea
      have hc := hcel i hil
      obtain ⟨x, hx⟩ : ∃ x, x = S.used[i] := ⟨_, rfl⟩
      rw [← hx] at hc
      have HX := Lib.hid hx
      clear hu0 hcel hx
      by_cases he : x = id
      · have he2 : (x == id) = true := by rw [he]; simp
        have HT : Hid (decide (id ∈ S.used) = true) := by show _ = _; rw [decide_eq_true_eq, ← he, HX.out]; exact List.getElem_mem hil
        clear HX
        subst he
        go_wp2_with fail
        go_ret
        exact ⟨by rw [HT.out]; rfl, rfl⟩
      · have he2 : (x == id) = false := by rw [beq_eq_false_iff_ne]; exact he
        have HNO2 : Hid (∀ k, (hk : k < i + 1) → (hk2 : k < S.used.length) → S.used[k] ≠ id) := fun k hk hk2 => by
          by_cases e : k = i
          · subst e; rw [← HX.out]; exact he
          · exact HNO.out k (by omega) hk2
        have hle : i + 1 ≤ n := by omega
        clear HX
        go_wp2_with fail
        go_roundw
        case rel =>
          first
            | exact ⟨i + 1, hle, by go_num, trivial, HNO2.out⟩
            | exact ⟨i + 1, hle, by go_num, rfl, HNO2.out⟩
            | ((repeat apply Exists.intro); exact ⟨⟨i + 1, hle, by go_num, rfl, HNO2.out⟩, rfl⟩)
        case measure => simp [intOf]; omega
    · have HT : decide (id ∈ S.used) = false := by
        rw [decide_eq_false_iff_not]
        intro hm
        obtain ⟨k, hk, hke⟩ := List.mem_iff_getElem.1 hm
        exact HNO.out k (by have := HN.out; omega) hk hke
      have HT2 := Lib.hid HT
      clear HT
      go_wp2_with fail
      go_ret
      exact ⟨by rw [HT2.out]; rfl, rfl⟩
set_option maxRecDepth 20000 in
theorem dfree_any (g : Nat) (t : Int) {rv uv ev : Value} {S : Al} (w : World) (h : DQ w g rv uv ev S) (hlen : S.row.length + S.rest.length ≤ 65534) :
    Calls Try.prog 27 #[.pointer (some ⟨g, 0, none⟩), .int .i64 t] w fun e w' => e = .returned (.int .i64 (free S t)) ∧ w = w' := by
  have T := dtick_any t w
  by_cases ht : okT t
  · rw [decide_eq_true ht] at T
    have HT := Lib.hid T
    obtain ⟨k0, k1, k2, k3, k4, k5⟩ := cells6 h.doc.row
    have HE := Lib.hid h.doc.e
    obtain ⟨n, hn⟩ : ∃ n, n = S.rest.length := ⟨_, rfl⟩
    obtain ⟨r, hr⟩ : ∃ r, r = S.row.length := ⟨_, rfl⟩
    obtain ⟨a, c, ev1, hc1, hc2⟩ := h.doc.e.shape
    obtain ⟨a2, c2, ev2, hc3, hc4⟩ := h.doc.r.shape
    rw [ev1] at HE k5
    rw [ev2] at k3
    rw [← hn] at HE k5 hlen
    rw [← hr] at k3 hlen
    have hfree : free S t = ((r + (S.rest.filter (ready t)).length : Nat) : Int) := by unfold free; rw [if_pos ht, hr]; omega
    rw [hfree]
    have HN := Lib.hid hn
    clear h ev1 hc1 hc2 ev2 hc3 hc4 hn hr T ht hfree
    go_enter Try.func27, Try.ntmps27
    go_wp2_with fail
    refine HT.out.mono ?_
    rintro e w' ⟨rfl, rfl⟩
    go_wp2_with fail
    go_loopw [5, 6] (fun sv iv wr => ∃ i : Nat, i ≤ n ∧ iv = .int .i64 (i : Int) ∧ sv = .int .i64 ((r + ((S.rest.take i).filter (ready t)).length : Nat) : Int) ∧ w = wr) (fun _ iv _ => n - (intOf iv).toNat)
    case atStart => exact ⟨0, Nat.zero_le _, rfl, by simp, rfl⟩
    case round =>
      obtain ⟨i, hin, rfl, rfl, rfl⟩ := hrel
      by_cases hlt : i < n
      · have hil : i < S.rest.length := by rw [← HN.out]; exact hlt
        have he0 := HE.out
        rw [HN.out] at he0
        obtain ⟨b, o, ea, _, hcel⟩ := RR.cells he0 (by omega)
        subst ea
        obtain ⟨hc0, hc1⟩ := hcel i hil
        obtain ⟨x, hx⟩ : ∃ x, x = S.rest[i] := ⟨_, rfl⟩
        rw [← hx] at hc0 hc1
        have hf := filter_take_succ (ready t) S.rest i hil
        rw [← hx] at hf
        obtain ⟨cn, hcn⟩ : ∃ cn, cn = ((S.rest.take i).filter (ready t)).length := ⟨_, rfl⟩
        have hcb : cn ≤ i := by rw [hcn]; refine Nat.le_trans (List.length_filter_le _ _) ?_; rw [List.length_take]; omega
        rw [← hcn]
        have hle : i + 1 ≤ n := by omega
        by_cases hr : x.2 ≤ t
        · have HC : Hid (((S.rest.take (i + 1)).filter (ready t)).length = cn + 1) := by show _ = _; rw [hf, List.length_append, ← hcn]; simp [ready, hr]
          have HRE : Hid (((r + (cn + 1) : Nat) : Int) = ((r + cn : Nat) : Int) + 1) := by show _ = _; omega
          obtain ⟨sm, hsm⟩ : ∃ sm, sm = r + cn := ⟨_, rfl⟩
          have hsb : sm ≤ 131068 := by omega
          rw [← hsm] at HRE ⊢
          clear he0 hcel hx hf hcn hsm
          go_wp2_with fail
          go_roundw
          case rel =>
            first
              | exact ⟨i + 1, hle, by go_num, by rw [HC.out, HRE.out], trivial⟩
              | exact ⟨i + 1, hle, by go_num, by rw [HC.out, HRE.out], rfl⟩
              | ((repeat apply Exists.intro); exact ⟨⟨i + 1, hle, by go_num, by rw [HC.out, HRE.out], rfl⟩, rfl⟩)
          case measure => simp [intOf]; omega
        · have HC : Hid (((S.rest.take (i + 1)).filter (ready t)).length = cn) := by show _ = _; rw [hf, List.length_append, ← hcn]; simp [ready, hr]
          clear he0 hcel hx hf hcn
          go_wp2_with fail
          go_roundw
          case rel =>
            first
              | exact ⟨i + 1, hle, by go_num, by rw [HC.out], trivial⟩
              | exact ⟨i + 1, hle, by go_num, by rw [HC.out], rfl⟩
              | ((repeat apply Exists.intro); exact ⟨⟨i + 1, hle, by go_num, by rw [HC.out], rfl⟩, rfl⟩)
          case measure => simp [intOf]; omega
      · rw [List.take_of_length_le (by rw [← HN.out]; omega)]
        go_wp2_with fail
        go_ret
        exact ⟨rfl, rfl⟩
  · rw [decide_eq_false ht] at T
    have HT := Lib.hid T
    have e : free S t = 0 := by unfold free; rw [if_neg ht]
    rw [e]
    clear h T ht e
    go_enter Try.func27, Try.ntmps27
    go_wp2_with fail
    refine HT.out.mono ?_
    rintro e w' ⟨rfl, rfl⟩
    go_wp2
    go_ret
    exact ⟨rfl, rfl⟩
end Go.Proofs.Ytpafcabcnkmadaa.Id
