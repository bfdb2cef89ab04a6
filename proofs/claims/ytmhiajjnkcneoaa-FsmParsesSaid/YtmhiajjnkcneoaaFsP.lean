/-
  RFC 1661's automaton in plain words: names, the table as texts and as steps; what a step and a walk tell.
-/
import Derived.Test.YtmhiajjnkcneoaaIdM
namespace Go.Proofs.Ytmhiajjnkcneoaa.Fs
set_option linter.unusedVariables false
set_option linter.unusedSimpArgs false
/-- The states' names. -/
def names : List (List UInt8) := [
  [73, 110, 105, 116, 105, 97, 108],
  [83, 116, 97, 114, 116, 105, 110, 103],
  [67, 108, 111, 115, 101, 100],
  [83, 116, 111, 112, 112, 101, 100],
  [67, 108, 111, 115, 105, 110, 103],
  [83, 116, 111, 112, 112, 105, 110, 103],
  [82, 101, 113, 45, 83, 101, 110, 116],
  [65, 99, 107, 45, 82, 99, 118, 100],
  [65, 99, 107, 45, 83, 101, 110, 116],
  [79, 112, 101, 110, 101, 100]]
/-- The events' names (none has the number 0). -/
def evs : List (List UInt8) := [
  [],
  [85, 112],
  [68, 111, 119, 110],
  [79, 112, 101, 110],
  [67, 108, 111, 115, 101],
  [84, 79, 43],
  [84, 79, 45],
  [82, 67, 82, 43],
  [82, 67, 82, 45],
  [82, 67, 65],
  [82, 67, 78],
  [82, 84, 82],
  [82, 84, 65],
  [82, 85, 67],
  [82, 88, 74, 43],
  [82, 88, 74, 45],
  [82, 88, 82]]
/-- The actions' names (none has the number 0). -/
def acs : List (List UInt8) := [
  [],
  [116, 108, 117],
  [116, 108, 100],
  [116, 108, 115],
  [116, 108, 102],
  [105, 114, 99],
  [122, 114, 99],
  [115, 99, 114],
  [115, 99, 97],
  [115, 99, 110],
  [115, 116, 114],
  [115, 116, 97],
  [115, 99, 106],
  [115, 101, 114]]
/-- The name of number x; empty, if there is none. -/
def nm (l : List (List UInt8)) (x : Int) : List UInt8 := if 0 ≤ x ∧ x < (l.length : Int) then l.getD x.toNat [] else []
/-- The table as texts: a row for each event. -/
def cellT : List (List (List UInt8)) := [
  [[50], [105, 114, 99, 32, 115, 99, 114, 47, 54], [45], [45], [45], [45], [45], [45], [45], [45]],
  [[45], [45], [48], [116, 108, 115, 47, 49], [48], [49], [49], [49], [49], [116, 108, 100, 47, 49]],
  [[116, 108, 115, 47, 49], [49], [105, 114, 99, 32, 115, 99, 114, 47, 54], [51], [53], [53], [54], [55], [56], [57]],
  [[48], [116, 108, 102, 47, 48], [50], [50], [52], [52], [105, 114, 99, 32, 115, 116, 114, 47, 52], [105, 114, 99, 32, 115, 116, 114, 47, 52], [105, 114, 99, 32, 115, 116, 114, 47, 52], [116, 108, 100, 32, 105, 114, 99, 32, 115, 116, 114, 47, 52]],
  [[45], [45], [45], [45], [115, 116, 114, 47, 52], [115, 116, 114, 47, 53], [115, 99, 114, 47, 54], [115, 99, 114, 47, 54], [115, 99, 114, 47, 56], [45]],
  [[45], [45], [45], [45], [116, 108, 102, 47, 50], [116, 108, 102, 47, 51], [116, 108, 102, 47, 51], [116, 108, 102, 47, 51], [116, 108, 102, 47, 51], [45]],
  [[45], [45], [115, 116, 97, 47, 50], [105, 114, 99, 32, 115, 99, 114, 32, 115, 99, 97, 47, 56], [52], [53], [115, 99, 97, 47, 56], [115, 99, 97, 32, 116, 108, 117, 47, 57], [115, 99, 97, 47, 56], [116, 108, 100, 32, 115, 99, 114, 32, 115, 99, 97, 47, 56]],
  [[45], [45], [115, 116, 97, 47, 50], [105, 114, 99, 32, 115, 99, 114, 32, 115, 99, 110, 47, 54], [52], [53], [115, 99, 110, 47, 54], [115, 99, 110, 47, 55], [115, 99, 110, 47, 54], [116, 108, 100, 32, 115, 99, 114, 32, 115, 99, 110, 47, 54]],
  [[45], [45], [115, 116, 97, 47, 50], [115, 116, 97, 47, 51], [52], [53], [105, 114, 99, 47, 55], [115, 99, 114, 47, 54], [105, 114, 99, 32, 116, 108, 117, 47, 57], [116, 108, 100, 32, 115, 99, 114, 47, 54]],
  [[45], [45], [115, 116, 97, 47, 50], [115, 116, 97, 47, 51], [52], [53], [105, 114, 99, 32, 115, 99, 114, 47, 54], [115, 99, 114, 47, 54], [105, 114, 99, 32, 115, 99, 114, 47, 56], [116, 108, 100, 32, 115, 99, 114, 47, 54]],
  [[45], [45], [115, 116, 97, 47, 50], [115, 116, 97, 47, 51], [115, 116, 97, 47, 52], [115, 116, 97, 47, 53], [115, 116, 97, 47, 54], [115, 116, 97, 47, 54], [115, 116, 97, 47, 54], [116, 108, 100, 32, 122, 114, 99, 32, 115, 116, 97, 47, 53]],
  [[45], [45], [50], [51], [116, 108, 102, 47, 50], [116, 108, 102, 47, 51], [54], [54], [56], [116, 108, 100, 32, 115, 99, 114, 47, 54]],
  [[45], [45], [115, 99, 106, 47, 50], [115, 99, 106, 47, 51], [115, 99, 106, 47, 52], [115, 99, 106, 47, 53], [115, 99, 106, 47, 54], [115, 99, 106, 47, 55], [115, 99, 106, 47, 56], [115, 99, 106, 47, 57]],
  [[45], [45], [50], [51], [52], [53], [54], [54], [56], [57]],
  [[45], [45], [116, 108, 102, 47, 50], [116, 108, 102, 47, 51], [116, 108, 102, 47, 50], [116, 108, 102, 47, 51], [116, 108, 102, 47, 51], [116, 108, 102, 47, 51], [116, 108, 102, 47, 51], [116, 108, 100, 32, 105, 114, 99, 32, 115, 116, 114, 47, 53]],
  [[45], [45], [50], [51], [52], [53], [54], [55], [56], [115, 101, 114, 47, 57]]]
/-- The table as steps. -/
def tabT : List (List (Option (Int × List Int))) := [
  [some (2, []), some (6, [5, 7]), none, none, none, none, none, none, none, none],
  [none, none, some (0, []), some (1, [3]), some (0, []), some (1, []), some (1, []), some (1, []), some (1, []), some (1, [2])],
  [some (1, [3]), some (1, []), some (6, [5, 7]), some (3, []), some (5, []), some (5, []), some (6, []), some (7, []), some (8, []), some (9, [])],
  [some (0, []), some (0, [4]), some (2, []), some (2, []), some (4, []), some (4, []), some (4, [5, 10]), some (4, [5, 10]), some (4, [5, 10]), some (4, [2, 5, 10])],
  [none, none, none, none, some (4, [10]), some (5, [10]), some (6, [7]), some (6, [7]), some (8, [7]), none],
  [none, none, none, none, some (2, [4]), some (3, [4]), some (3, [4]), some (3, [4]), some (3, [4]), none],
  [none, none, some (2, [11]), some (8, [5, 7, 8]), some (4, []), some (5, []), some (8, [8]), some (9, [8, 1]), some (8, [8]), some (8, [2, 7, 8])],
  [none, none, some (2, [11]), some (6, [5, 7, 9]), some (4, []), some (5, []), some (6, [9]), some (7, [9]), some (6, [9]), some (6, [2, 7, 9])],
  [none, none, some (2, [11]), some (3, [11]), some (4, []), some (5, []), some (7, [5]), some (6, [7]), some (9, [5, 1]), some (6, [2, 7])],
  [none, none, some (2, [11]), some (3, [11]), some (4, []), some (5, []), some (6, [5, 7]), some (6, [7]), some (8, [5, 7]), some (6, [2, 7])],
  [none, none, some (2, [11]), some (3, [11]), some (4, [11]), some (5, [11]), some (6, [11]), some (6, [11]), some (6, [11]), some (5, [2, 6, 11])],
  [none, none, some (2, []), some (3, []), some (2, [4]), some (3, [4]), some (6, []), some (6, []), some (8, []), some (6, [2, 7])],
  [none, none, some (2, [12]), some (3, [12]), some (4, [12]), some (5, [12]), some (6, [12]), some (7, [12]), some (8, [12]), some (9, [12])],
  [none, none, some (2, []), some (3, []), some (4, []), some (5, []), some (6, []), some (6, []), some (8, []), some (9, [])],
  [none, none, some (2, [4]), some (3, [4]), some (2, [4]), some (3, [4]), some (3, [4]), some (3, [4]), some (3, [4]), some (5, [2, 5, 10])],
  [none, none, some (2, []), some (3, []), some (4, []), some (5, []), some (6, []), some (7, []), some (8, []), some (9, [13])]]

def InS (s : Int) : Prop := 0 ≤ s ∧ s ≤ 9
instance (s : Int) : Decidable (InS s) := by unfold InS; infer_instance
def InE (e : Int) : Prop := 1 ≤ e ∧ e ≤ 16
instance (e : Int) : Decidable (InE e) := by unfold InE; infer_instance
def tab (s e : Int) : Option (Int × List Int) := (tabT.getD (e.toNat - 1) []).getD s.toNat none
def cellOf (s e : Int) : List UInt8 := (cellT.getD (e.toNat - 1) []).getD s.toNat []
/-- What a step tells: the next state, the actions, the error. -/
def stp (s e : Int) : Int × List Int × Int := if InS s ∧ InE e then (match tab s e with | none => (0, [], 5) | some (n, l) => (n, l, 0)) else (0, [], 140)
/-- All states, all events. -/
theorem all_steps (p : Int → Int → Bool) (h : ((List.range 10).all fun s => (List.range 16).all fun e => p (s : Int) ((e : Int) + 1)) = true) : ∀ s e, InS s → InE e → p s e = true := by
  intro s e hs he
  have h1 := List.all_eq_true.1 h s.toNat (List.mem_range.2 (by unfold InS at hs; omega))
  have h2 := List.all_eq_true.1 h1 (e - 1).toNat (List.mem_range.2 (by unfold InE at he; omega))
  have e1 : ((s.toNat : Nat) : Int) = s := by unfold InS at hs; omega
  have e2 : (((e - 1).toNat : Nat) : Int) + 1 = e := by unfold InE at he; omega
  rwa [e1, e2] at h2
theorem all_states (p : Int → Bool) (h : ((List.range 10).all fun s => p (s : Int)) = true) : ∀ s, InS s → p s = true := by
  intro s hs
  have h1 := List.all_eq_true.1 h s.toNat (List.mem_range.2 (by unfold InS at hs; omega))
  have e1 : ((s.toNat : Nat) : Int) = s := by unfold InS at hs; omega
  rwa [e1] at h1
theorem stp_ok {s e : Int} (h : (stp s e).2.2 = 0) : InS s ∧ InE e := by
  unfold stp at h
  by_cases c : InS s ∧ InE e
  · exact c
  · rw [if_neg c] at h; exact absurd h (by decide)
theorem stp_out {s e : Int} (h : ¬ (InS s ∧ InE e)) : stp s e = (0, [], 140) := by unfold stp; rw [if_neg h]
/-- Without a step there is no action and no state; of a step the next state is one. -/
theorem stp_err {s e : Int} (h : (stp s e).2.2 ≠ 0) : (stp s e).1 = 0 ∧ (stp s e).2.1 = [] := by
  unfold stp at h ⊢
  by_cases c : InS s ∧ InE e
  · rw [if_pos c] at h ⊢
    cases ht : tab s e with
    | none => exact ⟨rfl, rfl⟩
    | some x => rw [ht] at h; exact absurd rfl h
  · rw [if_neg c]; exact ⟨rfl, rfl⟩
theorem stp_in {s e : Int} (h : (stp s e).2.2 = 0) : InS (stp s e).1 := by
  obtain ⟨h1, h2⟩ := stp_ok h
  have := all_steps (fun s e => decide (InS (stp s e).1)) (by decide +kernel) s e h1 h2
  exact of_decide_eq_true this
theorem stp_short (s e : Int) : (stp s e).2.1.length ≤ 3 := by
  by_cases c : InS s ∧ InE e
  · have := all_steps (fun s e => decide ((stp s e).2.1.length ≤ 3)) (by decide +kernel) s e c.1 c.2
    exact of_decide_eq_true this
  · rw [stp_out c]; decide
theorem stp_kind (s e : Int) : (stp s e).2.2 = 0 ∨ (stp s e).2.2 = 5 ∨ (stp s e).2.2 = 140 := by
  unfold stp
  split
  · split
    · exact .inr (.inl rfl)
    · exact .inl rfl
  · exact .inr (.inr rfl)
/-! The texts tell the table. -/
/-- The place of a text in a row, from place k on. -/
def look (l : List (List UInt8)) (t : List UInt8) : Nat → Option Nat
  | 0 => none
  | n + 1 => match look l t n with
    | some i => some i
    | none => if l.getD n [] = t then some n else none
theorem look_lt {l : List (List UInt8)} {t : List UInt8} : ∀ {n i : Nat}, look l t n = some i → i < n ∧ l.getD i [] = t
  | n + 1, i, h => by
    unfold look at h
    cases hl : look l t n with
    | some j => rw [hl] at h; obtain rfl := Option.some.inj h; have := look_lt hl; exact ⟨by omega, this.2⟩
    | none =>
      rw [hl] at h
      change (if l.getD n [] = t then some n else none) = some i at h
      by_cases c : l.getD n [] = t
      · rw [if_pos c] at h; obtain rfl := Option.some.inj h; exact ⟨by omega, c⟩
      · rw [if_neg c] at h; cases h
theorem look_yes {l : List (List UInt8)} {t : List UInt8} {n m : Nat} (h : look l t n = none) (ht : l.getD n [] = t) (hm : n < m) : look l t m = some n := by
  induction m with
  | zero => omega
  | succ m ih =>
    unfold look
    by_cases c : n = m
    · subst c; rw [h]; show (if l.getD n [] = t then some n else none) = some n; rw [if_pos ht]
    · rw [ih (by omega)]
theorem look_no {l : List (List UInt8)} {t : List UInt8} {n : Nat} (h : look l t n = none) (ht : ¬ l.getD n [] = t) : look l t (n + 1) = none := by
  unfold look
  rw [h]
  show (if l.getD n [] = t then some n else none) = none
  rw [if_neg ht]
/-- The state of a name. -/
def prs (t : List UInt8) : Int × Bool := match look names t 10 with | some i => ((i : Int), true) | none => (0, false)
/-- The action of a name: the empty one is that of number 0, which is none. -/
def act (t : List UInt8) : Int := match look acs.tail t 13 with | some i => (i : Int) + 1 | none => 0
/-- The actions that a cell names, k of them. -/
def actsN (c : List UInt8) (k : Nat) : List Int := (List.range k).map fun j => act ((c.drop (j * 4)).take 3)
theorem actsN_succ (c : List UInt8) (k : Nat) : actsN c (k + 1) = actsN c k ++ [act ((c.drop (k * 4)).take 3)] := by simp [actsN, List.range_succ]
def last (c : List UInt8) : Nat := (c.getD (c.length - 1) 0).toNat
/-- What the document's answer makes of a cell. -/
def readC (c : List UInt8) : Option (Int × List Int) := if c = [45] then none else some ((last c : Int) - 48, actsN c (c.length / 4))
theorem read_tab {s e : Int} (hs : InS s) (he : InE e) : readC (cellOf s e) = tab s e := by
  have := all_steps (fun s e => decide (readC (cellOf s e) = tab s e)) (by decide +kernel) s e hs he
  exact of_decide_eq_true this
theorem cell_ok {s e : Int} (hs : InS s) (he : InE e) : 0 < (cellOf s e).length ∧ (cellOf s e).length ≤ 13 ∧ (cellOf s e).length % 4 ≠ 0 ∧ (cellOf s e).length % 4 ≠ 3 ∧ (cellOf s e = [45] ∨ 48 ≤ last (cellOf s e) ∧ last (cellOf s e) ≤ 57) := by
  have := all_steps (fun s e => decide (0 < (cellOf s e).length ∧ (cellOf s e).length ≤ 13 ∧ (cellOf s e).length % 4 ≠ 0 ∧ (cellOf s e).length % 4 ≠ 3 ∧ (cellOf s e = [45] ∨ 48 ≤ last (cellOf s e) ∧ last (cellOf s e) ≤ 57))) (by decide +kernel) s e hs he
  exact of_decide_eq_true this
theorem prs_name (s : Int) : (prs (nm names s)).2 = decide (InS s) ∧ (InS s → (prs (nm names s)).1 = s) := by
  by_cases c : InS s
  · have := all_states (fun s => decide ((prs (nm names s)).2 = true ∧ (prs (nm names s)).1 = s)) (by decide +kernel) s c
    have h := of_decide_eq_true this
    exact ⟨by rw [h.1]; simp [c], fun _ => h.2⟩
  · have : nm names s = [] := by unfold nm; rw [if_neg]; unfold InS at c; show ¬ (0 ≤ s ∧ s < 10); omega
    rw [this]
    exact ⟨by simp [c]; decide +kernel, fun h => absurd h c⟩
/-! A walk. -/
abbrev Wk := Int × List Int × Nat × Int
def run : Int → List Int → Wk
  | s, [] => (s, [], 0, 0)
  | s, e :: es => if (stp s e).2.2 = 0 then (let r := run (stp s e).1 es; (r.1, (stp s e).2.1 ++ r.2.1, r.2.2.1 + 1, r.2.2.2)) else (s, [], 0, (stp s e).2.2)
def wlk (s : Int) (es : List Int) : Wk := if InS s then run s es else (0, [], 0, 140)
/-- Behind k events, in state t, all actions done being acc. -/
def Gone (s : Int) (es : List Int) (k : Nat) (t : Int) (acc : List Int) : Prop :=
  run s es = ((run t (es.drop k)).1, acc ++ (run t (es.drop k)).2.1, k + (run t (es.drop k)).2.2.1, (run t (es.drop k)).2.2.2)
theorem Gone.start (s : Int) (es : List Int) : Gone s es 0 s [] := by unfold Gone; simp
theorem Gone.more {s t : Int} {es acc : List Int} {k : Nat} (h : Gone s es k t acc) (hk : k < es.length) (h0 : (stp t es[k]).2.2 = 0) : Gone s es (k + 1) (stp t es[k]).1 (acc ++ (stp t es[k]).2.1) := by
  unfold Gone at h ⊢
  rw [List.drop_eq_getElem_cons hk] at h
  simp only [run, if_pos h0] at h
  rw [h]
  simp only [List.append_assoc]
  refine Prod.ext rfl (Prod.ext rfl (Prod.ext ?_ rfl))
  show _ + (_ + 1) = _ + 1 + _
  omega
theorem Gone.stop {s t : Int} {es acc : List Int} {k : Nat} (h : Gone s es k t acc) (hk : k < es.length) (h0 : (stp t es[k]).2.2 ≠ 0) : run s es = (t, acc, k, (stp t es[k]).2.2) := by
  unfold Gone at h
  rw [List.drop_eq_getElem_cons hk] at h
  simp only [run, if_neg h0] at h
  rw [h]; simp
theorem Gone.done {s t : Int} {es acc : List Int} {k : Nat} (h : Gone s es k t acc) (hk : es.length ≤ k) (hk2 : k ≤ es.length) : run s es = (t, acc, es.length, 0) := by
  obtain rfl : k = es.length := by omega
  unfold Gone at h
  rw [List.drop_length] at h
  simp only [run] at h
  rw [h]; simp
theorem run_short : ∀ (es : List Int) (s : Int), (run s es).2.1.length ≤ 3 * es.length
  | [], s => by simp [run]
  | e :: es, s => by
    unfold run
    split
    · have h1 := run_short es (stp s e).1
      have h2 := stp_short s e
      simp only [List.length_append, List.length_cons]
      omega
    · simp
/-! Up and down. -/
/-- Of these actions none is told twice in a row: what is up behind them. -/
def bal : Bool → List Int → Option Bool
  | u, [] => some u
  | u, a :: l => if a = 1 then (if u then none else bal true l) else if a = 2 then (if u then bal false l else none) else bal u l
theorem bal_append : ∀ (l m : List Int) (u : Bool), bal u (l ++ m) = (bal u l).bind fun v => bal v m
  | [], m, u => rfl
  | a :: l, m, u => by
    simp only [List.cons_append, bal]
    split
    · split
      · rfl
      · exact bal_append l m true
    · split
      · split
        · exact bal_append l m false
        · rfl
      · exact bal_append l m u
theorem bal_stp {s e : Int} (h : (stp s e).2.2 = 0) : bal (decide (s = 9)) (stp s e).2.1 = some (decide ((stp s e).1 = 9)) := by
  obtain ⟨h1, h2⟩ := stp_ok h
  have := all_steps (fun s e => decide ((stp s e).2.2 = 0 → bal (decide (s = 9)) (stp s e).2.1 = some (decide ((stp s e).1 = 9)))) (by decide +kernel) s e h1 h2
  exact of_decide_eq_true this h
theorem bal_run : ∀ (es : List Int) (s : Int), bal (decide (s = 9)) (run s es).2.1 = some (decide ((run s es).1 = 9))
  | [], s => rfl
  | e :: es, s => by
    unfold run
    split
    · rename_i h
      simp only [bal_append, bal_stp h, Option.bind_some]
      exact bal_run es _
    · rfl
/-- One more action, of those that go well. -/
theorem bal_more {u v : Bool} {l : List Int} {i : Nat} (hi : i < l.length) {x : Bool} (hx : bal u l = some x) (hv : bal u (l.take i) = some v) :
    (l[i] = 1 → v = false ∧ bal u (l.take (i + 1)) = some true) ∧ (l[i] = 2 → v = true ∧ bal u (l.take (i + 1)) = some false) ∧ (l[i] ≠ 1 → l[i] ≠ 2 → bal u (l.take (i + 1)) = some v) := by
  have e1 : l.take (i + 1) = l.take i ++ [l[i]] := List.take_succ_eq_append_getElem hi
  have e2 : l = l.take i ++ ([l[i]] ++ l.drop (i + 1)) := by rw [List.singleton_append, ← List.drop_eq_getElem_cons hi, List.take_append_drop]
  rw [e2, bal_append, hv, Option.bind_some, bal_append] at hx
  rw [e1, bal_append, hv, Option.bind_some]
  refine ⟨fun h => ?_, fun h => ?_, fun h1 h2 => ?_⟩
  · rw [h] at hx ⊢
    cases v with
    | false => exact ⟨rfl, rfl⟩
    | true => simp [bal] at hx
  · rw [h] at hx ⊢
    cases v with
    | false => simp [bal] at hx
    | true => exact ⟨rfl, rfl⟩
  · simp [bal, h1, h2]
/-! What follows. -/
theorem ups {s e : Int} (h : (stp s e).2.2 = 0) : decide (1 ∈ (stp s e).2.1) = (decide (s ≠ 9) && decide ((stp s e).1 = 9)) ∧ decide (2 ∈ (stp s e).2.1) = (decide (s = 9) && decide ((stp s e).1 ≠ 9)) := by
  obtain ⟨h1, h2⟩ := stp_ok h
  have := all_steps (fun s e => decide ((stp s e).2.2 = 0 → decide (1 ∈ (stp s e).2.1) = (decide (s ≠ 9) && decide ((stp s e).1 = 9)) ∧ decide (2 ∈ (stp s e).2.1) = (decide (s = 9) && decide ((stp s e).1 ≠ 9)))) (by decide +kernel) s e h1 h2
  exact of_decide_eq_true this h
theorem fins {s e : Int} (h : (stp s e).2.2 = 0) : (4 ∈ (stp s e).2.1 → (stp s e).1 = 0 ∨ (stp s e).1 = 2 ∨ (stp s e).1 = 3) ∧ (7 ∈ (stp s e).2.1 → (stp s e).1 = 6 ∨ (stp s e).1 = 7 ∨ (stp s e).1 = 8) ∧ (10 ∈ (stp s e).2.1 → (stp s e).1 = 4 ∨ (stp s e).1 = 5) := by
  obtain ⟨h1, h2⟩ := stp_ok h
  have := all_steps (fun s e => decide ((stp s e).2.2 = 0 → (4 ∈ (stp s e).2.1 → (stp s e).1 = 0 ∨ (stp s e).1 = 2 ∨ (stp s e).1 = 3) ∧ (7 ∈ (stp s e).2.1 → (stp s e).1 = 6 ∨ (stp s e).1 = 7 ∨ (stp s e).1 = 8) ∧ (10 ∈ (stp s e).2.1 → (stp s e).1 = 4 ∨ (stp s e).1 = 5))) (by decide +kernel) s e h1 h2
  exact of_decide_eq_true this h
def timed (s : Int) : Bool := decide (4 ≤ s ∧ s ≤ 8)
/-- A state with a timer: which next ones, what is done. -/
theorem ends_yes {s : Int} (h : timed s = true) : (stp s 6).2.2 = 0 ∧ (stp s 5).2.2 = 0 ∧ timed (stp s 6).1 = false ∧ (stp s 6).2.1 = [4] ∧ timed (stp s 5).1 = true ∧ ((stp s 5).2.1 = [7] ∨ (stp s 5).2.1 = [10]) := by
  have h0 := of_decide_eq_true h
  have := all_states (fun s => decide (timed s = true → (stp s 6).2.2 = 0 ∧ (stp s 5).2.2 = 0 ∧ timed (stp s 6).1 = false ∧ (stp s 6).2.1 = [4] ∧ timed (stp s 5).1 = true ∧ ((stp s 5).2.1 = [7] ∨ (stp s 5).2.1 = [10]))) (by decide +kernel) s (by unfold InS; omega)
  exact of_decide_eq_true this h
theorem ends_no {s : Int} (h : timed s = false) : (stp s 6).2.2 ≠ 0 ∧ (stp s 5).2.2 ≠ 0 := by
  by_cases c : InS s
  · have := all_states (fun s => decide (timed s = false → (stp s 6).2.2 ≠ 0 ∧ (stp s 5).2.2 ≠ 0)) (by decide +kernel) s c
    exact of_decide_eq_true this h
  · rw [stp_out (fun h => c h.1), stp_out (fun h => c h.1)]; decide
end Go.Proofs.Ytmhiajjnkcneoaa.Fs
