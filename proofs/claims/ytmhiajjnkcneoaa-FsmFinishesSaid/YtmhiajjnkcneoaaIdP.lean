/-
  Numbers of sessions in plain words: no program. Free in a row, taken, resting; each once; quiet; in turn.
-/
import Derived.Test.YtmhiajjnkcneoaaLib
namespace Go.Proofs.Ytmhiajjnkcneoaa.Id
set_option linter.unusedVariables false

/-- The highest tick. -/
def topT : Int := 1099511627776
/-- The free ones in their row; those that are taken, as they came; those that rest, each with the tick from which on it is ready. -/
structure Al where
  low : Int
  high : Int
  quiet : Int
  row : List Int
  used : List Int
  rest : List (Int × Int)
def okSet (low high quiet : Int) : Prop := 1 ≤ low ∧ high ≤ 65534 ∧ low ≤ high ∧ 0 ≤ quiet ∧ quiet ≤ topT
instance (l h q : Int) : Decidable (okSet l h q) := by unfold okSet; infer_instance
def numbers (low high : Int) : List Int := (List.range (high - low + 1).toNat).map fun i : Nat => low + (i : Int)
def born (low high quiet : Int) : Al := ⟨low, high, quiet, numbers low high, [], []⟩
def okT (t : Int) : Prop := 0 ≤ t ∧ t ≤ topT
instance (t : Int) : Decidable (okT t) := by unfold okT; infer_instance
def ready (t : Int) (p : Int × Int) : Bool := decide (p.2 ≤ t)
def rouse (S : Al) (t : Int) : Al := { S with row := S.row ++ (S.rest.filter (ready t)).map (·.1), rest := S.rest.filter fun p => !ready t p }
/-- What Take leaves, the number and the error that it tells. -/
def take (S : Al) (t : Int) : Al × Int × Int :=
  if okT t then match (rouse S t).row with
    | [] => (rouse S t, 0, 111)
    | x :: r => ({ rouse S t with row := r, used := S.used ++ [x] }, x, 0)
  else (S, 0, 1)
def give (S : Al) (id t : Int) : Al × Int :=
  if okT t then (if id ∈ S.used then ({ S with used := S.used.erase id, rest := S.rest ++ [(id, t + S.quiet)] }, 0) else (S, 112)) else (S, 1)
def free (S : Al) (t : Int) : Int := if okT t then (S.row.length : Int) + ((S.rest.filter (ready t)).length : Nat) else 0
def all (S : Al) : List Int := S.row ++ (S.used ++ S.rest.map (·.1))
structure OkA (S : Al) : Prop where
  set : okSet S.low S.high S.quiet
  parts : (all S).Perm (numbers S.low S.high)
  rdy : ∀ p ∈ S.rest, 0 ≤ p.2 ∧ p.2 ≤ 2 * topT

theorem numbers_length (l h : Int) : (numbers l h).length = (h - l + 1).toNat := by simp [numbers]
theorem numbers_mem {l h x : Int} : x ∈ numbers l h ↔ l ≤ x ∧ x ≤ h := by
  unfold numbers
  simp only [List.mem_map, List.mem_range]
  constructor
  · rintro ⟨i, hi, rfl⟩; omega
  · rintro ⟨h1, h2⟩; exact ⟨(x - l).toNat, by omega, by omega⟩
theorem numbers_nodup (l h : Int) : (numbers l h).Nodup := by
  unfold numbers
  have := List.nodup_range (n := (h - l + 1).toNat)
  rw [List.Nodup, List.pairwise_map]
  exact this.imp fun hne e => hne (by omega)
theorem OkA.nodup {S : Al} (h : OkA S) : (all S).Nodup := h.parts.nodup_iff.2 (numbers_nodup _ _)
theorem OkA.mem {S : Al} (h : OkA S) {x : Int} : x ∈ all S ↔ S.low ≤ x ∧ x ≤ S.high := h.parts.mem_iff.trans numbers_mem
theorem OkA.sum {S : Al} (h : OkA S) : ((S.row.length + (S.used.length + S.rest.length) : Nat) : Int) = S.high - S.low + 1 := by
  have h1 := h.parts.length_eq
  have h2 := h.set.2.2.1
  rw [numbers_length] at h1
  simp only [all, List.length_append, List.length_map] at h1
  omega
theorem OkA.row {S : Al} (h : OkA S) {x : Int} (hx : x ∈ S.row) : S.low ≤ x ∧ x ≤ S.high ∧ x ∉ S.used := by
  have hn := h.nodup
  have hm := h.mem.1 (List.mem_append.2 (.inl hx) : x ∈ all S)
  refine ⟨hm.1, hm.2, fun hu => ?_⟩
  exact (List.nodup_append.1 hn).2.2 x hx x (List.mem_append.2 (.inl hu)) rfl
theorem OkA.used {S : Al} (h : OkA S) {x : Int} (hx : x ∈ S.used) : S.low ≤ x ∧ x ≤ S.high :=
  h.mem.1 (List.mem_append.2 (.inr (List.mem_append.2 (.inl hx))) : x ∈ all S)
theorem OkA.used_nodup {S : Al} (h : OkA S) : S.used.Nodup := (List.nodup_append.1 (List.nodup_append.1 h.nodup).2.1).1
theorem OkA.rest_nodup {S : Al} (h : OkA S) : (S.rest.map (·.1)).Nodup := (List.nodup_append.1 (List.nodup_append.1 h.nodup).2.1).2.1
theorem OkA.rest_mem {S : Al} (h : OkA S) {x : Int} (hx : x ∈ S.rest.map (·.1)) : S.low ≤ x ∧ x ≤ S.high ∧ x ∉ S.used := by
  have hm := h.mem.1 (List.mem_append.2 (.inr (List.mem_append.2 (.inr hx))) : x ∈ all S)
  exact ⟨hm.1, hm.2, fun hu => (List.nodup_append.1 (List.nodup_append.1 h.nodup).2.1).2.2 x hu x hx rfl⟩
theorem born_ok {l h q : Int} (hs : okSet l h q) : OkA (born l h q) :=
  ⟨hs, by simp [born, all], (fun p hp => by cases hp)⟩
theorem filter_perm {α : Type} (f : α → Bool) (l : List α) : (l.filter f ++ l.filter fun x => !f x).Perm l := List.filter_append_perm f l
theorem rouse_ok {S : Al} (h : OkA S) (t : Int) : OkA (rouse S t) := by
  refine ⟨h.set, ?_, fun p hp => h.rdy p (List.mem_filter.1 hp).1⟩
  refine List.Perm.trans ?_ h.parts
  show (S.row ++ (S.rest.filter (ready t)).map (·.1) ++ (S.used ++ (S.rest.filter fun p => !ready t p).map (·.1))).Perm (S.row ++ (S.used ++ S.rest.map (·.1)))
  rw [List.append_assoc]
  refine List.Perm.append_left _ ?_
  have h1 : ((S.rest.filter (ready t)).map (·.1) ++ (S.rest.filter fun p => !ready t p).map (·.1)).Perm (S.rest.map (·.1)) := by
    rw [← List.map_append]; exact (filter_perm _ _).map _
  refine List.Perm.trans ?_ (h1.append_left S.used)
  rw [← List.append_assoc, ← List.append_assoc]
  exact List.perm_append_comm.append_right _
theorem take_ok {S : Al} (h : OkA S) (t : Int) : OkA (take S t).1 ∧ (take S t).1.low = S.low ∧ (take S t).1.high = S.high ∧ (take S t).1.quiet = S.quiet := by
  unfold take
  split
  · have hr := rouse_ok h t
    split
    · exact ⟨hr, rfl, rfl, rfl⟩
    · rename_i x r he
      refine ⟨⟨hr.set, ?_, hr.rdy⟩, rfl, rfl, rfl⟩
      refine List.Perm.trans ?_ hr.parts
      show (r ++ (S.used ++ [x] ++ (rouse S t).rest.map (·.1))).Perm ((rouse S t).row ++ (S.used ++ (rouse S t).rest.map (·.1)))
      rw [he]
      have e : r ++ (S.used ++ [x] ++ (rouse S t).rest.map (·.1)) = (r ++ S.used) ++ x :: (rouse S t).rest.map (·.1) := by simp
      rw [e]
      refine List.perm_middle.trans ?_
      simp
  · exact ⟨h, rfl, rfl, rfl⟩
theorem give_ok {S : Al} (h : OkA S) (id t : Int) : OkA (give S id t).1 ∧ (give S id t).1.low = S.low ∧ (give S id t).1.high = S.high ∧ (give S id t).1.quiet = S.quiet := by
  unfold give
  split
  · rename_i ht
    split
    · rename_i hu
      refine ⟨⟨h.set, ?_, ?_⟩, rfl, rfl, rfl⟩
      · refine List.Perm.trans ?_ h.parts
        show (S.row ++ (S.used.erase id ++ (S.rest ++ [(id, t + S.quiet)]).map (·.1))).Perm (S.row ++ (S.used ++ S.rest.map (·.1)))
        refine List.Perm.append_left _ ?_
        have h1 : S.used.Perm (id :: S.used.erase id) := List.perm_cons_erase hu
        refine List.Perm.trans ?_ (h1.append_right _).symm
        rw [List.map_append, ← List.append_assoc]
        simp only [List.map_cons, List.map_nil, List.cons_append]
        exact (List.perm_append_comm (l₂ := [id])).trans (by simp)
      · intro p hp
        rcases List.mem_append.1 hp with hp | hp
        · exact h.rdy p hp
        · obtain rfl := List.mem_singleton.1 hp
          have h1 := h.set.2.2.2
          show 0 ≤ t + S.quiet ∧ t + S.quiet ≤ 2 * topT
          unfold okT at ht
          omega
    · exact ⟨h, rfl, rfl, rfl⟩
  · exact ⟨h, rfl, rfl, rfl⟩
/-- Free, taken and resting are all numbers. -/
theorem free_sum {S : Al} (h : OkA S) : free S topT - ((S.rest.filter (ready topT)).length : Nat) + (S.rest.length : Nat) + (S.used.length : Nat) = S.high - S.low + 1 := by
  have := h.sum
  unfold free
  rw [if_pos ⟨by decide, Int.le_refl _⟩]
  omega
theorem numbers_cons {l h : Int} (hl : l ≤ h) : numbers l h = l :: numbers (l + 1) h := by
  unfold numbers
  have e : (h - l + 1).toNat = (h - (l + 1) + 1).toNat + 1 := by omega
  rw [e, List.range_succ_eq_map, List.map_cons, List.map_map]
  congr 1
  · simp
  · refine List.map_congr_left fun i _ => ?_
    show l + ((i + 1 : Nat) : Int) = l + 1 + (i : Int)
    omega
theorem numbers_nil {l h : Int} (hl : h < l) : numbers l h = [] := by
  unfold numbers
  rw [show (h - l + 1).toNat = 0 by omega]
  rfl
theorem rouse_none {S : Al} (h : S.rest = []) (t : Int) : rouse S t = S := by
  unfold rouse
  rw [h]
  cases S
  simp_all
/-- All numbers, rising: none rests. -/
theorem take_rising {S : Al} {x h t : Int} (hr : S.rest = []) (hx : S.row = numbers x h) (hl : x ≤ h) (ht : okT t) : take S t = ({ S with row := numbers (x + 1) h, used := S.used ++ [x] }, x, 0) := by
  unfold take
  rw [if_pos ht, rouse_none hr, hx, numbers_cons hl]
theorem take_none {S : Al} {t : Int} (hr : S.rest = []) (hx : S.row = []) (ht : okT t) : take S t = (S, 0, 111) := by
  unfold take
  rw [if_pos ht, rouse_none hr, hx]
/-! In turn. -/
theorem take_turn {S : Al} {x : Int} {w : List Int} {t : Int} (hw : S.row ++ S.rest.map (·.1) = x :: w) (hr : ∀ p ∈ S.rest, p.2 ≤ t) (ht : okT t) :
    (take S t).2 = (x, 0) ∧ (take S t).1.row = w ∧ (take S t).1.rest = [] := by
  have h1 : S.rest.filter (ready t) = S.rest := List.filter_eq_self.2 fun p hp => decide_eq_true (hr p hp)
  have h2 : (S.rest.filter fun p => !ready t p) = [] := List.filter_eq_nil_iff.2 fun p hp => by simp [ready, hr p hp]
  have h3 : (rouse S t).row = x :: w := by show S.row ++ (S.rest.filter (ready t)).map (·.1) = _; rw [h1, hw]
  have h4 : (rouse S t).rest = [] := h2
  unfold take
  rw [if_pos ht]
  split
  · rename_i he
    rw [h3] at he
    cases he
  · rename_i y r he
    rw [h3] at he
    obtain ⟨rfl, rfl⟩ := List.cons.inj he
    exact ⟨rfl, rfl, h4⟩
theorem give_yes {S : Al} {id t : Int} (hu : id ∈ S.used) (ht : okT t) : give S id t = ({ S with used := S.used.erase id, rest := S.rest ++ [(id, t + S.quiet)] }, 0) := by
  unfold give
  rw [if_pos ht, if_pos hu]
theorem give_no {S : Al} {id t : Int} (hu : id ∉ S.used) (ht : okT t) : give S id t = (S, 112) := by
  unfold give
  rw [if_pos ht, if_neg hu]
/-! Quiet: when each was given (G), which are taken. -/
structure Qt (S : Al) (t : Int) (G : Int → Int) : Prop where
  ok : OkA S
  row : ∀ x ∈ S.row, G x + S.quiet ≤ t
  rest : ∀ p ∈ S.rest, p.2 = G p.1 + S.quiet
theorem Qt.later {S : Al} {t u : Int} {G : Int → Int} (h : Qt S t G) (hu : t ≤ u) : Qt S u G := ⟨h.ok, fun x hx => Int.le_trans (h.row x hx) hu, h.rest⟩
theorem Qt.take {S : Al} {t : Int} {G : Int → Int} (h : Qt S t G) (ht : okT t) :
    Qt (take S t).1 t G ∧ (((take S t).2 = (0, 111) ∧ (take S t).1.used = S.used) ∨ ∃ x, (take S t).2 = (x, 0) ∧ S.low ≤ x ∧ x ≤ S.high ∧ x ∉ S.used ∧ G x + S.quiet ≤ t ∧ (take S t).1.used = S.used ++ [x]) := by
  have hok := take_ok h.ok t
  have hr := rouse_ok h.ok t
  have hrow : ∀ x ∈ (rouse S t).row, G x + S.quiet ≤ t := by
    intro x hx
    rcases List.mem_append.1 hx with hx | hx
    · exact h.row x hx
    · obtain ⟨p, hp, rfl⟩ := List.mem_map.1 hx
      obtain ⟨h1, h2⟩ := List.mem_filter.1 hp
      have := h.rest p h1
      have h3 : p.2 ≤ t := by simpa [ready] using h2
      omega
  have hrest : ∀ p ∈ (rouse S t).rest, p.2 = G p.1 + S.quiet := fun p hp => h.rest p (List.mem_filter.1 hp).1
  revert hok
  unfold Id.take
  rw [if_pos ht]
  split
  · rename_i he
    intro hok
    exact ⟨⟨hr, hrow, hrest⟩, .inl ⟨rfl, rfl⟩⟩
  · rename_i x r he
    intro hok
    have hx : x ∈ (rouse S t).row := by rw [he]; simp
    have hm := hr.row hx
    refine ⟨⟨hok.1, fun y hy => hrow y (by rw [he]; exact List.mem_cons_of_mem _ hy), hrest⟩, .inr ⟨x, rfl, hm.1, hm.2.1, hm.2.2, hrow x hx, rfl⟩⟩
theorem Qt.give {S : Al} {t id : Int} {G : Int → Int} (h : Qt S t G) (ht : okT t) (hu : id ∈ S.used) : Qt (give S id t).1 t (fun x => if x = id then t else G x) := by
  have hok := give_ok h.ok id t
  rw [give_yes hu ht] at hok ⊢
  have hnr : id ∉ S.row := fun hr => (h.ok.row hr).2.2 hu
  have hns : id ∉ S.rest.map (·.1) := fun hs => (h.ok.rest_mem hs).2.2 hu
  refine ⟨hok.1, fun x hx => ?_, fun p hp => ?_⟩
  · have : x ≠ id := fun e => hnr (e ▸ hx)
    show (if x = id then t else G x) + S.quiet ≤ t
    rw [if_neg this]
    exact h.row x hx
  · show p.2 = (if p.1 = id then t else G p.1) + S.quiet
    rcases List.mem_append.1 hp with hp | hp
    · have : p.1 ≠ id := fun e => hns (e ▸ List.mem_map_of_mem hp)
      rw [if_neg this]
      exact h.rest p hp
    · obtain rfl := List.mem_singleton.1 hp
      rw [if_pos rfl]
theorem erase_mem {S : Al} (h : OkA S) {id x : Int} : x ∈ S.used.erase id ↔ x ≠ id ∧ x ∈ S.used := h.used_nodup.mem_erase_iff
/-- The taken ones, rising: what the document's Taken tells of them. -/
def put (x : Int) : List Int → List Int
  | [] => [x]
  | y :: l => if y < x then y :: put x l else x :: y :: l
def sorted : List Int → List Int := List.foldl (fun l x => put x l) []
theorem put_mem {x y : Int} : ∀ {l : List Int}, y ∈ put x l ↔ y = x ∨ y ∈ l
  | [] => by simp [put]
  | z :: l => by
    unfold put
    split
    · simp only [List.mem_cons, put_mem (l := l)]
      constructor <;> (rintro (h | h | h) <;> simp [h])
    · simp only [List.mem_cons]
theorem put_rising {x : Int} : ∀ {l : List Int}, l.Pairwise (· < ·) → x ∉ l → (put x l).Pairwise (· < ·)
  | [], _, _ => by simp [put]
  | z :: l, h, hx => by
    rw [List.pairwise_cons] at h
    unfold put
    split
    · rename_i hz
      refine List.pairwise_cons.2 ⟨fun y hy => ?_, put_rising h.2 fun hl => hx (List.mem_cons_of_mem _ hl)⟩
      rcases put_mem.1 hy with rfl | hy
      · exact hz
      · exact h.1 y hy
    · rename_i hz
      have hne : x ≠ z := fun e => hx (e ▸ List.mem_cons_self ..)
      refine List.pairwise_cons.2 ⟨fun y hy => ?_, List.pairwise_cons.2 h⟩
      rcases List.mem_cons.1 hy with rfl | hy
      · omega
      · have := h.1 y hy; omega
theorem sorted_go : ∀ (us l : List Int), l.Pairwise (· < ·) → us.Nodup → (∀ x ∈ us, x ∉ l) → (us.foldl (fun l x => put x l) l).Pairwise (· < ·) ∧ ∀ y, y ∈ us.foldl (fun l x => put x l) l ↔ y ∈ us ∨ y ∈ l
  | [], l, h, _, _ => ⟨h, by simp⟩
  | x :: us, l, h, hn, hd => by
    rw [List.nodup_cons] at hn
    have h1 := put_rising h (hd x (List.mem_cons_self ..))
    have h2 := sorted_go us (put x l) h1 hn.2 fun y hy hl => by
      rcases put_mem.1 hl with rfl | hl
      · exact hn.1 hy
      · exact hd y (List.mem_cons_of_mem _ hy) hl
    refine ⟨h2.1, fun y => ?_⟩
    rw [List.foldl_cons, h2.2 y, put_mem, List.mem_cons]
    exact ⟨fun h => by rcases h with h | h | h <;> simp [h], fun h => by rcases h with (h | h) | h <;> simp [h]⟩
theorem sorted_is {us : List Int} (hn : us.Nodup) : (sorted us).Pairwise (· < ·) ∧ ∀ y, y ∈ sorted us ↔ y ∈ us := by
  have h := sorted_go us [] List.Pairwise.nil hn (by simp)
  exact ⟨h.1, fun y => (h.2 y).trans (by simp)⟩
/-- A rising row is told by what lies in it. -/
theorem rising_eq : ∀ {l m : List Int}, l.Pairwise (· < ·) → m.Pairwise (· < ·) → (∀ y, y ∈ l ↔ y ∈ m) → l = m
  | [], [], _, _, _ => rfl
  | [], y :: m, _, _, h => absurd ((h y).2 (List.mem_cons_self ..)) (by simp)
  | y :: l, [], _, _, h => absurd ((h y).1 (List.mem_cons_self ..)) (by simp)
  | x :: l, y :: m, hl, hm, h => by
    rw [List.pairwise_cons] at hl hm
    have e : x = y := by
      have h1 := (h x).1 (List.mem_cons_self ..)
      have h2 := (h y).2 (List.mem_cons_self ..)
      rcases List.mem_cons.1 h1 with h1 | h1
      · exact h1
      · rcases List.mem_cons.1 h2 with h2 | h2
        · exact h2.symm
        · have a := hl.1 y h2
          have b := hm.1 x h1
          omega
    subst e
    congr 1
    refine rising_eq hl.2 hm.2 fun z => ?_
    have hz := h z
    simp only [List.mem_cons] at hz
    constructor
    · intro hzl
      have := hl.1 z hzl
      rcases hz.1 (.inr hzl) with rfl | h3
      · omega
      · exact h3
    · intro hzm
      have := hm.1 z hzm
      rcases hz.2 (.inr hzm) with rfl | h3
      · omega
      · exact h3
end Go.Proofs.Ytmhiajjnkcneoaa.Id
