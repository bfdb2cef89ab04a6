/-
  How many bits a word has, counted in bytes side by side (what math/bits.OnesCount64 does).
-/
import Derived.Test.YtoemghinolekgaaDoorPlP
namespace Go.Proofs.YtoemghinolekgaaDoor.Pl
set_option linter.unusedVariables false
set_option linter.unusedSimpArgs false

/-- Bytes, the lowest first. -/
def val : List Nat → Nat
  | [] => 0
  | b :: r => b + 256 * val r
/-- So many bytes c. -/
def msk (c : Nat) : Nat → Nat
  | 0 => 0
  | n + 1 => c + 256 * msk c n
theorem and_byte (b c X M : Nat) (hb : b < 256) (hc : c < 256) : (b + 256 * X) &&& (c + 256 * M) = (b &&& c) + 256 * (X &&& M) := by
  have h : b &&& c < 256 := Nat.lt_of_le_of_lt Nat.and_le_left hb
  apply Nat.eq_of_testBit_eq
  intro i
  have e : ∀ (p q : Nat), p < 256 → (p + 256 * q).testBit i = if i < 8 then p.testBit i else q.testBit (i - 8) := fun p q hp => by
    rw [Nat.add_comm, show 256 * q = 2 ^ 8 * q from rfl, Nat.testBit_two_pow_mul_add _ hp]
  rw [Nat.testBit_and, e b X hb, e c M hc, e _ _ h]
  split <;> rw [Nat.testBit_and]
def s1 (b : Nat) : Nat := (b / 2 &&& 85) + (b &&& 85)
def s2 (b : Nat) : Nat := (b / 4 &&& 51) + (b &&& 51)
def s3 (b : Nat) : Nat := b % 16 + b / 16
theorem byte1 : ∀ b : Fin 256, ∀ e : Fin 2, (b.val / 2 + 128 * e.val) < 256 ∧ (b.val / 2 + 128 * e.val) &&& 85 = b.val / 2 &&& 85 := by decide +kernel
theorem byte2 : ∀ b : Fin 256, ∀ e : Fin 4, (b.val / 4 + 64 * e.val) < 256 ∧ (b.val / 4 + 64 * e.val) &&& 51 = b.val / 4 &&& 51 := by decide +kernel
theorem byte3 : ∀ h : Fin 5, ∀ l : Fin 5, ∀ e : Fin 5, (h.val + 16 * e.val + (16 * h.val + l.val)) < 256 ∧ (h.val + 16 * e.val + (16 * h.val + l.val)) &&& 15 = l.val + h.val := by decide +kernel
theorem step1 : ∀ bs : List Nat, (∀ b ∈ bs, b < 256) → (val bs / 2 &&& msk 85 bs.length) + (val bs &&& msk 85 bs.length) = val (bs.map s1)
  | [], _ => rfl
  | b :: r, h => by
    have hb := h b (by simp)
    have ih := step1 r fun x hx => h x (by simp [hx])
    have h1 := byte1 ⟨b, hb⟩ ⟨val r % 2, by omega⟩
    dsimp only at h1
    have e : (b + 256 * val r) / 2 = (b / 2 + 128 * (val r % 2)) + 256 * (val r / 2) := by omega
    rw [val, List.length_cons, msk, e, and_byte _ _ _ _ h1.1 (by decide), h1.2, and_byte _ _ _ _ hb (by decide), List.map_cons, val, ← ih, s1]
    omega
theorem step2 : ∀ bs : List Nat, (∀ b ∈ bs, b < 256) → (val bs / 4 &&& msk 51 bs.length) + (val bs &&& msk 51 bs.length) = val (bs.map s2)
  | [], _ => rfl
  | b :: r, h => by
    have hb := h b (by simp)
    have ih := step2 r fun x hx => h x (by simp [hx])
    have h1 := byte2 ⟨b, hb⟩ ⟨val r % 4, by omega⟩
    dsimp only at h1
    have e : (b + 256 * val r) / 4 = (b / 4 + 64 * (val r % 4)) + 256 * (val r / 4) := by omega
    rw [val, List.length_cons, msk, e, and_byte _ _ _ _ h1.1 (by decide), h1.2, and_byte _ _ _ _ hb (by decide), List.map_cons, val, ← ih, s2]
    omega
/-- Both halves of a byte are at most 4. -/
def halves (b : Nat) : Prop := b % 16 ≤ 4 ∧ b / 16 ≤ 4
theorem val_half : ∀ bs : List Nat, (∀ b ∈ bs, halves b) → val bs % 16 ≤ 4
  | [], _ => by decide
  | b :: r, h => by
    have := (h b (by simp)).1
    rw [val]
    omega
theorem step3 : ∀ bs : List Nat, (∀ b ∈ bs, halves b) → (val bs / 16 + val bs) &&& msk 15 bs.length = val (bs.map s3)
  | [], _ => rfl
  | b :: r, h => by
    have hb := h b (by simp)
    have hr := val_half r fun x hx => h x (by simp [hx])
    have ih := step3 r fun x hx => h x (by simp [hx])
    unfold halves at hb
    have h1 := byte3 ⟨b / 16, by omega⟩ ⟨b % 16, by omega⟩ ⟨val r % 16, by omega⟩
    dsimp only at h1
    have e : (b + 256 * val r) / 16 + (b + 256 * val r) = (b / 16 + 16 * (val r % 16) + (16 * (b / 16) + b % 16)) + 256 * (val r / 16 + val r) := by omega
    rw [val, List.length_cons, msk, e, and_byte _ _ _ _ h1.1 (by decide), h1.2, ih, List.map_cons, val, s3]
theorem bytes_all : ∀ b : Fin 256, s1 b.val < 256 ∧ s2 (s1 b.val) < 256 ∧ s2 (s1 b.val) % 16 ≤ 4 ∧ s2 (s1 b.val) / 16 ≤ 4 ∧ s3 (s2 (s1 b.val)) = ((List.range 8).filter b.val.testBit).length ∧ s3 (s2 (s1 b.val)) ≤ 8 := by decide +kernel
theorem msk1 : msk 85 8 = 6148914691236517205 := by decide
theorem msk2 : msk 51 8 = 3689348814741910323 := by decide
theorem msk3 : msk 15 8 = 1085102592571150095 := by decide
/-- How many of the first n bits. -/
def pc (n x : Nat) : Nat := ((List.range n).filter x.testBit).length
theorem pc_add (a n x : Nat) : pc (a + n) x = pc a x + pc n (x / 2 ^ a) := by
  unfold pc
  rw [List.range_add, List.filter_append, List.length_append, List.filter_map, List.length_map]
  congr 2
  apply List.filter_congr
  intro i _
  simp only [Function.comp_apply]
  rw [Nat.testBit_div_two_pow, Nat.add_comm]
theorem pc_byte (b X : Nat) (hb : b < 256) : pc 8 (b + 256 * X) = ((List.range 8).filter b.testBit).length := by
  unfold pc
  congr 1
  apply List.filter_congr
  intro i hi
  have hi8 : i < 8 := List.mem_range.1 hi
  rw [Nat.add_comm, show 256 * X = 2 ^ 8 * X from rfl, Nat.testBit_two_pow_mul_add _ hb, if_pos hi8]
theorem pc_val : ∀ bs : List Nat, (∀ b ∈ bs, b < 256) → pc (8 * bs.length) (val bs) = (bs.map fun b => ((List.range 8).filter b.testBit).length).sum
  | [], _ => rfl
  | b :: r, h => by
    have hb := h b (by simp)
    have ih := pc_val r fun x hx => h x (by simp [hx])
    rw [List.length_cons, Nat.mul_add, Nat.mul_one, Nat.add_comm, pc_add, val, pc_byte _ _ hb, List.map_cons, List.sum_cons]
    congr 1
    rw [show (b + 256 * val r) / 2 ^ 8 = val r by omega]
    exact ih
/-- What OnesCount64 makes of a word, in whole numbers. -/
structure Ones (x : Nat) where
  y1 : Nat
  y2 : Nat
  y3 : Nat
  y4 : Nat
  y5 : Nat
  y6 : Nat
  h1 : (x / 2 &&& 6148914691236517205) + (x &&& 6148914691236517205) = y1
  h2 : (y1 / 4 &&& 3689348814741910323) + (y1 &&& 3689348814741910323) = y2
  h3 : (y2 / 16 + y2) &&& 1085102592571150095 = y3
  h4 : y3 + y3 / 256 = y4
  h5 : y4 + y4 / 65536 = y5
  h6 : y5 + y5 / 4294967296 = y6
  h7 : y6 % 128 = pop x
  lt1 : y1 < 18446744073709551616
  lt2 : y2 < 18446744073709551616
  lt23 : y2 / 16 + y2 < 18446744073709551616
  lt3 : y3 < 18446744073709551616
  lt4 : y4 < 18446744073709551616
  lt5 : y5 < 18446744073709551616
  lt6 : y6 < 18446744073709551616
theorem val_lt : ∀ bs : List Nat, (∀ b ∈ bs, b < 256) → val bs < 256 ^ bs.length
  | [], _ => by decide
  | b :: r, h => by
    have hb := h b (by simp)
    have ih := val_lt r fun x hx => h x (by simp [hx])
    rw [val, List.length_cons, Nat.pow_succ]
    omega
theorem ones (x : Nat) (hx : x < 18446744073709551616) : Nonempty (Ones x) := by
  obtain ⟨b0, b1, b2, b3, b4, b5, b6, b7, e, hb⟩ : ∃ b0 b1 b2 b3 b4 b5 b6 b7, x = val [b0, b1, b2, b3, b4, b5, b6, b7] ∧ ∀ b ∈ [b0, b1, b2, b3, b4, b5, b6, b7], b < 256 := by
    refine ⟨x % 256, x / 256 % 256, x / 65536 % 256, x / 16777216 % 256, x / 4294967296 % 256, x / 1099511627776 % 256, x / 281474976710656 % 256, x / 72057594037927936 % 256, ?_, ?_⟩
    · simp only [val]; omega
    · intro b hb
      simp only [List.mem_cons, List.not_mem_nil, or_false] at hb
      rcases hb with rfl | rfl | rfl | rfl | rfl | rfl | rfl | rfl <;> exact Nat.mod_lt _ (by decide)
  obtain ⟨bs, hbs⟩ : ∃ bs, bs = [b0, b1, b2, b3, b4, b5, b6, b7] := ⟨_, rfl⟩
  rw [← hbs] at e hb
  have hl : bs.length = 8 := by rw [hbs]; rfl
  have A : ∀ b ∈ bs, s1 b < 256 ∧ s2 (s1 b) < 256 ∧ s2 (s1 b) % 16 ≤ 4 ∧ s2 (s1 b) / 16 ≤ 4 ∧ s3 (s2 (s1 b)) = ((List.range 8).filter b.testBit).length ∧ s3 (s2 (s1 b)) ≤ 8 := fun b h => bytes_all ⟨b, hb b h⟩
  have e1 := step1 bs hb
  rw [hl, msk1, ← e] at e1
  have hb1 : ∀ b ∈ bs.map s1, b < 256 := fun b h => by obtain ⟨c, hc, rfl⟩ := List.mem_map.1 h; exact (A c hc).1
  have e2 := step2 (bs.map s1) hb1
  rw [List.length_map, hl, msk2, ← e1, List.map_map] at e2
  have hb2 : ∀ b ∈ bs.map (s2 ∘ s1), b < 256 ∧ halves b := fun b h => by obtain ⟨c, hc, rfl⟩ := List.mem_map.1 h; exact ⟨(A c hc).2.1, (A c hc).2.2.1, (A c hc).2.2.2.1⟩
  have e3 := step3 (bs.map (s2 ∘ s1)) fun b h => (hb2 b h).2
  rw [List.length_map, hl, msk3, ← e2, List.map_map] at e3
  have hb3 : ∀ b ∈ bs.map (s3 ∘ (s2 ∘ s1)), b ≤ 8 := fun b h => by obtain ⟨c, hc, rfl⟩ := List.mem_map.1 h; exact (A c hc).2.2.2.2.2
  have hp : pop x = ((bs.map (s3 ∘ (s2 ∘ s1)))).sum := by
    have := pc_val bs hb
    rw [hl, ← e] at this
    show pc 64 x = _
    rw [this]
    congr 1
    apply List.map_congr_left
    intro c hc
    exact (A c hc).2.2.2.2.1.symm
  have l1 := val_lt (bs.map s1) hb1
  have l2 := val_lt (bs.map (s2 ∘ s1)) fun b h => (hb2 b h).1
  rw [List.length_map, hl, ← e1] at l1
  rw [List.length_map, hl, ← e2] at l2
  have l23 : ((((x / 2 &&& 6148914691236517205) + (x &&& 6148914691236517205)) / 4 &&& 3689348814741910323) + (((x / 2 &&& 6148914691236517205) + (x &&& 6148914691236517205)) &&& 3689348814741910323)) ≤ 4919131752989213764 := by
    rw [e2, hbs]
    have q : ∀ b ∈ [b0, b1, b2, b3, b4, b5, b6, b7], (s2 ∘ s1) b ≤ 68 := fun b h => by have := (hb2 ((s2 ∘ s1) b) (List.mem_map_of_mem (hbs ▸ h))).2; unfold halves at this; omega
    simp only [List.mem_cons, List.not_mem_nil, or_false, forall_eq_or_imp, forall_eq] at q
    simp only [List.map_cons, List.map_nil, val]
    omega
  rw [hbs] at e3 hb3 hp
  simp only [List.map_cons, List.map_nil] at e3 hb3 hp
  generalize (s3 ∘ (s2 ∘ s1)) b0 = p0 at e3 hb3 hp
  generalize (s3 ∘ (s2 ∘ s1)) b1 = p1 at e3 hb3 hp
  generalize (s3 ∘ (s2 ∘ s1)) b2 = p2 at e3 hb3 hp
  generalize (s3 ∘ (s2 ∘ s1)) b3 = p3 at e3 hb3 hp
  generalize (s3 ∘ (s2 ∘ s1)) b4 = p4 at e3 hb3 hp
  generalize (s3 ∘ (s2 ∘ s1)) b5 = p5 at e3 hb3 hp
  generalize (s3 ∘ (s2 ∘ s1)) b6 = p6 at e3 hb3 hp
  generalize (s3 ∘ (s2 ∘ s1)) b7 = p7 at e3 hb3 hp
  simp only [List.mem_cons, List.not_mem_nil, or_false, forall_eq_or_imp, forall_eq] at hb3
  simp only [val] at e3
  simp only [List.sum_cons, List.sum_nil] at hp
  obtain ⟨y1, hy1⟩ : ∃ y1, (x / 2 &&& 6148914691236517205) + (x &&& 6148914691236517205) = y1 := ⟨_, rfl⟩
  rw [hy1] at e3 l1 l2 l23
  obtain ⟨y2, hy2⟩ : ∃ y2, (y1 / 4 &&& 3689348814741910323) + (y1 &&& 3689348814741910323) = y2 := ⟨_, rfl⟩
  rw [hy2] at e3 l2 l23
  obtain ⟨y3, hy3⟩ : ∃ y3, (y2 / 16 + y2) &&& 1085102592571150095 = y3 := ⟨_, rfl⟩
  rw [hy3] at e3
  clear e1 e2 hb hb1 hb2 A hbs hl e
  refine ⟨⟨y1, y2, y3, _, _, _, hy1, hy2, hy3, rfl, rfl, rfl, ?_, by omega, by omega, by omega, by omega, by omega, by omega, by omega⟩⟩
  rw [hp]
  clear hp hy1 hy2 hy3 l1 l2 l23
  have d3 : y3 / 256 = p1 + 256 * (p2 + 256 * (p3 + 256 * (p4 + 256 * (p5 + 256 * (p6 + 256 * p7))))) := by omega
  rw [d3]
  obtain ⟨y4, h4⟩ : ∃ y4, y4 = y3 + (p1 + 256 * (p2 + 256 * (p3 + 256 * (p4 + 256 * (p5 + 256 * (p6 + 256 * p7)))))) := ⟨_, rfl⟩
  rw [← h4]
  have e4 : y4 = (p0 + p1) + 256 * ((p1 + p2) + 256 * ((p2 + p3) + 256 * ((p3 + p4) + 256 * ((p4 + p5) + 256 * ((p5 + p6) + 256 * ((p6 + p7) + 256 * p7)))))) := by omega
  clear h4 e3 d3
  have d4 : y4 / 65536 = (p2 + p3) + 256 * ((p3 + p4) + 256 * ((p4 + p5) + 256 * ((p5 + p6) + 256 * ((p6 + p7) + 256 * p7)))) := by omega
  rw [d4]
  obtain ⟨y5, h5⟩ : ∃ y5, y5 = y4 + ((p2 + p3) + 256 * ((p3 + p4) + 256 * ((p4 + p5) + 256 * ((p5 + p6) + 256 * ((p6 + p7) + 256 * p7))))) := ⟨_, rfl⟩
  rw [← h5]
  obtain ⟨R, hR⟩ : ∃ R, R = (p5 + p6 + p7) + 256 * (p6 + p7 + 256 * p7) := ⟨_, rfl⟩
  have e5 : y5 = (p0 + p1 + p2 + p3) + 256 * ((p1 + p2 + p3 + p4) + 256 * ((p2 + p3 + p4 + p5) + 256 * ((p3 + p4 + p5 + p6) + 256 * ((p4 + p5 + p6 + p7) + 256 * R)))) := by omega
  clear h5 e4 d4
  have d5 : y5 / 4294967296 = (p4 + p5 + p6 + p7) + 256 * R := by omega
  rw [d5]
  omega
end Go.Proofs.YtoemghinolekgaaDoor.Pl
