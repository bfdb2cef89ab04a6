/-
  The document's Of: the cookie of an epoch.
-/
import Derived.Test.YtjlacialbfhjcaaDoorCkF
import Derived.Test.YtjlacialbfhjcaaDoorMacT
namespace Go.Proofs.YtjlacialbfhjcaaDoor.Ck
open Go.RowKit
set_option linter.unusedVariables false
set_option linter.unusedSimpArgs false

/-- What the loop over an address holds. -/
def OM (w wr : World) (sk : Value) (T : Int) (mac : List UInt8) (v : Value) (k : Nat) : Prop :=
  wr.ownsRow (w.heap.size + 2) 5 1 v k ((mac.take k).map u8v) ∧ Below w.heap.size w wr ∧ wr.heap[w.heap.size]? = some (.cells #[sk, .int .i64 T] 24 (0, 0)) ∧ wr.heap[w.heap.size + 1]? = some (.cells (mac.map u8v).toArray 26 (0, 0))
theorem OM.next {w wr w' : World} {sk : Value} {T : Int} {mac : List UInt8} {v v' : Value} {k : Nat} {o : Obj} (h : OM w wr sk T mac v k) (hk : k < mac.length) (hb : Below (w.heap.size + 2) (wr.alloc o) w') (ho : w'.ownsRow (w.heap.size + 2) 5 1 v' (k + 1) ((mac.take k).map u8v ++ [u8v mac[k]])) : OM w w' sk T mac v' (k + 1) := by
  obtain ⟨h1, h2, h3, h4⟩ := h
  have hs := (Array.getElem?_eq_some_iff.1 h4).1
  have hb' : Below (w.heap.size + 2) wr w' := (((Below.refl _ wr).alloc (by omega) o)).trans hb
  have e : (mac.take k).map u8v ++ [u8v mac[k]] = (mac.take (k + 1)).map u8v := by
    rw [List.take_succ_eq_append_getElem hk, List.map_append]
    rfl
  rw [e] at ho
  exact ⟨ho, h2.trans (hb'.mono (by omega)), by rw [hb'.block _ (by omega)]; exact h3, by rw [hb'.block _ (by omega)]; exact h4⟩
set_option maxHeartbeats 2000000 in
theorem of_any (ak : Option Addr) (nk ck : Nat) (sec : List UInt8) (hn : sec.length = nk) (T : Int) (au : Option Addr) (nu cu : Nat) (uniq : List UInt8) (hu : uniq.length = nu) (v0 v1 v2 v3 v4 v5 : Value) (mac : List UInt8) (hm : mac.map u8v = [v0, v1, v2, v3, v4, v5])
    (n : Int) (hn0 : 0 ≤ n) (hn1 : n ≤ 1099511627776) (w : World) (hk : Bs w (.slice ak nk ck) sec) (hq : Bs w (.slice au nu cu) uniq) (hsl : sec.length ≤ 100000) (hul : uniq.length ≤ 1494) :
    Calls Tryd.prog 20 #[.agg #[.slice ak nk ck, .int .i64 T], .agg #[v0, v1, v2, v3, v4, v5], .slice au nu cu, .int .i64 n] w fun e w' => ∃ a m, e = .returned (.slice a 32 m) ∧ Bs w' (.slice a 32 m) (cookL sec mac uniq n) ∧ Below w.heap.size w w' := by
  obtain ⟨i0, hi, hz0, hz1, hz2⟩ := info_parts info5
  obtain ⟨N, rfl⟩ : ∃ N : Nat, n = (N : Int) := ⟨n.toNat, by omega⟩
  have hm6 := mac_six hm
  have HN := Lib.hid hn
  have HU := Lib.hid hu
  have HM6 := Lib.hid hm6
  have HK := Lib.hid hk
  have HQ := Lib.hid hq
  have HI : Hid (OM w ((w.alloc (.cells #[.slice ak nk ck, .int .i64 T] 24)).alloc (.cells #[v0, v1, v2, v3, v4, v5] 26)) (.slice ak nk ck) T mac (.slice none 0 0) 0) := by
    refine ⟨World.ownsRow_nil _ _ _ _, boxed_two _ _ _, boxed_0 _ _ _, ?_⟩
    rw [hm]; exact boxed_1 _ _ _
  have e1 : IntKind.u64.wrap (nu : Int) = (nu : Int) := by rw [IntKind.wrap_u64]; omega
  have e2 : IntKind.u64.wrap (N : Int) = (N : Int) := by rw [IntKind.wrap_u64]; omega
  have hnu : nu ≤ 1494 := by omega
  have hN1 : N ≤ 1099511627776 := by omega
  have HMS := Lib.hid hm
  clear hn hu hm hm6 hk hq hn0 hn1 hul
  go_enter Tryd.func20, Tryd.ntmps20
  go_wp2
  go_loopw [9, 10] (fun v9 i10 wr => ∃ (k : Nat) (av : Option Addr) (cv : Nat), k ≤ 6 ∧ i10 = .int .i64 (k : Int) ∧ v9 = .slice av k cv ∧ Hid (OM w wr (.slice ak nk ck) T mac v9 k)) (fun _ i10 _ => 6 - (intOf i10).toNat)
  case atStart => exact ⟨0, none, 0, by omega, rfl, rfl, HI⟩
  case round =>
    clear HI
    obtain ⟨k, av, cv, hk, rfl, rfl, HI⟩ := hrel
    by_cases hlt : k < 6
    · have hky : k < mac.length := by have := HM6.out; omega
      have c0 : wr.cell? ⟨w.heap.size + 1, k, none⟩ = some (.int .u8 (mac[k].toNat : Int)) := by
        rw [cell_of_row _ _ _ _ _ _ HI.out.2.2.2]
        simp [hky, u8v]
      obtain ⟨z, hz⟩ : ∃ z, z = mac[k] := ⟨_, rfl⟩
      rw [← hz] at c0
      have HZ := Lib.hid hz
      have hz8 := UInt8.toNat_lt z
      have O0 : Hid ((wr.alloc (.cells #[.int .u8 (z.toNat : Int)] 5)).ownsRow (w.heap.size + 2) 5 1 (.slice av k cv) k ((mac.take k).map u8v)) := HI.out.1.alloc _
      have P0 : Hid (Rd (wr.alloc (.cells #[.int .u8 (z.toNat : Int)] 5)) 1 (.slice (some ⟨wr.heap.size, 0, none⟩) 1 1) 1 [.int .u8 (z.toNat : Int)]) := rd_new wr [.int .u8 (z.toNat : Int)] 5 1 1 rfl (by decide)
      have C0 : Hid (∀ u ∈ [Value.int .u8 (z.toNat : Int)], u.oneCell' = true) := by intro u hu; simp at hu; rw [hu]; rfl
      have S0 : Hid (w.heap.size + 2 ≤ (wr.alloc (.cells #[.int .u8 (z.toNat : Int)] 5)).heap.size) := by show _ ≤ _; rw [World.size_alloc]; have := (Array.getElem?_eq_some_iff.1 HI.out.2.2.2).1; omega
      clear hz
      go_wp2_with (at_builtin; refine wpList_append_rd _ rfl _ _ 22 rfl (w.heap.size + 2) 5 i0 (.int .u8 0) 1 1 Tryd.underlying22 hi hz0 hz1 hz2 rfl (by decide) _ _ _ rfl O0.out _ _ _ rfl P0.out C0.out ?o3 (by decide) S0.out ?_)
      case o3 => omega
      intro v7 w7 hown7 hb7
      have HI2 : Hid (OM w w7 (.slice ak nk ck) T mac v7 (k + 1)) := by
        refine HI.out.next hky hb7 ?_
        rw [← HZ.out]
        simp only [List.map_take]
        exact hown7
      obtain ⟨a7, c7, hv7, _, _⟩ := (own_rd hown7).shape
      subst hv7
      clear hown7 hb7 O0 P0 C0 S0
      go_wp2
      go_roundw
      case rel =>
        first | exact ⟨k + 1, a7, c7, by omega, by go_num, rfl, HI2⟩ | ((repeat apply Exists.intro); exact ⟨⟨k + 1, a7, c7, by omega, by go_num, rfl, HI2⟩, rfl⟩)
      case measure => simp [intOf]; omega
    · obtain rfl : k = 6 := by omega
      have O0 : Hid (OwnB wr (w.heap.size + 2) 5 (.slice av 6 cv) mac) := by
        have h := HI.out.1
        rw [List.take_of_length_le (by have := HM6.out; omega)] at h
        show OwnB _ _ _ _ _
        unfold OwnB
        rw [HM6.out]
        exact h
      have HB := Lib.hid HI.out.2.1
      have HG := Lib.hid HI.out.2.2.1
      have HS := Lib.hid (Array.getElem?_eq_some_iff.1 HI.out.2.2.2).1
      clear HI
      go_wp2_with fail
      refine (rput_yes nu 2 wr (by omega) (by omega) (by omega)).mono ?_
      rintro e w2 ⟨x2, rfl, hx2, hb2⟩
      have O2 : Hid (w2.ownsRow (w.heap.size + 2) 5 1 (.slice av 6 cv) 6 (mac.map u8v)) := by
        have h := O0.out.below hb2
        unfold OwnB at h
        rw [HM6.out] at h
        exact h
      have X2 : Hid (Rd w2 1 x2 2 ((putL nu 2).map u8v)) := by have := hx2.bs; unfold Bs at this; rw [putL_length] at this; exact this
      have HB2 := Lib.hid (HB.out.trans (hb2.mono HB.out.size))
      have HG2 := Lib.hid (heap_below HG.out hb2)
      have HS2 : Hid (w.heap.size + 2 ≤ w2.heap.size) := Nat.le_trans HS.out hb2.size
      clear hx2 hb2 O0 HB HG HS
      go_wp2_with (at_builtin; refine wpList_append_rd _ rfl _ _ 22 rfl (w.heap.size + 2) 5 i0 (.int .u8 0) 1 1 Tryd.underlying22 hi hz0 hz1 hz2 rfl (by decide) _ _ _ rfl O2.out _ _ _ rfl X2.out (oneCell_u8 _) ?o3 (by decide) HS2.out ?_)
      case o3 => omega
      intro s3 w3 hown3 hb3
      have O3 := Lib.hid hown3
      have HB3 : Hid (Below w.heap.size w w3) := HB2.out.trans (hb3.mono (by omega))
      have HG3 : Hid (w3.heap[w.heap.size]? = some (.cells #[.slice ak nk ck, .int .i64 T] 24 (0, 0))) := by show _ = _; rw [hb3.block _ (by omega)]; exact HG2.out
      have HS3 : Hid (w.heap.size + 2 ≤ w3.heap.size) := Nat.le_trans HS2.out hb3.size
      have X3 : Hid (Rd w3 1 (.slice au nu cu) nu (uniq.map u8v)) := by have := HQ.out.below HB3.out; unfold Bs at this; rw [HU.out] at this; exact this
      clear hown3 hb3 O2 X2 HB2 HG2 HS2
      go_wp2_with (at_builtin; refine wpList_append_rd _ rfl _ _ 22 rfl (w.heap.size + 2) 5 i0 (.int .u8 0) 1 1 Tryd.underlying22 hi hz0 hz1 hz2 rfl (by decide) _ _ _ rfl O3.out _ _ _ rfl X3.out (oneCell_u8 _) ?o4 (by decide) HS3.out ?_)
      case o4 => omega
      intro s4 w4 hown4 hb4
      have O4 := Lib.hid hown4
      have HB4 : Hid (Below w.heap.size w w4) := HB3.out.trans (hb4.mono (by omega))
      have HG4 : Hid (w4.heap[w.heap.size]? = some (.cells #[.slice ak nk ck, .int .i64 T] 24 (0, 0))) := by show _ = _; rw [hb4.block _ (by omega)]; exact HG3.out
      have HS4 : Hid (w.heap.size + 2 ≤ w4.heap.size) := Nat.le_trans HS3.out hb4.size
      clear hown4 hb4 O3 X3 HB3 HG3 HS3
      go_wp2_with fail
      refine (rput_yes N 8 w4 (by omega) (by omega) (by omega)).mono ?_
      rintro e w5 ⟨x5, rfl, hx5, hb5⟩
      have O5 := Lib.hid (ownsRow_below O4.out hb5)
      have X5 : Hid (Rd w5 1 x5 8 ((putL N 8).map u8v)) := by have := hx5.bs; unfold Bs at this; rw [putL_length] at this; exact this
      have HB5 := Lib.hid (HB4.out.trans (hb5.mono HB4.out.size))
      have HG5 := Lib.hid (heap_below HG4.out hb5)
      have HS5 : Hid (w.heap.size + 2 ≤ w5.heap.size) := Nat.le_trans HS4.out hb5.size
      clear hx5 hb5 O4 HB4 HG4 HS4
      go_wp2_with (at_builtin; refine wpList_append_rd _ rfl _ _ 22 rfl (w.heap.size + 2) 5 i0 (.int .u8 0) 1 1 Tryd.underlying22 hi hz0 hz1 hz2 rfl (by decide) _ _ _ rfl O5.out _ _ _ rfl X5.out (oneCell_u8 _) ?o5 (by decide) HS5.out ?_)
      case o5 => omega
      intro s6 w6 hown6 hb6
      have HB6 : Hid (Below w.heap.size w w6) := HB5.out.trans (hb6.mono (by omega))
      have HG6 : w6.heap[w.heap.size]? = some (.cells #[.slice ak nk ck, .int .i64 T] 24 (0, 0)) := by rw [hb6.block _ (by omega)]; exact HG5.out
      obtain ⟨k0, k1⟩ := cells2 HG6
      obtain ⟨msg, hmsg⟩ : ∃ msg, msg = msgL mac uniq (N : Int) := ⟨_, rfl⟩
      have hmc : msg.map u8v = mac.map u8v ++ ((putL nu 2).map u8v ++ (uniq.map u8v ++ (putL N 8).map u8v)) := by
        rw [hmsg, ← HU.out]
        simp [msgL]
      have hown6' : w6.ownsRow (w.heap.size + 2) 5 1 s6 (8 + nu + 8) (msg.map u8v) := by
        rw [hmc]
        simpa only [List.append_assoc] using hown6
      have hml : msg.length = 8 + nu + 8 := by rw [hmsg, msgL_length mac uniq _ HM6.out, HU.out]; omega
      have HMSG := Lib.hid hmsg
      have HML := Lib.hid hml
      obtain ⟨a6, c6, hv6, _, _⟩ := (own_rd hown6').shape
      subst hv6
      have X6 : Hid (Bs w6 (.slice a6 (8 + nu + 8) c6) msg) := by show Bs _ _ _; unfold Bs; rw [hml]; exact own_rd hown6'
      clear hown6 hown6' hb6 O5 X5 HB5 HG5 HS5 HG6 hmc hml hmsg
      go_wp2_with fail
      refine (rderive_any ak nk ck sec HN.out ⟨#[101, 112, 111, 99, 104]⟩ (N : Int) w6 (HK.out.below HB6.out) (by omega) (by decide)).mono ?_
      rintro e w7 ⟨a7, c7, rfl, hv7, hb7⟩
      rw [labE_is] at hv7
      have HB7 := Lib.hid (HB6.out.trans (hb7.mono HB6.out.size))
      have V7 := Lib.hid hv7
      have X7 := Lib.hid (X6.out.below hb7)
      clear hv7 hb7 X6 HB6 k0 k1
      go_wp2_with fail
      refine (rhmac_any a7 32 c7 _ (hmacL_length _ _) a6 (8 + nu + 8) c6 msg HML.out w7 V7.out X7.out (by rw [hmacL_length]; decide) (by have := HML.out; omega)).mono ?_
      rintro e w8 ⟨rfl, hb8⟩
      have HB8 := Lib.hid (HB7.out.trans (hb8.mono HB7.out.size))
      obtain ⟨y, hy⟩ : ∃ y, y = cookL sec mac uniq (N : Int) := ⟨_, rfl⟩
      have hye : hmacL (hmacL sec (labelL labE (N : Int))) msg = y := by rw [hy, HMSG.out]; rfl
      rw [hye]
      have HY := Lib.hid hy
      have HYL : Hid (y.length = 32) := by show _ = _; rw [hy]; exact cookL_length _ _ _ _
      clear hb8 hy hye V7 X7 HB7
      go_wp2_with fail
      refine (rbytes_any y HYL.out w8).mono ?_
      rintro e w9 ⟨a9, c9, rfl, hv9, hb9⟩
      have HB9 := Lib.hid (HB8.out.trans (hb9.mono HB8.out.size))
      have V9 := Lib.hid hv9
      clear hv9 hb9
      go_wp2
      go_ret
      exact ⟨_, _, rfl, by rw [← HY.out]; exact V9.out, HB9.out⟩
end Go.Proofs.YtjlacialbfhjcaaDoor.Ck
