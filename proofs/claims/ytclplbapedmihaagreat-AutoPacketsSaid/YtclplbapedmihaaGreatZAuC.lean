/- AuF AuG AuH AuI AuSm AuQ AuO AuPa OpenA -/
import Derived.Test.YtclplbapedmihaaGreatZAuA
import Derived.Test.YtclplbapedmihaaGreatZAuB
import Derived.Test.YtclplbapedmihaaGreatZOp
import Derived.Test.YtclplbapedmihaaGreatZNgB
import Derived.Test.YtclplbapedmihaaGreatZNgA
import Derived.Test.YtclplbapedmihaaGreatZCp
import Derived.ChangeArms
import Derived.Deep.Slices
import Derived.Deep.Grids
namespace Go.Proofs.YtclplbapedmihaaGreat.Au
set_option maxRecDepth 4000
open Go.RowKit O Ng
open Go.Proofs.YtclplbapedmihaaGreat.Fs (AO AO.ar AO.nil AR)
set_option linter.unusedVariables false
set_option linter.unusedSimpArgs false
def Went (w0 w' : World) (g : Nat) (V : Vw) (x : Aut × List QC × List Int) : Prop := ∃ n dv, RV w0 w' g (Vw.went { V with n := n } x dv)
theorem Went.stay {w0 w' : World} {g : Nat} {V : Vw} (h : RV w0 w' g V) (h1 : V.out = []) (h2 : V.done = []) : Went w0 w' g V (V.a, [], []) :=
 ⟨V.n, V.dv, by rw [show ({ V with n := V.n } : Vw) = V from rfl, Vw.went_self h1 h2]; exact h⟩
theorem Went.event {w0 w' : World} {g : Nat} {V : Vw} {x : Aut × List QC × List Int} {dv : Value} (h : RV w0 w' g (V.went x dv)) : Went w0 w' g V x := ⟨V.n, dv, h⟩
theorem packT_self (c : Cfg) (a : Aut) (q an : QC) (e t : Int) : packT c a q t (some (e, an, a)) = doE c a e q an t := by
 by_cases h : (Fs.stp a.st e).2.2 = 0
 · exact packT_yes h
 · rw [packT_no h, doE_no fun x => h x.2]
theorem small_isT {l : List PT} (h : ∀ t ∈ l, isT t) : Small l := fun o ho => by
 obtain ⟨h1, h2, h3⟩ := h o ho;exact ⟨⟨by omega, by omega⟩, by omega⟩
theorem dec_small (l : List UInt8) : Small (dec l).1 /\ (dec l).1.length <= 64 := by
 by_cases h : (dec l).2 = 0
 · obtain ⟨h1, h2⟩ := dec_few (show dec l = ((dec l).1, 0) from Prod.ext rfl h);exact ⟨small_isT h2, h1⟩
 · rw [dec_err h];exact ⟨fun o ho => (by cases ho), Nat.zero_le _⟩
theorem which_1 {c : Cfg} {a : Aut} {q : QC} (h : q.c = 1) : which c a q = if (O.dec q.l).2 = 0 /\ O.encE (Ng.ans c.rs (O.dec q.l).1 a.naks c.fail).2 = 0 then
 some (if (Ng.ans c.rs (O.dec q.l).1 a.naks c.fail).1 = 2 then 7 else 8, ⟨(Ng.ans c.rs (O.dec q.l).1 a.naks c.fail).1, q.i, O.encB (Ng.ans c.rs (O.dec q.l).1 a.naks c.fail).2⟩, a) else none := if_pos h
theorem which_2 {c : Cfg} {a : Aut} {q : QC} (h : q.c = 2) : which c a q = if q.i = a.req /\ q.l = O.encB a.ask then some (9, QC.zero, a) else none := by
 unfold which; rw [if_neg (by omega), if_pos h]
theorem which_3 {c : Cfg} {a : Aut} {q : QC} (h : q.c = 3 \/ q.c = 4) : which c a q = if q.i = a.req /\ (O.dec q.l).2 = 0 /\ (Ng.lrn a.ask q.c (O.dec q.l).1).2 = true /\ O.encE (Ng.lrn a.ask q.c (O.dec q.l).1).1 = 0 then
 some (10, QC.zero, { a with ask := (Ng.lrn a.ask q.c (O.dec q.l).1).1 }) else none := by
 unfold which; rw [if_neg (by omega), if_neg (by omega), if_pos h]
theorem which_5 {c : Cfg} {a : Aut} {q : QC} (h : q.c = 5) : which c a q = some (11, QC.zero, a) := by
 unfold which; rw [if_neg (by omega), if_neg (by omega), if_neg (by omega), if_pos h]
theorem which_6 {c : Cfg} {a : Aut} {q : QC} (h : q.c = 6) : which c a q = some (12, QC.zero, a) := by
 unfold which; rw [if_neg (by omega), if_neg (by omega), if_neg (by omega), if_neg (by omega), if_pos h]
theorem which_7 {c : Cfg} {a : Aut} {q : QC} (h : q.c = 7) : which c a q = if q.l = [] then none else if 1 <= bN q.l 0 /\ bN q.l 0 <= 7 then some (15, QC.zero, a) else some (14, QC.zero, a) := by
 unfold which; rw [if_neg (by omega), if_neg (by omega), if_neg (by omega), if_neg (by omega), if_neg (by omega)]
set_option maxRecDepth 20000 in
set_option maxHeartbeats 4000000 in
theorem rejected_any (g : Nat) (V : Vw) (w0 w : World) (h : RV w0 w g V) (hf : fine V.c V.a V.t) (h1 : V.out = []) (h2 : V.done = []) (hn : V.n = QC.zero) (hc : V.q.c = 7) :
 Calls Tryz.prog 71 #[.pointer (some ⟨g, 0, none⟩)] w fun e w' => e = .returned (.tuple #[]) /\ Went w0 w' g V (packT V.c V.a V.q V.t (which V.c V.a V.q)) := by
 have hx := which_7 (c := V.c) (a := V.a) hc;have hst := fun w' (hv : RV w0 w' g V) => Went.stay hv h1 h2
 have E := hd_ (fun ev => event_any g V ev w0 w h hf h1 h2);rw [hn] at E;obtain ⟨m, hm⟩ := h;have HR := hd_ hm;have hbs := hm.hold.q.below hm.hold.old;obtain ⟨A, L, C, ev, hL, hLC, hCm⟩ := hbs.sl;obtain ⟨k0, k1, k2, k3, k4, k5, k6, k7, k8, k9, k10, k11, k12, k13, k14, k15, k16, k17, k18, k19, k20⟩ := hm.cells;rw [ev] at k15 hbs;have HST := hd_ (hst w ⟨m, hm⟩);clear hm hf h1 h2 hst hn hc k0 k1 k2 k3 k4 k5 k6 k7 k8 k9 k10 k11 k12 k13 k14 k16 k17 k18 k19 k20
 by_cases hl : V.q.l = []
 · rw [hx, if_pos hl];obtain rfl : L = 0 := by rw [<- hL, hl]; rfl
   clear hx hl hL hbs ev E HR;go_enter Tryz.func71, Tryz.ntmps71
   go_wp2_with fail
   try simp only [Exit.inBlock, Exit.then]
   refine bodyPost_ret (results_none rfl _ _ _) rfl ?_;exact ⟨rfl, HST.out⟩
 · have hpos : 0 < V.q.l.length := List.length_pos_iff.2 hl;rw [hx, if_neg hl];obtain ⟨b, o, rfl, hbl, hcs⟩ := Bs.cells hbs hpos;have d0 := hcs 0 hpos;rw [<- bN_get _ _ hpos, Nat.add_zero] at d0;have hB := bN_lt V.q.l 0;obtain ⟨B, hBe⟩ : ∃ B, B = bN V.q.l 0 := ⟨_, rfl⟩;rw [<- hBe] at d0 hB ⊢;have hL0 : ¬ (L : Int) = 0 := by omega
   have hL1 : 0 < L := by omega
   have hL2 : (0 : Int) < (L : Int) := by omega
   clear hx hl hbs ev HST hpos hBe hcs hL
   by_cases h17 : 1 <= B /\ B <= 7
   · have I := hd_ (isIn_is (n := (B : Int)) (lo := 1) (hi := 7) (b := true) (decide_eq_true (by omega)));rw [if_pos h17, packT_self];clear h17;go_enter Tryz.func71, Tryz.ntmps71
     go_wp2_with fail
     refine (I.out _).mono ?_;rintro e w1 ⟨rfl, rfl⟩;go_wp2_with fail
     refine (E.out 15).mono ?_;rintro e w2 ⟨rfl, dv, hv⟩;have HV := hd_ hv;clear hv;go_wp2_with fail
     go_end0
     exact ⟨rfl, Went.event HV.out⟩
   · have I := hd_ (isIn_is (n := (B : Int)) (lo := 1) (hi := 7) (b := false) (decide_eq_false (by omega)));rw [if_neg h17, packT_self];clear h17;go_enter Tryz.func71, Tryz.ntmps71
     go_wp2_with fail
     refine (I.out _).mono ?_;rintro e w1 ⟨rfl, rfl⟩;go_wp2_with fail
     refine (E.out 14).mono ?_;rintro e w2 ⟨rfl, dv, hv⟩;have HV := hd_ hv;clear hv;go_wp2_with fail
     go_end0
     exact ⟨rfl, Went.event HV.out⟩
set_option maxRecDepth 20000 in
set_option maxHeartbeats 4000000 in
theorem acked_any (g : Nat) (V : Vw) (w0 w : World) (h : RV w0 w g V) (hf : fine V.c V.a V.t) (h1 : V.out = []) (h2 : V.done = []) (hn : V.n = QC.zero) (hc : V.q.c = 2) :
 Calls Tryz.prog 69 #[.pointer (some ⟨g, 0, none⟩)] w fun e w' => e = .returned (.tuple #[]) /\ Went w0 w' g V (packT V.c V.a V.q V.t (which V.c V.a V.q)) := by
 have hx := which_2 (c := V.c) (a := V.a) hc;have HST := hd_ (fun w' (hv : RV w0 w' g V) => Went.stay hv h1 h2);have E := hd_ (fun ev w' (hv : RV w0 w' g V) => event_any g V ev w0 w' hv hf h1 h2);rw [hn] at E;obtain ⟨m, hm⟩ := h;have HR := hd_ hm;have hbs := hm.hold.q.below hm.hold.old;obtain ⟨A, L, C, ev, hL, hLC, hCm⟩ := hbs.sl;obtain ⟨aa, ac, ea, _, _⟩ := hm.hold.ask.tr.shape;have htr := hm.hold.ask.tr;rw [ea] at htr;have EN := hd_ (encode_any aa m.ts.length ac m.ts w htr hm.hold.few.1 (fun x hx => by have := hm.hold.few.2 x hx; omega));rw [hm.hold.asks] at EN;obtain ⟨k0, k1, k2, k3, k4, k5, k6, k7, k8, k9, k10, k11, k12, k13, k14, k15, k16, k17, k18, k19, k20⟩ := hm.cells;rw [ea] at k8;have HEV := hd_ ev;obtain ⟨N, hN⟩ : ∃ N, N = m.ts.length := ⟨_, rfl⟩;rw [<- hN] at EN k8;obtain ⟨I, hI⟩ : ∃ I, I = V.q.i := ⟨_, rfl⟩;obtain ⟨R, hR⟩ : ∃ R, R = V.a.req := ⟨_, rfl⟩;have HI := hd_ hI;have HRQ := hd_ hR;rw [<- hI, <- hR] at hx;clear hm hf h1 h2 hn hc ea htr ev hbs hL hLC hCm hN hI hR k0 k1 k2 k3 k4 k5 k6 k7 k9 k10 k11 k12 k13 k14 k15 k16 k17 k18 k19 k20
 by_cases hi : I = R
 · have e1 : (I == R) = true := by simp [hi]
   have HEQ := hd_ hi;rw [hx];clear hi hx;obtain ⟨y, hy⟩ : ∃ y, y = packT V.c V.a V.q V.t (if I = R /\ V.q.l = encB V.a.ask then some (9, QC.zero, V.a) else none) := ⟨_, rfl⟩;rw [<- hy];have HY := hd_ hy;clear hy;go_enter Tryz.func69, Tryz.ntmps69
   go_wp2_with fail
   refine EN.out.mono ?_;rintro e w1 ⟨v1, rfl, ho1, hb1⟩;have HR1 := hd_ (HR.out.gr hb1);obtain ⟨A1, L1, C1, ev, _, _, _⟩ := ho1.bs.sl;subst ev;have HO1 := hd_ ho1.bs;have BE : Hid (∀ w', Gr w1 w' -> Calls Tryz.prog 88 #[.slice A L C, .slice A1 L1 C1] w' fun e w'' => e = .returned (.bool (decide (V.q.l = encB V.a.ask))) /\ w' = w'') := fun w' hw' => by
    have h' := (HR1.out.gr hw').hold;have hq := h'.q.below h'.old;rw [HEV.out] at hq;exact Ng.bytesEqual_any A A1 L L1 C C1 V.q.l (encB V.a.ask) w' hq (HO1.out.below hw')
   clear ho1 hb1 EN k8;go_upto_region 1 with fail
   have HC : Hid (Gr w1 w1.drew) := Gr.drew _;refine wp_region_G 20 Gr (by kernel_rfl) ?_;generalize w1.drew = wc at HC ⊢;refine wpG_u preGr 0 (some 13) ?_;refine wpG_u preGr 1 (some 14) ?_;refine wpG_u preGr 2 (some 15) ?_;refine wpG_u preGr 3 (some 16) ?_;refine wpG_u preGr 4 (some 17) ?_ (hy := fun w' hw' => by
    try (have hq2 := (HR1.out.gr (Gr.trans HC.out hw')).cells; rw [HEV.out, <- HI.out, <- HRQ.out] at hq2; obtain ⟨k0, k1, k2, k3, k4, k5, k6, k7, k8, k9, k10, k11, k12, k13, k14, k15, k16, k17, k18, k19, k20⟩ := hq2; clear k0 k1 k2 k3 k4 k5 k6 k8 k9 k10 k11 k12 k13 k16 k17 k18 k19 k20)
    go_simp;with_reducible rfl)
   refine wpG_u preGr 5 (some 18) ?_;refine wpG_u preGr 6 (some 19) ?_;refine wpG_u preGr 7 (some 20) ?_;refine wpG_u preGr 8 (some 21) ?_;refine wpG_u preGr 9 (some 22) ?_ (hy := fun w' hw' => by
    try (have hq2 := (HR1.out.gr (Gr.trans HC.out hw')).cells; rw [HEV.out, <- HI.out, <- HRQ.out] at hq2; obtain ⟨k0, k1, k2, k3, k4, k5, k6, k7, k8, k9, k10, k11, k12, k13, k14, k15, k16, k17, k18, k19, k20⟩ := hq2; clear k0 k1 k2 k3 k4 k5 k6 k8 k9 k10 k11 k12 k13 k16 k17 k18 k19 k20)
    go_simp;with_reducible rfl)
   refine wpG_u preGr 10 (some 23) ?_;refine wpG_u preGr 11 (some 24) ?_;refine wpG_u preGr 12 (some 25) ?_;refine wpG_u preGr 13 (some 26) ?_;refine wpG_u preGr 14 (some 27) ?_;refine wpG_u preGr 15 (some 28) ?_;refine wpG_u preGr 16 (some 29) ?_ (hy := fun w' hw' => by
    try (have hq2 := (HR1.out.gr (Gr.trans HC.out hw')).cells; rw [HEV.out, <- HI.out, <- HRQ.out] at hq2; obtain ⟨k0, k1, k2, k3, k4, k5, k6, k7, k8, k9, k10, k11, k12, k13, k14, k15, k16, k17, k18, k19, k20⟩ := hq2; clear k0 k1 k2 k3 k4 k5 k6 k8 k9 k10 k11 k12 k13 k16 k17 k18 k19 k20)
    go_simp;with_reducible rfl)
   refine wpG_u preGr 17 (some 30) ?_;refine wpG_one (i := 18) rfl (by kernel_rfl) (by rfl) ?_;go_simp;refine (BE.out wc HC.out).mono ?_;rintro e w3 ⟨rfl, rfl⟩;refine ⟨Gr.refl _, ?_⟩;try simp only [Act.put, aq1, aq2, aq3]
   refine wpG_u preGr 19 (some 32) ?_;refine wpG_done (by kernel_rfl) ?_ _;have hrc := HR1.out.gr HC.out
   by_cases he : V.q.l = encB V.a.ask
   · have hyy : doE V.c V.a 9 V.q QC.zero V.t = y := by rw [HY.out, if_pos ⟨HEQ.out, he⟩, packT_self]
     have EE := hd_ (E.out 9 wc ⟨m, hrc⟩);rw [hyy] at EE;rw [decide_eq_true he];clear he hyy hrc BE HST;go_wp2_with fail
     refine EE.out.mono ?_;rintro e w4 ⟨rfl, dv, hv⟩;have HV := hd_ hv;clear hv;go_wp2_with fail
     go_end0
     exact ⟨rfl, Went.event HV.out⟩
   · have hyy : (V.a, [], []) = y := by rw [HY.out, if_neg (fun h => he h.2)]; rfl
     have HS := HST.out wc ⟨m, hrc⟩;rw [hyy] at HS;have HS2 := hd_ HS;rw [decide_eq_false he];clear he hyy hrc BE HST HS;go_wp2_with fail
     go_end0
     exact ⟨rfl, HS2.out⟩
 · have e1 : (I == R) = false := by simpa using hi
   have hyy : (V.a, [], []) = packT V.c V.a V.q V.t (if I = R /\ V.q.l = encB V.a.ask then some (9, QC.zero, V.a) else none) := by rw [if_neg (fun h => hi h.1)]; rfl
   rw [hx, <- hyy];clear hi hx hyy;go_enter Tryz.func69, Tryz.ntmps69
   go_wp2_with fail
   refine EN.out.mono ?_;rintro e w1 ⟨v1, rfl, ho1, hb1⟩;have HR1 := hd_ (HR.out.gr hb1);clear ho1 hb1 EN k8;go_upto_region 1 with fail
   have HC : Hid (Gr w1 w1.drew) := Gr.drew _;refine wp_region_G 20 Gr (by kernel_rfl) ?_;generalize w1.drew = wc at HC ⊢;refine wpG_u preGr 0 (some 13) ?_;refine wpG_u preGr 1 (some 14) ?_;refine wpG_u preGr 2 (some 15) ?_;refine wpG_u preGr 3 (some 16) ?_;refine wpG_u preGr 4 (some 17) ?_ (hy := fun w' hw' => by
    try (have hq2 := (HR1.out.gr (Gr.trans HC.out hw')).cells; rw [HEV.out, <- HI.out, <- HRQ.out] at hq2; obtain ⟨k0, k1, k2, k3, k4, k5, k6, k7, k8, k9, k10, k11, k12, k13, k14, k15, k16, k17, k18, k19, k20⟩ := hq2; clear k0 k1 k2 k3 k4 k5 k6 k8 k9 k10 k11 k12 k13 k16 k17 k18 k19 k20)
    go_simp;with_reducible rfl)
   refine wpG_u preGr 5 (some 18) ?_;refine wpG_u preGr 6 (some 19) ?_;refine wpG_u preGr 7 (some 20) ?_;refine wpG_u preGr 8 (some 21) ?_;refine wpG_u preGr 9 (some 22) ?_ (hy := fun w' hw' => by
    try (have hq2 := (HR1.out.gr (Gr.trans HC.out hw')).cells; rw [HEV.out, <- HI.out, <- HRQ.out] at hq2; obtain ⟨k0, k1, k2, k3, k4, k5, k6, k7, k8, k9, k10, k11, k12, k13, k14, k15, k16, k17, k18, k19, k20⟩ := hq2; clear k0 k1 k2 k3 k4 k5 k6 k8 k9 k10 k11 k12 k13 k16 k17 k18 k19 k20)
    go_simp;with_reducible rfl)
   refine wpG_u preGr 10 (some 23) ?_;refine wpG_u preGr 11 (some 24) ?_;refine wpG_p preGr 12 (some 25) ?_;refine wpG_p preGr 13 (some 26) ?_;refine wpG_p preGr 14 (some 27) ?_;refine wpG_p preGr 15 (some 28) ?_;refine wpG_p preGr 16 (some 29) ?_;refine wpG_p preGr 17 (some 30) ?_;refine wpG_p preGr 18 (some 31) ?_;refine wpG_u preGr 19 (some 32) ?_;refine wpG_done (by kernel_rfl) ?_ _;have HS := hd_ (HST.out wc ⟨m, HR1.out.gr HC.out⟩);go_wp2_with fail
   go_end0
   exact ⟨rfl, HS.out⟩
set_option maxRecDepth 20000 in
set_option maxHeartbeats 8000000 in
theorem asked_any (g : Nat) (V : Vw) (w0 w : World) (h : RV w0 w g V) (hf : fine V.c V.a V.t) (h1 : V.out = []) (h2 : V.done = []) (hc : V.q.c = 1) :
 Calls Tryz.prog 68 #[.pointer (some ⟨g, 0, none⟩)] w fun e w' => e = .returned (.tuple #[]) /\ Went w0 w' g V (packT V.c V.a V.q V.t (which V.c V.a V.q)) := by
 rw [which_1 hc];have HST := hd_ (fun w' (hv : RV w0 w' g V) => Went.stay hv h1 h2);have EV := hd_ (fun ev n w' (hv : RV w0 w' g { V with n := n }) => event_any g { V with n := n } ev w0 w' hv hf h1 h2);obtain ⟨m, hm⟩ := h;have HR := hd_ hm;have hbs := hm.hold.q.below hm.hold.old;obtain ⟨A, L, C, ev, hL, hLC, hCm⟩ := hbs.sl;rw [ev] at hbs;have hql := hm.hold.ql;have DE := hd_ (decode_any A L C V.q.l hL w hbs (by omega));unfold DecR at DE;obtain ⟨hds, hdl⟩ := dec_small V.q.l;have HDS := hd_ hds;have HDL := hd_ hdl;have HA := hd_ hf.1.1;obtain ⟨k0, k1, k2, k3, k4, k5, k6, k7, k8, k9, k10, k11, k12, k13, k14, k15, k16, k17, k18, k19, k20⟩ := hm.cells;rw [ev] at k15;obtain ⟨D, hD⟩ : ∃ D, D = (dec V.q.l).1 := ⟨_, rfl⟩;obtain ⟨F, hF⟩ : ∃ F, F = (dec V.q.l).2 := ⟨_, rfl⟩;rw [<- hD] at HDS HDL DE ⊢;rw [<- hF] at DE ⊢;clear hm hf h1 h2 hc hds hdl ev hbs hL hLC hCm hql hD hF k0 k1 k2 k3 k4 k5 k6 k7 k8 k9 k10 k11 k12 k13 k14 k16 k17 k18 k19 k20
 by_cases hd : F = 0
 · obtain ⟨K, hK⟩ : ∃ K, K = (ans V.c.rs D V.a.naks V.c.fail).1 := ⟨_, rfl⟩;obtain ⟨U, hU⟩ : ∃ U, U = (ans V.c.rs D V.a.naks V.c.fail).2 := ⟨_, rfl⟩;obtain ⟨hus, hul⟩ := small_ans (n := V.a.naks) (m := V.c.fail) HA.out HDS.out;have HUS : Hid (Small U /\ U.length <= 1000) := ⟨by rw [hU]; exact hus, by rw [hU]; have := HDL.out; omega⟩;have HK := hd_ hK;have HU := hd_ hU;rw [<- hU, <- hK];rw [hd] at DE;obtain ⟨x, hx⟩ : ∃ x, x = packT V.c V.a V.q V.t (if F = 0 /\ encE U = 0 then some (if K = 2 then 7 else 8, ⟨K, V.q.i, encB U⟩, V.a) else none) := ⟨_, rfl⟩;rw [<- hx];have HX := hd_ hx;have HD0 := hd_ hd;clear hus hul hK hU hx hd;go_enter Tryz.func68, Tryz.ntmps68
   go_wp2_with fail
   refine DE.out.mono ?_;rintro e w1 ⟨v1, rfl, ⟨ts, hpl, hto⟩, hb1⟩;have HR1 := hd_ (HR.out.gr hb1);obtain ⟨a1, c1, ev1, _, _⟩ := hto.tr.shape;subst ev1;have HTS : Hid (ts.length <= 1000 /\ (∀ x ∈ ts, x.l.length <= 1000)) := by
    refine ⟨?_, (small_row (by rw [hpl]; exact HDS.out)).1⟩;have := congrArg List.length hpl;rw [plain_length] at this;have h2 := HDL.out;omega
   have AN : Hid (∀ w', Gr w1 w' -> ∃ rv, HR.out.hold.rules = HR.out.hold.rules /\ m.rv = rv /\ Calls Tryz.prog 87 #[rv, .slice a1 ts.length c1, .int .i64 V.a.naks, .int .i64 V.c.fail] w' fun e w'' => ∃ v us, e = .returned (.tuple #[.int .i64 K, v]) /\ plain us = U /\ TO w'' w'.heap.size v us /\ Below w'.heap.size w' w'') := fun w' hw' => by
    have h' := (HR1.out.gr hw').hold;obtain ⟨rn, hrr⟩ := h'.rules;obtain ⟨ra, rc, er, _, _⟩ := hrr.shape;refine ⟨m.rv, rfl, rfl, ?_⟩;rw [er] at hrr ⊢;have := answer_any ra rn rc V.c.rs a1 ts.length c1 ts V.a.naks V.c.fail w' (hrr.below h'.old) (hto.tr.below hw') HTS.out.1 HTS.out.2;rw [hpl] at this;unfold ARes at this;rw [<- HK.out, <- HU.out] at this;exact this
   have AN2 : Hid (∀ w', Gr w1 w' -> Calls Tryz.prog 87 #[m.rv, .slice a1 ts.length c1, .int .i64 V.a.naks, .int .i64 V.c.fail] w' fun e w'' => ∃ v us, e = .returned (.tuple #[.int .i64 K, v]) /\ plain us = U /\ TO w'' w'.heap.size v us /\ Below w'.heap.size w' w'') := fun w' hw' => by
    obtain ⟨rv, _, e, h⟩ := AN.out w' hw';rw [e]; exact h
   clear hto hb1 hpl DE k15 AN;go_upto_region 2 with fail
   have HC : Hid (Gr w1 w1.drew) := Gr.drew _;refine wp_region_G 22 Gr (by kernel_rfl) ?_;generalize w1.drew = wc at HC ⊢;refine wpG_u preGr 0 (some 19) ?_;refine wpG_u preGr 1 (some 20) ?_;refine wpG_u preGr 2 (some 21) ?_;refine wpG_u preGr 3 (some 22) ?_;refine wpG_u preGr 4 (some 23) ?_ (hy := fun w' hw' => by
    try (have hq2 := (HR1.out.gr (Gr.trans HC.out hw')).cells; obtain ⟨k0, k1, k2, k3, k4, k5, k6, k7, k8, k9, k10, k11, k12, k13, k14, k15, k16, k17, k18, k19, k20⟩ := hq2; clear k1 k2 k4 k5 k6 k7 k8 k9 k10 k12 k13 k14 k15 k16 k17 k18 k19 k20)
    go_simp;with_reducible rfl)
   refine wpG_u preGr 5 (some 24) ?_;refine wpG_u preGr 6 (some 25) ?_;refine wpG_u preGr 7 (some 26) ?_;refine wpG_u preGr 8 (some 27) ?_;refine wpG_u preGr 9 (some 28) ?_;refine wpG_u preGr 10 (some 29) ?_ (hy := fun w' hw' => by
    try (have hq2 := (HR1.out.gr (Gr.trans HC.out hw')).cells; obtain ⟨k0, k1, k2, k3, k4, k5, k6, k7, k8, k9, k10, k11, k12, k13, k14, k15, k16, k17, k18, k19, k20⟩ := hq2; clear k1 k2 k4 k5 k6 k7 k8 k9 k10 k12 k13 k14 k15 k16 k17 k18 k19 k20)
    go_simp;with_reducible rfl)
   refine wpG_u preGr 11 (some 30) ?_;refine wpG_u preGr 12 (some 31) ?_;refine wpG_u preGr 13 (some 32) ?_;refine wpG_u preGr 14 (some 33) ?_;refine wpG_u preGr 15 (some 34) ?_ (hy := fun w' hw' => by
    try (have hq2 := (HR1.out.gr (Gr.trans HC.out hw')).cells; obtain ⟨k0, k1, k2, k3, k4, k5, k6, k7, k8, k9, k10, k11, k12, k13, k14, k15, k16, k17, k18, k19, k20⟩ := hq2; clear k1 k2 k4 k5 k6 k7 k8 k9 k10 k12 k13 k14 k15 k16 k17 k18 k19 k20)
    go_simp;with_reducible rfl)
   refine wpG_one (i := 16) rfl (by kernel_rfl) (by rfl) ?_;go_simp;refine (AN2.out wc HC.out).mono ?_;rintro e w3 ⟨v3, us, rfl, hpu, hto3, hb3⟩;refine ⟨hb3, ?_⟩;have HR3 := hd_ (HR1.out.gr (Gr.trans HC.out hb3));have HPU := hd_ hpu;have HTO3 := hd_ hto3.tr;obtain ⟨a3, c3, ev3, _, _⟩ := hto3.tr.shape;subst ev3;clear hto3 hb3 hpu;try simp only [Act.put, aq1, aq2, aq3]
   refine wpG_u preGr 17 (some 18) ?_;refine wpG_u preGr 18 (some 36) ?_;refine wpG_u preGr 19 (some 37) ?_;refine wpG_u preGr 20 (some 4) ?_;refine wpG_u preGr 21 (some 5) ?_;refine wpG_done (by kernel_rfl) ?_ _;have husl : us.length <= 1000 := by
    have := congrArg List.length HPU.out;rw [plain_length] at this;have h2 := HUS.out.2;omega
   have EN := hd_ (encode_any a3 us.length c3 us w3 HTO3.out husl (fun x hx => by have := (small_row (by rw [HPU.out]; exact HUS.out.1)).1 x hx; omega));rw [HPU.out] at EN;unfold EncR at EN;clear husl AN2 HR1
   by_cases he : encE U = 0
   · rw [he] at EN;have hxe : doE V.c V.a (if K = 2 then 7 else 8) V.q ⟨K, V.q.i, encB U⟩ V.t = x := by rw [HX.out, if_pos (c := F = 0 /\ encE U = 0) ⟨HD0.out, he⟩, packT_self]
     have HXE := hd_ hxe;clear he hxe;go_wp2_with fail
     refine EN.out.mono ?_;rintro e w4 ⟨v4, rfl, ho4, hb4⟩;obtain ⟨A4, L4, C4, ev4, _, _, _⟩ := ho4.bs.sl;subst ev4;have HR4 := hd_ (HR3.out.gr hb4);have HO4 := hd_ (OwnB.mono ho4 HR3.out.hold.old.size);have hb := builtC K V.q.i A4 L4 C4;obtain ⟨k0, k1, k2, k3, k4, k5, k6, k7, k8, k9, k10, k11, k12, k13, k14, k15, k16, k17, k18, k19, k20⟩ := HR4.out.cells;clear ho4 hb4 EN HR3 k0 k1 k2 k3 k4 k5 k6 k7 k8 k9 k10 k11 k12 k13 k15 k16 k17 k18 k19 k20;go_wp2_with (refine wpList_store_splice rfl 32 (.tmp 55) (.tmp 53) rfl g 16 [.int .i64 K, .int .i64 V.q.i, .slice A4 L4 C4] rfl rfl 75 _ HR4.out.row sizeC (by simp) (one_ctl _ _ rfl) ?_)
     intro w5 g5 ho5;have hr5 : RAt w0 w5 g { V with n := ⟨K, V.q.i, encB U⟩ } { m with nv := .slice A4 L4 C4 } := by
      refine HR4.out.turn ho5 g5 fun k => ?_
      refine ⟨k.old, k.rules, k.ask, k.asks, k.q, .inl (own_off HO4.out HR4.out.row (show 5 ≠ 75 by decide) ho5), k.out, k.outs, k.done, k.ql, ?_, k.few⟩;have := encB_le U;show (encB U).length <= 1500;omega
     have E := hd_ (fun ev => EV.out ev ⟨K, V.q.i, encB U⟩ w5 ⟨_, hr5⟩);clear g5 ho5 hr5 k14 hb HR4 HO4
     by_cases hk : K = 2
     · have EE := hd_ (E.out 7);have hxk : doE V.c V.a 7 V.q ⟨K, V.q.i, encB U⟩ V.t = x := by rw [<- HXE.out, if_pos hk]
       have HXK := hd_ hxk;have hk2 : (K == 2) = true := by simp [hk]
       clear hk hxk E;go_wp2_with fail
       refine EE.out.mono ?_;rintro e w6 ⟨rfl, dv, hv⟩;have HV := hd_ hv;clear hv;go_wp2_with fail
       go_end0
       refine ⟨rfl, ⟨K, V.q.i, encB U⟩, dv, ?_⟩;rw [<- HXK.out];exact HV.out
     · have EE := hd_ (E.out 8);have hxk : doE V.c V.a 8 V.q ⟨K, V.q.i, encB U⟩ V.t = x := by rw [<- HXE.out, if_neg hk]
       have HXK := hd_ hxk;have hk2 : (K == 2) = false := by simpa using hk
       clear hk hxk E;go_wp2_with fail
       refine EE.out.mono ?_;rintro e w6 ⟨rfl, dv, hv⟩;have HV := hd_ hv;clear hv;go_wp2_with fail
       go_end0
       refine ⟨rfl, ⟨K, V.q.i, encB U⟩, dv, ?_⟩;rw [<- HXK.out];exact HV.out
   · have hxe : (V.a, [], []) = x := by rw [HX.out, if_neg (c := F = 0 /\ encE U = 0) (fun h => he h.2)]; rfl
     have HXE := hd_ hxe;obtain ⟨G, hG⟩ : ∃ G, G = encE U := ⟨_, rfl⟩;rw [<- hG] at EN he;have hg2 : (G != 0) = true := by simpa using he
     clear he hxe hG;go_wp2_with fail
     refine EN.out.mono ?_;rintro e w4 ⟨v4, rfl, ho4, hb4⟩;have HS := hd_ (HST.out w4 ⟨m, HR3.out.gr hb4⟩);clear ho4 hb4 EN HR3;go_wp2_with fail
     try simp only [Exit.inBlock, Exit.then]
     refine bodyPost_ret (results_none rfl _ _ _) rfl ?_;rw [<- HXE.out];exact ⟨rfl, HS.out⟩
 · have hxe : (V.a, [], []) = packT V.c V.a V.q V.t (if F = 0 /\ encE (ans V.c.rs D V.a.naks V.c.fail).2 = 0 then some (if (ans V.c.rs D V.a.naks V.c.fail).1 = 2 then 7 else 8, ⟨(ans V.c.rs D V.a.naks V.c.fail).1, V.q.i, encB (ans V.c.rs D V.a.naks V.c.fail).2⟩, V.a) else none) := by
    rw [if_neg (c := F = 0 /\ encE (ans V.c.rs D V.a.naks V.c.fail).2 = 0) (fun h => hd h.1)]; rfl
   rw [<- hxe];have hg2 : (F != 0) = true := by simpa using hd
   clear hd hxe;go_enter Tryz.func68, Tryz.ntmps68
   go_wp2_with fail
   refine DE.out.mono ?_;rintro e w1 ⟨v1, rfl, _, hb1⟩;have HS := hd_ (HST.out w1 ⟨m, HR.out.gr hb1⟩);clear hb1 DE k15;go_wp2_with fail
   try simp only [Exit.inBlock, Exit.then]
   refine bodyPost_ret (results_none rfl _ _ _) rfl ?_;exact ⟨rfl, HS.out⟩
end Go.Proofs.YtclplbapedmihaaGreat.Au
namespace Go.Proofs.YtclplbapedmihaaGreat.Au
set_option maxRecDepth 4000
open Go.RowKit O Ng
open Go.Proofs.YtclplbapedmihaaGreat.Fs (AO AO.ar AO.nil AR Step_any)
set_option linter.unusedVariables false
set_option linter.unusedSimpArgs false
theorem event_no (g : Nat) (V : Vw) (m : Mv) (ev : Int) (w0 w : World) (h : RAt w0 w g V m) (hz : ¬ (Fs.stp V.a.st ev).2.2 = 0) :
 Calls Tryz.prog 31 #[.pointer (some ⟨g, 0, none⟩), .int .i64 ev] w fun e w' => e = .returned (.bool false) /\ Gr w w' := by
 obtain ⟨k0, k1, k2, k3, k4, k5, k6, k7, k8, k9, k10, k11, k12, k13, k14, k15, k16, k17, k18, k19, k20⟩ := h.cells;have ST := hd_ (Step_any V.a.st ev w);clear h k0 k1 k2 k3 k4 k6 k7 k8 k9 k10 k11 k12 k13 k14 k15 k16 k17 k18 k19 k20;unfold Fs.TRes at ST;obtain ⟨N, hN⟩ : ∃ N, N = (Fs.stp V.a.st ev).1 := ⟨_, rfl⟩;obtain ⟨L, hL⟩ : ∃ L, L = (Fs.stp V.a.st ev).2.1 := ⟨_, rfl⟩;obtain ⟨F, hF⟩ : ∃ F, F = (Fs.stp V.a.st ev).2.2 := ⟨_, rfl⟩;rw [<- hF] at hz;rw [<- hN, <- hL, <- hF] at ST;clear hN hL hF;go_enter Tryz.func31, Tryz.ntmps31
 go_wp2_with fail
 refine ST.out.mono ?_;rintro e w1 ⟨v, rfl, ho, hb⟩;have HB : Hid (Gr w w1) := hb;clear ho hb;go_wp2_with fail
 go_ret
 exact ⟨rfl, HB.out⟩
theorem sizeOs2 : (Tryz.prog.info? 26).map (·.size) = some 1 := by kernel_rfl
theorem isA_small {a : Aut} (h : isA a) : Small a.ask := small_isT (encE_zero h.2.2.2.1).2.1
set_option maxRecDepth 20000 in
set_option maxHeartbeats 8000000 in
theorem refused_any (g : Nat) (V : Vw) (w0 w : World) (h : RV w0 w g V) (hf : fine V.c V.a V.t) (h1 : V.out = []) (h2 : V.done = []) (hn : V.n = QC.zero) (hc : V.q.c = 3 \/ V.q.c = 4) :
 Calls Tryz.prog 70 #[.pointer (some ⟨g, 0, none⟩)] w fun e w' => e = .returned (.tuple #[]) /\ Went w0 w' g V (packT V.c V.a V.q V.t (which V.c V.a V.q)) := by
 have hwh := which_3 (c := V.c) (a := V.a) hc;rw [hwh];have HST := hd_ (fun w' (hv : RV w0 w' g V) => Went.stay hv h1 h2);have HFI := hd_ hf;have HNN := hd_ hn;have H12 := hd_ (And.intro h1 h2);obtain ⟨m, hm⟩ := h;have HR := hd_ hm;have hbs := hm.hold.q.below hm.hold.old;obtain ⟨A, L, C, ev, hL, hLC, hCm⟩ := hbs.sl;rw [ev] at hbs;have hql := hm.hold.ql;have DE := hd_ (decode_any A L C V.q.l hL w hbs (by omega));unfold DecR at DE;obtain ⟨hds, hdl⟩ := dec_small V.q.l;have HDS := hd_ hds;have HDL := hd_ hdl;have hqs := isA_small hf.2.1;have HQS : Hid (Small (plain m.ts)) := by rw [<- hm.hold.asks] at hqs; exact hqs
 obtain ⟨k0, k1, k2, k3, k4, k5, k6, k7, k8, k9, k10, k11, k12, k13, k14, k15, k16, k17, k18, k19, k20⟩ := hm.cells;rw [ev] at k15;obtain ⟨D, hD⟩ : ∃ D, D = (dec V.q.l).1 := ⟨_, rfl⟩;obtain ⟨F, hF⟩ : ∃ F, F = (dec V.q.l).2 := ⟨_, rfl⟩;rw [<- hD] at HDS HDL DE ⊢;rw [<- hF] at DE ⊢;obtain ⟨hsl, hsn⟩ := small_lrn (k := V.q.c) HQS.out HDS.out;rw [hm.hold.asks] at hsl hsn;obtain ⟨U, hU⟩ : ∃ U, U = (lrn V.a.ask V.q.c D).1 := ⟨_, rfl⟩;obtain ⟨B, hB⟩ : ∃ B, B = (lrn V.a.ask V.q.c D).2 := ⟨_, rfl⟩;have HUS : Hid (Small U /\ U.length <= 1000) := by
  rw [hU];have h3 := hm.hold.few.1;have h4 : V.a.ask.length = m.ts.length := by rw [<- hm.hold.asks, plain_length]
  exact ⟨hsl, by omega⟩
 have HU := hd_ hU;have HB := hd_ hB;rw [<- hU, <- hB];obtain ⟨I, hI⟩ : ∃ I, I = V.q.i := ⟨_, rfl⟩;obtain ⟨R, hR⟩ : ∃ R, R = V.a.req := ⟨_, rfl⟩;have HI := hd_ hI;have HRQ := hd_ hR;obtain ⟨x, hx⟩ : ∃ x, x = packT V.c V.a V.q V.t (if V.q.i = V.a.req /\ F = 0 /\ B = true /\ encE U = 0 then some (10, QC.zero, { V.a with ask := U }) else none) := ⟨_, rfl⟩;rw [<- hx];have HX := hd_ hx;clear hm hf h1 h2 hc hn hwh hds hdl hqs ev hbs hL hLC hCm hql hD hF hsl hsn hU hB hI hR hx k0 k1 k2 k3 k4 k5 k6 k7 k8 k9 k10 k11 k12 k13 k14 k16 k17 k18 k19 k20
 by_cases hd : F = 0
 · rw [hd] at DE
   by_cases hi : I = R
   · have e1 : (I != R) = false := by simp [hi]
     have HEQ : Hid (V.q.i = V.a.req /\ F = 0) := ⟨by rw [<- HI.out, <- HRQ.out]; exact hi, hd⟩;clear hi hd;go_enter Tryz.func70, Tryz.ntmps70
     go_wp2_with fail
     refine DE.out.mono ?_;rintro e w1 ⟨v1, rfl, ⟨ts, hpl, hto⟩, hb1⟩;have HR1 := hd_ (HR.out.gr hb1);obtain ⟨a1, c1, ev1, _, _⟩ := hto.tr.shape;subst ev1;have HTO := hd_ hto.tr;have HPL := hd_ hpl;have HTS : Hid (ts.length <= 1000 /\ (∀ x ∈ ts, x.l.length <= 1000) /\ ∀ x ∈ ts, I64 x.typ) := by
      have hs := small_row (us := ts) (by rw [hpl]; exact HDS.out);refine ⟨?_, hs.1, hs.2⟩;have := congrArg List.length hpl;rw [plain_length] at this;have h2 := HDL.out;omega
     clear hto hb1 hpl DE k15;go_upto_region 1 with fail
     have HC : Hid (Gr w1 w1.drew) := Gr.drew _;refine wp_region_G 15 Gr (by kernel_rfl) ?_;generalize w1.drew = wc at HC ⊢;refine wpG_u preGr 0 (some 18) ?_;refine wpG_u preGr 1 (some 19) ?_;refine wpG_u preGr 2 (some 20) ?_;refine wpG_u preGr 3 (some 21) ?_;refine wpG_u preGr 4 (some 22) ?_;refine wpG_u preGr 5 (some 23) ?_;refine wpG_u preGr 6 (some 24) ?_;refine wpG_u preGr 7 (some 25) ?_ (hy := fun w' hw' => by
      try (have hq2 := (HR1.out.gr (Gr.trans HC.out hw')).cells; rw [<- HI.out, <- HRQ.out] at hq2; obtain ⟨k0, k1, k2, k3, k4, k5, k6, k7, k8, k9, k10, k11, k12, k13, k14, k15, k16, k17, k18, k19, k20⟩ := hq2; clear k0 k1 k2 k3 k4 k5 k6 k8 k9 k10 k11 k12 k13 k15 k16 k17 k18 k19 k20)
      go_simp;with_reducible rfl)
     refine wpG_u preGr 8 (some 26) ?_;refine wpG_u preGr 9 (some 27) ?_;refine wpG_u preGr 10 (some 28) ?_;refine wpG_u preGr 11 (some 29) ?_;refine wpG_u preGr 12 (some 30) ?_ (hy := fun w' hw' => by
      try (have hq2 := (HR1.out.gr (Gr.trans HC.out hw')).cells; rw [<- HI.out, <- HRQ.out] at hq2; obtain ⟨k0, k1, k2, k3, k4, k5, k6, k7, k8, k9, k10, k11, k12, k13, k14, k15, k16, k17, k18, k19, k20⟩ := hq2; clear k0 k1 k2 k3 k4 k5 k6 k8 k9 k10 k11 k12 k13 k15 k16 k17 k18 k19 k20)
      go_simp;with_reducible rfl)
     refine wpG_u preGr 13 (some 31) ?_;refine wpG_u preGr 14 (some 32) ?_;refine wpG_done (by kernel_rfl) ?_ _;have HR2 := hd_ (HR1.out.gr HC.out);have LN : Hid (∀ w', Gr wc w' -> Calls Tryz.prog 89 #[m.av, .int .i64 V.q.c, .slice a1 ts.length c1] w' fun e w'' => ∃ v us, e = .returned (.tuple #[v, .bool B]) /\ plain us = U /\ TO w'' w'.heap.size v us /\ Below w'.heap.size w' w'') := fun w' hw' => by
      have h' := (HR2.out.gr hw').hold;obtain ⟨aa, ac, ea, _, _⟩ := h'.ask.tr.shape;have htr := h'.ask.tr;rw [ea] at htr ⊢;have hs := small_row (us := m.ts) HQS.out;have := learn_any aa m.ts.length ac m.ts V.q.c a1 ts.length c1 ts w' htr (HTO.out.below (Gr.trans HC.out hw')) h'.few.1 HTS.out.1 h'.few.2 HTS.out.2.1 hs.2 HTS.out.2.2;rw [h'.asks, HPL.out] at this;unfold LRes at this;rw [<- HU.out, <- HB.out] at this;exact this
     clear HR1 e1;go_upto_region 2 with fail
     have HC2 : Hid (Gr wc wc.drew) := Gr.drew _;refine wp_region_G 17 Gr (by kernel_rfl) ?_;generalize wc.drew = wd at HC2 ⊢;refine wpG_u preGr 0 (some 34) ?_;refine wpG_u preGr 1 (some 35) ?_;refine wpG_u preGr 2 (some 36) ?_;refine wpG_u preGr 3 (some 37) ?_;refine wpG_u preGr 4 (some 38) ?_ (hy := fun w' hw' => by
      try (have hq2 := (HR2.out.gr (Gr.trans HC2.out hw')).cells; obtain ⟨k0, k1, k2, k3, k4, k5, k6, k7, k8, k9, k10, k11, k12, k13, k14, k15, k16, k17, k18, k19, k20⟩ := hq2; clear k0 k1 k2 k3 k4 k5 k6 k7 k9 k10 k11 k12 k14 k15 k16 k17 k18 k19 k20)
      go_simp;with_reducible rfl)
     refine wpG_u preGr 5 (some 39) ?_;refine wpG_u preGr 6 (some 40) ?_;refine wpG_u preGr 7 (some 41) ?_;refine wpG_u preGr 8 (some 42) ?_;refine wpG_u preGr 9 (some 43) ?_ (hy := fun w' hw' => by
      try (have hq2 := (HR2.out.gr (Gr.trans HC2.out hw')).cells; obtain ⟨k0, k1, k2, k3, k4, k5, k6, k7, k8, k9, k10, k11, k12, k13, k14, k15, k16, k17, k18, k19, k20⟩ := hq2; clear k0 k1 k2 k3 k4 k5 k6 k7 k9 k10 k11 k12 k14 k15 k16 k17 k18 k19 k20)
      go_simp;with_reducible rfl)
     refine wpG_u preGr 10 (some 44) ?_;refine wpG_one (i := 11) rfl (by kernel_rfl) (by rfl) ?_;go_simp;refine (LN.out wd HC2.out).mono ?_;rintro e w3 ⟨v3, us, rfl, hpu, hto3, hb3⟩;refine ⟨hb3, ?_⟩;have HR3 := hd_ (HR2.out.gr (Gr.trans HC2.out hb3));have HPU := hd_ hpu;have HTO3 := hd_ (hto3.mono (HR2.out.gr HC2.out).hold.old.size);obtain ⟨a3, c3, ev3, _, _⟩ := hto3.tr.shape;subst ev3;clear hto3 hb3 hpu;try simp only [Act.put, aq1, aq2, aq3]
     refine wpG_u preGr 12 (some 33) ?_;refine wpG_u preGr 13 (some 46) ?_;refine wpG_u preGr 14 (some 47) ?_;refine wpG_u preGr 15 (some 4) ?_;refine wpG_u preGr 16 (some 5) ?_;refine wpG_done (by kernel_rfl) ?_ _;have husl : us.length <= 1000 := by
      have := congrArg List.length HPU.out;rw [plain_length] at this;have h2 := HUS.out.2;omega
     have HSR := hd_ (And.intro husl (small_row (us := us) (by rw [HPU.out]; exact HUS.out.1)).1);have EN := hd_ (encode_any a3 us.length c3 us w3 HTO3.out.tr husl (fun x hx => by have := HSR.out.2 x hx; omega));rw [HPU.out] at EN;unfold EncR at EN;clear husl LN HR2 HTO
     by_cases he : encE U = 0
     · rw [he] at EN;have HE := hd_ he;clear he;cases B with
       | true =>
        have hxe : x = packT V.c V.a V.q V.t (some (10, QC.zero, { V.a with ask := U })) := by rw [HX.out, if_pos ⟨HEQ.out.1, HEQ.out.2, rfl, HE.out⟩]
        have HXE := hd_ hxe;clear hxe;go_wp2_with fail
        refine EN.out.mono ?_;rintro e w4 ⟨v4, rfl, _, hb4⟩;have HR4 := hd_ (HR3.out.gr hb4);have HTO4 := hd_ (HTO3.out.below hb4);obtain ⟨k0, k1, k2, k3, k4, k5, k6, k7, k8, k9, k10, k11, k12, k13, k14, k15, k16, k17, k18, k19, k20⟩ := HR4.out.cells;clear hb4 EN HR3 HTO3 k0 k1 k2 k3 k4 k5 k6 k7 k9 k10 k11 k12 k13 k14 k15 k16 k17 k18 k19 k20;go_wp2_with (refine wpList_store_cell rfl 26 (.tmp 68) (.tmp 65) rfl g 8 (.slice a3 us.length c3) rfl rfl 75 _ HR4.out.row sizeOs2 (by simp) rfl ?_)
        intro w5 g5 ho5;have hr5 : RAt w0 w5 g { V with a := { V.a with ask := U } } { m with av := .slice a3 us.length c3, ts := us } := by
         refine HR4.out.turn ho5 g5 fun k => ?_
         exact ⟨k.old, k.rules, TO.off HTO4.out HR4.out.row (by decide) (by decide) ho5, HPU.out, k.q, k.n, k.out, k.outs, k.done, k.ql, k.nl, HSR.out⟩
        have HR5 := hd_ hr5;have HOLD5 : Hid (TO w5 w0.heap.size m.av m.ts) := TO.off HR4.out.hold.ask HR4.out.row (by decide) (by decide) ho5;clear g5 ho5 hr5 k8 HTO4
        by_cases hz : (Fs.stp V.a.st 10).2.2 = 0
        · have E := hd_ (event_any g { V with a := { V.a with ask := U } } 10 w0 w5 ⟨_, HR5.out⟩ ⟨HFI.out.1, by
           obtain ⟨i1, i2, i3, i4, i5, i6, i7⟩ := HFI.out.2.1;exact ⟨i1, i2, i3, HE.out, i5, i6, i7⟩, HFI.out.2.2⟩ H12.out.1 H12.out.2)
          have hy : doE V.c { V.a with ask := U } 10 V.q V.n V.t = x := by rw [HXE.out, packT_yes hz, HNN.out]
          rw [show decide ((Fs.stp ({ V with a := { V.a with ask := U } } : Vw).a.st 10).2.2 = 0) = true from decide_eq_true hz] at E;have HY := hd_ hy;clear hz hy;go_wp2_with fail
          refine E.out.mono ?_;rintro e w6 ⟨rfl, dv, hv⟩;have HV := hd_ hv;clear hv;go_wp2_with fail
          go_end0
          refine ⟨rfl, V.n, dv, ?_⟩;rw [<- HY.out];exact HV.out
        · have E := hd_ (event_no g { V with a := { V.a with ask := U } } _ 10 w0 w5 HR5.out hz);have hy : (V.a, [], []) = x := by rw [HXE.out, packT_no hz]
          have HY := hd_ hy;clear hz hy;go_wp2_with fail
          refine E.out.mono ?_;rintro e w6 ⟨rfl, hb6⟩;have HR6 := hd_ (HR5.out.gr hb6);have HOLD6 := hd_ (HOLD5.out.below hb6);have h1v : m.av.oneCell' = true := own_one HOLD5.out.own;have H1V := hd_ h1v;clear hb6 HR5 HOLD5 h1v;go_wp2_with (refine wpList_store_cell rfl 26 (.tmp 76) (.tmp 73) rfl g 8 m.av rfl rfl 75 _ HR6.out.row sizeOs2 (by simp) H1V.out ?_)
          intro w7 g7 ho7;have hr7 : RAt w0 w7 g V m := by
           refine HR6.out.turn ho7 g7 fun k => ?_
           exact ⟨k.old, k.rules, TO.off HOLD6.out HR6.out.row (by decide) (by decide) ho7, HR.out.hold.asks, k.q, k.n, k.out, k.outs, k.done, k.ql, k.nl, HR.out.hold.few⟩
          have HS := hd_ (HST.out w7 ⟨m, hr7⟩);clear g7 ho7 hr7;go_wp2_with fail
          go_end0
          rw [<- HY.out];exact ⟨rfl, HS.out⟩
       | false =>
        have hxe : (V.a, [], []) = x := by rw [HX.out, if_neg (c := V.q.i = V.a.req /\ F = 0 /\ false = true /\ encE U = 0) (fun h => Bool.noConfusion h.2.2.1)]; rfl
        have HXE := hd_ hxe;clear hxe;go_wp2_with fail
        refine EN.out.mono ?_;rintro e w4 ⟨v4, rfl, _, hb4⟩;have HS := hd_ (HST.out w4 ⟨m, HR3.out.gr hb4⟩);clear hb4 EN HR3 HTO3;go_wp2_with fail
        try simp only [Exit.inBlock, Exit.then]
        refine bodyPost_ret (results_none rfl _ _ _) rfl ?_;rw [<- HXE.out];exact ⟨rfl, HS.out⟩
     · have hxe : (V.a, [], []) = x := by rw [HX.out, if_neg (c := V.q.i = V.a.req /\ F = 0 /\ B = true /\ encE U = 0) (fun h => he h.2.2.2)]; rfl
       have HXE := hd_ hxe;obtain ⟨G, hG⟩ : ∃ G, G = encE U := ⟨_, rfl⟩;rw [<- hG] at EN he;have hg2 : (G != 0) = true := by simpa using he
       clear he hxe hG;go_wp2_with fail
       refine EN.out.mono ?_;rintro e w4 ⟨v4, rfl, _, hb4⟩;have HS := hd_ (HST.out w4 ⟨m, HR3.out.gr hb4⟩);clear hb4 EN HR3 HTO3;go_wp2_with fail
       try simp only [Exit.inBlock, Exit.then]
       refine bodyPost_ret (results_none rfl _ _ _) rfl ?_;rw [<- HXE.out];exact ⟨rfl, HS.out⟩
   · have e1 : (I != R) = true := by simpa using hi
     have hxe : (V.a, [], []) = x := by rw [HX.out, if_neg (c := V.q.i = V.a.req /\ F = 0 /\ B = true /\ encE U = 0) (fun h => hi (by rw [HI.out, HRQ.out]; exact h.1))]; rfl
     have HXE := hd_ hxe;clear hi hd hxe;go_enter Tryz.func70, Tryz.ntmps70
     go_wp2_with fail
     refine DE.out.mono ?_;rintro e w1 ⟨v1, rfl, _, hb1⟩;have HR1 := hd_ (HR.out.gr hb1);clear hb1 DE k15;go_upto_region 1 with fail
     have HC : Hid (Gr w1 w1.drew) := Gr.drew _;refine wp_region_G 15 Gr (by kernel_rfl) ?_;generalize w1.drew = wc at HC ⊢;refine wpG_u preGr 0 (some 18) ?_;refine wpG_u preGr 1 (some 19) ?_;refine wpG_u preGr 2 (some 20) ?_;refine wpG_u preGr 3 (some 21) ?_;refine wpG_u preGr 4 (some 22) ?_;refine wpG_u preGr 5 (some 23) ?_;refine wpG_u preGr 6 (some 24) ?_;refine wpG_u preGr 7 (some 25) ?_ (hy := fun w' hw' => by
      try (have hq2 := (HR1.out.gr (Gr.trans HC.out hw')).cells; rw [<- HI.out, <- HRQ.out] at hq2; obtain ⟨k0, k1, k2, k3, k4, k5, k6, k7, k8, k9, k10, k11, k12, k13, k14, k15, k16, k17, k18, k19, k20⟩ := hq2; clear k0 k1 k2 k3 k4 k5 k6 k8 k9 k10 k11 k12 k13 k15 k16 k17 k18 k19 k20)
      go_simp;with_reducible rfl)
     refine wpG_u preGr 8 (some 26) ?_;refine wpG_u preGr 9 (some 27) ?_;refine wpG_u preGr 10 (some 28) ?_;refine wpG_u preGr 11 (some 29) ?_;refine wpG_u preGr 12 (some 30) ?_ (hy := fun w' hw' => by
      try (have hq2 := (HR1.out.gr (Gr.trans HC.out hw')).cells; rw [<- HI.out, <- HRQ.out] at hq2; obtain ⟨k0, k1, k2, k3, k4, k5, k6, k7, k8, k9, k10, k11, k12, k13, k14, k15, k16, k17, k18, k19, k20⟩ := hq2; clear k0 k1 k2 k3 k4 k5 k6 k8 k9 k10 k11 k12 k13 k15 k16 k17 k18 k19 k20)
      go_simp;with_reducible rfl)
     refine wpG_u preGr 13 (some 31) ?_;refine wpG_u preGr 14 (some 32) ?_;refine wpG_done (by kernel_rfl) ?_ _;have HS := hd_ (HST.out wc ⟨m, HR1.out.gr HC.out⟩);clear HR1;go_wp2_with fail
     try simp only [Exit.inBlock, Exit.then]
     refine bodyPost_ret (results_none rfl _ _ _) rfl ?_;rw [<- HXE.out];exact ⟨rfl, HS.out⟩
 · have hxe : (V.a, [], []) = x := by rw [HX.out, if_neg (c := V.q.i = V.a.req /\ F = 0 /\ B = true /\ encE U = 0) (fun h => hd h.2.1)]; rfl
   have HXE := hd_ hxe;have hg2 : (F != 0) = true := by simpa using hd
   clear hd hxe;go_enter Tryz.func70, Tryz.ntmps70
   go_wp2_with fail
   refine DE.out.mono ?_;rintro e w1 ⟨v1, rfl, _, hb1⟩;have HR1 := hd_ (HR.out.gr hb1);clear hb1 DE k15;go_upto_region 1 with fail
   have HC : Hid (Gr w1 w1.drew) := Gr.drew _;refine wp_region_G 15 Gr (by kernel_rfl) ?_;generalize w1.drew = wc at HC ⊢;refine wpG_u preGr 0 (some 18) ?_;refine wpG_u preGr 1 (some 19) ?_;refine wpG_u preGr 2 (some 20) ?_;refine wpG_p preGr 3 (some 21) ?_;refine wpG_p preGr 4 (some 22) ?_;refine wpG_p preGr 5 (some 23) ?_;refine wpG_p preGr 6 (some 24) ?_;refine wpG_p preGr 7 (some 25) ?_;refine wpG_p preGr 8 (some 26) ?_;refine wpG_p preGr 9 (some 27) ?_;refine wpG_p preGr 10 (some 28) ?_;refine wpG_p preGr 11 (some 29) ?_;refine wpG_p preGr 12 (some 30) ?_;refine wpG_p preGr 13 (some 31) ?_;refine wpG_u preGr 14 (some 32) ?_;refine wpG_done (by kernel_rfl) ?_ _;have HS := hd_ (HST.out wc ⟨m, HR1.out.gr HC.out⟩);clear HR1;go_wp2_with fail
   try simp only [Exit.inBlock, Exit.then]
   refine bodyPost_ret (results_none rfl _ _ _) rfl ?_;rw [<- HXE.out];exact ⟨rfl, HS.out⟩
end Go.Proofs.YtclplbapedmihaaGreat.Au
namespace Go.Proofs.YtclplbapedmihaaGreat.Au
set_option maxRecDepth 4000
open Go.RowKit O Ng
open Go.Proofs.YtclplbapedmihaaGreat.Fs (AO AO.ar AO.nil AR)
set_option linter.unusedVariables false
set_option linter.unusedSimpArgs false
theorem results_cell3 {P : Program} {fn : Func} {p u u2 u3 : Tmp} {ty : TypeId} (h : fn.results = #[.cell p ty, .tmp u, .tmp u2, .tmp u3]) (tmps : Array Value) (w : World) (g : Nat) (t : TypeId) (cs : Array Value) (fr : Nat × Nat) (d : TypeDesc)
 (hp : tmps.getD p undef = .pointer (some ⟨g, 0, none⟩)) (hg : w.heap[g]? = some (.cells cs t fr))
 (hu : P.underlying ty = some d) (hd : (match d with | .struct _ | .array _ _ => true | _ => false) = true) (hi : (P.info? ty).map (·.size) = some cs.size) :
 (results fn tmps).run P w = .ok (.tuple #[.agg cs, tmps.getD u undef, tmps.getD u2 undef, tmps.getD u3 undef]) w := by
 have hp' : tmps[p]?.getD undef = .pointer (some ⟨g, 0, none⟩) := by simpa using hp
 have hr := run_loadVar_row w g t ty cs fr d hg hu hd hi;simp only [results, h];simp [Sem.run_bind, Result.andThen, hp', asAddr, hr]
theorem heap4 (w : World) (o p q r : Obj) : ((((w.alloc o).alloc p).alloc q).alloc r).heap[w.heap.size]? = some o /\ ((((w.alloc o).alloc p).alloc q).alloc r).heap[w.heap.size + 1]? = some p /\ ((((w.alloc o).alloc p).alloc q).alloc r).heap[w.heap.size + 2]? = some q /\
 ((((w.alloc o).alloc p).alloc q).alloc r).heap[w.heap.size + 3]? = some r := by
 have hb : Gr (((w.alloc o).alloc p).alloc q) ((((w.alloc o).alloc p).alloc q).alloc r) := (Gr.refl _).alloc _;obtain ⟨h1, h2, h3⟩ := heap3 w o p q;refine ⟨heap_below h1 hb, heap_below h2 hb, heap_below h3 hb, ?_⟩;have := heap_alloc_last (((w.alloc o).alloc p).alloc q) r;simpa using this
set_option maxRecDepth 20000 in
set_option maxHeartbeats 8000000 in
theorem packet_any (g : Nat) (V : Vw) (w0 w : World) (h : RV w0 w g V) (hf : fine V.c V.a V.t) (h1 : V.out = []) (h2 : V.done = []) (hn : V.n = QC.zero) (hc : 1 <= V.q.c /\ V.q.c <= 7) :
 Calls Tryz.prog 41 #[.pointer (some ⟨g, 0, none⟩)] w fun e w' => e = .returned (.tuple #[]) /\ Went w0 w' g V (packT V.c V.a V.q V.t (which V.c V.a V.q)) := by
 have HV := hd_ h;have HF := hd_ hf;have HH := hd_ (And.intro h1 (And.intro h2 hn));obtain ⟨m, hm⟩ := h;obtain ⟨k0, k1, k2, k3, k4, k5, k6, k7, k8, k9, k10, k11, k12, k13, k14, k15, k16, k17, k18, k19, k20⟩ := hm.cells;clear hm hf h1 h2 hn k0 k1 k2 k3 k4 k5 k6 k7 k8 k9 k10 k11 k12 k14 k15 k16 k17 k18 k19 k20
 rcases (show V.q.c = 1 \/ V.q.c = 2 \/ V.q.c = 3 \/ V.q.c = 4 \/ V.q.c = 5 \/ V.q.c = 6 \/ V.q.c = 7 by omega) with hq | hq | hq | hq | hq | hq | hq
 · have E := hd_ (asked_any g V w0 w HV.out HF.out HH.out.1 HH.out.2.1 hq);rw [hq] at k13;clear hc hq;go_enter Tryz.func41, Tryz.ntmps41
   go_wp2_with fail
   refine E.out.mono ?_;rintro e w1 ⟨rfl, hv⟩;have HW := hd_ hv;clear hv;go_wp2_with fail
   go_end0
   exact ⟨rfl, HW.out⟩
 · have E := hd_ (acked_any g V w0 w HV.out HF.out HH.out.1 HH.out.2.1 HH.out.2.2 hq);rw [hq] at k13;clear hc hq;go_enter Tryz.func41, Tryz.ntmps41
   go_wp2_with fail
   refine E.out.mono ?_;rintro e w1 ⟨rfl, hv⟩;have HW := hd_ hv;clear hv;go_wp2_with fail
   go_end0
   exact ⟨rfl, HW.out⟩
 · have E := hd_ (refused_any g V w0 w HV.out HF.out HH.out.1 HH.out.2.1 HH.out.2.2 (.inl hq));rw [hq] at k13;clear hc hq;go_enter Tryz.func41, Tryz.ntmps41
   go_wp2_with fail
   refine E.out.mono ?_;rintro e w1 ⟨rfl, hv⟩;have HW := hd_ hv;clear hv;go_wp2_with fail
   go_end0
   exact ⟨rfl, HW.out⟩
 · have E := hd_ (refused_any g V w0 w HV.out HF.out HH.out.1 HH.out.2.1 HH.out.2.2 (.inr hq));rw [hq] at k13;clear hc hq;go_enter Tryz.func41, Tryz.ntmps41
   go_wp2_with fail
   refine E.out.mono ?_;rintro e w1 ⟨rfl, hv⟩;have HW := hd_ hv;clear hv;go_wp2_with fail
   go_end0
   exact ⟨rfl, HW.out⟩
 · have E := hd_ (event_any g V 11 w0 w HV.out HF.out HH.out.1 HH.out.2.1);have hw : packT V.c V.a V.q V.t (which V.c V.a V.q) = doE V.c V.a 11 V.q V.n V.t := by rw [which_5 hq, packT_self, HH.out.2.2]
   rw [hw];rw [hq] at k13;clear hc hq hw;go_enter Tryz.func41, Tryz.ntmps41
   go_wp2_with fail
   refine E.out.mono ?_;rintro e w1 ⟨rfl, dv, hv⟩;have HW := hd_ hv;clear hv;go_wp2_with fail
   go_end0
   exact ⟨rfl, Went.event HW.out⟩
 · have E := hd_ (event_any g V 12 w0 w HV.out HF.out HH.out.1 HH.out.2.1);have hw : packT V.c V.a V.q V.t (which V.c V.a V.q) = doE V.c V.a 12 V.q V.n V.t := by rw [which_6 hq, packT_self, HH.out.2.2]
   rw [hw];rw [hq] at k13;clear hc hq hw;go_enter Tryz.func41, Tryz.ntmps41
   go_wp2_with fail
   refine E.out.mono ?_;rintro e w1 ⟨rfl, dv, hv⟩;have HW := hd_ hv;clear hv;go_wp2_with fail
   go_end0
   exact ⟨rfl, Went.event HW.out⟩
 · have E := hd_ (rejected_any g V w0 w HV.out HF.out HH.out.1 HH.out.2.1 HH.out.2.2 hq);rw [hq] at k13;clear hc hq;go_enter Tryz.func41, Tryz.ntmps41
   go_wp2_with fail
   refine E.out.mono ?_;rintro e w1 ⟨rfl, hv⟩;have HW := hd_ hv;clear hv;go_wp2_with fail
   go_end0
   exact ⟨rfl, HW.out⟩
theorem pack_out {c : Cfg} {a : Aut} {q : QC} {t : Int} (h : ¬ (1 <= q.c /\ q.c <= 7)) : pack c a q t = ((a, [], []), false) := if_pos h
theorem pack_not {c : Cfg} {a : Aut} {q : QC} {t : Int} (h : 1 <= q.c /\ q.c <= 7) (h2 : ¬ (fine c a t /\ cencE q = 0)) : pack c a q t = ((a, [], []), true) := by
 unfold pack; rw [if_neg (fun x => x h), if_pos h2]
theorem pack_yes {c : Cfg} {a : Aut} {q : QC} {t : Int} (h : 1 <= q.c /\ q.c <= 7) (h2 : fine c a t /\ cencE q = 0) : pack c a q t = (packT c a q t (which c a q), true) := by
 unfold pack; rw [if_neg (fun x => x h), if_neg (fun x => x h2)]
theorem sizeAuto2 : (Tryz.prog.info? 28).map (·.size) = some 7 := by kernel_rfl
set_option maxRecDepth 20000 in
set_option maxHeartbeats 8000000 in
theorem Packet_any (ra : Option Addr) (rn rc : Nat) (rs : List Ru) (k1 k2 k3 k4 : Int) (s i r : Int) (ao : Option Addr) (n c : Nat) (ts : List Tg) (ct tm nk : Int) (qc qi : Int) (qa : Option Addr) (qn qk : Nat) (ql : List UInt8) (t : Int) (w : World)
 (hrr : RR w (.slice ra rn rc) rn rs) (hr : TR w (.slice ao n c) n ts) (hn : n <= 1000) (hm : ∀ x ∈ ts, x.l.length <= 1000) (hq : Bs w (.slice qa qn qk) ql) (hql : ql.length <= 1500) (hqn : ql.length = qn) :
 Calls Tryz.prog 17 #[.agg #[.slice ra rn rc, .int .i64 k1, .int .i64 k2, .int .i64 k3, .int .i64 k4], .agg #[.int .i64 s, .int .i64 i, .int .i64 r, .slice ao n c, .int .i64 ct, .int .i64 tm, .int .i64 nk], .agg #[.int .i64 qc, .int .i64 qi, .slice qa qn qk], .int .i64 t] w fun e w' => ∃ av ov dv, e = .returned (.tuple #[autoV (pack (⟨rs, k1, k2, k3, k4⟩ : Cfg) (⟨s, i, r, plain ts, ct, tm, nk⟩ : Aut) (⟨qc, qi, ql⟩ : QC) t).1.1 av, ov, dv, .bool (pack (⟨rs, k1, k2, k3, k4⟩ : Cfg) (⟨s, i, r, plain ts, ct, tm, nk⟩ : Aut) (⟨qc, qi, ql⟩ : QC) t).2]) /\ DAt (pack (⟨rs, k1, k2, k3, k4⟩ : Cfg) (⟨s, i, r, plain ts, ct, tm, nk⟩ : Aut) (⟨qc, qi, ql⟩ : QC) t).1 w w' av ov dv := by
 have BA : Gr w ((((w.alloc (.cells #[.slice ra rn rc, .int .i64 k1, .int .i64 k2, .int .i64 k3, .int .i64 k4] 24)).alloc (.cells #[.int .i64 s, .int .i64 i, .int .i64 r, .slice ao n c, .int .i64 ct, .int .i64 tm, .int .i64 nk] 28)).alloc (.cells #[.int .i64 qc, .int .i64 qi, .slice qa qn qk] 32)).alloc (.cells #[.int .i64 0, .int .i64 0, .int .i64 0, .slice none 0 0, .int .i64 0, .int .i64 0, .int .i64 0] 28)) := ((((Gr.refl w).alloc _).alloc _).alloc _).alloc _;obtain ⟨g0, g1, g2, g3⟩ := heap4 w (.cells #[.slice ra rn rc, .int .i64 k1, .int .i64 k2, .int .i64 k3, .int .i64 k4] 24) (.cells #[.int .i64 s, .int .i64 i, .int .i64 r, .slice ao n c, .int .i64 ct, .int .i64 tm, .int .i64 nk] 28) (.cells #[.int .i64 qc, .int .i64 qi, .slice qa qn qk] 32) (.cells #[.int .i64 0, .int .i64 0, .int .i64 0, .slice none 0 0, .int .i64 0, .int .i64 0, .int .i64 0] 28);obtain ⟨i0, i1, i2, i3, i4⟩ := cells5 g0;obtain ⟨j0, j1, j2, j3, j4, j5, j6⟩ := cells7 g1;obtain ⟨q0, q1, q2⟩ := cells3 g2;have HG2 := hd_ g2;have HG4 := hd_ g3;have BG := hd_ (begin_any ra rn rc rs k1 k2 k3 k4 s i r ao n c ts ct tm nk qc qi qa qn qk ql t ((((w.alloc (.cells #[.slice ra rn rc, .int .i64 k1, .int .i64 k2, .int .i64 k3, .int .i64 k4] 24)).alloc (.cells #[.int .i64 s, .int .i64 i, .int .i64 r, .slice ao n c, .int .i64 ct, .int .i64 tm, .int .i64 nk] 28)).alloc (.cells #[.int .i64 qc, .int .i64 qi, .slice qa qn qk] 32)).alloc (.cells #[.int .i64 0, .int .i64 0, .int .i64 0, .slice none 0 0, .int .i64 0, .int .i64 0, .int .i64 0] 28)) (hrr.below BA) (hr.below BA) hn hm (hq.below BA) hql);have HLOW : Hid (w.heap.size <= w.heap.size + 3 /\ w.heap.size <= ((((w.alloc (.cells #[.slice ra rn rc, .int .i64 k1, .int .i64 k2, .int .i64 k3, .int .i64 k4] 24)).alloc (.cells #[.int .i64 s, .int .i64 i, .int .i64 r, .slice ao n c, .int .i64 ct, .int .i64 tm, .int .i64 nk] 28)).alloc (.cells #[.int .i64 qc, .int .i64 qi, .slice qa qn qk] 32)).alloc (.cells #[.int .i64 0, .int .i64 0, .int .i64 0, .slice none 0 0, .int .i64 0, .int .i64 0, .int .i64 0] 28)).heap.size) := ⟨Nat.le_add_right _ _, BA.size⟩;have HSTART : Hid (Below w.heap.size w ((((w.alloc (.cells #[.slice ra rn rc, .int .i64 k1, .int .i64 k2, .int .i64 k3, .int .i64 k4] 24)).alloc (.cells #[.int .i64 s, .int .i64 i, .int .i64 r, .slice ao n c, .int .i64 ct, .int .i64 tm, .int .i64 nk] 28)).alloc (.cells #[.int .i64 qc, .int .i64 qi, .slice qa qn qk] 32)).alloc (.cells #[.int .i64 0, .int .i64 0, .int .i64 0, .slice none 0 0, .int .i64 0, .int .i64 0, .int .i64 0] 28))) := BA;have HBQ : Hid (Bs ((((w.alloc (.cells #[.slice ra rn rc, .int .i64 k1, .int .i64 k2, .int .i64 k3, .int .i64 k4] 24)).alloc (.cells #[.int .i64 s, .int .i64 i, .int .i64 r, .slice ao n c, .int .i64 ct, .int .i64 tm, .int .i64 nk] 28)).alloc (.cells #[.int .i64 qc, .int .i64 qi, .slice qa qn qk] 32)).alloc (.cells #[.int .i64 0, .int .i64 0, .int .i64 0, .slice none 0 0, .int .i64 0, .int .i64 0, .int .i64 0] 28)) (.slice qa qn qk) ql /\ ql.length = qn /\ qn <= 1000000) := ⟨hq.below BA, hqn, by omega⟩;obtain ⟨y, hy⟩ : ∃ y, y = pack (⟨rs, k1, k2, k3, k4⟩ : Cfg) (⟨s, i, r, plain ts, ct, tm, nk⟩ : Aut) (⟨qc, qi, ql⟩ : QC) t := ⟨_, rfl⟩;rw [<- hy];have HY := hd_ hy;obtain ⟨x, hx⟩ : ∃ x, x = y.1 := ⟨_, rfl⟩;rw [<- hx];have HX := hd_ hx;clear BA hrr hr hn hm hq hql hqn g0 g1 g2 g3 hx hy;go_enter Tryz.func17, Tryz.ntmps17
 go_wp2_with fail
 obtain ⟨wb, hwb⟩ : ∃ wb, wb = ((((w.alloc (.cells #[.slice ra rn rc, .int .i64 k1, .int .i64 k2, .int .i64 k3, .int .i64 k4] 24)).alloc (.cells #[.int .i64 s, .int .i64 i, .int .i64 r, .slice ao n c, .int .i64 ct, .int .i64 tm, .int .i64 nk] 28)).alloc (.cells #[.int .i64 qc, .int .i64 qi, .slice qa qn qk] 32)).alloc (.cells #[.int .i64 0, .int .i64 0, .int .i64 0, .slice none 0 0, .int .i64 0, .int .i64 0, .int .i64 0] 28)) := ⟨_, rfl⟩;rw [<- hwb] at BG HG2 HG4 HLOW HSTART HBQ ⊢;clear hwb i0 i1 i2 i3 i4 j0 j1 j2 j3 j4 j5 j6 q0 q1 q2;refine BG.out.mono ?_;rintro e w1 ⟨g, rfl, hv1⟩;have HV1 := hd_ hv1;obtain ⟨m1, hm1⟩ := hv1;have hg2 := heap_below HG2.out hm1.hold.old;obtain ⟨q0, q1, q2⟩ := cells3 hg2;have HM1 := hd_ hm1;clear hm1 hg2 BG
 by_cases h17 : 1 <= qc /\ qc <= 7
 · have I := hd_ (isIn_is (n := qc) (lo := 1) (hi := 7) (b := true) (decide_eq_true h17) w1);have H17 := hd_ h17;have CE := hd_ (cencode_any qc qi qa qn qk ql HBQ.out.2.1 w1 (HBQ.out.1.below HM1.out.hold.old) HBQ.out.2.2);unfold BRes at CE;clear h17;go_wp2_with fail
   refine I.out.mono ?_;rintro e w2 ⟨rfl, rfl⟩
   by_cases hz : cencE (⟨qc, qi, ql⟩ : QC) = 0
   · rw [hz] at CE;have HZ := hd_ hz;clear hz;go_wp2_with fail
     refine CE.out.mono ?_;rintro e w3 ⟨v3, rfl, _, hb3⟩;have hv3 := HV1.out.gr hb3;have MB := hd_ (fun b hb => may_is g _ wb w3 hv3 (b := b) hb);clear hb3 CE hv3 q0 q1 q2
     by_cases hf : fine (⟨rs, k1, k2, k3, k4⟩ : Cfg) (⟨s, i, r, plain ts, ct, tm, nk⟩ : Aut) t
     · have M := hd_ (MB.out true (decide_eq_true hf));have HF := hd_ hf;have hyy : y = (packT (⟨rs, k1, k2, k3, k4⟩ : Cfg) (⟨s, i, r, plain ts, ct, tm, nk⟩ : Aut) (⟨qc, qi, ql⟩ : QC) t (which (⟨rs, k1, k2, k3, k4⟩ : Cfg) (⟨s, i, r, plain ts, ct, tm, nk⟩ : Aut) (⟨qc, qi, ql⟩ : QC)), true) := by rw [HY.out]; exact pack_yes H17.out ⟨hf, HZ.out⟩
       have HOK : Hid (y.2 = true) := by rw [hyy]; exact rfl
       have HXX : Hid (packT (⟨rs, k1, k2, k3, k4⟩ : Cfg) (⟨s, i, r, plain ts, ct, tm, nk⟩ : Aut) (⟨qc, qi, ql⟩ : QC) t (which (⟨rs, k1, k2, k3, k4⟩ : Cfg) (⟨s, i, r, plain ts, ct, tm, nk⟩ : Aut) (⟨qc, qi, ql⟩ : QC)) = x) := by show _ = _; rw [HX.out, hyy]
       clear hf MB hyy;go_wp2_with fail
       refine M.out.mono ?_;rintro e w4 ⟨rfl, h4⟩;have E := hd_ (packet_any g _ wb w4 h4 HF.out rfl rfl rfl H17.out);clear h4 M;go_wp2_with fail
       refine E.out.mono ?_;rintro e w4 ⟨rfl, n', dv, hv⟩;have HV : Hid (RV wb w4 g (Vw.went { V0 (⟨rs, k1, k2, k3, k4⟩ : Cfg) (⟨s, i, r, plain ts, ct, tm, nk⟩ : Aut) t (⟨qc, qi, ql⟩ : QC) with n := n' } x dv)) := by
        show RV _ _ _ _;rw [<- HXX.out];exact hv
       have HP : Hid (w4.heap[w.heap.size + 3]? = some (.cells #[.int .i64 0, .int .i64 0, .int .i64 0, .slice none 0 0, .int .i64 0, .int .i64 0, .int .i64 0] 28)) := by
        obtain ⟨m4, h4⟩ := hv;exact heap_below HG4.out h4.hold.old
       clear hv E;go_upto_region 7 with fail
       obtain ⟨m2, hm2⟩ := HV.out;have HR := hd_ hm2;have HC : Hid (Gr w4 w4.drew) := Gr.drew _;clear hm2;refine wp_region_H 12 Gr (Kp [g]) (by kernel_rfl) ?_;generalize w4.drew = wc at HC ⊢;refine wpH_u preGr (preKp _) 0 (some 41) ?_;refine wpH_u preGr (preKp _) 1 (some 42) ?_;refine wpH_u preGr (preKp _) 2 (some 43) ?_;refine wpH_u preGr (preKp _) 3 (some 44) ?_ (hy := fun w' hw' => by
        have hrg := (HR.out.gr (Gr.trans HC.out hw')).autos;refine Eq.trans (load_mid_run (P := Tryz.prog) 28 (.tmp 43) ?_ g 5 ?_ _ _ hrg Tryz.underlying28 rfl sizeAuto) ?_
        · rfl
        · simp [go_sem]
        · with_reducible rfl)
       refine wpH_uH preGr (preKp _) 4 (some 45) ?_;refine wpH_uH preGr (preKp _) 5 (some 46) ?_;refine wpH_uH preGr (preKp _) 6 (some 47) ?_;refine wpH_uH preGr (preKp _) 7 (some 48) ?_ (hy := fun w' hw' => by
        have hq2 := cells21 ((hw'.2 g (by simp)).trans (HR.out.gr HC.out).row);obtain ⟨k0, k1, k2, k3, k4, k5, k6, k7, k8, k9, k10, k11, k12, k13, k14, k15, k16, k17, k18, k19, k20⟩ := hq2;clear k0 k1 k2 k3 k4 k5 k6 k7 k8 k9 k10 k11 k12 k13 k14 k15 k16 k17 k18;go_simp;with_reducible rfl)
       refine wpH_uH preGr (preKp _) 8 (some 49) ?_;refine wpH_uH preGr (preKp _) 9 (some 50) ?_;refine wpH_uH preGr (preKp _) 10 (some 51) ?_;refine wpH_uH preGr (preKp _) 11 (some 52) ?_ (hy := fun w' hw' => by
        have hq2 := cells21 ((hw'.2 g (by simp)).trans (HR.out.gr HC.out).row);obtain ⟨k0, k1, k2, k3, k4, k5, k6, k7, k8, k9, k10, k11, k12, k13, k14, k15, k16, k17, k18, k19, k20⟩ := hq2;clear k0 k1 k2 k3 k4 k5 k6 k7 k8 k9 k10 k11 k12 k13 k14 k15 k16 k17 k18;go_simp;with_reducible rfl)
       refine wpH_tail (i := 12) (by decide) rfl (by kernel_rfl) (by rfl) ?_;refine wp_store_whole (none) 28 (.tmp 8) (.tmp 44) rfl (w.heap.size + 3) (autoC x.1 m2.av) rfl rfl 28 _ (heap_gr HC.out HP.out) sizeAuto rfl (autoC_one (own_one HR.out.hold.ask.own)) rfl ?_;intro w5 h5 ho5;have H5 := hd_ h5;have HO5 := hd_ ho5;refine ⟨⟨ho5.size, fun b hb => ?_⟩, ?_⟩
       · simp only [List.mem_cons, List.not_mem_nil, or_false] at hb;subst hb;exact ho5.heap _ (HR.out.gr HC.out).lt (ne_of_block (HR.out.gr HC.out).row (heap_gr HC.out HP.out) (by decide))
       clear h5 ho5;try simp only [Act.put, aq1, aq2, aq3]
       refine wpH_tail (i := 13) (by decide) rfl (by kernel_rfl) (by rfl) ?_;go_simp;refine ⟨(pre_refl (preKp _) _), ?_⟩;try simp only [Act.put, aq1, aq2, aq3]
       refine wpH_tail (i := 14) (by decide) rfl (by kernel_rfl) (by rfl) ?_;go_simp;refine ⟨(pre_refl (preKp _) _), ?_⟩;try simp only [Act.put, aq1, aq2, aq3]
       refine wpH_tail (i := 15) (by decide) rfl (by kernel_rfl) (by rfl) ?_;go_simp;refine ⟨(pre_refl (preKp _) _), ?_⟩;try simp only [Act.put, aq1, aq2, aq3]
       refine wpH_done (by kernel_rfl) ?_ _;go_wp2
       refine bodyPost_ret (v := .tuple #[autoV x.1 m2.av, m2.ov, dv, .bool true]) (results_cell3 (P := Tryz.prog) (fn := Tryz.f17) rfl _ _ (w.heap.size + 3) 28 _ (0, 0) _ rfl H5.out Tryz.underlying28 rfl sizeAuto) rfl ?_;refine ⟨m2.av, m2.ov, dv, by rw [HOK.out], ?_⟩;exact DRes.of (HR.out.gr HC.out) (heap_gr HC.out HP.out) HO5.out HLOW.out.1 HLOW.out.2 HSTART.out
     · have M := hd_ (MB.out false (decide_eq_false hf));have hyy : y = (((⟨s, i, r, plain ts, ct, tm, nk⟩ : Aut), [], []), true) := by rw [HY.out]; exact pack_not H17.out fun h => hf h.1
       have HOK : Hid (y.2 = true) := by rw [hyy]; exact rfl
       have HXX : Hid (((⟨s, i, r, plain ts, ct, tm, nk⟩ : Aut), [], []) = x) := by show _ = _; rw [HX.out, hyy]
       clear hf MB hyy;go_wp2_with fail
       refine M.out.mono ?_;rintro e w4 ⟨rfl, hv⟩;obtain ⟨dv, hdv⟩ : ∃ dv, dv = (Value.slice none 0 0) := ⟨_, rfl⟩;have HV : Hid (RV wb w4 g (Vw.went (V0 (⟨rs, k1, k2, k3, k4⟩ : Cfg) (⟨s, i, r, plain ts, ct, tm, nk⟩ : Aut) t (⟨qc, qi, ql⟩ : QC)) x dv)) := by
        show RV _ _ _ _;rw [<- HXX.out, hdv];exact hv
       have HP : Hid (w4.heap[w.heap.size + 3]? = some (.cells #[.int .i64 0, .int .i64 0, .int .i64 0, .slice none 0 0, .int .i64 0, .int .i64 0, .int .i64 0] 28)) := by
        obtain ⟨m4, h4⟩ := hv;exact heap_below HG4.out h4.hold.old
       clear hv M hdv;go_upto_region 7 with fail
       obtain ⟨m2, hm2⟩ := HV.out;have HR := hd_ hm2;have HC : Hid (Gr w4 w4.drew) := Gr.drew _;clear hm2;refine wp_region_H 12 Gr (Kp [g]) (by kernel_rfl) ?_;generalize w4.drew = wc at HC ⊢;refine wpH_u preGr (preKp _) 0 (some 41) ?_;refine wpH_u preGr (preKp _) 1 (some 42) ?_;refine wpH_u preGr (preKp _) 2 (some 43) ?_;refine wpH_u preGr (preKp _) 3 (some 44) ?_ (hy := fun w' hw' => by
        have hrg := (HR.out.gr (Gr.trans HC.out hw')).autos;refine Eq.trans (load_mid_run (P := Tryz.prog) 28 (.tmp 43) ?_ g 5 ?_ _ _ hrg Tryz.underlying28 rfl sizeAuto) ?_
        · rfl
        · simp [go_sem]
        · with_reducible rfl)
       refine wpH_uH preGr (preKp _) 4 (some 45) ?_;refine wpH_uH preGr (preKp _) 5 (some 46) ?_;refine wpH_uH preGr (preKp _) 6 (some 47) ?_;refine wpH_uH preGr (preKp _) 7 (some 48) ?_ (hy := fun w' hw' => by
        have hq2 := cells21 ((hw'.2 g (by simp)).trans (HR.out.gr HC.out).row);obtain ⟨k0, k1, k2, k3, k4, k5, k6, k7, k8, k9, k10, k11, k12, k13, k14, k15, k16, k17, k18, k19, k20⟩ := hq2;clear k0 k1 k2 k3 k4 k5 k6 k7 k8 k9 k10 k11 k12 k13 k14 k15 k16 k17 k18;go_simp;with_reducible rfl)
       refine wpH_uH preGr (preKp _) 8 (some 49) ?_;refine wpH_uH preGr (preKp _) 9 (some 50) ?_;refine wpH_uH preGr (preKp _) 10 (some 51) ?_;refine wpH_uH preGr (preKp _) 11 (some 52) ?_ (hy := fun w' hw' => by
        have hq2 := cells21 ((hw'.2 g (by simp)).trans (HR.out.gr HC.out).row);obtain ⟨k0, k1, k2, k3, k4, k5, k6, k7, k8, k9, k10, k11, k12, k13, k14, k15, k16, k17, k18, k19, k20⟩ := hq2;clear k0 k1 k2 k3 k4 k5 k6 k7 k8 k9 k10 k11 k12 k13 k14 k15 k16 k17 k18;go_simp;with_reducible rfl)
       refine wpH_tail (i := 12) (by decide) rfl (by kernel_rfl) (by rfl) ?_;refine wp_store_whole (none) 28 (.tmp 8) (.tmp 44) rfl (w.heap.size + 3) (autoC x.1 m2.av) rfl rfl 28 _ (heap_gr HC.out HP.out) sizeAuto rfl (autoC_one (own_one HR.out.hold.ask.own)) rfl ?_;intro w5 h5 ho5;have H5 := hd_ h5;have HO5 := hd_ ho5;refine ⟨⟨ho5.size, fun b hb => ?_⟩, ?_⟩
       · simp only [List.mem_cons, List.not_mem_nil, or_false] at hb;subst hb;exact ho5.heap _ (HR.out.gr HC.out).lt (ne_of_block (HR.out.gr HC.out).row (heap_gr HC.out HP.out) (by decide))
       clear h5 ho5;try simp only [Act.put, aq1, aq2, aq3]
       refine wpH_tail (i := 13) (by decide) rfl (by kernel_rfl) (by rfl) ?_;go_simp;refine ⟨(pre_refl (preKp _) _), ?_⟩;try simp only [Act.put, aq1, aq2, aq3]
       refine wpH_tail (i := 14) (by decide) rfl (by kernel_rfl) (by rfl) ?_;go_simp;refine ⟨(pre_refl (preKp _) _), ?_⟩;try simp only [Act.put, aq1, aq2, aq3]
       refine wpH_tail (i := 15) (by decide) rfl (by kernel_rfl) (by rfl) ?_;go_simp;refine ⟨(pre_refl (preKp _) _), ?_⟩;try simp only [Act.put, aq1, aq2, aq3]
       refine wpH_done (by kernel_rfl) ?_ _;go_wp2
       refine bodyPost_ret (v := .tuple #[autoV x.1 m2.av, m2.ov, dv, .bool true]) (results_cell3 (P := Tryz.prog) (fn := Tryz.f17) rfl _ _ (w.heap.size + 3) 28 _ (0, 0) _ rfl H5.out Tryz.underlying28 rfl sizeAuto) rfl ?_;refine ⟨m2.av, m2.ov, dv, by rw [HOK.out], ?_⟩;exact DRes.of (HR.out.gr HC.out) (heap_gr HC.out HP.out) HO5.out HLOW.out.1 HLOW.out.2 HSTART.out
   · have hyy : y = (((⟨s, i, r, plain ts, ct, tm, nk⟩ : Aut), [], []), true) := by rw [HY.out]; exact pack_not H17.out fun h => hz h.2
     have HOK : Hid (y.2 = true) := by rw [hyy]; exact rfl
     have HXX : Hid (((⟨s, i, r, plain ts, ct, tm, nk⟩ : Aut), [], []) = x) := by show _ = _; rw [HX.out, hyy]
     obtain ⟨F, hF⟩ : ∃ F, F = cencE (⟨qc, qi, ql⟩ : QC) := ⟨_, rfl⟩;rw [<- hF] at CE hz;have hz2 : (F == 0) = false := by simpa using hz
     clear hz hF hyy;go_wp2_with fail
     refine CE.out.mono ?_;rintro e w4 ⟨v3, rfl, _, hb3⟩;have hv := HV1.out.gr hb3;obtain ⟨dv, hdv⟩ : ∃ dv, dv = (Value.slice none 0 0) := ⟨_, rfl⟩;have HV : Hid (RV wb w4 g (Vw.went (V0 (⟨rs, k1, k2, k3, k4⟩ : Cfg) (⟨s, i, r, plain ts, ct, tm, nk⟩ : Aut) t (⟨qc, qi, ql⟩ : QC)) x dv)) := by
      show RV _ _ _ _;rw [<- HXX.out, hdv];exact hv
     have HP : Hid (w4.heap[w.heap.size + 3]? = some (.cells #[.int .i64 0, .int .i64 0, .int .i64 0, .slice none 0 0, .int .i64 0, .int .i64 0, .int .i64 0] 28)) := by
      obtain ⟨m4, h4⟩ := hv;exact heap_below HG4.out h4.hold.old
     clear hv hdv hb3 CE q0 q1 q2;go_upto_region 7 with fail
     obtain ⟨m2, hm2⟩ := HV.out;have HR := hd_ hm2;have HC : Hid (Gr w4 w4.drew) := Gr.drew _;clear hm2;refine wp_region_H 12 Gr (Kp [g]) (by kernel_rfl) ?_;generalize w4.drew = wc at HC ⊢;refine wpH_u preGr (preKp _) 0 (some 41) ?_;refine wpH_u preGr (preKp _) 1 (some 42) ?_;refine wpH_u preGr (preKp _) 2 (some 43) ?_;refine wpH_u preGr (preKp _) 3 (some 44) ?_ (hy := fun w' hw' => by
      have hrg := (HR.out.gr (Gr.trans HC.out hw')).autos;refine Eq.trans (load_mid_run (P := Tryz.prog) 28 (.tmp 43) ?_ g 5 ?_ _ _ hrg Tryz.underlying28 rfl sizeAuto) ?_
      · rfl
      · simp [go_sem]
      · with_reducible rfl)
     refine wpH_uH preGr (preKp _) 4 (some 45) ?_;refine wpH_uH preGr (preKp _) 5 (some 46) ?_;refine wpH_uH preGr (preKp _) 6 (some 47) ?_;refine wpH_uH preGr (preKp _) 7 (some 48) ?_ (hy := fun w' hw' => by
      have hq2 := cells21 ((hw'.2 g (by simp)).trans (HR.out.gr HC.out).row);obtain ⟨k0, k1, k2, k3, k4, k5, k6, k7, k8, k9, k10, k11, k12, k13, k14, k15, k16, k17, k18, k19, k20⟩ := hq2;clear k0 k1 k2 k3 k4 k5 k6 k7 k8 k9 k10 k11 k12 k13 k14 k15 k16 k17 k18;go_simp;with_reducible rfl)
     refine wpH_uH preGr (preKp _) 8 (some 49) ?_;refine wpH_uH preGr (preKp _) 9 (some 50) ?_;refine wpH_uH preGr (preKp _) 10 (some 51) ?_;refine wpH_uH preGr (preKp _) 11 (some 52) ?_ (hy := fun w' hw' => by
      have hq2 := cells21 ((hw'.2 g (by simp)).trans (HR.out.gr HC.out).row);obtain ⟨k0, k1, k2, k3, k4, k5, k6, k7, k8, k9, k10, k11, k12, k13, k14, k15, k16, k17, k18, k19, k20⟩ := hq2;clear k0 k1 k2 k3 k4 k5 k6 k7 k8 k9 k10 k11 k12 k13 k14 k15 k16 k17 k18;go_simp;with_reducible rfl)
     refine wpH_tail (i := 12) (by decide) rfl (by kernel_rfl) (by rfl) ?_;refine wp_store_whole (none) 28 (.tmp 8) (.tmp 44) rfl (w.heap.size + 3) (autoC x.1 m2.av) rfl rfl 28 _ (heap_gr HC.out HP.out) sizeAuto rfl (autoC_one (own_one HR.out.hold.ask.own)) rfl ?_;intro w5 h5 ho5;have H5 := hd_ h5;have HO5 := hd_ ho5;refine ⟨⟨ho5.size, fun b hb => ?_⟩, ?_⟩
     · simp only [List.mem_cons, List.not_mem_nil, or_false] at hb;subst hb;exact ho5.heap _ (HR.out.gr HC.out).lt (ne_of_block (HR.out.gr HC.out).row (heap_gr HC.out HP.out) (by decide))
     clear h5 ho5;try simp only [Act.put, aq1, aq2, aq3]
     refine wpH_tail (i := 13) (by decide) rfl (by kernel_rfl) (by rfl) ?_;go_simp;refine ⟨(pre_refl (preKp _) _), ?_⟩;try simp only [Act.put, aq1, aq2, aq3]
     refine wpH_tail (i := 14) (by decide) rfl (by kernel_rfl) (by rfl) ?_;go_simp;refine ⟨(pre_refl (preKp _) _), ?_⟩;try simp only [Act.put, aq1, aq2, aq3]
     refine wpH_tail (i := 15) (by decide) rfl (by kernel_rfl) (by rfl) ?_;go_simp;refine ⟨(pre_refl (preKp _) _), ?_⟩;try simp only [Act.put, aq1, aq2, aq3]
     refine wpH_done (by kernel_rfl) ?_ _;go_wp2
     refine bodyPost_ret (v := .tuple #[autoV x.1 m2.av, m2.ov, dv, .bool true]) (results_cell3 (P := Tryz.prog) (fn := Tryz.f17) rfl _ _ (w.heap.size + 3) 28 _ (0, 0) _ rfl H5.out Tryz.underlying28 rfl sizeAuto) rfl ?_;refine ⟨m2.av, m2.ov, dv, by rw [HOK.out], ?_⟩;exact DRes.of (HR.out.gr HC.out) (heap_gr HC.out HP.out) HO5.out HLOW.out.1 HLOW.out.2 HSTART.out
 · have I := hd_ (isIn_is (n := qc) (lo := 1) (hi := 7) (b := false) (decide_eq_false h17) w1);have hyy : y = (((⟨s, i, r, plain ts, ct, tm, nk⟩ : Aut), [], []), false) := by rw [HY.out]; exact pack_out h17
   have HYY := hd_ hyy;have HXX : Hid (x = ((⟨s, i, r, plain ts, ct, tm, nk⟩ : Aut), [], [])) := by show _ = _; rw [HX.out, hyy]
   have HP : Hid (w1.heap[w.heap.size + 3]? = some (.cells #[.int .i64 0, .int .i64 0, .int .i64 0, .slice none 0 0, .int .i64 0, .int .i64 0, .int .i64 0] 28)) := heap_below HG4.out HM1.out.hold.old;obtain ⟨k0, k1, k2, k3, k4, k5, k6, k7, k8, k9, k10, k11, k12, k13, k14, k15, k16, k17, k18, k19, k20⟩ := HM1.out.cells;clear h17 hyy k0 k1 k2 k3 k4 k12 k13 k14 k15 k16 k17 k18 k19 k20;go_wp2_with fail
   refine I.out.mono ?_;rintro e w2 ⟨rfl, rfl⟩;go_wp2_with (refine wpList_store_whole rfl 28 (.tmp 8) (.tmp 27) rfl (w.heap.size + 3) (autoC (⟨s, i, r, plain ts, ct, tm, nk⟩ : Aut) m1.av) rfl rfl 28 _ HP.out sizeAuto2 rfl (autoC_one (own_one HM1.out.hold.ask.own)) ?_)
   intro w5 g5 ho5;have H5 := hd_ g5;have HO5 := hd_ ho5;clear g5 ho5;go_wp2_with fail
   refine bodyPost_ret (v := .tuple #[autoV (⟨s, i, r, plain ts, ct, tm, nk⟩ : Aut) m1.av, .slice none 0 0, .slice none 0 0, .bool false]) (results_cell3 (P := Tryz.prog) (fn := Tryz.f17) rfl _ _ (w.heap.size + 3) 28 _ (0, 0) _ rfl H5.out Tryz.underlying28 rfl sizeAuto2) rfl ?_;refine ⟨m1.av, .slice none 0 0, .slice none 0 0, by rw [HYY.out, HXX.out], ?_⟩;rw [HXX.out];exact ⟨⟨m1.ts, (TO.off HM1.out.hold.ask HP.out (by decide) (by decide) HO5.out).mono HLOW.out.2, HM1.out.hold.asks⟩, ⟨[], CO.nil _ _ _, rfl⟩, AO.nil _ _, HO5.out.below _ _ HLOW.out.1 (HSTART.out.trans (HM1.out.hold.old.mono HLOW.out.2))⟩
end Go.Proofs.YtclplbapedmihaaGreat.Au
namespace Go.Proofs.YtclplbapedmihaaGreat.Au
set_option maxRecDepth 4000
open Go.RowKit O
set_option linter.unusedVariables false
set_option linter.unusedSimpArgs false
theorem sizeC3 : (Tryz.prog.info? 32).map (·.size) = some 3 := by kernel_rfl
theorem plainC_at {ts us : List Ct} (h : plainC ts = plainC us) (i : Nat) (h1 : i < ts.length) (h2 : i < us.length) : ts[i].c = us[i].c /\ ts[i].i = us[i].i /\ ts[i].l = us[i].l := by
 have e1 := plainC_get ts i h1;have e2 := plainC_get us i h2;have h3 : (plainC ts)[i]'(by rw [plainC_length]; exact h1) = (plainC us)[i]'(by rw [plainC_length]; exact h2) := by simp only [h]
 rw [e1, e2] at h3;simp only [QC.mk.injEq] at h3;exact h3
set_option maxRecDepth 20000 in
set_option maxHeartbeats 4000000 in
theorem sameAll_true (ao bo : Option Addr) (n c c' : Nat) (ts us : List Ct) (w : World) (hr : CR w (.slice ao n c) n ts) (hs : CR w (.slice bo n c') n us) (he : plainC ts = plainC us) :
 Calls Tryz.prog 14 #[.slice ao n c, .slice bo n c'] w fun e w' => e = .returned (.bool true) /\ Below w.heap.size w w' := by
 have hl := hr.len;have hl' := hs.len;obtain ⟨_, _, es, hca, hcm⟩ := hr.shape;simp only [Value.slice.injEq] at es;obtain ⟨rfl, z1, rfl⟩ := es;clear z1;unfold maxLen at hcm;have HR := hd_ hr;have HS := hd_ hs;have HE := hd_ he;have HL := hd_ (And.intro hl hl');clear hr hs he hl hl';go_enter Tryz.func14, Tryz.ntmps14
 go_wp2
 go_loopw [5] (fun iv wr => ∃ k : Nat, k <= n /\ iv = .int .i64 k /\ Below w.heap.size w wr) (fun iv _ => n - (intOf iv).toNat)
 case atStart => exact ⟨0, Nat.zero_le _, rfl, Below.refl _ _⟩
 case round =>
  obtain ⟨k, hk, rfl, hb⟩ := hrel;have HB := hd_ hb;clear hb
  by_cases hlt : k < n
  · obtain ⟨b, o, rfl, hbl, hc⟩ := (HR.out.below HB.out).cells (by omega);obtain ⟨b2, o2, rfl, hbl2, hd⟩ := (HS.out.below HB.out).cells (by omega);have k1 : k < ts.length := by have := HL.out.1; omega
    have k2 : k < us.length := by have := HL.out.2; omega
    obtain ⟨hc0, hc1, hc2⟩ := hc k k1;obtain ⟨hd0, hd1, hd2⟩ := hd k k2;have hv := HR.out.val k k1;have hw := HS.out.val k k2;obtain ⟨e0, e1, e2⟩ := plainC_at HE.out k k1 k2;obtain ⟨A, L, C, ev, hL, hLC, hCm⟩ := hv.sl;obtain ⟨A2, L2, C2, ew, hL2, hLC2, hCm2⟩ := hw.sl;rw [ev] at hc2 hv;rw [ew] at hd2 hw;rw [<- e0] at hd0;rw [<- e1] at hd1;rw [<- e2] at hw hL2;obtain rfl : L2 = L := by omega
    generalize ts[k].c = T at hc0 hd0;generalize ts[k].i = U at hc1 hd1;generalize ts[k].l = x at hv hw;have HRA : Hid (wr.rangeAt b (o + k * 3) [.int .i64 T, .int .i64 U, .slice A L2 C]) := by
     intro j u hj
     match j, hj with
     | 0, hj => obtain rfl := Option.some.inj hj; exact hc0
     | 1, hj => obtain rfl := Option.some.inj hj; exact hc1
     | 2, hj => obtain rfl := Option.some.inj hj; exact hc2
    have HRB : Hid (wr.rangeAt b2 (o2 + k * 3) [.int .i64 T, .int .i64 U, .slice A2 L2 C2]) := by
     intro j u hj
     match j, hj with
     | 0, hj => obtain rfl := Option.some.inj hj; exact hd0
     | 1, hj => obtain rfl := Option.some.inj hj; exact hd1
     | 2, hj => obtain rfl := Option.some.inj hj; exact hd2
    have OA : Hid (∀ w', Gr wr w' -> Calls Tryz.prog 37 #[.agg #[.int .i64 T, .int .i64 U, .slice A L2 C], .agg #[.int .i64 T, .int .i64 U, .slice A2 L2 C2]] w' fun e w2 => e = .returned (.bool true) /\ Below w'.heap.size w' w2) := fun w' hw' =>
     csame_true T U A A2 L2 C C2 x w' (hv.below (HB.out.trans (Below.mono hw' HB.out.size))) (hw.below (HB.out.trans (Below.mono hw' HB.out.size)))
    have hbn := HB.out.size;have hle : k + 1 <= n := by omega
    clear hv hw hc hd ev ew hc0 hc1 hc2 hd0 hd1 hd2 hL hL2 e0 e1 e2 k1 k2;go_wp2_with fail
    refine wp_region_G 10 Gr (by kernel_rfl) ?_;refine wpG_u preGr 0 (some 17) ?_;refine wpG_u preGr 1 (some 18) ?_;refine wpG_u preGr 2 (some 19) ?_;refine wpG_u preGr 3 (some 20) ?_ (hy := fun w' hw' => by
     refine Eq.trans (load_mid_run (P := Tryz.prog) 32 (.tmp 19) ?_ b (o + k * 3) ?_ [.int .i64 T, .int .i64 U, .slice A L2 C] _ (range_gr ((Gr.drew wr).trans hw') HRA.out) Tryz.underlying32 rfl sizeC3) ?_
     · rfl
     · rfl
     · with_reducible rfl)
    refine wpG_u preGr 4 (some 21) ?_;refine wpG_u preGr 5 (some 22) ?_;refine wpG_u preGr 6 (some 23) ?_;refine wpG_u preGr 7 (some 24) ?_ (hy := fun w' hw' => by
     refine Eq.trans (load_mid_run (P := Tryz.prog) 32 (.tmp 23) ?_ b2 (o2 + k * 3) ?_ [.int .i64 T, .int .i64 U, .slice A2 L2 C2] _ (range_gr ((Gr.drew wr).trans hw') HRB.out) Tryz.underlying32 rfl sizeC3) ?_
     · rfl
     · rfl
     · with_reducible rfl)
    refine wpG_one (i := 8) rfl (by kernel_rfl) (by rfl) ?_;go_simp;refine (OA.out _ (Gr.drew _)).mono ?_;rintro e w2 ⟨rfl, hb2⟩;refine ⟨hb2, ?_⟩;have HB2 := hd_ (HB.out.drew.trans (hb2.mono hbn));clear hb2;try simp only [Act.put, aq1, aq2, aq3]
    refine wpG_u preGr 9 (some 26) ?_;refine wpG_done (by kernel_rfl) ?_ _;go_wp2
    go_roundw
    case rel =>
     first | exact ⟨k + 1, hle, by go_num, HB2.out⟩ | ((repeat apply Exists.intro); exact ⟨⟨k + 1, hle, by go_num, HB2.out⟩, rfl⟩)
    case measure => simp [intOf]; omega
  · go_wp2_with fail
    go_ret
    exact ⟨rfl, HB.out⟩
theorem sameAll_co {w : World} {v v' : Value} {ts us : List Ct} (h : CR w v ts.length ts) (h' : CR w v' us.length us) (he : plainC ts = plainC us) :
 Calls Tryz.prog 14 #[v, v'] w fun e w' => e = .returned (.bool true) /\ Below w.heap.size w w' := by
 have hl : ts.length = us.length := by rw [<- plainC_length, <- plainC_length, he]
 obtain ⟨a, c, rfl, _, _⟩ := h.shape;obtain ⟨a', c', rfl, _, _⟩ := h'.shape;rw [<- hl] at h' ⊢;exact sameAll_true a a' ts.length c c' ts us w h h' he
end Go.Proofs.YtclplbapedmihaaGreat.Au
namespace Go.Proofs.YtclplbapedmihaaGreat.Au
set_option maxRecDepth 4000
open Go.RowKit O Ng
open Go.Proofs.YtclplbapedmihaaGreat.Fs (AO AO.ar AO.nil AR AR.at)
set_option linter.unusedVariables false
set_option linter.unusedSimpArgs false
set_option maxRecDepth 20000 in
set_option maxHeartbeats 4000000 in
theorem rsame_auto (a : Aut) (ao : Option Addr) (n c : Nat) (ts : List Tg) (bo : Option Addr) (n' c' : Nat) (us : List Tg) (w : World) (h1 : TR w (.slice ao n c) n ts) (h2 : TR w (.slice bo n' c') n' us) (e : plain ts = plain us) :
 Calls Tryz.prog 13 #[.agg #[.int .i64 a.st, .int .i64 a.id, .int .i64 a.req, .slice ao n c, .int .i64 a.count, .int .i64 a.timer, .int .i64 a.naks], .agg #[.int .i64 a.st, .int .i64 a.id, .int .i64 a.req, .slice bo n' c', .int .i64 a.count, .int .i64 a.timer, .int .i64 a.naks]] w fun e w' => e = .returned (.bool true) /\ Below w.heap.size w w' := by
 have BA : Gr w ((w.alloc (.cells #[.int .i64 a.st, .int .i64 a.id, .int .i64 a.req, .slice ao n c, .int .i64 a.count, .int .i64 a.timer, .int .i64 a.naks] 28)).alloc (.cells #[.int .i64 a.st, .int .i64 a.id, .int .i64 a.req, .slice bo n' c', .int .i64 a.count, .int .i64 a.timer, .int .i64 a.naks] 28)) := ((Gr.refl w).alloc _).alloc _;have HBA := hd_ BA;obtain ⟨i0, i1, i2, i3, i4, i5, i6⟩ := cells7 (heap2_0' w (.cells #[.int .i64 a.st, .int .i64 a.id, .int .i64 a.req, .slice ao n c, .int .i64 a.count, .int .i64 a.timer, .int .i64 a.naks] 28) (.cells #[.int .i64 a.st, .int .i64 a.id, .int .i64 a.req, .slice bo n' c', .int .i64 a.count, .int .i64 a.timer, .int .i64 a.naks] 28));obtain ⟨j0, j1, j2, j3, j4, j5, j6⟩ := cells7 (heap2_1' w (.cells #[.int .i64 a.st, .int .i64 a.id, .int .i64 a.req, .slice ao n c, .int .i64 a.count, .int .i64 a.timer, .int .i64 a.naks] 28) (.cells #[.int .i64 a.st, .int .i64 a.id, .int .i64 a.req, .slice bo n' c', .int .i64 a.count, .int .i64 a.timer, .int .i64 a.naks] 28));have S := hd_ (rsame_any ao bo n n' c c' ts us _ (h1.below BA) (h2.below BA));rw [decide_eq_true e] at S;clear BA h1 h2 e;go_enter Tryz.func13, Tryz.ntmps13
 go_wp2_with fail
 refine S.out.mono ?_;rintro e w1 ⟨rfl, hb⟩;have HB : Hid (Gr w w1) := Gr.trans HBA.out hb;clear hb;go_wp2_with fail
 go_ret
 exact ⟨rfl, HB.out⟩
theorem plain_any (w : World) : Calls Tryz.prog 38 #[] w fun e w' => e = .returned (.agg #[.slice none 0 0, .int .i64 2, .int .i64 2, .int .i64 2, .int .i64 3]) /\ Gr w w' := by
 have H1 : Hid ((w.alloc (.cells #[.slice none 0 0, .int .i64 2, .int .i64 2, .int .i64 2, .int .i64 3] 24)).heap[w.heap.size]? = some (.cells #[.slice none 0 0, .int .i64 2, .int .i64 2, .int .i64 2, .int .i64 3] 24 (0, 0))) := heap_alloc_last _ _;have HB : Hid (Gr w (w.alloc (.cells #[.slice none 0 0, .int .i64 2, .int .i64 2, .int .i64 2, .int .i64 3] 24))) := (Gr.refl w).alloc _;go_enter Tryz.func38, Tryz.ntmps38
 go_wp2
 refine bodyPost_ret (v := .agg #[.slice none 0 0, .int .i64 2, .int .i64 2, .int .i64 2, .int .i64 3]) (results_cell_row (P := Tryz.prog) (fn := Tryz.f38) rfl _ _ w.heap.size 24 _ (0, 0) _ rfl H1.out Tryz.underlying24 rfl sizeConf) rfl ?_;exact ⟨rfl, HB.out⟩
theorem plain_isC : isC (⟨[], 2, 2, 2, 3⟩ : Cfg) := ⟨⟨by decide, (fun r h => by cases h), List.Pairwise.nil⟩, ⟨by decide, by decide⟩, ⟨by decide, by decide⟩, ⟨by decide, by decide⟩, by decide, by decide⟩
theorem awake_1 : doE (⟨[], 2, 2, 2, 3⟩ : Cfg) ⟨0, 0, 0, [], 0, 0, 0⟩ 1 ⟨0, 0, []⟩ ⟨0, 0, []⟩ 1 = (⟨2, 0, 0, [], 0, 0, 0⟩, [], []) := by
 rw [doE_yes ⟨plain_isC, isA_zero (by decide) (by decide) (by decide), by decide, by decide⟩ (show (Fs.stp 0 1).2.2 = 0 from by decide)];rfl
theorem awake_2 : doE (⟨[], 2, 2, 2, 3⟩ : Cfg) ⟨2, 0, 0, [], 0, 0, 0⟩ 3 ⟨0, 0, []⟩ ⟨0, 0, []⟩ 5 = (⟨6, 1, 1, [], 1, 8, 0⟩, [⟨1, 1, []⟩], [5, 7]) := by
 rw [doE_yes ⟨plain_isC, isA_zero (by decide) (by decide) (by decide), by decide, by decide⟩ (show (Fs.stp 2 3).2.2 = 0 from by decide)];rfl
theorem do_plain (s i r ct tm nk ev t : Int) (ao : Option Addr) (c : Nat) (w : World) (h : TR w (.slice ao 0 c) 0 []) (x : Aut × List QC × List Int) (hx : doE (⟨[], 2, 2, 2, 3⟩ : Cfg) ⟨s, i, r, [], ct, tm, nk⟩ ev ⟨0, 0, []⟩ ⟨0, 0, []⟩ t = x) (hask : x.1.ask = []) :
 Calls Tryz.prog 11 #[.agg #[.slice none 0 0, .int .i64 2, .int .i64 2, .int .i64 2, .int .i64 3], .agg #[.int .i64 s, .int .i64 i, .int .i64 r, .slice ao 0 c, .int .i64 ct, .int .i64 tm, .int .i64 nk], .int .i64 ev, .agg #[.int .i64 0, .int .i64 0, .slice none 0 0], .agg #[.int .i64 0, .int .i64 0, .slice none 0 0], .int .i64 t] w
  fun e w' => ∃ bo d oa oc da dc os, e = .returned (.tuple #[.agg #[.int .i64 x.1.st, .int .i64 x.1.id, .int .i64 x.1.req, .slice bo 0 d, .int .i64 x.1.count, .int .i64 x.1.timer, .int .i64 x.1.naks], .slice oa x.2.1.length oc, .slice da x.2.2.length dc]) /\ TR w' (.slice bo 0 d) 0 [] /\ w'.ownsRow 0 32 3 (.slice oa x.2.1.length oc) x.2.1.length (flatC os) /\ plainC os = x.2.1 /\ AR w' (.slice da x.2.2.length dc) x.2.2 /\ Gr w w' := by
 refine (Do_any none 0 0 [] 2 2 2 3 s i r ao 0 c [] ct tm nk ev 0 0 none 0 0 [] 0 0 none 0 0 [] t w (Rd.nil w 7) h (by decide) (fun x hx => by cases hx) (Bs.nil w) (by decide) (Bs.nil w) (by decide)).mono ?_;rintro e w' ⟨av, ov, dv, rfl, hd⟩;rw [show doE (⟨[], 2, 2, 2, 3⟩ : Cfg) (⟨s, i, r, plain [], ct, tm, nk⟩ : Aut) ev ⟨0, 0, []⟩ ⟨0, 0, []⟩ t = x from hx] at hd ⊢;obtain ⟨us, hto, hpu⟩ := hd.ask;obtain ⟨os, hco, hpo⟩ := hd.out;have hdn := hd.done.ar;obtain ⟨bo, d, rfl, _, _⟩ := hto.tr.shape;obtain ⟨oa, oc, rfl, _, _⟩ := hco.cr.shape;obtain ⟨da, dc, rfl, _, _⟩ := hdn.shape;have hu : us = [] := by
  have := congrArg List.length hpu;rw [plain_length, hask] at this;exact List.length_eq_zero_iff.1 this
 subst hu;have hol : os.length = x.2.1.length := by rw [<- hpo, plainC_length]
 refine ⟨bo, d, oa, oc, da, dc, os, ?_, hto.tr, ?_, hpo, hdn, hd.old⟩
 · rw [<- hol]; rfl
 · have := ownsRow_mono hco.own (Nat.zero_le _)
   rwa [hol] at this
theorem tr0 {w w' : World} {a : Option Addr} {c : Nat} (h : TR w (.slice a 0 c) 0 []) : TR w' (.slice a 0 c) 0 [] := by
 obtain ⟨⟨h0, ao, cap, e, g1, g2, g3, g4⟩, _⟩ := h;exact ⟨⟨h0, ao, cap, e, g1, g2, g3, fun ad had j u hu => by simp [flat] at hu⟩, fun t ht => by cases ht⟩
set_option maxRecDepth 20000 in
set_option maxHeartbeats 8000000 in
theorem awake_any (w : World) : Calls Tryz.prog 16 #[] w fun e w' => e = .returned (.bool true) /\ Below w.heap.size w w' := by
 have NW := hd_ (New_any none 0 0 [] w (TR.nil w) (by decide) (fun x h => by cases h));rw [show new (plain []) = (⟨0, 0, 0, [], 0, 0, 0⟩, 0) from rfl] at NW;go_enter Tryz.func16, Tryz.ntmps16
 go_wp2_with fail
 refine NW.out.mono ?_;rintro e w1 ⟨av, us, rfl, hto, hpu, hb1⟩;obtain ⟨bo, d, rfl, _, _⟩ := hto.tr.shape;have hu : us = [] := by
  have := congrArg List.length hpu;rw [plain_length] at this;exact List.length_eq_zero_iff.1 this
 subst hu;simp only [autoV, autoC];have hal : Gr w1 (w1.alloc (.cells #[.int .i64 0, .int .i64 0, .int .i64 0, .slice bo 0 d, .int .i64 0, .int .i64 0, .int .i64 0] 28)) := (Gr.refl _).alloc _;have HBX : Hid (Gr w (w1.alloc (.cells #[.int .i64 0, .int .i64 0, .int .i64 0, .slice bo 0 d, .int .i64 0, .int .i64 0, .int .i64 0] 28))) := Gr.trans hb1 hal;have HA : Hid ((w1.alloc (.cells #[.int .i64 0, .int .i64 0, .int .i64 0, .slice bo 0 d, .int .i64 0, .int .i64 0, .int .i64 0] 28)).heap[w1.heap.size]? = some (.cells #[.int .i64 0, .int .i64 0, .int .i64 0, .slice bo 0 d, .int .i64 0, .int .i64 0, .int .i64 0] 28 (0, 0))) := heap_alloc_last _ _;have HT : Hid (TR (w1.alloc (.cells #[.int .i64 0, .int .i64 0, .int .i64 0, .slice bo 0 d, .int .i64 0, .int .i64 0, .int .i64 0] 28)) (.slice bo 0 d) 0 []) := hto.tr.below hal;clear hto hpu hb1 hal NW;obtain ⟨g2, hg2⟩ : ∃ g, g = w1.heap.size := ⟨_, rfl⟩;obtain ⟨wq, hwq⟩ : ∃ x, x = w1.alloc (.cells #[.int .i64 0, .int .i64 0, .int .i64 0, .slice bo 0 d, .int .i64 0, .int .i64 0, .int .i64 0] 28) := ⟨_, rfl⟩;go_upto_region 2 with fail
 rw [<- hwq, <- hg2] at HA;rw [<- hwq] at HBX HT;rw [<- hwq, <- hg2];have HBX2 := HBX;clear hg2 hwq HBX;go_upto_region 2 with fail
 go_cut [3, 4, 5] (fun s3 s4 s5 wx => ∃ p b3 d3, s3 = .pointer (some ⟨p, 0, none⟩) /\ Hid (wx.heap[p]? = some (.cells #[.int .i64 2, .int .i64 0, .int .i64 0, .slice b3 0 d3, .int .i64 0, .int .i64 0, .int .i64 0] 28 (0, 0))) /\ Hid (TR wx (.slice b3 0 d3) 0 []) /\ Hid (Gr w wx))
 case first =>
  have HC : Hid (Gr wq wq.drew) := Gr.drew _;have HLW : Hid (w.heap.size <= wq.heap.size /\ g2 < wq.heap.size) := ⟨HBX2.out.size, (Array.getElem?_eq_some_iff.1 HA.out).1⟩;refine wp_region_G 13 (Kp [g2]) (by kernel_rfl) ?_;generalize wq.drew = wc at HC ⊢;refine wpG_u (preKp _) 1 (some 15) ?_ (hy := fun w' hw' => by
   try (have hq2 := cells7 ((hw'.2 g2 (by simp)).trans (heap_below HA.out HC.out)); obtain ⟨k0, k1, k2, k3, k4, k5, k6⟩ := hq2)
   go_simp;with_reducible rfl)
  refine wpG_u (preKp _) 2 (some 16) ?_;refine wpG_u (preKp _) 3 (some 17) ?_;refine wpG_two (i := 0) (j := 9) rfl rfl (by kernel_rfl) (by rfl) (by rfl) ?_ ?_
  · go_simp;refine (plain_any wc).mono ?_;rintro e w3 ⟨rfl, hb3⟩;refine ⟨⟨hb3.size, fun b hb => ?_⟩, ?_⟩
    · simp only [List.mem_cons, List.not_mem_nil, or_false] at hb;subst hb;exact hb3.block _ (Nat.lt_of_lt_of_le HLW.out.2 HC.out.size)
    have HC' : Hid (Gr wq w3) := Gr.trans HC.out hb3;try (have HP' := hd_ (And.intro (heap_below HP.out.1 hb3) HP.out.2); clear HP; have HP := HP'; clear HP')
    clear HC hb3;have HC := HC';clear HC'
    rename World => wc
    try simp only [Act.put, aq1, aq2, aq3]
    refine wpG_two (i := 4) (j := 9) rfl rfl (by kernel_rfl) (by rfl) (by rfl) ?_ ?_
    · go_simp;refine (do_plain 0 0 0 0 0 0 1 1 bo d wc (HT.out.below HC.out) _ awake_1 rfl).mono ?_;rintro e w3 ⟨b3, d3, oa3, oc3, da3, dc3, os3, rfl, ht3, hcr3, hpc3, har3, hb3⟩;refine ⟨⟨hb3.size, fun b hb => ?_⟩, ?_⟩
      · simp only [List.mem_cons, List.not_mem_nil, or_false] at hb;subst hb;exact hb3.block _ (Nat.lt_of_lt_of_le HLW.out.2 HC.out.size)
      have HC' : Hid (Gr wq w3) := Gr.trans HC.out hb3;have HRS := hd_ (And.intro ht3 (And.intro hcr3 har3));have HPC := hd_ hpc3;try (have HP' := hd_ (And.intro (heap_below HP.out.1 hb3) HP.out.2); clear HP; have HP := HP'; clear HP')
      clear HC ht3 hcr3 hpc3 har3 hb3;have HC := HC';clear HC'
      rename World => wc
      try simp only [Act.put, aq1, aq2, aq3]
      refine wpG_u (preKp _) 5 (some 13) ?_;refine wpG_u (preKp _) 6 (some 19) ?_;refine wpG_u (preKp _) 7 (some 20) ?_;refine wpG_u (preKp _) 8 (some 21) ?_;refine wpG_one (i := 9) rfl (by kernel_rfl) (by rfl) ?_;go_simp;have hb3 : Gr wc (wc.alloc (.cells #[.int .i64 0, .int .i64 0, .int .i64 0, .slice none 0 0, .int .i64 0, .int .i64 0, .int .i64 0] 28)) := (Gr.refl _).alloc _;refine ⟨⟨hb3.size, fun b hb => ?_⟩, ?_⟩
      · simp only [List.mem_cons, List.not_mem_nil, or_false] at hb;subst hb;exact hb3.block _ (Nat.lt_of_lt_of_le HLW.out.2 HC.out.size)
      have HP : Hid ((wc.alloc (.cells #[.int .i64 0, .int .i64 0, .int .i64 0, .slice none 0 0, .int .i64 0, .int .i64 0, .int .i64 0] 28)).heap[wc.heap.size]? = some (.cells #[.int .i64 0, .int .i64 0, .int .i64 0, .slice none 0 0, .int .i64 0, .int .i64 0, .int .i64 0] 28) /\ wq.heap.size <= wc.heap.size) := ⟨heap_alloc_last _ _, HC.out.size⟩;have HC' : Hid (Gr wq (wc.alloc (.cells #[.int .i64 0, .int .i64 0, .int .i64 0, .slice none 0 0, .int .i64 0, .int .i64 0, .int .i64 0] 28))) := Gr.trans HC.out hb3;try (have HRS' := hd_ (And.intro (HRS.out.1.below hb3) (And.intro (ownsRow_below HRS.out.2.1 hb3) (HRS.out.2.2.below hb3))); clear HRS; have HRS := HRS'; clear HRS')
      clear HC hb3;have HC := HC';clear HC'
      first | generalize wc.alloc (.cells #[.int .i64 0, .int .i64 0, .int .i64 0, .slice none 0 0, .int .i64 0, .int .i64 0, .int .i64 0] 28) = w3 at HP HC HRS ⊢ | generalize wc.alloc (.cells #[.int .i64 0, .int .i64 0, .int .i64 0, .slice none 0 0, .int .i64 0, .int .i64 0, .int .i64 0] 28) = w3 at HP HC ⊢
      generalize wc.heap.size = p at HP ⊢
      rename World => wc
      try simp only [Act.put, aq1, aq2, aq3]
      refine wpG_one (i := 10) rfl (by kernel_rfl) (by rfl) ?_;refine wp_store_whole (none) 28 (.tmp 3) (.tmp 19) rfl p [.int .i64 2, .int .i64 0, .int .i64 0, .slice b3 0 d3, .int .i64 0, .int .i64 0, .int .i64 0] rfl rfl 28 _ HP.out.1 sizeAuto rfl (autoC_one (a := ⟨2, 0, 0, [], 0, 0, 0⟩) rfl) rfl ?_;intro w3 h3 ho3;refine ⟨⟨ho3.size, fun b hb => ?_⟩, ?_⟩
      · simp only [List.mem_cons, List.not_mem_nil, or_false] at hb;subst hb;exact ho3.heap _ (Nat.lt_of_lt_of_le HLW.out.2 HC.out.size) (by have := HP.out.2; have := HLW.out.2; omega)
      have HX3 := hd_ h3;have HO3 := hd_ ho3;clear h3 ho3;try simp only [Act.put, aq1, aq2, aq3]
      refine wpG_u (preKp _) 11 (some 4) ?_;refine wpG_u (preKp _) 12 (some 5) ?_;refine wpG_done (by kernel_rfl) ?_ _;go_wp2_with fail
      go_meet
      exact ⟨p, b3, d3, rfl, HX3.out, tr0 HRS.out.1, HO3.out.below _ _ (Nat.le_trans HLW.out.1 HP.out.2) (Gr.trans HBX2.out HC.out)⟩
    · go_simp;have hb3 : Gr wc (wc.alloc (.cells #[.int .i64 0, .int .i64 0, .int .i64 0, .slice none 0 0, .int .i64 0, .int .i64 0, .int .i64 0] 28)) := (Gr.refl _).alloc _;refine ⟨⟨hb3.size, fun b hb => ?_⟩, ?_⟩
      · simp only [List.mem_cons, List.not_mem_nil, or_false] at hb;subst hb;exact hb3.block _ (Nat.lt_of_lt_of_le HLW.out.2 HC.out.size)
      have HP : Hid ((wc.alloc (.cells #[.int .i64 0, .int .i64 0, .int .i64 0, .slice none 0 0, .int .i64 0, .int .i64 0, .int .i64 0] 28)).heap[wc.heap.size]? = some (.cells #[.int .i64 0, .int .i64 0, .int .i64 0, .slice none 0 0, .int .i64 0, .int .i64 0, .int .i64 0] 28) /\ wq.heap.size <= wc.heap.size) := ⟨heap_alloc_last _ _, HC.out.size⟩;have HC' : Hid (Gr wq (wc.alloc (.cells #[.int .i64 0, .int .i64 0, .int .i64 0, .slice none 0 0, .int .i64 0, .int .i64 0, .int .i64 0] 28))) := Gr.trans HC.out hb3;try (have HRS' := hd_ (And.intro (HRS.out.1.below hb3) (And.intro (ownsRow_below HRS.out.2.1 hb3) (HRS.out.2.2.below hb3))); clear HRS; have HRS := HRS'; clear HRS')
      clear HC hb3;have HC := HC';clear HC'
      first | generalize wc.alloc (.cells #[.int .i64 0, .int .i64 0, .int .i64 0, .slice none 0 0, .int .i64 0, .int .i64 0, .int .i64 0] 28) = w3 at HP HC HRS ⊢ | generalize wc.alloc (.cells #[.int .i64 0, .int .i64 0, .int .i64 0, .slice none 0 0, .int .i64 0, .int .i64 0, .int .i64 0] 28) = w3 at HP HC ⊢
      generalize wc.heap.size = p at HP ⊢
      rename World => wc
      try simp only [Act.put, aq1, aq2, aq3]
      refine wpG_one (i := 4) rfl (by kernel_rfl) (by rfl) ?_;go_simp;refine (do_plain 0 0 0 0 0 0 1 1 bo d wc (HT.out.below HC.out) _ awake_1 rfl).mono ?_;rintro e w3 ⟨b3, d3, oa3, oc3, da3, dc3, os3, rfl, ht3, hcr3, hpc3, har3, hb3⟩;refine ⟨⟨hb3.size, fun b hb => ?_⟩, ?_⟩
      · simp only [List.mem_cons, List.not_mem_nil, or_false] at hb;subst hb;exact hb3.block _ (Nat.lt_of_lt_of_le HLW.out.2 HC.out.size)
      have HC' : Hid (Gr wq w3) := Gr.trans HC.out hb3;have HRS := hd_ (And.intro ht3 (And.intro hcr3 har3));have HPC := hd_ hpc3;try (have HP' := hd_ (And.intro (heap_below HP.out.1 hb3) HP.out.2); clear HP; have HP := HP'; clear HP')
      clear HC ht3 hcr3 hpc3 har3 hb3;have HC := HC';clear HC'
      rename World => wc
      try simp only [Act.put, aq1, aq2, aq3]
      refine wpG_u (preKp _) 5 (some 13) ?_;refine wpG_u (preKp _) 6 (some 19) ?_;refine wpG_u (preKp _) 7 (some 20) ?_;refine wpG_u (preKp _) 8 (some 21) ?_;refine wpG_one (i := 10) rfl (by kernel_rfl) (by rfl) ?_;refine wp_store_whole (none) 28 (.tmp 3) (.tmp 19) rfl p [.int .i64 2, .int .i64 0, .int .i64 0, .slice b3 0 d3, .int .i64 0, .int .i64 0, .int .i64 0] rfl rfl 28 _ HP.out.1 sizeAuto rfl (autoC_one (a := ⟨2, 0, 0, [], 0, 0, 0⟩) rfl) rfl ?_;intro w3 h3 ho3;refine ⟨⟨ho3.size, fun b hb => ?_⟩, ?_⟩
      · simp only [List.mem_cons, List.not_mem_nil, or_false] at hb;subst hb;exact ho3.heap _ (Nat.lt_of_lt_of_le HLW.out.2 HC.out.size) (by have := HP.out.2; have := HLW.out.2; omega)
      have HX3 := hd_ h3;have HO3 := hd_ ho3;clear h3 ho3;try simp only [Act.put, aq1, aq2, aq3]
      refine wpG_u (preKp _) 11 (some 4) ?_;refine wpG_u (preKp _) 12 (some 5) ?_;refine wpG_done (by kernel_rfl) ?_ _;go_wp2_with fail
      go_meet
      exact ⟨p, b3, d3, rfl, HX3.out, tr0 HRS.out.1, HO3.out.below _ _ (Nat.le_trans HLW.out.1 HP.out.2) (Gr.trans HBX2.out HC.out)⟩
  · go_simp;have hb3 : Gr wc (wc.alloc (.cells #[.int .i64 0, .int .i64 0, .int .i64 0, .slice none 0 0, .int .i64 0, .int .i64 0, .int .i64 0] 28)) := (Gr.refl _).alloc _;refine ⟨⟨hb3.size, fun b hb => ?_⟩, ?_⟩
    · simp only [List.mem_cons, List.not_mem_nil, or_false] at hb;subst hb;exact hb3.block _ (Nat.lt_of_lt_of_le HLW.out.2 HC.out.size)
    have HP : Hid ((wc.alloc (.cells #[.int .i64 0, .int .i64 0, .int .i64 0, .slice none 0 0, .int .i64 0, .int .i64 0, .int .i64 0] 28)).heap[wc.heap.size]? = some (.cells #[.int .i64 0, .int .i64 0, .int .i64 0, .slice none 0 0, .int .i64 0, .int .i64 0, .int .i64 0] 28) /\ wq.heap.size <= wc.heap.size) := ⟨heap_alloc_last _ _, HC.out.size⟩;have HC' : Hid (Gr wq (wc.alloc (.cells #[.int .i64 0, .int .i64 0, .int .i64 0, .slice none 0 0, .int .i64 0, .int .i64 0, .int .i64 0] 28))) := Gr.trans HC.out hb3;try (have HRS' := hd_ (And.intro (HRS.out.1.below hb3) (And.intro (ownsRow_below HRS.out.2.1 hb3) (HRS.out.2.2.below hb3))); clear HRS; have HRS := HRS'; clear HRS')
    clear HC hb3;have HC := HC';clear HC'
    first | generalize wc.alloc (.cells #[.int .i64 0, .int .i64 0, .int .i64 0, .slice none 0 0, .int .i64 0, .int .i64 0, .int .i64 0] 28) = w3 at HP HC HRS ⊢ | generalize wc.alloc (.cells #[.int .i64 0, .int .i64 0, .int .i64 0, .slice none 0 0, .int .i64 0, .int .i64 0, .int .i64 0] 28) = w3 at HP HC ⊢
    generalize wc.heap.size = p at HP ⊢
    rename World => wc
    try simp only [Act.put, aq1, aq2, aq3]
    refine wpG_one (i := 0) rfl (by kernel_rfl) (by rfl) ?_;go_simp;refine (plain_any wc).mono ?_;rintro e w3 ⟨rfl, hb3⟩;refine ⟨⟨hb3.size, fun b hb => ?_⟩, ?_⟩
    · simp only [List.mem_cons, List.not_mem_nil, or_false] at hb;subst hb;exact hb3.block _ (Nat.lt_of_lt_of_le HLW.out.2 HC.out.size)
    have HC' : Hid (Gr wq w3) := Gr.trans HC.out hb3;try (have HP' := hd_ (And.intro (heap_below HP.out.1 hb3) HP.out.2); clear HP; have HP := HP'; clear HP')
    clear HC hb3;have HC := HC';clear HC'
    rename World => wc
    try simp only [Act.put, aq1, aq2, aq3]
    refine wpG_one (i := 4) rfl (by kernel_rfl) (by rfl) ?_;go_simp;refine (do_plain 0 0 0 0 0 0 1 1 bo d wc (HT.out.below HC.out) _ awake_1 rfl).mono ?_;rintro e w3 ⟨b3, d3, oa3, oc3, da3, dc3, os3, rfl, ht3, hcr3, hpc3, har3, hb3⟩;refine ⟨⟨hb3.size, fun b hb => ?_⟩, ?_⟩
    · simp only [List.mem_cons, List.not_mem_nil, or_false] at hb;subst hb;exact hb3.block _ (Nat.lt_of_lt_of_le HLW.out.2 HC.out.size)
    have HC' : Hid (Gr wq w3) := Gr.trans HC.out hb3;have HRS := hd_ (And.intro ht3 (And.intro hcr3 har3));have HPC := hd_ hpc3;try (have HP' := hd_ (And.intro (heap_below HP.out.1 hb3) HP.out.2); clear HP; have HP := HP'; clear HP')
    clear HC ht3 hcr3 hpc3 har3 hb3;have HC := HC';clear HC'
    rename World => wc
    try simp only [Act.put, aq1, aq2, aq3]
    refine wpG_u (preKp _) 5 (some 13) ?_;refine wpG_u (preKp _) 6 (some 19) ?_;refine wpG_u (preKp _) 7 (some 20) ?_;refine wpG_u (preKp _) 8 (some 21) ?_;refine wpG_one (i := 10) rfl (by kernel_rfl) (by rfl) ?_;refine wp_store_whole (none) 28 (.tmp 3) (.tmp 19) rfl p [.int .i64 2, .int .i64 0, .int .i64 0, .slice b3 0 d3, .int .i64 0, .int .i64 0, .int .i64 0] rfl rfl 28 _ HP.out.1 sizeAuto rfl (autoC_one (a := ⟨2, 0, 0, [], 0, 0, 0⟩) rfl) rfl ?_;intro w3 h3 ho3;refine ⟨⟨ho3.size, fun b hb => ?_⟩, ?_⟩
    · simp only [List.mem_cons, List.not_mem_nil, or_false] at hb;subst hb;exact ho3.heap _ (Nat.lt_of_lt_of_le HLW.out.2 HC.out.size) (by have := HP.out.2; have := HLW.out.2; omega)
    have HX3 := hd_ h3;have HO3 := hd_ ho3;clear h3 ho3;try simp only [Act.put, aq1, aq2, aq3]
    refine wpG_u (preKp _) 11 (some 4) ?_;refine wpG_u (preKp _) 12 (some 5) ?_;refine wpG_done (by kernel_rfl) ?_ _;go_wp2_with fail
    go_meet
    exact ⟨p, b3, d3, rfl, HX3.out, tr0 HRS.out.1, HO3.out.below _ _ (Nat.le_trans HLW.out.1 HP.out.2) (Gr.trans HBX2.out HC.out)⟩
 case rest =>
  obtain ⟨p3, b3', d3', hs3, HA3, HT3, HBX3⟩ := hcut;subst hs3;obtain ⟨wd, hwd⟩ : ∃ x, x = wc := ⟨_, rfl⟩;subst hwd;clear HA HT HBX2;go_upto_region 3 with fail
  go_cut [6, 7, 8] (fun s6 s7 s8 wx => ∃ p b3 d3 oa oc da dc os, s6 = .pointer (some ⟨p, 0, none⟩) /\ s7 = .slice oa 1 oc /\ s8 = .slice da 2 dc /\ Hid (wx.heap[p]? = some (.cells #[.int .i64 6, .int .i64 1, .int .i64 1, .slice b3 0 d3, .int .i64 1, .int .i64 8, .int .i64 0] 28 (0, 0))) /\ Hid (wx.heap[p3]? = some (.cells #[.int .i64 2, .int .i64 0, .int .i64 0, .slice b3' 0 d3', .int .i64 0, .int .i64 0, .int .i64 0] 28 (0, 0))) /\ Hid (wx.ownsRow 0 32 3 (.slice oa 1 oc) 1 (flatC os)) /\ Hid (plainC os = [⟨1, 1, []⟩]) /\ Hid (Gr w wx))
  case first =>
   have HC : Hid (Gr wd wd.drew) := Gr.drew _;have HLW : Hid (w.heap.size <= wd.heap.size /\ p3 < wd.heap.size) := ⟨HBX3.out.size, (Array.getElem?_eq_some_iff.1 HA3.out).1⟩;refine wp_region_G 13 (Kp [p3]) (by kernel_rfl) ?_;generalize wd.drew = wc at HC ⊢;refine wpG_u (preKp _) 1 (some 24) ?_ (hy := fun w' hw' => by
    try (have hq2 := cells7 ((hw'.2 p3 (by simp)).trans (heap_below HA3.out HC.out)); obtain ⟨k0, k1, k2, k3, k4, k5, k6⟩ := hq2)
    go_simp;with_reducible rfl)
   refine wpG_u (preKp _) 2 (some 25) ?_;refine wpG_u (preKp _) 3 (some 26) ?_;refine wpG_two (i := 0) (j := 9) rfl rfl (by kernel_rfl) (by rfl) (by rfl) ?_ ?_
   · go_simp;refine (plain_any wc).mono ?_;rintro e w3 ⟨rfl, hb3⟩;refine ⟨⟨hb3.size, fun b hb => ?_⟩, ?_⟩
     · simp only [List.mem_cons, List.not_mem_nil, or_false] at hb;subst hb;exact hb3.block _ (Nat.lt_of_lt_of_le HLW.out.2 HC.out.size)
     have HC' : Hid (Gr wd w3) := Gr.trans HC.out hb3;try (have HP' := hd_ (And.intro (heap_below HP.out.1 hb3) HP.out.2); clear HP; have HP := HP'; clear HP')
     clear HC hb3;have HC := HC';clear HC'
     rename World => wc
     try simp only [Act.put, aq1, aq2, aq3]
     refine wpG_two (i := 4) (j := 9) rfl rfl (by kernel_rfl) (by rfl) (by rfl) ?_ ?_
     · go_simp;refine (do_plain 2 0 0 0 0 0 3 5 b3' d3' wc (HT3.out.below HC.out) _ awake_2 rfl).mono ?_;rintro e w3 ⟨b3, d3, oa3, oc3, da3, dc3, os3, rfl, ht3, hcr3, hpc3, har3, hb3⟩;refine ⟨⟨hb3.size, fun b hb => ?_⟩, ?_⟩
       · simp only [List.mem_cons, List.not_mem_nil, or_false] at hb;subst hb;exact hb3.block _ (Nat.lt_of_lt_of_le HLW.out.2 HC.out.size)
       have HC' : Hid (Gr wd w3) := Gr.trans HC.out hb3;have HRS := hd_ (And.intro ht3 (And.intro hcr3 har3));have HPC := hd_ hpc3;try (have HP' := hd_ (And.intro (heap_below HP.out.1 hb3) HP.out.2); clear HP; have HP := HP'; clear HP')
       clear HC ht3 hcr3 hpc3 har3 hb3;have HC := HC';clear HC'
       rename World => wc
       try simp only [Act.put, aq1, aq2, aq3]
       refine wpG_u (preKp _) 5 (some 22) ?_;refine wpG_u (preKp _) 6 (some 28) ?_;refine wpG_u (preKp _) 7 (some 29) ?_;refine wpG_u (preKp _) 8 (some 30) ?_;refine wpG_one (i := 9) rfl (by kernel_rfl) (by rfl) ?_;go_simp;have hb3 : Gr wc (wc.alloc (.cells #[.int .i64 0, .int .i64 0, .int .i64 0, .slice none 0 0, .int .i64 0, .int .i64 0, .int .i64 0] 28)) := (Gr.refl _).alloc _;refine ⟨⟨hb3.size, fun b hb => ?_⟩, ?_⟩
       · simp only [List.mem_cons, List.not_mem_nil, or_false] at hb;subst hb;exact hb3.block _ (Nat.lt_of_lt_of_le HLW.out.2 HC.out.size)
       have HP : Hid ((wc.alloc (.cells #[.int .i64 0, .int .i64 0, .int .i64 0, .slice none 0 0, .int .i64 0, .int .i64 0, .int .i64 0] 28)).heap[wc.heap.size]? = some (.cells #[.int .i64 0, .int .i64 0, .int .i64 0, .slice none 0 0, .int .i64 0, .int .i64 0, .int .i64 0] 28) /\ wd.heap.size <= wc.heap.size) := ⟨heap_alloc_last _ _, HC.out.size⟩;have HC' : Hid (Gr wd (wc.alloc (.cells #[.int .i64 0, .int .i64 0, .int .i64 0, .slice none 0 0, .int .i64 0, .int .i64 0, .int .i64 0] 28))) := Gr.trans HC.out hb3;try (have HRS' := hd_ (And.intro (HRS.out.1.below hb3) (And.intro (ownsRow_below HRS.out.2.1 hb3) (HRS.out.2.2.below hb3))); clear HRS; have HRS := HRS'; clear HRS')
       clear HC hb3;have HC := HC';clear HC'
       first | generalize wc.alloc (.cells #[.int .i64 0, .int .i64 0, .int .i64 0, .slice none 0 0, .int .i64 0, .int .i64 0, .int .i64 0] 28) = w3 at HP HC HRS ⊢ | generalize wc.alloc (.cells #[.int .i64 0, .int .i64 0, .int .i64 0, .slice none 0 0, .int .i64 0, .int .i64 0, .int .i64 0] 28) = w3 at HP HC ⊢
       generalize wc.heap.size = p at HP ⊢
       rename World => wc
       try simp only [Act.put, aq1, aq2, aq3]
       refine wpG_one (i := 10) rfl (by kernel_rfl) (by rfl) ?_;refine wp_store_whole (none) 28 (.tmp 6) (.tmp 28) rfl p [.int .i64 6, .int .i64 1, .int .i64 1, .slice b3 0 d3, .int .i64 1, .int .i64 8, .int .i64 0] rfl rfl 28 _ HP.out.1 sizeAuto rfl (autoC_one (a := ⟨6, 1, 1, [], 1, 8, 0⟩) rfl) rfl ?_;intro w3 h3 ho3;refine ⟨⟨ho3.size, fun b hb => ?_⟩, ?_⟩
       · simp only [List.mem_cons, List.not_mem_nil, or_false] at hb;subst hb;exact ho3.heap _ (Nat.lt_of_lt_of_le HLW.out.2 HC.out.size) (by have := HP.out.2; have := HLW.out.2; omega)
       have HX3 := hd_ h3;have HO3 := hd_ ho3;clear h3 ho3;try simp only [Act.put, aq1, aq2, aq3]
       refine wpG_u (preKp _) 11 (some 7) ?_;refine wpG_u (preKp _) 12 (some 8) ?_;refine wpG_done (by kernel_rfl) ?_ _;go_wp2_with fail
       go_meet
       exact ⟨p, b3, d3, oa3, oc3, da3, dc3, os3, rfl, rfl, rfl, HX3.out, only_heap (heap_below HA3.out HC.out) HO3.out (by have := HP.out.2; have := HLW.out.2; omega), own_off HRS.out.2.1 HP.out.1 (show 32 ≠ 28 by decide) HO3.out, HPC.out, HO3.out.below _ _ (Nat.le_trans HLW.out.1 HP.out.2) (Gr.trans HBX3.out HC.out)⟩
     · go_simp;have hb3 : Gr wc (wc.alloc (.cells #[.int .i64 0, .int .i64 0, .int .i64 0, .slice none 0 0, .int .i64 0, .int .i64 0, .int .i64 0] 28)) := (Gr.refl _).alloc _;refine ⟨⟨hb3.size, fun b hb => ?_⟩, ?_⟩
       · simp only [List.mem_cons, List.not_mem_nil, or_false] at hb;subst hb;exact hb3.block _ (Nat.lt_of_lt_of_le HLW.out.2 HC.out.size)
       have HP : Hid ((wc.alloc (.cells #[.int .i64 0, .int .i64 0, .int .i64 0, .slice none 0 0, .int .i64 0, .int .i64 0, .int .i64 0] 28)).heap[wc.heap.size]? = some (.cells #[.int .i64 0, .int .i64 0, .int .i64 0, .slice none 0 0, .int .i64 0, .int .i64 0, .int .i64 0] 28) /\ wd.heap.size <= wc.heap.size) := ⟨heap_alloc_last _ _, HC.out.size⟩;have HC' : Hid (Gr wd (wc.alloc (.cells #[.int .i64 0, .int .i64 0, .int .i64 0, .slice none 0 0, .int .i64 0, .int .i64 0, .int .i64 0] 28))) := Gr.trans HC.out hb3;try (have HRS' := hd_ (And.intro (HRS.out.1.below hb3) (And.intro (ownsRow_below HRS.out.2.1 hb3) (HRS.out.2.2.below hb3))); clear HRS; have HRS := HRS'; clear HRS')
       clear HC hb3;have HC := HC';clear HC'
       first | generalize wc.alloc (.cells #[.int .i64 0, .int .i64 0, .int .i64 0, .slice none 0 0, .int .i64 0, .int .i64 0, .int .i64 0] 28) = w3 at HP HC HRS ⊢ | generalize wc.alloc (.cells #[.int .i64 0, .int .i64 0, .int .i64 0, .slice none 0 0, .int .i64 0, .int .i64 0, .int .i64 0] 28) = w3 at HP HC ⊢
       generalize wc.heap.size = p at HP ⊢
       rename World => wc
       try simp only [Act.put, aq1, aq2, aq3]
       refine wpG_one (i := 4) rfl (by kernel_rfl) (by rfl) ?_;go_simp;refine (do_plain 2 0 0 0 0 0 3 5 b3' d3' wc (HT3.out.below HC.out) _ awake_2 rfl).mono ?_;rintro e w3 ⟨b3, d3, oa3, oc3, da3, dc3, os3, rfl, ht3, hcr3, hpc3, har3, hb3⟩;refine ⟨⟨hb3.size, fun b hb => ?_⟩, ?_⟩
       · simp only [List.mem_cons, List.not_mem_nil, or_false] at hb;subst hb;exact hb3.block _ (Nat.lt_of_lt_of_le HLW.out.2 HC.out.size)
       have HC' : Hid (Gr wd w3) := Gr.trans HC.out hb3;have HRS := hd_ (And.intro ht3 (And.intro hcr3 har3));have HPC := hd_ hpc3;try (have HP' := hd_ (And.intro (heap_below HP.out.1 hb3) HP.out.2); clear HP; have HP := HP'; clear HP')
       clear HC ht3 hcr3 hpc3 har3 hb3;have HC := HC';clear HC'
       rename World => wc
       try simp only [Act.put, aq1, aq2, aq3]
       refine wpG_u (preKp _) 5 (some 22) ?_;refine wpG_u (preKp _) 6 (some 28) ?_;refine wpG_u (preKp _) 7 (some 29) ?_;refine wpG_u (preKp _) 8 (some 30) ?_;refine wpG_one (i := 10) rfl (by kernel_rfl) (by rfl) ?_;refine wp_store_whole (none) 28 (.tmp 6) (.tmp 28) rfl p [.int .i64 6, .int .i64 1, .int .i64 1, .slice b3 0 d3, .int .i64 1, .int .i64 8, .int .i64 0] rfl rfl 28 _ HP.out.1 sizeAuto rfl (autoC_one (a := ⟨6, 1, 1, [], 1, 8, 0⟩) rfl) rfl ?_;intro w3 h3 ho3;refine ⟨⟨ho3.size, fun b hb => ?_⟩, ?_⟩
       · simp only [List.mem_cons, List.not_mem_nil, or_false] at hb;subst hb;exact ho3.heap _ (Nat.lt_of_lt_of_le HLW.out.2 HC.out.size) (by have := HP.out.2; have := HLW.out.2; omega)
       have HX3 := hd_ h3;have HO3 := hd_ ho3;clear h3 ho3;try simp only [Act.put, aq1, aq2, aq3]
       refine wpG_u (preKp _) 11 (some 7) ?_;refine wpG_u (preKp _) 12 (some 8) ?_;refine wpG_done (by kernel_rfl) ?_ _;go_wp2_with fail
       go_meet
       exact ⟨p, b3, d3, oa3, oc3, da3, dc3, os3, rfl, rfl, rfl, HX3.out, only_heap (heap_below HA3.out HC.out) HO3.out (by have := HP.out.2; have := HLW.out.2; omega), own_off HRS.out.2.1 HP.out.1 (show 32 ≠ 28 by decide) HO3.out, HPC.out, HO3.out.below _ _ (Nat.le_trans HLW.out.1 HP.out.2) (Gr.trans HBX3.out HC.out)⟩
   · go_simp;have hb3 : Gr wc (wc.alloc (.cells #[.int .i64 0, .int .i64 0, .int .i64 0, .slice none 0 0, .int .i64 0, .int .i64 0, .int .i64 0] 28)) := (Gr.refl _).alloc _;refine ⟨⟨hb3.size, fun b hb => ?_⟩, ?_⟩
     · simp only [List.mem_cons, List.not_mem_nil, or_false] at hb;subst hb;exact hb3.block _ (Nat.lt_of_lt_of_le HLW.out.2 HC.out.size)
     have HP : Hid ((wc.alloc (.cells #[.int .i64 0, .int .i64 0, .int .i64 0, .slice none 0 0, .int .i64 0, .int .i64 0, .int .i64 0] 28)).heap[wc.heap.size]? = some (.cells #[.int .i64 0, .int .i64 0, .int .i64 0, .slice none 0 0, .int .i64 0, .int .i64 0, .int .i64 0] 28) /\ wd.heap.size <= wc.heap.size) := ⟨heap_alloc_last _ _, HC.out.size⟩;have HC' : Hid (Gr wd (wc.alloc (.cells #[.int .i64 0, .int .i64 0, .int .i64 0, .slice none 0 0, .int .i64 0, .int .i64 0, .int .i64 0] 28))) := Gr.trans HC.out hb3;try (have HRS' := hd_ (And.intro (HRS.out.1.below hb3) (And.intro (ownsRow_below HRS.out.2.1 hb3) (HRS.out.2.2.below hb3))); clear HRS; have HRS := HRS'; clear HRS')
     clear HC hb3;have HC := HC';clear HC'
     first | generalize wc.alloc (.cells #[.int .i64 0, .int .i64 0, .int .i64 0, .slice none 0 0, .int .i64 0, .int .i64 0, .int .i64 0] 28) = w3 at HP HC HRS ⊢ | generalize wc.alloc (.cells #[.int .i64 0, .int .i64 0, .int .i64 0, .slice none 0 0, .int .i64 0, .int .i64 0, .int .i64 0] 28) = w3 at HP HC ⊢
     generalize wc.heap.size = p at HP ⊢
     rename World => wc
     try simp only [Act.put, aq1, aq2, aq3]
     refine wpG_one (i := 0) rfl (by kernel_rfl) (by rfl) ?_;go_simp;refine (plain_any wc).mono ?_;rintro e w3 ⟨rfl, hb3⟩;refine ⟨⟨hb3.size, fun b hb => ?_⟩, ?_⟩
     · simp only [List.mem_cons, List.not_mem_nil, or_false] at hb;subst hb;exact hb3.block _ (Nat.lt_of_lt_of_le HLW.out.2 HC.out.size)
     have HC' : Hid (Gr wd w3) := Gr.trans HC.out hb3;try (have HP' := hd_ (And.intro (heap_below HP.out.1 hb3) HP.out.2); clear HP; have HP := HP'; clear HP')
     clear HC hb3;have HC := HC';clear HC'
     rename World => wc
     try simp only [Act.put, aq1, aq2, aq3]
     refine wpG_one (i := 4) rfl (by kernel_rfl) (by rfl) ?_;go_simp;refine (do_plain 2 0 0 0 0 0 3 5 b3' d3' wc (HT3.out.below HC.out) _ awake_2 rfl).mono ?_;rintro e w3 ⟨b3, d3, oa3, oc3, da3, dc3, os3, rfl, ht3, hcr3, hpc3, har3, hb3⟩;refine ⟨⟨hb3.size, fun b hb => ?_⟩, ?_⟩
     · simp only [List.mem_cons, List.not_mem_nil, or_false] at hb;subst hb;exact hb3.block _ (Nat.lt_of_lt_of_le HLW.out.2 HC.out.size)
     have HC' : Hid (Gr wd w3) := Gr.trans HC.out hb3;have HRS := hd_ (And.intro ht3 (And.intro hcr3 har3));have HPC := hd_ hpc3;try (have HP' := hd_ (And.intro (heap_below HP.out.1 hb3) HP.out.2); clear HP; have HP := HP'; clear HP')
     clear HC ht3 hcr3 hpc3 har3 hb3;have HC := HC';clear HC'
     rename World => wc
     try simp only [Act.put, aq1, aq2, aq3]
     refine wpG_u (preKp _) 5 (some 22) ?_;refine wpG_u (preKp _) 6 (some 28) ?_;refine wpG_u (preKp _) 7 (some 29) ?_;refine wpG_u (preKp _) 8 (some 30) ?_;refine wpG_one (i := 10) rfl (by kernel_rfl) (by rfl) ?_;refine wp_store_whole (none) 28 (.tmp 6) (.tmp 28) rfl p [.int .i64 6, .int .i64 1, .int .i64 1, .slice b3 0 d3, .int .i64 1, .int .i64 8, .int .i64 0] rfl rfl 28 _ HP.out.1 sizeAuto rfl (autoC_one (a := ⟨6, 1, 1, [], 1, 8, 0⟩) rfl) rfl ?_;intro w3 h3 ho3;refine ⟨⟨ho3.size, fun b hb => ?_⟩, ?_⟩
     · simp only [List.mem_cons, List.not_mem_nil, or_false] at hb;subst hb;exact ho3.heap _ (Nat.lt_of_lt_of_le HLW.out.2 HC.out.size) (by have := HP.out.2; have := HLW.out.2; omega)
     have HX3 := hd_ h3;have HO3 := hd_ ho3;clear h3 ho3;try simp only [Act.put, aq1, aq2, aq3]
     refine wpG_u (preKp _) 11 (some 7) ?_;refine wpG_u (preKp _) 12 (some 8) ?_;refine wpG_done (by kernel_rfl) ?_ _;go_wp2_with fail
     go_meet
     exact ⟨p, b3, d3, oa3, oc3, da3, dc3, os3, rfl, rfl, rfl, HX3.out, only_heap (heap_below HA3.out HC.out) HO3.out (by have := HP.out.2; have := HLW.out.2; omega), own_off HRS.out.2.1 HP.out.1 (show 32 ≠ 28 by decide) HO3.out, HPC.out, HO3.out.below _ _ (Nat.le_trans HLW.out.1 HP.out.2) (Gr.trans HBX3.out HC.out)⟩
  case rest =>
   obtain ⟨p6, b6, d6, oa, oc, da, dc, os6, hs6, hs7, hs8, HP6, HP3, HCR6, HPC6, HBX6⟩ := hcut;subst hs6 hs7 hs8;obtain ⟨we, hwe⟩ : ∃ x, x = wc := ⟨_, rfl⟩;subst hwe;have hos := HPC6.out;have hlen : os6.length = 1 := by rw [<- plainC_length, hos]; rfl
   obtain ⟨q0, rfl⟩ := List.length_eq_one_iff.1 hlen;have hqc : q0.c = 1 := congrArg QC.c (List.cons.inj hos).1;have hqi : q0.i = 1 := congrArg QC.i (List.cons.inj hos).1;obtain ⟨bb, o6, eo6, hb6, hcell6⟩ := Rd.cells (own_rd HCR6.out) (Nat.one_pos) (by decide);subst eo6;have y0 := hcell6 0 (.int .i64 q0.c) rfl;have y1 := hcell6 1 (.int .i64 q0.i) rfl;rw [hqc, Nat.add_zero] at y0;rw [hqi] at y1;obtain ⟨z0, z1, z2, z3, z4, z5, z6⟩ := cells7 HP6.out;obtain ⟨x0, x1, x2, x3, x4, x5, x6⟩ := cells7 HP3.out;clear hos hlen hqc hqi hb6 hcell6 HCR6 HPC6 HP6 HP3 HBX3 HA3 HT3;go_wp2_with fail
   go_ret
   exact ⟨rfl, HBX6.out⟩
end Go.Proofs.YtclplbapedmihaaGreat.Au
namespace Go.Proofs.YtclplbapedmihaaGreat.Au
set_option maxRecDepth 4000
open Go.RowKit O Ng
set_option linter.unusedVariables false
set_option linter.unusedSimpArgs false
set_option maxRecDepth 20000 in
set_option maxHeartbeats 4000000 in
theorem few_any (ao : Option Addr) (n c : Nat) (ts : List Tg) (w0 w : World) (hr : TR w0 (.slice ao n c) n ts) (hb0 : Below w0.heap.size w0 w) :
 Calls Tryz.prog 28 #[.slice ao n c] w fun e w' => ∃ a' m c' us, e = .returned (.slice a' m c') /\ w'.ownsRow w.heap.size 69 2 (.slice a' m c') m (flat us) /\ (∀ x ∈ us, Bs w0 x.val x.l) /\ m <= 70 /\ (∀ x ∈ us, x.l.length <= 260) /\ Below w.heap.size w w' := by
 obtain ⟨i0, hi, hz0, hz1, hz2⟩ := info_parts infoT;obtain ⟨i5, hi5, _, hs5, _⟩ := info_parts info5;have hl := hr.len;have HR := hd_ hr;have HB0 := hd_ hb0;have hcc : n <= c /\ c <= maxLen := by
  obtain ⟨_, _, es, h1, h2⟩ := hr.shape;simp only [Value.slice.injEq] at es;obtain ⟨_, _, rfl⟩ := es;exact ⟨h1, h2⟩
 obtain ⟨hc1, hc2⟩ := hcc;unfold maxLen at hc2;clear hr hb0;go_enter Tryz.func28, Tryz.ntmps28
 go_wp2
 go_loopw [3, 4] (fun ov iv wr => ∃ (k : Nat) (us : List Tg) (lv : Value), k <= n /\ k <= 70 /\ iv = .int .i64 k /\ lv = ov /\ wr.ownsRow w.heap.size 69 2 lv k (flat us) /\ (∀ x ∈ us, Bs w0 x.val x.l /\ x.l.length <= 260) /\ Below w.heap.size w wr) (fun _ iv _ => 70 - (intOf iv).toNat)
 case atStart => exact ⟨0, [], _, Nat.zero_le _, Nat.zero_le _, rfl, rfl, World.ownsRow_nil _ _ _ _, (fun x h => by cases h), Below.refl _ _⟩
 case round =>
  obtain ⟨k, us, lv, hk, hk70, rfl, rfl, hown, hus, hb⟩ := hrel;have HO := hd_ hown;have HUS := hd_ hus;have HB := hd_ hb;have HBN := hd_ hb.size;clear hown hus hb
  by_cases hlt : k < n
  · by_cases hlt2 : k < 70
    · obtain ⟨b, o, rfl, hbl, hc⟩ := (HR.out.below (HB0.out.trans (Below.mono HB.out HB0.out.size))).cells (by omega);obtain ⟨hc0, hc1'⟩ := hc k (by omega);have HV := hd_ (HR.out.val k (by omega));obtain ⟨A, L, C, hv, hL, hLC, hCm⟩ := HV.out.sl;rw [hv] at hc1';obtain ⟨T, hT⟩ : ∃ T, T = ts[k].typ := ⟨_, rfl⟩;rw [<- hT] at hc0;obtain ⟨l, hlq⟩ : ∃ l, l = ts[k].l := ⟨_, rfl⟩;have hbs : Bs w0 (.slice A L C) l := by rw [hlq, <- hv]; exact HV.out
      have hll : l.length = L := by rw [hlq]; exact hL
      have hrd : Rd w0 1 (.slice A L C) L (l.map u8v) := by
       have := hbs;unfold Bs at this
       rwa [hll] at this
      obtain ⟨lw, hlw⟩ : ∃ x, x = lv := ⟨_, rfl⟩
      by_cases h260 : 260 < L
      · obtain ⟨A2, hsl, hr2⟩ := slice_upto (P := Tryz.prog) Tryz.underlying30 hi5 hs5 hrd .i64 260 260 rfl (by omega);rw [take_u8'] at hr2;have HB2 : Hid (Bs w0 (.slice A2 260 C) (l.take 260)) := Bs.of_rd hr2 rfl;have HL2 : Hid ((l.take 260).length <= 260) := by show _ <= _; rw [List.length_take]; omega
        have hal : Gr wr ((wr.alloc (.cells #[.int .i64 T, .slice A2 260 C] 69)).alloc (.cells #[.int .i64 T, .slice A2 260 C] 69)) := ((Gr.refl _).alloc _).alloc _;have HB3 := hd_ (HB.out.trans (Below.mono hal HBN.out));have HO3 := hd_ (ownsRow_below HO.out hal);have HRD : Hid (Rd ((wr.alloc (.cells #[.int .i64 T, .slice A2 260 C] 69)).alloc (.cells #[.int .i64 T, .slice A2 260 C] 69)) 2 (.slice (some ⟨wr.heap.size + 1, 0, none⟩) 1 1) 1 [.int .i64 T, .slice A2 260 C]) := by
         have := rd_new (wr.alloc (.cells #[.int .i64 T, .slice A2 260 C] 69)) [.int .i64 T, .slice A2 260 C] 69 1 2 rfl (by decide);rw [World.size_alloc] at this;exact this
        have h260' : (260 : Int) < (L : Int) := by omega
        have hc260 : 260 <= C := by omega
        have hc260' : (260 : Int) <= (C : Int) := by omega
        have hkn2 : (k : Int) < (n : Int) := by omega
        unfold maxLen at hCm;clear hv hL hT hc hbs hll hrd hr2 hlq hal h260;go_wp2_with (at_builtin; refine wpList_append_gr _ rfl (.tmp 28) (.tmp 30) 26 rfl w.heap.size 69 i0 _ 2 32 Tryz.underlying26 hi hz0 hz1 hz2 rfl (by decide) _ _ _ rfl HO3.out _ 1 _ rfl HRD.out (one_tag T rfl) (by omega) (by decide) HB3.out.size ?_)
        intro v' wo ho' hg';have HO4 : Hid (wo.ownsRow w.heap.size 69 2 v' (k + 1) (flat (us ++ [⟨T, .slice A2 260 C, l.take 260⟩]))) := by
         have : wo.ownsRow w.heap.size 69 2 v' (k + 1) (flat us ++ [.int .i64 T, .slice A2 260 C]) := ho';show World.ownsRow _ _ _ _ _ _ _;rw [flat_append]; exact this
        have HB5 := hd_ (HB3.out.trans (grown_below HO3.out HB3.out.size hg'));clear ho' hg' hc0 hc1';go_wp2
        go_roundw
        case rel =>
         have HU : ∀ x ∈ us ++ [(⟨T, .slice A2 260 C, l.take 260⟩ : Tg)], Bs w0 x.val x.l /\ x.l.length <= 260 := by
          intro x hx
          rcases List.mem_append.1 hx with hx | hx
          · exact HUS.out x hx
          · rw [List.mem_singleton.1 hx]; exact ⟨HB2.out, HL2.out⟩
         first | exact ⟨k + 1, _, _, by omega, by omega, by go_num, rfl, HO4.out, HU, HB5.out⟩ | ((repeat apply Exists.intro); exact ⟨⟨k + 1, _, _, by omega, by omega, by go_num, rfl, HO4.out, HU, HB5.out⟩, rfl⟩)
        case measure => simp [intOf]; omega
      · have HB2 := hd_ hbs;have HL2 : Hid (l.length <= 260) := by show _ <= _; omega
        have hal : Gr wr ((wr.alloc (.cells #[.int .i64 T, .slice A L C] 69)).alloc (.cells #[.int .i64 T, .slice A L C] 69)) := ((Gr.refl _).alloc _).alloc _;have HB3 := hd_ (HB.out.trans (Below.mono hal HBN.out));have HO3 := hd_ (ownsRow_below HO.out hal);have HRD : Hid (Rd ((wr.alloc (.cells #[.int .i64 T, .slice A L C] 69)).alloc (.cells #[.int .i64 T, .slice A L C] 69)) 2 (.slice (some ⟨wr.heap.size + 1, 0, none⟩) 1 1) 1 [.int .i64 T, .slice A L C]) := by
         have := rd_new (wr.alloc (.cells #[.int .i64 T, .slice A L C] 69)) [.int .i64 T, .slice A L C] 69 1 2 rfl (by decide);rw [World.size_alloc] at this;exact this
        have h260' : ¬ (260 : Int) < (L : Int) := by omega
        have hkn2 : (k : Int) < (n : Int) := by omega
        unfold maxLen at hCm;clear hv hL hT hc hbs hll hrd hlq hal h260;go_wp2_with (at_builtin; refine wpList_append_gr _ rfl (.tmp 28) (.tmp 30) 26 rfl w.heap.size 69 i0 _ 2 32 Tryz.underlying26 hi hz0 hz1 hz2 rfl (by decide) _ _ _ rfl HO3.out _ 1 _ rfl HRD.out (one_tag T rfl) (by omega) (by decide) HB3.out.size ?_)
        intro v' wo ho' hg';have HO4 : Hid (wo.ownsRow w.heap.size 69 2 v' (k + 1) (flat (us ++ [⟨T, .slice A L C, l⟩]))) := by
         have : wo.ownsRow w.heap.size 69 2 v' (k + 1) (flat us ++ [.int .i64 T, .slice A L C]) := ho';show World.ownsRow _ _ _ _ _ _ _;rw [flat_append]; exact this
        have HB5 := hd_ (HB3.out.trans (grown_below HO3.out HB3.out.size hg'));clear ho' hg' hc0 hc1';go_wp2
        go_roundw
        case rel =>
         have HU : ∀ x ∈ us ++ [(⟨T, .slice A L C, l⟩ : Tg)], Bs w0 x.val x.l /\ x.l.length <= 260 := by
          intro x hx
          rcases List.mem_append.1 hx with hx | hx
          · exact HUS.out x hx
          · rw [List.mem_singleton.1 hx]; exact ⟨HB2.out, HL2.out⟩
         first | exact ⟨k + 1, _, _, by omega, by omega, by go_num, rfl, HO4.out, HU, HB5.out⟩ | ((repeat apply Exists.intro); exact ⟨⟨k + 1, _, _, by omega, by omega, by go_num, rfl, HO4.out, HU, HB5.out⟩, rfl⟩)
        case measure => simp [intOf]; omega
    · obtain rfl : k = 70 := by omega
      obtain ⟨_, a', c', ev, _⟩ := own_rd HO.out;subst ev;go_wp2
      go_ret
      exact ⟨a', 70, c', us, rfl, HO.out, fun x hx => (HUS.out x hx).1, Nat.le_refl _, fun x hx => (HUS.out x hx).2, HB.out⟩
  · obtain rfl : k = n := by omega
    obtain ⟨_, a', c', ev, _⟩ := own_rd HO.out;subst ev;go_wp2
    go_ret
    exact ⟨a', k, c', us, rfl, HO.out, fun x hx => (HUS.out x hx).1, hk70, fun x hx => (HUS.out x hx).2, HB.out⟩
theorem sizeBs : (Tryz.prog.info? 30).map (·.size) = some 1 := by kernel_rfl
theorem results_cells3 {P : Program} {fn : Func} {p q r : Tmp} {t u v : TypeId} (h : fn.results = #[.cell p t, .cell q u, .cell r v]) (tmps : Array Value) (w : World) (gp gq gr : Nat) (T1 T2 T3 : TypeId) (c1 c2 c3 : Array Value) (f1 f2 f3 : Nat × Nat) (d1 d2 d3 : TypeDesc)
 (hp : tmps.getD p undef = .pointer (some ⟨gp, 0, none⟩)) (hq : tmps.getD q undef = .pointer (some ⟨gq, 0, none⟩)) (hr : tmps.getD r undef = .pointer (some ⟨gr, 0, none⟩))
 (g1 : w.heap[gp]? = some (.cells c1 T1 f1)) (g2 : w.heap[gq]? = some (.cells c2 T2 f2)) (g3 : w.heap[gr]? = some (.cells c3 T3 f3))
 (u1 : P.underlying t = some d1) (u2 : P.underlying u = some d2) (u3 : P.underlying v = some d3) (e1 : (match d1 with | .struct _ | .array _ _ => true | _ => false) = true) (e2 : (match d2 with | .struct _ | .array _ _ => true | _ => false) = true) (e3 : (match d3 with | .struct _ | .array _ _ => true | _ => false) = true)
 (i1 : (P.info? t).map (·.size) = some c1.size) (i2 : (P.info? u).map (·.size) = some c2.size) (i3 : (P.info? v).map (·.size) = some c3.size) :
 (results fn tmps).run P w = .ok (.tuple #[.agg c1, .agg c2, .agg c3]) w := by
 have hp' : tmps[p]?.getD undef = .pointer (some ⟨gp, 0, none⟩) := by simpa using hp
 have hq' : tmps[q]?.getD undef = .pointer (some ⟨gq, 0, none⟩) := by simpa using hq
 have hr' : tmps[r]?.getD undef = .pointer (some ⟨gr, 0, none⟩) := by simpa using hr
 have r1 := run_loadVar_row w gp T1 t c1 f1 d1 g1 u1 e1 i1;have r2 := run_loadVar_row w gq T2 u c2 f2 d2 g2 u2 e2 i2;have r3 := run_loadVar_row w gr T3 v c3 f3 d3 g3 u3 e3 i3;simp only [results, h];simp [Sem.run_bind, Result.andThen, hp', hq', hr', asAddr, r1, r2, r3]
theorem flatR_take : ∀ (l : List Ru) (k : Nat), flatR (l.take k) = (flatR l).take (k * 7)
 | [], k => by simp [flatR]
 | q :: l, 0 => by simp [flatR]
 | q :: l, k + 1 => by
  show ruC q ++ flatR (l.take k) = (ruC q ++ flatR l).take ((k + 1) * 7);rw [flatR_take l k, show (k + 1) * 7 = (ruC q).length + k * 7 by show _ = 7 + _; omega, List.take_length_add_append]
theorem heap6 (w : World) (o p q r s t : Obj) : ∃ W, W = ((((((w.alloc o).alloc p).alloc q).alloc r).alloc s).alloc t) /\ Gr w W /\ W.heap[w.heap.size]? = some o /\ W.heap[w.heap.size + 1]? = some p /\ W.heap[w.heap.size + 2]? = some q /\ W.heap[w.heap.size + 3]? = some r /\ W.heap[w.heap.size + 4]? = some s /\ W.heap[w.heap.size + 5]? = some t := by
 refine ⟨_, rfl, ((((((Gr.refl w).alloc _).alloc _).alloc _).alloc _).alloc _).alloc _, ?_⟩;have hb : Gr ((((w.alloc o).alloc p).alloc q).alloc r) ((((((w.alloc o).alloc p).alloc q).alloc r).alloc s).alloc t) := ((Gr.refl _).alloc _).alloc _;obtain ⟨h1, h2, h3, h4⟩ := heap4 w o p q r;refine ⟨heap_below h1 hb, heap_below h2 hb, heap_below h3 hb, heap_below h4 hb, ?_, ?_⟩
 · have := heap2_0' ((((w.alloc o).alloc p).alloc q).alloc r) s t;simpa using this
 · have := heap2_1' ((((w.alloc o).alloc p).alloc q).alloc r) s t;simpa using this
def LightR (w0 w : World) (k1 k2 k3 k4 s i r ct tm nk qc qi : Int) (e : Ending) (w' : World) : Prop :=
 ∃ ra rn rc rs ao n c ts qa qn qk ql, e = .returned (.tuple #[.agg #[.slice ra rn rc, .int .i64 k1, .int .i64 k2, .int .i64 k3, .int .i64 k4], .agg #[.int .i64 s, .int .i64 i, .int .i64 r, .slice ao n c, .int .i64 ct, .int .i64 tm, .int .i64 nk], .agg #[.int .i64 qc, .int .i64 qi, .slice qa qn qk]]) /\ RR w0 (.slice ra rn rc) rn rs /\ (w'.ownsRow w.heap.size 69 2 (.slice ao n c) n (flat ts) /\ ∀ x ∈ ts, Bs w0 x.val x.l) /\ n <= 1000 /\ (∀ x ∈ ts, x.l.length <= 1000) /\ Bs w0 (.slice qa qn qk) ql /\ (ql.length = qn /\ qn <= 1500) /\ Below w.heap.size w w'
set_option maxRecDepth 20000 in
set_option maxHeartbeats 8000000 in
theorem light_any (ra : Option Addr) (rn rc : Nat) (rs : List Ru) (k1 k2 k3 k4 s i r : Int) (ao : Option Addr) (n c : Nat) (ts : List Tg) (ct tm nk qc qi : Int) (qa : Option Addr) (qn qk : Nat) (ql : List UInt8) (w0 w : World) (hrr : RR w0 (.slice ra rn rc) rn rs) (hr : TR w0 (.slice ao n c) n ts) (hq : Bs w0 (.slice qa qn qk) ql) (hqn : ql.length = qn) (hb0 : Below w0.heap.size w0 w) :
 Calls Tryz.prog 10 #[.agg #[.slice ra rn rc, .int .i64 k1, .int .i64 k2, .int .i64 k3, .int .i64 k4], .agg #[.int .i64 s, .int .i64 i, .int .i64 r, .slice ao n c, .int .i64 ct, .int .i64 tm, .int .i64 nk], .agg #[.int .i64 qc, .int .i64 qi, .slice qa qn qk]] w (LightR w0 w k1 k2 k3 k4 s i r ct tm nk qc qi) := by
 obtain ⟨i5, hi5, _, hs5, _⟩ := info_parts info5;obtain ⟨i6, hi6, hs6⟩ : ∃ i6, Tryz.prog.info? 101 = some i6 /\ i6.size = 7 := by
  have h := sizeR;cases hi : Tryz.prog.info? 101 with
  | none => rw [hi] at h; cases h
  | some i6 => rw [hi] at h; exact ⟨i6, rfl, Option.some.inj h⟩
 have hsh := hrr.sh;have hrl := hrr.len;have hqsh : qn <= qk /\ qk <= maxLen := by
  obtain ⟨_, _, es, h1, h2⟩ := hq.shape;simp only [Value.slice.injEq] at es;obtain ⟨_, e2, rfl⟩ := es;exact ⟨by omega, h2⟩
 have HF := hd_ (fun w' (hw : Gr w w') => few_any ao n c ts w0 w' hr (hb0.trans (Below.mono hw hb0.size)));obtain ⟨hr1, hr2⟩ := hsh;obtain ⟨hq1, hq2⟩ := hqsh;unfold maxLen at hr2 hq2;clear hr hb0
 by_cases h20 : 20 < rn
 · obtain ⟨ra2, hsl, hrd⟩ := slice_upto (P := Tryz.prog) Tryz.underlying22 hi6 hs6 hrr .i64 20 20 rfl (by omega);rw [<- flatR_take] at hrd;have HRR : Hid (RR w0 (.slice ra2 20 rc) 20 (rs.take 20)) := hrd;have h20' : (20 : Int) < (rn : Int) := by omega
   clear hrd hrr h20
   by_cases h15 : 1500 < qn
   · obtain ⟨qa2, hsq, hrq⟩ := slice_upto (P := Tryz.prog) Tryz.underlying30 hi5 hs5 (show Rd w0 1 (.slice qa qn qk) qn (ql.map u8v) by have := hq; unfold Bs at this; rwa [hqn] at this) .i64 1500 1500 rfl (by omega);rw [take_u8'] at hrq;have HQQ : Hid (Bs w0 (.slice qa2 1500 qk) (ql.take 1500)) := Bs.of_rd hrq rfl;have HQL : Hid ((ql.take 1500).length = 1500 /\ 1500 <= 1500) := ⟨by rw [List.length_take]; omega, Nat.le_refl _⟩;have h15' : (1500 : Int) < (qn : Int) := by omega
     clear hrq hq hqn h15;obtain ⟨W, hW, hgr, g0, g1, g2, g3, g4, g5⟩ := heap6 w (.cells #[.slice ra2 20 rc, .int .i64 k1, .int .i64 k2, .int .i64 k3, .int .i64 k4] 24) (.cells #[.int .i64 s, .int .i64 i, .int .i64 r, .slice ao n c, .int .i64 ct, .int .i64 tm, .int .i64 nk] 28) (.cells #[.int .i64 qc, .int .i64 qi, .slice qa qn qk] 32) (.cells #[.slice none 0 0, .int .i64 0, .int .i64 0, .int .i64 0, .int .i64 0] 24) (.cells #[.int .i64 0, .int .i64 0, .int .i64 0, .slice none 0 0, .int .i64 0, .int .i64 0, .int .i64 0] 28) (.cells #[.int .i64 0, .int .i64 0, .slice none 0 0] 32);have HGR := hd_ hgr;have HSZW : Hid (w.heap.size <= W.heap.size) := hgr.size;have HW := hd_ hW;have G0 := hd_ g0;have G1 := hd_ g1;have G2 := hd_ g2;have G3 := hd_ g3;have G4 := hd_ g4;have G5 := hd_ g5;obtain ⟨a0, a1, a2, a3, a4, a5, a6⟩ := cells7 g1;clear g0 g1 g2 g3 g4 g5 hW;go_enter Tryz.func10, Tryz.ntmps10
     go_upto_region 3 with fail
     rw [<- HW.out];go_wp2_with fail
     refine (HF.out W hgr).mono ?_;rintro e w1 ⟨a', m, c', us, rfl, htr, hvs, hm70, hlen, hb1⟩;have HVS := hd_ hvs;have HB1 : Hid (Gr w w1) := Gr.trans hgr hb1;have HT1 := hd_ htr;have HUS : Hid (m <= 1000 /\ ∀ x ∈ us, x.l.length <= 1000) := ⟨by omega, fun x hx => by have := hlen x hx; omega⟩;have H0 := hd_ (heap_below G0.out hb1);have H1 := hd_ (heap_below G1.out hb1);have H2 := hd_ (heap_below G2.out hb1);have H3 := hd_ (heap_below G3.out hb1);have H4 := hd_ (heap_below G4.out hb1);have H5 := hd_ (heap_below G5.out hb1);have HLT : Hid (w.heap.size + 5 < w1.heap.size) := (Array.getElem?_eq_some_iff.1 H5.out).1;clear hb1 htr hvs hm70 hlen HF HGR hgr HW G0 G1 G2 G3 G4 G5 a0 a1 a2 a3 a4 a5 a6;go_wp2_with (refine wpList_store_cell rfl 26 (.tmp 20) (.tmp 19) rfl (w.heap.size + 1) 3 (.slice a' m c') rfl rfl 28 _ H1.out sizeOs (by simp) rfl ?_)
     intro w2 y2 o2;have K0 := hd_ (only_heap H0.out o2 (by omega));have K1 : Hid (w2.heap[w.heap.size + 1]? = some (.cells #[.int .i64 s, .int .i64 i, .int .i64 r, .slice a' m c', .int .i64 ct, .int .i64 tm, .int .i64 nk] 28 (0, 0))) := y2;have K2 := hd_ (only_heap H2.out o2 (by omega));have K3 := hd_ (only_heap H3.out o2 (by omega));have K4 := hd_ (only_heap H4.out o2 (by omega));have K5 := hd_ (only_heap H5.out o2 (by omega));have HB2 : Hid (Below w.heap.size w w2) := o2.below _ _ (by omega) HB1.out;have HO2 := hd_ (And.intro o2 H1.out);clear y2 o2 H0 H2 H3 H4 H5;obtain ⟨q0, q1, q2⟩ := cells3 K2.out;go_wp2_with (refine wpList_store_cell rfl 30 (.tmp 28) (.tmp 27) rfl (w.heap.size + 2) 2 (.slice qa2 1500 qk) rfl rfl 32 _ K2.out sizeBs (by simp) rfl ?_)
     intro w3 y3 o3;have J0 := hd_ (only_heap K0.out o3 (by omega));have J1 := hd_ (only_heap K1.out o3 (by omega));have J2 : Hid (w3.heap[w.heap.size + 2]? = some (.cells #[.int .i64 qc, .int .i64 qi, .slice qa2 1500 qk] 32 (0, 0))) := y3;have J3 := hd_ (only_heap K3.out o3 (by omega));have J4 := hd_ (only_heap K4.out o3 (by omega));have J5 := hd_ (only_heap K5.out o3 (by omega));have HB3 : Hid (Below w.heap.size w w3) := o3.below _ _ (by omega) HB2.out;have HO3 := hd_ (And.intro o3 K2.out);clear y3 o3 K0 K1 K2 K3 K4 K5 HB2 q0 q1 q2;go_upto_region 6 with fail
     have HC : Hid (Gr w3 w3.drew) := Gr.drew _;refine wp_region_H 3 Gr (Kp [w.heap.size,w.heap.size+1,w.heap.size+2]) (by kernel_rfl) ?_;generalize w3.drew = wc at HC ⊢;refine wpH_u preGr (preKp _) 0 (some 29) ?_ (hy := fun w' hw' => by
      try (have hq2 := cells5 (heap_below J0.out (Gr.trans HC.out hw')); obtain ⟨x0, x1, x2, x3, x4⟩ := hq2)
      go_simp;with_reducible rfl)
     refine wpH_uH preGr (preKp _) 1 (some 30) ?_ (hy := fun w' hw' => by
      have hq3 := cells7 ((hw'.2 (w.heap.size + 1) (by simp)).trans (heap_below J1.out HC.out));have hq4 := cells3 ((hw'.2 (w.heap.size + 2) (by simp)).trans (heap_below J2.out HC.out));obtain ⟨y0, y1, y2, y3, y4, y5, y6⟩ := hq3;obtain ⟨z0, z1, z2⟩ := hq4;go_simp;with_reducible rfl)
     refine wpH_uH preGr (preKp _) 2 (some 31) ?_ (hy := fun w' hw' => by
      have hq3 := cells7 ((hw'.2 (w.heap.size + 1) (by simp)).trans (heap_below J1.out HC.out));have hq4 := cells3 ((hw'.2 (w.heap.size + 2) (by simp)).trans (heap_below J2.out HC.out));obtain ⟨y0, y1, y2, y3, y4, y5, y6⟩ := hq3;obtain ⟨z0, z1, z2⟩ := hq4;go_simp;with_reducible rfl)
     refine wpH_tail (i := 3) (by decide) rfl (by kernel_rfl) (by rfl) ?_;refine wp_store_whole (none) 24 (.tmp 6) (.tmp 29) rfl (w.heap.size + 3) [.slice ra2 20 rc, .int .i64 k1, .int .i64 k2, .int .i64 k3, .int .i64 k4] rfl rfl 24 _ (heap_below J3.out HC.out) sizeConf rfl (fun v hv => by simp only [List.mem_cons, List.not_mem_nil, or_false] at hv; rcases hv with rfl | rfl | rfl | rfl | rfl <;> rfl) rfl ?_;intro w4 e4 o4;refine ⟨⟨o4.size, fun b hb => ?_⟩, ?_⟩
     · simp only [List.mem_cons, List.not_mem_nil, or_false] at hb
       rcases hb with rfl | rfl | rfl
       · exact o4.heap _ (Array.getElem?_eq_some_iff.1 (heap_below J0.out HC.out)).1 (by omega)
       · exact o4.heap _ (Array.getElem?_eq_some_iff.1 (heap_below J1.out HC.out)).1 (by omega)
       · exact o4.heap _ (Array.getElem?_eq_some_iff.1 (heap_below J2.out HC.out)).1 (by omega)
     have R3 := hd_ e4;have O4 := hd_ o4;have R4 := hd_ (only_heap (heap_below J4.out HC.out) o4 (by omega));have R5 := hd_ (only_heap (heap_below J5.out HC.out) o4 (by omega));have R1 := hd_ (only_heap (heap_below J1.out HC.out) o4 (by omega));have R2 := hd_ (only_heap (heap_below J2.out HC.out) o4 (by omega));have R0 := hd_ (only_heap (heap_below J0.out HC.out) o4 (by omega));clear e4 o4;try simp only [Act.put, aq1, aq2, aq3]
     refine wpH_tail (i := 4) (by decide) rfl (by kernel_rfl) (by rfl) ?_;refine wp_store_whole (none) 28 (.tmp 7) (.tmp 30) rfl (w.heap.size + 4) [.int .i64 s, .int .i64 i, .int .i64 r, .slice a' m c', .int .i64 ct, .int .i64 tm, .int .i64 nk] rfl rfl 28 _ R4.out sizeAuto rfl (autoC_one (a := ⟨s, i, r, [], ct, tm, nk⟩) rfl) rfl ?_;intro w5 e5 o5;refine ⟨⟨o5.size, fun b hb => ?_⟩, ?_⟩
     · simp only [List.mem_cons, List.not_mem_nil, or_false] at hb
       rcases hb with rfl | rfl | rfl
       · exact o5.heap _ (Array.getElem?_eq_some_iff.1 R0.out).1 (by omega)
       · exact o5.heap _ (Array.getElem?_eq_some_iff.1 R1.out).1 (by omega)
       · exact o5.heap _ (Array.getElem?_eq_some_iff.1 R2.out).1 (by omega)
     have S4 := hd_ e5;have S3 := hd_ (only_heap R3.out o5 (by omega));have S5 := hd_ (only_heap R5.out o5 (by omega));have S0 := hd_ (only_heap R0.out o5 (by omega));have S1 := hd_ (only_heap R1.out o5 (by omega));have S2 := hd_ (only_heap R2.out o5 (by omega));have O5 := hd_ (And.intro o5 R4.out);clear e5 o5;try simp only [Act.put, aq1, aq2, aq3]
     refine wpH_tail (i := 5) (by decide) rfl (by kernel_rfl) (by rfl) ?_;refine wp_store_whole (none) 32 (.tmp 8) (.tmp 31) rfl (w.heap.size + 5) [.int .i64 qc, .int .i64 qi, .slice qa2 1500 qk] rfl rfl 32 _ S5.out sizeC rfl (one_ctl _ _ rfl) rfl ?_;intro w6 e6 o6;refine ⟨⟨o6.size, fun b hb => ?_⟩, ?_⟩
     · simp only [List.mem_cons, List.not_mem_nil, or_false] at hb
       rcases hb with rfl | rfl | rfl
       · exact o6.heap _ (Array.getElem?_eq_some_iff.1 S0.out).1 (by omega)
       · exact o6.heap _ (Array.getElem?_eq_some_iff.1 S1.out).1 (by omega)
       · exact o6.heap _ (Array.getElem?_eq_some_iff.1 S2.out).1 (by omega)
     have T5 := hd_ e6;have T3 := hd_ (only_heap S3.out o6 (by omega));have T4 := hd_ (only_heap S4.out o6 (by omega));have O6 := hd_ o6;clear e6 o6;try simp only [Act.put, aq1, aq2, aq3]
     refine wpH_done (by kernel_rfl) ?_ _;go_wp2
     have hb6 : Below w.heap.size w w6 := O6.out.below _ _ (by omega) (O5.out.1.below _ _ (by omega) (O4.out.below _ _ (by omega) (HB3.out.trans (Below.mono HC.out HB3.out.size))));refine bodyPost_ret (v := .tuple #[.agg #[.slice ra2 20 rc, .int .i64 k1, .int .i64 k2, .int .i64 k3, .int .i64 k4], .agg #[.int .i64 s, .int .i64 i, .int .i64 r, .slice a' m c', .int .i64 ct, .int .i64 tm, .int .i64 nk], .agg #[.int .i64 qc, .int .i64 qi, .slice qa2 1500 qk]])
      (results_cells3 (P := Tryz.prog) (fn := Tryz.f10) rfl _ _ (w.heap.size + 3) (w.heap.size + 4) (w.heap.size + 5) 24 28 32 _ _ _ (0, 0) (0, 0) (0, 0) _ _ _ rfl rfl rfl T3.out T4.out T5.out Tryz.underlying24 Tryz.underlying28 Tryz.underlying32 rfl rfl rfl sizeConf sizeAuto sizeC) rfl ?_
     refine ⟨ra2, 20, rc, (rs.take 20), a', m, c', us, qa2, 1500, qk, (ql.take 1500), rfl, HRR.out, ?_, HUS.out.1, HUS.out.2, HQQ.out, HQL.out, hb6⟩;have t2 := own_off HT1.out HO2.out.2 (show 69 ≠ 28 by decide) HO2.out.1;have t3 := own_off t2 HO3.out.2 (show 69 ≠ 32 by decide) HO3.out.1;have t4 := ownsRow_below t3 HC.out;have t5 := own_off t4 (heap_below J3.out HC.out) (show 69 ≠ 24 by decide) O4.out;have t6 := own_off t5 O5.out.2 (show 69 ≠ 28 by decide) O5.out.1;have t7 := own_off t6 S5.out (show 69 ≠ 32 by decide) O6.out;exact ⟨ownsRow_mono t7 HSZW.out, HVS.out⟩
   · have HQQ := hd_ hq;have HQL : Hid (ql.length = qn /\ qn <= 1500) := ⟨hqn, by omega⟩;have h15' : ¬ (1500 : Int) < (qn : Int) := by omega
     clear hq hqn h15;obtain ⟨W, hW, hgr, g0, g1, g2, g3, g4, g5⟩ := heap6 w (.cells #[.slice ra2 20 rc, .int .i64 k1, .int .i64 k2, .int .i64 k3, .int .i64 k4] 24) (.cells #[.int .i64 s, .int .i64 i, .int .i64 r, .slice ao n c, .int .i64 ct, .int .i64 tm, .int .i64 nk] 28) (.cells #[.int .i64 qc, .int .i64 qi, .slice qa qn qk] 32) (.cells #[.slice none 0 0, .int .i64 0, .int .i64 0, .int .i64 0, .int .i64 0] 24) (.cells #[.int .i64 0, .int .i64 0, .int .i64 0, .slice none 0 0, .int .i64 0, .int .i64 0, .int .i64 0] 28) (.cells #[.int .i64 0, .int .i64 0, .slice none 0 0] 32);have HGR := hd_ hgr;have HSZW : Hid (w.heap.size <= W.heap.size) := hgr.size;have HW := hd_ hW;have G0 := hd_ g0;have G1 := hd_ g1;have G2 := hd_ g2;have G3 := hd_ g3;have G4 := hd_ g4;have G5 := hd_ g5;obtain ⟨a0, a1, a2, a3, a4, a5, a6⟩ := cells7 g1;clear g0 g1 g2 g3 g4 g5 hW;go_enter Tryz.func10, Tryz.ntmps10
     go_upto_region 3 with fail
     rw [<- HW.out];go_wp2_with fail
     refine (HF.out W hgr).mono ?_;rintro e w1 ⟨a', m, c', us, rfl, htr, hvs, hm70, hlen, hb1⟩;have HVS := hd_ hvs;have HB1 : Hid (Gr w w1) := Gr.trans hgr hb1;have HT1 := hd_ htr;have HUS : Hid (m <= 1000 /\ ∀ x ∈ us, x.l.length <= 1000) := ⟨by omega, fun x hx => by have := hlen x hx; omega⟩;have H0 := hd_ (heap_below G0.out hb1);have H1 := hd_ (heap_below G1.out hb1);have H2 := hd_ (heap_below G2.out hb1);have H3 := hd_ (heap_below G3.out hb1);have H4 := hd_ (heap_below G4.out hb1);have H5 := hd_ (heap_below G5.out hb1);have HLT : Hid (w.heap.size + 5 < w1.heap.size) := (Array.getElem?_eq_some_iff.1 H5.out).1;clear hb1 htr hvs hm70 hlen HF HGR hgr HW G0 G1 G2 G3 G4 G5 a0 a1 a2 a3 a4 a5 a6;go_wp2_with (refine wpList_store_cell rfl 26 (.tmp 20) (.tmp 19) rfl (w.heap.size + 1) 3 (.slice a' m c') rfl rfl 28 _ H1.out sizeOs (by simp) rfl ?_)
     intro w2 y2 o2;have K0 := hd_ (only_heap H0.out o2 (by omega));have K1 : Hid (w2.heap[w.heap.size + 1]? = some (.cells #[.int .i64 s, .int .i64 i, .int .i64 r, .slice a' m c', .int .i64 ct, .int .i64 tm, .int .i64 nk] 28 (0, 0))) := y2;have K2 := hd_ (only_heap H2.out o2 (by omega));have K3 := hd_ (only_heap H3.out o2 (by omega));have K4 := hd_ (only_heap H4.out o2 (by omega));have K5 := hd_ (only_heap H5.out o2 (by omega));have HB2 : Hid (Below w.heap.size w w2) := o2.below _ _ (by omega) HB1.out;have HO2 := hd_ (And.intro o2 H1.out);clear y2 o2 H0 H2 H3 H4 H5;obtain ⟨q0, q1, q2⟩ := cells3 K2.out;go_upto_region 6 with fail
     obtain ⟨w3, hw3⟩ : ∃ x, x = w2 := ⟨_, rfl⟩;have o3 : Only (w.heap.size + 2) w2 w3 := by rw [hw3]; exact Only.refl _ _
     have HO3 := hd_ (And.intro o3 K2.out);rw [<- hw3] at K0 K1 K2 K3 K4 K5 HB2 ⊢;have J0 := K0;have J1 := K1;have J2 := K2;have J3 := K3;have J4 := K4;have J5 := K5;have HB3 := HB2;clear hw3 o3 K0 K1 K2 K3 K4 K5 HB2 q0 q1 q2;have HC : Hid (Gr w3 w3.drew) := Gr.drew _;refine wp_region_H 3 Gr (Kp [w.heap.size,w.heap.size+1,w.heap.size+2]) (by kernel_rfl) ?_;generalize w3.drew = wc at HC ⊢;refine wpH_u preGr (preKp _) 0 (some 29) ?_ (hy := fun w' hw' => by
      try (have hq2 := cells5 (heap_below J0.out (Gr.trans HC.out hw')); obtain ⟨x0, x1, x2, x3, x4⟩ := hq2)
      go_simp;with_reducible rfl)
     refine wpH_uH preGr (preKp _) 1 (some 30) ?_ (hy := fun w' hw' => by
      have hq3 := cells7 ((hw'.2 (w.heap.size + 1) (by simp)).trans (heap_below J1.out HC.out));have hq4 := cells3 ((hw'.2 (w.heap.size + 2) (by simp)).trans (heap_below J2.out HC.out));obtain ⟨y0, y1, y2, y3, y4, y5, y6⟩ := hq3;obtain ⟨z0, z1, z2⟩ := hq4;go_simp;with_reducible rfl)
     refine wpH_uH preGr (preKp _) 2 (some 31) ?_ (hy := fun w' hw' => by
      have hq3 := cells7 ((hw'.2 (w.heap.size + 1) (by simp)).trans (heap_below J1.out HC.out));have hq4 := cells3 ((hw'.2 (w.heap.size + 2) (by simp)).trans (heap_below J2.out HC.out));obtain ⟨y0, y1, y2, y3, y4, y5, y6⟩ := hq3;obtain ⟨z0, z1, z2⟩ := hq4;go_simp;with_reducible rfl)
     refine wpH_tail (i := 3) (by decide) rfl (by kernel_rfl) (by rfl) ?_;refine wp_store_whole (none) 24 (.tmp 6) (.tmp 29) rfl (w.heap.size + 3) [.slice ra2 20 rc, .int .i64 k1, .int .i64 k2, .int .i64 k3, .int .i64 k4] rfl rfl 24 _ (heap_below J3.out HC.out) sizeConf rfl (fun v hv => by simp only [List.mem_cons, List.not_mem_nil, or_false] at hv; rcases hv with rfl | rfl | rfl | rfl | rfl <;> rfl) rfl ?_;intro w4 e4 o4;refine ⟨⟨o4.size, fun b hb => ?_⟩, ?_⟩
     · simp only [List.mem_cons, List.not_mem_nil, or_false] at hb
       rcases hb with rfl | rfl | rfl
       · exact o4.heap _ (Array.getElem?_eq_some_iff.1 (heap_below J0.out HC.out)).1 (by omega)
       · exact o4.heap _ (Array.getElem?_eq_some_iff.1 (heap_below J1.out HC.out)).1 (by omega)
       · exact o4.heap _ (Array.getElem?_eq_some_iff.1 (heap_below J2.out HC.out)).1 (by omega)
     have R3 := hd_ e4;have O4 := hd_ o4;have R4 := hd_ (only_heap (heap_below J4.out HC.out) o4 (by omega));have R5 := hd_ (only_heap (heap_below J5.out HC.out) o4 (by omega));have R1 := hd_ (only_heap (heap_below J1.out HC.out) o4 (by omega));have R2 := hd_ (only_heap (heap_below J2.out HC.out) o4 (by omega));have R0 := hd_ (only_heap (heap_below J0.out HC.out) o4 (by omega));clear e4 o4;try simp only [Act.put, aq1, aq2, aq3]
     refine wpH_tail (i := 4) (by decide) rfl (by kernel_rfl) (by rfl) ?_;refine wp_store_whole (none) 28 (.tmp 7) (.tmp 30) rfl (w.heap.size + 4) [.int .i64 s, .int .i64 i, .int .i64 r, .slice a' m c', .int .i64 ct, .int .i64 tm, .int .i64 nk] rfl rfl 28 _ R4.out sizeAuto rfl (autoC_one (a := ⟨s, i, r, [], ct, tm, nk⟩) rfl) rfl ?_;intro w5 e5 o5;refine ⟨⟨o5.size, fun b hb => ?_⟩, ?_⟩
     · simp only [List.mem_cons, List.not_mem_nil, or_false] at hb
       rcases hb with rfl | rfl | rfl
       · exact o5.heap _ (Array.getElem?_eq_some_iff.1 R0.out).1 (by omega)
       · exact o5.heap _ (Array.getElem?_eq_some_iff.1 R1.out).1 (by omega)
       · exact o5.heap _ (Array.getElem?_eq_some_iff.1 R2.out).1 (by omega)
     have S4 := hd_ e5;have S3 := hd_ (only_heap R3.out o5 (by omega));have S5 := hd_ (only_heap R5.out o5 (by omega));have S0 := hd_ (only_heap R0.out o5 (by omega));have S1 := hd_ (only_heap R1.out o5 (by omega));have S2 := hd_ (only_heap R2.out o5 (by omega));have O5 := hd_ (And.intro o5 R4.out);clear e5 o5;try simp only [Act.put, aq1, aq2, aq3]
     refine wpH_tail (i := 5) (by decide) rfl (by kernel_rfl) (by rfl) ?_;refine wp_store_whole (none) 32 (.tmp 8) (.tmp 31) rfl (w.heap.size + 5) [.int .i64 qc, .int .i64 qi, .slice qa qn qk] rfl rfl 32 _ S5.out sizeC rfl (one_ctl _ _ rfl) rfl ?_;intro w6 e6 o6;refine ⟨⟨o6.size, fun b hb => ?_⟩, ?_⟩
     · simp only [List.mem_cons, List.not_mem_nil, or_false] at hb
       rcases hb with rfl | rfl | rfl
       · exact o6.heap _ (Array.getElem?_eq_some_iff.1 S0.out).1 (by omega)
       · exact o6.heap _ (Array.getElem?_eq_some_iff.1 S1.out).1 (by omega)
       · exact o6.heap _ (Array.getElem?_eq_some_iff.1 S2.out).1 (by omega)
     have T5 := hd_ e6;have T3 := hd_ (only_heap S3.out o6 (by omega));have T4 := hd_ (only_heap S4.out o6 (by omega));have O6 := hd_ o6;clear e6 o6;try simp only [Act.put, aq1, aq2, aq3]
     refine wpH_done (by kernel_rfl) ?_ _;go_wp2
     have hb6 : Below w.heap.size w w6 := O6.out.below _ _ (by omega) (O5.out.1.below _ _ (by omega) (O4.out.below _ _ (by omega) (HB3.out.trans (Below.mono HC.out HB3.out.size))));refine bodyPost_ret (v := .tuple #[.agg #[.slice ra2 20 rc, .int .i64 k1, .int .i64 k2, .int .i64 k3, .int .i64 k4], .agg #[.int .i64 s, .int .i64 i, .int .i64 r, .slice a' m c', .int .i64 ct, .int .i64 tm, .int .i64 nk], .agg #[.int .i64 qc, .int .i64 qi, .slice qa qn qk]])
      (results_cells3 (P := Tryz.prog) (fn := Tryz.f10) rfl _ _ (w.heap.size + 3) (w.heap.size + 4) (w.heap.size + 5) 24 28 32 _ _ _ (0, 0) (0, 0) (0, 0) _ _ _ rfl rfl rfl T3.out T4.out T5.out Tryz.underlying24 Tryz.underlying28 Tryz.underlying32 rfl rfl rfl sizeConf sizeAuto sizeC) rfl ?_
     refine ⟨ra2, 20, rc, (rs.take 20), a', m, c', us, qa, qn, qk, ql, rfl, HRR.out, ?_, HUS.out.1, HUS.out.2, HQQ.out, HQL.out, hb6⟩;have t2 := own_off HT1.out HO2.out.2 (show 69 ≠ 28 by decide) HO2.out.1;have t3 := own_off t2 HO3.out.2 (show 69 ≠ 32 by decide) HO3.out.1;have t4 := ownsRow_below t3 HC.out;have t5 := own_off t4 (heap_below J3.out HC.out) (show 69 ≠ 24 by decide) O4.out;have t6 := own_off t5 O5.out.2 (show 69 ≠ 28 by decide) O5.out.1;have t7 := own_off t6 S5.out (show 69 ≠ 32 by decide) O6.out;exact ⟨ownsRow_mono t7 HSZW.out, HVS.out⟩
 · have HRR := hd_ hrr;have h20' : ¬ (20 : Int) < (rn : Int) := by omega
   clear hrr h20
   by_cases h15 : 1500 < qn
   · obtain ⟨qa2, hsq, hrq⟩ := slice_upto (P := Tryz.prog) Tryz.underlying30 hi5 hs5 (show Rd w0 1 (.slice qa qn qk) qn (ql.map u8v) by have := hq; unfold Bs at this; rwa [hqn] at this) .i64 1500 1500 rfl (by omega);rw [take_u8'] at hrq;have HQQ : Hid (Bs w0 (.slice qa2 1500 qk) (ql.take 1500)) := Bs.of_rd hrq rfl;have HQL : Hid ((ql.take 1500).length = 1500 /\ 1500 <= 1500) := ⟨by rw [List.length_take]; omega, Nat.le_refl _⟩;have h15' : (1500 : Int) < (qn : Int) := by omega
     clear hrq hq hqn h15;obtain ⟨W, hW, hgr, g0, g1, g2, g3, g4, g5⟩ := heap6 w (.cells #[.slice ra rn rc, .int .i64 k1, .int .i64 k2, .int .i64 k3, .int .i64 k4] 24) (.cells #[.int .i64 s, .int .i64 i, .int .i64 r, .slice ao n c, .int .i64 ct, .int .i64 tm, .int .i64 nk] 28) (.cells #[.int .i64 qc, .int .i64 qi, .slice qa qn qk] 32) (.cells #[.slice none 0 0, .int .i64 0, .int .i64 0, .int .i64 0, .int .i64 0] 24) (.cells #[.int .i64 0, .int .i64 0, .int .i64 0, .slice none 0 0, .int .i64 0, .int .i64 0, .int .i64 0] 28) (.cells #[.int .i64 0, .int .i64 0, .slice none 0 0] 32);have HGR := hd_ hgr;have HSZW : Hid (w.heap.size <= W.heap.size) := hgr.size;have HW := hd_ hW;have G0 := hd_ g0;have G1 := hd_ g1;have G2 := hd_ g2;have G3 := hd_ g3;have G4 := hd_ g4;have G5 := hd_ g5;obtain ⟨a0, a1, a2, a3, a4, a5, a6⟩ := cells7 g1;clear g0 g1 g2 g3 g4 g5 hW;go_enter Tryz.func10, Tryz.ntmps10
     go_upto_region 3 with fail
     rw [<- HW.out];go_wp2_with fail
     refine (HF.out W hgr).mono ?_;rintro e w1 ⟨a', m, c', us, rfl, htr, hvs, hm70, hlen, hb1⟩;have HVS := hd_ hvs;have HB1 : Hid (Gr w w1) := Gr.trans hgr hb1;have HT1 := hd_ htr;have HUS : Hid (m <= 1000 /\ ∀ x ∈ us, x.l.length <= 1000) := ⟨by omega, fun x hx => by have := hlen x hx; omega⟩;have H0 := hd_ (heap_below G0.out hb1);have H1 := hd_ (heap_below G1.out hb1);have H2 := hd_ (heap_below G2.out hb1);have H3 := hd_ (heap_below G3.out hb1);have H4 := hd_ (heap_below G4.out hb1);have H5 := hd_ (heap_below G5.out hb1);have HLT : Hid (w.heap.size + 5 < w1.heap.size) := (Array.getElem?_eq_some_iff.1 H5.out).1;clear hb1 htr hvs hm70 hlen HF HGR hgr HW G0 G1 G2 G3 G4 G5 a0 a1 a2 a3 a4 a5 a6;go_wp2_with (refine wpList_store_cell rfl 26 (.tmp 20) (.tmp 19) rfl (w.heap.size + 1) 3 (.slice a' m c') rfl rfl 28 _ H1.out sizeOs (by simp) rfl ?_)
     intro w2 y2 o2;have K0 := hd_ (only_heap H0.out o2 (by omega));have K1 : Hid (w2.heap[w.heap.size + 1]? = some (.cells #[.int .i64 s, .int .i64 i, .int .i64 r, .slice a' m c', .int .i64 ct, .int .i64 tm, .int .i64 nk] 28 (0, 0))) := y2;have K2 := hd_ (only_heap H2.out o2 (by omega));have K3 := hd_ (only_heap H3.out o2 (by omega));have K4 := hd_ (only_heap H4.out o2 (by omega));have K5 := hd_ (only_heap H5.out o2 (by omega));have HB2 : Hid (Below w.heap.size w w2) := o2.below _ _ (by omega) HB1.out;have HO2 := hd_ (And.intro o2 H1.out);clear y2 o2 H0 H2 H3 H4 H5;obtain ⟨q0, q1, q2⟩ := cells3 K2.out;go_wp2_with (refine wpList_store_cell rfl 30 (.tmp 28) (.tmp 27) rfl (w.heap.size + 2) 2 (.slice qa2 1500 qk) rfl rfl 32 _ K2.out sizeBs (by simp) rfl ?_)
     intro w3 y3 o3;have J0 := hd_ (only_heap K0.out o3 (by omega));have J1 := hd_ (only_heap K1.out o3 (by omega));have J2 : Hid (w3.heap[w.heap.size + 2]? = some (.cells #[.int .i64 qc, .int .i64 qi, .slice qa2 1500 qk] 32 (0, 0))) := y3;have J3 := hd_ (only_heap K3.out o3 (by omega));have J4 := hd_ (only_heap K4.out o3 (by omega));have J5 := hd_ (only_heap K5.out o3 (by omega));have HB3 : Hid (Below w.heap.size w w3) := o3.below _ _ (by omega) HB2.out;have HO3 := hd_ (And.intro o3 K2.out);clear y3 o3 K0 K1 K2 K3 K4 K5 HB2 q0 q1 q2;go_upto_region 6 with fail
     have HC : Hid (Gr w3 w3.drew) := Gr.drew _;refine wp_region_H 3 Gr (Kp [w.heap.size,w.heap.size+1,w.heap.size+2]) (by kernel_rfl) ?_;generalize w3.drew = wc at HC ⊢;refine wpH_u preGr (preKp _) 0 (some 29) ?_ (hy := fun w' hw' => by
      try (have hq2 := cells5 (heap_below J0.out (Gr.trans HC.out hw')); obtain ⟨x0, x1, x2, x3, x4⟩ := hq2)
      go_simp;with_reducible rfl)
     refine wpH_uH preGr (preKp _) 1 (some 30) ?_ (hy := fun w' hw' => by
      have hq3 := cells7 ((hw'.2 (w.heap.size + 1) (by simp)).trans (heap_below J1.out HC.out));have hq4 := cells3 ((hw'.2 (w.heap.size + 2) (by simp)).trans (heap_below J2.out HC.out));obtain ⟨y0, y1, y2, y3, y4, y5, y6⟩ := hq3;obtain ⟨z0, z1, z2⟩ := hq4;go_simp;with_reducible rfl)
     refine wpH_uH preGr (preKp _) 2 (some 31) ?_ (hy := fun w' hw' => by
      have hq3 := cells7 ((hw'.2 (w.heap.size + 1) (by simp)).trans (heap_below J1.out HC.out));have hq4 := cells3 ((hw'.2 (w.heap.size + 2) (by simp)).trans (heap_below J2.out HC.out));obtain ⟨y0, y1, y2, y3, y4, y5, y6⟩ := hq3;obtain ⟨z0, z1, z2⟩ := hq4;go_simp;with_reducible rfl)
     refine wpH_tail (i := 3) (by decide) rfl (by kernel_rfl) (by rfl) ?_;refine wp_store_whole (none) 24 (.tmp 6) (.tmp 29) rfl (w.heap.size + 3) [.slice ra rn rc, .int .i64 k1, .int .i64 k2, .int .i64 k3, .int .i64 k4] rfl rfl 24 _ (heap_below J3.out HC.out) sizeConf rfl (fun v hv => by simp only [List.mem_cons, List.not_mem_nil, or_false] at hv; rcases hv with rfl | rfl | rfl | rfl | rfl <;> rfl) rfl ?_;intro w4 e4 o4;refine ⟨⟨o4.size, fun b hb => ?_⟩, ?_⟩
     · simp only [List.mem_cons, List.not_mem_nil, or_false] at hb
       rcases hb with rfl | rfl | rfl
       · exact o4.heap _ (Array.getElem?_eq_some_iff.1 (heap_below J0.out HC.out)).1 (by omega)
       · exact o4.heap _ (Array.getElem?_eq_some_iff.1 (heap_below J1.out HC.out)).1 (by omega)
       · exact o4.heap _ (Array.getElem?_eq_some_iff.1 (heap_below J2.out HC.out)).1 (by omega)
     have R3 := hd_ e4;have O4 := hd_ o4;have R4 := hd_ (only_heap (heap_below J4.out HC.out) o4 (by omega));have R5 := hd_ (only_heap (heap_below J5.out HC.out) o4 (by omega));have R1 := hd_ (only_heap (heap_below J1.out HC.out) o4 (by omega));have R2 := hd_ (only_heap (heap_below J2.out HC.out) o4 (by omega));have R0 := hd_ (only_heap (heap_below J0.out HC.out) o4 (by omega));clear e4 o4;try simp only [Act.put, aq1, aq2, aq3]
     refine wpH_tail (i := 4) (by decide) rfl (by kernel_rfl) (by rfl) ?_;refine wp_store_whole (none) 28 (.tmp 7) (.tmp 30) rfl (w.heap.size + 4) [.int .i64 s, .int .i64 i, .int .i64 r, .slice a' m c', .int .i64 ct, .int .i64 tm, .int .i64 nk] rfl rfl 28 _ R4.out sizeAuto rfl (autoC_one (a := ⟨s, i, r, [], ct, tm, nk⟩) rfl) rfl ?_;intro w5 e5 o5;refine ⟨⟨o5.size, fun b hb => ?_⟩, ?_⟩
     · simp only [List.mem_cons, List.not_mem_nil, or_false] at hb
       rcases hb with rfl | rfl | rfl
       · exact o5.heap _ (Array.getElem?_eq_some_iff.1 R0.out).1 (by omega)
       · exact o5.heap _ (Array.getElem?_eq_some_iff.1 R1.out).1 (by omega)
       · exact o5.heap _ (Array.getElem?_eq_some_iff.1 R2.out).1 (by omega)
     have S4 := hd_ e5;have S3 := hd_ (only_heap R3.out o5 (by omega));have S5 := hd_ (only_heap R5.out o5 (by omega));have S0 := hd_ (only_heap R0.out o5 (by omega));have S1 := hd_ (only_heap R1.out o5 (by omega));have S2 := hd_ (only_heap R2.out o5 (by omega));have O5 := hd_ (And.intro o5 R4.out);clear e5 o5;try simp only [Act.put, aq1, aq2, aq3]
     refine wpH_tail (i := 5) (by decide) rfl (by kernel_rfl) (by rfl) ?_;refine wp_store_whole (none) 32 (.tmp 8) (.tmp 31) rfl (w.heap.size + 5) [.int .i64 qc, .int .i64 qi, .slice qa2 1500 qk] rfl rfl 32 _ S5.out sizeC rfl (one_ctl _ _ rfl) rfl ?_;intro w6 e6 o6;refine ⟨⟨o6.size, fun b hb => ?_⟩, ?_⟩
     · simp only [List.mem_cons, List.not_mem_nil, or_false] at hb
       rcases hb with rfl | rfl | rfl
       · exact o6.heap _ (Array.getElem?_eq_some_iff.1 S0.out).1 (by omega)
       · exact o6.heap _ (Array.getElem?_eq_some_iff.1 S1.out).1 (by omega)
       · exact o6.heap _ (Array.getElem?_eq_some_iff.1 S2.out).1 (by omega)
     have T5 := hd_ e6;have T3 := hd_ (only_heap S3.out o6 (by omega));have T4 := hd_ (only_heap S4.out o6 (by omega));have O6 := hd_ o6;clear e6 o6;try simp only [Act.put, aq1, aq2, aq3]
     refine wpH_done (by kernel_rfl) ?_ _;go_wp2
     have hb6 : Below w.heap.size w w6 := O6.out.below _ _ (by omega) (O5.out.1.below _ _ (by omega) (O4.out.below _ _ (by omega) (HB3.out.trans (Below.mono HC.out HB3.out.size))));refine bodyPost_ret (v := .tuple #[.agg #[.slice ra rn rc, .int .i64 k1, .int .i64 k2, .int .i64 k3, .int .i64 k4], .agg #[.int .i64 s, .int .i64 i, .int .i64 r, .slice a' m c', .int .i64 ct, .int .i64 tm, .int .i64 nk], .agg #[.int .i64 qc, .int .i64 qi, .slice qa2 1500 qk]])
      (results_cells3 (P := Tryz.prog) (fn := Tryz.f10) rfl _ _ (w.heap.size + 3) (w.heap.size + 4) (w.heap.size + 5) 24 28 32 _ _ _ (0, 0) (0, 0) (0, 0) _ _ _ rfl rfl rfl T3.out T4.out T5.out Tryz.underlying24 Tryz.underlying28 Tryz.underlying32 rfl rfl rfl sizeConf sizeAuto sizeC) rfl ?_
     refine ⟨ra, rn, rc, rs, a', m, c', us, qa2, 1500, qk, (ql.take 1500), rfl, HRR.out, ?_, HUS.out.1, HUS.out.2, HQQ.out, HQL.out, hb6⟩;have t2 := own_off HT1.out HO2.out.2 (show 69 ≠ 28 by decide) HO2.out.1;have t3 := own_off t2 HO3.out.2 (show 69 ≠ 32 by decide) HO3.out.1;have t4 := ownsRow_below t3 HC.out;have t5 := own_off t4 (heap_below J3.out HC.out) (show 69 ≠ 24 by decide) O4.out;have t6 := own_off t5 O5.out.2 (show 69 ≠ 28 by decide) O5.out.1;have t7 := own_off t6 S5.out (show 69 ≠ 32 by decide) O6.out;exact ⟨ownsRow_mono t7 HSZW.out, HVS.out⟩
   · have HQQ := hd_ hq;have HQL : Hid (ql.length = qn /\ qn <= 1500) := ⟨hqn, by omega⟩;have h15' : ¬ (1500 : Int) < (qn : Int) := by omega
     clear hq hqn h15;obtain ⟨W, hW, hgr, g0, g1, g2, g3, g4, g5⟩ := heap6 w (.cells #[.slice ra rn rc, .int .i64 k1, .int .i64 k2, .int .i64 k3, .int .i64 k4] 24) (.cells #[.int .i64 s, .int .i64 i, .int .i64 r, .slice ao n c, .int .i64 ct, .int .i64 tm, .int .i64 nk] 28) (.cells #[.int .i64 qc, .int .i64 qi, .slice qa qn qk] 32) (.cells #[.slice none 0 0, .int .i64 0, .int .i64 0, .int .i64 0, .int .i64 0] 24) (.cells #[.int .i64 0, .int .i64 0, .int .i64 0, .slice none 0 0, .int .i64 0, .int .i64 0, .int .i64 0] 28) (.cells #[.int .i64 0, .int .i64 0, .slice none 0 0] 32);have HGR := hd_ hgr;have HSZW : Hid (w.heap.size <= W.heap.size) := hgr.size;have HW := hd_ hW;have G0 := hd_ g0;have G1 := hd_ g1;have G2 := hd_ g2;have G3 := hd_ g3;have G4 := hd_ g4;have G5 := hd_ g5;obtain ⟨a0, a1, a2, a3, a4, a5, a6⟩ := cells7 g1;clear g0 g1 g2 g3 g4 g5 hW;go_enter Tryz.func10, Tryz.ntmps10
     go_upto_region 3 with fail
     rw [<- HW.out];go_wp2_with fail
     refine (HF.out W hgr).mono ?_;rintro e w1 ⟨a', m, c', us, rfl, htr, hvs, hm70, hlen, hb1⟩;have HVS := hd_ hvs;have HB1 : Hid (Gr w w1) := Gr.trans hgr hb1;have HT1 := hd_ htr;have HUS : Hid (m <= 1000 /\ ∀ x ∈ us, x.l.length <= 1000) := ⟨by omega, fun x hx => by have := hlen x hx; omega⟩;have H0 := hd_ (heap_below G0.out hb1);have H1 := hd_ (heap_below G1.out hb1);have H2 := hd_ (heap_below G2.out hb1);have H3 := hd_ (heap_below G3.out hb1);have H4 := hd_ (heap_below G4.out hb1);have H5 := hd_ (heap_below G5.out hb1);have HLT : Hid (w.heap.size + 5 < w1.heap.size) := (Array.getElem?_eq_some_iff.1 H5.out).1;clear hb1 htr hvs hm70 hlen HF HGR hgr HW G0 G1 G2 G3 G4 G5 a0 a1 a2 a3 a4 a5 a6;go_wp2_with (refine wpList_store_cell rfl 26 (.tmp 20) (.tmp 19) rfl (w.heap.size + 1) 3 (.slice a' m c') rfl rfl 28 _ H1.out sizeOs (by simp) rfl ?_)
     intro w2 y2 o2;have K0 := hd_ (only_heap H0.out o2 (by omega));have K1 : Hid (w2.heap[w.heap.size + 1]? = some (.cells #[.int .i64 s, .int .i64 i, .int .i64 r, .slice a' m c', .int .i64 ct, .int .i64 tm, .int .i64 nk] 28 (0, 0))) := y2;have K2 := hd_ (only_heap H2.out o2 (by omega));have K3 := hd_ (only_heap H3.out o2 (by omega));have K4 := hd_ (only_heap H4.out o2 (by omega));have K5 := hd_ (only_heap H5.out o2 (by omega));have HB2 : Hid (Below w.heap.size w w2) := o2.below _ _ (by omega) HB1.out;have HO2 := hd_ (And.intro o2 H1.out);clear y2 o2 H0 H2 H3 H4 H5;obtain ⟨q0, q1, q2⟩ := cells3 K2.out;go_upto_region 6 with fail
     obtain ⟨w3, hw3⟩ : ∃ x, x = w2 := ⟨_, rfl⟩;have o3 : Only (w.heap.size + 2) w2 w3 := by rw [hw3]; exact Only.refl _ _
     have HO3 := hd_ (And.intro o3 K2.out);rw [<- hw3] at K0 K1 K2 K3 K4 K5 HB2 ⊢;have J0 := K0;have J1 := K1;have J2 := K2;have J3 := K3;have J4 := K4;have J5 := K5;have HB3 := HB2;clear hw3 o3 K0 K1 K2 K3 K4 K5 HB2 q0 q1 q2;have HC : Hid (Gr w3 w3.drew) := Gr.drew _;refine wp_region_H 3 Gr (Kp [w.heap.size,w.heap.size+1,w.heap.size+2]) (by kernel_rfl) ?_;generalize w3.drew = wc at HC ⊢;refine wpH_u preGr (preKp _) 0 (some 29) ?_ (hy := fun w' hw' => by
      try (have hq2 := cells5 (heap_below J0.out (Gr.trans HC.out hw')); obtain ⟨x0, x1, x2, x3, x4⟩ := hq2)
      go_simp;with_reducible rfl)
     refine wpH_uH preGr (preKp _) 1 (some 30) ?_ (hy := fun w' hw' => by
      have hq3 := cells7 ((hw'.2 (w.heap.size + 1) (by simp)).trans (heap_below J1.out HC.out));have hq4 := cells3 ((hw'.2 (w.heap.size + 2) (by simp)).trans (heap_below J2.out HC.out));obtain ⟨y0, y1, y2, y3, y4, y5, y6⟩ := hq3;obtain ⟨z0, z1, z2⟩ := hq4;go_simp;with_reducible rfl)
     refine wpH_uH preGr (preKp _) 2 (some 31) ?_ (hy := fun w' hw' => by
      have hq3 := cells7 ((hw'.2 (w.heap.size + 1) (by simp)).trans (heap_below J1.out HC.out));have hq4 := cells3 ((hw'.2 (w.heap.size + 2) (by simp)).trans (heap_below J2.out HC.out));obtain ⟨y0, y1, y2, y3, y4, y5, y6⟩ := hq3;obtain ⟨z0, z1, z2⟩ := hq4;go_simp;with_reducible rfl)
     refine wpH_tail (i := 3) (by decide) rfl (by kernel_rfl) (by rfl) ?_;refine wp_store_whole (none) 24 (.tmp 6) (.tmp 29) rfl (w.heap.size + 3) [.slice ra rn rc, .int .i64 k1, .int .i64 k2, .int .i64 k3, .int .i64 k4] rfl rfl 24 _ (heap_below J3.out HC.out) sizeConf rfl (fun v hv => by simp only [List.mem_cons, List.not_mem_nil, or_false] at hv; rcases hv with rfl | rfl | rfl | rfl | rfl <;> rfl) rfl ?_;intro w4 e4 o4;refine ⟨⟨o4.size, fun b hb => ?_⟩, ?_⟩
     · simp only [List.mem_cons, List.not_mem_nil, or_false] at hb
       rcases hb with rfl | rfl | rfl
       · exact o4.heap _ (Array.getElem?_eq_some_iff.1 (heap_below J0.out HC.out)).1 (by omega)
       · exact o4.heap _ (Array.getElem?_eq_some_iff.1 (heap_below J1.out HC.out)).1 (by omega)
       · exact o4.heap _ (Array.getElem?_eq_some_iff.1 (heap_below J2.out HC.out)).1 (by omega)
     have R3 := hd_ e4;have O4 := hd_ o4;have R4 := hd_ (only_heap (heap_below J4.out HC.out) o4 (by omega));have R5 := hd_ (only_heap (heap_below J5.out HC.out) o4 (by omega));have R1 := hd_ (only_heap (heap_below J1.out HC.out) o4 (by omega));have R2 := hd_ (only_heap (heap_below J2.out HC.out) o4 (by omega));have R0 := hd_ (only_heap (heap_below J0.out HC.out) o4 (by omega));clear e4 o4;try simp only [Act.put, aq1, aq2, aq3]
     refine wpH_tail (i := 4) (by decide) rfl (by kernel_rfl) (by rfl) ?_;refine wp_store_whole (none) 28 (.tmp 7) (.tmp 30) rfl (w.heap.size + 4) [.int .i64 s, .int .i64 i, .int .i64 r, .slice a' m c', .int .i64 ct, .int .i64 tm, .int .i64 nk] rfl rfl 28 _ R4.out sizeAuto rfl (autoC_one (a := ⟨s, i, r, [], ct, tm, nk⟩) rfl) rfl ?_;intro w5 e5 o5;refine ⟨⟨o5.size, fun b hb => ?_⟩, ?_⟩
     · simp only [List.mem_cons, List.not_mem_nil, or_false] at hb
       rcases hb with rfl | rfl | rfl
       · exact o5.heap _ (Array.getElem?_eq_some_iff.1 R0.out).1 (by omega)
       · exact o5.heap _ (Array.getElem?_eq_some_iff.1 R1.out).1 (by omega)
       · exact o5.heap _ (Array.getElem?_eq_some_iff.1 R2.out).1 (by omega)
     have S4 := hd_ e5;have S3 := hd_ (only_heap R3.out o5 (by omega));have S5 := hd_ (only_heap R5.out o5 (by omega));have S0 := hd_ (only_heap R0.out o5 (by omega));have S1 := hd_ (only_heap R1.out o5 (by omega));have S2 := hd_ (only_heap R2.out o5 (by omega));have O5 := hd_ (And.intro o5 R4.out);clear e5 o5;try simp only [Act.put, aq1, aq2, aq3]
     refine wpH_tail (i := 5) (by decide) rfl (by kernel_rfl) (by rfl) ?_;refine wp_store_whole (none) 32 (.tmp 8) (.tmp 31) rfl (w.heap.size + 5) [.int .i64 qc, .int .i64 qi, .slice qa qn qk] rfl rfl 32 _ S5.out sizeC rfl (one_ctl _ _ rfl) rfl ?_;intro w6 e6 o6;refine ⟨⟨o6.size, fun b hb => ?_⟩, ?_⟩
     · simp only [List.mem_cons, List.not_mem_nil, or_false] at hb
       rcases hb with rfl | rfl | rfl
       · exact o6.heap _ (Array.getElem?_eq_some_iff.1 S0.out).1 (by omega)
       · exact o6.heap _ (Array.getElem?_eq_some_iff.1 S1.out).1 (by omega)
       · exact o6.heap _ (Array.getElem?_eq_some_iff.1 S2.out).1 (by omega)
     have T5 := hd_ e6;have T3 := hd_ (only_heap S3.out o6 (by omega));have T4 := hd_ (only_heap S4.out o6 (by omega));have O6 := hd_ o6;clear e6 o6;try simp only [Act.put, aq1, aq2, aq3]
     refine wpH_done (by kernel_rfl) ?_ _;go_wp2
     have hb6 : Below w.heap.size w w6 := O6.out.below _ _ (by omega) (O5.out.1.below _ _ (by omega) (O4.out.below _ _ (by omega) (HB3.out.trans (Below.mono HC.out HB3.out.size))));refine bodyPost_ret (v := .tuple #[.agg #[.slice ra rn rc, .int .i64 k1, .int .i64 k2, .int .i64 k3, .int .i64 k4], .agg #[.int .i64 s, .int .i64 i, .int .i64 r, .slice a' m c', .int .i64 ct, .int .i64 tm, .int .i64 nk], .agg #[.int .i64 qc, .int .i64 qi, .slice qa qn qk]])
      (results_cells3 (P := Tryz.prog) (fn := Tryz.f10) rfl _ _ (w.heap.size + 3) (w.heap.size + 4) (w.heap.size + 5) 24 28 32 _ _ _ (0, 0) (0, 0) (0, 0) _ _ _ rfl rfl rfl T3.out T4.out T5.out Tryz.underlying24 Tryz.underlying28 Tryz.underlying32 rfl rfl rfl sizeConf sizeAuto sizeC) rfl ?_
     refine ⟨ra, rn, rc, rs, a', m, c', us, qa, qn, qk, ql, rfl, HRR.out, ?_, HUS.out.1, HUS.out.2, HQQ.out, HQL.out, hb6⟩;have t2 := own_off HT1.out HO2.out.2 (show 69 ≠ 28 by decide) HO2.out.1;have t3 := own_off t2 HO3.out.2 (show 69 ≠ 32 by decide) HO3.out.1;have t4 := ownsRow_below t3 HC.out;have t5 := own_off t4 (heap_below J3.out HC.out) (show 69 ≠ 24 by decide) O4.out;have t6 := own_off t5 O5.out.2 (show 69 ≠ 28 by decide) O5.out.1;have t7 := own_off t6 S5.out (show 69 ≠ 32 by decide) O6.out;exact ⟨ownsRow_mono t7 HSZW.out, HVS.out⟩
end Go.Proofs.YtclplbapedmihaaGreat.Au
namespace Go.Proofs.YtclplbapedmihaaGreat.Au
set_option maxRecDepth 4000
open Go.ChangeShapes Go.WideShapes Go.ChangeAt Go.RowKit O Ng
set_option linter.unusedVariables false
set_option linter.unusedSimpArgs false
section
variable {H : Type} {enc : TypeId × Value -> H} {P : Program} {W : World} {base : Nat}
theorem opts_cell {m0 : Nat} {t e u8 : TypeId} {f0 f1 : Field} {cs : List Value} {y : DataW H × List MemPlace} (ht : P.underlying t = some (.slice e)) (he : P.underlying e = some (.struct #[f0, f1]))
 (ho : f0.offset = 0 /\ f1.offset = 1) (h0 : P.underlying f0.type = some (.int .i64)) (h1 : P.underlying f1.type = some (.slice u8)) (hu : P.underlying u8 = some (.int .u8))
 (hcs : P.cellsOf e = 2 /\ P.cellsOf f0.type = 1 /\ P.cellsOf f1.type = 1 /\ P.cellsOf u8 = 1)
 (hf : DataW.trod enc P W 0 (fun _ => true) true m0 t cs = some y) : ∃ a n c ts, cs = [.slice a n c] /\ TR W (.slice a n c) n ts := by
 rcases Go.Deep.open_slice_pairs ht he hcs.1 ho.1 ho.2 hcs.2.1 hcs.2.2.1 hf with ⟨hc, _⟩ | ⟨x, len, cap, m, k, V0, V1, D0, D1, P0, P1, hc, _, hl, hm, hmm, _, hall⟩
 · exact ⟨none, 0, 0, [], hc, TR.nil _⟩
 · have hnm : len <= m := by rw [hmm]; simp; omega
   have each : ∀ i, i < len -> ∃ q : Tg, W.cell? (x.add (i * 2)) = some (.int .i64 q.typ) /\ W.cell? (x.add (i * 2 + 1)) = some q.val /\ Bs W q.val q.l := by
    intro i hi;obtain ⟨g0, g1, g2, g3⟩ := hall i (by omega);obtain ⟨z, e1, _, wz⟩ := DataW.trod_int h0 g2;obtain ⟨l, hb⟩ := O.bytes_cell h1 hu hcs.2.2.2 g3;refine ⟨⟨z, V1 i, l⟩, ?_, g1, hb⟩;rw [g0];simpa using e1
   have inh : Inhabited Tg := ⟨⟨0, undef, []⟩⟩;obtain ⟨q, hq⟩ := Go.Deep.choose_lt each;refine ⟨some x, len, cap, (List.range len).map q, hc, ⟨⟨by rw [flat_length]; simp, some x, cap, rfl, hl, hm, (fun h => by cases h), fun ad had => ?_⟩, fun t ht => ?_⟩⟩
   · obtain rfl := Option.some.inj had;exact flat_cells q len fun i hi => ⟨(hq i hi).1, (hq i hi).2.1⟩
   · obtain ⟨i, hi, rfl⟩ := List.mem_map.1 ht;exact (hq i (List.mem_range.1 hi)).2.2
theorem rules_cell {m0 : Nat} {t e : TypeId} {f0 f1 f2 f3 f4 f5 f6 : Field} {cs : List Value} {y : DataW H × List MemPlace} (ht : P.underlying t = some (.slice e)) (he : P.underlying e = some (.struct #[f0, f1, f2, f3, f4, f5, f6]))
 (ho : f0.offset = 0 /\ f1.offset = 1 /\ f2.offset = 2 /\ f3.offset = 3 /\ f4.offset = 4 /\ f5.offset = 5 /\ f6.offset = 6)
 (u0 : P.underlying f0.type = some (.int .i64)) (u1 : P.underlying f1.type = some (.int .i64)) (u2 : P.underlying f2.type = some (.int .i64)) (u3 : P.underlying f3.type = some (.int .i64)) (u4 : P.underlying f4.type = some (.int .i64)) (u5 : P.underlying f5.type = some (.int .i64)) (u6 : P.underlying f6.type = some .bool)
 (hcs : P.cellsOf e = 7 /\ P.cellsOf f0.type = 1 /\ P.cellsOf f1.type = 1 /\ P.cellsOf f2.type = 1 /\ P.cellsOf f3.type = 1 /\ P.cellsOf f4.type = 1 /\ P.cellsOf f5.type = 1 /\ P.cellsOf f6.type = 1)
 (hf : DataW.trod enc P W 0 (fun _ => true) true m0 t cs = some y) : ∃ a n c rs, cs = [.slice a n c] /\ RR W (.slice a n c) n rs := by
 obtain ⟨ce, c0, c1, c2, c3, c4, c5, c6⟩ := hcs;obtain ⟨o0, o1, o2, o3, o4, o5, o6⟩ := ho
 rcases Go.Deep.open_slice ht hf with ⟨hc, _⟩ | ⟨x, len, cap, m, k, D, Pl, hc, _, hl, hm, hmm, _, hall⟩
 · exact ⟨none, 0, 0, [], hc, Rd.nil _ _⟩
 · have hnm : len <= m := by rw [hmm]; simp; omega
   have each : ∀ i, i < len -> ∃ q : Ru, ∀ j u, (ruC q)[j]? = some u -> W.cell? (x.add (i * 7 + j)) = some u := by
    intro i hi;obtain ⟨cs', h1, h2⟩ := hall i (by omega);rw [ce] at h1;obtain ⟨_, hlen, hcell⟩ := World.cells?_some h1;obtain ⟨xs, k', hk, hxy, _, hxl, hf'⟩ := DataW.trod_struct he h2
    match xs, hxl, cs', hlen with
    | [y0, y1, y2, y3, y4, y5, y6], _, [v0, v1, v2, v3, v4, v5, v6], _ =>
     have g0 := hf' 0 f0 rfl;have g1 := hf' 1 f1 rfl;have g2 := hf' 2 f2 rfl;have g3 := hf' 3 f3 rfl;have g4 := hf' 4 f4 rfl;have g5 := hf' 5 f5 rfl;have g6 := hf' 6 f6 rfl;simp [o0, o1, o2, o3, o4, o5, o6, c0, c1, c2, c3, c4, c5, c6] at g0 g1 g2 g3 g4 g5 g6;have e0 := hcell 0 (by omega);have e1 := hcell 1 (by omega);have e2 := hcell 2 (by omega);have e3 := hcell 3 (by omega);have e4 := hcell 4 (by omega);have e5 := hcell 5 (by omega);have e6 := hcell 6 (by omega);rw [Go.Deep.add_add] at e0 e1 e2 e3 e4 e5 e6;obtain ⟨z0, q0, _, w0⟩ := DataW.trod_int u0 g0;obtain ⟨z1, q1, _, w1⟩ := DataW.trod_int u1 g1;obtain ⟨z2, q2, _, w2⟩ := DataW.trod_int u2 g2;obtain ⟨z3, q3, _, w3⟩ := DataW.trod_int u3 g3;obtain ⟨z4, q4, _, w4⟩ := DataW.trod_int u4 g4;obtain ⟨z5, q5, _, w5⟩ := DataW.trod_int u5 g5;obtain ⟨z6, q6, _⟩ := DataW.trod_bool u6 g6;simp only [List.cons.injEq, and_true] at q0 q1 q2 q3 q4 q5 q6;subst q0 q1 q2 q3 q4 q5 q6;refine ⟨⟨z0, z1, z2, z3, z4, z5, z6⟩, fun j u hu => ?_⟩
     match j, hu with
     | 0, hu => obtain rfl := Option.some.inj hu; simpa using e0
     | 1, hu => obtain rfl := Option.some.inj hu; simpa using e1
     | 2, hu => obtain rfl := Option.some.inj hu; simpa using e2
     | 3, hu => obtain rfl := Option.some.inj hu; simpa using e3
     | 4, hu => obtain rfl := Option.some.inj hu; simpa using e4
     | 5, hu => obtain rfl := Option.some.inj hu; simpa using e5
     | 6, hu => obtain rfl := Option.some.inj hu; simpa using e6
     | j + 7, hu => exact absurd hu (by simp [ruC])
   have inh : Inhabited Ru := ⟨ruZ⟩;obtain ⟨q, hq⟩ := Go.Deep.choose_lt each;refine ⟨some x, len, cap, (List.range len).map q, hc, ⟨by rw [flatR_length]; simp, some x, cap, rfl, hl, hm, (fun h => by cases h), fun ad had j u hu => ?_⟩⟩;obtain rfl := Option.some.inj had;have hj := (List.getElem?_eq_some_iff.1 hu).1;rw [flatR_length, List.length_map, List.length_range] at hj;have hi : j / 7 < len := by omega
   have hg := flatR_get ((List.range len).map q) (j / 7) (by simpa using hi) (j % 7) (by omega);rw [show j / 7 * 7 + j % 7 = j by omega, hu] at hg;simp only [List.getElem_map, List.getElem_range] at hg;have := hq _ hi (j % 7) u hg.symm
   rwa [show j / 7 * 7 + j % 7 = j by omega] at this
theorem open_aconf {t e : TypeId} {f0 f1 f2 f3 f4 g0 g1 g2 g3 g4 g5 g6 : Field} {v : Value} {d : DataW H} {p : List MemPlace} (ht : P.underlying t = some (.struct #[f0, f1, f2, f3, f4])) (hoff : f0.offset = 0 /\ f1.offset = 1 /\ f2.offset = 2 /\ f3.offset = 3 /\ f4.offset = 4)
 (hr : P.underlying f0.type = some (.slice e)) (he : P.underlying e = some (.struct #[g0, g1, g2, g3, g4, g5, g6]))
 (ho : g0.offset = 0 /\ g1.offset = 1 /\ g2.offset = 2 /\ g3.offset = 3 /\ g4.offset = 4 /\ g5.offset = 5 /\ g6.offset = 6)
 (u0 : P.underlying g0.type = some (.int .i64)) (u1 : P.underlying g1.type = some (.int .i64)) (u2 : P.underlying g2.type = some (.int .i64)) (u3 : P.underlying g3.type = some (.int .i64)) (u4 : P.underlying g4.type = some (.int .i64)) (u5 : P.underlying g5.type = some (.int .i64)) (u6 : P.underlying g6.type = some .bool)
 (hcs : P.cellsOf e = 7 /\ P.cellsOf g0.type = 1 /\ P.cellsOf g1.type = 1 /\ P.cellsOf g2.type = 1 /\ P.cellsOf g3.type = 1 /\ P.cellsOf g4.type = 1 /\ P.cellsOf g5.type = 1 /\ P.cellsOf g6.type = 1)
 (x1 : P.underlying f1.type = some (.int .i64)) (x2 : P.underlying f2.type = some (.int .i64)) (x3 : P.underlying f3.type = some (.int .i64)) (x4 : P.underlying f4.type = some (.int .i64))
 (hc : P.cellsOf t = 5 /\ P.cellsOf f0.type = 1 /\ P.cellsOf f1.type = 1 /\ P.cellsOf f2.type = 1 /\ P.cellsOf f3.type = 1 /\ P.cellsOf f4.type = 1)
 (hval : Value.okWide P W .any base t v) (h : DataW.Trod enc P W 0 (fun _ => true) true t v d p) :
 ∃ (a : Option Addr) (n c : Nat) (rs : List Ru) (k1 k2 k3 k4 : Int), v = .agg #[.slice a n c, .int .i64 k1, .int .i64 k2, .int .i64 k3, .int .i64 k4] /\ RR W (.slice a n c) n rs := by
 obtain ⟨cs, rfl, hsz, _⟩ : ∃ cs, v = .agg cs /\ cs.size = P.cellsOf t /\ Row.okWide P W .any base t cs := by
  simpa [Value.okWide, ht] using hval
 obtain ⟨fuel, hf⟩ := h;obtain ⟨o0, o1, o2, o3, o4⟩ := hoff;obtain ⟨ct, c0, c1, c2, c3, c4⟩ := hc;obtain ⟨xs, m, _, _, _, hl, hx⟩ := DataW.trod_struct ht hf;rw [ct] at hsz;obtain ⟨l⟩ := cs;simp only [List.size_toArray] at hsz
 match xs, hl with
 | [y0, y1, y2, y3, y4], _ =>
  have h0 := hx 0 f0 rfl;have h1 := hx 1 f1 rfl;have h2 := hx 2 f2 rfl;have h3 := hx 3 f3 rfl;have h4 := hx 4 f4 rfl;simp only [Value.cells, o0, o1, o2, o3, o4, c0, c1, c2, c3, c4, List.getElem?_cons_zero, List.getElem?_cons_succ] at h0 h1 h2 h3 h4
  match l, hsz with
  | [z0, z1, z2, z3, z4], _ =>
   obtain ⟨a, n, c, rs, e0, hb⟩ := rules_cell hr he ho u0 u1 u2 u3 u4 u5 u6 hcs h0;obtain ⟨k1, e1, _, _⟩ := DataW.trod_int x1 h1;obtain ⟨k2, e2, _, _⟩ := DataW.trod_int x2 h2;obtain ⟨k3, e3, _, _⟩ := DataW.trod_int x3 h3;obtain ⟨k4, e4, _, _⟩ := DataW.trod_int x4 h4;refine ⟨a, n, c, rs, k1, k2, k3, k4, ?_, hb⟩;simp at e0 e1 e2 e3 e4;simp [e0, e1, e2, e3, e4]
theorem open_auto {t e u8 : TypeId} {f0 f1 f2 f3 f4 f5 f6 g0 g1 : Field} {v : Value} {d : DataW H} {p : List MemPlace} (ht : P.underlying t = some (.struct #[f0, f1, f2, f3, f4, f5, f6]))
 (hoff : f0.offset = 0 /\ f1.offset = 1 /\ f2.offset = 2 /\ f3.offset = 3 /\ f4.offset = 4 /\ f5.offset = 5 /\ f6.offset = 6)
 (hr : P.underlying f3.type = some (.slice e)) (he : P.underlying e = some (.struct #[g0, g1])) (ho : g0.offset = 0 /\ g1.offset = 1) (u0 : P.underlying g0.type = some (.int .i64)) (u1 : P.underlying g1.type = some (.slice u8)) (hu : P.underlying u8 = some (.int .u8))
 (hcs : P.cellsOf e = 2 /\ P.cellsOf g0.type = 1 /\ P.cellsOf g1.type = 1 /\ P.cellsOf u8 = 1)
 (x0 : P.underlying f0.type = some (.int .i64)) (x1 : P.underlying f1.type = some (.int .i64)) (x2 : P.underlying f2.type = some (.int .i64)) (x4 : P.underlying f4.type = some (.int .i64)) (x5 : P.underlying f5.type = some (.int .i64)) (x6 : P.underlying f6.type = some (.int .i64))
 (hc : P.cellsOf t = 7 /\ P.cellsOf f0.type = 1 /\ P.cellsOf f1.type = 1 /\ P.cellsOf f2.type = 1 /\ P.cellsOf f3.type = 1 /\ P.cellsOf f4.type = 1 /\ P.cellsOf f5.type = 1 /\ P.cellsOf f6.type = 1)
 (hval : Value.okWide P W .any base t v) (h : DataW.Trod enc P W 0 (fun _ => true) true t v d p) :
 ∃ (k0 k1 k2 : Int) (a : Option Addr) (n c : Nat) (ts : List Tg) (k4 k5 k6 : Int), v = .agg #[.int .i64 k0, .int .i64 k1, .int .i64 k2, .slice a n c, .int .i64 k4, .int .i64 k5, .int .i64 k6] /\ TR W (.slice a n c) n ts := by
 obtain ⟨cs, rfl, hsz, _⟩ : ∃ cs, v = .agg cs /\ cs.size = P.cellsOf t /\ Row.okWide P W .any base t cs := by
  simpa [Value.okWide, ht] using hval
 obtain ⟨fuel, hf⟩ := h;obtain ⟨o0, o1, o2, o3, o4, o5, o6⟩ := hoff;obtain ⟨ct, c0, c1, c2, c3, c4, c5, c6⟩ := hc;obtain ⟨xs, m, _, _, _, hl, hx⟩ := DataW.trod_struct ht hf;rw [ct] at hsz;obtain ⟨l⟩ := cs;simp only [List.size_toArray] at hsz
 match xs, hl with
 | [y0, y1, y2, y3, y4, y5, y6], _ =>
  have h0 := hx 0 f0 rfl;have h1 := hx 1 f1 rfl;have h2 := hx 2 f2 rfl;have h3 := hx 3 f3 rfl;have h4 := hx 4 f4 rfl;have h5 := hx 5 f5 rfl;have h6 := hx 6 f6 rfl;simp only [Value.cells, o0, o1, o2, o3, o4, o5, o6, c0, c1, c2, c3, c4, c5, c6, List.getElem?_cons_zero, List.getElem?_cons_succ] at h0 h1 h2 h3 h4 h5 h6
  match l, hsz with
  | [z0, z1, z2, z3, z4, z5, z6], _ =>
   obtain ⟨a, n, c, ts, e3, hb⟩ := opts_cell hr he ho u0 u1 hu hcs h3;obtain ⟨k0, e0, _, _⟩ := DataW.trod_int x0 h0;obtain ⟨k1, e1, _, _⟩ := DataW.trod_int x1 h1;obtain ⟨k2, e2, _, _⟩ := DataW.trod_int x2 h2;obtain ⟨k4, e4, _, _⟩ := DataW.trod_int x4 h4;obtain ⟨k5, e5, _, _⟩ := DataW.trod_int x5 h5;obtain ⟨k6, e6, _, _⟩ := DataW.trod_int x6 h6;refine ⟨k0, k1, k2, a, n, c, ts, k4, k5, k6, ?_, hb⟩;simp at e0 e1 e2 e3 e4 e5 e6;simp [e0, e1, e2, e3, e4, e5, e6]
end
end Go.Proofs.YtclplbapedmihaaGreat.Au
