/- What the model of StepDevice answers, for every argument. -/
import Derived.Test.YtlocilcnmbmikaaSpecDev6
import Derived.Deep.DeepCutAuto
namespace Go.Proofs.Ytlocilcnmbmikaa
open Go.RowKit
set_option linter.unusedVariables false

theorem lt_alloc (w : World) (o : Obj) : w.heap.size < (w.alloc o).heap.size := by simp

set_option maxRecDepth 20000 in
set_option maxHeartbeats 8000000 in
theorem specStepDevice (w : World) (d : Pl.Dev) (a b : Option Addr) (ca cb : Nat) (k p v : Int) (ha : IRow w a d.xs) (hb : IRow w b d.ys) (lx : d.xs.length ≤ 2000000) (ly : d.ys.length ≤ 2000000) :
    Calls Try.prog 19 #[.agg #[.int .i64 d.e, .int .i64 d.l, .bool d.r, .slice a d.xs.length ca, .slice b d.ys.length cb, .int .i64 d.t], .agg #[.int .i64 k, .int .i64 p, .int .i64 v]] w fun e w' => ∃ (a' b' : Option Addr) (ca' cb' : Nat), e = .returned (.tuple #[.agg #[.int .i64 (Pl.sdD d k p v).e, .int .i64 (Pl.sdD d k p v).l, .bool (Pl.sdD d k p v).r, .slice a' (Pl.sdD d k p v).xs.length ca', .slice b' (Pl.sdD d k p v).ys.length cb', .int .i64 (Pl.sdD d k p v).t], .int .i64 (Pl.sdV d k p v), .bool (Pl.sdOk d k p v)]) ∧ DevIn w' w.heap.size (Pl.sdD d k p v) a' b' ca' ∧ Kept 0 0 w w' := by
  have HA := hide ha
  have HB := hide hb
  have K0 := hide (kept_new (kept_new (kept_alloc w (.cells #[.int .i64 d.e, .int .i64 d.l, .bool d.r, .slice a d.xs.length ca, .slice b d.ys.length cb, .int .i64 d.t] 24)) (.cells #[.int .i64 k, .int .i64 p, .int .i64 v] 38)) (.cells #[.int .i64 0, .int .i64 0, .bool false, .slice none 0 0, .slice none 0 0, .int .i64 0] 24))
  have P0 := hide (((Blk.new w #[.int .i64 d.e, .int .i64 d.l, .bool d.r, .slice a d.xs.length ca, .slice b d.ys.length cb, .int .i64 d.t] 24).alloc (.cells #[.int .i64 k, .int .i64 p, .int .i64 v] 38)).alloc (.cells #[.int .i64 0, .int .i64 0, .bool false, .slice none 0 0, .slice none 0 0, .int .i64 0] 24))
  have R0 := Blk.new ((w.alloc (.cells #[.int .i64 d.e, .int .i64 d.l, .bool d.r, .slice a d.xs.length ca, .slice b d.ys.length cb, .int .i64 d.t] 24)).alloc (.cells #[.int .i64 k, .int .i64 p, .int .i64 v] 38)) #[.int .i64 0, .int .i64 0, .bool false, .slice none 0 0, .slice none 0 0, .int .i64 0] 24
  simp only [World.size_alloc] at R0
  replace R0 := hide R0
  have X0 := (Blk.new (w.alloc (.cells #[.int .i64 d.e, .int .i64 d.l, .bool d.r, .slice a d.xs.length ca, .slice b d.ys.length cb, .int .i64 d.t] 24)) #[.int .i64 k, .int .i64 p, .int .i64 v] 38).alloc (.cells #[.int .i64 0, .int .i64 0, .bool false, .slice none 0 0, .slice none 0 0, .int .i64 0] 24)
  simp only [World.size_alloc] at X0
  replace X0 := hide X0
  clear ha hb
  cases hg : Pl.devOk d
  · have E : Hid (Pl.sdOk d k p v = false) := hide (by unfold Pl.sdOk; (try unfold Pl.inR); rw [hg]; rfl)
    go_enter Try.func19, Try.ntmps19
    go_wp2_with (first
      | (go_at_call 16; refine (specGoodDevice _ d a b ca cb (HA.out.keptS K0.out) (HB.out.keptS K0.out) lx ly).mono ?_; rintro e w1 ⟨rfl, k1⟩; rw [hg]; have R1 := hide (R0.out.kept0 k1); have P1 := hide (P0.out.kept0 k1); have K1 := hide (K0.out.trans k1); have y0 := R1.out.cell (i := 0) rfl; have u0 := R1.out.frozen 0; have y1 := R1.out.cell (i := 1) rfl; have u1 := R1.out.frozen 1; have y2 := R1.out.cell (i := 2) rfl; have u2 := R1.out.frozen 2; have y3 := R1.out.cell (i := 3) rfl; have u3 := R1.out.frozen 3; have y4 := R1.out.cell (i := 4) rfl; have u4 := R1.out.frozen 4; have y5 := R1.out.cell (i := 5) rfl; have u5 := R1.out.frozen 5; clear k1))
    refine bodyPost_ret (v := .tuple #[.agg #[.int .i64 0, .int .i64 0, .bool false, .slice none 0 0, .slice none 0 0, .int .i64 0], .int .i64 0, .bool false]) ?_ rfl ⟨none, none, 0, 0, ?_, ?_, ?_⟩
    · rw [results_cell_tmp2 rfl]; go_simp
    · simp [Pl.sdD, Pl.sdV, E.out, Pl.devNo]
    · refine ⟨.inl ⟨rfl, by simp [Pl.sdD, E.out, Pl.devNo]⟩, .inl ⟨rfl, by simp [Pl.sdD, E.out, Pl.devNo]⟩, by intro g hg; simp [blk] at hg, by simp [Pl.sdD, E.out, Pl.devNo]⟩
    · exact (kept_set (kept_set (kept_set (kept_set (kept_set (kept_set K1.out _ _ _ (.inr (by omega))) _ _ _ (.inr (by omega))) _ _ _ (.inr (by omega))) _ _ _ (.inr (by omega))) _ _ _ (.inr (by omega))) _ _ _ (.inr (by omega)))
  · cases h1 : Pl.stepOk k p v
    · have E : Hid (Pl.sdOk d k p v = false) := hide (by unfold Pl.sdOk; (try unfold Pl.inR); rw [hg, h1]; rfl)
      go_enter Try.func19, Try.ntmps19
      go_wp2_with (first
        | (go_at_call 16; refine (specGoodDevice _ d a b ca cb (HA.out.keptS K0.out) (HB.out.keptS K0.out) lx ly).mono ?_; rintro e w1 ⟨rfl, k1⟩; rw [hg]; have R1 := hide (R0.out.kept0 k1); have P1 := hide (P0.out.kept0 k1); have K1 := hide (K0.out.trans k1); have y0 := R1.out.cell (i := 0) rfl; have u0 := R1.out.frozen 0; have y1 := R1.out.cell (i := 1) rfl; have u1 := R1.out.frozen 1; have y2 := R1.out.cell (i := 2) rfl; have u2 := R1.out.frozen 2; have y3 := R1.out.cell (i := 3) rfl; have u3 := R1.out.frozen 3; have y4 := R1.out.cell (i := 4) rfl; have u4 := R1.out.frozen 4; have y5 := R1.out.cell (i := 5) rfl; have u5 := R1.out.frozen 5; have X1 := hide (X0.out.kept0 k1); have x0 := X1.out.cell (i := 0) rfl; have x1 := X1.out.cell (i := 1) rfl; have x2 := X1.out.cell (i := 2) rfl; clear k1)
        | (go_at_call 43; refine (l5Good k p v _).mono ?_; rintro e w9 ⟨rfl, o, rfl⟩; rw [h1]; have R1 := hide (R1.out.alloc o); have P1 := hide (P1.out.alloc o); have X1 := hide (X1.out.alloc o); have K1 := hide (kept_new K1.out o); have y0 := R1.out.cell (i := 0) rfl; have u0 := R1.out.frozen 0; have y1 := R1.out.cell (i := 1) rfl; have u1 := R1.out.frozen 1; have y2 := R1.out.cell (i := 2) rfl; have u2 := R1.out.frozen 2; have y3 := R1.out.cell (i := 3) rfl; have u3 := R1.out.frozen 3; have y4 := R1.out.cell (i := 4) rfl; have u4 := R1.out.frozen 4; have y5 := R1.out.cell (i := 5) rfl; have u5 := R1.out.frozen 5))
      refine bodyPost_ret (v := .tuple #[.agg #[.int .i64 0, .int .i64 0, .bool false, .slice none 0 0, .slice none 0 0, .int .i64 0], .int .i64 0, .bool false]) ?_ rfl ⟨none, none, 0, 0, ?_, ?_, ?_⟩
      · rw [results_cell_tmp2 rfl]; go_simp
      · simp [Pl.sdD, Pl.sdV, E.out, Pl.devNo]
      · refine ⟨.inl ⟨rfl, by simp [Pl.sdD, E.out, Pl.devNo]⟩, .inl ⟨rfl, by simp [Pl.sdD, E.out, Pl.devNo]⟩, by intro g hg; simp [blk] at hg, by simp [Pl.sdD, E.out, Pl.devNo]⟩
      · exact (kept_set (kept_set (kept_set (kept_set (kept_set (kept_set K1.out _ _ _ (.inr (by omega))) _ _ _ (.inr (by omega))) _ _ _ (.inr (by omega))) _ _ _ (.inr (by omega))) _ _ _ (.inr (by omega))) _ _ _ (.inr (by omega)))
    · have E : Hid (Pl.sdOk d k p v = true) := hide (by unfold Pl.sdOk; (try unfold Pl.inR); rw [hg, h1]; rfl)
      have hS := Pl.devOk_small hg
      obtain ⟨D, hDD⟩ : ∃ D, D = Pl.sdD d k p v := ⟨_, rfl⟩
      have ED : Hid (Pl.stepD d k p v = D) := hide (by rw [hDD]; simp [Pl.sdD, E.out])
      have EP := hide hDD
      have EVV : Hid (Pl.sdV d k p v = Pl.stepV d k p v) := hide (by simp [Pl.sdV, E.out])
      clear hDD
      go_enter Try.func19, Try.ntmps19
      go_wp2_with (first
        | (go_at_call 16; refine (specGoodDevice _ d a b ca cb (HA.out.keptS K0.out) (HB.out.keptS K0.out) lx ly).mono ?_; rintro e w1 ⟨rfl, k1⟩; rw [hg]; have R1 := hide (R0.out.kept0 k1); have P1 := hide (P0.out.kept0 k1); have K1 := hide (K0.out.trans k1); have q0 := P1.out.cell (i := 0) rfl; have q1 := P1.out.cell (i := 1) rfl; have q2 := P1.out.cell (i := 2) rfl; have q3 := P1.out.cell (i := 3) rfl; have q4 := P1.out.cell (i := 4) rfl; have q5 := P1.out.cell (i := 5) rfl; have X1 := hide (X0.out.kept0 k1); have x0 := X1.out.cell (i := 0) rfl; have x1 := X1.out.cell (i := 1) rfl; have x2 := X1.out.cell (i := 2) rfl; clear k1)
        | (go_at_call 43; refine (l5Good k p v _).mono ?_; rintro e w9 ⟨rfl, o, rfl⟩; rw [h1]; have R1 := hide (R1.out.alloc o); have P1 := hide (P1.out.alloc o); have X1 := hide (X1.out.alloc o); have K1 := hide (kept_new K1.out o)))
      obtain ⟨Y, hY⟩ : ∃ Y : World, Y = w1.alloc o := ⟨_, rfl⟩
      rw [← hY] at R1 P1 X1 K1 ⊢
      clear hY
      have p0 := P1.out.cell (i := 0) rfl
      have p1 := P1.out.cell (i := 1) rfl
      have p2 := P1.out.cell (i := 2) rfl
      have p3 := P1.out.cell (i := 3) rfl
      have p4 := P1.out.cell (i := 4) rfl
      have p5 := P1.out.cell (i := 5) rfl
      have z0 := X1.out.cell (i := 0) rfl
      have z1 := X1.out.cell (i := 1) rfl
      have z2 := X1.out.cell (i := 2) rfl
      have n1 : w.heap.size + 1 + 1 < Y.heap.size := R1.out.lt
      have s1 := K1.out.size
      have zl0 : ∀ o, (Y.alloc o).cell? ⟨w.heap.size + 1, 0, none⟩ = some (.int .i64 k) := fun o => (X1.out.alloc o).cell (i := 0) rfl
      have zl1 : ∀ o, (Y.alloc o).cell? ⟨w.heap.size + 1, 1, none⟩ = some (.int .i64 p) := fun o => (X1.out.alloc o).cell (i := 1) rfl
      have zl2 : ∀ o, (Y.alloc o).cell? ⟨w.heap.size + 1, 2, none⟩ = some (.int .i64 v) := fun o => (X1.out.alloc o).cell (i := 2) rfl
      have pl0 : ∀ o, (Y.alloc o).cell? ⟨w.heap.size, 0, none⟩ = some (.int .i64 d.e) := fun o => (P1.out.alloc o).cell (i := 0) rfl
      have pl1 : ∀ o, (Y.alloc o).cell? ⟨w.heap.size, 1, none⟩ = some (.int .i64 d.l) := fun o => (P1.out.alloc o).cell (i := 1) rfl
      have pl2 : ∀ o, (Y.alloc o).cell? ⟨w.heap.size, 2, none⟩ = some (.bool d.r) := fun o => (P1.out.alloc o).cell (i := 2) rfl
      have pl3 : ∀ o, (Y.alloc o).cell? ⟨w.heap.size, 3, none⟩ = some (.slice a d.xs.length ca) := fun o => (P1.out.alloc o).cell (i := 3) rfl
      have pl4 : ∀ o, (Y.alloc o).cell? ⟨w.heap.size, 4, none⟩ = some (.slice b d.ys.length cb) := fun o => (P1.out.alloc o).cell (i := 4) rfl
      have pl5 : ∀ o, (Y.alloc o).cell? ⟨w.heap.size, 5, none⟩ = some (.int .i64 d.t) := fun o => (P1.out.alloc o).cell (i := 5) rfl
      go_cut [7, 8, 18, 19, 20, 21, 22, 23, 24] (fun pp zz _ _ _ _ _ _ _ W => ∃ (B : Nat) (a2 b2 : Option Addr) (ca2 cb2 : Nat), pp = .pointer (some ⟨B, 0, none⟩) ∧ zz = .int .i64 (Pl.stepV d k p v) ∧ Blk W B #[.int .i64 D.e, .int .i64 D.l, .bool D.r, .slice a2 D.xs.length ca2, .slice b2 D.ys.length cb2, .int .i64 D.t] 24 ∧ DevIn W w.heap.size D a2 b2 ca2 ∧ Kept 0 0 w W ∧ Blk W (w.heap.size + 1 + 1) #[.int .i64 0, .int .i64 0, .bool false, .slice none 0 0, .slice none 0 0, .int .i64 0] 24 ∧ (∀ g, blk a2 = some g ∨ blk b2 = some g → g ≠ w.heap.size + 1 + 1) ∧ B ≠ w.heap.size + 1 + 1)
      case first =>
        go_region_with (first
          | (go_at_call 45; refine (l5Own _ d a b ca cb ?ra ?rb lx ly).mono ?_
             (case ra => first | exact HA.out.keptS (kept_drew K1.out) | exact HA.out.keptS (kept_drew (kept_new K1.out _)))
             (case rb => first | exact HB.out.keptS (kept_drew K1.out) | exact HB.out.keptS (kept_drew (kept_new K1.out _)))
             rintro e w2 ⟨a1, b1, ca1, cb1, rfl, hD1, kd⟩
             have k2 : Kept 0 0 Y w2 := by first | exact undrewK kd | exact (kept_alloc _ _).trans (undrewK kd)
             (first | have OB : Hid (Blk w2 Y.heap.size #[.int .i64 0, .int .i64 0, .bool false, .slice none 0 0, .slice none 0 0, .int .i64 0] 24) := hide ((Blk.new Y #[.int .i64 0, .int .i64 0, .bool false, .slice none 0 0, .slice none 0 0, .int .i64 0] 24).kept0 (undrewK kd)) | skip)
             have R2 := hide (R1.out.kept0 k2)
             have X2 := hide (X1.out.kept0 k2)
             have c0 := X2.out.cell (i := 0) rfl
             have c1 := X2.out.cell (i := 1) rfl
             have c2 := X2.out.cell (i := 2) rfl
             have cl0 : ∀ o, (w2.alloc o).cell? ⟨w.heap.size + 1, 0, none⟩ = some (.int .i64 k) := fun o => (X2.out.alloc o).cell (i := 0) rfl
             have cl1 : ∀ o, (w2.alloc o).cell? ⟨w.heap.size + 1, 1, none⟩ = some (.int .i64 p) := fun o => (X2.out.alloc o).cell (i := 1) rfl
             have cl2 : ∀ o, (w2.alloc o).cell? ⟨w.heap.size + 1, 2, none⟩ = some (.int .i64 v) := fun o => (X2.out.alloc o).cell (i := 2) rfl
             have K2 := hide (K1.out.trans k2)
             have n2 := k2.size
             have s2 := K2.out.size
             have SL : Hid (∀ g, blk a1 = some g ∨ blk b1 = some g → Y.heap.size ≤ g ∧ g < w2.heap.size) := hide (by
               intro g hg
               have q : _ ∧ _ := hg.elim (hD1.1.blk_in g) (hD1.2.1.blk_in g)
               exact ⟨by first | exact q.1 | exact Nat.le_trans (Nat.le_succ _) (by simpa using q.1), q.2⟩)
             (first | have SLB : Hid (∀ g, blk a1 = some g ∨ blk b1 = some g → Y.heap.size < g) := hide (fun g hg => Nat.lt_of_lt_of_le (lt_alloc Y (.cells #[.int .i64 0, .int .i64 0, .bool false, .slice none 0 0, .slice none 0 0, .int .i64 0] 24)) (hg.elim (hD1.1.blk_in g) (hD1.2.1.blk_in g)).1) | skip)
             (first | have HD1 := hide (hD1.base s1) | have HD1 := hide (hD1.base (Nat.le_trans s1 (Nat.le_of_lt (lt_alloc Y (.cells #[.int .i64 0, .int .i64 0, .bool false, .slice none 0 0, .slice none 0 0, .int .i64 0] 24))))))
             clear hD1 kd k2)
          | (go_at_call 44; have CN := fun (ww : World) (bs : Nat) (hd : DevIn ww bs d a1 b1 ca1) (hb : bs ≤ ww.heap.size) => l5Step ww bs d a1 b1 ca1 cb1 k p v hd hb hS h1
             rw [ED.out] at CN
             (first | refine (CN w2 _ HD1.out ?hb).mono ?_ | refine (CN _ _ (HD1.out.kept (kept_alloc w2 (.cells #[.int .i64 0, .int .i64 0, .bool false, .slice none 0 0, .slice none 0 0, .int .i64 0] 24))) ?hb).mono ?_)
             (case hb => first | exact s2 | exact Nat.le_trans s2 (Nat.le_of_lt (lt_alloc w2 _)))
             clear CN
             rintro e w3 ⟨a2, b2, ca2, cb2, rfl, hD2, kd3, hn3⟩
             have k3 : Kept 0 0 w2 w3 := by first | exact kd3 | exact (kept_alloc _ _).trans kd3
             (first | have OC := hide (OB.out.kept0 k3) | have OC : Hid (Blk w3 w2.heap.size #[.int .i64 0, .int .i64 0, .bool false, .slice none 0 0, .slice none 0 0, .int .i64 0] 24) := hide ((Blk.new w2 #[.int .i64 0, .int .i64 0, .bool false, .slice none 0 0, .slice none 0 0, .int .i64 0] 24).kept0 kd3) | skip)
             have R3 := hide (R2.out.kept0 k3)
             have K3 := hide (K2.out.trans k3)
             have n3 := k3.size
             have HDX : Hid (DevIn w3 w.heap.size D a2 b2 ca2) := hide hD2
             have SN : Hid (∀ g, blk a2 = some g ∨ blk b2 = some g → (blk a1 = some g ∨ blk b1 = some g) ∨ w2.heap.size ≤ g) := hide (by
               intro g hg
               rcases hn3 g hg with h | h
               · exact .inl h
               · exact .inr (by first | exact h | exact Nat.le_trans (Nat.le_succ _) (by simpa using h)))
             have HX : Hid (∀ g, blk a2 = some g ∨ blk b2 = some g → g ≠ w.heap.size + 1 + 1) := hide (by
               intro g hg
               rcases SN.out g hg with h | h
               · have := SL.out g h; omega
               · omega)
             (first
               | have HB2 : Hid (∀ g, blk a2 = some g ∨ blk b2 = some g → g ≠ Y.heap.size) := hide (fun g hg => (SN.out g hg).elim (fun h => Nat.ne_of_gt (SLB.out g h)) (fun h => Nat.ne_of_gt (Nat.lt_of_lt_of_le OB.out.lt h)))
               | have HB2 : Hid (∀ g, blk a2 = some g ∨ blk b2 = some g → g ≠ w2.heap.size) := hide (fun g hg => (hn3 g hg).elim (fun h => Nat.ne_of_lt (SL.out g h).2) (fun h => Nat.ne_of_gt (Nat.lt_of_lt_of_le (lt_alloc w2 (.cells #[.int .i64 0, .int .i64 0, .bool false, .slice none 0 0, .slice none 0 0, .int .i64 0] 24)) h)))
               | skip)
             (first | (have o0 := OC.out.cell (i := 0) rfl; have q0 := OC.out.frozen 0; have o1 := OC.out.cell (i := 1) rfl; have q1 := OC.out.frozen 1; have o2 := OC.out.cell (i := 2) rfl; have q2 := OC.out.frozen 2; have o3 := OC.out.cell (i := 3) rfl; have q3 := OC.out.frozen 3; have o4 := OC.out.cell (i := 4) rfl; have q4 := OC.out.frozen 4; have o5 := OC.out.cell (i := 5) rfl; have q5 := OC.out.frozen 5) | skip)
             clear hD2 k3 kd3 hn3))
        all_goals
          go_wp2_with fail
          go_meet
          case rel =>
            have l2 := R2.out.lt
            first
              | (have zOB := OB; exact ⟨Y.heap.size, a2, b2, ca2, cb2, rfl, rfl, ((((((OC.out.set 0 _).set 1 _).set 2 _).set 3 _).set 4 _).set 5 _), ((((((HDX.out.setOther _ _ _ HB2.out).setOther _ _ _ HB2.out).setOther _ _ _ HB2.out).setOther _ _ _ HB2.out).setOther _ _ _ HB2.out).setOther _ _ _ HB2.out), (kept_set (kept_set (kept_set (kept_set (kept_set (kept_set K3.out _ _ _ (.inr (by omega))) _ _ _ (.inr (by omega))) _ _ _ (.inr (by omega))) _ _ _ (.inr (by omega))) _ _ _ (.inr (by omega))) _ _ _ (.inr (by omega))), ((((((R3.out.other _ _ _ (by omega)).other _ _ _ (by omega)).other _ _ _ (by omega)).other _ _ _ (by omega)).other _ _ _ (by omega)).other _ _ _ (by omega)), HX.out, by omega⟩)
              | (have zOC := OC; exact ⟨w2.heap.size, a2, b2, ca2, cb2, rfl, rfl, ((((((OC.out.set 0 _).set 1 _).set 2 _).set 3 _).set 4 _).set 5 _), ((((((HDX.out.setOther _ _ _ HB2.out).setOther _ _ _ HB2.out).setOther _ _ _ HB2.out).setOther _ _ _ HB2.out).setOther _ _ _ HB2.out).setOther _ _ _ HB2.out), (kept_set (kept_set (kept_set (kept_set (kept_set (kept_set K3.out _ _ _ (.inr (by omega))) _ _ _ (.inr (by omega))) _ _ _ (.inr (by omega))) _ _ _ (.inr (by omega))) _ _ _ (.inr (by omega))) _ _ _ (.inr (by omega))), ((((((R3.out.other _ _ _ (by omega)).other _ _ _ (by omega)).other _ _ _ (by omega)).other _ _ _ (by omega)).other _ _ _ (by omega)).other _ _ _ (by omega)), HX.out, by omega⟩)
              | exact ⟨w3.heap.size, a2, b2, ca2, cb2, rfl, rfl, Blk.new w3 _ _, HDX.out.kept (kept_alloc _ _), kept_new K3.out _, R3.out.alloc _, HX.out, by omega⟩
      case rest =>
        clear p0 p1 p2 p3 p4 p5 z0 z1 z2 zl0 zl1 zl2 pl0 pl1 pl2 pl3 pl4 pl5
        obtain ⟨B, a2, b2, ca2, cb2, rfl, rfl, hB, hDv, hkv, hR, hx, hbr⟩ := hcut
        have BB := hide hB
        have HDV := hide hDv
        have HKV := hide hkv
        have RR := hide hR
        have HXX := hide hx
        have b0 := hB.cell (i := 0) rfl
        have b1 := hB.cell (i := 1) rfl
        have b2' := hB.cell (i := 2) rfl
        have b3 := hB.cell (i := 3) rfl
        have b4 := hB.cell (i := 4) rfl
        have b5 := hB.cell (i := 5) rfl
        have y0 := RR.out.cell (i := 0) rfl
        have y1 := RR.out.cell (i := 1) rfl
        have y2 := RR.out.cell (i := 2) rfl
        have y3 := RR.out.cell (i := 3) rfl
        have y4 := RR.out.cell (i := 4) rfl
        have y5 := RR.out.cell (i := 5) rfl
        have u0 := RR.out.frozen 0
        have u1 := RR.out.frozen 1
        have u2 := RR.out.frozen 2
        have u3 := RR.out.frozen 3
        have u4 := RR.out.frozen 4
        have u5 := RR.out.frozen 5
        clear hB hDv hkv hR hx
        go_wp2_with fail
        refine bodyPost_ret (v := .tuple #[.agg #[.int .i64 D.e, .int .i64 D.l, .bool D.r, .slice a2 D.xs.length ca2, .slice b2 D.ys.length cb2, .int .i64 D.t], .int .i64 (Pl.stepV d k p v), .bool true]) ?_ rfl ⟨a2, b2, ca2, cb2, ?_, ?_, ?_⟩
        · rw [results_cell_tmp2 rfl]; go_simp
        · rw [← EP.out, E.out, EVV.out]
        · rw [← EP.out]; exact ((((((HDV.out.setOther _ _ _ HXX.out).setOther _ _ _ HXX.out).setOther _ _ _ HXX.out).setOther _ _ _ HXX.out).setOther _ _ _ HXX.out).setOther _ _ _ HXX.out)
        · exact (kept_set (kept_set (kept_set (kept_set (kept_set (kept_set HKV.out _ _ _ (.inr (by omega))) _ _ _ (.inr (by omega))) _ _ _ (.inr (by omega))) _ _ _ (.inr (by omega))) _ _ _ (.inr (by omega))) _ _ _ (.inr (by omega)))
end Go.Proofs.Ytlocilcnmbmikaa
