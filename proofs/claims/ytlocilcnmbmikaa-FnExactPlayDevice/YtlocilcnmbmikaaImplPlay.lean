/- What the program's PlayDevice answers, for every row of steps. -/
import Derived.Test.YtlocilcnmbmikaaImplGoodD
import Derived.Test.YtlocilcnmbmikaaImplWork
import Derived.Test.YtlocilcnmbmikaaImplNewD
import Derived.Test.YtlocilcnmbmikaaSpecPlay
namespace Go.Proofs.Ytlocilcnmbmikaa
open Go.RowKit Go.Conc
set_option linter.unusedVariables false

theorem own_keptS {w w' : World} {base n size lo hi : Nat} {e : TypeId} {v : Value} {xs : List Value} (h : w.ownsRow base e size v n xs) (k : Kept lo hi w w') (hd : hi ≤ base ∨ hi ≤ lo) : w'.ownsRow base e size v n xs := by
  obtain ⟨h1, h2⟩ := h
  refine ⟨h1, ?_⟩
  rcases h2 with h2 | ⟨g, cap, cur, e1, e2, e3, e4⟩
  · exact .inl h2
  · refine .inr ⟨g, cap, cur, e1, e2, ?_, e4⟩
    have hl := (Array.getElem?_eq_some_iff.1 e3).1
    exact (k.block g hl (by omega)).trans e3
theorem Wd.keptO {w w' : World} {lo hi B ci co l h : Nat} {d : Pl.Dev} (x : Wd w lo hi B ci co d) (k : Kept l h w w') (hl : hi ≤ l) : Wd w' lo hi B ci co d := by
  obtain ⟨h1, h2, h3, b1, b2, i1, i2, o1, o2⟩ := x
  exact ⟨h1.kept k (by omega), h2.kept k (by omega), h3.kept k (by omega), b1, b2, i1, i2, o1, o2⟩
theorem SlotIn.setLow {w : World} {l h : Nat} {a : Option Addr} {xs : List Int} (s : SlotIn w l h a xs) (b i : Nat) (v : Value) (hb : b < l) : SlotIn (w.setCell ⟨b, i, none⟩ v) l h a xs :=
  s.kept (kept_set (Kept.refl b (b + 1) w) b i v (.inl ⟨Nat.le_refl _, by omega⟩)) (by omega)
/-- the device in work and the row of what was told, behind so many steps -/
structure Playing (w wr : World) (lo hi B ci co g n : Nat) (D : Pl.Dev) (vs : List Int) : Prop where
  dev : Wd wr lo hi B ci co D
  row : wr.ownsRow hi 3 1 (.slice (some ⟨g, 0, none⟩) vs.length n) vs.length (vs.map (Value.int .i64))
  res : Blk wr w.heap.size #[.int .i64 0, .int .i64 0, .bool false, .slice none 0 0, .slice none 0 0, .int .i64 0] 24
  kept : Kept 0 0 w wr
theorem Playing.keep {w wr wr' : World} {lo hi B ci co g n : Nat} {D : Pl.Dev} {vs : List Int} (h : Playing w wr lo hi B ci co g n D vs) (k : Kept 0 0 wr wr') : Playing w wr' lo hi B ci co g n D vs :=
  ⟨h.dev.kept0 k, own_keptS h.row k (by omega), h.res.kept0 k, h.kept.trans k⟩
theorem Playing.step {w wr wr' : World} {lo hi B ci co g n : Nat} {D D' : Pl.Dev} {vs : List Int} (h : Playing w wr lo hi B ci co g n D vs) (hl : w.heap.size < lo) (k : Kept lo hi wr wr') (hd : Wd wr' lo hi B ci co D') : Playing w wr' lo hi B ci co g n D' vs :=
  ⟨hd, own_keptS h.row k (by omega), h.res.kept k (by omega), kept_over h.kept k (by omega)⟩
theorem Playing.told {w wr wr' : World} {lo hi B ci co g n N : Nat} {D : Pl.Dev} {vs : List Int} {x : Int} (h : Playing w wr lo hi B ci co g n D vs) (hh : w.heap.size < hi) (hg : hi ≤ g) (hN : vs.length = N) (o : wr'.ownsRow hi 3 1 (.slice (some ⟨g, 0, none⟩) (N + 1) n) (N + 1) (vs.map (Value.int .i64) ++ [.int .i64 x])) (k : wr.grownBy wr' (some g)) : Playing w wr' lo hi B ci co g n D (vs ++ [x]) := by
  subst hN
  have k2 : Kept g (g + 1) wr wr' := kept_row k (by intro j hj; cases hj; omega)
  refine ⟨h.dev.keptO k2 hg, ?_, h.res.kept k2 (by omega), kept_over h.kept k2 (by omega)⟩
  rw [List.length_append, List.map_append]
  exact o

set_option maxRecDepth 20000 in
set_option maxHeartbeats 4000000 in
theorem play_good (w : World) (a : Option Addr) (ca n : Nat) (zs : List Int) (ha : Came w a zs) (lz : zs.length = 3 * n) (bn : n ≤ 80) (hall : ∀ i, i < n → Pl.stepAt zs i = true) :
    Calls Try.prog 25 #[.slice a n ca] w fun e w' => PlayRet e w w' zs n := by
  have HA := hide ha
  have HZ := hide lz
  have HALL := hide hall
  have E : Hid (Pl.playOk zs n = true) := hide (Pl.playOk_of bn hall)
  have EA : (List.range n).all (Pl.stepAt zs) = true := by
    rw [List.all_eq_true]; intro i hi; exact hall i (List.mem_range.1 hi)
  have HEA := hide EA
  have K0 := hide (kept_alloc w (.cells #[.int .i64 0, .int .i64 0, .bool false, .slice none 0 0, .slice none 0 0, .int .i64 0] 24))
  have R0 := hide (Blk.new w #[.int .i64 0, .int .i64 0, .bool false, .slice none 0 0, .slice none 0 0, .int .i64 0] 24)
  have q1 : decide ((80 : Int) < (n : Int)) = false := by simp; omega
  obtain ⟨i0, hi0, hz0, hz1, hz2⟩ := info_parts Try.info3
  clear ha lz hall EA
  go_enter Try.func25, Try.ntmps25
  go_wp2_with (go_at_call 50; refine (implDevSteps _ a ca n zs (HA.out.keptS K0.out) HZ.out (by omega)).mono ?_; rintro e w1 ⟨rfl, k1⟩; rw [HEA.out])
  refine (implNewDevice _).mono ?_
  rintro e w2 ⟨a2, b2, ca2, cb2, rfl, hD2, k2⟩
  have K2 := hide ((K0.out.trans k1).trans k2)
  have R2 := hide ((R0.out.kept0 k1).kept0 k2)
  clear k1 k2
  go_wp2_with fail
  refine (wiredOf w2 Pl.devNew a2 b2 ca2 cb2 hD2.1.row hD2.2.1.row (by decide) (by decide)).mono ?_
  rintro e w3 ⟨ci, co, rfl, hC1, hC2, b1, b2', k3⟩
  have n2 := R2.out.lt
  have n3 := k3.size
  have n4 := hC1.lt
  have n5 := hC2.lt
  have HW := hide (Wd.mk (d := Pl.devNew) (lo := w2.heap.size) (hi := w3.heap.size + 1) (Blk.new w3 #[.int .i64 8, .int .i64 8, .bool false, .chan (some ci), .chan (some co), .int .i64 0] 71) (hC1.kept (kept_alloc _ _) (by omega)) (hC2.kept (kept_alloc _ _) (by omega)) n3 (by omega) b1 (by omega) b2' (by omega))
  have K3 := hide (kept_new (K2.out.trans k3) (.cells #[.int .i64 8, .int .i64 8, .bool false, .chan (some ci), .chan (some co), .int .i64 0] 71))
  have R3 := hide ((R2.out.kept0 k3).alloc (.cells #[.int .i64 8, .int .i64 8, .bool false, .chan (some ci), .chan (some co), .int .i64 0] 71))
  clear hC1 hC2 hD2 k3 K2 R2
  go_wp2_with (at_make; refine wpList_make_own _ rfl _ _ 22 rfl (w3.heap.size + 1) 3 i0 (.int .i64 0) 1 Try.underlying22 hi0 hz0 hz1 _ _ _ n rfl rfl rfl ?c1 ?c2 ?c3 ?_)
  case c1 => rw [hz2]; omega
  case c2 => unfold maxLen; omega
  case c3 => first | exact Nat.le_refl _ | simp
  intro w4 hown hg4
  try simp only [World.size_alloc] at hown
  have HP0 : Hid (Playing w w4 w2.heap.size (w3.heap.size + 1) w3.heap.size ci co (w3.heap.size + 1) n (Pl.playD zs 0) (Pl.playV zs 0)) := hide ⟨HW.out.kept0 (kept_grown hg4), hown, R3.out.kept0 (kept_grown hg4), K3.out.trans (kept_grown hg4)⟩
  clear hown hg4 HW K3 R3 K0 R0
  go_wp2_with fail
  go_loopw [6, 8, 25] (fun v _ j wr => ∃ k : Nat, k ≤ n ∧ j = .int .i64 k ∧ v = .slice (some ⟨w3.heap.size + 1, 0, none⟩) k n ∧ Playing w wr w2.heap.size (w3.heap.size + 1) w3.heap.size ci co (w3.heap.size + 1) n (Pl.playD zs k) (Pl.playV zs k)) (fun _ _ j _ => n - (intOf j).toNat)
  case atStart => exact ⟨0, Nat.zero_le _, rfl, rfl, HP0.out⟩
  case round =>
    clear HP0
    obtain ⟨k, hk, rfl, rfl, hP⟩ := hrel
    have HP := hide hP
    have hS := Pl.small_play zs k (fun i hi => HALL.out i (by omega))
    have hvl := Pl.playV_len zs k
    by_cases hlt : k < n
    · obtain ⟨g1, o1, rfl, p0, p1, p2⟩ := ((HA.out.keptS hP.kept).1).at3 HZ.out hlt
      have ED : Hid (Pl.stepD (Pl.playD zs k) (el zs (k * 3)) (el zs (k * 3 + 1)) (el zs (k * 3 + 2)) = Pl.playD zs (k + 1)) := hide rfl
      have EV : Hid (Pl.playV zs k ++ [Pl.stepV (Pl.playD zs k) (el zs (k * 3)) (el zs (k * 3 + 1)) (el zs (k * 3 + 2))] = Pl.playV zs (k + 1)) := hide rfl
      have HS : Hid (Pl.stepOk (el zs (k * 3)) (el zs (k * 3 + 1)) (el zs (k * 3 + 2)) = true) := hide (HALL.out k hlt)
      clear hP
      generalize hX0 : el zs (k * 3) = x0 at p0 ED EV HS
      generalize hX1 : el zs (k * 3 + 1) = x1 at p1 ED EV HS
      generalize hX2 : el zs (k * 3 + 2) = x2 at p2 ED EV HS
      generalize hDD : Pl.playD zs k = D at HP hS ED EV
      generalize hVV : Pl.playV zs k = V at HP hvl EV
      generalize hEE : Pl.playD zs (k + 1) = D2 at ED
      go_wp2_with fail
      have HQ := hide (HP.out.keep (kept_alloc wr (.cells #[.int .i64 x0, .int .i64 x1, .int .i64 x2] 38)))
      have CN := wiredStep _ _ _ _ _ _ D x0 x1 x2 HQ.out.dev hS HS.out
      rw [ED.out] at CN
      refine CN.mono ?_
      clear CN
      rintro e w5 ⟨rfl, hW5, k5⟩
      have HR := hide (HQ.out.step (by omega) k5 hW5)
      have HU := hide (HR.out.keep (kept_alloc w5 (.cells #[.int .i64 (Pl.stepV D x0 x1 x2)] 3)))
      have O6 := hide HU.out.row
      rw [hvl] at O6
      clear k5 hW5 HQ HP p0 p1 p2
      go_wp2_with (at_builtin; refine wpList_append_fits _ rfl (.tmp 29) (.tmp 32) 22 rfl (w3.heap.size + 1) 3 i0 1 Try.underlying22 hi0 hz1 (w3.heap.size + 1) k n _ rfl O6.out ⟨w5.heap.size, 0, none⟩ 1 1 [.int .i64 (Pl.stepV D x0 x1 x2)] rfl rfl (World.news_of_block (cs := #[.int .i64 (Pl.stepV D x0 x1 x2)]) (t := 3) (fr := (0, 0)) (heap_alloc_new w5 _)) (by simp [Value.oneCell']) (by omega) ?_)
      intro w6 o6 k6
      have HV := hide (HU.out.told (by omega) (Nat.le_refl _) hvl o6 k6)
      rw [EV.out] at HV
      clear o6 k6 HU HR O6
      go_wp2_with fail
      go_round
      case rel => exact ⟨k + 1, by omega, by go_num, rfl, by rw [hEE]; exact HV.out⟩
      case measure => simp [intOf]; omega
    · have e : k = n := by omega
      subst e
      clear hP
      have EPD : Hid (Pl.plD zs k = Pl.playD zs k) := hide (by unfold Pl.plD; rw [E.out]; rfl)
      have EPV : Hid (Pl.plV zs k = Pl.playV zs k) := hide (by unfold Pl.plV; rw [E.out]; rfl)
      generalize hDD : Pl.playD zs k = D at HP hS EPD
      generalize hVV : Pl.playV zs k = V at HP hvl EPV
      go_wp2_with fail
      have nB := HP.out.dev.blk.lt
      refine (wiredDevice wr _ _ _ _ _ D HP.out.dev (by omega) hS.x hS.y).mono ?_
      rintro e w5 ⟨a5, b5, ca5, cb5, rfl, hD5, k5⟩
      have R5 := hide (HP.out.res.kept k5 (by omega))
      have K5 := hide (kept_over HP.out.kept k5 (by omega))
      have O5 := hide (slot_of_row (own_keptS HP.out.row k5 (.inl (Nat.le_refl _))))
      have n5 := (HP.out.row.lt _ rfl).2
      have HD5 := hide hD5
      have y0 := R5.out.cell (i := 0) rfl
      have yf0 := R5.out.frozen 0
      have y1 := R5.out.cell (i := 1) rfl
      have yf1 := R5.out.frozen 1
      have y2 := R5.out.cell (i := 2) rfl
      have yf2 := R5.out.frozen 2
      have y3 := R5.out.cell (i := 3) rfl
      have yf3 := R5.out.frozen 3
      have y4 := R5.out.cell (i := 4) rfl
      have yf4 := R5.out.frozen 4
      have y5 := R5.out.cell (i := 5) rfl
      have yf5 := R5.out.frozen 5
      clear k5 hD5
      go_wp2_with fail
      have hx : ∀ g, blk a5 = some g ∨ blk b5 = some g → g ≠ w.heap.size := by
        intro g hg
        rcases hg with hg | hg
        · have := HD5.out.1.blk_in g hg; omega
        · have := HD5.out.2.1.blk_in g hg; omega
      refine bodyPost_ret (v := .tuple #[.agg #[.int .i64 D.e, .int .i64 D.l, .bool D.r, .slice a5 D.xs.length ca5, .slice b5 D.ys.length cb5, .int .i64 D.t], .slice (some ⟨w3.heap.size + 1, 0, none⟩) k k, .bool true]) ?_ rfl ?_
      · rw [results_cell_tmp2 rfl]; go_simp
      · refine ⟨a5, b5, some ⟨w3.heap.size + 1, 0, none⟩, ca5, cb5, k, ?_, ?_, ?_, ?_, ?_⟩
        · rw [EPD.out, EPV.out, E.out, hvl]
        · rw [EPD.out]
          exact ((((((HD5.out.setOther _ _ _ hx).setOther _ _ _ hx).setOther _ _ _ hx).setOther _ _ _ hx).setOther _ _ _ hx).setOther _ _ _ hx).base (by omega)
        · rw [EPV.out]
          refine SlotIn.wide (l := w3.heap.size + 1) (h := w5.heap.size) ?_ (by omega) (by simp)
          exact ((((((O5.out.setLow _ _ _ (by omega)).setLow _ _ _ (by omega)).setLow _ _ _ (by omega)).setLow _ _ _ (by omega)).setLow _ _ _ (by omega)).setLow _ _ _ (by omega))
        · intro g hg
          simp [blk] at hg
          refine ⟨fun h => ?_, fun h => ?_⟩
          · have := HD5.out.1.blk_in g h; omega
          · have := HD5.out.2.1.blk_in g h; omega
        · exact (kept_set (kept_set (kept_set (kept_set (kept_set (kept_set K5.out _ _ _ (.inr (Nat.le_refl _))) _ _ _ (.inr (Nat.le_refl _))) _ _ _ (.inr (Nat.le_refl _))) _ _ _ (.inr (Nat.le_refl _))) _ _ _ (.inr (Nat.le_refl _))) _ _ _ (.inr (Nat.le_refl _)))

set_option maxRecDepth 20000 in
set_option maxHeartbeats 4000000 in
theorem implPlayDevice (w : World) (a : Option Addr) (ca n : Nat) (zs : List Int) (ha : Came w a zs) (lz : zs.length = 3 * n) (bn : n ≤ 2000000) :
    Calls Try.prog 25 #[.slice a n ca] w fun e w' => PlayRet e w w' zs n := by
  have K0 := hide (kept_alloc w (.cells #[.int .i64 0, .int .i64 0, .bool false, .slice none 0 0, .slice none 0 0, .int .i64 0] 24))
  have R0 := hide (Blk.new w #[.int .i64 0, .int .i64 0, .bool false, .slice none 0 0, .slice none 0 0, .int .i64 0] 24)
  have HA := hide ha
  have HZ := hide lz
  clear ha lz
  by_cases h1 : n ≤ 80
  · cases h2 : (List.range n).all (Pl.stepAt zs)
    · have E : Hid (Pl.playOk zs n = false) := hide (by unfold Pl.playOk; rw [h2, Bool.and_false])
      have q1 : decide ((80 : Int) < (n : Int)) = false := by simp; omega
      go_enter Try.func25, Try.ntmps25
      go_wp2_with (go_at_call 50; refine (implDevSteps _ a ca n zs (HA.out.keptS K0.out) HZ.out bn).mono ?_; rintro e w1 ⟨rfl, k1⟩; rw [h2]; have R1 := hide (R0.out.kept0 k1); have K1 := hide (K0.out.trans k1); have y0 := R1.out.cell (i := 0) rfl; have yf0 := R1.out.frozen 0; have y1 := R1.out.cell (i := 1) rfl; have yf1 := R1.out.frozen 1; have y2 := R1.out.cell (i := 2) rfl; have yf2 := R1.out.frozen 2; have y3 := R1.out.cell (i := 3) rfl; have yf3 := R1.out.frozen 3; have y4 := R1.out.cell (i := 4) rfl; have yf4 := R1.out.frozen 4; have y5 := R1.out.cell (i := 5) rfl; have yf5 := R1.out.frozen 5)
      refine bodyPost_ret (v := .tuple #[.agg #[.int .i64 0, .int .i64 0, .bool false, .slice none 0 0, .slice none 0 0, .int .i64 0], .slice none 0 0, .bool false]) ?_ rfl ⟨none, none, none, 0, 0, 0, ?_, ?_, ?_, ?_, ?_⟩
      · rw [results_cell_tmp2 rfl]; go_simp
      · simp [Pl.plD, Pl.plV, E.out, Pl.devNo]
      · refine ⟨.inl ⟨rfl, by simp [Pl.plD, E.out, Pl.devNo]⟩, .inl ⟨rfl, by simp [Pl.plD, E.out, Pl.devNo]⟩, by intro g hg; simp [blk] at hg, by simp [Pl.plD, E.out, Pl.devNo]⟩
      · exact .inl ⟨rfl, by simp [Pl.plV, E.out]⟩
      · intro g hg; simp [blk] at hg
      · exact (kept_set (kept_set (kept_set (kept_set (kept_set (kept_set K1.out _ _ _ (.inr (Nat.le_refl _))) _ _ _ (.inr (Nat.le_refl _))) _ _ _ (.inr (Nat.le_refl _))) _ _ _ (.inr (Nat.le_refl _))) _ _ _ (.inr (Nat.le_refl _))) _ _ _ (.inr (Nat.le_refl _)))
    · exact play_good w a ca n zs HA.out HZ.out h1 (fun i hi => List.all_eq_true.1 h2 i (List.mem_range.2 hi))
  · have E : Hid (Pl.playOk zs n = false) := hide (by unfold Pl.playOk; rw [decide_eq_false h1, Bool.false_and])
    have q1 : decide ((80 : Int) < (n : Int)) = true := by simp; omega
    go_enter Try.func25, Try.ntmps25
    go_wp2_with fail
    refine bodyPost_ret (v := .tuple #[.agg #[.int .i64 0, .int .i64 0, .bool false, .slice none 0 0, .slice none 0 0, .int .i64 0], .slice none 0 0, .bool false]) ?_ rfl ⟨none, none, none, 0, 0, 0, ?_, ?_, ?_, ?_, ?_⟩
    · rw [results_cell_tmp2 rfl]; go_simp
    · simp [Pl.plD, Pl.plV, E.out, Pl.devNo]
    · refine ⟨.inl ⟨rfl, by simp [Pl.plD, E.out, Pl.devNo]⟩, .inl ⟨rfl, by simp [Pl.plD, E.out, Pl.devNo]⟩, by intro g hg; simp [blk] at hg, by simp [Pl.plD, E.out, Pl.devNo]⟩
    · exact .inl ⟨rfl, by simp [Pl.plV, E.out]⟩
    · intro g hg; simp [blk] at hg
    · exact kept_alloc _ _
end Go.Proofs.Ytlocilcnmbmikaa
