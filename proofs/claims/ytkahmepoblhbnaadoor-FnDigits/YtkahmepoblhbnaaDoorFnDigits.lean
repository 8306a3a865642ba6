/- The law on long decimal numbers: of whatever bytes, its Go function returns true, and no block that was there has turned. -/
import Derived.Test.YtkahmepoblhbnaaDoorDrawDig
import Derived.Test.YtkahmepoblhbnaaDoorFnDigX
import Derived.Deep.DeepCutAuto
namespace Go.Proofs.YtkahmepoblhbnaaDoor
open Go.RowKit
set_option linter.unusedVariables false

theorem drawAddDigitsS (w : World) (a : Option Addr) (len cap : Nat) (h : Bytes w a len) :
    Calls Tryd.prog 22 #[.slice a len cap] w fun e w' => ∃ (da db : Option Addr) (ca cb : Nat) (xs ys : List Int), e = .returned (.tuple #[.slice da xs.length ca, .slice db ys.length cb]) ∧ IRow w' da xs ∧ IRow w' db ys ∧ Wide xs ∧ Wide ys ∧ xs.length ≤ 9 ∧ ys.length ≤ 9 ∧ Below w.heap.size w w' := by
  refine (drawAddDigits w a len cap h).mono ?_
  rintro e w' ⟨va, vb, xs, ys, he, tw, sx, sy, lx, ly, hb⟩
  obtain ⟨da, ca, rfl, ra⟩ := (res_of_row tw.oa).slot
  obtain ⟨db, cb, rfl, rb⟩ := (res_of_row tw.ob).slot
  exact ⟨da, db, ca, cb, xs, ys, he, ra.row, rb.row, sx.wide, sy.wide, lx, ly, hb⟩

set_option maxRecDepth 100000 in
set_option maxHeartbeats 2000000 in
theorem lawDigits (a0 a1 : Option Addr) (len0 cap0 len1 cap1 : Nat) (w : World) (ht : TabS w) (hn : TabN w) (h0 : Bytes w a0 len0) (h1 : Bytes w a1 len1) :
    Calls Tryd.prog 4 #[.slice a0 len0 cap0, .slice a1 len1 cap1] w fun e w' => e = .returned (.bool true) ∧ Below w.heap.size w w' := by
  have l0 := h0.1
  have l1 := h1.1
  unfold maxLen at l0 l1
  by_cases hbig : 1048576 < wrap64 ((len0 : Int) + (len1 : Int))
  · go_enter Tryd.func4, Tryd.ntmps4
    go_wp2_with fail
    go_ret
    exact ⟨rfl, Below.refl _ _⟩
  · go_enter Tryd.func4, Tryd.ntmps4
    go_wp2_with fail
    refine (drawAddDigitsS _ a0 len0 cap0 h0).mono ?_
    rintro e w1 ⟨da, db, ca, cb, xs, ys, rfl, ra, rb, wa, wb, lx, ly, hb1⟩
    clear hbig
    go_wp2_with fail
    refine (addDigitsS _ (ht.below hb1) _ _ _ _ xs ys ra rb wa wb (by omega) (by omega)).mono ?_
    rintro e w2 ⟨dl, cl, rfl, sl, g2⟩
    have ra2 := ra.kept g2
    have rb2 := rb.kept g2
    have hb2 := below_grown0 hb1 g2
    clear g2 ra rb hb1
    go_wp2_with fail
    refine (specAddDigitsS _ _ _ _ _ xs ys ra2 rb2 (by omega) (by omega)).mono ?_
    rintro e w3 ⟨dw, cw, rfl, sw, g3⟩
    have ra3 := ra2.kept g3
    have rb3 := rb2.kept g3
    have sl3 := sl.kept0 g3
    have hb3 := below_grown0 hb2 g3
    have lL := Pl.digL_len xs ys
    clear g3 ra2 rb2 sl hb2
    go_wp2_with fail
    refine (sameInts _ dl dw cl cw _ _ sl3.row sw.row (by omega) (by omega)).mono ?_
    rintro e w4 ⟨rfl, g4⟩
    have ra4 := ra3.kept g4
    have rb4 := rb3.kept g4
    have rl4 := sl3.row.kept g4
    have hb4 := below_grown0 hb3 g4
    clear g4 ra3 rb3 sl3 hb3 sw
    go_upto_if 81 with fail
    go_cut [9, 12, 13, 14, 15, 16, 17, 18, 19, 20] (fun _ _ _ _ _ _ _ _ _ _ wx => Below w.heap.size w wx)
    case first =>
      as_aux_lemma =>
        cases k : Pl.digOk xs ys
        · go_wp2_with fail
          go_meet
          case rel => exact hb4
        · obtain ⟨e1, e2, e3⟩ := Pl.digOk_at k
          have e4 := Pl.digL_length k
          have E1 := hide e1
          have E3 := hide e3
          have E4 := hide e4
          have c1 : (Pl.dC xs ys xs.length != Pl.digC xs ys) = false := by rw [Pl.digC, if_pos k]; simp
          clear e1 e3 e4
          go_wp2_with fail
          go_loop [13, 84] (fun c j => ∃ k : Nat, k ≤ xs.length ∧ j = .int .i64 k ∧ c = .int .i64 (Pl.dC xs ys k)) (fun _ j => xs.length - (intOf j).toNat)
          case atStart => exact ⟨0, Nat.zero_le _, rfl, rfl⟩
          case round =>
            obtain ⟨j, hj, rfl, rfl⟩ := hrel
            by_cases hlt : j < xs.length
            · obtain ⟨g1, o1, rfl, hc1⟩ := ra4 j hlt
              obtain ⟨g2, o2, rfl, hc2⟩ := rb4 j (by have := E1.out; omega)
              obtain ⟨g3, o3, rfl, hc3⟩ := rl4 j (by have := E4.out; omega)
              have hlt2 : j < ys.length := by have := E1.out; omega
              have hlt3 : j < (Pl.digL xs ys).length := by have := E4.out; omega
              have wx := wa j hlt
              have wy := wb j hlt2
              have ko := E3.out j hlt
              rw [Pl.digL_at k j hlt] at hc3
              have nC : Pl.dC xs ys (j + 1) = _ := Pl.dC_next rfl rfl rfl
              unfold Pl.dV at hc3
              unfold Pl.dO at ko
              generalize hx : xs[j]?.getD 0 = x at hc1 hc3 ko nC wx
              generalize hy : ys[j]?.getD 0 = y at hc2 hc3 ko nC wy
              generalize hcc : Pl.dC xs ys j = c at hc3 ko nC
              obtain ⟨f1, f2, f3, f4, f5, f6, f7, f8, f9, f10, f11, f12, f13⟩ := Pl.step_law ko
              rw [f2] at nC
              obtain ⟨wx0, wx1⟩ := wx
              obtain ⟨wy0, wy1⟩ := wy
              generalize hVV : Pl.aV c x y = V at hc3 f1 f9 f12 f13
              have NC := hide nC
              clear hx hy hcc nC hVV f2 ko c1 wa wb ra4 rb4 rl4
              go_wp2_with fail
              refine (numberOf x _ (by omega) (by omega)).mono ?_
              rintro e wt ⟨rfl, rfl⟩
              go_wp2_with fail
              refine (numberOf y _ (by omega) (by omega)).mono ?_
              rintro e wt ⟨rfl, rfl⟩
              go_wp2_with fail
              refine (numberOf V _ (by omega) (by omega)).mono ?_
              rintro e wt ⟨rfl, rfl⟩
              go_wp2_with fail
              go_round
              case rel => exact ⟨j + 1, by omega, by go_num, congrArg (Value.int .i64) NC.out.symm⟩
              case measure => simp [intOf]; omega
            · obtain rfl : j = xs.length := by omega
              have hge : (Pl.digL xs ys).length ≤ xs.length := by have := E4.out; omega
              go_wp2_with fail
              go_meet
              case rel => exact hb4
    case rest =>
      as_aux_lemma =>
        clear hb4 ra4 rb4 rl4 wa wb lx ly lL
        go_wp2_with fail
        refine (drawNegBcd _ a1 len1 cap1 (h1.kept hcut)).mono ?_
        rintro e w5 ⟨x, v, rfl, x0, x1, v0, v1, g5⟩
        have hb5 : Below w.heap.size w w5 := hcut.trans (g5.mono hcut.size)
        clear g5 hcut
        go_wp2_with fail
        refine (negBcd x v _ (ht.below hb5) (hn.below hb5) (by omega) (by omega) (by omega) (by omega)).mono ?_
        rintro e wt ⟨rfl, nq0, rfl⟩
        replace hb5 := below_drewN hb5 nq0
        go_wp2_with fail
        refine (specNegBcd x v _).mono ?_
        rintro e wt ⟨rfl, rfl⟩
        go_wp2_with fail
        refine (drawComplementBcd _ a1 len1 cap1 (h1.kept hb5)).mono ?_
        rintro e w6 ⟨q, rfl, q0, q1, g6⟩
        have hb6 : Below w.heap.size w w6 := hb5.trans (g6.mono hb5.size)
        clear g6 hb5
        go_wp2_with fail
        refine (complementBcd q _ (hn.below hb6) (by omega) (by omega)).mono ?_
        rintro e wt ⟨rfl, nq1, rfl⟩
        go_wp2_with fail
        refine (specComplementBcd q _).mono ?_
        rintro e wt ⟨rfl, rfl⟩
        cases k : Pl.bcd q
        · go_wp2_with fail
          go_ret
          exact ⟨rfl, below_drewN hb6 _⟩
        · obtain ⟨e1, e2, e3, e4, e5⟩ := Pl.cpl_ok k
          obtain ⟨p0, p1, _, _⟩ := Pl.bcd_ok e1
          go_wp2_with fail
          refine (addBcd 1 (Pl.cplV q) 0 _ ((ht.below hb6).drewN _) (by omega) (by omega) (by omega) (by omega) (by omega) (by omega)).mono ?_
          rintro e wt ⟨rfl, rfl⟩
          go_wp2_with fail
          refine (negBcd 0 q _ ((ht.below hb6).drewN _) ((hn.below hb6).drewN _) (by omega) (by omega) (by omega) (by omega)).mono ?_
          rintro e wt ⟨rfl, nq2, rfl⟩
          go_wp2_with fail
          refine (complementBcd (Pl.cplV q) _ ((hn.below hb6).drewN _) (by omega) (by omega)).mono ?_
          rintro e wt ⟨rfl, nq3, rfl⟩
          go_wp2_with fail
          go_ret
          exact ⟨rfl, below_drewN hb6 _⟩

end Go.Proofs.YtkahmepoblhbnaaDoor
