/- The law on words: of whatever bytes, its Go function returns true, and no block that was there has turned. -/
import Derived.Test.YtogckmalfdddcaaDrawMany
import Derived.Test.YtogckmalfdddcaaFnSums
import Derived.Test.YtogckmalfdddcaaWordlaw
import Derived.Deep.DeepCutAuto
namespace Go.Proofs.Ytogckmalfdddcaa
open Go.RowKit
set_option linter.unusedVariables false

theorem Small.wide {xs : List Int} (h : Small xs) : Wide xs := by
  intro i hi
  have := h (xs[i]) (List.getElem_mem hi)
  simp [hi]
  omega

theorem drawAddManyS (w : World) (a : Option Addr) (len cap : Nat) (h : Bytes w a len) :
    Calls Try.prog 24 #[.slice a len cap] w fun e w' => ∃ (s : Int) (da db : Option Addr) (ca cb : Nat) (xs ys : List Int), e = .returned (.tuple #[.int .i64 s, .slice da xs.length ca, .slice db ys.length cb]) ∧ IRow w' da xs ∧ IRow w' db ys ∧ Wide xs ∧ Wide ys ∧ xs.length ≤ 9 ∧ ys.length ≤ 9 ∧ Below w.heap.size w w' := by
  refine (drawAddMany w a len cap h).mono ?_
  rintro e w' ⟨s, va, vb, xs, ys, he, tw, sx, sy, lx, ly, hb⟩
  obtain ⟨da, ca, rfl, ra⟩ := (res_of_row tw.oa).slot
  obtain ⟨db, cb, rfl, rb⟩ := (res_of_row tw.ob).slot
  exact ⟨s, da, db, ca, cb, xs, ys, he, ra.row, rb.row, sx.wide, sy.wide, lx, ly, hb⟩

set_option maxRecDepth 100000 in
set_option maxHeartbeats 2000000 in
theorem lawWords (a0 a1 : Option Addr) (len0 cap0 len1 cap1 : Nat) (w : World) (h0 : Bytes w a0 len0) (h1 : Bytes w a1 len1) :
    Calls Try.prog 4 #[.slice a0 len0 cap0, .slice a1 len1 cap1] w fun e w' => e = .returned (.bool true) ∧ Below w.heap.size w w' := by
  have l0 := h0.1
  have l1 := h1.1
  unfold maxLen at l0 l1
  by_cases hbig : 1048576 < wrap64 ((len0 : Int) + (len1 : Int))
  · go_enter Try.func4, Try.ntmps4
    go_wp2_with fail
    go_ret
    exact ⟨rfl, Below.refl _ _⟩
  · go_enter Try.func4, Try.ntmps4
    go_wp2_with fail
    refine (drawAddManyS _ a0 len0 cap0 h0).mono ?_
    rintro e w1 ⟨s, da, db, ca, cb, xs, ys, rfl, ra, rb, wa, wb, lx, ly, hb1⟩
    clear hbig
    go_wp2_with fail
    refine (addManyS _ s _ _ _ _ xs ys ra rb wa wb (by omega) (by omega)).mono ?_
    rintro e w2 ⟨dl, cl, rfl, sl, g2⟩
    have ra2 := ra.kept g2
    have rb2 := rb.kept g2
    have hb2 := below_grown0 hb1 g2
    clear g2 ra rb hb1
    go_wp2_with fail
    refine (specAddManyS _ s _ _ _ _ xs ys ra2 rb2 (by omega) (by omega)).mono ?_
    rintro e w3 ⟨dw, cw, rfl, sw, g3⟩
    have ra3 := ra2.kept g3
    have rb3 := rb2.kept g3
    have sl3 := sl.kept0 g3
    have hb3 := below_grown0 hb2 g3
    have lL := manyL_len s xs ys
    clear g3 ra2 rb2 sl hb2
    go_wp2_with fail
    refine (sameInts _ dl dw cl cw _ _ sl3.row sw.row (by omega) (by omega)).mono ?_
    rintro e w4 ⟨rfl, g4⟩
    have ra4 := ra3.kept g4
    have rb4 := rb3.kept g4
    have rl4 := sl3.row.kept g4
    have hb4 := below_grown0 hb3 g4
    clear g4 ra3 rb3 sl3 hb3 sw
    go_upto_if 91 with fail
    go_cut [10, 13, 14, 15, 16, 17] (fun _ _ _ _ _ _ wx => Below w.heap.size w wx)
    case first =>
      as_aux_lemma =>
        cases k : Pl.manyOk s xs ys
        · go_wp2_with fail
          go_meet
          case rel => exact hb4
        · obtain ⟨e1, e2, e3⟩ := Pl.manyOk_at k
          have e4 := Pl.manyL_length k
          have E1 := hide e1
          have E3 := hide e3
          have E4 := hide e4
          have c1 := Pl.manyF_c k
          have c2 := Pl.manyF_z k
          have t0 : 256 ≤ Pl.top s ∧ Pl.top s ≤ 65536 := by unfold Pl.top; split <;> omega
          obtain ⟨t0, t1⟩ := t0
          clear e1 e3 e4
          go_wp2_with fail
          go_loopw [14, 15, 94] (fun c z j wr => ∃ k : Nat, k ≤ xs.length ∧ j = .int .i64 k ∧ c = .int .i64 (bits .and .i64 (Pl.stF s xs ys k) 1) ∧ z = .bool (Pl.manyZ s xs ys k) ∧ w4.grownBy wr none) (fun _ _ j _ => xs.length - (intOf j).toNat)
          case atStart => exact ⟨0, Nat.zero_le _, rfl, congrArg (Value.int .i64) (by show (0 : Int) = bits .and .i64 0 1; decide), rfl, World.grownBy.refl _ _⟩
          case round =>
            obtain ⟨j, hj, rfl, rfl, rfl, hg⟩ := hrel
            by_cases hlt : j < xs.length
            · obtain ⟨g1, o1, rfl, hc1⟩ := ra4.kept hg j hlt
              obtain ⟨g2, o2, rfl, hc2⟩ := rb4.kept hg j (by have := E1.out; omega)
              obtain ⟨g3, o3, rfl, hc3⟩ := rl4.kept hg j (by have := E4.out; omega)
              have hlt2 : j < ys.length := by have := E1.out; omega
              have hlt3 : j < (Pl.manyL s xs ys).length := by have := E4.out; omega
              have ko := E3.out j hlt
              rw [Pl.manyL_at k j hlt] at hc3
              have nF : Pl.stF s xs ys (j + 1) = _ := stF_next rfl rfl rfl
              have nZ := Pl.manyZ_succ s xs ys j
              unfold Pl.stV at hc3 nZ
              unfold Pl.stO at ko
              generalize hx : xs[j]?.getD 0 = x at hc1 hc3 ko nF nZ
              generalize hy : ys[j]?.getD 0 = y at hc2 hc3 ko nF nZ
              generalize hcc : bits .and .i64 (Pl.stF s xs ys j) 1 = c at hc3 ko nF nZ
              generalize hzz : Pl.manyZ s xs ys j = z at nZ
              have nC := Pl.carry_is ko
              rw [← nF] at nC
              have hV := Pl.addV_is ko
              obtain ⟨ka, kb, kx⟩ := Pl.two_ok ko
              obtain ⟨_, x0, x1⟩ := Pl.top_ok ka
              obtain ⟨_, y0, y1⟩ := Pl.top_ok kb
              obtain ⟨b0, b1⟩ := Pl.bit_ok kx
              generalize hVV : Pl.addV s c x y = V at hc3 nZ hV
              have hV2 := hV.symm
              have NZ := hide nZ
              have NC := hide nC
              generalize hT : Pl.top s = T at *
              have HC : Hid (∀ w, Calls Try.prog 19 #[.int .i64 s] w fun e w' => e = .returned (.int .i64 T) ∧ w' = w) := hide (fun w => by rw [← hT]; exact topOf s w)
              clear hx hy hcc hzz nF nC nZ hV hVV ko ka kb kx c1 c2 hT
              by_cases ht : T ≤ x + y + c
              · cases z
                all_goals
                  as_aux_lemma =>
                    go_wp2_with fail
                    go_region
                    go_wp2_with fail
                    refine (HC.out _).mono ?_
                    rintro e wt ⟨rfl, rfl⟩
                    go_wp2_with fail
                    go_quiet ((go_at_call 19; exact (HC.out _).mono (fun e w'' hh => ⟨hh.1, _, hh.2⟩)))
                    go_wp2_with fail
                    go_roundw
                    case rel => exact ⟨j + 1, by omega, by go_num, congrArg (Value.int .i64) (by rw [NC.out, if_pos ht]), congrArg Value.bool (by rw [NZ.out]; simp), grownBy_drewN hg _⟩
                    case measure => simp [intOf]; omega
              · cases z
                all_goals
                  as_aux_lemma =>
                    go_wp2_with fail
                    go_region
                    go_wp2_with fail
                    refine (HC.out _).mono ?_
                    rintro e wt ⟨rfl, rfl⟩
                    go_wp2_with fail
                    go_quiet ((go_at_call 19; exact (HC.out _).mono (fun e w'' hh => ⟨hh.1, _, hh.2⟩)))
                    go_wp2_with fail
                    go_roundw
                    case rel => exact ⟨j + 1, by omega, by go_num, congrArg (Value.int .i64) (by rw [NC.out, if_neg (by omega)]), congrArg Value.bool (by rw [NZ.out]; simp), grownBy_drewN hg _⟩
                    case measure => simp [intOf]; omega
            · obtain rfl : j = xs.length := by omega
              have hge : (Pl.manyL s xs ys).length ≤ xs.length := by have := E4.out; omega
              go_wp2_with fail
              go_meet
              case rel => exact below_grown0 hb4 hg
    case rest =>
      as_aux_lemma =>
        clear hb4 ra4 rb4 rl4 wa wb lx ly lL
        go_wp2_with fail
        refine (drawExtendWord _ a1 len1 cap1 (h1.kept hcut)).mono ?_
        rintro e w5 ⟨v, rfl, v0, v1, g5⟩
        have hb5 : Below w.heap.size w w5 := hcut.trans (g5.mono hcut.size)
        clear g5 hcut
        go_wp2_with fail
        refine (extendWord v _ (by omega) (by omega)).mono ?_
        rintro e wt ⟨rfl, rfl⟩
        go_wp2_with fail
        refine (specExtendWord v _).mono ?_
        rintro e wt ⟨rfl, rfl⟩
        go_wp2_with fail
        refine (drawSwapBytes _ a1 len1 cap1 (h1.kept hb5)).mono ?_
        rintro e w6 ⟨p, rfl, p0, p1, g6⟩
        have hb6 : Below w.heap.size w w6 := hb5.trans (g6.mono hb5.size)
        clear g6 hb5
        go_wp2_with fail
        refine (swapBytes p _ (by omega) (by omega)).mono ?_
        rintro e wt ⟨rfl, rfl⟩
        go_wp2_with fail
        refine (specSwapBytes p _).mono ?_
        rintro e wt ⟨rfl, rfl⟩
        go_upto_if 183 with fail
        go_cut [20, 22, 28, 29, 30, 31] (fun _ _ _ _ _ _ wx => Below w.heap.size w wx)
        case first =>
          as_aux_lemma =>
            cases k : Pl.okv 1 v
            · go_wp2_with fail
              go_meet
              case rel => exact hb6
            · obtain ⟨x1, x2, x3, x4⟩ := Pl.ext_ok k
              go_wp2_with fail
              refine (signedOf 1 v _ (by omega) (by omega)).mono ?_
              rintro e wt ⟨rfl, rfl⟩
              go_wp2_with fail
              refine (signedOf 2 (Pl.extV v) _ (by omega) (by omega)).mono ?_
              rintro e wt ⟨rfl, rfl⟩
              go_wp2_with fail
              go_meet
              case rel => exact hb6
        case rest =>
          as_aux_lemma =>
            clear hb6
            go_upto_if 205 with fail
            go_cut [25, 27, 32, 33] (fun _ _ _ _ wx => Below w.heap.size w wx)
            case first =>
              as_aux_lemma =>
                cases k : Pl.okv 2 p
                · go_wp2_with fail
                  go_meet
                  case rel => exact hcut
                · obtain ⟨x1, x2, x3, x4⟩ := Pl.swp_ok k
                  go_wp2_with fail
                  refine (swapBytes (Pl.swpV p) _ (by omega) (by omega)).mono ?_
                  rintro e wt ⟨rfl, rfl⟩
                  go_wp2_with fail
                  go_meet
                  case rel => exact hcut
            case rest =>
              as_aux_lemma =>
                go_wp2_with fail
                refine (drawCmpFlags _ a1 len1 cap1 (h1.kept hcut)).mono ?_
                rintro e w7 ⟨c, d, x, y, rfl, d0, d1, x0, x1, y0, y1, g7⟩
                have hb7 : Below w.heap.size w w7 := hcut.trans (g7.mono hcut.size)
                clear g7 hcut
                go_wp2_with fail
                refine (cmpFlags c d x y _ (by omega) (by omega) (by omega) (by omega)).mono ?_
                rintro e wt ⟨rfl, rfl⟩
                go_wp2_with fail
                refine (specCmpFlags c d x y _).mono ?_
                rintro e wt ⟨rfl, rfl⟩
                go_wp2_with fail
                refine (drawLogicFlags _ a1 len1 cap1 (h1.kept hb7)).mono ?_
                rintro e w8 ⟨i, j, q, rfl, j0, j1, q0, q1, g8⟩
                have hb8 : Below w.heap.size w w8 := hb7.trans (g8.mono hb7.size)
                clear g8 hb7
                go_wp2_with fail
                refine (logicFlags i j q _ (by omega) (by omega)).mono ?_
                rintro e wt ⟨rfl, rfl⟩
                go_wp2_with fail
                refine (specLogicFlags i j q _).mono ?_
                rintro e wt ⟨rfl, rfl⟩
                generalize k5 : (Pl.two c 0 x y && Pl.flags d) = five
                generalize k7 : (Pl.okv i q && Pl.flags j) = seven
                cases five
                · cases seven
                  · clear k5 k7
                    go_wp2_with fail
                    go_ret
                    exact ⟨rfl, hb8⟩
                  · have m3 := Pl.log_3 k7
                    have m4 := Pl.log_x k7
                    clear k5 k7
                    go_wp2_with fail
                    go_ret
                    exact ⟨rfl, hb8⟩
                · have m1 := Pl.cmp_x k5
                  have m2 := Pl.cmp_z k5
                  cases seven
                  · clear k5 k7
                    go_wp2_with fail
                    go_ret
                    exact ⟨rfl, hb8⟩
                  · have m3 := Pl.log_3 k7
                    have m4 := Pl.log_x k7
                    clear k5 k7
                    go_wp2_with fail
                    go_ret
                    exact ⟨rfl, hb8⟩

end Go.Proofs.Ytogckmalfdddcaa
