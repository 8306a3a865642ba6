/- The law on SameMemory: of whatever two buses, its Go function returns true, and no block that was there has turned. -/
import Derived.Test.YtbkafdphagmgpaaLawsBus
import Derived.Test.YtbkafdphagmgpaaImplPeek
import Derived.Deep.DeepCutAuto
namespace Go.Proofs.Ytbkafdphagmgpaa
open Go.RowKit
set_option linter.unusedVariables false

set_option maxRecDepth 100000 in
set_option maxHeartbeats 8000000 in
theorem lawSameMemory (a b : Option Addr) (ca m cb : Nat) (xs ys : List Int) (c d : Option Addr) (cc n cd : Nat) (us vs : List Int) (w : World) (hx : Came w a xs) (hy : Came w b ys) (ly : ys.length = 5 * m) (lx : xs.length ≤ 9223372036854775807) (lm : m ≤ 9223372036854775807)
    (hu : Came w c us) (hv : Came w d vs) (lv : vs.length = 5 * n) (lu : us.length ≤ 9223372036854775807) (ln : n ≤ 9223372036854775807) :
    Calls Try.prog 9 #[.agg #[.slice a xs.length ca, .slice b m cb], .agg #[.slice c us.length cc, .slice d n cd]] w fun e w' => e = .returned (.bool true) ∧ Below w.heap.size w w' := by
  have HX := hide hx
  have HY := hide hy
  have HU := hide hu
  have HV := hide hv
  have HL := hide ly
  have HM := hide lv
  have Bel := hide (kept_new (kept_alloc w (.cells #[.slice a xs.length ca, .slice b m cb] 35)) (.cells #[.slice c us.length cc, .slice d n cd] 35)).below
  have WA := hide ((Blk.new w #[.slice a xs.length ca, .slice b m cb] 35).alloc (.cells #[.slice c us.length cc, .slice d n cd] 35))
  have WB := Blk.new (w.alloc (.cells #[.slice a xs.length ca, .slice b m cb] 35)) #[.slice c us.length cc, .slice d n cd] 35
  simp only [World.size_alloc] at WB
  replace WB := hide WB
  clear hx hy hu hv ly lv
  by_cases hs : szB xs.length m 1048576 < 0
  · go_enter Try.func9, Try.ntmps9
    go_wp2_with fail
    refine (szBus _ a b ca cb xs.length m 1048576 lx lm (by decide) (by decide)).mono ?_
    rintro e w1 ⟨rfl, k⟩
    have Bn := hide (below_kept Bel.out k (by omega))
    clear k
    go_wp2_with fail
    go_ret
    exact ⟨rfl, Bn.out⟩
  have hb := szB_neg hs
  have bx : xs.length ≤ 2000000 := by omega
  have bm : m ≤ 2000000 := by omega
  obtain ⟨sl0, sl1⟩ := szB_le (by decide) hs
  have ds : decide (szB xs.length m 1048576 < 0) = false := by simpa using hs
  clear hs hb
  generalize hL : szB xs.length m 1048576 = L at sl0 sl1 ds
  have HLq := hide hL
  clear hL
  by_cases hs : szB us.length n L < 0
  · go_enter Try.func9, Try.ntmps9
    go_wp2_with fail
    refine (szBus _ a b ca cb xs.length m 1048576 lx lm (by decide) (by decide)).mono ?_
    rintro e w1 ⟨rfl, k⟩
    rw [HLq.out]
    have Beln := hide (below_kept Bel.out k (by omega))
    have WAn := hide (WA.out.kept k (by omega))
    have WBn := hide (WB.out.kept k (by omega))
    clear Bel WA WB
    have Bel := Beln
    have WA := WAn
    have WB := WBn
    clear Beln WAn WBn
    have n1 := k.size
    simp only [World.size_alloc] at n1
    clear k
    have p00 := WB.out.cell (i := 0) rfl
    have p01 := WB.out.cell (i := 1) rfl
    go_wp2_with fail
    clear p00 p01
    refine (szBus _ c d cc cd us.length n L lu ln sl0 (by omega)).mono ?_
    rintro e w2 ⟨rfl, k⟩
    have Beln := hide (below_kept Bel.out k (by omega))
    have WAn := hide (WA.out.kept k (by omega))
    have WBn := hide (WB.out.kept k (by omega))
    clear Bel WA WB
    have Bel := Beln
    have WA := WAn
    have WB := WBn
    clear Beln WAn WBn
    have n2 := k.size
    clear k
    go_wp2_with fail
    go_ret
    exact ⟨rfl, Bel.out⟩
  · have hb := szB_neg hs
    have bu : us.length ≤ 2000000 := by omega
    have bn : n ≤ 2000000 := by omega
    have ds2 : decide (szB us.length n L < 0) = false := by simpa using hs
    clear hs hb
    go_enter Try.func9, Try.ntmps9
    go_wp2_with fail
    refine (szBus _ a b ca cb xs.length m 1048576 lx lm (by decide) (by decide)).mono ?_
    rintro e w1 ⟨rfl, k⟩
    rw [HLq.out]
    have Beln := hide (below_kept Bel.out k (by omega))
    have WAn := hide (WA.out.kept k (by omega))
    have WBn := hide (WB.out.kept k (by omega))
    clear Bel WA WB
    have Bel := Beln
    have WA := WAn
    have WB := WBn
    clear Beln WAn WBn
    have n1 := k.size
    simp only [World.size_alloc] at n1
    clear k
    have p00 := WB.out.cell (i := 0) rfl
    have p01 := WB.out.cell (i := 1) rfl
    go_wp2_with fail
    clear p00 p01
    refine (szBus _ c d cc cd us.length n L lu ln sl0 (by omega)).mono ?_
    rintro e w2 ⟨rfl, k⟩
    have Beln := hide (below_kept Bel.out k (by omega))
    have WAn := hide (WA.out.kept k (by omega))
    have WBn := hide (WB.out.kept k (by omega))
    clear Bel WA WB
    have Bel := Beln
    have WA := WAn
    have WB := WBn
    clear Beln WAn WBn
    have n2 := k.size
    clear k
    have p00 := WA.out.cell (i := 0) rfl
    have p01 := WA.out.cell (i := 1) rfl
    have p10 := WB.out.cell (i := 0) rfl
    have p11 := WB.out.cell (i := 1) rfl
    go_upto_region 8 with fail
    clear ds ds2
    generalize hOK : (Pl.goodBus xs ys m && Pl.goodBus us vs n) = OK
    have HOK := hide hOK
    clear hOK
    go_cut [6, 7, 22, 23, 24, 25, 26, 27, 28, 29] (fun x y _ _ _ _ _ _ _ _ w5 => x = .bool (OK && decide (xs = us)) ∧ y = .bool OK ∧ Kept 0 0 w2 w5)
    case first =>
      go_region_with (first | (go_at_call 20; have hB3 := B3; refine (toBus _ c d cc cd n us vs (HU.out.below B3.out).1 (HV.out.below B3.out).1 bu HM.out bn).mono ?_; rintro e w4 ⟨g3, g4, rfl, o3, o4, l4, l5, l6, k⟩; have R1 := hide (Q1.out.keptS k (by omega)); have R2 := hide (Q2.out.keptS k (by omega)); have Q3 := hide o3; have Q4 := hide o4; have K4 := hide (K3.out.trans k); clear k o3 o4) | (go_at_call 20; refine (toBus _ a b ca cb m xs ys (HX.out.below Bel.out.drew).1 (HY.out.below Bel.out.drew).1 bx HL.out bm).mono ?_; rintro e w3 ⟨g1, g2, rfl, o1, o2, l1, l2, l3, kd⟩; have k := undrewK kd; have VN := hide (WB.out.kept0 k); have u0 := VN.out.cell (i := 0) rfl; have u1 := VN.out.cell (i := 1) rfl; have B3 := hide (below_kept Bel.out k (by omega)); have Q1 := hide o1; have Q2 := hide o2; have K3 := hide k; clear k kd o1 o2) | (go_at_call 33; refine (specSameMemory _ _ _ _ _ _ _ _ _ m n xs ys us vs R1.out.row R2.out.row Q3.out.row Q4.out.row bx HL.out bm bu HM.out bn).mono ?_; rw [HOK.out]; rintro e w5 ⟨rfl, k⟩; have K5 := hide (K4.out.trans k); clear k))
      all_goals
        go_wp2_with fail
        go_meet
        case rel => exact ⟨rfl, rfl, K5.out⟩
    case rest =>
      clear p00 p01 p10 p11
      obtain ⟨rfl, rfl, k⟩ := hcut
      have Beln := hide (below_kept Bel.out k (by omega))
      have WAn := hide (WA.out.kept k (by omega))
      have WBn := hide (WB.out.kept k (by omega))
      clear Bel WA WB
      have Bel := Beln
      have WA := WAn
      have WB := WBn
      clear Beln WAn WBn
      have n5 := k.size
      clear k
      have p00 := WA.out.cell (i := 0) rfl
      have p01 := WA.out.cell (i := 1) rfl
      go_wp2_with fail
      clear p00 p01
      refine (toBus _ a b ca cb m xs ys (HX.out.below Bel.out).1 (HY.out.below Bel.out).1 bx HL.out bm).mono ?_
      rintro e w6 ⟨g5, g6, rfl, o, o2, l7, l8, l9, k⟩
      have Beln := hide (below_kept Bel.out k (by omega))
      have WAn := hide (WA.out.kept k (by omega))
      have WBn := hide (WB.out.kept k (by omega))
      clear Bel WA WB
      have Bel := Beln
      have WA := WAn
      have WB := WBn
      clear Beln WAn WBn
      have O5 := hide o
      have O6 := hide o2
      clear o o2 k
      have ka := kept_alloc w6 (.cells #[.slice (some ⟨g5, 0, none⟩) xs.length xs.length, .slice (some ⟨g6, 0, none⟩) m m] 25)
      have Beln := hide (below_kept Bel.out ka (by omega))
      have WAn := hide (WA.out.kept ka (by omega))
      have WBn := hide (WB.out.kept ka (by omega))
      have O5n := hide (O5.out.keptS ka (by omega))
      have O6n := hide (O6.out.keptS ka (by omega))
      clear Bel WA WB O5 O6
      have Bel := Beln
      have WA := WAn
      have WB := WBn
      have O5 := O5n
      have O6 := O6n
      clear Beln WAn WBn O5n O6n
      have VA := hide (Blk.new w6 #[.slice (some ⟨g5, 0, none⟩) xs.length xs.length, .slice (some ⟨g6, 0, none⟩) m m] 25)
      obtain ⟨X6, hX6⟩ : ∃ X : World, X = w6.alloc (.cells #[.slice (some ⟨g5, 0, none⟩) xs.length xs.length, .slice (some ⟨g6, 0, none⟩) m m] 25) := ⟨_, rfl⟩
      have nX6 : w6.heap.size < X6.heap.size := by rw [hX6]; simp
      rw [← hX6] at Bel WA WB O5 O6 VA
      have r00 := WB.out.cell (i := 0) rfl
      rw [hX6] at r00
      have s00 := (World.cell?_alloc_lt w6 (.cells #[.slice (some ⟨g5, 0, none⟩) xs.length xs.length, .slice (some ⟨g6, 0, none⟩) m m] 25) ⟨w.heap.size + 1, 0, none⟩ (by show w.heap.size + 1 < _; omega)).symm.trans r00
      have r01 := WB.out.cell (i := 1) rfl
      rw [hX6] at r01
      have s01 := (World.cell?_alloc_lt w6 (.cells #[.slice (some ⟨g5, 0, none⟩) xs.length xs.length, .slice (some ⟨g6, 0, none⟩) m m] 25) ⟨w.heap.size + 1, 1, none⟩ (by show w.heap.size + 1 < _; omega)).symm.trans r01
      go_wp2_with fail
      rw [← hX6]
      clear ka hX6 r00 s00 r01 s01
      refine (toBus _ c d cc cd n us vs (HU.out.below Bel.out).1 (HV.out.below Bel.out).1 bu HM.out bn).mono ?_
      rintro e w7 ⟨g7, g8, rfl, o, o2, l10, l11, l12, k⟩
      have Beln := hide (below_kept Bel.out k (by omega))
      have WAn := hide (WA.out.kept k (by omega))
      have WBn := hide (WB.out.kept k (by omega))
      have O5n := hide (O5.out.keptS k (by omega))
      have O6n := hide (O6.out.keptS k (by omega))
      have VAn := hide (VA.out.kept k (by omega))
      clear Bel WA WB O5 O6 VA
      have Bel := Beln
      have WA := WAn
      have WB := WBn
      have O5 := O5n
      have O6 := O6n
      have VA := VAn
      clear Beln WAn WBn O5n O6n VAn
      have O7 := hide o
      have O8 := hide o2
      clear o o2 k
      have ka := kept_alloc w7 (.cells #[.slice (some ⟨g7, 0, none⟩) us.length us.length, .slice (some ⟨g8, 0, none⟩) n n] 25)
      have Beln := hide (below_kept Bel.out ka (by omega))
      have WAn := hide (WA.out.kept ka (by omega))
      have WBn := hide (WB.out.kept ka (by omega))
      have O5n := hide (O5.out.keptS ka (by omega))
      have O6n := hide (O6.out.keptS ka (by omega))
      have VAn := hide (VA.out.kept ka (by omega))
      have O7n := hide (O7.out.keptS ka (by omega))
      have O8n := hide (O8.out.keptS ka (by omega))
      clear Bel WA WB O5 O6 VA O7 O8
      have Bel := Beln
      have WA := WAn
      have WB := WBn
      have O5 := O5n
      have O6 := O6n
      have VA := VAn
      have O7 := O7n
      have O8 := O8n
      clear Beln WAn WBn O5n O6n VAn O7n O8n
      have VB := hide (Blk.new w7 #[.slice (some ⟨g7, 0, none⟩) us.length us.length, .slice (some ⟨g8, 0, none⟩) n n] 25)
      obtain ⟨X7, hX7⟩ : ∃ X : World, X = w7.alloc (.cells #[.slice (some ⟨g7, 0, none⟩) us.length us.length, .slice (some ⟨g8, 0, none⟩) n n] 25) := ⟨_, rfl⟩
      have nX7 : w7.heap.size < X7.heap.size := by rw [hX7]; simp
      rw [← hX7] at Bel WA WB O5 O6 VA O7 O8 VB
      have r00 := VA.out.cell (i := 0) rfl
      rw [hX7] at r00
      have s00 := (World.cell?_alloc_lt w7 (.cells #[.slice (some ⟨g7, 0, none⟩) us.length us.length, .slice (some ⟨g8, 0, none⟩) n n] 25) ⟨w6.heap.size, 0, none⟩ (by show w6.heap.size < _; omega)).symm.trans r00
      have r01 := VA.out.cell (i := 1) rfl
      rw [hX7] at r01
      have s01 := (World.cell?_alloc_lt w7 (.cells #[.slice (some ⟨g7, 0, none⟩) us.length us.length, .slice (some ⟨g8, 0, none⟩) n n] 25) ⟨w6.heap.size, 1, none⟩ (by show w6.heap.size < _; omega)).symm.trans r01
      have r10 := VB.out.cell (i := 0) rfl
      rw [hX7] at r10
      have r11 := VB.out.cell (i := 1) rfl
      rw [hX7] at r11
      go_wp2_with fail
      rw [← hX7]
      clear ka hX7 r00 s00 r01 s01 r10 r11
      refine (sameMemory _ _ _ _ _ _ _ _ _ m n xs ys us vs (O5.out.came HX.out.2) (O6.out.came HY.out.2) (O7.out.came HU.out.2) (O8.out.came HV.out.2) bx HL.out bm bu HM.out bn).mono ?_
      rw [HOK.out]
      rintro e w8 ⟨rfl, k⟩
      have Beln := hide (below_kept Bel.out k (by omega))
      have WAn := hide (WA.out.kept k (by omega))
      have WBn := hide (WB.out.kept k (by omega))
      have O5n := hide (O5.out.keptS k (by omega))
      have O6n := hide (O6.out.keptS k (by omega))
      have VAn := hide (VA.out.kept k (by omega))
      have O7n := hide (O7.out.keptS k (by omega))
      have O8n := hide (O8.out.keptS k (by omega))
      have VBn := hide (VB.out.kept k (by omega))
      clear Bel WA WB O5 O6 VA O7 O8 VB
      have Bel := Beln
      have WA := WAn
      have WB := WBn
      have O5 := O5n
      have O6 := O6n
      have VA := VAn
      have O7 := O7n
      have O8 := O8n
      have VB := VBn
      clear Beln WAn WBn O5n O6n VAn O7n O8n VBn
      have n8 := k.size
      clear k
      have p00 := WA.out.cell (i := 0) rfl
      have p01 := WA.out.cell (i := 1) rfl
      have p10 := VA.out.cell (i := 0) rfl
      have p11 := VA.out.cell (i := 1) rfl
      go_upto_region 14 with fail
      go_cut [48, 49, 50, 51, 52] (fun _ _ _ _ t w9 => t = .bool false ∧ Kept 0 0 w8 w9)
      case first =>
        go_region_with (first | (go_at_call 20; refine (toBus _ a b ca cb m xs ys (HX.out.below Bel.out.drew).1 (HY.out.below Bel.out.drew).1 bx HL.out bm).mono ?_; rintro e y7 ⟨h5, h6, rfl, o5, o6, q7, q8, q9, kd⟩; have k := undrewK kd; have VN := hide (VA.out.kept0 k); have u0 := VN.out.cell (i := 0) rfl; have u1 := VN.out.cell (i := 1) rfl; have P3 := hide (O5.out.keptS k (by omega)); have P4 := hide (O6.out.keptS k (by omega)); have P5 := hide o5; have P6 := hide o6; have K7 := hide k; clear k kd o5 o6) | (go_at_call 13; refine (eqBus _ _ _ _ _ _ _ _ _ m m xs ys xs ys P3.out.row P4.out.row P5.out.row P6.out.row bx bx HL.out HL.out bm bm).mono ?_; rintro e y8 ⟨rfl, k⟩; have K8 := hide (K7.out.trans k); clear k))
        all_goals
          go_wp2_with fail
          go_meet
          case rel => exact ⟨rfl, K8.out⟩
      case rest =>
        clear p00 p01 p10 p11
        obtain ⟨rfl, k⟩ := hcut
        have Beln := hide (below_kept Bel.out k (by omega))
        have WAn := hide (WA.out.kept k (by omega))
        have WBn := hide (WB.out.kept k (by omega))
        have O5n := hide (O5.out.keptS k (by omega))
        have O6n := hide (O6.out.keptS k (by omega))
        have VAn := hide (VA.out.kept k (by omega))
        have O7n := hide (O7.out.keptS k (by omega))
        have O8n := hide (O8.out.keptS k (by omega))
        have VBn := hide (VB.out.kept k (by omega))
        clear Bel WA WB O5 O6 VA O7 O8 VB
        have Bel := Beln
        have WA := WAn
        have WB := WBn
        have O5 := O5n
        have O6 := O6n
        have VA := VAn
        have O7 := O7n
        have O8 := O8n
        have VB := VBn
        clear Beln WAn WBn O5n O6n VAn O7n O8n VBn
        have nw9 := k.size
        clear k
        have p00 := WB.out.cell (i := 0) rfl
        have p01 := WB.out.cell (i := 1) rfl
        have p10 := VB.out.cell (i := 0) rfl
        have p11 := VB.out.cell (i := 1) rfl
        go_upto_region 16 with fail
        go_cut [53, 54, 55, 56, 57] (fun _ _ _ _ t wx => t = .bool false ∧ Below w.heap.size w wx)
        case first =>
          go_region_with (first | (go_at_call 20; refine (toBus _ c d cc cd n us vs (HU.out.below Bel.out.drew).1 (HV.out.below Bel.out.drew).1 bu HM.out bn).mono ?_; rintro e y7 ⟨h5, h6, rfl, o5, o6, q7, q8, q9, kd⟩; have k := undrewK kd; have VN := hide (VB.out.kept0 k); have u0 := VN.out.cell (i := 0) rfl; have u1 := VN.out.cell (i := 1) rfl; have P3 := hide (O7.out.keptS k (by omega)); have P4 := hide (O8.out.keptS k (by omega)); have P5 := hide o5; have P6 := hide o6; have K7 := hide (below_kept Bel.out k (by omega)); clear k kd o5 o6) | (go_at_call 13; refine (eqBus _ _ _ _ _ _ _ _ _ n n us vs us vs P3.out.row P4.out.row P5.out.row P6.out.row bu bu HM.out HM.out bn bn).mono ?_; rintro e y8 ⟨rfl, k⟩; have K8 := hide (below_kept K7.out k (by omega)); clear k))
          all_goals
            go_wp2_with fail
            go_meet
            case rel => exact ⟨rfl, K8.out⟩
        case rest =>
          clear p00 p01 p10 p11
          clear Bel
          obtain ⟨rfl, Bel⟩ := hcut
          go_wp2_with fail
          go_ret
          exact ⟨rfl, Bel⟩
end Go.Proofs.Ytbkafdphagmgpaa
