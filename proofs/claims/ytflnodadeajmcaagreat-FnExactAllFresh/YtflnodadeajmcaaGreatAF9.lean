/- Which flags of a row are dead, as the program tells it. What the program does with a unit's list: its instructions, the part of it that is straight, its skips. What the program makes of a row: its skips, its unit. -/
import Derived.Test.YtflnodadeajmcaaGreatAF7
import Derived.Deep.LoopGhost
import Derived.Test.YtflnodadeajmcaaGreatAF1
import Derived.Test.YtflnodadeajmcaaGreatAF5
import Derived.Test.YtflnodadeajmcaaGreatAF2
import Derived.Test.YtflnodadeajmcaaGreatAF4
namespace Go.Proofs.YtflnodadeajmcaaGreat
open Go.RowKit
set_option linter.unusedVariables false
set_option maxRecDepth 20000 in
set_option maxHeartbeats 8000000 in
theorem implDeadIn (w : World) (a : Option Addr) (ca n : Nat) (ys : List Int) (ha : Came w a ys) (ly : ys.length = 7 * n) (hn : n ≤ 16) (hr : Pl.rowS ys n = true) : Calls Tryz.prog 170 #[.slice a n ca] w fun e' w' => e' = .returned (.slice (some ⟨w.heap.size, 0, none⟩) n n) ∧ BOwn w' w.heap.size (Pl.deads ys n n) ∧ Kept 0 0 w w' ∧ w.heap.size < w'.heap.size := by
  have HA := hide ha
  have HY := hide ly
  have HR := hide hr
  clear ha ly hr
  have mk := mkB n hn
  have B := bown_newN w n
  rw [← Pl.deads_zero ys n] at B
  have K : Kept 0 0 w (w.alloc (.cells (Array.replicate n (.bool false)) 4)) := kept_alloc _ _
  have S : w.heap.size < (w.alloc (.cells (Array.replicate n (.bool false)) 4)).heap.size := by rw [World.size_alloc]; omega
  go_enter Tryz.func170, Tryz.ntmps170
  go_wp2_with fail
  go_step3
  go_wp2_with fail
  go_step3
  go_wp2_with fail
  clear mk
  generalize w.alloc (.cells (Array.replicate n (.bool false)) 4) = W0 at *
  go_loopg [4] n (fun gn lf wr => gn ≤ n ∧ lf = .int .i64 (gn : Int) ∧ (gn = 0 ∨ Pl.needs ys n (n - gn) = 31) ∧ BOwn wr w.heap.size (Pl.deads ys n (n - gn)) ∧ Kept 0 0 w wr ∧ w.heap.size < wr.heap.size)
  case atStart => exact ⟨Nat.le_refl _, rfl, .inr (by rw [Nat.sub_self]; rfl), by rw [Nat.sub_self]; exact B, K, S⟩
  case round =>
    obtain ⟨hg, rfl, hN, hown, hK, hS⟩ := hrel
    have HN := hide hN
    have HO1 := hide hown
    have HK1 := hide hK
    have HS1 := hide hS
    clear hN hown hK hS B K S
    cases gk with
    | zero =>
      have h0 : ¬ ((0 : Int) < ((0 : Nat) : Int)) := by omega
      go_wp2_with fail
      (first | rw [Exit.noGoto_ret] | skip)
      go_ret
      exact ⟨rfl, by rw [Nat.sub_zero] at HO1; exact HO1.out, HK1.out, HS1.out⟩
    | succ go =>
      have h1 : (0 : Int) < ((go + 1 : Nat) : Int) := by omega
      have h2 : (0 : Int) < (go : Int) + 1 := by omega
      have E31 : Hid (Pl.needs ys n (n - (go + 1)) = 31) := hide (by rcases HN.out with h | h <;> first | omega | exact h)
      go_wp2_with fail
      clear h1 h2
      go_loopg [4, 5] (go + 1) (fun g2 lf nd wy => g2 ≤ go + 1 ∧ lf = .int .i64 (g2 : Int) ∧ nd = iv (Pl.needs ys n (n - g2)) ∧ BOwn wy w.heap.size (Pl.deads ys n (n - g2)) ∧ Kept 0 0 w wy ∧ w.heap.size < wy.heap.size)
      case atStart => exact ⟨Nat.le_refl _, rfl, by rw [E31.out], HO1.out, HK1.out, HS1.out⟩
      case round =>
        obtain ⟨hg2, rfl, rfl, hown, hK, hS⟩ := hrel
        clear HO1 HK1 HS1 E31 HN
        have HO := hide hown
        have HK := hide hK
        have HS := hide hS
        clear hown hK hS
        cases gk with
        | zero =>
          have h0 : ¬ ((0 : Int) < ((0 : Nat) : Int)) := by omega
          go_wp2_with fail
          go_roundg 0
          case measure => omega
          case rel => exact ⟨by omega, rfl, .inl rfl, HO.out, HK.out, HS.out⟩
        | succ k =>
          have hk : k < n := by omega
          have h1 : (0 : Int) < ((k + 1 : Nat) : Int) := by omega
          have h2 : (0 : Int) < (k : Int) + 1 := by omega
          have ew1 : IntKind.i64.wrap (((k + 1 : Nat) : Int) - 1) = (k : Int) := by rw [IntKind.wrap_i64]; omega
          have ew2 : IntKind.i64.wrap (k : Int) = (k : Int) := by rw [IntKind.wrap_i64]; omega
          obtain ⟨g1, o1, rfl, p0, p1, p2, p3, p4, p5, p6⟩ := (HA.out.1.keptS HK.out).at7 HY.out hk
          have B0 := hide (Blk.new wr #[iv (el ys (k * 7)), iv (el ys (k * 7 + 1)), iv (el ys (k * 7 + 2)), iv (el ys (k * 7 + 3)), iv (el ys (k * 7 + 4)), iv (el ys (k * 7 + 5)), iv (el ys (k * 7 + 6))] 124)
          have D0 := hide (Pl.inD_of (Pl.rowS_at HR.out hk))
          have F0 := hide (Pl.needs_in (i := n - (k + 1)) HR.out (by omega))
          have NB : Hid (Pl.needs ys n (n - k) = Pl.needB (Pl.inAt ys k) (Pl.needs ys n (n - (k + 1)))) := hide (by
            rw [show n - k = (n - (k + 1)) + 1 from by omega]
            show Pl.needB (Pl.inAt ys (n - (n - (k + 1) + 1))) _ = _
            rw [show n - (n - (k + 1) + 1) = k from by omega])
          have DS : Hid ((Pl.deads ys n (n - (k + 1))).set k (Pl.deadB (Pl.inAt ys k) (Pl.needs ys n (n - (k + 1)))) = Pl.deads ys n (n - k)) := hide (by
            have q := Pl.deads_set ys n (n - (k + 1)) (by omega)
            rw [show n - (n - (k + 1) + 1) = k from by omega, show n - (k + 1) + 1 = n - k from by omega] at q
            exact q)
          obtain ⟨N, hN⟩ : ∃ N, N = Pl.needs ys n (n - (k + 1)) := ⟨_, rfl⟩
          rw [← hN] at NB DS F0 ⊢
          obtain ⟨DD, hDD⟩ : ∃ DD, DD = Pl.deadB (Pl.inAt ys k) N := ⟨_, rfl⟩
          rw [← hDD] at DS
          have HDD := hide hDD
          have HNN := hide hN
          clear hN hDD
          have hki : (k : Int) < (n : Int) := by omega
          have hki0 : (0 : Int) ≤ (k : Int) := by omega
          have hne : wr.heap.size ≠ w.heap.size := by have := HS.out; omega
          cases hf : Pl.mayF (Pl.inAt ys k)
          · go_wp2_with (first | (go_at_call 187; refine (areDeadI _ (el ys (k * 7)) (el ys (k * 7 + 1)) (el ys (k * 7 + 2)) (el ys (k * 7 + 3)) (el ys (k * 7 + 4)) (el ys (k * 7 + 5)) (el ys (k * 7 + 6)) N D0.out).mono ?_; rw [show Pl.deadB ⟨el ys (k * 7), el ys (k * 7 + 1), el ys (k * 7 + 2), el ys (k * 7 + 3), el ys (k * 7 + 4), el ys (k * 7 + 5), el ys (k * 7 + 6)⟩ N = Pl.deadB (Pl.inAt ys k) N from rfl, ← HDD.out]; rintro e9 w2 ⟨rfl, k2⟩; have B2 := hide (B0.out.kept0 k2); have K2 := hide ((kept_new HK.out _).trans k2); have p2 := B2.out.all; have O2 := hide (HO.out.keptS ((kept_alloc wr _).trans k2) (by omega)); obtain ⟨hc2, hf2⟩ := O2.out k (by rw [Pl.deads_len]; omega); have q3 := (B2.out.other w.heap.size k (.bool DD) hne).all; have s2 : wr.heap.size < w2.heap.size := B2.out.lt; clear k2) | (go_at_call 188; refine (implMayF _ (el ys (k * 7)) (el ys (k * 7 + 1)) (el ys (k * 7 + 2)) (el ys (k * 7 + 3)) (el ys (k * 7 + 4)) (el ys (k * 7 + 5)) (el ys (k * 7 + 6)) D0.out).mono ?_; rw [show Pl.mayF ⟨el ys (k * 7), el ys (k * 7 + 1), el ys (k * 7 + 2), el ys (k * 7 + 3), el ys (k * 7 + 4), el ys (k * 7 + 5), el ys (k * 7 + 6)⟩ = Pl.mayF (Pl.inAt ys k) from rfl, hf]; rintro e9 w3 ⟨rfl, k3⟩; have O3 := hide ((O2.out.set DD).keptS k3 (by omega)); have B3 := hide ((B2.out.other w.heap.size k (.bool DD) hne).kept0 k3); have K3 := hide ((kept_set K2.out _ _ _ (.inr (Nat.le_refl _))).trans k3); have SZ3 : w.heap.size < w3.heap.size := (by have := B3.out.lt; have := HS.out; omega); clear k3))
            clear q3 p2 hc2 hf2
            go_region_held3 (fun w' => w'.cell? ⟨wr.heap.size, 0, none⟩ = some (iv (el ys (k * 7))) ∧ w'.cell? ⟨wr.heap.size, 1, none⟩ = some (iv (el ys (k * 7 + 1))) ∧ w'.cell? ⟨wr.heap.size, 2, none⟩ = some (iv (el ys (k * 7 + 2))) ∧ w'.cell? ⟨wr.heap.size, 3, none⟩ = some (iv (el ys (k * 7 + 3))) ∧ w'.cell? ⟨wr.heap.size, 4, none⟩ = some (iv (el ys (k * 7 + 4))) ∧ w'.cell? ⟨wr.heap.size, 5, none⟩ = some (iv (el ys (k * 7 + 5))) ∧ w'.cell? ⟨wr.heap.size, 6, none⟩ = some (iv (el ys (k * 7 + 6)))) (first | with_reducible exact B5.out.c7 | with_reducible exact B4.out.c7 | exact (show Blk _ _ _ _ from B3.out).c7) (first | (go_at_call 190; have z9 := B4; refine (implSets _ (el ys (k * 7)) (el ys (k * 7 + 1)) (el ys (k * 7 + 2)) (el ys (k * 7 + 3)) (el ys (k * 7 + 4)) (el ys (k * 7 + 5)) (el ys (k * 7 + 6)) D0.out).mono ?_; rw [show Pl.sets ⟨el ys (k * 7), el ys (k * 7 + 1), el ys (k * 7 + 2), el ys (k * 7 + 3), el ys (k * 7 + 4), el ys (k * 7 + 5), el ys (k * 7 + 6)⟩ = Pl.sets (Pl.inAt ys k) from rfl]; rintro e9 w5 ⟨rfl, k5⟩; have B5 := hide (B4.out.kept0 k5); have K5 := hide (K4.out.trans k5); have O5 := hide (O4.out.keptS k5 (by omega)); clear k5) | (go_at_call 189; refine (implReads _ (el ys (k * 7)) (el ys (k * 7 + 1)) (el ys (k * 7 + 2)) (el ys (k * 7 + 3)) (el ys (k * 7 + 4)) (el ys (k * 7 + 5)) (el ys (k * 7 + 6)) D0.out).mono ?_; rw [show Pl.reads ⟨el ys (k * 7), el ys (k * 7 + 1), el ys (k * 7 + 2), el ys (k * 7 + 3), el ys (k * 7 + 4), el ys (k * 7 + 5), el ys (k * 7 + 6)⟩ = Pl.reads (Pl.inAt ys k) from rfl]; rintro e9 w4 ⟨rfl, kd⟩; have k4 := undrewK kd; have B4 := hide (B3.out.kept0 k4); have K4 := hide (K3.out.trans k4); have O4 := hide (O3.out.keptS k4 (by omega)); clear kd k4))
            go_wp2_with fail
            go_roundg k
            case measure => omega
            case rel => exact ⟨by omega, rfl, by rw [NB.out, Pl.needB_none D0.out F0.out hf], by rw [← DS.out]; exact O5.out, K5.out, by have := B5.out.lt; have := HS.out; omega⟩
          · go_wp2_with (first | (go_at_call 187; refine (areDeadI _ (el ys (k * 7)) (el ys (k * 7 + 1)) (el ys (k * 7 + 2)) (el ys (k * 7 + 3)) (el ys (k * 7 + 4)) (el ys (k * 7 + 5)) (el ys (k * 7 + 6)) N D0.out).mono ?_; rw [show Pl.deadB ⟨el ys (k * 7), el ys (k * 7 + 1), el ys (k * 7 + 2), el ys (k * 7 + 3), el ys (k * 7 + 4), el ys (k * 7 + 5), el ys (k * 7 + 6)⟩ N = Pl.deadB (Pl.inAt ys k) N from rfl, ← HDD.out]; rintro e9 w2 ⟨rfl, k2⟩; have B2 := hide (B0.out.kept0 k2); have K2 := hide ((kept_new HK.out _).trans k2); have p2 := B2.out.all; have O2 := hide (HO.out.keptS ((kept_alloc wr _).trans k2) (by omega)); obtain ⟨hc2, hf2⟩ := O2.out k (by rw [Pl.deads_len]; omega); have q3 := (B2.out.other w.heap.size k (.bool DD) hne).all; have s2 : wr.heap.size < w2.heap.size := B2.out.lt; clear k2) | (go_at_call 188; refine (implMayF _ (el ys (k * 7)) (el ys (k * 7 + 1)) (el ys (k * 7 + 2)) (el ys (k * 7 + 3)) (el ys (k * 7 + 4)) (el ys (k * 7 + 5)) (el ys (k * 7 + 6)) D0.out).mono ?_; rw [show Pl.mayF ⟨el ys (k * 7), el ys (k * 7 + 1), el ys (k * 7 + 2), el ys (k * 7 + 3), el ys (k * 7 + 4), el ys (k * 7 + 5), el ys (k * 7 + 6)⟩ = Pl.mayF (Pl.inAt ys k) from rfl, hf]; rintro e9 w3 ⟨rfl, k3⟩; have O3 := hide ((O2.out.set DD).keptS k3 (by omega)); have B3 := hide ((B2.out.other w.heap.size k (.bool DD) hne).kept0 k3); have K3 := hide ((kept_set K2.out _ _ _ (.inr (Nat.le_refl _))).trans k3); have SZ3 : w.heap.size < w3.heap.size := (by have := B3.out.lt; have := HS.out; omega); clear k3))
            go_roundg k
            case measure => omega
            case rel => exact ⟨by omega, rfl, .inr (by rw [NB.out, Pl.needB_fault D0.out F0.out hf]), by rw [← DS.out]; exact O3.out, K3.out, SZ3⟩
end Go.Proofs.YtflnodadeajmcaaGreat

namespace Go.Proofs.YtflnodadeajmcaaGreat
open Go.RowKit
set_option linter.unusedVariables false
set_option linter.unusedSimpArgs false
set_option maxHeartbeats 2000000 in
theorem instrOf (w : World) (f t : Int) (a : Option Addr) (ca n : Nat) (ys ts : List Int) (sk : List Bool) (ha : MRow w a n ys ts sk) (ly : ys.length = 7 * n) (bx : n ≤ 2000000) :
    Calls Tryz.prog 150 #[.agg #[iv f, iv t, .slice a n ca]] w fun e w' => e = .returned (.slice (some ⟨w.heap.size + 1, 0, none⟩) n n) ∧ Own w' (w.heap.size + 1) ys ∧ w.heap.size + 1 < w'.heap.size ∧ Kept 0 0 w w' := by
  obtain ⟨i, hi, hz0, hz1, hz2⟩ := info_parts Tryz.infoIns
  have K0 := hide (kept_alloc w (.cells #[iv f, iv t, .slice a n ca] 46))
  have B0 := hide (Blk.new w #[iv f, iv t, .slice a n ca] 46)
  have HA := hide ha
  have HX := hide ly
  clear ha ly
  go_enter Tryz.func150, Tryz.ntmps150
  go_wp2_with (first | (at_make; refine wpList_make_full _ rfl _ _ 131 rfl (w.heap.size + 1) 124 i (.agg #[.int .i64 0, .int .i64 0, .int .i64 0, .int .i64 0, .int .i64 0, .int .i64 0, .int .i64 0]) 7 Tryz.underlying131 hi hz0 hz1 _ _ _ _ n rfl rfl rfl rfl ?c1 ?c2 ?c3 ?_))
  case c1 => rw [hz2]; omega
  case c2 => unfold maxLen; omega
  case c3 => simp
  intro w1 hown hg
  have ho : Own w1 (w.heap.size + 1) (List.replicate (7 * n) 0) := own_of_row7 (base := w.heap.size + 1) (n := n) (cap := n) (by rw [← made7]; exact hown)
  have hs : w.heap.size + 1 < w1.heap.size := (hown.lt _ rfl).2
  have hk1 : Kept 0 0 w w1 := K0.out.trans (kept_grown hg)
  have B1 := hide (B0.out.kept0 (kept_grown hg))
  have p1 := B1.out.all
  clear hown hg
  go_wp2_with fail
  go_loopw [13] (fun j wr => ∃ (k : Nat) (zs : List Int), k ≤ n ∧ j = .int .i64 k ∧ zs.length = 7 * n ∧ Own wr (w.heap.size + 1) zs ∧ (∀ i, i < k * 7 → el zs i = el ys i) ∧ w.heap.size + 1 < wr.heap.size ∧ Kept 0 0 w wr) (fun j _ => n - (intOf j).toNat)
  case atStart => exact ⟨0, _, Nat.zero_le _, rfl, by simp, ho, fun i hi => absurd hi (by omega), hs, hk1⟩
  case round =>
    obtain ⟨k, zs, hk, rfl, hl, hown, heq, hsz, hgr⟩ := hrel
    have HE := hide heq
    have HL := hide hl
    have HO := hide hown
    have HS := hide hsz
    have HK := hide hgr
    clear heq hl hsz hgr ho hs hk1 p1
    by_cases hlt : k < n
    · obtain ⟨g1, off1, rfl, q0, q1, q2, q3, q4, q5, q6, q7, q8⟩ := (HA.out.keptS HK.out).at9 hlt
      have hk7 : k * 7 + 6 < zs.length := by have := HL.out; omega
      have O2 := hide (HO.out.keptS (kept_alloc wr (.cells #[iv (el ys (k * 7)), iv (el ys (k * 7 + 1)), iv (el ys (k * 7 + 2)), iv (el ys (k * 7 + 3)), iv (el ys (k * 7 + 4)), iv (el ys (k * 7 + 5)), iv (el ys (k * 7 + 6)), iv (el ts k), .bool (bl sk k)] 126)) (by omega))
      obtain ⟨⟨c0, c1, c2, c3, c4, c5, c6⟩, f0, f1, f2, f3, f4, f5, f6⟩ := O2.out.at7 HL.out hlt
      clear hown
      go_wp2_with fail
      go_roundw
      case rel =>
        obtain ⟨n0, n1, n2, n3, n4, n5, n6⟩ := set7_new (a := el ys (k * 7)) (b := el ys (k * 7 + 1)) (c := el ys (k * 7 + 2)) (d := el ys (k * 7 + 3)) (e := el ys (k * 7 + 4)) (f := el ys (k * 7 + 5)) (x := el ys (k * 7 + 6)) hk7
        exact ⟨k + 1, set7 zs k _ _ _ _ _ _ _, by omega, by go_num, by rw [set7_len]; exact HL.out, O2.out.set7 k _ _ _ _ _ _ _, snoc7 (fun i hi => (set7_old hi).trans (HE.out i hi)) n0 n1 n2 n3 n4 n5 n6, by have := HS.out; simp; omega, (kept_set (kept_set (kept_set (kept_set (kept_set (kept_set (kept_set (kept_new HK.out _) _ _ _ (.inr (by omega))) _ _ _ (.inr (by omega))) _ _ _ (.inr (by omega))) _ _ _ (.inr (by omega))) _ _ _ (.inr (by omega))) _ _ _ (.inr (by omega))) _ _ _ (.inr (by omega)))⟩
      case measure => simp [intOf]; omega
    · clear hown
      go_wp2
      go_ret
      have e : zs = ys := ext_of (HL.out.trans HX.out.symm) (fun i hi => HE.out i (by have := HL.out; omega))
      exact ⟨rfl, by rw [← e]; exact HO.out, HS.out, HK.out⟩
theorem isCodePlace (w : World) (q : Int) : Calls Tryz.prog 44 #[iv q] w fun e w' => e = .returned (.bool (decide (0 ≤ q) && (decide (q ≤ 512) && (q % 2 == 0)))) ∧ w' = w := by
  cases h0 : decide ((0 : Int) ≤ q)
  · go_enter Tryz.func44, Tryz.ntmps44
    go_wp2_with fail
    go_ret
    exact ⟨rB (by simp), rfl⟩
  · cases h1 : decide (q ≤ 512)
    · go_enter Tryz.func44, Tryz.ntmps44
      go_wp2_with fail
      go_ret
      exact ⟨rB (by simp), rfl⟩
    · have q0 : 0 ≤ q := by simpa using h0
      have q1 : q ≤ 512 := by simpa using h1
      cases h2 : decide (q % 2 = 1)
      all_goals
        go_enter Tryz.func44, Tryz.ntmps44
        go_wp2_with (first | (go_at_call 74; refine (isOdd _ _ q0 (by omega)).mono ?_; rintro e w' ⟨rfl, hw9⟩; have hw8 := hw9.symm; clear hw9; subst hw8; rw [h2]))
        go_ret
        exact ⟨rB (by simp at h2 ⊢; omega), rfl⟩
set_option maxRecDepth 20000 in
set_option maxHeartbeats 4000000 in
theorem implPart (w : World) (a : Option Addr) (ca n : Nat) (ys : List Int) (ha : Came w a ys) (ly : ys.length = 7 * n) (n1 : 1 ≤ n) (hn : n ≤ 2000000) (hc : n ≤ ca) (hok : Pl.inOk (Pl.inAt ys (n - 1)) = true) :
    Calls Tryz.prog 171 #[.slice a n ca] w fun e w' => e = .returned (.slice a (Pl.headN ys n) ca) ∧ Kept 0 0 w w' := by
  have HA := hide ha
  have HY := hide ly
  obtain ⟨m, rfl⟩ : ∃ m, n = m + 1 := ⟨n - 1, by omega⟩
  rw [Nat.add_sub_cancel] at hok
  obtain ⟨g1, off1, rfl, p0, p1, p2, p3, p4, p5, p6⟩ := HA.out.1.at7 HY.out (show m < m + 1 by omega)
  clear ha ly
  cases hs : Pl.straight (Pl.inAt ys m)
  · have hh : Hid (Pl.headN ys (m + 1) = m) := hide (by unfold Pl.headN; rw [Nat.add_sub_cancel, hs]; simp)
    go_enter Tryz.func171, Tryz.ntmps171
    go_wp2_with (first | (go_at_call 134; refine (implStr _ (el ys (m * 7)) (el ys (m * 7 + 1)) (el ys (m * 7 + 2)) (el ys (m * 7 + 3)) (el ys (m * 7 + 4)) (el ys (m * 7 + 5)) (el ys (m * 7 + 6)) (Pl.inD_of hok)).mono ?_; rw [show Pl.straight ⟨el ys (m * 7), el ys (m * 7 + 1), el ys (m * 7 + 2), el ys (m * 7 + 3), el ys (m * 7 + 4), el ys (m * 7 + 5), el ys (m * 7 + 6)⟩ = Pl.straight (Pl.inAt ys m) from rfl, hs]; rintro e9 w5 ⟨rfl, k5⟩; have K5 := hide ((Kept.refl 0 0 w).trans k5); clear k5))
    go_ret
    exact ⟨by rw [hh.out]; rfl, K5.out⟩
  · have hh : Hid (Pl.headN ys (m + 1) = m + 1) := hide (by unfold Pl.headN; rw [Nat.add_sub_cancel, hs]; simp)
    go_enter Tryz.func171, Tryz.ntmps171
    go_wp2_with (first | (go_at_call 134; refine (implStr _ (el ys (m * 7)) (el ys (m * 7 + 1)) (el ys (m * 7 + 2)) (el ys (m * 7 + 3)) (el ys (m * 7 + 4)) (el ys (m * 7 + 5)) (el ys (m * 7 + 6)) (Pl.inD_of hok)).mono ?_; rw [show Pl.straight ⟨el ys (m * 7), el ys (m * 7 + 1), el ys (m * 7 + 2), el ys (m * 7 + 3), el ys (m * 7 + 4), el ys (m * 7 + 5), el ys (m * 7 + 6)⟩ = Pl.straight (Pl.inAt ys m) from rfl, hs]; rintro e9 w5 ⟨rfl, k5⟩; have K5 := hide ((Kept.refl 0 0 w).trans k5); clear k5))
    go_ret
    exact ⟨by rw [hh.out]; rfl, K5.out⟩
theorem Came.take {w : World} {a : Option Addr} {xs : List Int} (h : Came w a xs) (m : Nat) : Came w a (xs.take m) := by
  refine ⟨?_, ?_⟩
  · intro i hi
    have hi2 : i < m ∧ i < xs.length := by rw [List.length_take] at hi; omega
    obtain ⟨g, o, e, c⟩ := h.1 i hi2.2
    refine ⟨g, o, e, ?_⟩
    rw [List.getElem?_take, if_pos hi2.1]
    exact c
  · intro i hi
    have hi2 : i < m ∧ i < xs.length := by rw [List.length_take] at hi; omega
    rw [List.getElem?_take, if_pos hi2.1]
    exact h.2 i hi2.2
/-- a block's row of instructions, as the program tells it -/
def Pl.blockOk (ys : List Int) (n : Nat) : Bool := decide (1 ≤ n) && (decide (n ≤ 8) && (Pl.inOk (Pl.inAt ys (n - 1)) && Pl.rowS ys (Pl.headN ys n)))
theorem head_row {ys : List Int} {n m : Nat} (hl : ys.length = 7 * n) (hm : m ≤ n) : (ys.take (7 * m)).length = 7 * m ∧ Pl.rowS (ys.take (7 * m)) m = Pl.rowS ys m ∧ Pl.deads (ys.take (7 * m)) m m = Pl.deads ys m m :=
  ⟨by rw [List.length_take]; omega, Pl.rowS_eq fun k hk => Pl.inAt_take hk, Pl.deads_of fun k hk => Pl.inAt_take hk⟩
set_option maxRecDepth 20000 in
set_option maxHeartbeats 4000000 in
theorem implBlock (w : World) (a : Option Addr) (ca n : Nat) (ys : List Int) (ha : Came w a ys) (ly : ys.length = 7 * n) (hn : n ≤ 2000000) (hc : n ≤ ca) :
    Calls Tryz.prog 151 #[.slice a n ca] w fun e w' => e = .returned (.bool (Pl.blockOk ys n)) ∧ Kept 0 0 w w' := by
  have HA := hide ha
  have HY := hide ly
  clear ha ly
  rcases Nat.eq_zero_or_pos n with h0 | h0
  · subst h0
    go_enter Tryz.func151, Tryz.ntmps151
    go_wp2_with fail
    go_ret
    exact ⟨rB (by simp [Pl.blockOk]), Kept.refl _ _ _⟩
  · by_cases h8 : n ≤ 8
    · obtain ⟨m, rfl⟩ : ∃ m, n = m + 1 := ⟨n - 1, by omega⟩
      obtain ⟨g1, off1, rfl, p0, p1, p2, p3, p4, p5, p6⟩ := HA.out.1.at7 HY.out (show m < m + 1 by omega)
      have hyl := HY.out
      have wa0 : (Lit.int .i64 (el ys (m * 7))).wf = true := wfAt HA.out.2 (by omega)
      have wa1 : (Lit.int .i64 (el ys (m * 7 + 1))).wf = true := wfAt HA.out.2 (by omega)
      have wa2 : (Lit.int .i64 (el ys (m * 7 + 2))).wf = true := wfAt HA.out.2 (by omega)
      have wa3 : (Lit.int .i64 (el ys (m * 7 + 3))).wf = true := wfAt HA.out.2 (by omega)
      have wa4 : (Lit.int .i64 (el ys (m * 7 + 4))).wf = true := wfAt HA.out.2 (by omega)
      have wa5 : (Lit.int .i64 (el ys (m * 7 + 5))).wf = true := wfAt HA.out.2 (by omega)
      have wa6 : (Lit.int .i64 (el ys (m * 7 + 6))).wf = true := wfAt HA.out.2 (by omega)
      have hh := Pl.headN_le ys (m + 1)
      obtain ⟨l1, l2, l3⟩ := head_row hyl hh
      have L1 := hide l1
      have L2 := hide l2
      have m8 : (m : Int) < 8 := by omega
      clear l1 l2 l3 hyl
      cases hb : Pl.inOk (Pl.inAt ys m)
      · go_enter Tryz.func151, Tryz.ntmps151
        go_wp2_with (first | (go_at_call 174; refine (implGoodIns _ (el ys (m * 7)) (el ys (m * 7 + 1)) (el ys (m * 7 + 2)) (el ys (m * 7 + 3)) (el ys (m * 7 + 4)) (el ys (m * 7 + 5)) (el ys (m * 7 + 6)) wa0 wa1 wa2 wa3 wa4 wa5 wa6).mono ?_; rw [show Pl.inOk ⟨el ys (m * 7), el ys (m * 7 + 1), el ys (m * 7 + 2), el ys (m * 7 + 3), el ys (m * 7 + 4), el ys (m * 7 + 5), el ys (m * 7 + 6)⟩ = Pl.inOk (Pl.inAt ys m) from rfl, hb]; rintro e9 w2 ⟨rfl, k2⟩; have K2 := hide k2; clear k2))
        go_ret
        exact ⟨rB (by simp [Pl.blockOk, hb]), K2.out⟩
      · obtain ⟨R, hR⟩ : ∃ R, R = Pl.rowS ys (Pl.headN ys (m + 1)) := ⟨_, rfl⟩
        have RO : Hid (Pl.rowOk (ys.take (7 * Pl.headN ys (m + 1))) (Pl.headN ys (m + 1)) = R) := hide (by unfold Pl.rowOk; rw [L2.out, ← hR]; simp; omega)
        have HR := hide hR
        obtain ⟨J, hJ⟩ : ∃ J, J = Pl.headN ys (m + 1) := ⟨_, rfl⟩
        rw [← hJ] at L1 RO hh
        have HJ := hide hJ
        clear hR hJ
        go_enter Tryz.func151, Tryz.ntmps151
        go_wp2_with (first | (go_at_call 174; refine (implGoodIns _ (el ys (m * 7)) (el ys (m * 7 + 1)) (el ys (m * 7 + 2)) (el ys (m * 7 + 3)) (el ys (m * 7 + 4)) (el ys (m * 7 + 5)) (el ys (m * 7 + 6)) wa0 wa1 wa2 wa3 wa4 wa5 wa6).mono ?_; rw [show Pl.inOk ⟨el ys (m * 7), el ys (m * 7 + 1), el ys (m * 7 + 2), el ys (m * 7 + 3), el ys (m * 7 + 4), el ys (m * 7 + 5), el ys (m * 7 + 6)⟩ = Pl.inOk (Pl.inAt ys m) from rfl, hb]; rintro e9 w2 ⟨rfl, k2⟩; have K2 := hide k2; clear k2) | (go_at_call 171; refine (implPart _ _ ca (m + 1) ys (HA.out.keptS K2.out) HY.out (by omega) hn hc hb).mono ?_; rw [← HJ.out]; rintro e9 w4 ⟨rfl, k4⟩; have K4 := hide (K2.out.trans k4); clear k4) | (go_at_call 175; refine (implRow _ _ ca J (ys.take (7 * J)) ((HA.out.keptS K4.out).take _) L1.out (by omega)).mono ?_; rw [RO.out]; rintro e9 w5 ⟨rfl, k5⟩; have K5 := hide (K4.out.trans k5); clear k5))
        go_ret
        exact ⟨rB (by simp only [Pl.blockOk, Nat.add_sub_cancel, hb, ← HR.out]; simp; omega), K5.out⟩
    · have h9 : ¬ ((n : Int) - 1 < 8) := by omega
      have h7 : (0 : Int) ≤ (n : Int) - 1 := by omega
      go_enter Tryz.func151, Tryz.ntmps151
      go_wp2_with fail
      go_ret
      exact ⟨rB (by simp [Pl.blockOk, h8]), Kept.refl _ _ _⟩
end Go.Proofs.YtflnodadeajmcaaGreat

namespace Go.Proofs.YtflnodadeajmcaaGreat
open Go.RowKit
set_option linter.unusedVariables false
set_option linter.unusedSimpArgs false
theorem news_bools {w : World} {g off : Nat} {xs : List Bool} (h : BRow w (some ⟨g, off, none⟩) xs) : ∀ j u, (xs.map Value.bool)[j]? = some u → w.cell? ((⟨g, off, none⟩ : Addr).add j) = some u := by
  intro j u hu
  have hj : j < xs.length := by
    rcases Nat.lt_or_ge j xs.length with h' | h'
    · exact h'
    · rw [List.getElem?_eq_none (by simpa using h')] at hu; cases hu
  obtain ⟨g', off', e, hc⟩ := h j hj
  cases e
  have e : u = .bool (xs[j]?.getD false) := by simpa [hj] using hu.symm
  rw [e]
  by_cases h0 : j = 0
  · subst h0; simpa [Addr.add] using hc
  · simpa [Addr.add, h0] using hc
/-- a row of bools copied over the head of a block of bools -/
theorem copy_bools (W : World) (g dCap sCap : Nat) (sp : Option Addr) (xs zs : List Bool) (hB : BBk W g zs) (hr : BRow W sp xs) (hl : xs.length ≤ zs.length) :
    ∃ W', (Builtin.copy_ #[136, 136] 3 #[.slice (some ⟨g, 0, none⟩) zs.length dCap, .slice sp xs.length sCap]).run Tryz.prog W = .ok (iv xs.length) W' ∧ BBk W' g (xs ++ zs.drop xs.length) ∧ Kept g (g + 1) W W' := by
  have HS : (Tryz.prog.info? 4).map (·.size) = some 1 := by kernel_rfl
  by_cases h0 : xs.length = 0
  · obtain rfl : xs = [] := List.eq_nil_of_length_eq_zero h0
    refine ⟨W, run_copy_none (P := Tryz.prog) W 136 136 3 4 _ _ _ _ _ _ Tryz.underlying136 HS (by simp), ?_, Kept.refl _ _ _⟩
    simpa using hB
  · obtain ⟨ga, oa, rfl, _⟩ := hr 0 (by omega)
    have h := run_copy_row Tryz.prog W 136 136 3 4 g 0 zs.length dCap ⟨ga, oa, none⟩ xs.length sCap (zs.map Value.bool).toArray 4 (xs.map Value.bool) Tryz.underlying136 HS hB (by simp only [List.length_map]; exact (Nat.min_eq_left hl).symm) (news_bools hr) (by simpa using hl) (by intro u hu; obtain ⟨z, _, rfl⟩ := List.mem_map.1 hu; rfl)
    refine ⟨_, by rw [h, List.length_map]; rfl, ?_, ?_⟩
    · have hq := Blk.setRow hB (ds := (List.take 0 (zs.map Value.bool).toArray.toList ++ xs.map Value.bool ++ List.drop (0 + (xs.map Value.bool).length) (zs.map Value.bool).toArray.toList).toArray)
      unfold BBk
      simpa using hq
    · exact ⟨rfl, rfl, rfl, by simp, fun k hk hn => setRow_other W g k _ (by omega)⟩
set_option maxRecDepth 20000 in
set_option maxHeartbeats 4000000 in
theorem implSkips (w : World) (a : Option Addr) (ca n : Nat) (ys : List Int) (ha : Came w a ys) (ly : ys.length = 7 * n) (n1 : 1 ≤ n) (n8 : n ≤ 8) (hc : n ≤ ca) (hok : Pl.inOk (Pl.inAt ys (n - 1)) = true) (hr : Pl.rowS ys (Pl.headN ys n) = true) :
    Calls Tryz.prog 135 #[.slice a n ca] w fun e w' => e = .returned (.slice (some ⟨w.heap.size, 0, none⟩) n n) ∧ BOwn w' w.heap.size (Pl.skV ys n) ∧ w.heap.size < w'.heap.size ∧ Kept 0 0 w w' := by
  have HA := hide ha
  have HY := hide ly
  have hh := Pl.headN_le ys n
  obtain ⟨l1, l2, l3⟩ := head_row ly hh
  obtain ⟨J, hJ⟩ : ∃ J, J = Pl.headN ys n := ⟨_, rfl⟩
  have HJ := hide hJ
  rw [← hJ] at l1 l2 l3 hh hr
  have L1 := hide l1
  have L2 := hide (l2.trans hr)
  have L3 := hide l3
  have mk := mkB n (by omega)
  have B := hide (bbk_newN w n)
  have K := hide (kept_alloc w (.cells (Array.replicate n (.bool false)) 4))
  have S : Hid (w.heap.size < (w.alloc (.cells (Array.replicate n (.bool false)) 4)).heap.size) := hide (by rw [World.size_alloc]; omega)
  have ES : Hid (Pl.deads ys J J ++ (List.replicate n false).drop (Pl.deads ys J J).length = Pl.skV ys n) := hide (by unfold Pl.skV; rw [← hJ, Pl.deads_len, List.drop_replicate])
  clear ha ly l1 l2 l3 hJ hr
  go_enter Tryz.func135, Tryz.ntmps135
  go_wp2_with fail
  clear mk
  generalize w.alloc (.cells (Array.replicate n (.bool false)) 4) = W0 at *
  go_wp2_with (first | (go_at_call 171; refine (implPart _ _ ca n ys (HA.out.keptS K.out) HY.out n1 (by omega) hc hok).mono ?_; rw [← HJ.out]; rintro e9 w4 ⟨rfl, k4⟩; have K4 := hide (K.out.trans k4); have B4 := hide (B.out.keptS k4 (by omega)); have q4 := k4.size; clear k4) | (go_at_call 170; refine (implDeadIn _ _ ca J (ys.take (7 * J)) ((HA.out.keptS K4.out).take _) L1.out (by omega) L2.out).mono ?_; rw [L3.out]; rintro e9 w5 ⟨rfl, o5, k5, s5⟩; have K5 := hide (K4.out.trans k5); have B5 := B4.out.keptS k5 (by omega); obtain ⟨W7, hcp, C7, k7⟩ := copy_bools w5 w.heap.size n J (some ⟨w4.heap.size, 0, none⟩) _ _ B5 o5.row (by rw [Pl.deads_len, List.length_replicate]; omega); rw [Pl.deads_len, List.length_replicate] at hcp; rw [ES.out] at C7; have CC := hide C7; have K7 := hide (kept_over K5.out k7 (by omega)); have S7 : Hid (w.heap.size < W7.heap.size) := hide (by have h1 := S.out; have h2 := k7.size; have h3 := s5; omega); clear o5 k5 s5 B5 C7 k7))
  go_ret
  exact ⟨rfl, CC.out.own, S7.out, K7.out⟩
theorem VOwn.drew {w : World} {g : Nat} {vs : List Value} (h : VOwn w g vs) : VOwn w.drew g vs := h
theorem Blk.drew {w : World} {b : Nat} {cs : Array Value} {ty : TypeId} (h : Blk w b cs ty) : Blk w.drew b cs ty := h
theorem VOwn.head {w : World} {g : Nat} {zs vs : List Value} (h : VOwn w g zs) (hl : vs.length ≤ zs.length) (he : ∀ i, i < vs.length → vl zs i = vl vs i) : VOwn w g vs := by
  intro i hi
  obtain ⟨hc, hf⟩ := h i (by omega)
  exact ⟨by rw [← he i hi]; exact hc, hf⟩
theorem vown_of_blk {w : World} {b : Nat} {cs : Array Value} {ty : TypeId} (h : Blk w b cs ty) : VOwn w b cs.toList := by
  intro i hi
  refine ⟨h.cell (by unfold vl; simp at hi; simp [hi]), h.frozen i⟩
theorem Tryz.zeros8 : Tryz.zeroCells175.size = 72 := by kernel_rfl
set_option maxRecDepth 100000 in
set_option maxHeartbeats 16000000 in
theorem implUnitOf (w : World) (f : Int) (a : Option Addr) (ca n : Nat) (ys ts : List Int) (ha : Came w a ys) (ly : ys.length = 7 * n) (n1 : 1 ≤ n) (n8 : n ≤ 8) (hc : n ≤ ca) (hok : ∀ k, k < n → Pl.inOk (Pl.inAt ys k) = true) (hr : Pl.rowS ys (Pl.headN ys n) = true) (f0 : 0 ≤ f) (f1 : f ≤ 512) (hts : ∀ k, k < n → el ts k = Pl.placeB ys f k) :
    Calls Tryz.prog 108 #[iv f, .slice a n ca] w fun e w' => e = .returned (.agg #[iv f, iv (Pl.placeB ys f n), .slice (some ⟨w.heap.size + 1, 0, none⟩) n n]) ∧ MOwn w' (w.heap.size + 1) n ys ts (Pl.skV ys n) ∧ w.heap.size + 1 < w'.heap.size ∧ Kept 0 0 w w' := by
  have HA := hide ha
  have HY := hide ly
  have HT := hide hts
  have HOK := hide hok
  have K0 := hide (kept_new (kept_alloc w (.cells #[iv 0, iv 0, .slice none 0 0] 46)) (.cells Tryz.zeroCells175 175))
  have U0 := hide ((Blk.new w #[iv 0, iv 0, .slice none 0 0] 46).alloc (.cells Tryz.zeroCells175 175))
  have Z0 := Blk.new (w.alloc (.cells #[iv 0, iv 0, .slice none 0 0] 46)) Tryz.zeroCells175 175
  have S0 : Hid (((w.alloc (.cells #[iv 0, iv 0, .slice none 0 0] 46)).alloc (.cells Tryz.zeroCells175 175)).heap.size = w.heap.size + 1 + 1) := hide (by simp)
  simp only [World.size_alloc] at Z0
  have V0 := vown_of_blk Z0
  have HV0 := hide V0
  obtain ⟨zs0, hz0⟩ : ∃ zs0, zs0 = Tryz.zeroCells175.toList := ⟨_, rfl⟩
  have hzl : Hid (zs0.length = 9 * 8) := hide (by rw [hz0]; simp [Tryz.zeros8])
  rw [← hz0] at HV0
  clear ha ly hok hts Z0 V0 hz0
  go_enter Tryz.func108, Tryz.ntmps108
  go_wp2_with fail
  obtain ⟨W0, hW0⟩ : ∃ W0 : World, W0 = (w.alloc (.cells #[iv 0, iv 0, .slice none 0 0] 46)).alloc (.cells Tryz.zeroCells175 175) := ⟨_, rfl⟩
  rw [← hW0] at K0 U0 HV0 S0 ⊢
  clear hW0
  have s0 := S0.out
  refine (implSkips _ _ ca n ys (HA.out.keptS K0.out) HY.out n1 n8 hc (HOK.out _ (by omega)) hr).mono ?_
  rintro e9 w2 ⟨rfl, o2, s2, k2⟩
  rw [s0]
  rw [s0] at o2
  have K2 := hide (K0.out.trans k2)
  have U2 := hide (U0.out.kept0 k2)
  have V2 := hide (HV0.out.keptS k2 (by omega))
  have O2 := hide o2
  have S2 : Hid (w.heap.size + 1 + 1 < w2.heap.size) := hide (by omega)
  clear o2 s2 k2
  go_wp2_with fail
  go_loopw [7, 15] (fun at_ j wr => ∃ (k : Nat) (zs : List Value), k ≤ n ∧ j = .int .i64 k ∧ at_ = iv (Pl.placeB ys f k) ∧ zs.length = 9 * 8 ∧ VOwn wr (w.heap.size + 1) zs ∧ (∀ i, i < k * 9 → vl zs i = vl (miL ys ts (Pl.skV ys n) n) i) ∧ Kept 0 0 w wr ∧ Kept (w.heap.size + 1) (w.heap.size + 1 + 1) w2 wr) (fun _ j _ => n - (intOf j).toNat)
  case atStart => exact ⟨0, zs0, Nat.zero_le _, rfl, rfl, hzl.out, V2.out, fun i hi => absurd hi (by omega), K2.out, Kept.refl _ _ _⟩
  case round =>
    obtain ⟨k, zs, hk, rfl, rfl, hl, hown, heq, hkept, hk2⟩ := hrel
    have HE := hide heq
    have HL := hide hl
    have HO := hide hown
    have HK := hide hkept
    have HT2 := hide hk2
    clear heq hl hown hkept hk2
    obtain ⟨pl0, pl1⟩ := Pl.placeB_in ys f k
    have hws := HT2.out.size
    have hw2 := S2.out
    by_cases hlt : k < n
    · obtain ⟨g1, off1, rfl, p0, p1, p2, p3, p4, p5, p6⟩ := (HA.out.keptS HK.out).1.at7 HY.out hlt
      have BX := hide (Blk.new wr #[iv (el ys (k * 7)), iv (el ys (k * 7 + 1)), iv (el ys (k * 7 + 2)), iv (el ys (k * 7 + 3)), iv (el ys (k * 7 + 4)), iv (el ys (k * 7 + 5)), iv (el ys (k * 7 + 6))] 124)
      have O3 := hide (O2.out.keptS HT2.out (by omega))
      obtain ⟨hc9, hf9⟩ := (O3.out.keptS (kept_alloc wr (.cells #[iv (el ys (k * 7)), iv (el ys (k * 7 + 1)), iv (el ys (k * 7 + 2)), iv (el ys (k * 7 + 3)), iv (el ys (k * 7 + 4)), iv (el ys (k * 7 + 5)), iv (el ys (k * 7 + 6))] 124)) (by omega)) k (by rw [Pl.skV_len]; omega)
      rw [show (Pl.skV ys n)[k]?.getD false = bl (Pl.skV ys n) k from rfl] at hc9
      have px := BX.out.all
      have V3 := hide (HO.out.keptS (kept_alloc wr (.cells #[iv (el ys (k * 7)), iv (el ys (k * 7 + 1)), iv (el ys (k * 7 + 2)), iv (el ys (k * 7 + 3)), iv (el ys (k * 7 + 4)), iv (el ys (k * 7 + 5)), iv (el ys (k * 7 + 6))] 124)) (by omega))
      obtain ⟨⟨c0, c1, c2, c3, c4, c5, c6, c7, c8⟩, f0', f1', f2', f3', f4', f5', f6', f7', f8'⟩ := V3.out.at9 HL.out (show k < 8 by omega)
      go_wp2_with fail
      go_region_with fail
      all_goals
        obtain ⟨WY, hWY⟩ : ∃ WY : World, WY = ((((((((((wr.alloc (.cells #[iv (el ys (k * 7)), iv (el ys (k * 7 + 1)), iv (el ys (k * 7 + 2)), iv (el ys (k * 7 + 3)), iv (el ys (k * 7 + 4)), iv (el ys (k * 7 + 5)), iv (el ys (k * 7 + 6))] 124)).setCell ⟨w.heap.size + 1, k * 9, none⟩ (iv (el ys (k * 7)))).setCell ⟨w.heap.size + 1, k * 9 + 1, none⟩ (iv (el ys (k * 7 + 1)))).setCell ⟨w.heap.size + 1, k * 9 + 2, none⟩ (iv (el ys (k * 7 + 2)))).setCell ⟨w.heap.size + 1, k * 9 + 3, none⟩ (iv (el ys (k * 7 + 3)))).setCell ⟨w.heap.size + 1, k * 9 + 4, none⟩ (iv (el ys (k * 7 + 4)))).setCell ⟨w.heap.size + 1, k * 9 + 5, none⟩ (iv (el ys (k * 7 + 5)))).setCell ⟨w.heap.size + 1, k * 9 + 6, none⟩ (iv (el ys (k * 7 + 6)))).setCell ⟨w.heap.size + 1, k * 9 + 7, none⟩ (iv (Pl.placeB ys f k))).setCell ⟨w.heap.size + 1, k * 9 + 8, none⟩ (.bool (bl (Pl.skV ys n) k))).drew := ⟨_, rfl⟩
        have V4 : Hid (VOwn WY (w.heap.size + 1) (set9 zs k (iv (el ys (k * 7))) (iv (el ys (k * 7 + 1))) (iv (el ys (k * 7 + 2))) (iv (el ys (k * 7 + 3))) (iv (el ys (k * 7 + 4))) (iv (el ys (k * 7 + 5))) (iv (el ys (k * 7 + 6))) (iv (Pl.placeB ys f k)) (.bool (bl (Pl.skV ys n) k)))) := hide (by rw [hWY]; exact (V3.out.set9 k (iv (el ys (k * 7))) (iv (el ys (k * 7 + 1))) (iv (el ys (k * 7 + 2))) (iv (el ys (k * 7 + 3))) (iv (el ys (k * 7 + 4))) (iv (el ys (k * 7 + 5))) (iv (el ys (k * 7 + 6))) (iv (Pl.placeB ys f k)) (.bool (bl (Pl.skV ys n) k))).drew)
        have K4 : Hid (Kept 0 0 w WY) := hide (by rw [hWY]; exact kept_drew (kept_set (kept_set (kept_set (kept_set (kept_set (kept_set (kept_set (kept_set (kept_set (kept_new HK.out _) _ _ _ (.inr (by omega))) _ _ _ (.inr (by omega))) _ _ _ (.inr (by omega))) _ _ _ (.inr (by omega))) _ _ _ (.inr (by omega))) _ _ _ (.inr (by omega))) _ _ _ (.inr (by omega))) _ _ _ (.inr (by omega))) _ _ _ (.inr (by omega))))
        have T4 : Hid (Kept (w.heap.size + 1) (w.heap.size + 1 + 1) w2 WY) := hide (by rw [hWY]; exact kept_drew (kept_set (kept_set (kept_set (kept_set (kept_set (kept_set (kept_set (kept_set (kept_set (kept_new HT2.out _) _ _ _ (.inl (by omega))) _ _ _ (.inl (by omega))) _ _ _ (.inl (by omega))) _ _ _ (.inl (by omega))) _ _ _ (.inl (by omega))) _ _ _ (.inl (by omega))) _ _ _ (.inl (by omega))) _ _ _ (.inl (by omega))) _ _ _ (.inl (by omega))))
        have X4 : Hid (Blk WY wr.heap.size #[iv (el ys (k * 7)), iv (el ys (k * 7 + 1)), iv (el ys (k * 7 + 2)), iv (el ys (k * 7 + 3)), iv (el ys (k * 7 + 4)), iv (el ys (k * 7 + 5)), iv (el ys (k * 7 + 6))] 124) := hide (by rw [hWY]; exact ((((((((((BX.out.other _ _ _ (by omega)).other _ _ _ (by omega)).other _ _ _ (by omega)).other _ _ _ (by omega)).other _ _ _ (by omega)).other _ _ _ (by omega)).other _ _ _ (by omega)).other _ _ _ (by omega)).other _ _ _ (by omega))).drew)
        rw [← hWY]
        have hlk := HOK.out k hlt
        have hlm := Pl.modeR hlk
        have wm : (Lit.int .i64 (el ys (k * 7 + 3))).wf = true := wfSm (by have h1 : 0 ≤ el ys (k * 7 + 3) := hlm.2.2.2.2.2.1; omega) (by have h1 : el ys (k * 7 + 3) ≤ 7 := hlm.2.2.2.2.2.2.1; omega)
        have hL0 : (if Pl.lng (el ys (k * 7 + 3)) = true then (2 : Int) else 1) = Pl.lenB (Pl.inAt ys k) := by
          rw [show Pl.lng (el ys (k * 7 + 3)) = Pl.extM (Pl.inAt ys k).m from by
            unfold Pl.lng
            rw [show Pl.modeOk (el ys (k * 7 + 3)) = true from by
              have h1 : 0 ≤ (Pl.inAt ys k).m := hlm.2.2.2.2.2.1
              have h2 : (Pl.inAt ys k).m ≤ 7 := hlm.2.2.2.2.2.2.1
              have h3 : (Pl.inAt ys k).m = el ys (k * 7 + 3) := rfl
              simp [Pl.modeOk, Pl.within]; omega]
            rfl]
          rfl
        have hL2 := Pl.lenB_in (Pl.inAt ys k)
        have hP : Pl.placeB ys f (k + 1) = Pl.placeB ys f k + 2 * Pl.lenB (Pl.inAt ys k) := rfl
        obtain ⟨L, hL⟩ : ∃ L, L = Pl.lenB (Pl.inAt ys k) := ⟨_, rfl⟩
        rw [← hL] at hL0 hL2 hP
        have HL0 := hide hL0
        have HP := hide hP
        have px := X4.out.all
        clear hWY c0 c1 c2 c3 c4 c5 c6 c7 c8 f0' f1' f2' f3' f4' f5' f6' f7' f8' p0 p1 p2 p3 p4 p5 p6 hc9 hf9 hlk hlm hL hL0 hP
        go_wp2_with (first | (go_at_call 136; refine (lengthOf _ (el ys (k * 7)) (el ys (k * 7 + 1)) (el ys (k * 7 + 2)) (el ys (k * 7 + 3)) (el ys (k * 7 + 4)) (el ys (k * 7 + 5)) (el ys (k * 7 + 6)) wm).mono ?_; rw [HL0.out]; rintro e9 w6 ⟨rfl, k6⟩; have V6 := hide (V4.out.keptS k6 (by omega)); have K6 := hide (K4.out.trans k6); have T6 := hide (T4.out.trans k6.any); clear k6))
        go_roundw
        case rel =>
          have hk9 : k * 9 + 8 < zs.length := by have := HL.out; omega
          obtain ⟨n0, n1, n2, n3, n4, n5, n6, n7, n8⟩ := set9_new (a := iv (el ys (k * 7))) (b := iv (el ys (k * 7 + 1))) (c := iv (el ys (k * 7 + 2))) (d := iv (el ys (k * 7 + 3))) (e := iv (el ys (k * 7 + 4))) (f := iv (el ys (k * 7 + 5))) (x := iv (el ys (k * 7 + 6))) (t := iv (Pl.placeB ys f k)) (q := .bool (bl (Pl.skV ys n) k)) hk9
          obtain ⟨m7, m8, m9⟩ := miL_at ys ts (Pl.skV ys n) hlt
          rw [HT.out k hlt] at m8
          exact ⟨k + 1, set9 zs k _ _ _ _ _ _ _ _ _, by omega, by go_num, by rw [HP.out]; go_num, by rw [set9_len]; exact HL.out, V6.out, snoc9 (fun i hi => (set9_old hi).trans (HE.out i hi)) (n0.trans (m7 0 (by decide)).symm) (n1.trans (m7 1 (by decide)).symm) (n2.trans (m7 2 (by decide)).symm) (n3.trans (m7 3 (by decide)).symm) (n4.trans (m7 4 (by decide)).symm) (n5.trans (m7 5 (by decide)).symm) (n6.trans (m7 6 (by decide)).symm) (n7.trans m8.symm) (n8.trans m9.symm), K6.out, T6.out⟩
        case measure => simp [intOf]; omega
    · obtain rfl : k = n := by omega
      have U9 := hide (U2.out.kept HT2.out (by omega))
      have pu := U9.out.all
      have fu := U9.out.fz
      have M9 : MOwn wr (w.heap.size + 1) k ys ts (Pl.skV ys k) := HO.out.head (by rw [miL_len, HL.out]; omega) (fun i hi => HE.out i (by rw [miL_len] at hi; omega))
      have HM := hide M9
      have hsz := HK.out.size
      have n8i : (k : Int) ≤ 8 := by omega
      clear M9
      go_wp2_with fail
      refine bodyPost_ret (v := .agg #[iv f, iv (Pl.placeB ys f k), .slice (some ⟨w.heap.size + 1, 0, none⟩) k k]) ?_ rfl ⟨rfl, ?_, ?_, ?_⟩
      · rw [results_one rfl]; go_simp
      · exact ((VOwn.setOther HM.out _ _ _ (by omega)).setOther _ _ _ (by omega)).setOther _ _ _ (by omega)
      · simp only [World.size_setCell]; omega
      · exact (kept_set (kept_set (kept_set HK.out _ _ _ (.inr (by omega))) _ _ _ (.inr (by omega))) _ _ _ (.inr (by omega)))
end Go.Proofs.YtflnodadeajmcaaGreat

