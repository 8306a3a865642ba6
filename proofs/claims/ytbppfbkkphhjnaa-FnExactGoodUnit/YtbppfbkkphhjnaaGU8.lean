/- Which flags of a row are dead, as the program tells it. What the program's small functions of chapter 4 answer: addresses, parts, accesses; none writes. What the program does with a unit's list: its instructions, the part of it that is straight, its skips. What the program makes of a row: its skips, its unit. Whether the program takes two units for the same, and a unit for a good one. The laws on GoodUnit and Overlaps: of whatever unit, their Go functions return true, and no block that was there has turned. Instructions that came in to a law, and lists of them: opened out of a law's argument. Units that came in to a law: opened out of a law's argument. -/
import Derived.Test.YtbppfbkkphhjnaaGU6
import Derived.Deep.LoopGhost
import Derived.Test.YtbppfbkkphhjnaaGU1
import Derived.Test.YtbppfbkkphhjnaaGU3
import Derived.RegionTactic
import Derived.ChangeAlike
import Derived.BigRegion
import Derived.Deep.RegionWith
import Derived.Laws.Rows
import Derived.Laws.ResultCell
import Derived.Test.YtbppfbkkphhjnaaGU4
import Derived.Test.YtbppfbkkphhjnaaGU5
import Derived.Deep.RegionHeld3
import Derived.Test.YtbppfbkkphhjnaaGU7
import Derived.Lib.SmallJoins
import Derived.Deep.Slices
import Derived.ProofKit
import Derived.OpenShut
namespace Go.Proofs.Ytbppfbkkphhjnaa
open Go.RowKit
set_option linter.unusedVariables false
set_option maxRecDepth 20000 in
set_option maxHeartbeats 8000000 in
theorem implDeadIn (w : World) (a : Option Addr) (ca n : Nat) (ys : List Int) (ha : Came w a ys) (ly : ys.length = 7 * n) (hn : n ≤ 16) (hr : Pl.rowS ys n = true) : Calls Try.prog 61 #[.slice a n ca] w fun e' w' => e' = .returned (.slice (some ⟨w.heap.size, 0, none⟩) n n) ∧ BOwn w' w.heap.size (Pl.deads ys n n) ∧ Kept 0 0 w w' ∧ w.heap.size < w'.heap.size := by
  have HA := hide ha
  have HY := hide ly
  have HR := hide hr
  clear ha ly hr
  have mk := mkB n hn
  have B := bown_newN w n
  rw [← Pl.deads_zero ys n] at B
  have K : Kept 0 0 w (w.alloc (.cells (Array.replicate n (.bool false)) 4)) := kept_alloc _ _
  have S : w.heap.size < (w.alloc (.cells (Array.replicate n (.bool false)) 4)).heap.size := by rw [World.size_alloc]; omega
  go_enter Try.func61, Try.ntmps61
  go_wp2_with fail
  go_step3
  go_wp2_with fail
  go_step3
  go_wp2_with fail
  clear mk
  generalize w.alloc (.cells (Array.replicate n (.bool false)) 4) = W0 at *
  go_loopg [4] n (fun gn lf wr => gn ≤ n ∧ lf = .int .i64 (gn : Int) ∧ (gn = 0 ∨ Pl.needs ys n (n - gn) = 31) ∧ BOwn wr w.heap.size (Pl.deads ys n (n - gn)) ∧ Kept 0 0 w wr ∧ w.heap.size < wr.heap.size)
  case atStart => exact ⟨Nat.le_refl _, rfl, .inr (by rw [Nat.sub_self]; rfl), by rw [Nat.sub_self]; exact B, K, S⟩
  case round =>
    obtain ⟨hg, rfl, hN, hown, hK, hS⟩ := hrel
    have HN := hide hN
    have HO1 := hide hown
    have HK1 := hide hK
    have HS1 := hide hS
    clear hN hown hK hS B K S
    cases gk with
    | zero =>
      have h0 : ¬ ((0 : Int) < ((0 : Nat) : Int)) := by omega
      go_wp2_with fail
      (first | rw [Exit.noGoto_ret] | skip)
      go_ret
      exact ⟨rfl, by rw [Nat.sub_zero] at HO1; exact HO1.out, HK1.out, HS1.out⟩
    | succ go =>
      have h1 : (0 : Int) < ((go + 1 : Nat) : Int) := by omega
      have h2 : (0 : Int) < (go : Int) + 1 := by omega
      have E31 : Hid (Pl.needs ys n (n - (go + 1)) = 31) := hide (by rcases HN.out with h | h <;> first | omega | exact h)
      go_wp2_with fail
      clear h1 h2
      go_loopg [4, 5] (go + 1) (fun g2 lf nd wy => g2 ≤ go + 1 ∧ lf = .int .i64 (g2 : Int) ∧ nd = iv (Pl.needs ys n (n - g2)) ∧ BOwn wy w.heap.size (Pl.deads ys n (n - g2)) ∧ Kept 0 0 w wy ∧ w.heap.size < wy.heap.size)
      case atStart => exact ⟨Nat.le_refl _, rfl, by rw [E31.out], HO1.out, HK1.out, HS1.out⟩
      case round =>
        obtain ⟨hg2, rfl, rfl, hown, hK, hS⟩ := hrel
        clear HO1 HK1 HS1 E31 HN
        have HO := hide hown
        have HK := hide hK
        have HS := hide hS
        clear hown hK hS
        cases gk with
        | zero =>
          have h0 : ¬ ((0 : Int) < ((0 : Nat) : Int)) := by omega
          go_wp2_with fail
          go_roundg 0
          case measure => omega
          case rel => exact ⟨by omega, rfl, .inl rfl, HO.out, HK.out, HS.out⟩
        | succ k =>
          have hk : k < n := by omega
          have h1 : (0 : Int) < ((k + 1 : Nat) : Int) := by omega
          have h2 : (0 : Int) < (k : Int) + 1 := by omega
          have ew1 : IntKind.i64.wrap (((k + 1 : Nat) : Int) - 1) = (k : Int) := by rw [IntKind.wrap_i64]; omega
          have ew2 : IntKind.i64.wrap (k : Int) = (k : Int) := by rw [IntKind.wrap_i64]; omega
          obtain ⟨g1, o1, rfl, p0, p1, p2, p3, p4, p5, p6⟩ := (HA.out.1.keptS HK.out).at7 HY.out hk
          have B0 := hide (Blk.new wr #[iv (el ys (k * 7)), iv (el ys (k * 7 + 1)), iv (el ys (k * 7 + 2)), iv (el ys (k * 7 + 3)), iv (el ys (k * 7 + 4)), iv (el ys (k * 7 + 5)), iv (el ys (k * 7 + 6))] 44)
          have D0 := hide (Pl.inD_of (Pl.rowS_at HR.out hk))
          have F0 := hide (Pl.needs_in (i := n - (k + 1)) HR.out (by omega))
          have NB : Hid (Pl.needs ys n (n - k) = Pl.needB (Pl.inAt ys k) (Pl.needs ys n (n - (k + 1)))) := hide (by
            rw [show n - k = (n - (k + 1)) + 1 from by omega]
            show Pl.needB (Pl.inAt ys (n - (n - (k + 1) + 1))) _ = _
            rw [show n - (n - (k + 1) + 1) = k from by omega])
          have DS : Hid ((Pl.deads ys n (n - (k + 1))).set k (Pl.deadB (Pl.inAt ys k) (Pl.needs ys n (n - (k + 1)))) = Pl.deads ys n (n - k)) := hide (by
            have q := Pl.deads_set ys n (n - (k + 1)) (by omega)
            rw [show n - (n - (k + 1) + 1) = k from by omega, show n - (k + 1) + 1 = n - k from by omega] at q
            exact q)
          obtain ⟨N, hN⟩ : ∃ N, N = Pl.needs ys n (n - (k + 1)) := ⟨_, rfl⟩
          rw [← hN] at NB DS F0 ⊢
          obtain ⟨DD, hDD⟩ : ∃ DD, DD = Pl.deadB (Pl.inAt ys k) N := ⟨_, rfl⟩
          rw [← hDD] at DS
          have HDD := hide hDD
          have HNN := hide hN
          clear hN hDD
          have hki : (k : Int) < (n : Int) := by omega
          have hki0 : (0 : Int) ≤ (k : Int) := by omega
          have hne : wr.heap.size ≠ w.heap.size := by have := HS.out; omega
          cases hf : Pl.mayF (Pl.inAt ys k)
          · go_wp2_with (first | (go_at_call 78; refine (areDeadI _ (el ys (k * 7)) (el ys (k * 7 + 1)) (el ys (k * 7 + 2)) (el ys (k * 7 + 3)) (el ys (k * 7 + 4)) (el ys (k * 7 + 5)) (el ys (k * 7 + 6)) N D0.out).mono ?_; rw [show Pl.deadB ⟨el ys (k * 7), el ys (k * 7 + 1), el ys (k * 7 + 2), el ys (k * 7 + 3), el ys (k * 7 + 4), el ys (k * 7 + 5), el ys (k * 7 + 6)⟩ N = Pl.deadB (Pl.inAt ys k) N from rfl, ← HDD.out]; rintro e9 w2 ⟨rfl, k2⟩; have B2 := hide (B0.out.kept0 k2); have K2 := hide ((kept_new HK.out _).trans k2); have p2 := B2.out.all; have O2 := hide (HO.out.keptS ((kept_alloc wr _).trans k2) (by omega)); obtain ⟨hc2, hf2⟩ := O2.out k (by rw [Pl.deads_len]; omega); have q3 := (B2.out.other w.heap.size k (.bool DD) hne).all; have s2 : wr.heap.size < w2.heap.size := B2.out.lt; clear k2) | (go_at_call 79; refine (implMayF _ (el ys (k * 7)) (el ys (k * 7 + 1)) (el ys (k * 7 + 2)) (el ys (k * 7 + 3)) (el ys (k * 7 + 4)) (el ys (k * 7 + 5)) (el ys (k * 7 + 6)) D0.out).mono ?_; rw [show Pl.mayF ⟨el ys (k * 7), el ys (k * 7 + 1), el ys (k * 7 + 2), el ys (k * 7 + 3), el ys (k * 7 + 4), el ys (k * 7 + 5), el ys (k * 7 + 6)⟩ = Pl.mayF (Pl.inAt ys k) from rfl, hf]; rintro e9 w3 ⟨rfl, k3⟩; have O3 := hide ((O2.out.set DD).keptS k3 (by omega)); have B3 := hide ((B2.out.other w.heap.size k (.bool DD) hne).kept0 k3); have K3 := hide ((kept_set K2.out _ _ _ (.inr (Nat.le_refl _))).trans k3); have SZ3 : w.heap.size < w3.heap.size := (by have := B3.out.lt; have := HS.out; omega); clear k3))
            clear q3 p2 hc2 hf2
            go_region_held3 (fun w' => w'.cell? ⟨wr.heap.size, 0, none⟩ = some (iv (el ys (k * 7))) ∧ w'.cell? ⟨wr.heap.size, 1, none⟩ = some (iv (el ys (k * 7 + 1))) ∧ w'.cell? ⟨wr.heap.size, 2, none⟩ = some (iv (el ys (k * 7 + 2))) ∧ w'.cell? ⟨wr.heap.size, 3, none⟩ = some (iv (el ys (k * 7 + 3))) ∧ w'.cell? ⟨wr.heap.size, 4, none⟩ = some (iv (el ys (k * 7 + 4))) ∧ w'.cell? ⟨wr.heap.size, 5, none⟩ = some (iv (el ys (k * 7 + 5))) ∧ w'.cell? ⟨wr.heap.size, 6, none⟩ = some (iv (el ys (k * 7 + 6)))) (first | with_reducible exact B5.out.c7 | with_reducible exact B4.out.c7 | exact (show Blk _ _ _ _ from B3.out).c7) (first | (go_at_call 81; have z9 := B4; refine (implSets _ (el ys (k * 7)) (el ys (k * 7 + 1)) (el ys (k * 7 + 2)) (el ys (k * 7 + 3)) (el ys (k * 7 + 4)) (el ys (k * 7 + 5)) (el ys (k * 7 + 6)) D0.out).mono ?_; rw [show Pl.sets ⟨el ys (k * 7), el ys (k * 7 + 1), el ys (k * 7 + 2), el ys (k * 7 + 3), el ys (k * 7 + 4), el ys (k * 7 + 5), el ys (k * 7 + 6)⟩ = Pl.sets (Pl.inAt ys k) from rfl]; rintro e9 w5 ⟨rfl, k5⟩; have B5 := hide (B4.out.kept0 k5); have K5 := hide (K4.out.trans k5); have O5 := hide (O4.out.keptS k5 (by omega)); clear k5) | (go_at_call 80; refine (implReads _ (el ys (k * 7)) (el ys (k * 7 + 1)) (el ys (k * 7 + 2)) (el ys (k * 7 + 3)) (el ys (k * 7 + 4)) (el ys (k * 7 + 5)) (el ys (k * 7 + 6)) D0.out).mono ?_; rw [show Pl.reads ⟨el ys (k * 7), el ys (k * 7 + 1), el ys (k * 7 + 2), el ys (k * 7 + 3), el ys (k * 7 + 4), el ys (k * 7 + 5), el ys (k * 7 + 6)⟩ = Pl.reads (Pl.inAt ys k) from rfl]; rintro e9 w4 ⟨rfl, kd⟩; have k4 := undrewK kd; have B4 := hide (B3.out.kept0 k4); have K4 := hide (K3.out.trans k4); have O4 := hide (O3.out.keptS k4 (by omega)); clear kd k4))
            go_wp2_with fail
            go_roundg k
            case measure => omega
            case rel => exact ⟨by omega, rfl, by rw [NB.out, Pl.needB_none D0.out F0.out hf], by rw [← DS.out]; exact O5.out, K5.out, by have := B5.out.lt; have := HS.out; omega⟩
          · go_wp2_with (first | (go_at_call 78; refine (areDeadI _ (el ys (k * 7)) (el ys (k * 7 + 1)) (el ys (k * 7 + 2)) (el ys (k * 7 + 3)) (el ys (k * 7 + 4)) (el ys (k * 7 + 5)) (el ys (k * 7 + 6)) N D0.out).mono ?_; rw [show Pl.deadB ⟨el ys (k * 7), el ys (k * 7 + 1), el ys (k * 7 + 2), el ys (k * 7 + 3), el ys (k * 7 + 4), el ys (k * 7 + 5), el ys (k * 7 + 6)⟩ N = Pl.deadB (Pl.inAt ys k) N from rfl, ← HDD.out]; rintro e9 w2 ⟨rfl, k2⟩; have B2 := hide (B0.out.kept0 k2); have K2 := hide ((kept_new HK.out _).trans k2); have p2 := B2.out.all; have O2 := hide (HO.out.keptS ((kept_alloc wr _).trans k2) (by omega)); obtain ⟨hc2, hf2⟩ := O2.out k (by rw [Pl.deads_len]; omega); have q3 := (B2.out.other w.heap.size k (.bool DD) hne).all; have s2 : wr.heap.size < w2.heap.size := B2.out.lt; clear k2) | (go_at_call 79; refine (implMayF _ (el ys (k * 7)) (el ys (k * 7 + 1)) (el ys (k * 7 + 2)) (el ys (k * 7 + 3)) (el ys (k * 7 + 4)) (el ys (k * 7 + 5)) (el ys (k * 7 + 6)) D0.out).mono ?_; rw [show Pl.mayF ⟨el ys (k * 7), el ys (k * 7 + 1), el ys (k * 7 + 2), el ys (k * 7 + 3), el ys (k * 7 + 4), el ys (k * 7 + 5), el ys (k * 7 + 6)⟩ = Pl.mayF (Pl.inAt ys k) from rfl, hf]; rintro e9 w3 ⟨rfl, k3⟩; have O3 := hide ((O2.out.set DD).keptS k3 (by omega)); have B3 := hide ((B2.out.other w.heap.size k (.bool DD) hne).kept0 k3); have K3 := hide ((kept_set K2.out _ _ _ (.inr (Nat.le_refl _))).trans k3); have SZ3 : w.heap.size < w3.heap.size := (by have := B3.out.lt; have := HS.out; omega); clear k3))
            go_roundg k
            case measure => omega
            case rel => exact ⟨by omega, rfl, .inr (by rw [NB.out, Pl.needB_fault D0.out F0.out hf]), by rw [← DS.out]; exact O3.out, K3.out, SZ3⟩
end Go.Proofs.Ytbppfbkkphhjnaa

namespace Go.Proofs.Ytbppfbkkphhjnaa
open Go.RowKit
set_option linter.unusedVariables false

theorem isOdd (a : Int) (w : World) (h0 : 0 ≤ a) (h1 : a ≤ 65535) : Calls Try.prog 40 #[iv a] w fun e w' => e = .returned (.bool (decide (a % 2 = 1))) ∧ w' = w := by
  go_enter Try.func40, Try.ntmps40
  go_wp2
  go_ret
  refine ⟨rB ?_, rfl⟩
  rw [Bool.eq_iff_iff]
  simp
  omega
namespace Pl
end Pl
end Go.Proofs.Ytbppfbkkphhjnaa

namespace Go.Proofs.Ytbppfbkkphhjnaa
open Go.RowKit
set_option linter.unusedVariables false
set_option linter.unusedSimpArgs false
set_option maxHeartbeats 2000000 in
theorem instrOf (w : World) (f t : Int) (a : Option Addr) (ca n : Nat) (ys ts : List Int) (sk : List Bool) (ha : MRow w a n ys ts sk) (ly : ys.length = 7 * n) (bx : n ≤ 2000000) :
    Calls Try.prog 20 #[.agg #[iv f, iv t, .slice a n ca]] w fun e w' => e = .returned (.slice (some ⟨w.heap.size + 1, 0, none⟩) n n) ∧ Own w' (w.heap.size + 1) ys ∧ w.heap.size + 1 < w'.heap.size ∧ Kept 0 0 w w' := by
  obtain ⟨i, hi, hz0, hz1, hz2⟩ := info_parts Try.infoIns
  have K0 := hide (kept_alloc w (.cells #[iv f, iv t, .slice a n ca] 29))
  have B0 := hide (Blk.new w #[iv f, iv t, .slice a n ca] 29)
  have HA := hide ha
  have HX := hide ly
  clear ha ly
  go_enter Try.func20, Try.ntmps20
  go_wp2_with (first | (at_make; refine wpList_make_full _ rfl _ _ 37 rfl (w.heap.size + 1) 44 i (.agg #[.int .i64 0, .int .i64 0, .int .i64 0, .int .i64 0, .int .i64 0, .int .i64 0, .int .i64 0]) 7 Try.underlying37 hi hz0 hz1 _ _ _ _ n rfl rfl rfl rfl ?c1 ?c2 ?c3 ?_))
  case c1 => rw [hz2]; omega
  case c2 => unfold maxLen; omega
  case c3 => simp
  intro w1 hown hg
  have ho : Own w1 (w.heap.size + 1) (List.replicate (7 * n) 0) := own_of_row7 (base := w.heap.size + 1) (n := n) (cap := n) (by rw [← made7]; exact hown)
  have hs : w.heap.size + 1 < w1.heap.size := (hown.lt _ rfl).2
  have hk1 : Kept 0 0 w w1 := K0.out.trans (kept_grown hg)
  have B1 := hide (B0.out.kept0 (kept_grown hg))
  have p1 := B1.out.all
  clear hown hg
  go_wp2_with fail
  go_loopw [13] (fun j wr => ∃ (k : Nat) (zs : List Int), k ≤ n ∧ j = .int .i64 k ∧ zs.length = 7 * n ∧ Own wr (w.heap.size + 1) zs ∧ (∀ i, i < k * 7 → el zs i = el ys i) ∧ w.heap.size + 1 < wr.heap.size ∧ Kept 0 0 w wr) (fun j _ => n - (intOf j).toNat)
  case atStart => exact ⟨0, _, Nat.zero_le _, rfl, by simp, ho, fun i hi => absurd hi (by omega), hs, hk1⟩
  case round =>
    obtain ⟨k, zs, hk, rfl, hl, hown, heq, hsz, hgr⟩ := hrel
    have HE := hide heq
    have HL := hide hl
    have HO := hide hown
    have HS := hide hsz
    have HK := hide hgr
    clear heq hl hsz hgr ho hs hk1 p1
    by_cases hlt : k < n
    · obtain ⟨g1, off1, rfl, q0, q1, q2, q3, q4, q5, q6, q7, q8⟩ := (HA.out.keptS HK.out).at9 hlt
      have hk7 : k * 7 + 6 < zs.length := by have := HL.out; omega
      have O2 := hide (HO.out.keptS (kept_alloc wr (.cells #[iv (el ys (k * 7)), iv (el ys (k * 7 + 1)), iv (el ys (k * 7 + 2)), iv (el ys (k * 7 + 3)), iv (el ys (k * 7 + 4)), iv (el ys (k * 7 + 5)), iv (el ys (k * 7 + 6)), iv (el ts k), .bool (bl sk k)] 46)) (by omega))
      obtain ⟨⟨c0, c1, c2, c3, c4, c5, c6⟩, f0, f1, f2, f3, f4, f5, f6⟩ := O2.out.at7 HL.out hlt
      clear hown
      go_wp2_with fail
      go_roundw
      case rel =>
        obtain ⟨n0, n1, n2, n3, n4, n5, n6⟩ := set7_new (a := el ys (k * 7)) (b := el ys (k * 7 + 1)) (c := el ys (k * 7 + 2)) (d := el ys (k * 7 + 3)) (e := el ys (k * 7 + 4)) (f := el ys (k * 7 + 5)) (x := el ys (k * 7 + 6)) hk7
        exact ⟨k + 1, set7 zs k _ _ _ _ _ _ _, by omega, by go_num, by rw [set7_len]; exact HL.out, O2.out.set7 k _ _ _ _ _ _ _, snoc7 (fun i hi => (set7_old hi).trans (HE.out i hi)) n0 n1 n2 n3 n4 n5 n6, by have := HS.out; simp; omega, (kept_set (kept_set (kept_set (kept_set (kept_set (kept_set (kept_set (kept_new HK.out _) _ _ _ (.inr (by omega))) _ _ _ (.inr (by omega))) _ _ _ (.inr (by omega))) _ _ _ (.inr (by omega))) _ _ _ (.inr (by omega))) _ _ _ (.inr (by omega))) _ _ _ (.inr (by omega)))⟩
      case measure => simp [intOf]; omega
    · clear hown
      go_wp2
      go_ret
      have e : zs = ys := ext_of (HL.out.trans HX.out.symm) (fun i hi => HE.out i (by have := HL.out; omega))
      exact ⟨rfl, by rw [← e]; exact HO.out, HS.out, HK.out⟩
theorem isCodePlace (w : World) (q : Int) : Calls Try.prog 21 #[iv q] w fun e w' => e = .returned (.bool (decide (0 ≤ q) && (decide (q ≤ 512) && (q % 2 == 0)))) ∧ w' = w := by
  cases h0 : decide ((0 : Int) ≤ q)
  · go_enter Try.func21, Try.ntmps21
    go_wp2_with fail
    go_ret
    exact ⟨rB (by simp), rfl⟩
  · cases h1 : decide (q ≤ 512)
    · go_enter Try.func21, Try.ntmps21
      go_wp2_with fail
      go_ret
      exact ⟨rB (by simp), rfl⟩
    · have q0 : 0 ≤ q := by simpa using h0
      have q1 : q ≤ 512 := by simpa using h1
      cases h2 : decide (q % 2 = 1)
      all_goals
        go_enter Try.func21, Try.ntmps21
        go_wp2_with (first | (go_at_call 40; refine (isOdd _ _ q0 (by omega)).mono ?_; rintro e w' ⟨rfl, hw9⟩; have hw8 := hw9.symm; clear hw9; subst hw8; rw [h2]))
        go_ret
        exact ⟨rB (by simp at h2 ⊢; omega), rfl⟩
set_option maxRecDepth 20000 in
set_option maxHeartbeats 4000000 in
theorem implPart (w : World) (a : Option Addr) (ca n : Nat) (ys : List Int) (ha : Came w a ys) (ly : ys.length = 7 * n) (n1 : 1 ≤ n) (hn : n ≤ 2000000) (hc : n ≤ ca) (hok : Pl.inOk (Pl.inAt ys (n - 1)) = true) :
    Calls Try.prog 43 #[.slice a n ca] w fun e w' => e = .returned (.slice a (Pl.headN ys n) ca) ∧ Kept 0 0 w w' := by
  have HA := hide ha
  have HY := hide ly
  obtain ⟨m, rfl⟩ : ∃ m, n = m + 1 := ⟨n - 1, by omega⟩
  rw [Nat.add_sub_cancel] at hok
  obtain ⟨g1, off1, rfl, p0, p1, p2, p3, p4, p5, p6⟩ := HA.out.1.at7 HY.out (show m < m + 1 by omega)
  clear ha ly
  cases hs : Pl.straight (Pl.inAt ys m)
  · have hh : Hid (Pl.headN ys (m + 1) = m) := hide (by unfold Pl.headN; rw [Nat.add_sub_cancel, hs]; simp)
    go_enter Try.func43, Try.ntmps43
    go_wp2_with (first | (go_at_call 60; refine (implStr _ (el ys (m * 7)) (el ys (m * 7 + 1)) (el ys (m * 7 + 2)) (el ys (m * 7 + 3)) (el ys (m * 7 + 4)) (el ys (m * 7 + 5)) (el ys (m * 7 + 6)) (Pl.inD_of hok)).mono ?_; rw [show Pl.straight ⟨el ys (m * 7), el ys (m * 7 + 1), el ys (m * 7 + 2), el ys (m * 7 + 3), el ys (m * 7 + 4), el ys (m * 7 + 5), el ys (m * 7 + 6)⟩ = Pl.straight (Pl.inAt ys m) from rfl, hs]; rintro e9 w5 ⟨rfl, k5⟩; have K5 := hide ((Kept.refl 0 0 w).trans k5); clear k5))
    go_ret
    exact ⟨by rw [hh.out]; rfl, K5.out⟩
  · have hh : Hid (Pl.headN ys (m + 1) = m + 1) := hide (by unfold Pl.headN; rw [Nat.add_sub_cancel, hs]; simp)
    go_enter Try.func43, Try.ntmps43
    go_wp2_with (first | (go_at_call 60; refine (implStr _ (el ys (m * 7)) (el ys (m * 7 + 1)) (el ys (m * 7 + 2)) (el ys (m * 7 + 3)) (el ys (m * 7 + 4)) (el ys (m * 7 + 5)) (el ys (m * 7 + 6)) (Pl.inD_of hok)).mono ?_; rw [show Pl.straight ⟨el ys (m * 7), el ys (m * 7 + 1), el ys (m * 7 + 2), el ys (m * 7 + 3), el ys (m * 7 + 4), el ys (m * 7 + 5), el ys (m * 7 + 6)⟩ = Pl.straight (Pl.inAt ys m) from rfl, hs]; rintro e9 w5 ⟨rfl, k5⟩; have K5 := hide ((Kept.refl 0 0 w).trans k5); clear k5))
    go_ret
    exact ⟨by rw [hh.out]; rfl, K5.out⟩
theorem Came.take {w : World} {a : Option Addr} {xs : List Int} (h : Came w a xs) (m : Nat) : Came w a (xs.take m) := by
  refine ⟨?_, ?_⟩
  · intro i hi
    have hi2 : i < m ∧ i < xs.length := by rw [List.length_take] at hi; omega
    obtain ⟨g, o, e, c⟩ := h.1 i hi2.2
    refine ⟨g, o, e, ?_⟩
    rw [List.getElem?_take, if_pos hi2.1]
    exact c
  · intro i hi
    have hi2 : i < m ∧ i < xs.length := by rw [List.length_take] at hi; omega
    rw [List.getElem?_take, if_pos hi2.1]
    exact h.2 i hi2.2
/-- a block's row of instructions, as the program tells it -/
def Pl.blockOk (ys : List Int) (n : Nat) : Bool := decide (1 ≤ n) && (decide (n ≤ 8) && (Pl.inOk (Pl.inAt ys (n - 1)) && Pl.rowS ys (Pl.headN ys n)))
theorem head_row {ys : List Int} {n m : Nat} (hl : ys.length = 7 * n) (hm : m ≤ n) : (ys.take (7 * m)).length = 7 * m ∧ Pl.rowS (ys.take (7 * m)) m = Pl.rowS ys m ∧ Pl.deads (ys.take (7 * m)) m m = Pl.deads ys m m :=
  ⟨by rw [List.length_take]; omega, Pl.rowS_eq fun k hk => Pl.inAt_take hk, Pl.deads_of fun k hk => Pl.inAt_take hk⟩
set_option maxRecDepth 20000 in
set_option maxHeartbeats 4000000 in
theorem implBlock (w : World) (a : Option Addr) (ca n : Nat) (ys : List Int) (ha : Came w a ys) (ly : ys.length = 7 * n) (hn : n ≤ 2000000) (hc : n ≤ ca) :
    Calls Try.prog 22 #[.slice a n ca] w fun e w' => e = .returned (.bool (Pl.blockOk ys n)) ∧ Kept 0 0 w w' := by
  have HA := hide ha
  have HY := hide ly
  clear ha ly
  rcases Nat.eq_zero_or_pos n with h0 | h0
  · subst h0
    go_enter Try.func22, Try.ntmps22
    go_wp2_with fail
    go_ret
    exact ⟨rB (by simp [Pl.blockOk]), Kept.refl _ _ _⟩
  · by_cases h8 : n ≤ 8
    · obtain ⟨m, rfl⟩ : ∃ m, n = m + 1 := ⟨n - 1, by omega⟩
      obtain ⟨g1, off1, rfl, p0, p1, p2, p3, p4, p5, p6⟩ := HA.out.1.at7 HY.out (show m < m + 1 by omega)
      have hyl := HY.out
      have wa0 : (Lit.int .i64 (el ys (m * 7))).wf = true := wfAt HA.out.2 (by omega)
      have wa1 : (Lit.int .i64 (el ys (m * 7 + 1))).wf = true := wfAt HA.out.2 (by omega)
      have wa2 : (Lit.int .i64 (el ys (m * 7 + 2))).wf = true := wfAt HA.out.2 (by omega)
      have wa3 : (Lit.int .i64 (el ys (m * 7 + 3))).wf = true := wfAt HA.out.2 (by omega)
      have wa4 : (Lit.int .i64 (el ys (m * 7 + 4))).wf = true := wfAt HA.out.2 (by omega)
      have wa5 : (Lit.int .i64 (el ys (m * 7 + 5))).wf = true := wfAt HA.out.2 (by omega)
      have wa6 : (Lit.int .i64 (el ys (m * 7 + 6))).wf = true := wfAt HA.out.2 (by omega)
      have hh := Pl.headN_le ys (m + 1)
      obtain ⟨l1, l2, l3⟩ := head_row hyl hh
      have L1 := hide l1
      have L2 := hide l2
      have m8 : (m : Int) < 8 := by omega
      clear l1 l2 l3 hyl
      cases hb : Pl.inOk (Pl.inAt ys m)
      · go_enter Try.func22, Try.ntmps22
        go_wp2_with (first | (go_at_call 41; refine (implGoodIns _ (el ys (m * 7)) (el ys (m * 7 + 1)) (el ys (m * 7 + 2)) (el ys (m * 7 + 3)) (el ys (m * 7 + 4)) (el ys (m * 7 + 5)) (el ys (m * 7 + 6)) wa0 wa1 wa2 wa3 wa4 wa5 wa6).mono ?_; rw [show Pl.inOk ⟨el ys (m * 7), el ys (m * 7 + 1), el ys (m * 7 + 2), el ys (m * 7 + 3), el ys (m * 7 + 4), el ys (m * 7 + 5), el ys (m * 7 + 6)⟩ = Pl.inOk (Pl.inAt ys m) from rfl, hb]; rintro e9 w2 ⟨rfl, k2⟩; have K2 := hide k2; clear k2))
        go_ret
        exact ⟨rB (by simp [Pl.blockOk, hb]), K2.out⟩
      · obtain ⟨R, hR⟩ : ∃ R, R = Pl.rowS ys (Pl.headN ys (m + 1)) := ⟨_, rfl⟩
        have RO : Hid (Pl.rowOk (ys.take (7 * Pl.headN ys (m + 1))) (Pl.headN ys (m + 1)) = R) := hide (by unfold Pl.rowOk; rw [L2.out, ← hR]; simp; omega)
        have HR := hide hR
        obtain ⟨J, hJ⟩ : ∃ J, J = Pl.headN ys (m + 1) := ⟨_, rfl⟩
        rw [← hJ] at L1 RO hh
        have HJ := hide hJ
        clear hR hJ
        go_enter Try.func22, Try.ntmps22
        go_wp2_with (first | (go_at_call 41; refine (implGoodIns _ (el ys (m * 7)) (el ys (m * 7 + 1)) (el ys (m * 7 + 2)) (el ys (m * 7 + 3)) (el ys (m * 7 + 4)) (el ys (m * 7 + 5)) (el ys (m * 7 + 6)) wa0 wa1 wa2 wa3 wa4 wa5 wa6).mono ?_; rw [show Pl.inOk ⟨el ys (m * 7), el ys (m * 7 + 1), el ys (m * 7 + 2), el ys (m * 7 + 3), el ys (m * 7 + 4), el ys (m * 7 + 5), el ys (m * 7 + 6)⟩ = Pl.inOk (Pl.inAt ys m) from rfl, hb]; rintro e9 w2 ⟨rfl, k2⟩; have K2 := hide k2; clear k2) | (go_at_call 43; refine (implPart _ _ ca (m + 1) ys (HA.out.keptS K2.out) HY.out (by omega) hn hc hb).mono ?_; rw [← HJ.out]; rintro e9 w4 ⟨rfl, k4⟩; have K4 := hide (K2.out.trans k4); clear k4) | (go_at_call 42; refine (implRow _ _ ca J (ys.take (7 * J)) ((HA.out.keptS K4.out).take _) L1.out (by omega)).mono ?_; rw [RO.out]; rintro e9 w5 ⟨rfl, k5⟩; have K5 := hide (K4.out.trans k5); clear k5))
        go_ret
        exact ⟨rB (by simp only [Pl.blockOk, Nat.add_sub_cancel, hb, ← HR.out]; simp; omega), K5.out⟩
    · have h9 : ¬ ((n : Int) - 1 < 8) := by omega
      have h7 : (0 : Int) ≤ (n : Int) - 1 := by omega
      go_enter Try.func22, Try.ntmps22
      go_wp2_with fail
      go_ret
      exact ⟨rB (by simp [Pl.blockOk, h8]), Kept.refl _ _ _⟩
end Go.Proofs.Ytbppfbkkphhjnaa

namespace Go.Proofs.Ytbppfbkkphhjnaa
open Go.RowKit
set_option linter.unusedVariables false
set_option linter.unusedSimpArgs false
theorem news_bools {w : World} {g off : Nat} {xs : List Bool} (h : BRow w (some ⟨g, off, none⟩) xs) : ∀ j u, (xs.map Value.bool)[j]? = some u → w.cell? ((⟨g, off, none⟩ : Addr).add j) = some u := by
  intro j u hu
  have hj : j < xs.length := by
    rcases Nat.lt_or_ge j xs.length with h' | h'
    · exact h'
    · rw [List.getElem?_eq_none (by simpa using h')] at hu; cases hu
  obtain ⟨g', off', e, hc⟩ := h j hj
  cases e
  have e : u = .bool (xs[j]?.getD false) := by simpa [hj] using hu.symm
  rw [e]
  by_cases h0 : j = 0
  · subst h0; simpa [Addr.add] using hc
  · simpa [Addr.add, h0] using hc
/-- a row of bools copied over the head of a block of bools -/
theorem copy_bools (W : World) (g dCap sCap : Nat) (sp : Option Addr) (xs zs : List Bool) (hB : BBk W g zs) (hr : BRow W sp xs) (hl : xs.length ≤ zs.length) :
    ∃ W', (Builtin.copy_ #[50, 50] 3 #[.slice (some ⟨g, 0, none⟩) zs.length dCap, .slice sp xs.length sCap]).run Try.prog W = .ok (iv xs.length) W' ∧ BBk W' g (xs ++ zs.drop xs.length) ∧ Kept g (g + 1) W W' := by
  have HS : (Try.prog.info? 4).map (·.size) = some 1 := by kernel_rfl
  by_cases h0 : xs.length = 0
  · obtain rfl : xs = [] := List.eq_nil_of_length_eq_zero h0
    refine ⟨W, run_copy_none (P := Try.prog) W 50 50 3 4 _ _ _ _ _ _ Try.underlying50 HS (by simp), ?_, Kept.refl _ _ _⟩
    simpa using hB
  · obtain ⟨ga, oa, rfl, _⟩ := hr 0 (by omega)
    have h := run_copy_row Try.prog W 50 50 3 4 g 0 zs.length dCap ⟨ga, oa, none⟩ xs.length sCap (zs.map Value.bool).toArray 4 (xs.map Value.bool) Try.underlying50 HS hB (by simp only [List.length_map]; exact (Nat.min_eq_left hl).symm) (news_bools hr) (by simpa using hl) (by intro u hu; obtain ⟨z, _, rfl⟩ := List.mem_map.1 hu; rfl)
    refine ⟨_, by rw [h, List.length_map]; rfl, ?_, ?_⟩
    · have hq := Blk.setRow hB (ds := (List.take 0 (zs.map Value.bool).toArray.toList ++ xs.map Value.bool ++ List.drop (0 + (xs.map Value.bool).length) (zs.map Value.bool).toArray.toList).toArray)
      unfold BBk
      simpa using hq
    · exact ⟨rfl, rfl, rfl, by simp, fun k hk hn => setRow_other W g k _ (by omega)⟩
set_option maxRecDepth 20000 in
set_option maxHeartbeats 4000000 in
theorem implSkips (w : World) (a : Option Addr) (ca n : Nat) (ys : List Int) (ha : Came w a ys) (ly : ys.length = 7 * n) (n1 : 1 ≤ n) (n8 : n ≤ 8) (hc : n ≤ ca) (hok : Pl.inOk (Pl.inAt ys (n - 1)) = true) (hr : Pl.rowS ys (Pl.headN ys n) = true) :
    Calls Try.prog 45 #[.slice a n ca] w fun e w' => e = .returned (.slice (some ⟨w.heap.size, 0, none⟩) n n) ∧ BOwn w' w.heap.size (Pl.skV ys n) ∧ w.heap.size < w'.heap.size ∧ Kept 0 0 w w' := by
  have HA := hide ha
  have HY := hide ly
  have hh := Pl.headN_le ys n
  obtain ⟨l1, l2, l3⟩ := head_row ly hh
  obtain ⟨J, hJ⟩ : ∃ J, J = Pl.headN ys n := ⟨_, rfl⟩
  have HJ := hide hJ
  rw [← hJ] at l1 l2 l3 hh hr
  have L1 := hide l1
  have L2 := hide (l2.trans hr)
  have L3 := hide l3
  have mk := mkB n (by omega)
  have B := hide (bbk_newN w n)
  have K := hide (kept_alloc w (.cells (Array.replicate n (.bool false)) 4))
  have S : Hid (w.heap.size < (w.alloc (.cells (Array.replicate n (.bool false)) 4)).heap.size) := hide (by rw [World.size_alloc]; omega)
  have ES : Hid (Pl.deads ys J J ++ (List.replicate n false).drop (Pl.deads ys J J).length = Pl.skV ys n) := hide (by unfold Pl.skV; rw [← hJ, Pl.deads_len, List.drop_replicate])
  clear ha ly l1 l2 l3 hJ hr
  go_enter Try.func45, Try.ntmps45
  go_wp2_with fail
  clear mk
  generalize w.alloc (.cells (Array.replicate n (.bool false)) 4) = W0 at *
  go_wp2_with (first | (go_at_call 43; refine (implPart _ _ ca n ys (HA.out.keptS K.out) HY.out n1 (by omega) hc hok).mono ?_; rw [← HJ.out]; rintro e9 w4 ⟨rfl, k4⟩; have K4 := hide (K.out.trans k4); have B4 := hide (B.out.keptS k4 (by omega)); have q4 := k4.size; clear k4) | (go_at_call 61; refine (implDeadIn _ _ ca J (ys.take (7 * J)) ((HA.out.keptS K4.out).take _) L1.out (by omega) L2.out).mono ?_; rw [L3.out]; rintro e9 w5 ⟨rfl, o5, k5, s5⟩; have K5 := hide (K4.out.trans k5); have B5 := B4.out.keptS k5 (by omega); obtain ⟨W7, hcp, C7, k7⟩ := copy_bools w5 w.heap.size n J (some ⟨w4.heap.size, 0, none⟩) _ _ B5 o5.row (by rw [Pl.deads_len, List.length_replicate]; omega); rw [Pl.deads_len, List.length_replicate] at hcp; rw [ES.out] at C7; have CC := hide C7; have K7 := hide (kept_over K5.out k7 (by omega)); have S7 : Hid (w.heap.size < W7.heap.size) := hide (by have h1 := S.out; have h2 := k7.size; have h3 := s5; omega); clear o5 k5 s5 B5 C7 k7))
  go_ret
  exact ⟨rfl, CC.out.own, S7.out, K7.out⟩
theorem VOwn.drew {w : World} {g : Nat} {vs : List Value} (h : VOwn w g vs) : VOwn w.drew g vs := h
theorem Blk.drew {w : World} {b : Nat} {cs : Array Value} {ty : TypeId} (h : Blk w b cs ty) : Blk w.drew b cs ty := h
theorem VOwn.head {w : World} {g : Nat} {zs vs : List Value} (h : VOwn w g zs) (hl : vs.length ≤ zs.length) (he : ∀ i, i < vs.length → vl zs i = vl vs i) : VOwn w g vs := by
  intro i hi
  obtain ⟨hc, hf⟩ := h i (by omega)
  exact ⟨by rw [← he i hi]; exact hc, hf⟩
theorem vown_of_blk {w : World} {b : Nat} {cs : Array Value} {ty : TypeId} (h : Blk w b cs ty) : VOwn w b cs.toList := by
  intro i hi
  refine ⟨h.cell (by unfold vl; simp at hi; simp [hi]), h.frozen i⟩
theorem Try.zeros8 : Try.zeroCells68.size = 72 := by kernel_rfl
set_option maxRecDepth 100000 in
set_option maxHeartbeats 16000000 in
theorem implUnitOf (w : World) (f : Int) (a : Option Addr) (ca n : Nat) (ys ts : List Int) (ha : Came w a ys) (ly : ys.length = 7 * n) (n1 : 1 ≤ n) (n8 : n ≤ 8) (hc : n ≤ ca) (hok : ∀ k, k < n → Pl.inOk (Pl.inAt ys k) = true) (hr : Pl.rowS ys (Pl.headN ys n) = true) (f0 : 0 ≤ f) (f1 : f ≤ 512) (hts : ∀ k, k < n → el ts k = Pl.placeB ys f k) :
    Calls Try.prog 24 #[iv f, .slice a n ca] w fun e w' => e = .returned (.agg #[iv f, iv (Pl.placeB ys f n), .slice (some ⟨w.heap.size + 1, 0, none⟩) n n]) ∧ MOwn w' (w.heap.size + 1) n ys ts (Pl.skV ys n) ∧ w.heap.size + 1 < w'.heap.size ∧ Kept 0 0 w w' := by
  have HA := hide ha
  have HY := hide ly
  have HT := hide hts
  have HOK := hide hok
  have K0 := hide (kept_new (kept_alloc w (.cells #[iv 0, iv 0, .slice none 0 0] 29)) (.cells Try.zeroCells68 68))
  have U0 := hide ((Blk.new w #[iv 0, iv 0, .slice none 0 0] 29).alloc (.cells Try.zeroCells68 68))
  have Z0 := Blk.new (w.alloc (.cells #[iv 0, iv 0, .slice none 0 0] 29)) Try.zeroCells68 68
  have S0 : Hid (((w.alloc (.cells #[iv 0, iv 0, .slice none 0 0] 29)).alloc (.cells Try.zeroCells68 68)).heap.size = w.heap.size + 1 + 1) := hide (by simp)
  simp only [World.size_alloc] at Z0
  have V0 := vown_of_blk Z0
  have HV0 := hide V0
  obtain ⟨zs0, hz0⟩ : ∃ zs0, zs0 = Try.zeroCells68.toList := ⟨_, rfl⟩
  have hzl : Hid (zs0.length = 9 * 8) := hide (by rw [hz0]; simp [Try.zeros8])
  rw [← hz0] at HV0
  clear ha ly hok hts Z0 V0 hz0
  go_enter Try.func24, Try.ntmps24
  go_wp2_with fail
  obtain ⟨W0, hW0⟩ : ∃ W0 : World, W0 = (w.alloc (.cells #[iv 0, iv 0, .slice none 0 0] 29)).alloc (.cells Try.zeroCells68 68) := ⟨_, rfl⟩
  rw [← hW0] at K0 U0 HV0 S0 ⊢
  clear hW0
  have s0 := S0.out
  refine (implSkips _ _ ca n ys (HA.out.keptS K0.out) HY.out n1 n8 hc (HOK.out _ (by omega)) hr).mono ?_
  rintro e9 w2 ⟨rfl, o2, s2, k2⟩
  rw [s0]
  rw [s0] at o2
  have K2 := hide (K0.out.trans k2)
  have U2 := hide (U0.out.kept0 k2)
  have V2 := hide (HV0.out.keptS k2 (by omega))
  have O2 := hide o2
  have S2 : Hid (w.heap.size + 1 + 1 < w2.heap.size) := hide (by omega)
  clear o2 s2 k2
  go_wp2_with fail
  go_loopw [7, 15] (fun at_ j wr => ∃ (k : Nat) (zs : List Value), k ≤ n ∧ j = .int .i64 k ∧ at_ = iv (Pl.placeB ys f k) ∧ zs.length = 9 * 8 ∧ VOwn wr (w.heap.size + 1) zs ∧ (∀ i, i < k * 9 → vl zs i = vl (miL ys ts (Pl.skV ys n) n) i) ∧ Kept 0 0 w wr ∧ Kept (w.heap.size + 1) (w.heap.size + 1 + 1) w2 wr) (fun _ j _ => n - (intOf j).toNat)
  case atStart => exact ⟨0, zs0, Nat.zero_le _, rfl, rfl, hzl.out, V2.out, fun i hi => absurd hi (by omega), K2.out, Kept.refl _ _ _⟩
  case round =>
    obtain ⟨k, zs, hk, rfl, rfl, hl, hown, heq, hkept, hk2⟩ := hrel
    have HE := hide heq
    have HL := hide hl
    have HO := hide hown
    have HK := hide hkept
    have HT2 := hide hk2
    clear heq hl hown hkept hk2
    obtain ⟨pl0, pl1⟩ := Pl.placeB_in ys f k
    have hws := HT2.out.size
    have hw2 := S2.out
    by_cases hlt : k < n
    · obtain ⟨g1, off1, rfl, p0, p1, p2, p3, p4, p5, p6⟩ := (HA.out.keptS HK.out).1.at7 HY.out hlt
      have BX := hide (Blk.new wr #[iv (el ys (k * 7)), iv (el ys (k * 7 + 1)), iv (el ys (k * 7 + 2)), iv (el ys (k * 7 + 3)), iv (el ys (k * 7 + 4)), iv (el ys (k * 7 + 5)), iv (el ys (k * 7 + 6))] 44)
      have O3 := hide (O2.out.keptS HT2.out (by omega))
      obtain ⟨hc9, hf9⟩ := (O3.out.keptS (kept_alloc wr (.cells #[iv (el ys (k * 7)), iv (el ys (k * 7 + 1)), iv (el ys (k * 7 + 2)), iv (el ys (k * 7 + 3)), iv (el ys (k * 7 + 4)), iv (el ys (k * 7 + 5)), iv (el ys (k * 7 + 6))] 44)) (by omega)) k (by rw [Pl.skV_len]; omega)
      rw [show (Pl.skV ys n)[k]?.getD false = bl (Pl.skV ys n) k from rfl] at hc9
      have px := BX.out.all
      have V3 := hide (HO.out.keptS (kept_alloc wr (.cells #[iv (el ys (k * 7)), iv (el ys (k * 7 + 1)), iv (el ys (k * 7 + 2)), iv (el ys (k * 7 + 3)), iv (el ys (k * 7 + 4)), iv (el ys (k * 7 + 5)), iv (el ys (k * 7 + 6))] 44)) (by omega))
      obtain ⟨⟨c0, c1, c2, c3, c4, c5, c6, c7, c8⟩, f0', f1', f2', f3', f4', f5', f6', f7', f8'⟩ := V3.out.at9 HL.out (show k < 8 by omega)
      go_wp2_with fail
      go_region_with fail
      all_goals
        obtain ⟨WY, hWY⟩ : ∃ WY : World, WY = ((((((((((wr.alloc (.cells #[iv (el ys (k * 7)), iv (el ys (k * 7 + 1)), iv (el ys (k * 7 + 2)), iv (el ys (k * 7 + 3)), iv (el ys (k * 7 + 4)), iv (el ys (k * 7 + 5)), iv (el ys (k * 7 + 6))] 44)).setCell ⟨w.heap.size + 1, k * 9, none⟩ (iv (el ys (k * 7)))).setCell ⟨w.heap.size + 1, k * 9 + 1, none⟩ (iv (el ys (k * 7 + 1)))).setCell ⟨w.heap.size + 1, k * 9 + 2, none⟩ (iv (el ys (k * 7 + 2)))).setCell ⟨w.heap.size + 1, k * 9 + 3, none⟩ (iv (el ys (k * 7 + 3)))).setCell ⟨w.heap.size + 1, k * 9 + 4, none⟩ (iv (el ys (k * 7 + 4)))).setCell ⟨w.heap.size + 1, k * 9 + 5, none⟩ (iv (el ys (k * 7 + 5)))).setCell ⟨w.heap.size + 1, k * 9 + 6, none⟩ (iv (el ys (k * 7 + 6)))).setCell ⟨w.heap.size + 1, k * 9 + 7, none⟩ (iv (Pl.placeB ys f k))).setCell ⟨w.heap.size + 1, k * 9 + 8, none⟩ (.bool (bl (Pl.skV ys n) k))).drew := ⟨_, rfl⟩
        have V4 : Hid (VOwn WY (w.heap.size + 1) (set9 zs k (iv (el ys (k * 7))) (iv (el ys (k * 7 + 1))) (iv (el ys (k * 7 + 2))) (iv (el ys (k * 7 + 3))) (iv (el ys (k * 7 + 4))) (iv (el ys (k * 7 + 5))) (iv (el ys (k * 7 + 6))) (iv (Pl.placeB ys f k)) (.bool (bl (Pl.skV ys n) k)))) := hide (by rw [hWY]; exact (V3.out.set9 k (iv (el ys (k * 7))) (iv (el ys (k * 7 + 1))) (iv (el ys (k * 7 + 2))) (iv (el ys (k * 7 + 3))) (iv (el ys (k * 7 + 4))) (iv (el ys (k * 7 + 5))) (iv (el ys (k * 7 + 6))) (iv (Pl.placeB ys f k)) (.bool (bl (Pl.skV ys n) k))).drew)
        have K4 : Hid (Kept 0 0 w WY) := hide (by rw [hWY]; exact kept_drew (kept_set (kept_set (kept_set (kept_set (kept_set (kept_set (kept_set (kept_set (kept_set (kept_new HK.out _) _ _ _ (.inr (by omega))) _ _ _ (.inr (by omega))) _ _ _ (.inr (by omega))) _ _ _ (.inr (by omega))) _ _ _ (.inr (by omega))) _ _ _ (.inr (by omega))) _ _ _ (.inr (by omega))) _ _ _ (.inr (by omega))) _ _ _ (.inr (by omega))))
        have T4 : Hid (Kept (w.heap.size + 1) (w.heap.size + 1 + 1) w2 WY) := hide (by rw [hWY]; exact kept_drew (kept_set (kept_set (kept_set (kept_set (kept_set (kept_set (kept_set (kept_set (kept_set (kept_new HT2.out _) _ _ _ (.inl (by omega))) _ _ _ (.inl (by omega))) _ _ _ (.inl (by omega))) _ _ _ (.inl (by omega))) _ _ _ (.inl (by omega))) _ _ _ (.inl (by omega))) _ _ _ (.inl (by omega))) _ _ _ (.inl (by omega))) _ _ _ (.inl (by omega))))
        have X4 : Hid (Blk WY wr.heap.size #[iv (el ys (k * 7)), iv (el ys (k * 7 + 1)), iv (el ys (k * 7 + 2)), iv (el ys (k * 7 + 3)), iv (el ys (k * 7 + 4)), iv (el ys (k * 7 + 5)), iv (el ys (k * 7 + 6))] 44) := hide (by rw [hWY]; exact ((((((((((BX.out.other _ _ _ (by omega)).other _ _ _ (by omega)).other _ _ _ (by omega)).other _ _ _ (by omega)).other _ _ _ (by omega)).other _ _ _ (by omega)).other _ _ _ (by omega)).other _ _ _ (by omega)).other _ _ _ (by omega))).drew)
        rw [← hWY]
        have hlk := HOK.out k hlt
        have hlm := Pl.modeR hlk
        have wm : (Lit.int .i64 (el ys (k * 7 + 3))).wf = true := wfSm (by have h1 : 0 ≤ el ys (k * 7 + 3) := hlm.2.2.2.2.2.1; omega) (by have h1 : el ys (k * 7 + 3) ≤ 7 := hlm.2.2.2.2.2.2.1; omega)
        have hL0 : (if Pl.lng (el ys (k * 7 + 3)) = true then (2 : Int) else 1) = Pl.lenB (Pl.inAt ys k) := by
          rw [show Pl.lng (el ys (k * 7 + 3)) = Pl.extM (Pl.inAt ys k).m from by
            unfold Pl.lng
            rw [show Pl.modeOk (el ys (k * 7 + 3)) = true from by
              have h1 : 0 ≤ (Pl.inAt ys k).m := hlm.2.2.2.2.2.1
              have h2 : (Pl.inAt ys k).m ≤ 7 := hlm.2.2.2.2.2.2.1
              have h3 : (Pl.inAt ys k).m = el ys (k * 7 + 3) := rfl
              simp [Pl.modeOk, Pl.within]; omega]
            rfl]
          rfl
        have hL2 := Pl.lenB_in (Pl.inAt ys k)
        have hP : Pl.placeB ys f (k + 1) = Pl.placeB ys f k + 2 * Pl.lenB (Pl.inAt ys k) := rfl
        obtain ⟨L, hL⟩ : ∃ L, L = Pl.lenB (Pl.inAt ys k) := ⟨_, rfl⟩
        rw [← hL] at hL0 hL2 hP
        have HL0 := hide hL0
        have HP := hide hP
        have px := X4.out.all
        clear hWY c0 c1 c2 c3 c4 c5 c6 c7 c8 f0' f1' f2' f3' f4' f5' f6' f7' f8' p0 p1 p2 p3 p4 p5 p6 hc9 hf9 hlk hlm hL hL0 hP
        go_wp2_with (first | (go_at_call 46; refine (lengthOf _ (el ys (k * 7)) (el ys (k * 7 + 1)) (el ys (k * 7 + 2)) (el ys (k * 7 + 3)) (el ys (k * 7 + 4)) (el ys (k * 7 + 5)) (el ys (k * 7 + 6)) wm).mono ?_; rw [HL0.out]; rintro e9 w6 ⟨rfl, k6⟩; have V6 := hide (V4.out.keptS k6 (by omega)); have K6 := hide (K4.out.trans k6); have T6 := hide (T4.out.trans k6.any); clear k6))
        go_roundw
        case rel =>
          have hk9 : k * 9 + 8 < zs.length := by have := HL.out; omega
          obtain ⟨n0, n1, n2, n3, n4, n5, n6, n7, n8⟩ := set9_new (a := iv (el ys (k * 7))) (b := iv (el ys (k * 7 + 1))) (c := iv (el ys (k * 7 + 2))) (d := iv (el ys (k * 7 + 3))) (e := iv (el ys (k * 7 + 4))) (f := iv (el ys (k * 7 + 5))) (x := iv (el ys (k * 7 + 6))) (t := iv (Pl.placeB ys f k)) (q := .bool (bl (Pl.skV ys n) k)) hk9
          obtain ⟨m7, m8, m9⟩ := miL_at ys ts (Pl.skV ys n) hlt
          rw [HT.out k hlt] at m8
          exact ⟨k + 1, set9 zs k _ _ _ _ _ _ _ _ _, by omega, by go_num, by rw [HP.out]; go_num, by rw [set9_len]; exact HL.out, V6.out, snoc9 (fun i hi => (set9_old hi).trans (HE.out i hi)) (n0.trans (m7 0 (by decide)).symm) (n1.trans (m7 1 (by decide)).symm) (n2.trans (m7 2 (by decide)).symm) (n3.trans (m7 3 (by decide)).symm) (n4.trans (m7 4 (by decide)).symm) (n5.trans (m7 5 (by decide)).symm) (n6.trans (m7 6 (by decide)).symm) (n7.trans m8.symm) (n8.trans m9.symm), K6.out, T6.out⟩
        case measure => simp [intOf]; omega
    · obtain rfl : k = n := by omega
      have U9 := hide (U2.out.kept HT2.out (by omega))
      have pu := U9.out.all
      have fu := U9.out.fz
      have M9 : MOwn wr (w.heap.size + 1) k ys ts (Pl.skV ys k) := HO.out.head (by rw [miL_len, HL.out]; omega) (fun i hi => HE.out i (by rw [miL_len] at hi; omega))
      have HM := hide M9
      have hsz := HK.out.size
      have n8i : (k : Int) ≤ 8 := by omega
      clear M9
      go_wp2_with fail
      refine bodyPost_ret (v := .agg #[iv f, iv (Pl.placeB ys f k), .slice (some ⟨w.heap.size + 1, 0, none⟩) k k]) ?_ rfl ⟨rfl, ?_, ?_, ?_⟩
      · rw [results_one rfl]; go_simp
      · exact ((VOwn.setOther HM.out _ _ _ (by omega)).setOther _ _ _ (by omega)).setOther _ _ _ (by omega)
      · simp only [World.size_setCell]; omega
      · exact (kept_set (kept_set (kept_set HK.out _ _ _ (.inr (by omega))) _ _ _ (.inr (by omega))) _ _ _ (.inr (by omega)))
end Go.Proofs.Ytbppfbkkphhjnaa

namespace Go.Proofs.Ytbppfbkkphhjnaa
open Go.RowKit
set_option linter.unusedVariables false
set_option linter.unusedSimpArgs false
theorem Pl.blockOk_out {ys : List Int} {n : Nat} (h : Pl.blockOk ys n = true) : 1 ≤ n ∧ n ≤ 8 ∧ (∀ k, k < n → Pl.inOk (Pl.inAt ys k) = true) ∧ (∀ k, k + 1 < n → Pl.straight (Pl.inAt ys k) = true) ∧ Pl.rowS ys (Pl.headN ys n) = true := by
  unfold Pl.blockOk at h
  simp only [Bool.and_eq_true, decide_eq_true_eq] at h
  obtain ⟨h1, h8, hl, hr⟩ := h
  have q := Pl.rowS_out hr
  have hn : n - 1 ≤ Pl.headN ys n := by unfold Pl.headN; split <;> omega
  refine ⟨h1, h8, fun k hk => ?_, fun k hk => (q k (by omega)).2, hr⟩
  by_cases e : k = n - 1
  · rw [e]; exact hl
  · exact (q k (by omega)).1
theorem Pl.GU.block {f t : Int} {n : Nat} {ys ts : List Int} {sk : List Bool} (h : Pl.GU f t n ys ts sk) : Pl.blockOk ys n = true := by
  unfold Pl.blockOk
  have h1 := h.n1
  rw [h.ok _ (by omega), h.head]
  simp [h.n1, h.n8]
/-- two lists of micros of the same instructions -/
def Pl.meq (n : Nat) (ts us : List Int) (sk tk : List Bool) : Bool := (List.range n).all fun k => (el ts k == el us k) && (bl sk k == bl tk k)
theorem Pl.meq_no {n k : Nat} {ts us : List Int} {sk tk : List Bool} (hk : k < n) (h : ((el ts k == el us k) && (bl sk k == bl tk k)) = false) : Pl.meq n ts us sk tk = false := by
  rw [Bool.eq_false_iff]
  intro q
  have := List.all_eq_true.1 q k (List.mem_range.2 hk)
  rw [h] at this
  cases this
theorem Pl.meq_yes {n : Nat} {ts us : List Int} {sk tk : List Bool} (h : ∀ k, k < n → ((el ts k == el us k) && (bl sk k == bl tk k)) = true) : Pl.meq n ts us sk tk = true :=
  List.all_eq_true.2 fun k hk => h k (List.mem_range.1 hk)
theorem Pl.goodU_same {f t : Int} {n : Nat} {ys ts us : List Int} {sk : List Bool} (h : Pl.blockOk ys n = true) (f0 : 0 ≤ f) (f1 : f ≤ 512) (fe : f % 2 = 0) (t1 : t ≤ 512) (hu : ∀ k, k < n → el us k = Pl.placeB ys f k) :
    Pl.goodU f t n ys ts sk = ((f == f) && ((t == Pl.placeB ys f n) && Pl.meq n ts us sk (Pl.skV ys n))) := by
  obtain ⟨n1, n8, ok, st, _⟩ := Pl.blockOk_out h
  rw [Bool.eq_iff_iff]
  constructor
  · intro q
    have g := Pl.goodU_out q
    rw [Pl.meq_yes fun k hk => by rw [g.pl k hk, hu k hk, g.sk k hk]; simp]
    simp [g.to]
  · intro q
    simp only [Bool.and_eq_true, beq_iff_eq] at q
    obtain ⟨_, q1, q2⟩ := q
    have q3 : ∀ k, k < n → el ts k = el us k ∧ bl sk k = bl (Pl.skV ys n) k := fun k hk => by
      have := List.all_eq_true.1 q2 k (List.mem_range.2 hk)
      simpa using this
    exact Pl.goodU_yes ⟨n1, n8, f0, f1, fe, ok, fun k hk => (q3 k hk).1.trans (hu k hk), q1, t1, st, fun k hk => (q3 k hk).2⟩
theorem neMi (op z r m k e s t u : Int) (b c : Bool) (w : World) : (binOp .neq 46 (.agg #[iv op, iv z, iv r, iv m, iv k, iv e, iv s, iv t, .bool b]) (.agg #[iv op, iv z, iv r, iv m, iv k, iv e, iv s, iv u, .bool c])).run Try.prog w = .ok (.bool (!((t == u) && (b == c)))) w := by
  go_simp
  by_cases h : t = u <;> cases b <;> cases c <;> simp [h]
set_option maxRecDepth 20000 in
set_option maxHeartbeats 4000000 in
theorem implEqual (w : World) (a b : Option Addr) (ca cb n : Nat) (ys ts us : List Int) (sk tk : List Bool) (ha : MRow w a n ys ts sk) (hb : MRow w b n ys us tk) (bx : n ≤ 2000000) :
    Calls Try.prog 44 #[.slice a n ca, .slice b n cb] w fun e w' => e = .returned (.bool (Pl.meq n ts us sk tk)) ∧ Kept 0 0 w w' := by
  have HA := hide ha
  have HB := hide hb
  clear ha hb
  go_enter Try.func44, Try.ntmps44
  go_wp2_with fail
  go_loopw [13] (fun j wr => ∃ k : Nat, k ≤ n ∧ j = .int .i64 k ∧ (∀ i, i < k → ((el ts i == el us i) && (bl sk i == bl tk i)) = true) ∧ Kept 0 0 w wr) (fun j _ => n - (intOf j).toNat)
  case atStart => exact ⟨0, Nat.zero_le _, rfl, fun i hi => absurd hi (Nat.not_lt_zero i), Kept.refl _ _ _⟩
  case round =>
    obtain ⟨k, hk, rfl, hall, hkept⟩ := hrel
    have HK := hide hkept
    have HL := hide hall
    clear hkept hall
    by_cases hlt : k < n
    · obtain ⟨g1, off1, rfl, p0, p1, p2, p3, p4, p5, p6, p7, p8⟩ := (HA.out.keptS HK.out).at9 hlt
      obtain ⟨g2, off2, rfl, q0, q1, q2, q3, q4, q5, q6, q7, q8⟩ := (HB.out.keptS HK.out).at9 hlt
      cases hx : ((el ts k == el us k) && (bl sk k == bl tk k))
      · have hne : ∀ w, (binOp .neq 46 (.agg #[iv (el ys (k * 7)), iv (el ys (k * 7 + 1)), iv (el ys (k * 7 + 2)), iv (el ys (k * 7 + 3)), iv (el ys (k * 7 + 4)), iv (el ys (k * 7 + 5)), iv (el ys (k * 7 + 6)), iv (el ts k), .bool (bl sk k)]) (.agg #[iv (el ys (k * 7)), iv (el ys (k * 7 + 1)), iv (el ys (k * 7 + 2)), iv (el ys (k * 7 + 3)), iv (el ys (k * 7 + 4)), iv (el ys (k * 7 + 5)), iv (el ys (k * 7 + 6)), iv (el us k), .bool (bl tk k)])).run Try.prog w = .ok (.bool true) w := fun w => by rw [neMi, hx]; rfl
        have E := hide (Pl.meq_no hlt hx)
        go_wp2_with fail
        go_region_with fail
        all_goals
          go_wp2_with fail
          go_ret
          exact ⟨rB E.out.symm, kept_drew HK.out⟩
      · have hne : ∀ w, (binOp .neq 46 (.agg #[iv (el ys (k * 7)), iv (el ys (k * 7 + 1)), iv (el ys (k * 7 + 2)), iv (el ys (k * 7 + 3)), iv (el ys (k * 7 + 4)), iv (el ys (k * 7 + 5)), iv (el ys (k * 7 + 6)), iv (el ts k), .bool (bl sk k)]) (.agg #[iv (el ys (k * 7)), iv (el ys (k * 7 + 1)), iv (el ys (k * 7 + 2)), iv (el ys (k * 7 + 3)), iv (el ys (k * 7 + 4)), iv (el ys (k * 7 + 5)), iv (el ys (k * 7 + 6)), iv (el us k), .bool (bl tk k)])).run Try.prog w = .ok (.bool false) w := fun w => by rw [neMi, hx]; rfl
        go_wp2_with fail
        go_region_with fail
        all_goals
          go_wp2_with fail
          go_roundw
          case rel => exact ⟨k + 1, by omega, by go_num, snoc_all HL.out hx, kept_drew HK.out⟩
          case measure => simp [intOf]; omega
    · obtain rfl : k = n := by omega
      have E := hide (Pl.meq_yes HL.out)
      go_wp2_with fail
      go_ret
      exact ⟨rB E.out.symm, HK.out⟩
theorem implSame (w : World) (f t f' t' : Int) (a b : Option Addr) (ca cb n : Nat) (ys ts us : List Int) (sk tk : List Bool) (ha : MRow w a n ys ts sk) (hb : MRow w b n ys us tk) (bx : n ≤ 2000000) :
    Calls Try.prog 23 #[.agg #[iv f, iv t, .slice a n ca], .agg #[iv f', iv t', .slice b n cb]] w fun e w' => e = .returned (.bool ((f == f') && ((t == t') && Pl.meq n ts us sk tk))) ∧ Kept 0 0 w w' := by
  have K0 := hide (kept_new (kept_alloc w (.cells #[iv f, iv t, .slice a n ca] 29)) (.cells #[iv f', iv t', .slice b n cb] 29))
  have HA := hide (ha.keptS K0.out)
  have HB := hide (hb.keptS K0.out)
  clear ha hb
  obtain ⟨R, hR⟩ : ∃ R, R = Pl.meq n ts us sk tk := ⟨_, rfl⟩
  rw [← hR]
  have HR := hide hR
  clear hR
  cases h1 : (f == f')
  · go_enter Try.func23, Try.ntmps23
    go_wp2_with fail
    go_ret
    exact ⟨rB (by simp), K0.out⟩
  · cases h2 : (t == t')
    · go_enter Try.func23, Try.ntmps23
      go_wp2_with fail
      go_ret
      exact ⟨rB (by simp), K0.out⟩
    · go_enter Try.func23, Try.ntmps23
      go_wp2_with (first | (go_at_call 44; refine (implEqual _ a b ca cb n ys ts us sk tk HA.out HB.out bx).mono ?_; rw [← HR.out]; rintro e9 w2 ⟨rfl, k2⟩; have K2 := hide (K0.out.trans k2); clear k2))
      go_ret
      exact ⟨rB (by simp), K2.out⟩
set_option maxRecDepth 100000 in
set_option maxHeartbeats 16000000 in
theorem implGoodUnit (w : World) (f t : Int) (a : Option Addr) (ca n : Nat) (ys ts : List Int) (sk : List Bool) (ha : MRow w a n ys ts sk) (ly : ys.length = 7 * n) (wy : Wide ys) (bx : n ≤ 2000000) :
    Calls Try.prog 8 #[.agg #[iv f, iv t, .slice a n ca]] w fun e w' => e = .returned (.bool (Pl.goodU f t n ys ts sk)) ∧ Kept 0 0 w w' := by
  have K0 := hide (kept_alloc w (.cells #[iv f, iv t, .slice a n ca] 29))
  have B0 := hide (Blk.new w #[iv f, iv t, .slice a n ca] 29)
  have e1 : (w.alloc (.cells #[iv f, iv t, .slice a n ca] 29)).heap.size = w.heap.size + 1 := by simp
  have HA := hide ha
  have HY := hide ly
  have HW := hide wy
  clear ha ly wy
  cases hA : decide (0 ≤ f) && (decide (f ≤ 512) && (f % 2 == 0))
  · have E : Hid (Pl.goodU f t n ys ts sk = false) := hide (Pl.goodU_no fun h => by have h1 := h.f0; have h8 := h.f1; have h9 := h.fe; simp at hA; omega)
    go_enter Try.func8, Try.ntmps8
    go_wp2_with (go_at_call 20; refine (instrOf _ f t a ca n ys ts sk (HA.out.keptS K0.out) HY.out bx).mono ?_; rintro e9 w2 ⟨rfl, o2, s2, k2⟩; rw [e1]; rw [e1] at o2; have B2 := hide (B0.out.kept0 k2); have K2 := hide (K0.out.trans k2); have O2 := hide o2; have p2 := B2.out.all; clear k2 o2 s2)
    refine wp_region_inv2 (fun A0 l A W => FR [6, 7, 8, 9, 10, 11, 12, 13, 14, 15, 16, 17, 18, 19, 20, 21, 22, 23, 24, 25, 2] A0 A ∧ Once l 0 (A.tmps[6]? = some (.pointer (some ⟨w.heap.size, 0, none⟩))) ∧ Once l 1 (A.tmps[7]? = some (iv f)) ∧ Once l 2 (A.tmps[8]? = some (.bool false)) ∧ Once l 3 (A.tmps[9]? = some (.bool false)) ∧ Once l 4 (A.tmps[10]? = some (undef)) ∧ Once l 5 (A.tmps[11]? = some (undef)) ∧ Once l 6 (A.tmps[12]? = some (undef)) ∧ Once l 7 (A.tmps[13]? = some (.bool false)) ∧ Once l 8 (A.tmps[14]? = some (.bool false)) ∧ Once l 9 (A.tmps[15]? = some (undef)) ∧ Once l 10 (A.tmps[16]? = some (undef)) ∧ Once l 11 (A.tmps[17]? = some (.bool false)) ∧ Once l 12 (A.tmps[18]? = some (.bool false)) ∧ Once l 13 (A.tmps[19]? = some (undef)) ∧ Once l 14 (A.tmps[20]? = some (undef)) ∧ Once l 15 (A.tmps[21]? = some (undef)) ∧ Once l 16 (A.tmps[22]? = some (undef)) ∧ Once l 17 (A.tmps[23]? = some (undef)) ∧ Once l 18 (A.tmps[24]? = some (undef)) ∧ Once l 19 (A.tmps[25]? = some (.bool false)) ∧ Once l 20 (A.tmps[2]? = some (.bool false)) ∧ Kept 0 0 w2 W) (by kernel_rfl) (by kernel_rfl) ?start ?fin ?step
    case start => exact ⟨FR.refl _ _, once_start (by decide), once_start (by decide), once_start (by decide), once_start (by decide), once_start (by decide), once_start (by decide), once_start (by decide), once_start (by decide), once_start (by decide), once_start (by decide), once_start (by decide), once_start (by decide), once_start (by decide), once_start (by decide), once_start (by decide), once_start (by decide), once_start (by decide), once_start (by decide), once_start (by decide), once_start (by decide), once_start (by decide), kept_drew (Kept.refl _ _ _)⟩
    case fin =>
      intro l A W h hl
      obtain ⟨hFR, o0, o1, o2, o3, o4, o5, o6, o7, o8, o9, o10, o11, o12, o13, o14, o15, o16, o17, o18, o19, o20, hK⟩ := h
      have g20 := o20 (hl 20 (by decide))
      have QQ := hide hK
      have hc9 := hFR.chain
      simp only [List.foldl] at hc9
      rw [getD_of g20] at hc9
      clear hl hK hFR g20 o0 o1 o2 o3 o4 o5 o6 o7 o8 o9 o10 o11 o12 o13 o14 o15 o16 o17 o18 o19 o20
      generalize A.tmps.getD 6 undef = s6 at hc9
      generalize A.tmps.getD 7 undef = s7 at hc9
      generalize A.tmps.getD 8 undef = s8 at hc9
      generalize A.tmps.getD 9 undef = s9 at hc9
      generalize A.tmps.getD 10 undef = s10 at hc9
      generalize A.tmps.getD 11 undef = s11 at hc9
      generalize A.tmps.getD 12 undef = s12 at hc9
      generalize A.tmps.getD 13 undef = s13 at hc9
      generalize A.tmps.getD 14 undef = s14 at hc9
      generalize A.tmps.getD 15 undef = s15 at hc9
      generalize A.tmps.getD 16 undef = s16 at hc9
      generalize A.tmps.getD 17 undef = s17 at hc9
      generalize A.tmps.getD 18 undef = s18 at hc9
      generalize A.tmps.getD 19 undef = s19 at hc9
      generalize A.tmps.getD 20 undef = s20 at hc9
      generalize A.tmps.getD 21 undef = s21 at hc9
      generalize A.tmps.getD 22 undef = s22 at hc9
      generalize A.tmps.getD 23 undef = s23 at hc9
      generalize A.tmps.getD 24 undef = s24 at hc9
      generalize A.tmps.getD 25 undef = s25 at hc9
      subst hc9
      go_simp
      go_wp2_with fail
      go_ret
      exact ⟨rB E.out.symm, K2.out.trans QQ.out⟩
    case step =>
      intro l A W i hI hm
      obtain ⟨hFR, o0, o1, o2, o3, o4, o5, o6, o7, o8, o9, o10, o11, o12, o13, o14, o15, o16, o17, o18, o19, o20, hK⟩ := hI
      obtain ⟨hi1, hi2⟩ := ready_new hm
      have hsz : Hid (25 < A.tmps.size) := hide (by rw [hFR.size]; simp)
      have m1 : A.tmps[1]? = some (.pointer (some ⟨w.heap.size, 0, none⟩)) := (hFR.out 1 (by decide)).trans rfl
      have m3 : A.tmps[3]? = some (.slice (some ⟨w.heap.size + 1 + 1, 0, none⟩) n n) := (hFR.out 3 (by decide)).trans rfl
      rcases i with _ | _ | _ | _ | _ | _ | _ | _ | _ | _ | _ | _ | _ | _ | _ | _ | _ | _ | _ | _ | _ | i
      · refine wpOp_step rfl (fun KK hK2 => ?_)
        go_simp
        exact hK2 (A.put (some 6) (.pointer (some ⟨w.heap.size, 0, none⟩))) _ ⟨hFR.put (by decide) _, .now (put_eq (by have hz := hsz.out; omega)), o1.past (by decide) (fun h => (put_ne (by decide)).trans h), o2.past (by decide) (fun h => (put_ne (by decide)).trans h), o3.past (by decide) (fun h => (put_ne (by decide)).trans h), o4.past (by decide) (fun h => (put_ne (by decide)).trans h), o5.past (by decide) (fun h => (put_ne (by decide)).trans h), o6.past (by decide) (fun h => (put_ne (by decide)).trans h), o7.past (by decide) (fun h => (put_ne (by decide)).trans h), o8.past (by decide) (fun h => (put_ne (by decide)).trans h), o9.past (by decide) (fun h => (put_ne (by decide)).trans h), o10.past (by decide) (fun h => (put_ne (by decide)).trans h), o11.past (by decide) (fun h => (put_ne (by decide)).trans h), o12.past (by decide) (fun h => (put_ne (by decide)).trans h), o13.past (by decide) (fun h => (put_ne (by decide)).trans h), o14.past (by decide) (fun h => (put_ne (by decide)).trans h), o15.past (by decide) (fun h => (put_ne (by decide)).trans h), o16.past (by decide) (fun h => (put_ne (by decide)).trans h), o17.past (by decide) (fun h => (put_ne (by decide)).trans h), o18.past (by decide) (fun h => (put_ne (by decide)).trans h), o19.past (by decide) (fun h => (put_ne (by decide)).trans h), o20.past (by decide) (fun h => (put_ne (by decide)).trans h), hK⟩
      · have e0 := o0 (ready_dep hm 0 (by kernel_rfl))
        have BL := B2.out.kept0 hK
        have x0 := BL.all
        clear BL
        refine wpOp_step rfl (fun KK hK2 => ?_)
        go_simp
        exact hK2 (A.put (some 7) (iv f)) _ ⟨hFR.put (by decide) _, o0.past (by decide) (fun h => (put_ne (by decide)).trans h), .now (put_eq (by have hz := hsz.out; omega)), o2.past (by decide) (fun h => (put_ne (by decide)).trans h), o3.past (by decide) (fun h => (put_ne (by decide)).trans h), o4.past (by decide) (fun h => (put_ne (by decide)).trans h), o5.past (by decide) (fun h => (put_ne (by decide)).trans h), o6.past (by decide) (fun h => (put_ne (by decide)).trans h), o7.past (by decide) (fun h => (put_ne (by decide)).trans h), o8.past (by decide) (fun h => (put_ne (by decide)).trans h), o9.past (by decide) (fun h => (put_ne (by decide)).trans h), o10.past (by decide) (fun h => (put_ne (by decide)).trans h), o11.past (by decide) (fun h => (put_ne (by decide)).trans h), o12.past (by decide) (fun h => (put_ne (by decide)).trans h), o13.past (by decide) (fun h => (put_ne (by decide)).trans h), o14.past (by decide) (fun h => (put_ne (by decide)).trans h), o15.past (by decide) (fun h => (put_ne (by decide)).trans h), o16.past (by decide) (fun h => (put_ne (by decide)).trans h), o17.past (by decide) (fun h => (put_ne (by decide)).trans h), o18.past (by decide) (fun h => (put_ne (by decide)).trans h), o19.past (by decide) (fun h => (put_ne (by decide)).trans h), o20.past (by decide) (fun h => (put_ne (by decide)).trans h), hK⟩
      · have e1 := o1 (ready_dep hm 1 (by kernel_rfl))
        refine wpOp_step rfl (fun KK hK2 => ?_)
        go_simp
        refine st (isCodePlace _ _) ?_
        rw [hA]
        go_simp
        exact hK2 (A.put (some 8) (.bool false)) _ ⟨hFR.put (by decide) _, o0.past (by decide) (fun h => (put_ne (by decide)).trans h), o1.past (by decide) (fun h => (put_ne (by decide)).trans h), .now (put_eq (by have hz := hsz.out; omega)), o3.past (by decide) (fun h => (put_ne (by decide)).trans h), o4.past (by decide) (fun h => (put_ne (by decide)).trans h), o5.past (by decide) (fun h => (put_ne (by decide)).trans h), o6.past (by decide) (fun h => (put_ne (by decide)).trans h), o7.past (by decide) (fun h => (put_ne (by decide)).trans h), o8.past (by decide) (fun h => (put_ne (by decide)).trans h), o9.past (by decide) (fun h => (put_ne (by decide)).trans h), o10.past (by decide) (fun h => (put_ne (by decide)).trans h), o11.past (by decide) (fun h => (put_ne (by decide)).trans h), o12.past (by decide) (fun h => (put_ne (by decide)).trans h), o13.past (by decide) (fun h => (put_ne (by decide)).trans h), o14.past (by decide) (fun h => (put_ne (by decide)).trans h), o15.past (by decide) (fun h => (put_ne (by decide)).trans h), o16.past (by decide) (fun h => (put_ne (by decide)).trans h), o17.past (by decide) (fun h => (put_ne (by decide)).trans h), o18.past (by decide) (fun h => (put_ne (by decide)).trans h), o19.past (by decide) (fun h => (put_ne (by decide)).trans h), o20.past (by decide) (fun h => (put_ne (by decide)).trans h), hK⟩
      · have e2 := o2 (ready_dep hm 2 (by kernel_rfl))
        refine wpOp_step rfl (fun KK hK2 => ?_)
        go_simp
        exact hK2 (A.put (some 9) (.bool false)) _ ⟨hFR.put (by decide) _, o0.past (by decide) (fun h => (put_ne (by decide)).trans h), o1.past (by decide) (fun h => (put_ne (by decide)).trans h), o2.past (by decide) (fun h => (put_ne (by decide)).trans h), .now (put_eq (by have hz := hsz.out; omega)), o4.past (by decide) (fun h => (put_ne (by decide)).trans h), o5.past (by decide) (fun h => (put_ne (by decide)).trans h), o6.past (by decide) (fun h => (put_ne (by decide)).trans h), o7.past (by decide) (fun h => (put_ne (by decide)).trans h), o8.past (by decide) (fun h => (put_ne (by decide)).trans h), o9.past (by decide) (fun h => (put_ne (by decide)).trans h), o10.past (by decide) (fun h => (put_ne (by decide)).trans h), o11.past (by decide) (fun h => (put_ne (by decide)).trans h), o12.past (by decide) (fun h => (put_ne (by decide)).trans h), o13.past (by decide) (fun h => (put_ne (by decide)).trans h), o14.past (by decide) (fun h => (put_ne (by decide)).trans h), o15.past (by decide) (fun h => (put_ne (by decide)).trans h), o16.past (by decide) (fun h => (put_ne (by decide)).trans h), o17.past (by decide) (fun h => (put_ne (by decide)).trans h), o18.past (by decide) (fun h => (put_ne (by decide)).trans h), o19.past (by decide) (fun h => (put_ne (by decide)).trans h), o20.past (by decide) (fun h => (put_ne (by decide)).trans h), hK⟩
      · have g := o3 (ready_dep hm 3 (by kernel_rfl))
        refine wpOp_off (b := true) (c := false) rfl rfl rfl g (by decide) ?_
        exact ⟨hFR.put (by decide) _, o0.past (by decide) (fun h => (put_ne (by decide)).trans h), o1.past (by decide) (fun h => (put_ne (by decide)).trans h), o2.past (by decide) (fun h => (put_ne (by decide)).trans h), o3.past (by decide) (fun h => (put_ne (by decide)).trans h), .now (put_eq (by have hz := hsz.out; omega)), o5.past (by decide) (fun h => (put_ne (by decide)).trans h), o6.past (by decide) (fun h => (put_ne (by decide)).trans h), o7.past (by decide) (fun h => (put_ne (by decide)).trans h), o8.past (by decide) (fun h => (put_ne (by decide)).trans h), o9.past (by decide) (fun h => (put_ne (by decide)).trans h), o10.past (by decide) (fun h => (put_ne (by decide)).trans h), o11.past (by decide) (fun h => (put_ne (by decide)).trans h), o12.past (by decide) (fun h => (put_ne (by decide)).trans h), o13.past (by decide) (fun h => (put_ne (by decide)).trans h), o14.past (by decide) (fun h => (put_ne (by decide)).trans h), o15.past (by decide) (fun h => (put_ne (by decide)).trans h), o16.past (by decide) (fun h => (put_ne (by decide)).trans h), o17.past (by decide) (fun h => (put_ne (by decide)).trans h), o18.past (by decide) (fun h => (put_ne (by decide)).trans h), o19.past (by decide) (fun h => (put_ne (by decide)).trans h), o20.past (by decide) (fun h => (put_ne (by decide)).trans h), hK⟩
      · have e4 := o4 (ready_dep hm 4 (by kernel_rfl))
        have g := o3 (ready_dep hm 3 (by kernel_rfl))
        refine wpOp_off (b := true) (c := false) rfl rfl rfl g (by decide) ?_
        exact ⟨hFR.put (by decide) _, o0.past (by decide) (fun h => (put_ne (by decide)).trans h), o1.past (by decide) (fun h => (put_ne (by decide)).trans h), o2.past (by decide) (fun h => (put_ne (by decide)).trans h), o3.past (by decide) (fun h => (put_ne (by decide)).trans h), o4.past (by decide) (fun h => (put_ne (by decide)).trans h), .now (put_eq (by have hz := hsz.out; omega)), o6.past (by decide) (fun h => (put_ne (by decide)).trans h), o7.past (by decide) (fun h => (put_ne (by decide)).trans h), o8.past (by decide) (fun h => (put_ne (by decide)).trans h), o9.past (by decide) (fun h => (put_ne (by decide)).trans h), o10.past (by decide) (fun h => (put_ne (by decide)).trans h), o11.past (by decide) (fun h => (put_ne (by decide)).trans h), o12.past (by decide) (fun h => (put_ne (by decide)).trans h), o13.past (by decide) (fun h => (put_ne (by decide)).trans h), o14.past (by decide) (fun h => (put_ne (by decide)).trans h), o15.past (by decide) (fun h => (put_ne (by decide)).trans h), o16.past (by decide) (fun h => (put_ne (by decide)).trans h), o17.past (by decide) (fun h => (put_ne (by decide)).trans h), o18.past (by decide) (fun h => (put_ne (by decide)).trans h), o19.past (by decide) (fun h => (put_ne (by decide)).trans h), o20.past (by decide) (fun h => (put_ne (by decide)).trans h), hK⟩
      · have e5 := o5 (ready_dep hm 5 (by kernel_rfl))
        have g := o3 (ready_dep hm 3 (by kernel_rfl))
        refine wpOp_off (b := true) (c := false) rfl rfl rfl g (by decide) ?_
        exact ⟨hFR.put (by decide) _, o0.past (by decide) (fun h => (put_ne (by decide)).trans h), o1.past (by decide) (fun h => (put_ne (by decide)).trans h), o2.past (by decide) (fun h => (put_ne (by decide)).trans h), o3.past (by decide) (fun h => (put_ne (by decide)).trans h), o4.past (by decide) (fun h => (put_ne (by decide)).trans h), o5.past (by decide) (fun h => (put_ne (by decide)).trans h), .now (put_eq (by have hz := hsz.out; omega)), o7.past (by decide) (fun h => (put_ne (by decide)).trans h), o8.past (by decide) (fun h => (put_ne (by decide)).trans h), o9.past (by decide) (fun h => (put_ne (by decide)).trans h), o10.past (by decide) (fun h => (put_ne (by decide)).trans h), o11.past (by decide) (fun h => (put_ne (by decide)).trans h), o12.past (by decide) (fun h => (put_ne (by decide)).trans h), o13.past (by decide) (fun h => (put_ne (by decide)).trans h), o14.past (by decide) (fun h => (put_ne (by decide)).trans h), o15.past (by decide) (fun h => (put_ne (by decide)).trans h), o16.past (by decide) (fun h => (put_ne (by decide)).trans h), o17.past (by decide) (fun h => (put_ne (by decide)).trans h), o18.past (by decide) (fun h => (put_ne (by decide)).trans h), o19.past (by decide) (fun h => (put_ne (by decide)).trans h), o20.past (by decide) (fun h => (put_ne (by decide)).trans h), hK⟩
      · have e3 := o3 (ready_dep hm 3 (by kernel_rfl))
        have e6 := o6 (ready_dep hm 6 (by kernel_rfl))
        refine wpOp_step rfl (fun KK hK2 => ?_)
        go_simp
        exact hK2 (A.put (some 13) (.bool false)) _ ⟨hFR.put (by decide) _, o0.past (by decide) (fun h => (put_ne (by decide)).trans h), o1.past (by decide) (fun h => (put_ne (by decide)).trans h), o2.past (by decide) (fun h => (put_ne (by decide)).trans h), o3.past (by decide) (fun h => (put_ne (by decide)).trans h), o4.past (by decide) (fun h => (put_ne (by decide)).trans h), o5.past (by decide) (fun h => (put_ne (by decide)).trans h), o6.past (by decide) (fun h => (put_ne (by decide)).trans h), .now (put_eq (by have hz := hsz.out; omega)), o8.past (by decide) (fun h => (put_ne (by decide)).trans h), o9.past (by decide) (fun h => (put_ne (by decide)).trans h), o10.past (by decide) (fun h => (put_ne (by decide)).trans h), o11.past (by decide) (fun h => (put_ne (by decide)).trans h), o12.past (by decide) (fun h => (put_ne (by decide)).trans h), o13.past (by decide) (fun h => (put_ne (by decide)).trans h), o14.past (by decide) (fun h => (put_ne (by decide)).trans h), o15.past (by decide) (fun h => (put_ne (by decide)).trans h), o16.past (by decide) (fun h => (put_ne (by decide)).trans h), o17.past (by decide) (fun h => (put_ne (by decide)).trans h), o18.past (by decide) (fun h => (put_ne (by decide)).trans h), o19.past (by decide) (fun h => (put_ne (by decide)).trans h), o20.past (by decide) (fun h => (put_ne (by decide)).trans h), hK⟩
      · have e7 := o7 (ready_dep hm 7 (by kernel_rfl))
        refine wpOp_step rfl (fun KK hK2 => ?_)
        go_simp
        exact hK2 (A.put (some 14) (.bool false)) _ ⟨hFR.put (by decide) _, o0.past (by decide) (fun h => (put_ne (by decide)).trans h), o1.past (by decide) (fun h => (put_ne (by decide)).trans h), o2.past (by decide) (fun h => (put_ne (by decide)).trans h), o3.past (by decide) (fun h => (put_ne (by decide)).trans h), o4.past (by decide) (fun h => (put_ne (by decide)).trans h), o5.past (by decide) (fun h => (put_ne (by decide)).trans h), o6.past (by decide) (fun h => (put_ne (by decide)).trans h), o7.past (by decide) (fun h => (put_ne (by decide)).trans h), .now (put_eq (by have hz := hsz.out; omega)), o9.past (by decide) (fun h => (put_ne (by decide)).trans h), o10.past (by decide) (fun h => (put_ne (by decide)).trans h), o11.past (by decide) (fun h => (put_ne (by decide)).trans h), o12.past (by decide) (fun h => (put_ne (by decide)).trans h), o13.past (by decide) (fun h => (put_ne (by decide)).trans h), o14.past (by decide) (fun h => (put_ne (by decide)).trans h), o15.past (by decide) (fun h => (put_ne (by decide)).trans h), o16.past (by decide) (fun h => (put_ne (by decide)).trans h), o17.past (by decide) (fun h => (put_ne (by decide)).trans h), o18.past (by decide) (fun h => (put_ne (by decide)).trans h), o19.past (by decide) (fun h => (put_ne (by decide)).trans h), o20.past (by decide) (fun h => (put_ne (by decide)).trans h), hK⟩
      · have g := o8 (ready_dep hm 8 (by kernel_rfl))
        refine wpOp_off (b := true) (c := false) rfl rfl rfl g (by decide) ?_
        exact ⟨hFR.put (by decide) _, o0.past (by decide) (fun h => (put_ne (by decide)).trans h), o1.past (by decide) (fun h => (put_ne (by decide)).trans h), o2.past (by decide) (fun h => (put_ne (by decide)).trans h), o3.past (by decide) (fun h => (put_ne (by decide)).trans h), o4.past (by decide) (fun h => (put_ne (by decide)).trans h), o5.past (by decide) (fun h => (put_ne (by decide)).trans h), o6.past (by decide) (fun h => (put_ne (by decide)).trans h), o7.past (by decide) (fun h => (put_ne (by decide)).trans h), o8.past (by decide) (fun h => (put_ne (by decide)).trans h), .now (put_eq (by have hz := hsz.out; omega)), o10.past (by decide) (fun h => (put_ne (by decide)).trans h), o11.past (by decide) (fun h => (put_ne (by decide)).trans h), o12.past (by decide) (fun h => (put_ne (by decide)).trans h), o13.past (by decide) (fun h => (put_ne (by decide)).trans h), o14.past (by decide) (fun h => (put_ne (by decide)).trans h), o15.past (by decide) (fun h => (put_ne (by decide)).trans h), o16.past (by decide) (fun h => (put_ne (by decide)).trans h), o17.past (by decide) (fun h => (put_ne (by decide)).trans h), o18.past (by decide) (fun h => (put_ne (by decide)).trans h), o19.past (by decide) (fun h => (put_ne (by decide)).trans h), o20.past (by decide) (fun h => (put_ne (by decide)).trans h), hK⟩
      · have e9 := o9 (ready_dep hm 9 (by kernel_rfl))
        have g := o8 (ready_dep hm 8 (by kernel_rfl))
        refine wpOp_off (b := true) (c := false) rfl rfl rfl g (by decide) ?_
        exact ⟨hFR.put (by decide) _, o0.past (by decide) (fun h => (put_ne (by decide)).trans h), o1.past (by decide) (fun h => (put_ne (by decide)).trans h), o2.past (by decide) (fun h => (put_ne (by decide)).trans h), o3.past (by decide) (fun h => (put_ne (by decide)).trans h), o4.past (by decide) (fun h => (put_ne (by decide)).trans h), o5.past (by decide) (fun h => (put_ne (by decide)).trans h), o6.past (by decide) (fun h => (put_ne (by decide)).trans h), o7.past (by decide) (fun h => (put_ne (by decide)).trans h), o8.past (by decide) (fun h => (put_ne (by decide)).trans h), o9.past (by decide) (fun h => (put_ne (by decide)).trans h), .now (put_eq (by have hz := hsz.out; omega)), o11.past (by decide) (fun h => (put_ne (by decide)).trans h), o12.past (by decide) (fun h => (put_ne (by decide)).trans h), o13.past (by decide) (fun h => (put_ne (by decide)).trans h), o14.past (by decide) (fun h => (put_ne (by decide)).trans h), o15.past (by decide) (fun h => (put_ne (by decide)).trans h), o16.past (by decide) (fun h => (put_ne (by decide)).trans h), o17.past (by decide) (fun h => (put_ne (by decide)).trans h), o18.past (by decide) (fun h => (put_ne (by decide)).trans h), o19.past (by decide) (fun h => (put_ne (by decide)).trans h), o20.past (by decide) (fun h => (put_ne (by decide)).trans h), hK⟩
      · have e8 := o8 (ready_dep hm 8 (by kernel_rfl))
        have e10 := o10 (ready_dep hm 10 (by kernel_rfl))
        refine wpOp_step rfl (fun KK hK2 => ?_)
        go_simp
        exact hK2 (A.put (some 17) (.bool false)) _ ⟨hFR.put (by decide) _, o0.past (by decide) (fun h => (put_ne (by decide)).trans h), o1.past (by decide) (fun h => (put_ne (by decide)).trans h), o2.past (by decide) (fun h => (put_ne (by decide)).trans h), o3.past (by decide) (fun h => (put_ne (by decide)).trans h), o4.past (by decide) (fun h => (put_ne (by decide)).trans h), o5.past (by decide) (fun h => (put_ne (by decide)).trans h), o6.past (by decide) (fun h => (put_ne (by decide)).trans h), o7.past (by decide) (fun h => (put_ne (by decide)).trans h), o8.past (by decide) (fun h => (put_ne (by decide)).trans h), o9.past (by decide) (fun h => (put_ne (by decide)).trans h), o10.past (by decide) (fun h => (put_ne (by decide)).trans h), .now (put_eq (by have hz := hsz.out; omega)), o12.past (by decide) (fun h => (put_ne (by decide)).trans h), o13.past (by decide) (fun h => (put_ne (by decide)).trans h), o14.past (by decide) (fun h => (put_ne (by decide)).trans h), o15.past (by decide) (fun h => (put_ne (by decide)).trans h), o16.past (by decide) (fun h => (put_ne (by decide)).trans h), o17.past (by decide) (fun h => (put_ne (by decide)).trans h), o18.past (by decide) (fun h => (put_ne (by decide)).trans h), o19.past (by decide) (fun h => (put_ne (by decide)).trans h), o20.past (by decide) (fun h => (put_ne (by decide)).trans h), hK⟩
      · have e11 := o11 (ready_dep hm 11 (by kernel_rfl))
        refine wpOp_step rfl (fun KK hK2 => ?_)
        go_simp
        exact hK2 (A.put (some 18) (.bool false)) _ ⟨hFR.put (by decide) _, o0.past (by decide) (fun h => (put_ne (by decide)).trans h), o1.past (by decide) (fun h => (put_ne (by decide)).trans h), o2.past (by decide) (fun h => (put_ne (by decide)).trans h), o3.past (by decide) (fun h => (put_ne (by decide)).trans h), o4.past (by decide) (fun h => (put_ne (by decide)).trans h), o5.past (by decide) (fun h => (put_ne (by decide)).trans h), o6.past (by decide) (fun h => (put_ne (by decide)).trans h), o7.past (by decide) (fun h => (put_ne (by decide)).trans h), o8.past (by decide) (fun h => (put_ne (by decide)).trans h), o9.past (by decide) (fun h => (put_ne (by decide)).trans h), o10.past (by decide) (fun h => (put_ne (by decide)).trans h), o11.past (by decide) (fun h => (put_ne (by decide)).trans h), .now (put_eq (by have hz := hsz.out; omega)), o13.past (by decide) (fun h => (put_ne (by decide)).trans h), o14.past (by decide) (fun h => (put_ne (by decide)).trans h), o15.past (by decide) (fun h => (put_ne (by decide)).trans h), o16.past (by decide) (fun h => (put_ne (by decide)).trans h), o17.past (by decide) (fun h => (put_ne (by decide)).trans h), o18.past (by decide) (fun h => (put_ne (by decide)).trans h), o19.past (by decide) (fun h => (put_ne (by decide)).trans h), o20.past (by decide) (fun h => (put_ne (by decide)).trans h), hK⟩
      · have g := o12 (ready_dep hm 12 (by kernel_rfl))
        refine wpOp_off (b := true) (c := false) rfl rfl rfl g (by decide) ?_
        exact ⟨hFR.put (by decide) _, o0.past (by decide) (fun h => (put_ne (by decide)).trans h), o1.past (by decide) (fun h => (put_ne (by decide)).trans h), o2.past (by decide) (fun h => (put_ne (by decide)).trans h), o3.past (by decide) (fun h => (put_ne (by decide)).trans h), o4.past (by decide) (fun h => (put_ne (by decide)).trans h), o5.past (by decide) (fun h => (put_ne (by decide)).trans h), o6.past (by decide) (fun h => (put_ne (by decide)).trans h), o7.past (by decide) (fun h => (put_ne (by decide)).trans h), o8.past (by decide) (fun h => (put_ne (by decide)).trans h), o9.past (by decide) (fun h => (put_ne (by decide)).trans h), o10.past (by decide) (fun h => (put_ne (by decide)).trans h), o11.past (by decide) (fun h => (put_ne (by decide)).trans h), o12.past (by decide) (fun h => (put_ne (by decide)).trans h), .now (put_eq (by have hz := hsz.out; omega)), o14.past (by decide) (fun h => (put_ne (by decide)).trans h), o15.past (by decide) (fun h => (put_ne (by decide)).trans h), o16.past (by decide) (fun h => (put_ne (by decide)).trans h), o17.past (by decide) (fun h => (put_ne (by decide)).trans h), o18.past (by decide) (fun h => (put_ne (by decide)).trans h), o19.past (by decide) (fun h => (put_ne (by decide)).trans h), o20.past (by decide) (fun h => (put_ne (by decide)).trans h), hK⟩
      · have g := o12 (ready_dep hm 12 (by kernel_rfl))
        refine wpOp_off (b := true) (c := false) rfl rfl rfl g (by decide) ?_
        exact ⟨hFR.put (by decide) _, o0.past (by decide) (fun h => (put_ne (by decide)).trans h), o1.past (by decide) (fun h => (put_ne (by decide)).trans h), o2.past (by decide) (fun h => (put_ne (by decide)).trans h), o3.past (by decide) (fun h => (put_ne (by decide)).trans h), o4.past (by decide) (fun h => (put_ne (by decide)).trans h), o5.past (by decide) (fun h => (put_ne (by decide)).trans h), o6.past (by decide) (fun h => (put_ne (by decide)).trans h), o7.past (by decide) (fun h => (put_ne (by decide)).trans h), o8.past (by decide) (fun h => (put_ne (by decide)).trans h), o9.past (by decide) (fun h => (put_ne (by decide)).trans h), o10.past (by decide) (fun h => (put_ne (by decide)).trans h), o11.past (by decide) (fun h => (put_ne (by decide)).trans h), o12.past (by decide) (fun h => (put_ne (by decide)).trans h), o13.past (by decide) (fun h => (put_ne (by decide)).trans h), .now (put_eq (by have hz := hsz.out; omega)), o15.past (by decide) (fun h => (put_ne (by decide)).trans h), o16.past (by decide) (fun h => (put_ne (by decide)).trans h), o17.past (by decide) (fun h => (put_ne (by decide)).trans h), o18.past (by decide) (fun h => (put_ne (by decide)).trans h), o19.past (by decide) (fun h => (put_ne (by decide)).trans h), o20.past (by decide) (fun h => (put_ne (by decide)).trans h), hK⟩
      · have e14 := o14 (ready_dep hm 14 (by kernel_rfl))
        have g := o12 (ready_dep hm 12 (by kernel_rfl))
        refine wpOp_off (b := true) (c := false) rfl rfl rfl g (by decide) ?_
        exact ⟨hFR.put (by decide) _, o0.past (by decide) (fun h => (put_ne (by decide)).trans h), o1.past (by decide) (fun h => (put_ne (by decide)).trans h), o2.past (by decide) (fun h => (put_ne (by decide)).trans h), o3.past (by decide) (fun h => (put_ne (by decide)).trans h), o4.past (by decide) (fun h => (put_ne (by decide)).trans h), o5.past (by decide) (fun h => (put_ne (by decide)).trans h), o6.past (by decide) (fun h => (put_ne (by decide)).trans h), o7.past (by decide) (fun h => (put_ne (by decide)).trans h), o8.past (by decide) (fun h => (put_ne (by decide)).trans h), o9.past (by decide) (fun h => (put_ne (by decide)).trans h), o10.past (by decide) (fun h => (put_ne (by decide)).trans h), o11.past (by decide) (fun h => (put_ne (by decide)).trans h), o12.past (by decide) (fun h => (put_ne (by decide)).trans h), o13.past (by decide) (fun h => (put_ne (by decide)).trans h), o14.past (by decide) (fun h => (put_ne (by decide)).trans h), .now (put_eq (by have hz := hsz.out; omega)), o16.past (by decide) (fun h => (put_ne (by decide)).trans h), o17.past (by decide) (fun h => (put_ne (by decide)).trans h), o18.past (by decide) (fun h => (put_ne (by decide)).trans h), o19.past (by decide) (fun h => (put_ne (by decide)).trans h), o20.past (by decide) (fun h => (put_ne (by decide)).trans h), hK⟩
      · have g := o12 (ready_dep hm 12 (by kernel_rfl))
        refine wpOp_off (b := true) (c := false) rfl rfl rfl g (by decide) ?_
        exact ⟨hFR.put (by decide) _, o0.past (by decide) (fun h => (put_ne (by decide)).trans h), o1.past (by decide) (fun h => (put_ne (by decide)).trans h), o2.past (by decide) (fun h => (put_ne (by decide)).trans h), o3.past (by decide) (fun h => (put_ne (by decide)).trans h), o4.past (by decide) (fun h => (put_ne (by decide)).trans h), o5.past (by decide) (fun h => (put_ne (by decide)).trans h), o6.past (by decide) (fun h => (put_ne (by decide)).trans h), o7.past (by decide) (fun h => (put_ne (by decide)).trans h), o8.past (by decide) (fun h => (put_ne (by decide)).trans h), o9.past (by decide) (fun h => (put_ne (by decide)).trans h), o10.past (by decide) (fun h => (put_ne (by decide)).trans h), o11.past (by decide) (fun h => (put_ne (by decide)).trans h), o12.past (by decide) (fun h => (put_ne (by decide)).trans h), o13.past (by decide) (fun h => (put_ne (by decide)).trans h), o14.past (by decide) (fun h => (put_ne (by decide)).trans h), o15.past (by decide) (fun h => (put_ne (by decide)).trans h), .now (put_eq (by have hz := hsz.out; omega)), o17.past (by decide) (fun h => (put_ne (by decide)).trans h), o18.past (by decide) (fun h => (put_ne (by decide)).trans h), o19.past (by decide) (fun h => (put_ne (by decide)).trans h), o20.past (by decide) (fun h => (put_ne (by decide)).trans h), hK⟩
      · have e15 := o15 (ready_dep hm 15 (by kernel_rfl))
        have e16 := o16 (ready_dep hm 16 (by kernel_rfl))
        have g := o12 (ready_dep hm 12 (by kernel_rfl))
        refine wpOp_off (b := true) (c := false) rfl rfl rfl g (by decide) ?_
        exact ⟨hFR.put (by decide) _, o0.past (by decide) (fun h => (put_ne (by decide)).trans h), o1.past (by decide) (fun h => (put_ne (by decide)).trans h), o2.past (by decide) (fun h => (put_ne (by decide)).trans h), o3.past (by decide) (fun h => (put_ne (by decide)).trans h), o4.past (by decide) (fun h => (put_ne (by decide)).trans h), o5.past (by decide) (fun h => (put_ne (by decide)).trans h), o6.past (by decide) (fun h => (put_ne (by decide)).trans h), o7.past (by decide) (fun h => (put_ne (by decide)).trans h), o8.past (by decide) (fun h => (put_ne (by decide)).trans h), o9.past (by decide) (fun h => (put_ne (by decide)).trans h), o10.past (by decide) (fun h => (put_ne (by decide)).trans h), o11.past (by decide) (fun h => (put_ne (by decide)).trans h), o12.past (by decide) (fun h => (put_ne (by decide)).trans h), o13.past (by decide) (fun h => (put_ne (by decide)).trans h), o14.past (by decide) (fun h => (put_ne (by decide)).trans h), o15.past (by decide) (fun h => (put_ne (by decide)).trans h), o16.past (by decide) (fun h => (put_ne (by decide)).trans h), .now (put_eq (by have hz := hsz.out; omega)), o18.past (by decide) (fun h => (put_ne (by decide)).trans h), o19.past (by decide) (fun h => (put_ne (by decide)).trans h), o20.past (by decide) (fun h => (put_ne (by decide)).trans h), hK⟩
      · have e13 := o13 (ready_dep hm 13 (by kernel_rfl))
        have e17 := o17 (ready_dep hm 17 (by kernel_rfl))
        have g := o12 (ready_dep hm 12 (by kernel_rfl))
        refine wpOp_off (b := true) (c := false) rfl rfl rfl g (by decide) ?_
        exact ⟨hFR.put (by decide) _, o0.past (by decide) (fun h => (put_ne (by decide)).trans h), o1.past (by decide) (fun h => (put_ne (by decide)).trans h), o2.past (by decide) (fun h => (put_ne (by decide)).trans h), o3.past (by decide) (fun h => (put_ne (by decide)).trans h), o4.past (by decide) (fun h => (put_ne (by decide)).trans h), o5.past (by decide) (fun h => (put_ne (by decide)).trans h), o6.past (by decide) (fun h => (put_ne (by decide)).trans h), o7.past (by decide) (fun h => (put_ne (by decide)).trans h), o8.past (by decide) (fun h => (put_ne (by decide)).trans h), o9.past (by decide) (fun h => (put_ne (by decide)).trans h), o10.past (by decide) (fun h => (put_ne (by decide)).trans h), o11.past (by decide) (fun h => (put_ne (by decide)).trans h), o12.past (by decide) (fun h => (put_ne (by decide)).trans h), o13.past (by decide) (fun h => (put_ne (by decide)).trans h), o14.past (by decide) (fun h => (put_ne (by decide)).trans h), o15.past (by decide) (fun h => (put_ne (by decide)).trans h), o16.past (by decide) (fun h => (put_ne (by decide)).trans h), o17.past (by decide) (fun h => (put_ne (by decide)).trans h), .now (put_eq (by have hz := hsz.out; omega)), o19.past (by decide) (fun h => (put_ne (by decide)).trans h), o20.past (by decide) (fun h => (put_ne (by decide)).trans h), hK⟩
      · have e12 := o12 (ready_dep hm 12 (by kernel_rfl))
        have e18 := o18 (ready_dep hm 18 (by kernel_rfl))
        refine wpOp_step rfl (fun KK hK2 => ?_)
        go_simp
        exact hK2 (A.put (some 25) (.bool false)) _ ⟨hFR.put (by decide) _, o0.past (by decide) (fun h => (put_ne (by decide)).trans h), o1.past (by decide) (fun h => (put_ne (by decide)).trans h), o2.past (by decide) (fun h => (put_ne (by decide)).trans h), o3.past (by decide) (fun h => (put_ne (by decide)).trans h), o4.past (by decide) (fun h => (put_ne (by decide)).trans h), o5.past (by decide) (fun h => (put_ne (by decide)).trans h), o6.past (by decide) (fun h => (put_ne (by decide)).trans h), o7.past (by decide) (fun h => (put_ne (by decide)).trans h), o8.past (by decide) (fun h => (put_ne (by decide)).trans h), o9.past (by decide) (fun h => (put_ne (by decide)).trans h), o10.past (by decide) (fun h => (put_ne (by decide)).trans h), o11.past (by decide) (fun h => (put_ne (by decide)).trans h), o12.past (by decide) (fun h => (put_ne (by decide)).trans h), o13.past (by decide) (fun h => (put_ne (by decide)).trans h), o14.past (by decide) (fun h => (put_ne (by decide)).trans h), o15.past (by decide) (fun h => (put_ne (by decide)).trans h), o16.past (by decide) (fun h => (put_ne (by decide)).trans h), o17.past (by decide) (fun h => (put_ne (by decide)).trans h), o18.past (by decide) (fun h => (put_ne (by decide)).trans h), .now (put_eq (by have hz := hsz.out; omega)), o20.past (by decide) (fun h => (put_ne (by decide)).trans h), hK⟩
      · have e19 := o19 (ready_dep hm 19 (by kernel_rfl))
        refine wpOp_step rfl (fun KK hK2 => ?_)
        go_simp
        exact hK2 (A.put (some 2) (.bool false)) _ ⟨hFR.put (by decide) _, o0.past (by decide) (fun h => (put_ne (by decide)).trans h), o1.past (by decide) (fun h => (put_ne (by decide)).trans h), o2.past (by decide) (fun h => (put_ne (by decide)).trans h), o3.past (by decide) (fun h => (put_ne (by decide)).trans h), o4.past (by decide) (fun h => (put_ne (by decide)).trans h), o5.past (by decide) (fun h => (put_ne (by decide)).trans h), o6.past (by decide) (fun h => (put_ne (by decide)).trans h), o7.past (by decide) (fun h => (put_ne (by decide)).trans h), o8.past (by decide) (fun h => (put_ne (by decide)).trans h), o9.past (by decide) (fun h => (put_ne (by decide)).trans h), o10.past (by decide) (fun h => (put_ne (by decide)).trans h), o11.past (by decide) (fun h => (put_ne (by decide)).trans h), o12.past (by decide) (fun h => (put_ne (by decide)).trans h), o13.past (by decide) (fun h => (put_ne (by decide)).trans h), o14.past (by decide) (fun h => (put_ne (by decide)).trans h), o15.past (by decide) (fun h => (put_ne (by decide)).trans h), o16.past (by decide) (fun h => (put_ne (by decide)).trans h), o17.past (by decide) (fun h => (put_ne (by decide)).trans h), o18.past (by decide) (fun h => (put_ne (by decide)).trans h), o19.past (by decide) (fun h => (put_ne (by decide)).trans h), .now (put_eq (by have hz := hsz.out; omega)), hK⟩
      · simp at hi1
        omega
  · have hf : 0 ≤ f ∧ f ≤ 512 ∧ f % 2 = 0 := by simpa using hA
    obtain ⟨f0, f1, fe⟩ := hf
    cases hB : decide (t ≤ 512)
    · have E : Hid (Pl.goodU f t n ys ts sk = false) := hide (Pl.goodU_no fun h => by have h1 := h.t1; simp at hB; omega)
      go_enter Try.func8, Try.ntmps8
      go_wp2_with (go_at_call 20; refine (instrOf _ f t a ca n ys ts sk (HA.out.keptS K0.out) HY.out bx).mono ?_; rintro e9 w2 ⟨rfl, o2, s2, k2⟩; rw [e1]; rw [e1] at o2; have B2 := hide (B0.out.kept0 k2); have K2 := hide (K0.out.trans k2); have O2 := hide o2; have p2 := B2.out.all; clear k2 o2 s2)
      refine wp_region_inv2 (fun A0 l A W => FR [6, 7, 8, 9, 10, 11, 12, 13, 14, 15, 16, 17, 18, 19, 20, 21, 22, 23, 24, 25, 2] A0 A ∧ Once l 0 (A.tmps[6]? = some (.pointer (some ⟨w.heap.size, 0, none⟩))) ∧ Once l 1 (A.tmps[7]? = some (iv f)) ∧ Once l 2 (A.tmps[8]? = some (.bool true)) ∧ Once l 3 (A.tmps[9]? = some (.bool true)) ∧ Once l 4 (A.tmps[10]? = some (.pointer (some ⟨w.heap.size, 1, none⟩))) ∧ Once l 5 (A.tmps[11]? = some (iv t)) ∧ Once l 6 (A.tmps[12]? = some (.bool false)) ∧ Once l 7 (A.tmps[13]? = some (.bool false)) ∧ Once l 8 (A.tmps[14]? = some (.bool false)) ∧ Once l 9 (A.tmps[15]? = some (undef)) ∧ Once l 10 (A.tmps[16]? = some (undef)) ∧ Once l 11 (A.tmps[17]? = some (.bool false)) ∧ Once l 12 (A.tmps[18]? = some (.bool false)) ∧ Once l 13 (A.tmps[19]? = some (undef)) ∧ Once l 14 (A.tmps[20]? = some (undef)) ∧ Once l 15 (A.tmps[21]? = some (undef)) ∧ Once l 16 (A.tmps[22]? = some (undef)) ∧ Once l 17 (A.tmps[23]? = some (undef)) ∧ Once l 18 (A.tmps[24]? = some (undef)) ∧ Once l 19 (A.tmps[25]? = some (.bool false)) ∧ Once l 20 (A.tmps[2]? = some (.bool false)) ∧ Kept 0 0 w2 W) (by kernel_rfl) (by kernel_rfl) ?start ?fin ?step
      case start => exact ⟨FR.refl _ _, once_start (by decide), once_start (by decide), once_start (by decide), once_start (by decide), once_start (by decide), once_start (by decide), once_start (by decide), once_start (by decide), once_start (by decide), once_start (by decide), once_start (by decide), once_start (by decide), once_start (by decide), once_start (by decide), once_start (by decide), once_start (by decide), once_start (by decide), once_start (by decide), once_start (by decide), once_start (by decide), once_start (by decide), kept_drew (Kept.refl _ _ _)⟩
      case fin =>
        intro l A W h hl
        obtain ⟨hFR, o0, o1, o2, o3, o4, o5, o6, o7, o8, o9, o10, o11, o12, o13, o14, o15, o16, o17, o18, o19, o20, hK⟩ := h
        have g20 := o20 (hl 20 (by decide))
        have QQ := hide hK
        have hc9 := hFR.chain
        simp only [List.foldl] at hc9
        rw [getD_of g20] at hc9
        clear hl hK hFR g20 o0 o1 o2 o3 o4 o5 o6 o7 o8 o9 o10 o11 o12 o13 o14 o15 o16 o17 o18 o19 o20
        generalize A.tmps.getD 6 undef = s6 at hc9
        generalize A.tmps.getD 7 undef = s7 at hc9
        generalize A.tmps.getD 8 undef = s8 at hc9
        generalize A.tmps.getD 9 undef = s9 at hc9
        generalize A.tmps.getD 10 undef = s10 at hc9
        generalize A.tmps.getD 11 undef = s11 at hc9
        generalize A.tmps.getD 12 undef = s12 at hc9
        generalize A.tmps.getD 13 undef = s13 at hc9
        generalize A.tmps.getD 14 undef = s14 at hc9
        generalize A.tmps.getD 15 undef = s15 at hc9
        generalize A.tmps.getD 16 undef = s16 at hc9
        generalize A.tmps.getD 17 undef = s17 at hc9
        generalize A.tmps.getD 18 undef = s18 at hc9
        generalize A.tmps.getD 19 undef = s19 at hc9
        generalize A.tmps.getD 20 undef = s20 at hc9
        generalize A.tmps.getD 21 undef = s21 at hc9
        generalize A.tmps.getD 22 undef = s22 at hc9
        generalize A.tmps.getD 23 undef = s23 at hc9
        generalize A.tmps.getD 24 undef = s24 at hc9
        generalize A.tmps.getD 25 undef = s25 at hc9
        subst hc9
        go_simp
        go_wp2_with fail
        go_ret
        exact ⟨rB E.out.symm, K2.out.trans QQ.out⟩
      case step =>
        intro l A W i hI hm
        obtain ⟨hFR, o0, o1, o2, o3, o4, o5, o6, o7, o8, o9, o10, o11, o12, o13, o14, o15, o16, o17, o18, o19, o20, hK⟩ := hI
        obtain ⟨hi1, hi2⟩ := ready_new hm
        have hsz : Hid (25 < A.tmps.size) := hide (by rw [hFR.size]; simp)
        have m1 : A.tmps[1]? = some (.pointer (some ⟨w.heap.size, 0, none⟩)) := (hFR.out 1 (by decide)).trans rfl
        have m3 : A.tmps[3]? = some (.slice (some ⟨w.heap.size + 1 + 1, 0, none⟩) n n) := (hFR.out 3 (by decide)).trans rfl
        rcases i with _ | _ | _ | _ | _ | _ | _ | _ | _ | _ | _ | _ | _ | _ | _ | _ | _ | _ | _ | _ | _ | i
        · refine wpOp_step rfl (fun KK hK2 => ?_)
          go_simp
          exact hK2 (A.put (some 6) (.pointer (some ⟨w.heap.size, 0, none⟩))) _ ⟨hFR.put (by decide) _, .now (put_eq (by have hz := hsz.out; omega)), o1.past (by decide) (fun h => (put_ne (by decide)).trans h), o2.past (by decide) (fun h => (put_ne (by decide)).trans h), o3.past (by decide) (fun h => (put_ne (by decide)).trans h), o4.past (by decide) (fun h => (put_ne (by decide)).trans h), o5.past (by decide) (fun h => (put_ne (by decide)).trans h), o6.past (by decide) (fun h => (put_ne (by decide)).trans h), o7.past (by decide) (fun h => (put_ne (by decide)).trans h), o8.past (by decide) (fun h => (put_ne (by decide)).trans h), o9.past (by decide) (fun h => (put_ne (by decide)).trans h), o10.past (by decide) (fun h => (put_ne (by decide)).trans h), o11.past (by decide) (fun h => (put_ne (by decide)).trans h), o12.past (by decide) (fun h => (put_ne (by decide)).trans h), o13.past (by decide) (fun h => (put_ne (by decide)).trans h), o14.past (by decide) (fun h => (put_ne (by decide)).trans h), o15.past (by decide) (fun h => (put_ne (by decide)).trans h), o16.past (by decide) (fun h => (put_ne (by decide)).trans h), o17.past (by decide) (fun h => (put_ne (by decide)).trans h), o18.past (by decide) (fun h => (put_ne (by decide)).trans h), o19.past (by decide) (fun h => (put_ne (by decide)).trans h), o20.past (by decide) (fun h => (put_ne (by decide)).trans h), hK⟩
        · have e0 := o0 (ready_dep hm 0 (by kernel_rfl))
          have BL := B2.out.kept0 hK
          have x0 := BL.all
          clear BL
          refine wpOp_step rfl (fun KK hK2 => ?_)
          go_simp
          exact hK2 (A.put (some 7) (iv f)) _ ⟨hFR.put (by decide) _, o0.past (by decide) (fun h => (put_ne (by decide)).trans h), .now (put_eq (by have hz := hsz.out; omega)), o2.past (by decide) (fun h => (put_ne (by decide)).trans h), o3.past (by decide) (fun h => (put_ne (by decide)).trans h), o4.past (by decide) (fun h => (put_ne (by decide)).trans h), o5.past (by decide) (fun h => (put_ne (by decide)).trans h), o6.past (by decide) (fun h => (put_ne (by decide)).trans h), o7.past (by decide) (fun h => (put_ne (by decide)).trans h), o8.past (by decide) (fun h => (put_ne (by decide)).trans h), o9.past (by decide) (fun h => (put_ne (by decide)).trans h), o10.past (by decide) (fun h => (put_ne (by decide)).trans h), o11.past (by decide) (fun h => (put_ne (by decide)).trans h), o12.past (by decide) (fun h => (put_ne (by decide)).trans h), o13.past (by decide) (fun h => (put_ne (by decide)).trans h), o14.past (by decide) (fun h => (put_ne (by decide)).trans h), o15.past (by decide) (fun h => (put_ne (by decide)).trans h), o16.past (by decide) (fun h => (put_ne (by decide)).trans h), o17.past (by decide) (fun h => (put_ne (by decide)).trans h), o18.past (by decide) (fun h => (put_ne (by decide)).trans h), o19.past (by decide) (fun h => (put_ne (by decide)).trans h), o20.past (by decide) (fun h => (put_ne (by decide)).trans h), hK⟩
        · have e1 := o1 (ready_dep hm 1 (by kernel_rfl))
          refine wpOp_step rfl (fun KK hK2 => ?_)
          go_simp
          refine st (isCodePlace _ _) ?_
          rw [hA]
          go_simp
          exact hK2 (A.put (some 8) (.bool true)) _ ⟨hFR.put (by decide) _, o0.past (by decide) (fun h => (put_ne (by decide)).trans h), o1.past (by decide) (fun h => (put_ne (by decide)).trans h), .now (put_eq (by have hz := hsz.out; omega)), o3.past (by decide) (fun h => (put_ne (by decide)).trans h), o4.past (by decide) (fun h => (put_ne (by decide)).trans h), o5.past (by decide) (fun h => (put_ne (by decide)).trans h), o6.past (by decide) (fun h => (put_ne (by decide)).trans h), o7.past (by decide) (fun h => (put_ne (by decide)).trans h), o8.past (by decide) (fun h => (put_ne (by decide)).trans h), o9.past (by decide) (fun h => (put_ne (by decide)).trans h), o10.past (by decide) (fun h => (put_ne (by decide)).trans h), o11.past (by decide) (fun h => (put_ne (by decide)).trans h), o12.past (by decide) (fun h => (put_ne (by decide)).trans h), o13.past (by decide) (fun h => (put_ne (by decide)).trans h), o14.past (by decide) (fun h => (put_ne (by decide)).trans h), o15.past (by decide) (fun h => (put_ne (by decide)).trans h), o16.past (by decide) (fun h => (put_ne (by decide)).trans h), o17.past (by decide) (fun h => (put_ne (by decide)).trans h), o18.past (by decide) (fun h => (put_ne (by decide)).trans h), o19.past (by decide) (fun h => (put_ne (by decide)).trans h), o20.past (by decide) (fun h => (put_ne (by decide)).trans h), hK⟩
        · have e2 := o2 (ready_dep hm 2 (by kernel_rfl))
          refine wpOp_step rfl (fun KK hK2 => ?_)
          go_simp
          exact hK2 (A.put (some 9) (.bool true)) _ ⟨hFR.put (by decide) _, o0.past (by decide) (fun h => (put_ne (by decide)).trans h), o1.past (by decide) (fun h => (put_ne (by decide)).trans h), o2.past (by decide) (fun h => (put_ne (by decide)).trans h), .now (put_eq (by have hz := hsz.out; omega)), o4.past (by decide) (fun h => (put_ne (by decide)).trans h), o5.past (by decide) (fun h => (put_ne (by decide)).trans h), o6.past (by decide) (fun h => (put_ne (by decide)).trans h), o7.past (by decide) (fun h => (put_ne (by decide)).trans h), o8.past (by decide) (fun h => (put_ne (by decide)).trans h), o9.past (by decide) (fun h => (put_ne (by decide)).trans h), o10.past (by decide) (fun h => (put_ne (by decide)).trans h), o11.past (by decide) (fun h => (put_ne (by decide)).trans h), o12.past (by decide) (fun h => (put_ne (by decide)).trans h), o13.past (by decide) (fun h => (put_ne (by decide)).trans h), o14.past (by decide) (fun h => (put_ne (by decide)).trans h), o15.past (by decide) (fun h => (put_ne (by decide)).trans h), o16.past (by decide) (fun h => (put_ne (by decide)).trans h), o17.past (by decide) (fun h => (put_ne (by decide)).trans h), o18.past (by decide) (fun h => (put_ne (by decide)).trans h), o19.past (by decide) (fun h => (put_ne (by decide)).trans h), o20.past (by decide) (fun h => (put_ne (by decide)).trans h), hK⟩
        · have g := o3 (ready_dep hm 3 (by kernel_rfl))
          refine wpOp_on (b := true) rfl rfl rfl g (fun KK hK2 => ?_)
          go_simp
          exact hK2 (A.put (some 10) (.pointer (some ⟨w.heap.size, 1, none⟩))) _ ⟨hFR.put (by decide) _, o0.past (by decide) (fun h => (put_ne (by decide)).trans h), o1.past (by decide) (fun h => (put_ne (by decide)).trans h), o2.past (by decide) (fun h => (put_ne (by decide)).trans h), o3.past (by decide) (fun h => (put_ne (by decide)).trans h), .now (put_eq (by have hz := hsz.out; omega)), o5.past (by decide) (fun h => (put_ne (by decide)).trans h), o6.past (by decide) (fun h => (put_ne (by decide)).trans h), o7.past (by decide) (fun h => (put_ne (by decide)).trans h), o8.past (by decide) (fun h => (put_ne (by decide)).trans h), o9.past (by decide) (fun h => (put_ne (by decide)).trans h), o10.past (by decide) (fun h => (put_ne (by decide)).trans h), o11.past (by decide) (fun h => (put_ne (by decide)).trans h), o12.past (by decide) (fun h => (put_ne (by decide)).trans h), o13.past (by decide) (fun h => (put_ne (by decide)).trans h), o14.past (by decide) (fun h => (put_ne (by decide)).trans h), o15.past (by decide) (fun h => (put_ne (by decide)).trans h), o16.past (by decide) (fun h => (put_ne (by decide)).trans h), o17.past (by decide) (fun h => (put_ne (by decide)).trans h), o18.past (by decide) (fun h => (put_ne (by decide)).trans h), o19.past (by decide) (fun h => (put_ne (by decide)).trans h), o20.past (by decide) (fun h => (put_ne (by decide)).trans h), hK⟩
        · have e4 := o4 (ready_dep hm 4 (by kernel_rfl))
          have BL := B2.out.kept0 hK
          have x0 := BL.all
          clear BL
          have g := o3 (ready_dep hm 3 (by kernel_rfl))
          refine wpOp_on (b := true) rfl rfl rfl g (fun KK hK2 => ?_)
          go_simp
          exact hK2 (A.put (some 11) (iv t)) _ ⟨hFR.put (by decide) _, o0.past (by decide) (fun h => (put_ne (by decide)).trans h), o1.past (by decide) (fun h => (put_ne (by decide)).trans h), o2.past (by decide) (fun h => (put_ne (by decide)).trans h), o3.past (by decide) (fun h => (put_ne (by decide)).trans h), o4.past (by decide) (fun h => (put_ne (by decide)).trans h), .now (put_eq (by have hz := hsz.out; omega)), o6.past (by decide) (fun h => (put_ne (by decide)).trans h), o7.past (by decide) (fun h => (put_ne (by decide)).trans h), o8.past (by decide) (fun h => (put_ne (by decide)).trans h), o9.past (by decide) (fun h => (put_ne (by decide)).trans h), o10.past (by decide) (fun h => (put_ne (by decide)).trans h), o11.past (by decide) (fun h => (put_ne (by decide)).trans h), o12.past (by decide) (fun h => (put_ne (by decide)).trans h), o13.past (by decide) (fun h => (put_ne (by decide)).trans h), o14.past (by decide) (fun h => (put_ne (by decide)).trans h), o15.past (by decide) (fun h => (put_ne (by decide)).trans h), o16.past (by decide) (fun h => (put_ne (by decide)).trans h), o17.past (by decide) (fun h => (put_ne (by decide)).trans h), o18.past (by decide) (fun h => (put_ne (by decide)).trans h), o19.past (by decide) (fun h => (put_ne (by decide)).trans h), o20.past (by decide) (fun h => (put_ne (by decide)).trans h), hK⟩
        · have e5 := o5 (ready_dep hm 5 (by kernel_rfl))
          have g := o3 (ready_dep hm 3 (by kernel_rfl))
          refine wpOp_on (b := true) rfl rfl rfl g (fun KK hK2 => ?_)
          go_simp
          try rw [hB]
          exact hK2 (A.put (some 12) (.bool false)) _ ⟨hFR.put (by decide) _, o0.past (by decide) (fun h => (put_ne (by decide)).trans h), o1.past (by decide) (fun h => (put_ne (by decide)).trans h), o2.past (by decide) (fun h => (put_ne (by decide)).trans h), o3.past (by decide) (fun h => (put_ne (by decide)).trans h), o4.past (by decide) (fun h => (put_ne (by decide)).trans h), o5.past (by decide) (fun h => (put_ne (by decide)).trans h), .now (put_eq (by have hz := hsz.out; omega)), o7.past (by decide) (fun h => (put_ne (by decide)).trans h), o8.past (by decide) (fun h => (put_ne (by decide)).trans h), o9.past (by decide) (fun h => (put_ne (by decide)).trans h), o10.past (by decide) (fun h => (put_ne (by decide)).trans h), o11.past (by decide) (fun h => (put_ne (by decide)).trans h), o12.past (by decide) (fun h => (put_ne (by decide)).trans h), o13.past (by decide) (fun h => (put_ne (by decide)).trans h), o14.past (by decide) (fun h => (put_ne (by decide)).trans h), o15.past (by decide) (fun h => (put_ne (by decide)).trans h), o16.past (by decide) (fun h => (put_ne (by decide)).trans h), o17.past (by decide) (fun h => (put_ne (by decide)).trans h), o18.past (by decide) (fun h => (put_ne (by decide)).trans h), o19.past (by decide) (fun h => (put_ne (by decide)).trans h), o20.past (by decide) (fun h => (put_ne (by decide)).trans h), hK⟩
        · have e3 := o3 (ready_dep hm 3 (by kernel_rfl))
          have e6 := o6 (ready_dep hm 6 (by kernel_rfl))
          refine wpOp_step rfl (fun KK hK2 => ?_)
          go_simp
          exact hK2 (A.put (some 13) (.bool false)) _ ⟨hFR.put (by decide) _, o0.past (by decide) (fun h => (put_ne (by decide)).trans h), o1.past (by decide) (fun h => (put_ne (by decide)).trans h), o2.past (by decide) (fun h => (put_ne (by decide)).trans h), o3.past (by decide) (fun h => (put_ne (by decide)).trans h), o4.past (by decide) (fun h => (put_ne (by decide)).trans h), o5.past (by decide) (fun h => (put_ne (by decide)).trans h), o6.past (by decide) (fun h => (put_ne (by decide)).trans h), .now (put_eq (by have hz := hsz.out; omega)), o8.past (by decide) (fun h => (put_ne (by decide)).trans h), o9.past (by decide) (fun h => (put_ne (by decide)).trans h), o10.past (by decide) (fun h => (put_ne (by decide)).trans h), o11.past (by decide) (fun h => (put_ne (by decide)).trans h), o12.past (by decide) (fun h => (put_ne (by decide)).trans h), o13.past (by decide) (fun h => (put_ne (by decide)).trans h), o14.past (by decide) (fun h => (put_ne (by decide)).trans h), o15.past (by decide) (fun h => (put_ne (by decide)).trans h), o16.past (by decide) (fun h => (put_ne (by decide)).trans h), o17.past (by decide) (fun h => (put_ne (by decide)).trans h), o18.past (by decide) (fun h => (put_ne (by decide)).trans h), o19.past (by decide) (fun h => (put_ne (by decide)).trans h), o20.past (by decide) (fun h => (put_ne (by decide)).trans h), hK⟩
        · have e7 := o7 (ready_dep hm 7 (by kernel_rfl))
          refine wpOp_step rfl (fun KK hK2 => ?_)
          go_simp
          exact hK2 (A.put (some 14) (.bool false)) _ ⟨hFR.put (by decide) _, o0.past (by decide) (fun h => (put_ne (by decide)).trans h), o1.past (by decide) (fun h => (put_ne (by decide)).trans h), o2.past (by decide) (fun h => (put_ne (by decide)).trans h), o3.past (by decide) (fun h => (put_ne (by decide)).trans h), o4.past (by decide) (fun h => (put_ne (by decide)).trans h), o5.past (by decide) (fun h => (put_ne (by decide)).trans h), o6.past (by decide) (fun h => (put_ne (by decide)).trans h), o7.past (by decide) (fun h => (put_ne (by decide)).trans h), .now (put_eq (by have hz := hsz.out; omega)), o9.past (by decide) (fun h => (put_ne (by decide)).trans h), o10.past (by decide) (fun h => (put_ne (by decide)).trans h), o11.past (by decide) (fun h => (put_ne (by decide)).trans h), o12.past (by decide) (fun h => (put_ne (by decide)).trans h), o13.past (by decide) (fun h => (put_ne (by decide)).trans h), o14.past (by decide) (fun h => (put_ne (by decide)).trans h), o15.past (by decide) (fun h => (put_ne (by decide)).trans h), o16.past (by decide) (fun h => (put_ne (by decide)).trans h), o17.past (by decide) (fun h => (put_ne (by decide)).trans h), o18.past (by decide) (fun h => (put_ne (by decide)).trans h), o19.past (by decide) (fun h => (put_ne (by decide)).trans h), o20.past (by decide) (fun h => (put_ne (by decide)).trans h), hK⟩
        · have g := o8 (ready_dep hm 8 (by kernel_rfl))
          refine wpOp_off (b := true) (c := false) rfl rfl rfl g (by decide) ?_
          exact ⟨hFR.put (by decide) _, o0.past (by decide) (fun h => (put_ne (by decide)).trans h), o1.past (by decide) (fun h => (put_ne (by decide)).trans h), o2.past (by decide) (fun h => (put_ne (by decide)).trans h), o3.past (by decide) (fun h => (put_ne (by decide)).trans h), o4.past (by decide) (fun h => (put_ne (by decide)).trans h), o5.past (by decide) (fun h => (put_ne (by decide)).trans h), o6.past (by decide) (fun h => (put_ne (by decide)).trans h), o7.past (by decide) (fun h => (put_ne (by decide)).trans h), o8.past (by decide) (fun h => (put_ne (by decide)).trans h), .now (put_eq (by have hz := hsz.out; omega)), o10.past (by decide) (fun h => (put_ne (by decide)).trans h), o11.past (by decide) (fun h => (put_ne (by decide)).trans h), o12.past (by decide) (fun h => (put_ne (by decide)).trans h), o13.past (by decide) (fun h => (put_ne (by decide)).trans h), o14.past (by decide) (fun h => (put_ne (by decide)).trans h), o15.past (by decide) (fun h => (put_ne (by decide)).trans h), o16.past (by decide) (fun h => (put_ne (by decide)).trans h), o17.past (by decide) (fun h => (put_ne (by decide)).trans h), o18.past (by decide) (fun h => (put_ne (by decide)).trans h), o19.past (by decide) (fun h => (put_ne (by decide)).trans h), o20.past (by decide) (fun h => (put_ne (by decide)).trans h), hK⟩
        · have e9 := o9 (ready_dep hm 9 (by kernel_rfl))
          have g := o8 (ready_dep hm 8 (by kernel_rfl))
          refine wpOp_off (b := true) (c := false) rfl rfl rfl g (by decide) ?_
          exact ⟨hFR.put (by decide) _, o0.past (by decide) (fun h => (put_ne (by decide)).trans h), o1.past (by decide) (fun h => (put_ne (by decide)).trans h), o2.past (by decide) (fun h => (put_ne (by decide)).trans h), o3.past (by decide) (fun h => (put_ne (by decide)).trans h), o4.past (by decide) (fun h => (put_ne (by decide)).trans h), o5.past (by decide) (fun h => (put_ne (by decide)).trans h), o6.past (by decide) (fun h => (put_ne (by decide)).trans h), o7.past (by decide) (fun h => (put_ne (by decide)).trans h), o8.past (by decide) (fun h => (put_ne (by decide)).trans h), o9.past (by decide) (fun h => (put_ne (by decide)).trans h), .now (put_eq (by have hz := hsz.out; omega)), o11.past (by decide) (fun h => (put_ne (by decide)).trans h), o12.past (by decide) (fun h => (put_ne (by decide)).trans h), o13.past (by decide) (fun h => (put_ne (by decide)).trans h), o14.past (by decide) (fun h => (put_ne (by decide)).trans h), o15.past (by decide) (fun h => (put_ne (by decide)).trans h), o16.past (by decide) (fun h => (put_ne (by decide)).trans h), o17.past (by decide) (fun h => (put_ne (by decide)).trans h), o18.past (by decide) (fun h => (put_ne (by decide)).trans h), o19.past (by decide) (fun h => (put_ne (by decide)).trans h), o20.past (by decide) (fun h => (put_ne (by decide)).trans h), hK⟩
        · have e8 := o8 (ready_dep hm 8 (by kernel_rfl))
          have e10 := o10 (ready_dep hm 10 (by kernel_rfl))
          refine wpOp_step rfl (fun KK hK2 => ?_)
          go_simp
          exact hK2 (A.put (some 17) (.bool false)) _ ⟨hFR.put (by decide) _, o0.past (by decide) (fun h => (put_ne (by decide)).trans h), o1.past (by decide) (fun h => (put_ne (by decide)).trans h), o2.past (by decide) (fun h => (put_ne (by decide)).trans h), o3.past (by decide) (fun h => (put_ne (by decide)).trans h), o4.past (by decide) (fun h => (put_ne (by decide)).trans h), o5.past (by decide) (fun h => (put_ne (by decide)).trans h), o6.past (by decide) (fun h => (put_ne (by decide)).trans h), o7.past (by decide) (fun h => (put_ne (by decide)).trans h), o8.past (by decide) (fun h => (put_ne (by decide)).trans h), o9.past (by decide) (fun h => (put_ne (by decide)).trans h), o10.past (by decide) (fun h => (put_ne (by decide)).trans h), .now (put_eq (by have hz := hsz.out; omega)), o12.past (by decide) (fun h => (put_ne (by decide)).trans h), o13.past (by decide) (fun h => (put_ne (by decide)).trans h), o14.past (by decide) (fun h => (put_ne (by decide)).trans h), o15.past (by decide) (fun h => (put_ne (by decide)).trans h), o16.past (by decide) (fun h => (put_ne (by decide)).trans h), o17.past (by decide) (fun h => (put_ne (by decide)).trans h), o18.past (by decide) (fun h => (put_ne (by decide)).trans h), o19.past (by decide) (fun h => (put_ne (by decide)).trans h), o20.past (by decide) (fun h => (put_ne (by decide)).trans h), hK⟩
        · have e11 := o11 (ready_dep hm 11 (by kernel_rfl))
          refine wpOp_step rfl (fun KK hK2 => ?_)
          go_simp
          exact hK2 (A.put (some 18) (.bool false)) _ ⟨hFR.put (by decide) _, o0.past (by decide) (fun h => (put_ne (by decide)).trans h), o1.past (by decide) (fun h => (put_ne (by decide)).trans h), o2.past (by decide) (fun h => (put_ne (by decide)).trans h), o3.past (by decide) (fun h => (put_ne (by decide)).trans h), o4.past (by decide) (fun h => (put_ne (by decide)).trans h), o5.past (by decide) (fun h => (put_ne (by decide)).trans h), o6.past (by decide) (fun h => (put_ne (by decide)).trans h), o7.past (by decide) (fun h => (put_ne (by decide)).trans h), o8.past (by decide) (fun h => (put_ne (by decide)).trans h), o9.past (by decide) (fun h => (put_ne (by decide)).trans h), o10.past (by decide) (fun h => (put_ne (by decide)).trans h), o11.past (by decide) (fun h => (put_ne (by decide)).trans h), .now (put_eq (by have hz := hsz.out; omega)), o13.past (by decide) (fun h => (put_ne (by decide)).trans h), o14.past (by decide) (fun h => (put_ne (by decide)).trans h), o15.past (by decide) (fun h => (put_ne (by decide)).trans h), o16.past (by decide) (fun h => (put_ne (by decide)).trans h), o17.past (by decide) (fun h => (put_ne (by decide)).trans h), o18.past (by decide) (fun h => (put_ne (by decide)).trans h), o19.past (by decide) (fun h => (put_ne (by decide)).trans h), o20.past (by decide) (fun h => (put_ne (by decide)).trans h), hK⟩
        · have g := o12 (ready_dep hm 12 (by kernel_rfl))
          refine wpOp_off (b := true) (c := false) rfl rfl rfl g (by decide) ?_
          exact ⟨hFR.put (by decide) _, o0.past (by decide) (fun h => (put_ne (by decide)).trans h), o1.past (by decide) (fun h => (put_ne (by decide)).trans h), o2.past (by decide) (fun h => (put_ne (by decide)).trans h), o3.past (by decide) (fun h => (put_ne (by decide)).trans h), o4.past (by decide) (fun h => (put_ne (by decide)).trans h), o5.past (by decide) (fun h => (put_ne (by decide)).trans h), o6.past (by decide) (fun h => (put_ne (by decide)).trans h), o7.past (by decide) (fun h => (put_ne (by decide)).trans h), o8.past (by decide) (fun h => (put_ne (by decide)).trans h), o9.past (by decide) (fun h => (put_ne (by decide)).trans h), o10.past (by decide) (fun h => (put_ne (by decide)).trans h), o11.past (by decide) (fun h => (put_ne (by decide)).trans h), o12.past (by decide) (fun h => (put_ne (by decide)).trans h), .now (put_eq (by have hz := hsz.out; omega)), o14.past (by decide) (fun h => (put_ne (by decide)).trans h), o15.past (by decide) (fun h => (put_ne (by decide)).trans h), o16.past (by decide) (fun h => (put_ne (by decide)).trans h), o17.past (by decide) (fun h => (put_ne (by decide)).trans h), o18.past (by decide) (fun h => (put_ne (by decide)).trans h), o19.past (by decide) (fun h => (put_ne (by decide)).trans h), o20.past (by decide) (fun h => (put_ne (by decide)).trans h), hK⟩
        · have g := o12 (ready_dep hm 12 (by kernel_rfl))
          refine wpOp_off (b := true) (c := false) rfl rfl rfl g (by decide) ?_
          exact ⟨hFR.put (by decide) _, o0.past (by decide) (fun h => (put_ne (by decide)).trans h), o1.past (by decide) (fun h => (put_ne (by decide)).trans h), o2.past (by decide) (fun h => (put_ne (by decide)).trans h), o3.past (by decide) (fun h => (put_ne (by decide)).trans h), o4.past (by decide) (fun h => (put_ne (by decide)).trans h), o5.past (by decide) (fun h => (put_ne (by decide)).trans h), o6.past (by decide) (fun h => (put_ne (by decide)).trans h), o7.past (by decide) (fun h => (put_ne (by decide)).trans h), o8.past (by decide) (fun h => (put_ne (by decide)).trans h), o9.past (by decide) (fun h => (put_ne (by decide)).trans h), o10.past (by decide) (fun h => (put_ne (by decide)).trans h), o11.past (by decide) (fun h => (put_ne (by decide)).trans h), o12.past (by decide) (fun h => (put_ne (by decide)).trans h), o13.past (by decide) (fun h => (put_ne (by decide)).trans h), .now (put_eq (by have hz := hsz.out; omega)), o15.past (by decide) (fun h => (put_ne (by decide)).trans h), o16.past (by decide) (fun h => (put_ne (by decide)).trans h), o17.past (by decide) (fun h => (put_ne (by decide)).trans h), o18.past (by decide) (fun h => (put_ne (by decide)).trans h), o19.past (by decide) (fun h => (put_ne (by decide)).trans h), o20.past (by decide) (fun h => (put_ne (by decide)).trans h), hK⟩
        · have e14 := o14 (ready_dep hm 14 (by kernel_rfl))
          have g := o12 (ready_dep hm 12 (by kernel_rfl))
          refine wpOp_off (b := true) (c := false) rfl rfl rfl g (by decide) ?_
          exact ⟨hFR.put (by decide) _, o0.past (by decide) (fun h => (put_ne (by decide)).trans h), o1.past (by decide) (fun h => (put_ne (by decide)).trans h), o2.past (by decide) (fun h => (put_ne (by decide)).trans h), o3.past (by decide) (fun h => (put_ne (by decide)).trans h), o4.past (by decide) (fun h => (put_ne (by decide)).trans h), o5.past (by decide) (fun h => (put_ne (by decide)).trans h), o6.past (by decide) (fun h => (put_ne (by decide)).trans h), o7.past (by decide) (fun h => (put_ne (by decide)).trans h), o8.past (by decide) (fun h => (put_ne (by decide)).trans h), o9.past (by decide) (fun h => (put_ne (by decide)).trans h), o10.past (by decide) (fun h => (put_ne (by decide)).trans h), o11.past (by decide) (fun h => (put_ne (by decide)).trans h), o12.past (by decide) (fun h => (put_ne (by decide)).trans h), o13.past (by decide) (fun h => (put_ne (by decide)).trans h), o14.past (by decide) (fun h => (put_ne (by decide)).trans h), .now (put_eq (by have hz := hsz.out; omega)), o16.past (by decide) (fun h => (put_ne (by decide)).trans h), o17.past (by decide) (fun h => (put_ne (by decide)).trans h), o18.past (by decide) (fun h => (put_ne (by decide)).trans h), o19.past (by decide) (fun h => (put_ne (by decide)).trans h), o20.past (by decide) (fun h => (put_ne (by decide)).trans h), hK⟩
        · have g := o12 (ready_dep hm 12 (by kernel_rfl))
          refine wpOp_off (b := true) (c := false) rfl rfl rfl g (by decide) ?_
          exact ⟨hFR.put (by decide) _, o0.past (by decide) (fun h => (put_ne (by decide)).trans h), o1.past (by decide) (fun h => (put_ne (by decide)).trans h), o2.past (by decide) (fun h => (put_ne (by decide)).trans h), o3.past (by decide) (fun h => (put_ne (by decide)).trans h), o4.past (by decide) (fun h => (put_ne (by decide)).trans h), o5.past (by decide) (fun h => (put_ne (by decide)).trans h), o6.past (by decide) (fun h => (put_ne (by decide)).trans h), o7.past (by decide) (fun h => (put_ne (by decide)).trans h), o8.past (by decide) (fun h => (put_ne (by decide)).trans h), o9.past (by decide) (fun h => (put_ne (by decide)).trans h), o10.past (by decide) (fun h => (put_ne (by decide)).trans h), o11.past (by decide) (fun h => (put_ne (by decide)).trans h), o12.past (by decide) (fun h => (put_ne (by decide)).trans h), o13.past (by decide) (fun h => (put_ne (by decide)).trans h), o14.past (by decide) (fun h => (put_ne (by decide)).trans h), o15.past (by decide) (fun h => (put_ne (by decide)).trans h), .now (put_eq (by have hz := hsz.out; omega)), o17.past (by decide) (fun h => (put_ne (by decide)).trans h), o18.past (by decide) (fun h => (put_ne (by decide)).trans h), o19.past (by decide) (fun h => (put_ne (by decide)).trans h), o20.past (by decide) (fun h => (put_ne (by decide)).trans h), hK⟩
        · have e15 := o15 (ready_dep hm 15 (by kernel_rfl))
          have e16 := o16 (ready_dep hm 16 (by kernel_rfl))
          have g := o12 (ready_dep hm 12 (by kernel_rfl))
          refine wpOp_off (b := true) (c := false) rfl rfl rfl g (by decide) ?_
          exact ⟨hFR.put (by decide) _, o0.past (by decide) (fun h => (put_ne (by decide)).trans h), o1.past (by decide) (fun h => (put_ne (by decide)).trans h), o2.past (by decide) (fun h => (put_ne (by decide)).trans h), o3.past (by decide) (fun h => (put_ne (by decide)).trans h), o4.past (by decide) (fun h => (put_ne (by decide)).trans h), o5.past (by decide) (fun h => (put_ne (by decide)).trans h), o6.past (by decide) (fun h => (put_ne (by decide)).trans h), o7.past (by decide) (fun h => (put_ne (by decide)).trans h), o8.past (by decide) (fun h => (put_ne (by decide)).trans h), o9.past (by decide) (fun h => (put_ne (by decide)).trans h), o10.past (by decide) (fun h => (put_ne (by decide)).trans h), o11.past (by decide) (fun h => (put_ne (by decide)).trans h), o12.past (by decide) (fun h => (put_ne (by decide)).trans h), o13.past (by decide) (fun h => (put_ne (by decide)).trans h), o14.past (by decide) (fun h => (put_ne (by decide)).trans h), o15.past (by decide) (fun h => (put_ne (by decide)).trans h), o16.past (by decide) (fun h => (put_ne (by decide)).trans h), .now (put_eq (by have hz := hsz.out; omega)), o18.past (by decide) (fun h => (put_ne (by decide)).trans h), o19.past (by decide) (fun h => (put_ne (by decide)).trans h), o20.past (by decide) (fun h => (put_ne (by decide)).trans h), hK⟩
        · have e13 := o13 (ready_dep hm 13 (by kernel_rfl))
          have e17 := o17 (ready_dep hm 17 (by kernel_rfl))
          have g := o12 (ready_dep hm 12 (by kernel_rfl))
          refine wpOp_off (b := true) (c := false) rfl rfl rfl g (by decide) ?_
          exact ⟨hFR.put (by decide) _, o0.past (by decide) (fun h => (put_ne (by decide)).trans h), o1.past (by decide) (fun h => (put_ne (by decide)).trans h), o2.past (by decide) (fun h => (put_ne (by decide)).trans h), o3.past (by decide) (fun h => (put_ne (by decide)).trans h), o4.past (by decide) (fun h => (put_ne (by decide)).trans h), o5.past (by decide) (fun h => (put_ne (by decide)).trans h), o6.past (by decide) (fun h => (put_ne (by decide)).trans h), o7.past (by decide) (fun h => (put_ne (by decide)).trans h), o8.past (by decide) (fun h => (put_ne (by decide)).trans h), o9.past (by decide) (fun h => (put_ne (by decide)).trans h), o10.past (by decide) (fun h => (put_ne (by decide)).trans h), o11.past (by decide) (fun h => (put_ne (by decide)).trans h), o12.past (by decide) (fun h => (put_ne (by decide)).trans h), o13.past (by decide) (fun h => (put_ne (by decide)).trans h), o14.past (by decide) (fun h => (put_ne (by decide)).trans h), o15.past (by decide) (fun h => (put_ne (by decide)).trans h), o16.past (by decide) (fun h => (put_ne (by decide)).trans h), o17.past (by decide) (fun h => (put_ne (by decide)).trans h), .now (put_eq (by have hz := hsz.out; omega)), o19.past (by decide) (fun h => (put_ne (by decide)).trans h), o20.past (by decide) (fun h => (put_ne (by decide)).trans h), hK⟩
        · have e12 := o12 (ready_dep hm 12 (by kernel_rfl))
          have e18 := o18 (ready_dep hm 18 (by kernel_rfl))
          refine wpOp_step rfl (fun KK hK2 => ?_)
          go_simp
          exact hK2 (A.put (some 25) (.bool false)) _ ⟨hFR.put (by decide) _, o0.past (by decide) (fun h => (put_ne (by decide)).trans h), o1.past (by decide) (fun h => (put_ne (by decide)).trans h), o2.past (by decide) (fun h => (put_ne (by decide)).trans h), o3.past (by decide) (fun h => (put_ne (by decide)).trans h), o4.past (by decide) (fun h => (put_ne (by decide)).trans h), o5.past (by decide) (fun h => (put_ne (by decide)).trans h), o6.past (by decide) (fun h => (put_ne (by decide)).trans h), o7.past (by decide) (fun h => (put_ne (by decide)).trans h), o8.past (by decide) (fun h => (put_ne (by decide)).trans h), o9.past (by decide) (fun h => (put_ne (by decide)).trans h), o10.past (by decide) (fun h => (put_ne (by decide)).trans h), o11.past (by decide) (fun h => (put_ne (by decide)).trans h), o12.past (by decide) (fun h => (put_ne (by decide)).trans h), o13.past (by decide) (fun h => (put_ne (by decide)).trans h), o14.past (by decide) (fun h => (put_ne (by decide)).trans h), o15.past (by decide) (fun h => (put_ne (by decide)).trans h), o16.past (by decide) (fun h => (put_ne (by decide)).trans h), o17.past (by decide) (fun h => (put_ne (by decide)).trans h), o18.past (by decide) (fun h => (put_ne (by decide)).trans h), .now (put_eq (by have hz := hsz.out; omega)), o20.past (by decide) (fun h => (put_ne (by decide)).trans h), hK⟩
        · have e19 := o19 (ready_dep hm 19 (by kernel_rfl))
          refine wpOp_step rfl (fun KK hK2 => ?_)
          go_simp
          exact hK2 (A.put (some 2) (.bool false)) _ ⟨hFR.put (by decide) _, o0.past (by decide) (fun h => (put_ne (by decide)).trans h), o1.past (by decide) (fun h => (put_ne (by decide)).trans h), o2.past (by decide) (fun h => (put_ne (by decide)).trans h), o3.past (by decide) (fun h => (put_ne (by decide)).trans h), o4.past (by decide) (fun h => (put_ne (by decide)).trans h), o5.past (by decide) (fun h => (put_ne (by decide)).trans h), o6.past (by decide) (fun h => (put_ne (by decide)).trans h), o7.past (by decide) (fun h => (put_ne (by decide)).trans h), o8.past (by decide) (fun h => (put_ne (by decide)).trans h), o9.past (by decide) (fun h => (put_ne (by decide)).trans h), o10.past (by decide) (fun h => (put_ne (by decide)).trans h), o11.past (by decide) (fun h => (put_ne (by decide)).trans h), o12.past (by decide) (fun h => (put_ne (by decide)).trans h), o13.past (by decide) (fun h => (put_ne (by decide)).trans h), o14.past (by decide) (fun h => (put_ne (by decide)).trans h), o15.past (by decide) (fun h => (put_ne (by decide)).trans h), o16.past (by decide) (fun h => (put_ne (by decide)).trans h), o17.past (by decide) (fun h => (put_ne (by decide)).trans h), o18.past (by decide) (fun h => (put_ne (by decide)).trans h), o19.past (by decide) (fun h => (put_ne (by decide)).trans h), .now (put_eq (by have hz := hsz.out; omega)), hK⟩
        · simp at hi1
          omega
    · have t1 : t ≤ 512 := by simpa using hB
      cases hC : Pl.blockOk ys n
      · have E : Hid (Pl.goodU f t n ys ts sk = false) := hide (Pl.goodU_no fun h => by have h1 := h.block; rw [hC] at h1; cases h1)
        go_enter Try.func8, Try.ntmps8
        go_wp2_with (go_at_call 20; refine (instrOf _ f t a ca n ys ts sk (HA.out.keptS K0.out) HY.out bx).mono ?_; rintro e9 w2 ⟨rfl, o2, s2, k2⟩; rw [e1]; rw [e1] at o2; have B2 := hide (B0.out.kept0 k2); have K2 := hide (K0.out.trans k2); have O2 := hide o2; have p2 := B2.out.all; clear k2 o2 s2)
        refine wp_region_inv2 (fun A0 l A W => FR [6, 7, 8, 9, 10, 11, 12, 13, 14, 15, 16, 17, 18, 19, 20, 21, 22, 23, 24, 25, 2] A0 A ∧ Once l 0 (A.tmps[6]? = some (.pointer (some ⟨w.heap.size, 0, none⟩))) ∧ Once l 1 (A.tmps[7]? = some (iv f)) ∧ Once l 2 (A.tmps[8]? = some (.bool true)) ∧ Once l 3 (A.tmps[9]? = some (.bool true)) ∧ Once l 4 (A.tmps[10]? = some (.pointer (some ⟨w.heap.size, 1, none⟩))) ∧ Once l 5 (A.tmps[11]? = some (iv t)) ∧ Once l 6 (A.tmps[12]? = some (.bool true)) ∧ Once l 7 (A.tmps[13]? = some (.bool true)) ∧ Once l 8 (A.tmps[14]? = some (.bool true)) ∧ Once l 9 (A.tmps[15]? = some (.slice (some ⟨w.heap.size + 1 + 1, 0, none⟩) n n)) ∧ Once l 10 (A.tmps[16]? = some (.bool false)) ∧ Once l 11 (A.tmps[17]? = some (.bool false)) ∧ Once l 12 (A.tmps[18]? = some (.bool false)) ∧ Once l 13 (A.tmps[19]? = some (undef)) ∧ Once l 14 (A.tmps[20]? = some (undef)) ∧ Once l 15 (A.tmps[21]? = some (undef)) ∧ Once l 16 (A.tmps[22]? = some (undef)) ∧ Once l 17 (A.tmps[23]? = some (undef)) ∧ Once l 18 (A.tmps[24]? = some (undef)) ∧ Once l 19 (A.tmps[25]? = some (.bool false)) ∧ Once l 20 (A.tmps[2]? = some (.bool false)) ∧ Kept 0 0 w2 W) (by kernel_rfl) (by kernel_rfl) ?start ?fin ?step
        case start => exact ⟨FR.refl _ _, once_start (by decide), once_start (by decide), once_start (by decide), once_start (by decide), once_start (by decide), once_start (by decide), once_start (by decide), once_start (by decide), once_start (by decide), once_start (by decide), once_start (by decide), once_start (by decide), once_start (by decide), once_start (by decide), once_start (by decide), once_start (by decide), once_start (by decide), once_start (by decide), once_start (by decide), once_start (by decide), once_start (by decide), kept_drew (Kept.refl _ _ _)⟩
        case fin =>
          intro l A W h hl
          obtain ⟨hFR, o0, o1, o2, o3, o4, o5, o6, o7, o8, o9, o10, o11, o12, o13, o14, o15, o16, o17, o18, o19, o20, hK⟩ := h
          have g20 := o20 (hl 20 (by decide))
          have QQ := hide hK
          have hc9 := hFR.chain
          simp only [List.foldl] at hc9
          rw [getD_of g20] at hc9
          clear hl hK hFR g20 o0 o1 o2 o3 o4 o5 o6 o7 o8 o9 o10 o11 o12 o13 o14 o15 o16 o17 o18 o19 o20
          generalize A.tmps.getD 6 undef = s6 at hc9
          generalize A.tmps.getD 7 undef = s7 at hc9
          generalize A.tmps.getD 8 undef = s8 at hc9
          generalize A.tmps.getD 9 undef = s9 at hc9
          generalize A.tmps.getD 10 undef = s10 at hc9
          generalize A.tmps.getD 11 undef = s11 at hc9
          generalize A.tmps.getD 12 undef = s12 at hc9
          generalize A.tmps.getD 13 undef = s13 at hc9
          generalize A.tmps.getD 14 undef = s14 at hc9
          generalize A.tmps.getD 15 undef = s15 at hc9
          generalize A.tmps.getD 16 undef = s16 at hc9
          generalize A.tmps.getD 17 undef = s17 at hc9
          generalize A.tmps.getD 18 undef = s18 at hc9
          generalize A.tmps.getD 19 undef = s19 at hc9
          generalize A.tmps.getD 20 undef = s20 at hc9
          generalize A.tmps.getD 21 undef = s21 at hc9
          generalize A.tmps.getD 22 undef = s22 at hc9
          generalize A.tmps.getD 23 undef = s23 at hc9
          generalize A.tmps.getD 24 undef = s24 at hc9
          generalize A.tmps.getD 25 undef = s25 at hc9
          subst hc9
          go_simp
          go_wp2_with fail
          go_ret
          exact ⟨rB E.out.symm, K2.out.trans QQ.out⟩
        case step =>
          intro l A W i hI hm
          obtain ⟨hFR, o0, o1, o2, o3, o4, o5, o6, o7, o8, o9, o10, o11, o12, o13, o14, o15, o16, o17, o18, o19, o20, hK⟩ := hI
          obtain ⟨hi1, hi2⟩ := ready_new hm
          have hsz : Hid (25 < A.tmps.size) := hide (by rw [hFR.size]; simp)
          have m1 : A.tmps[1]? = some (.pointer (some ⟨w.heap.size, 0, none⟩)) := (hFR.out 1 (by decide)).trans rfl
          have m3 : A.tmps[3]? = some (.slice (some ⟨w.heap.size + 1 + 1, 0, none⟩) n n) := (hFR.out 3 (by decide)).trans rfl
          rcases i with _ | _ | _ | _ | _ | _ | _ | _ | _ | _ | _ | _ | _ | _ | _ | _ | _ | _ | _ | _ | _ | i
          · refine wpOp_step rfl (fun KK hK2 => ?_)
            go_simp
            exact hK2 (A.put (some 6) (.pointer (some ⟨w.heap.size, 0, none⟩))) _ ⟨hFR.put (by decide) _, .now (put_eq (by have hz := hsz.out; omega)), o1.past (by decide) (fun h => (put_ne (by decide)).trans h), o2.past (by decide) (fun h => (put_ne (by decide)).trans h), o3.past (by decide) (fun h => (put_ne (by decide)).trans h), o4.past (by decide) (fun h => (put_ne (by decide)).trans h), o5.past (by decide) (fun h => (put_ne (by decide)).trans h), o6.past (by decide) (fun h => (put_ne (by decide)).trans h), o7.past (by decide) (fun h => (put_ne (by decide)).trans h), o8.past (by decide) (fun h => (put_ne (by decide)).trans h), o9.past (by decide) (fun h => (put_ne (by decide)).trans h), o10.past (by decide) (fun h => (put_ne (by decide)).trans h), o11.past (by decide) (fun h => (put_ne (by decide)).trans h), o12.past (by decide) (fun h => (put_ne (by decide)).trans h), o13.past (by decide) (fun h => (put_ne (by decide)).trans h), o14.past (by decide) (fun h => (put_ne (by decide)).trans h), o15.past (by decide) (fun h => (put_ne (by decide)).trans h), o16.past (by decide) (fun h => (put_ne (by decide)).trans h), o17.past (by decide) (fun h => (put_ne (by decide)).trans h), o18.past (by decide) (fun h => (put_ne (by decide)).trans h), o19.past (by decide) (fun h => (put_ne (by decide)).trans h), o20.past (by decide) (fun h => (put_ne (by decide)).trans h), hK⟩
          · have e0 := o0 (ready_dep hm 0 (by kernel_rfl))
            have BL := B2.out.kept0 hK
            have x0 := BL.all
            clear BL
            refine wpOp_step rfl (fun KK hK2 => ?_)
            go_simp
            exact hK2 (A.put (some 7) (iv f)) _ ⟨hFR.put (by decide) _, o0.past (by decide) (fun h => (put_ne (by decide)).trans h), .now (put_eq (by have hz := hsz.out; omega)), o2.past (by decide) (fun h => (put_ne (by decide)).trans h), o3.past (by decide) (fun h => (put_ne (by decide)).trans h), o4.past (by decide) (fun h => (put_ne (by decide)).trans h), o5.past (by decide) (fun h => (put_ne (by decide)).trans h), o6.past (by decide) (fun h => (put_ne (by decide)).trans h), o7.past (by decide) (fun h => (put_ne (by decide)).trans h), o8.past (by decide) (fun h => (put_ne (by decide)).trans h), o9.past (by decide) (fun h => (put_ne (by decide)).trans h), o10.past (by decide) (fun h => (put_ne (by decide)).trans h), o11.past (by decide) (fun h => (put_ne (by decide)).trans h), o12.past (by decide) (fun h => (put_ne (by decide)).trans h), o13.past (by decide) (fun h => (put_ne (by decide)).trans h), o14.past (by decide) (fun h => (put_ne (by decide)).trans h), o15.past (by decide) (fun h => (put_ne (by decide)).trans h), o16.past (by decide) (fun h => (put_ne (by decide)).trans h), o17.past (by decide) (fun h => (put_ne (by decide)).trans h), o18.past (by decide) (fun h => (put_ne (by decide)).trans h), o19.past (by decide) (fun h => (put_ne (by decide)).trans h), o20.past (by decide) (fun h => (put_ne (by decide)).trans h), hK⟩
          · have e1 := o1 (ready_dep hm 1 (by kernel_rfl))
            refine wpOp_step rfl (fun KK hK2 => ?_)
            go_simp
            refine st (isCodePlace _ _) ?_
            rw [hA]
            go_simp
            exact hK2 (A.put (some 8) (.bool true)) _ ⟨hFR.put (by decide) _, o0.past (by decide) (fun h => (put_ne (by decide)).trans h), o1.past (by decide) (fun h => (put_ne (by decide)).trans h), .now (put_eq (by have hz := hsz.out; omega)), o3.past (by decide) (fun h => (put_ne (by decide)).trans h), o4.past (by decide) (fun h => (put_ne (by decide)).trans h), o5.past (by decide) (fun h => (put_ne (by decide)).trans h), o6.past (by decide) (fun h => (put_ne (by decide)).trans h), o7.past (by decide) (fun h => (put_ne (by decide)).trans h), o8.past (by decide) (fun h => (put_ne (by decide)).trans h), o9.past (by decide) (fun h => (put_ne (by decide)).trans h), o10.past (by decide) (fun h => (put_ne (by decide)).trans h), o11.past (by decide) (fun h => (put_ne (by decide)).trans h), o12.past (by decide) (fun h => (put_ne (by decide)).trans h), o13.past (by decide) (fun h => (put_ne (by decide)).trans h), o14.past (by decide) (fun h => (put_ne (by decide)).trans h), o15.past (by decide) (fun h => (put_ne (by decide)).trans h), o16.past (by decide) (fun h => (put_ne (by decide)).trans h), o17.past (by decide) (fun h => (put_ne (by decide)).trans h), o18.past (by decide) (fun h => (put_ne (by decide)).trans h), o19.past (by decide) (fun h => (put_ne (by decide)).trans h), o20.past (by decide) (fun h => (put_ne (by decide)).trans h), hK⟩
          · have e2 := o2 (ready_dep hm 2 (by kernel_rfl))
            refine wpOp_step rfl (fun KK hK2 => ?_)
            go_simp
            exact hK2 (A.put (some 9) (.bool true)) _ ⟨hFR.put (by decide) _, o0.past (by decide) (fun h => (put_ne (by decide)).trans h), o1.past (by decide) (fun h => (put_ne (by decide)).trans h), o2.past (by decide) (fun h => (put_ne (by decide)).trans h), .now (put_eq (by have hz := hsz.out; omega)), o4.past (by decide) (fun h => (put_ne (by decide)).trans h), o5.past (by decide) (fun h => (put_ne (by decide)).trans h), o6.past (by decide) (fun h => (put_ne (by decide)).trans h), o7.past (by decide) (fun h => (put_ne (by decide)).trans h), o8.past (by decide) (fun h => (put_ne (by decide)).trans h), o9.past (by decide) (fun h => (put_ne (by decide)).trans h), o10.past (by decide) (fun h => (put_ne (by decide)).trans h), o11.past (by decide) (fun h => (put_ne (by decide)).trans h), o12.past (by decide) (fun h => (put_ne (by decide)).trans h), o13.past (by decide) (fun h => (put_ne (by decide)).trans h), o14.past (by decide) (fun h => (put_ne (by decide)).trans h), o15.past (by decide) (fun h => (put_ne (by decide)).trans h), o16.past (by decide) (fun h => (put_ne (by decide)).trans h), o17.past (by decide) (fun h => (put_ne (by decide)).trans h), o18.past (by decide) (fun h => (put_ne (by decide)).trans h), o19.past (by decide) (fun h => (put_ne (by decide)).trans h), o20.past (by decide) (fun h => (put_ne (by decide)).trans h), hK⟩
          · have g := o3 (ready_dep hm 3 (by kernel_rfl))
            refine wpOp_on (b := true) rfl rfl rfl g (fun KK hK2 => ?_)
            go_simp
            exact hK2 (A.put (some 10) (.pointer (some ⟨w.heap.size, 1, none⟩))) _ ⟨hFR.put (by decide) _, o0.past (by decide) (fun h => (put_ne (by decide)).trans h), o1.past (by decide) (fun h => (put_ne (by decide)).trans h), o2.past (by decide) (fun h => (put_ne (by decide)).trans h), o3.past (by decide) (fun h => (put_ne (by decide)).trans h), .now (put_eq (by have hz := hsz.out; omega)), o5.past (by decide) (fun h => (put_ne (by decide)).trans h), o6.past (by decide) (fun h => (put_ne (by decide)).trans h), o7.past (by decide) (fun h => (put_ne (by decide)).trans h), o8.past (by decide) (fun h => (put_ne (by decide)).trans h), o9.past (by decide) (fun h => (put_ne (by decide)).trans h), o10.past (by decide) (fun h => (put_ne (by decide)).trans h), o11.past (by decide) (fun h => (put_ne (by decide)).trans h), o12.past (by decide) (fun h => (put_ne (by decide)).trans h), o13.past (by decide) (fun h => (put_ne (by decide)).trans h), o14.past (by decide) (fun h => (put_ne (by decide)).trans h), o15.past (by decide) (fun h => (put_ne (by decide)).trans h), o16.past (by decide) (fun h => (put_ne (by decide)).trans h), o17.past (by decide) (fun h => (put_ne (by decide)).trans h), o18.past (by decide) (fun h => (put_ne (by decide)).trans h), o19.past (by decide) (fun h => (put_ne (by decide)).trans h), o20.past (by decide) (fun h => (put_ne (by decide)).trans h), hK⟩
          · have e4 := o4 (ready_dep hm 4 (by kernel_rfl))
            have BL := B2.out.kept0 hK
            have x0 := BL.all
            clear BL
            have g := o3 (ready_dep hm 3 (by kernel_rfl))
            refine wpOp_on (b := true) rfl rfl rfl g (fun KK hK2 => ?_)
            go_simp
            exact hK2 (A.put (some 11) (iv t)) _ ⟨hFR.put (by decide) _, o0.past (by decide) (fun h => (put_ne (by decide)).trans h), o1.past (by decide) (fun h => (put_ne (by decide)).trans h), o2.past (by decide) (fun h => (put_ne (by decide)).trans h), o3.past (by decide) (fun h => (put_ne (by decide)).trans h), o4.past (by decide) (fun h => (put_ne (by decide)).trans h), .now (put_eq (by have hz := hsz.out; omega)), o6.past (by decide) (fun h => (put_ne (by decide)).trans h), o7.past (by decide) (fun h => (put_ne (by decide)).trans h), o8.past (by decide) (fun h => (put_ne (by decide)).trans h), o9.past (by decide) (fun h => (put_ne (by decide)).trans h), o10.past (by decide) (fun h => (put_ne (by decide)).trans h), o11.past (by decide) (fun h => (put_ne (by decide)).trans h), o12.past (by decide) (fun h => (put_ne (by decide)).trans h), o13.past (by decide) (fun h => (put_ne (by decide)).trans h), o14.past (by decide) (fun h => (put_ne (by decide)).trans h), o15.past (by decide) (fun h => (put_ne (by decide)).trans h), o16.past (by decide) (fun h => (put_ne (by decide)).trans h), o17.past (by decide) (fun h => (put_ne (by decide)).trans h), o18.past (by decide) (fun h => (put_ne (by decide)).trans h), o19.past (by decide) (fun h => (put_ne (by decide)).trans h), o20.past (by decide) (fun h => (put_ne (by decide)).trans h), hK⟩
          · have e5 := o5 (ready_dep hm 5 (by kernel_rfl))
            have g := o3 (ready_dep hm 3 (by kernel_rfl))
            refine wpOp_on (b := true) rfl rfl rfl g (fun KK hK2 => ?_)
            go_simp
            try rw [hB]
            exact hK2 (A.put (some 12) (.bool true)) _ ⟨hFR.put (by decide) _, o0.past (by decide) (fun h => (put_ne (by decide)).trans h), o1.past (by decide) (fun h => (put_ne (by decide)).trans h), o2.past (by decide) (fun h => (put_ne (by decide)).trans h), o3.past (by decide) (fun h => (put_ne (by decide)).trans h), o4.past (by decide) (fun h => (put_ne (by decide)).trans h), o5.past (by decide) (fun h => (put_ne (by decide)).trans h), .now (put_eq (by have hz := hsz.out; omega)), o7.past (by decide) (fun h => (put_ne (by decide)).trans h), o8.past (by decide) (fun h => (put_ne (by decide)).trans h), o9.past (by decide) (fun h => (put_ne (by decide)).trans h), o10.past (by decide) (fun h => (put_ne (by decide)).trans h), o11.past (by decide) (fun h => (put_ne (by decide)).trans h), o12.past (by decide) (fun h => (put_ne (by decide)).trans h), o13.past (by decide) (fun h => (put_ne (by decide)).trans h), o14.past (by decide) (fun h => (put_ne (by decide)).trans h), o15.past (by decide) (fun h => (put_ne (by decide)).trans h), o16.past (by decide) (fun h => (put_ne (by decide)).trans h), o17.past (by decide) (fun h => (put_ne (by decide)).trans h), o18.past (by decide) (fun h => (put_ne (by decide)).trans h), o19.past (by decide) (fun h => (put_ne (by decide)).trans h), o20.past (by decide) (fun h => (put_ne (by decide)).trans h), hK⟩
          · have e3 := o3 (ready_dep hm 3 (by kernel_rfl))
            have e6 := o6 (ready_dep hm 6 (by kernel_rfl))
            refine wpOp_step rfl (fun KK hK2 => ?_)
            go_simp
            exact hK2 (A.put (some 13) (.bool true)) _ ⟨hFR.put (by decide) _, o0.past (by decide) (fun h => (put_ne (by decide)).trans h), o1.past (by decide) (fun h => (put_ne (by decide)).trans h), o2.past (by decide) (fun h => (put_ne (by decide)).trans h), o3.past (by decide) (fun h => (put_ne (by decide)).trans h), o4.past (by decide) (fun h => (put_ne (by decide)).trans h), o5.past (by decide) (fun h => (put_ne (by decide)).trans h), o6.past (by decide) (fun h => (put_ne (by decide)).trans h), .now (put_eq (by have hz := hsz.out; omega)), o8.past (by decide) (fun h => (put_ne (by decide)).trans h), o9.past (by decide) (fun h => (put_ne (by decide)).trans h), o10.past (by decide) (fun h => (put_ne (by decide)).trans h), o11.past (by decide) (fun h => (put_ne (by decide)).trans h), o12.past (by decide) (fun h => (put_ne (by decide)).trans h), o13.past (by decide) (fun h => (put_ne (by decide)).trans h), o14.past (by decide) (fun h => (put_ne (by decide)).trans h), o15.past (by decide) (fun h => (put_ne (by decide)).trans h), o16.past (by decide) (fun h => (put_ne (by decide)).trans h), o17.past (by decide) (fun h => (put_ne (by decide)).trans h), o18.past (by decide) (fun h => (put_ne (by decide)).trans h), o19.past (by decide) (fun h => (put_ne (by decide)).trans h), o20.past (by decide) (fun h => (put_ne (by decide)).trans h), hK⟩
          · have e7 := o7 (ready_dep hm 7 (by kernel_rfl))
            refine wpOp_step rfl (fun KK hK2 => ?_)
            go_simp
            exact hK2 (A.put (some 14) (.bool true)) _ ⟨hFR.put (by decide) _, o0.past (by decide) (fun h => (put_ne (by decide)).trans h), o1.past (by decide) (fun h => (put_ne (by decide)).trans h), o2.past (by decide) (fun h => (put_ne (by decide)).trans h), o3.past (by decide) (fun h => (put_ne (by decide)).trans h), o4.past (by decide) (fun h => (put_ne (by decide)).trans h), o5.past (by decide) (fun h => (put_ne (by decide)).trans h), o6.past (by decide) (fun h => (put_ne (by decide)).trans h), o7.past (by decide) (fun h => (put_ne (by decide)).trans h), .now (put_eq (by have hz := hsz.out; omega)), o9.past (by decide) (fun h => (put_ne (by decide)).trans h), o10.past (by decide) (fun h => (put_ne (by decide)).trans h), o11.past (by decide) (fun h => (put_ne (by decide)).trans h), o12.past (by decide) (fun h => (put_ne (by decide)).trans h), o13.past (by decide) (fun h => (put_ne (by decide)).trans h), o14.past (by decide) (fun h => (put_ne (by decide)).trans h), o15.past (by decide) (fun h => (put_ne (by decide)).trans h), o16.past (by decide) (fun h => (put_ne (by decide)).trans h), o17.past (by decide) (fun h => (put_ne (by decide)).trans h), o18.past (by decide) (fun h => (put_ne (by decide)).trans h), o19.past (by decide) (fun h => (put_ne (by decide)).trans h), o20.past (by decide) (fun h => (put_ne (by decide)).trans h), hK⟩
          · have g := o8 (ready_dep hm 8 (by kernel_rfl))
            refine wpOp_on (b := true) rfl rfl rfl g (fun KK hK2 => ?_)
            go_simp
            exact hK2 (A.put (some 15) (.slice (some ⟨w.heap.size + 1 + 1, 0, none⟩) n n)) _ ⟨hFR.put (by decide) _, o0.past (by decide) (fun h => (put_ne (by decide)).trans h), o1.past (by decide) (fun h => (put_ne (by decide)).trans h), o2.past (by decide) (fun h => (put_ne (by decide)).trans h), o3.past (by decide) (fun h => (put_ne (by decide)).trans h), o4.past (by decide) (fun h => (put_ne (by decide)).trans h), o5.past (by decide) (fun h => (put_ne (by decide)).trans h), o6.past (by decide) (fun h => (put_ne (by decide)).trans h), o7.past (by decide) (fun h => (put_ne (by decide)).trans h), o8.past (by decide) (fun h => (put_ne (by decide)).trans h), .now (put_eq (by have hz := hsz.out; omega)), o10.past (by decide) (fun h => (put_ne (by decide)).trans h), o11.past (by decide) (fun h => (put_ne (by decide)).trans h), o12.past (by decide) (fun h => (put_ne (by decide)).trans h), o13.past (by decide) (fun h => (put_ne (by decide)).trans h), o14.past (by decide) (fun h => (put_ne (by decide)).trans h), o15.past (by decide) (fun h => (put_ne (by decide)).trans h), o16.past (by decide) (fun h => (put_ne (by decide)).trans h), o17.past (by decide) (fun h => (put_ne (by decide)).trans h), o18.past (by decide) (fun h => (put_ne (by decide)).trans h), o19.past (by decide) (fun h => (put_ne (by decide)).trans h), o20.past (by decide) (fun h => (put_ne (by decide)).trans h), hK⟩
          · have e9 := o9 (ready_dep hm 9 (by kernel_rfl))
            have g := o8 (ready_dep hm 8 (by kernel_rfl))
            refine wpOp_on (b := true) rfl rfl rfl g (fun KK hK2 => ?_)
            go_simp
            refine (implBlock _ _ n n ys ((O2.out.keptS hK (by omega)).came HW.out) HY.out (by omega) (Nat.le_refl _)).mono ?_
            rw [hC]
            rintro e9 y9 ⟨rfl, kd⟩
            go_simp
            exact hK2 (A.put (some 16) (.bool false)) _ ⟨hFR.put (by decide) _, o0.past (by decide) (fun h => (put_ne (by decide)).trans h), o1.past (by decide) (fun h => (put_ne (by decide)).trans h), o2.past (by decide) (fun h => (put_ne (by decide)).trans h), o3.past (by decide) (fun h => (put_ne (by decide)).trans h), o4.past (by decide) (fun h => (put_ne (by decide)).trans h), o5.past (by decide) (fun h => (put_ne (by decide)).trans h), o6.past (by decide) (fun h => (put_ne (by decide)).trans h), o7.past (by decide) (fun h => (put_ne (by decide)).trans h), o8.past (by decide) (fun h => (put_ne (by decide)).trans h), o9.past (by decide) (fun h => (put_ne (by decide)).trans h), .now (put_eq (by have hz := hsz.out; omega)), o11.past (by decide) (fun h => (put_ne (by decide)).trans h), o12.past (by decide) (fun h => (put_ne (by decide)).trans h), o13.past (by decide) (fun h => (put_ne (by decide)).trans h), o14.past (by decide) (fun h => (put_ne (by decide)).trans h), o15.past (by decide) (fun h => (put_ne (by decide)).trans h), o16.past (by decide) (fun h => (put_ne (by decide)).trans h), o17.past (by decide) (fun h => (put_ne (by decide)).trans h), o18.past (by decide) (fun h => (put_ne (by decide)).trans h), o19.past (by decide) (fun h => (put_ne (by decide)).trans h), o20.past (by decide) (fun h => (put_ne (by decide)).trans h), (hK.trans kd)⟩
          · have e8 := o8 (ready_dep hm 8 (by kernel_rfl))
            have e10 := o10 (ready_dep hm 10 (by kernel_rfl))
            refine wpOp_step rfl (fun KK hK2 => ?_)
            go_simp
            exact hK2 (A.put (some 17) (.bool false)) _ ⟨hFR.put (by decide) _, o0.past (by decide) (fun h => (put_ne (by decide)).trans h), o1.past (by decide) (fun h => (put_ne (by decide)).trans h), o2.past (by decide) (fun h => (put_ne (by decide)).trans h), o3.past (by decide) (fun h => (put_ne (by decide)).trans h), o4.past (by decide) (fun h => (put_ne (by decide)).trans h), o5.past (by decide) (fun h => (put_ne (by decide)).trans h), o6.past (by decide) (fun h => (put_ne (by decide)).trans h), o7.past (by decide) (fun h => (put_ne (by decide)).trans h), o8.past (by decide) (fun h => (put_ne (by decide)).trans h), o9.past (by decide) (fun h => (put_ne (by decide)).trans h), o10.past (by decide) (fun h => (put_ne (by decide)).trans h), .now (put_eq (by have hz := hsz.out; omega)), o12.past (by decide) (fun h => (put_ne (by decide)).trans h), o13.past (by decide) (fun h => (put_ne (by decide)).trans h), o14.past (by decide) (fun h => (put_ne (by decide)).trans h), o15.past (by decide) (fun h => (put_ne (by decide)).trans h), o16.past (by decide) (fun h => (put_ne (by decide)).trans h), o17.past (by decide) (fun h => (put_ne (by decide)).trans h), o18.past (by decide) (fun h => (put_ne (by decide)).trans h), o19.past (by decide) (fun h => (put_ne (by decide)).trans h), o20.past (by decide) (fun h => (put_ne (by decide)).trans h), hK⟩
          · have e11 := o11 (ready_dep hm 11 (by kernel_rfl))
            refine wpOp_step rfl (fun KK hK2 => ?_)
            go_simp
            exact hK2 (A.put (some 18) (.bool false)) _ ⟨hFR.put (by decide) _, o0.past (by decide) (fun h => (put_ne (by decide)).trans h), o1.past (by decide) (fun h => (put_ne (by decide)).trans h), o2.past (by decide) (fun h => (put_ne (by decide)).trans h), o3.past (by decide) (fun h => (put_ne (by decide)).trans h), o4.past (by decide) (fun h => (put_ne (by decide)).trans h), o5.past (by decide) (fun h => (put_ne (by decide)).trans h), o6.past (by decide) (fun h => (put_ne (by decide)).trans h), o7.past (by decide) (fun h => (put_ne (by decide)).trans h), o8.past (by decide) (fun h => (put_ne (by decide)).trans h), o9.past (by decide) (fun h => (put_ne (by decide)).trans h), o10.past (by decide) (fun h => (put_ne (by decide)).trans h), o11.past (by decide) (fun h => (put_ne (by decide)).trans h), .now (put_eq (by have hz := hsz.out; omega)), o13.past (by decide) (fun h => (put_ne (by decide)).trans h), o14.past (by decide) (fun h => (put_ne (by decide)).trans h), o15.past (by decide) (fun h => (put_ne (by decide)).trans h), o16.past (by decide) (fun h => (put_ne (by decide)).trans h), o17.past (by decide) (fun h => (put_ne (by decide)).trans h), o18.past (by decide) (fun h => (put_ne (by decide)).trans h), o19.past (by decide) (fun h => (put_ne (by decide)).trans h), o20.past (by decide) (fun h => (put_ne (by decide)).trans h), hK⟩
          · have g := o12 (ready_dep hm 12 (by kernel_rfl))
            refine wpOp_off (b := true) (c := false) rfl rfl rfl g (by decide) ?_
            exact ⟨hFR.put (by decide) _, o0.past (by decide) (fun h => (put_ne (by decide)).trans h), o1.past (by decide) (fun h => (put_ne (by decide)).trans h), o2.past (by decide) (fun h => (put_ne (by decide)).trans h), o3.past (by decide) (fun h => (put_ne (by decide)).trans h), o4.past (by decide) (fun h => (put_ne (by decide)).trans h), o5.past (by decide) (fun h => (put_ne (by decide)).trans h), o6.past (by decide) (fun h => (put_ne (by decide)).trans h), o7.past (by decide) (fun h => (put_ne (by decide)).trans h), o8.past (by decide) (fun h => (put_ne (by decide)).trans h), o9.past (by decide) (fun h => (put_ne (by decide)).trans h), o10.past (by decide) (fun h => (put_ne (by decide)).trans h), o11.past (by decide) (fun h => (put_ne (by decide)).trans h), o12.past (by decide) (fun h => (put_ne (by decide)).trans h), .now (put_eq (by have hz := hsz.out; omega)), o14.past (by decide) (fun h => (put_ne (by decide)).trans h), o15.past (by decide) (fun h => (put_ne (by decide)).trans h), o16.past (by decide) (fun h => (put_ne (by decide)).trans h), o17.past (by decide) (fun h => (put_ne (by decide)).trans h), o18.past (by decide) (fun h => (put_ne (by decide)).trans h), o19.past (by decide) (fun h => (put_ne (by decide)).trans h), o20.past (by decide) (fun h => (put_ne (by decide)).trans h), hK⟩
          · have g := o12 (ready_dep hm 12 (by kernel_rfl))
            refine wpOp_off (b := true) (c := false) rfl rfl rfl g (by decide) ?_
            exact ⟨hFR.put (by decide) _, o0.past (by decide) (fun h => (put_ne (by decide)).trans h), o1.past (by decide) (fun h => (put_ne (by decide)).trans h), o2.past (by decide) (fun h => (put_ne (by decide)).trans h), o3.past (by decide) (fun h => (put_ne (by decide)).trans h), o4.past (by decide) (fun h => (put_ne (by decide)).trans h), o5.past (by decide) (fun h => (put_ne (by decide)).trans h), o6.past (by decide) (fun h => (put_ne (by decide)).trans h), o7.past (by decide) (fun h => (put_ne (by decide)).trans h), o8.past (by decide) (fun h => (put_ne (by decide)).trans h), o9.past (by decide) (fun h => (put_ne (by decide)).trans h), o10.past (by decide) (fun h => (put_ne (by decide)).trans h), o11.past (by decide) (fun h => (put_ne (by decide)).trans h), o12.past (by decide) (fun h => (put_ne (by decide)).trans h), o13.past (by decide) (fun h => (put_ne (by decide)).trans h), .now (put_eq (by have hz := hsz.out; omega)), o15.past (by decide) (fun h => (put_ne (by decide)).trans h), o16.past (by decide) (fun h => (put_ne (by decide)).trans h), o17.past (by decide) (fun h => (put_ne (by decide)).trans h), o18.past (by decide) (fun h => (put_ne (by decide)).trans h), o19.past (by decide) (fun h => (put_ne (by decide)).trans h), o20.past (by decide) (fun h => (put_ne (by decide)).trans h), hK⟩
          · have e14 := o14 (ready_dep hm 14 (by kernel_rfl))
            have g := o12 (ready_dep hm 12 (by kernel_rfl))
            refine wpOp_off (b := true) (c := false) rfl rfl rfl g (by decide) ?_
            exact ⟨hFR.put (by decide) _, o0.past (by decide) (fun h => (put_ne (by decide)).trans h), o1.past (by decide) (fun h => (put_ne (by decide)).trans h), o2.past (by decide) (fun h => (put_ne (by decide)).trans h), o3.past (by decide) (fun h => (put_ne (by decide)).trans h), o4.past (by decide) (fun h => (put_ne (by decide)).trans h), o5.past (by decide) (fun h => (put_ne (by decide)).trans h), o6.past (by decide) (fun h => (put_ne (by decide)).trans h), o7.past (by decide) (fun h => (put_ne (by decide)).trans h), o8.past (by decide) (fun h => (put_ne (by decide)).trans h), o9.past (by decide) (fun h => (put_ne (by decide)).trans h), o10.past (by decide) (fun h => (put_ne (by decide)).trans h), o11.past (by decide) (fun h => (put_ne (by decide)).trans h), o12.past (by decide) (fun h => (put_ne (by decide)).trans h), o13.past (by decide) (fun h => (put_ne (by decide)).trans h), o14.past (by decide) (fun h => (put_ne (by decide)).trans h), .now (put_eq (by have hz := hsz.out; omega)), o16.past (by decide) (fun h => (put_ne (by decide)).trans h), o17.past (by decide) (fun h => (put_ne (by decide)).trans h), o18.past (by decide) (fun h => (put_ne (by decide)).trans h), o19.past (by decide) (fun h => (put_ne (by decide)).trans h), o20.past (by decide) (fun h => (put_ne (by decide)).trans h), hK⟩
          · have g := o12 (ready_dep hm 12 (by kernel_rfl))
            refine wpOp_off (b := true) (c := false) rfl rfl rfl g (by decide) ?_
            exact ⟨hFR.put (by decide) _, o0.past (by decide) (fun h => (put_ne (by decide)).trans h), o1.past (by decide) (fun h => (put_ne (by decide)).trans h), o2.past (by decide) (fun h => (put_ne (by decide)).trans h), o3.past (by decide) (fun h => (put_ne (by decide)).trans h), o4.past (by decide) (fun h => (put_ne (by decide)).trans h), o5.past (by decide) (fun h => (put_ne (by decide)).trans h), o6.past (by decide) (fun h => (put_ne (by decide)).trans h), o7.past (by decide) (fun h => (put_ne (by decide)).trans h), o8.past (by decide) (fun h => (put_ne (by decide)).trans h), o9.past (by decide) (fun h => (put_ne (by decide)).trans h), o10.past (by decide) (fun h => (put_ne (by decide)).trans h), o11.past (by decide) (fun h => (put_ne (by decide)).trans h), o12.past (by decide) (fun h => (put_ne (by decide)).trans h), o13.past (by decide) (fun h => (put_ne (by decide)).trans h), o14.past (by decide) (fun h => (put_ne (by decide)).trans h), o15.past (by decide) (fun h => (put_ne (by decide)).trans h), .now (put_eq (by have hz := hsz.out; omega)), o17.past (by decide) (fun h => (put_ne (by decide)).trans h), o18.past (by decide) (fun h => (put_ne (by decide)).trans h), o19.past (by decide) (fun h => (put_ne (by decide)).trans h), o20.past (by decide) (fun h => (put_ne (by decide)).trans h), hK⟩
          · have e15 := o15 (ready_dep hm 15 (by kernel_rfl))
            have e16 := o16 (ready_dep hm 16 (by kernel_rfl))
            have g := o12 (ready_dep hm 12 (by kernel_rfl))
            refine wpOp_off (b := true) (c := false) rfl rfl rfl g (by decide) ?_
            exact ⟨hFR.put (by decide) _, o0.past (by decide) (fun h => (put_ne (by decide)).trans h), o1.past (by decide) (fun h => (put_ne (by decide)).trans h), o2.past (by decide) (fun h => (put_ne (by decide)).trans h), o3.past (by decide) (fun h => (put_ne (by decide)).trans h), o4.past (by decide) (fun h => (put_ne (by decide)).trans h), o5.past (by decide) (fun h => (put_ne (by decide)).trans h), o6.past (by decide) (fun h => (put_ne (by decide)).trans h), o7.past (by decide) (fun h => (put_ne (by decide)).trans h), o8.past (by decide) (fun h => (put_ne (by decide)).trans h), o9.past (by decide) (fun h => (put_ne (by decide)).trans h), o10.past (by decide) (fun h => (put_ne (by decide)).trans h), o11.past (by decide) (fun h => (put_ne (by decide)).trans h), o12.past (by decide) (fun h => (put_ne (by decide)).trans h), o13.past (by decide) (fun h => (put_ne (by decide)).trans h), o14.past (by decide) (fun h => (put_ne (by decide)).trans h), o15.past (by decide) (fun h => (put_ne (by decide)).trans h), o16.past (by decide) (fun h => (put_ne (by decide)).trans h), .now (put_eq (by have hz := hsz.out; omega)), o18.past (by decide) (fun h => (put_ne (by decide)).trans h), o19.past (by decide) (fun h => (put_ne (by decide)).trans h), o20.past (by decide) (fun h => (put_ne (by decide)).trans h), hK⟩
          · have e13 := o13 (ready_dep hm 13 (by kernel_rfl))
            have e17 := o17 (ready_dep hm 17 (by kernel_rfl))
            have g := o12 (ready_dep hm 12 (by kernel_rfl))
            refine wpOp_off (b := true) (c := false) rfl rfl rfl g (by decide) ?_
            exact ⟨hFR.put (by decide) _, o0.past (by decide) (fun h => (put_ne (by decide)).trans h), o1.past (by decide) (fun h => (put_ne (by decide)).trans h), o2.past (by decide) (fun h => (put_ne (by decide)).trans h), o3.past (by decide) (fun h => (put_ne (by decide)).trans h), o4.past (by decide) (fun h => (put_ne (by decide)).trans h), o5.past (by decide) (fun h => (put_ne (by decide)).trans h), o6.past (by decide) (fun h => (put_ne (by decide)).trans h), o7.past (by decide) (fun h => (put_ne (by decide)).trans h), o8.past (by decide) (fun h => (put_ne (by decide)).trans h), o9.past (by decide) (fun h => (put_ne (by decide)).trans h), o10.past (by decide) (fun h => (put_ne (by decide)).trans h), o11.past (by decide) (fun h => (put_ne (by decide)).trans h), o12.past (by decide) (fun h => (put_ne (by decide)).trans h), o13.past (by decide) (fun h => (put_ne (by decide)).trans h), o14.past (by decide) (fun h => (put_ne (by decide)).trans h), o15.past (by decide) (fun h => (put_ne (by decide)).trans h), o16.past (by decide) (fun h => (put_ne (by decide)).trans h), o17.past (by decide) (fun h => (put_ne (by decide)).trans h), .now (put_eq (by have hz := hsz.out; omega)), o19.past (by decide) (fun h => (put_ne (by decide)).trans h), o20.past (by decide) (fun h => (put_ne (by decide)).trans h), hK⟩
          · have e12 := o12 (ready_dep hm 12 (by kernel_rfl))
            have e18 := o18 (ready_dep hm 18 (by kernel_rfl))
            refine wpOp_step rfl (fun KK hK2 => ?_)
            go_simp
            exact hK2 (A.put (some 25) (.bool false)) _ ⟨hFR.put (by decide) _, o0.past (by decide) (fun h => (put_ne (by decide)).trans h), o1.past (by decide) (fun h => (put_ne (by decide)).trans h), o2.past (by decide) (fun h => (put_ne (by decide)).trans h), o3.past (by decide) (fun h => (put_ne (by decide)).trans h), o4.past (by decide) (fun h => (put_ne (by decide)).trans h), o5.past (by decide) (fun h => (put_ne (by decide)).trans h), o6.past (by decide) (fun h => (put_ne (by decide)).trans h), o7.past (by decide) (fun h => (put_ne (by decide)).trans h), o8.past (by decide) (fun h => (put_ne (by decide)).trans h), o9.past (by decide) (fun h => (put_ne (by decide)).trans h), o10.past (by decide) (fun h => (put_ne (by decide)).trans h), o11.past (by decide) (fun h => (put_ne (by decide)).trans h), o12.past (by decide) (fun h => (put_ne (by decide)).trans h), o13.past (by decide) (fun h => (put_ne (by decide)).trans h), o14.past (by decide) (fun h => (put_ne (by decide)).trans h), o15.past (by decide) (fun h => (put_ne (by decide)).trans h), o16.past (by decide) (fun h => (put_ne (by decide)).trans h), o17.past (by decide) (fun h => (put_ne (by decide)).trans h), o18.past (by decide) (fun h => (put_ne (by decide)).trans h), .now (put_eq (by have hz := hsz.out; omega)), o20.past (by decide) (fun h => (put_ne (by decide)).trans h), hK⟩
          · have e19 := o19 (ready_dep hm 19 (by kernel_rfl))
            refine wpOp_step rfl (fun KK hK2 => ?_)
            go_simp
            exact hK2 (A.put (some 2) (.bool false)) _ ⟨hFR.put (by decide) _, o0.past (by decide) (fun h => (put_ne (by decide)).trans h), o1.past (by decide) (fun h => (put_ne (by decide)).trans h), o2.past (by decide) (fun h => (put_ne (by decide)).trans h), o3.past (by decide) (fun h => (put_ne (by decide)).trans h), o4.past (by decide) (fun h => (put_ne (by decide)).trans h), o5.past (by decide) (fun h => (put_ne (by decide)).trans h), o6.past (by decide) (fun h => (put_ne (by decide)).trans h), o7.past (by decide) (fun h => (put_ne (by decide)).trans h), o8.past (by decide) (fun h => (put_ne (by decide)).trans h), o9.past (by decide) (fun h => (put_ne (by decide)).trans h), o10.past (by decide) (fun h => (put_ne (by decide)).trans h), o11.past (by decide) (fun h => (put_ne (by decide)).trans h), o12.past (by decide) (fun h => (put_ne (by decide)).trans h), o13.past (by decide) (fun h => (put_ne (by decide)).trans h), o14.past (by decide) (fun h => (put_ne (by decide)).trans h), o15.past (by decide) (fun h => (put_ne (by decide)).trans h), o16.past (by decide) (fun h => (put_ne (by decide)).trans h), o17.past (by decide) (fun h => (put_ne (by decide)).trans h), o18.past (by decide) (fun h => (put_ne (by decide)).trans h), o19.past (by decide) (fun h => (put_ne (by decide)).trans h), .now (put_eq (by have hz := hsz.out; omega)), hK⟩
          · simp at hi1
            omega
      · obtain ⟨us, hu⟩ : ∃ us : List Int, us = (List.range n).map (fun k => Pl.placeB ys f k) := ⟨_, rfl⟩
        have hu2 : ∀ k, k < n → el us k = Pl.placeB ys f k := fun k hk => by rw [hu]; unfold el; rw [List.getElem?_map, List.getElem?_range hk]; rfl
        obtain ⟨n1, n8, ok, st_, hr⟩ := Pl.blockOk_out hC
        have E := hide (Pl.goodU_same (ts := ts) (sk := sk) (t := t) hC f0 f1 fe t1 hu2)
        clear hu
        go_enter Try.func8, Try.ntmps8
        go_wp2_with (go_at_call 20; refine (instrOf _ f t a ca n ys ts sk (HA.out.keptS K0.out) HY.out bx).mono ?_; rintro e9 w2 ⟨rfl, o2, s2, k2⟩; rw [e1]; rw [e1] at o2; have B2 := hide (B0.out.kept0 k2); have K2 := hide (K0.out.trans k2); have O2 := hide o2; have p2 := B2.out.all; clear k2 o2 s2)
        go_region_held3 (fun w' => ∀ i, w'.cell? ⟨w.heap.size, i, none⟩ = ((#[iv f, iv t, .slice a n ca] : Array Value))[i]?) (first | with_reducible exact B6.out.all | with_reducible exact B5.out.all | with_reducible exact B4.out.all | exact (show Blk _ _ _ _ from B2.out).all) (first | (go_at_call 21; refine st (isCodePlace _ _) ?_; rw [hA]) | (go_at_call 22; refine (implBlock _ _ n n ys ((O2.out.keptS (kept_drew (Kept.refl 0 0 w2)) (by omega)).came HW.out) HY.out (by omega) (Nat.le_refl _)).mono ?_; rw [hC]; rintro e9 w4 ⟨rfl, kd⟩; have k4 := undrewK kd; have B4 := hide (B2.out.kept0 k4); have K4 := hide (K2.out.trans k4); have O4 := hide (O2.out.keptS k4 (by omega)); clear kd k4) | (go_at_call 24; refine (implUnitOf _ f _ n n ys us (O4.out.came HW.out) HY.out n1 n8 (Nat.le_refl _) ok hr f0 f1 hu2).mono ?_; rintro e9 w5 ⟨rfl, m5, s5, k5⟩; have B5 := hide (B4.out.kept0 k5); have K5 := hide (K4.out.trans k5); have M5 := hide m5; clear k5 m5 s5) | (go_at_call 23; refine (implSame _ f t f (Pl.placeB ys f n) a _ ca n n ys ts us sk (Pl.skV ys n) (HA.out.keptS K5.out) M5.out.row bx).mono ?_; rw [← E.out]; rintro e9 w6 ⟨rfl, k6⟩; have B6 := hide (B5.out.kept0 k6); have K6 := hide (K5.out.trans k6); clear k6))
        go_wp2_with fail
        go_ret
        exact ⟨rfl, K6.out⟩
end Go.Proofs.Ytbppfbkkphhjnaa

namespace Go.Proofs.Ytbppfbkkphhjnaa
open Go.RowKit
set_option linter.unusedVariables false
set_option linter.unusedSimpArgs false
set_option maxRecDepth 100000 in
set_option maxHeartbeats 8000000 in
theorem lawGoodUnit (f t : Int) (a : Option Addr) (ca n : Nat) (ys ts : List Int) (sk : List Bool) (w : World) (ha : MRow w a n ys ts sk) (ly : ys.length = 7 * n) (wy : Wide ys) (lm : n ≤ 9223372036854775807) :
    Calls Try.prog 3 #[.agg #[iv f, iv t, .slice a n ca]] w fun r' w' => r' = .returned (.bool true) ∧ Below w.heap.size w w' := by
  have K0 := hide (kept_alloc w (.cells #[iv f, iv t, .slice a n ca] 24))
  have A0 := hide (Blk.new w #[iv f, iv t, .slice a n ca] 24)
  have HA := hide ha
  have HY := hide ly
  have HW := hide wy
  clear ha ly wy
  by_cases hb : (1048576 : Int) - (n : Int) < 0
  · have hsz : (if (1048576 : Int) - (n : Int) < 0 then (-1 : Int) else 1048576 - (n : Int)) = -1 := if_pos hb
    go_enter Try.func3, Try.ntmps3
    go_wp2_with fail
    refine (szUnit _ f t a ca n 1048576 lm (by decide) (by decide)).mono ?_
    rw [hsz]
    rintro e9 w1 ⟨rfl, k1⟩
    have K1 := hide (K0.out.trans k1)
    clear k1
    go_wp2_with fail
    go_ret
    exact ⟨rfl, K1.out.below⟩
  · obtain ⟨LF, hLF⟩ : ∃ LF : Int, LF = 1048576 - (n : Int) := ⟨_, rfl⟩
    have hsz : (if (1048576 : Int) - (n : Int) < 0 then (-1 : Int) else 1048576 - (n : Int)) = LF := (if_neg hb).trans hLF.symm
    have bx : n ≤ 2000000 := by omega
    have q9 : 0 ≤ LF := by omega
    clear hb hLF
    obtain ⟨G, hG⟩ : ∃ G, G = Pl.goodU f t n ys ts sk := ⟨_, rfl⟩
    have HG := hide hG
    clear hG
    go_enter Try.func3, Try.ntmps3
    go_wp2_with fail
    refine (szUnit _ f t a ca n 1048576 lm (by decide) (by decide)).mono ?_
    rw [hsz]
    rintro e9 w1 ⟨rfl, k1⟩
    have K1 := hide (K0.out.trans k1)
    have A1 := hide (A0.out.kept0 k1)
    have p1 := A1.out.all
    clear k1
    go_wp2_with fail
    clear p1
    refine (toUnit _ f t a ca n ys ts sk (HA.out.keptS K1.out) bx).mono ?_
    rintro e9 w2 ⟨g1, rfl, h1, h2, m2, k2⟩
    have K2 := hide (K1.out.trans k2)
    have A2 := hide (A1.out.kept0 k2)
    have M2 := hide m2
    clear k2 m2 h1 h2
    go_wp2_with fail
    refine (specGoodUnit _ f t _ n n ys ts sk M2.out.row HY.out bx).mono ?_
    rw [← HG.out]
    rintro e9 w3 ⟨rfl, k3⟩
    have K3 := hide (K2.out.trans k3)
    have A3 := hide (A2.out.kept0 k3)
    have p3 := A3.out.all
    clear k3 M2
    go_wp2_with fail
    clear p3
    refine (toUnit _ f t a ca n ys ts sk (HA.out.keptS K3.out) bx).mono ?_
    rintro e9 w4 ⟨g2, rfl, h1, h2, m4, k4⟩
    have K4 := hide (kept_new (K3.out.trans k4) (.cells #[iv f, iv t, .slice (some ⟨g2, 0, none⟩) n n] 29))
    have A4 := hide ((A3.out.kept0 k4).alloc (.cells #[iv f, iv t, .slice (some ⟨g2, 0, none⟩) n n] 29))
    have X4 := hide (Blk.new w4 #[iv f, iv t, .slice (some ⟨g2, 0, none⟩) n n] 29)
    have M4 := hide (MOwn.keptS m4 (kept_alloc w4 (.cells #[iv f, iv t, .slice (some ⟨g2, 0, none⟩) n n] 29)) (by omega))
    have p4 := X4.out.all
    clear k4 m4
    go_wp2_with fail
    clear p4
    refine (implGoodUnit _ f t _ n n ys ts sk M4.out.row HY.out HW.out bx).mono ?_
    rw [← HG.out]
    rintro e9 w7 ⟨rfl, k7⟩
    have K7 := hide (K4.out.trans k7)
    have A7 := hide (A4.out.kept0 k7)
    have X7 := hide (X4.out.kept0 k7)
    have M4n := hide (M4.out.keptS k7 (by omega))
    clear k7 M4
    have M4 := M4n
    clear M4n
    have qq : (G != G) = false := by cases G <;> rfl
    go_wp2_with fail
    go_region_held3 (fun w' => (∀ i, w'.cell? ⟨w.heap.size, i, none⟩ = ((#[iv f, iv t, .slice a n ca] : Array Value))[i]?) ∧ (∀ i, w'.cell? ⟨w4.heap.size, i, none⟩ = ((#[iv f, iv t, .slice (some ⟨g2, 0, none⟩) n n] : Array Value))[i]?)) (first | with_reducible exact ⟨A9.out.all, X9.out.all⟩ | with_reducible exact ⟨A8.out.all, X8.out.all⟩ | exact ⟨(show Blk _ _ _ _ from A7.out).all, (show Blk _ _ _ _ from X7.out).all⟩) (first | (go_at_call 7; refine (toUnit _ f t a ca n ys ts sk (HA.out.keptS (kept_drew K7.out)) bx).mono ?_; rintro e9 w8 ⟨g8, rfl, h81, h82, m8, kd⟩; have k8 := undrewK kd; have K8 := hide (K7.out.trans k8); have A8 := hide (A7.out.kept0 k8); have X8 := hide (X7.out.kept0 k8); have M7 := hide (M4.out.keptS k8 (by omega)); have M8 := hide m8; clear k8 kd m8) | (go_at_call 9; refine (eqUnit _ f t _ _ n n n ys ts sk M7.out.row M8.out.row bx).mono ?_; rintro e9 w9 ⟨rfl, k9⟩; have K9 := hide (K8.out.trans k9); have A9 := hide (A8.out.kept0 k9); have X9 := hide (X8.out.kept0 k9); clear k9))
    go_wp2_with fail
    go_ret
    exact ⟨rfl, K9.out.below⟩
end Go.Proofs.Ytbppfbkkphhjnaa

namespace Go.Proofs.Ytbppfbkkphhjnaa
open Go.RowKit Go.WideShapes Go.ChangeShapes Go.ChangeAt
set_option linter.unusedVariables false
set_option maxRecDepth 100000

theorem Try.cellsInt : Try.prog.cellsOf 3 = 1 := by kernel_rfl
theorem Try.cellsOpnd : Try.prog.cellsOf 62 = 3 := by kernel_rfl
theorem Try.cellsIns : Try.prog.cellsOf 64 = 7 := by kernel_rfl

theorem Addr.add_add_own (a : Addr) (i j : Nat) : (a.add i).add j = a.add (i + j) := by
  unfold Addr.add
  by_cases hi : i = 0 <;> by_cases hj : j = 0 <;> simp [hi, hj, Nat.add_assoc]
section
variable {H : Type} {enc : TypeId × Value → H} {w : World} {base : Nat} {spare : Nat → Bool} {held : Bool}

theorem open_insCells {fuel : Nat} {c0 c1 c2 c3 c4 c5 c6 : Value} {y : DataW H × List MemPlace} (h : DataW.trod enc Try.prog w base spare held fuel 64 [c0, c1, c2, c3, c4, c5, c6] = some y) :
    ∃ i0 i1 i2 i3 i4 i5 i6 : Int, (c0 = .int .i64 i0 ∧ c1 = .int .i64 i1 ∧ c2 = .int .i64 i2 ∧ c3 = .int .i64 i3 ∧ c4 = .int .i64 i4 ∧ c5 = .int .i64 i5 ∧ c6 = .int .i64 i6) ∧ (Lit.int .i64 i0).wf = true ∧ (Lit.int .i64 i1).wf = true ∧ (Lit.int .i64 i2).wf = true ∧ (Lit.int .i64 i3).wf = true ∧ (Lit.int .i64 i4).wf = true ∧ (Lit.int .i64 i5).wf = true ∧ (Lit.int .i64 i6).wf = true := by
  obtain ⟨zs, k, _, _, _, hzl, hf⟩ := DataW.trod_struct Try.underlying64 h
  obtain ⟨z0, z1, z2, z3, z4, rfl⟩ : ∃ z0 z1 z2 z3 z4, zs = [z0, z1, z2, z3, z4] := by
    match zs, hzl with
    | [z0, z1, z2, z3, z4], _ => exact ⟨z0, z1, z2, z3, z4, rfl⟩
  have t0 := hf 0 _ rfl
  have t1 := hf 1 _ rfl
  have t2 := hf 2 _ rfl
  have t3 := hf 3 _ rfl
  have t4 := hf 4 _ rfl
  simp [Try.cellsInt, Try.cellsOpnd] at t0 t1 t2 t3 t4
  obtain ⟨ys, k2, _, _, _, hyl, hg⟩ := DataW.trod_struct Try.underlying62 t3
  obtain ⟨y0, y1, y2, rfl⟩ : ∃ y0 y1 y2, ys = [y0, y1, y2] := by
    match ys, hyl with
    | [y0, y1, y2], _ => exact ⟨y0, y1, y2, rfl⟩
  have s0 := hg 0 _ rfl
  have s1 := hg 1 _ rfl
  have s2 := hg 2 _ rfl
  simp [Try.cellsInt] at s0 s1 s2
  obtain ⟨i0, e0, _, b0⟩ := DataW.trod_int Try.underlying3 t0
  obtain ⟨i1, e1, _, b1⟩ := DataW.trod_int Try.underlying3 t1
  obtain ⟨i2, e2, _, b2⟩ := DataW.trod_int Try.underlying3 t2
  obtain ⟨i3, e3, _, b3⟩ := DataW.trod_int Try.underlying3 s0
  obtain ⟨i4, e4, _, b4⟩ := DataW.trod_int Try.underlying3 s1
  obtain ⟨i5, e5, _, b5⟩ := DataW.trod_int Try.underlying3 s2
  obtain ⟨i6, e6, _, b6⟩ := DataW.trod_int Try.underlying3 t4
  simp at e0 e1 e2 e3 e4 e5 e6
  exact ⟨i0, i1, i2, i3, i4, i5, i6, ⟨e0, e1, e2, e3, e4, e5, e6⟩, b0, b1, b2, b3, b4, b5, b6⟩
end
end Go.Proofs.Ytbppfbkkphhjnaa

namespace Go.Proofs.Ytbppfbkkphhjnaa
open Go.RowKit Go.WideShapes Go.ChangeShapes Go.ChangeAt
set_option linter.unusedVariables false
set_option maxRecDepth 100000
theorem Try.cellsBool : Try.prog.cellsOf 4 = 1 := by kernel_rfl
theorem Try.cellsMicro : Try.prog.cellsOf 66 = 9 := by kernel_rfl
theorem Try.cellsMicros : Try.prog.cellsOf 22 = 1 := by kernel_rfl
theorem Try.cellsUnit : Try.prog.cellsOf 24 = 3 := by kernel_rfl
/-- the numbers of an instruction, in their order -/
def inC (y : Pl.In) : Nat → Int
  | 0 => y.op
  | 1 => y.z
  | 2 => y.r
  | 3 => y.m
  | 4 => y.k
  | 5 => y.e
  | _ => y.s
theorem micros_of {w : World} {x : Addr} {len : Nat} (h : ∀ k, k < len → ∃ r : Pl.In × Int × Bool, (∀ j, j < 7 → w.cell? (x.add (k * 9 + j)) = some (.int .i64 (inC r.1 j)) ∧ (Lit.int .i64 (inC r.1 j)).wf = true) ∧ w.cell? (x.add (k * 9 + 7)) = some (.int .i64 r.2.1) ∧ (Lit.int .i64 r.2.1).wf = true ∧ w.cell? (x.add (k * 9 + 8)) = some (.bool r.2.2)) :
    ∃ (ys ts : List Int) (sk : List Bool), MRow w (some x) len ys ts sk ∧ ys.length = 7 * len ∧ ts.length = len ∧ sk.length = len ∧ Wide ys ∧ Wide ts := by
  obtain ⟨f, hf⟩ : ∃ f : Nat → Pl.In × Int × Bool, ∀ k, k < len → ((∀ j, j < 7 → w.cell? (x.add (k * 9 + j)) = some (.int .i64 (inC (f k).1 j)) ∧ (Lit.int .i64 (inC (f k).1 j)).wf = true) ∧ w.cell? (x.add (k * 9 + 7)) = some (.int .i64 (f k).2.1) ∧ (Lit.int .i64 (f k).2.1).wf = true ∧ w.cell? (x.add (k * 9 + 8)) = some (.bool (f k).2.2)) := by
    have h2 : ∀ k, ∃ r : Pl.In × Int × Bool, k < len → ((∀ j, j < 7 → w.cell? (x.add (k * 9 + j)) = some (.int .i64 (inC r.1 j)) ∧ (Lit.int .i64 (inC r.1 j)).wf = true) ∧ w.cell? (x.add (k * 9 + 7)) = some (.int .i64 r.2.1) ∧ (Lit.int .i64 r.2.1).wf = true ∧ w.cell? (x.add (k * 9 + 8)) = some (.bool r.2.2)) := by
      intro k
      by_cases hk : k < len
      · obtain ⟨r, hr⟩ := h k hk
        exact ⟨r, fun _ => hr⟩
      · exact ⟨(Pl.inNo, 0, false), fun q => absurd q hk⟩
    exact ⟨fun k => Classical.choose (h2 k), fun k hk => Classical.choose_spec (h2 k) hk⟩
  obtain ⟨ys, hys⟩ : ∃ ys : List Int, ys = (List.range (7 * len)).map fun i => inC (f (i / 7)).1 (i % 7) := ⟨_, rfl⟩
  obtain ⟨ts, hts⟩ : ∃ ts : List Int, ts = (List.range len).map fun k => (f k).2.1 := ⟨_, rfl⟩
  obtain ⟨sk, hsk⟩ : ∃ sk : List Bool, sk = (List.range len).map fun k => (f k).2.2 := ⟨_, rfl⟩
  have ey : ∀ i, i < 7 * len → el ys i = inC (f (i / 7)).1 (i % 7) := fun i hi => by rw [hys]; unfold el; rw [List.getElem?_map, List.getElem?_range hi]; rfl
  have et : ∀ i, i < len → el ts i = (f i).2.1 := fun i hi => by rw [hts]; unfold el; rw [List.getElem?_map, List.getElem?_range hi]; rfl
  have es : ∀ i, i < len → bl sk i = (f i).2.2 := fun i hi => by rw [hsk]; unfold bl; rw [List.getElem?_map, List.getElem?_range hi]; rfl
  refine ⟨ys, ts, sk, ?_, by rw [hys]; simp, by rw [hts]; simp, by rw [hsk]; simp, ?_, ?_⟩
  · intro i hi
    rw [miL_len] at hi
    have hk : i / 9 < len := by omega
    obtain ⟨q7, q8, _, q9⟩ := hf (i / 9) hk
    obtain ⟨m7, m8, m9⟩ := miL_at ys ts sk hk
    have hc : w.cell? (x.add i) = some (vl (miL ys ts sk len) i) := by
      rcases Nat.lt_or_ge (i % 9) 7 with hj | hj
      · have e : i / 9 * 9 + i % 9 = i := by omega
        have h1 := (q7 (i % 9) hj).1
        have h2 := m7 (i % 9) hj
        rw [e] at h1 h2
        rw [h1, h2, ey _ (by omega), show (i / 9 * 7 + i % 9) / 7 = i / 9 from by omega, show (i / 9 * 7 + i % 9) % 7 = i % 9 from by omega]
      · rcases (show i % 9 = 7 ∨ i % 9 = 8 by omega) with h7 | h8
        · have e : i / 9 * 9 + 7 = i := by omega
          rw [e] at q8 m8
          rw [q8, m8, et _ hk]
        · have e : i / 9 * 9 + 8 = i := by omega
          rw [e] at q9 m9
          rw [q9, m9, es _ hk]
    obtain ⟨g, off, spot⟩ := x
    have hspot : spot = none := by
      have h0 := (hf 0 (by omega)).1 0 (by decide)
      simpa [Addr.add] using World.cell?_spot h0.1
    subst hspot
    refine ⟨g, off, rfl, ?_⟩
    by_cases h0 : i = 0
    · subst h0; simpa [Addr.add] using hc
    · simpa [Addr.add, h0] using hc
  · intro i hi
    have hi7 : i < 7 * len := by rw [hys] at hi; simpa using hi
    have hq := ((hf (i / 7) (by omega)).1 (i % 7) (by omega)).2
    rw [← ey i hi7] at hq
    have := bounds_i64 hq
    unfold el at this
    exact this
  · intro i hi
    have hi7 : i < len := by rw [hts] at hi; simpa using hi
    have hq := (hf i hi7).2.2.1
    rw [← et i hi7] at hq
    have := bounds_i64 hq
    unfold el at this
    exact this
section
variable {H : Type} {enc : TypeId × Value → H} {w : World} {base : Nat} {spare : Nat → Bool} {held : Bool}
theorem open_MicroRow {fuel : Nat} {v : Value} {y : DataW H × List MemPlace} (h : DataW.trod enc Try.prog w base spare held fuel 22 [v] = some y) :
    ∃ (a : Option Addr) (m cap : Nat) (ys ts : List Int) (sk : List Bool), v = .slice a m cap ∧ MRow w a m ys ts sk ∧ ys.length = 7 * m ∧ ts.length = m ∧ sk.length = m ∧ Wide ys ∧ Wide ts ∧ m ≤ maxLen := by
  rcases Go.Deep.open_slice Try.underlying22 h with ⟨hc, _⟩ | ⟨x, len, cap, m, n, D, Pl, hc, _, hl, hm, hmm, _, hel⟩
  · simp at hc
    exact ⟨none, 0, 0, [], [], [], hc, fun i hi => absurd hi (by simp [miL]), rfl, rfl, rfl, fun i hi => absurd hi (Nat.not_lt_zero i), fun i hi => absurd hi (Nat.not_lt_zero i), Nat.zero_le _⟩
  · simp at hc
    have hlen : len ≤ m := by rw [hmm]; split <;> omega
    obtain ⟨ys, ts, sk, h1, h2, h3, h4, h5, h6⟩ := micros_of (w := w) (x := x) (len := len) (by
      intro k hk
      obtain ⟨cs', h1, h2⟩ := hel k (by omega)
      rw [Try.cellsMicro] at h1
      obtain ⟨_, hl5, hcs⟩ := World.cells?_some h1
      obtain ⟨c0, c1, c2, c3, c4, c5, c6, c7, c8, rfl⟩ : ∃ c0 c1 c2 c3 c4 c5 c6 c7 c8, cs' = [c0, c1, c2, c3, c4, c5, c6, c7, c8] := by
        match cs', hl5 with
        | [c0, c1, c2, c3, c4, c5, c6, c7, c8], _ => exact ⟨c0, c1, c2, c3, c4, c5, c6, c7, c8, rfl⟩
      have hget : ∀ j, j < 9 → w.cell? (x.add (k * 9 + j)) = [c0, c1, c2, c3, c4, c5, c6, c7, c8][j]? := fun j hj => by
        have h9 := hcs j (by omega)
        rw [Addr.add_add_own] at h9
        exact h9
      obtain ⟨zs, k2, _, _, _, hzl, hf⟩ := DataW.trod_struct Try.underlying66 h2
      obtain ⟨z0, z1, z2, rfl⟩ : ∃ z0 z1 z2, zs = [z0, z1, z2] := by
        match zs, hzl with
        | [z0, z1, z2], _ => exact ⟨z0, z1, z2, rfl⟩
      have t0 := hf 0 _ rfl
      have t1 := hf 1 _ rfl
      have t2 := hf 2 _ rfl
      simp [Try.cellsInt, Try.cellsIns, Try.cellsBool] at t0 t1 t2
      obtain ⟨n0, n1, n2, n3, n4, n5, n6, ⟨e0, e1, e2, e3, e4, e5, e6⟩, b0, b1, b2, b3, b4, b5, b6⟩ := open_insCells t0
      obtain ⟨n7, e7, _, b7⟩ := DataW.trod_int Try.underlying3 t1
      obtain ⟨n8, e8, _⟩ := DataW.trod_bool Try.underlying4 t2
      simp at e7 e8
      subst e0 e1 e2 e3 e4 e5 e6 e7 e8
      refine ⟨(⟨n0, n1, n2, n3, n4, n5, n6⟩, n7, n8), ?_, hget 7 (by decide), b7, hget 8 (by decide)⟩
      intro j hj
      obtain rfl | rfl | rfl | rfl | rfl | rfl | rfl : j = 0 ∨ j = 1 ∨ j = 2 ∨ j = 3 ∨ j = 4 ∨ j = 5 ∨ j = 6 := by omega
      · exact ⟨hget 0 (by decide), b0⟩
      · exact ⟨hget 1 (by decide), b1⟩
      · exact ⟨hget 2 (by decide), b2⟩
      · exact ⟨hget 3 (by decide), b3⟩
      · exact ⟨hget 4 (by decide), b4⟩
      · exact ⟨hget 5 (by decide), b5⟩
      · exact ⟨hget 6 (by decide), b6⟩)
    exact ⟨some x, len, cap, ys, ts, sk, hc, h1, h2, h3, h4, h5, h6, by omega⟩
theorem open_Unit {r : Reach} {b0 : Nat} {v : Value} {d : DataW H} {p : List MemPlace} (hv : Value.okWide Try.prog w r b0 24 v) (h : DataW.Trod enc Try.prog w base spare held 24 v d p) :
    ∃ (i0 i1 : Int) (a2 : Option Addr) (m2 c2 : Nat) (y2 t2 : List Int) (s2 : List Bool), v = .agg #[.int .i64 i0, .int .i64 i1, .slice a2 m2 c2] ∧ (Lit.int .i64 i0).wf = true ∧ (Lit.int .i64 i1).wf = true ∧ (MRow w a2 m2 y2 t2 s2 ∧ y2.length = 7 * m2 ∧ t2.length = m2 ∧ s2.length = m2 ∧ Wide y2 ∧ Wide t2 ∧ m2 ≤ maxLen) := by
  obtain ⟨cs, rfl, hsz⟩ := okWide_struct Try.underlying24 hv
  rw [Try.cellsUnit] at hsz
  obtain ⟨cl⟩ := cs
  obtain ⟨c_0, c_1, c_2, rfl⟩ : ∃ c_0 c_1 c_2, cl = [c_0, c_1, c_2] := by
    match cl, hsz with
    | [c_0, c_1, c_2], _ => exact ⟨c_0, c_1, c_2, rfl⟩
  obtain ⟨fuel, hf0⟩ := h
  obtain ⟨zs, k, _, _, _, hzl, hf⟩ := DataW.trod_struct Try.underlying24 hf0
  obtain ⟨z_0, z_1, z_2, rfl⟩ : ∃ z_0 z_1 z_2, zs = [z_0, z_1, z_2] := by
    match zs, hzl with
    | [z_0, z_1, z_2], _ => exact ⟨z_0, z_1, z_2, rfl⟩
  have t0 := hf 0 _ rfl
  have t1 := hf 1 _ rfl
  have t2 := hf 2 _ rfl
  simp [Value.cells, Try.cellsInt, Try.cellsMicros] at t0 t1 t2
  obtain ⟨i0, q0, _, w0⟩ := DataW.trod_int Try.underlying3 t0
  obtain ⟨i1, q1, _, w1⟩ := DataW.trod_int Try.underlying3 t1
  obtain ⟨a2, m2, c2, y2, tt2, s2, q2, hh⟩ := open_MicroRow t2
  simp at q0 q1
  subst q0 q1 q2
  exact ⟨i0, i1, a2, m2, c2, y2, tt2, s2, rfl, w0, w1, hh⟩
end
end Go.Proofs.Ytbppfbkkphhjnaa

