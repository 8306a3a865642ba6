/- What the model's product by digits, its quotients and its root are. -/
import Derived.Test.YtjgcadighogmkaaSpecBooth
namespace Go.Proofs.Ytjgcadighogmkaa
open Go.RowKit
set_option linter.unusedVariables false
theorem Own.at1 {w : World} {g : Nat} {xs : List Int} (h : Own w g xs) {k : Nat} (hk : k < xs.length) : w.cell? ⟨g, k, none⟩ = some (.int .i64 (xs[k]?.getD 0)) := (h k hk).1
theorem booth_at (v : Int) (n k : Nat) (h : k < n) : (Pl.booth v n)[k]?.getD 0 = Pl.bdig v k := by simp [Pl.booth, h]
set_option maxRecDepth 20000 in
set_option maxHeartbeats 4000000 in
theorem specMulBooth (a b : Int) (w : World) : Calls Try.prog 14 #[.int .i64 a, .int .i64 b] w fun e w' => e = .returned (.tuple #[.int .i64 (Pl.smH a b), .int .i64 (Pl.smL a b), .bool (Pl.ok2 a b)]) ∧ Kept 0 0 w w' := by
  unfold Pl.smH Pl.smL Pl.ok2
  cases ha : Pl.wOk a
  · go_enter Try.func14, Try.ntmps14
    go_wp2_with (go_at_call 40; refine (l6WordM _ _).mono ?_; rintro e9 w9 ⟨rfl, hw⟩; have hw2 := hw.symm; clear hw; subst hw2; rw [ha])
    go_ret3
    exact ⟨rfl, Kept.refl _ _ _⟩
  · cases hb : Pl.wOk b
    · go_enter Try.func14, Try.ntmps14
      go_wp2_with (first | (go_at_call 40; have z9 := Z1; refine (l6WordM b _).mono ?_; rintro e9 w9 ⟨rfl, hw⟩; have hw2 := hw.symm; clear hw; subst hw2; rw [hb]) | (go_at_call 40; refine (l6WordM a _).mono ?_; rintro e9 w9 ⟨rfl, hw⟩; have hw2 := hw.symm; clear hw; subst hw2; rw [ha]; have Z1 : True := trivial))
      go_ret3
      exact ⟨rfl, Kept.refl _ _ _⟩
    · obtain ⟨a0, a1⟩ := Pl.wOk_ok ha
      obtain ⟨s0, s1⟩ := Pl.sg_bd2 a0 (by omega)
      have HS := hide (Pl.bsum_16 hb)
      obtain ⟨A, hA⟩ : ∃ A, Pl.sg 2 a = A := ⟨_, rfl⟩
      rw [hA] at s0 s1 ⊢
      have HA := hide hA
      clear hA
      go_enter Try.func14, Try.ntmps14
      go_wp2_with (first | (go_at_call 40; have z9 := Z1; refine (l6WordM b _).mono ?_; rintro e9 w9 ⟨rfl, hw⟩; have hw2 := hw.symm; clear hw; subst hw2; rw [hb]) | (go_at_call 40; refine (l6WordM a _).mono ?_; rintro e9 w9 ⟨rfl, hw⟩; have hw2 := hw.symm; clear hw; subst hw2; rw [ha]; have Z1 : True := trivial) | (go_at_call 41; refine (specBooth b _ hb).mono ?_; rintro e9 w2 ⟨d, c, rfl, hS, k2⟩; rw [Pl.booth_len]))
      obtain ⟨_, e2⟩ | ⟨g, rfl, g0, g1, hO⟩ := hS
      · have := congrArg List.length e2; rw [Pl.booth_len] at this; cases this
      · have HO := hide hO
        have K2 := hide k2
        clear hO k2
        go_loop [7, 8, 9, 23] (fun s _ _ q => ∃ k : Nat, k ≤ 16 ∧ q = .int .i64 k ∧ s = .int .i64 (A * Pl.bsum b k)) (fun _ _ _ q => 16 - (intOf q).toNat)
        case atStart => exact ⟨0, by omega, rfl, by simp [Pl.bsum]⟩
        case round =>
          obtain ⟨k, hk, rfl, rfl⟩ := hrel
          by_cases hlt : k < 16
          · have hc := HO.out.at1 (k := k) (by rw [Pl.booth_len]; exact hlt)
            rw [booth_at _ _ _ hlt] at hc
            obtain ⟨d0, d1⟩ := Pl.bdig_bd b k
            have G : Hid (A * Pl.bsum b (k + 1) = A * Pl.bsum b k + Pl.bdig b k * A * 2 ^ k) := hide (by show A * (Pl.bsum b k + Pl.bdig b k * 2 ^ k) = _; rw [Int.mul_add, Int.mul_comm (Pl.bdig b k) A, Int.mul_assoc])
            have hp := Pl.p2_le (show k ≤ 16 by omega)
            have hp0 := Pl.p2_pos k
            obtain ⟨q0, q1⟩ := Pl.bsum_bd b k
            obtain ⟨m0, m1⟩ := smul_bd s0 s1 (by omega : -65536 ≤ Pl.bsum b k) (by omega)
            obtain ⟨D, hD⟩ : ∃ D, Pl.bdig b k = D := ⟨_, rfl⟩
            obtain ⟨S, hS⟩ : ∃ S, A * Pl.bsum b k = S := ⟨_, rfl⟩
            rw [hD] at hc d0 d1 G
            rw [hS] at m0 m1 G ⊢
            obtain ⟨M, hM⟩ : ∃ M, D * A = M := ⟨_, rfl⟩
            rw [hM] at G
            have hMb : -32768 ≤ M ∧ M ≤ 32768 := by
              rw [← hM]
              rcases (show D = -1 ∨ D = 0 ∨ D = 1 by omega) with rfl | rfl | rfl <;> omega
            obtain ⟨n0, n1⟩ : -2147483648 ≤ M * 2 ^ k ∧ M * 2 ^ k ≤ 2147483648 := by
              have h1 : M.natAbs ≤ 32768 := by omega
              have h2 : ((2 : Int) ^ k).natAbs ≤ 65536 := by have e : (2 : Int) ^ k = Pl.p2 k := rfl; rw [e]; omega
              have h3 : (M * 2 ^ k).natAbs ≤ 32768 * 65536 := by rw [Int.natAbs_mul]; exact Nat.mul_le_mul h1 h2
              omega
            obtain ⟨N, hN⟩ : ∃ N, M * 2 ^ k = N := ⟨_, rfl⟩
            rw [hN] at n0 n1 G
            obtain ⟨M0, M1⟩ := hMb
            clear hD hS q0 q1 hp hp0
            go_wp2_with (go_at_call 42; refine (l9Signed a _ ha).mono ?_; rw [HA.out]; rintro e9 w9 ⟨rfl, hw⟩; have hw2 := hw.symm; clear hw; subst hw2)
            go_round
            case rel => exact ⟨k + 1, by omega, by go_num, by rw [G.out]⟩
            case measure => first | (simp [intOf]; omega) | simp [intOf]
          · obtain rfl : k = 16 := by omega
            rw [HS.out]
            go_wp2_with (go_at_call 43; refine (l9Two _ _).mono ?_; rintro e9 w9 ⟨rfl, hw⟩; have hw2 := hw.symm; clear hw; subst hw2)
            go_ret3
            exact ⟨rfl, K2.out⟩
theorem or_low (x b : Int) (x0 : 0 ≤ x) (x1 : x ≤ 1000000) (b0 : 0 ≤ b) (b1 : b ≤ 1) : bits .or .i64 (x * 2) b = x * 2 + b := bits_join .i64 62 (by decide) Pl.wraps_i64 1 (x * 2) b (by omega) (by omega) (by omega) (by omega) (by omega) (by omega)
def Pl.dOk (h l b : Int) : Bool := (Pl.wOk h && Pl.wOk l) && ((decide (1 ≤ b) && decide (b ≤ 65535)) && decide (h < b))
def Pl.dvQ (h l b : Int) : Int := if Pl.dOk h l b = true then Pl.dQ h l b 16 else 0
def Pl.dvR (h l b : Int) : Int := if Pl.dOk h l b = true then Pl.dR h l b 16 else 0
def Pl.dvN (h l b : Int) : Int := if Pl.dOk h l b = true then Pl.dN h l b 16 else 0
theorem dN_bd (h l b : Int) (m : Nat) : 0 ≤ Pl.dN h l b m ∧ Pl.dN h l b m ≤ m := by
  induction m with
  | zero => exact ⟨Int.le_refl _, Int.le_refl _⟩
  | succ m ih =>
    simp only [Pl.dN]
    split <;> omega
theorem specDivNo (h l b : Int) (w : World) (hn : Pl.dOk h l b = false) : Calls Try.prog 26 #[.int .i64 h, .int .i64 l, .int .i64 b] w fun e w' => e = .returned (.tuple #[.int .i64 0, .int .i64 0, .int .i64 0, .bool false]) ∧ w' = w := by
  cases ka : Pl.wOk h
  · go_enter Try.func26, Try.ntmps26
    go_wp2_with (go_at_call 40; refine (l6WordM _ _).mono ?_; rintro e9 w9 ⟨rfl, hw⟩; have hw2 := hw.symm; clear hw; subst hw2; rw [ka])
    exact bodyPost_ret (v := .tuple #[.int .i64 0, .int .i64 0, .int .i64 0, .bool false]) (by simp [results, Try.results26, go_sem]) rfl ⟨rfl, rfl⟩
  · cases kb : Pl.wOk l
    · go_enter Try.func26, Try.ntmps26
      go_wp2_with (first | (go_at_call 40; have z9 := Z1; refine (l6WordM l _).mono ?_; rintro e9 w9 ⟨rfl, hw⟩; have hw2 := hw.symm; clear hw; subst hw2; rw [kb]) | (go_at_call 40; refine (l6WordM h _).mono ?_; rintro e9 w9 ⟨rfl, hw⟩; have hw2 := hw.symm; clear hw; subst hw2; rw [ka]; have Z1 : True := trivial))
      exact bodyPost_ret (v := .tuple #[.int .i64 0, .int .i64 0, .int .i64 0, .bool false]) (by simp [results, Try.results26, go_sem]) rfl ⟨rfl, rfl⟩
    · cases kc : (decide (1 ≤ b) && decide (b ≤ 65535))
      · go_enter Try.func26, Try.ntmps26
        go_wp2_with (first | (go_at_call 40; have z9 := Z1; refine (l6WordM l _).mono ?_; rintro e9 w9 ⟨rfl, hw⟩; have hw2 := hw.symm; clear hw; subst hw2; rw [kb]) | (go_at_call 40; refine (l6WordM h _).mono ?_; rintro e9 w9 ⟨rfl, hw⟩; have hw2 := hw.symm; clear hw; subst hw2; rw [ka]; have Z1 : True := trivial) | (go_at_call 56; refine (l1In _ _ _ _).mono ?_; rintro e9 w9 ⟨rfl, hw⟩; have hw2 := hw.symm; clear hw; subst hw2; rw [kc]))
        exact bodyPost_ret (v := .tuple #[.int .i64 0, .int .i64 0, .int .i64 0, .bool false]) (by simp [results, Try.results26, go_sem]) rfl ⟨rfl, rfl⟩
      · have kd : b ≤ h := by
          unfold Pl.dOk at hn
          rw [ka, kb, kc] at hn
          simp at hn
          omega
        go_enter Try.func26, Try.ntmps26
        go_wp2_with (first | (go_at_call 40; have z9 := Z1; refine (l6WordM l _).mono ?_; rintro e9 w9 ⟨rfl, hw⟩; have hw2 := hw.symm; clear hw; subst hw2; rw [kb]) | (go_at_call 40; refine (l6WordM h _).mono ?_; rintro e9 w9 ⟨rfl, hw⟩; have hw2 := hw.symm; clear hw; subst hw2; rw [ka]; have Z1 : True := trivial) | (go_at_call 56; refine (l1In _ _ _ _).mono ?_; rintro e9 w9 ⟨rfl, hw⟩; have hw2 := hw.symm; clear hw; subst hw2; rw [kc]))
        exact bodyPost_ret (v := .tuple #[.int .i64 0, .int .i64 0, .int .i64 0, .bool false]) (by simp [results, Try.results26, go_sem]) rfl ⟨rfl, rfl⟩
set_option maxRecDepth 20000 in
set_option maxHeartbeats 4000000 in
theorem specDivWords (h l b : Int) (w : World) : Calls Try.prog 26 #[.int .i64 h, .int .i64 l, .int .i64 b] w fun e w' => e = .returned (.tuple #[.int .i64 (Pl.dvQ h l b), .int .i64 (Pl.dvR h l b), .int .i64 (Pl.dvN h l b), .bool (Pl.dOk h l b)]) ∧ w' = w := by
  unfold Pl.dvQ Pl.dvR Pl.dvN
  cases hk : Pl.dOk h l b
  · exact specDivNo h l b w hk
  · obtain ⟨⟨ka, kb⟩, kc, kd⟩ : (Pl.wOk h = true ∧ Pl.wOk l = true) ∧ (decide (1 ≤ b) && decide (b ≤ 65535)) = true ∧ h < b := by
      unfold Pl.dOk at hk
      simpa using hk
    obtain ⟨h0, h1⟩ := Pl.wOk_ok ka
    obtain ⟨l0, l1⟩ := Pl.wOk_ok kb
    obtain ⟨b0, b1⟩ : 1 ≤ b ∧ b ≤ 65535 := by simpa using kc
    have HI := hide (Pl.div_inv h0 kd l0)
    go_enter Try.func26, Try.ntmps26
    go_wp2_with (first | (go_at_call 40; have z9 := Z1; refine (l6WordM l _).mono ?_; rintro e9 w9 ⟨rfl, hw⟩; have hw2 := hw.symm; clear hw; subst hw2; rw [kb]) | (go_at_call 40; refine (l6WordM h _).mono ?_; rintro e9 w9 ⟨rfl, hw⟩; have hw2 := hw.symm; clear hw; subst hw2; rw [ka]; have Z1 : True := trivial) | (go_at_call 56; refine (l1In _ _ _ _).mono ?_; rintro e9 w9 ⟨rfl, hw⟩; have hw2 := hw.symm; clear hw; subst hw2; rw [kc]))
    go_loop [10, 11, 12, 13] (fun r q n k => ∃ m : Nat, m ≤ 16 ∧ k = .int .i64 (15 - (m : Int)) ∧ r = .int .i64 (Pl.dR h l b m) ∧ q = .int .i64 (Pl.dQ h l b m) ∧ n = .int .i64 (Pl.dN h l b m)) (fun _ _ _ k => (intOf k + 1).toNat)
    case atStart => exact ⟨0, by omega, rfl, rfl, rfl, rfl⟩
    case round =>
      obtain ⟨m, hm, rfl, rfl, rfl, rfl⟩ := hrel
      by_cases hlt : m < 16
      · obtain ⟨⟨r0, r1⟩, _, q0, q1⟩ := HI.out m hm
        have hp := Pl.p2_le hm
        obtain ⟨n0, n1⟩ := dN_bd h l b m
        obtain ⟨j, hj⟩ : ∃ j : Nat, (15 : Int) - (m : Int) = (j : Int) := ⟨15 - m, by omega⟩
        have ej : j = 15 - m := by omega
        have hw := bit_at l j
        have hbb := Pl.wbit_bd l j
        have GR : Hid (Pl.dR h l b (m + 1) = if b ≤ 2 * Pl.dR h l b m + Pl.wbit l j then 2 * Pl.dR h l b m + Pl.wbit l j - b else 2 * Pl.dR h l b m + Pl.wbit l j) := hide (by rw [ej]; rfl)
        have GQ : Hid (Pl.dQ h l b (m + 1) = 2 * Pl.dQ h l b m + (if b ≤ 2 * Pl.dR h l b m + Pl.wbit l j then 1 else 0)) := hide (by rw [ej]; rfl)
        have GN : Hid (Pl.dN h l b (m + 1) = Pl.dN h l b m + (if b ≤ 2 * Pl.dR h l b m + Pl.wbit l j then 1 else 0)) := hide (by rw [ej]; rfl)
        obtain ⟨B, hB⟩ : ∃ B, Pl.wbit l j = B := ⟨_, rfl⟩
        obtain ⟨R, hR⟩ : ∃ R, Pl.dR h l b m = R := ⟨_, rfl⟩
        obtain ⟨Q, hQ⟩ : ∃ Q, Pl.dQ h l b m = Q := ⟨_, rfl⟩
        obtain ⟨N, hN⟩ : ∃ N, Pl.dN h l b m = N := ⟨_, rfl⟩
        rw [hB] at hw hbb GR GQ GN
        rw [hR] at r0 r1 GR GQ GN ⊢
        rw [hQ] at q0 q1 GQ ⊢
        rw [hN] at n0 n1 GN ⊢
        rw [hj]
        have j0 : 0 ≤ (j : Int) := by omega
        have j1 : j ≤ 15 := by omega
        have o1 := or_low R B r0 (by omega) (by omega) (by omega)
        have o2 := or_low Q 1 q0 (by omega) (by omega) (by omega)
        have B0 : 0 ≤ B := by omega
        have B1 : B ≤ 1 := by omega
        have q2 : Q < 65536 := by omega
        have EJ := hide ej
        have HJ := hide hj
        clear hB hR hQ hN hbb ej hj hp
        by_cases hc : b ≤ R * 2 + B
        · have GR2 : Hid (Pl.dR h l b (m + 1) = R * 2 + B - b) := hide (by rw [GR.out, if_pos (by omega)]; omega)
          have GQ2 : Hid (Pl.dQ h l b (m + 1) = Q * 2 + 1) := hide (by rw [GQ.out, if_pos (by omega)]; omega)
          have GN2 : Hid (Pl.dN h l b (m + 1) = N + 1) := hide (by rw [GN.out, if_pos (by omega)])
          go_wp2_with fail
          go_round
          case rel => exact ⟨m + 1, by omega, by have := HJ.out; congr 1; omega, by rw [GR2.out], by rw [GQ2.out], by rw [GN2.out]⟩
          case measure => first | (simp [intOf]; omega) | simp [intOf]
        · have GR2 : Hid (Pl.dR h l b (m + 1) = R * 2 + B) := hide (by rw [GR.out, if_neg (by omega)]; omega)
          have GQ2 : Hid (Pl.dQ h l b (m + 1) = Q * 2) := hide (by rw [GQ.out, if_neg (by omega)]; omega)
          have GN2 : Hid (Pl.dN h l b (m + 1) = N) := hide (by rw [GN.out, if_neg (by omega)]; omega)
          go_wp2_with fail
          go_round
          case rel => exact ⟨m + 1, by omega, by have := HJ.out; congr 1; omega, by rw [GR2.out], by rw [GQ2.out], by rw [GN2.out]⟩
          case measure => first | (simp [intOf]; omega) | simp [intOf]
      · obtain rfl : m = 16 := by omega
        go_wp2_with fail
        exact bodyPost_ret (v := .tuple #[.int .i64 (Pl.dQ h l b 16), .int .i64 (Pl.dR h l b 16), .int .i64 (Pl.dN h l b 16), .bool true]) (by simp [results, Try.results26, go_sem]) rfl ⟨rfl, rfl⟩
def Pl.RootIs (v s : Int) : Prop := (Pl.wOk v = false → s = 0) ∧ (Pl.wOk v = true → 0 ≤ s ∧ s ≤ 255 ∧ s * s ≤ v ∧ v < (s + 1) * (s + 1))
theorem specRootOf (v : Int) (w : World) : Calls Try.prog 33 #[.int .i64 v] w fun e w' => ∃ s : Int, e = .returned (.tuple #[.int .i64 s, .bool (Pl.wOk v)]) ∧ w' = w ∧ Pl.RootIs v s := by
  cases h : Pl.wOk v
  · go_enter Try.func33, Try.ntmps33
    go_wp2_with (go_at_call 40; refine (l6WordM _ _).mono ?_; rintro e9 w9 ⟨rfl, hw⟩; have hw2 := hw.symm; clear hw; subst hw2; rw [h])
    go_ret2
    exact ⟨0, rfl, rfl, fun _ => rfl, fun q => (by rw [h] at q; cases q)⟩
  · obtain ⟨v0, v1⟩ := Pl.wOk_ok h
    go_enter Try.func33, Try.ntmps33
    go_wp2_with (go_at_call 40; refine (l6WordM _ _).mono ?_; rintro e9 w9 ⟨rfl, hw⟩; have hw2 := hw.symm; clear hw; subst hw2; rw [h])
    go_loop [4] (fun n => ∃ s : Nat, s ≤ 255 ∧ n = .int .i64 s ∧ (s : Int) * s ≤ v) (fun n => 256 - (intOf n).toNat)
    case atStart => exact ⟨0, by omega, rfl, by simpa using v0⟩
    case round =>
      obtain ⟨s, hs, rfl, hq⟩ := hrel
      have HQ := hide hq
      have HB : Hid (((s : Int) + 1) * ((s : Int) + 1) ≤ 65536) := hide (by have := Int.mul_le_mul (show (s : Int) + 1 ≤ 256 by omega) (show (s : Int) + 1 ≤ 256 by omega) (by omega) (by omega : (0 : Int) ≤ 256); omega)
      have HB0 : Hid (0 ≤ ((s : Int) + 1) * ((s : Int) + 1)) := hide (Int.mul_nonneg (by omega) (by omega))
      obtain ⟨S, hS⟩ : ∃ S, ((s : Int) + 1) * ((s : Int) + 1) = S := ⟨_, rfl⟩
      rw [hS] at HB HB0
      have b0 := HB.out
      have b1 := HB0.out
      clear hq HB HB0
      by_cases hc : S ≤ v
      · have hs2 : s + 1 ≤ 255 := by
          rcases Nat.lt_or_ge s 255 with q | q
          · omega
          · exfalso
            have e : s = 255 := by omega
            subst e
            simp at hS
            omega
        go_wp2_with fail
        go_round
        case rel => exact ⟨s + 1, hs2, by go_num, by rw [show ((s + 1 : Nat) : Int) = (s : Int) + 1 from by omega, hS]; exact hc⟩
        case measure => first | (simp [intOf]; omega) | simp [intOf]
      · go_wp2_with fail
        go_ret2
        exact ⟨s, rfl, rfl, fun q => (by rw [h] at q; cases q), fun _ => ⟨by omega, by omega, HQ.out, by rw [hS]; omega⟩⟩
end Go.Proofs.Ytjgcadighogmkaa
