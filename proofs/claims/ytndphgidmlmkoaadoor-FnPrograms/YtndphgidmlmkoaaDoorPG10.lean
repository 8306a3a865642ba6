/- The law on programs in words: of whatever bytes, its Go function returns true, and no block that was there has turned. From what a row says of the library's tables to what our contracts ask of the table of powers of ten. -/
import Derived.Test.YtndphgidmlmkoaaDoorPG8
import Derived.Test.YtndphgidmlmkoaaDoorPG9
import Derived.Deep.DeepCutAuto
import Derived.Deep.CutBlock
import Derived.Test.YtndphgidmlmkoaaDoorRows
import Derived.Test.YtndphgidmlmkoaaDoorPG7
import Derived.Lib.LaidTab
import Derived.Stop.LaidErr
import Derived.LaidMore
namespace Go.Proofs.YtndphgidmlmkoaaDoor
open Go.RowKit
set_option linter.unusedVariables false
theorem flat_mem : ∀ {O : List Pl.In}, (∀ x ∈ O, SmallI x) → ∀ y ∈ Pl.flat O, -1 ≤ y ∧ y ≤ 65536
  | [], _ => by intro y hy; simp [Pl.flat] at hy
  | x :: t, h => by
    have ih := flat_mem (O := t) (fun y hy => h y (by simp [hy]))
    obtain ⟨a0, a1, b0, b1, c0, c1, d0, d1, e0, e1, f0, f1, g0, g1⟩ := h x (by simp)
    intro y hy
    simp only [Pl.flat, List.mem_cons] at hy
    rcases hy with rfl | rfl | rfl | rfl | rfl | rfl | rfl | hy
    · omega
    · omega
    · omega
    · omega
    · omega
    · omega
    · omega
    · exact ih y hy
theorem wideL {L : List Int} (h : ∀ y ∈ L, -1 ≤ y ∧ y ≤ 65536) : Wide L := by
  intro i hi
  have := h (L[i]) (List.getElem_mem hi)
  simp only [List.getElem?_eq_getElem hi, Option.getD_some]
  omega
theorem in_ext {A B : Pl.In} (h0 : A.op = B.op) (h1 : A.z = B.z) (h2 : A.r = B.r) (h3 : A.m = B.m) (h4 : A.k = B.k) (h5 : A.e = B.e) (h6 : A.s = B.s) : A = B := by
  cases A; cases B; simp_all
theorem da_len : ∀ (l : List Int) (o : List Pl.In), Pl.da l = some o → o.length ≤ l.length
  | [], o, h => by simp [Pl.da] at h; simp [← h]
  | [w], o, h => by
    simp only [Pl.da] at h
    split at h
    · simp at h; simp [← h]
    · simp at h
  | w :: v :: t, o, h => by
    simp only [Pl.da] at h
    split at h
    · split at h
      · split at h
        · rw [Option.map_eq_some_iff] at h
          obtain ⟨o', h', rfl⟩ := h
          have := da_len t o' h'
          simp; omega
        · simp at h
      · split at h
        · rw [Option.map_eq_some_iff] at h
          obtain ⟨o', h', rfl⟩ := h
          have := da_len (v :: t) o' h'
          simp at this ⊢; omega
        · simp at h
    · simp at h
theorem daV_len (l : List Int) : (Pl.daV l).length ≤ l.length := by
  unfold Pl.daV
  split
  · cases hd : Pl.da l with
    | none => simp
    | some o => simpa using da_len l o hd
  · simp
set_option maxRecDepth 100000 in
set_option maxHeartbeats 8000000 in
theorem lawPrograms (a0 a1 : Option Addr) (len0 cap0 len1 cap1 : Nat) (w : World) (h0 : Bytes w a0 len0) (h1 : Bytes w a1 len1) (ht : TabP w) :
    Calls Tryd.prog 3 #[.slice a0 len0 cap0, .slice a1 len1 cap1] w fun e w' => e = .returned (.bool true) ∧ Below w.heap.size w w' := by
  have HT := hide ht
  clear ht
  have l0 := h0.1
  have l1 := h1.1
  unfold maxLen at l0 l1
  by_cases hbig : 1048576 < wrap64 ((len0 : Int) + (len1 : Int))
  · go_enter Tryd.func3, Tryd.ntmps3
    go_wp2_with fail
    go_ret
    exact ⟨rfl, Below.refl _ _⟩
  · go_enter Tryd.func3, Tryd.ntmps3
    go_wp2_with fail
    refine (drawEncodeAll _ a0 len0 cap0 h0).mono ?_
    rintro e w1 ⟨d, c, O, rfl, hO, hs, sl, hw1⟩
    have Bel := hide hw1
    have SO := hide sl
    have WD := hide (wideL (flat_mem hs))
    clear hbig hw1 sl hs
    obtain ⟨L, hL⟩ : ∃ L, L = Pl.eaV (Pl.flat O) O.length := ⟨_, rfl⟩
    obtain ⟨ok, hok⟩ : ∃ ok, ok = Pl.eaOk (Pl.flat O) O.length := ⟨_, rfl⟩
    obtain ⟨hm, hl⟩ := ea_mem (Pl.flat O) O.length
    rw [← hL] at hm hl
    have HL := hide hL
    have HO := hide hok
    have WL := hide (wideL hm)
    clear hL hok hm
    have bl : L.length ≤ 82 := by omega
    clear hl
    go_wp2_with fail
    refine (implEncodeAllC _ d c O.length (Pl.flat O) ⟨SO.out.row, WD.out⟩ (Pl.flat_len O) (by omega)).mono ?_
    rw [← HL.out, ← HO.out]
    rintro e w2 ⟨d1, c1, rfl, s9, k9, hc9⟩
    have HC1 := hide hc9
    clear hc9
    have Bel2 := hide (belowK Bel.out k9)
    have SO2 := hide (SO.out.kept k9 (by omega))
    have S2 := hide s9
    clear Bel SO k9 s9
    go_wp2_with fail
    refine (specEncodeAll _ d c O.length (Pl.flat O) SO2.out.row (Pl.flat_len O) (by omega)).mono ?_
    rw [← HL.out, ← HO.out]
    rintro e w3 ⟨d2, c2, rfl, s9, k9⟩
    have Bel3 := hide (belowK Bel2.out k9)
    have SO3 := hide (SO2.out.kept k9 (by omega))
    have S3 := hide (S2.out.kept k9 (by omega))
    have Z3 := hide s9
    clear Bel2 SO2 S2 k9 s9
    have eok : (ok != ok) = false := by simp
    go_wp2_with fail
    refine (sameInts _ d1 d2 c1 c2 L L S3.out.row Z3.out.row (by omega) (by omega)).mono ?_
    rintro e w4 ⟨rfl, k4⟩
    have Bel4 := hide (belowG Bel3.out k4)
    have SO4 := hide (SO3.out.kept (kept_row (lo := 0) (hi := 0) k4 (by simp)) (by omega))
    have S4 := hide (S3.out.kept (kept_row (lo := 0) (hi := 0) k4 (by simp)) (by omega))
    clear Bel3 SO3 S3 Z3 k4
    rw [show decide (L = L) = true from by simp]
    go_upto_if 56 with fail
    go_cut [10, 11] (fun _ _ wx => Below w.heap.size w wx)
    case first =>
      as_aux_lemma =>
        cases ok
        · go_wp2_with fail
          go_meet
          case rel => exact Bel4.out
        · obtain ⟨dk, dv⟩ := Pl.da_ea (n := O.length) HO.out.symm
          rw [← HL.out] at dk dv
          obtain ⟨P, hP⟩ : ∃ P, P = Pl.insL (Pl.flat O) O.length := ⟨_, rfl⟩
          have fP : Hid (Pl.flat P = Pl.flat O) := hide (by rw [hP]; exact Pl.flat_insL (Pl.flat_len O))
          have lP : P.length = O.length := by rw [hP]; simp [Pl.insL]
          rw [← hP] at dv
          have DK := hide dk
          have DV := hide dv
          clear dk dv hP
          go_wp2_with fail
          refine (implDecodeAllC _ d1 c1 L ⟨S4.out.row, WL.out⟩ (by omega) HC1.out).mono ?_
          rw [DK.out, DV.out, fP.out, lP]
          rintro e w5 ⟨d5, c5, rfl, s9, k9⟩
          have Bel5 := hide (belowK Bel4.out k9)
          have SO5 := hide (SO4.out.kept k9 (by omega))
          have S5 := hide s9
          clear Bel4 SO4 S4 k9 s9
          go_wp2_with fail
          refine (sameAll _ d5 d c5 c O.length (Pl.flat O) S5.out.row SO5.out.row (Pl.flat_len O) (by omega)).mono ?_
          rintro e w6 ⟨rfl, k6⟩
          have Bel6 := hide (belowG Bel5.out k6)
          clear Bel5 SO5 S5 k6
          go_wp2_with fail
          go_meet
          case rel => exact Bel6.out
    case rest =>
      as_aux_lemma =>
        clear Bel4 SO4 S4 HL HO WL WD HC1 eok bl hO
        go_wp2_with fail
        refine (drawDecodeAll _ a1 len1 cap1 (h1.kept hcut)).mono ?_
        rintro e v1 ⟨d3, c3, V, rfl, bV, hV, s9, k9, hc9⟩
        have HC3 := hide hc9
        clear hc9
        have Be := hide (belowK hcut (kept_below k9))
        have S1 := hide s9
        have WV := hide (wideL hV)
        clear hcut k9 s9 hV
        obtain ⟨Y, hY⟩ : ∃ Y, Y = Pl.daV V := ⟨_, rfl⟩
        obtain ⟨vk, hvk⟩ : ∃ vk, vk = Pl.daOk V := ⟨_, rfl⟩
        have HY := hide hY
        have HV := hide hvk
        have bY : Y.length ≤ 2000000 := by have := daV_len V; rw [← hY] at this; omega
        clear hY hvk
        go_wp2_with fail
        refine (implDecodeAllC _ d3 c3 V ⟨S1.out.row, WV.out⟩ (by omega) HC3.out).mono ?_
        rw [← HY.out, ← HV.out]
        rintro e v2 ⟨d4, c4, rfl, s9, k9⟩
        have Be2 := hide (belowK Be.out k9)
        have S2 := hide (S1.out.kept k9 (by omega))
        have X2 := hide s9
        clear Be S1 k9 s9
        go_wp2_with fail
        refine (specDecodeAll _ d3 c3 V S2.out.row (by omega)).mono ?_
        rw [← HY.out, ← HV.out]
        rintro e v3 ⟨d5, c5, rfl, s9, k9⟩
        have Be3 := hide (belowK Be2.out k9)
        have X3 := hide (X2.out.kept k9 (by omega))
        have Y3 := hide s9
        clear Be2 S2 X2 k9 s9 HY HV
        go_wp2_with fail
        refine (drawTextOf _ a0 len0 cap0 (h0.kept Be3.out)).mono ?_
        rintro e v4 ⟨A, rfl, sa, k9⟩
        have Be4 := hide (belowK (belowK Be3.out (kept_below k9)) (kept_alloc v4 (.cells #[.int .i64 A.op, .int .i64 A.z, .int .i64 A.r, .int .i64 A.m, .int .i64 A.k, .int .i64 A.e, .int .i64 A.s] 36)))
        have X4 := hide ((X3.out.kept (kept_below k9) (by omega)).kept (kept_alloc v4 (.cells #[.int .i64 A.op, .int .i64 A.z, .int .i64 A.r, .int .i64 A.m, .int .i64 A.k, .int .i64 A.e, .int .i64 A.s] 36)) (by omega))
        have Y4 := hide ((Y3.out.kept (kept_below k9) (by omega)).kept (kept_alloc v4 (.cells #[.int .i64 A.op, .int .i64 A.z, .int .i64 A.r, .int .i64 A.m, .int .i64 A.k, .int .i64 A.e, .int .i64 A.s] 36)) (by omega))
        have WA4 := hide (Blk.new v4 #[.int .i64 A.op, .int .i64 A.z, .int .i64 A.r, .int .i64 A.m, .int .i64 A.k, .int .i64 A.e, .int .i64 A.s] 36)
        clear Be3 X3 Y3 k9
        go_wp2_with fail
        refine (drawTextOf _ a1 len1 cap1 (h1.kept Be4.out)).mono ?_
        rintro e v5 ⟨B, rfl, sb, k9⟩
        have Be5 := hide (belowK (belowK Be4.out (kept_below k9)) (kept_alloc v5 (.cells #[.int .i64 B.op, .int .i64 B.z, .int .i64 B.r, .int .i64 B.m, .int .i64 B.k, .int .i64 B.e, .int .i64 B.s] 36)))
        have X5 := hide ((X4.out.kept (kept_below k9) (by omega)).kept (kept_alloc v5 (.cells #[.int .i64 B.op, .int .i64 B.z, .int .i64 B.r, .int .i64 B.m, .int .i64 B.k, .int .i64 B.e, .int .i64 B.s] 36)) (by omega))
        have Y5 := hide ((Y4.out.kept (kept_below k9) (by omega)).kept (kept_alloc v5 (.cells #[.int .i64 B.op, .int .i64 B.z, .int .i64 B.r, .int .i64 B.m, .int .i64 B.k, .int .i64 B.e, .int .i64 B.s] 36)) (by omega))
        have WA5 := hide ((WA4.out.kept (kept_below k9) (by omega)).kept (kept_alloc v5 (.cells #[.int .i64 B.op, .int .i64 B.z, .int .i64 B.r, .int .i64 B.m, .int .i64 B.k, .int .i64 B.e, .int .i64 B.s] 36)) (by omega))
        have WB5 := hide (Blk.new v5 #[.int .i64 B.op, .int .i64 B.z, .int .i64 B.r, .int .i64 B.m, .int .i64 B.k, .int .i64 B.e, .int .i64 B.s] 36)
        clear Be4 X4 Y4 WA4 k9
        obtain ⟨NA, hNA⟩ : ∃ NA : ByteArray, NA = ⟨(Pl.txt A).toArray⟩ := ⟨_, rfl⟩
        obtain ⟨NB, hNB⟩ : ∃ NB : ByteArray, NB = ⟨(Pl.txt B).toArray⟩ := ⟨_, rfl⟩
        have hSA : str (Pl.txt A) = .string NA := by rw [hNA]; rfl
        have hSB : str (Pl.txt B) = .string NB := by rw [hNB]; rfl
        have HNA := hide hNA
        have HNB := hide hNB
        clear hNA hNB
        obtain ⟨ka, hka⟩ : ∃ ka, ka = Pl.inOk A := ⟨_, rfl⟩
        obtain ⟨kb, hkb⟩ : ∃ kb, kb = Pl.inOk B := ⟨_, rfl⟩
        obtain ⟨pa, hpa⟩ : ∃ pa, pa = (Pl.inOk A && Pl.priv A) := ⟨_, rfl⟩
        have HSA := hide hSA
        have HSB := hide hSB
        have HKA := hide hka
        have HKB := hide hkb
        have HPA := hide hpa
        clear hSA hSB hka hkb hpa
        have c0 := WA5.out.cell (i := 0) rfl
        have c1 := WA5.out.cell (i := 1) rfl
        have c2 := WA5.out.cell (i := 2) rfl
        have c3 := WA5.out.cell (i := 3) rfl
        have c4 := WA5.out.cell (i := 4) rfl
        have c5 := WA5.out.cell (i := 5) rfl
        have c6 := WA5.out.cell (i := 6) rfl
        go_wp2_with fail
        clear c0 c1 c2 c3 c4 c5 c6
        refine (implTextX _ A sa (HT.out.below Be5.out)).mono ?_
        rw [HSA.out, ← HKA.out]
        rintro e v6 ⟨rfl, k9⟩
        have Be6 := hide (belowK Be5.out k9)
        have X6 := hide (X5.out.kept k9 (by omega))
        have Y6 := hide (Y5.out.kept k9 (by omega))
        have WA6 := hide (WA5.out.kept k9 (by omega))
        have WB6 := hide (WB5.out.kept k9 (by omega))
        clear Be5 X5 Y5 WA5 WB5 k9
        have c0 := WB6.out.cell (i := 0) rfl
        have c1 := WB6.out.cell (i := 1) rfl
        have c2 := WB6.out.cell (i := 2) rfl
        have c3 := WB6.out.cell (i := 3) rfl
        have c4 := WB6.out.cell (i := 4) rfl
        have c5 := WB6.out.cell (i := 5) rfl
        have c6 := WB6.out.cell (i := 6) rfl
        go_wp2_with fail
        clear c0 c1 c2 c3 c4 c5 c6
        refine (implTextX _ B sb (HT.out.below Be6.out)).mono ?_
        rw [HSB.out, ← HKB.out]
        rintro e v7 ⟨rfl, k9⟩
        have Be7 := hide (belowK Be6.out k9)
        have X7 := hide (X6.out.kept k9 (by omega))
        have Y7 := hide (Y6.out.kept k9 (by omega))
        have WA7 := hide (WA6.out.kept k9 (by omega))
        have WB7 := hide (WB6.out.kept k9 (by omega))
        clear Be6 X6 Y6 WA6 WB6 k9
        have c0 := WA7.out.cell (i := 0) rfl
        have c1 := WA7.out.cell (i := 1) rfl
        have c2 := WA7.out.cell (i := 2) rfl
        have c3 := WA7.out.cell (i := 3) rfl
        have c4 := WA7.out.cell (i := 4) rfl
        have c5 := WA7.out.cell (i := 5) rfl
        have c6 := WA7.out.cell (i := 6) rfl
        go_wp2_with fail
        clear c0 c1 c2 c3 c4 c5 c6
        refine (specTextOf _ A.op A.z A.r A.m A.k A.e A.s).mono ?_
        rw [show str (Pl.txt ⟨A.op, A.z, A.r, A.m, A.k, A.e, A.s⟩) = .string NA from HSA.out, show Pl.inOk ⟨A.op, A.z, A.r, A.m, A.k, A.e, A.s⟩ = ka from HKA.out.symm]
        rintro e v8 ⟨rfl, k9⟩
        have Be8 := hide (belowK Be7.out k9)
        have X8 := hide (X7.out.kept k9 (by omega))
        have Y8 := hide (Y7.out.kept k9 (by omega))
        have WA8 := hide (WA7.out.kept k9 (by omega))
        have WB8 := hide (WB7.out.kept k9 (by omega))
        clear Be7 X7 Y7 WA7 WB7 k9
        have c0 := WA8.out.cell (i := 0) rfl
        have c1 := WA8.out.cell (i := 1) rfl
        have c2 := WA8.out.cell (i := 2) rfl
        have c3 := WA8.out.cell (i := 3) rfl
        have c4 := WA8.out.cell (i := 4) rfl
        have c5 := WA8.out.cell (i := 5) rfl
        have c6 := WA8.out.cell (i := 6) rfl
        go_wp2_with fail
        clear c0 c1 c2 c3 c4 c5 c6
        refine (implPrivX _ A sa).mono ?_
        rw [← HPA.out, ← HKA.out]
        rintro e v9 ⟨rfl, k9⟩
        have Be9 := hide (belowK Be8.out k9)
        have X9 := hide (X8.out.kept k9 (by omega))
        have Y9 := hide (Y8.out.kept k9 (by omega))
        have WA9 := hide (WA8.out.kept k9 (by omega))
        have WB9 := hide (WB8.out.kept k9 (by omega))
        clear Be8 X8 Y8 WA8 WB8 k9
        have c0 := WA9.out.cell (i := 0) rfl
        have c1 := WA9.out.cell (i := 1) rfl
        have c2 := WA9.out.cell (i := 2) rfl
        have c3 := WA9.out.cell (i := 3) rfl
        have c4 := WA9.out.cell (i := 4) rfl
        have c5 := WA9.out.cell (i := 5) rfl
        have c6 := WA9.out.cell (i := 6) rfl
        go_wp2_with fail
        clear c0 c1 c2 c3 c4 c5 c6
        refine (specIsPriv _ A.op A.z A.r A.m A.k A.e A.s).mono ?_
        rw [show (Pl.inOk ⟨A.op, A.z, A.r, A.m, A.k, A.e, A.s⟩ && Pl.priv ⟨A.op, A.z, A.r, A.m, A.k, A.e, A.s⟩) = pa from HPA.out.symm, show Pl.inOk ⟨A.op, A.z, A.r, A.m, A.k, A.e, A.s⟩ = ka from HKA.out.symm]
        rintro e v10 ⟨rfl, k9⟩
        have Be10 := hide (belowK Be9.out k9)
        have X10 := hide (X9.out.kept k9 (by omega))
        have Y10 := hide (Y9.out.kept k9 (by omega))
        have WA10 := hide (WA9.out.kept k9 (by omega))
        have WB10 := hide (WB9.out.kept k9 (by omega))
        clear Be9 X9 Y9 WA9 WB9 k9
        have e1 : (vk != vk) = false := by simp
        go_wp2_with fail
        refine (sameAll _ d4 d5 c4 c5 Y.length (Pl.flat Y) X10.out.row Y10.out.row (Pl.flat_len Y) bY).mono ?_
        rintro e v11 ⟨rfl, k9⟩
        have Be11 := hide (belowG Be10.out k9)
        have WA11 := hide (WA10.out.kept (kept_row (lo := 0) (hi := 0) k9 (by simp)) (by omega))
        have WB11 := hide (WB10.out.kept (kept_row (lo := 0) (hi := 0) k9 (by simp)) (by omega))
        clear Be10 X10 Y10 WA10 WB10 k9
        have c0 := WA11.out.cell (i := 0) rfl
        have c1 := WA11.out.cell (i := 1) rfl
        have c2 := WA11.out.cell (i := 2) rfl
        have c3 := WA11.out.cell (i := 3) rfl
        have c4 := WA11.out.cell (i := 4) rfl
        have c5 := WA11.out.cell (i := 5) rfl
        have c6 := WA11.out.cell (i := 6) rfl
        have y0 := WB11.out.cell (i := 0) rfl
        have y1 := WB11.out.cell (i := 1) rfl
        have y2 := WB11.out.cell (i := 2) rfl
        have y3 := WB11.out.cell (i := 3) rfl
        have y4 := WB11.out.cell (i := 4) rfl
        have y5 := WB11.out.cell (i := 5) rfl
        have y6 := WB11.out.cell (i := 6) rfl
        have e3 : (pa != pa) = false := by simp
        have e5 : (NA.toList != NA.toList) = false := by simp
        cases ka
        · go_wp2_with fail
          go_ret
          exact ⟨rfl, Be11.out⟩
        · cases kb
          · go_wp2_with fail
            go_ret
            exact ⟨rfl, Be11.out⟩
          · by_cases hAB : A = B
            · subst hAB
              obtain rfl : NB = NA := by rw [HNA.out, HNB.out]
              have e4 : (NB.toList == NB.toList) = true := by simp
              go_wp2_with fail
              go_ret
              exact ⟨rfl, Be11.out⟩
            · have e4 : (NA.toList == NB.toList) = false := by
                rw [beq_eq_false_iff_ne]
                intro hq
                apply hAB
                refine Pl.text_inj HKA.out.symm HKB.out.symm ?_
                have q2 : Pl.txt A = Pl.txt B := by
                  rw [HNA.out, HNB.out] at hq
                  simpa using hq
                simpa [Pl.txt, ← HKA.out, ← HKB.out] using q2
              go_wp2_with fail
              all_goals first | (go_ret; exact ⟨rfl, Be11.out⟩) | exact absurd (in_ext ‹A.op = B.op› ‹A.z = B.z› ‹A.r = B.r› ‹A.m = B.m› ‹A.k = B.k› ‹A.e = B.e› ‹A.s = B.s›) hAB
end Go.Proofs.YtndphgidmlmkoaaDoor

namespace Go.Proofs.YtndphgidmlmkoaaDoor
open Go.RowKit
set_option linter.unusedVariables false
theorem gPow : Tryd.prog.globalNamed "internal/strconv.uint64pow10" = some 0 := by kernel_rfl
theorem tPow : (Tryd.prog.globals[0]?).map (·.type) = some 98 := by kernel_rfl
theorem cU64 : Tryd.prog.cellsOf 44 = 1 := by kernel_rfl
theorem cPow : Tryd.prog.cellsOf 98 = 20 := by kernel_rfl
def powZ : List Int := [1, 10, 100, 1000, 10000, 100000, 1000000, 10000000, 100000000, 1000000000, 10000000000, 100000000000, 1000000000000, 10000000000000, 100000000000000, 1000000000000000, 10000000000000000, 100000000000000000, 1000000000000000000, 10000000000000000000]
theorem powZ_is : powZ = Lib.pow10Tab := by decide
theorem tabP_of {W : World} (h : laidMetH Tryd.prog [("math/bits.deBruijn32tab", Rows.laid_math_bits_deBruijn32tab), ("math/bits.deBruijn64tab", Rows.laid_math_bits_deBruijn64tab), ("internal/strconv.uint64pow10", Rows.laid_internal_strconv_uint64pow10)] W) : TabP W := by
  rw [MakeChecks.laidMetH_plain _ _ _ (by kernel_rfl)] at h
  have hT : Lib.TabIs Tryd.prog W "internal/strconv.uint64pow10" .u64 powZ := Lib.tabIs_of_head (rest := []) gPow tPow Tryd.underlying98 Tryd.underlying44 cU64 cPow h.tail.tail
  rw [powZ_is] at hT
  exact hT
end Go.Proofs.YtndphgidmlmkoaaDoor

