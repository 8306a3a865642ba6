/- The law on WordsOf: of whatever unit, its Go function returns true, and no block that was there has turned. Instructions that came in to a law, and lists of them: opened out of a law's argument. Units that came in to a law: opened out of a law's argument. -/
import Derived.Test.YtbppfbkkphhjnaaGreatWD8
import Derived.Test.YtbppfbkkphhjnaaGreatWD1
import Derived.Deep.RegionHeld3
import Derived.Lib.SmallJoins
import Derived.Deep.Slices
import Derived.ProofKit
import Derived.OpenShut
namespace Go.Proofs.YtbppfbkkphhjnaaGreat
open Go.RowKit
set_option linter.unusedVariables false
set_option linter.unusedSimpArgs false
set_option maxRecDepth 100000 in
set_option maxHeartbeats 16000000 in
theorem lawWordsOf (f t : Int) (a : Option Addr) (ca n : Nat) (ys ts : List Int) (sk : List Bool) (w : World) (ha : MRow w a n ys ts sk) (ly : ys.length = 7 * n) (wy : Wide ys) (lm : n ≤ 9223372036854775807) :
    Calls Tryz.prog 5 #[.agg #[iv f, iv t, .slice a n ca]] w fun r' w' => r' = .returned (.bool true) ∧ Below w.heap.size w w' := by
  have K := hide (kept_alloc w (.cells #[iv f, iv t, .slice a n ca] 43))
  have A := hide (Blk.new w #[iv f, iv t, .slice a n ca] 43)
  have HA := hide ha
  have HY := hide ly
  have HW := hide wy
  clear ha ly wy
  by_cases hb : (1048576 : Int) - (n : Int) < 0
  · have hsz : (if (1048576 : Int) - (n : Int) < 0 then (-1 : Int) else 1048576 - (n : Int)) = -1 := if_pos hb
    go_enter Tryz.func5, Tryz.ntmps5
    go_wp2_with fail
    refine (szUnit _ f t a ca n 1048576 lm (by decide) (by decide)).mono ?_
    rw [hsz]
    rintro e9 w1 ⟨rfl, k1⟩
    have K1 := hide (K.out.trans k1)
    clear k1
    go_wp2_with fail
    go_ret
    exact ⟨rfl, K1.out.below⟩
  · obtain ⟨LF, hLF⟩ : ∃ LF : Int, LF = 1048576 - (n : Int) := ⟨_, rfl⟩
    have hsz : (if (1048576 : Int) - (n : Int) < 0 then (-1 : Int) else 1048576 - (n : Int)) = LF := (if_neg hb).trans hLF.symm
    have bx : n ≤ 2000000 := by omega
    have q9 : 0 ≤ LF := by omega
    have bz9 := Pl.uw_len f t n ys ts sk (by omega)
    clear hb hLF
    obtain ⟨G, hG⟩ : ∃ G, G = Pl.goodU f t n ys ts sk := ⟨_, rfl⟩
    obtain ⟨Z, hZ⟩ : ∃ Z, Z = Pl.uwV f t n ys ts sk := ⟨_, rfl⟩
    rw [← hZ] at bz9
    have bz : Z.length ≤ 2000000 := by omega
    have HG := hide hG
    have HZ := hide hZ
    clear hG hZ
    have z0 : (w.alloc (.cells #[iv f, iv t, .slice a n ca] 43)).heap.size = w.heap.size + 1 := by simp
    have qq : (G != G) = false := by cases G <;> rfl
    go_enter Tryz.func5, Tryz.ntmps5
    go_wp2_with fail
    refine (szUnit _ f t a ca n 1048576 lm (by decide) (by decide)).mono ?_
    rw [hsz]
    rintro e9 W1 ⟨rfl, k9⟩
    have z1 := k9.size
    have An := hide (A.out.kept k9 (by omega))
    clear A
    have A := An
    clear An
    have Kn := hide (K.out.trans k9)
    clear K
    have K := Kn
    clear Kn
    clear k9
    have pa := A.out.all
    go_wp2_with fail
    refine (toUnit _ f t a ca n ys ts sk (HA.out.keptS K.out) bx).mono ?_
    rintro e9 W2 ⟨g1, rfl, h1, h2, m9, k9⟩
    have z2 := k9.size
    have An := hide (A.out.kept k9 (by omega))
    clear A
    have A := An
    clear An
    have Kn := hide (K.out.trans k9)
    clear K
    have K := Kn
    clear Kn
    clear pa
    have M1 := hide m9
    clear m9 k9
    go_wp2_with fail
    refine (specXWords _ f t _ n n ys ts sk M1.out.row HY.out bx).mono ?_
    rw [← HG.out, ← HZ.out]
    rintro e9 W3 ⟨b0, c0, rfl, s9, k9⟩
    have S0 := hide s9
    have z3 := k9.size
    have An := hide (A.out.kept k9 (by omega))
    clear A
    have A := An
    clear An
    have Kn := hide (K.out.trans k9)
    clear K
    have K := Kn
    clear Kn
    clear k9 s9 M1
    have pa := A.out.all
    go_wp2_with fail
    refine (toUnit _ f t a ca n ys ts sk (HA.out.keptS K.out) bx).mono ?_
    rintro e9 W4 ⟨g2, rfl, h1b, h2b, m9, k9⟩
    have z4 := k9.size
    have An := hide (A.out.kept k9 (by omega))
    have S0n := hide (SlotIn.kept S0.out k9 (by omega))
    clear A
    have A := An
    clear An
    clear S0
    have S0 := S0n
    clear S0n
    have Kn := hide (K.out.trans k9)
    clear K
    have K := Kn
    clear Kn
    clear pa
    have k8 := kept_alloc W4 (.cells #[iv f, iv t, .slice (some ⟨g2, 0, none⟩) n n] 29)
    have M := hide (MOwn.keptS m9 k8 (by omega))
    clear m9 k9
    have X := hide (Blk.new W4 #[iv f, iv t, .slice (some ⟨g2, 0, none⟩) n n] 29)
    have z4b : (W4.alloc (.cells #[iv f, iv t, .slice (some ⟨g2, 0, none⟩) n n] 29)).heap.size = W4.heap.size + 1 := by simp
    have An := hide (A.out.kept k8 (by omega))
    have S0n := hide (SlotIn.kept S0.out k8 (by omega))
    clear A
    have A := An
    clear An
    clear S0
    have S0 := S0n
    clear S0n
    have Kn := hide (K.out.trans k8)
    clear K
    have K := Kn
    clear Kn
    clear k8
    have px := X.out.all
    go_wp2_with fail
    refine (implXWords _ f t _ n n ys ts sk M.out.row HY.out HW.out bx).mono ?_
    rw [← HG.out, ← HZ.out]
    rintro e9 W5 ⟨b1, c1, rfl, s9, k9⟩
    have S1 := hide s9
    have z5 := k9.size
    have An := hide (A.out.kept k9 (by omega))
    have S0n := hide (SlotIn.kept S0.out k9 (by omega))
    have Mn := hide (MOwn.keptS M.out k9 (by omega))
    have Xn := hide (X.out.kept k9 (by omega))
    clear A
    have A := An
    clear An
    clear S0
    have S0 := S0n
    clear S0n
    clear M
    have M := Mn
    clear Mn
    clear X
    have X := Xn
    clear Xn
    have Kn := hide (K.out.trans k9)
    clear K
    have K := Kn
    clear Kn
    clear k9 s9 px
    rw [z4b] at S1 z5
    go_wp2_with fail
    refine (eqIntS _ b1 _ _ _ Z Z S1.out.row S0.out.row bz bz).mono ?_
    rw [decide_eq_true (rfl : Z = Z)]
    rintro e9 W6 ⟨rfl, gr⟩
    have k9 := kept_grown gr
    have z6 := k9.size
    have An := hide (A.out.kept k9 (by omega))
    have S0n := hide (SlotIn.kept S0.out k9 (by omega))
    have Mn := hide (MOwn.keptS M.out k9 (by omega))
    have Xn := hide (X.out.kept k9 (by omega))
    have S1n := hide (SlotIn.kept S1.out k9 (by omega))
    clear A
    have A := An
    clear An
    clear S0
    have S0 := S0n
    clear S0n
    clear M
    have M := Mn
    clear Mn
    clear X
    have X := Xn
    clear Xn
    clear S1
    have S1 := S1n
    clear S1n
    have Kn := hide (K.out.trans k9)
    clear K
    have K := Kn
    clear Kn
    clear gr k9
    go_wp2_with fail
    go_region_held3 (fun w' => (∀ i, w'.cell? ⟨w.heap.size, i, none⟩ = ((#[iv f, iv t, .slice a n ca] : Array Value))[i]?) ∧ (∀ i, w'.cell? ⟨W4.heap.size, i, none⟩ = ((#[iv f, iv t, .slice (some ⟨g2, 0, none⟩) n n] : Array Value))[i]?)) (first | with_reducible exact ⟨A9.out.all, X9.out.all⟩ | with_reducible exact ⟨A8.out.all, X8.out.all⟩ | exact ⟨(show Blk _ _ _ _ from A.out).all, (show Blk _ _ _ _ from X.out).all⟩) (first | (go_at_call 18; refine (toUnit _ f t a ca n ys ts sk (HA.out.keptS (kept_drew K.out)) bx).mono ?_; rintro e9 W7 ⟨g8, rfl, h81, h82, m8, kd⟩; have k7 := undrewK kd; have A8 := hide (A.out.kept0 k7); have X8 := hide (X.out.kept0 k7); have M7 := hide (MOwn.keptS M.out k7 (by omega)); have M8 := hide m8; have z7 := k7.size; clear kd m8) | (go_at_call 11; refine (eqUnit _ f t _ _ n n n ys ts sk M7.out.row M8.out.row bx).mono ?_; rintro e9 W8 ⟨rfl, k8⟩; have A9 := hide (A8.out.kept0 k8); have X9 := hide (X8.out.kept0 k8); have k9 := k7.trans k8; have z8 := k8.size; clear k8))
    clear A8 A9 X8 X9 M7 M8 h81 h82 k7
    have An := hide (A.out.kept k9 (by omega))
    have S0n := hide (SlotIn.kept S0.out k9 (by omega))
    have Mn := hide (MOwn.keptS M.out k9 (by omega))
    have Xn := hide (X.out.kept k9 (by omega))
    have S1n := hide (SlotIn.kept S1.out k9 (by omega))
    clear A
    have A := An
    clear An
    clear S0
    have S0 := S0n
    clear S0n
    clear M
    have M := Mn
    clear Mn
    clear X
    have X := Xn
    clear Xn
    clear S1
    have S1 := S1n
    clear S1n
    have Kn := hide (K.out.trans k9)
    clear K
    have K := Kn
    clear Kn
    clear k9
    have px := X.out.all
    go_wp2_with fail
    refine (markUnit _ f t g2 n n _ 1 M.out (miL_len _ _ _ _) bx (by decide) (by decide)).mono ?_
    rintro e9 W9 ⟨rfl, o9, k9⟩
    have z9 := k9.size
    have An := hide (A.out.kept k9 (by omega))
    have S0n := hide (SlotIn.kept S0.out k9 (by omega))
    have Xn := hide (X.out.kept k9 (by omega))
    have S1n := hide (SlotIn.kept S1.out k9 (by omega))
    clear A
    have A := An
    clear An
    clear S0
    have S0 := S0n
    clear S0n
    clear X
    have X := Xn
    clear Xn
    clear S1
    have S1 := S1n
    clear S1n
    have Kn := hide (kept_over K.out k9 (by omega))
    clear K
    have K := Kn
    clear Kn
    clear px k9 o9
    have h99 : ¬ (1 : Int) + 9 * (n : Int) < 0 := by omega
    go_wp2_with fail
    refine (eqIntS _ b1 _ _ _ Z Z S1.out.row S0.out.row bz bz).mono ?_
    rw [decide_eq_true (rfl : Z = Z)]
    rintro e9 W10 ⟨rfl, gr⟩
    have k9 := kept_grown gr
    have z10 := k9.size
    have An := hide (A.out.kept k9 (by omega))
    have S0n := hide (SlotIn.kept S0.out k9 (by omega))
    have Xn := hide (X.out.kept k9 (by omega))
    have S1n := hide (SlotIn.kept S1.out k9 (by omega))
    clear A
    have A := An
    clear An
    clear S0
    have S0 := S0n
    clear S0n
    clear X
    have X := Xn
    clear Xn
    clear S1
    have S1 := S1n
    clear S1n
    have Kn := hide (K.out.trans k9)
    clear K
    have K := Kn
    clear Kn
    clear gr k9
    have T1 := hide (S1.out.slot (by omega))
    have bi := S1.out.blk_in
    go_wp2_with fail
    refine (markSlot _ _ _ b1 Z 1 T1.out bz (by decide) (by decide)).mono ?_
    rintro e9 W11 ⟨rfl, t9, gr⟩
    have k9 : Kept (W4.heap.size + 1) W5.heap.size _ W11 := kept_row gr bi
    have R1 := hide (SlotIn.again S1.out t9)
    have z11 := k9.size
    have An := hide (A.out.kept k9 (by omega))
    have S0n := hide (SlotIn.kept S0.out k9 (by omega))
    have Xn := hide (X.out.kept k9 (by omega))
    clear A
    have A := An
    clear An
    clear S0
    have S0 := S0n
    clear S0n
    clear X
    have X := Xn
    clear Xn
    have Kn := hide (kept_over K.out k9 (by omega))
    clear K
    have K := Kn
    clear Kn
    clear T1 gr t9 k9 bi S1
    go_wp2_with fail
    refine (heldIntS _ b1 _ Z.length 1 R1.out.row bz (by decide) (by decide)).mono ?_
    rintro e9 W12 ⟨rfl, gr⟩
    have k9 := kept_grown gr
    have z12 := k9.size
    have An := hide (A.out.kept k9 (by omega))
    have S0n := hide (SlotIn.kept S0.out k9 (by omega))
    have Xn := hide (X.out.kept k9 (by omega))
    have R1n := hide (SlotIn.kept R1.out k9 (by omega))
    clear A
    have A := An
    clear An
    clear S0
    have S0 := S0n
    clear S0n
    clear X
    have X := Xn
    clear Xn
    clear R1
    have R1 := R1n
    clear R1n
    have Kn := hide (K.out.trans k9)
    clear K
    have K := Kn
    clear Kn
    clear gr k9
    have h98 : ¬ (1 : Int) + (Z.length : Int) < 0 := by omega
    have pa := A.out.all
    go_wp2_with fail
    refine (toUnit _ f t a ca n ys ts sk (HA.out.keptS K.out) bx).mono ?_
    rintro e9 W14 ⟨g3, rfl, h1c, h2c, m9, k9⟩
    have z14 := k9.size
    have An := hide (A.out.kept k9 (by omega))
    have S0n := hide (SlotIn.kept S0.out k9 (by omega))
    have Xn := hide (X.out.kept k9 (by omega))
    have R1n := hide (SlotIn.kept R1.out k9 (by omega))
    clear A
    have A := An
    clear An
    clear S0
    have S0 := S0n
    clear S0n
    clear X
    have X := Xn
    clear Xn
    clear R1
    have R1 := R1n
    clear R1n
    have Kn := hide (K.out.trans k9)
    clear K
    have K := Kn
    clear Kn
    have M3 := hide m9
    clear m9 k9 pa
    go_wp2_with fail
    refine (implXWords _ f t _ n n ys ts sk M3.out.row HY.out HW.out bx).mono ?_
    rw [← HG.out, ← HZ.out]
    rintro e9 W15 ⟨b2, c2, rfl, s9, k9⟩
    have S2 := hide s9
    have z15 := k9.size
    have An := hide (A.out.kept k9 (by omega))
    have S0n := hide (SlotIn.kept S0.out k9 (by omega))
    have Xn := hide (X.out.kept k9 (by omega))
    have R1n := hide (SlotIn.kept R1.out k9 (by omega))
    clear A
    have A := An
    clear An
    clear S0
    have S0 := S0n
    clear S0n
    clear X
    have X := Xn
    clear Xn
    clear R1
    have R1 := R1n
    clear R1n
    have Kn := hide (K.out.trans k9)
    clear K
    have K := Kn
    clear Kn
    clear k9 s9 M3
    go_wp2_with fail
    refine (eqIntS _ b2 _ _ _ Z Z S2.out.row S0.out.row bz bz).mono ?_
    rw [decide_eq_true (rfl : Z = Z)]
    rintro e9 W16 ⟨rfl, gr⟩
    have k9 := kept_grown gr
    have z16 := k9.size
    have An := hide (A.out.kept k9 (by omega))
    have S0n := hide (SlotIn.kept S0.out k9 (by omega))
    have Xn := hide (X.out.kept k9 (by omega))
    have R1n := hide (SlotIn.kept R1.out k9 (by omega))
    have S2n := hide (SlotIn.kept S2.out k9 (by omega))
    clear A
    have A := An
    clear An
    clear S0
    have S0 := S0n
    clear S0n
    clear X
    have X := Xn
    clear Xn
    clear R1
    have R1 := R1n
    clear R1n
    clear S2
    have S2 := S2n
    clear S2n
    have Kn := hide (K.out.trans k9)
    clear K
    have K := Kn
    clear Kn
    clear gr k9
    go_wp2_with fail
    refine (heldIntS _ b1 _ Z.length 1 R1.out.row bz (by decide) (by decide)).mono ?_
    rintro e9 W17 ⟨rfl, gr⟩
    have k9 := kept_grown gr
    have z17 := k9.size
    have An := hide (A.out.kept k9 (by omega))
    have S0n := hide (SlotIn.kept S0.out k9 (by omega))
    have Xn := hide (X.out.kept k9 (by omega))
    have R1n := hide (SlotIn.kept R1.out k9 (by omega))
    have S2n := hide (SlotIn.kept S2.out k9 (by omega))
    clear A
    have A := An
    clear An
    clear S0
    have S0 := S0n
    clear S0n
    clear X
    have X := Xn
    clear Xn
    clear R1
    have R1 := R1n
    clear R1n
    clear S2
    have S2 := S2n
    clear S2n
    have Kn := hide (K.out.trans k9)
    clear K
    have K := Kn
    clear Kn
    clear gr k9
    go_wp2_with fail
    go_ret
    exact ⟨rfl, K.out.below⟩
end Go.Proofs.YtbppfbkkphhjnaaGreat

namespace Go.Proofs.YtbppfbkkphhjnaaGreat
open Go.RowKit Go.WideShapes Go.ChangeShapes Go.ChangeAt
set_option linter.unusedVariables false
set_option maxRecDepth 100000

theorem Tryz.cellsInt : Tryz.prog.cellsOf 3 = 1 := by kernel_rfl
theorem Tryz.cellsOpnd : Tryz.prog.cellsOf 133 = 3 := by kernel_rfl
theorem Tryz.cellsIns : Tryz.prog.cellsOf 135 = 7 := by kernel_rfl

theorem Addr.add_add_own (a : Addr) (i j : Nat) : (a.add i).add j = a.add (i + j) := by
  unfold Addr.add
  by_cases hi : i = 0 <;> by_cases hj : j = 0 <;> simp [hi, hj, Nat.add_assoc]
section
variable {H : Type} {enc : TypeId × Value → H} {w : World} {base : Nat} {spare : Nat → Bool} {held : Bool}

theorem open_insCells {fuel : Nat} {c0 c1 c2 c3 c4 c5 c6 : Value} {y : DataW H × List MemPlace} (h : DataW.trod enc Tryz.prog w base spare held fuel 135 [c0, c1, c2, c3, c4, c5, c6] = some y) :
    ∃ i0 i1 i2 i3 i4 i5 i6 : Int, (c0 = .int .i64 i0 ∧ c1 = .int .i64 i1 ∧ c2 = .int .i64 i2 ∧ c3 = .int .i64 i3 ∧ c4 = .int .i64 i4 ∧ c5 = .int .i64 i5 ∧ c6 = .int .i64 i6) ∧ (Lit.int .i64 i0).wf = true ∧ (Lit.int .i64 i1).wf = true ∧ (Lit.int .i64 i2).wf = true ∧ (Lit.int .i64 i3).wf = true ∧ (Lit.int .i64 i4).wf = true ∧ (Lit.int .i64 i5).wf = true ∧ (Lit.int .i64 i6).wf = true := by
  obtain ⟨zs, k, _, _, _, hzl, hf⟩ := DataW.trod_struct Tryz.underlying135 h
  obtain ⟨z0, z1, z2, z3, z4, rfl⟩ : ∃ z0 z1 z2 z3 z4, zs = [z0, z1, z2, z3, z4] := by
    match zs, hzl with
    | [z0, z1, z2, z3, z4], _ => exact ⟨z0, z1, z2, z3, z4, rfl⟩
  have t0 := hf 0 _ rfl
  have t1 := hf 1 _ rfl
  have t2 := hf 2 _ rfl
  have t3 := hf 3 _ rfl
  have t4 := hf 4 _ rfl
  simp [Tryz.cellsInt, Tryz.cellsOpnd] at t0 t1 t2 t3 t4
  obtain ⟨ys, k2, _, _, _, hyl, hg⟩ := DataW.trod_struct Tryz.underlying133 t3
  obtain ⟨y0, y1, y2, rfl⟩ : ∃ y0 y1 y2, ys = [y0, y1, y2] := by
    match ys, hyl with
    | [y0, y1, y2], _ => exact ⟨y0, y1, y2, rfl⟩
  have s0 := hg 0 _ rfl
  have s1 := hg 1 _ rfl
  have s2 := hg 2 _ rfl
  simp [Tryz.cellsInt] at s0 s1 s2
  obtain ⟨i0, e0, _, b0⟩ := DataW.trod_int Tryz.underlying3 t0
  obtain ⟨i1, e1, _, b1⟩ := DataW.trod_int Tryz.underlying3 t1
  obtain ⟨i2, e2, _, b2⟩ := DataW.trod_int Tryz.underlying3 t2
  obtain ⟨i3, e3, _, b3⟩ := DataW.trod_int Tryz.underlying3 s0
  obtain ⟨i4, e4, _, b4⟩ := DataW.trod_int Tryz.underlying3 s1
  obtain ⟨i5, e5, _, b5⟩ := DataW.trod_int Tryz.underlying3 s2
  obtain ⟨i6, e6, _, b6⟩ := DataW.trod_int Tryz.underlying3 t4
  simp at e0 e1 e2 e3 e4 e5 e6
  exact ⟨i0, i1, i2, i3, i4, i5, i6, ⟨e0, e1, e2, e3, e4, e5, e6⟩, b0, b1, b2, b3, b4, b5, b6⟩
end
end Go.Proofs.YtbppfbkkphhjnaaGreat

namespace Go.Proofs.YtbppfbkkphhjnaaGreat
open Go.RowKit Go.WideShapes Go.ChangeShapes Go.ChangeAt
set_option linter.unusedVariables false
set_option maxRecDepth 100000
theorem Tryz.cellsBool : Tryz.prog.cellsOf 4 = 1 := by kernel_rfl
theorem Tryz.cellsMicro : Tryz.prog.cellsOf 137 = 9 := by kernel_rfl
theorem Tryz.cellsMicros : Tryz.prog.cellsOf 41 = 1 := by kernel_rfl
theorem Tryz.cellsUnit : Tryz.prog.cellsOf 43 = 3 := by kernel_rfl
/-- the numbers of an instruction, in their order -/
def inC (y : Pl.In) : Nat → Int
  | 0 => y.op
  | 1 => y.z
  | 2 => y.r
  | 3 => y.m
  | 4 => y.k
  | 5 => y.e
  | _ => y.s
theorem micros_of {w : World} {x : Addr} {len : Nat} (h : ∀ k, k < len → ∃ r : Pl.In × Int × Bool, (∀ j, j < 7 → w.cell? (x.add (k * 9 + j)) = some (.int .i64 (inC r.1 j)) ∧ (Lit.int .i64 (inC r.1 j)).wf = true) ∧ w.cell? (x.add (k * 9 + 7)) = some (.int .i64 r.2.1) ∧ (Lit.int .i64 r.2.1).wf = true ∧ w.cell? (x.add (k * 9 + 8)) = some (.bool r.2.2)) :
    ∃ (ys ts : List Int) (sk : List Bool), MRow w (some x) len ys ts sk ∧ ys.length = 7 * len ∧ ts.length = len ∧ sk.length = len ∧ Wide ys ∧ Wide ts := by
  obtain ⟨f, hf⟩ : ∃ f : Nat → Pl.In × Int × Bool, ∀ k, k < len → ((∀ j, j < 7 → w.cell? (x.add (k * 9 + j)) = some (.int .i64 (inC (f k).1 j)) ∧ (Lit.int .i64 (inC (f k).1 j)).wf = true) ∧ w.cell? (x.add (k * 9 + 7)) = some (.int .i64 (f k).2.1) ∧ (Lit.int .i64 (f k).2.1).wf = true ∧ w.cell? (x.add (k * 9 + 8)) = some (.bool (f k).2.2)) := by
    have h2 : ∀ k, ∃ r : Pl.In × Int × Bool, k < len → ((∀ j, j < 7 → w.cell? (x.add (k * 9 + j)) = some (.int .i64 (inC r.1 j)) ∧ (Lit.int .i64 (inC r.1 j)).wf = true) ∧ w.cell? (x.add (k * 9 + 7)) = some (.int .i64 r.2.1) ∧ (Lit.int .i64 r.2.1).wf = true ∧ w.cell? (x.add (k * 9 + 8)) = some (.bool r.2.2)) := by
      intro k
      by_cases hk : k < len
      · obtain ⟨r, hr⟩ := h k hk
        exact ⟨r, fun _ => hr⟩
      · exact ⟨(Pl.inNo, 0, false), fun q => absurd q hk⟩
    exact ⟨fun k => Classical.choose (h2 k), fun k hk => Classical.choose_spec (h2 k) hk⟩
  obtain ⟨ys, hys⟩ : ∃ ys : List Int, ys = (List.range (7 * len)).map fun i => inC (f (i / 7)).1 (i % 7) := ⟨_, rfl⟩
  obtain ⟨ts, hts⟩ : ∃ ts : List Int, ts = (List.range len).map fun k => (f k).2.1 := ⟨_, rfl⟩
  obtain ⟨sk, hsk⟩ : ∃ sk : List Bool, sk = (List.range len).map fun k => (f k).2.2 := ⟨_, rfl⟩
  have ey : ∀ i, i < 7 * len → el ys i = inC (f (i / 7)).1 (i % 7) := fun i hi => by rw [hys]; unfold el; rw [List.getElem?_map, List.getElem?_range hi]; rfl
  have et : ∀ i, i < len → el ts i = (f i).2.1 := fun i hi => by rw [hts]; unfold el; rw [List.getElem?_map, List.getElem?_range hi]; rfl
  have es : ∀ i, i < len → bl sk i = (f i).2.2 := fun i hi => by rw [hsk]; unfold bl; rw [List.getElem?_map, List.getElem?_range hi]; rfl
  refine ⟨ys, ts, sk, ?_, by rw [hys]; simp, by rw [hts]; simp, by rw [hsk]; simp, ?_, ?_⟩
  · intro i hi
    rw [miL_len] at hi
    have hk : i / 9 < len := by omega
    obtain ⟨q7, q8, _, q9⟩ := hf (i / 9) hk
    obtain ⟨m7, m8, m9⟩ := miL_at ys ts sk hk
    have hc : w.cell? (x.add i) = some (vl (miL ys ts sk len) i) := by
      rcases Nat.lt_or_ge (i % 9) 7 with hj | hj
      · have e : i / 9 * 9 + i % 9 = i := by omega
        have h1 := (q7 (i % 9) hj).1
        have h2 := m7 (i % 9) hj
        rw [e] at h1 h2
        rw [h1, h2, ey _ (by omega), show (i / 9 * 7 + i % 9) / 7 = i / 9 from by omega, show (i / 9 * 7 + i % 9) % 7 = i % 9 from by omega]
      · rcases (show i % 9 = 7 ∨ i % 9 = 8 by omega) with h7 | h8
        · have e : i / 9 * 9 + 7 = i := by omega
          rw [e] at q8 m8
          rw [q8, m8, et _ hk]
        · have e : i / 9 * 9 + 8 = i := by omega
          rw [e] at q9 m9
          rw [q9, m9, es _ hk]
    obtain ⟨g, off, spot⟩ := x
    have hspot : spot = none := by
      have h0 := (hf 0 (by omega)).1 0 (by decide)
      simpa [Addr.add] using World.cell?_spot h0.1
    subst hspot
    refine ⟨g, off, rfl, ?_⟩
    by_cases h0 : i = 0
    · subst h0; simpa [Addr.add] using hc
    · simpa [Addr.add, h0] using hc
  · intro i hi
    have hi7 : i < 7 * len := by rw [hys] at hi; simpa using hi
    have hq := ((hf (i / 7) (by omega)).1 (i % 7) (by omega)).2
    rw [← ey i hi7] at hq
    have := bounds_i64 hq
    unfold el at this
    exact this
  · intro i hi
    have hi7 : i < len := by rw [hts] at hi; simpa using hi
    have hq := (hf i hi7).2.2.1
    rw [← et i hi7] at hq
    have := bounds_i64 hq
    unfold el at this
    exact this
section
variable {H : Type} {enc : TypeId × Value → H} {w : World} {base : Nat} {spare : Nat → Bool} {held : Bool}
theorem open_MicroRow {fuel : Nat} {v : Value} {y : DataW H × List MemPlace} (h : DataW.trod enc Tryz.prog w base spare held fuel 41 [v] = some y) :
    ∃ (a : Option Addr) (m cap : Nat) (ys ts : List Int) (sk : List Bool), v = .slice a m cap ∧ MRow w a m ys ts sk ∧ ys.length = 7 * m ∧ ts.length = m ∧ sk.length = m ∧ Wide ys ∧ Wide ts ∧ m ≤ maxLen := by
  rcases Go.Deep.open_slice Tryz.underlying41 h with ⟨hc, _⟩ | ⟨x, len, cap, m, n, D, Pl, hc, _, hl, hm, hmm, _, hel⟩
  · simp at hc
    exact ⟨none, 0, 0, [], [], [], hc, fun i hi => absurd hi (by simp [miL]), rfl, rfl, rfl, fun i hi => absurd hi (Nat.not_lt_zero i), fun i hi => absurd hi (Nat.not_lt_zero i), Nat.zero_le _⟩
  · simp at hc
    have hlen : len ≤ m := by rw [hmm]; split <;> omega
    obtain ⟨ys, ts, sk, h1, h2, h3, h4, h5, h6⟩ := micros_of (w := w) (x := x) (len := len) (by
      intro k hk
      obtain ⟨cs', h1, h2⟩ := hel k (by omega)
      rw [Tryz.cellsMicro] at h1
      obtain ⟨_, hl5, hcs⟩ := World.cells?_some h1
      obtain ⟨c0, c1, c2, c3, c4, c5, c6, c7, c8, rfl⟩ : ∃ c0 c1 c2 c3 c4 c5 c6 c7 c8, cs' = [c0, c1, c2, c3, c4, c5, c6, c7, c8] := by
        match cs', hl5 with
        | [c0, c1, c2, c3, c4, c5, c6, c7, c8], _ => exact ⟨c0, c1, c2, c3, c4, c5, c6, c7, c8, rfl⟩
      have hget : ∀ j, j < 9 → w.cell? (x.add (k * 9 + j)) = [c0, c1, c2, c3, c4, c5, c6, c7, c8][j]? := fun j hj => by
        have h9 := hcs j (by omega)
        rw [Addr.add_add_own] at h9
        exact h9
      obtain ⟨zs, k2, _, _, _, hzl, hf⟩ := DataW.trod_struct Tryz.underlying137 h2
      obtain ⟨z0, z1, z2, rfl⟩ : ∃ z0 z1 z2, zs = [z0, z1, z2] := by
        match zs, hzl with
        | [z0, z1, z2], _ => exact ⟨z0, z1, z2, rfl⟩
      have t0 := hf 0 _ rfl
      have t1 := hf 1 _ rfl
      have t2 := hf 2 _ rfl
      simp [Tryz.cellsInt, Tryz.cellsIns, Tryz.cellsBool] at t0 t1 t2
      obtain ⟨n0, n1, n2, n3, n4, n5, n6, ⟨e0, e1, e2, e3, e4, e5, e6⟩, b0, b1, b2, b3, b4, b5, b6⟩ := open_insCells t0
      obtain ⟨n7, e7, _, b7⟩ := DataW.trod_int Tryz.underlying3 t1
      obtain ⟨n8, e8, _⟩ := DataW.trod_bool Tryz.underlying4 t2
      simp at e7 e8
      subst e0 e1 e2 e3 e4 e5 e6 e7 e8
      refine ⟨(⟨n0, n1, n2, n3, n4, n5, n6⟩, n7, n8), ?_, hget 7 (by decide), b7, hget 8 (by decide)⟩
      intro j hj
      obtain rfl | rfl | rfl | rfl | rfl | rfl | rfl : j = 0 ∨ j = 1 ∨ j = 2 ∨ j = 3 ∨ j = 4 ∨ j = 5 ∨ j = 6 := by omega
      · exact ⟨hget 0 (by decide), b0⟩
      · exact ⟨hget 1 (by decide), b1⟩
      · exact ⟨hget 2 (by decide), b2⟩
      · exact ⟨hget 3 (by decide), b3⟩
      · exact ⟨hget 4 (by decide), b4⟩
      · exact ⟨hget 5 (by decide), b5⟩
      · exact ⟨hget 6 (by decide), b6⟩)
    exact ⟨some x, len, cap, ys, ts, sk, hc, h1, h2, h3, h4, h5, h6, by omega⟩
theorem open_Unit {r : Reach} {b0 : Nat} {v : Value} {d : DataW H} {p : List MemPlace} (hv : Value.okWide Tryz.prog w r b0 43 v) (h : DataW.Trod enc Tryz.prog w base spare held 43 v d p) :
    ∃ (i0 i1 : Int) (a2 : Option Addr) (m2 c2 : Nat) (y2 t2 : List Int) (s2 : List Bool), v = .agg #[.int .i64 i0, .int .i64 i1, .slice a2 m2 c2] ∧ (Lit.int .i64 i0).wf = true ∧ (Lit.int .i64 i1).wf = true ∧ (MRow w a2 m2 y2 t2 s2 ∧ y2.length = 7 * m2 ∧ t2.length = m2 ∧ s2.length = m2 ∧ Wide y2 ∧ Wide t2 ∧ m2 ≤ maxLen) := by
  obtain ⟨cs, rfl, hsz⟩ := okWide_struct Tryz.underlying43 hv
  rw [Tryz.cellsUnit] at hsz
  obtain ⟨cl⟩ := cs
  obtain ⟨c_0, c_1, c_2, rfl⟩ : ∃ c_0 c_1 c_2, cl = [c_0, c_1, c_2] := by
    match cl, hsz with
    | [c_0, c_1, c_2], _ => exact ⟨c_0, c_1, c_2, rfl⟩
  obtain ⟨fuel, hf0⟩ := h
  obtain ⟨zs, k, _, _, _, hzl, hf⟩ := DataW.trod_struct Tryz.underlying43 hf0
  obtain ⟨z_0, z_1, z_2, rfl⟩ : ∃ z_0 z_1 z_2, zs = [z_0, z_1, z_2] := by
    match zs, hzl with
    | [z_0, z_1, z_2], _ => exact ⟨z_0, z_1, z_2, rfl⟩
  have t0 := hf 0 _ rfl
  have t1 := hf 1 _ rfl
  have t2 := hf 2 _ rfl
  simp [Value.cells, Tryz.cellsInt, Tryz.cellsMicros] at t0 t1 t2
  obtain ⟨i0, q0, _, w0⟩ := DataW.trod_int Tryz.underlying3 t0
  obtain ⟨i1, q1, _, w1⟩ := DataW.trod_int Tryz.underlying3 t1
  obtain ⟨a2, m2, c2, y2, tt2, s2, q2, hh⟩ := open_MicroRow t2
  simp at q0 q1
  subst q0 q1 q2
  exact ⟨i0, i1, a2, m2, c2, y2, tt2, s2, rfl, w0, w1, hh⟩
end
end Go.Proofs.YtbppfbkkphhjnaaGreat

