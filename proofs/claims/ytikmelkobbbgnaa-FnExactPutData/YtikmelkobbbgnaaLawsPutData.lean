/- The law on PutData: of whatever arguments, its Go function returns true, and no block that was there has turned. -/
import Derived.Test.YtikmelkobbbgnaaRegsFns
import Derived.Test.YtikmelkobbbgnaaSpecReg7
import Derived.Test.YtikmelkobbbgnaaImplRegH
import Derived.Test.YtikmelkobbbgnaaRegLen
import Derived.Deep.DeepCutAuto
namespace Go.Proofs.Ytikmelkobbbgnaa
open Go.RowKit
set_option linter.unusedVariables false

set_option maxRecDepth 100000 in
set_option maxHeartbeats 16000000 in
theorem lawPutData (d : Pl.Rg) (a b : Option Addr) (ca cb : Nat) (z k v : Int) (w : World) (hx : Came w a d.xs) (hy : Came w b d.ys) (lx : d.xs.length ≤ 9223372036854775807) (ly : d.ys.length ≤ 9223372036854775807) (wfd : Pl.WfR d) (wfz : (Lit.int .i64 z).wf = true) (wfk : (Lit.int .i64 k).wf = true) (wfv : (Lit.int .i64 v).wf = true) :
    Calls Try.prog 9 #[.agg #[.slice a d.xs.length ca, .slice b d.ys.length cb, .int .i64 d.o, .int .i64 d.p, .int .i64 d.f, .int .i64 d.m, .bool d.s, .bool d.t], .int .i64 z, .int .i64 k, .int .i64 v] w fun e w' => e = .returned (.bool true) ∧ Below w.heap.size w w' := by
  have HX := hide hx
  have HY := hide hy
  have HWF := hide wfd
  have Bel := hide (kept_alloc w (.cells #[.slice a d.xs.length ca, .slice b d.ys.length cb, .int .i64 d.o, .int .i64 d.p, .int .i64 d.f, .int .i64 d.m, .bool d.s, .bool d.t] 29)).below
  have WA := hide (Blk.new w #[.slice a d.xs.length ca, .slice b d.ys.length cb, .int .i64 d.o, .int .i64 d.p, .int .i64 d.f, .int .i64 d.m, .bool d.s, .bool d.t] 29)
  have hn := Pl.pd_len d z k v
  clear hx hy wfd
  by_cases hs : szB d.xs.length d.ys.length 1048576 < 0
  · go_enter Try.func9, Try.ntmps9
    go_wp2_with fail
    refine (szRegs _ d.o d.p d.f d.m d.s d.t a b ca cb d.xs.length d.ys.length 1048576 lx ly (by decide) (by decide)).mono ?_
    rintro e w1 ⟨rfl, k⟩
    have Bn := hide (below_kept Bel.out k (by omega))
    clear k
    go_wp2_with fail
    go_ret
    exact ⟨rfl, Bn.out⟩
  · have hb := szB_neg hs
    have bx : d.xs.length ≤ 2000000 := by omega
    have bm : d.ys.length ≤ 2000000 := by omega
    have ds : decide (szB d.xs.length d.ys.length 1048576 < 0) = false := by simpa using hs
    clear hs hb
    generalize hDD : Pl.pdR d z k v = D at hn
    generalize hKK : Pl.pdOk d z k v = K
    obtain ⟨bD, bE⟩ : D.xs.length ≤ 2000000 ∧ D.ys.length ≤ 2000000 := ⟨by omega, by omega⟩
    have HDD := hide hDD
    have HKK := hide hKK
    clear hDD hKK
    go_enter Try.func9, Try.ntmps9
    go_wp2_with fail
    refine (szRegs _ d.o d.p d.f d.m d.s d.t a b ca cb d.xs.length d.ys.length 1048576 lx ly (by decide) (by decide)).mono ?_
    rintro e w1 ⟨rfl, k⟩
    have Beln := hide (below_kept Bel.out k (by omega))
    have WAn := hide (WA.out.kept k (by omega))
    clear Bel WA
    have Bel := Beln
    have WA := WAn
    clear Beln WAn
    have n1 := k.size
    simp only [World.size_alloc] at n1
    clear k
    have p00 := WA.out.cell (i := 0) rfl
    have p01 := WA.out.cell (i := 1) rfl
    have p02 := WA.out.cell (i := 2) rfl
    have p03 := WA.out.cell (i := 3) rfl
    have p04 := WA.out.cell (i := 4) rfl
    have p05 := WA.out.cell (i := 5) rfl
    have p06 := WA.out.cell (i := 6) rfl
    have p07 := WA.out.cell (i := 7) rfl
    go_wp2_with fail
    clear p00 p01 p02 p03 p04 p05 p06 p07
    clear ds
    refine (toRegs _ d.o d.p d.f d.m d.s d.t a b ca cb d.xs d.ys (HX.out.below Bel.out).1 (HY.out.below Bel.out).1 bx bm).mono ?_
    rintro e w2 ⟨g1, g2, rfl, o, o2, l1, l2, l3, k⟩
    have Beln := hide (below_kept Bel.out k (by omega))
    have WAn := hide (WA.out.kept k (by omega))
    clear Bel WA
    have Bel := Beln
    have WA := WAn
    clear Beln WAn
    have O1 := hide o
    have O2 := hide o2
    clear o o2 k
    go_wp2_with fail
    refine (specPutData _ d _ _ _ _ z k v O1.out.row O2.out.row bx bm).mono ?_
    rw [HDD.out, HKK.out]
    rintro e w3 ⟨a0, b0, ca0, cb0, rfl, ⟨s, t, hd0⟩, k⟩
    clear O1 O2
    have Beln := hide (below_kept Bel.out k (by omega))
    have WAn := hide (WA.out.kept k (by omega))
    clear Bel WA
    have Bel := Beln
    have WA := WAn
    clear Beln WAn
    have n3 := k.size
    have S0 := hide s
    have T0 := hide t
    clear k s t hd0
    have ka := kept_alloc w3 (.cells #[.slice a0 D.xs.length ca0, .slice b0 D.ys.length cb0, .int .i64 D.o, .int .i64 D.p, .int .i64 D.f, .int .i64 D.m, .bool D.s, .bool D.t] 24)
    have Beln := hide (below_kept Bel.out ka (by omega))
    have WAn := hide (WA.out.kept ka (by omega))
    have S0n := hide (S0.out.kept ka (by omega))
    have T0n := hide (T0.out.kept ka (by omega))
    clear Bel WA S0 T0
    have Bel := Beln
    have WA := WAn
    have S0 := S0n
    have T0 := T0n
    clear Beln WAn S0n T0n
    have W0 := hide (Blk.new w3 #[.slice a0 D.xs.length ca0, .slice b0 D.ys.length cb0, .int .i64 D.o, .int .i64 D.p, .int .i64 D.f, .int .i64 D.m, .bool D.s, .bool D.t] 24)
    obtain ⟨X3, hX3⟩ : ∃ X : World, X = w3.alloc (.cells #[.slice a0 D.xs.length ca0, .slice b0 D.ys.length cb0, .int .i64 D.o, .int .i64 D.p, .int .i64 D.f, .int .i64 D.m, .bool D.s, .bool D.t] 24) := ⟨_, rfl⟩
    have nX3 : w3.heap.size < X3.heap.size := by rw [hX3]; simp
    rw [← hX3] at Bel WA S0 T0 W0
    have r00 := WA.out.cell (i := 0) rfl
    rw [hX3] at r00
    have s00 := (World.cell?_alloc_lt w3 (.cells #[.slice a0 D.xs.length ca0, .slice b0 D.ys.length cb0, .int .i64 D.o, .int .i64 D.p, .int .i64 D.f, .int .i64 D.m, .bool D.s, .bool D.t] 24) ⟨w.heap.size, 0, none⟩ (by show w.heap.size < _; omega)).symm.trans r00
    have r01 := WA.out.cell (i := 1) rfl
    rw [hX3] at r01
    have s01 := (World.cell?_alloc_lt w3 (.cells #[.slice a0 D.xs.length ca0, .slice b0 D.ys.length cb0, .int .i64 D.o, .int .i64 D.p, .int .i64 D.f, .int .i64 D.m, .bool D.s, .bool D.t] 24) ⟨w.heap.size, 1, none⟩ (by show w.heap.size < _; omega)).symm.trans r01
    have r02 := WA.out.cell (i := 2) rfl
    rw [hX3] at r02
    have s02 := (World.cell?_alloc_lt w3 (.cells #[.slice a0 D.xs.length ca0, .slice b0 D.ys.length cb0, .int .i64 D.o, .int .i64 D.p, .int .i64 D.f, .int .i64 D.m, .bool D.s, .bool D.t] 24) ⟨w.heap.size, 2, none⟩ (by show w.heap.size < _; omega)).symm.trans r02
    have r03 := WA.out.cell (i := 3) rfl
    rw [hX3] at r03
    have s03 := (World.cell?_alloc_lt w3 (.cells #[.slice a0 D.xs.length ca0, .slice b0 D.ys.length cb0, .int .i64 D.o, .int .i64 D.p, .int .i64 D.f, .int .i64 D.m, .bool D.s, .bool D.t] 24) ⟨w.heap.size, 3, none⟩ (by show w.heap.size < _; omega)).symm.trans r03
    have r04 := WA.out.cell (i := 4) rfl
    rw [hX3] at r04
    have s04 := (World.cell?_alloc_lt w3 (.cells #[.slice a0 D.xs.length ca0, .slice b0 D.ys.length cb0, .int .i64 D.o, .int .i64 D.p, .int .i64 D.f, .int .i64 D.m, .bool D.s, .bool D.t] 24) ⟨w.heap.size, 4, none⟩ (by show w.heap.size < _; omega)).symm.trans r04
    have r05 := WA.out.cell (i := 5) rfl
    rw [hX3] at r05
    have s05 := (World.cell?_alloc_lt w3 (.cells #[.slice a0 D.xs.length ca0, .slice b0 D.ys.length cb0, .int .i64 D.o, .int .i64 D.p, .int .i64 D.f, .int .i64 D.m, .bool D.s, .bool D.t] 24) ⟨w.heap.size, 5, none⟩ (by show w.heap.size < _; omega)).symm.trans r05
    have r06 := WA.out.cell (i := 6) rfl
    rw [hX3] at r06
    have s06 := (World.cell?_alloc_lt w3 (.cells #[.slice a0 D.xs.length ca0, .slice b0 D.ys.length cb0, .int .i64 D.o, .int .i64 D.p, .int .i64 D.f, .int .i64 D.m, .bool D.s, .bool D.t] 24) ⟨w.heap.size, 6, none⟩ (by show w.heap.size < _; omega)).symm.trans r06
    have r07 := WA.out.cell (i := 7) rfl
    rw [hX3] at r07
    have s07 := (World.cell?_alloc_lt w3 (.cells #[.slice a0 D.xs.length ca0, .slice b0 D.ys.length cb0, .int .i64 D.o, .int .i64 D.p, .int .i64 D.f, .int .i64 D.m, .bool D.s, .bool D.t] 24) ⟨w.heap.size, 7, none⟩ (by show w.heap.size < _; omega)).symm.trans r07
    go_wp2_with fail
    rw [← hX3]
    clear ka hX3 r00 s00 r01 s01 r02 s02 r03 s03 r04 s04 r05 s05 r06 s06 r07 s07
    refine (toRegs _ d.o d.p d.f d.m d.s d.t a b ca cb d.xs d.ys (HX.out.below Bel.out).1 (HY.out.below Bel.out).1 bx bm).mono ?_
    rintro e w4 ⟨g3, g4, rfl, o, o2, l4, l5, l6, k⟩
    have Beln := hide (below_kept Bel.out k (by omega))
    have WAn := hide (WA.out.kept k (by omega))
    have S0n := hide (S0.out.kept k (by omega))
    have T0n := hide (T0.out.kept k (by omega))
    have W0n := hide (W0.out.kept k (by omega))
    clear Bel WA S0 T0 W0
    have Bel := Beln
    have WA := WAn
    have S0 := S0n
    have T0 := T0n
    have W0 := W0n
    clear Beln WAn S0n T0n W0n
    have O3 := hide o
    have O4 := hide o2
    clear o o2 k
    have ka := kept_alloc w4 (.cells #[.slice (some ⟨g3, 0, none⟩) d.xs.length d.xs.length, .slice (some ⟨g4, 0, none⟩) d.ys.length d.ys.length, .int .i64 d.o, .int .i64 d.p, .int .i64 d.f, .int .i64 d.m, .bool d.s, .bool d.t] 24)
    have Beln := hide (below_kept Bel.out ka (by omega))
    have WAn := hide (WA.out.kept ka (by omega))
    have S0n := hide (S0.out.kept ka (by omega))
    have T0n := hide (T0.out.kept ka (by omega))
    have W0n := hide (W0.out.kept ka (by omega))
    have O3n := hide (O3.out.keptS ka (by omega))
    have O4n := hide (O4.out.keptS ka (by omega))
    clear Bel WA S0 T0 W0 O3 O4
    have Bel := Beln
    have WA := WAn
    have S0 := S0n
    have T0 := T0n
    have W0 := W0n
    have O3 := O3n
    have O4 := O4n
    clear Beln WAn S0n T0n W0n O3n O4n
    have VA := hide (Blk.new w4 #[.slice (some ⟨g3, 0, none⟩) d.xs.length d.xs.length, .slice (some ⟨g4, 0, none⟩) d.ys.length d.ys.length, .int .i64 d.o, .int .i64 d.p, .int .i64 d.f, .int .i64 d.m, .bool d.s, .bool d.t] 24)
    obtain ⟨X4, hX4⟩ : ∃ X : World, X = w4.alloc (.cells #[.slice (some ⟨g3, 0, none⟩) d.xs.length d.xs.length, .slice (some ⟨g4, 0, none⟩) d.ys.length d.ys.length, .int .i64 d.o, .int .i64 d.p, .int .i64 d.f, .int .i64 d.m, .bool d.s, .bool d.t] 24) := ⟨_, rfl⟩
    have nX4 : w4.heap.size < X4.heap.size := by rw [hX4]; simp
    rw [← hX4] at Bel WA S0 T0 W0 O3 O4 VA
    have r00 := VA.out.cell (i := 0) rfl
    rw [hX4] at r00
    have r01 := VA.out.cell (i := 1) rfl
    rw [hX4] at r01
    have r02 := VA.out.cell (i := 2) rfl
    rw [hX4] at r02
    have r03 := VA.out.cell (i := 3) rfl
    rw [hX4] at r03
    have r04 := VA.out.cell (i := 4) rfl
    rw [hX4] at r04
    have r05 := VA.out.cell (i := 5) rfl
    rw [hX4] at r05
    have r06 := VA.out.cell (i := 6) rfl
    rw [hX4] at r06
    have r07 := VA.out.cell (i := 7) rfl
    rw [hX4] at r07
    go_wp2_with fail
    rw [← hX4]
    clear ka hX4 r00 r01 r02 r03 r04 r05 r06 r07
    refine (implPutData _ d _ _ _ _ z k v (O3.out.came HX.out.2) (O4.out.came HY.out.2) bx bm HWF.out wfz wfk wfv).mono ?_
    rw [HDD.out, HKK.out]
    rintro e w5 ⟨a1, b1, ca1, cb1, rfl, ⟨s, t, hd1⟩, k⟩
    have Beln := hide (below_kept Bel.out k (by omega))
    have WAn := hide (WA.out.kept k (by omega))
    have S0n := hide (S0.out.kept k (by omega))
    have T0n := hide (T0.out.kept k (by omega))
    have W0n := hide (W0.out.kept k (by omega))
    have O3n := hide (O3.out.keptS k (by omega))
    have O4n := hide (O4.out.keptS k (by omega))
    have VAn := hide (VA.out.kept k (by omega))
    clear Bel WA S0 T0 W0 O3 O4 VA
    have Bel := Beln
    have WA := WAn
    have S0 := S0n
    have T0 := T0n
    have W0 := W0n
    have O3 := O3n
    have O4 := O4n
    have VA := VAn
    clear Beln WAn S0n T0n W0n O3n O4n VAn
    have nw5 := k.size
    have S1 := hide s
    have T1 := hide t
    clear k s t
    have HD1 := hide hd1
    clear hd1
    have ka := kept_alloc w5 (.cells #[.slice a1 D.xs.length ca1, .slice b1 D.ys.length cb1, .int .i64 D.o, .int .i64 D.p, .int .i64 D.f, .int .i64 D.m, .bool D.s, .bool D.t] 24)
    have Beln := hide (below_kept Bel.out ka (by omega))
    have WAn := hide (WA.out.kept ka (by omega))
    have S0n := hide (S0.out.kept ka (by omega))
    have T0n := hide (T0.out.kept ka (by omega))
    have W0n := hide (W0.out.kept ka (by omega))
    have O3n := hide (O3.out.keptS ka (by omega))
    have O4n := hide (O4.out.keptS ka (by omega))
    have VAn := hide (VA.out.kept ka (by omega))
    have S1n := hide (S1.out.kept ka (by omega))
    have T1n := hide (T1.out.kept ka (by omega))
    clear Bel WA S0 T0 W0 O3 O4 VA S1 T1
    have Bel := Beln
    have WA := WAn
    have S0 := S0n
    have T0 := T0n
    have W0 := W0n
    have O3 := O3n
    have O4 := O4n
    have VA := VAn
    have S1 := S1n
    have T1 := T1n
    clear Beln WAn S0n T0n W0n O3n O4n VAn S1n T1n
    have W1 := hide (Blk.new w5 #[.slice a1 D.xs.length ca1, .slice b1 D.ys.length cb1, .int .i64 D.o, .int .i64 D.p, .int .i64 D.f, .int .i64 D.m, .bool D.s, .bool D.t] 24)
    obtain ⟨X5, hX5⟩ : ∃ X : World, X = w5.alloc (.cells #[.slice a1 D.xs.length ca1, .slice b1 D.ys.length cb1, .int .i64 D.o, .int .i64 D.p, .int .i64 D.f, .int .i64 D.m, .bool D.s, .bool D.t] 24) := ⟨_, rfl⟩
    have nX5 : w5.heap.size < X5.heap.size := by rw [hX5]; simp
    rw [← hX5] at Bel WA S0 T0 W0 O3 O4 VA S1 T1 W1
    have r00 := W1.out.cell (i := 0) rfl
    rw [hX5] at r00
    have r01 := W1.out.cell (i := 1) rfl
    rw [hX5] at r01
    have r02 := W1.out.cell (i := 2) rfl
    rw [hX5] at r02
    have r03 := W1.out.cell (i := 3) rfl
    rw [hX5] at r03
    have r04 := W1.out.cell (i := 4) rfl
    rw [hX5] at r04
    have r05 := W1.out.cell (i := 5) rfl
    rw [hX5] at r05
    have r06 := W1.out.cell (i := 6) rfl
    rw [hX5] at r06
    have r07 := W1.out.cell (i := 7) rfl
    rw [hX5] at r07
    have r10 := W0.out.cell (i := 0) rfl
    rw [hX5] at r10
    have s10 := (World.cell?_alloc_lt w5 (.cells #[.slice a1 D.xs.length ca1, .slice b1 D.ys.length cb1, .int .i64 D.o, .int .i64 D.p, .int .i64 D.f, .int .i64 D.m, .bool D.s, .bool D.t] 24) ⟨w3.heap.size, 0, none⟩ (by show w3.heap.size < _; omega)).symm.trans r10
    have r11 := W0.out.cell (i := 1) rfl
    rw [hX5] at r11
    have s11 := (World.cell?_alloc_lt w5 (.cells #[.slice a1 D.xs.length ca1, .slice b1 D.ys.length cb1, .int .i64 D.o, .int .i64 D.p, .int .i64 D.f, .int .i64 D.m, .bool D.s, .bool D.t] 24) ⟨w3.heap.size, 1, none⟩ (by show w3.heap.size < _; omega)).symm.trans r11
    have r12 := W0.out.cell (i := 2) rfl
    rw [hX5] at r12
    have s12 := (World.cell?_alloc_lt w5 (.cells #[.slice a1 D.xs.length ca1, .slice b1 D.ys.length cb1, .int .i64 D.o, .int .i64 D.p, .int .i64 D.f, .int .i64 D.m, .bool D.s, .bool D.t] 24) ⟨w3.heap.size, 2, none⟩ (by show w3.heap.size < _; omega)).symm.trans r12
    have r13 := W0.out.cell (i := 3) rfl
    rw [hX5] at r13
    have s13 := (World.cell?_alloc_lt w5 (.cells #[.slice a1 D.xs.length ca1, .slice b1 D.ys.length cb1, .int .i64 D.o, .int .i64 D.p, .int .i64 D.f, .int .i64 D.m, .bool D.s, .bool D.t] 24) ⟨w3.heap.size, 3, none⟩ (by show w3.heap.size < _; omega)).symm.trans r13
    have r14 := W0.out.cell (i := 4) rfl
    rw [hX5] at r14
    have s14 := (World.cell?_alloc_lt w5 (.cells #[.slice a1 D.xs.length ca1, .slice b1 D.ys.length cb1, .int .i64 D.o, .int .i64 D.p, .int .i64 D.f, .int .i64 D.m, .bool D.s, .bool D.t] 24) ⟨w3.heap.size, 4, none⟩ (by show w3.heap.size < _; omega)).symm.trans r14
    have r15 := W0.out.cell (i := 5) rfl
    rw [hX5] at r15
    have s15 := (World.cell?_alloc_lt w5 (.cells #[.slice a1 D.xs.length ca1, .slice b1 D.ys.length cb1, .int .i64 D.o, .int .i64 D.p, .int .i64 D.f, .int .i64 D.m, .bool D.s, .bool D.t] 24) ⟨w3.heap.size, 5, none⟩ (by show w3.heap.size < _; omega)).symm.trans r15
    have r16 := W0.out.cell (i := 6) rfl
    rw [hX5] at r16
    have s16 := (World.cell?_alloc_lt w5 (.cells #[.slice a1 D.xs.length ca1, .slice b1 D.ys.length cb1, .int .i64 D.o, .int .i64 D.p, .int .i64 D.f, .int .i64 D.m, .bool D.s, .bool D.t] 24) ⟨w3.heap.size, 6, none⟩ (by show w3.heap.size < _; omega)).symm.trans r16
    have r17 := W0.out.cell (i := 7) rfl
    rw [hX5] at r17
    have s17 := (World.cell?_alloc_lt w5 (.cells #[.slice a1 D.xs.length ca1, .slice b1 D.ys.length cb1, .int .i64 D.o, .int .i64 D.p, .int .i64 D.f, .int .i64 D.m, .bool D.s, .bool D.t] 24) ⟨w3.heap.size, 7, none⟩ (by show w3.heap.size < _; omega)).symm.trans r17
    go_wp2_with fail
    rw [← hX5]
    clear ka hX5 r00 r01 r02 r03 r04 r05 r06 r07 r10 s10 r11 s11 r12 s12 r13 s13 r14 s14 r15 s15 r16 s16 r17 s17
    refine (eqRegs _ D.o D.p D.f D.m D.s D.t a1 b1 a0 b0 _ _ _ _ D.xs D.ys S1.out.row T1.out.row S0.out.row T0.out.row bD bE).mono ?_
    rintro e w6 ⟨rfl, k⟩
    have Beln := hide (below_kept Bel.out k (by omega))
    have WAn := hide (WA.out.kept k (by omega))
    have S0n := hide (S0.out.kept k (by omega))
    have T0n := hide (T0.out.kept k (by omega))
    have W0n := hide (W0.out.kept k (by omega))
    have O3n := hide (O3.out.keptS k (by omega))
    have O4n := hide (O4.out.keptS k (by omega))
    have VAn := hide (VA.out.kept k (by omega))
    have S1n := hide (S1.out.kept k (by omega))
    have T1n := hide (T1.out.kept k (by omega))
    have W1n := hide (W1.out.kept k (by omega))
    clear Bel WA S0 T0 W0 O3 O4 VA S1 T1 W1
    have Bel := Beln
    have WA := WAn
    have S0 := S0n
    have T0 := T0n
    have W0 := W0n
    have O3 := O3n
    have O4 := O4n
    have VA := VAn
    have S1 := S1n
    have T1 := T1n
    have W1 := W1n
    clear Beln WAn S0n T0n W0n O3n O4n VAn S1n T1n W1n
    have nw6 := k.size
    clear k
    have p00 := WA.out.cell (i := 0) rfl
    have p01 := WA.out.cell (i := 1) rfl
    have p02 := WA.out.cell (i := 2) rfl
    have p03 := WA.out.cell (i := 3) rfl
    have p04 := WA.out.cell (i := 4) rfl
    have p05 := WA.out.cell (i := 5) rfl
    have p06 := WA.out.cell (i := 6) rfl
    have p07 := WA.out.cell (i := 7) rfl
    have p10 := VA.out.cell (i := 0) rfl
    have p11 := VA.out.cell (i := 1) rfl
    have p12 := VA.out.cell (i := 2) rfl
    have p13 := VA.out.cell (i := 3) rfl
    have p14 := VA.out.cell (i := 4) rfl
    have p15 := VA.out.cell (i := 5) rfl
    have p16 := VA.out.cell (i := 6) rfl
    have p17 := VA.out.cell (i := 7) rfl
    go_upto_region 10 with fail
    go_cut [53, 54, 55, 56, 57] (fun _ _ _ _ t wx => t = .bool false ∧ Kept 0 0 w6 wx)
    case first =>
      go_region_with (first | (go_at_call 18; refine (toRegs _ d.o d.p d.f d.m d.s d.t a b ca cb d.xs d.ys (HX.out.below Bel.out.drew).1 (HY.out.below Bel.out.drew).1 bx bm).mono ?_; rintro e w7 ⟨g5, g6, rfl, o5, o6, l7, l8, l9, kd⟩; have k := undrewK kd; have VN := hide (VA.out.kept0 k); have u0 := VN.out.cell (i := 0) rfl; have u1 := VN.out.cell (i := 1) rfl; have u2 := VN.out.cell (i := 2) rfl; have u3 := VN.out.cell (i := 3) rfl; have u4 := VN.out.cell (i := 4) rfl; have u5 := VN.out.cell (i := 5) rfl; have u6 := VN.out.cell (i := 6) rfl; have u7 := VN.out.cell (i := 7) rfl; have P3 := hide (O3.out.keptS k (by omega)); have P4 := hide (O4.out.keptS k (by omega)); have P5 := hide o5; have P6 := hide o6; have K7 := hide k; clear k kd o5 o6) | (go_at_call 13; refine (eqRegs _ d.o d.p d.f d.m d.s d.t _ _ _ _ _ _ _ _ d.xs d.ys P3.out.row P4.out.row P5.out.row P6.out.row bx bm).mono ?_; rintro e w8 ⟨rfl, k⟩; have K8 := hide (K7.out.trans k); clear k))
      all_goals
        go_wp2_with fail
        go_meet
        case rel => exact ⟨rfl, K8.out⟩
    case rest =>
      clear p00 p01 p02 p03 p04 p05 p06 p07 p10 p11 p12 p13 p14 p15 p16 p17
      rename_i wx
      obtain ⟨rfl, k⟩ := hcut
      have Beln := hide (below_kept Bel.out k (by omega))
      have WAn := hide (WA.out.kept k (by omega))
      have S0n := hide (S0.out.kept k (by omega))
      have T0n := hide (T0.out.kept k (by omega))
      have W0n := hide (W0.out.kept k (by omega))
      have O3n := hide (O3.out.keptS k (by omega))
      have O4n := hide (O4.out.keptS k (by omega))
      have VAn := hide (VA.out.kept k (by omega))
      have S1n := hide (S1.out.kept k (by omega))
      have T1n := hide (T1.out.kept k (by omega))
      have W1n := hide (W1.out.kept k (by omega))
      clear Bel WA S0 T0 W0 O3 O4 VA S1 T1 W1
      have Bel := Beln
      have WA := WAn
      have S0 := S0n
      have T0 := T0n
      have W0 := W0n
      have O3 := O3n
      have O4 := O4n
      have VA := VAn
      have S1 := S1n
      have T1 := T1n
      have W1 := W1n
      clear Beln WAn S0n T0n W0n O3n O4n VAn S1n T1n W1n
      have nwx := k.size
      clear k
      have p00 := VA.out.cell (i := 0) rfl
      have p01 := VA.out.cell (i := 1) rfl
      have p02 := VA.out.cell (i := 2) rfl
      have p03 := VA.out.cell (i := 3) rfl
      have p04 := VA.out.cell (i := 4) rfl
      have p05 := VA.out.cell (i := 5) rfl
      have p06 := VA.out.cell (i := 6) rfl
      have p07 := VA.out.cell (i := 7) rfl
      go_wp2_with fail
      clear p00 p01 p02 p03 p04 p05 p06 p07
      refine (markRegs _ X3.heap.size w4.heap.size d.o d.p d.f d.m d.s d.t _ _ _ _ d.xs d.ys 1 (.inr ⟨g3, rfl, l4, by omega, O3.out⟩) (.inr ⟨g4, rfl, by omega, l6, O4.out⟩) (fun g h => by simp [blk] at h ⊢; omega) (by omega) bx bm (by decide) (by decide)).mono ?_
      rintro e w9 ⟨rfl, _, _, k⟩
      clear O3 O4
      have Beln := hide (below_kept Bel.out k (by omega))
      have WAn := hide (WA.out.kept k (by omega))
      have S0n := hide (S0.out.kept k (by omega))
      have T0n := hide (T0.out.kept k (by omega))
      have W0n := hide (W0.out.kept k (by omega))
      have VAn := hide (VA.out.kept k (by omega))
      have S1n := hide (S1.out.kept k (by omega))
      have T1n := hide (T1.out.kept k (by omega))
      have W1n := hide (W1.out.kept k (by omega))
      clear Bel WA S0 T0 W0 VA S1 T1 W1
      have Bel := Beln
      have WA := WAn
      have S0 := S0n
      have T0 := T0n
      have W0 := W0n
      have VA := VAn
      have S1 := S1n
      have T1 := T1n
      have W1 := W1n
      clear Beln WAn S0n T0n W0n VAn S1n T1n W1n
      have n9 := k.size
      clear k
      have p00 := W1.out.cell (i := 0) rfl
      have p01 := W1.out.cell (i := 1) rfl
      have p02 := W1.out.cell (i := 2) rfl
      have p03 := W1.out.cell (i := 3) rfl
      have p04 := W1.out.cell (i := 4) rfl
      have p05 := W1.out.cell (i := 5) rfl
      have p06 := W1.out.cell (i := 6) rfl
      have p07 := W1.out.cell (i := 7) rfl
      have p10 := W0.out.cell (i := 0) rfl
      have p11 := W0.out.cell (i := 1) rfl
      have p12 := W0.out.cell (i := 2) rfl
      have p13 := W0.out.cell (i := 3) rfl
      have p14 := W0.out.cell (i := 4) rfl
      have p15 := W0.out.cell (i := 5) rfl
      have p16 := W0.out.cell (i := 6) rfl
      have p17 := W0.out.cell (i := 7) rfl
      go_wp2_with fail
      clear p00 p01 p02 p03 p04 p05 p06 p07 p10 p11 p12 p13 p14 p15 p16 p17
      refine (eqRegs _ D.o D.p D.f D.m D.s D.t a1 b1 a0 b0 _ _ _ _ D.xs D.ys S1.out.row T1.out.row S0.out.row T0.out.row bD bE).mono ?_
      rintro e w10 ⟨rfl, k⟩
      have Beln := hide (below_kept Bel.out k (by omega))
      have WAn := hide (WA.out.kept k (by omega))
      have S0n := hide (S0.out.kept k (by omega))
      have T0n := hide (T0.out.kept k (by omega))
      have W0n := hide (W0.out.kept k (by omega))
      have VAn := hide (VA.out.kept k (by omega))
      have S1n := hide (S1.out.kept k (by omega))
      have T1n := hide (T1.out.kept k (by omega))
      have W1n := hide (W1.out.kept k (by omega))
      clear Bel WA S0 T0 W0 VA S1 T1 W1
      have Bel := Beln
      have WA := WAn
      have S0 := S0n
      have T0 := T0n
      have W0 := W0n
      have VA := VAn
      have S1 := S1n
      have T1 := T1n
      have W1 := W1n
      clear Beln WAn S0n T0n W0n VAn S1n T1n W1n
      have nw10 := k.size
      clear k
      have p00 := W1.out.cell (i := 0) rfl
      have p01 := W1.out.cell (i := 1) rfl
      have p02 := W1.out.cell (i := 2) rfl
      have p03 := W1.out.cell (i := 3) rfl
      have p04 := W1.out.cell (i := 4) rfl
      have p05 := W1.out.cell (i := 5) rfl
      have p06 := W1.out.cell (i := 6) rfl
      have p07 := W1.out.cell (i := 7) rfl
      go_wp2_with fail
      clear p00 p01 p02 p03 p04 p05 p06 p07
      refine (markRegs _ X4.heap.size w5.heap.size D.o D.p D.f D.m D.s D.t a1 b1 _ _ D.xs D.ys 1 S1.out T1.out HD1.out (by omega) bD bE (by decide) (by decide)).mono ?_
      rintro e w11 ⟨rfl, s, t, k⟩
      clear S1 T1
      have Beln := hide (below_kept Bel.out k (by omega))
      have WAn := hide (WA.out.kept k (by omega))
      have S0n := hide (S0.out.kept k (by omega))
      have T0n := hide (T0.out.kept k (by omega))
      have W0n := hide (W0.out.kept k (by omega))
      have VAn := hide (VA.out.kept k (by omega))
      have W1n := hide (W1.out.kept k (by omega))
      clear Bel WA S0 T0 W0 VA W1
      have Bel := Beln
      have WA := WAn
      have S0 := S0n
      have T0 := T0n
      have W0 := W0n
      have VA := VAn
      have W1 := W1n
      clear Beln WAn S0n T0n W0n VAn W1n
      have M1 := hide s
      have M2 := hide t
      have n11 := k.size
      clear k s t
      have p00 := W1.out.cell (i := 0) rfl
      have p01 := W1.out.cell (i := 1) rfl
      have p02 := W1.out.cell (i := 2) rfl
      have p03 := W1.out.cell (i := 3) rfl
      have p04 := W1.out.cell (i := 4) rfl
      have p05 := W1.out.cell (i := 5) rfl
      have p06 := W1.out.cell (i := 6) rfl
      have p07 := W1.out.cell (i := 7) rfl
      go_wp2_with fail
      clear p00 p01 p02 p03 p04 p05 p06 p07
      refine (heldRegs _ D.o D.p D.f D.m D.s D.t a1 b1 _ _ D.xs.length D.ys.length 1 M1.out.row M2.out.row bD bE (by decide) (by decide)).mono ?_
      rintro e w12 ⟨rfl, k⟩
      have Beln := hide (below_kept Bel.out k (by omega))
      have WAn := hide (WA.out.kept k (by omega))
      have S0n := hide (S0.out.kept k (by omega))
      have T0n := hide (T0.out.kept k (by omega))
      have W0n := hide (W0.out.kept k (by omega))
      have VAn := hide (VA.out.kept k (by omega))
      have W1n := hide (W1.out.kept k (by omega))
      have M1n := hide (M1.out.kept k (by omega))
      have M2n := hide (M2.out.kept k (by omega))
      clear Bel WA S0 T0 W0 VA W1 M1 M2
      have Bel := Beln
      have WA := WAn
      have S0 := S0n
      have T0 := T0n
      have W0 := W0n
      have VA := VAn
      have W1 := W1n
      have M1 := M1n
      have M2 := M2n
      clear Beln WAn S0n T0n W0n VAn W1n M1n M2n
      have nw12 := k.size
      clear k
      have p00 := WA.out.cell (i := 0) rfl
      have p01 := WA.out.cell (i := 1) rfl
      have p02 := WA.out.cell (i := 2) rfl
      have p03 := WA.out.cell (i := 3) rfl
      have p04 := WA.out.cell (i := 4) rfl
      have p05 := WA.out.cell (i := 5) rfl
      have p06 := WA.out.cell (i := 6) rfl
      have p07 := WA.out.cell (i := 7) rfl
      go_wp2_with fail
      clear p00 p01 p02 p03 p04 p05 p06 p07
      refine (toRegs _ d.o d.p d.f d.m d.s d.t a b ca cb d.xs d.ys (HX.out.below Bel.out).1 (HY.out.below Bel.out).1 bx bm).mono ?_
      rintro e w13 ⟨g7, g8, rfl, o, o2, l10, l11, l12, k⟩
      have Beln := hide (below_kept Bel.out k (by omega))
      have WAn := hide (WA.out.kept k (by omega))
      have S0n := hide (S0.out.kept k (by omega))
      have T0n := hide (T0.out.kept k (by omega))
      have W0n := hide (W0.out.kept k (by omega))
      have VAn := hide (VA.out.kept k (by omega))
      have W1n := hide (W1.out.kept k (by omega))
      have M1n := hide (M1.out.kept k (by omega))
      have M2n := hide (M2.out.kept k (by omega))
      clear Bel WA S0 T0 W0 VA W1 M1 M2
      have Bel := Beln
      have WA := WAn
      have S0 := S0n
      have T0 := T0n
      have W0 := W0n
      have VA := VAn
      have W1 := W1n
      have M1 := M1n
      have M2 := M2n
      clear Beln WAn S0n T0n W0n VAn W1n M1n M2n
      have O5 := hide o
      have O6 := hide o2
      clear o o2 k
      go_wp2_with fail
      refine (implPutData _ d _ _ _ _ z k v (O5.out.came HX.out.2) (O6.out.came HY.out.2) bx bm HWF.out wfz wfk wfv).mono ?_
      rw [HDD.out, HKK.out]
      rintro e w14 ⟨a2, b2, ca2, cb2, rfl, ⟨s, t, hd2⟩, k⟩
      have Beln := hide (below_kept Bel.out k (by omega))
      have WAn := hide (WA.out.kept k (by omega))
      have S0n := hide (S0.out.kept k (by omega))
      have T0n := hide (T0.out.kept k (by omega))
      have W0n := hide (W0.out.kept k (by omega))
      have VAn := hide (VA.out.kept k (by omega))
      have W1n := hide (W1.out.kept k (by omega))
      have M1n := hide (M1.out.kept k (by omega))
      have M2n := hide (M2.out.kept k (by omega))
      have O5n := hide (O5.out.keptS k (by omega))
      have O6n := hide (O6.out.keptS k (by omega))
      clear Bel WA S0 T0 W0 VA W1 M1 M2 O5 O6
      have Bel := Beln
      have WA := WAn
      have S0 := S0n
      have T0 := T0n
      have W0 := W0n
      have VA := VAn
      have W1 := W1n
      have M1 := M1n
      have M2 := M2n
      have O5 := O5n
      have O6 := O6n
      clear Beln WAn S0n T0n W0n VAn W1n M1n M2n O5n O6n
      have nw14 := k.size
      have S2 := hide s
      have T2 := hide t
      clear k s t
      clear hd2
      clear O5 O6
      have ka := kept_alloc w14 (.cells #[.slice a2 D.xs.length ca2, .slice b2 D.ys.length cb2, .int .i64 D.o, .int .i64 D.p, .int .i64 D.f, .int .i64 D.m, .bool D.s, .bool D.t] 24)
      have Beln := hide (below_kept Bel.out ka (by omega))
      have WAn := hide (WA.out.kept ka (by omega))
      have S0n := hide (S0.out.kept ka (by omega))
      have T0n := hide (T0.out.kept ka (by omega))
      have W0n := hide (W0.out.kept ka (by omega))
      have VAn := hide (VA.out.kept ka (by omega))
      have W1n := hide (W1.out.kept ka (by omega))
      have M1n := hide (M1.out.kept ka (by omega))
      have M2n := hide (M2.out.kept ka (by omega))
      have S2n := hide (S2.out.kept ka (by omega))
      have T2n := hide (T2.out.kept ka (by omega))
      clear Bel WA S0 T0 W0 VA W1 M1 M2 S2 T2
      have Bel := Beln
      have WA := WAn
      have S0 := S0n
      have T0 := T0n
      have W0 := W0n
      have VA := VAn
      have W1 := W1n
      have M1 := M1n
      have M2 := M2n
      have S2 := S2n
      have T2 := T2n
      clear Beln WAn S0n T0n W0n VAn W1n M1n M2n S2n T2n
      have W2 := hide (Blk.new w14 #[.slice a2 D.xs.length ca2, .slice b2 D.ys.length cb2, .int .i64 D.o, .int .i64 D.p, .int .i64 D.f, .int .i64 D.m, .bool D.s, .bool D.t] 24)
      obtain ⟨X14, hX14⟩ : ∃ X : World, X = w14.alloc (.cells #[.slice a2 D.xs.length ca2, .slice b2 D.ys.length cb2, .int .i64 D.o, .int .i64 D.p, .int .i64 D.f, .int .i64 D.m, .bool D.s, .bool D.t] 24) := ⟨_, rfl⟩
      have nX14 : w14.heap.size < X14.heap.size := by rw [hX14]; simp
      rw [← hX14] at Bel WA S0 T0 W0 VA W1 M1 M2 S2 T2 W2
      have r00 := W2.out.cell (i := 0) rfl
      rw [hX14] at r00
      have r01 := W2.out.cell (i := 1) rfl
      rw [hX14] at r01
      have r02 := W2.out.cell (i := 2) rfl
      rw [hX14] at r02
      have r03 := W2.out.cell (i := 3) rfl
      rw [hX14] at r03
      have r04 := W2.out.cell (i := 4) rfl
      rw [hX14] at r04
      have r05 := W2.out.cell (i := 5) rfl
      rw [hX14] at r05
      have r06 := W2.out.cell (i := 6) rfl
      rw [hX14] at r06
      have r07 := W2.out.cell (i := 7) rfl
      rw [hX14] at r07
      have r10 := W0.out.cell (i := 0) rfl
      rw [hX14] at r10
      have s10 := (World.cell?_alloc_lt w14 (.cells #[.slice a2 D.xs.length ca2, .slice b2 D.ys.length cb2, .int .i64 D.o, .int .i64 D.p, .int .i64 D.f, .int .i64 D.m, .bool D.s, .bool D.t] 24) ⟨w3.heap.size, 0, none⟩ (by show w3.heap.size < _; omega)).symm.trans r10
      have r11 := W0.out.cell (i := 1) rfl
      rw [hX14] at r11
      have s11 := (World.cell?_alloc_lt w14 (.cells #[.slice a2 D.xs.length ca2, .slice b2 D.ys.length cb2, .int .i64 D.o, .int .i64 D.p, .int .i64 D.f, .int .i64 D.m, .bool D.s, .bool D.t] 24) ⟨w3.heap.size, 1, none⟩ (by show w3.heap.size < _; omega)).symm.trans r11
      have r12 := W0.out.cell (i := 2) rfl
      rw [hX14] at r12
      have s12 := (World.cell?_alloc_lt w14 (.cells #[.slice a2 D.xs.length ca2, .slice b2 D.ys.length cb2, .int .i64 D.o, .int .i64 D.p, .int .i64 D.f, .int .i64 D.m, .bool D.s, .bool D.t] 24) ⟨w3.heap.size, 2, none⟩ (by show w3.heap.size < _; omega)).symm.trans r12
      have r13 := W0.out.cell (i := 3) rfl
      rw [hX14] at r13
      have s13 := (World.cell?_alloc_lt w14 (.cells #[.slice a2 D.xs.length ca2, .slice b2 D.ys.length cb2, .int .i64 D.o, .int .i64 D.p, .int .i64 D.f, .int .i64 D.m, .bool D.s, .bool D.t] 24) ⟨w3.heap.size, 3, none⟩ (by show w3.heap.size < _; omega)).symm.trans r13
      have r14 := W0.out.cell (i := 4) rfl
      rw [hX14] at r14
      have s14 := (World.cell?_alloc_lt w14 (.cells #[.slice a2 D.xs.length ca2, .slice b2 D.ys.length cb2, .int .i64 D.o, .int .i64 D.p, .int .i64 D.f, .int .i64 D.m, .bool D.s, .bool D.t] 24) ⟨w3.heap.size, 4, none⟩ (by show w3.heap.size < _; omega)).symm.trans r14
      have r15 := W0.out.cell (i := 5) rfl
      rw [hX14] at r15
      have s15 := (World.cell?_alloc_lt w14 (.cells #[.slice a2 D.xs.length ca2, .slice b2 D.ys.length cb2, .int .i64 D.o, .int .i64 D.p, .int .i64 D.f, .int .i64 D.m, .bool D.s, .bool D.t] 24) ⟨w3.heap.size, 5, none⟩ (by show w3.heap.size < _; omega)).symm.trans r15
      have r16 := W0.out.cell (i := 6) rfl
      rw [hX14] at r16
      have s16 := (World.cell?_alloc_lt w14 (.cells #[.slice a2 D.xs.length ca2, .slice b2 D.ys.length cb2, .int .i64 D.o, .int .i64 D.p, .int .i64 D.f, .int .i64 D.m, .bool D.s, .bool D.t] 24) ⟨w3.heap.size, 6, none⟩ (by show w3.heap.size < _; omega)).symm.trans r16
      have r17 := W0.out.cell (i := 7) rfl
      rw [hX14] at r17
      have s17 := (World.cell?_alloc_lt w14 (.cells #[.slice a2 D.xs.length ca2, .slice b2 D.ys.length cb2, .int .i64 D.o, .int .i64 D.p, .int .i64 D.f, .int .i64 D.m, .bool D.s, .bool D.t] 24) ⟨w3.heap.size, 7, none⟩ (by show w3.heap.size < _; omega)).symm.trans r17
      go_wp2_with fail
      rw [← hX14]
      clear ka hX14 r00 r01 r02 r03 r04 r05 r06 r07 r10 s10 r11 s11 r12 s12 r13 s13 r14 s14 r15 s15 r16 s16 r17 s17
      refine (eqRegs _ D.o D.p D.f D.m D.s D.t a2 b2 a0 b0 _ _ _ _ D.xs D.ys S2.out.row T2.out.row S0.out.row T0.out.row bD bE).mono ?_
      rintro e w15 ⟨rfl, k⟩
      have Beln := hide (below_kept Bel.out k (by omega))
      have WAn := hide (WA.out.kept k (by omega))
      have S0n := hide (S0.out.kept k (by omega))
      have T0n := hide (T0.out.kept k (by omega))
      have W0n := hide (W0.out.kept k (by omega))
      have VAn := hide (VA.out.kept k (by omega))
      have W1n := hide (W1.out.kept k (by omega))
      have M1n := hide (M1.out.kept k (by omega))
      have M2n := hide (M2.out.kept k (by omega))
      have S2n := hide (S2.out.kept k (by omega))
      have T2n := hide (T2.out.kept k (by omega))
      have W2n := hide (W2.out.kept k (by omega))
      clear Bel WA S0 T0 W0 VA W1 M1 M2 S2 T2 W2
      have Bel := Beln
      have WA := WAn
      have S0 := S0n
      have T0 := T0n
      have W0 := W0n
      have VA := VAn
      have W1 := W1n
      have M1 := M1n
      have M2 := M2n
      have S2 := S2n
      have T2 := T2n
      have W2 := W2n
      clear Beln WAn S0n T0n W0n VAn W1n M1n M2n S2n T2n W2n
      have nw15 := k.size
      clear k
      have p00 := W1.out.cell (i := 0) rfl
      have p01 := W1.out.cell (i := 1) rfl
      have p02 := W1.out.cell (i := 2) rfl
      have p03 := W1.out.cell (i := 3) rfl
      have p04 := W1.out.cell (i := 4) rfl
      have p05 := W1.out.cell (i := 5) rfl
      have p06 := W1.out.cell (i := 6) rfl
      have p07 := W1.out.cell (i := 7) rfl
      go_wp2_with fail
      clear p00 p01 p02 p03 p04 p05 p06 p07
      refine (heldRegs _ D.o D.p D.f D.m D.s D.t a1 b1 _ _ D.xs.length D.ys.length 1 M1.out.row M2.out.row bD bE (by decide) (by decide)).mono ?_
      rintro e w16 ⟨rfl, k⟩
      have Beln := hide (below_kept Bel.out k (by omega))
      have WAn := hide (WA.out.kept k (by omega))
      have S0n := hide (S0.out.kept k (by omega))
      have T0n := hide (T0.out.kept k (by omega))
      have W0n := hide (W0.out.kept k (by omega))
      have VAn := hide (VA.out.kept k (by omega))
      have W1n := hide (W1.out.kept k (by omega))
      have M1n := hide (M1.out.kept k (by omega))
      have M2n := hide (M2.out.kept k (by omega))
      have S2n := hide (S2.out.kept k (by omega))
      have T2n := hide (T2.out.kept k (by omega))
      have W2n := hide (W2.out.kept k (by omega))
      clear Bel WA S0 T0 W0 VA W1 M1 M2 S2 T2 W2
      have Bel := Beln
      have WA := WAn
      have S0 := S0n
      have T0 := T0n
      have W0 := W0n
      have VA := VAn
      have W1 := W1n
      have M1 := M1n
      have M2 := M2n
      have S2 := S2n
      have T2 := T2n
      have W2 := W2n
      clear Beln WAn S0n T0n W0n VAn W1n M1n M2n S2n T2n W2n
      have nw16 := k.size
      clear k
      go_wp2_with fail
      go_ret
      exact ⟨rfl, Bel.out⟩
end Go.Proofs.Ytikmelkobbbgnaa
