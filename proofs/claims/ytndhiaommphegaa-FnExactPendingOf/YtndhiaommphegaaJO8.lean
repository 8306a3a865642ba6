/- The law on PendingOf: of whatever arguments, its Go function returns true, and no block that was there has turned. A processor that came in to a law, opened: four lists that lie in memory, the accesses spoken of as the row of their numbers. A processor with its line that came in to a law, opened. -/
import Derived.Test.YtndhiaommphegaaJO6
import Derived.Test.YtndhiaommphegaaJO2
import Derived.Test.YtndhiaommphegaaJO7
import Derived.Deep.DeepCutAuto
import Derived.Test.YtndhiaommphegaaJO1
import Derived.Lib.SmallJoins
import Derived.Deep.Slices
import Derived.ProofKit
import Derived.OpenShut
namespace Go.Proofs.Ytndhiaommphegaa
open Go.RowKit
set_option linter.unusedVariables false
set_option maxRecDepth 100000 in
set_option maxHeartbeats 16000000 in
theorem lawPendingOf (d : Pl.Iq) (a b e q : Option Addr) (ca cb ce cq : Nat) (w : World) (hx : Came w a d.c.r.xs) (hy : Came w b d.c.r.ys) (hz : Came w e d.c.bx) (hq : Came w q d.c.bl) (lx : d.c.r.xs.length ≤ 9223372036854775807) (ly : d.c.r.ys.length ≤ 9223372036854775807) (lz : d.c.bx.length ≤ 9223372036854775807) (lm : d.c.bm ≤ 9223372036854775807) (ll : d.c.bl.length = 5 * d.c.bm) (wfd : Pl.WfR d.c.r) (wfl : (Lit.int .i64 d.l).wf = true) :
    Calls Try.prog 6 #[.agg (irA d a b e q ca cb ce cq)] w fun e w' => e = .returned (.bool true) ∧ Below w.heap.size w w' := by
  have HX := hide hx
  have HY := hide hy
  have HZ := hide hz
  have HQ := hide hq
  have HWF := hide wfd
  have HLL := hide ll
  have Bel := hide (kept_alloc w (.cells (irA d a b e q ca cb ce cq) 48)).below
  have WA := hide (Blk.new w (irA d a b e q ca cb ce cq) 48)
  obtain ⟨X0, hX0⟩ : ∃ X : World, w.alloc (.cells (irA d a b e q ca cb ce cq) 48) = X := ⟨_, rfl⟩
  have nX0 : X0.heap.size = w.heap.size + 1 := by simp [← hX0]
  rw [hX0] at Bel WA
  clear hx hy hz hq wfd ll
  by_cases hs : szC d.c.r.xs.length d.c.r.ys.length d.c.bx.length d.c.bm 1048576 < 0
  · have HSZ := hide hs
    go_enter Try.func6, Try.ntmps6
    have p0 := WA.out.all
    go_wp2_with fail
    refine (szIrq _ d a b e q ca cb ce cq 1048576 lx ly lz lm (by decide) (by decide)).mono ?_
    rintro e9 w1 ⟨⟨sv, rfl, hsv⟩, k⟩
    have ds : sv < 0 := hsv.2 (by have h2 := HSZ.out; omega)
    clear hsv
    have Bn := hide (below_kept Bel.out k (by omega))
    clear k
    go_wp2_with fail
    go_ret
    exact ⟨rfl, Bn.out⟩
  · have HSZ := hide hs
    have hb := szC_neg hs
    have bx : d.c.r.xs.length ≤ 2000000 := by omega
    have by_ : d.c.r.ys.length ≤ 2000000 := by omega
    have bz : d.c.bx.length ≤ 2000000 := by omega
    have bm : d.c.bm ≤ 2000000 := by omega
    clear hb
    generalize hVV : Pl.poV d = V
    generalize hKK : Pl.iqOk d = K
    have HVV := hide hVV
    have HKK := hide hKK
    clear hVV hKK
    go_enter Try.func6, Try.ntmps6
    have p0 := WA.out.all
    go_wp2_with fail
    clear p0
    refine (szIrq _ d a b e q ca cb ce cq 1048576 lx ly lz lm (by decide) (by decide)).mono ?_
    rintro e9 w1 ⟨⟨sv, rfl, hsv⟩, k⟩
    have ds : ¬ sv < 0 := fun h => by have h1 := hsv.1 h; have h2 := HSZ.out; omega
    clear hsv
    replace Bel := hide (below_kept Bel.out k (by omega))
    replace WA := hide (WA.out.kept k (by omega))
    have nw1 := k.size
    clear k
    clear hX0 hs
    have p0 := WA.out.all
    go_wp2_with fail
    clear p0 ds
    refine (toIrq _ d a b e q ca cb ce cq (HX.out.below Bel.out).1 (HY.out.below Bel.out).1 (HZ.out.below Bel.out).1 (HQ.out.below Bel.out).1 bx by_ bz HLL.out bm).mono ?_
    rintro e9 w2 ⟨g1, g2, g3, g4, rfl, hs9, k⟩
    replace Bel := hide (below_kept Bel.out k (by omega))
    replace WA := hide (WA.out.kept k (by omega))
    have nw2 := k.size
    have O1 := hide hs9
    clear k hs9
    go_wp2_with fail
    refine (specPendingOf _ d _ _ _ _ _ _ _ _ O1.out.d.row O1.out.a'.row O1.out.b'.row O1.out.l.row bx by_ bz HLL.out bm).mono ?_
    rw [HVV.out, HKK.out]
    rintro e9 w3 ⟨rfl, k⟩
    replace Bel := hide (below_kept Bel.out k (by omega))
    replace WA := hide (WA.out.kept k (by omega))
    replace O1 := hide (O1.out.kept k (by omega))
    have nw3 := k.size
    clear k
    clear O1
    have p0 := WA.out.all
    go_wp2_with fail
    clear p0
    refine (toIrq _ d a b e q ca cb ce cq (HX.out.below Bel.out).1 (HY.out.below Bel.out).1 (HZ.out.below Bel.out).1 (HQ.out.below Bel.out).1 bx by_ bz HLL.out bm).mono ?_
    rintro e9 w4 ⟨g5, g6, g7, g8, rfl, hs9, k⟩
    replace Bel := hide (below_kept Bel.out k (by omega))
    replace WA := hide (WA.out.kept k (by omega))
    have nw4 := k.size
    have O3 := hide hs9
    clear k hs9
    have k : Kept 0 0 w4 (w4.alloc (.cells (irA d (some ⟨g5, 0, none⟩) (some ⟨g6, 0, none⟩) (some ⟨g7, 0, none⟩) (some ⟨g8, 0, none⟩) d.c.r.xs.length d.c.r.ys.length d.c.bx.length d.c.bm) 38)) := kept_alloc w4 _
    replace Bel := hide (below_kept Bel.out k (by omega))
    replace WA := hide (WA.out.kept k (by omega))
    replace O3 := hide (O3.out.kept k (by omega))
    have VA := hide (Blk.new w4 (irA d (some ⟨g5, 0, none⟩) (some ⟨g6, 0, none⟩) (some ⟨g7, 0, none⟩) (some ⟨g8, 0, none⟩) d.c.r.xs.length d.c.r.ys.length d.c.bx.length d.c.bm) 38)
    obtain ⟨X4, hX4⟩ : ∃ X : World, (w4.alloc (.cells (irA d (some ⟨g5, 0, none⟩) (some ⟨g6, 0, none⟩) (some ⟨g7, 0, none⟩) (some ⟨g8, 0, none⟩) d.c.r.xs.length d.c.r.ys.length d.c.bx.length d.c.bm) 38)) = X := ⟨_, rfl⟩
    have nX4 : X4.heap.size = w4.heap.size + 1 := by simp [← hX4]
    rw [hX4] at Bel WA O3 VA
    clear k
    have p0 := VA.out.all
    go_wp2_with fail
    clear p0 hX4
    refine (implPendingOf _ d _ _ _ _ _ _ _ _ ⟨O3.out.d.row, HX.out.2⟩ ⟨O3.out.a'.row, HY.out.2⟩ ⟨O3.out.b'.row, HZ.out.2⟩ ⟨O3.out.l.row, HQ.out.2⟩ bx by_ bz HLL.out bm HWF.out).mono ?_
    rw [HVV.out, HKK.out]
    rintro e9 w5 ⟨rfl, k⟩
    replace Bel := hide (below_kept Bel.out k (by omega))
    replace WA := hide (WA.out.kept k (by omega))
    replace O3 := hide (O3.out.kept k (by omega))
    replace VA := hide (VA.out.kept k (by omega))
    have nw5 := k.size
    clear k
    have p0 := WA.out.all
    have p1 := VA.out.all
    go_upto_region 10 with fail
    go_cut [35, 36, 37, 38, 39] (fun _ _ _ _ t wx => t = .bool false ∧ Kept 0 0 w5 wx)
    case first =>
      as_aux_lemma =>
        go_region_with (first | (go_at_call 18; refine (toIrq _ d a b e q ca cb ce cq (HX.out.below Bel.out.drew).1 (HY.out.below Bel.out.drew).1 (HZ.out.below Bel.out.drew).1 (HQ.out.below Bel.out.drew).1 bx by_ bz HLL.out bm).mono ?_; rintro e9 w7 ⟨g9, g10, g11, g12, rfl, hs9, kd⟩; have k := undrewK kd; have u := (VA.out.kept0 k).all; have P3 := hide (O3.out.kept k (by omega)); have P5 := hide hs9; have K7 := hide k; clear k kd hs9) | (go_at_call 11; refine (eqIrq _ d _ _ _ _ _ _ _ _ _ _ _ _ _ _ _ _ P3.out.d.row P3.out.a'.row P3.out.b'.row P3.out.l.row P5.out.d.row P5.out.a'.row P5.out.b'.row P5.out.l.row bx by_ bz HLL.out bm).mono ?_; rintro e9 w8 ⟨rfl, k⟩; have K8 := hide (K7.out.trans k); clear k))
        all_goals
          go_wp2_with fail
          go_meet
          case rel => exact ⟨rfl, K8.out⟩
    case rest =>
      as_aux_lemma =>
        clear p0 p1
        rename_i wx
        obtain ⟨rfl, k⟩ := hcut
        replace Bel := hide (below_kept Bel.out k (by omega))
        replace WA := hide (WA.out.kept k (by omega))
        replace O3 := hide (O3.out.kept k (by omega))
        replace VA := hide (VA.out.kept k (by omega))
        have nwx := k.size
        clear k
        go_wp2_with fail
        go_ret
        exact ⟨rfl, Bel.out⟩
end Go.Proofs.Ytndhiaommphegaa

namespace Go.Proofs.Ytndhiaommphegaa
open Go.RowKit Go.WideShapes Go.ChangeShapes Go.ChangeAt
set_option linter.unusedVariables false
set_option linter.unusedSimpArgs false

theorem Try.cellsInt : Try.prog.cellsOf 3 = 1 := by kernel_rfl
theorem Try.cellsAcc : Try.prog.cellsOf 107 = 5 := by kernel_rfl
theorem Try.cellsBus : Try.prog.cellsOf 27 = 2 := by kernel_rfl
theorem Try.cellsBool : Try.prog.cellsOf 4 = 1 := by kernel_rfl
theorem Try.cellsInts : Try.prog.cellsOf 22 = 1 := by kernel_rfl
theorem Try.cellsAccs : Try.prog.cellsOf 25 = 1 := by kernel_rfl
theorem Try.cellsRegs : Try.prog.cellsOf 24 = 8 := by kernel_rfl
theorem Try.cellsCpu : Try.prog.cellsOf 29 = 12 := by kernel_rfl


/-- from numbers at each place to the row of them -/
theorem Addr.add_add_own (a : Addr) (i j : Nat) : (a.add i).add j = a.add (i + j) := by
  unfold Addr.add
  by_cases hi : i = 0 <;> by_cases hj : j = 0 <;> simp [hi, hj, Nat.add_assoc]
set_option maxRecDepth 100000 in
theorem came_of {w : World} {x : Addr} {n : Nat} (h : ∀ i, i < n → ∃ z : Int, w.cell? (x.add i) = some (iv z) ∧ (Lit.int .i64 z).wf = true) : ∃ xs : List Int, xs.length = n ∧ Came w (some x) xs := by
  obtain ⟨f, hf⟩ := Go.Deep.choose_lt h
  refine ⟨(List.range n).map f, by simp, ?_, ?_⟩
  · intro i hi
    have hi' : i < n := by simpa using hi
    obtain ⟨g, off, spot⟩ := x
    have hspot : spot = none := by simpa [Addr.add] using World.cell?_spot (hf 0 (by omega)).1
    subst hspot
    refine ⟨g, off, rfl, ?_⟩
    have hc := (hf i hi').1
    by_cases h0 : i = 0
    · subst h0; simpa [Addr.add, hi'] using hc
    · simpa [Addr.add, h0, hi'] using hc
  · intro i hi
    have hi' : i < n := by simpa using hi
    have := bounds_i64 (hf i hi').2
    simpa [hi'] using this

section
variable {H : Type} {enc : TypeId × Value → H} {w : World} {base : Nat} {spare : Nat → Bool} {held : Bool}

set_option maxRecDepth 100000 in
theorem open_intRow {fuel : Nat} {v : Value} {y : DataW H × List MemPlace} (h : DataW.trod enc Try.prog w base spare held fuel 22 [v] = some y) :
    ∃ (a : Option Addr) (cap : Nat) (xs : List Int), v = .slice a xs.length cap ∧ Came w a xs ∧ xs.length ≤ maxLen := by
  rcases open_ints Try.underlying22 Try.underlying3 Try.cellsInt h with ⟨hc, _⟩ | ⟨x, len, cap, zs, hc, _, hl, hm, hz, _, hcell, hwz⟩
  · simp at hc
    exact ⟨none, 0, [], hc, ⟨fun i hi => absurd hi (Nat.not_lt_zero i), fun i hi => absurd hi (Nat.not_lt_zero i)⟩, Nat.zero_le _⟩
  · simp at hc
    have hlen : len ≤ zs.length := by rw [hz]; split <;> omega
    obtain ⟨xs, rfl, hx⟩ := came_of (w := w) (x := x) (n := len) (fun i hi => ⟨zs.getD i 0, hcell i (by omega), hwz _ (by
      have : i < zs.length := by omega
      simp [List.getD, this])⟩)
    exact ⟨some x, cap, xs, hc, hx, by omega⟩

set_option maxRecDepth 100000 in
theorem open_accRow {fuel : Nat} {v : Value} {y : DataW H × List MemPlace} (h : DataW.trod enc Try.prog w base spare held fuel 25 [v] = some y) :
    ∃ (a : Option Addr) (m cap : Nat) (ys : List Int), v = .slice a m cap ∧ Came w a ys ∧ ys.length = 5 * m ∧ m ≤ maxLen := by
  rcases Go.Deep.open_slice Try.underlying25 h with ⟨hc, _⟩ | ⟨x, len, cap, m, n, D, Pl, hc, _, hl, hm, hmm, _, hel⟩
  · simp at hc
    exact ⟨none, 0, 0, [], hc, ⟨fun i hi => absurd hi (Nat.not_lt_zero i), fun i hi => absurd hi (Nat.not_lt_zero i)⟩, rfl, Nat.zero_le _⟩
  · simp at hc
    have hlen : len ≤ m := by rw [hmm]; split <;> omega
    obtain ⟨ys, hy, hx⟩ := came_of (w := w) (x := x) (n := 5 * len) (by
      intro i hi
      obtain ⟨cs', h1, h2⟩ := hel (i / 5) (by omega)
      rw [Try.cellsAcc] at h1
      obtain ⟨_, hl5, hcs⟩ := World.cells?_some h1
      obtain ⟨zs, k, _, _, _, hzl, hf⟩ := DataW.trod_struct Try.underlying107 h2
      have hget := hcs (i % 5) (by omega)
      rw [Addr.add_add_own, show i / 5 * 5 + i % 5 = i from by omega] at hget
      rw [hget]
      obtain ⟨c0, c1, c2, c3, c4, rfl⟩ : ∃ c0 c1 c2 c3 c4, cs' = [c0, c1, c2, c3, c4] := by
        match cs', hl5 with
        | [c0, c1, c2, c3, c4], _ => exact ⟨c0, c1, c2, c3, c4, rfl⟩
      obtain ⟨z0, z1, z2, z3, z4, rfl⟩ : ∃ z0 z1 z2 z3 z4, zs = [z0, z1, z2, z3, z4] := by
        match zs, hzl with
        | [z0, z1, z2, z3, z4], _ => exact ⟨z0, z1, z2, z3, z4, rfl⟩
      have t0 := hf 0 _ rfl
      have t1 := hf 1 _ rfl
      have t2 := hf 2 _ rfl
      have t3 := hf 3 _ rfl
      have t4 := hf 4 _ rfl
      simp [Try.cellsInt] at t0 t1 t2 t3 t4
      obtain ⟨n0, e0, _, b0⟩ := DataW.trod_int Try.underlying3 t0
      obtain ⟨n1, e1, _, b1⟩ := DataW.trod_int Try.underlying3 t1
      obtain ⟨n2, e2, _, b2⟩ := DataW.trod_int Try.underlying3 t2
      obtain ⟨n3, e3, _, b3⟩ := DataW.trod_int Try.underlying3 t3
      obtain ⟨n4, e4, _, b4⟩ := DataW.trod_int Try.underlying3 t4
      simp at e0 e1 e2 e3 e4
      subst e0 e1 e2 e3 e4
      obtain h | h | h | h | h : i % 5 = 0 ∨ i % 5 = 1 ∨ i % 5 = 2 ∨ i % 5 = 3 ∨ i % 5 = 4 := by omega
      all_goals rw [h]
      · exact ⟨n0, rfl, b0⟩
      · exact ⟨n1, rfl, b1⟩
      · exact ⟨n2, rfl, b2⟩
      · exact ⟨n3, rfl, b3⟩
      · exact ⟨n4, rfl, b4⟩)
    exact ⟨some x, len, cap, ys, hc, hx, hy, by omega⟩

end
end Go.Proofs.Ytndhiaommphegaa

namespace Go.Proofs.Ytndhiaommphegaa
open Go.RowKit Go.WideShapes Go.ChangeShapes Go.ChangeAt
set_option linter.unusedVariables false
set_option linter.unusedSimpArgs false
theorem Try.cellsIrq : Try.prog.cellsOf 48 = 14 := by kernel_rfl
section
variable {H : Type} {enc : TypeId × Value → H} {w : World} {base : Nat} {spare : Nat → Bool} {held : Bool}
set_option maxRecDepth 100000 in
theorem open_Irq {r : Reach} {b0 : Nat} {v : Value} {d : DataW H} {p : List MemPlace} (hv : Value.okWide Try.prog w r b0 48 v) (h : DataW.Trod enc Try.prog w base spare held 48 v d p) :
    ∃ (a0 : Option Addr) (c0 : Nat) (x0 : List Int) (a1 : Option Addr) (c1 : Nat) (x1 : List Int) (i2 i3 i4 i5 : Int) (i6 i7 : Bool) (a8 : Option Addr) (c8 : Nat) (x8 : List Int) (a9 : Option Addr) (m9 c9 : Nat) (x9 : List Int) (i10 i11 : Bool) (i12 : Int) (i13 : Bool), v = .agg #[.slice a0 x0.length c0, .slice a1 x1.length c1, iv i2, iv i3, iv i4, iv i5, .bool i6, .bool i7, .slice a8 x8.length c8, .slice a9 m9 c9, .bool i10, .bool i11, iv i12, .bool i13] ∧ (Came w a0 x0 ∧ x0.length ≤ maxLen) ∧ (Came w a1 x1 ∧ x1.length ≤ maxLen) ∧ (Lit.int .i64 i2).wf = true ∧ (Lit.int .i64 i3).wf = true ∧ (Lit.int .i64 i4).wf = true ∧ (Lit.int .i64 i5).wf = true ∧ (Came w a8 x8 ∧ x8.length ≤ maxLen) ∧ (Came w a9 x9 ∧ x9.length = 5 * m9 ∧ m9 ≤ maxLen) ∧ (Lit.int .i64 i12).wf = true := by
  obtain ⟨cs, rfl, hsz⟩ := okWide_struct Try.underlying48 hv
  rw [Try.cellsIrq] at hsz
  obtain ⟨cl⟩ := cs
  obtain ⟨c_0, c_1, c_2, c_3, c_4, c_5, c_6, c_7, c_8, c_9, c_10, c_11, c_12, c_13, rfl⟩ : ∃ c_0 c_1 c_2 c_3 c_4 c_5 c_6 c_7 c_8 c_9 c_10 c_11 c_12 c_13, cl = [c_0, c_1, c_2, c_3, c_4, c_5, c_6, c_7, c_8, c_9, c_10, c_11, c_12, c_13] := by
    match cl, hsz with
    | [c_0, c_1, c_2, c_3, c_4, c_5, c_6, c_7, c_8, c_9, c_10, c_11, c_12, c_13], _ => exact ⟨c_0, c_1, c_2, c_3, c_4, c_5, c_6, c_7, c_8, c_9, c_10, c_11, c_12, c_13, rfl⟩
  obtain ⟨fuel, hf0⟩ := h
  obtain ⟨zs, k, _, _, _, hzl, hg⟩ := DataW.trod_struct Try.underlying48 hf0
  obtain ⟨o_0, o_1, o_2, rfl⟩ : ∃ o_0 o_1 o_2, zs = [o_0, o_1, o_2] := by
    match zs, hzl with
    | [o_0, o_1, o_2], _ => exact ⟨o_0, o_1, o_2, rfl⟩
  have r0 := hg 0 _ rfl
  have r1 := hg 1 _ rfl
  have r2 := hg 2 _ rfl
  simp [Value.cells, Try.cellsCpu, Try.cellsInt, Try.cellsBool] at r0 r1 r2
  obtain ⟨zs, k1, _, _, _, hzl, hf⟩ := DataW.trod_struct Try.underlying29 r0
  obtain ⟨y_0, y_1, y_2, y_3, rfl⟩ : ∃ y_0 y_1 y_2 y_3, zs = [y_0, y_1, y_2, y_3] := by
    match zs, hzl with
    | [y_0, y_1, y_2, y_3], _ => exact ⟨y_0, y_1, y_2, y_3, rfl⟩
  have s0 := hf 0 _ rfl
  have s1 := hf 1 _ rfl
  have s2 := hf 2 _ rfl
  have s3 := hf 3 _ rfl
  simp [Value.cells, Try.cellsRegs, Try.cellsBus, Try.cellsBool] at s0 s1 s2 s3
  obtain ⟨zs, k2, _, _, _, hzl, hr⟩ := DataW.trod_struct Try.underlying24 s0
  obtain ⟨z_0, z_1, z_2, z_3, z_4, z_5, z_6, z_7, rfl⟩ : ∃ z_0 z_1 z_2 z_3 z_4 z_5 z_6 z_7, zs = [z_0, z_1, z_2, z_3, z_4, z_5, z_6, z_7] := by
    match zs, hzl with
    | [z_0, z_1, z_2, z_3, z_4, z_5, z_6, z_7], _ => exact ⟨z_0, z_1, z_2, z_3, z_4, z_5, z_6, z_7, rfl⟩
  have t0 := hr 0 _ rfl
  have t1 := hr 1 _ rfl
  have t2 := hr 2 _ rfl
  have t3 := hr 3 _ rfl
  have t4 := hr 4 _ rfl
  have t5 := hr 5 _ rfl
  have t6 := hr 6 _ rfl
  have t7 := hr 7 _ rfl
  simp [Value.cells, Try.cellsInt, Try.cellsBool, Try.cellsInts] at t0 t1 t2 t3 t4 t5 t6 t7
  obtain ⟨zs, k3, _, _, _, hzl, hb⟩ := DataW.trod_struct Try.underlying27 s1
  obtain ⟨x_0, x_1, rfl⟩ : ∃ x_0 x_1, zs = [x_0, x_1] := by
    match zs, hzl with
    | [x_0, x_1], _ => exact ⟨x_0, x_1, rfl⟩
  have t8 := hb 0 _ rfl
  have t9 := hb 1 _ rfl
  simp [Value.cells, Try.cellsInts, Try.cellsAccs] at t8 t9
  obtain ⟨a0, c0, x0, q0, hx0, lx0⟩ := open_intRow t0
  obtain ⟨a1, c1, x1, q1, hx1, lx1⟩ := open_intRow t1
  obtain ⟨i2, q2, _, wf2⟩ := DataW.trod_int Try.underlying3 t2
  obtain ⟨i3, q3, _, wf3⟩ := DataW.trod_int Try.underlying3 t3
  obtain ⟨i4, q4, _, wf4⟩ := DataW.trod_int Try.underlying3 t4
  obtain ⟨i5, q5, _, wf5⟩ := DataW.trod_int Try.underlying3 t5
  obtain ⟨i6, q6, _⟩ := DataW.trod_bool Try.underlying4 t6
  obtain ⟨i7, q7, _⟩ := DataW.trod_bool Try.underlying4 t7
  obtain ⟨a8, c8, x8, q8, hx8, lx8⟩ := open_intRow t8
  obtain ⟨a9, m9, c9, x9, q9, hx9, ly9, lm9⟩ := open_accRow t9
  obtain ⟨i10, q10, _⟩ := DataW.trod_bool Try.underlying4 s2
  obtain ⟨i11, q11, _⟩ := DataW.trod_bool Try.underlying4 s3
  obtain ⟨i12, q12, _, wf12⟩ := DataW.trod_int Try.underlying3 r1
  obtain ⟨i13, q13, _⟩ := DataW.trod_bool Try.underlying4 r2
  simp at q0 q1 q2 q3 q4 q5 q6 q7 q8 q9 q10 q11 q12 q13
  subst q0 q1 q2 q3 q4 q5 q6 q7 q8 q9 q10 q11 q12 q13
  exact ⟨a0, c0, x0, a1, c1, x1, i2, i3, i4, i5, i6, i7, a8, c8, x8, a9, m9, c9, x9, i10, i11, i12, i13, rfl, ⟨hx0, lx0⟩, ⟨hx1, lx1⟩, wf2, wf3, wf4, wf5, ⟨hx8, lx8⟩, ⟨hx9, ly9, lm9⟩, wf12⟩
end
end Go.Proofs.Ytndhiaommphegaa

