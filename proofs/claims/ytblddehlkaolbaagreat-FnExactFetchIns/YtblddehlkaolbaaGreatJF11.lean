/- What the model of an access does to a bus of its own. A processor of one's own, a step that begins, and the processor that it is then. A step that begins, and the processor that it is then. What the model's step fetches. A fault as it is answered. A step of the model. What the model's GoodCpu answers, for every processor. What the model's StepsCpu answers, for every processor and number. -/
import Derived.Test.YtblddehlkaolbaaGreatJF10
import Derived.Test.YtblddehlkaolbaaGreatJF2
import Derived.Deep.DeepCutAuto
import Derived.Test.YtblddehlkaolbaaGreatJF4
import Derived.Test.YtblddehlkaolbaaGreatJF9
import Derived.Test.YtblddehlkaolbaaGreatJF1
import Derived.Deep.RegionHeld3
import Derived.Deep.AppendLies
import Derived.Test.YtblddehlkaolbaaGreatJF3
namespace Go.Proofs.YtblddehlkaolbaaGreat
open Go.RowKit
set_option linter.unusedVariables false

theorem l4Own (w : World) (a b : Option Addr) (ca cb m : Nat) (xs ys : List Int) (ha : IRow w a xs) (hb : IRow w b ys) (lx : xs.length ≤ 2000000) (ly : ys.length = 5 * m) (bm : m ≤ 2000000) (x0 : 0 < xs.length) :
    Calls Tryz.prog 54 #[.agg #[.slice a xs.length ca, .slice b m cb]] w fun e w' => ∃ (g1 c1 g2 c2 : Nat), e = .returned (.agg #[.slice (some ⟨g1, 0, none⟩) xs.length c1, .slice (some ⟨g2, 0, none⟩) m c2]) ∧ w'.ownsRow w.heap.size 3 1 (.slice (some ⟨g1, 0, none⟩) xs.length c1) xs.length (xs.map (Value.int .i64)) ∧ w'.ownsRow w.heap.size 95 5 (.slice (some ⟨g2, 0, none⟩) m c2) m (ys.map (Value.int .i64)) ∧ g1 ≠ g2 ∧ Kept 0 0 w w' := by
  obtain ⟨ga, oa, rfl, _⟩ := ha 0 x0
  by_cases h0 : m = 0
  · subst h0
    obtain rfl : ys = [] := List.eq_nil_of_length_eq_zero (by omega)
    cases b with
    | none => exact l4Own_nil w ga oa ca cb xs ha lx x0
    | some ad => exact l4Own_none w ga oa ad.block ad.off ad.spot ca cb xs ha lx x0
  · obtain ⟨gb, ob, rfl, _⟩ := hb 0 (by omega)
    refine (l4Own_log w ga oa gb ob ca cb m xs ys ha hb lx ly bm x0 (by omega)).mono ?_
    rintro e w' ⟨g1, c1, g2, c2, rfl, o1, o2, hl, kk⟩
    exact ⟨g1, c1, g2, c2, rfl, o1, o2, by omega, kk⟩

end Go.Proofs.YtblddehlkaolbaaGreat

namespace Go.Proofs.YtblddehlkaolbaaGreat
open Go.RowKit
set_option linter.unusedVariables false
def cpuC (c : Pl.Cp) (gd cd ga ca g1 c1 g2 c2 : Nat) : Array Value := #[.slice (some ⟨gd, 0, none⟩) 4 cd, .slice (some ⟨ga, 0, none⟩) 4 ca, .int .i64 c.r.o, .int .i64 c.r.p, .int .i64 c.r.f, .int .i64 c.r.m, .bool c.r.s, .bool c.r.t, .slice (some ⟨g1, 0, none⟩) 512 c1, .slice (some ⟨g2, 0, none⟩) c.bm c2, .bool c.st, .bool c.ha]
/-- its lists in blocks of their own, from lo on -/
structure CO (w : World) (lo mid : Nat) (c : Pl.Cp) (gd ga g1 g2 c2 : Nat) : Prop where
  d : Own w gd c.r.xs
  a : Own w ga c.r.ys
  b : Own w g1 c.bx
  l : w.ownsRow mid 95 5 (.slice (some ⟨g2, 0, none⟩) c.bm c2) c.bm (c.bl.map (Value.int .i64))
  d0 : lo ≤ gd
  d1 : gd < mid
  a0 : lo ≤ ga
  a1 : ga < mid
  da : gd ≠ ga
  b0 : mid ≤ g1
  b1 : g1 < w.heap.size
  bl : g1 ≠ g2
theorem CO.any {w w' : World} {lo mid gd ga g1 g2 c2 : Nat} {c : Pl.Cp} (h : CO w lo mid c gd ga g1 g2 c2) (k : Kept 0 0 w w') : CO w' lo mid c gd ga g1 g2 c2 :=
  ⟨h.d.keptS k (by omega), h.a.keptS k (by omega), h.b.keptS k (by omega), ownsRow_keptS h.l k (by omega), h.d0, h.d1, h.a0, h.a1, h.da, h.b0, Nat.lt_of_lt_of_le h.b1 k.size, h.bl⟩
theorem slotIn_some {w : World} {lo hi : Nat} {a : Option Addr} {xs : List Int} (h : SlotIn w lo hi a xs) (hx : 0 < xs.length) : ∃ g, a = some ⟨g, 0, none⟩ ∧ lo ≤ g ∧ g < hi ∧ Own w g xs := by
  rcases h with ⟨_, e⟩ | h
  · rw [e] at hx; exact absurd hx (Nat.lt_irrefl 0)
  · exact h
theorem own4 (w : World) (r : Pl.Rg) (a b : Option Addr) (ca cb : Nat) (ha : IRow w a r.xs) (hb : IRow w b r.ys) (h4 : r.xs.length = 4) (h5 : r.ys.length = 4) :
    Calls Tryz.prog 53 #[.agg #[.slice a 4 ca, .slice b 4 cb, .int .i64 r.o, .int .i64 r.p, .int .i64 r.f, .int .i64 r.m, .bool r.s, .bool r.t]] w fun e w' => ∃ gd cd ga cA : Nat, e = .returned (regV r gd cd ga cA) ∧ Own w' gd r.xs ∧ Own w' ga r.ys ∧ w.heap.size ≤ gd ∧ gd < w'.heap.size ∧ w.heap.size ≤ ga ∧ ga < w'.heap.size ∧ gd ≠ ga ∧ Kept 0 0 w w' := by
  have h := specOwn w r a b ca cb ha hb (by omega) (by omega)
  rw [h4, h5] at h
  refine h.mono ?_
  rintro e w' ⟨a', b', ca', cb', rfl, ⟨s1, s2, s3⟩, k⟩
  obtain ⟨gd, rfl, d0, d1, od⟩ := slotIn_some s1 (by omega)
  obtain ⟨ga, rfl, a0, a1, oa⟩ := slotIn_some s2 (by omega)
  exact ⟨gd, ca', ga, cb', rfl, od, oa, d0, d1, a0, a1, fun q => s3 gd rfl (by rw [q]; rfl), k⟩
theorem bus4 (w : World) (a b : Option Addr) (ca cb m : Nat) (xs ys : List Int) (ha : IRow w a xs) (hb : IRow w b ys) (lx : xs.length = 512) (ly : ys.length = 5 * m) (bm : m ≤ 400) :
    Calls Tryz.prog 54 #[.agg #[.slice a 512 ca, .slice b m cb]] w fun e w' => ∃ g1 c1 g2 c2 : Nat, e = .returned (.agg #[.slice (some ⟨g1, 0, none⟩) 512 c1, .slice (some ⟨g2, 0, none⟩) m c2]) ∧ Own w' g1 xs ∧ w'.ownsRow w.heap.size 95 5 (.slice (some ⟨g2, 0, none⟩) m c2) m (ys.map (Value.int .i64)) ∧ w.heap.size ≤ g1 ∧ g1 < w'.heap.size ∧ g1 ≠ g2 ∧ Kept 0 0 w w' := by
  have h := l4Own w a b ca cb m xs ys ha hb (by omega) ly (by omega) (by omega)
  rw [lx] at h
  refine h.mono ?_
  rintro e w' ⟨g1, c1, g2, c2, rfl, o1, o2, hn, k⟩
  have q := o1.lt g1 rfl
  have e1 := own_of_row (xs := xs) (by rw [← lx] at o1; exact lx ▸ o1)
  exact ⟨g1, c1, g2, c2, rfl, e1, o2, q.1, q.2, hn, k⟩
theorem s12_0 (a0 a1 a2 a3 a4 a5 a6 a7 a8 a9 a10 a11 v : Value) : (#[a0, a1, a2, a3, a4, a5, a6, a7, a8, a9, a10, a11] : Array Value).setIfInBounds 0 v = #[v, a1, a2, a3, a4, a5, a6, a7, a8, a9, a10, a11] := rfl
theorem s12_1 (a0 a1 a2 a3 a4 a5 a6 a7 a8 a9 a10 a11 v : Value) : (#[a0, a1, a2, a3, a4, a5, a6, a7, a8, a9, a10, a11] : Array Value).setIfInBounds 1 v = #[a0, v, a2, a3, a4, a5, a6, a7, a8, a9, a10, a11] := rfl
theorem s12_2 (a0 a1 a2 a3 a4 a5 a6 a7 a8 a9 a10 a11 v : Value) : (#[a0, a1, a2, a3, a4, a5, a6, a7, a8, a9, a10, a11] : Array Value).setIfInBounds 2 v = #[a0, a1, v, a3, a4, a5, a6, a7, a8, a9, a10, a11] := rfl
theorem s12_3 (a0 a1 a2 a3 a4 a5 a6 a7 a8 a9 a10 a11 v : Value) : (#[a0, a1, a2, a3, a4, a5, a6, a7, a8, a9, a10, a11] : Array Value).setIfInBounds 3 v = #[a0, a1, a2, v, a4, a5, a6, a7, a8, a9, a10, a11] := rfl
theorem s12_4 (a0 a1 a2 a3 a4 a5 a6 a7 a8 a9 a10 a11 v : Value) : (#[a0, a1, a2, a3, a4, a5, a6, a7, a8, a9, a10, a11] : Array Value).setIfInBounds 4 v = #[a0, a1, a2, a3, v, a5, a6, a7, a8, a9, a10, a11] := rfl
theorem s12_5 (a0 a1 a2 a3 a4 a5 a6 a7 a8 a9 a10 a11 v : Value) : (#[a0, a1, a2, a3, a4, a5, a6, a7, a8, a9, a10, a11] : Array Value).setIfInBounds 5 v = #[a0, a1, a2, a3, a4, v, a6, a7, a8, a9, a10, a11] := rfl
theorem s12_6 (a0 a1 a2 a3 a4 a5 a6 a7 a8 a9 a10 a11 v : Value) : (#[a0, a1, a2, a3, a4, a5, a6, a7, a8, a9, a10, a11] : Array Value).setIfInBounds 6 v = #[a0, a1, a2, a3, a4, a5, v, a7, a8, a9, a10, a11] := rfl
theorem s12_7 (a0 a1 a2 a3 a4 a5 a6 a7 a8 a9 a10 a11 v : Value) : (#[a0, a1, a2, a3, a4, a5, a6, a7, a8, a9, a10, a11] : Array Value).setIfInBounds 7 v = #[a0, a1, a2, a3, a4, a5, a6, v, a8, a9, a10, a11] := rfl
theorem CO.over {w w' : World} {b mid gd ga g1 g2 c2 : Nat} {c : Pl.Cp} (h : CO w (b + 2) mid c gd ga g1 g2 c2) (k : Kept b (b + 2) w w') : CO w' b mid c gd ga g1 g2 c2 := by
  have q := h.l.lt g2 rfl
  have := h.d0; have := h.d1; have := h.b0; have := h.a0; have := h.a1
  exact ⟨h.d.keptS k (by omega), h.a.keptS k (by omega), h.b.keptS k (by omega), ownsRow_keptS h.l k (by omega), by omega, h.d1, by omega, h.a1, h.da, h.b0, Nat.lt_of_lt_of_le h.b1 k.size, h.bl⟩
set_option maxHeartbeats 4000000 in
theorem mOwn (w : World) (c : Pl.Cp) (a b e q : Option Addr) (ca cb ce cq : Nat) (ha : IRow w a c.r.xs) (hb : IRow w b c.r.ys) (he : IRow w e c.bx) (hq : IRow w q c.bl) (h4 : c.r.xs.length = 4) (h5 : c.r.ys.length = 4) (hx : c.bx.length = 512) (hl : c.bl.length = 5 * c.bm) (hm : c.bm ≤ 400) :
    Calls Tryz.prog 29 #[.agg #[.slice a 4 ca, .slice b 4 cb, .int .i64 c.r.o, .int .i64 c.r.p, .int .i64 c.r.f, .int .i64 c.r.m, .bool c.r.s, .bool c.r.t, .slice e 512 ce, .slice q c.bm cq, .bool c.st, .bool c.ha]] w fun r w' => ∃ gd cd ga cA g1 c1 g2 c2 mid : Nat, r = .returned (.agg (cpuC c gd cd ga cA g1 c1 g2 c2)) ∧ CO w' w.heap.size mid c gd ga g1 g2 c2 ∧ Kept 0 0 w w' := by
  have K0 := hide (kept_new (kept_alloc w (.cells #[.slice a 4 ca, .slice b 4 cb, .int .i64 c.r.o, .int .i64 c.r.p, .int .i64 c.r.f, .int .i64 c.r.m, .bool c.r.s, .bool c.r.t, .slice e 512 ce, .slice q c.bm cq, .bool c.st, .bool c.ha] 44)) (.cells #[.slice none 0 0, .slice none 0 0, .int .i64 0, .int .i64 0, .int .i64 0, .int .i64 0, .bool false, .bool false, .slice none 0 0, .slice none 0 0, .bool false, .bool false] 44))
  have BA := (Blk.new w #[.slice a 4 ca, .slice b 4 cb, .int .i64 c.r.o, .int .i64 c.r.p, .int .i64 c.r.f, .int .i64 c.r.m, .bool c.r.s, .bool c.r.t, .slice e 512 ce, .slice q c.bm cq, .bool c.st, .bool c.ha] 44).alloc (.cells #[.slice none 0 0, .slice none 0 0, .int .i64 0, .int .i64 0, .int .i64 0, .int .i64 0, .bool false, .bool false, .slice none 0 0, .slice none 0 0, .bool false, .bool false] 44)
  have BO := Blk.new (w.alloc (.cells #[.slice a 4 ca, .slice b 4 cb, .int .i64 c.r.o, .int .i64 c.r.p, .int .i64 c.r.f, .int .i64 c.r.m, .bool c.r.s, .bool c.r.t, .slice e 512 ce, .slice q c.bm cq, .bool c.st, .bool c.ha] 44)) #[.slice none 0 0, .slice none 0 0, .int .i64 0, .int .i64 0, .int .i64 0, .int .i64 0, .bool false, .bool false, .slice none 0 0, .slice none 0 0, .bool false, .bool false] 44
  simp only [World.size_alloc] at BO
  obtain ⟨X, hX⟩ : ∃ X : World, (w.alloc (.cells #[.slice a 4 ca, .slice b 4 cb, .int .i64 c.r.o, .int .i64 c.r.p, .int .i64 c.r.f, .int .i64 c.r.m, .bool c.r.s, .bool c.r.t, .slice e 512 ce, .slice q c.bm cq, .bool c.st, .bool c.ha] 44)).alloc (.cells #[.slice none 0 0, .slice none 0 0, .int .i64 0, .int .i64 0, .int .i64 0, .int .i64 0, .bool false, .bool false, .slice none 0 0, .slice none 0 0, .bool false, .bool false] 44) = X := ⟨_, rfl⟩
  rw [hX] at K0 BA BO
  have HBA := hide BA
  have HBO := hide BO
  have HA := hide (ha.keptS K0.out)
  have HB := hide (hb.keptS K0.out)
  have HE := hide he
  have HQ := hide hq
  have hxs := K0.out.size
  clear BA BO ha hb he hq
  have i0 := HBA.out.cell (i := 0) rfl
  have if0 := HBA.out.frozen 0
  have i1 := HBA.out.cell (i := 1) rfl
  have if1 := HBA.out.frozen 1
  have i2 := HBA.out.cell (i := 2) rfl
  have if2 := HBA.out.frozen 2
  have i3 := HBA.out.cell (i := 3) rfl
  have if3 := HBA.out.frozen 3
  have i4 := HBA.out.cell (i := 4) rfl
  have if4 := HBA.out.frozen 4
  have i5 := HBA.out.cell (i := 5) rfl
  have if5 := HBA.out.frozen 5
  have i6 := HBA.out.cell (i := 6) rfl
  have if6 := HBA.out.frozen 6
  have i7 := HBA.out.cell (i := 7) rfl
  have if7 := HBA.out.frozen 7
  have i8 := HBA.out.cell (i := 8) rfl
  have if8 := HBA.out.frozen 8
  have i9 := HBA.out.cell (i := 9) rfl
  have if9 := HBA.out.frozen 9
  have i10 := HBA.out.cell (i := 10) rfl
  have if10 := HBA.out.frozen 10
  have i11 := HBA.out.cell (i := 11) rfl
  have if11 := HBA.out.frozen 11
  go_enter Tryz.func29, Tryz.ntmps29
  go_wp2_with (go_at_call 53; refine (own4 _ c.r a b ca cb HA.out HB.out h4 h5).mono ?_; unfold regV; rintro e9 W1 ⟨gd, cd, ga, cA, rfl, od, oa, d0, d1, a0, a1, da, k9⟩; have HD1 := hide od; have HA1 := hide oa; have K1 := hide (K0.out.trans k9); have HI1 := hide (HBA.out.kept0 k9); have HO1 := hide (HBO.out.kept0 k9); clear k9 od oa i0 i1 i2 i3 i4 i5 i6 i7 i8 i9 i10 i11 if0 if1 if2 if3 if4 if5 if6 if7 if8 if9 if10 if11; have i0 := HI1.out.cell (i := 0) rfl; have if0 := HI1.out.frozen 0; have i1 := HI1.out.cell (i := 1) rfl; have if1 := HI1.out.frozen 1; have i2 := HI1.out.cell (i := 2) rfl; have if2 := HI1.out.frozen 2; have i3 := HI1.out.cell (i := 3) rfl; have if3 := HI1.out.frozen 3; have i4 := HI1.out.cell (i := 4) rfl; have if4 := HI1.out.frozen 4; have i5 := HI1.out.cell (i := 5) rfl; have if5 := HI1.out.frozen 5; have i6 := HI1.out.cell (i := 6) rfl; have if6 := HI1.out.frozen 6; have i7 := HI1.out.cell (i := 7) rfl; have if7 := HI1.out.frozen 7; have i8 := HI1.out.cell (i := 8) rfl; have if8 := HI1.out.frozen 8; have i9 := HI1.out.cell (i := 9) rfl; have if9 := HI1.out.frozen 9; have i10 := HI1.out.cell (i := 10) rfl; have if10 := HI1.out.frozen 10; have i11 := HI1.out.cell (i := 11) rfl; have if11 := HI1.out.frozen 11)
  have K8 := MB.kept8 (w := W1) (p := w.heap.size) (.slice (some ⟨gd, 0, none⟩) 4 cd) (.slice (some ⟨ga, 0, none⟩) 4 cA) (.int .i64 c.r.o) (.int .i64 c.r.p) (.int .i64 c.r.f) (.int .i64 c.r.m) (.bool c.r.s) (.bool c.r.t)
  have HI2 : Blk ((((((((W1.setCell ⟨w.heap.size, 0, none⟩ (.slice (some ⟨gd, 0, none⟩) 4 cd)).setCell ⟨w.heap.size, 1, none⟩ (.slice (some ⟨ga, 0, none⟩) 4 cA)).setCell ⟨w.heap.size, 2, none⟩ (.int .i64 c.r.o)).setCell ⟨w.heap.size, 3, none⟩ (.int .i64 c.r.p)).setCell ⟨w.heap.size, 4, none⟩ (.int .i64 c.r.f)).setCell ⟨w.heap.size, 5, none⟩ (.int .i64 c.r.m)).setCell ⟨w.heap.size, 6, none⟩ (.bool c.r.s)).setCell ⟨w.heap.size, 7, none⟩ (.bool c.r.t)) w.heap.size #[.slice (some ⟨gd, 0, none⟩) 4 cd, .slice (some ⟨ga, 0, none⟩) 4 cA, .int .i64 c.r.o, .int .i64 c.r.p, .int .i64 c.r.f, .int .i64 c.r.m, .bool c.r.s, .bool c.r.t, .slice e 512 ce, .slice q c.bm cq, .bool c.st, .bool c.ha] 44 := by
    have z := (((((((HI1.out.set 0 (.slice (some ⟨gd, 0, none⟩) 4 cd)).set 1 (.slice (some ⟨ga, 0, none⟩) 4 cA)).set 2 (.int .i64 c.r.o)).set 3 (.int .i64 c.r.p)).set 4 (.int .i64 c.r.f)).set 5 (.int .i64 c.r.m)).set 6 (.bool c.r.s)).set 7 (.bool c.r.t)
    rw [s12_0, s12_1, s12_2, s12_3, s12_4, s12_5, s12_6, s12_7] at z
    exact z
  generalize ((((((((W1.setCell ⟨w.heap.size, 0, none⟩ (.slice (some ⟨gd, 0, none⟩) 4 cd)).setCell ⟨w.heap.size, 1, none⟩ (.slice (some ⟨ga, 0, none⟩) 4 cA)).setCell ⟨w.heap.size, 2, none⟩ (.int .i64 c.r.o)).setCell ⟨w.heap.size, 3, none⟩ (.int .i64 c.r.p)).setCell ⟨w.heap.size, 4, none⟩ (.int .i64 c.r.f)).setCell ⟨w.heap.size, 5, none⟩ (.int .i64 c.r.m)).setCell ⟨w.heap.size, 6, none⟩ (.bool c.r.s)).setCell ⟨w.heap.size, 7, none⟩ (.bool c.r.t)) = Y at K8 HI2 ⊢
  have hX2 : X.heap.size = w.heap.size + 2 := by rw [← hX]; simp
  have ds := K8.size
  have KY := hide (kept_over K1.out K8 (Nat.le_refl _))
  have HDY := hide (HD1.out.keptS K8 (by omega))
  have HAY := hide (HA1.out.keptS K8 (by omega))
  have HOY := hide (Blk.kept HO1.out K8 (by omega))
  have HIY := hide HI2
  have HEY := hide (HE.out.keptS KY.out)
  have HQY := hide (HQ.out.keptS KY.out)
  have HX2 := hide hX2
  have hs1 := HO1.out.lt
  clear K8 HI2 hX2 hX i0 i1 i2 i3 i4 i5 i6 i7 i8 i9 i10 i11 if0 if1 if2 if3 if4 if5 if6 if7 if8 if9 if10 if11
  have hdd := HDY.out.lt (by rw [h4]; decide)
  refine (bus4 _ e q ce cq c.bm c.bx c.bl HEY.out HQY.out hx hl hm).mono ?_
  rintro e9 W2 ⟨g1, c1, g2, c2, rfl, ob, ol, b0, b1, bn, k9⟩
  have HCO : Hid (CO W2 (w.heap.size + 2) Y.heap.size c gd ga g1 g2 c2) := hide ⟨HDY.out.keptS k9 (by omega), HAY.out.keptS k9 (by omega), ob, ol, by have := HX2.out; omega, by omega, by have := HX2.out; omega, by omega, da, b0, b1, bn⟩
  have K2 := hide (KY.out.trans k9)
  have HI3 := hide (HIY.out.kept0 k9)
  have HO3 := hide (HOY.out.kept0 k9)
  have hs3 := HO3.out.lt
  clear ob ol k9
  have i0 := HI3.out.cell (i := 0) rfl
  have if0 := HI3.out.frozen 0
  have i1 := HI3.out.cell (i := 1) rfl
  have if1 := HI3.out.frozen 1
  have i2 := HI3.out.cell (i := 2) rfl
  have if2 := HI3.out.frozen 2
  have i3 := HI3.out.cell (i := 3) rfl
  have if3 := HI3.out.frozen 3
  have i4 := HI3.out.cell (i := 4) rfl
  have if4 := HI3.out.frozen 4
  have i5 := HI3.out.cell (i := 5) rfl
  have if5 := HI3.out.frozen 5
  have i6 := HI3.out.cell (i := 6) rfl
  have if6 := HI3.out.frozen 6
  have i7 := HI3.out.cell (i := 7) rfl
  have if7 := HI3.out.frozen 7
  have i8 := HI3.out.cell (i := 8) rfl
  have if8 := HI3.out.frozen 8
  have i9 := HI3.out.cell (i := 9) rfl
  have if9 := HI3.out.frozen 9
  have i10 := HI3.out.cell (i := 10) rfl
  have if10 := HI3.out.frozen 10
  have i11 := HI3.out.cell (i := 11) rfl
  have if11 := HI3.out.frozen 11
  have o0 := HO3.out.cell (i := 0) rfl
  have of0 := HO3.out.frozen 0
  have o1 := HO3.out.cell (i := 1) rfl
  have of1 := HO3.out.frozen 1
  have o2 := HO3.out.cell (i := 2) rfl
  have of2 := HO3.out.frozen 2
  have o3 := HO3.out.cell (i := 3) rfl
  have of3 := HO3.out.frozen 3
  have o4 := HO3.out.cell (i := 4) rfl
  have of4 := HO3.out.frozen 4
  have o5 := HO3.out.cell (i := 5) rfl
  have of5 := HO3.out.frozen 5
  have o6 := HO3.out.cell (i := 6) rfl
  have of6 := HO3.out.frozen 6
  have o7 := HO3.out.cell (i := 7) rfl
  have of7 := HO3.out.frozen 7
  have o8 := HO3.out.cell (i := 8) rfl
  have of8 := HO3.out.frozen 8
  have o9 := HO3.out.cell (i := 9) rfl
  have of9 := HO3.out.frozen 9
  have o10 := HO3.out.cell (i := 10) rfl
  have of10 := HO3.out.frozen 10
  have o11 := HO3.out.cell (i := 11) rfl
  have of11 := HO3.out.frozen 11
  go_wp2_with fail
  refine bodyPost_ret (v := .agg (cpuC c gd cd ga cA g1 c1 g2 c2)) ?_ rfl ⟨gd, cd, ga, cA, g1, c1, g2, c2, Y.heap.size, rfl, HCO.out.over ?kk, ?kw⟩
  case kk => repeat (first | with_reducible exact Kept.refl _ _ _ | refine kept_set ?_ _ _ _ (.inl (by omega)))
  case kw => repeat (first | with_reducible exact K2.out | refine kept_set ?_ _ _ _ (.inr (by omega)))
  rw [results_one rfl]; go_simp; rfl
end Go.Proofs.YtblddehlkaolbaaGreat

namespace Go.Proofs.YtblddehlkaolbaaGreat
open Go.RowKit
set_option linter.unusedVariables false
set_option maxHeartbeats 4000000 in
theorem mStart (w : World) (c : Pl.Cp) (a b e q : Option Addr) (ca cb ce cq : Nat) (ha : IRow w a c.r.xs) (hb : IRow w b c.r.ys) (he : IRow w e c.bx) (hq : IRow w q c.bl) (h4 : c.r.xs.length = 4) (h5 : c.r.ys.length = 4) (hx : c.bx.length = 512) (hl : c.bl.length = 5 * c.bm) (hm : c.bm ≤ 400) :
    Calls Tryz.prog 14 #[.agg #[.slice a 4 ca, .slice b 4 cb, .int .i64 c.r.o, .int .i64 c.r.p, .int .i64 c.r.f, .int .i64 c.r.m, .bool c.r.s, .bool c.r.t, .slice e 512 ce, .slice q c.bm cq, .bool c.st, .bool c.ha]] w fun r w' => ∃ mid p g2 : Nat, r = .returned (.pointer (some ⟨p, 0, none⟩)) ∧ MAt w' w.heap.size mid w'.heap.size p g2 (Pl.Mc.ofC c) ∧ w.heap.size ≤ p ∧ Kept 0 0 w w' := by
  have K0 := hide (kept_alloc w (.cells #[.slice a 4 ca, .slice b 4 cb, .int .i64 c.r.o, .int .i64 c.r.p, .int .i64 c.r.f, .int .i64 c.r.m, .bool c.r.s, .bool c.r.t, .slice e 512 ce, .slice q c.bm cq, .bool c.st, .bool c.ha] 44))
  have BA := Blk.new w #[.slice a 4 ca, .slice b 4 cb, .int .i64 c.r.o, .int .i64 c.r.p, .int .i64 c.r.f, .int .i64 c.r.m, .bool c.r.s, .bool c.r.t, .slice e 512 ce, .slice q c.bm cq, .bool c.st, .bool c.ha] 44
  obtain ⟨X, hX⟩ : ∃ X : World, w.alloc (.cells #[.slice a 4 ca, .slice b 4 cb, .int .i64 c.r.o, .int .i64 c.r.p, .int .i64 c.r.f, .int .i64 c.r.m, .bool c.r.s, .bool c.r.t, .slice e 512 ce, .slice q c.bm cq, .bool c.st, .bool c.ha] 44) = X := ⟨_, rfl⟩
  rw [hX] at K0 BA
  have HBA := hide BA
  have HA := hide (ha.keptS K0.out)
  have HB := hide (hb.keptS K0.out)
  have HE := hide (he.keptS K0.out)
  have HQ := hide (hq.keptS K0.out)
  have hxs := K0.out.size
  clear BA ha hb he hq
  have i0 := HBA.out.cell (i := 0) rfl
  have i1 := HBA.out.cell (i := 1) rfl
  have i2 := HBA.out.cell (i := 2) rfl
  have i3 := HBA.out.cell (i := 3) rfl
  have i4 := HBA.out.cell (i := 4) rfl
  have i5 := HBA.out.cell (i := 5) rfl
  have i6 := HBA.out.cell (i := 6) rfl
  have i7 := HBA.out.cell (i := 7) rfl
  have i8 := HBA.out.cell (i := 8) rfl
  have i9 := HBA.out.cell (i := 9) rfl
  have i10 := HBA.out.cell (i := 10) rfl
  have i11 := HBA.out.cell (i := 11) rfl
  go_enter Tryz.func14, Tryz.ntmps14
  go_wp2_with (go_at_call 29; refine (mOwn _ c a b e q ca cb ce cq HA.out HB.out HE.out HQ.out h4 h5 hx hl hm).mono ?_; unfold cpuC; rintro e9 W ⟨gd, cd, ga, cA, g1, c1, g2, c2, mid, rfl, hc9, k9⟩; have HC := hide hc9; have HK := hide (K0.out.trans k9); have HKW := hide k9; clear hc9 k9)
  go_ret
  have hC1 := (HC.out.any (kept_alloc W (.cells #[.slice (some ⟨gd, 0, none⟩) 4 cd, .slice (some ⟨ga, 0, none⟩) 4 cA, .int .i64 c.r.o, .int .i64 c.r.p, .int .i64 c.r.f, .int .i64 c.r.m, .bool c.r.s, .bool c.r.t, .slice (some ⟨g1, 0, none⟩) 512 c1, .slice (some ⟨g2, 0, none⟩) c.bm c2, .bool c.st, .bool c.ha] 44)))
  have hBm := Blk.new (W.alloc (.cells #[.slice (some ⟨gd, 0, none⟩) 4 cd, .slice (some ⟨ga, 0, none⟩) 4 cA, .int .i64 c.r.o, .int .i64 c.r.p, .int .i64 c.r.f, .int .i64 c.r.m, .bool c.r.s, .bool c.r.t, .slice (some ⟨g1, 0, none⟩) 512 c1, .slice (some ⟨g2, 0, none⟩) c.bm c2, .bool c.st, .bool c.ha] 44)) (mcells (Pl.Mc.ofC c) gd cd ga cA g1 c1 g2 c2) 59
  have hC2 := hC1.any (kept_alloc (W.alloc (.cells #[.slice (some ⟨gd, 0, none⟩) 4 cd, .slice (some ⟨ga, 0, none⟩) 4 cA, .int .i64 c.r.o, .int .i64 c.r.p, .int .i64 c.r.f, .int .i64 c.r.m, .bool c.r.s, .bool c.r.t, .slice (some ⟨g1, 0, none⟩) 512 c1, .slice (some ⟨g2, 0, none⟩) c.bm c2, .bool c.st, .bool c.ha] 44)) (.cells (mcells (Pl.Mc.ofC c) gd cd ga cA g1 c1 g2 c2) 59))
  have hg2 := hC1.l.lt g2 rfl
  have hsz := HKW.out.size
  have hd0 := HC.out.d0
  have hd1 := HC.out.d1
  have hb0 := HC.out.b0
  have hb1 := HC.out.b1
  have ha0 := HC.out.a0
  simp only [World.size_alloc] at hBm hg2
  refine ⟨mid, W.heap.size + 1, g2, rfl, ⟨gd, cd, ga, cA, g1, c1, c2, hBm, ⟨hC2.d, hC2.a, hC2.b, hC2.l, by omega, hC2.d1, by omega, hC2.a1, hC2.da, by omega, hC2.b0, by omega, by omega, by simp, by simp; omega, hC2.bl, Nat.le_refl _⟩⟩, by omega, kept_new (kept_new HK.out _) _⟩
end Go.Proofs.YtblddehlkaolbaaGreat

namespace Go.Proofs.YtblddehlkaolbaaGreat
open Go.RowKit
set_option linter.unusedVariables false
theorem Pl.w_of {v : Int} (h : Pl.okv 2 v = true) : 0 ≤ v ∧ v ≤ 65535 := by simp [Pl.okv, Pl.top] at h; omega
set_option maxRecDepth 100000 in
set_option maxHeartbeats 4000000 in
theorem mFetch (w : World) (lo mid hi p g2 : Nat) (c : Pl.Mc) (h : MAt w lo mid hi p g2 c) (G : Pl.GM c) :
    Calls Tryz.prog 15 #[.pointer (some ⟨p, 0, none⟩)] w fun e w' => e = .returned (.tuple #[.agg (insC c.fetI), .int .i64 c.fetN]) ∧ ∃ g3, MAt w' lo mid hi p g3 c.fetch ∧ Since w lo hi g2 w' g3 := by
  have hl := h.lo
  have HA0 := hide (Pl.ask_read (.inr rfl) G.p0 G.p1)
  have HG0 := hide (G.ft { c.f with pc := c.r.p })
  have HG1 := hide (HG0.out.acc HA0.out)
  have HW := Pl.w_of (HG0.out.accV HA0.out)
  obtain ⟨hw0, hw1⟩ := HW
  have HG2 := hide (HG1.out.ft { c.fe1.f with wo := c.feW })
  have pp0 := G.p0
  have pp1 := G.p1
  have ha := mask16 (c.r.p + 2)
  have HA2 : Hid (Pl.askOk 3 2 c.feA 0 = true) := hide (Pl.ask_read (.inr rfl) (by unfold Pl.Mc.feA; omega) (by unfold Pl.Mc.feA; omega))
  have KA := hide (kept_alloc w (.cells #[.int .i64 0, .int .i64 0, .int .i64 0, .int .i64 0, .int .i64 0, .int .i64 0, .int .i64 0] 34))
  have BA := Blk.new w #[.int .i64 0, .int .i64 0, .int .i64 0, .int .i64 0, .int .i64 0, .int .i64 0, .int .i64 0] 34
  obtain ⟨X, hX⟩ : ∃ X : World, w.alloc (.cells #[.int .i64 0, .int .i64 0, .int .i64 0, .int .i64 0, .int .i64 0, .int .i64 0, .int .i64 0] 34) = X := ⟨_, rfl⟩
  rw [hX] at KA BA
  have HBA := hide BA
  have h2 := h.any KA.out
  have hbw := BA.lt
  have hpb : p < w.heap.size := hl.2.2.2.2.1
  have HHB : Hid (hi ≤ w.heap.size) := hide hl.2.2.2.2.2.2
  have HGB : Hid (w.heap.size ≠ g2) := hide (by have := hl.2.2.2.2.2.1; omega)
  have HPH : Hid ((lo ≤ p ∧ p < hi) ∨ w.heap.size ≤ p) := hide (by omega)
  clear h BA
  have HM := hide h2
  obtain ⟨gd, cd, ga, ca, g1, c1, c2, hB9, hO9⟩ := h2
  have HB := hide hB9
  have HO := hide hO9
  obtain ⟨t0, t1, t2, t3, t4, t5, t6, t7, t8, t9, t10, t11, t12, t13, t14, t15⟩ := hB9.cells
  clear t0 t1 t2 t4 t5 t6 t7 t8 t9 t10 t11 t13 t14 t15
  have f12 := hB9.frozen 12
  clear hB9 hO9
  have HM0 := hide (HM.out.cPc c.r.p)
  have HBO := hide (HBA.out.other p 12 (.int .i64 c.r.p) (by omega))
  have HS0 := hide (((Since.refl w lo hi g2).any KA.out).set p 12 (.int .i64 c.r.p) HPH.out)
  clear G HO HB HM
  cases hf1 : c.fe1.fine
  · have E : Hid (c.fetch = c.fe1) := hide (by unfold Pl.Mc.fetch; rw [hf1]; rfl)
    have E2 : Hid (c.fetI = Pl.inNo) := hide (by unfold Pl.Mc.fetI; rw [hf1]; rfl)
    have E3 : Hid (c.fetN = 0) := hide (by unfold Pl.Mc.fetN; rw [hf1]; rfl)
    go_enter Tryz.func15, Tryz.ntmps15
    go_wp2_with (first | (go_at_call 30; refine (mAccess _ lo mid hi p g2 c.fe0 3 2 c.r.p 0 HM0.out HG0.out HA0.out).mono ?_; rw [show Pl.Mc.accV c.fe0 3 2 c.r.p 0 = c.feW from rfl]; rintro e9 W ⟨rfl, g3, hm9, hb9⟩; have HM1 : Hid (MAt W lo mid hi p g3 c.fe1) := hide hm9; have HB1 := hide (hb9.blk HBO.out HHB.out HGB.out); have HG1B := hide (hb9.ne (by simp; omega) HGB.out); have HS1 := hide (HS0.out.trans hb9); obtain ⟨_, _, _, _, _, _, _, hB9, _⟩ := hm9; have hpw := hB9.lt; obtain ⟨t0, t1, t2, t3, t4, t5, t6, t7, t8, t9, t10, t11, t12, t13, t14, t15⟩ := hB9.cells; have f14 := hB9.frozen 14; clear hb9 hB9 t0 t1 t2 t3 t4 t5 t6 t7 t8 t9 t10 t11 t12 t13 t15; have y0 := HB1.out.cell (i := 0) rfl; have v0 := HB1.out.frozen 0; have y1 := HB1.out.cell (i := 1) rfl; have v1 := HB1.out.frozen 1; have y2 := HB1.out.cell (i := 2) rfl; have v2 := HB1.out.frozen 2; have y3 := HB1.out.cell (i := 3) rfl; have v3 := HB1.out.frozen 3; have y4 := HB1.out.cell (i := 4) rfl; have v4 := HB1.out.frozen 4; have y5 := HB1.out.cell (i := 5) rfl; have v5 := HB1.out.frozen 5; have y6 := HB1.out.cell (i := 6) rfl; have v6 := HB1.out.frozen 6) | (go_at_call 16; have z9 := HG1B; refine (mFine _ lo mid hi p g3 _ HM1.out).mono ?_; rintro e9 w9 ⟨rfl, hw⟩; have hw2 := hw.symm; clear hw; subst hw2; rw [hf1]))
    refine bodyPost_ret (v := .tuple #[.agg (insC c.fetI), .int .i64 c.fetN]) ?_ rfl ⟨rfl, g3, ?_, ?_⟩
    · rw [results_cell_tmp rfl, E2.out, E3.out]; go_simp; rfl
    · rw [E.out]; exact HM1.out.past (kept7 _ _ _ _ _ _ _ _ _) HHB.out HG1B.out
    · exact since7 HS1.out (Nat.le_refl _) _ _ _ _ _ _ _
  · cases hL : (Pl.longW c.feW == 2)
    · have E4 : Hid (c.fe3 = c.fe2) := hide (by unfold Pl.Mc.fe3; rw [hL]; rfl)
      have EN : Hid (c.feN = 0) := hide (by unfold Pl.Mc.feN; rw [hL]; rfl)
      have hf3 : c.fe3.fine = true := by rw [E4.out]; exact hf1
      have EV := EN
      have HOK0 : Hid (Pl.inOk ⟨(Pl.decode c.feW 0).op, (Pl.decode c.feW 0).z, (Pl.decode c.feW 0).r, (Pl.decode c.feW 0).m, (Pl.decode c.feW 0).k, (Pl.decode c.feW 0).e, (Pl.decode c.feW 0).s⟩ = Pl.inOk c.feX) := hide (by unfold Pl.Mc.feX; rw [EV.out])
      cases ho : Pl.inOk c.feX
      · have HOK := hide (HOK0.out.trans ho)
        have E : Hid (c.fetch = c.fe4) := hide (by unfold Pl.Mc.fetch; rw [hf1, hf3, ho]; rfl)
        have E2 : Hid (c.fetI = Pl.inNo) := hide (by unfold Pl.Mc.fetI; rw [hf1, hf3, ho]; rfl)
        have E3 : Hid (c.fetN = 0) := hide (by unfold Pl.Mc.fetN; rw [hf1, hf3, ho]; rfl)
        go_enter Tryz.func15, Tryz.ntmps15
        go_wp2_with (first | (go_at_call 30; refine (mAccess _ lo mid hi p g2 c.fe0 3 2 c.r.p 0 HM0.out HG0.out HA0.out).mono ?_; rw [show Pl.Mc.accV c.fe0 3 2 c.r.p 0 = c.feW from rfl]; rintro e9 W ⟨rfl, g3, hm9, hb9⟩; have HM1 : Hid (MAt W lo mid hi p g3 c.fe1) := hide hm9; have HB1 := hide (hb9.blk HBO.out HHB.out HGB.out); have HG1B := hide (hb9.ne (by simp; omega) HGB.out); have HS1 := hide (HS0.out.trans hb9); obtain ⟨_, _, _, _, _, _, _, hB9, _⟩ := hm9; have hpw := hB9.lt; obtain ⟨t0, t1, t2, t3, t4, t5, t6, t7, t8, t9, t10, t11, t12, t13, t14, t15⟩ := hB9.cells; have f14 := hB9.frozen 14; clear hb9 hB9 t0 t1 t2 t3 t4 t5 t6 t7 t8 t9 t10 t11 t12 t13 t15; have y0 := HB1.out.cell (i := 0) rfl; have v0 := HB1.out.frozen 0; have y1 := HB1.out.cell (i := 1) rfl; have v1 := HB1.out.frozen 1; have y2 := HB1.out.cell (i := 2) rfl; have v2 := HB1.out.frozen 2; have y3 := HB1.out.cell (i := 3) rfl; have v3 := HB1.out.frozen 3; have y4 := HB1.out.cell (i := 4) rfl; have v4 := HB1.out.frozen 4; have y5 := HB1.out.cell (i := 5) rfl; have v5 := HB1.out.frozen 5; have y6 := HB1.out.cell (i := 6) rfl; have v6 := HB1.out.frozen 6; have HM2 : Hid (MAt (W.setCell ⟨p, 14, none⟩ (.int .i64 c.feW)) lo mid hi p g3 c.fe2) := hide (HM1.out.cWo c.feW); have HB2 := hide (HB1.out.other p 14 (.int .i64 c.feW) (by omega)); have HS2 := hide (HS1.out.set p 14 (.int .i64 c.feW) HPH.out); have hbW := HB1.out.lt; have HMp : Hid (MAt (W.setCell ⟨p, 14, none⟩ (.int .i64 c.feW)) lo mid hi p g3 c.fe3) := hide (by rw [E4.out]; exact HM2.out); have HBp := HB2; have HGp := HG1B; have HSp := HS2) | (go_at_call 16; have z9 := HG1B; refine (mFine _ lo mid hi p g3 _ HM1.out).mono ?_; rintro e9 w9 ⟨rfl, hw⟩; have hw2 := hw.symm; clear hw; subst hw2; rw [hf1]) | (go_at_call 31; refine (specLong c.feW _ hw0 hw1).mono ?_; rintro e9 w9 ⟨rfl, hw⟩; have hw2 := hw.symm; clear hw; subst hw2) | (go_at_call 32; have z9 := HGp; refine (specDecode _ c.feW 0 hw0 hw1).mono ?_; rintro e9 W3 ⟨rfl, hk9⟩; have HK3 := hide hk9; clear hk9) | (go_at_call 33; have z9 := HK3; refine (specGoodIns _ (Pl.decode c.feW 0).op (Pl.decode c.feW 0).z (Pl.decode c.feW 0).r (Pl.decode c.feW 0).m (Pl.decode c.feW 0).k (Pl.decode c.feW 0).e (Pl.decode c.feW 0).s).mono ?_; rintro e9 W4 ⟨rfl, hk9⟩; rw [HOK.out]; have K4 := hide ((kept_new HK3.out (.cells #[.int .i64 (Pl.decode c.feW 0).op, .int .i64 (Pl.decode c.feW 0).z, .int .i64 (Pl.decode c.feW 0).r, .int .i64 (Pl.decode c.feW 0).m, .int .i64 (Pl.decode c.feW 0).k, .int .i64 (Pl.decode c.feW 0).e, .int .i64 (Pl.decode c.feW 0).s] 34)).trans hk9); have BX4 := hide ((Blk.new W3 #[.int .i64 (Pl.decode c.feW 0).op, .int .i64 (Pl.decode c.feW 0).z, .int .i64 (Pl.decode c.feW 0).r, .int .i64 (Pl.decode c.feW 0).m, .int .i64 (Pl.decode c.feW 0).k, .int .i64 (Pl.decode c.feW 0).e, .int .i64 (Pl.decode c.feW 0).s] 34).kept0 hk9); have HM4 := hide (HMp.out.any K4.out); have HB4 := hide (HBp.out.kept0 K4.out); have HS4 := hide (HSp.out.any K4.out); clear hk9; clear y0 y1 y2 y3 y4 y5 y6 v0 v1 v2 v3 v4 v5 v6; have y0 := HB4.out.cell (i := 0) rfl; have v0 := HB4.out.frozen 0; have y1 := HB4.out.cell (i := 1) rfl; have v1 := HB4.out.frozen 1; have y2 := HB4.out.cell (i := 2) rfl; have v2 := HB4.out.frozen 2; have y3 := HB4.out.cell (i := 3) rfl; have v3 := HB4.out.frozen 3; have y4 := HB4.out.cell (i := 4) rfl; have v4 := HB4.out.frozen 4; have y5 := HB4.out.cell (i := 5) rfl; have v5 := HB4.out.frozen 5; have y6 := HB4.out.cell (i := 6) rfl; have v6 := HB4.out.frozen 6; have x0 := BX4.out.cell (i := 0) rfl; have x1 := BX4.out.cell (i := 1) rfl; have x2 := BX4.out.cell (i := 2) rfl; have x3 := BX4.out.cell (i := 3) rfl; have x4 := BX4.out.cell (i := 4) rfl; have x5 := BX4.out.cell (i := 5) rfl; have x6 := BX4.out.cell (i := 6) rfl; have hx4 := HM4.out; obtain ⟨_, _, _, _, _, _, _, hB9, _⟩ := hx4; have hpw4 := hB9.lt; have hbw4 := HB4.out.lt; have hxw4 := BX4.out.lt; obtain ⟨t0, t1, t2, t3, t4, t5, t6, t7, t8, t9, t10, t11, _⟩ := hB9.cells; have f11 := hB9.frozen 11; clear hB9 t0 t1 t2 t3 t4 t5 t6 t7 t8 t9 t10))
        refine bodyPost_ret (v := .tuple #[.agg (insC c.fetI), .int .i64 c.fetN]) ?_ rfl ⟨rfl, g3, ?_, ?_⟩
        · rw [results_cell_tmp rfl, E2.out, E3.out]; go_simp; rfl
        · rw [E.out]; exact (HM4.out.cV 4).past (kept7 _ _ _ _ _ _ _ _ _) HHB.out HGp.out
        · exact since7 (HS4.out.set p 11 _ HPH.out) (Nat.le_refl _) _ _ _ _ _ _ _
      · have HOK := hide (HOK0.out.trans ho)
        have E : Hid (c.fetch = c.fe3) := hide (by unfold Pl.Mc.fetch; rw [hf1, hf3, ho]; rfl)
        have E2 : Hid (c.fetI = Pl.decode c.feW 0) := hide (by unfold Pl.Mc.fetI; rw [hf1, hf3, ho]; unfold Pl.Mc.feX; rw [EV.out]; rfl)
        have E3 : Hid (c.fetN = Pl.longW c.feW) := hide (by unfold Pl.Mc.fetN; rw [hf1, hf3, ho]; rfl)
        go_enter Tryz.func15, Tryz.ntmps15
        go_wp2_with (first | (go_at_call 30; refine (mAccess _ lo mid hi p g2 c.fe0 3 2 c.r.p 0 HM0.out HG0.out HA0.out).mono ?_; rw [show Pl.Mc.accV c.fe0 3 2 c.r.p 0 = c.feW from rfl]; rintro e9 W ⟨rfl, g3, hm9, hb9⟩; have HM1 : Hid (MAt W lo mid hi p g3 c.fe1) := hide hm9; have HB1 := hide (hb9.blk HBO.out HHB.out HGB.out); have HG1B := hide (hb9.ne (by simp; omega) HGB.out); have HS1 := hide (HS0.out.trans hb9); obtain ⟨_, _, _, _, _, _, _, hB9, _⟩ := hm9; have hpw := hB9.lt; obtain ⟨t0, t1, t2, t3, t4, t5, t6, t7, t8, t9, t10, t11, t12, t13, t14, t15⟩ := hB9.cells; have f14 := hB9.frozen 14; clear hb9 hB9 t0 t1 t2 t3 t4 t5 t6 t7 t8 t9 t10 t11 t12 t13 t15; have y0 := HB1.out.cell (i := 0) rfl; have v0 := HB1.out.frozen 0; have y1 := HB1.out.cell (i := 1) rfl; have v1 := HB1.out.frozen 1; have y2 := HB1.out.cell (i := 2) rfl; have v2 := HB1.out.frozen 2; have y3 := HB1.out.cell (i := 3) rfl; have v3 := HB1.out.frozen 3; have y4 := HB1.out.cell (i := 4) rfl; have v4 := HB1.out.frozen 4; have y5 := HB1.out.cell (i := 5) rfl; have v5 := HB1.out.frozen 5; have y6 := HB1.out.cell (i := 6) rfl; have v6 := HB1.out.frozen 6; have HM2 : Hid (MAt (W.setCell ⟨p, 14, none⟩ (.int .i64 c.feW)) lo mid hi p g3 c.fe2) := hide (HM1.out.cWo c.feW); have HB2 := hide (HB1.out.other p 14 (.int .i64 c.feW) (by omega)); have HS2 := hide (HS1.out.set p 14 (.int .i64 c.feW) HPH.out); have hbW := HB1.out.lt; have HMp : Hid (MAt (W.setCell ⟨p, 14, none⟩ (.int .i64 c.feW)) lo mid hi p g3 c.fe3) := hide (by rw [E4.out]; exact HM2.out); have HBp := HB2; have HGp := HG1B; have HSp := HS2) | (go_at_call 16; have z9 := HG1B; refine (mFine _ lo mid hi p g3 _ HM1.out).mono ?_; rintro e9 w9 ⟨rfl, hw⟩; have hw2 := hw.symm; clear hw; subst hw2; rw [hf1]) | (go_at_call 31; refine (specLong c.feW _ hw0 hw1).mono ?_; rintro e9 w9 ⟨rfl, hw⟩; have hw2 := hw.symm; clear hw; subst hw2) | (go_at_call 32; have z9 := HGp; refine (specDecode _ c.feW 0 hw0 hw1).mono ?_; rintro e9 W3 ⟨rfl, hk9⟩; have HK3 := hide hk9; clear hk9) | (go_at_call 33; have z9 := HK3; refine (specGoodIns _ (Pl.decode c.feW 0).op (Pl.decode c.feW 0).z (Pl.decode c.feW 0).r (Pl.decode c.feW 0).m (Pl.decode c.feW 0).k (Pl.decode c.feW 0).e (Pl.decode c.feW 0).s).mono ?_; rintro e9 W4 ⟨rfl, hk9⟩; rw [HOK.out]; have K4 := hide ((kept_new HK3.out (.cells #[.int .i64 (Pl.decode c.feW 0).op, .int .i64 (Pl.decode c.feW 0).z, .int .i64 (Pl.decode c.feW 0).r, .int .i64 (Pl.decode c.feW 0).m, .int .i64 (Pl.decode c.feW 0).k, .int .i64 (Pl.decode c.feW 0).e, .int .i64 (Pl.decode c.feW 0).s] 34)).trans hk9); have BX4 := hide ((Blk.new W3 #[.int .i64 (Pl.decode c.feW 0).op, .int .i64 (Pl.decode c.feW 0).z, .int .i64 (Pl.decode c.feW 0).r, .int .i64 (Pl.decode c.feW 0).m, .int .i64 (Pl.decode c.feW 0).k, .int .i64 (Pl.decode c.feW 0).e, .int .i64 (Pl.decode c.feW 0).s] 34).kept0 hk9); have HM4 := hide (HMp.out.any K4.out); have HB4 := hide (HBp.out.kept0 K4.out); have HS4 := hide (HSp.out.any K4.out); clear hk9; clear y0 y1 y2 y3 y4 y5 y6 v0 v1 v2 v3 v4 v5 v6; have y0 := HB4.out.cell (i := 0) rfl; have v0 := HB4.out.frozen 0; have y1 := HB4.out.cell (i := 1) rfl; have v1 := HB4.out.frozen 1; have y2 := HB4.out.cell (i := 2) rfl; have v2 := HB4.out.frozen 2; have y3 := HB4.out.cell (i := 3) rfl; have v3 := HB4.out.frozen 3; have y4 := HB4.out.cell (i := 4) rfl; have v4 := HB4.out.frozen 4; have y5 := HB4.out.cell (i := 5) rfl; have v5 := HB4.out.frozen 5; have y6 := HB4.out.cell (i := 6) rfl; have v6 := HB4.out.frozen 6; have x0 := BX4.out.cell (i := 0) rfl; have x1 := BX4.out.cell (i := 1) rfl; have x2 := BX4.out.cell (i := 2) rfl; have x3 := BX4.out.cell (i := 3) rfl; have x4 := BX4.out.cell (i := 4) rfl; have x5 := BX4.out.cell (i := 5) rfl; have x6 := BX4.out.cell (i := 6) rfl; have hx4 := HM4.out; obtain ⟨_, _, _, _, _, _, _, hB9, _⟩ := hx4; have hpw4 := hB9.lt; have hbw4 := HB4.out.lt; have hxw4 := BX4.out.lt; obtain ⟨t0, t1, t2, t3, t4, t5, t6, t7, t8, t9, t10, t11, _⟩ := hB9.cells; have f11 := hB9.frozen 11; clear hB9 t0 t1 t2 t3 t4 t5 t6 t7 t8 t9 t10))
        refine bodyPost_ret (v := .tuple #[.agg (insC c.fetI), .int .i64 c.fetN]) ?_ rfl ⟨rfl, g3, ?_, ?_⟩
        · rw [results_cell_tmp rfl, E2.out, E3.out]; go_simp; rfl
        · rw [E.out]; exact HM4.out.past (kept7 _ _ _ _ _ _ _ _ _) HHB.out HGp.out
        · exact since7 HS4.out (Nat.le_refl _) _ _ _ _ _ _ _
    · have E4 : Hid (c.fe3 = c.fe2.acc 3 2 c.feA 0) := hide (by unfold Pl.Mc.fe3; rw [hL]; rfl)
      have EN : Hid (Pl.Mc.accV c.fe2 3 2 c.feA 0 = c.feN) := hide (by unfold Pl.Mc.feN; rw [hL]; rfl)
      cases hf2 : c.fe3.fine
      · have E : Hid (c.fetch = c.fe3) := hide (by unfold Pl.Mc.fetch; rw [hf1, hf2]; rfl)
        have E2 : Hid (c.fetI = Pl.inNo) := hide (by unfold Pl.Mc.fetI; rw [hf1, hf2]; rfl)
        have E3 : Hid (c.fetN = 0) := hide (by unfold Pl.Mc.fetN; rw [hf1, hf2]; rfl)
        go_enter Tryz.func15, Tryz.ntmps15
        go_wp2_with (first | (go_at_call 30; have z9 := HM2; refine (mAccess _ lo mid hi p g3 c.fe2 3 2 c.feA 0 HM2.out HG2.out HA2.out).mono ?_; rw [show Pl.Mc.accV c.fe2 3 2 c.feA 0 = c.feN from EN.out]; rintro e9 W5 ⟨rfl, g4, hm9, hb9⟩; have HMp : Hid (MAt W5 lo mid hi p g4 c.fe3) := hide (by rw [E4.out]; exact hm9); have HBp := hide (hb9.blk HB2.out HHB.out HG1B.out); have HGp := hide (hb9.ne (by simp; omega) HG1B.out); have HSp := hide (HS2.out.trans hb9); clear hm9 hb9; clear y0 y1 y2 y3 y4 y5 y6 v0 v1 v2 v3 v4 v5 v6; have y0 := HBp.out.cell (i := 0) rfl; have v0 := HBp.out.frozen 0; have y1 := HBp.out.cell (i := 1) rfl; have v1 := HBp.out.frozen 1; have y2 := HBp.out.cell (i := 2) rfl; have v2 := HBp.out.frozen 2; have y3 := HBp.out.cell (i := 3) rfl; have v3 := HBp.out.frozen 3; have y4 := HBp.out.cell (i := 4) rfl; have v4 := HBp.out.frozen 4; have y5 := HBp.out.cell (i := 5) rfl; have v5 := HBp.out.frozen 5; have y6 := HBp.out.cell (i := 6) rfl; have v6 := HBp.out.frozen 6) | (go_at_call 16; have z9 := HGp; refine (mFine _ lo mid hi p g4 _ HMp.out).mono ?_; rintro e9 w9 ⟨rfl, hw⟩; have hw2 := hw.symm; clear hw; subst hw2; rw [hf2]) | (go_at_call 30; refine (mAccess _ lo mid hi p g2 c.fe0 3 2 c.r.p 0 HM0.out HG0.out HA0.out).mono ?_; rw [show Pl.Mc.accV c.fe0 3 2 c.r.p 0 = c.feW from rfl]; rintro e9 W ⟨rfl, g3, hm9, hb9⟩; have HM1 : Hid (MAt W lo mid hi p g3 c.fe1) := hide hm9; have HB1 := hide (hb9.blk HBO.out HHB.out HGB.out); have HG1B := hide (hb9.ne (by simp; omega) HGB.out); have HS1 := hide (HS0.out.trans hb9); obtain ⟨_, _, _, _, _, _, _, hB9, _⟩ := hm9; have hpw := hB9.lt; obtain ⟨t0, t1, t2, t3, t4, t5, t6, t7, t8, t9, t10, t11, t12, t13, t14, t15⟩ := hB9.cells; have f14 := hB9.frozen 14; clear hb9 hB9 t0 t1 t2 t3 t4 t5 t6 t7 t8 t9 t10 t11 t12 t13 t15; have y0 := HB1.out.cell (i := 0) rfl; have v0 := HB1.out.frozen 0; have y1 := HB1.out.cell (i := 1) rfl; have v1 := HB1.out.frozen 1; have y2 := HB1.out.cell (i := 2) rfl; have v2 := HB1.out.frozen 2; have y3 := HB1.out.cell (i := 3) rfl; have v3 := HB1.out.frozen 3; have y4 := HB1.out.cell (i := 4) rfl; have v4 := HB1.out.frozen 4; have y5 := HB1.out.cell (i := 5) rfl; have v5 := HB1.out.frozen 5; have y6 := HB1.out.cell (i := 6) rfl; have v6 := HB1.out.frozen 6; have HM2 : Hid (MAt (W.setCell ⟨p, 14, none⟩ (.int .i64 c.feW)) lo mid hi p g3 c.fe2) := hide (HM1.out.cWo c.feW); have HB2 := hide (HB1.out.other p 14 (.int .i64 c.feW) (by omega)); have HS2 := hide (HS1.out.set p 14 (.int .i64 c.feW) HPH.out); have hbW := HB1.out.lt) | (go_at_call 16; have z9 := HG1B; refine (mFine _ lo mid hi p g3 _ HM1.out).mono ?_; rintro e9 w9 ⟨rfl, hw⟩; have hw2 := hw.symm; clear hw; subst hw2; rw [hf1]) | (go_at_call 31; refine (specLong c.feW _ hw0 hw1).mono ?_; rintro e9 w9 ⟨rfl, hw⟩; have hw2 := hw.symm; clear hw; subst hw2))
        refine bodyPost_ret (v := .tuple #[.agg (insC c.fetI), .int .i64 c.fetN]) ?_ rfl ⟨rfl, g4, ?_, ?_⟩
        · rw [results_cell_tmp rfl, E2.out, E3.out]; go_simp; rfl
        · rw [E.out]; exact HMp.out.past (kept7 _ _ _ _ _ _ _ _ _) HHB.out HGp.out
        · exact since7 HSp.out (Nat.le_refl _) _ _ _ _ _ _ _
      · have hf3 := hf2
        have EV : Hid (c.feN = c.feN) := hide rfl
        have HOK0 : Hid (Pl.inOk ⟨(Pl.decode c.feW c.feN).op, (Pl.decode c.feW c.feN).z, (Pl.decode c.feW c.feN).r, (Pl.decode c.feW c.feN).m, (Pl.decode c.feW c.feN).k, (Pl.decode c.feW c.feN).e, (Pl.decode c.feW c.feN).s⟩ = Pl.inOk c.feX) := hide (by unfold Pl.Mc.feX; rw [EV.out])
        cases ho : Pl.inOk c.feX
        · have HOK := hide (HOK0.out.trans ho)
          have E : Hid (c.fetch = c.fe4) := hide (by unfold Pl.Mc.fetch; rw [hf1, hf3, ho]; rfl)
          have E2 : Hid (c.fetI = Pl.inNo) := hide (by unfold Pl.Mc.fetI; rw [hf1, hf3, ho]; rfl)
          have E3 : Hid (c.fetN = 0) := hide (by unfold Pl.Mc.fetN; rw [hf1, hf3, ho]; rfl)
          go_enter Tryz.func15, Tryz.ntmps15
          go_wp2_with (first | (go_at_call 30; have z9 := HM2; refine (mAccess _ lo mid hi p g3 c.fe2 3 2 c.feA 0 HM2.out HG2.out HA2.out).mono ?_; rw [show Pl.Mc.accV c.fe2 3 2 c.feA 0 = c.feN from EN.out]; rintro e9 W5 ⟨rfl, g4, hm9, hb9⟩; have HMp : Hid (MAt W5 lo mid hi p g4 c.fe3) := hide (by rw [E4.out]; exact hm9); have HBp := hide (hb9.blk HB2.out HHB.out HG1B.out); have HGp := hide (hb9.ne (by simp; omega) HG1B.out); have HSp := hide (HS2.out.trans hb9); clear hm9 hb9; clear y0 y1 y2 y3 y4 y5 y6 v0 v1 v2 v3 v4 v5 v6; have y0 := HBp.out.cell (i := 0) rfl; have v0 := HBp.out.frozen 0; have y1 := HBp.out.cell (i := 1) rfl; have v1 := HBp.out.frozen 1; have y2 := HBp.out.cell (i := 2) rfl; have v2 := HBp.out.frozen 2; have y3 := HBp.out.cell (i := 3) rfl; have v3 := HBp.out.frozen 3; have y4 := HBp.out.cell (i := 4) rfl; have v4 := HBp.out.frozen 4; have y5 := HBp.out.cell (i := 5) rfl; have v5 := HBp.out.frozen 5; have y6 := HBp.out.cell (i := 6) rfl; have v6 := HBp.out.frozen 6) | (go_at_call 16; have z9 := HGp; refine (mFine _ lo mid hi p g4 _ HMp.out).mono ?_; rintro e9 w9 ⟨rfl, hw⟩; have hw2 := hw.symm; clear hw; subst hw2; rw [hf2]) | (go_at_call 30; refine (mAccess _ lo mid hi p g2 c.fe0 3 2 c.r.p 0 HM0.out HG0.out HA0.out).mono ?_; rw [show Pl.Mc.accV c.fe0 3 2 c.r.p 0 = c.feW from rfl]; rintro e9 W ⟨rfl, g3, hm9, hb9⟩; have HM1 : Hid (MAt W lo mid hi p g3 c.fe1) := hide hm9; have HB1 := hide (hb9.blk HBO.out HHB.out HGB.out); have HG1B := hide (hb9.ne (by simp; omega) HGB.out); have HS1 := hide (HS0.out.trans hb9); obtain ⟨_, _, _, _, _, _, _, hB9, _⟩ := hm9; have hpw := hB9.lt; obtain ⟨t0, t1, t2, t3, t4, t5, t6, t7, t8, t9, t10, t11, t12, t13, t14, t15⟩ := hB9.cells; have f14 := hB9.frozen 14; clear hb9 hB9 t0 t1 t2 t3 t4 t5 t6 t7 t8 t9 t10 t11 t12 t13 t15; have y0 := HB1.out.cell (i := 0) rfl; have v0 := HB1.out.frozen 0; have y1 := HB1.out.cell (i := 1) rfl; have v1 := HB1.out.frozen 1; have y2 := HB1.out.cell (i := 2) rfl; have v2 := HB1.out.frozen 2; have y3 := HB1.out.cell (i := 3) rfl; have v3 := HB1.out.frozen 3; have y4 := HB1.out.cell (i := 4) rfl; have v4 := HB1.out.frozen 4; have y5 := HB1.out.cell (i := 5) rfl; have v5 := HB1.out.frozen 5; have y6 := HB1.out.cell (i := 6) rfl; have v6 := HB1.out.frozen 6; have HM2 : Hid (MAt (W.setCell ⟨p, 14, none⟩ (.int .i64 c.feW)) lo mid hi p g3 c.fe2) := hide (HM1.out.cWo c.feW); have HB2 := hide (HB1.out.other p 14 (.int .i64 c.feW) (by omega)); have HS2 := hide (HS1.out.set p 14 (.int .i64 c.feW) HPH.out); have hbW := HB1.out.lt) | (go_at_call 16; have z9 := HG1B; refine (mFine _ lo mid hi p g3 _ HM1.out).mono ?_; rintro e9 w9 ⟨rfl, hw⟩; have hw2 := hw.symm; clear hw; subst hw2; rw [hf1]) | (go_at_call 31; refine (specLong c.feW _ hw0 hw1).mono ?_; rintro e9 w9 ⟨rfl, hw⟩; have hw2 := hw.symm; clear hw; subst hw2) | (go_at_call 32; have z9 := HGp; refine (specDecode _ c.feW c.feN hw0 hw1).mono ?_; rintro e9 W3 ⟨rfl, hk9⟩; have HK3 := hide hk9; clear hk9) | (go_at_call 33; have z9 := HK3; refine (specGoodIns _ (Pl.decode c.feW c.feN).op (Pl.decode c.feW c.feN).z (Pl.decode c.feW c.feN).r (Pl.decode c.feW c.feN).m (Pl.decode c.feW c.feN).k (Pl.decode c.feW c.feN).e (Pl.decode c.feW c.feN).s).mono ?_; rintro e9 W4 ⟨rfl, hk9⟩; rw [HOK.out]; have K4 := hide ((kept_new HK3.out (.cells #[.int .i64 (Pl.decode c.feW c.feN).op, .int .i64 (Pl.decode c.feW c.feN).z, .int .i64 (Pl.decode c.feW c.feN).r, .int .i64 (Pl.decode c.feW c.feN).m, .int .i64 (Pl.decode c.feW c.feN).k, .int .i64 (Pl.decode c.feW c.feN).e, .int .i64 (Pl.decode c.feW c.feN).s] 34)).trans hk9); have BX4 := hide ((Blk.new W3 #[.int .i64 (Pl.decode c.feW c.feN).op, .int .i64 (Pl.decode c.feW c.feN).z, .int .i64 (Pl.decode c.feW c.feN).r, .int .i64 (Pl.decode c.feW c.feN).m, .int .i64 (Pl.decode c.feW c.feN).k, .int .i64 (Pl.decode c.feW c.feN).e, .int .i64 (Pl.decode c.feW c.feN).s] 34).kept0 hk9); have HM4 := hide (HMp.out.any K4.out); have HB4 := hide (HBp.out.kept0 K4.out); have HS4 := hide (HSp.out.any K4.out); clear hk9; clear y0 y1 y2 y3 y4 y5 y6 v0 v1 v2 v3 v4 v5 v6; have y0 := HB4.out.cell (i := 0) rfl; have v0 := HB4.out.frozen 0; have y1 := HB4.out.cell (i := 1) rfl; have v1 := HB4.out.frozen 1; have y2 := HB4.out.cell (i := 2) rfl; have v2 := HB4.out.frozen 2; have y3 := HB4.out.cell (i := 3) rfl; have v3 := HB4.out.frozen 3; have y4 := HB4.out.cell (i := 4) rfl; have v4 := HB4.out.frozen 4; have y5 := HB4.out.cell (i := 5) rfl; have v5 := HB4.out.frozen 5; have y6 := HB4.out.cell (i := 6) rfl; have v6 := HB4.out.frozen 6; have x0 := BX4.out.cell (i := 0) rfl; have x1 := BX4.out.cell (i := 1) rfl; have x2 := BX4.out.cell (i := 2) rfl; have x3 := BX4.out.cell (i := 3) rfl; have x4 := BX4.out.cell (i := 4) rfl; have x5 := BX4.out.cell (i := 5) rfl; have x6 := BX4.out.cell (i := 6) rfl; have hx4 := HM4.out; obtain ⟨_, _, _, _, _, _, _, hB9, _⟩ := hx4; have hpw4 := hB9.lt; have hbw4 := HB4.out.lt; have hxw4 := BX4.out.lt; obtain ⟨t0, t1, t2, t3, t4, t5, t6, t7, t8, t9, t10, t11, _⟩ := hB9.cells; have f11 := hB9.frozen 11; clear hB9 t0 t1 t2 t3 t4 t5 t6 t7 t8 t9 t10))
          refine bodyPost_ret (v := .tuple #[.agg (insC c.fetI), .int .i64 c.fetN]) ?_ rfl ⟨rfl, g4, ?_, ?_⟩
          · rw [results_cell_tmp rfl, E2.out, E3.out]; go_simp; rfl
          · rw [E.out]; exact (HM4.out.cV 4).past (kept7 _ _ _ _ _ _ _ _ _) HHB.out HGp.out
          · exact since7 (HS4.out.set p 11 _ HPH.out) (Nat.le_refl _) _ _ _ _ _ _ _
        · have HOK := hide (HOK0.out.trans ho)
          have E : Hid (c.fetch = c.fe3) := hide (by unfold Pl.Mc.fetch; rw [hf1, hf3, ho]; rfl)
          have E2 : Hid (c.fetI = Pl.decode c.feW c.feN) := hide (by unfold Pl.Mc.fetI; rw [hf1, hf3, ho]; unfold Pl.Mc.feX; rw [EV.out]; rfl)
          have E3 : Hid (c.fetN = Pl.longW c.feW) := hide (by unfold Pl.Mc.fetN; rw [hf1, hf3, ho]; rfl)
          go_enter Tryz.func15, Tryz.ntmps15
          go_wp2_with (first | (go_at_call 30; have z9 := HM2; refine (mAccess _ lo mid hi p g3 c.fe2 3 2 c.feA 0 HM2.out HG2.out HA2.out).mono ?_; rw [show Pl.Mc.accV c.fe2 3 2 c.feA 0 = c.feN from EN.out]; rintro e9 W5 ⟨rfl, g4, hm9, hb9⟩; have HMp : Hid (MAt W5 lo mid hi p g4 c.fe3) := hide (by rw [E4.out]; exact hm9); have HBp := hide (hb9.blk HB2.out HHB.out HG1B.out); have HGp := hide (hb9.ne (by simp; omega) HG1B.out); have HSp := hide (HS2.out.trans hb9); clear hm9 hb9; clear y0 y1 y2 y3 y4 y5 y6 v0 v1 v2 v3 v4 v5 v6; have y0 := HBp.out.cell (i := 0) rfl; have v0 := HBp.out.frozen 0; have y1 := HBp.out.cell (i := 1) rfl; have v1 := HBp.out.frozen 1; have y2 := HBp.out.cell (i := 2) rfl; have v2 := HBp.out.frozen 2; have y3 := HBp.out.cell (i := 3) rfl; have v3 := HBp.out.frozen 3; have y4 := HBp.out.cell (i := 4) rfl; have v4 := HBp.out.frozen 4; have y5 := HBp.out.cell (i := 5) rfl; have v5 := HBp.out.frozen 5; have y6 := HBp.out.cell (i := 6) rfl; have v6 := HBp.out.frozen 6) | (go_at_call 16; have z9 := HGp; refine (mFine _ lo mid hi p g4 _ HMp.out).mono ?_; rintro e9 w9 ⟨rfl, hw⟩; have hw2 := hw.symm; clear hw; subst hw2; rw [hf2]) | (go_at_call 30; refine (mAccess _ lo mid hi p g2 c.fe0 3 2 c.r.p 0 HM0.out HG0.out HA0.out).mono ?_; rw [show Pl.Mc.accV c.fe0 3 2 c.r.p 0 = c.feW from rfl]; rintro e9 W ⟨rfl, g3, hm9, hb9⟩; have HM1 : Hid (MAt W lo mid hi p g3 c.fe1) := hide hm9; have HB1 := hide (hb9.blk HBO.out HHB.out HGB.out); have HG1B := hide (hb9.ne (by simp; omega) HGB.out); have HS1 := hide (HS0.out.trans hb9); obtain ⟨_, _, _, _, _, _, _, hB9, _⟩ := hm9; have hpw := hB9.lt; obtain ⟨t0, t1, t2, t3, t4, t5, t6, t7, t8, t9, t10, t11, t12, t13, t14, t15⟩ := hB9.cells; have f14 := hB9.frozen 14; clear hb9 hB9 t0 t1 t2 t3 t4 t5 t6 t7 t8 t9 t10 t11 t12 t13 t15; have y0 := HB1.out.cell (i := 0) rfl; have v0 := HB1.out.frozen 0; have y1 := HB1.out.cell (i := 1) rfl; have v1 := HB1.out.frozen 1; have y2 := HB1.out.cell (i := 2) rfl; have v2 := HB1.out.frozen 2; have y3 := HB1.out.cell (i := 3) rfl; have v3 := HB1.out.frozen 3; have y4 := HB1.out.cell (i := 4) rfl; have v4 := HB1.out.frozen 4; have y5 := HB1.out.cell (i := 5) rfl; have v5 := HB1.out.frozen 5; have y6 := HB1.out.cell (i := 6) rfl; have v6 := HB1.out.frozen 6; have HM2 : Hid (MAt (W.setCell ⟨p, 14, none⟩ (.int .i64 c.feW)) lo mid hi p g3 c.fe2) := hide (HM1.out.cWo c.feW); have HB2 := hide (HB1.out.other p 14 (.int .i64 c.feW) (by omega)); have HS2 := hide (HS1.out.set p 14 (.int .i64 c.feW) HPH.out); have hbW := HB1.out.lt) | (go_at_call 16; have z9 := HG1B; refine (mFine _ lo mid hi p g3 _ HM1.out).mono ?_; rintro e9 w9 ⟨rfl, hw⟩; have hw2 := hw.symm; clear hw; subst hw2; rw [hf1]) | (go_at_call 31; refine (specLong c.feW _ hw0 hw1).mono ?_; rintro e9 w9 ⟨rfl, hw⟩; have hw2 := hw.symm; clear hw; subst hw2) | (go_at_call 32; have z9 := HGp; refine (specDecode _ c.feW c.feN hw0 hw1).mono ?_; rintro e9 W3 ⟨rfl, hk9⟩; have HK3 := hide hk9; clear hk9) | (go_at_call 33; have z9 := HK3; refine (specGoodIns _ (Pl.decode c.feW c.feN).op (Pl.decode c.feW c.feN).z (Pl.decode c.feW c.feN).r (Pl.decode c.feW c.feN).m (Pl.decode c.feW c.feN).k (Pl.decode c.feW c.feN).e (Pl.decode c.feW c.feN).s).mono ?_; rintro e9 W4 ⟨rfl, hk9⟩; rw [HOK.out]; have K4 := hide ((kept_new HK3.out (.cells #[.int .i64 (Pl.decode c.feW c.feN).op, .int .i64 (Pl.decode c.feW c.feN).z, .int .i64 (Pl.decode c.feW c.feN).r, .int .i64 (Pl.decode c.feW c.feN).m, .int .i64 (Pl.decode c.feW c.feN).k, .int .i64 (Pl.decode c.feW c.feN).e, .int .i64 (Pl.decode c.feW c.feN).s] 34)).trans hk9); have BX4 := hide ((Blk.new W3 #[.int .i64 (Pl.decode c.feW c.feN).op, .int .i64 (Pl.decode c.feW c.feN).z, .int .i64 (Pl.decode c.feW c.feN).r, .int .i64 (Pl.decode c.feW c.feN).m, .int .i64 (Pl.decode c.feW c.feN).k, .int .i64 (Pl.decode c.feW c.feN).e, .int .i64 (Pl.decode c.feW c.feN).s] 34).kept0 hk9); have HM4 := hide (HMp.out.any K4.out); have HB4 := hide (HBp.out.kept0 K4.out); have HS4 := hide (HSp.out.any K4.out); clear hk9; clear y0 y1 y2 y3 y4 y5 y6 v0 v1 v2 v3 v4 v5 v6; have y0 := HB4.out.cell (i := 0) rfl; have v0 := HB4.out.frozen 0; have y1 := HB4.out.cell (i := 1) rfl; have v1 := HB4.out.frozen 1; have y2 := HB4.out.cell (i := 2) rfl; have v2 := HB4.out.frozen 2; have y3 := HB4.out.cell (i := 3) rfl; have v3 := HB4.out.frozen 3; have y4 := HB4.out.cell (i := 4) rfl; have v4 := HB4.out.frozen 4; have y5 := HB4.out.cell (i := 5) rfl; have v5 := HB4.out.frozen 5; have y6 := HB4.out.cell (i := 6) rfl; have v6 := HB4.out.frozen 6; have x0 := BX4.out.cell (i := 0) rfl; have x1 := BX4.out.cell (i := 1) rfl; have x2 := BX4.out.cell (i := 2) rfl; have x3 := BX4.out.cell (i := 3) rfl; have x4 := BX4.out.cell (i := 4) rfl; have x5 := BX4.out.cell (i := 5) rfl; have x6 := BX4.out.cell (i := 6) rfl; have hx4 := HM4.out; obtain ⟨_, _, _, _, _, _, _, hB9, _⟩ := hx4; have hpw4 := hB9.lt; have hbw4 := HB4.out.lt; have hxw4 := BX4.out.lt; obtain ⟨t0, t1, t2, t3, t4, t5, t6, t7, t8, t9, t10, t11, _⟩ := hB9.cells; have f11 := hB9.frozen 11; clear hB9 t0 t1 t2 t3 t4 t5 t6 t7 t8 t9 t10))
          refine bodyPost_ret (v := .tuple #[.agg (insC c.fetI), .int .i64 c.fetN]) ?_ rfl ⟨rfl, g4, ?_, ?_⟩
          · rw [results_cell_tmp rfl, E2.out, E3.out]; go_simp; rfl
          · rw [E.out]; exact HM4.out.past (kept7 _ _ _ _ _ _ _ _ _) HHB.out HGp.out
          · exact since7 HS4.out (Nat.le_refl _) _ _ _ _ _ _ _
end Go.Proofs.YtblddehlkaolbaaGreat

namespace Go.Proofs.YtblddehlkaolbaaGreat
open Go.RowKit
def ftC (f : Pl.Ft) : Array Value := #[.int .i64 f.v, .int .i64 f.pc, .int .i64 f.ad, .int .i64 f.wo, .bool f.wr]
theorem results_tc {fn : Func} {p q : Tmp} {tz : TypeId} (h : fn.results = #[.tmp p, .cell q tz]) (tmps : Array Value) (P : Program) (w : World) :
    (results fn tmps).run P w = ((asAddr (tmps.getD q undef)).run P w).andThen fun b w₁ => ((loadVar tz b).run P w₁).andThen fun u w₂ => .ok (.tuple #[tmps.getD p undef, u]) w₂ := by
  simp only [results, h]
  simp [Sem.run_bind, Result.andThen]
end Go.Proofs.YtblddehlkaolbaaGreat

namespace Go.Proofs.YtblddehlkaolbaaGreat
open Go.RowKit
set_option linter.unusedVariables false
theorem below_since {w w' : World} {lo hi g g' : Nat} (h : Since w lo hi g w' g') (hg : lo ≤ g) (hs : lo ≤ w.heap.size) : Below lo w w' := ⟨h.2.os, h.2.tape, h.2.output, h.2.size, fun k hk => h.2.block k (by omega) (by unfold own; omega)⟩
theorem below_kpt {w w' : World} {lo : Nat} (k : Kept 0 0 w w') (hs : lo ≤ w.heap.size) : Below lo w w' := ⟨k.os, k.tape, k.output, k.size, fun i hi => k.block i (by omega) (by omega)⟩
theorem Blk.below {w w' : World} {lo b : Nat} {cs : Array Value} {ty : TypeId} (h : Blk w b cs ty) (k : Below lo w w') (hb : b < lo) : Blk w' b cs ty := (k.block b hb).trans h
theorem MAt.logLo {w : World} {lo mid hi p g2 : Nat} {c : Pl.Mc} (h : MAt w lo mid hi p g2 c) : lo ≤ g2 := by
  obtain ⟨gd, cd, ga, ca, g1, c1, c2, hB, hO⟩ := h
  have := hO.g2; have := hO.d0; have := hO.d1
  omega
end Go.Proofs.YtblddehlkaolbaaGreat

namespace Go.Proofs.YtblddehlkaolbaaGreat
open Go.RowKit
set_option linter.unusedVariables false
theorem specGoodCpu (w : World) (c : Pl.Cp) (a b e q : Option Addr) (ca cb ce cq : Nat) (ha : IRow w a c.r.xs) (hb : IRow w b c.r.ys) (he : IRow w e c.bx) (hq : IRow w q c.bl) (lx : c.r.xs.length ≤ 2000000) (ly : c.r.ys.length ≤ 2000000) (lb : c.bx.length ≤ 2000000) (ll : c.bl.length = 5 * c.bm) (lm : c.bm ≤ 2000000) :
    Calls Tryz.prog 13 #[.agg #[.slice a c.r.xs.length ca, .slice b c.r.ys.length cb, .int .i64 c.r.o, .int .i64 c.r.p, .int .i64 c.r.f, .int .i64 c.r.m, .bool c.r.s, .bool c.r.t, .slice e c.bx.length ce, .slice q c.bm cq, .bool c.st, .bool c.ha]] w fun r w' => r = .returned (.bool (Pl.cpOk c)) ∧ Kept 0 0 w w' := by
  have K0 := hide (kept_alloc w (.cells #[.slice a c.r.xs.length ca, .slice b c.r.ys.length cb, .int .i64 c.r.o, .int .i64 c.r.p, .int .i64 c.r.f, .int .i64 c.r.m, .bool c.r.s, .bool c.r.t, .slice e c.bx.length ce, .slice q c.bm cq, .bool c.st, .bool c.ha] 44))
  have BA := Blk.new w #[.slice a c.r.xs.length ca, .slice b c.r.ys.length cb, .int .i64 c.r.o, .int .i64 c.r.p, .int .i64 c.r.f, .int .i64 c.r.m, .bool c.r.s, .bool c.r.t, .slice e c.bx.length ce, .slice q c.bm cq, .bool c.st, .bool c.ha] 44
  obtain ⟨X, hX⟩ : ∃ X : World, w.alloc (.cells #[.slice a c.r.xs.length ca, .slice b c.r.ys.length cb, .int .i64 c.r.o, .int .i64 c.r.p, .int .i64 c.r.f, .int .i64 c.r.m, .bool c.r.s, .bool c.r.t, .slice e c.bx.length ce, .slice q c.bm cq, .bool c.st, .bool c.ha] 44) = X := ⟨_, rfl⟩
  rw [hX] at K0 BA
  have HBA := hide BA
  have HA := hide (ha.keptS K0.out)
  have HB := hide (hb.keptS K0.out)
  have HE := hide (he.keptS K0.out)
  have HQ := hide (hq.keptS K0.out)
  clear BA ha hb he hq
  have i0 := HBA.out.cell (i := 0) rfl
  have i1 := HBA.out.cell (i := 1) rfl
  have i2 := HBA.out.cell (i := 2) rfl
  have i3 := HBA.out.cell (i := 3) rfl
  have i4 := HBA.out.cell (i := 4) rfl
  have i5 := HBA.out.cell (i := 5) rfl
  have i6 := HBA.out.cell (i := 6) rfl
  have i7 := HBA.out.cell (i := 7) rfl
  have i8 := HBA.out.cell (i := 8) rfl
  have i9 := HBA.out.cell (i := 9) rfl
  have i10 := HBA.out.cell (i := 10) rfl
  have i11 := HBA.out.cell (i := 11) rfl
  cases h1 : Pl.rgOk c.r
  · go_enter Tryz.func13, Tryz.ntmps13
    go_wp2_with (first | (go_at_call 27; refine (specGoodRegs _ c.r a b ca cb HA.out HB.out lx ly).mono ?_; rintro e9 W ⟨rfl, k9⟩; rw [h1]; have HK1 := hide k9; have HB1 := hide (HBA.out.kept0 k9); have HE1 := hide (HE.out.keptS k9); have HQ1 := hide (HQ.out.keptS k9); clear k9 i0 i1 i2 i3 i4 i5 i6 i7 i8 i9 i10 i11; have i0 := HB1.out.cell (i := 0) rfl; have i1 := HB1.out.cell (i := 1) rfl; have i2 := HB1.out.cell (i := 2) rfl; have i3 := HB1.out.cell (i := 3) rfl; have i4 := HB1.out.cell (i := 4) rfl; have i5 := HB1.out.cell (i := 5) rfl; have i6 := HB1.out.cell (i := 6) rfl; have i7 := HB1.out.cell (i := 7) rfl; have i8 := HB1.out.cell (i := 8) rfl; have i9 := HB1.out.cell (i := 9) rfl; have i10 := HB1.out.cell (i := 10) rfl; have i11 := HB1.out.cell (i := 11) rfl))
    go_ret
    exact ⟨rB (by unfold Pl.cpOk; simp [h1]), K0.out.trans HK1.out⟩
  · cases h2 : Pl.goodBus c.bx c.bl c.bm
    · go_enter Tryz.func13, Tryz.ntmps13
      go_wp2_with (first | (go_at_call 28; have z9 := HB1; refine (specGoodBus _ e q ce cq c.bm c.bx c.bl HE1.out HQ1.out lb ll lm).mono ?_; rintro e9 W2 ⟨rfl, k9⟩; rw [h2]; have HK2 := hide k9; have HB2 := hide (HB1.out.kept0 k9); clear k9 i0 i1 i2 i3 i4 i5 i6 i7 i8 i9 i10 i11; have i0 := HB2.out.cell (i := 0) rfl; have i1 := HB2.out.cell (i := 1) rfl; have i2 := HB2.out.cell (i := 2) rfl; have i3 := HB2.out.cell (i := 3) rfl; have i4 := HB2.out.cell (i := 4) rfl; have i5 := HB2.out.cell (i := 5) rfl; have i6 := HB2.out.cell (i := 6) rfl; have i7 := HB2.out.cell (i := 7) rfl; have i8 := HB2.out.cell (i := 8) rfl; have i9 := HB2.out.cell (i := 9) rfl; have i10 := HB2.out.cell (i := 10) rfl; have i11 := HB2.out.cell (i := 11) rfl) | (go_at_call 27; refine (specGoodRegs _ c.r a b ca cb HA.out HB.out lx ly).mono ?_; rintro e9 W ⟨rfl, k9⟩; rw [h1]; have HK1 := hide k9; have HB1 := hide (HBA.out.kept0 k9); have HE1 := hide (HE.out.keptS k9); have HQ1 := hide (HQ.out.keptS k9); clear k9 i0 i1 i2 i3 i4 i5 i6 i7 i8 i9 i10 i11; have i0 := HB1.out.cell (i := 0) rfl; have i1 := HB1.out.cell (i := 1) rfl; have i2 := HB1.out.cell (i := 2) rfl; have i3 := HB1.out.cell (i := 3) rfl; have i4 := HB1.out.cell (i := 4) rfl; have i5 := HB1.out.cell (i := 5) rfl; have i6 := HB1.out.cell (i := 6) rfl; have i7 := HB1.out.cell (i := 7) rfl; have i8 := HB1.out.cell (i := 8) rfl; have i9 := HB1.out.cell (i := 9) rfl; have i10 := HB1.out.cell (i := 10) rfl; have i11 := HB1.out.cell (i := 11) rfl))
      go_ret
      exact ⟨rB (by unfold Pl.cpOk; simp [h1, h2]), (K0.out.trans HK1.out).trans HK2.out⟩
    · rcases Bool.eq_false_or_eq_true c.st with h3 | h3
      · have H3 := hide h3
        rw [H3.out] at i10
        clear h3
        go_enter Tryz.func13, Tryz.ntmps13
        go_wp2_with (first | (go_at_call 28; have z9 := HB1; refine (specGoodBus _ e q ce cq c.bm c.bx c.bl HE1.out HQ1.out lb ll lm).mono ?_; rintro e9 W2 ⟨rfl, k9⟩; rw [h2]; have HK2 := hide k9; have HB2 := hide (HB1.out.kept0 k9); clear k9 i0 i1 i2 i3 i4 i5 i6 i7 i8 i9 i10 i11; have i0 := HB2.out.cell (i := 0) rfl; have i1 := HB2.out.cell (i := 1) rfl; have i2 := HB2.out.cell (i := 2) rfl; have i3 := HB2.out.cell (i := 3) rfl; have i4 := HB2.out.cell (i := 4) rfl; have i5 := HB2.out.cell (i := 5) rfl; have i6 := HB2.out.cell (i := 6) rfl; have i7 := HB2.out.cell (i := 7) rfl; have i8 := HB2.out.cell (i := 8) rfl; have i9 := HB2.out.cell (i := 9) rfl; have i10 := HB2.out.cell (i := 10) rfl; have i11 := HB2.out.cell (i := 11) rfl; rw [H3.out] at i10) | (go_at_call 27; refine (specGoodRegs _ c.r a b ca cb HA.out HB.out lx ly).mono ?_; rintro e9 W ⟨rfl, k9⟩; rw [h1]; have HK1 := hide k9; have HB1 := hide (HBA.out.kept0 k9); have HE1 := hide (HE.out.keptS k9); have HQ1 := hide (HQ.out.keptS k9); clear k9 i0 i1 i2 i3 i4 i5 i6 i7 i8 i9 i10 i11; have i0 := HB1.out.cell (i := 0) rfl; have i1 := HB1.out.cell (i := 1) rfl; have i2 := HB1.out.cell (i := 2) rfl; have i3 := HB1.out.cell (i := 3) rfl; have i4 := HB1.out.cell (i := 4) rfl; have i5 := HB1.out.cell (i := 5) rfl; have i6 := HB1.out.cell (i := 6) rfl; have i7 := HB1.out.cell (i := 7) rfl; have i8 := HB1.out.cell (i := 8) rfl; have i9 := HB1.out.cell (i := 9) rfl; have i10 := HB1.out.cell (i := 10) rfl; have i11 := HB1.out.cell (i := 11) rfl; rw [H3.out] at i10))
        go_ret
        exact ⟨rB (by unfold Pl.cpOk; simp [h1, h2, H3.out]), (K0.out.trans HK1.out).trans HK2.out⟩
      · have H3 := hide h3
        rw [H3.out] at i10
        clear h3
        go_enter Tryz.func13, Tryz.ntmps13
        go_wp2_with (first | (go_at_call 28; have z9 := HB1; refine (specGoodBus _ e q ce cq c.bm c.bx c.bl HE1.out HQ1.out lb ll lm).mono ?_; rintro e9 W2 ⟨rfl, k9⟩; rw [h2]; have HK2 := hide k9; have HB2 := hide (HB1.out.kept0 k9); clear k9 i0 i1 i2 i3 i4 i5 i6 i7 i8 i9 i10 i11; have i0 := HB2.out.cell (i := 0) rfl; have i1 := HB2.out.cell (i := 1) rfl; have i2 := HB2.out.cell (i := 2) rfl; have i3 := HB2.out.cell (i := 3) rfl; have i4 := HB2.out.cell (i := 4) rfl; have i5 := HB2.out.cell (i := 5) rfl; have i6 := HB2.out.cell (i := 6) rfl; have i7 := HB2.out.cell (i := 7) rfl; have i8 := HB2.out.cell (i := 8) rfl; have i9 := HB2.out.cell (i := 9) rfl; have i10 := HB2.out.cell (i := 10) rfl; have i11 := HB2.out.cell (i := 11) rfl; rw [H3.out] at i10) | (go_at_call 27; refine (specGoodRegs _ c.r a b ca cb HA.out HB.out lx ly).mono ?_; rintro e9 W ⟨rfl, k9⟩; rw [h1]; have HK1 := hide k9; have HB1 := hide (HBA.out.kept0 k9); have HE1 := hide (HE.out.keptS k9); have HQ1 := hide (HQ.out.keptS k9); clear k9 i0 i1 i2 i3 i4 i5 i6 i7 i8 i9 i10 i11; have i0 := HB1.out.cell (i := 0) rfl; have i1 := HB1.out.cell (i := 1) rfl; have i2 := HB1.out.cell (i := 2) rfl; have i3 := HB1.out.cell (i := 3) rfl; have i4 := HB1.out.cell (i := 4) rfl; have i5 := HB1.out.cell (i := 5) rfl; have i6 := HB1.out.cell (i := 6) rfl; have i7 := HB1.out.cell (i := 7) rfl; have i8 := HB1.out.cell (i := 8) rfl; have i9 := HB1.out.cell (i := 9) rfl; have i10 := HB1.out.cell (i := 10) rfl; have i11 := HB1.out.cell (i := 11) rfl; rw [H3.out] at i10))
        go_ret
        exact ⟨rB (by unfold Pl.cpOk; simp [h1, h2, H3.out]), (K0.out.trans HK1.out).trans HK2.out⟩
end Go.Proofs.YtblddehlkaolbaaGreat

namespace Go.Proofs.YtblddehlkaolbaaGreat
open Go.RowKit
set_option linter.unusedVariables false
theorem results_cell_t_cell_t {fn : Func} {p u1 q u2 : Tmp} {ty tz : TypeId} (h : fn.results = #[.cell p ty, .tmp u1, .cell q tz, .tmp u2]) (tmps : Array Value) (P : Program) (w : World) :
    (results fn tmps).run P w = ((asAddr (tmps.getD p undef)).run P w).andThen fun a w₁ => ((loadVar ty a).run P w₁).andThen fun v w₂ => ((asAddr (tmps.getD q undef)).run P w₂).andThen fun b w₃ => ((loadVar tz b).run P w₃).andThen fun y w₄ => .ok (.tuple #[v, tmps.getD u1 undef, y, tmps.getD u2 undef]) w₄ := by
  simp only [results, h]
  simp [Sem.run_bind, Result.andThen]
end Go.Proofs.YtblddehlkaolbaaGreat

