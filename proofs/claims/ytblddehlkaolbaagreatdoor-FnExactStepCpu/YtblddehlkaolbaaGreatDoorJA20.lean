/- What the model of an access does to a bus of its own. A processor of one's own, a step that begins, and the processor that it is then. A step that begins, and the processor that it is then. The processor that a step is then. What the model's step fetches. A fault as it is answered. A step of the model. -/
import Derived.Test.YtblddehlkaolbaaGreatDoorJA19
import Derived.Test.YtblddehlkaolbaaGreatDoorJA2
import Derived.Deep.DeepCutAuto
import Derived.Test.YtblddehlkaolbaaGreatDoorJA7
import Derived.Deep.RegionHeld3
import Derived.Test.YtblddehlkaolbaaGreatDoorJA14
import Derived.Test.YtblddehlkaolbaaGreatDoorJA18
namespace Go.Proofs.YtblddehlkaolbaaGreatDoor
open Go.RowKit
set_option linter.unusedVariables false

theorem l4Own (w : World) (a b : Option Addr) (ca cb m : Nat) (xs ys : List Int) (ha : IRow w a xs) (hb : IRow w b ys) (lx : xs.length ≤ 2000000) (ly : ys.length = 5 * m) (bm : m ≤ 2000000) (x0 : 0 < xs.length) :
    Calls Tryz.prog 62 #[.agg #[.slice a xs.length ca, .slice b m cb]] w fun e w' => ∃ (g1 c1 g2 c2 : Nat), e = .returned (.agg #[.slice (some ⟨g1, 0, none⟩) xs.length c1, .slice (some ⟨g2, 0, none⟩) m c2]) ∧ w'.ownsRow w.heap.size 3 1 (.slice (some ⟨g1, 0, none⟩) xs.length c1) xs.length (xs.map (Value.int .i64)) ∧ w'.ownsRow w.heap.size 110 5 (.slice (some ⟨g2, 0, none⟩) m c2) m (ys.map (Value.int .i64)) ∧ g1 ≠ g2 ∧ Kept 0 0 w w' := by
  obtain ⟨ga, oa, rfl, _⟩ := ha 0 x0
  by_cases h0 : m = 0
  · subst h0
    obtain rfl : ys = [] := List.eq_nil_of_length_eq_zero (by omega)
    cases b with
    | none => exact l4Own_nil w ga oa ca cb xs ha lx x0
    | some ad => exact l4Own_none w ga oa ad.block ad.off ad.spot ca cb xs ha lx x0
  · obtain ⟨gb, ob, rfl, _⟩ := hb 0 (by omega)
    refine (l4Own_log w ga oa gb ob ca cb m xs ys ha hb lx ly bm x0 (by omega)).mono ?_
    rintro e w' ⟨g1, c1, g2, c2, rfl, o1, o2, hl, kk⟩
    exact ⟨g1, c1, g2, c2, rfl, o1, o2, by omega, kk⟩

end Go.Proofs.YtblddehlkaolbaaGreatDoor

namespace Go.Proofs.YtblddehlkaolbaaGreatDoor
open Go.RowKit
set_option linter.unusedVariables false
def cpuC (c : Pl.Cp) (gd cd ga ca g1 c1 g2 c2 : Nat) : Array Value := #[.slice (some ⟨gd, 0, none⟩) 4 cd, .slice (some ⟨ga, 0, none⟩) 4 ca, .int .i64 c.r.o, .int .i64 c.r.p, .int .i64 c.r.f, .int .i64 c.r.m, .bool c.r.s, .bool c.r.t, .slice (some ⟨g1, 0, none⟩) 512 c1, .slice (some ⟨g2, 0, none⟩) c.bm c2, .bool c.st, .bool c.ha]
/-- its lists in blocks of their own, from lo on -/
structure CO (w : World) (lo mid : Nat) (c : Pl.Cp) (gd ga g1 g2 c2 : Nat) : Prop where
  d : Own w gd c.r.xs
  a : Own w ga c.r.ys
  b : Own w g1 c.bx
  l : w.ownsRow mid 110 5 (.slice (some ⟨g2, 0, none⟩) c.bm c2) c.bm (c.bl.map (Value.int .i64))
  d0 : lo ≤ gd
  d1 : gd < mid
  a0 : lo ≤ ga
  a1 : ga < mid
  da : gd ≠ ga
  b0 : mid ≤ g1
  b1 : g1 < w.heap.size
  bl : g1 ≠ g2
theorem CO.any {w w' : World} {lo mid gd ga g1 g2 c2 : Nat} {c : Pl.Cp} (h : CO w lo mid c gd ga g1 g2 c2) (k : Kept 0 0 w w') : CO w' lo mid c gd ga g1 g2 c2 :=
  ⟨h.d.keptS k (by omega), h.a.keptS k (by omega), h.b.keptS k (by omega), ownsRow_keptS h.l k (by omega), h.d0, h.d1, h.a0, h.a1, h.da, h.b0, Nat.lt_of_lt_of_le h.b1 k.size, h.bl⟩
theorem slotIn_some {w : World} {lo hi : Nat} {a : Option Addr} {xs : List Int} (h : SlotIn w lo hi a xs) (hx : 0 < xs.length) : ∃ g, a = some ⟨g, 0, none⟩ ∧ lo ≤ g ∧ g < hi ∧ Own w g xs := by
  rcases h with ⟨_, e⟩ | h
  · rw [e] at hx; exact absurd hx (Nat.lt_irrefl 0)
  · exact h
theorem own4 (w : World) (r : Pl.Rg) (a b : Option Addr) (ca cb : Nat) (ha : IRow w a r.xs) (hb : IRow w b r.ys) (h4 : r.xs.length = 4) (h5 : r.ys.length = 4) :
    Calls Tryz.prog 45 #[.agg #[.slice a 4 ca, .slice b 4 cb, .int .i64 r.o, .int .i64 r.p, .int .i64 r.f, .int .i64 r.m, .bool r.s, .bool r.t]] w fun e w' => ∃ gd cd ga cA : Nat, e = .returned (regV r gd cd ga cA) ∧ Own w' gd r.xs ∧ Own w' ga r.ys ∧ w.heap.size ≤ gd ∧ gd < w'.heap.size ∧ w.heap.size ≤ ga ∧ ga < w'.heap.size ∧ gd ≠ ga ∧ Kept 0 0 w w' := by
  have h := specOwn w r a b ca cb ha hb (by omega) (by omega)
  rw [h4, h5] at h
  refine h.mono ?_
  rintro e w' ⟨a', b', ca', cb', rfl, ⟨s1, s2, s3⟩, k⟩
  obtain ⟨gd, rfl, d0, d1, od⟩ := slotIn_some s1 (by omega)
  obtain ⟨ga, rfl, a0, a1, oa⟩ := slotIn_some s2 (by omega)
  exact ⟨gd, ca', ga, cb', rfl, od, oa, d0, d1, a0, a1, fun q => s3 gd rfl (by rw [q]; rfl), k⟩
theorem bus4 (w : World) (a b : Option Addr) (ca cb m : Nat) (xs ys : List Int) (ha : IRow w a xs) (hb : IRow w b ys) (lx : xs.length = 512) (ly : ys.length = 5 * m) (bm : m ≤ 400) :
    Calls Tryz.prog 62 #[.agg #[.slice a 512 ca, .slice b m cb]] w fun e w' => ∃ g1 c1 g2 c2 : Nat, e = .returned (.agg #[.slice (some ⟨g1, 0, none⟩) 512 c1, .slice (some ⟨g2, 0, none⟩) m c2]) ∧ Own w' g1 xs ∧ w'.ownsRow w.heap.size 110 5 (.slice (some ⟨g2, 0, none⟩) m c2) m (ys.map (Value.int .i64)) ∧ w.heap.size ≤ g1 ∧ g1 < w'.heap.size ∧ g1 ≠ g2 ∧ Kept 0 0 w w' := by
  have h := l4Own w a b ca cb m xs ys ha hb (by omega) ly (by omega) (by omega)
  rw [lx] at h
  refine h.mono ?_
  rintro e w' ⟨g1, c1, g2, c2, rfl, o1, o2, hn, k⟩
  have q := o1.lt g1 rfl
  have e1 := own_of_row (xs := xs) (by rw [← lx] at o1; exact lx ▸ o1)
  exact ⟨g1, c1, g2, c2, rfl, e1, o2, q.1, q.2, hn, k⟩
theorem s12_0 (a0 a1 a2 a3 a4 a5 a6 a7 a8 a9 a10 a11 v : Value) : (#[a0, a1, a2, a3, a4, a5, a6, a7, a8, a9, a10, a11] : Array Value).setIfInBounds 0 v = #[v, a1, a2, a3, a4, a5, a6, a7, a8, a9, a10, a11] := rfl
theorem s12_1 (a0 a1 a2 a3 a4 a5 a6 a7 a8 a9 a10 a11 v : Value) : (#[a0, a1, a2, a3, a4, a5, a6, a7, a8, a9, a10, a11] : Array Value).setIfInBounds 1 v = #[a0, v, a2, a3, a4, a5, a6, a7, a8, a9, a10, a11] := rfl
theorem s12_2 (a0 a1 a2 a3 a4 a5 a6 a7 a8 a9 a10 a11 v : Value) : (#[a0, a1, a2, a3, a4, a5, a6, a7, a8, a9, a10, a11] : Array Value).setIfInBounds 2 v = #[a0, a1, v, a3, a4, a5, a6, a7, a8, a9, a10, a11] := rfl
theorem s12_3 (a0 a1 a2 a3 a4 a5 a6 a7 a8 a9 a10 a11 v : Value) : (#[a0, a1, a2, a3, a4, a5, a6, a7, a8, a9, a10, a11] : Array Value).setIfInBounds 3 v = #[a0, a1, a2, v, a4, a5, a6, a7, a8, a9, a10, a11] := rfl
theorem s12_4 (a0 a1 a2 a3 a4 a5 a6 a7 a8 a9 a10 a11 v : Value) : (#[a0, a1, a2, a3, a4, a5, a6, a7, a8, a9, a10, a11] : Array Value).setIfInBounds 4 v = #[a0, a1, a2, a3, v, a5, a6, a7, a8, a9, a10, a11] := rfl
theorem s12_5 (a0 a1 a2 a3 a4 a5 a6 a7 a8 a9 a10 a11 v : Value) : (#[a0, a1, a2, a3, a4, a5, a6, a7, a8, a9, a10, a11] : Array Value).setIfInBounds 5 v = #[a0, a1, a2, a3, a4, v, a6, a7, a8, a9, a10, a11] := rfl
theorem s12_6 (a0 a1 a2 a3 a4 a5 a6 a7 a8 a9 a10 a11 v : Value) : (#[a0, a1, a2, a3, a4, a5, a6, a7, a8, a9, a10, a11] : Array Value).setIfInBounds 6 v = #[a0, a1, a2, a3, a4, a5, v, a7, a8, a9, a10, a11] := rfl
theorem s12_7 (a0 a1 a2 a3 a4 a5 a6 a7 a8 a9 a10 a11 v : Value) : (#[a0, a1, a2, a3, a4, a5, a6, a7, a8, a9, a10, a11] : Array Value).setIfInBounds 7 v = #[a0, a1, a2, a3, a4, a5, a6, v, a8, a9, a10, a11] := rfl
theorem CO.over {w w' : World} {b mid gd ga g1 g2 c2 : Nat} {c : Pl.Cp} (h : CO w (b + 2) mid c gd ga g1 g2 c2) (k : Kept b (b + 2) w w') : CO w' b mid c gd ga g1 g2 c2 := by
  have q := h.l.lt g2 rfl
  have := h.d0; have := h.d1; have := h.b0; have := h.a0; have := h.a1
  exact ⟨h.d.keptS k (by omega), h.a.keptS k (by omega), h.b.keptS k (by omega), ownsRow_keptS h.l k (by omega), by omega, h.d1, by omega, h.a1, h.da, h.b0, Nat.lt_of_lt_of_le h.b1 k.size, h.bl⟩
set_option maxHeartbeats 4000000 in
theorem mOwn (w : World) (c : Pl.Cp) (a b e q : Option Addr) (ca cb ce cq : Nat) (ha : IRow w a c.r.xs) (hb : IRow w b c.r.ys) (he : IRow w e c.bx) (hq : IRow w q c.bl) (h4 : c.r.xs.length = 4) (h5 : c.r.ys.length = 4) (hx : c.bx.length = 512) (hl : c.bl.length = 5 * c.bm) (hm : c.bm ≤ 400) :
    Calls Tryz.prog 32 #[.agg #[.slice a 4 ca, .slice b 4 cb, .int .i64 c.r.o, .int .i64 c.r.p, .int .i64 c.r.f, .int .i64 c.r.m, .bool c.r.s, .bool c.r.t, .slice e 512 ce, .slice q c.bm cq, .bool c.st, .bool c.ha]] w fun r w' => ∃ gd cd ga cA g1 c1 g2 c2 mid : Nat, r = .returned (.agg (cpuC c gd cd ga cA g1 c1 g2 c2)) ∧ CO w' w.heap.size mid c gd ga g1 g2 c2 ∧ Kept 0 0 w w' := by
  have K0 := hide (kept_new (kept_alloc w (.cells #[.slice a 4 ca, .slice b 4 cb, .int .i64 c.r.o, .int .i64 c.r.p, .int .i64 c.r.f, .int .i64 c.r.m, .bool c.r.s, .bool c.r.t, .slice e 512 ce, .slice q c.bm cq, .bool c.st, .bool c.ha] 36)) (.cells #[.slice none 0 0, .slice none 0 0, .int .i64 0, .int .i64 0, .int .i64 0, .int .i64 0, .bool false, .bool false, .slice none 0 0, .slice none 0 0, .bool false, .bool false] 36))
  have BA := (Blk.new w #[.slice a 4 ca, .slice b 4 cb, .int .i64 c.r.o, .int .i64 c.r.p, .int .i64 c.r.f, .int .i64 c.r.m, .bool c.r.s, .bool c.r.t, .slice e 512 ce, .slice q c.bm cq, .bool c.st, .bool c.ha] 36).alloc (.cells #[.slice none 0 0, .slice none 0 0, .int .i64 0, .int .i64 0, .int .i64 0, .int .i64 0, .bool false, .bool false, .slice none 0 0, .slice none 0 0, .bool false, .bool false] 36)
  have BO := Blk.new (w.alloc (.cells #[.slice a 4 ca, .slice b 4 cb, .int .i64 c.r.o, .int .i64 c.r.p, .int .i64 c.r.f, .int .i64 c.r.m, .bool c.r.s, .bool c.r.t, .slice e 512 ce, .slice q c.bm cq, .bool c.st, .bool c.ha] 36)) #[.slice none 0 0, .slice none 0 0, .int .i64 0, .int .i64 0, .int .i64 0, .int .i64 0, .bool false, .bool false, .slice none 0 0, .slice none 0 0, .bool false, .bool false] 36
  simp only [World.size_alloc] at BO
  obtain ⟨X, hX⟩ : ∃ X : World, (w.alloc (.cells #[.slice a 4 ca, .slice b 4 cb, .int .i64 c.r.o, .int .i64 c.r.p, .int .i64 c.r.f, .int .i64 c.r.m, .bool c.r.s, .bool c.r.t, .slice e 512 ce, .slice q c.bm cq, .bool c.st, .bool c.ha] 36)).alloc (.cells #[.slice none 0 0, .slice none 0 0, .int .i64 0, .int .i64 0, .int .i64 0, .int .i64 0, .bool false, .bool false, .slice none 0 0, .slice none 0 0, .bool false, .bool false] 36) = X := ⟨_, rfl⟩
  rw [hX] at K0 BA BO
  have HBA := hide BA
  have HBO := hide BO
  have HA := hide (ha.keptS K0.out)
  have HB := hide (hb.keptS K0.out)
  have HE := hide he
  have HQ := hide hq
  have hxs := K0.out.size
  clear BA BO ha hb he hq
  have i0 := HBA.out.cell (i := 0) rfl
  have if0 := HBA.out.frozen 0
  have i1 := HBA.out.cell (i := 1) rfl
  have if1 := HBA.out.frozen 1
  have i2 := HBA.out.cell (i := 2) rfl
  have if2 := HBA.out.frozen 2
  have i3 := HBA.out.cell (i := 3) rfl
  have if3 := HBA.out.frozen 3
  have i4 := HBA.out.cell (i := 4) rfl
  have if4 := HBA.out.frozen 4
  have i5 := HBA.out.cell (i := 5) rfl
  have if5 := HBA.out.frozen 5
  have i6 := HBA.out.cell (i := 6) rfl
  have if6 := HBA.out.frozen 6
  have i7 := HBA.out.cell (i := 7) rfl
  have if7 := HBA.out.frozen 7
  have i8 := HBA.out.cell (i := 8) rfl
  have if8 := HBA.out.frozen 8
  have i9 := HBA.out.cell (i := 9) rfl
  have if9 := HBA.out.frozen 9
  have i10 := HBA.out.cell (i := 10) rfl
  have if10 := HBA.out.frozen 10
  have i11 := HBA.out.cell (i := 11) rfl
  have if11 := HBA.out.frozen 11
  go_enter Tryz.func32, Tryz.ntmps32
  go_wp2_with (go_at_call 45; refine (own4 _ c.r a b ca cb HA.out HB.out h4 h5).mono ?_; unfold regV; rintro e9 W1 ⟨gd, cd, ga, cA, rfl, od, oa, d0, d1, a0, a1, da, k9⟩; have HD1 := hide od; have HA1 := hide oa; have K1 := hide (K0.out.trans k9); have HI1 := hide (HBA.out.kept0 k9); have HO1 := hide (HBO.out.kept0 k9); clear k9 od oa i0 i1 i2 i3 i4 i5 i6 i7 i8 i9 i10 i11 if0 if1 if2 if3 if4 if5 if6 if7 if8 if9 if10 if11; have i0 := HI1.out.cell (i := 0) rfl; have if0 := HI1.out.frozen 0; have i1 := HI1.out.cell (i := 1) rfl; have if1 := HI1.out.frozen 1; have i2 := HI1.out.cell (i := 2) rfl; have if2 := HI1.out.frozen 2; have i3 := HI1.out.cell (i := 3) rfl; have if3 := HI1.out.frozen 3; have i4 := HI1.out.cell (i := 4) rfl; have if4 := HI1.out.frozen 4; have i5 := HI1.out.cell (i := 5) rfl; have if5 := HI1.out.frozen 5; have i6 := HI1.out.cell (i := 6) rfl; have if6 := HI1.out.frozen 6; have i7 := HI1.out.cell (i := 7) rfl; have if7 := HI1.out.frozen 7; have i8 := HI1.out.cell (i := 8) rfl; have if8 := HI1.out.frozen 8; have i9 := HI1.out.cell (i := 9) rfl; have if9 := HI1.out.frozen 9; have i10 := HI1.out.cell (i := 10) rfl; have if10 := HI1.out.frozen 10; have i11 := HI1.out.cell (i := 11) rfl; have if11 := HI1.out.frozen 11)
  have K8 := MB.kept8 (w := W1) (p := w.heap.size) (.slice (some ⟨gd, 0, none⟩) 4 cd) (.slice (some ⟨ga, 0, none⟩) 4 cA) (.int .i64 c.r.o) (.int .i64 c.r.p) (.int .i64 c.r.f) (.int .i64 c.r.m) (.bool c.r.s) (.bool c.r.t)
  have HI2 : Blk ((((((((W1.setCell ⟨w.heap.size, 0, none⟩ (.slice (some ⟨gd, 0, none⟩) 4 cd)).setCell ⟨w.heap.size, 1, none⟩ (.slice (some ⟨ga, 0, none⟩) 4 cA)).setCell ⟨w.heap.size, 2, none⟩ (.int .i64 c.r.o)).setCell ⟨w.heap.size, 3, none⟩ (.int .i64 c.r.p)).setCell ⟨w.heap.size, 4, none⟩ (.int .i64 c.r.f)).setCell ⟨w.heap.size, 5, none⟩ (.int .i64 c.r.m)).setCell ⟨w.heap.size, 6, none⟩ (.bool c.r.s)).setCell ⟨w.heap.size, 7, none⟩ (.bool c.r.t)) w.heap.size #[.slice (some ⟨gd, 0, none⟩) 4 cd, .slice (some ⟨ga, 0, none⟩) 4 cA, .int .i64 c.r.o, .int .i64 c.r.p, .int .i64 c.r.f, .int .i64 c.r.m, .bool c.r.s, .bool c.r.t, .slice e 512 ce, .slice q c.bm cq, .bool c.st, .bool c.ha] 36 := by
    have z := (((((((HI1.out.set 0 (.slice (some ⟨gd, 0, none⟩) 4 cd)).set 1 (.slice (some ⟨ga, 0, none⟩) 4 cA)).set 2 (.int .i64 c.r.o)).set 3 (.int .i64 c.r.p)).set 4 (.int .i64 c.r.f)).set 5 (.int .i64 c.r.m)).set 6 (.bool c.r.s)).set 7 (.bool c.r.t)
    rw [s12_0, s12_1, s12_2, s12_3, s12_4, s12_5, s12_6, s12_7] at z
    exact z
  generalize ((((((((W1.setCell ⟨w.heap.size, 0, none⟩ (.slice (some ⟨gd, 0, none⟩) 4 cd)).setCell ⟨w.heap.size, 1, none⟩ (.slice (some ⟨ga, 0, none⟩) 4 cA)).setCell ⟨w.heap.size, 2, none⟩ (.int .i64 c.r.o)).setCell ⟨w.heap.size, 3, none⟩ (.int .i64 c.r.p)).setCell ⟨w.heap.size, 4, none⟩ (.int .i64 c.r.f)).setCell ⟨w.heap.size, 5, none⟩ (.int .i64 c.r.m)).setCell ⟨w.heap.size, 6, none⟩ (.bool c.r.s)).setCell ⟨w.heap.size, 7, none⟩ (.bool c.r.t)) = Y at K8 HI2 ⊢
  have hX2 : X.heap.size = w.heap.size + 2 := by rw [← hX]; simp
  have ds := K8.size
  have KY := hide (kept_over K1.out K8 (Nat.le_refl _))
  have HDY := hide (HD1.out.keptS K8 (by omega))
  have HAY := hide (HA1.out.keptS K8 (by omega))
  have HOY := hide (Blk.kept HO1.out K8 (by omega))
  have HIY := hide HI2
  have HEY := hide (HE.out.keptS KY.out)
  have HQY := hide (HQ.out.keptS KY.out)
  have HX2 := hide hX2
  have hs1 := HO1.out.lt
  clear K8 HI2 hX2 hX i0 i1 i2 i3 i4 i5 i6 i7 i8 i9 i10 i11 if0 if1 if2 if3 if4 if5 if6 if7 if8 if9 if10 if11
  have hdd := HDY.out.lt (by rw [h4]; decide)
  refine (bus4 _ e q ce cq c.bm c.bx c.bl HEY.out HQY.out hx hl hm).mono ?_
  rintro e9 W2 ⟨g1, c1, g2, c2, rfl, ob, ol, b0, b1, bn, k9⟩
  have HCO : Hid (CO W2 (w.heap.size + 2) Y.heap.size c gd ga g1 g2 c2) := hide ⟨HDY.out.keptS k9 (by omega), HAY.out.keptS k9 (by omega), ob, ol, by have := HX2.out; omega, by omega, by have := HX2.out; omega, by omega, da, b0, b1, bn⟩
  have K2 := hide (KY.out.trans k9)
  have HI3 := hide (HIY.out.kept0 k9)
  have HO3 := hide (HOY.out.kept0 k9)
  have hs3 := HO3.out.lt
  clear ob ol k9
  have i0 := HI3.out.cell (i := 0) rfl
  have if0 := HI3.out.frozen 0
  have i1 := HI3.out.cell (i := 1) rfl
  have if1 := HI3.out.frozen 1
  have i2 := HI3.out.cell (i := 2) rfl
  have if2 := HI3.out.frozen 2
  have i3 := HI3.out.cell (i := 3) rfl
  have if3 := HI3.out.frozen 3
  have i4 := HI3.out.cell (i := 4) rfl
  have if4 := HI3.out.frozen 4
  have i5 := HI3.out.cell (i := 5) rfl
  have if5 := HI3.out.frozen 5
  have i6 := HI3.out.cell (i := 6) rfl
  have if6 := HI3.out.frozen 6
  have i7 := HI3.out.cell (i := 7) rfl
  have if7 := HI3.out.frozen 7
  have i8 := HI3.out.cell (i := 8) rfl
  have if8 := HI3.out.frozen 8
  have i9 := HI3.out.cell (i := 9) rfl
  have if9 := HI3.out.frozen 9
  have i10 := HI3.out.cell (i := 10) rfl
  have if10 := HI3.out.frozen 10
  have i11 := HI3.out.cell (i := 11) rfl
  have if11 := HI3.out.frozen 11
  have o0 := HO3.out.cell (i := 0) rfl
  have of0 := HO3.out.frozen 0
  have o1 := HO3.out.cell (i := 1) rfl
  have of1 := HO3.out.frozen 1
  have o2 := HO3.out.cell (i := 2) rfl
  have of2 := HO3.out.frozen 2
  have o3 := HO3.out.cell (i := 3) rfl
  have of3 := HO3.out.frozen 3
  have o4 := HO3.out.cell (i := 4) rfl
  have of4 := HO3.out.frozen 4
  have o5 := HO3.out.cell (i := 5) rfl
  have of5 := HO3.out.frozen 5
  have o6 := HO3.out.cell (i := 6) rfl
  have of6 := HO3.out.frozen 6
  have o7 := HO3.out.cell (i := 7) rfl
  have of7 := HO3.out.frozen 7
  have o8 := HO3.out.cell (i := 8) rfl
  have of8 := HO3.out.frozen 8
  have o9 := HO3.out.cell (i := 9) rfl
  have of9 := HO3.out.frozen 9
  have o10 := HO3.out.cell (i := 10) rfl
  have of10 := HO3.out.frozen 10
  have o11 := HO3.out.cell (i := 11) rfl
  have of11 := HO3.out.frozen 11
  go_wp2_with fail
  refine bodyPost_ret (v := .agg (cpuC c gd cd ga cA g1 c1 g2 c2)) ?_ rfl ⟨gd, cd, ga, cA, g1, c1, g2, c2, Y.heap.size, rfl, HCO.out.over ?kk, ?kw⟩
  case kk => repeat (first | with_reducible exact Kept.refl _ _ _ | refine kept_set ?_ _ _ _ (.inl (by omega)))
  case kw => repeat (first | with_reducible exact K2.out | refine kept_set ?_ _ _ _ (.inr (by omega)))
  rw [results_one rfl]; go_simp; rfl
end Go.Proofs.YtblddehlkaolbaaGreatDoor

namespace Go.Proofs.YtblddehlkaolbaaGreatDoor
open Go.RowKit
set_option linter.unusedVariables false
set_option maxHeartbeats 4000000 in
theorem mStart (w : World) (c : Pl.Cp) (a b e q : Option Addr) (ca cb ce cq : Nat) (ha : IRow w a c.r.xs) (hb : IRow w b c.r.ys) (he : IRow w e c.bx) (hq : IRow w q c.bl) (h4 : c.r.xs.length = 4) (h5 : c.r.ys.length = 4) (hx : c.bx.length = 512) (hl : c.bl.length = 5 * c.bm) (hm : c.bm ≤ 400) :
    Calls Tryz.prog 39 #[.agg #[.slice a 4 ca, .slice b 4 cb, .int .i64 c.r.o, .int .i64 c.r.p, .int .i64 c.r.f, .int .i64 c.r.m, .bool c.r.s, .bool c.r.t, .slice e 512 ce, .slice q c.bm cq, .bool c.st, .bool c.ha]] w fun r w' => ∃ mid p g2 : Nat, r = .returned (.pointer (some ⟨p, 0, none⟩)) ∧ MAt w' w.heap.size mid w'.heap.size p g2 (Pl.Mc.ofC c) ∧ w.heap.size ≤ p ∧ Kept 0 0 w w' := by
  have K0 := hide (kept_alloc w (.cells #[.slice a 4 ca, .slice b 4 cb, .int .i64 c.r.o, .int .i64 c.r.p, .int .i64 c.r.f, .int .i64 c.r.m, .bool c.r.s, .bool c.r.t, .slice e 512 ce, .slice q c.bm cq, .bool c.st, .bool c.ha] 36))
  have BA := Blk.new w #[.slice a 4 ca, .slice b 4 cb, .int .i64 c.r.o, .int .i64 c.r.p, .int .i64 c.r.f, .int .i64 c.r.m, .bool c.r.s, .bool c.r.t, .slice e 512 ce, .slice q c.bm cq, .bool c.st, .bool c.ha] 36
  obtain ⟨X, hX⟩ : ∃ X : World, w.alloc (.cells #[.slice a 4 ca, .slice b 4 cb, .int .i64 c.r.o, .int .i64 c.r.p, .int .i64 c.r.f, .int .i64 c.r.m, .bool c.r.s, .bool c.r.t, .slice e 512 ce, .slice q c.bm cq, .bool c.st, .bool c.ha] 36) = X := ⟨_, rfl⟩
  rw [hX] at K0 BA
  have HBA := hide BA
  have HA := hide (ha.keptS K0.out)
  have HB := hide (hb.keptS K0.out)
  have HE := hide (he.keptS K0.out)
  have HQ := hide (hq.keptS K0.out)
  have hxs := K0.out.size
  clear BA ha hb he hq
  have i0 := HBA.out.cell (i := 0) rfl
  have i1 := HBA.out.cell (i := 1) rfl
  have i2 := HBA.out.cell (i := 2) rfl
  have i3 := HBA.out.cell (i := 3) rfl
  have i4 := HBA.out.cell (i := 4) rfl
  have i5 := HBA.out.cell (i := 5) rfl
  have i6 := HBA.out.cell (i := 6) rfl
  have i7 := HBA.out.cell (i := 7) rfl
  have i8 := HBA.out.cell (i := 8) rfl
  have i9 := HBA.out.cell (i := 9) rfl
  have i10 := HBA.out.cell (i := 10) rfl
  have i11 := HBA.out.cell (i := 11) rfl
  go_enter Tryz.func39, Tryz.ntmps39
  go_wp2_with (go_at_call 32; refine (mOwn _ c a b e q ca cb ce cq HA.out HB.out HE.out HQ.out h4 h5 hx hl hm).mono ?_; unfold cpuC; rintro e9 W ⟨gd, cd, ga, cA, g1, c1, g2, c2, mid, rfl, hc9, k9⟩; have HC := hide hc9; have HK := hide (K0.out.trans k9); have HKW := hide k9; clear hc9 k9)
  go_ret
  have hC1 := (HC.out.any (kept_alloc W (.cells #[.slice (some ⟨gd, 0, none⟩) 4 cd, .slice (some ⟨ga, 0, none⟩) 4 cA, .int .i64 c.r.o, .int .i64 c.r.p, .int .i64 c.r.f, .int .i64 c.r.m, .bool c.r.s, .bool c.r.t, .slice (some ⟨g1, 0, none⟩) 512 c1, .slice (some ⟨g2, 0, none⟩) c.bm c2, .bool c.st, .bool c.ha] 36)))
  have hBm := Blk.new (W.alloc (.cells #[.slice (some ⟨gd, 0, none⟩) 4 cd, .slice (some ⟨ga, 0, none⟩) 4 cA, .int .i64 c.r.o, .int .i64 c.r.p, .int .i64 c.r.f, .int .i64 c.r.m, .bool c.r.s, .bool c.r.t, .slice (some ⟨g1, 0, none⟩) 512 c1, .slice (some ⟨g2, 0, none⟩) c.bm c2, .bool c.st, .bool c.ha] 36)) (mcells (Pl.Mc.ofC c) gd cd ga cA g1 c1 g2 c2) 75
  have hC2 := hC1.any (kept_alloc (W.alloc (.cells #[.slice (some ⟨gd, 0, none⟩) 4 cd, .slice (some ⟨ga, 0, none⟩) 4 cA, .int .i64 c.r.o, .int .i64 c.r.p, .int .i64 c.r.f, .int .i64 c.r.m, .bool c.r.s, .bool c.r.t, .slice (some ⟨g1, 0, none⟩) 512 c1, .slice (some ⟨g2, 0, none⟩) c.bm c2, .bool c.st, .bool c.ha] 36)) (.cells (mcells (Pl.Mc.ofC c) gd cd ga cA g1 c1 g2 c2) 75))
  have hg2 := hC1.l.lt g2 rfl
  have hsz := HKW.out.size
  have hd0 := HC.out.d0
  have hd1 := HC.out.d1
  have hb0 := HC.out.b0
  have hb1 := HC.out.b1
  have ha0 := HC.out.a0
  simp only [World.size_alloc] at hBm hg2
  refine ⟨mid, W.heap.size + 1, g2, rfl, ⟨gd, cd, ga, cA, g1, c1, c2, hBm, ⟨hC2.d, hC2.a, hC2.b, hC2.l, by omega, hC2.d1, by omega, hC2.a1, hC2.da, by omega, hC2.b0, by omega, by omega, by simp, by simp; omega, hC2.bl, Nat.le_refl _⟩⟩, by omega, kept_new (kept_new HK.out _) _⟩
end Go.Proofs.YtblddehlkaolbaaGreatDoor

namespace Go.Proofs.YtblddehlkaolbaaGreatDoor
open Go.RowKit
set_option linter.unusedVariables false
theorem kept12 (w : World) (b : Nat) (v0 v1 v2 v3 v4 v5 v6 v7 v8 v9 v10 v11 : Value) : Kept b (b + 1) w ((((((((((((w.setCell ⟨b, 0, none⟩ v0).setCell ⟨b, 1, none⟩ v1).setCell ⟨b, 2, none⟩ v2).setCell ⟨b, 3, none⟩ v3).setCell ⟨b, 4, none⟩ v4).setCell ⟨b, 5, none⟩ v5).setCell ⟨b, 6, none⟩ v6).setCell ⟨b, 7, none⟩ v7).setCell ⟨b, 8, none⟩ v8).setCell ⟨b, 9, none⟩ v9).setCell ⟨b, 10, none⟩ v10).setCell ⟨b, 11, none⟩ v11) := ((((((((((((kept_one w b 0 v0).one 1 v1).one 2 v2).one 3 v3).one 4 v4).one 5 v5).one 6 v6).one 7 v7).one 8 v8).one 9 v9).one 10 v10).one 11 v11)
theorem CO.past {w w' : World} {lo' lo b mid gd ga g1 g2 c2 : Nat} {c : Pl.Cp} (h : CO w lo' mid c gd ga g1 g2 c2) (hl : b + 1 ≤ lo') (hb : lo ≤ b) (k : Kept b (b + 1) w w') : CO w' lo mid c gd ga g1 g2 c2 := by
  have q := h.l.lt g2 rfl
  have := h.d0; have := h.d1; have := h.b0; have := h.a0; have := h.a1
  exact ⟨h.d.keptS k (by omega), h.a.keptS k (by omega), h.b.keptS k (by omega), ownsRow_keptS h.l k (by omega), by omega, h.d1, by omega, h.a1, h.da, h.b0, Nat.lt_of_lt_of_le h.b1 k.size, h.bl⟩
theorem cellsM {W : World} {p gd cd ga ca g1 c1 g2 c2 : Nat} {c : Pl.Mc} (hB : MB W p gd cd ga ca g1 c1 g2 c2 c) : W.cell? ⟨p, 0, none⟩ = some (.slice (some ⟨gd, 0, none⟩) 4 cd) ∧ W.cell? ⟨p, 1, none⟩ = some (.slice (some ⟨ga, 0, none⟩) 4 ca) ∧ W.cell? ⟨p, 2, none⟩ = some (.int .i64 c.r.o) ∧ W.cell? ⟨p, 3, none⟩ = some (.int .i64 c.r.p) ∧ W.cell? ⟨p, 4, none⟩ = some (.int .i64 c.r.f) ∧ W.cell? ⟨p, 5, none⟩ = some (.int .i64 c.r.m) ∧ W.cell? ⟨p, 6, none⟩ = some (.bool c.r.s) ∧ W.cell? ⟨p, 7, none⟩ = some (.bool c.r.t) ∧ W.cell? ⟨p, 8, none⟩ = some (.slice (some ⟨g1, 0, none⟩) 512 c1) ∧ W.cell? ⟨p, 9, none⟩ = some (.slice (some ⟨g2, 0, none⟩) c.bm c2) ∧ W.cell? ⟨p, 10, none⟩ = some (.bool c.st) := by
  obtain ⟨t0, t1, t2, t3, t4, t5, t6, t7, t8, t9, t10, _⟩ := hB.cells
  exact ⟨t0, t1, t2, t3, t4, t5, t6, t7, t8, t9, t10⟩
set_option maxHeartbeats 4000000 in
theorem mCpuR (w : World) (p gd cd ga ca g1 c1 g2 c2 : Nat) (c : Pl.Mc) (h : MB w p gd cd ga ca g1 c1 g2 c2 c) (rd : IRow w (some ⟨gd, 0, none⟩) c.r.xs) (ra : IRow w (some ⟨ga, 0, none⟩) c.r.ys) (rb : IRow w (some ⟨g1, 0, none⟩) c.bx) (rl : IRow w (some ⟨g2, 0, none⟩) c.bl) (h4 : c.r.xs.length = 4) (h5 : c.r.ys.length = 4) (hx : c.bx.length = 512) (hl : c.bl.length = 5 * c.bm) (hm : c.bm ≤ 400) :
    Calls Tryz.prog 44 #[.pointer (some ⟨p, 0, none⟩)] w fun r w' => ∃ gd' cd' ga' cA' g1' c1' g2' c2' mid' : Nat, r = .returned (.agg (cpuC (c.cpu false) gd' cd' ga' cA' g1' c1' g2' c2')) ∧ CO w' w.heap.size mid' (c.cpu false) gd' ga' g1' g2' c2' ∧ Kept 0 0 w w' := by
  have K0 := hide (kept_alloc w (.cells #[.slice none 0 0, .slice none 0 0, .int .i64 0, .int .i64 0, .int .i64 0, .int .i64 0, .bool false, .bool false, .slice none 0 0, .slice none 0 0, .bool false, .bool false] 36))
  have BA := Blk.new w #[.slice none 0 0, .slice none 0 0, .int .i64 0, .int .i64 0, .int .i64 0, .int .i64 0, .bool false, .bool false, .slice none 0 0, .slice none 0 0, .bool false, .bool false] 36
  have hpw : p < w.heap.size := h.lt
  obtain ⟨X, hX⟩ : ∃ X : World, w.alloc (.cells #[.slice none 0 0, .slice none 0 0, .int .i64 0, .int .i64 0, .int .i64 0, .int .i64 0, .bool false, .bool false, .slice none 0 0, .slice none 0 0, .bool false, .bool false] 36) = X := ⟨_, rfl⟩
  rw [hX] at K0 BA
  have KD := hide (kept_drew K0.out)
  have HBO := hide (BA.kept0 (kept_drew (Kept.refl 0 0 X)))
  have HB := hide (h.any KD.out)
  have S0 := cellsM HB.out
  have HAd := hide (rd.keptS KD.out)
  have HAa := hide (ra.keptS KD.out)
  have HAb := hide (rb.keptS KD.out)
  have HAl := hide (rl.keptS KD.out)
  clear BA h rd ra rb rl
  obtain ⟨u0, u1, u2, u3, u4, u5, u6, u7, u8, u9, u10⟩ := S0
  have S0 := cellsM HB.out
  have HNE : Hid (¬ (w.heap.size ≤ p ∧ p < w.heap.size + 1)) := hide (by omega)
  go_enter Tryz.func44, Tryz.ntmps44
  go_wp2_with fail
  go_region_held3 (fun w' => w'.cell? ⟨p, 0, none⟩ = some (.slice (some ⟨gd, 0, none⟩) 4 cd) ∧ w'.cell? ⟨p, 1, none⟩ = some (.slice (some ⟨ga, 0, none⟩) 4 ca) ∧ w'.cell? ⟨p, 2, none⟩ = some (.int .i64 c.r.o) ∧ w'.cell? ⟨p, 3, none⟩ = some (.int .i64 c.r.p) ∧ w'.cell? ⟨p, 4, none⟩ = some (.int .i64 c.r.f) ∧ w'.cell? ⟨p, 5, none⟩ = some (.int .i64 c.r.m) ∧ w'.cell? ⟨p, 6, none⟩ = some (.bool c.r.s) ∧ w'.cell? ⟨p, 7, none⟩ = some (.bool c.r.t) ∧ w'.cell? ⟨p, 8, none⟩ = some (.slice (some ⟨g1, 0, none⟩) 512 c1) ∧ w'.cell? ⟨p, 9, none⟩ = some (.slice (some ⟨g2, 0, none⟩) c.bm c2) ∧ w'.cell? ⟨p, 10, none⟩ = some (.bool c.st)) (first | with_reducible exact S0 | with_reducible exact cellsM HB2.out | exact cellsM (Blk.kept HB2.out (kept12 _ _ _ _ _ _ _ _ _ _ _ _ _ _) HNE.out) | go_keep) (first | (go_at_call 32; refine (mOwn _ (c.cpu false) _ _ _ _ cd ca c1 c2 HAd.out HAa.out HAb.out HAl.out h4 h5 hx hl hm).mono ?_; unfold cpuC; rintro e9 W ⟨gd', cd', ga', cA', g1', c1', g2', c2', mid', rfl, hc9, k9⟩; have HC := hide hc9; have HK := hide (KD.out.trans k9); have HKW := hide k9; have HB2 := hide (HB.out.any k9); have HBW := hide (HBO.out.kept0 k9); have hbw := HBW.out.lt; clear hc9 k9; have o0 := HBW.out.cell (i := 0) rfl; have of0 := HBW.out.frozen 0; have o1 := HBW.out.cell (i := 1) rfl; have of1 := HBW.out.frozen 1; have o2 := HBW.out.cell (i := 2) rfl; have of2 := HBW.out.frozen 2; have o3 := HBW.out.cell (i := 3) rfl; have of3 := HBW.out.frozen 3; have o4 := HBW.out.cell (i := 4) rfl; have of4 := HBW.out.frozen 4; have o5 := HBW.out.cell (i := 5) rfl; have of5 := HBW.out.frozen 5; have o6 := HBW.out.cell (i := 6) rfl; have of6 := HBW.out.frozen 6; have o7 := HBW.out.cell (i := 7) rfl; have of7 := HBW.out.frozen 7; have o8 := HBW.out.cell (i := 8) rfl; have of8 := HBW.out.frozen 8; have o9 := HBW.out.cell (i := 9) rfl; have of9 := HBW.out.frozen 9; have o10 := HBW.out.cell (i := 10) rfl; have of10 := HBW.out.frozen 10; have o11 := HBW.out.cell (i := 11) rfl; have of11 := HBW.out.frozen 11))
  go_wp2_with fail
  have hd0 := HC.out.d0
  have ha0 := HC.out.a0
  have hd1 := HC.out.d1
  have hb0 := HC.out.b0
  have hxs : X.drew.heap.size = w.heap.size + 1 := by show X.heap.size = _; rw [← hX]; simp
  refine bodyPost_ret (v := .agg (cpuC (c.cpu false) gd' cd' ga' cA' g1' c1' g2' c2')) ?_ rfl ⟨gd', cd', ga', cA', g1', c1', g2', c2', mid', rfl, HC.out.past (b := w.heap.size) (by omega) (Nat.le_refl _) ?kk, ?kw⟩
  case kk => repeat (first | with_reducible exact Kept.refl _ _ _ | refine kept_set ?_ _ _ _ (.inl (by omega)))
  case kw => repeat (first | with_reducible exact HK.out | refine kept_set ?_ _ _ _ (.inr (by omega)))
  rw [results_one rfl]; go_simp; rfl
theorem mCpu (w : World) (lo mid hi p g2 : Nat) (c : Pl.Mc) (h : MAt w lo mid hi p g2 c) (G : Pl.GM c) :
    Calls Tryz.prog 44 #[.pointer (some ⟨p, 0, none⟩)] w fun r w' => ∃ gd cd ga cA g1 c1 g2 c2 mid : Nat, r = .returned (.agg (cpuC (c.cpu false) gd cd ga cA g1 c1 g2 c2)) ∧ CO w' w.heap.size mid (c.cpu false) gd ga g1 g2 c2 ∧ Kept 0 0 w w' := by
  obtain ⟨gd, cd, ga, ca, g1, c1, c2, hB, hO⟩ := h
  exact mCpuR w p gd cd ga ca g1 c1 g2 c2 c hB hO.d.row hO.a.row hO.b.row (own_of_row5 hO.l).row G.g.d4 G.g.a4 G.bx G.bl G.bm
end Go.Proofs.YtblddehlkaolbaaGreatDoor

namespace Go.Proofs.YtblddehlkaolbaaGreatDoor
open Go.RowKit
set_option linter.unusedVariables false
theorem Pl.w_of {v : Int} (h : Pl.okv 2 v = true) : 0 ≤ v ∧ v ≤ 65535 := by simp [Pl.okv, Pl.top] at h; omega
set_option maxRecDepth 100000 in
set_option maxHeartbeats 4000000 in
theorem mFetch (w : World) (lo mid hi p g2 : Nat) (c : Pl.Mc) (h : MAt w lo mid hi p g2 c) (G : Pl.GM c) :
    Calls Tryz.prog 40 #[.pointer (some ⟨p, 0, none⟩)] w fun e w' => e = .returned (.tuple #[.agg (insC c.fetI), .int .i64 c.fetN]) ∧ ∃ g3, MAt w' lo mid hi p g3 c.fetch ∧ Since w lo hi g2 w' g3 := by
  have hl := h.lo
  have HA0 := hide (Pl.ask_read (.inr rfl) G.p0 G.p1)
  have HG0 := hide (G.ft { c.f with pc := c.r.p })
  have HG1 := hide (HG0.out.acc HA0.out)
  have HW := Pl.w_of (HG0.out.accV HA0.out)
  obtain ⟨hw0, hw1⟩ := HW
  have HG2 := hide (HG1.out.ft { c.fe1.f with wo := c.feW })
  have pp0 := G.p0
  have pp1 := G.p1
  have ha := mask16 (c.r.p + 2)
  have HA2 : Hid (Pl.askOk 3 2 c.feA 0 = true) := hide (Pl.ask_read (.inr rfl) (by unfold Pl.Mc.feA; omega) (by unfold Pl.Mc.feA; omega))
  have KA := hide (kept_alloc w (.cells #[.int .i64 0, .int .i64 0, .int .i64 0, .int .i64 0, .int .i64 0, .int .i64 0, .int .i64 0] 79))
  have BA := Blk.new w #[.int .i64 0, .int .i64 0, .int .i64 0, .int .i64 0, .int .i64 0, .int .i64 0, .int .i64 0] 79
  obtain ⟨X, hX⟩ : ∃ X : World, w.alloc (.cells #[.int .i64 0, .int .i64 0, .int .i64 0, .int .i64 0, .int .i64 0, .int .i64 0, .int .i64 0] 79) = X := ⟨_, rfl⟩
  rw [hX] at KA BA
  have HBA := hide BA
  have h2 := h.any KA.out
  have hbw := BA.lt
  have hpb : p < w.heap.size := hl.2.2.2.2.1
  have HHB : Hid (hi ≤ w.heap.size) := hide hl.2.2.2.2.2.2
  have HGB : Hid (w.heap.size ≠ g2) := hide (by have := hl.2.2.2.2.2.1; omega)
  have HPH : Hid ((lo ≤ p ∧ p < hi) ∨ w.heap.size ≤ p) := hide (by omega)
  clear h BA
  have HM := hide h2
  obtain ⟨gd, cd, ga, ca, g1, c1, c2, hB9, hO9⟩ := h2
  have HB := hide hB9
  have HO := hide hO9
  obtain ⟨t0, t1, t2, t3, t4, t5, t6, t7, t8, t9, t10, t11, t12, t13, t14, t15⟩ := hB9.cells
  clear t0 t1 t2 t4 t5 t6 t7 t8 t9 t10 t11 t13 t14 t15
  have f12 := hB9.frozen 12
  clear hB9 hO9
  have HM0 := hide (HM.out.cPc c.r.p)
  have HBO := hide (HBA.out.other p 12 (.int .i64 c.r.p) (by omega))
  have HS0 := hide (((Since.refl w lo hi g2).any KA.out).set p 12 (.int .i64 c.r.p) HPH.out)
  clear G HO HB HM
  cases hf1 : c.fe1.fine
  · have E : Hid (c.fetch = c.fe1) := hide (by unfold Pl.Mc.fetch; rw [hf1]; rfl)
    have E2 : Hid (c.fetI = Pl.inNo) := hide (by unfold Pl.Mc.fetI; rw [hf1]; rfl)
    have E3 : Hid (c.fetN = 0) := hide (by unfold Pl.Mc.fetN; rw [hf1]; rfl)
    go_enter Tryz.func40, Tryz.ntmps40
    go_wp2_with (first | (go_at_call 68; refine (mAccess _ lo mid hi p g2 c.fe0 3 2 c.r.p 0 HM0.out HG0.out HA0.out).mono ?_; rw [show Pl.Mc.accV c.fe0 3 2 c.r.p 0 = c.feW from rfl]; rintro e9 W ⟨rfl, g3, hm9, hb9⟩; have HM1 : Hid (MAt W lo mid hi p g3 c.fe1) := hide hm9; have HB1 := hide (hb9.blk HBO.out HHB.out HGB.out); have HG1B := hide (hb9.ne (by simp; omega) HGB.out); have HS1 := hide (HS0.out.trans hb9); obtain ⟨_, _, _, _, _, _, _, hB9, _⟩ := hm9; have hpw := hB9.lt; obtain ⟨t0, t1, t2, t3, t4, t5, t6, t7, t8, t9, t10, t11, t12, t13, t14, t15⟩ := hB9.cells; have f14 := hB9.frozen 14; clear hb9 hB9 t0 t1 t2 t3 t4 t5 t6 t7 t8 t9 t10 t11 t12 t13 t15; have y0 := HB1.out.cell (i := 0) rfl; have v0 := HB1.out.frozen 0; have y1 := HB1.out.cell (i := 1) rfl; have v1 := HB1.out.frozen 1; have y2 := HB1.out.cell (i := 2) rfl; have v2 := HB1.out.frozen 2; have y3 := HB1.out.cell (i := 3) rfl; have v3 := HB1.out.frozen 3; have y4 := HB1.out.cell (i := 4) rfl; have v4 := HB1.out.frozen 4; have y5 := HB1.out.cell (i := 5) rfl; have v5 := HB1.out.frozen 5; have y6 := HB1.out.cell (i := 6) rfl; have v6 := HB1.out.frozen 6) | (go_at_call 41; have z9 := HG1B; refine (mFine _ lo mid hi p g3 _ HM1.out).mono ?_; rintro e9 w9 ⟨rfl, hw⟩; have hw2 := hw.symm; clear hw; subst hw2; rw [hf1]))
    refine bodyPost_ret (v := .tuple #[.agg (insC c.fetI), .int .i64 c.fetN]) ?_ rfl ⟨rfl, g3, ?_, ?_⟩
    · rw [results_cell_tmp rfl, E2.out, E3.out]; go_simp; rfl
    · rw [E.out]; exact HM1.out.past (kept7 _ _ _ _ _ _ _ _ _) HHB.out HG1B.out
    · exact since7 HS1.out (Nat.le_refl _) _ _ _ _ _ _ _
  · cases hL : (Pl.longW c.feW == 2)
    · have E4 : Hid (c.fe3 = c.fe2) := hide (by unfold Pl.Mc.fe3; rw [hL]; rfl)
      have EN : Hid (c.feN = 0) := hide (by unfold Pl.Mc.feN; rw [hL]; rfl)
      have hf3 : c.fe3.fine = true := by rw [E4.out]; exact hf1
      have EV := EN
      have HOK0 : Hid (Pl.inOk ⟨(Pl.decode c.feW 0).op, (Pl.decode c.feW 0).z, (Pl.decode c.feW 0).r, (Pl.decode c.feW 0).m, (Pl.decode c.feW 0).k, (Pl.decode c.feW 0).e, (Pl.decode c.feW 0).s⟩ = Pl.inOk c.feX) := hide (by unfold Pl.Mc.feX; rw [EV.out])
      cases ho : Pl.inOk c.feX
      · have HOK := hide (HOK0.out.trans ho)
        have E : Hid (c.fetch = c.fe4) := hide (by unfold Pl.Mc.fetch; rw [hf1, hf3, ho]; rfl)
        have E2 : Hid (c.fetI = Pl.inNo) := hide (by unfold Pl.Mc.fetI; rw [hf1, hf3, ho]; rfl)
        have E3 : Hid (c.fetN = 0) := hide (by unfold Pl.Mc.fetN; rw [hf1, hf3, ho]; rfl)
        go_enter Tryz.func40, Tryz.ntmps40
        go_wp2_with (first | (go_at_call 68; refine (mAccess _ lo mid hi p g2 c.fe0 3 2 c.r.p 0 HM0.out HG0.out HA0.out).mono ?_; rw [show Pl.Mc.accV c.fe0 3 2 c.r.p 0 = c.feW from rfl]; rintro e9 W ⟨rfl, g3, hm9, hb9⟩; have HM1 : Hid (MAt W lo mid hi p g3 c.fe1) := hide hm9; have HB1 := hide (hb9.blk HBO.out HHB.out HGB.out); have HG1B := hide (hb9.ne (by simp; omega) HGB.out); have HS1 := hide (HS0.out.trans hb9); obtain ⟨_, _, _, _, _, _, _, hB9, _⟩ := hm9; have hpw := hB9.lt; obtain ⟨t0, t1, t2, t3, t4, t5, t6, t7, t8, t9, t10, t11, t12, t13, t14, t15⟩ := hB9.cells; have f14 := hB9.frozen 14; clear hb9 hB9 t0 t1 t2 t3 t4 t5 t6 t7 t8 t9 t10 t11 t12 t13 t15; have y0 := HB1.out.cell (i := 0) rfl; have v0 := HB1.out.frozen 0; have y1 := HB1.out.cell (i := 1) rfl; have v1 := HB1.out.frozen 1; have y2 := HB1.out.cell (i := 2) rfl; have v2 := HB1.out.frozen 2; have y3 := HB1.out.cell (i := 3) rfl; have v3 := HB1.out.frozen 3; have y4 := HB1.out.cell (i := 4) rfl; have v4 := HB1.out.frozen 4; have y5 := HB1.out.cell (i := 5) rfl; have v5 := HB1.out.frozen 5; have y6 := HB1.out.cell (i := 6) rfl; have v6 := HB1.out.frozen 6; have HM2 : Hid (MAt (W.setCell ⟨p, 14, none⟩ (.int .i64 c.feW)) lo mid hi p g3 c.fe2) := hide (HM1.out.cWo c.feW); have HB2 := hide (HB1.out.other p 14 (.int .i64 c.feW) (by omega)); have HS2 := hide (HS1.out.set p 14 (.int .i64 c.feW) HPH.out); have hbW := HB1.out.lt; have HMp : Hid (MAt (W.setCell ⟨p, 14, none⟩ (.int .i64 c.feW)) lo mid hi p g3 c.fe3) := hide (by rw [E4.out]; exact HM2.out); have HBp := HB2; have HGp := HG1B; have HSp := HS2) | (go_at_call 41; have z9 := HG1B; refine (mFine _ lo mid hi p g3 _ HM1.out).mono ?_; rintro e9 w9 ⟨rfl, hw⟩; have hw2 := hw.symm; clear hw; subst hw2; rw [hf1]) | (go_at_call 69; refine (specLong c.feW _ hw0 hw1).mono ?_; rintro e9 w9 ⟨rfl, hw⟩; have hw2 := hw.symm; clear hw; subst hw2) | (go_at_call 70; have z9 := HGp; refine (specDecode _ c.feW 0 hw0 hw1).mono ?_; rintro e9 W3 ⟨rfl, hk9⟩; have HK3 := hide hk9; clear hk9) | (go_at_call 71; have z9 := HK3; refine (specGoodIns _ (Pl.decode c.feW 0).op (Pl.decode c.feW 0).z (Pl.decode c.feW 0).r (Pl.decode c.feW 0).m (Pl.decode c.feW 0).k (Pl.decode c.feW 0).e (Pl.decode c.feW 0).s).mono ?_; rintro e9 W4 ⟨rfl, hk9⟩; rw [HOK.out]; have K4 := hide ((kept_new HK3.out (.cells #[.int .i64 (Pl.decode c.feW 0).op, .int .i64 (Pl.decode c.feW 0).z, .int .i64 (Pl.decode c.feW 0).r, .int .i64 (Pl.decode c.feW 0).m, .int .i64 (Pl.decode c.feW 0).k, .int .i64 (Pl.decode c.feW 0).e, .int .i64 (Pl.decode c.feW 0).s] 79)).trans hk9); have BX4 := hide ((Blk.new W3 #[.int .i64 (Pl.decode c.feW 0).op, .int .i64 (Pl.decode c.feW 0).z, .int .i64 (Pl.decode c.feW 0).r, .int .i64 (Pl.decode c.feW 0).m, .int .i64 (Pl.decode c.feW 0).k, .int .i64 (Pl.decode c.feW 0).e, .int .i64 (Pl.decode c.feW 0).s] 79).kept0 hk9); have HM4 := hide (HMp.out.any K4.out); have HB4 := hide (HBp.out.kept0 K4.out); have HS4 := hide (HSp.out.any K4.out); clear hk9; clear y0 y1 y2 y3 y4 y5 y6 v0 v1 v2 v3 v4 v5 v6; have y0 := HB4.out.cell (i := 0) rfl; have v0 := HB4.out.frozen 0; have y1 := HB4.out.cell (i := 1) rfl; have v1 := HB4.out.frozen 1; have y2 := HB4.out.cell (i := 2) rfl; have v2 := HB4.out.frozen 2; have y3 := HB4.out.cell (i := 3) rfl; have v3 := HB4.out.frozen 3; have y4 := HB4.out.cell (i := 4) rfl; have v4 := HB4.out.frozen 4; have y5 := HB4.out.cell (i := 5) rfl; have v5 := HB4.out.frozen 5; have y6 := HB4.out.cell (i := 6) rfl; have v6 := HB4.out.frozen 6; have x0 := BX4.out.cell (i := 0) rfl; have x1 := BX4.out.cell (i := 1) rfl; have x2 := BX4.out.cell (i := 2) rfl; have x3 := BX4.out.cell (i := 3) rfl; have x4 := BX4.out.cell (i := 4) rfl; have x5 := BX4.out.cell (i := 5) rfl; have x6 := BX4.out.cell (i := 6) rfl; have hx4 := HM4.out; obtain ⟨_, _, _, _, _, _, _, hB9, _⟩ := hx4; have hpw4 := hB9.lt; have hbw4 := HB4.out.lt; have hxw4 := BX4.out.lt; obtain ⟨t0, t1, t2, t3, t4, t5, t6, t7, t8, t9, t10, t11, _⟩ := hB9.cells; have f11 := hB9.frozen 11; clear hB9 t0 t1 t2 t3 t4 t5 t6 t7 t8 t9 t10))
        refine bodyPost_ret (v := .tuple #[.agg (insC c.fetI), .int .i64 c.fetN]) ?_ rfl ⟨rfl, g3, ?_, ?_⟩
        · rw [results_cell_tmp rfl, E2.out, E3.out]; go_simp; rfl
        · rw [E.out]; exact (HM4.out.cV 4).past (kept7 _ _ _ _ _ _ _ _ _) HHB.out HGp.out
        · exact since7 (HS4.out.set p 11 _ HPH.out) (Nat.le_refl _) _ _ _ _ _ _ _
      · have HOK := hide (HOK0.out.trans ho)
        have E : Hid (c.fetch = c.fe3) := hide (by unfold Pl.Mc.fetch; rw [hf1, hf3, ho]; rfl)
        have E2 : Hid (c.fetI = Pl.decode c.feW 0) := hide (by unfold Pl.Mc.fetI; rw [hf1, hf3, ho]; unfold Pl.Mc.feX; rw [EV.out]; rfl)
        have E3 : Hid (c.fetN = Pl.longW c.feW) := hide (by unfold Pl.Mc.fetN; rw [hf1, hf3, ho]; rfl)
        go_enter Tryz.func40, Tryz.ntmps40
        go_wp2_with (first | (go_at_call 68; refine (mAccess _ lo mid hi p g2 c.fe0 3 2 c.r.p 0 HM0.out HG0.out HA0.out).mono ?_; rw [show Pl.Mc.accV c.fe0 3 2 c.r.p 0 = c.feW from rfl]; rintro e9 W ⟨rfl, g3, hm9, hb9⟩; have HM1 : Hid (MAt W lo mid hi p g3 c.fe1) := hide hm9; have HB1 := hide (hb9.blk HBO.out HHB.out HGB.out); have HG1B := hide (hb9.ne (by simp; omega) HGB.out); have HS1 := hide (HS0.out.trans hb9); obtain ⟨_, _, _, _, _, _, _, hB9, _⟩ := hm9; have hpw := hB9.lt; obtain ⟨t0, t1, t2, t3, t4, t5, t6, t7, t8, t9, t10, t11, t12, t13, t14, t15⟩ := hB9.cells; have f14 := hB9.frozen 14; clear hb9 hB9 t0 t1 t2 t3 t4 t5 t6 t7 t8 t9 t10 t11 t12 t13 t15; have y0 := HB1.out.cell (i := 0) rfl; have v0 := HB1.out.frozen 0; have y1 := HB1.out.cell (i := 1) rfl; have v1 := HB1.out.frozen 1; have y2 := HB1.out.cell (i := 2) rfl; have v2 := HB1.out.frozen 2; have y3 := HB1.out.cell (i := 3) rfl; have v3 := HB1.out.frozen 3; have y4 := HB1.out.cell (i := 4) rfl; have v4 := HB1.out.frozen 4; have y5 := HB1.out.cell (i := 5) rfl; have v5 := HB1.out.frozen 5; have y6 := HB1.out.cell (i := 6) rfl; have v6 := HB1.out.frozen 6; have HM2 : Hid (MAt (W.setCell ⟨p, 14, none⟩ (.int .i64 c.feW)) lo mid hi p g3 c.fe2) := hide (HM1.out.cWo c.feW); have HB2 := hide (HB1.out.other p 14 (.int .i64 c.feW) (by omega)); have HS2 := hide (HS1.out.set p 14 (.int .i64 c.feW) HPH.out); have hbW := HB1.out.lt; have HMp : Hid (MAt (W.setCell ⟨p, 14, none⟩ (.int .i64 c.feW)) lo mid hi p g3 c.fe3) := hide (by rw [E4.out]; exact HM2.out); have HBp := HB2; have HGp := HG1B; have HSp := HS2) | (go_at_call 41; have z9 := HG1B; refine (mFine _ lo mid hi p g3 _ HM1.out).mono ?_; rintro e9 w9 ⟨rfl, hw⟩; have hw2 := hw.symm; clear hw; subst hw2; rw [hf1]) | (go_at_call 69; refine (specLong c.feW _ hw0 hw1).mono ?_; rintro e9 w9 ⟨rfl, hw⟩; have hw2 := hw.symm; clear hw; subst hw2) | (go_at_call 70; have z9 := HGp; refine (specDecode _ c.feW 0 hw0 hw1).mono ?_; rintro e9 W3 ⟨rfl, hk9⟩; have HK3 := hide hk9; clear hk9) | (go_at_call 71; have z9 := HK3; refine (specGoodIns _ (Pl.decode c.feW 0).op (Pl.decode c.feW 0).z (Pl.decode c.feW 0).r (Pl.decode c.feW 0).m (Pl.decode c.feW 0).k (Pl.decode c.feW 0).e (Pl.decode c.feW 0).s).mono ?_; rintro e9 W4 ⟨rfl, hk9⟩; rw [HOK.out]; have K4 := hide ((kept_new HK3.out (.cells #[.int .i64 (Pl.decode c.feW 0).op, .int .i64 (Pl.decode c.feW 0).z, .int .i64 (Pl.decode c.feW 0).r, .int .i64 (Pl.decode c.feW 0).m, .int .i64 (Pl.decode c.feW 0).k, .int .i64 (Pl.decode c.feW 0).e, .int .i64 (Pl.decode c.feW 0).s] 79)).trans hk9); have BX4 := hide ((Blk.new W3 #[.int .i64 (Pl.decode c.feW 0).op, .int .i64 (Pl.decode c.feW 0).z, .int .i64 (Pl.decode c.feW 0).r, .int .i64 (Pl.decode c.feW 0).m, .int .i64 (Pl.decode c.feW 0).k, .int .i64 (Pl.decode c.feW 0).e, .int .i64 (Pl.decode c.feW 0).s] 79).kept0 hk9); have HM4 := hide (HMp.out.any K4.out); have HB4 := hide (HBp.out.kept0 K4.out); have HS4 := hide (HSp.out.any K4.out); clear hk9; clear y0 y1 y2 y3 y4 y5 y6 v0 v1 v2 v3 v4 v5 v6; have y0 := HB4.out.cell (i := 0) rfl; have v0 := HB4.out.frozen 0; have y1 := HB4.out.cell (i := 1) rfl; have v1 := HB4.out.frozen 1; have y2 := HB4.out.cell (i := 2) rfl; have v2 := HB4.out.frozen 2; have y3 := HB4.out.cell (i := 3) rfl; have v3 := HB4.out.frozen 3; have y4 := HB4.out.cell (i := 4) rfl; have v4 := HB4.out.frozen 4; have y5 := HB4.out.cell (i := 5) rfl; have v5 := HB4.out.frozen 5; have y6 := HB4.out.cell (i := 6) rfl; have v6 := HB4.out.frozen 6; have x0 := BX4.out.cell (i := 0) rfl; have x1 := BX4.out.cell (i := 1) rfl; have x2 := BX4.out.cell (i := 2) rfl; have x3 := BX4.out.cell (i := 3) rfl; have x4 := BX4.out.cell (i := 4) rfl; have x5 := BX4.out.cell (i := 5) rfl; have x6 := BX4.out.cell (i := 6) rfl; have hx4 := HM4.out; obtain ⟨_, _, _, _, _, _, _, hB9, _⟩ := hx4; have hpw4 := hB9.lt; have hbw4 := HB4.out.lt; have hxw4 := BX4.out.lt; obtain ⟨t0, t1, t2, t3, t4, t5, t6, t7, t8, t9, t10, t11, _⟩ := hB9.cells; have f11 := hB9.frozen 11; clear hB9 t0 t1 t2 t3 t4 t5 t6 t7 t8 t9 t10))
        refine bodyPost_ret (v := .tuple #[.agg (insC c.fetI), .int .i64 c.fetN]) ?_ rfl ⟨rfl, g3, ?_, ?_⟩
        · rw [results_cell_tmp rfl, E2.out, E3.out]; go_simp; rfl
        · rw [E.out]; exact HM4.out.past (kept7 _ _ _ _ _ _ _ _ _) HHB.out HGp.out
        · exact since7 HS4.out (Nat.le_refl _) _ _ _ _ _ _ _
    · have E4 : Hid (c.fe3 = c.fe2.acc 3 2 c.feA 0) := hide (by unfold Pl.Mc.fe3; rw [hL]; rfl)
      have EN : Hid (Pl.Mc.accV c.fe2 3 2 c.feA 0 = c.feN) := hide (by unfold Pl.Mc.feN; rw [hL]; rfl)
      cases hf2 : c.fe3.fine
      · have E : Hid (c.fetch = c.fe3) := hide (by unfold Pl.Mc.fetch; rw [hf1, hf2]; rfl)
        have E2 : Hid (c.fetI = Pl.inNo) := hide (by unfold Pl.Mc.fetI; rw [hf1, hf2]; rfl)
        have E3 : Hid (c.fetN = 0) := hide (by unfold Pl.Mc.fetN; rw [hf1, hf2]; rfl)
        go_enter Tryz.func40, Tryz.ntmps40
        go_wp2_with (first | (go_at_call 68; have z9 := HM2; refine (mAccess _ lo mid hi p g3 c.fe2 3 2 c.feA 0 HM2.out HG2.out HA2.out).mono ?_; rw [show Pl.Mc.accV c.fe2 3 2 c.feA 0 = c.feN from EN.out]; rintro e9 W5 ⟨rfl, g4, hm9, hb9⟩; have HMp : Hid (MAt W5 lo mid hi p g4 c.fe3) := hide (by rw [E4.out]; exact hm9); have HBp := hide (hb9.blk HB2.out HHB.out HG1B.out); have HGp := hide (hb9.ne (by simp; omega) HG1B.out); have HSp := hide (HS2.out.trans hb9); clear hm9 hb9; clear y0 y1 y2 y3 y4 y5 y6 v0 v1 v2 v3 v4 v5 v6; have y0 := HBp.out.cell (i := 0) rfl; have v0 := HBp.out.frozen 0; have y1 := HBp.out.cell (i := 1) rfl; have v1 := HBp.out.frozen 1; have y2 := HBp.out.cell (i := 2) rfl; have v2 := HBp.out.frozen 2; have y3 := HBp.out.cell (i := 3) rfl; have v3 := HBp.out.frozen 3; have y4 := HBp.out.cell (i := 4) rfl; have v4 := HBp.out.frozen 4; have y5 := HBp.out.cell (i := 5) rfl; have v5 := HBp.out.frozen 5; have y6 := HBp.out.cell (i := 6) rfl; have v6 := HBp.out.frozen 6) | (go_at_call 41; have z9 := HGp; refine (mFine _ lo mid hi p g4 _ HMp.out).mono ?_; rintro e9 w9 ⟨rfl, hw⟩; have hw2 := hw.symm; clear hw; subst hw2; rw [hf2]) | (go_at_call 68; refine (mAccess _ lo mid hi p g2 c.fe0 3 2 c.r.p 0 HM0.out HG0.out HA0.out).mono ?_; rw [show Pl.Mc.accV c.fe0 3 2 c.r.p 0 = c.feW from rfl]; rintro e9 W ⟨rfl, g3, hm9, hb9⟩; have HM1 : Hid (MAt W lo mid hi p g3 c.fe1) := hide hm9; have HB1 := hide (hb9.blk HBO.out HHB.out HGB.out); have HG1B := hide (hb9.ne (by simp; omega) HGB.out); have HS1 := hide (HS0.out.trans hb9); obtain ⟨_, _, _, _, _, _, _, hB9, _⟩ := hm9; have hpw := hB9.lt; obtain ⟨t0, t1, t2, t3, t4, t5, t6, t7, t8, t9, t10, t11, t12, t13, t14, t15⟩ := hB9.cells; have f14 := hB9.frozen 14; clear hb9 hB9 t0 t1 t2 t3 t4 t5 t6 t7 t8 t9 t10 t11 t12 t13 t15; have y0 := HB1.out.cell (i := 0) rfl; have v0 := HB1.out.frozen 0; have y1 := HB1.out.cell (i := 1) rfl; have v1 := HB1.out.frozen 1; have y2 := HB1.out.cell (i := 2) rfl; have v2 := HB1.out.frozen 2; have y3 := HB1.out.cell (i := 3) rfl; have v3 := HB1.out.frozen 3; have y4 := HB1.out.cell (i := 4) rfl; have v4 := HB1.out.frozen 4; have y5 := HB1.out.cell (i := 5) rfl; have v5 := HB1.out.frozen 5; have y6 := HB1.out.cell (i := 6) rfl; have v6 := HB1.out.frozen 6; have HM2 : Hid (MAt (W.setCell ⟨p, 14, none⟩ (.int .i64 c.feW)) lo mid hi p g3 c.fe2) := hide (HM1.out.cWo c.feW); have HB2 := hide (HB1.out.other p 14 (.int .i64 c.feW) (by omega)); have HS2 := hide (HS1.out.set p 14 (.int .i64 c.feW) HPH.out); have hbW := HB1.out.lt) | (go_at_call 41; have z9 := HG1B; refine (mFine _ lo mid hi p g3 _ HM1.out).mono ?_; rintro e9 w9 ⟨rfl, hw⟩; have hw2 := hw.symm; clear hw; subst hw2; rw [hf1]) | (go_at_call 69; refine (specLong c.feW _ hw0 hw1).mono ?_; rintro e9 w9 ⟨rfl, hw⟩; have hw2 := hw.symm; clear hw; subst hw2))
        refine bodyPost_ret (v := .tuple #[.agg (insC c.fetI), .int .i64 c.fetN]) ?_ rfl ⟨rfl, g4, ?_, ?_⟩
        · rw [results_cell_tmp rfl, E2.out, E3.out]; go_simp; rfl
        · rw [E.out]; exact HMp.out.past (kept7 _ _ _ _ _ _ _ _ _) HHB.out HGp.out
        · exact since7 HSp.out (Nat.le_refl _) _ _ _ _ _ _ _
      · have hf3 := hf2
        have EV : Hid (c.feN = c.feN) := hide rfl
        have HOK0 : Hid (Pl.inOk ⟨(Pl.decode c.feW c.feN).op, (Pl.decode c.feW c.feN).z, (Pl.decode c.feW c.feN).r, (Pl.decode c.feW c.feN).m, (Pl.decode c.feW c.feN).k, (Pl.decode c.feW c.feN).e, (Pl.decode c.feW c.feN).s⟩ = Pl.inOk c.feX) := hide (by unfold Pl.Mc.feX; rw [EV.out])
        cases ho : Pl.inOk c.feX
        · have HOK := hide (HOK0.out.trans ho)
          have E : Hid (c.fetch = c.fe4) := hide (by unfold Pl.Mc.fetch; rw [hf1, hf3, ho]; rfl)
          have E2 : Hid (c.fetI = Pl.inNo) := hide (by unfold Pl.Mc.fetI; rw [hf1, hf3, ho]; rfl)
          have E3 : Hid (c.fetN = 0) := hide (by unfold Pl.Mc.fetN; rw [hf1, hf3, ho]; rfl)
          go_enter Tryz.func40, Tryz.ntmps40
          go_wp2_with (first | (go_at_call 68; have z9 := HM2; refine (mAccess _ lo mid hi p g3 c.fe2 3 2 c.feA 0 HM2.out HG2.out HA2.out).mono ?_; rw [show Pl.Mc.accV c.fe2 3 2 c.feA 0 = c.feN from EN.out]; rintro e9 W5 ⟨rfl, g4, hm9, hb9⟩; have HMp : Hid (MAt W5 lo mid hi p g4 c.fe3) := hide (by rw [E4.out]; exact hm9); have HBp := hide (hb9.blk HB2.out HHB.out HG1B.out); have HGp := hide (hb9.ne (by simp; omega) HG1B.out); have HSp := hide (HS2.out.trans hb9); clear hm9 hb9; clear y0 y1 y2 y3 y4 y5 y6 v0 v1 v2 v3 v4 v5 v6; have y0 := HBp.out.cell (i := 0) rfl; have v0 := HBp.out.frozen 0; have y1 := HBp.out.cell (i := 1) rfl; have v1 := HBp.out.frozen 1; have y2 := HBp.out.cell (i := 2) rfl; have v2 := HBp.out.frozen 2; have y3 := HBp.out.cell (i := 3) rfl; have v3 := HBp.out.frozen 3; have y4 := HBp.out.cell (i := 4) rfl; have v4 := HBp.out.frozen 4; have y5 := HBp.out.cell (i := 5) rfl; have v5 := HBp.out.frozen 5; have y6 := HBp.out.cell (i := 6) rfl; have v6 := HBp.out.frozen 6) | (go_at_call 41; have z9 := HGp; refine (mFine _ lo mid hi p g4 _ HMp.out).mono ?_; rintro e9 w9 ⟨rfl, hw⟩; have hw2 := hw.symm; clear hw; subst hw2; rw [hf2]) | (go_at_call 68; refine (mAccess _ lo mid hi p g2 c.fe0 3 2 c.r.p 0 HM0.out HG0.out HA0.out).mono ?_; rw [show Pl.Mc.accV c.fe0 3 2 c.r.p 0 = c.feW from rfl]; rintro e9 W ⟨rfl, g3, hm9, hb9⟩; have HM1 : Hid (MAt W lo mid hi p g3 c.fe1) := hide hm9; have HB1 := hide (hb9.blk HBO.out HHB.out HGB.out); have HG1B := hide (hb9.ne (by simp; omega) HGB.out); have HS1 := hide (HS0.out.trans hb9); obtain ⟨_, _, _, _, _, _, _, hB9, _⟩ := hm9; have hpw := hB9.lt; obtain ⟨t0, t1, t2, t3, t4, t5, t6, t7, t8, t9, t10, t11, t12, t13, t14, t15⟩ := hB9.cells; have f14 := hB9.frozen 14; clear hb9 hB9 t0 t1 t2 t3 t4 t5 t6 t7 t8 t9 t10 t11 t12 t13 t15; have y0 := HB1.out.cell (i := 0) rfl; have v0 := HB1.out.frozen 0; have y1 := HB1.out.cell (i := 1) rfl; have v1 := HB1.out.frozen 1; have y2 := HB1.out.cell (i := 2) rfl; have v2 := HB1.out.frozen 2; have y3 := HB1.out.cell (i := 3) rfl; have v3 := HB1.out.frozen 3; have y4 := HB1.out.cell (i := 4) rfl; have v4 := HB1.out.frozen 4; have y5 := HB1.out.cell (i := 5) rfl; have v5 := HB1.out.frozen 5; have y6 := HB1.out.cell (i := 6) rfl; have v6 := HB1.out.frozen 6; have HM2 : Hid (MAt (W.setCell ⟨p, 14, none⟩ (.int .i64 c.feW)) lo mid hi p g3 c.fe2) := hide (HM1.out.cWo c.feW); have HB2 := hide (HB1.out.other p 14 (.int .i64 c.feW) (by omega)); have HS2 := hide (HS1.out.set p 14 (.int .i64 c.feW) HPH.out); have hbW := HB1.out.lt) | (go_at_call 41; have z9 := HG1B; refine (mFine _ lo mid hi p g3 _ HM1.out).mono ?_; rintro e9 w9 ⟨rfl, hw⟩; have hw2 := hw.symm; clear hw; subst hw2; rw [hf1]) | (go_at_call 69; refine (specLong c.feW _ hw0 hw1).mono ?_; rintro e9 w9 ⟨rfl, hw⟩; have hw2 := hw.symm; clear hw; subst hw2) | (go_at_call 70; have z9 := HGp; refine (specDecode _ c.feW c.feN hw0 hw1).mono ?_; rintro e9 W3 ⟨rfl, hk9⟩; have HK3 := hide hk9; clear hk9) | (go_at_call 71; have z9 := HK3; refine (specGoodIns _ (Pl.decode c.feW c.feN).op (Pl.decode c.feW c.feN).z (Pl.decode c.feW c.feN).r (Pl.decode c.feW c.feN).m (Pl.decode c.feW c.feN).k (Pl.decode c.feW c.feN).e (Pl.decode c.feW c.feN).s).mono ?_; rintro e9 W4 ⟨rfl, hk9⟩; rw [HOK.out]; have K4 := hide ((kept_new HK3.out (.cells #[.int .i64 (Pl.decode c.feW c.feN).op, .int .i64 (Pl.decode c.feW c.feN).z, .int .i64 (Pl.decode c.feW c.feN).r, .int .i64 (Pl.decode c.feW c.feN).m, .int .i64 (Pl.decode c.feW c.feN).k, .int .i64 (Pl.decode c.feW c.feN).e, .int .i64 (Pl.decode c.feW c.feN).s] 79)).trans hk9); have BX4 := hide ((Blk.new W3 #[.int .i64 (Pl.decode c.feW c.feN).op, .int .i64 (Pl.decode c.feW c.feN).z, .int .i64 (Pl.decode c.feW c.feN).r, .int .i64 (Pl.decode c.feW c.feN).m, .int .i64 (Pl.decode c.feW c.feN).k, .int .i64 (Pl.decode c.feW c.feN).e, .int .i64 (Pl.decode c.feW c.feN).s] 79).kept0 hk9); have HM4 := hide (HMp.out.any K4.out); have HB4 := hide (HBp.out.kept0 K4.out); have HS4 := hide (HSp.out.any K4.out); clear hk9; clear y0 y1 y2 y3 y4 y5 y6 v0 v1 v2 v3 v4 v5 v6; have y0 := HB4.out.cell (i := 0) rfl; have v0 := HB4.out.frozen 0; have y1 := HB4.out.cell (i := 1) rfl; have v1 := HB4.out.frozen 1; have y2 := HB4.out.cell (i := 2) rfl; have v2 := HB4.out.frozen 2; have y3 := HB4.out.cell (i := 3) rfl; have v3 := HB4.out.frozen 3; have y4 := HB4.out.cell (i := 4) rfl; have v4 := HB4.out.frozen 4; have y5 := HB4.out.cell (i := 5) rfl; have v5 := HB4.out.frozen 5; have y6 := HB4.out.cell (i := 6) rfl; have v6 := HB4.out.frozen 6; have x0 := BX4.out.cell (i := 0) rfl; have x1 := BX4.out.cell (i := 1) rfl; have x2 := BX4.out.cell (i := 2) rfl; have x3 := BX4.out.cell (i := 3) rfl; have x4 := BX4.out.cell (i := 4) rfl; have x5 := BX4.out.cell (i := 5) rfl; have x6 := BX4.out.cell (i := 6) rfl; have hx4 := HM4.out; obtain ⟨_, _, _, _, _, _, _, hB9, _⟩ := hx4; have hpw4 := hB9.lt; have hbw4 := HB4.out.lt; have hxw4 := BX4.out.lt; obtain ⟨t0, t1, t2, t3, t4, t5, t6, t7, t8, t9, t10, t11, _⟩ := hB9.cells; have f11 := hB9.frozen 11; clear hB9 t0 t1 t2 t3 t4 t5 t6 t7 t8 t9 t10))
          refine bodyPost_ret (v := .tuple #[.agg (insC c.fetI), .int .i64 c.fetN]) ?_ rfl ⟨rfl, g4, ?_, ?_⟩
          · rw [results_cell_tmp rfl, E2.out, E3.out]; go_simp; rfl
          · rw [E.out]; exact (HM4.out.cV 4).past (kept7 _ _ _ _ _ _ _ _ _) HHB.out HGp.out
          · exact since7 (HS4.out.set p 11 _ HPH.out) (Nat.le_refl _) _ _ _ _ _ _ _
        · have HOK := hide (HOK0.out.trans ho)
          have E : Hid (c.fetch = c.fe3) := hide (by unfold Pl.Mc.fetch; rw [hf1, hf3, ho]; rfl)
          have E2 : Hid (c.fetI = Pl.decode c.feW c.feN) := hide (by unfold Pl.Mc.fetI; rw [hf1, hf3, ho]; unfold Pl.Mc.feX; rw [EV.out]; rfl)
          have E3 : Hid (c.fetN = Pl.longW c.feW) := hide (by unfold Pl.Mc.fetN; rw [hf1, hf3, ho]; rfl)
          go_enter Tryz.func40, Tryz.ntmps40
          go_wp2_with (first | (go_at_call 68; have z9 := HM2; refine (mAccess _ lo mid hi p g3 c.fe2 3 2 c.feA 0 HM2.out HG2.out HA2.out).mono ?_; rw [show Pl.Mc.accV c.fe2 3 2 c.feA 0 = c.feN from EN.out]; rintro e9 W5 ⟨rfl, g4, hm9, hb9⟩; have HMp : Hid (MAt W5 lo mid hi p g4 c.fe3) := hide (by rw [E4.out]; exact hm9); have HBp := hide (hb9.blk HB2.out HHB.out HG1B.out); have HGp := hide (hb9.ne (by simp; omega) HG1B.out); have HSp := hide (HS2.out.trans hb9); clear hm9 hb9; clear y0 y1 y2 y3 y4 y5 y6 v0 v1 v2 v3 v4 v5 v6; have y0 := HBp.out.cell (i := 0) rfl; have v0 := HBp.out.frozen 0; have y1 := HBp.out.cell (i := 1) rfl; have v1 := HBp.out.frozen 1; have y2 := HBp.out.cell (i := 2) rfl; have v2 := HBp.out.frozen 2; have y3 := HBp.out.cell (i := 3) rfl; have v3 := HBp.out.frozen 3; have y4 := HBp.out.cell (i := 4) rfl; have v4 := HBp.out.frozen 4; have y5 := HBp.out.cell (i := 5) rfl; have v5 := HBp.out.frozen 5; have y6 := HBp.out.cell (i := 6) rfl; have v6 := HBp.out.frozen 6) | (go_at_call 41; have z9 := HGp; refine (mFine _ lo mid hi p g4 _ HMp.out).mono ?_; rintro e9 w9 ⟨rfl, hw⟩; have hw2 := hw.symm; clear hw; subst hw2; rw [hf2]) | (go_at_call 68; refine (mAccess _ lo mid hi p g2 c.fe0 3 2 c.r.p 0 HM0.out HG0.out HA0.out).mono ?_; rw [show Pl.Mc.accV c.fe0 3 2 c.r.p 0 = c.feW from rfl]; rintro e9 W ⟨rfl, g3, hm9, hb9⟩; have HM1 : Hid (MAt W lo mid hi p g3 c.fe1) := hide hm9; have HB1 := hide (hb9.blk HBO.out HHB.out HGB.out); have HG1B := hide (hb9.ne (by simp; omega) HGB.out); have HS1 := hide (HS0.out.trans hb9); obtain ⟨_, _, _, _, _, _, _, hB9, _⟩ := hm9; have hpw := hB9.lt; obtain ⟨t0, t1, t2, t3, t4, t5, t6, t7, t8, t9, t10, t11, t12, t13, t14, t15⟩ := hB9.cells; have f14 := hB9.frozen 14; clear hb9 hB9 t0 t1 t2 t3 t4 t5 t6 t7 t8 t9 t10 t11 t12 t13 t15; have y0 := HB1.out.cell (i := 0) rfl; have v0 := HB1.out.frozen 0; have y1 := HB1.out.cell (i := 1) rfl; have v1 := HB1.out.frozen 1; have y2 := HB1.out.cell (i := 2) rfl; have v2 := HB1.out.frozen 2; have y3 := HB1.out.cell (i := 3) rfl; have v3 := HB1.out.frozen 3; have y4 := HB1.out.cell (i := 4) rfl; have v4 := HB1.out.frozen 4; have y5 := HB1.out.cell (i := 5) rfl; have v5 := HB1.out.frozen 5; have y6 := HB1.out.cell (i := 6) rfl; have v6 := HB1.out.frozen 6; have HM2 : Hid (MAt (W.setCell ⟨p, 14, none⟩ (.int .i64 c.feW)) lo mid hi p g3 c.fe2) := hide (HM1.out.cWo c.feW); have HB2 := hide (HB1.out.other p 14 (.int .i64 c.feW) (by omega)); have HS2 := hide (HS1.out.set p 14 (.int .i64 c.feW) HPH.out); have hbW := HB1.out.lt) | (go_at_call 41; have z9 := HG1B; refine (mFine _ lo mid hi p g3 _ HM1.out).mono ?_; rintro e9 w9 ⟨rfl, hw⟩; have hw2 := hw.symm; clear hw; subst hw2; rw [hf1]) | (go_at_call 69; refine (specLong c.feW _ hw0 hw1).mono ?_; rintro e9 w9 ⟨rfl, hw⟩; have hw2 := hw.symm; clear hw; subst hw2) | (go_at_call 70; have z9 := HGp; refine (specDecode _ c.feW c.feN hw0 hw1).mono ?_; rintro e9 W3 ⟨rfl, hk9⟩; have HK3 := hide hk9; clear hk9) | (go_at_call 71; have z9 := HK3; refine (specGoodIns _ (Pl.decode c.feW c.feN).op (Pl.decode c.feW c.feN).z (Pl.decode c.feW c.feN).r (Pl.decode c.feW c.feN).m (Pl.decode c.feW c.feN).k (Pl.decode c.feW c.feN).e (Pl.decode c.feW c.feN).s).mono ?_; rintro e9 W4 ⟨rfl, hk9⟩; rw [HOK.out]; have K4 := hide ((kept_new HK3.out (.cells #[.int .i64 (Pl.decode c.feW c.feN).op, .int .i64 (Pl.decode c.feW c.feN).z, .int .i64 (Pl.decode c.feW c.feN).r, .int .i64 (Pl.decode c.feW c.feN).m, .int .i64 (Pl.decode c.feW c.feN).k, .int .i64 (Pl.decode c.feW c.feN).e, .int .i64 (Pl.decode c.feW c.feN).s] 79)).trans hk9); have BX4 := hide ((Blk.new W3 #[.int .i64 (Pl.decode c.feW c.feN).op, .int .i64 (Pl.decode c.feW c.feN).z, .int .i64 (Pl.decode c.feW c.feN).r, .int .i64 (Pl.decode c.feW c.feN).m, .int .i64 (Pl.decode c.feW c.feN).k, .int .i64 (Pl.decode c.feW c.feN).e, .int .i64 (Pl.decode c.feW c.feN).s] 79).kept0 hk9); have HM4 := hide (HMp.out.any K4.out); have HB4 := hide (HBp.out.kept0 K4.out); have HS4 := hide (HSp.out.any K4.out); clear hk9; clear y0 y1 y2 y3 y4 y5 y6 v0 v1 v2 v3 v4 v5 v6; have y0 := HB4.out.cell (i := 0) rfl; have v0 := HB4.out.frozen 0; have y1 := HB4.out.cell (i := 1) rfl; have v1 := HB4.out.frozen 1; have y2 := HB4.out.cell (i := 2) rfl; have v2 := HB4.out.frozen 2; have y3 := HB4.out.cell (i := 3) rfl; have v3 := HB4.out.frozen 3; have y4 := HB4.out.cell (i := 4) rfl; have v4 := HB4.out.frozen 4; have y5 := HB4.out.cell (i := 5) rfl; have v5 := HB4.out.frozen 5; have y6 := HB4.out.cell (i := 6) rfl; have v6 := HB4.out.frozen 6; have x0 := BX4.out.cell (i := 0) rfl; have x1 := BX4.out.cell (i := 1) rfl; have x2 := BX4.out.cell (i := 2) rfl; have x3 := BX4.out.cell (i := 3) rfl; have x4 := BX4.out.cell (i := 4) rfl; have x5 := BX4.out.cell (i := 5) rfl; have x6 := BX4.out.cell (i := 6) rfl; have hx4 := HM4.out; obtain ⟨_, _, _, _, _, _, _, hB9, _⟩ := hx4; have hpw4 := hB9.lt; have hbw4 := HB4.out.lt; have hxw4 := BX4.out.lt; obtain ⟨t0, t1, t2, t3, t4, t5, t6, t7, t8, t9, t10, t11, _⟩ := hB9.cells; have f11 := hB9.frozen 11; clear hB9 t0 t1 t2 t3 t4 t5 t6 t7 t8 t9 t10))
          refine bodyPost_ret (v := .tuple #[.agg (insC c.fetI), .int .i64 c.fetN]) ?_ rfl ⟨rfl, g4, ?_, ?_⟩
          · rw [results_cell_tmp rfl, E2.out, E3.out]; go_simp; rfl
          · rw [E.out]; exact HM4.out.past (kept7 _ _ _ _ _ _ _ _ _) HHB.out HGp.out
          · exact since7 HS4.out (Nat.le_refl _) _ _ _ _ _ _ _
end Go.Proofs.YtblddehlkaolbaaGreatDoor

namespace Go.Proofs.YtblddehlkaolbaaGreatDoor
open Go.RowKit
def ftC (f : Pl.Ft) : Array Value := #[.int .i64 f.v, .int .i64 f.pc, .int .i64 f.ad, .int .i64 f.wo, .bool f.wr]
theorem results_cell2 {fn : Func} {p q : Tmp} {ty tz : TypeId} (h : fn.results = #[.cell p ty, .cell q tz]) (tmps : Array Value) (P : Program) (w : World) :
    (results fn tmps).run P w = ((asAddr (tmps.getD p undef)).run P w).andThen fun a w₁ => ((loadVar ty a).run P w₁).andThen fun v w₂ => ((asAddr (tmps.getD q undef)).run P w₂).andThen fun b w₃ => ((loadVar tz b).run P w₃).andThen fun u w₄ => .ok (.tuple #[v, u]) w₄ := by
  simp only [results, h]
  simp [Sem.run_bind, Result.andThen]
theorem results_tc {fn : Func} {p q : Tmp} {tz : TypeId} (h : fn.results = #[.tmp p, .cell q tz]) (tmps : Array Value) (P : Program) (w : World) :
    (results fn tmps).run P w = ((asAddr (tmps.getD q undef)).run P w).andThen fun b w₁ => ((loadVar tz b).run P w₁).andThen fun u w₂ => .ok (.tuple #[tmps.getD p undef, u]) w₂ := by
  simp only [results, h]
  simp [Sem.run_bind, Result.andThen]
end Go.Proofs.YtblddehlkaolbaaGreatDoor

namespace Go.Proofs.YtblddehlkaolbaaGreatDoor
open Go.RowKit
set_option linter.unusedVariables false
theorem Pl.GM.fetch {c : Pl.Mc} (h : Pl.GM c) : Pl.GM c.fetch := by
  have h0 : Pl.GM c.fe0 := h.ft _
  have h1 : Pl.GM c.fe1 := h0.acc (Pl.ask_read (.inr rfl) h.p0 h.p1)
  have h2 : Pl.GM c.fe2 := h1.ft _
  have h3 : Pl.GM c.fe3 := by
    unfold Pl.Mc.fe3
    cases Pl.longW c.feW == 2
    · exact h2
    · exact h2.acc (Pl.ask_read (.inr rfl) (by unfold Pl.Mc.feA; omega) (by unfold Pl.Mc.feA; omega))
  unfold Pl.Mc.fetch
  cases !c.fe1.fine
  · cases !c.fe3.fine
    · cases !Pl.inOk c.feX
      · exact h3
      · exact h3.ft _
    · exact h3
  · exact h1
theorem MB.laid2 {w : World} {p gd cd ga ca g1 c1 g2 c2 : Nat} {c : Pl.Mc} (h : MB w p gd cd ga ca g1 c1 g2 c2 c) (r : Pl.Rg) (gd' cd' ga' ca' : Nat) : MB ((((((((w.setCell ⟨p, 0, none⟩ ((.slice (some ⟨gd', 0, none⟩) 4 cd'))).setCell ⟨p, 1, none⟩ ((.slice (some ⟨ga', 0, none⟩) 4 ca'))).setCell ⟨p, 2, none⟩ ((.int .i64 r.o))).setCell ⟨p, 3, none⟩ ((.int .i64 r.p))).setCell ⟨p, 4, none⟩ ((.int .i64 r.f))).setCell ⟨p, 5, none⟩ ((.int .i64 r.m))).setCell ⟨p, 6, none⟩ ((.bool r.s))).setCell ⟨p, 7, none⟩ ((.bool r.t))) p gd' cd' ga' ca' g1 c1 g2 c2 (c.setR r) := by
  have q := (((((((Blk.set h 0 (.slice (some ⟨gd', 0, none⟩) 4 cd')).set 1 (.slice (some ⟨ga', 0, none⟩) 4 ca')).set 2 (.int .i64 r.o)).set 3 (.int .i64 r.p)).set 4 (.int .i64 r.f)).set 5 (.int .i64 r.m)).set 6 (.bool r.s)).set 7 (.bool r.t)
  unfold mcells at q
  rw [s16_0, s16_1, s16_2, s16_3, s16_4, s16_5, s16_6, s16_7] at q
  exact q
theorem below_since {w w' : World} {lo hi g g' : Nat} (h : Since w lo hi g w' g') (hg : lo ≤ g) (hs : lo ≤ w.heap.size) : Below lo w w' := ⟨h.2.os, h.2.tape, h.2.output, h.2.size, fun k hk => h.2.block k (by omega) (by unfold own; omega)⟩
theorem below_kpt {w w' : World} {lo : Nat} (k : Kept 0 0 w w') (hs : lo ≤ w.heap.size) : Below lo w w' := ⟨k.os, k.tape, k.output, k.size, fun i hi => k.block i (by omega) (by omega)⟩
theorem Blk.below {w w' : World} {lo b : Nat} {cs : Array Value} {ty : TypeId} (h : Blk w b cs ty) (k : Below lo w w') (hb : b < lo) : Blk w' b cs ty := (k.block b hb).trans h
theorem MAt.logLo {w : World} {lo mid hi p g2 : Nat} {c : Pl.Mc} (h : MAt w lo mid hi p g2 c) : lo ≤ g2 := by
  obtain ⟨gd, cd, ga, ca, g1, c1, c2, hB, hO⟩ := h
  have := hO.g2; have := hO.d0; have := hO.d1
  omega
theorem cellsF {W : World} {p gd cd ga ca g1 c1 g2 c2 : Nat} {c : Pl.Mc} (hB : MB W p gd cd ga ca g1 c1 g2 c2 c) : W.cell? ⟨p, 11, none⟩ = some (.int .i64 c.f.v) ∧ W.cell? ⟨p, 12, none⟩ = some (.int .i64 c.f.pc) ∧ W.cell? ⟨p, 13, none⟩ = some (.int .i64 c.f.ad) ∧ W.cell? ⟨p, 14, none⟩ = some (.int .i64 c.f.wo) ∧ W.cell? ⟨p, 15, none⟩ = some (.bool c.f.wr) := by
  obtain ⟨t0, t1, t2, t3, t4, t5, t6, t7, t8, t9, t10, t11, t12, t13, t14, t15⟩ := hB.cells
  exact ⟨t11, t12, t13, t14, t15⟩
theorem kept5 (w : World) (b : Nat) (v0 v1 v2 v3 v4 : Value) : Kept b (b + 1) w (((((w.setCell ⟨b, 0, none⟩ v0).setCell ⟨b, 1, none⟩ v1).setCell ⟨b, 2, none⟩ v2).setCell ⟨b, 3, none⟩ v3).setCell ⟨b, 4, none⟩ v4) := ((((kept_one w b 0 v0).one 1 v1).one 2 v2).one 3 v3).one 4 v4
theorem MB.over12 {w : World} {p gd cd ga ca g1 c1 g2 c2 b : Nat} {c : Pl.Mc} (h : MB w p gd cd ga ca g1 c1 g2 c2 c) (hn : ¬ (b ≤ p ∧ p < b + 1)) (v0 v1 v2 v3 v4 v5 v6 v7 v8 v9 v10 v11 : Value) : MB ((((((((((((w.setCell ⟨b, 0, none⟩ v0).setCell ⟨b, 1, none⟩ v1).setCell ⟨b, 2, none⟩ v2).setCell ⟨b, 3, none⟩ v3).setCell ⟨b, 4, none⟩ v4).setCell ⟨b, 5, none⟩ v5).setCell ⟨b, 6, none⟩ v6).setCell ⟨b, 7, none⟩ v7).setCell ⟨b, 8, none⟩ v8).setCell ⟨b, 9, none⟩ v9).setCell ⟨b, 10, none⟩ v10).setCell ⟨b, 11, none⟩ v11) p gd cd ga ca g1 c1 g2 c2 c := Blk.kept h (kept12 _ _ v0 v1 v2 v3 v4 v5 v6 v7 v8 v9 v10 v11) hn
theorem MB.over5 {w : World} {p gd cd ga ca g1 c1 g2 c2 b : Nat} {c : Pl.Mc} (h : MB w p gd cd ga ca g1 c1 g2 c2 c) (hn : ¬ (b ≤ p ∧ p < b + 1)) (v0 v1 v2 v3 v4 : Value) : MB (((((w.setCell ⟨b, 0, none⟩ v0).setCell ⟨b, 1, none⟩ v1).setCell ⟨b, 2, none⟩ v2).setCell ⟨b, 3, none⟩ v3).setCell ⟨b, 4, none⟩ v4) p gd cd ga ca g1 c1 g2 c2 c := Blk.kept h (kept5 _ _ v0 v1 v2 v3 v4) hn
theorem CO.pastS {w w' : World} {lo' lo x y mid gd ga g1 g2 c2 : Nat} {c : Pl.Cp} (h : CO w lo' mid c gd ga g1 g2 c2) (hl : y ≤ lo') (hb : lo ≤ lo') (k : Kept x y w w') : CO w' lo mid c gd ga g1 g2 c2 := by
  have q := h.l.lt g2 rfl
  have := h.d0; have := h.d1; have := h.b0; have := h.a0; have := h.a1
  exact ⟨h.d.keptS k (by omega), h.a.keptS k (by omega), h.b.keptS k (by omega), ownsRow_keptS h.l k (by omega), by omega, h.d1, by omega, h.a1, h.da, h.b0, Nat.lt_of_lt_of_le h.b1 k.size, h.bl⟩
set_option maxRecDepth 100000 in
set_option maxHeartbeats 8000000 in
theorem mStep_fetch (w : World) (c : Pl.Cp) (a b e q : Option Addr) (ca cb ce cq : Nat) (ha : IRow w a c.r.xs) (hb : IRow w b c.r.ys) (he : IRow w e c.bx) (hq : IRow w q c.bl) (hok : Pl.cpOk c = true) (hl : c.bl.length = 5 * c.bm) (hf : (Pl.Mc.ofC c).fetch.fine = false) :
    Calls Tryz.prog 18 #[.agg #[.slice a 4 ca, .slice b 4 cb, .int .i64 c.r.o, .int .i64 c.r.p, .int .i64 c.r.f, .int .i64 c.r.m, .bool c.r.s, .bool c.r.t, .slice e 512 ce, .slice q c.bm cq, .bool c.st, .bool c.ha]] w fun r w' => ∃ gd cd ga cA g1 c1 g2 c2 mid : Nat, r = .returned (.tuple #[.agg (cpuC (Pl.stepC c) gd cd ga cA g1 c1 g2 c2), .agg (ftC (Pl.stepF c))]) ∧ CO w' w.heap.size mid (Pl.stepC c) gd ga g1 g2 c2 ∧ Kept 0 0 w w' := by
  have HG := hide (Pl.GM.of hok hl c.st)
  have h4 := HG.out.g.d4
  have h5 := HG.out.g.a4
  have hbx := HG.out.bx
  have hbm := HG.out.bm
  have K0 := hide (kept_new (kept_new (kept_alloc w (.cells #[.slice a 4 ca, .slice b 4 cb, .int .i64 c.r.o, .int .i64 c.r.p, .int .i64 c.r.f, .int .i64 c.r.m, .bool c.r.s, .bool c.r.t, .slice e 512 ce, .slice q c.bm cq, .bool c.st, .bool c.ha] 36)) (.cells #[.slice none 0 0, .slice none 0 0, .int .i64 0, .int .i64 0, .int .i64 0, .int .i64 0, .bool false, .bool false, .slice none 0 0, .slice none 0 0, .bool false, .bool false] 36)) (.cells #[.int .i64 0, .int .i64 0, .int .i64 0, .int .i64 0, .bool false] 38))
  have B0 := ((Blk.new w #[.slice a 4 ca, .slice b 4 cb, .int .i64 c.r.o, .int .i64 c.r.p, .int .i64 c.r.f, .int .i64 c.r.m, .bool c.r.s, .bool c.r.t, .slice e 512 ce, .slice q c.bm cq, .bool c.st, .bool c.ha] 36).alloc (.cells #[.slice none 0 0, .slice none 0 0, .int .i64 0, .int .i64 0, .int .i64 0, .int .i64 0, .bool false, .bool false, .slice none 0 0, .slice none 0 0, .bool false, .bool false] 36)).alloc (.cells #[.int .i64 0, .int .i64 0, .int .i64 0, .int .i64 0, .bool false] 38)
  have B1 := (Blk.new (w.alloc (.cells #[.slice a 4 ca, .slice b 4 cb, .int .i64 c.r.o, .int .i64 c.r.p, .int .i64 c.r.f, .int .i64 c.r.m, .bool c.r.s, .bool c.r.t, .slice e 512 ce, .slice q c.bm cq, .bool c.st, .bool c.ha] 36)) #[.slice none 0 0, .slice none 0 0, .int .i64 0, .int .i64 0, .int .i64 0, .int .i64 0, .bool false, .bool false, .slice none 0 0, .slice none 0 0, .bool false, .bool false] 36).alloc (.cells #[.int .i64 0, .int .i64 0, .int .i64 0, .int .i64 0, .bool false] 38)
  have B2 := Blk.new ((w.alloc (.cells #[.slice a 4 ca, .slice b 4 cb, .int .i64 c.r.o, .int .i64 c.r.p, .int .i64 c.r.f, .int .i64 c.r.m, .bool c.r.s, .bool c.r.t, .slice e 512 ce, .slice q c.bm cq, .bool c.st, .bool c.ha] 36)).alloc (.cells #[.slice none 0 0, .slice none 0 0, .int .i64 0, .int .i64 0, .int .i64 0, .int .i64 0, .bool false, .bool false, .slice none 0 0, .slice none 0 0, .bool false, .bool false] 36)) #[.int .i64 0, .int .i64 0, .int .i64 0, .int .i64 0, .bool false] 38
  simp only [World.size_alloc] at B1 B2
  obtain ⟨X, hX⟩ : ∃ X : World, ((w.alloc (.cells #[.slice a 4 ca, .slice b 4 cb, .int .i64 c.r.o, .int .i64 c.r.p, .int .i64 c.r.f, .int .i64 c.r.m, .bool c.r.s, .bool c.r.t, .slice e 512 ce, .slice q c.bm cq, .bool c.st, .bool c.ha] 36)).alloc (.cells #[.slice none 0 0, .slice none 0 0, .int .i64 0, .int .i64 0, .int .i64 0, .int .i64 0, .bool false, .bool false, .slice none 0 0, .slice none 0 0, .bool false, .bool false] 36)).alloc (.cells #[.int .i64 0, .int .i64 0, .int .i64 0, .int .i64 0, .bool false] 38) = X := ⟨_, rfl⟩
  rw [hX] at K0 B0 B1 B2
  have hxs : X.heap.size = w.heap.size + 3 := by rw [← hX]; simp
  have HXS := hide hxs
  have HB0 := hide B0
  have HB1 := hide B1
  have HB2 := hide B2
  have HA := hide (ha.keptS K0.out)
  have HB := hide (hb.keptS K0.out)
  have HE := hide (he.keptS K0.out)
  have HQ := hide (hq.keptS K0.out)
  have HAw := hide ha
  have HBw := hide hb
  clear B0 B1 B2 ha hb he hq hxs
  have i0 := HB0.out.cell (i := 0) rfl
  have i1 := HB0.out.cell (i := 1) rfl
  have i2 := HB0.out.cell (i := 2) rfl
  have i3 := HB0.out.cell (i := 3) rfl
  have i4 := HB0.out.cell (i := 4) rfl
  have i5 := HB0.out.cell (i := 5) rfl
  have i6 := HB0.out.cell (i := 6) rfl
  have i7 := HB0.out.cell (i := 7) rfl
  have i8 := HB0.out.cell (i := 8) rfl
  have i9 := HB0.out.cell (i := 9) rfl
  have i10 := HB0.out.cell (i := 10) rfl
  have i11 := HB0.out.cell (i := 11) rfl
  have HGf : Hid (Pl.GM (Pl.Mc.ofC c).fetch) := hide (Pl.GM.fetch HG.out)
  have ES : Pl.stepM c = (Pl.Mc.ofC c).fetch := by
    have e1 : (Pl.Mc.ofC c).s1 = (Pl.Mc.ofC c).fetch := by unfold Pl.Mc.s1; rw [hf]; rfl
    unfold Pl.stepM Pl.Mc.s2; rw [e1, hf]; rfl
  have EC : Hid (Pl.stepC c = Pl.Mc.cpu { ((Pl.Mc.ofC c).fetch.setR c.r) with st := c.st } false) := hide (by unfold Pl.stepC; rw [ES, hf]; rfl)
  have EF : Hid (Pl.stepF c = (Pl.Mc.ofC c).fetch.f) := hide (by unfold Pl.stepF; rw [ES, hf]; rfl)
  have HBL : Hid (w.heap.size < X.heap.size) := hide (by have := HXS.out; omega)
  clear ES
  go_enter Tryz.func18, Tryz.ntmps18
  go_wp2_with (first | (go_at_call 41; have z9 := HBm; refine (mFine _ X.heap.size mid W1.heap.size p g3 _ HMZ.out).mono ?_; rintro e9 w9 ⟨rfl, hw⟩; have hw2 := hw.symm; clear hw; subst hw2; rw [hf]) | (go_at_call 45; have z9 := HBm; refine (own4 _ c.r a b ca cb (HAw.out.keptS HKZ.out) (HBw.out.keptS HKZ.out) h4 h5).mono ?_; unfold regV; rintro e9 W3 ⟨gd', cd', ga', ca', rfl, od, oa, d0, d1, a0, a1, da, k9⟩; have hplt := HBm.out.lt; have HD3 := hide od; have HA3 := hide oa; have HB3 := hide (HBm.out.any k9); have HO3 := hide (HOm.out.any k9); have HK3 := hide (HKZ.out.trans k9); have HZ3 := hide (HZB.out.kept0 k9); have HL3 := hide (HLZ.out.trans (below_kpt k9 (Nat.le_trans (Nat.le_refl X.heap.size) HLZ.out.size))); clear od oa k9 i0 i1 i2 i3 i4 i5 i6 i7 i8 i9 i10 i11; have i10 := HZ3.out.cell (i := 10) rfl; obtain ⟨u0, u1, u2, u3, u4, u5, u6, u7, u8, u9, u10, u11, u12, u13, u14, u15⟩ := HB3.out.cells; have q0 := HB3.out.frozen 0; have q1 := HB3.out.frozen 1; have q2 := HB3.out.frozen 2; have q3 := HB3.out.frozen 3; have q4 := HB3.out.frozen 4; have q5 := HB3.out.frozen 5; have q6 := HB3.out.frozen 6; have q7 := HB3.out.frozen 7; have q10 := HB3.out.frozen 10) | (go_at_call 39; refine (mStart _ c a b e q ca cb ce cq HA.out HB.out HE.out HQ.out h4 h5 hbx hl hbm).mono ?_; rintro e9 W1 ⟨mid, p, g2, rfl, hm9, hp9, k9⟩; have HM1 := hide hm9; have HK1 := hide k9; have HP1 := hide hp9; have HL1 := hide (below_kpt k9 (Nat.le_refl X.heap.size)); obtain ⟨_, _, _, _, _, _, _, hB9, _⟩ := hm9; have hpw1 := hB9.lt; have t3 := (MB.cells hB9).2.2.2.1; clear hp9 k9 hB9) | (go_at_call 40; refine (mFetch _ X.heap.size mid W1.heap.size p g2 (Pl.Mc.ofC c) HM1.out HG.out).mono ?_; rintro e9 W2 ⟨rfl, g3, hm9, hb9⟩; have HM2 := hide hm9; have HS2 := hide hb9; have HL2 := hide (HL1.out.trans (below_since hb9 HM1.out.logLo HL1.out.size)); clear hm9 hb9 t3; unfold insC; have KZ := kept_alloc W2 (.cells #[.int .i64 (Pl.Mc.ofC c).fetI.op, .int .i64 (Pl.Mc.ofC c).fetI.z, .int .i64 (Pl.Mc.ofC c).fetI.r, .int .i64 (Pl.Mc.ofC c).fetI.m, .int .i64 (Pl.Mc.ofC c).fetI.k, .int .i64 (Pl.Mc.ofC c).fetI.e, .int .i64 (Pl.Mc.ofC c).fetI.s] 79); have BZ := Blk.new W2 #[.int .i64 (Pl.Mc.ofC c).fetI.op, .int .i64 (Pl.Mc.ofC c).fetI.z, .int .i64 (Pl.Mc.ofC c).fetI.r, .int .i64 (Pl.Mc.ofC c).fetI.m, .int .i64 (Pl.Mc.ofC c).fetI.k, .int .i64 (Pl.Mc.ofC c).fetI.e, .int .i64 (Pl.Mc.ofC c).fetI.s] 79; obtain ⟨Z, hZ⟩ : ∃ Z : World, W2.alloc (.cells #[.int .i64 (Pl.Mc.ofC c).fetI.op, .int .i64 (Pl.Mc.ofC c).fetI.z, .int .i64 (Pl.Mc.ofC c).fetI.r, .int .i64 (Pl.Mc.ofC c).fetI.m, .int .i64 (Pl.Mc.ofC c).fetI.k, .int .i64 (Pl.Mc.ofC c).fetI.e, .int .i64 (Pl.Mc.ofC c).fetI.s] 79) = Z := ⟨_, rfl⟩; rw [hZ] at KZ BZ; have HBZ := hide BZ; have HMZ := hide (HM2.out.any KZ); have HLZ := hide (HL2.out.trans (below_kpt KZ (Nat.le_trans (Nat.le_refl X.heap.size) HL2.out.size))); have HKZ := hide (kept_lower K0.out HLZ.out K0.out.size); clear KZ BZ; have HZB := hide (HB0.out.below HLZ.out HBL.out); clear i0 i1 i2 i3 i4 i5 i6 i7 i8 i9 i10 i11; have i0 := HZB.out.cell (i := 0) rfl; have i1 := HZB.out.cell (i := 1) rfl; have i2 := HZB.out.cell (i := 2) rfl; have i3 := HZB.out.cell (i := 3) rfl; have i4 := HZB.out.cell (i := 4) rfl; have i5 := HZB.out.cell (i := 5) rfl; have i6 := HZB.out.cell (i := 6) rfl; have i7 := HZB.out.cell (i := 7) rfl; have i8 := HZB.out.cell (i := 8) rfl; have i9 := HZB.out.cell (i := 9) rfl; have i10 := HZB.out.cell (i := 10) rfl; have i11 := HZB.out.cell (i := 11) rfl; have hzm := HMZ.out; obtain ⟨gd, cd, ga, cA, g1, c1, c2, hB9, hO9⟩ := hzm; have HBm := hide hB9; have HOm := hide hO9; have hpz := hB9.lt; clear hB9 hO9))
  have hd3 := HD3.out.lt (by rw [h4]; decide)
  have KP := (MB.kept8 (w := W3) (p := p) (.slice (some ⟨gd', 0, none⟩) 4 cd') (.slice (some ⟨ga', 0, none⟩) 4 ca') (.int .i64 c.r.o) (.int .i64 c.r.p) (.int .i64 c.r.f) (.int .i64 c.r.m) (.bool c.r.s) (.bool c.r.t)).one 10 (.bool c.st)
  have MY : MB (((((((((W3.setCell ⟨p, 0, none⟩ ((.slice (some ⟨gd', 0, none⟩) 4 cd'))).setCell ⟨p, 1, none⟩ ((.slice (some ⟨ga', 0, none⟩) 4 ca'))).setCell ⟨p, 2, none⟩ ((.int .i64 c.r.o))).setCell ⟨p, 3, none⟩ ((.int .i64 c.r.p))).setCell ⟨p, 4, none⟩ ((.int .i64 c.r.f))).setCell ⟨p, 5, none⟩ ((.int .i64 c.r.m))).setCell ⟨p, 6, none⟩ ((.bool c.r.s))).setCell ⟨p, 7, none⟩ ((.bool c.r.t))).setCell ⟨p, 10, none⟩ (.bool c.st)) p gd' cd' ga' ca' g1 c1 g3 c2 { ((Pl.Mc.ofC c).fetch.setR c.r) with st := c.st } := (HB3.out.laid2 c.r gd' cd' ga' ca').cSt c.st
  generalize (((((((((W3.setCell ⟨p, 0, none⟩ ((.slice (some ⟨gd', 0, none⟩) 4 cd'))).setCell ⟨p, 1, none⟩ ((.slice (some ⟨ga', 0, none⟩) 4 ca'))).setCell ⟨p, 2, none⟩ ((.int .i64 c.r.o))).setCell ⟨p, 3, none⟩ ((.int .i64 c.r.p))).setCell ⟨p, 4, none⟩ ((.int .i64 c.r.f))).setCell ⟨p, 5, none⟩ ((.int .i64 c.r.m))).setCell ⟨p, 6, none⟩ ((.bool c.r.s))).setCell ⟨p, 7, none⟩ ((.bool c.r.t))).setCell ⟨p, 10, none⟩ (.bool c.st)) = Y at KP MY ⊢
  have hop := HO3.out.p0
  have hob := HO3.out.b0
  have hog := HO3.out.g2
  have hobl := HO3.out.pb
  have hopl := HO3.out.pl
  have hos := HO3.out.d0
  have hos2 := HO3.out.d1
  have HYd := hide (HD3.out.keptS KP (by omega)).row
  have HYa := hide (HA3.out.keptS KP (by omega)).row
  have HYb := hide (HO3.out.b.keptS KP (by omega)).row
  have HYl := hide ((own_of_row5 HO3.out.l).keptS KP (by omega)).row
  have KDY := hide (kept_drew (Kept.refl 0 0 Y))
  have HMY := hide (MY.any KDY.out)
  have LY := hide ((HL3.out.trans (below_of' KP (by omega) (by have := HL3.out.size; omega))).drew)
  have HKY := hide (kept_lower K0.out LY.out K0.out.size)
  have HO1Y := hide (HB1.out.below LY.out (by have := HXS.out; omega))
  have HO2Y := hide (HB2.out.below LY.out (by have := HXS.out; omega))
  have HN1 : Hid (¬ (w.heap.size + 1 ≤ p ∧ p < w.heap.size + 1 + 1)) := hide (by have := HXS.out; omega)
  have HN2 : Hid (¬ (w.heap.size + 1 + 1 ≤ p ∧ p < w.heap.size + 1 + 1 + 1)) := hide (by have := HXS.out; omega)
  have CF : ∀ W : World, MB W p gd' cd' ga' ca' g1 c1 g3 c2 { ((Pl.Mc.ofC c).fetch.setR c.r) with st := c.st } → W.cell? ⟨p, 11, none⟩ = some (.int .i64 (Pl.Mc.ofC c).fetch.f.v) ∧ W.cell? ⟨p, 12, none⟩ = some (.int .i64 (Pl.Mc.ofC c).fetch.f.pc) ∧ W.cell? ⟨p, 13, none⟩ = some (.int .i64 (Pl.Mc.ofC c).fetch.f.ad) ∧ W.cell? ⟨p, 14, none⟩ = some (.int .i64 (Pl.Mc.ofC c).fetch.f.wo) ∧ W.cell? ⟨p, 15, none⟩ = some (.bool (Pl.Mc.ofC c).fetch.f.wr) := fun W h => by have z := cellsF h; exact z
  have SY := CF _ HMY.out
  have hyz : X.heap.size ≤ Y.drew.heap.size := LY.out.size
  clear KP MY
  go_region_held3 (fun w' => w'.cell? ⟨p, 11, none⟩ = some (.int .i64 (Pl.Mc.ofC c).fetch.f.v) ∧ w'.cell? ⟨p, 12, none⟩ = some (.int .i64 (Pl.Mc.ofC c).fetch.f.pc) ∧ w'.cell? ⟨p, 13, none⟩ = some (.int .i64 (Pl.Mc.ofC c).fetch.f.ad) ∧ w'.cell? ⟨p, 14, none⟩ = some (.int .i64 (Pl.Mc.ofC c).fetch.f.wo) ∧ w'.cell? ⟨p, 15, none⟩ = some (.bool (Pl.Mc.ofC c).fetch.f.wr)) (first | with_reducible exact SY | with_reducible exact S4 | with_reducible exact CF _ (HM4.out.over12 HN1.out _ _ _ _ _ _ _ _ _ _ _ _) | with_reducible exact CF _ ((HM4.out.over12 HN1.out _ _ _ _ _ _ _ _ _ _ _ _).over5 HN2.out _ _ _ _ _) | go_keep) (first | (go_at_call 44; refine (mCpuR _ p gd' cd' ga' ca' g1 c1 g3 c2 { ((Pl.Mc.ofC c).fetch.setR c.r) with st := c.st } HMY.out (HYd.out.keptS KDY.out) (HYa.out.keptS KDY.out) (HYb.out.keptS KDY.out) (HYl.out.keptS KDY.out) h4 h5 HGf.out.bx HGf.out.bl HGf.out.bm).mono ?_; unfold cpuC; rintro e9 W4 ⟨gd4, cd4, ga4, ca4, g14, c14, g24, c24, mid4, rfl, hc9, k9⟩; have HC := hide hc9; have HM4 := hide (HMY.out.any k9); have S4 := CF _ HM4.out; have HK4 := hide (HKY.out.trans k9); have HO14 := hide (HO1Y.out.kept0 k9); have HO24 := hide (HO2Y.out.kept0 k9); have hs4 := HO24.out.lt; clear hc9 k9; have o0 := HO14.out.cell (i := 0) rfl; have of0 := HO14.out.frozen 0; have o1 := HO14.out.cell (i := 1) rfl; have of1 := HO14.out.frozen 1; have o2 := HO14.out.cell (i := 2) rfl; have of2 := HO14.out.frozen 2; have o3 := HO14.out.cell (i := 3) rfl; have of3 := HO14.out.frozen 3; have o4 := HO14.out.cell (i := 4) rfl; have of4 := HO14.out.frozen 4; have o5 := HO14.out.cell (i := 5) rfl; have of5 := HO14.out.frozen 5; have o6 := HO14.out.cell (i := 6) rfl; have of6 := HO14.out.frozen 6; have o7 := HO14.out.cell (i := 7) rfl; have of7 := HO14.out.frozen 7; have o8 := HO14.out.cell (i := 8) rfl; have of8 := HO14.out.frozen 8; have o9 := HO14.out.cell (i := 9) rfl; have of9 := HO14.out.frozen 9; have o10 := HO14.out.cell (i := 10) rfl; have of10 := HO14.out.frozen 10; have o11 := HO14.out.cell (i := 11) rfl; have of11 := HO14.out.frozen 11; have y0 := HO24.out.cell (i := 0) rfl; have yf0 := HO24.out.frozen 0; have y1 := HO24.out.cell (i := 1) rfl; have yf1 := HO24.out.frozen 1; have y2 := HO24.out.cell (i := 2) rfl; have yf2 := HO24.out.frozen 2; have y3 := HO24.out.cell (i := 3) rfl; have yf3 := HO24.out.frozen 3; have y4 := HO24.out.cell (i := 4) rfl; have yf4 := HO24.out.frozen 4))
  go_wp2_with fail
  have hxs := HXS.out
  refine bodyPost_ret (v := .tuple #[.agg (cpuC (Pl.stepC c) gd4 cd4 ga4 ca4 g14 c14 g24 c24), .agg (ftC (Pl.stepF c))]) ?_ rfl ⟨gd4, cd4, ga4, ca4, g14, c14, g24, c24, mid4, rfl, ?co, ?kw⟩
  case co =>
    rw [EC.out]
    refine HC.out.pastS (x := w.heap.size + 1) (y := w.heap.size + 3) (by omega) (by omega) ?_
    repeat (first | with_reducible exact Kept.refl _ _ _ | refine kept_set ?_ _ _ _ (.inl (by omega)))
  case kw => repeat (first | with_reducible exact HK4.out | refine kept_set ?_ _ _ _ (.inr (by omega)))
  rw [results_cell2 rfl, EC.out, EF.out]; go_simp; exact ⟨rfl, rfl⟩
end Go.Proofs.YtblddehlkaolbaaGreatDoor

