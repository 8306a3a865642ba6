/- What the model of an access does to a bus of its own. A processor of one's own, a step that begins, and the processor that it is then. A step that begins, and the processor that it is then. The processor that a step is then. A fault as it is answered. A step of the model. What the model's GoodCpu answers, for every processor. What the model's StepCpu answers, for every processor. What the model's PushWord answers, for every processor and word. What the model's PopWord answers, for every processor. How long the lists of a processor that is answered are. Registers whose numbers are ints. What the program's tests of words, sizes and register numbers answer; none changes the world. -/
import Derived.Test.YtblddehlkaolbaaJO6
import Derived.Test.YtblddehlkaolbaaJO2
import Derived.Deep.DeepCutAuto
import Derived.Test.YtblddehlkaolbaaJO5
import Derived.Deep.RegionHeld3
import Derived.Test.YtblddehlkaolbaaJO1
import Derived.Test.YtblddehlkaolbaaJO3
import Derived.Deep.AppendLies
namespace Go.Proofs.Ytblddehlkaolbaa
open Go.RowKit
set_option linter.unusedVariables false

theorem l4Own (w : World) (a b : Option Addr) (ca cb m : Nat) (xs ys : List Int) (ha : IRow w a xs) (hb : IRow w b ys) (lx : xs.length ≤ 2000000) (ly : ys.length = 5 * m) (bm : m ≤ 2000000) (x0 : 0 < xs.length) :
    Calls Try.prog 97 #[.agg #[.slice a xs.length ca, .slice b m cb]] w fun e w' => ∃ (g1 c1 g2 c2 : Nat), e = .returned (.agg #[.slice (some ⟨g1, 0, none⟩) xs.length c1, .slice (some ⟨g2, 0, none⟩) m c2]) ∧ w'.ownsRow w.heap.size 3 1 (.slice (some ⟨g1, 0, none⟩) xs.length c1) xs.length (xs.map (Value.int .i64)) ∧ w'.ownsRow w.heap.size 91 5 (.slice (some ⟨g2, 0, none⟩) m c2) m (ys.map (Value.int .i64)) ∧ g1 ≠ g2 ∧ Kept 0 0 w w' := by
  obtain ⟨ga, oa, rfl, _⟩ := ha 0 x0
  by_cases h0 : m = 0
  · subst h0
    obtain rfl : ys = [] := List.eq_nil_of_length_eq_zero (by omega)
    cases b with
    | none => exact l4Own_nil w ga oa ca cb xs ha lx x0
    | some ad => exact l4Own_none w ga oa ad.block ad.off ad.spot ca cb xs ha lx x0
  · obtain ⟨gb, ob, rfl, _⟩ := hb 0 (by omega)
    refine (l4Own_log w ga oa gb ob ca cb m xs ys ha hb lx ly bm x0 (by omega)).mono ?_
    rintro e w' ⟨g1, c1, g2, c2, rfl, o1, o2, hl, kk⟩
    exact ⟨g1, c1, g2, c2, rfl, o1, o2, by omega, kk⟩

end Go.Proofs.Ytblddehlkaolbaa

namespace Go.Proofs.Ytblddehlkaolbaa
open Go.RowKit
set_option linter.unusedVariables false
def cpuC (c : Pl.Cp) (gd cd ga ca g1 c1 g2 c2 : Nat) : Array Value := #[.slice (some ⟨gd, 0, none⟩) 4 cd, .slice (some ⟨ga, 0, none⟩) 4 ca, .int .i64 c.r.o, .int .i64 c.r.p, .int .i64 c.r.f, .int .i64 c.r.m, .bool c.r.s, .bool c.r.t, .slice (some ⟨g1, 0, none⟩) 512 c1, .slice (some ⟨g2, 0, none⟩) c.bm c2, .bool c.st, .bool c.ha]
/-- its lists in blocks of their own, from lo on -/
structure CO (w : World) (lo mid : Nat) (c : Pl.Cp) (gd ga g1 g2 c2 : Nat) : Prop where
  d : Own w gd c.r.xs
  a : Own w ga c.r.ys
  b : Own w g1 c.bx
  l : w.ownsRow mid 91 5 (.slice (some ⟨g2, 0, none⟩) c.bm c2) c.bm (c.bl.map (Value.int .i64))
  d0 : lo ≤ gd
  d1 : gd < mid
  a0 : lo ≤ ga
  a1 : ga < mid
  da : gd ≠ ga
  b0 : mid ≤ g1
  b1 : g1 < w.heap.size
  bl : g1 ≠ g2
theorem CO.any {w w' : World} {lo mid gd ga g1 g2 c2 : Nat} {c : Pl.Cp} (h : CO w lo mid c gd ga g1 g2 c2) (k : Kept 0 0 w w') : CO w' lo mid c gd ga g1 g2 c2 :=
  ⟨h.d.keptS k (by omega), h.a.keptS k (by omega), h.b.keptS k (by omega), ownsRow_keptS h.l k (by omega), h.d0, h.d1, h.a0, h.a1, h.da, h.b0, Nat.lt_of_lt_of_le h.b1 k.size, h.bl⟩
theorem slotIn_some {w : World} {lo hi : Nat} {a : Option Addr} {xs : List Int} (h : SlotIn w lo hi a xs) (hx : 0 < xs.length) : ∃ g, a = some ⟨g, 0, none⟩ ∧ lo ≤ g ∧ g < hi ∧ Own w g xs := by
  rcases h with ⟨_, e⟩ | h
  · rw [e] at hx; exact absurd hx (Nat.lt_irrefl 0)
  · exact h
theorem own4 (w : World) (r : Pl.Rg) (a b : Option Addr) (ca cb : Nat) (ha : IRow w a r.xs) (hb : IRow w b r.ys) (h4 : r.xs.length = 4) (h5 : r.ys.length = 4) :
    Calls Try.prog 96 #[.agg #[.slice a 4 ca, .slice b 4 cb, .int .i64 r.o, .int .i64 r.p, .int .i64 r.f, .int .i64 r.m, .bool r.s, .bool r.t]] w fun e w' => ∃ gd cd ga cA : Nat, e = .returned (regV r gd cd ga cA) ∧ Own w' gd r.xs ∧ Own w' ga r.ys ∧ w.heap.size ≤ gd ∧ gd < w'.heap.size ∧ w.heap.size ≤ ga ∧ ga < w'.heap.size ∧ gd ≠ ga ∧ Kept 0 0 w w' := by
  have h := specOwn w r a b ca cb ha hb (by omega) (by omega)
  rw [h4, h5] at h
  refine h.mono ?_
  rintro e w' ⟨a', b', ca', cb', rfl, ⟨s1, s2, s3⟩, k⟩
  obtain ⟨gd, rfl, d0, d1, od⟩ := slotIn_some s1 (by omega)
  obtain ⟨ga, rfl, a0, a1, oa⟩ := slotIn_some s2 (by omega)
  exact ⟨gd, ca', ga, cb', rfl, od, oa, d0, d1, a0, a1, fun q => s3 gd rfl (by rw [q]; rfl), k⟩
theorem bus4 (w : World) (a b : Option Addr) (ca cb m : Nat) (xs ys : List Int) (ha : IRow w a xs) (hb : IRow w b ys) (lx : xs.length = 512) (ly : ys.length = 5 * m) (bm : m ≤ 400) :
    Calls Try.prog 97 #[.agg #[.slice a 512 ca, .slice b m cb]] w fun e w' => ∃ g1 c1 g2 c2 : Nat, e = .returned (.agg #[.slice (some ⟨g1, 0, none⟩) 512 c1, .slice (some ⟨g2, 0, none⟩) m c2]) ∧ Own w' g1 xs ∧ w'.ownsRow w.heap.size 91 5 (.slice (some ⟨g2, 0, none⟩) m c2) m (ys.map (Value.int .i64)) ∧ w.heap.size ≤ g1 ∧ g1 < w'.heap.size ∧ g1 ≠ g2 ∧ Kept 0 0 w w' := by
  have h := l4Own w a b ca cb m xs ys ha hb (by omega) ly (by omega) (by omega)
  rw [lx] at h
  refine h.mono ?_
  rintro e w' ⟨g1, c1, g2, c2, rfl, o1, o2, hn, k⟩
  have q := o1.lt g1 rfl
  have e1 := own_of_row (xs := xs) (by rw [← lx] at o1; exact lx ▸ o1)
  exact ⟨g1, c1, g2, c2, rfl, e1, o2, q.1, q.2, hn, k⟩
theorem s12_0 (a0 a1 a2 a3 a4 a5 a6 a7 a8 a9 a10 a11 v : Value) : (#[a0, a1, a2, a3, a4, a5, a6, a7, a8, a9, a10, a11] : Array Value).setIfInBounds 0 v = #[v, a1, a2, a3, a4, a5, a6, a7, a8, a9, a10, a11] := rfl
theorem s12_1 (a0 a1 a2 a3 a4 a5 a6 a7 a8 a9 a10 a11 v : Value) : (#[a0, a1, a2, a3, a4, a5, a6, a7, a8, a9, a10, a11] : Array Value).setIfInBounds 1 v = #[a0, v, a2, a3, a4, a5, a6, a7, a8, a9, a10, a11] := rfl
theorem s12_2 (a0 a1 a2 a3 a4 a5 a6 a7 a8 a9 a10 a11 v : Value) : (#[a0, a1, a2, a3, a4, a5, a6, a7, a8, a9, a10, a11] : Array Value).setIfInBounds 2 v = #[a0, a1, v, a3, a4, a5, a6, a7, a8, a9, a10, a11] := rfl
theorem s12_3 (a0 a1 a2 a3 a4 a5 a6 a7 a8 a9 a10 a11 v : Value) : (#[a0, a1, a2, a3, a4, a5, a6, a7, a8, a9, a10, a11] : Array Value).setIfInBounds 3 v = #[a0, a1, a2, v, a4, a5, a6, a7, a8, a9, a10, a11] := rfl
theorem s12_4 (a0 a1 a2 a3 a4 a5 a6 a7 a8 a9 a10 a11 v : Value) : (#[a0, a1, a2, a3, a4, a5, a6, a7, a8, a9, a10, a11] : Array Value).setIfInBounds 4 v = #[a0, a1, a2, a3, v, a5, a6, a7, a8, a9, a10, a11] := rfl
theorem s12_5 (a0 a1 a2 a3 a4 a5 a6 a7 a8 a9 a10 a11 v : Value) : (#[a0, a1, a2, a3, a4, a5, a6, a7, a8, a9, a10, a11] : Array Value).setIfInBounds 5 v = #[a0, a1, a2, a3, a4, v, a6, a7, a8, a9, a10, a11] := rfl
theorem s12_6 (a0 a1 a2 a3 a4 a5 a6 a7 a8 a9 a10 a11 v : Value) : (#[a0, a1, a2, a3, a4, a5, a6, a7, a8, a9, a10, a11] : Array Value).setIfInBounds 6 v = #[a0, a1, a2, a3, a4, a5, v, a7, a8, a9, a10, a11] := rfl
theorem s12_7 (a0 a1 a2 a3 a4 a5 a6 a7 a8 a9 a10 a11 v : Value) : (#[a0, a1, a2, a3, a4, a5, a6, a7, a8, a9, a10, a11] : Array Value).setIfInBounds 7 v = #[a0, a1, a2, a3, a4, a5, a6, v, a8, a9, a10, a11] := rfl
theorem CO.over {w w' : World} {b mid gd ga g1 g2 c2 : Nat} {c : Pl.Cp} (h : CO w (b + 2) mid c gd ga g1 g2 c2) (k : Kept b (b + 2) w w') : CO w' b mid c gd ga g1 g2 c2 := by
  have q := h.l.lt g2 rfl
  have := h.d0; have := h.d1; have := h.b0; have := h.a0; have := h.a1
  exact ⟨h.d.keptS k (by omega), h.a.keptS k (by omega), h.b.keptS k (by omega), ownsRow_keptS h.l k (by omega), by omega, h.d1, by omega, h.a1, h.da, h.b0, Nat.lt_of_lt_of_le h.b1 k.size, h.bl⟩
set_option maxHeartbeats 4000000 in
theorem mOwn (w : World) (c : Pl.Cp) (a b e q : Option Addr) (ca cb ce cq : Nat) (ha : IRow w a c.r.xs) (hb : IRow w b c.r.ys) (he : IRow w e c.bx) (hq : IRow w q c.bl) (h4 : c.r.xs.length = 4) (h5 : c.r.ys.length = 4) (hx : c.bx.length = 512) (hl : c.bl.length = 5 * c.bm) (hm : c.bm ≤ 400) :
    Calls Try.prog 81 #[.agg #[.slice a 4 ca, .slice b 4 cb, .int .i64 c.r.o, .int .i64 c.r.p, .int .i64 c.r.f, .int .i64 c.r.m, .bool c.r.s, .bool c.r.t, .slice e 512 ce, .slice q c.bm cq, .bool c.st, .bool c.ha]] w fun r w' => ∃ gd cd ga cA g1 c1 g2 c2 mid : Nat, r = .returned (.agg (cpuC c gd cd ga cA g1 c1 g2 c2)) ∧ CO w' w.heap.size mid c gd ga g1 g2 c2 ∧ Kept 0 0 w w' := by
  have K0 := hide (kept_new (kept_alloc w (.cells #[.slice a 4 ca, .slice b 4 cb, .int .i64 c.r.o, .int .i64 c.r.p, .int .i64 c.r.f, .int .i64 c.r.m, .bool c.r.s, .bool c.r.t, .slice e 512 ce, .slice q c.bm cq, .bool c.st, .bool c.ha] 29)) (.cells #[.slice none 0 0, .slice none 0 0, .int .i64 0, .int .i64 0, .int .i64 0, .int .i64 0, .bool false, .bool false, .slice none 0 0, .slice none 0 0, .bool false, .bool false] 29))
  have BA := (Blk.new w #[.slice a 4 ca, .slice b 4 cb, .int .i64 c.r.o, .int .i64 c.r.p, .int .i64 c.r.f, .int .i64 c.r.m, .bool c.r.s, .bool c.r.t, .slice e 512 ce, .slice q c.bm cq, .bool c.st, .bool c.ha] 29).alloc (.cells #[.slice none 0 0, .slice none 0 0, .int .i64 0, .int .i64 0, .int .i64 0, .int .i64 0, .bool false, .bool false, .slice none 0 0, .slice none 0 0, .bool false, .bool false] 29)
  have BO := Blk.new (w.alloc (.cells #[.slice a 4 ca, .slice b 4 cb, .int .i64 c.r.o, .int .i64 c.r.p, .int .i64 c.r.f, .int .i64 c.r.m, .bool c.r.s, .bool c.r.t, .slice e 512 ce, .slice q c.bm cq, .bool c.st, .bool c.ha] 29)) #[.slice none 0 0, .slice none 0 0, .int .i64 0, .int .i64 0, .int .i64 0, .int .i64 0, .bool false, .bool false, .slice none 0 0, .slice none 0 0, .bool false, .bool false] 29
  simp only [World.size_alloc] at BO
  obtain ⟨X, hX⟩ : ∃ X : World, (w.alloc (.cells #[.slice a 4 ca, .slice b 4 cb, .int .i64 c.r.o, .int .i64 c.r.p, .int .i64 c.r.f, .int .i64 c.r.m, .bool c.r.s, .bool c.r.t, .slice e 512 ce, .slice q c.bm cq, .bool c.st, .bool c.ha] 29)).alloc (.cells #[.slice none 0 0, .slice none 0 0, .int .i64 0, .int .i64 0, .int .i64 0, .int .i64 0, .bool false, .bool false, .slice none 0 0, .slice none 0 0, .bool false, .bool false] 29) = X := ⟨_, rfl⟩
  rw [hX] at K0 BA BO
  have HBA := hide BA
  have HBO := hide BO
  have HA := hide (ha.keptS K0.out)
  have HB := hide (hb.keptS K0.out)
  have HE := hide he
  have HQ := hide hq
  have hxs := K0.out.size
  clear BA BO ha hb he hq
  have i0 := HBA.out.cell (i := 0) rfl
  have if0 := HBA.out.frozen 0
  have i1 := HBA.out.cell (i := 1) rfl
  have if1 := HBA.out.frozen 1
  have i2 := HBA.out.cell (i := 2) rfl
  have if2 := HBA.out.frozen 2
  have i3 := HBA.out.cell (i := 3) rfl
  have if3 := HBA.out.frozen 3
  have i4 := HBA.out.cell (i := 4) rfl
  have if4 := HBA.out.frozen 4
  have i5 := HBA.out.cell (i := 5) rfl
  have if5 := HBA.out.frozen 5
  have i6 := HBA.out.cell (i := 6) rfl
  have if6 := HBA.out.frozen 6
  have i7 := HBA.out.cell (i := 7) rfl
  have if7 := HBA.out.frozen 7
  have i8 := HBA.out.cell (i := 8) rfl
  have if8 := HBA.out.frozen 8
  have i9 := HBA.out.cell (i := 9) rfl
  have if9 := HBA.out.frozen 9
  have i10 := HBA.out.cell (i := 10) rfl
  have if10 := HBA.out.frozen 10
  have i11 := HBA.out.cell (i := 11) rfl
  have if11 := HBA.out.frozen 11
  go_enter Try.func81, Try.ntmps81
  go_wp2_with (go_at_call 96; refine (own4 _ c.r a b ca cb HA.out HB.out h4 h5).mono ?_; unfold regV; rintro e9 W1 ⟨gd, cd, ga, cA, rfl, od, oa, d0, d1, a0, a1, da, k9⟩; have HD1 := hide od; have HA1 := hide oa; have K1 := hide (K0.out.trans k9); have HI1 := hide (HBA.out.kept0 k9); have HO1 := hide (HBO.out.kept0 k9); clear k9 od oa i0 i1 i2 i3 i4 i5 i6 i7 i8 i9 i10 i11 if0 if1 if2 if3 if4 if5 if6 if7 if8 if9 if10 if11; have i0 := HI1.out.cell (i := 0) rfl; have if0 := HI1.out.frozen 0; have i1 := HI1.out.cell (i := 1) rfl; have if1 := HI1.out.frozen 1; have i2 := HI1.out.cell (i := 2) rfl; have if2 := HI1.out.frozen 2; have i3 := HI1.out.cell (i := 3) rfl; have if3 := HI1.out.frozen 3; have i4 := HI1.out.cell (i := 4) rfl; have if4 := HI1.out.frozen 4; have i5 := HI1.out.cell (i := 5) rfl; have if5 := HI1.out.frozen 5; have i6 := HI1.out.cell (i := 6) rfl; have if6 := HI1.out.frozen 6; have i7 := HI1.out.cell (i := 7) rfl; have if7 := HI1.out.frozen 7; have i8 := HI1.out.cell (i := 8) rfl; have if8 := HI1.out.frozen 8; have i9 := HI1.out.cell (i := 9) rfl; have if9 := HI1.out.frozen 9; have i10 := HI1.out.cell (i := 10) rfl; have if10 := HI1.out.frozen 10; have i11 := HI1.out.cell (i := 11) rfl; have if11 := HI1.out.frozen 11)
  have K8 := MB.kept8 (w := W1) (p := w.heap.size) (.slice (some ⟨gd, 0, none⟩) 4 cd) (.slice (some ⟨ga, 0, none⟩) 4 cA) (.int .i64 c.r.o) (.int .i64 c.r.p) (.int .i64 c.r.f) (.int .i64 c.r.m) (.bool c.r.s) (.bool c.r.t)
  have HI2 : Blk ((((((((W1.setCell ⟨w.heap.size, 0, none⟩ (.slice (some ⟨gd, 0, none⟩) 4 cd)).setCell ⟨w.heap.size, 1, none⟩ (.slice (some ⟨ga, 0, none⟩) 4 cA)).setCell ⟨w.heap.size, 2, none⟩ (.int .i64 c.r.o)).setCell ⟨w.heap.size, 3, none⟩ (.int .i64 c.r.p)).setCell ⟨w.heap.size, 4, none⟩ (.int .i64 c.r.f)).setCell ⟨w.heap.size, 5, none⟩ (.int .i64 c.r.m)).setCell ⟨w.heap.size, 6, none⟩ (.bool c.r.s)).setCell ⟨w.heap.size, 7, none⟩ (.bool c.r.t)) w.heap.size #[.slice (some ⟨gd, 0, none⟩) 4 cd, .slice (some ⟨ga, 0, none⟩) 4 cA, .int .i64 c.r.o, .int .i64 c.r.p, .int .i64 c.r.f, .int .i64 c.r.m, .bool c.r.s, .bool c.r.t, .slice e 512 ce, .slice q c.bm cq, .bool c.st, .bool c.ha] 29 := by
    have z := (((((((HI1.out.set 0 (.slice (some ⟨gd, 0, none⟩) 4 cd)).set 1 (.slice (some ⟨ga, 0, none⟩) 4 cA)).set 2 (.int .i64 c.r.o)).set 3 (.int .i64 c.r.p)).set 4 (.int .i64 c.r.f)).set 5 (.int .i64 c.r.m)).set 6 (.bool c.r.s)).set 7 (.bool c.r.t)
    rw [s12_0, s12_1, s12_2, s12_3, s12_4, s12_5, s12_6, s12_7] at z
    exact z
  generalize ((((((((W1.setCell ⟨w.heap.size, 0, none⟩ (.slice (some ⟨gd, 0, none⟩) 4 cd)).setCell ⟨w.heap.size, 1, none⟩ (.slice (some ⟨ga, 0, none⟩) 4 cA)).setCell ⟨w.heap.size, 2, none⟩ (.int .i64 c.r.o)).setCell ⟨w.heap.size, 3, none⟩ (.int .i64 c.r.p)).setCell ⟨w.heap.size, 4, none⟩ (.int .i64 c.r.f)).setCell ⟨w.heap.size, 5, none⟩ (.int .i64 c.r.m)).setCell ⟨w.heap.size, 6, none⟩ (.bool c.r.s)).setCell ⟨w.heap.size, 7, none⟩ (.bool c.r.t)) = Y at K8 HI2 ⊢
  have hX2 : X.heap.size = w.heap.size + 2 := by rw [← hX]; simp
  have ds := K8.size
  have KY := hide (kept_over K1.out K8 (Nat.le_refl _))
  have HDY := hide (HD1.out.keptS K8 (by omega))
  have HAY := hide (HA1.out.keptS K8 (by omega))
  have HOY := hide (Blk.kept HO1.out K8 (by omega))
  have HIY := hide HI2
  have HEY := hide (HE.out.keptS KY.out)
  have HQY := hide (HQ.out.keptS KY.out)
  have HX2 := hide hX2
  have hs1 := HO1.out.lt
  clear K8 HI2 hX2 hX i0 i1 i2 i3 i4 i5 i6 i7 i8 i9 i10 i11 if0 if1 if2 if3 if4 if5 if6 if7 if8 if9 if10 if11
  have hdd := HDY.out.lt (by rw [h4]; decide)
  refine (bus4 _ e q ce cq c.bm c.bx c.bl HEY.out HQY.out hx hl hm).mono ?_
  rintro e9 W2 ⟨g1, c1, g2, c2, rfl, ob, ol, b0, b1, bn, k9⟩
  have HCO : Hid (CO W2 (w.heap.size + 2) Y.heap.size c gd ga g1 g2 c2) := hide ⟨HDY.out.keptS k9 (by omega), HAY.out.keptS k9 (by omega), ob, ol, by have := HX2.out; omega, by omega, by have := HX2.out; omega, by omega, da, b0, b1, bn⟩
  have K2 := hide (KY.out.trans k9)
  have HI3 := hide (HIY.out.kept0 k9)
  have HO3 := hide (HOY.out.kept0 k9)
  have hs3 := HO3.out.lt
  clear ob ol k9
  have i0 := HI3.out.cell (i := 0) rfl
  have if0 := HI3.out.frozen 0
  have i1 := HI3.out.cell (i := 1) rfl
  have if1 := HI3.out.frozen 1
  have i2 := HI3.out.cell (i := 2) rfl
  have if2 := HI3.out.frozen 2
  have i3 := HI3.out.cell (i := 3) rfl
  have if3 := HI3.out.frozen 3
  have i4 := HI3.out.cell (i := 4) rfl
  have if4 := HI3.out.frozen 4
  have i5 := HI3.out.cell (i := 5) rfl
  have if5 := HI3.out.frozen 5
  have i6 := HI3.out.cell (i := 6) rfl
  have if6 := HI3.out.frozen 6
  have i7 := HI3.out.cell (i := 7) rfl
  have if7 := HI3.out.frozen 7
  have i8 := HI3.out.cell (i := 8) rfl
  have if8 := HI3.out.frozen 8
  have i9 := HI3.out.cell (i := 9) rfl
  have if9 := HI3.out.frozen 9
  have i10 := HI3.out.cell (i := 10) rfl
  have if10 := HI3.out.frozen 10
  have i11 := HI3.out.cell (i := 11) rfl
  have if11 := HI3.out.frozen 11
  have o0 := HO3.out.cell (i := 0) rfl
  have of0 := HO3.out.frozen 0
  have o1 := HO3.out.cell (i := 1) rfl
  have of1 := HO3.out.frozen 1
  have o2 := HO3.out.cell (i := 2) rfl
  have of2 := HO3.out.frozen 2
  have o3 := HO3.out.cell (i := 3) rfl
  have of3 := HO3.out.frozen 3
  have o4 := HO3.out.cell (i := 4) rfl
  have of4 := HO3.out.frozen 4
  have o5 := HO3.out.cell (i := 5) rfl
  have of5 := HO3.out.frozen 5
  have o6 := HO3.out.cell (i := 6) rfl
  have of6 := HO3.out.frozen 6
  have o7 := HO3.out.cell (i := 7) rfl
  have of7 := HO3.out.frozen 7
  have o8 := HO3.out.cell (i := 8) rfl
  have of8 := HO3.out.frozen 8
  have o9 := HO3.out.cell (i := 9) rfl
  have of9 := HO3.out.frozen 9
  have o10 := HO3.out.cell (i := 10) rfl
  have of10 := HO3.out.frozen 10
  have o11 := HO3.out.cell (i := 11) rfl
  have of11 := HO3.out.frozen 11
  go_wp2_with fail
  refine bodyPost_ret (v := .agg (cpuC c gd cd ga cA g1 c1 g2 c2)) ?_ rfl ⟨gd, cd, ga, cA, g1, c1, g2, c2, Y.heap.size, rfl, HCO.out.over ?kk, ?kw⟩
  case kk => repeat (first | with_reducible exact Kept.refl _ _ _ | refine kept_set ?_ _ _ _ (.inl (by omega)))
  case kw => repeat (first | with_reducible exact K2.out | refine kept_set ?_ _ _ _ (.inr (by omega)))
  rw [results_one rfl]; go_simp; rfl
end Go.Proofs.Ytblddehlkaolbaa

namespace Go.Proofs.Ytblddehlkaolbaa
open Go.RowKit
set_option linter.unusedVariables false
set_option maxHeartbeats 4000000 in
theorem mStart (w : World) (c : Pl.Cp) (a b e q : Option Addr) (ca cb ce cq : Nat) (ha : IRow w a c.r.xs) (hb : IRow w b c.r.ys) (he : IRow w e c.bx) (hq : IRow w q c.bl) (h4 : c.r.xs.length = 4) (h5 : c.r.ys.length = 4) (hx : c.bx.length = 512) (hl : c.bl.length = 5 * c.bm) (hm : c.bm ≤ 400) :
    Calls Try.prog 46 #[.agg #[.slice a 4 ca, .slice b 4 cb, .int .i64 c.r.o, .int .i64 c.r.p, .int .i64 c.r.f, .int .i64 c.r.m, .bool c.r.s, .bool c.r.t, .slice e 512 ce, .slice q c.bm cq, .bool c.st, .bool c.ha]] w fun r w' => ∃ mid p g2 : Nat, r = .returned (.pointer (some ⟨p, 0, none⟩)) ∧ MAt w' w.heap.size mid w'.heap.size p g2 (Pl.Mc.ofC c) ∧ w.heap.size ≤ p ∧ Kept 0 0 w w' := by
  have K0 := hide (kept_alloc w (.cells #[.slice a 4 ca, .slice b 4 cb, .int .i64 c.r.o, .int .i64 c.r.p, .int .i64 c.r.f, .int .i64 c.r.m, .bool c.r.s, .bool c.r.t, .slice e 512 ce, .slice q c.bm cq, .bool c.st, .bool c.ha] 29))
  have BA := Blk.new w #[.slice a 4 ca, .slice b 4 cb, .int .i64 c.r.o, .int .i64 c.r.p, .int .i64 c.r.f, .int .i64 c.r.m, .bool c.r.s, .bool c.r.t, .slice e 512 ce, .slice q c.bm cq, .bool c.st, .bool c.ha] 29
  obtain ⟨X, hX⟩ : ∃ X : World, w.alloc (.cells #[.slice a 4 ca, .slice b 4 cb, .int .i64 c.r.o, .int .i64 c.r.p, .int .i64 c.r.f, .int .i64 c.r.m, .bool c.r.s, .bool c.r.t, .slice e 512 ce, .slice q c.bm cq, .bool c.st, .bool c.ha] 29) = X := ⟨_, rfl⟩
  rw [hX] at K0 BA
  have HBA := hide BA
  have HA := hide (ha.keptS K0.out)
  have HB := hide (hb.keptS K0.out)
  have HE := hide (he.keptS K0.out)
  have HQ := hide (hq.keptS K0.out)
  have hxs := K0.out.size
  clear BA ha hb he hq
  have i0 := HBA.out.cell (i := 0) rfl
  have i1 := HBA.out.cell (i := 1) rfl
  have i2 := HBA.out.cell (i := 2) rfl
  have i3 := HBA.out.cell (i := 3) rfl
  have i4 := HBA.out.cell (i := 4) rfl
  have i5 := HBA.out.cell (i := 5) rfl
  have i6 := HBA.out.cell (i := 6) rfl
  have i7 := HBA.out.cell (i := 7) rfl
  have i8 := HBA.out.cell (i := 8) rfl
  have i9 := HBA.out.cell (i := 9) rfl
  have i10 := HBA.out.cell (i := 10) rfl
  have i11 := HBA.out.cell (i := 11) rfl
  go_enter Try.func46, Try.ntmps46
  go_wp2_with (go_at_call 81; refine (mOwn _ c a b e q ca cb ce cq HA.out HB.out HE.out HQ.out h4 h5 hx hl hm).mono ?_; unfold cpuC; rintro e9 W ⟨gd, cd, ga, cA, g1, c1, g2, c2, mid, rfl, hc9, k9⟩; have HC := hide hc9; have HK := hide (K0.out.trans k9); have HKW := hide k9; clear hc9 k9)
  go_ret
  have hC1 := (HC.out.any (kept_alloc W (.cells #[.slice (some ⟨gd, 0, none⟩) 4 cd, .slice (some ⟨ga, 0, none⟩) 4 cA, .int .i64 c.r.o, .int .i64 c.r.p, .int .i64 c.r.f, .int .i64 c.r.m, .bool c.r.s, .bool c.r.t, .slice (some ⟨g1, 0, none⟩) 512 c1, .slice (some ⟨g2, 0, none⟩) c.bm c2, .bool c.st, .bool c.ha] 29)))
  have hBm := Blk.new (W.alloc (.cells #[.slice (some ⟨gd, 0, none⟩) 4 cd, .slice (some ⟨ga, 0, none⟩) 4 cA, .int .i64 c.r.o, .int .i64 c.r.p, .int .i64 c.r.f, .int .i64 c.r.m, .bool c.r.s, .bool c.r.t, .slice (some ⟨g1, 0, none⟩) 512 c1, .slice (some ⟨g2, 0, none⟩) c.bm c2, .bool c.st, .bool c.ha] 29)) (mcells (Pl.Mc.ofC c) gd cd ga cA g1 c1 g2 c2) 103
  have hC2 := hC1.any (kept_alloc (W.alloc (.cells #[.slice (some ⟨gd, 0, none⟩) 4 cd, .slice (some ⟨ga, 0, none⟩) 4 cA, .int .i64 c.r.o, .int .i64 c.r.p, .int .i64 c.r.f, .int .i64 c.r.m, .bool c.r.s, .bool c.r.t, .slice (some ⟨g1, 0, none⟩) 512 c1, .slice (some ⟨g2, 0, none⟩) c.bm c2, .bool c.st, .bool c.ha] 29)) (.cells (mcells (Pl.Mc.ofC c) gd cd ga cA g1 c1 g2 c2) 103))
  have hg2 := hC1.l.lt g2 rfl
  have hsz := HKW.out.size
  have hd0 := HC.out.d0
  have hd1 := HC.out.d1
  have hb0 := HC.out.b0
  have hb1 := HC.out.b1
  have ha0 := HC.out.a0
  simp only [World.size_alloc] at hBm hg2
  refine ⟨mid, W.heap.size + 1, g2, rfl, ⟨gd, cd, ga, cA, g1, c1, c2, hBm, ⟨hC2.d, hC2.a, hC2.b, hC2.l, by omega, hC2.d1, by omega, hC2.a1, hC2.da, by omega, hC2.b0, by omega, by omega, by simp, by simp; omega, hC2.bl, Nat.le_refl _⟩⟩, by omega, kept_new (kept_new HK.out _) _⟩
end Go.Proofs.Ytblddehlkaolbaa

namespace Go.Proofs.Ytblddehlkaolbaa
open Go.RowKit
set_option linter.unusedVariables false
theorem kept12 (w : World) (b : Nat) (v0 v1 v2 v3 v4 v5 v6 v7 v8 v9 v10 v11 : Value) : Kept b (b + 1) w ((((((((((((w.setCell ⟨b, 0, none⟩ v0).setCell ⟨b, 1, none⟩ v1).setCell ⟨b, 2, none⟩ v2).setCell ⟨b, 3, none⟩ v3).setCell ⟨b, 4, none⟩ v4).setCell ⟨b, 5, none⟩ v5).setCell ⟨b, 6, none⟩ v6).setCell ⟨b, 7, none⟩ v7).setCell ⟨b, 8, none⟩ v8).setCell ⟨b, 9, none⟩ v9).setCell ⟨b, 10, none⟩ v10).setCell ⟨b, 11, none⟩ v11) := ((((((((((((kept_one w b 0 v0).one 1 v1).one 2 v2).one 3 v3).one 4 v4).one 5 v5).one 6 v6).one 7 v7).one 8 v8).one 9 v9).one 10 v10).one 11 v11)
theorem CO.past {w w' : World} {lo' lo b mid gd ga g1 g2 c2 : Nat} {c : Pl.Cp} (h : CO w lo' mid c gd ga g1 g2 c2) (hl : b + 1 ≤ lo') (hb : lo ≤ b) (k : Kept b (b + 1) w w') : CO w' lo mid c gd ga g1 g2 c2 := by
  have q := h.l.lt g2 rfl
  have := h.d0; have := h.d1; have := h.b0; have := h.a0; have := h.a1
  exact ⟨h.d.keptS k (by omega), h.a.keptS k (by omega), h.b.keptS k (by omega), ownsRow_keptS h.l k (by omega), by omega, h.d1, by omega, h.a1, h.da, h.b0, Nat.lt_of_lt_of_le h.b1 k.size, h.bl⟩
theorem cellsM {W : World} {p gd cd ga ca g1 c1 g2 c2 : Nat} {c : Pl.Mc} (hB : MB W p gd cd ga ca g1 c1 g2 c2 c) : W.cell? ⟨p, 0, none⟩ = some (.slice (some ⟨gd, 0, none⟩) 4 cd) ∧ W.cell? ⟨p, 1, none⟩ = some (.slice (some ⟨ga, 0, none⟩) 4 ca) ∧ W.cell? ⟨p, 2, none⟩ = some (.int .i64 c.r.o) ∧ W.cell? ⟨p, 3, none⟩ = some (.int .i64 c.r.p) ∧ W.cell? ⟨p, 4, none⟩ = some (.int .i64 c.r.f) ∧ W.cell? ⟨p, 5, none⟩ = some (.int .i64 c.r.m) ∧ W.cell? ⟨p, 6, none⟩ = some (.bool c.r.s) ∧ W.cell? ⟨p, 7, none⟩ = some (.bool c.r.t) ∧ W.cell? ⟨p, 8, none⟩ = some (.slice (some ⟨g1, 0, none⟩) 512 c1) ∧ W.cell? ⟨p, 9, none⟩ = some (.slice (some ⟨g2, 0, none⟩) c.bm c2) ∧ W.cell? ⟨p, 10, none⟩ = some (.bool c.st) := by
  obtain ⟨t0, t1, t2, t3, t4, t5, t6, t7, t8, t9, t10, _⟩ := hB.cells
  exact ⟨t0, t1, t2, t3, t4, t5, t6, t7, t8, t9, t10⟩
set_option maxHeartbeats 4000000 in
theorem mCpuR (w : World) (p gd cd ga ca g1 c1 g2 c2 : Nat) (c : Pl.Mc) (h : MB w p gd cd ga ca g1 c1 g2 c2 c) (rd : IRow w (some ⟨gd, 0, none⟩) c.r.xs) (ra : IRow w (some ⟨ga, 0, none⟩) c.r.ys) (rb : IRow w (some ⟨g1, 0, none⟩) c.bx) (rl : IRow w (some ⟨g2, 0, none⟩) c.bl) (h4 : c.r.xs.length = 4) (h5 : c.r.ys.length = 4) (hx : c.bx.length = 512) (hl : c.bl.length = 5 * c.bm) (hm : c.bm ≤ 400) :
    Calls Try.prog 48 #[.pointer (some ⟨p, 0, none⟩)] w fun r w' => ∃ gd' cd' ga' cA' g1' c1' g2' c2' mid' : Nat, r = .returned (.agg (cpuC (c.cpu false) gd' cd' ga' cA' g1' c1' g2' c2')) ∧ CO w' w.heap.size mid' (c.cpu false) gd' ga' g1' g2' c2' ∧ Kept 0 0 w w' := by
  have K0 := hide (kept_alloc w (.cells #[.slice none 0 0, .slice none 0 0, .int .i64 0, .int .i64 0, .int .i64 0, .int .i64 0, .bool false, .bool false, .slice none 0 0, .slice none 0 0, .bool false, .bool false] 29))
  have BA := Blk.new w #[.slice none 0 0, .slice none 0 0, .int .i64 0, .int .i64 0, .int .i64 0, .int .i64 0, .bool false, .bool false, .slice none 0 0, .slice none 0 0, .bool false, .bool false] 29
  have hpw : p < w.heap.size := h.lt
  obtain ⟨X, hX⟩ : ∃ X : World, w.alloc (.cells #[.slice none 0 0, .slice none 0 0, .int .i64 0, .int .i64 0, .int .i64 0, .int .i64 0, .bool false, .bool false, .slice none 0 0, .slice none 0 0, .bool false, .bool false] 29) = X := ⟨_, rfl⟩
  rw [hX] at K0 BA
  have KD := hide (kept_drew K0.out)
  have HBO := hide (BA.kept0 (kept_drew (Kept.refl 0 0 X)))
  have HB := hide (h.any KD.out)
  have S0 := cellsM HB.out
  have HAd := hide (rd.keptS KD.out)
  have HAa := hide (ra.keptS KD.out)
  have HAb := hide (rb.keptS KD.out)
  have HAl := hide (rl.keptS KD.out)
  clear BA h rd ra rb rl
  obtain ⟨u0, u1, u2, u3, u4, u5, u6, u7, u8, u9, u10⟩ := S0
  have S0 := cellsM HB.out
  have HNE : Hid (¬ (w.heap.size ≤ p ∧ p < w.heap.size + 1)) := hide (by omega)
  go_enter Try.func48, Try.ntmps48
  go_wp2_with fail
  go_region_held3 (fun w' => w'.cell? ⟨p, 0, none⟩ = some (.slice (some ⟨gd, 0, none⟩) 4 cd) ∧ w'.cell? ⟨p, 1, none⟩ = some (.slice (some ⟨ga, 0, none⟩) 4 ca) ∧ w'.cell? ⟨p, 2, none⟩ = some (.int .i64 c.r.o) ∧ w'.cell? ⟨p, 3, none⟩ = some (.int .i64 c.r.p) ∧ w'.cell? ⟨p, 4, none⟩ = some (.int .i64 c.r.f) ∧ w'.cell? ⟨p, 5, none⟩ = some (.int .i64 c.r.m) ∧ w'.cell? ⟨p, 6, none⟩ = some (.bool c.r.s) ∧ w'.cell? ⟨p, 7, none⟩ = some (.bool c.r.t) ∧ w'.cell? ⟨p, 8, none⟩ = some (.slice (some ⟨g1, 0, none⟩) 512 c1) ∧ w'.cell? ⟨p, 9, none⟩ = some (.slice (some ⟨g2, 0, none⟩) c.bm c2) ∧ w'.cell? ⟨p, 10, none⟩ = some (.bool c.st)) (first | with_reducible exact S0 | with_reducible exact cellsM HB2.out | exact cellsM (Blk.kept HB2.out (kept12 _ _ _ _ _ _ _ _ _ _ _ _ _ _) HNE.out) | go_keep) (first | (go_at_call 81; refine (mOwn _ (c.cpu false) _ _ _ _ cd ca c1 c2 HAd.out HAa.out HAb.out HAl.out h4 h5 hx hl hm).mono ?_; unfold cpuC; rintro e9 W ⟨gd', cd', ga', cA', g1', c1', g2', c2', mid', rfl, hc9, k9⟩; have HC := hide hc9; have HK := hide (KD.out.trans k9); have HKW := hide k9; have HB2 := hide (HB.out.any k9); have HBW := hide (HBO.out.kept0 k9); have hbw := HBW.out.lt; clear hc9 k9; have o0 := HBW.out.cell (i := 0) rfl; have of0 := HBW.out.frozen 0; have o1 := HBW.out.cell (i := 1) rfl; have of1 := HBW.out.frozen 1; have o2 := HBW.out.cell (i := 2) rfl; have of2 := HBW.out.frozen 2; have o3 := HBW.out.cell (i := 3) rfl; have of3 := HBW.out.frozen 3; have o4 := HBW.out.cell (i := 4) rfl; have of4 := HBW.out.frozen 4; have o5 := HBW.out.cell (i := 5) rfl; have of5 := HBW.out.frozen 5; have o6 := HBW.out.cell (i := 6) rfl; have of6 := HBW.out.frozen 6; have o7 := HBW.out.cell (i := 7) rfl; have of7 := HBW.out.frozen 7; have o8 := HBW.out.cell (i := 8) rfl; have of8 := HBW.out.frozen 8; have o9 := HBW.out.cell (i := 9) rfl; have of9 := HBW.out.frozen 9; have o10 := HBW.out.cell (i := 10) rfl; have of10 := HBW.out.frozen 10; have o11 := HBW.out.cell (i := 11) rfl; have of11 := HBW.out.frozen 11))
  go_wp2_with fail
  have hd0 := HC.out.d0
  have ha0 := HC.out.a0
  have hd1 := HC.out.d1
  have hb0 := HC.out.b0
  have hxs : X.drew.heap.size = w.heap.size + 1 := by show X.heap.size = _; rw [← hX]; simp
  refine bodyPost_ret (v := .agg (cpuC (c.cpu false) gd' cd' ga' cA' g1' c1' g2' c2')) ?_ rfl ⟨gd', cd', ga', cA', g1', c1', g2', c2', mid', rfl, HC.out.past (b := w.heap.size) (by omega) (Nat.le_refl _) ?kk, ?kw⟩
  case kk => repeat (first | with_reducible exact Kept.refl _ _ _ | refine kept_set ?_ _ _ _ (.inl (by omega)))
  case kw => repeat (first | with_reducible exact HK.out | refine kept_set ?_ _ _ _ (.inr (by omega)))
  rw [results_one rfl]; go_simp; rfl
theorem mCpu (w : World) (lo mid hi p g2 : Nat) (c : Pl.Mc) (h : MAt w lo mid hi p g2 c) (G : Pl.GM c) :
    Calls Try.prog 48 #[.pointer (some ⟨p, 0, none⟩)] w fun r w' => ∃ gd cd ga cA g1 c1 g2 c2 mid : Nat, r = .returned (.agg (cpuC (c.cpu false) gd cd ga cA g1 c1 g2 c2)) ∧ CO w' w.heap.size mid (c.cpu false) gd ga g1 g2 c2 ∧ Kept 0 0 w w' := by
  obtain ⟨gd, cd, ga, ca, g1, c1, c2, hB, hO⟩ := h
  exact mCpuR w p gd cd ga ca g1 c1 g2 c2 c hB hO.d.row hO.a.row hO.b.row (own_of_row5 hO.l).row G.g.d4 G.g.a4 G.bx G.bl G.bm
end Go.Proofs.Ytblddehlkaolbaa

namespace Go.Proofs.Ytblddehlkaolbaa
open Go.RowKit
def ftC (f : Pl.Ft) : Array Value := #[.int .i64 f.v, .int .i64 f.pc, .int .i64 f.ad, .int .i64 f.wo, .bool f.wr]
theorem results_tc {fn : Func} {p q : Tmp} {tz : TypeId} (h : fn.results = #[.tmp p, .cell q tz]) (tmps : Array Value) (P : Program) (w : World) :
    (results fn tmps).run P w = ((asAddr (tmps.getD q undef)).run P w).andThen fun b w₁ => ((loadVar tz b).run P w₁).andThen fun u w₂ => .ok (.tuple #[tmps.getD p undef, u]) w₂ := by
  simp only [results, h]
  simp [Sem.run_bind, Result.andThen]
end Go.Proofs.Ytblddehlkaolbaa

namespace Go.Proofs.Ytblddehlkaolbaa
open Go.RowKit
set_option linter.unusedVariables false
theorem below_since {w w' : World} {lo hi g g' : Nat} (h : Since w lo hi g w' g') (hg : lo ≤ g) (hs : lo ≤ w.heap.size) : Below lo w w' := ⟨h.2.os, h.2.tape, h.2.output, h.2.size, fun k hk => h.2.block k (by omega) (by unfold own; omega)⟩
theorem below_kpt {w w' : World} {lo : Nat} (k : Kept 0 0 w w') (hs : lo ≤ w.heap.size) : Below lo w w' := ⟨k.os, k.tape, k.output, k.size, fun i hi => k.block i (by omega) (by omega)⟩
theorem Blk.below {w w' : World} {lo b : Nat} {cs : Array Value} {ty : TypeId} (h : Blk w b cs ty) (k : Below lo w w') (hb : b < lo) : Blk w' b cs ty := (k.block b hb).trans h
theorem MAt.logLo {w : World} {lo mid hi p g2 : Nat} {c : Pl.Mc} (h : MAt w lo mid hi p g2 c) : lo ≤ g2 := by
  obtain ⟨gd, cd, ga, ca, g1, c1, c2, hB, hO⟩ := h
  have := hO.g2; have := hO.d0; have := hO.d1
  omega
theorem CO.pastS {w w' : World} {lo' lo x y mid gd ga g1 g2 c2 : Nat} {c : Pl.Cp} (h : CO w lo' mid c gd ga g1 g2 c2) (hl : y ≤ lo') (hb : lo ≤ lo') (k : Kept x y w w') : CO w' lo mid c gd ga g1 g2 c2 := by
  have q := h.l.lt g2 rfl
  have := h.d0; have := h.d1; have := h.b0; have := h.a0; have := h.a1
  exact ⟨h.d.keptS k (by omega), h.a.keptS k (by omega), h.b.keptS k (by omega), ownsRow_keptS h.l k (by omega), by omega, h.d1, by omega, h.a1, h.da, h.b0, Nat.lt_of_lt_of_le h.b1 k.size, h.bl⟩
end Go.Proofs.Ytblddehlkaolbaa

namespace Go.Proofs.Ytblddehlkaolbaa
open Go.RowKit
set_option linter.unusedVariables false
theorem specGoodCpu (w : World) (c : Pl.Cp) (a b e q : Option Addr) (ca cb ce cq : Nat) (ha : IRow w a c.r.xs) (hb : IRow w b c.r.ys) (he : IRow w e c.bx) (hq : IRow w q c.bl) (lx : c.r.xs.length ≤ 2000000) (ly : c.r.ys.length ≤ 2000000) (lb : c.bx.length ≤ 2000000) (ll : c.bl.length = 5 * c.bm) (lm : c.bm ≤ 2000000) :
    Calls Try.prog 17 #[.agg #[.slice a c.r.xs.length ca, .slice b c.r.ys.length cb, .int .i64 c.r.o, .int .i64 c.r.p, .int .i64 c.r.f, .int .i64 c.r.m, .bool c.r.s, .bool c.r.t, .slice e c.bx.length ce, .slice q c.bm cq, .bool c.st, .bool c.ha]] w fun r w' => r = .returned (.bool (Pl.cpOk c)) ∧ Kept 0 0 w w' := by
  have K0 := hide (kept_alloc w (.cells #[.slice a c.r.xs.length ca, .slice b c.r.ys.length cb, .int .i64 c.r.o, .int .i64 c.r.p, .int .i64 c.r.f, .int .i64 c.r.m, .bool c.r.s, .bool c.r.t, .slice e c.bx.length ce, .slice q c.bm cq, .bool c.st, .bool c.ha] 29))
  have BA := Blk.new w #[.slice a c.r.xs.length ca, .slice b c.r.ys.length cb, .int .i64 c.r.o, .int .i64 c.r.p, .int .i64 c.r.f, .int .i64 c.r.m, .bool c.r.s, .bool c.r.t, .slice e c.bx.length ce, .slice q c.bm cq, .bool c.st, .bool c.ha] 29
  obtain ⟨X, hX⟩ : ∃ X : World, w.alloc (.cells #[.slice a c.r.xs.length ca, .slice b c.r.ys.length cb, .int .i64 c.r.o, .int .i64 c.r.p, .int .i64 c.r.f, .int .i64 c.r.m, .bool c.r.s, .bool c.r.t, .slice e c.bx.length ce, .slice q c.bm cq, .bool c.st, .bool c.ha] 29) = X := ⟨_, rfl⟩
  rw [hX] at K0 BA
  have HBA := hide BA
  have HA := hide (ha.keptS K0.out)
  have HB := hide (hb.keptS K0.out)
  have HE := hide (he.keptS K0.out)
  have HQ := hide (hq.keptS K0.out)
  clear BA ha hb he hq
  have i0 := HBA.out.cell (i := 0) rfl
  have i1 := HBA.out.cell (i := 1) rfl
  have i2 := HBA.out.cell (i := 2) rfl
  have i3 := HBA.out.cell (i := 3) rfl
  have i4 := HBA.out.cell (i := 4) rfl
  have i5 := HBA.out.cell (i := 5) rfl
  have i6 := HBA.out.cell (i := 6) rfl
  have i7 := HBA.out.cell (i := 7) rfl
  have i8 := HBA.out.cell (i := 8) rfl
  have i9 := HBA.out.cell (i := 9) rfl
  have i10 := HBA.out.cell (i := 10) rfl
  have i11 := HBA.out.cell (i := 11) rfl
  cases h1 : Pl.rgOk c.r
  · go_enter Try.func17, Try.ntmps17
    go_wp2_with (first | (go_at_call 40; refine (specGoodRegs _ c.r a b ca cb HA.out HB.out lx ly).mono ?_; rintro e9 W ⟨rfl, k9⟩; rw [h1]; have HK1 := hide k9; have HB1 := hide (HBA.out.kept0 k9); have HE1 := hide (HE.out.keptS k9); have HQ1 := hide (HQ.out.keptS k9); clear k9 i0 i1 i2 i3 i4 i5 i6 i7 i8 i9 i10 i11; have i0 := HB1.out.cell (i := 0) rfl; have i1 := HB1.out.cell (i := 1) rfl; have i2 := HB1.out.cell (i := 2) rfl; have i3 := HB1.out.cell (i := 3) rfl; have i4 := HB1.out.cell (i := 4) rfl; have i5 := HB1.out.cell (i := 5) rfl; have i6 := HB1.out.cell (i := 6) rfl; have i7 := HB1.out.cell (i := 7) rfl; have i8 := HB1.out.cell (i := 8) rfl; have i9 := HB1.out.cell (i := 9) rfl; have i10 := HB1.out.cell (i := 10) rfl; have i11 := HB1.out.cell (i := 11) rfl))
    go_ret
    exact ⟨rB (by unfold Pl.cpOk; simp [h1]), K0.out.trans HK1.out⟩
  · cases h2 : Pl.goodBus c.bx c.bl c.bm
    · go_enter Try.func17, Try.ntmps17
      go_wp2_with (first | (go_at_call 41; have z9 := HB1; refine (specGoodBus _ e q ce cq c.bm c.bx c.bl HE1.out HQ1.out lb ll lm).mono ?_; rintro e9 W2 ⟨rfl, k9⟩; rw [h2]; have HK2 := hide k9; have HB2 := hide (HB1.out.kept0 k9); clear k9 i0 i1 i2 i3 i4 i5 i6 i7 i8 i9 i10 i11; have i0 := HB2.out.cell (i := 0) rfl; have i1 := HB2.out.cell (i := 1) rfl; have i2 := HB2.out.cell (i := 2) rfl; have i3 := HB2.out.cell (i := 3) rfl; have i4 := HB2.out.cell (i := 4) rfl; have i5 := HB2.out.cell (i := 5) rfl; have i6 := HB2.out.cell (i := 6) rfl; have i7 := HB2.out.cell (i := 7) rfl; have i8 := HB2.out.cell (i := 8) rfl; have i9 := HB2.out.cell (i := 9) rfl; have i10 := HB2.out.cell (i := 10) rfl; have i11 := HB2.out.cell (i := 11) rfl) | (go_at_call 40; refine (specGoodRegs _ c.r a b ca cb HA.out HB.out lx ly).mono ?_; rintro e9 W ⟨rfl, k9⟩; rw [h1]; have HK1 := hide k9; have HB1 := hide (HBA.out.kept0 k9); have HE1 := hide (HE.out.keptS k9); have HQ1 := hide (HQ.out.keptS k9); clear k9 i0 i1 i2 i3 i4 i5 i6 i7 i8 i9 i10 i11; have i0 := HB1.out.cell (i := 0) rfl; have i1 := HB1.out.cell (i := 1) rfl; have i2 := HB1.out.cell (i := 2) rfl; have i3 := HB1.out.cell (i := 3) rfl; have i4 := HB1.out.cell (i := 4) rfl; have i5 := HB1.out.cell (i := 5) rfl; have i6 := HB1.out.cell (i := 6) rfl; have i7 := HB1.out.cell (i := 7) rfl; have i8 := HB1.out.cell (i := 8) rfl; have i9 := HB1.out.cell (i := 9) rfl; have i10 := HB1.out.cell (i := 10) rfl; have i11 := HB1.out.cell (i := 11) rfl))
      go_ret
      exact ⟨rB (by unfold Pl.cpOk; simp [h1, h2]), (K0.out.trans HK1.out).trans HK2.out⟩
    · rcases Bool.eq_false_or_eq_true c.st with h3 | h3
      · have H3 := hide h3
        rw [H3.out] at i10
        clear h3
        go_enter Try.func17, Try.ntmps17
        go_wp2_with (first | (go_at_call 41; have z9 := HB1; refine (specGoodBus _ e q ce cq c.bm c.bx c.bl HE1.out HQ1.out lb ll lm).mono ?_; rintro e9 W2 ⟨rfl, k9⟩; rw [h2]; have HK2 := hide k9; have HB2 := hide (HB1.out.kept0 k9); clear k9 i0 i1 i2 i3 i4 i5 i6 i7 i8 i9 i10 i11; have i0 := HB2.out.cell (i := 0) rfl; have i1 := HB2.out.cell (i := 1) rfl; have i2 := HB2.out.cell (i := 2) rfl; have i3 := HB2.out.cell (i := 3) rfl; have i4 := HB2.out.cell (i := 4) rfl; have i5 := HB2.out.cell (i := 5) rfl; have i6 := HB2.out.cell (i := 6) rfl; have i7 := HB2.out.cell (i := 7) rfl; have i8 := HB2.out.cell (i := 8) rfl; have i9 := HB2.out.cell (i := 9) rfl; have i10 := HB2.out.cell (i := 10) rfl; have i11 := HB2.out.cell (i := 11) rfl; rw [H3.out] at i10) | (go_at_call 40; refine (specGoodRegs _ c.r a b ca cb HA.out HB.out lx ly).mono ?_; rintro e9 W ⟨rfl, k9⟩; rw [h1]; have HK1 := hide k9; have HB1 := hide (HBA.out.kept0 k9); have HE1 := hide (HE.out.keptS k9); have HQ1 := hide (HQ.out.keptS k9); clear k9 i0 i1 i2 i3 i4 i5 i6 i7 i8 i9 i10 i11; have i0 := HB1.out.cell (i := 0) rfl; have i1 := HB1.out.cell (i := 1) rfl; have i2 := HB1.out.cell (i := 2) rfl; have i3 := HB1.out.cell (i := 3) rfl; have i4 := HB1.out.cell (i := 4) rfl; have i5 := HB1.out.cell (i := 5) rfl; have i6 := HB1.out.cell (i := 6) rfl; have i7 := HB1.out.cell (i := 7) rfl; have i8 := HB1.out.cell (i := 8) rfl; have i9 := HB1.out.cell (i := 9) rfl; have i10 := HB1.out.cell (i := 10) rfl; have i11 := HB1.out.cell (i := 11) rfl; rw [H3.out] at i10))
        go_ret
        exact ⟨rB (by unfold Pl.cpOk; simp [h1, h2, H3.out]), (K0.out.trans HK1.out).trans HK2.out⟩
      · have H3 := hide h3
        rw [H3.out] at i10
        clear h3
        go_enter Try.func17, Try.ntmps17
        go_wp2_with (first | (go_at_call 41; have z9 := HB1; refine (specGoodBus _ e q ce cq c.bm c.bx c.bl HE1.out HQ1.out lb ll lm).mono ?_; rintro e9 W2 ⟨rfl, k9⟩; rw [h2]; have HK2 := hide k9; have HB2 := hide (HB1.out.kept0 k9); clear k9 i0 i1 i2 i3 i4 i5 i6 i7 i8 i9 i10 i11; have i0 := HB2.out.cell (i := 0) rfl; have i1 := HB2.out.cell (i := 1) rfl; have i2 := HB2.out.cell (i := 2) rfl; have i3 := HB2.out.cell (i := 3) rfl; have i4 := HB2.out.cell (i := 4) rfl; have i5 := HB2.out.cell (i := 5) rfl; have i6 := HB2.out.cell (i := 6) rfl; have i7 := HB2.out.cell (i := 7) rfl; have i8 := HB2.out.cell (i := 8) rfl; have i9 := HB2.out.cell (i := 9) rfl; have i10 := HB2.out.cell (i := 10) rfl; have i11 := HB2.out.cell (i := 11) rfl; rw [H3.out] at i10) | (go_at_call 40; refine (specGoodRegs _ c.r a b ca cb HA.out HB.out lx ly).mono ?_; rintro e9 W ⟨rfl, k9⟩; rw [h1]; have HK1 := hide k9; have HB1 := hide (HBA.out.kept0 k9); have HE1 := hide (HE.out.keptS k9); have HQ1 := hide (HQ.out.keptS k9); clear k9 i0 i1 i2 i3 i4 i5 i6 i7 i8 i9 i10 i11; have i0 := HB1.out.cell (i := 0) rfl; have i1 := HB1.out.cell (i := 1) rfl; have i2 := HB1.out.cell (i := 2) rfl; have i3 := HB1.out.cell (i := 3) rfl; have i4 := HB1.out.cell (i := 4) rfl; have i5 := HB1.out.cell (i := 5) rfl; have i6 := HB1.out.cell (i := 6) rfl; have i7 := HB1.out.cell (i := 7) rfl; have i8 := HB1.out.cell (i := 8) rfl; have i9 := HB1.out.cell (i := 9) rfl; have i10 := HB1.out.cell (i := 10) rfl; have i11 := HB1.out.cell (i := 11) rfl; rw [H3.out] at i10))
        go_ret
        exact ⟨rB (by unfold Pl.cpOk; simp [h1, h2, H3.out]), (K0.out.trans HK1.out).trans HK2.out⟩
end Go.Proofs.Ytblddehlkaolbaa

namespace Go.Proofs.Ytblddehlkaolbaa
open Go.RowKit
set_option linter.unusedVariables false
def cpuV (c : Pl.Cp) (a b e q : Option Addr) (ca cb ce cq : Nat) : Array Value := #[.slice a c.r.xs.length ca, .slice b c.r.ys.length cb, .int .i64 c.r.o, .int .i64 c.r.p, .int .i64 c.r.f, .int .i64 c.r.m, .bool c.r.s, .bool c.r.t, .slice e c.bx.length ce, .slice q c.bm cq, .bool c.st, .bool c.ha]
/-- a processor that is answered: its lists are new, no two of them share memory -/
structure CpuIn (w : World) (base : Nat) (c : Pl.Cp) (a b e q : Option Addr) : Prop where
  d : SlotIn w base w.heap.size a c.r.xs
  a' : SlotIn w base w.heap.size b c.r.ys
  b' : SlotIn w base w.heap.size e c.bx
  l : SlotIn w base w.heap.size q c.bl
  n1 : ∀ g, blk a = some g → blk b ≠ some g
  n2 : ∀ g, blk a = some g → blk e ≠ some g
  n3 : ∀ g, blk a = some g → blk q ≠ some g
  n4 : ∀ g, blk b = some g → blk e ≠ some g
  n5 : ∀ g, blk b = some g → blk q ≠ some g
  n6 : ∀ g, blk e = some g → blk q ≠ some g
theorem CO.cpuIn {w : World} {lo mid gd ga g1 g2 c2 : Nat} {c : Pl.Cp} (h : CO w lo mid c gd ga g1 g2 c2) : CpuIn w lo c (some ⟨gd, 0, none⟩) (some ⟨ga, 0, none⟩) (some ⟨g1, 0, none⟩) (some ⟨g2, 0, none⟩) := by
  have := h.d0; have := h.d1; have := h.a0; have := h.a1; have := h.da; have := h.b0; have := h.b1; have := h.bl
  have q := h.l.lt g2 rfl
  refine ⟨.inr ⟨gd, rfl, by omega, by omega, h.d⟩, .inr ⟨ga, rfl, by omega, by omega, h.a⟩, .inr ⟨g1, rfl, by omega, by omega, h.b⟩, .inr ⟨g2, rfl, by omega, by omega, own_of_row5 h.l⟩, ?_, ?_, ?_, ?_, ?_, ?_⟩ <;>
  · intro g e1 e2
    simp [blk] at e1 e2
    omega
theorem cpuIn_no (w : World) (base : Nat) : CpuIn w base Pl.cpNo none none none none :=
  ⟨.inl ⟨rfl, rfl⟩, .inl ⟨rfl, rfl⟩, .inl ⟨rfl, rfl⟩, .inl ⟨rfl, rfl⟩, by simp [blk], by simp [blk], by simp [blk], by simp [blk], by simp [blk], by simp [blk]⟩
end Go.Proofs.Ytblddehlkaolbaa

namespace Go.Proofs.Ytblddehlkaolbaa
open Go.RowKit
set_option linter.unusedVariables false
theorem CO.up {w w' : World} {lo mid gd ga g1 g2 c2 T : Nat} {m : Pl.Mc} {x : Bool} (h : CO w lo mid (m.cpu x) gd ga g1 g2 c2) (y : Bool) (h1 : g1 < T) (h2 : g2 < T) (k : Kept T (T + 1) w w') : CO w' lo mid (m.cpu y) gd ga g1 g2 c2 := by
  have := h.d1; have := h.b0; have := h.a1
  exact ⟨h.d.keptS k (by omega), h.a.keptS k (by omega), h.b.keptS k (by omega), ownsRow_keptS h.l k (by omega), h.d0, h.d1, h.a0, h.a1, h.da, h.b0, Nat.lt_of_lt_of_le h.b1 k.size, h.bl⟩
end Go.Proofs.Ytblddehlkaolbaa

namespace Go.Proofs.Ytblddehlkaolbaa
open Go.RowKit
set_option linter.unusedVariables false
def Pl.ppC (c : Pl.Cp) : Pl.Cp := bif Pl.cpOk c then (Pl.Mc.ofC c).pop.cpu c.ha else Pl.cpNo
def Pl.ppV (c : Pl.Cp) : Int := bif Pl.cpOk c then (Pl.Mc.ofC c).popV else 0
def Pl.ppF (c : Pl.Cp) : Bool := Pl.cpOk c && (Pl.Mc.ofC c).pop.fine
set_option maxHeartbeats 4000000 in
theorem specPopWord_bad (w : World) (c : Pl.Cp) (a b e q : Option Addr) (ca cb ce cq : Nat) (ha : IRow w a c.r.xs) (hb : IRow w b c.r.ys) (he : IRow w e c.bx) (hq : IRow w q c.bl) (lx : c.r.xs.length ≤ 2000000) (ly : c.r.ys.length ≤ 2000000) (lb : c.bx.length ≤ 2000000) (ll : c.bl.length = 5 * c.bm) (lm : c.bm ≤ 2000000) (h1 : Pl.cpOk c = false) :
    Calls Try.prog 22 #[.agg #[.slice a c.r.xs.length ca, .slice b c.r.ys.length cb, .int .i64 c.r.o, .int .i64 c.r.p, .int .i64 c.r.f, .int .i64 c.r.m, .bool c.r.s, .bool c.r.t, .slice e c.bx.length ce, .slice q c.bm cq, .bool c.st, .bool c.ha]] w fun r w' => ∃ (a' b' e' q' : Option Addr) (ca' cb' ce' cq' : Nat), r = .returned (.tuple #[.agg (cpuV (Pl.ppC c) a' b' e' q' ca' cb' ce' cq'), .int .i64 (Pl.ppV c), .bool (Pl.ppF c), .bool (Pl.cpOk c)]) ∧ CpuIn w' w.heap.size (Pl.ppC c) a' b' e' q' ∧ Kept 0 0 w w' := by
  have EO : Hid (Pl.cpOk c = false) := hide h1
  have EC : Hid (Pl.ppC c = Pl.cpNo) := hide (by unfold Pl.ppC; rw [EO.out]; rfl)
  have EV : Hid (Pl.ppV c = 0) := hide (by unfold Pl.ppV; rw [EO.out]; rfl)
  have EF : Hid (Pl.ppF c = false) := hide (by unfold Pl.ppF; rw [EO.out]; rfl)
  have K0 := hide (kept_new (kept_alloc w (.cells #[.slice a c.r.xs.length ca, .slice b c.r.ys.length cb, .int .i64 c.r.o, .int .i64 c.r.p, .int .i64 c.r.f, .int .i64 c.r.m, .bool c.r.s, .bool c.r.t, .slice e c.bx.length ce, .slice q c.bm cq, .bool c.st, .bool c.ha] 29)) (.cells #[.slice none 0 0, .slice none 0 0, .int .i64 0, .int .i64 0, .int .i64 0, .int .i64 0, .bool false, .bool false, .slice none 0 0, .slice none 0 0, .bool false, .bool false] 29))
  have B0 := (Blk.new w #[.slice a c.r.xs.length ca, .slice b c.r.ys.length cb, .int .i64 c.r.o, .int .i64 c.r.p, .int .i64 c.r.f, .int .i64 c.r.m, .bool c.r.s, .bool c.r.t, .slice e c.bx.length ce, .slice q c.bm cq, .bool c.st, .bool c.ha] 29).alloc (.cells #[.slice none 0 0, .slice none 0 0, .int .i64 0, .int .i64 0, .int .i64 0, .int .i64 0, .bool false, .bool false, .slice none 0 0, .slice none 0 0, .bool false, .bool false] 29)
  have B1 := Blk.new (w.alloc (.cells #[.slice a c.r.xs.length ca, .slice b c.r.ys.length cb, .int .i64 c.r.o, .int .i64 c.r.p, .int .i64 c.r.f, .int .i64 c.r.m, .bool c.r.s, .bool c.r.t, .slice e c.bx.length ce, .slice q c.bm cq, .bool c.st, .bool c.ha] 29)) #[.slice none 0 0, .slice none 0 0, .int .i64 0, .int .i64 0, .int .i64 0, .int .i64 0, .bool false, .bool false, .slice none 0 0, .slice none 0 0, .bool false, .bool false] 29
  simp only [World.size_alloc] at B1
  obtain ⟨X, hX⟩ : ∃ X : World, (w.alloc (.cells #[.slice a c.r.xs.length ca, .slice b c.r.ys.length cb, .int .i64 c.r.o, .int .i64 c.r.p, .int .i64 c.r.f, .int .i64 c.r.m, .bool c.r.s, .bool c.r.t, .slice e c.bx.length ce, .slice q c.bm cq, .bool c.st, .bool c.ha] 29)).alloc (.cells #[.slice none 0 0, .slice none 0 0, .int .i64 0, .int .i64 0, .int .i64 0, .int .i64 0, .bool false, .bool false, .slice none 0 0, .slice none 0 0, .bool false, .bool false] 29) = X := ⟨_, rfl⟩
  rw [hX] at K0 B0 B1
  have HXS : Hid (X.heap.size = w.heap.size + 2) := hide (by rw [← hX]; simp)
  have HB0 := hide B0
  have HB1 := hide B1
  have HA := hide (ha.keptS K0.out)
  have HB := hide (hb.keptS K0.out)
  have HE := hide (he.keptS K0.out)
  have HQ := hide (hq.keptS K0.out)
  clear B0 B1 ha hb he hq
  have i0 := HB0.out.cell (i := 0) rfl
  have i1 := HB0.out.cell (i := 1) rfl
  have i2 := HB0.out.cell (i := 2) rfl
  have i3 := HB0.out.cell (i := 3) rfl
  have i4 := HB0.out.cell (i := 4) rfl
  have i5 := HB0.out.cell (i := 5) rfl
  have i6 := HB0.out.cell (i := 6) rfl
  have i7 := HB0.out.cell (i := 7) rfl
  have i8 := HB0.out.cell (i := 8) rfl
  have i9 := HB0.out.cell (i := 9) rfl
  have i10 := HB0.out.cell (i := 10) rfl
  have i11 := HB0.out.cell (i := 11) rfl
  go_enter Try.func22, Try.ntmps22
  go_wp2_with (first | (go_at_call 17; refine (specGoodCpu _ c a b e q ca cb ce cq HA.out HB.out HE.out HQ.out lx ly lb ll lm).mono ?_; rintro e9 W ⟨rfl, k9⟩; rw [h1]; have HK1 := hide (K0.out.trans k9); have HI1 := hide (HB0.out.kept0 k9); have HO1 := hide (HB1.out.kept0 k9); have hs1 := HO1.out.lt; have HSz := hide k9.size; have HA1 := hide (HA.out.keptS k9); have HBB1 := hide (HB.out.keptS k9); have HE1 := hide (HE.out.keptS k9); have HQ1 := hide (HQ.out.keptS k9); clear k9 i0 i1 i2 i3 i4 i5 i6 i7 i8 i9 i10 i11; have i0 := HI1.out.cell (i := 0) rfl; have i1 := HI1.out.cell (i := 1) rfl; have i2 := HI1.out.cell (i := 2) rfl; have i3 := HI1.out.cell (i := 3) rfl; have i4 := HI1.out.cell (i := 4) rfl; have i5 := HI1.out.cell (i := 5) rfl; have i6 := HI1.out.cell (i := 6) rfl; have i7 := HI1.out.cell (i := 7) rfl; have i8 := HI1.out.cell (i := 8) rfl; have i9 := HI1.out.cell (i := 9) rfl; have i10 := HI1.out.cell (i := 10) rfl; have i11 := HI1.out.cell (i := 11) rfl; have o0 := HO1.out.cell (i := 0) rfl; have of0 := HO1.out.frozen 0; have o1 := HO1.out.cell (i := 1) rfl; have of1 := HO1.out.frozen 1; have o2 := HO1.out.cell (i := 2) rfl; have of2 := HO1.out.frozen 2; have o3 := HO1.out.cell (i := 3) rfl; have of3 := HO1.out.frozen 3; have o4 := HO1.out.cell (i := 4) rfl; have of4 := HO1.out.frozen 4; have o5 := HO1.out.cell (i := 5) rfl; have of5 := HO1.out.frozen 5; have o6 := HO1.out.cell (i := 6) rfl; have of6 := HO1.out.frozen 6; have o7 := HO1.out.cell (i := 7) rfl; have of7 := HO1.out.frozen 7; have o8 := HO1.out.cell (i := 8) rfl; have of8 := HO1.out.frozen 8; have o9 := HO1.out.cell (i := 9) rfl; have of9 := HO1.out.frozen 9; have o10 := HO1.out.cell (i := 10) rfl; have of10 := HO1.out.frozen 10; have o11 := HO1.out.cell (i := 11) rfl; have of11 := HO1.out.frozen 11))
  have hxs := HXS.out
  refine bodyPost_ret (v := .tuple #[.agg (cpuV (Pl.ppC c) none none none none 0 0 0 0), .int .i64 (Pl.ppV c), .bool (Pl.ppF c), .bool (Pl.cpOk c)]) ?_ rfl ⟨none, none, none, none, 0, 0, 0, 0, rfl, by rw [EC.out]; exact cpuIn_no _ _, ?kw⟩
  case kw => repeat (first | with_reducible exact HK1.out | refine kept_set ?_ _ _ _ (.inr (by omega)))
  rw [results_cell_tmp3 rfl, EC.out, EV.out, EF.out, EO.out]; go_simp; first | rfl | exact ⟨rfl, rfl⟩
set_option maxRecDepth 100000 in
set_option maxHeartbeats 4000000 in
theorem specPopWord_ok (w : World) (c : Pl.Cp) (a b e q : Option Addr) (ca cb ce cq : Nat) (ha : IRow w a c.r.xs) (hb : IRow w b c.r.ys) (he : IRow w e c.bx) (hq : IRow w q c.bl) (lx : c.r.xs.length ≤ 2000000) (ly : c.r.ys.length ≤ 2000000) (lb : c.bx.length ≤ 2000000) (ll : c.bl.length = 5 * c.bm) (lm : c.bm ≤ 2000000) (h1 : Pl.cpOk c = true) :
    Calls Try.prog 22 #[.agg #[.slice a c.r.xs.length ca, .slice b c.r.ys.length cb, .int .i64 c.r.o, .int .i64 c.r.p, .int .i64 c.r.f, .int .i64 c.r.m, .bool c.r.s, .bool c.r.t, .slice e c.bx.length ce, .slice q c.bm cq, .bool c.st, .bool c.ha]] w fun r w' => ∃ (a' b' e' q' : Option Addr) (ca' cb' ce' cq' : Nat), r = .returned (.tuple #[.agg (cpuV (Pl.ppC c) a' b' e' q' ca' cb' ce' cq'), .int .i64 (Pl.ppV c), .bool (Pl.ppF c), .bool (Pl.cpOk c)]) ∧ CpuIn w' w.heap.size (Pl.ppC c) a' b' e' q' ∧ Kept 0 0 w w' := by
  have EO : Hid (Pl.cpOk c = true) := hide h1
  have EC : Hid (Pl.ppC c = (Pl.Mc.ofC c).pop.cpu c.ha) := hide (by unfold Pl.ppC; rw [EO.out]; rfl)
  have EV : Hid (Pl.ppV c = (Pl.Mc.ofC c).popV) := hide (by unfold Pl.ppV; rw [EO.out]; rfl)
  have EF : Hid (Pl.ppF c = (Pl.Mc.ofC c).pop.fine) := hide (by unfold Pl.ppF; rw [EO.out]; rfl)
  have HG : Hid (Pl.GM (Pl.Mc.ofC c)) := hide (Pl.GM.of h1 ll c.st)
  have HGp := hide (Pl.GM.pop HG.out)
  have h4 : c.r.xs.length = 4 := HG.out.g.d4
  have h5 : c.r.ys.length = 4 := HG.out.g.a4
  have hbx : c.bx.length = 512 := HG.out.bx
  have hbm : c.bm ≤ 400 := HG.out.bm
  have HSTA : ∀ (w9 : World) (ra : IRow w9 a c.r.xs) (rb : IRow w9 b c.r.ys) (re : IRow w9 e c.bx) (rq : IRow w9 q c.bl), Calls Try.prog 46 #[.agg #[.slice a c.r.xs.length ca, .slice b c.r.ys.length cb, .int .i64 c.r.o, .int .i64 c.r.p, .int .i64 c.r.f, .int .i64 c.r.m, .bool c.r.s, .bool c.r.t, .slice e c.bx.length ce, .slice q c.bm cq, .bool c.st, .bool c.ha]] w9 fun r w' => ∃ mid p g2 : Nat, r = .returned (.pointer (some ⟨p, 0, none⟩)) ∧ MAt w' w9.heap.size mid w'.heap.size p g2 (Pl.Mc.ofC c) ∧ w9.heap.size ≤ p ∧ Kept 0 0 w9 w' := by
    intro w9 ra rb re rq
    have z := mStart w9 c a b e q ca cb ce cq ra rb re rq h4 h5 hbx ll hbm
    rw [h4, h5, hbx]
    exact z
  clear h4 h5 hbx hbm
  have K0 := hide (kept_new (kept_alloc w (.cells #[.slice a c.r.xs.length ca, .slice b c.r.ys.length cb, .int .i64 c.r.o, .int .i64 c.r.p, .int .i64 c.r.f, .int .i64 c.r.m, .bool c.r.s, .bool c.r.t, .slice e c.bx.length ce, .slice q c.bm cq, .bool c.st, .bool c.ha] 29)) (.cells #[.slice none 0 0, .slice none 0 0, .int .i64 0, .int .i64 0, .int .i64 0, .int .i64 0, .bool false, .bool false, .slice none 0 0, .slice none 0 0, .bool false, .bool false] 29))
  have B0 := (Blk.new w #[.slice a c.r.xs.length ca, .slice b c.r.ys.length cb, .int .i64 c.r.o, .int .i64 c.r.p, .int .i64 c.r.f, .int .i64 c.r.m, .bool c.r.s, .bool c.r.t, .slice e c.bx.length ce, .slice q c.bm cq, .bool c.st, .bool c.ha] 29).alloc (.cells #[.slice none 0 0, .slice none 0 0, .int .i64 0, .int .i64 0, .int .i64 0, .int .i64 0, .bool false, .bool false, .slice none 0 0, .slice none 0 0, .bool false, .bool false] 29)
  have B1 := Blk.new (w.alloc (.cells #[.slice a c.r.xs.length ca, .slice b c.r.ys.length cb, .int .i64 c.r.o, .int .i64 c.r.p, .int .i64 c.r.f, .int .i64 c.r.m, .bool c.r.s, .bool c.r.t, .slice e c.bx.length ce, .slice q c.bm cq, .bool c.st, .bool c.ha] 29)) #[.slice none 0 0, .slice none 0 0, .int .i64 0, .int .i64 0, .int .i64 0, .int .i64 0, .bool false, .bool false, .slice none 0 0, .slice none 0 0, .bool false, .bool false] 29
  simp only [World.size_alloc] at B1
  obtain ⟨X, hX⟩ : ∃ X : World, (w.alloc (.cells #[.slice a c.r.xs.length ca, .slice b c.r.ys.length cb, .int .i64 c.r.o, .int .i64 c.r.p, .int .i64 c.r.f, .int .i64 c.r.m, .bool c.r.s, .bool c.r.t, .slice e c.bx.length ce, .slice q c.bm cq, .bool c.st, .bool c.ha] 29)).alloc (.cells #[.slice none 0 0, .slice none 0 0, .int .i64 0, .int .i64 0, .int .i64 0, .int .i64 0, .bool false, .bool false, .slice none 0 0, .slice none 0 0, .bool false, .bool false] 29) = X := ⟨_, rfl⟩
  rw [hX] at K0 B0 B1
  have HXS : Hid (X.heap.size = w.heap.size + 2) := hide (by rw [← hX]; simp)
  have HB0 := hide B0
  have HB1 := hide B1
  have HA := hide (ha.keptS K0.out)
  have HB := hide (hb.keptS K0.out)
  have HE := hide (he.keptS K0.out)
  have HQ := hide (hq.keptS K0.out)
  clear B0 B1 ha hb he hq
  have i0 := HB0.out.cell (i := 0) rfl
  have i1 := HB0.out.cell (i := 1) rfl
  have i2 := HB0.out.cell (i := 2) rfl
  have i3 := HB0.out.cell (i := 3) rfl
  have i4 := HB0.out.cell (i := 4) rfl
  have i5 := HB0.out.cell (i := 5) rfl
  have i6 := HB0.out.cell (i := 6) rfl
  have i7 := HB0.out.cell (i := 7) rfl
  have i8 := HB0.out.cell (i := 8) rfl
  have i9 := HB0.out.cell (i := 9) rfl
  have i10 := HB0.out.cell (i := 10) rfl
  have i11 := HB0.out.cell (i := 11) rfl
  go_enter Try.func22, Try.ntmps22
  go_wp2_with (first | (go_at_call 46; have z9 := HK1; refine (HSTA _ HA1.out HBB1.out HE1.out HQ1.out).mono ?_; rintro e9 W1 ⟨mid, p, g9, rfl, hm9, hp9, k9⟩; have HM1 := hide hm9; have HP := hide hp9; have HL1 := hide (below_kpt k9 (Nat.le_refl W.heap.size)); clear hm9 hp9 k9) | (go_at_call 54; have z9 := HM1; refine (mPop _ W.heap.size mid W1.heap.size p g9 (Pl.Mc.ofC c) HM1.out HG.out).mono ?_; rintro e9 W2 ⟨rfl, g8, hm9, hb9⟩; have HM2 := hide hm9; have HL2 := hide (HL1.out.trans (below_since hb9 HM1.out.logLo HL1.out.size)); clear hm9 hb9) | (go_at_call 48; have z9 := HM2; refine (mCpu _ W.heap.size mid W1.heap.size p g8 (Pl.Mc.ofC c).pop HM2.out HGp.out).mono ?_; unfold cpuC; rintro e9 W3 ⟨gd, cd, ga, cA, g1, c1, g2, c2, mid3, rfl, hc9, k9⟩; have KZ := kept_new k9 (.cells #[.slice (some ⟨gd, 0, none⟩) 4 cd, .slice (some ⟨ga, 0, none⟩) 4 cA, .int .i64 ((Pl.Mc.ofC c).pop.cpu false).r.o, .int .i64 ((Pl.Mc.ofC c).pop.cpu false).r.p, .int .i64 ((Pl.Mc.ofC c).pop.cpu false).r.f, .int .i64 ((Pl.Mc.ofC c).pop.cpu false).r.m, .bool ((Pl.Mc.ofC c).pop.cpu false).r.s, .bool ((Pl.Mc.ofC c).pop.cpu false).r.t, .slice (some ⟨g1, 0, none⟩) 512 c1, .slice (some ⟨g2, 0, none⟩) ((Pl.Mc.ofC c).pop.cpu false).bm c2, .bool ((Pl.Mc.ofC c).pop.cpu false).st, .bool ((Pl.Mc.ofC c).pop.cpu false).ha] 29); have BM := Blk.new W3 #[.slice (some ⟨gd, 0, none⟩) 4 cd, .slice (some ⟨ga, 0, none⟩) 4 cA, .int .i64 ((Pl.Mc.ofC c).pop.cpu false).r.o, .int .i64 ((Pl.Mc.ofC c).pop.cpu false).r.p, .int .i64 ((Pl.Mc.ofC c).pop.cpu false).r.f, .int .i64 ((Pl.Mc.ofC c).pop.cpu false).r.m, .bool ((Pl.Mc.ofC c).pop.cpu false).r.s, .bool ((Pl.Mc.ofC c).pop.cpu false).r.t, .slice (some ⟨g1, 0, none⟩) 512 c1, .slice (some ⟨g2, 0, none⟩) ((Pl.Mc.ofC c).pop.cpu false).bm c2, .bool ((Pl.Mc.ofC c).pop.cpu false).st, .bool ((Pl.Mc.ofC c).pop.cpu false).ha] 29; have KW := kept_alloc W3 (.cells #[.slice (some ⟨gd, 0, none⟩) 4 cd, .slice (some ⟨ga, 0, none⟩) 4 cA, .int .i64 ((Pl.Mc.ofC c).pop.cpu false).r.o, .int .i64 ((Pl.Mc.ofC c).pop.cpu false).r.p, .int .i64 ((Pl.Mc.ofC c).pop.cpu false).r.f, .int .i64 ((Pl.Mc.ofC c).pop.cpu false).r.m, .bool ((Pl.Mc.ofC c).pop.cpu false).r.s, .bool ((Pl.Mc.ofC c).pop.cpu false).r.t, .slice (some ⟨g1, 0, none⟩) 512 c1, .slice (some ⟨g2, 0, none⟩) ((Pl.Mc.ofC c).pop.cpu false).bm c2, .bool ((Pl.Mc.ofC c).pop.cpu false).st, .bool ((Pl.Mc.ofC c).pop.cpu false).ha] 29); obtain ⟨Z, hZ⟩ : ∃ Z : World, W3.alloc (.cells #[.slice (some ⟨gd, 0, none⟩) 4 cd, .slice (some ⟨ga, 0, none⟩) 4 cA, .int .i64 ((Pl.Mc.ofC c).pop.cpu false).r.o, .int .i64 ((Pl.Mc.ofC c).pop.cpu false).r.p, .int .i64 ((Pl.Mc.ofC c).pop.cpu false).r.f, .int .i64 ((Pl.Mc.ofC c).pop.cpu false).r.m, .bool ((Pl.Mc.ofC c).pop.cpu false).r.s, .bool ((Pl.Mc.ofC c).pop.cpu false).r.t, .slice (some ⟨g1, 0, none⟩) 512 c1, .slice (some ⟨g2, 0, none⟩) ((Pl.Mc.ofC c).pop.cpu false).bm c2, .bool ((Pl.Mc.ofC c).pop.cpu false).st, .bool ((Pl.Mc.ofC c).pop.cpu false).ha] 29) = Z := ⟨_, rfl⟩; rw [hZ] at KZ BM KW; have HMZ := hide (HM2.out.any KZ); have HCZ := hide (hc9.any KW); have HLZ := hide (HL2.out.trans (below_kpt KZ (Nat.le_trans (Nat.le_refl W.heap.size) HL2.out.size))); have HKZ := hide (kept_lower HK1.out HLZ.out HK1.out.size); have HT := hide BM; have HIZ := hide (HI1.out.below HLZ.out HIL.out); have HOZ := hide (HO1.out.below HLZ.out HOL.out); have HS3 := hide k9.size; have HG1T := hide hc9.b1; have HG2T := hide (hc9.l.lt g2 rfl).2; clear hc9 k9 KZ BM KW i0 i1 i2 i3 i4 i5 i6 i7 i8 i9 i10 i11; clear o0 of0 o1 of1 o2 of2 o3 of3 o4 of4 o5 of5 o6 of6 o7 of7 o8 of8 o9 of9 o10 of10 o11 of11; have i11 := HIZ.out.cell (i := 11) rfl; have m0 := HT.out.cell (i := 0) rfl; have mf0 := HT.out.frozen 0; have m1 := HT.out.cell (i := 1) rfl; have mf1 := HT.out.frozen 1; have m2 := HT.out.cell (i := 2) rfl; have mf2 := HT.out.frozen 2; have m3 := HT.out.cell (i := 3) rfl; have mf3 := HT.out.frozen 3; have m4 := HT.out.cell (i := 4) rfl; have mf4 := HT.out.frozen 4; have m5 := HT.out.cell (i := 5) rfl; have mf5 := HT.out.frozen 5; have m6 := HT.out.cell (i := 6) rfl; have mf6 := HT.out.frozen 6; have m7 := HT.out.cell (i := 7) rfl; have mf7 := HT.out.frozen 7; have m8 := HT.out.cell (i := 8) rfl; have mf8 := HT.out.frozen 8; have m9 := HT.out.cell (i := 9) rfl; have mf9 := HT.out.frozen 9; have m10 := HT.out.cell (i := 10) rfl; have mf10 := HT.out.frozen 10; have m11 := HT.out.cell (i := 11) rfl; have mf11 := HT.out.frozen 11; have o0 := HOZ.out.cell (i := 0) rfl; have of0 := HOZ.out.frozen 0; have o1 := HOZ.out.cell (i := 1) rfl; have of1 := HOZ.out.frozen 1; have o2 := HOZ.out.cell (i := 2) rfl; have of2 := HOZ.out.frozen 2; have o3 := HOZ.out.cell (i := 3) rfl; have of3 := HOZ.out.frozen 3; have o4 := HOZ.out.cell (i := 4) rfl; have of4 := HOZ.out.frozen 4; have o5 := HOZ.out.cell (i := 5) rfl; have of5 := HOZ.out.frozen 5; have o6 := HOZ.out.cell (i := 6) rfl; have of6 := HOZ.out.frozen 6; have o7 := HOZ.out.cell (i := 7) rfl; have of7 := HOZ.out.frozen 7; have o8 := HOZ.out.cell (i := 8) rfl; have of8 := HOZ.out.frozen 8; have o9 := HOZ.out.cell (i := 9) rfl; have of9 := HOZ.out.frozen 9; have o10 := HOZ.out.cell (i := 10) rfl; have of10 := HOZ.out.frozen 10; have o11 := HOZ.out.cell (i := 11) rfl; have of11 := HOZ.out.frozen 11; have hTl := HT.out.lt; have hWl := HL2.out.size) | (go_at_call 17; refine (specGoodCpu _ c a b e q ca cb ce cq HA.out HB.out HE.out HQ.out lx ly lb ll lm).mono ?_; rintro e9 W ⟨rfl, k9⟩; rw [h1]; have HK1 := hide (K0.out.trans k9); have HI1 := hide (HB0.out.kept0 k9); have HO1 := hide (HB1.out.kept0 k9); have hs1 := HO1.out.lt; have HSz := hide k9.size; have HA1 := hide (HA.out.keptS k9); have HBB1 := hide (HB.out.keptS k9); have HE1 := hide (HE.out.keptS k9); have HQ1 := hide (HQ.out.keptS k9); clear k9 i0 i1 i2 i3 i4 i5 i6 i7 i8 i9 i10 i11; have i0 := HI1.out.cell (i := 0) rfl; have i1 := HI1.out.cell (i := 1) rfl; have i2 := HI1.out.cell (i := 2) rfl; have i3 := HI1.out.cell (i := 3) rfl; have i4 := HI1.out.cell (i := 4) rfl; have i5 := HI1.out.cell (i := 5) rfl; have i6 := HI1.out.cell (i := 6) rfl; have i7 := HI1.out.cell (i := 7) rfl; have i8 := HI1.out.cell (i := 8) rfl; have i9 := HI1.out.cell (i := 9) rfl; have i10 := HI1.out.cell (i := 10) rfl; have i11 := HI1.out.cell (i := 11) rfl; have o0 := HO1.out.cell (i := 0) rfl; have of0 := HO1.out.frozen 0; have o1 := HO1.out.cell (i := 1) rfl; have of1 := HO1.out.frozen 1; have o2 := HO1.out.cell (i := 2) rfl; have of2 := HO1.out.frozen 2; have o3 := HO1.out.cell (i := 3) rfl; have of3 := HO1.out.frozen 3; have o4 := HO1.out.cell (i := 4) rfl; have of4 := HO1.out.frozen 4; have o5 := HO1.out.cell (i := 5) rfl; have of5 := HO1.out.frozen 5; have o6 := HO1.out.cell (i := 6) rfl; have of6 := HO1.out.frozen 6; have o7 := HO1.out.cell (i := 7) rfl; have of7 := HO1.out.frozen 7; have o8 := HO1.out.cell (i := 8) rfl; have of8 := HO1.out.frozen 8; have o9 := HO1.out.cell (i := 9) rfl; have of9 := HO1.out.frozen 9; have o10 := HO1.out.cell (i := 10) rfl; have of10 := HO1.out.frozen 10; have o11 := HO1.out.cell (i := 11) rfl; have of11 := HO1.out.frozen 11; have HIL : Hid (w.heap.size < W.heap.size) := hide HI1.out.lt; have HOL : Hid (w.heap.size + 1 < W.heap.size) := hide HO1.out.lt))
  have hlo2 := HM2.out.lo
  have hs3 := HS3.out
  have HMT := hide ((HMZ.out.past (kept_one Z W3.heap.size 11 (.bool c.ha)) (by omega) (by omega)).any (kept_drew (Kept.refl 0 0 (Z.setCell ⟨W3.heap.size, 11, none⟩ (.bool c.ha)))))
  have LN : Hid (((Pl.Mc.ofC c).pop.cpu c.ha).r.xs.length = 4 ∧ ((Pl.Mc.ofC c).pop.cpu c.ha).r.ys.length = 4 ∧ ((Pl.Mc.ofC c).pop.cpu c.ha).bx.length = 512) := hide ⟨HGp.out.g.d4, HGp.out.g.a4, HGp.out.bx⟩
  have hoT : w.heap.size + 1 < W3.heap.size := by have := HOL.out; have := HL2.out.size; omega
  go_region_with (go_at_call 49; refine (mFine _ W.heap.size mid W1.heap.size p g8 _ HMT.out).mono ?_; rintro e9 w9 ⟨rfl, hw⟩; have hw2 := hw.symm; clear hw; subst hw2)
  all_goals
    go_wp2_with fail
    have hxs := HXS.out
    have hol := HOL.out
    have hl2 := HL2.out.size
    refine bodyPost_ret (v := .tuple #[.agg (cpuV (Pl.ppC c) (some ⟨gd, 0, none⟩) (some ⟨ga, 0, none⟩) (some ⟨g1, 0, none⟩) (some ⟨g2, 0, none⟩) cd cA c1 c2), .int .i64 (Pl.ppV c), .bool (Pl.ppF c), .bool (Pl.cpOk c)]) ?_ rfl ⟨some ⟨gd, 0, none⟩, some ⟨ga, 0, none⟩, some ⟨g1, 0, none⟩, some ⟨g2, 0, none⟩, cd, cA, c1, c2, rfl, ?co, ?kw⟩
    case co =>
      rw [EC.out]
      refine (CO.pastS (lo := w.heap.size) (x := w.heap.size + 1) (y := w.heap.size + 2) (HCZ.out.up c.ha HG1T.out HG2T.out (kept_one Z W3.heap.size 11 (.bool c.ha))) (by omega) (by omega) ?_).cpuIn
      refine kept_drew ?_
      repeat (first | with_reducible exact Kept.refl _ _ _ | refine kept_set ?_ _ _ _ (.inl (by omega)))
    case kw =>
      refine kept_drew ?_
      repeat (first | with_reducible exact HKZ.out | refine kept_set ?_ _ _ _ (.inr (by omega)))
    rw [results_cell_tmp3 rfl, EC.out, EV.out, EF.out, EO.out]; unfold cpuV; rw [LN.out.1, LN.out.2.1, LN.out.2.2]; go_simp; first | rfl | (refine ⟨?_, ?_⟩ <;> rfl) | (repeat' apply And.intro) <;> rfl
theorem specPopWord (w : World) (c : Pl.Cp) (a b e q : Option Addr) (ca cb ce cq : Nat) (ha : IRow w a c.r.xs) (hb : IRow w b c.r.ys) (he : IRow w e c.bx) (hq : IRow w q c.bl) (lx : c.r.xs.length ≤ 2000000) (ly : c.r.ys.length ≤ 2000000) (lb : c.bx.length ≤ 2000000) (ll : c.bl.length = 5 * c.bm) (lm : c.bm ≤ 2000000) :
    Calls Try.prog 22 #[.agg #[.slice a c.r.xs.length ca, .slice b c.r.ys.length cb, .int .i64 c.r.o, .int .i64 c.r.p, .int .i64 c.r.f, .int .i64 c.r.m, .bool c.r.s, .bool c.r.t, .slice e c.bx.length ce, .slice q c.bm cq, .bool c.st, .bool c.ha]] w fun r w' => ∃ (a' b' e' q' : Option Addr) (ca' cb' ce' cq' : Nat), r = .returned (.tuple #[.agg (cpuV (Pl.ppC c) a' b' e' q' ca' cb' ce' cq'), .int .i64 (Pl.ppV c), .bool (Pl.ppF c), .bool (Pl.cpOk c)]) ∧ CpuIn w' w.heap.size (Pl.ppC c) a' b' e' q' ∧ Kept 0 0 w w' := by
  cases h1 : Pl.cpOk c
  · rw [← h1]; exact specPopWord_bad w c a b e q ca cb ce cq ha hb he hq lx ly lb ll lm h1
  · rw [← h1]; exact specPopWord_ok w c a b e q ca cb ce cq ha hb he hq lx ly lb ll lm h1
end Go.Proofs.Ytblddehlkaolbaa

namespace Go.Proofs.Ytblddehlkaolbaa
open Go.RowKit
set_option linter.unusedVariables false
namespace Pl
structure CpLen (c : Cp) : Prop where
  d : c.r.xs.length ≤ 4
  a : c.r.ys.length ≤ 4
  b : c.bx.length ≤ 512
  l : c.bl.length = 5 * c.bm
  m : c.bm ≤ 400
theorem cpLen_no : CpLen cpNo := ⟨by decide, by decide, by decide, by decide, by decide⟩
theorem GM.len {m : Mc} (g : GM m) (h : Bool) : CpLen (m.cpu h) := ⟨by have := g.g.d4; show m.r.xs.length ≤ 4; omega, by have := g.g.a4; show m.r.ys.length ≤ 4; omega, by have := g.bx; show m.bx.length ≤ 512; omega, g.bl, g.bm⟩
theorem pp_len (c : Cp) (hl : c.bl.length = 5 * c.bm) : CpLen (ppC c) := by
  unfold ppC
  cases h : cpOk c
  · exact cpLen_no
  · have g : GM (Mc.ofC c) := GM.of h hl c.st
    exact (GM.pop g).len _
end Pl
theorem CpuIn.sl {w : World} {base : Nat} {c : Pl.Cp} {a b e q : Option Addr} (h : CpuIn w base c a b e q) : CpSl w base w.heap.size c a b e q :=
  ⟨h.d, h.a', h.b', h.l, h.n1, h.n2, h.n3, h.n4, h.n5, h.n6⟩
end Go.Proofs.Ytblddehlkaolbaa

namespace Go.Proofs.Ytblddehlkaolbaa
open Go.RowKit
/-- the numbers of registers that came in are ints -/
structure Pl.WfR (d : Pl.Rg) : Prop where
  o : (Lit.int .i64 d.o).wf = true
  p : (Lit.int .i64 d.p).wf = true
  f : (Lit.int .i64 d.f).wf = true
  m : (Lit.int .i64 d.m).wf = true
end Go.Proofs.Ytblddehlkaolbaa

namespace Go.Proofs.Ytblddehlkaolbaa
open Go.RowKit
set_option linter.unusedVariables false
theorem wfB {v : Int} (h : (Lit.int .i64 v).wf = true) : -9223372036854775808 ≤ v ∧ v ≤ 9223372036854775807 := bounds_i64 h
theorem okv2 (v : Int) : Pl.okv 2 v = Pl.wordOk v := by
  unfold Pl.okv Pl.wordOk Pl.within Pl.top
  rw [Bool.eq_iff_iff]; simp; omega
theorem isWord (v : Int) (w : World) (lo : -9223372036854775808 ≤ v) (hi : v ≤ 9223372036854775807) :
    Calls Try.prog 30 #[.int .i64 v] w fun e w' => e = .returned (.bool (Pl.wordOk v)) ∧ w' = w := by
  go_enter Try.func30, Try.ntmps30
  go_wp2_with (go_at_call 66; refine (signedOf _ _ _ lo hi).mono ?_; rintro e w' ⟨rfl, hw⟩; have hw2 := hw.symm; clear hw; subst hw2; rw [okv2])
  go_ret
  exact ⟨rfl, rfl⟩
end Go.Proofs.Ytblddehlkaolbaa

