/- What the models of chapter 6 answer that make registers: NewRegs, l6Own. -/
import Derived.Test.YtikmelkobbbgnaaSpecReg2
import Derived.Test.YtikmelkobbbgnaaCopyInts
namespace Go.Proofs.Ytikmelkobbbgnaa
open Go.RowKit
set_option linter.unusedVariables false

/-- the lists of registers lie in new blocks, apart -/
def RegIn (w : World) (base : Nat) (r : Pl.Rg) (a b : Option Addr) : Prop := SlotIn w base w.heap.size a r.xs ∧ SlotIn w base w.heap.size b r.ys ∧ (∀ g, blk a = some g → blk b ≠ some g)
theorem RegIn.kept {w w' : World} {base : Nat} {r : Pl.Rg} {a b : Option Addr} (h : RegIn w base r a b) (k : Kept 0 0 w w') : RegIn w' base r a b :=
  ⟨(h.1.kept k (by omega)).wide (Nat.le_refl _) k.size, (h.2.1.kept k (by omega)).wide (Nat.le_refl _) k.size, h.2.2⟩
theorem RegIn.base {w : World} {base base1 : Nat} {r : Pl.Rg} {a b : Option Addr} (h : RegIn w base1 r a b) (hb : base ≤ base1) : RegIn w base r a b := ⟨h.1.wide hb (Nat.le_refl _), h.2.1.wide hb (Nat.le_refl _), h.2.2⟩
theorem RegIn.set {w : World} {base : Nat} {r : Pl.Rg} {a b : Option Addr} (h : RegIn w base r a b) (x i : Nat) (v : Value) (hx : x < base) : RegIn (w.setCell ⟨x, i, none⟩ v) base r a b := by
  have k : Kept x (x + 1) w (w.setCell ⟨x, i, none⟩ v) := kept_set (Kept.refl _ _ _) x i v (.inl ⟨Nat.le_refl _, by omega⟩)
  have e : (w.setCell ⟨x, i, none⟩ v).heap.size = w.heap.size := by simp
  refine ⟨?_, ?_, h.2.2⟩
  · rw [e]; exact h.1.kept k (by omega)
  · rw [e]; exact h.2.1.kept k (by omega)
/-- registers' lists within a span of blocks -/
def RegAt (w : World) (lo hi : Nat) (r : Pl.Rg) (a b : Option Addr) : Prop := SlotIn w lo hi a r.xs ∧ SlotIn w lo hi b r.ys ∧ (∀ g, blk a = some g → blk b ≠ some g)
theorem RegAt.of {w : World} {base : Nat} {r : Pl.Rg} {a b : Option Addr} (h : RegIn w base r a b) : RegAt w base w.heap.size r a b := h
theorem RegAt.toIn {w : World} {lo hi : Nat} {r : Pl.Rg} {a b : Option Addr} (h : RegAt w lo hi r a b) (hh : hi ≤ w.heap.size) : RegIn w lo r a b := ⟨h.1.wide (Nat.le_refl _) hh, h.2.1.wide (Nat.le_refl _) hh, h.2.2⟩
theorem RegAt.kept {w w' : World} {lo hi l h' : Nat} {r : Pl.Rg} {a b : Option Addr} (h : RegAt w lo hi r a b) (k : Kept l h' w w') (hd : hi ≤ l ∨ h' ≤ lo ∨ h' ≤ l) : RegAt w' lo hi r a b := ⟨h.1.kept k hd, h.2.1.kept k hd, h.2.2⟩
theorem RegAt.set {w : World} {lo hi : Nat} {r : Pl.Rg} {a b : Option Addr} (h : RegAt w lo hi r a b) (x i : Nat) (v : Value) (hx : hi ≤ x ∨ x < lo) : RegAt (w.setCell ⟨x, i, none⟩ v) lo hi r a b :=
  h.kept (kept_set (Kept.refl x (x + 1) w) x i v (.inl ⟨Nat.le_refl _, by omega⟩)) (by omega)
theorem RegAt.setX {w : World} {lo hi g k : Nat} {r : Pl.Rg} {b : Option Addr} (h : RegAt w lo hi r (some ⟨g, 0, none⟩) b) (z : Int) (h0 : 0 < r.xs.length) : RegAt (w.setCell ⟨g, k, none⟩ (.int .i64 z)) lo hi { r with xs := r.xs.set k z } (some ⟨g, 0, none⟩) b := by
  obtain ⟨h1, h2, h3⟩ := h
  refine ⟨?_, ?_, h3⟩
  · rcases h1 with ⟨h1, _⟩ | ⟨g', e1, b0, b1, ho⟩
    · cases h1
    · cases e1
      exact .inr ⟨g, rfl, b0, b1, ho.set z⟩
  · rcases h2 with h2 | ⟨g', e1, b0, b1, ho⟩
    · exact .inl h2
    · refine .inr ⟨g', e1, b0, b1, ho.setOther _ _ _ (fun ee => ?_)⟩
      exact h3 g rfl (by rw [e1, ee]; rfl)
theorem RegAt.setY {w : World} {lo hi g k : Nat} {r : Pl.Rg} {a : Option Addr} (h : RegAt w lo hi r a (some ⟨g, 0, none⟩)) (z : Int) (h0 : 0 < r.ys.length) : RegAt (w.setCell ⟨g, k, none⟩ (.int .i64 z)) lo hi { r with ys := r.ys.set k z } a (some ⟨g, 0, none⟩) := by
  obtain ⟨h1, h2, h3⟩ := h
  refine ⟨?_, ?_, h3⟩
  · rcases h1 with h1 | ⟨g', e1, b0, b1, ho⟩
    · exact .inl h1
    · refine .inr ⟨g', e1, b0, b1, ho.setOther _ _ _ (fun ee => ?_)⟩
      exact h3 g' (by rw [e1]; rfl) (by rw [ee]; rfl)
  · rcases h2 with ⟨h2, _⟩ | ⟨g', e1, b0, b1, ho⟩
    · cases h2
    · cases e1
      exact .inr ⟨g, rfl, b0, b1, ho.set z⟩
def zeros4 : Array Value := #[.int .i64 0, .int .i64 0, .int .i64 0, .int .i64 0]
theorem own_zeros {w : World} {g : Nat} {e : TypeId} (h : Blk w g #[.int .i64 0, .int .i64 0, .int .i64 0, .int .i64 0] e) : Own w g [0, 0, 0, 0] := own_of_blk (e := e) h

theorem newRegsEnd (w : World) : ∃ (a b : Option Addr) (ca cb : Nat), Ending.returned (.agg #[.slice (some ⟨w.heap.size + 1, 0, none⟩) 4 4, .slice (some ⟨w.heap.size + 1 + 1, 0, none⟩) 4 4, .int .i64 0, .int .i64 0, .int .i64 0, .int .i64 7, .bool true, .bool false]) = .returned (.agg #[.slice a Pl.rgNew.xs.length ca, .slice b Pl.rgNew.ys.length cb, .int .i64 Pl.rgNew.o, .int .i64 Pl.rgNew.p, .int .i64 Pl.rgNew.f, .int .i64 Pl.rgNew.m, .bool Pl.rgNew.s, .bool Pl.rgNew.t]) ∧ RegIn (((w.alloc (.cells #[.slice (some ⟨w.heap.size + 1, 0, none⟩) 4 4, .slice (some ⟨w.heap.size + 1 + 1, 0, none⟩) 4 4, .int .i64 0, .int .i64 0, .int .i64 0, .int .i64 7, .bool true, .bool false] 24)).alloc (.cells #[.int .i64 0, .int .i64 0, .int .i64 0, .int .i64 0] 3)).alloc (.cells #[.int .i64 0, .int .i64 0, .int .i64 0, .int .i64 0] 3)) w.heap.size Pl.rgNew a b ∧ Kept 0 0 w (((w.alloc (.cells #[.slice (some ⟨w.heap.size + 1, 0, none⟩) 4 4, .slice (some ⟨w.heap.size + 1 + 1, 0, none⟩) 4 4, .int .i64 0, .int .i64 0, .int .i64 0, .int .i64 7, .bool true, .bool false] 24)).alloc (.cells #[.int .i64 0, .int .i64 0, .int .i64 0, .int .i64 0] 3)).alloc (.cells #[.int .i64 0, .int .i64 0, .int .i64 0, .int .i64 0] 3)) := by
  have B1 := (Blk.new (w.alloc (.cells #[.slice (some ⟨w.heap.size + 1, 0, none⟩) 4 4, .slice (some ⟨w.heap.size + 1 + 1, 0, none⟩) 4 4, .int .i64 0, .int .i64 0, .int .i64 0, .int .i64 7, .bool true, .bool false] 24)) #[.int .i64 0, .int .i64 0, .int .i64 0, .int .i64 0] 3).alloc (.cells #[.int .i64 0, .int .i64 0, .int .i64 0, .int .i64 0] 3)
  have B2 := Blk.new ((w.alloc (.cells #[.slice (some ⟨w.heap.size + 1, 0, none⟩) 4 4, .slice (some ⟨w.heap.size + 1 + 1, 0, none⟩) 4 4, .int .i64 0, .int .i64 0, .int .i64 0, .int .i64 7, .bool true, .bool false] 24)).alloc (.cells #[.int .i64 0, .int .i64 0, .int .i64 0, .int .i64 0] 3)) #[.int .i64 0, .int .i64 0, .int .i64 0, .int .i64 0] 3
  simp only [World.size_alloc] at B1 B2
  exact ⟨some ⟨w.heap.size + 1, 0, none⟩, some ⟨w.heap.size + 1 + 1, 0, none⟩, 4, 4, rfl, ⟨.inr ⟨_, rfl, by omega, by simp <;> omega, own_zeros B1⟩, .inr ⟨_, rfl, by omega, by simp, own_zeros B2⟩, by intro g hg hh; simp [blk] at hg hh; omega⟩, kept_new (kept_new (kept_alloc _ _) _) _⟩
theorem specNewRegs (w : World) : Calls Try.prog 11 #[] w fun e w' => ∃ (a b : Option Addr) (ca cb : Nat), e = .returned (.agg #[.slice a Pl.rgNew.xs.length ca, .slice b Pl.rgNew.ys.length cb, .int .i64 Pl.rgNew.o, .int .i64 Pl.rgNew.p, .int .i64 Pl.rgNew.f, .int .i64 Pl.rgNew.m, .bool Pl.rgNew.s, .bool Pl.rgNew.t]) ∧ RegIn w' w.heap.size Pl.rgNew a b ∧ Kept 0 0 w w' := by
  go_enter Try.func11, Try.ntmps11
  go_wp2_with fail
  refine bodyPost_ret (v := .agg #[.slice (some ⟨w.heap.size + 1, 0, none⟩) 4 4, .slice (some ⟨w.heap.size + 1 + 1, 0, none⟩) 4 4, .int .i64 0, .int .i64 0, .int .i64 0, .int .i64 7, .bool true, .bool false]) ?_ rfl ?_
  · rw [results_one rfl]; go_simp
  · exact newRegsEnd w

set_option maxHeartbeats 8000000 in
theorem specOwn (w : World) (r : Pl.Rg) (a b : Option Addr) (ca cb : Nat) (ha : IRow w a r.xs) (hb : IRow w b r.ys) (lx : r.xs.length ≤ 2000000) (ly : r.ys.length ≤ 2000000) :
    Calls Try.prog 51 #[.agg #[.slice a r.xs.length ca, .slice b r.ys.length cb, .int .i64 r.o, .int .i64 r.p, .int .i64 r.f, .int .i64 r.m, .bool r.s, .bool r.t]] w fun e w' => ∃ (a' b' : Option Addr) (ca' cb' : Nat), e = .returned (.agg #[.slice a' r.xs.length ca', .slice b' r.ys.length cb', .int .i64 r.o, .int .i64 r.p, .int .i64 r.f, .int .i64 r.m, .bool r.s, .bool r.t]) ∧ RegIn w' w.heap.size r a' b' ∧ Kept 0 0 w w' := by
  have HA := hide ha
  have HB := hide hb
  clear ha hb
  have K0 := hide (kept_new (kept_new (kept_alloc w (.cells #[.slice a r.xs.length ca, .slice b r.ys.length cb, .int .i64 r.o, .int .i64 r.p, .int .i64 r.f, .int .i64 r.m, .bool r.s, .bool r.t] 24)) (.cells #[.slice none 0 0, .slice none 0 0, .int .i64 0, .int .i64 0, .int .i64 0, .int .i64 0, .bool false, .bool false] 24)) (.cells #[] 3))
  have B0 := hide (((Blk.new w #[.slice a r.xs.length ca, .slice b r.ys.length cb, .int .i64 r.o, .int .i64 r.p, .int .i64 r.f, .int .i64 r.m, .bool r.s, .bool r.t] 24).alloc (.cells #[.slice none 0 0, .slice none 0 0, .int .i64 0, .int .i64 0, .int .i64 0, .int .i64 0, .bool false, .bool false] 24)).alloc (.cells #[] 3))
  have B1 := (Blk.new (w.alloc (.cells #[.slice a r.xs.length ca, .slice b r.ys.length cb, .int .i64 r.o, .int .i64 r.p, .int .i64 r.f, .int .i64 r.m, .bool r.s, .bool r.t] 24)) #[.slice none 0 0, .slice none 0 0, .int .i64 0, .int .i64 0, .int .i64 0, .int .i64 0, .bool false, .bool false] 24).alloc (.cells #[] 3)
  have B2 := Blk.new ((w.alloc (.cells #[.slice a r.xs.length ca, .slice b r.ys.length cb, .int .i64 r.o, .int .i64 r.p, .int .i64 r.f, .int .i64 r.m, .bool r.s, .bool r.t] 24)).alloc (.cells #[.slice none 0 0, .slice none 0 0, .int .i64 0, .int .i64 0, .int .i64 0, .int .i64 0, .bool false, .bool false] 24)) #[] 3
  simp only [World.size_alloc] at B1 B2
  replace B1 := hide B1
  replace B2 := hide B2
  go_enter Try.func51, Try.ntmps51
  go_wp2_with (at_builtin; refine copy_ints rfl (.tmp 3) (.tmp 5) rfl w.heap.size (w.heap.size + 1 + 1) rfl B2.out (by omega) a r.xs.length ca r.xs rfl (HA.out.keptS K0.out) rfl lx (w.heap.size + 1 + 1 + 1) (by simp) ?_)
  intro g1 c1 w1 o1 k1 hg1 l1
  have C0 := hide (B0.out.kept k1 (by omega))
  have C1 := hide (B1.out.kept k1 (by omega))
  have d3 := C0.out.cell (i := 0) rfl
  have f3 := C0.out.frozen 0
  have n0 := B2.out.lt
  have n1 := k1.size
  obtain ⟨p1, p2⟩ := o1.lt g1 rfl
  have D0 := hide ((C0.out.set 0 (.slice (some ⟨g1, 0, none⟩) r.xs.length c1)).alloc (.cells #[] 3))
  have D1 := hide ((C1.out.other w.heap.size 0 (.slice (some ⟨g1, 0, none⟩) r.xs.length c1) (by omega)).alloc (.cells #[] 3))
  have O1 := hide ((o1.kept (grownBy_set w1 w.heap.size 0 (.slice (some ⟨g1, 0, none⟩) r.xs.length c1)) (.inr (fun e => by have h3 : g1 = w.heap.size := Option.some.inj e; omega))).alloc (.cells #[] 3))
  have K1 := hide (kept_new (kept_set (kept_over K0.out k1 (by omega)) w.heap.size 0 (.slice (some ⟨g1, 0, none⟩) r.xs.length c1) (.inr (Nat.le_refl _))) (.cells #[] 3))
  have E2 := Blk.new (w1.setCell ⟨w.heap.size, 0, none⟩ (.slice (some ⟨g1, 0, none⟩) r.xs.length c1)) #[] 3
  simp only [World.size_setCell] at E2
  replace E2 := hide E2
  have q4 := D0.out.cell (i := 1) rfl
  clear o1 k1 B0 B1 B2 C0 C1
  go_wp2_with (at_builtin; refine copy_ints rfl (.tmp 8) (.tmp 10) rfl w.heap.size w1.heap.size rfl E2.out (by omega) b r.ys.length cb r.ys rfl (HB.out.keptS K1.out) rfl ly (w1.heap.size + 1) (by simp) ?_)
  intro g2 c2 w2 o2 k2 hg2 l2
  clear q4 d3 f3
  have F0 := D0.out.kept k2 (by omega)
  have F1 := D1.out.kept k2 (by omega)
  obtain ⟨p3, p4⟩ := o2.lt g2 rfl
  have n2 := k2.size
  simp only [World.size_alloc, World.size_setCell] at n2
  have P1 := hide (O1.out.kept (kept_by k2) (.inr (fun e => by have h3 : g1 = w1.heap.size := Option.some.inj e; omega)))
  have P2 := hide o2
  have K2 := hide (kept_over K1.out k2 (by omega))
  have x0 := F0.cell (i := 0) rfl
  have x1 := F0.cell (i := 1) rfl
  have x2 := F0.cell (i := 2) rfl
  have x3 := F0.cell (i := 3) rfl
  have x4 := F0.cell (i := 4) rfl
  have x5 := F0.cell (i := 5) rfl
  have x6 := F0.cell (i := 6) rfl
  have x7 := F0.cell (i := 7) rfl
  have v1' := F0.frozen 1
  have y0 := F1.cell (i := 0) rfl
  have u0 := F1.frozen 0
  have y1 := F1.cell (i := 1) rfl
  have u1 := F1.frozen 1
  have y2 := F1.cell (i := 2) rfl
  have u2 := F1.frozen 2
  have y3 := F1.cell (i := 3) rfl
  have u3 := F1.frozen 3
  have y4 := F1.cell (i := 4) rfl
  have u4 := F1.frozen 4
  have y5 := F1.cell (i := 5) rfl
  have u5 := F1.frozen 5
  have y6 := F1.cell (i := 6) rfl
  have u6 := F1.frozen 6
  have y7 := F1.cell (i := 7) rfl
  have u7 := F1.frozen 7
  have G1 := hide F1
  have hne : g1 ≠ g2 := by omega
  clear F0 F1 o2 k2
  go_wp2_with fail
  refine bodyPost_ret (v := .agg #[.slice (some ⟨g1, 0, none⟩) r.xs.length c1, .slice (some ⟨g2, 0, none⟩) r.ys.length c2, .int .i64 r.o, .int .i64 r.p, .int .i64 r.f, .int .i64 r.m, .bool r.s, .bool r.t]) ?_ rfl ?_
  · exact results_cell_row rfl _ _ _ _ _ (0, 0) _ rfl (((((((((G1.out.other _ _ _ (by omega)).set _ _).set _ _).set _ _).set _ _).set _ _).set _ _).set _ _).set _ _) Try.underlying24 rfl (by kernel_rfl)
  · refine ⟨some ⟨g1, 0, none⟩, some ⟨g2, 0, none⟩, c1, c2, rfl, ⟨.inr ⟨g1, rfl, by omega, by simp; omega, ?_⟩, .inr ⟨g2, rfl, by omega, by simp; omega, ?_⟩, ?_⟩, ?_⟩
    · exact ((((((((((own_of_row P1.out).setOther _ _ _ (by omega)).setOther _ _ _ (by omega)).setOther _ _ _ (by omega)).setOther _ _ _ (by omega)).setOther _ _ _ (by omega)).setOther _ _ _ (by omega)).setOther _ _ _ (by omega)).setOther _ _ _ (by omega)).setOther _ _ _ (by omega))
    · exact ((((((((((own_of_row P2.out).setOther _ _ _ (by omega)).setOther _ _ _ (by omega)).setOther _ _ _ (by omega)).setOther _ _ _ (by omega)).setOther _ _ _ (by omega)).setOther _ _ _ (by omega)).setOther _ _ _ (by omega)).setOther _ _ _ (by omega)).setOther _ _ _ (by omega))
    · intro g hg hh
      simp [blk] at hg hh
      omega
    · exact (kept_set (kept_set (kept_set (kept_set (kept_set (kept_set (kept_set (kept_set (kept_set K2.out _ _ _ (.inr (by omega))) _ _ _ (.inr (by omega))) _ _ _ (.inr (by omega))) _ _ _ (.inr (by omega))) _ _ _ (.inr (by omega))) _ _ _ (.inr (by omega))) _ _ _ (.inr (by omega))) _ _ _ (.inr (by omega))) _ _ _ (.inr (by omega)))
end Go.Proofs.Ytikmelkobbbgnaa
