/- What the models of chapter 6 answer that make registers: NewRegs, l6Own. What the model of WithStatus answers, for every argument. What the model of PutData answers, for every argument. -/
import Derived.Test.YtblddehlkaolbaaGreatDoorJA3
import Derived.BigRegion
import Derived.Deep.DeepCutAuto
namespace Go.Proofs.YtblddehlkaolbaaGreatDoor
open Go.RowKit
set_option linter.unusedVariables false

/-- the lists of registers lie in new blocks, apart -/
def RegIn (w : World) (base : Nat) (r : Pl.Rg) (a b : Option Addr) : Prop := SlotIn w base w.heap.size a r.xs ∧ SlotIn w base w.heap.size b r.ys ∧ (∀ g, blk a = some g → blk b ≠ some g)
theorem RegIn.kept {w w' : World} {base : Nat} {r : Pl.Rg} {a b : Option Addr} (h : RegIn w base r a b) (k : Kept 0 0 w w') : RegIn w' base r a b :=
  ⟨(h.1.kept k (by omega)).wide (Nat.le_refl _) k.size, (h.2.1.kept k (by omega)).wide (Nat.le_refl _) k.size, h.2.2⟩
/-- registers' lists within a span of blocks -/
def RegAt (w : World) (lo hi : Nat) (r : Pl.Rg) (a b : Option Addr) : Prop := SlotIn w lo hi a r.xs ∧ SlotIn w lo hi b r.ys ∧ (∀ g, blk a = some g → blk b ≠ some g)
theorem RegAt.kept {w w' : World} {lo hi l h' : Nat} {r : Pl.Rg} {a b : Option Addr} (h : RegAt w lo hi r a b) (k : Kept l h' w w') (hd : hi ≤ l ∨ h' ≤ lo ∨ h' ≤ l) : RegAt w' lo hi r a b := ⟨h.1.kept k hd, h.2.1.kept k hd, h.2.2⟩
theorem RegAt.set {w : World} {lo hi : Nat} {r : Pl.Rg} {a b : Option Addr} (h : RegAt w lo hi r a b) (x i : Nat) (v : Value) (hx : hi ≤ x ∨ x < lo) : RegAt (w.setCell ⟨x, i, none⟩ v) lo hi r a b :=
  h.kept (kept_set (Kept.refl x (x + 1) w) x i v (.inl ⟨Nat.le_refl _, by omega⟩)) (by omega)
theorem RegAt.setX {w : World} {lo hi g k : Nat} {r : Pl.Rg} {b : Option Addr} (h : RegAt w lo hi r (some ⟨g, 0, none⟩) b) (z : Int) (h0 : 0 < r.xs.length) : RegAt (w.setCell ⟨g, k, none⟩ (.int .i64 z)) lo hi { r with xs := r.xs.set k z } (some ⟨g, 0, none⟩) b := by
  obtain ⟨h1, h2, h3⟩ := h
  refine ⟨?_, ?_, h3⟩
  · rcases h1 with ⟨h1, _⟩ | ⟨g', e1, b0, b1, ho⟩
    · cases h1
    · cases e1
      exact .inr ⟨g, rfl, b0, b1, ho.set z⟩
  · rcases h2 with h2 | ⟨g', e1, b0, b1, ho⟩
    · exact .inl h2
    · refine .inr ⟨g', e1, b0, b1, ho.setOther _ _ _ (fun ee => ?_)⟩
      exact h3 g rfl (by rw [e1, ee]; rfl)
theorem RegAt.setY {w : World} {lo hi g k : Nat} {r : Pl.Rg} {a : Option Addr} (h : RegAt w lo hi r a (some ⟨g, 0, none⟩)) (z : Int) (h0 : 0 < r.ys.length) : RegAt (w.setCell ⟨g, k, none⟩ (.int .i64 z)) lo hi { r with ys := r.ys.set k z } a (some ⟨g, 0, none⟩) := by
  obtain ⟨h1, h2, h3⟩ := h
  refine ⟨?_, ?_, h3⟩
  · rcases h1 with h1 | ⟨g', e1, b0, b1, ho⟩
    · exact .inl h1
    · refine .inr ⟨g', e1, b0, b1, ho.setOther _ _ _ (fun ee => ?_)⟩
      exact h3 g' (by rw [e1]; rfl) (by rw [ee]; rfl)
  · rcases h2 with ⟨h2, _⟩ | ⟨g', e1, b0, b1, ho⟩
    · cases h2
    · cases e1
      exact .inr ⟨g, rfl, b0, b1, ho.set z⟩
set_option maxHeartbeats 8000000 in
theorem specOwn (w : World) (r : Pl.Rg) (a b : Option Addr) (ca cb : Nat) (ha : IRow w a r.xs) (hb : IRow w b r.ys) (lx : r.xs.length ≤ 2000000) (ly : r.ys.length ≤ 2000000) :
    Calls Tryz.prog 45 #[.agg #[.slice a r.xs.length ca, .slice b r.ys.length cb, .int .i64 r.o, .int .i64 r.p, .int .i64 r.f, .int .i64 r.m, .bool r.s, .bool r.t]] w fun e w' => ∃ (a' b' : Option Addr) (ca' cb' : Nat), e = .returned (.agg #[.slice a' r.xs.length ca', .slice b' r.ys.length cb', .int .i64 r.o, .int .i64 r.p, .int .i64 r.f, .int .i64 r.m, .bool r.s, .bool r.t]) ∧ RegIn w' w.heap.size r a' b' ∧ Kept 0 0 w w' := by
  have HA := hide ha
  have HB := hide hb
  clear ha hb
  have K0 := hide (kept_new (kept_new (kept_alloc w (.cells #[.slice a r.xs.length ca, .slice b r.ys.length cb, .int .i64 r.o, .int .i64 r.p, .int .i64 r.f, .int .i64 r.m, .bool r.s, .bool r.t] 31)) (.cells #[.slice none 0 0, .slice none 0 0, .int .i64 0, .int .i64 0, .int .i64 0, .int .i64 0, .bool false, .bool false] 31)) (.cells #[] 3))
  have B0 := hide (((Blk.new w #[.slice a r.xs.length ca, .slice b r.ys.length cb, .int .i64 r.o, .int .i64 r.p, .int .i64 r.f, .int .i64 r.m, .bool r.s, .bool r.t] 31).alloc (.cells #[.slice none 0 0, .slice none 0 0, .int .i64 0, .int .i64 0, .int .i64 0, .int .i64 0, .bool false, .bool false] 31)).alloc (.cells #[] 3))
  have B1 := (Blk.new (w.alloc (.cells #[.slice a r.xs.length ca, .slice b r.ys.length cb, .int .i64 r.o, .int .i64 r.p, .int .i64 r.f, .int .i64 r.m, .bool r.s, .bool r.t] 31)) #[.slice none 0 0, .slice none 0 0, .int .i64 0, .int .i64 0, .int .i64 0, .int .i64 0, .bool false, .bool false] 31).alloc (.cells #[] 3)
  have B2 := Blk.new ((w.alloc (.cells #[.slice a r.xs.length ca, .slice b r.ys.length cb, .int .i64 r.o, .int .i64 r.p, .int .i64 r.f, .int .i64 r.m, .bool r.s, .bool r.t] 31)).alloc (.cells #[.slice none 0 0, .slice none 0 0, .int .i64 0, .int .i64 0, .int .i64 0, .int .i64 0, .bool false, .bool false] 31)) #[] 3
  simp only [World.size_alloc] at B1 B2
  replace B1 := hide B1
  replace B2 := hide B2
  go_enter Tryz.func45, Tryz.ntmps45
  go_wp2_with (at_builtin; refine copy_ints rfl (.tmp 3) (.tmp 5) rfl w.heap.size (w.heap.size + 1 + 1) rfl B2.out (by omega) a r.xs.length ca r.xs rfl (HA.out.keptS K0.out) rfl lx (w.heap.size + 1 + 1 + 1) (by simp) ?_)
  intro g1 c1 w1 o1 k1 hg1 l1
  have C0 := hide (B0.out.kept k1 (by omega))
  have C1 := hide (B1.out.kept k1 (by omega))
  have d3 := C0.out.cell (i := 0) rfl
  have f3 := C0.out.frozen 0
  have n0 := B2.out.lt
  have n1 := k1.size
  obtain ⟨p1, p2⟩ := o1.lt g1 rfl
  have D0 := hide ((C0.out.set 0 (.slice (some ⟨g1, 0, none⟩) r.xs.length c1)).alloc (.cells #[] 3))
  have D1 := hide ((C1.out.other w.heap.size 0 (.slice (some ⟨g1, 0, none⟩) r.xs.length c1) (by omega)).alloc (.cells #[] 3))
  have O1 := hide ((o1.kept (grownBy_set w1 w.heap.size 0 (.slice (some ⟨g1, 0, none⟩) r.xs.length c1)) (.inr (fun e => by have h3 : g1 = w.heap.size := Option.some.inj e; omega))).alloc (.cells #[] 3))
  have K1 := hide (kept_new (kept_set (kept_over K0.out k1 (by omega)) w.heap.size 0 (.slice (some ⟨g1, 0, none⟩) r.xs.length c1) (.inr (Nat.le_refl _))) (.cells #[] 3))
  have E2 := Blk.new (w1.setCell ⟨w.heap.size, 0, none⟩ (.slice (some ⟨g1, 0, none⟩) r.xs.length c1)) #[] 3
  simp only [World.size_setCell] at E2
  replace E2 := hide E2
  have q4 := D0.out.cell (i := 1) rfl
  clear o1 k1 B0 B1 B2 C0 C1
  go_wp2_with (at_builtin; refine copy_ints rfl (.tmp 8) (.tmp 10) rfl w.heap.size w1.heap.size rfl E2.out (by omega) b r.ys.length cb r.ys rfl (HB.out.keptS K1.out) rfl ly (w1.heap.size + 1) (by simp) ?_)
  intro g2 c2 w2 o2 k2 hg2 l2
  clear q4 d3 f3
  have F0 := D0.out.kept k2 (by omega)
  have F1 := D1.out.kept k2 (by omega)
  obtain ⟨p3, p4⟩ := o2.lt g2 rfl
  have n2 := k2.size
  simp only [World.size_alloc, World.size_setCell] at n2
  have P1 := hide (O1.out.kept (kept_by k2) (.inr (fun e => by have h3 : g1 = w1.heap.size := Option.some.inj e; omega)))
  have P2 := hide o2
  have K2 := hide (kept_over K1.out k2 (by omega))
  have x0 := F0.cell (i := 0) rfl
  have x1 := F0.cell (i := 1) rfl
  have x2 := F0.cell (i := 2) rfl
  have x3 := F0.cell (i := 3) rfl
  have x4 := F0.cell (i := 4) rfl
  have x5 := F0.cell (i := 5) rfl
  have x6 := F0.cell (i := 6) rfl
  have x7 := F0.cell (i := 7) rfl
  have v1' := F0.frozen 1
  have y0 := F1.cell (i := 0) rfl
  have u0 := F1.frozen 0
  have y1 := F1.cell (i := 1) rfl
  have u1 := F1.frozen 1
  have y2 := F1.cell (i := 2) rfl
  have u2 := F1.frozen 2
  have y3 := F1.cell (i := 3) rfl
  have u3 := F1.frozen 3
  have y4 := F1.cell (i := 4) rfl
  have u4 := F1.frozen 4
  have y5 := F1.cell (i := 5) rfl
  have u5 := F1.frozen 5
  have y6 := F1.cell (i := 6) rfl
  have u6 := F1.frozen 6
  have y7 := F1.cell (i := 7) rfl
  have u7 := F1.frozen 7
  have G1 := hide F1
  have hne : g1 ≠ g2 := by omega
  clear F0 F1 o2 k2
  go_wp2_with fail
  refine bodyPost_ret (v := .agg #[.slice (some ⟨g1, 0, none⟩) r.xs.length c1, .slice (some ⟨g2, 0, none⟩) r.ys.length c2, .int .i64 r.o, .int .i64 r.p, .int .i64 r.f, .int .i64 r.m, .bool r.s, .bool r.t]) ?_ rfl ?_
  · exact results_cell_row rfl _ _ _ _ _ (0, 0) _ rfl (((((((((G1.out.other _ _ _ (by omega)).set _ _).set _ _).set _ _).set _ _).set _ _).set _ _).set _ _).set _ _) Tryz.underlying31 rfl (by kernel_rfl)
  · refine ⟨some ⟨g1, 0, none⟩, some ⟨g2, 0, none⟩, c1, c2, rfl, ⟨.inr ⟨g1, rfl, by omega, by simp; omega, ?_⟩, .inr ⟨g2, rfl, by omega, by simp; omega, ?_⟩, ?_⟩, ?_⟩
    · exact ((((((((((own_of_row P1.out).setOther _ _ _ (by omega)).setOther _ _ _ (by omega)).setOther _ _ _ (by omega)).setOther _ _ _ (by omega)).setOther _ _ _ (by omega)).setOther _ _ _ (by omega)).setOther _ _ _ (by omega)).setOther _ _ _ (by omega)).setOther _ _ _ (by omega))
    · exact ((((((((((own_of_row P2.out).setOther _ _ _ (by omega)).setOther _ _ _ (by omega)).setOther _ _ _ (by omega)).setOther _ _ _ (by omega)).setOther _ _ _ (by omega)).setOther _ _ _ (by omega)).setOther _ _ _ (by omega)).setOther _ _ _ (by omega)).setOther _ _ _ (by omega))
    · intro g hg hh
      simp [blk] at hg hh
      omega
    · exact (kept_set (kept_set (kept_set (kept_set (kept_set (kept_set (kept_set (kept_set (kept_set K2.out _ _ _ (.inr (by omega))) _ _ _ (.inr (by omega))) _ _ _ (.inr (by omega))) _ _ _ (.inr (by omega))) _ _ _ (.inr (by omega))) _ _ _ (.inr (by omega))) _ _ _ (.inr (by omega))) _ _ _ (.inr (by omega))) _ _ _ (.inr (by omega)))
end Go.Proofs.YtblddehlkaolbaaGreatDoor

namespace Go.Proofs.YtblddehlkaolbaaGreatDoor
open Go.RowKit
set_option linter.unusedVariables false

theorem fin1024 {p : Int → Prop} (h : ∀ m : Fin 1024, p (m.val : Int)) {n : Int} (h0 : 0 ≤ n) (h1 : n ≤ 1023) : p n := by
  have := h ⟨n.toNat, by omega⟩
  have e : ((n.toNat : Nat) : Int) = n := by omega
  simpa [e] using this
theorem st256 {n : Int} (h0 : 0 ≤ n) (h1 : n ≤ 1023) : (bits .and .i64 n 256 != 0) = Pl.stSuper n := fin1024 (p := fun n => (bits .and .i64 n 256 != 0) = Pl.stSuper n) (by decide +kernel) h0 h1
theorem st512 {n : Int} (h0 : 0 ≤ n) (h1 : n ≤ 1023) : (bits .and .i64 n 512 != 0) = Pl.stTrace n := fin1024 (p := fun n => (bits .and .i64 n 512 != 0) = Pl.stTrace n) (by decide +kernel) h0 h1
theorem st31 {n : Int} (h0 : 0 ≤ n) (h1 : n ≤ 1023) : bits .and .i64 n 31 = n % 32 := fin1024 (p := fun n => bits .and .i64 n 31 = n % 32) (by decide +kernel) h0 h1
theorem st7 {n : Int} (h0 : 0 ≤ n) (h1 : n ≤ 1023) : bits .and .i64 (n / 32) 7 = n / 32 % 8 := fin1024 (p := fun n => bits .and .i64 (n / 32) 7 = n / 32 % 8) (by decide +kernel) h0 h1

set_option maxHeartbeats 4000000 in
theorem specWith (w : World) (lo hi : Nat) (r : Pl.Rg) (a b : Option Addr) (ca cb : Nat) (n : Int) (hr : RegAt w lo hi r a b) (hh : hi ≤ w.heap.size) (hg : Pl.Good r) (h0 : 0 ≤ n) (h1 : n ≤ 1023) :
    Calls Tryz.prog 84 #[.agg #[.slice a r.xs.length ca, .slice b r.ys.length cb, .int .i64 r.o, .int .i64 r.p, .int .i64 r.f, .int .i64 r.m, .bool r.s, .bool r.t], .int .i64 n] w fun e w' => e = .returned (.agg #[.slice a (Pl.withR r n).xs.length ca, .slice b (Pl.withR r n).ys.length cb, .int .i64 (Pl.withR r n).o, .int .i64 (Pl.withR r n).p, .int .i64 (Pl.withR r n).f, .int .i64 (Pl.withR r n).m, .bool (Pl.withR r n).s, .bool (Pl.withR r n).t]) ∧ RegAt w' lo hi (Pl.withR r n) a b ∧ Kept lo hi w w' := by
  have e1 := st256 h0 h1
  have e2 := st512 h0 h1
  have e3 := st31 h0 h1
  have e4 := st7 h0 h1
  have HR := hide hr
  by_cases hs : Pl.stSuper n = r.s
  · have q1 : (Pl.stSuper n != r.s) = false := by simp [hs]
    have E : Hid (Pl.withR r n = { r with t := Pl.stTrace n, m := n / 32 % 8, f := n % 32 }) := hide (by unfold Pl.withR; rw [if_pos hs, hs])
    clear hr
    go_enter Tryz.func84, Tryz.ntmps84
    go_wp2_with fail
    refine bodyPost_ret (v := .agg #[.slice a r.xs.length ca, .slice b r.ys.length cb, .int .i64 r.o, .int .i64 r.p, .int .i64 (n % 32), .int .i64 (n / 32 % 8), .bool r.s, .bool (Pl.stTrace n)]) ?_ rfl ?_
    · rw [results_one rfl]; go_simp
    · rw [E.out]
      exact ⟨rfl, HR.out.kept (kept_new (kept_alloc _ _) _) (by omega), (kept_new (kept_alloc _ _) _).any⟩
  · have q1 : (Pl.stSuper n == r.s) = false := by simpa using hs
    have E : Hid (Pl.withR r n = { r with ys := r.ys.set 3 r.o, o := el r.ys 3, s := Pl.stSuper n, t := Pl.stTrace n, m := n / 32 % 8, f := n % 32 }) := hide (by unfold Pl.withR; rw [if_neg hs])
    have h4 := hg.a4
    have hl : (3 : Int) < (r.ys.length : Int) := by omega
    have HL := hide h4
    clear h4
    obtain ⟨s1, s2, s3⟩ := hr
    rcases s2 with ⟨_, e⟩ | ⟨g, rfl, b0, b1, hown⟩
    · rw [e] at hl; simp at hl
    · have b9 : g < w.heap.size := by omega
      have HO := hide hown
      have HX := hide s1
      have HN := hide s3
      have c3 : w.cell? ⟨g, 3, none⟩ = some (.int .i64 (el r.ys 3)) := (hown 3 (by have := HL.out; omega)).1
      have f3 := (hown 3 (by have := HL.out; omega)).2
      clear hown s1 s3 hs
      go_enter Tryz.func84, Tryz.ntmps84
      go_wp2_with fail
      refine bodyPost_ret (v := .agg #[.slice a r.xs.length ca, .slice (some ⟨g, 0, none⟩) r.ys.length cb, .int .i64 (el r.ys 3), .int .i64 r.p, .int .i64 (n % 32), .int .i64 (n / 32 % 8), .bool (Pl.stSuper n), .bool (Pl.stTrace n)]) ?_ rfl ?_
      · rw [results_one rfl]; go_simp
      · rw [E.out]
        refine ⟨?_, (HR.out.setY (k := 3) r.o (by have := HL.out; omega)).kept (kept_new (kept_alloc _ _) _) (by omega), (kept_set (Kept.refl _ _ _) _ _ _ (.inl ⟨b0, b1⟩)).trans (kept_new (kept_alloc _ _) _).any⟩
        simp

end Go.Proofs.YtblddehlkaolbaaGreatDoor

namespace Go.Proofs.YtblddehlkaolbaaGreatDoor
open Go.RowKit
set_option linter.unusedVariables false

theorem andNat (x : Nat) : x &&& 65280 = x / 256 % 256 * 256 := by
  apply Nat.eq_of_testBit_eq
  intro i
  rw [Nat.testBit_and, show (65280 : Nat) = (2 ^ 8 - 1) * 2 ^ 8 from by decide, Nat.testBit_mul_two_pow, Nat.testBit_two_pow_sub_one, show x / 256 % 256 * 256 = x / 2 ^ 8 % 2 ^ 8 * 2 ^ 8 from rfl, Nat.testBit_mul_two_pow, Nat.testBit_mod_two_pow, Nat.testBit_div_two_pow]
  by_cases h : 8 ≤ i
  · have e : i - 8 + 8 = i := by omega
    simp [h, e, Bool.and_comm]
  · simp [h]
theorem and65280 (a : Int) : bits .and .i64 a 65280 = a / 256 % 256 * 256 := by
  show IntKind.i64.wrap ((BitVec.ofInt 64 a &&& BitVec.ofInt 64 65280).toNat : Int) = _
  rw [BitVec.toNat_and, BitVec.toNat_ofInt, show (BitVec.ofInt 64 65280).toNat = 65280 from by decide, andNat, IntKind.wrap_i64]
  omega
theorem putBits {x v : Int} (h0 : 0 ≤ x) (h1 : x ≤ 65535) (v0 : 0 ≤ v) (v1 : v ≤ 255) : bits .or .i64 (bits .and .i64 x 65280) v = x / 256 * 256 + v := by
  rw [and65280, show x / 256 % 256 = x / 256 from by omega]
  exact bits_join .i64 62 (by decide) Pl.wraps_i64 8 (x / 256 * 256) v (by omega) (by omega) (by omega) (by omega) (by omega) (by omega)

set_option maxHeartbeats 4000000 in
theorem specPut (w : World) (lo hi : Nat) (r : Pl.Rg) (a b : Option Addr) (ca cb : Nat) (z k v : Int) (hr : RegAt w lo hi r a b) (hh : hi ≤ w.heap.size) (hg : Pl.Good r) (hz : z = 1 ∨ z = 2) (k0 : 0 ≤ k) (k1 : k ≤ 3) (hv : Pl.okv z v = true) :
    Calls Tryz.prog 79 #[.agg #[.slice a r.xs.length ca, .slice b r.ys.length cb, .int .i64 r.o, .int .i64 r.p, .int .i64 r.f, .int .i64 r.m, .bool r.s, .bool r.t], .int .i64 z, .int .i64 k, .int .i64 v] w fun e w' => e = .returned (.agg #[.slice a (Pl.putR r z k v).xs.length ca, .slice b (Pl.putR r z k v).ys.length cb, .int .i64 (Pl.putR r z k v).o, .int .i64 (Pl.putR r z k v).p, .int .i64 (Pl.putR r z k v).f, .int .i64 (Pl.putR r z k v).m, .bool (Pl.putR r z k v).s, .bool (Pl.putR r z k v).t]) ∧ RegAt w' lo hi (Pl.putR r z k v) a b ∧ Kept lo hi w w' := by
  obtain ⟨kn, rfl⟩ : ∃ kn : Nat, k = (kn : Int) := ⟨k.toNat, by omega⟩
  have HR := hide hr
  have h4 := hg.d4
  have hl : (kn : Int) < (r.xs.length : Int) := by omega
  have HL := hide h4
  obtain ⟨x0, x1⟩ := hg.dw kn (by omega)
  clear h4
  obtain ⟨s1, s2, s3⟩ := hr
  rcases s1 with ⟨_, e⟩ | ⟨g, rfl, b0, b1, hown⟩
  · rw [e] at hl; simp at hl; omega
  · have c3 : w.cell? ⟨g, kn, none⟩ = some (.int .i64 (el r.xs kn)) := (hown kn (by omega)).1
    have f3 := (hown kn (by omega)).2
    have b9 : g < w.heap.size := by omega
    clear hown s2 s3
    rcases hz with rfl | rfl
    · obtain ⟨v0, v1⟩ : 0 ≤ v ∧ v ≤ 255 := by simp [Pl.okv, Pl.top] at hv; omega
      have hb := putBits x0 x1 v0 v1
      have E : Hid (Pl.putR r 1 (kn : Int) v = { r with xs := r.xs.set kn (el r.xs kn / 256 * 256 + v) }) := hide (by simp [Pl.putR])
      go_enter Tryz.func79, Tryz.ntmps79
      go_upto_region 2 with fail
      obtain ⟨X, hX⟩ : ∃ X : World, X = (w.alloc (.cells #[.slice (some ⟨g, 0, none⟩) r.xs.length ca, .slice b r.ys.length cb, .int .i64 r.o, .int .i64 r.p, .int .i64 r.f, .int .i64 r.m, .bool r.s, .bool r.t] 31)).alloc (.cells #[.slice none 0 0, .slice none 0 0, .int .i64 0, .int .i64 0, .int .i64 0, .int .i64 0, .bool false, .bool false] 31) := ⟨_, rfl⟩
      have KX : Hid (Kept 0 0 w X) := hide (by rw [hX]; exact kept_new (kept_alloc _ _) _)
      have B0 : Hid (Blk X w.heap.size #[.slice (some ⟨g, 0, none⟩) r.xs.length ca, .slice b r.ys.length cb, .int .i64 r.o, .int .i64 r.p, .int .i64 r.f, .int .i64 r.m, .bool r.s, .bool r.t] 31) := hide (by rw [hX]; exact (Blk.new w _ _).alloc _)
      have R0 : Hid (Blk X (w.heap.size + 1) #[.slice none 0 0, .slice none 0 0, .int .i64 0, .int .i64 0, .int .i64 0, .int .i64 0, .bool false, .bool false] 31) := hide (by rw [hX]; have := Blk.new (w.alloc (.cells #[.slice (some ⟨g, 0, none⟩) r.xs.length ca, .slice b r.ys.length cb, .int .i64 r.o, .int .i64 r.p, .int .i64 r.f, .int .i64 r.m, .bool r.s, .bool r.t] 31)) #[.slice none 0 0, .slice none 0 0, .int .i64 0, .int .i64 0, .int .i64 0, .int .i64 0, .bool false, .bool false] 31; simpa only [World.size_alloc] using this)
      rw [← hX]
      have d3 : X.cell? ⟨g, kn, none⟩ = some (.int .i64 (el r.xs kn)) := by rw [hX]; go_simp
      have g3 : X.frozen? ⟨g, kn, none⟩ = false := by rw [hX]; go_simp
      clear hX c3 f3
      have y0 := B0.out.cell (i := 0) rfl
      go_region
      have A3 := ((HR.out.kept (KX.out) (by omega)).setX (k := kn) (el r.xs kn / 256 * 256 + v) (by have := HL.out; omega)).kept (kept_drew (Kept.refl 0 0 _)) (by omega)
      have K3 : Kept lo hi w (X.setCell ⟨g, kn, none⟩ (.int .i64 (el r.xs kn / 256 * 256 + v))).drew := kept_drew (kept_set KX.out.any _ _ _ (.inl ⟨b0, b1⟩))
      have B1 : Hid (Blk (X.setCell ⟨g, kn, none⟩ (.int .i64 (el r.xs kn / 256 * 256 + v))).drew w.heap.size #[.slice (some ⟨g, 0, none⟩) r.xs.length ca, .slice b r.ys.length cb, .int .i64 r.o, .int .i64 r.p, .int .i64 r.f, .int .i64 r.m, .bool r.s, .bool r.t] 31) := hide (B0.out.other _ _ _ (by omega))
      have R1 : Hid (Blk (X.setCell ⟨g, kn, none⟩ (.int .i64 (el r.xs kn / 256 * 256 + v))).drew (w.heap.size + 1) #[.slice none 0 0, .slice none 0 0, .int .i64 0, .int .i64 0, .int .i64 0, .int .i64 0, .bool false, .bool false] 31) := hide (R0.out.other _ _ _ (by omega))
      have nR := R1.out.lt
      obtain ⟨Y, hY⟩ : ∃ Y : World, Y = (X.setCell ⟨g, kn, none⟩ (.int .i64 (el r.xs kn / 256 * 256 + v))).drew := ⟨_, rfl⟩
      rw [← hY] at A3 K3 B1 R1 nR ⊢
      clear hY d3 g3 y0
      have m0 := B1.out.cell (i := 0) rfl
      have m1 := B1.out.cell (i := 1) rfl
      have m2 := B1.out.cell (i := 2) rfl
      have m3 := B1.out.cell (i := 3) rfl
      have m4 := B1.out.cell (i := 4) rfl
      have m5 := B1.out.cell (i := 5) rfl
      have m6 := B1.out.cell (i := 6) rfl
      have m7 := B1.out.cell (i := 7) rfl
      have n0 := R1.out.cell (i := 0) rfl
      have nf0 := R1.out.frozen 0
      have n1 := R1.out.cell (i := 1) rfl
      have nf1 := R1.out.frozen 1
      have n2 := R1.out.cell (i := 2) rfl
      have nf2 := R1.out.frozen 2
      have n3 := R1.out.cell (i := 3) rfl
      have nf3 := R1.out.frozen 3
      have n4 := R1.out.cell (i := 4) rfl
      have nf4 := R1.out.frozen 4
      have n5 := R1.out.cell (i := 5) rfl
      have nf5 := R1.out.frozen 5
      have n6 := R1.out.cell (i := 6) rfl
      have nf6 := R1.out.frozen 6
      have n7 := R1.out.cell (i := 7) rfl
      have nf7 := R1.out.frozen 7
      go_wp2_with fail
      refine bodyPost_ret (v := .agg #[.slice (some ⟨g, 0, none⟩) r.xs.length ca, .slice b r.ys.length cb, .int .i64 r.o, .int .i64 r.p, .int .i64 r.f, .int .i64 r.m, .bool r.s, .bool r.t]) ?_ rfl ?_
      · rw [results_one rfl]; go_simp
      · rw [E.out]
        refine ⟨?_, ((((((((A3.set _ _ _ (.inl (by omega))).set _ _ _ (.inl (by omega))).set _ _ _ (.inl (by omega))).set _ _ _ (.inl (by omega))).set _ _ _ (.inl (by omega))).set _ _ _ (.inl (by omega))).set _ _ _ (.inl (by omega))).set _ _ _ (.inl (by omega))), (kept_set (kept_set (kept_set (kept_set (kept_set (kept_set (kept_set (kept_set K3 _ _ _ (.inr (by omega))) _ _ _ (.inr (by omega))) _ _ _ (.inr (by omega))) _ _ _ (.inr (by omega))) _ _ _ (.inr (by omega))) _ _ _ (.inr (by omega))) _ _ _ (.inr (by omega))) _ _ _ (.inr (by omega)))⟩
        simp
    · have E : Hid (Pl.putR r 2 (kn : Int) v = { r with xs := r.xs.set kn v }) := hide (by simp [Pl.putR])
      go_enter Tryz.func79, Tryz.ntmps79
      go_wp2_with fail
      refine bodyPost_ret (v := .agg #[.slice (some ⟨g, 0, none⟩) r.xs.length ca, .slice b r.ys.length cb, .int .i64 r.o, .int .i64 r.p, .int .i64 r.f, .int .i64 r.m, .bool r.s, .bool r.t]) ?_ rfl ?_
      · rw [results_one rfl]; go_simp
      · rw [E.out]
        refine ⟨?_, (HR.out.setX (k := kn) v (by have := HL.out; omega)).kept (kept_new (kept_alloc _ _) _) (by omega), (kept_set (Kept.refl _ _ _) _ _ _ (.inl ⟨b0, b1⟩)).trans (kept_new (kept_alloc _ _) _).any⟩
        simp

end Go.Proofs.YtblddehlkaolbaaGreatDoor

