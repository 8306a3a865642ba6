/- What the laws' own functions over a bus do (a struct of two lists: bytes, accesses): its size, copy, comparison, marks. Registers in numbers, and what is done to them: plain arithmetic; no Go text is spoken of here. A bus in numbers: its bytes as a list, its log as the row of its accesses' numbers: plain arithmetic; no Go text is spoken of here. What the model's test of bytes answers. What the model's test of a size answers. What the model's test of a value of a size answers, for every argument; none changes the world. What the models of chapter 4 that only look answer, for every argument. What the models of PeekWord and SameMemory answer, for every argument. What an access does to a bus, in numbers: plain arithmetic; no Go text is spoken of here. Instructions in numbers: plain arithmetic; no Go text is spoken of here. Conditions in numbers: plain arithmetic; no Go text is spoken of here. Bits moved one place at a time, so often, and back; how many are 1; the other way round: plain arithmetic; no Go text is spoken of here. Decimal bytes and the numbers that they tell: plain arithmetic; no Go text is spoken of here. A step of a processor in numbers: plain arithmetic; no Go text is spoken of here. -/
import Derived.Test.YtblddehlkaolbaaGreatDoorJA1
namespace Go.Proofs.YtblddehlkaolbaaGreatDoor
open Go.RowKit
set_option linter.unusedVariables false

theorem szAccessS (w : World) (a : Option Addr) (ca n : Nat) (left : Int) (hn : n ≤ 9223372036854775807) (l0 : 0 ≤ left) (l1 : left ≤ 2000000) :
    Calls Tryz.prog 36 #[.slice a n ca, .int .i64 left] w fun e w' => e = .returned (.int .i64 (if left - (n : Int) < 0 then -1 else left - (n : Int))) ∧ w' = w := by
  by_cases h : left - (n : Int) < 0
  all_goals
    go_enter Tryz.func36, Tryz.ntmps36
    go_wp2
    go_ret
    exact ⟨rfl, rfl⟩
theorem szBus (w : World) (a b : Option Addr) (ca cb n m : Nat) (left : Int) (hn : n ≤ 9223372036854775807) (hm : m ≤ 9223372036854775807) (l0 : 0 ≤ left) (l1 : left ≤ 2000000) :
    Calls Tryz.prog 16 #[.agg #[.slice a n ca, .slice b m cb], .int .i64 left] w fun e w' => e = .returned (.int .i64 (szB n m left)) ∧ Kept 0 0 w w' := by
  by_cases h : left - (n : Int) < 0
  · have E : Hid (szB n m left = -1) := hide (by simp [szB, h])
    have e1 : (if left - (n : Int) < 0 then (-1 : Int) else left - (n : Int)) = -1 := by simp [h]
    go_enter Tryz.func16, Tryz.ntmps16
    go_wp2_with fail
    refine (szIntS _ a ca n left hn l0 l1).mono ?_
    rintro e w' ⟨rfl, rfl⟩
    rw [e1]
    go_wp2_with fail
    go_ret
    exact ⟨rI E.out.symm, kept_alloc _ _⟩
  · have e1 : (if left - (n : Int) < 0 then (-1 : Int) else left - (n : Int)) = left - (n : Int) := by simp [h]
    by_cases h2 : left - (n : Int) - (m : Int) < 0
    · have E : Hid (szB n m left = -1) := hide (by simp [szB, h, h2])
      have e2 : (if left - (n : Int) - (m : Int) < 0 then (-1 : Int) else left - (n : Int) - (m : Int)) = -1 := by simp [h2]
      go_enter Tryz.func16, Tryz.ntmps16
      go_wp2_with fail
      refine (szIntS _ a ca n left hn l0 l1).mono ?_
      rintro e w' ⟨rfl, rfl⟩
      rw [e1]
      go_wp2_with fail
      refine (szAccessS _ b cb m (left - (n : Int)) hm (by omega) (by omega)).mono ?_
      rintro e w' ⟨rfl, rfl⟩
      rw [e2]
      go_wp2_with fail
      go_ret
      exact ⟨rI E.out.symm, kept_alloc _ _⟩
    · have E : Hid (szB n m left = left - (n : Int) - (m : Int)) := hide (by simp [szB, h, h2])
      have e2 : (if left - (n : Int) - (m : Int) < 0 then (-1 : Int) else left - (n : Int) - (m : Int)) = left - (n : Int) - (m : Int) := by simp [h2]
      go_enter Tryz.func16, Tryz.ntmps16
      go_wp2_with fail
      refine (szIntS _ a ca n left hn l0 l1).mono ?_
      rintro e w' ⟨rfl, rfl⟩
      rw [e1]
      go_wp2_with fail
      refine (szAccessS _ b cb m (left - (n : Int)) hm (by omega) (by omega)).mono ?_
      rintro e w' ⟨rfl, rfl⟩
      rw [e2]
      go_wp2_with fail
      go_ret
      exact ⟨rI E.out.symm, kept_alloc _ _⟩
theorem toBus (w : World) (a b : Option Addr) (ca cb m : Nat) (xs ys : List Int) (ha : IRow w a xs) (hb : IRow w b ys) (lx : xs.length ≤ 2000000) (ly : ys.length = 5 * m) (bm : m ≤ 2000000) :
    Calls Tryz.prog 20 #[.agg #[.slice a xs.length ca, .slice b m cb]] w fun e w' => ∃ g1 g2 : Nat, e = .returned (.agg #[.slice (some ⟨g1, 0, none⟩) xs.length xs.length, .slice (some ⟨g2, 0, none⟩) m m]) ∧ Own w' g1 xs ∧ Own w' g2 ys ∧ w.heap.size ≤ g1 ∧ g1 < g2 ∧ g2 < w'.heap.size ∧ Kept 0 0 w w' := by
  have HY := hide ly
  have HA := hide ha
  have HB := hide hb
  clear ly ha hb
  go_enter Tryz.func20, Tryz.ntmps20
  go_wp2_with fail
  have k0 : Kept 0 0 w (((w.alloc (.cells #[.slice a xs.length ca, .slice b m cb] 27)).alloc (.cells #[.slice none 0 0, .slice none 0 0] 34)).alloc (.cells #[.slice none 0 0, .slice none 0 0] 34)) := kept_new (kept_new (kept_alloc _ _) _) _
  refine (toIntS _ a ca xs (HA.out.keptS k0) lx).mono ?_
  rintro e w1 ⟨rfl, o1, z1, g1⟩
  have k1 := kept_grown g1
  have B0 := ((((Blk.new w #[.slice a xs.length ca, .slice b m cb] 27).alloc (.cells #[.slice none 0 0, .slice none 0 0] 34)).alloc (.cells #[.slice none 0 0, .slice none 0 0] 34)).kept0 k1)
  have B1 := (((Blk.new (w.alloc (.cells #[.slice a xs.length ca, .slice b m cb] 27)) #[.slice none 0 0, .slice none 0 0] 34).alloc (.cells #[.slice none 0 0, .slice none 0 0] 34)).kept0 k1)
  have B2 := ((Blk.new ((w.alloc (.cells #[.slice a xs.length ca, .slice b m cb] 27)).alloc (.cells #[.slice none 0 0, .slice none 0 0] 34)) #[.slice none 0 0, .slice none 0 0] 34).kept0 k1)
  simp only [World.size_alloc] at B1 B2 z1 o1 ⊢
  have c1 := B0.cell (i := 1) rfl
  have d0 := B2.cell (i := 0) rfl
  have d1 := B2.cell (i := 1) rfl
  have f0 := B2.frozen 0
  have f1 := B2.frozen 1
  have HK1 := hide (k0.trans k1)
  have HO1 := hide o1
  have HZ1 := hide z1
  have HB1 := hide B1
  have HB2 := hide B2
  clear k0 k1 g1 o1 z1 B0 B1 B2
  go_wp2_with fail
  obtain ⟨X, hX⟩ : ∃ X : World, X = w1.setCell ⟨w.heap.size + 1 + 1, 0, none⟩ (.slice (some ⟨w.heap.size + 1 + 1 + 1, 0, none⟩) xs.length xs.length) := ⟨_, rfl⟩
  rw [← hX]
  have HKX : Hid (Kept 0 0 w X) := hide (by rw [hX]; exact kept_set HK1.out _ _ _ (.inr (by omega)))
  have HOX : Hid (Own X (w.heap.size + 1 + 1 + 1) xs) := hide (by rw [hX]; exact HO1.out.setOther _ _ _ (by omega))
  have HBX1 : Hid (Blk X (w.heap.size + 1) #[.slice none 0 0, .slice none 0 0] 34) := hide (by rw [hX]; exact HB1.out.other _ _ _ (by omega))
  have HBX2 : Hid (Blk X (w.heap.size + 1 + 1) #[.slice (some ⟨w.heap.size + 1 + 1 + 1, 0, none⟩) xs.length xs.length, .slice none 0 0] 34) := hide (by rw [hX]; exact HB2.out.set _ _)
  have HZX : Hid (w.heap.size + 1 + 1 + 1 < X.heap.size) := hide (by rw [hX]; simpa using HZ1.out)
  clear hX c1 d0 d1 f0 f1 HB1 HB2 HO1 HK1 HZ1
  refine (toAccessS _ b cb m ys (HB.out.keptS HKX.out) HY.out bm).mono ?_
  rintro e w2 ⟨rfl, o2, z2, g2⟩
  have k2 := kept_grown g2
  have HK2 := hide (HKX.out.trans k2)
  have HO1 := hide (HOX.out.keptS k2 (by omega))
  have HO2 := hide o2
  have HZ2 := hide z2
  have B1 := HBX1.out.kept0 k2
  have B2 := HBX2.out.kept0 k2
  have HB1 := hide B1
  have HB2 := hide B2
  have d0 := B2.cell (i := 0) rfl
  have d1 := B2.cell (i := 1) rfl
  have f0 := B2.frozen 0
  have f1 := B2.frozen 1
  have e0 := B1.cell (i := 0) rfl
  have e1 := B1.cell (i := 1) rfl
  have h0 := B1.frozen 0
  have h1 := B1.frozen 1
  clear g2 k2 o2 z2 B1 B2
  go_wp2_with fail
  refine bodyPost_ret (v := .agg #[.slice (some ⟨w.heap.size + 1 + 1 + 1, 0, none⟩) xs.length xs.length, .slice (some ⟨X.heap.size, 0, none⟩) m m]) ?_ rfl ⟨w.heap.size + 1 + 1 + 1, X.heap.size, rfl, ?_, ?_, by omega, HZX.out, ?_, ?_⟩
  · exact results_cell_row rfl _ _ _ _ _ (0, 0) _ rfl ((((HB1.out.other _ _ _ (by omega)).set _ _).set _ _)) Tryz.underlying34 rfl (by kernel_rfl)
  · exact ((HO1.out.setOther _ _ _ (by omega)).setOther _ _ _ (by omega)).setOther _ _ _ (by omega)
  · have := HZX.out
    exact ((HO2.out.setOther _ _ _ (by omega)).setOther _ _ _ (by omega)).setOther _ _ _ (by omega)
  · simpa using HZ2.out
  · exact kept_set (kept_set (kept_set HK2.out _ _ _ (.inr (by omega))) _ _ _ (.inr (by omega))) _ _ _ (.inr (by omega))
theorem eqBus (w : World) (a b c d : Option Addr) (ca cb cc cd m n : Nat) (xs ys us vs : List Int) (ha : IRow w a xs) (hb : IRow w b ys) (hc : IRow w c us) (hd : IRow w d vs) (lx : xs.length ≤ 2000000) (lu : us.length ≤ 2000000) (ly : ys.length = 5 * m) (lv : vs.length = 5 * n) (bm : m ≤ 2000000) (bn : n ≤ 2000000) :
    Calls Tryz.prog 26 #[.agg #[.slice a xs.length ca, .slice b m cb], .agg #[.slice c us.length cc, .slice d n cd]] w fun e w' => e = .returned (.bool (decide (xs = us) && decide (ys = vs))) ∧ Kept 0 0 w w' := by
  have HY := hide ly
  have HV := hide lv
  clear ly lv
  have k0 : Kept 0 0 w ((w.alloc (.cells #[.slice a xs.length ca, .slice b m cb] 34)).alloc (.cells #[.slice c us.length cc, .slice d n cd] 34)) := kept_new (kept_alloc _ _) _
  have HK0 := hide k0
  have HA := hide ha
  have HB := hide hb
  have HC := hide hc
  have HD := hide hd
  clear k0 ha hb hc hd
  cases h1 : decide (xs = us)
  · go_enter Tryz.func26, Tryz.ntmps26
    go_wp2_with fail
    refine (eqIntS _ a c ca cc xs us (HA.out.keptS HK0.out) (HC.out.keptS HK0.out) lx lu).mono ?_
    rintro e w1 ⟨rfl, g1⟩
    rw [h1]
    have HK1 := hide (HK0.out.trans (kept_grown g1))
    clear g1
    go_wp2_with fail
    go_ret
    exact ⟨rfl, HK1.out⟩
  · go_enter Tryz.func26, Tryz.ntmps26
    go_wp2_with fail
    refine (eqIntS _ a c ca cc xs us (HA.out.keptS HK0.out) (HC.out.keptS HK0.out) lx lu).mono ?_
    rintro e w1 ⟨rfl, g1⟩
    rw [h1]
    have k1 := kept_grown g1
    have B0 := ((Blk.new w #[.slice a xs.length ca, .slice b m cb] 34).alloc (.cells #[.slice c us.length cc, .slice d n cd] 34)).kept0 k1
    have B1 := (Blk.new (w.alloc (.cells #[.slice a xs.length ca, .slice b m cb] 34)) #[.slice c us.length cc, .slice d n cd] 34).kept0 k1
    simp only [World.size_alloc] at B1
    have c1 := B0.cell (i := 1) rfl
    have d1 := B1.cell (i := 1) rfl
    have HK1 := hide (HK0.out.trans k1)
    clear g1 k1 B0 B1
    go_wp2_with fail
    refine (eqAccessS _ b d cb cd m n ys vs (HB.out.keptS HK1.out) (HD.out.keptS HK1.out) HY.out HV.out bm bn).mono ?_
    rintro e w2 ⟨rfl, g2⟩
    have HK2 := hide (HK1.out.trans (kept_grown g2))
    clear g2
    cases h2 : decide (ys = vs)
    all_goals
      go_wp2_with fail
      go_ret
      exact ⟨rB (by rw [h2]; rfl), HK2.out⟩

theorem heldBus (w : World) (a b : Option Addr) (ca cb n m : Nat) (q : Int) (ha : IRow w a (marks q n)) (hb : IRow w b (marks (q + (n : Int)) (5 * m))) (lx : n ≤ 2000000) (bm : m ≤ 2000000) (q0 : 0 ≤ q) (q1 : q ≤ 1000000) :
    Calls Tryz.prog 30 #[.agg #[.slice a n ca, .slice b m cb], .int .i64 q] w fun e w' => e = .returned (.int .i64 (q + (n : Int) + 5 * (m : Int))) ∧ Kept 0 0 w w' := by
  have k0 := kept_alloc w (.cells #[.slice a n ca, .slice b m cb] 34)
  have HK0 := hide k0
  have HA := hide ha
  have HB := hide hb
  clear k0 ha hb
  go_enter Tryz.func30, Tryz.ntmps30
  go_wp2_with fail
  refine (heldIntS _ a ca n q (HA.out.keptS HK0.out) lx q0 (by omega)).mono ?_
  rintro e w1 ⟨rfl, g1⟩
  have k1 := kept_grown g1
  have B0 := (Blk.new w #[.slice a n ca, .slice b m cb] 34).kept0 k1
  have c1 := B0.cell (i := 1) rfl
  have HK1 := hide (HK0.out.trans k1)
  clear g1 k1 B0
  go_wp2_with fail
  refine (heldAccessS _ b cb m (q + (n : Int)) (HB.out.keptS HK1.out) bm (by omega) (by omega)).mono ?_
  rintro e w2 ⟨rfl, g2⟩
  have HK2 := hide (HK1.out.trans (kept_grown g2))
  clear g2
  go_wp2_with fail
  go_ret
  exact ⟨rfl, HK2.out⟩
end Go.Proofs.YtblddehlkaolbaaGreatDoor

namespace Go.Proofs.YtblddehlkaolbaaGreatDoor.Pl
set_option linter.unusedVariables false

structure Rg where
  xs : List Int
  ys : List Int
  o : Int
  p : Int
  f : Int
  m : Int
  s : Bool
  t : Bool
def rgNo : Rg := ⟨[], [], 0, 0, 0, 0, false, false⟩
def within (n lo hi : Int) : Bool := decide (lo ≤ n) && decide (n ≤ hi)
def wordOk (n : Int) : Bool := within n 0 65535
def fourOk (xs : List Int) : Bool := xs.all wordOk && decide ((xs.length : Int) = 4)
def rgOk (r : Rg) : Bool := fourOk r.xs && (fourOk r.ys && (wordOk r.o && (wordOk r.p && (within r.f 0 31 && within r.m 0 7))))
def extM (m : Int) : Bool := decide (5 ≤ m)
def modeOk (m : Int) : Bool := within m 0 7
def opOk (m r e : Int) : Bool := modeOk m && (within r 0 3 && ((decide (m < 6) || (r == 0)) && (wordOk e && (extM m || (e == 0)))))
def fl1 (b : Bool) (n : Int) : Int := if b then n else 0
def status (r : Rg) : Int := r.f + 32 * r.m + fl1 r.s 256 + fl1 r.t 512
def stSuper (n : Int) : Bool := decide (n / 256 % 2 = 1)
def stTrace (n : Int) : Bool := decide (n / 512 % 2 = 1)
def withR (r : Rg) (n : Int) : Rg :=
  if stSuper n = r.s then { r with s := stSuper n, t := stTrace n, m := n / 32 % 8, f := n % 32 }
  else { r with ys := r.ys.set 3 r.o, o := el r.ys 3, s := stSuper n, t := stTrace n, m := n / 32 % 8, f := n % 32 }
def putR (r : Rg) (z k v : Int) : Rg := { r with xs := r.xs.set k.toNat (if z = 1 then el r.xs k.toNat / 256 * 256 + v else v) }
def byN (z k : Int) : Int := if z = 1 ∧ k ≠ 3 then 1 else 2
def placeV (r : Rg) (z m k e : Int) : Int := if m = 4 then (el r.ys k.toNat - byN z k) % 65536 else if m = 5 then (el r.ys k.toNat + e) % 65536 else if m = 6 then e else el r.ys k.toNat
def placeR (r : Rg) (z m k e : Int) : Rg := if m = 3 then { r with ys := r.ys.set k.toNat ((el r.ys k.toNat + byN z k) % 65536) } else if m = 4 then { r with ys := r.ys.set k.toNat ((el r.ys k.toNat - byN z k) % 65536) } else r
/-- what holds of good registers -/
structure Good (r : Rg) : Prop where
  d4 : r.xs.length = 4
  a4 : r.ys.length = 4
  dw : ∀ i, i < 4 → 0 ≤ el r.xs i ∧ el r.xs i ≤ 65535
  aw : ∀ i, i < 4 → 0 ≤ el r.ys i ∧ el r.ys i ≤ 65535
  o0 : 0 ≤ r.o
  o1 : r.o ≤ 65535
  f0 : 0 ≤ r.f
  f1 : r.f ≤ 31
  m0 : 0 ≤ r.m
  m1 : r.m ≤ 7
theorem four_of {xs : List Int} (h : fourOk xs = true) : xs.length = 4 ∧ ∀ i, i < 4 → 0 ≤ el xs i ∧ el xs i ≤ 65535 := by
  simp only [fourOk, Bool.and_eq_true, decide_eq_true_eq] at h
  obtain ⟨h1, h2⟩ := h
  refine ⟨by omega, fun i hi => ?_⟩
  have hl : i < xs.length := by omega
  have := List.all_eq_true.1 h1 (xs[i]'hl) (List.getElem_mem hl)
  simp only [wordOk, within, Bool.and_eq_true, decide_eq_true_eq] at this
  simpa [el, List.getElem?_eq_getElem hl] using this
theorem good_of {r : Rg} (h : rgOk r = true) : Good r := by
  simp only [rgOk, Bool.and_eq_true, wordOk, within, decide_eq_true_eq] at h
  obtain ⟨h1, h2, ⟨h3, h4⟩, _, ⟨h5, h6⟩, h7, h8⟩ := h
  obtain ⟨a1, a2⟩ := four_of h1
  obtain ⟨b1, b2⟩ := four_of h2
  exact ⟨a1, b1, a2, b2, h3, h4, h5, h6, h7, h8⟩
theorem all_no {xs : List Int} {i : Nat} (hi : i < xs.length) (h : wordOk (el xs i) = false) : fourOk xs = false := by
  cases e : fourOk xs
  · rfl
  · simp only [fourOk, Bool.and_eq_true] at e
    have := List.all_eq_true.1 e.1 (xs[i]'hi) (List.getElem_mem hi)
    simp [el, List.getElem?_eq_getElem hi] at h
    rw [h] at this; cases this
theorem all_of {xs : List Int} (h : ∀ i, i < xs.length → wordOk (el xs i) = true) : fourOk xs = decide ((xs.length : Int) = 4) := by
  have : xs.all wordOk = true := by
    rw [List.all_eq_true]
    intro x hx
    obtain ⟨i, hi, rfl⟩ := List.getElem_of_mem hx
    have := h i hi
    simpa [el, List.getElem?_eq_getElem hi] using this
  unfold fourOk
  rw [this, Bool.true_and]
end Go.Proofs.YtblddehlkaolbaaGreatDoor.Pl

namespace Go.Proofs.YtblddehlkaolbaaGreatDoor.Pl
set_option linter.unusedVariables false

def kind (a : Int) : Int := if 512 ≤ a ∨ (448 ≤ a ∧ a ≤ 495) then 1 else if 384 ≤ a ∧ a ≤ 447 then 3 else 0
def addr (a : Int) : Bool := decide (0 ≤ a) && decide (a ≤ 65535)
def byteOk (v : Int) : Bool := decide (0 ≤ v) && decide (v ≤ 255)
def bytesOk (xs : List Int) : Bool := xs.all byteOk
def accKind (k : Int) : Bool := decide (1 ≤ k) && decide (k ≤ 3)
def accOk (k s a v c : Int) : Bool := accKind k && (okv s v && (addr a && ((decide (0 ≤ c) && decide (c ≤ 3)) && (k != 3 || c != 0))))
def accAt (ys : List Int) (i : Nat) : Bool := accOk (el ys (i * 5)) (el ys (i * 5 + 1)) (el ys (i * 5 + 2)) (el ys (i * 5 + 3)) (el ys (i * 5 + 4))
def accsOk (ys : List Int) (m : Nat) : Bool := (List.range m).all (accAt ys)
def goodBus (xs ys : List Int) (m : Nat) : Bool := accsOk ys m && (decide (xs.length = 512) && (bytesOk xs && decide (m ≤ 400)))
/-- what an access is told -/
def code (k s a : Int) : Int :=
  if s = 2 ∧ a % 2 = 1 then 2 else if kind a = 1 ∨ kind (a + s - 1) = 1 then 1 else if k = 2 ∧ (kind a = 3 ∨ kind (a + s - 1) = 3) then 3 else 0

theorem bytesOk_at {xs : List Int} (h : bytesOk xs = true) (i : Nat) (hi : i < xs.length) : 0 ≤ el xs i ∧ el xs i ≤ 255 := by
  have := List.all_eq_true.1 h (xs[i]) (List.getElem_mem hi)
  simp [byteOk] at this
  simpa [el, hi] using this
theorem bytesOk_no {xs : List Int} {i : Nat} (hi : i < xs.length) (h : byteOk (el xs i) = false) : bytesOk xs = false := by
  cases e : bytesOk xs
  · rfl
  · have := bytesOk_at e i hi
    simp [byteOk] at h
    omega
theorem bytesOk_of {xs : List Int} (h : ∀ i, i < xs.length → byteOk (el xs i) = true) : bytesOk xs = true := by
  unfold bytesOk
  rw [List.all_eq_true]
  intro x hx
  obtain ⟨i, hi, rfl⟩ := List.getElem_of_mem hx
  simpa [el, hi] using h i hi
theorem accsOk_no {ys : List Int} {m i : Nat} (hi : i < m) (h : accAt ys i = false) : accsOk ys m = false := by
  cases e : accsOk ys m
  · rfl
  · have := List.all_eq_true.1 e i (List.mem_range.2 hi)
    rw [h] at this; cases this
theorem accsOk_of {ys : List Int} {m : Nat} (h : ∀ i, i < m → accAt ys i = true) : accsOk ys m = true := by
  unfold accsOk
  rw [List.all_eq_true]
  intro i hi
  exact h i (List.mem_range.1 hi)
end Go.Proofs.YtblddehlkaolbaaGreatDoor.Pl

namespace Go.Proofs.YtblddehlkaolbaaGreatDoor
open Go.RowKit
set_option linter.unusedVariables false

theorem l4Bytes (w : World) (a : Option Addr) (ca : Nat) (xs : List Int) (ha : IRow w a xs) (lx : xs.length ≤ 2000000) :
    Calls Tryz.prog 67 #[.slice a xs.length ca] w fun e w' => e = .returned (.bool (Pl.bytesOk xs)) ∧ w' = w := by
  have HA := hide ha
  clear ha
  go_enter Tryz.func67, Tryz.ntmps67
  go_wp2
  go_loop [4, 7] (fun _ j => ∃ k : Nat, k ≤ xs.length ∧ j = .int .i64 k ∧ ∀ i, i < k → Pl.byteOk (el xs i) = true) (fun _ j => xs.length - (intOf j).toNat)
  case atStart => exact ⟨0, Nat.zero_le _, rfl, fun i hi => absurd hi (Nat.not_lt_zero i)⟩
  case round =>
    obtain ⟨k, hk, rfl, heq⟩ := hrel
    have HE := hide heq
    clear heq
    by_cases hlt : k < xs.length
    · obtain ⟨g1, o1, rfl, hc1⟩ := HA.out k hlt
      rw [show xs[k]?.getD 0 = el xs k from rfl] at hc1
      cases hb : (decide (0 ≤ el xs k) && decide (el xs k ≤ 255))
      · go_wp2_with (go_at_call 31; refine (l1In _ _ _ _).mono ?_; rintro e w' ⟨rfl, rfl⟩; rw [hb])
        go_ret
        exact ⟨rB (Pl.bytesOk_no hlt hb).symm, rfl⟩
      · go_wp2_with (go_at_call 31; refine (l1In _ _ _ _).mono ?_; rintro e w' ⟨rfl, rfl⟩; rw [hb])
        go_round
        case rel => exact ⟨k + 1, by omega, by go_num, snoc_all HE.out hb⟩
        case measure => simp [intOf]; omega
    · go_wp2
      go_ret
      exact ⟨rB (Pl.bytesOk_of (fun i hi => HE.out i (by omega))).symm, rfl⟩
end Go.Proofs.YtblddehlkaolbaaGreatDoor

namespace Go.Proofs.YtblddehlkaolbaaGreatDoor
open Go.RowKit
set_option linter.unusedVariables false

theorem l1Size_no (s : Int) (w : World) (h1 : ¬ s = 1) (h2 : ¬ s = 2) : Calls Tryz.prog 109 #[.int .i64 s] w fun e w' => e = .returned (.bool false) ∧ w' = w := by
  have k1 : (s == 1) = false := by simpa using h1
  have k2 : (s == 2) = false := by simpa using h2
  go_enter Tryz.func109, Tryz.ntmps109
  go_wp2
  go_ret
  exact ⟨rfl, rfl⟩

theorem l1Size1 (w : World) : Calls Tryz.prog 109 #[.int .i64 1] w fun e w' => e = .returned (.bool true) ∧ w' = w := by
  go_enter Tryz.func109, Tryz.ntmps109
  go_wp2
  go_ret
  exact ⟨rfl, rfl⟩

theorem l1Size2 (w : World) : Calls Tryz.prog 109 #[.int .i64 2] w fun e w' => e = .returned (.bool true) ∧ w' = w := by
  go_enter Tryz.func109, Tryz.ntmps109
  go_wp2
  go_ret
  exact ⟨rfl, rfl⟩
theorem specSize (z : Int) (w : World) : Calls Tryz.prog 109 #[.int .i64 z] w fun e w' => e = .returned (.bool (decide (z = 1) || decide (z = 2))) ∧ w' = w := by
  by_cases h1 : z = 1
  · subst h1; exact l1Size1 w
  · by_cases h2 : z = 2
    · subst h2; exact l1Size2 w
    · rw [show (decide (z = 1) || decide (z = 2)) = false from by simp [h1, h2]]; exact l1Size_no z w h1 h2
end Go.Proofs.YtblddehlkaolbaaGreatDoor

namespace Go.Proofs.YtblddehlkaolbaaGreatDoor
open Go.RowKit
set_option linter.unusedVariables false

theorem l1Top1 (w : World) : Calls Tryz.prog 116 #[.int .i64 1] w fun e w' => e = .returned (.int .i64 256) ∧ w' = w := by
  go_enter Tryz.func116, Tryz.ntmps116
  go_wp2
  go_ret
  exact ⟨rfl, rfl⟩

theorem l1Top2 (w : World) : Calls Tryz.prog 116 #[.int .i64 2] w fun e w' => e = .returned (.int .i64 65536) ∧ w' = w := by
  go_enter Tryz.func116, Tryz.ntmps116
  go_wp2
  go_ret
  exact ⟨rfl, rfl⟩

theorem l1Value (s v : Int) (w : World) :
    Calls Tryz.prog 105 #[.int .i64 s, .int .i64 v] w fun e w' => e = .returned (.bool (Pl.okv s v)) ∧ w' = w := by
  by_cases h1 : s = 1
  · subst h1
    go_enter Tryz.func105, Tryz.ntmps105
    go_wp2_with fail
    refine (l1Size1 _).mono ?_
    rintro e w' ⟨rfl, rfl⟩
    go_wp2_with fail
    refine (l1Top1 _).mono ?_
    rintro e w' ⟨rfl, rfl⟩
    go_wp2_with fail
    refine (l1In _ _ _ _).mono ?_
    rintro e w' ⟨rfl, rfl⟩
    go_wp2_with fail
    go_ret
    exact ⟨rB (by rw [Bool.eq_iff_iff]; simp [Pl.okv, Pl.top]; omega), rfl⟩
  · by_cases h2 : s = 2
    · subst h2
      go_enter Tryz.func105, Tryz.ntmps105
      go_wp2_with fail
      refine (l1Size2 _).mono ?_
      rintro e w' ⟨rfl, rfl⟩
      go_wp2_with fail
      refine (l1Top2 _).mono ?_
      rintro e w' ⟨rfl, rfl⟩
      go_wp2_with fail
      refine (l1In _ _ _ _).mono ?_
      rintro e w' ⟨rfl, rfl⟩
      go_wp2_with fail
      go_ret
      exact ⟨rB (by rw [Bool.eq_iff_iff]; simp [Pl.okv, Pl.top]; omega), rfl⟩
    · go_enter Tryz.func105, Tryz.ntmps105
      go_wp2_with fail
      refine (l1Size_no s _ h1 h2).mono ?_
      rintro e w' ⟨rfl, rfl⟩
      go_wp2_with fail
      go_ret
      exact ⟨rB (by simp [Pl.okv, h1, h2]), rfl⟩

end Go.Proofs.YtblddehlkaolbaaGreatDoor

namespace Go.Proofs.YtblddehlkaolbaaGreatDoor
open Go.RowKit
set_option linter.unusedVariables false

theorem l4Addr (a : Int) (w : World) : Calls Tryz.prog 106 #[.int .i64 a] w fun e w' => e = .returned (.bool (Pl.addr a)) ∧ w' = w := by
  go_enter Tryz.func106, Tryz.ntmps106
  go_wp2_with fail
  refine (l1In _ _ _ _).mono ?_
  rintro e w' ⟨rfl, rfl⟩
  go_wp2_with fail
  go_ret
  exact ⟨rfl, rfl⟩
theorem l4Kind (a : Int) (w : World) : Calls Tryz.prog 191 #[.int .i64 a] w fun e w' => e = .returned (.int .i64 (Pl.kind a)) ∧ w' = w := by
  by_cases h1 : 512 ≤ a
  · have E : Hid (Pl.kind a = 1) := hide (by simp [Pl.kind, h1])
    go_enter Tryz.func191, Tryz.ntmps191
    go_wp2
    go_ret
    exact ⟨rI E.out.symm, rfl⟩
  · cases h2 : (decide ((448 : Int) ≤ a) && decide (a ≤ 495))
    · cases h3 : (decide ((384 : Int) ≤ a) && decide (a ≤ 447))
      all_goals
        have E : Hid (Pl.kind a = if (decide ((384 : Int) ≤ a) && decide (a ≤ 447)) then 3 else 0) := hide (by
          simp at h2
          have : ¬ (448 ≤ a ∧ a ≤ 495) := by omega
          simp [Pl.kind, h1, this])
        rw [h3] at E
        go_enter Tryz.func191, Tryz.ntmps191
        go_wp2_with fail
        refine (l1In _ _ _ _).mono ?_
        rintro e w' ⟨rfl, rfl⟩
        rw [h2]
        go_wp2_with fail
        refine (l1In _ _ _ _).mono ?_
        rintro e w' ⟨rfl, rfl⟩
        rw [h3]
        go_wp2_with fail
        go_ret
        exact ⟨rI E.out.symm, rfl⟩
    · have E : Hid (Pl.kind a = 1) := hide (by simp at h2; simp [Pl.kind, h2])
      go_enter Tryz.func191, Tryz.ntmps191
      go_wp2_with fail
      refine (l1In _ _ _ _).mono ?_
      rintro e w' ⟨rfl, rfl⟩
      rw [h2]
      go_wp2_with fail
      go_ret
      exact ⟨rI E.out.symm, rfl⟩
theorem l4Access (k s a v c : Int) (w : World) : Calls Tryz.prog 66 #[.agg #[.int .i64 k, .int .i64 s, .int .i64 a, .int .i64 v, .int .i64 c]] w fun e w' => e = .returned (.bool (Pl.accOk k s a v c)) ∧ ∃ o, w' = w.alloc o := by
  cases h1 : (decide (1 ≤ k) && decide (k ≤ 3))
  · go_enter Tryz.func66, Tryz.ntmps66
    go_wp2_with (first | (go_at_call 31; refine (l1In _ _ _ _).mono ?_; rintro e w' ⟨rfl, rfl⟩; rw [h1]) | (go_at_call 105; refine (l1Value _ _ _).mono ?_; rintro e w' ⟨rfl, rfl⟩) | (go_at_call 106; refine (l4Addr _ _).mono ?_; rintro e w' ⟨rfl, rfl⟩))
    go_ret
    exact ⟨rB (by unfold Pl.accOk Pl.accKind; rw [h1]; simp), _, rfl⟩
  · cases h2 : Pl.okv s v
    · go_enter Tryz.func66, Tryz.ntmps66
      go_wp2_with (first | (go_at_call 31; refine (l1In _ _ _ _).mono ?_; rintro e w' ⟨rfl, rfl⟩; rw [h1]) | (go_at_call 105; refine (l1Value _ _ _).mono ?_; rintro e w' ⟨rfl, rfl⟩; rw [h2]) | (go_at_call 106; refine (l4Addr _ _).mono ?_; rintro e w' ⟨rfl, rfl⟩))
      go_ret
      exact ⟨rB (by unfold Pl.accOk Pl.accKind; rw [h1, h2]; simp), _, rfl⟩
    · cases h3 : Pl.addr a
      · go_enter Tryz.func66, Tryz.ntmps66
        go_wp2_with (first | (go_at_call 31; refine (l1In _ _ _ _).mono ?_; rintro e w' ⟨rfl, rfl⟩; rw [h1]) | (go_at_call 105; refine (l1Value _ _ _).mono ?_; rintro e w' ⟨rfl, rfl⟩; rw [h2]) | (go_at_call 106; refine (l4Addr _ _).mono ?_; rintro e w' ⟨rfl, rfl⟩; rw [h3]))
        go_ret
        exact ⟨rB (by unfold Pl.accOk Pl.accKind; rw [h1, h2, h3]; simp), _, rfl⟩
      · cases h4 : (decide (0 ≤ c) && decide (c ≤ 3))
        · go_enter Tryz.func66, Tryz.ntmps66
          go_wp2_with (first | (go_at_call 31; refine (l1In _ _ _ _).mono ?_; rintro e w' ⟨rfl, rfl⟩; first | rw [h1] | rw [h4]) | (go_at_call 105; refine (l1Value _ _ _).mono ?_; rintro e w' ⟨rfl, rfl⟩; rw [h2]) | (go_at_call 106; refine (l4Addr _ _).mono ?_; rintro e w' ⟨rfl, rfl⟩; rw [h3]))
          go_ret
          exact ⟨rB (by unfold Pl.accOk Pl.accKind; rw [h1, h2, h3, h4]; simp), _, rfl⟩
        · cases h5 : (k != 3)
          · cases h6 : (c != 0)
            all_goals
              go_enter Tryz.func66, Tryz.ntmps66
              go_wp2_with (first | (go_at_call 31; refine (l1In _ _ _ _).mono ?_; rintro e w' ⟨rfl, rfl⟩; first | rw [h1] | rw [h4]) | (go_at_call 105; refine (l1Value _ _ _).mono ?_; rintro e w' ⟨rfl, rfl⟩; rw [h2]) | (go_at_call 106; refine (l4Addr _ _).mono ?_; rintro e w' ⟨rfl, rfl⟩; rw [h3]))
              go_ret
              exact ⟨rB (by unfold Pl.accOk Pl.accKind; rw [h1, h2, h3, h4, h5, h6]; simp), _, rfl⟩
          · go_enter Tryz.func66, Tryz.ntmps66
            go_wp2_with (first | (go_at_call 31; refine (l1In _ _ _ _).mono ?_; rintro e w' ⟨rfl, rfl⟩; first | rw [h1] | rw [h4]) | (go_at_call 105; refine (l1Value _ _ _).mono ?_; rintro e w' ⟨rfl, rfl⟩; rw [h2]) | (go_at_call 106; refine (l4Addr _ _).mono ?_; rintro e w' ⟨rfl, rfl⟩; rw [h3]))
            go_ret
            exact ⟨rB (by unfold Pl.accOk Pl.accKind; rw [h1, h2, h3, h4, h5]; simp), _, rfl⟩

theorem specGoodBus (w : World) (a b : Option Addr) (ca cb m : Nat) (xs ys : List Int) (ha : IRow w a xs) (hb : IRow w b ys) (lx : xs.length ≤ 2000000) (ly : ys.length = 5 * m) (bm : m ≤ 2000000) :
    Calls Tryz.prog 38 #[.agg #[.slice a xs.length ca, .slice b m cb]] w fun e w' => e = .returned (.bool (Pl.goodBus xs ys m)) ∧ Kept 0 0 w w' := by
  have HA := hide ha
  have HB := hide hb
  have HY := hide ly
  clear ha hb ly
  go_enter Tryz.func38, Tryz.ntmps38
  go_wp2
  have HK0 := hide (kept_alloc w (.cells #[.slice a xs.length ca, .slice b m cb] 34))
  have HW := hide (Blk.new w #[.slice a xs.length ca, .slice b m cb] 34)
  obtain ⟨W, hW⟩ : ∃ W : World, W = w.alloc (.cells #[.slice a xs.length ca, .slice b m cb] 34) := ⟨_, rfl⟩
  rw [← hW] at HK0 HW ⊢
  clear hW
  go_loopw [4, 8] (fun _ j wr => ∃ k : Nat, k ≤ m ∧ j = .int .i64 k ∧ (∀ i, i < k → Pl.accAt ys i = true) ∧ Kept 0 0 W wr) (fun _ j _ => m - (intOf j).toNat)
  case atStart => exact ⟨0, Nat.zero_le _, rfl, fun i hi => absurd hi (Nat.not_lt_zero i), Kept.refl _ _ _⟩
  case round =>
    obtain ⟨k, hk, rfl, heq, hkept⟩ := hrel
    have HE := hide heq
    have HK := hide hkept
    clear heq hkept
    by_cases hlt : k < m
    · obtain ⟨g1, o1, rfl, p0, p1, p2, p3, p4⟩ := (HB.out.keptS (HK0.out.trans HK.out)).five HY.out hlt
      cases hb : Pl.accAt ys k
      · have hb2 : Pl.accOk (el ys (k * 5)) (el ys (k * 5 + 1)) (el ys (k * 5 + 2)) (el ys (k * 5 + 3)) (el ys (k * 5 + 4)) = false := hb
        clear hb
        go_wp2_with (go_at_call 66; refine (l4Access _ _ _ _ _ _).mono ?_; rintro e w' ⟨rfl, o, rfl⟩; rw [hb2])
        go_ret
        exact ⟨rB (by unfold Pl.goodBus; rw [Pl.accsOk_no hlt hb2]; rfl), HK0.out.trans (kept_new (kept_new HK.out _) _)⟩
      · have hb2 : Pl.accOk (el ys (k * 5)) (el ys (k * 5 + 1)) (el ys (k * 5 + 2)) (el ys (k * 5 + 3)) (el ys (k * 5 + 4)) = true := hb
        clear hb
        go_wp2_with (go_at_call 66; refine (l4Access _ _ _ _ _ _).mono ?_; rintro e w' ⟨rfl, o, rfl⟩; rw [hb2])
        go_roundw
        case rel => exact ⟨k + 1, by omega, by go_num, snoc_all HE.out hb2, kept_new (kept_new HK.out _) _⟩
        case measure => simp [intOf]; omega
    · have HA1 : Hid (Pl.accsOk ys m = true) := hide (Pl.accsOk_of (fun i hi => HE.out i (by omega)))
      have B := HW.out.kept0 HK.out
      have c0 := B.cell (i := 0) rfl
      have c1 := B.cell (i := 1) rfl
      have HX := hide (HA.out.keptS (HK0.out.trans HK.out))
      clear B
      have G : Hid (Pl.goodBus xs ys m = (((xs.length : Int) == 512) && (Pl.bytesOk xs && decide ((m : Int) ≤ 400)))) := hide (by
        unfold Pl.goodBus
        rw [HA1.out, Bool.true_and]
        congr 1
        · rw [Bool.eq_iff_iff]; simp; omega
        · congr 1; rw [Bool.eq_iff_iff]; simp; omega)
      cases h1 : ((xs.length : Int) == 512)
      · go_wp2_with fail
        go_ret
        exact ⟨rB (by rw [G.out, h1]; rfl), HK0.out.trans HK.out⟩
      · cases h2 : Pl.bytesOk xs
        · go_wp2_with fail
          refine (l4Bytes _ a ca xs HX.out lx).mono ?_
          rintro e w' ⟨rfl, rfl⟩
          rw [h2]
          go_wp2_with fail
          go_ret
          exact ⟨rB (by rw [G.out, h1, h2]; rfl), HK0.out.trans HK.out⟩
        · cases h3 : decide ((m : Int) ≤ 400)
          all_goals
            go_wp2_with fail
            refine (l4Bytes _ a ca xs HX.out lx).mono ?_
            rintro e w' ⟨rfl, rfl⟩
            rw [h2]
            go_wp2_with fail
            go_ret
            exact ⟨rB (by rw [G.out, h1, h2, h3]; rfl), HK0.out.trans HK.out⟩
end Go.Proofs.YtblddehlkaolbaaGreatDoor

namespace Go.Proofs.YtblddehlkaolbaaGreatDoor
open Go.RowKit
set_option linter.unusedVariables false

namespace Pl
theorem goodBus_ok {xs ys : List Int} {m : Nat} (h : goodBus xs ys m = true) : xs.length = 512 ∧ bytesOk xs = true ∧ m ≤ 400 ∧ accsOk ys m = true := by
  simp only [goodBus, Bool.and_eq_true, decide_eq_true_eq] at h
  exact ⟨h.2.1, h.2.2.1, h.2.2.2, h.1⟩
theorem code_low {k s a : Int} (h : code k s a = 0) (a0 : 0 ≤ a) : a ≤ 511 ∧ a + s - 1 ≤ 511 := by
  unfold code at h
  split at h
  · cases h
  · split at h
    · cases h
    · rename_i h1 h2
      have k1 : ¬ kind a = 1 := fun e => h2 (.inl e)
      have k2 : ¬ kind (a + s - 1) = 1 := fun e => h2 (.inr e)
      constructor
      · refine Decidable.byContradiction fun q => k1 ?_
        have : 512 ≤ a := by omega
        simp [kind, this]
      · refine Decidable.byContradiction fun q => k2 ?_
        have : 512 ≤ a + s - 1 := by omega
        simp [kind, this]
theorem word_or {h l : Int} (h0 : 0 ≤ h) (h1 : h ≤ 255) (l0 : 0 ≤ l) (l1 : l ≤ 255) : bits .or .i64 (h * 256) l = h * 256 + l :=
  bits_join .i64 62 (by decide) wraps_i64 8 (h * 256) l (by omega) (by omega) (by omega) (by omega) (by omega) (by omega)
end Pl

set_option maxHeartbeats 1000000 in
theorem l4Code (k s a : Int) (w : World) (s0 : 1 ≤ s) (s1 : s ≤ 2) (a0 : 0 ≤ a) (a1 : a ≤ 65535) :
    Calls Tryz.prog 151 #[.int .i64 k, .int .i64 s, .int .i64 a] w fun e w' => e = .returned (.int .i64 (Pl.code k s a)) ∧ w' = w := by
  have hA := Pl.and1 a
  have G : Hid (Pl.code k s a = if ((s == 2) && (a % 2 == 1)) then 2 else if ((Pl.kind a == 1) || (Pl.kind (a + s - 1) == 1)) then 1 else if ((k == 2) && ((Pl.kind a == 3) || (Pl.kind (a + s - 1) == 3))) then 3 else 0) := hide (by
    unfold Pl.code; simp only [Bool.and_eq_true, Bool.or_eq_true, beq_iff_eq])
  cases h1 : (s == 2)
  · cases h3 : (Pl.kind a == 1)
    · cases h4 : (Pl.kind (a + s - 1) == 1)
      · cases h5 : (k == 2)
        · rw [h1, h3, h4, h5] at G
          go_enter Tryz.func151, Tryz.ntmps151
          go_wp2_with (go_at_call 191; refine (l4Kind _ _).mono ?_; rintro e w' ⟨rfl, rfl⟩)
          go_ret
          exact ⟨rI (by rw [G.out]; simp), rfl⟩
        · cases h6 : (Pl.kind a == 3)
          · cases h7 : (Pl.kind (a + s - 1) == 3)
            · rw [h1, h3, h4, h5, h6, h7] at G
              go_enter Tryz.func151, Tryz.ntmps151
              go_wp2_with (go_at_call 191; refine (l4Kind _ _).mono ?_; rintro e w' ⟨rfl, rfl⟩)
              go_ret
              exact ⟨rI (by rw [G.out]; simp), rfl⟩
            · rw [h1, h3, h4, h5, h6, h7] at G
              go_enter Tryz.func151, Tryz.ntmps151
              go_wp2_with (go_at_call 191; refine (l4Kind _ _).mono ?_; rintro e w' ⟨rfl, rfl⟩)
              go_ret
              exact ⟨rI (by rw [G.out]; simp), rfl⟩
          · rw [h1, h3, h4, h5, h6] at G
            go_enter Tryz.func151, Tryz.ntmps151
            go_wp2_with (go_at_call 191; refine (l4Kind _ _).mono ?_; rintro e w' ⟨rfl, rfl⟩)
            go_ret
            exact ⟨rI (by rw [G.out]; simp), rfl⟩
      · rw [h1, h3, h4] at G
        go_enter Tryz.func151, Tryz.ntmps151
        go_wp2_with (go_at_call 191; refine (l4Kind _ _).mono ?_; rintro e w' ⟨rfl, rfl⟩)
        go_ret
        exact ⟨rI (by rw [G.out]; simp), rfl⟩
    · rw [h1, h3] at G
      go_enter Tryz.func151, Tryz.ntmps151
      go_wp2_with (go_at_call 191; refine (l4Kind _ _).mono ?_; rintro e w' ⟨rfl, rfl⟩)
      go_ret
      exact ⟨rI (by rw [G.out]; simp), rfl⟩
  · cases h2 : (a % 2 == 1)
    · cases h3 : (Pl.kind a == 1)
      · cases h4 : (Pl.kind (a + s - 1) == 1)
        · cases h5 : (k == 2)
          · rw [h1, h2, h3, h4, h5] at G
            go_enter Tryz.func151, Tryz.ntmps151
            go_wp2_with (go_at_call 191; refine (l4Kind _ _).mono ?_; rintro e w' ⟨rfl, rfl⟩)
            go_ret
            exact ⟨rI (by rw [G.out]; simp), rfl⟩
          · cases h6 : (Pl.kind a == 3)
            · cases h7 : (Pl.kind (a + s - 1) == 3)
              · rw [h1, h2, h3, h4, h5, h6, h7] at G
                go_enter Tryz.func151, Tryz.ntmps151
                go_wp2_with (go_at_call 191; refine (l4Kind _ _).mono ?_; rintro e w' ⟨rfl, rfl⟩)
                go_ret
                exact ⟨rI (by rw [G.out]; simp), rfl⟩
              · rw [h1, h2, h3, h4, h5, h6, h7] at G
                go_enter Tryz.func151, Tryz.ntmps151
                go_wp2_with (go_at_call 191; refine (l4Kind _ _).mono ?_; rintro e w' ⟨rfl, rfl⟩)
                go_ret
                exact ⟨rI (by rw [G.out]; simp), rfl⟩
            · rw [h1, h2, h3, h4, h5, h6] at G
              go_enter Tryz.func151, Tryz.ntmps151
              go_wp2_with (go_at_call 191; refine (l4Kind _ _).mono ?_; rintro e w' ⟨rfl, rfl⟩)
              go_ret
              exact ⟨rI (by rw [G.out]; simp), rfl⟩
        · rw [h1, h2, h3, h4] at G
          go_enter Tryz.func151, Tryz.ntmps151
          go_wp2_with (go_at_call 191; refine (l4Kind _ _).mono ?_; rintro e w' ⟨rfl, rfl⟩)
          go_ret
          exact ⟨rI (by rw [G.out]; simp), rfl⟩
      · rw [h1, h2, h3] at G
        go_enter Tryz.func151, Tryz.ntmps151
        go_wp2_with (go_at_call 191; refine (l4Kind _ _).mono ?_; rintro e w' ⟨rfl, rfl⟩)
        go_ret
        exact ⟨rI (by rw [G.out]; simp), rfl⟩
    · rw [h1, h2] at G
      go_enter Tryz.func151, Tryz.ntmps151
      go_wp2_with (go_at_call 191; refine (l4Kind _ _).mono ?_; rintro e w' ⟨rfl, rfl⟩)
      go_ret
      exact ⟨rI (by rw [G.out]; simp), rfl⟩

end Go.Proofs.YtblddehlkaolbaaGreatDoor

namespace Go.Proofs.YtblddehlkaolbaaGreatDoor.Pl
set_option linter.unusedVariables false
/-- what lies there, of a size -/
def rd (xs : List Int) (s : Int) (i : Nat) : Int := if s = 1 then el xs i else el xs i * 256 + el xs (i + 1)
/-- .. behind so many bytes -/
def rdK (xs : List Int) (i k : Nat) : Int := if k = 0 then 0 else if k = 1 then el xs i else el xs i * 256 + el xs (i + 1)

def askOk (k s a v : Int) : Bool := accKind k && (okv s v && (addr a && ((k == 2) || (v == 0))))
/-- the value that the log is told -/
def lv (xs : List Int) (k s a v : Int) : Int := if code k s a = 0 ∧ ¬ k = 2 then rd xs s a.toNat else v
/-- a value laid there, of a size -/
def wr (xs : List Int) (s : Int) (i : Nat) (v : Int) : List Int := if s = 1 then xs.set i v else (xs.set i (v / 256)).set (i + 1) (v % 256)
def nb (xs : List Int) (k s a v : Int) : List Int := if code k s a = 0 ∧ k = 2 then wr xs s a.toNat v else xs
def logs (m : Nat) (k s a : Int) : Bool := decide (m < 400) && ((k != 3) || (code k s a != 0))
def nl (xs ys : List Int) (m : Nat) (k s a v : Int) : List Int := if logs m k s a = true then ys ++ [k, s, a, lv xs k s a v, code k s a] else ys
def nm (m : Nat) (k s a : Int) : Nat := if logs m k s a = true then m + 1 else m
theorem wr_len (xs : List Int) (s : Int) (i : Nat) (v : Int) : (wr xs s i v).length = xs.length := by unfold wr; split <;> simp
theorem nb_len (xs : List Int) (k s a v : Int) : (nb xs k s a v).length = xs.length := by unfold nb; split <;> simp [wr_len]
theorem nl_len {xs ys : List Int} {m : Nat} (k s a v : Int) (h : ys.length = 5 * m) : (nl xs ys m k s a v).length = 5 * nm m k s a := by
  unfold nl nm
  split
  · simp [h]; omega
  · exact h
theorem nm_le {m : Nat} (k s a : Int) (h : m ≤ 400) : nm m k s a ≤ 400 := by
  unfold nm logs
  split
  · rename_i h1; simp at h1; omega
  · exact h
theorem ask_ok {k s a v : Int} (h : askOk k s a v = true) : (1 ≤ k ∧ k ≤ 3) ∧ ((s = 1 ∧ v ≤ 255) ∨ (s = 2 ∧ v ≤ 65535)) ∧ 0 ≤ v ∧ (0 ≤ a ∧ a ≤ 65535) ∧ (k = 2 ∨ v = 0) := by
  simp only [askOk, accKind, addr, Bool.and_eq_true, Bool.or_eq_true, decide_eq_true_eq, beq_iff_eq] at h
  obtain ⟨h1, h2, h3, h4⟩ := h
  have := top_ok h2
  refine ⟨h1, ?_, ?_, h3, h4⟩
  · omega
  · omega
/-- parts begin at even addresses: a word's two bytes lie in one -/
theorem kind_even {a : Int} (h : ¬ a % 2 = 1) : kind (a + 2 - 1) = kind a := by
  unfold kind
  by_cases h1 : 512 ≤ a ∨ (448 ≤ a ∧ a ≤ 495)
  · rw [if_pos h1, if_pos (by omega)]
  · rw [if_neg h1, if_neg (by omega)]
    by_cases h2 : 384 ≤ a ∧ a ≤ 447
    · rw [if_pos h2, if_pos (by omega)]
    · rw [if_neg h2, if_neg (by omega)]
theorem code_part {k s a : Int} (hs : s = 1 ∨ s = 2) : code k s a = if s = 2 ∧ a % 2 = 1 then 2 else if kind a = 3 ∧ ¬ k = 2 then 0 else kind a := by
  have kv : kind a = 0 ∨ kind a = 1 ∨ kind a = 3 := by
    unfold kind
    split
    · exact .inr (.inl rfl)
    · split
      · exact .inr (.inr rfl)
      · exact .inl rfl
  unfold code
  by_cases h : s = 2 ∧ a % 2 = 1
  · rw [if_pos h, if_pos h]
  · rw [if_neg h, if_neg h]
    have e : kind (a + s - 1) = kind a := by
      rcases hs with rfl | rfl
      · rw [show a + 1 - 1 = a by omega]
      · exact kind_even (fun q => h ⟨rfl, q⟩)
    rw [e]
    rcases kv with q | q | q <;> rw [q] <;> by_cases hk : k = 2 <;> simp [hk]
end Go.Proofs.YtblddehlkaolbaaGreatDoor.Pl

namespace Go.Proofs.YtblddehlkaolbaaGreatDoor.Pl
set_option linter.unusedVariables false
structure In where
  op : Int
  z : Int
  r : Int
  m : Int
  k : Int
  e : Int
  s : Int
def inNo : In := ⟨0, 0, 0, 0, 0, 0, 0⟩
def memM (m : Int) : Bool := within m 2 6
def plainM (m : Int) : Bool := (m == 2) || ((m == 5) || (m == 6))
def zeroO (m k e : Int) : Bool := (m == 0) && ((k == 0) && (e == 0))
def nowO (m e : Int) : Bool := (m == 7) && decide (e ≤ 1023)
def byteNow (x : In) : Bool := ((x.m == 7) && (x.z == 1)) && decide (255 < x.e)
def inBase (x : In) : Bool := (decide (x.z = 1) || decide (x.z = 2)) && (within x.r 0 3 && (opOk x.m x.k x.e && (within x.s 0 7 && !byteNow x)))
def inKind (x : In) : Bool :=
  bif (x.op == 1) || ((x.op == 3) || ((x.op == 4) || ((x.op == 5) || ((x.op == 6) || ((x.op == 7) || (x.op == 8)))))) then (x.s == 0) && ((x.z == 2) || !(x.m == 1))
  else bif x.op == 2 then (x.s == 0) && ((x.m == 0) || memM x.m)
  else bif x.op == 9 then (x.z == 2) && (x.s == 0)
  else bif x.op == 10 then ((x.z == 2) && (x.s == 0)) && plainM x.m
  else bif x.op == 11 then ((x.r == 0) && decide (x.s ≤ 3)) && ((x.m == 0) || memM x.m)
  else bif x.op == 12 then (x.m == 0)
  else bif x.op == 13 then ((x.z == 2) && decide (x.r ≤ 1)) && (x.m == 7)
  else bif x.op == 14 then (((x.z == 2) && (x.r == 0)) && decide (x.s ≤ 1)) && plainM x.m
  else bif (x.op == 16) || (x.op == 17) then ((x.z == 2) && (x.s == 0)) && !(x.m == 1)
  else bif x.op == 18 then ((!(x.z == 2)) && decide (x.s ≤ 1)) && (x.m == 0)
  else bif x.op == 19 then (x.z == 2) && ((((x.s == 0) && (x.r == 0)) && nowO x.m x.e) || ((x.s == 1) && zeroO x.m x.k x.e))
  else bif x.op == 15 then (bif x.s == 3 then ((x.z == 2) && (x.r == 0)) && nowO x.m x.e else (((x.z == 2) && decide (x.s ≤ 6)) && zeroO x.m x.k x.e) && (decide (3 < x.s) || (x.r == 0)))
  else false
def inOk (x : In) : Bool := inBase x && inKind x
/-- the first word of an instruction -/
def word1 (x : In) : Int := x.op * 2048 + (x.z - 1) * 1024 + x.r * 256 + x.m * 32 + x.k * 8 + x.s
def longW (w : Int) : Int := if extM (w / 32 % 8) = true then 2 else 1
def decode (w v : Int) : In := ⟨w / 2048, w / 1024 % 2 + 1, w / 256 % 4, w / 32 % 8, w / 8 % 4, if longW w = 2 then v else 0, w % 8⟩
def priv (x : In) : Bool := ((x.op == 15) && ((x.s == 1) || (x.s == 3))) || ((x.op == 19) && (x.s == 0))
theorem modeR {x : In} (h : inOk x = true) : 1 ≤ x.op ∧ x.op ≤ 19 ∧ (x.z = 1 ∨ x.z = 2) ∧ 0 ≤ x.r ∧ x.r ≤ 3 ∧ 0 ≤ x.m ∧ x.m ≤ 7 ∧ 0 ≤ x.k ∧ x.k ≤ 3 ∧ 0 ≤ x.e ∧ x.e ≤ 65535 ∧ 0 ≤ x.s ∧ x.s ≤ 7 ∧ (extM x.m = false → x.e = 0) := by
  obtain ⟨op, z, r, m, k, e, s⟩ := x
  unfold inOk at h
  rw [Bool.and_eq_true] at h
  obtain ⟨h1, h2⟩ := h
  have hop : 1 ≤ op ∧ op ≤ 19 := by
    have : op = 1 ∨ op = 2 ∨ op = 3 ∨ op = 4 ∨ op = 5 ∨ op = 6 ∨ op = 7 ∨ op = 8 ∨ op = 9 ∨ op = 10 ∨ op = 11 ∨ op = 12 ∨ op = 13 ∨ op = 14 ∨ op = 15 ∨ op = 16 ∨ op = 17 ∨ op = 18 ∨ op = 19 := by
      by_cases q1 : op = 1; · simp [q1]
      by_cases q2 : op = 2; · simp [q2]
      by_cases q3 : op = 3; · simp [q3]
      by_cases q4 : op = 4; · simp [q4]
      by_cases q5 : op = 5; · simp [q5]
      by_cases q6 : op = 6; · simp [q6]
      by_cases q7 : op = 7; · simp [q7]
      by_cases q8 : op = 8; · simp [q8]
      by_cases q9 : op = 9; · simp [q9]
      by_cases q10 : op = 10; · simp [q10]
      by_cases q11 : op = 11; · simp [q11]
      by_cases q12 : op = 12; · simp [q12]
      by_cases q13 : op = 13; · simp [q13]
      by_cases q14 : op = 14; · simp [q14]
      by_cases q15 : op = 15; · simp [q15]
      by_cases q16 : op = 16; · simp [q16]
      by_cases q17 : op = 17; · simp [q17]
      by_cases q18 : op = 18; · simp [q18]
      by_cases q19 : op = 19; · simp [q19]
      simp [inKind, q1, q2, q3, q4, q5, q6, q7, q8, q9, q10, q11, q12, q13, q14, q15, q16, q17, q18, q19] at h2
    omega
  simp [inBase, opOk, modeOk, within, wordOk] at h1
  obtain ⟨hz, hr, ⟨hm, hk, _, he, hx⟩, hs, _⟩ := h1
  refine ⟨hop.1, hop.2, hz, hr.1, hr.2, hm.1, hm.2, hk.1, hk.2, he.1, he.2, hs.1, hs.2, fun q => ?_⟩
  rcases hx with hx | hx
  · rw [q] at hx; cases hx
  · exact hx
end Go.Proofs.YtblddehlkaolbaaGreatDoor.Pl

namespace Go.Proofs.YtblddehlkaolbaaGreatDoor.Pl
set_option linter.unusedVariables false
/-- the flags, each by itself -/
def cF (f : Int) : Bool := f % 2 == 1
def vF (f : Int) : Bool := f / 2 % 2 == 1
def zF (f : Int) : Bool := f / 4 % 2 == 1
def nF (f : Int) : Bool := f / 8 % 2 == 1
/-- what an even condition tells -/
def ev (c f : Int) : Bool :=
  bif c == 2 then !cF f && !zF f else bif c == 4 then !cF f else bif c == 6 then !zF f else bif c == 8 then !vF f
  else bif c == 10 then !nF f else bif c == 12 then nF f == vF f else bif c == 14 then (nF f == vF f) && !zF f else true
def tst (k f : Int) : Bool := ev (k - k % 2) f == (k % 2 == 0)
def need (k : Int) : Int :=
  bif k - k % 2 == 2 then 5 else bif k - k % 2 == 4 then 1 else bif k - k % 2 == 6 then 4 else bif k - k % 2 == 8 then 2
  else bif k - k % 2 == 10 then 8 else bif k - k % 2 == 12 then 10 else bif k - k % 2 == 14 then 14 else 0
theorem nat_of {k : Int} {n : Nat} (h0 : 0 ≤ k) (h1 : k < n) : ∃ j : Nat, j < n ∧ k = (j : Int) := ⟨k.toNat, by omega, by omega⟩
/- the bits of flags, one at a time -/
theorem bit_c : ∀ f : Nat, f < 32 → (bits .and .i64 (f : Int) 1 == 0) = !cF f := by decide +kernel
theorem bit_v : ∀ f : Nat, f < 32 → (bits .and .i64 (f : Int) 2 == 0) = !vF f := by decide +kernel
theorem bit_z : ∀ f : Nat, f < 32 → (bits .and .i64 (f : Int) 4 == 0) = !zF f := by decide +kernel
theorem bit_n : ∀ f : Nat, f < 32 → (bits .and .i64 (f : Int) 8 == 0) = !nF f := by decide +kernel
theorem bit_cz : ∀ f : Nat, f < 32 → (bits .and .i64 (f : Int) 5 == 0) = (!cF f && !zF f) := by decide +kernel
theorem bit_even : ∀ k : Nat, k < 16 → bits .andNot .i64 (k : Int) 1 = (k : Int) - (k : Int) % 2 := by decide +kernel
end Go.Proofs.YtblddehlkaolbaaGreatDoor.Pl

namespace Go.Proofs.YtblddehlkaolbaaGreatDoor.Pl
set_option linter.unusedVariables false

/-- the highest bit -/
def hi (s v : Int) : Int := if top s / 2 ≤ v then 1 else 0
/-- what falls out -/
def fell (k s v : Int) : Int := if k % 2 = 0 then hi s v else v % 2
/-- what comes in -/
def inn (k s x v : Int) : Int := if k = 1 then hi s v else if k = 4 ∨ k = 5 then fell k s v else if 6 ≤ k then x else 0
def nv (k s x v : Int) : Int := if k % 2 = 0 then v * 2 % top s + inn k s x v else v / 2 + inn k s x v * (top s / 2)
def nx (k s x v : Int) : Int := if k = 4 ∨ k = 5 then x else fell k s v
def vfl (k s x v : Int) : Bool := decide (k = 0) && (hi s v != hi s (nv k s x v))
def zn (s v : Int) : Int := fl (v == 0) 4 + fl (decide (top s / 2 ≤ v)) 8
def onF (k s x v : Int) : Int := fell k s v + fl (vfl k s x v) 2 + zn s (nv k s x v) + 16 * nx k s x v

/-- a value and the kept bit, one place on -/
def stp (k s : Int) (p : Int × Int) : Int × Int := (nv k s p.2 p.1, nx k s p.2 p.1)
def st (k s : Int) (p : Int × Int) : Nat → Int × Int
  | 0 => p
  | n + 1 => stp k s (st k s p n)
/-- whether any place told it -/
def ov (k s : Int) (p : Int × Int) : Nat → Bool
  | 0 => false
  | n + 1 => ov k s p n || vfl k s (st k s p n).2 (st k s p n).1
def byF (k s : Int) (p : Int × Int) : Nat → Int
  | 0 => fl (decide (p.2 ≠ 0) && decide (6 ≤ k)) 1 + zn s p.1 + 16 * p.2
  | n + 1 => fell k s (st k s p n).1 + fl (ov k s p (n + 1)) 2 + zn s (st k s p (n + 1)).1 + 16 * (st k s p (n + 1)).2

/-- a value of a size and a kept bit -/
def Fit (s : Int) (p : Int × Int) : Prop := (s = 1 ∨ s = 2) ∧ 0 ≤ p.1 ∧ p.1 < top s ∧ 0 ≤ p.2 ∧ p.2 ≤ 1

theorem hi_bd (s v : Int) : 0 ≤ hi s v ∧ hi s v ≤ 1 := by unfold hi; split <;> omega
theorem fell_bd (k s v : Int) : 0 ≤ fell k s v ∧ fell k s v ≤ 1 := by
  have := hi_bd s v
  unfold fell; split <;> omega
theorem inn_bd (k s x v : Int) (x0 : 0 ≤ x) (x1 : x ≤ 1) : 0 ≤ inn k s x v ∧ inn k s x v ≤ 1 := by
  have := hi_bd s v
  have := fell_bd k s v
  unfold inn; repeat' split
  all_goals omega
theorem nx_bd (k s x v : Int) (x0 : 0 ≤ x) (x1 : x ≤ 1) : 0 ≤ nx k s x v ∧ nx k s x v ≤ 1 := by
  have := fell_bd k s v
  unfold nx; split <;> omega
theorem top12 {s : Int} (h : s = 1 ∨ s = 2) : (s = 1 ∧ top s = 256) ∨ (s = 2 ∧ top s = 65536) := by
  rcases h with rfl | rfl
  · exact .inl ⟨rfl, rfl⟩
  · exact .inr ⟨rfl, rfl⟩
theorem stp_fit {k s : Int} {p : Int × Int} (h : Fit s p) : Fit s (stp k s p) := by
  obtain ⟨hs, v0, v1, x0, x1⟩ := h
  have i := inn_bd k s p.2 p.1 x0 x1
  have n := nx_bd k s p.2 p.1 x0 x1
  refine ⟨hs, ?_, ?_, n.1, n.2⟩
  all_goals
    unfold stp nv
    rcases top12 hs with ⟨_, e⟩ | ⟨_, e⟩
    all_goals
      simp only [e] at v1 ⊢
      generalize inn k s p.2 p.1 = q at i
      split
      · omega
      · have : q = 0 ∨ q = 1 := by omega
        rcases this with rfl | rfl <;> omega
theorem st_fit {k s : Int} {p : Int × Int} (h : Fit s p) (n : Nat) : Fit s (st k s p n) := by
  induction n with
  | zero => exact h
  | succ n ih => exact stp_fit ih
theorem zn_bd (s v : Int) : 0 ≤ zn s v ∧ zn s v ≤ 12 := by
  unfold zn
  cases (v == 0) <;> cases decide (top s / 2 ≤ v) <;> simp [fl]
theorem fl_bd (b : Bool) (n : Int) (h : 0 ≤ n) : 0 ≤ fl b n ∧ fl b n ≤ n := by cases b <;> simp [fl, h]
/-- the flags' bits apart -/
theorem byF_parts {k s : Int} {p : Int × Int} (h : Fit s p) (n : Nat) : ∃ c o : Int, byF k s p n = c + o + zn s (st k s p n).1 + 16 * (st k s p n).2 ∧ 0 ≤ c ∧ c ≤ 1 ∧ (o = 0 ∨ o = 2) := by
  cases n with
  | zero =>
    have := fl_bd (decide (p.2 ≠ 0) && decide (6 ≤ k)) 1 (by decide)
    exact ⟨_, 0, by show _ = _ ; simp only [byF, st]; omega, this.1, this.2, .inl rfl⟩
  | succ n =>
    have := fell_bd k s (st k s p n).1
    refine ⟨_, fl (ov k s p (n + 1)) 2, rfl, this.1, this.2, ?_⟩
    cases ov k s p (n + 1) <;> simp [fl]
theorem byF_bd {k s : Int} {p : Int × Int} (h : Fit s p) (n : Nat) : 0 ≤ byF k s p n ∧ byF k s p n ≤ 31 ∧ byF k s p n / 16 = (st k s p n).2 := by
  obtain ⟨c, o, e, c0, c1, ho⟩ := byF_parts (k := k) h n
  have z := zn_bd s (st k s p n).1
  obtain ⟨_, _, _, x0, x1⟩ := st_fit (k := k) h n
  omega
theorem onF_bd {k s : Int} {p : Int × Int} (h : Fit s p) : 0 ≤ onF k s p.2 p.1 ∧ onF k s p.2 p.1 ≤ 31 ∧ onF k s p.2 p.1 / 16 = nx k s p.2 p.1 := by
  have f := fell_bd k s p.1
  have v := fl_bd (vfl k s p.2 p.1) 2 (by decide)
  have z := zn_bd s (nv k s p.2 p.1)
  obtain ⟨_, _, _, x0, x1⟩ := h
  have x := nx_bd k s p.2 p.1 x0 x1
  have v2 : fl (vfl k s p.2 p.1) 2 = 0 ∨ fl (vfl k s p.2 p.1) 2 = 2 := by cases vfl k s p.2 p.1 <;> simp [fl]
  unfold onF
  omega

/-! ### what a call answers -/
def goodK (k s f v : Int) : Bool := (decide (0 ≤ k) && decide (k ≤ 7)) && (okv s v && flags f)
def cnt (n : Int) : Bool := decide (0 ≤ n) && decide (n ≤ 63)
def byOk (k s f v n : Int) : Bool := goodK k s f v && cnt n
def byVal (k s f v n : Int) : Int := if byOk k s f v n = true then (st k s (v, f / 16) n.toNat).1 else 0
def byFl (k s f v n : Int) : Int := if byOk k s f v n = true then byF k s (v, f / 16) n.toNat else 0
def kin (k : Int) : Bool := decide (0 ≤ k) && decide (k ≤ 7)
def left (k : Int) : Bool := kin k && decide (k % 2 = 0)

theorem okv_size {s v : Int} (h : okv s v = true) : s = 1 ∨ s = 2 := by
  simp [okv] at h
  exact h.1
theorem goodK_ok {k s f v : Int} (h : goodK k s f v = true) : 0 ≤ k ∧ k ≤ 7 ∧ okv s v = true ∧ 0 ≤ f ∧ f ≤ 31 ∧ Fit s (v, f / 16) := by
  simp only [goodK, Bool.and_eq_true, decide_eq_true_eq] at h
  obtain ⟨⟨k0, k1⟩, ho, hf⟩ := h
  obtain ⟨f0, f1⟩ := flags_ok hf
  have ht := top_ok ho
  exact ⟨k0, k1, ho, f0, f1, okv_size ho, ht.2.1, ht.2.2, by show 0 ≤ f / 16; omega, by show f / 16 ≤ 1; omega⟩
theorem byOk_mk {k s f v n : Int} (h : goodK k s f v = true) (n0 : 0 ≤ n) (n1 : n ≤ 63) : byOk k s f v n = true := by simp [byOk, cnt, h, n0, n1]

end Go.Proofs.YtblddehlkaolbaaGreatDoor.Pl

namespace Go.Proofs.YtblddehlkaolbaaGreatDoor.Pl
set_option linter.unusedVariables false

theorem and15 (a : Int) : bits .and .i64 a 15 = a % 16 := by
  show IntKind.i64.wrap ((BitVec.ofInt 64 a &&& BitVec.ofInt 64 15).toNat : Int) = _
  rw [BitVec.toNat_and, BitVec.toNat_ofInt, show (BitVec.ofInt 64 15).toNat = 2 ^ 4 - 1 from by decide, Nat.and_two_pow_sub_one_eq_mod, IntKind.wrap_i64]
  omega
theorem or_dgt (n : Int) (h0 : 0 ≤ n) (h1 : n ≤ 99) : bits .or .i64 (n / 10 * 16) (n % 10) = n / 10 * 16 + n % 10 :=
  bits_join .i64 62 (by decide) wraps_i64 4 (n / 10 * 16) (n % 10) (by omega) (by omega) (by omega) (by omega) (by omega) (by omega)

/-- a decimal byte -/
def bcd (v : Int) : Bool := (decide (0 ≤ v) && decide (v ≤ 255)) && (decide (v / 16 ≤ 9) && decide (v % 16 ≤ 9))
/-- the number that a decimal byte tells -/
def num (v : Int) : Int := v / 16 * 10 + v % 16
/-- the decimal byte of a number -/
def ofN (n : Int) : Int := n / 10 * 16 + n % 10
def two2 (x a b : Int) : Bool := bit x && (bcd a && bcd b)
def difN (x a b : Int) : Int := if num a - num b - x < 0 then num a - num b - x + 100 else num a - num b - x
def difB (x a b : Int) : Int := if num a - num b - x < 0 then 1 else 0
def aV (x a b : Int) : Int := if two2 x a b = true then ofN ((num a + num b + x) % 100) else 0
def aC (x a b : Int) : Int := if two2 x a b = true then (num a + num b + x) / 100 else 0
def sV (x a b : Int) : Int := if two2 x a b = true then ofN (difN x a b) else 0
def sC (x a b : Int) : Int := if two2 x a b = true then difB x a b else 0
def cplV (v : Int) : Int := if bcd v = true then ofN (99 - num v) else 0

theorem bcd_ok {v : Int} (h : bcd v = true) : 0 ≤ v ∧ v ≤ 255 ∧ v / 16 ≤ 9 ∧ v % 16 ≤ 9 := by
  simp [bcd] at h; omega
theorem bcd_mk {v : Int} (h0 : 0 ≤ v) (h1 : v ≤ 255) (h2 : v / 16 ≤ 9) (h3 : v % 16 ≤ 9) : bcd v = true := by
  simp [bcd, h0, h1, h2, h3]
theorem num_bd {v : Int} (h : bcd v = true) : 0 ≤ num v ∧ num v ≤ 99 := by have := bcd_ok h; unfold num; omega
theorem ofN_bcd {n : Int} (h0 : 0 ≤ n) (h1 : n ≤ 99) : bcd (ofN n) = true := by
  unfold ofN; exact bcd_mk (by omega) (by omega) (by omega) (by omega)
theorem num_ofN {n : Int} (h0 : 0 ≤ n) (h1 : n ≤ 99) : num (ofN n) = n := by unfold num ofN; omega
theorem two2_ok {x a b : Int} (h : two2 x a b = true) : 0 ≤ x ∧ x ≤ 1 ∧ bcd a = true ∧ bcd b = true := by
  simp only [two2, Bool.and_eq_true] at h
  have := bit_ok h.1
  exact ⟨this.1, this.2, h.2.1, h.2.2⟩
theorem two2_mk {x a b : Int} (h0 : 0 ≤ x) (h1 : x ≤ 1) (ha : bcd a = true) (hb : bcd b = true) : two2 x a b = true := by
  simp [two2, bit, h0, h1, ha, hb]
theorem difN_bd {x a b : Int} (h : two2 x a b = true) : 0 ≤ difN x a b ∧ difN x a b ≤ 99 := by
  obtain ⟨x0, x1, ha, hb⟩ := two2_ok h
  have := num_bd ha
  have := num_bd hb
  unfold difN
  split <;> omega

/-! ### what the law on decimal digits asks -/
theorem aV_is {x a b : Int} (h : two2 x a b = true) : aV x a b = ofN ((num a + num b + x) % 100) := by simp [aV, h]
theorem aC_is {x a b : Int} (h : two2 x a b = true) : aC x a b = (num a + num b + x) / 100 := by simp [aC, h]
theorem sV_is {x a b : Int} (h : two2 x a b = true) : sV x a b = ofN (difN x a b) := by simp [sV, h]
theorem sC_is {x a b : Int} (h : two2 x a b = true) : sC x a b = difB x a b := by simp [sC, h]
theorem aC_bd (x a b : Int) : 0 ≤ aC x a b ∧ aC x a b ≤ 1 := by
  by_cases h : two2 x a b = true
  · obtain ⟨x0, x1, ha, hb⟩ := two2_ok h
    have := num_bd ha
    have := num_bd hb
    rw [aC_is h]; omega
  · simp [aC, h]
theorem sC_bd (x a b : Int) : 0 ≤ sC x a b ∧ sC x a b ≤ 1 := by
  unfold sC difB
  split
  · split <;> omega
  · omega
theorem aV_bcd {x a b : Int} (h : two2 x a b = true) : bcd (aV x a b) = true := by rw [aV_is h]; exact ofN_bcd (by omega) (by omega)
theorem sV_bcd {x a b : Int} (h : two2 x a b = true) : bcd (sV x a b) = true := by rw [sV_is h]; exact ofN_bcd (difN_bd h).1 (difN_bd h).2
end Go.Proofs.YtblddehlkaolbaaGreatDoor.Pl

namespace Go.Proofs.YtblddehlkaolbaaGreatDoor.Pl
set_option linter.unusedVariables false

/-- a processor -/
structure Cp where
  r : Rg
  bx : List Int
  bl : List Int
  bm : Nat
  st : Bool
  ha : Bool
/-- a fault -/
structure Ft where
  v : Int
  pc : Int
  ad : Int
  wo : Int
  wr : Bool
/-- a step on its way -/
structure Mc where
  r : Rg
  bx : List Int
  bl : List Int
  bm : Nat
  st : Bool
  f : Ft
def ftNo : Ft := ⟨0, 0, 0, 0, false⟩
def cpNo : Cp := ⟨rgNo, [], [], 0, false, false⟩
def cpOk (c : Cp) : Bool := rgOk c.r && (goodBus c.bx c.bl c.bm && !(c.st && c.ha))
namespace Mc
def fine (c : Mc) : Bool := c.f.v == 0
def ofC (c : Cp) : Mc := ⟨c.r, c.bx, c.bl, c.bm, c.st, ftNo⟩
def cpu (c : Mc) (h : Bool) : Cp := ⟨c.r, c.bx, c.bl, c.bm, c.st, h⟩
def accF (f : Ft) (k s a : Int) : Ft := bif (code k s a != 0) && (f.v == 0) then { f with v := bif code k s a == 2 then 3 else 2, ad := a, wr := k == 2 } else f
def acc (c : Mc) (k s a v : Int) : Mc := { c with bx := nb c.bx k s a v, bl := nl c.bx c.bl c.bm k s a v, bm := nm c.bm k s a, f := accF c.f k s a }
def accV (c : Mc) (k s a v : Int) : Int := lv c.bx k s a v
def setA (c : Mc) (k : Nat) (v : Int) : Mc := { c with r := { c.r with ys := c.r.ys.set k v } }
def setP (c : Mc) (v : Int) : Mc := { c with r := { c.r with p := v } }
def setF (c : Mc) (v : Int) : Mc := { c with r := { c.r with f := v } }
def setR (c : Mc) (r : Rg) : Mc := { c with r := r }
def spA (c : Mc) : Int := (el c.r.ys 3 - 2) % 65536
def push (c : Mc) (v : Int) : Mc := bif (c.acc 2 2 c.spA v).fine then (c.acc 2 2 c.spA v).setA 3 c.spA else c.acc 2 2 c.spA v
def pop (c : Mc) : Mc := bif (c.acc 1 2 (el c.r.ys 3) 0).fine then (c.acc 1 2 (el c.r.ys 3) 0).setA 3 ((el c.r.ys 3 + 2) % 65536) else c.acc 1 2 (el c.r.ys 3) 0
def popV (c : Mc) : Int := c.accV 1 2 (el c.r.ys 3) 0
/- the instruction at PC -/
def fe0 (c : Mc) : Mc := { c with f := { c.f with pc := c.r.p } }
def fe1 (c : Mc) : Mc := c.fe0.acc 3 2 c.r.p 0
def feW (c : Mc) : Int := c.fe0.accV 3 2 c.r.p 0
def fe2 (c : Mc) : Mc := { c.fe1 with f := { c.fe1.f with wo := c.feW } }
def feA (c : Mc) : Int := (c.r.p + 2) % 65536
def fe3 (c : Mc) : Mc := bif longW c.feW == 2 then c.fe2.acc 3 2 c.feA 0 else c.fe2
def feN (c : Mc) : Int := bif longW c.feW == 2 then c.fe2.accV 3 2 c.feA 0 else 0
def feX (c : Mc) : In := decode c.feW c.feN
def fe4 (c : Mc) : Mc := { c.fe3 with f := { c.fe3.f with v := 4 } }
def fetch (c : Mc) : Mc := bif !c.fe1.fine then c.fe1 else bif !c.fe3.fine then c.fe3 else bif !inOk c.feX then c.fe4 else c.fe3
def fetI (c : Mc) : In := bif c.fe1.fine && (c.fe3.fine && inOk c.feX) then c.feX else inNo
def fetN (c : Mc) : Int := bif c.fe1.fine && (c.fe3.fine && inOk c.feX) then longW c.feW else 0
/- operands -/
def low (c : Mc) (z k : Int) : Int := el c.r.xs k.toNat % top z
def inReg (m : Int) : Bool := (m == 0) || ((m == 1) || (m == 7))
def plc (c : Mc) (z m k e : Int) : Mc := c.setR (placeR c.r z m k e)
def read (c : Mc) (z m k e : Int) : Mc := bif inReg m then c else (c.plc z m k e).acc 1 z (placeV c.r z m k e) 0
def readV (c : Mc) (z m k e : Int) : Int := bif m == 0 then c.low z k else bif m == 1 then el c.r.ys k.toNat else bif m == 7 then e else (c.plc z m k e).accV 1 z (placeV c.r z m k e) 0
def readA (c : Mc) (z m k e : Int) : Int := bif inReg m then 0 else placeV c.r z m k e
def write (c : Mc) (z m k a v : Int) : Mc := bif m == 0 then c.setR (putR c.r z k v) else c.acc 2 z a v
def place (c : Mc) (z m k e : Int) : Mc := bif m == 0 then c else c.plc z m k e
def plcA (c : Mc) (z m k e : Int) : Int := bif m == 0 then 0 else placeV c.r z m k e
def put (c : Mc) (z k v : Int) : Mc := c.setR (putR c.r z k v)
def data (c : Mc) (z k v : Int) : Mc := (c.setF (logF z c.r.f v)).put z k v
def raise (c : Mc) (v : Int) : Mc := { c with f := { c.f with v := v, pc := c.r.p } }
def vec (c : Mc) (v : Int) : Mc := { c with f := { c.f with v := v } }
def two' (d : Mc) (x : In) (q v : Int) : Mc :=
  bif x.op == 8 then d.setF (cmpF x.z d.r.f q v)
  else bif x.op == 3 then (d.setF (addF x.z 0 q v)).put x.z x.r (addV x.z 0 q v)
  else bif x.op == 4 then (d.setF (subF x.z 0 q v)).put x.z x.r (subV x.z 0 q v)
  else bif x.op == 5 then d.data x.z x.r (bits .and .i64 q v)
  else bif x.op == 6 then d.data x.z x.r (bits .or .i64 q v)
  else bif x.op == 7 then d.data x.z x.r (bits .xor .i64 q v)
  else d.data x.z x.r v
def two (c : Mc) (x : In) : Mc := bif (c.read x.z x.m x.k x.e).fine then (c.read x.z x.m x.k x.e).two' x ((c.read x.z x.m x.k x.e).low x.z x.r) (c.readV x.z x.m x.k x.e) else c.read x.z x.m x.k x.e
def one0 (c : Mc) (x : In) : Mc := (((c.place x.z x.m x.k x.e).write x.z x.m x.k (c.plcA x.z x.m x.k x.e) 0)).setF (logF x.z c.r.f 0)
def one' (c d : Mc) (x : In) (a v : Int) : Mc :=
  bif x.s == 1 then (d.write x.z x.m x.k a (subV x.z 0 0 v)).setF (subF x.z 0 0 v)
  else bif x.s == 2 then (d.write x.z x.m x.k a (top x.z - 1 - v)).setF (logF x.z c.r.f (top x.z - 1 - v))
  else d.setF (logF x.z c.r.f v)
def one (c : Mc) (x : In) : Mc :=
  bif x.s == 0 then c.one0 x
  else bif (c.read x.z x.m x.k x.e).fine then c.one' (c.read x.z x.m x.k x.e) x (c.readA x.z x.m x.k x.e) (c.readV x.z x.m x.k x.e) else c.read x.z x.m x.k x.e
def flow (c : Mc) (x : In) : Mc :=
  bif x.s == 0 then c.pop.setP c.popV
  else bif x.s == 1 then (bif !c.pop.fine then c.pop else bif !c.pop.pop.fine then c.pop.pop else (c.pop.pop.setP c.pop.popV).setR (withR (c.pop.pop.setP c.pop.popV).r (c.popV % 1024)))
  else bif x.s == 3 then { c.setR (withR c.r x.e) with st := true }
  else bif x.s == 4 then c.raise (18 + x.r)
  else bif x.s == 5 then c.data 2 x.r (swpV (el c.r.xs x.r.toNat))
  else bif x.s == 6 then c.data 2 x.r (extV (el c.r.xs x.r.toNat % 256))
  else c
def mulF (c : Mc) (x : In) (p : Int) : Mc := (c.data 2 x.r (p % 65536)).setF (bits .or .i64 (c.data 2 x.r (p % 65536)).r.f (fl (decide (65535 < p)) 2))
def prod' (d : Mc) (x : In) (v : Int) : Mc :=
  bif x.op == 16 then d.mulF x (el d.r.xs x.r.toNat * v)
  else bif v == 0 then d.raise 5 else d.data 2 x.r (el d.r.xs x.r.toNat / v)
def product (c : Mc) (x : In) : Mc := bif (c.read 2 x.m x.k x.e).fine then (c.read 2 x.m x.k x.e).prod' x (c.readV 2 x.m x.k x.e) else c.read 2 x.m x.k x.e
def xOf (c : Mc) : Int := c.r.f / 16 % 2
def bcdV' (c : Mc) (s a b : Int) : Int := bif s == 1 then sV c.xOf a b else aV c.xOf a b
def bcdC' (c : Mc) (s a b : Int) : Int := bif s == 1 then sC c.xOf a b else aC c.xOf a b
def bcdF (c : Mc) (s a b : Int) : Int := fl ((c.bcdV' s a b == 0) && (c.r.f / 4 % 2 == 1)) 4 + c.bcdC' s a b * 17
def bcd' (c : Mc) (x : In) (a b : Int) : Mc := bif bcd a && bcd b then (c.setF (c.bcdF x.s a b)).put 1 x.r (c.bcdV' x.s a b) else c.vec 4
def bcdI (c : Mc) (x : In) : Mc := c.bcd' x (el c.r.xs x.r.toNat % 256) (el c.r.xs x.k.toNat % 256)
def jump (c : Mc) (x : In) (at_ : Int) : Mc :=
  bif x.op == 13 then (bif tst (x.s + 8 * x.r) c.r.f then c.setP ((at_ + 2 + x.e) % 65536) else c)
  else bif x.s == 1 then (bif ((c.place 2 x.m x.k x.e).push c.r.p).fine then ((c.place 2 x.m x.k x.e).push c.r.p).setP (c.plcA 2 x.m x.k x.e) else (c.place 2 x.m x.k x.e).push c.r.p)
  else (c.place 2 x.m x.k x.e).setP (c.plcA 2 x.m x.k x.e)
def from' (c : Mc) (x : In) : Mc := ((c.place x.z x.m x.k x.e).write x.z x.m x.k (c.plcA x.z x.m x.k x.e) (c.low x.z x.r)).setF (logF x.z c.r.f (c.low x.z x.r))
def stat (c : Mc) (x : In) : Mc := bif x.s == 0 then c.setR (withR c.r x.e) else c.setR { c.r with xs := c.r.xs.set x.r.toNat (status c.r) }
def doI (c : Mc) (x : In) (at_ : Int) : Mc :=
  bif x.op == 9 then (bif (c.read 2 x.m x.k x.e).fine then (c.read 2 x.m x.k x.e).setA x.r.toNat (c.readV 2 x.m x.k x.e) else c.read 2 x.m x.k x.e)
  else bif x.op == 10 then (c.place 2 x.m x.k x.e).setA x.r.toNat (c.plcA 2 x.m x.k x.e)
  else bif x.op == 2 then c.from' x
  else bif x.op == 11 then c.one x
  else bif x.op == 12 then (c.setF (byFl x.s x.z c.r.f (c.low x.z x.r) (x.k + 1))).put x.z x.r (byVal x.s x.z c.r.f (c.low x.z x.r) (x.k + 1))
  else bif (x.op == 13) || (x.op == 14) then c.jump x at_
  else bif x.op == 15 then c.flow x
  else bif (x.op == 16) || (x.op == 17) then c.product x
  else bif x.op == 18 then c.bcdI x
  else bif x.op == 19 then c.stat x
  else c.two x
/- a step -/
def s1 (c : Mc) : Mc := bif c.fetch.fine && (priv c.fetI && !c.fetch.r.s) then c.fetch.vec 8 else c.fetch
def s2 (c : Mc) : Mc := bif c.s1.fine then (c.s1.setP ((c.r.p + 2 * c.fetN) % 65536)).doI c.fetI c.r.p else c.s1
end Mc
def stepM (c : Cp) : Mc := (Mc.ofC c).s2
def stepC (c : Cp) : Cp := bif (stepM c).fine then (stepM c).cpu false else ⟨c.r, (stepM c).bx, (stepM c).bl, (stepM c).bm, c.st, false⟩
def stepF (c : Cp) : Ft := bif (stepM c).fine then ftNo else (stepM c).f
end Go.Proofs.YtblddehlkaolbaaGreatDoor.Pl

