/- What the program's PeekWord and SameMemory answer, for every argument. -/
import Derived.Test.YtbkafdphagmgpaaImplMem
import Derived.Test.YtbkafdphagmgpaaSpecPeek
import Derived.DeepKeys
namespace Go.Proofs.Ytbkafdphagmgpaa
open Go.RowKit
set_option linter.unusedVariables false

theorem Pl.peek_code {a : Int} (h0 : 0 ≤ a) : decide (Pl.code 1 2 a = 0) = (!(decide (a % 2 = 1)) && !(Pl.kind a == 1)) := by
  rw [Bool.eq_iff_iff]
  simp only [decide_eq_true_eq, Bool.and_eq_true, Bool.not_eq_true', decide_eq_false_iff_not, beq_eq_false_iff_ne, ne_eq]
  unfold Pl.code
  by_cases h1 : a % 2 = 1
  · simp [h1]
  · have e : (Pl.kind (a + 2 - 1) = 1) ↔ (Pl.kind a = 1) := by
      unfold Pl.kind
      constructor
      · intro h
        split at h
        · rw [if_pos (by omega)]
        · split at h
          · cases h
          · cases h
      · intro h
        split at h
        · rw [if_pos (by omega)]
        · split at h
          · cases h
          · cases h
    rw [if_neg (by omega)]
    by_cases h2 : Pl.kind a = 1
    · simp [h1, h2]
    · simp [h1, h2, e]

set_option maxHeartbeats 4000000 in
theorem peekWord (w : World) (a b : Option Addr) (ca cb m : Nat) (xs ys : List Int) (q : Int) (ha : Came w a xs) (hb : Came w b ys) (lx : xs.length ≤ 2000000) (ly : ys.length = 5 * m) (bm : m ≤ 2000000) (wf : (Lit.int .i64 q).wf = true) :
    Calls Try.prog 25 #[.agg #[.slice a xs.length ca, .slice b m cb], .int .i64 q] w fun e w' => e = .returned (.tuple #[.int .i64 (Pl.peekV xs ys m q), .bool (Pl.peekOk xs ys m q)]) ∧ Kept 0 0 w w' := by
  have HA := hide ha
  have HB := hide hb
  have HY := hide ly
  have K0 := hide (kept_alloc w (.cells #[.slice a xs.length ca, .slice b m cb] 25))
  have B0 := hide (Blk.new w #[.slice a xs.length ca, .slice b m cb] 25)
  clear ha hb ly
  cases h1 : Pl.goodBus xs ys m
  · have E : Hid (Pl.peekOk xs ys m q = false ∧ Pl.peekV xs ys m q = 0) := hide (by
      have : Pl.peekOk xs ys m q = false := by unfold Pl.peekOk; rw [h1]; rfl
      exact ⟨this, by unfold Pl.peekV; rw [this]; rfl⟩)
    go_enter Try.func25, Try.ntmps25
    go_wp2_with (go_at_call 21; refine (goodBus _ a b ca cb m xs ys (HA.out.keptS K0.out) (HB.out.keptS K0.out) lx HY.out bm).mono ?_; rintro e w1 ⟨rfl, k1⟩; rw [h1])
    go_ret2
    exact ⟨rIB E.out.2.symm E.out.1.symm, K0.out.trans k1⟩
  · cases h2 : Pl.addr q
    · have E : Hid (Pl.peekOk xs ys m q = false ∧ Pl.peekV xs ys m q = 0) := hide (by
        have : Pl.peekOk xs ys m q = false := by unfold Pl.peekOk; rw [h1, h2]; rfl
        exact ⟨this, by unfold Pl.peekV; rw [this]; rfl⟩)
      go_enter Try.func25, Try.ntmps25
      go_wp2_with (first | (go_at_call 21; refine (goodBus _ a b ca cb m xs ys (HA.out.keptS K0.out) (HB.out.keptS K0.out) lx HY.out bm).mono ?_; rintro e w1 ⟨rfl, k1⟩; rw [h1]) | (go_at_call 54; refine (isAddress _ _).mono ?_; rintro e w' ⟨rfl, rfl⟩; rw [h2]))
      go_ret2
      exact ⟨rIB E.out.2.symm E.out.1.symm, K0.out.trans k1⟩
    · obtain ⟨q0, q1⟩ : 0 ≤ q ∧ q ≤ 65535 := by simpa [Pl.addr] using h2
      cases h3 : decide (q % 2 = 1)
      · cases h4 : (Pl.kind q == 1)
        · have hok : Pl.peekOk xs ys m q = true := by unfold Pl.peekOk; rw [h1, h2, Pl.peek_code q0, h3, h4]; rfl
          obtain ⟨i, rfl, hi, hx0, hx1, hv⟩ := Pl.peek_ok hok
          obtain ⟨l5, hbytes, _, _⟩ := Pl.goodBus_ok h1
          have E : Hid (Pl.peekOk xs ys m i = true ∧ Pl.rd xs (2 : Nat) i = Pl.peekV xs ys m i) := hide ⟨hok, by rw [hv]; rfl⟩
          have HI : Hid (i + 2 ≤ 512) := hide (by omega)
          have L5 := hide l5
          have HBY := hide hbytes
          clear hok hi hx0 hx1 hv l5 hbytes
          go_enter Try.func25, Try.ntmps25
          go_wp2_with (first
            | (go_at_call 21; refine (goodBus _ a b ca cb m xs ys (HA.out.keptS K0.out) (HB.out.keptS K0.out) lx HY.out bm).mono ?_; rintro e w1 ⟨rfl, k1⟩; rw [h1]; have B1 := B0.out.kept0 k1; have c0 := B1.cell (i := 0) rfl; have c1 := B1.cell (i := 1) rfl; clear B1)
            | (go_at_call 54; refine (isAddress _ _).mono ?_; rintro e w' ⟨rfl, rfl⟩; rw [h2])
            | (go_at_call 55; refine (isOdd _ _ q0 q1).mono ?_; rintro e w' ⟨rfl, rfl⟩; rw [h3])
            | (go_at_call 56; refine (partOf _ _).mono ?_; rintro e w' ⟨rfl, rfl⟩)
            | (go_at_call 57; refine (memoryOf _ a b ca cb m xs (HA.out.keptS (K0.out.trans k1)).1 L5.out).mono ?_; rintro e w2 ⟨rfl, k2⟩)
            | (go_at_call 58; refine (memRead _ xs 2 i L5.out HBY.out (by decide) (by decide) HI.out).mono ?_; rintro e w3 ⟨rfl, k3⟩))
          go_ret2
          exact ⟨rIB E.out.2 E.out.1.symm, ((K0.out.trans k1).trans k2).trans k3⟩
        · have E : Hid (Pl.peekOk xs ys m q = false ∧ Pl.peekV xs ys m q = 0) := hide (by
            have : Pl.peekOk xs ys m q = false := by unfold Pl.peekOk; rw [h1, h2, Pl.peek_code q0, h3, h4]; rfl
            exact ⟨this, by unfold Pl.peekV; rw [this]; rfl⟩)
          go_enter Try.func25, Try.ntmps25
          go_wp2_with (first
            | (go_at_call 21; refine (goodBus _ a b ca cb m xs ys (HA.out.keptS K0.out) (HB.out.keptS K0.out) lx HY.out bm).mono ?_; rintro e w1 ⟨rfl, k1⟩; rw [h1])
            | (go_at_call 54; refine (isAddress _ _).mono ?_; rintro e w' ⟨rfl, rfl⟩; rw [h2])
            | (go_at_call 55; refine (isOdd _ _ q0 q1).mono ?_; rintro e w' ⟨rfl, rfl⟩; rw [h3])
            | (go_at_call 56; refine (partOf _ _).mono ?_; rintro e w' ⟨rfl, rfl⟩))
          go_ret2
          exact ⟨rIB E.out.2.symm E.out.1.symm, K0.out.trans k1⟩
      · have E : Hid (Pl.peekOk xs ys m q = false ∧ Pl.peekV xs ys m q = 0) := hide (by
          have : Pl.peekOk xs ys m q = false := by unfold Pl.peekOk; rw [h1, h2, Pl.peek_code q0, h3]; rfl
          exact ⟨this, by unfold Pl.peekV; rw [this]; rfl⟩)
        go_enter Try.func25, Try.ntmps25
        go_wp2_with (first
          | (go_at_call 21; refine (goodBus _ a b ca cb m xs ys (HA.out.keptS K0.out) (HB.out.keptS K0.out) lx HY.out bm).mono ?_; rintro e w1 ⟨rfl, k1⟩; rw [h1])
          | (go_at_call 54; refine (isAddress _ _).mono ?_; rintro e w' ⟨rfl, rfl⟩; rw [h2])
          | (go_at_call 55; refine (isOdd _ _ q0 q1).mono ?_; rintro e w' ⟨rfl, rfl⟩; rw [h3])
          | (go_at_call 56; refine (partOf _ _).mono ?_; rintro e w' ⟨rfl, rfl⟩))
        go_ret2
        exact ⟨rIB E.out.2.symm E.out.1.symm, K0.out.trans k1⟩

theorem eqItemsInt (w : World) (xs us : List Int) : ∀ is : List Nat, (∀ i ∈ is, i < xs.length ∧ i < us.length) →
    (Op.eqItems 9999 3 (Try.prog.cellsOf 3) (cellsOf xs) (cellsOf us) is).run Try.prog w = .ok (is.all fun i => el xs i == el us i) w
  | [], _ => by simp [Op.eqItems]
  | i :: is, h => by
    have hp : Try.prog.plainKey 3 = true := by kernel_rfl
    have hc : Try.prog.cellsOf 3 = 1 := by kernel_rfl
    obtain ⟨hx, hu⟩ := h i (by simp)
    have c1 : (cellsOf xs)[i * 1]? = some (.int .i64 (el xs i)) := by simp [cellsOf, el, hx]
    have c2 : (cellsOf us)[i * 1]? = some (.int .i64 (el us i)) := by simp [cellsOf, el, hu]
    have ih := eqItemsInt w xs us is (fun j hj => h j (by simp [hj]))
    rw [hc] at ih ⊢
    simp only [Op.eqItems, Sem.run_bind, run_part_plain w hp c1, run_part_plain w hp c2, Result.andThen_ok, run_equalIn_int w 9998 3 .i64 .i64 _ _ Try.underlying3]
    cases e : (el xs i == el us i)
    · simp [e]
    · simp [e, ih]
theorem eqMem (w : World) (xs us : List Int) (lx : xs.length = 512) (lu : us.length = 512) :
    (binOp .eql 57 (.agg (cellsOf xs)) (.agg (cellsOf us))).run Try.prog w = .ok (.bool (decide (xs = us))) w := by
  obtain ⟨i, hi, _⟩ := info_parts Try.info3
  have h1 : (Op.equalIn 10000 57 (.agg (cellsOf xs)) (.agg (cellsOf us))).run Try.prog w = (Op.eqItems 9999 3 (Try.prog.cellsOf 3) (cellsOf xs) (cellsOf us) (List.range 512)).run Try.prog w := run_equalIn_array w 9999 (cellsOf xs) (cellsOf us) Try.underlying57 hi
  have h2 := eqItemsInt w xs us (List.range 512) (fun i h => by have := List.mem_range.1 h; omega)
  have h3 : (binOp .eql 57 (.agg (cellsOf xs)) (.agg (cellsOf us))).run Try.prog w = .ok (.bool ((List.range 512).all fun i => el xs i == el us i)) w := by
    rw [run_eql_struct, h1, h2]; rfl
  rw [h3]
  refine congrArg (fun b => Result.ok (Value.bool b) w) ?_
  rw [Bool.eq_iff_iff, List.all_eq_true, decide_eq_true_iff]
  constructor
  · intro h
    refine ext_of (lx.trans lu.symm) (fun i hi => ?_)
    have := h i (List.mem_range.2 (by omega))
    simpa [el] using this
  · rintro rfl i _; simp

set_option maxHeartbeats 4000000 in
theorem sameMemory (w : World) (a b c d : Option Addr) (ca cb cc cd m n : Nat) (xs ys us vs : List Int) (ha : Came w a xs) (hb : Came w b ys) (hc : Came w c us) (hd : Came w d vs) (lx : xs.length ≤ 2000000) (ly : ys.length = 5 * m) (bm : m ≤ 2000000) (lu : us.length ≤ 2000000) (lv : vs.length = 5 * n) (bn : n ≤ 2000000) :
    Calls Try.prog 34 #[.agg #[.slice a xs.length ca, .slice b m cb], .agg #[.slice c us.length cc, .slice d n cd]] w fun e w' => e = .returned (.tuple #[.bool ((Pl.goodBus xs ys m && Pl.goodBus us vs n) && decide (xs = us)), .bool (Pl.goodBus xs ys m && Pl.goodBus us vs n)]) ∧ Kept 0 0 w w' := by
  have HA := hide ha
  have HB := hide hb
  have HC := hide hc
  have HD := hide hd
  have HY := hide ly
  have HV := hide lv
  have K0 := hide (kept_new (kept_alloc w (.cells #[.slice a xs.length ca, .slice b m cb] 25)) (.cells #[.slice c us.length cc, .slice d n cd] 25))
  have B0 := hide ((Blk.new w #[.slice a xs.length ca, .slice b m cb] 25).alloc (.cells #[.slice c us.length cc, .slice d n cd] 25))
  have B1 := Blk.new (w.alloc (.cells #[.slice a xs.length ca, .slice b m cb] 25)) #[.slice c us.length cc, .slice d n cd] 25
  simp only [World.size_alloc] at B1
  replace B1 := hide B1
  clear ha hb hc hd ly lv
  cases h1 : Pl.goodBus xs ys m
  · go_enter Try.func34, Try.ntmps34
    go_wp2_with (go_at_call 21; refine (goodBus _ a b ca cb m xs ys (HA.out.keptS K0.out) (HB.out.keptS K0.out) lx HY.out bm).mono ?_; rintro e w1 ⟨rfl, k1⟩; rw [h1])
    go_ret2
    exact ⟨rfl, K0.out.trans k1⟩
  · cases h2 : Pl.goodBus us vs n
    · go_enter Try.func34, Try.ntmps34
      go_wp2_with (first
        | (go_at_call 21; have hk := K1; refine (goodBus _ c d cc cd n us vs (HC.out.keptS K1.out) (HD.out.keptS K1.out) lu HV.out bn).mono ?_; rintro e w2 ⟨rfl, k2⟩; rw [h2]; have K2 := hide (K1.out.trans k2); clear k2)
        | (go_at_call 21; refine (goodBus _ a b ca cb m xs ys (HA.out.keptS K0.out) (HB.out.keptS K0.out) lx HY.out bm).mono ?_; rintro e w1 ⟨rfl, k1⟩; rw [h1]; have K1 := hide (K0.out.trans k1); have C1 := hide (B1.out.kept0 k1); have c0 := C1.out.cell (i := 0) rfl; have c1 := C1.out.cell (i := 1) rfl; clear k1))
      go_ret2
      exact ⟨rfl, K2.out⟩
    · obtain ⟨l5, _, _, _⟩ := Pl.goodBus_ok h1
      obtain ⟨u5, _, _, _⟩ := Pl.goodBus_ok h2
      have L5 := hide l5
      have U5 := hide u5
      clear l5 u5
      go_enter Try.func34, Try.ntmps34
      go_wp2_with (first
        | (go_at_call 21; have hk := K1; refine (goodBus _ c d cc cd n us vs (HC.out.keptS K1.out) (HD.out.keptS K1.out) lu HV.out bn).mono ?_; rintro e w2 ⟨rfl, k2⟩; rw [h2]; have K2 := hide (K1.out.trans k2); have C2 := hide (C1.out.kept0 k2); have A2 := hide (A1.out.kept0 k2); have e0 := A2.out.cell (i := 0) rfl; have e1 := A2.out.cell (i := 1) rfl; have e2 := C2.out.cell (i := 0) rfl; have e3 := C2.out.cell (i := 1) rfl; clear k2)
        | (go_at_call 21; refine (goodBus _ a b ca cb m xs ys (HA.out.keptS K0.out) (HB.out.keptS K0.out) lx HY.out bm).mono ?_; rintro e w1 ⟨rfl, k1⟩; rw [h1]; have K1 := hide (K0.out.trans k1); have C1 := hide (B1.out.kept0 k1); have A1 := hide (B0.out.kept0 k1); have c0 := C1.out.cell (i := 0) rfl; have c1 := C1.out.cell (i := 1) rfl; clear k1))
      have heq : ∀ w, (binOp .eql 57 (.agg (cellsOf xs)) (.agg (cellsOf us))).run Try.prog w = .ok (.bool (decide (xs = us))) w := fun w => eqMem w xs us L5.out U5.out
      go_region_with (first
        | (go_at_call 57; have hk3 := K3; refine (memoryOf _ c d cc cd n us (HC.out.keptS K3.out).1 U5.out).mono ?_; rintro e w4 ⟨rfl, k4⟩; have K4 := hide (K3.out.trans k4); clear k4)
        | (go_at_call 57; refine (memoryOf _ a b ca cb m xs (HA.out.keptS (kept_drew K2.out)).1 L5.out).mono ?_; rintro e w3 ⟨rfl, k3⟩; have K3 := hide ((kept_drew K2.out).trans k3); have C3 := hide (C2.out.kept0 (undrewK k3)); have e4 := C3.out.cell (i := 0) rfl; have e5 := C3.out.cell (i := 1) rfl; clear k3))
      all_goals
        go_wp2_with fail
        go_ret2
        exact ⟨rfl, K4.out⟩
end Go.Proofs.Ytbkafdphagmgpaa
