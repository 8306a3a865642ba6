/- What the models of chapter 4 that only look answer, for every argument. What an access does to a bus, in numbers: plain arithmetic; no Go text is spoken of here. Bits moved one place at a time, so often, and back; how many are 1; the other way round: plain arithmetic; no Go text is spoken of here. A step of a processor in numbers: plain arithmetic; no Go text is spoken of here. What the laws' own functions over Cpu and Fault do: size, comparison, marks. What the laws' toCpu does: a copy, each list in a new block of its own. What the model's tests of words and operands answer. What the models of chapter 6 answer that make nothing: tests of registers and operands, the status. Which blocks a call may have written: all but those of a kind are as they were. What the program's test of a value of a size answers: one contract a function; none changes the world. What the model's GoodCpu answers, for every processor. Registers whose numbers are ints. What the program's tests of words, sizes and register numbers answer; none changes the world. What the program's small functions of chapter 6 answer: tests of numbers and registers; no old block is changed. -/
import Derived.Test.YtblddehlkaolbaaJG1
import Derived.BigQuiet
import Derived.Deep.QuietTactic
import Derived.Deep.AppendLies
namespace Go.Proofs.Ytblddehlkaolbaa
open Go.RowKit
set_option linter.unusedVariables false

theorem l4Addr (a : Int) (w : World) : Calls Try.prog 93 #[.int .i64 a] w fun e w' => e = .returned (.bool (Pl.addr a)) ∧ w' = w := by
  go_enter Try.func93, Try.ntmps93
  go_wp2_with fail
  refine (l1In _ _ _ _).mono ?_
  rintro e w' ⟨rfl, rfl⟩
  go_wp2_with fail
  go_ret
  exact ⟨rfl, rfl⟩
theorem l4Access (k s a v c : Int) (w : World) : Calls Try.prog 76 #[.agg #[.int .i64 k, .int .i64 s, .int .i64 a, .int .i64 v, .int .i64 c]] w fun e w' => e = .returned (.bool (Pl.accOk k s a v c)) ∧ ∃ o, w' = w.alloc o := by
  cases h1 : (decide (1 ≤ k) && decide (k ≤ 3))
  · go_enter Try.func76, Try.ntmps76
    go_wp2_with (first | (go_at_call 63; refine (l1In _ _ _ _).mono ?_; rintro e w' ⟨rfl, rfl⟩; rw [h1]) | (go_at_call 92; refine (l1Value _ _ _).mono ?_; rintro e w' ⟨rfl, rfl⟩) | (go_at_call 93; refine (l4Addr _ _).mono ?_; rintro e w' ⟨rfl, rfl⟩))
    go_ret
    exact ⟨rB (by unfold Pl.accOk Pl.accKind; rw [h1]; simp), _, rfl⟩
  · cases h2 : Pl.okv s v
    · go_enter Try.func76, Try.ntmps76
      go_wp2_with (first | (go_at_call 63; refine (l1In _ _ _ _).mono ?_; rintro e w' ⟨rfl, rfl⟩; rw [h1]) | (go_at_call 92; refine (l1Value _ _ _).mono ?_; rintro e w' ⟨rfl, rfl⟩; rw [h2]) | (go_at_call 93; refine (l4Addr _ _).mono ?_; rintro e w' ⟨rfl, rfl⟩))
      go_ret
      exact ⟨rB (by unfold Pl.accOk Pl.accKind; rw [h1, h2]; simp), _, rfl⟩
    · cases h3 : Pl.addr a
      · go_enter Try.func76, Try.ntmps76
        go_wp2_with (first | (go_at_call 63; refine (l1In _ _ _ _).mono ?_; rintro e w' ⟨rfl, rfl⟩; rw [h1]) | (go_at_call 92; refine (l1Value _ _ _).mono ?_; rintro e w' ⟨rfl, rfl⟩; rw [h2]) | (go_at_call 93; refine (l4Addr _ _).mono ?_; rintro e w' ⟨rfl, rfl⟩; rw [h3]))
        go_ret
        exact ⟨rB (by unfold Pl.accOk Pl.accKind; rw [h1, h2, h3]; simp), _, rfl⟩
      · cases h4 : (decide (0 ≤ c) && decide (c ≤ 3))
        · go_enter Try.func76, Try.ntmps76
          go_wp2_with (first | (go_at_call 63; refine (l1In _ _ _ _).mono ?_; rintro e w' ⟨rfl, rfl⟩; first | rw [h1] | rw [h4]) | (go_at_call 92; refine (l1Value _ _ _).mono ?_; rintro e w' ⟨rfl, rfl⟩; rw [h2]) | (go_at_call 93; refine (l4Addr _ _).mono ?_; rintro e w' ⟨rfl, rfl⟩; rw [h3]))
          go_ret
          exact ⟨rB (by unfold Pl.accOk Pl.accKind; rw [h1, h2, h3, h4]; simp), _, rfl⟩
        · cases h5 : (k != 3)
          · cases h6 : (c != 0)
            all_goals
              go_enter Try.func76, Try.ntmps76
              go_wp2_with (first | (go_at_call 63; refine (l1In _ _ _ _).mono ?_; rintro e w' ⟨rfl, rfl⟩; first | rw [h1] | rw [h4]) | (go_at_call 92; refine (l1Value _ _ _).mono ?_; rintro e w' ⟨rfl, rfl⟩; rw [h2]) | (go_at_call 93; refine (l4Addr _ _).mono ?_; rintro e w' ⟨rfl, rfl⟩; rw [h3]))
              go_ret
              exact ⟨rB (by unfold Pl.accOk Pl.accKind; rw [h1, h2, h3, h4, h5, h6]; simp), _, rfl⟩
          · go_enter Try.func76, Try.ntmps76
            go_wp2_with (first | (go_at_call 63; refine (l1In _ _ _ _).mono ?_; rintro e w' ⟨rfl, rfl⟩; first | rw [h1] | rw [h4]) | (go_at_call 92; refine (l1Value _ _ _).mono ?_; rintro e w' ⟨rfl, rfl⟩; rw [h2]) | (go_at_call 93; refine (l4Addr _ _).mono ?_; rintro e w' ⟨rfl, rfl⟩; rw [h3]))
            go_ret
            exact ⟨rB (by unfold Pl.accOk Pl.accKind; rw [h1, h2, h3, h4, h5]; simp), _, rfl⟩

theorem specGoodBus (w : World) (a b : Option Addr) (ca cb m : Nat) (xs ys : List Int) (ha : IRow w a xs) (hb : IRow w b ys) (lx : xs.length ≤ 2000000) (ly : ys.length = 5 * m) (bm : m ≤ 2000000) :
    Calls Try.prog 41 #[.agg #[.slice a xs.length ca, .slice b m cb]] w fun e w' => e = .returned (.bool (Pl.goodBus xs ys m)) ∧ Kept 0 0 w w' := by
  have HA := hide ha
  have HB := hide hb
  have HY := hide ly
  clear ha hb ly
  go_enter Try.func41, Try.ntmps41
  go_wp2
  have HK0 := hide (kept_alloc w (.cells #[.slice a xs.length ca, .slice b m cb] 27))
  have HW := hide (Blk.new w #[.slice a xs.length ca, .slice b m cb] 27)
  obtain ⟨W, hW⟩ : ∃ W : World, W = w.alloc (.cells #[.slice a xs.length ca, .slice b m cb] 27) := ⟨_, rfl⟩
  rw [← hW] at HK0 HW ⊢
  clear hW
  go_loopw [4, 8] (fun _ j wr => ∃ k : Nat, k ≤ m ∧ j = .int .i64 k ∧ (∀ i, i < k → Pl.accAt ys i = true) ∧ Kept 0 0 W wr) (fun _ j _ => m - (intOf j).toNat)
  case atStart => exact ⟨0, Nat.zero_le _, rfl, fun i hi => absurd hi (Nat.not_lt_zero i), Kept.refl _ _ _⟩
  case round =>
    obtain ⟨k, hk, rfl, heq, hkept⟩ := hrel
    have HE := hide heq
    have HK := hide hkept
    clear heq hkept
    by_cases hlt : k < m
    · obtain ⟨g1, o1, rfl, p0, p1, p2, p3, p4⟩ := (HB.out.keptS (HK0.out.trans HK.out)).five HY.out hlt
      cases hb : Pl.accAt ys k
      · have hb2 : Pl.accOk (el ys (k * 5)) (el ys (k * 5 + 1)) (el ys (k * 5 + 2)) (el ys (k * 5 + 3)) (el ys (k * 5 + 4)) = false := hb
        clear hb
        go_wp2_with (go_at_call 76; refine (l4Access _ _ _ _ _ _).mono ?_; rintro e w' ⟨rfl, o, rfl⟩; rw [hb2])
        go_ret
        exact ⟨rB (by unfold Pl.goodBus; rw [Pl.accsOk_no hlt hb2]; rfl), HK0.out.trans (kept_new (kept_new HK.out _) _)⟩
      · have hb2 : Pl.accOk (el ys (k * 5)) (el ys (k * 5 + 1)) (el ys (k * 5 + 2)) (el ys (k * 5 + 3)) (el ys (k * 5 + 4)) = true := hb
        clear hb
        go_wp2_with (go_at_call 76; refine (l4Access _ _ _ _ _ _).mono ?_; rintro e w' ⟨rfl, o, rfl⟩; rw [hb2])
        go_roundw
        case rel => exact ⟨k + 1, by omega, by go_num, snoc_all HE.out hb2, kept_new (kept_new HK.out _) _⟩
        case measure => simp [intOf]; omega
    · have HA1 : Hid (Pl.accsOk ys m = true) := hide (Pl.accsOk_of (fun i hi => HE.out i (by omega)))
      have B := HW.out.kept0 HK.out
      have c0 := B.cell (i := 0) rfl
      have c1 := B.cell (i := 1) rfl
      have HX := hide (HA.out.keptS (HK0.out.trans HK.out))
      clear B
      have G : Hid (Pl.goodBus xs ys m = (((xs.length : Int) == 512) && (Pl.bytesOk xs && decide ((m : Int) ≤ 400)))) := hide (by
        unfold Pl.goodBus
        rw [HA1.out, Bool.true_and]
        congr 1
        · rw [Bool.eq_iff_iff]; simp; omega
        · congr 1; rw [Bool.eq_iff_iff]; simp; omega)
      cases h1 : ((xs.length : Int) == 512)
      · go_wp2_with fail
        go_ret
        exact ⟨rB (by rw [G.out, h1]; rfl), HK0.out.trans HK.out⟩
      · cases h2 : Pl.bytesOk xs
        · go_wp2_with fail
          refine (l4Bytes _ a ca xs HX.out lx).mono ?_
          rintro e w' ⟨rfl, rfl⟩
          rw [h2]
          go_wp2_with fail
          go_ret
          exact ⟨rB (by rw [G.out, h1, h2]; rfl), HK0.out.trans HK.out⟩
        · cases h3 : decide ((m : Int) ≤ 400)
          all_goals
            go_wp2_with fail
            refine (l4Bytes _ a ca xs HX.out lx).mono ?_
            rintro e w' ⟨rfl, rfl⟩
            rw [h2]
            go_wp2_with fail
            go_ret
            exact ⟨rB (by rw [G.out, h1, h2, h3]; rfl), HK0.out.trans HK.out⟩
end Go.Proofs.Ytblddehlkaolbaa

namespace Go.Proofs.Ytblddehlkaolbaa.Pl
set_option linter.unusedVariables false
/-- a value laid there, of a size -/
def wr (xs : List Int) (s : Int) (i : Nat) (v : Int) : List Int := if s = 1 then xs.set i v else (xs.set i (v / 256)).set (i + 1) (v % 256)
end Go.Proofs.Ytblddehlkaolbaa.Pl

namespace Go.Proofs.Ytblddehlkaolbaa.Pl
set_option linter.unusedVariables false

/-- the highest bit -/
def hi (s v : Int) : Int := if top s / 2 ≤ v then 1 else 0
/-- what falls out -/
def fell (k s v : Int) : Int := if k % 2 = 0 then hi s v else v % 2
/-- what comes in -/
def inn (k s x v : Int) : Int := if k = 1 then hi s v else if k = 4 ∨ k = 5 then fell k s v else if 6 ≤ k then x else 0
def nv (k s x v : Int) : Int := if k % 2 = 0 then v * 2 % top s + inn k s x v else v / 2 + inn k s x v * (top s / 2)
def nx (k s x v : Int) : Int := if k = 4 ∨ k = 5 then x else fell k s v
/-- a value and the kept bit, one place on -/
def stp (k s : Int) (p : Int × Int) : Int × Int := (nv k s p.2 p.1, nx k s p.2 p.1)
def st (k s : Int) (p : Int × Int) : Nat → Int × Int
  | 0 => p
  | n + 1 => stp k s (st k s p n)
/-! ### what a call answers -/
end Go.Proofs.Ytblddehlkaolbaa.Pl

namespace Go.Proofs.Ytblddehlkaolbaa.Pl
set_option linter.unusedVariables false

/-- a processor -/
structure Cp where
  r : Rg
  bx : List Int
  bl : List Int
  bm : Nat
  st : Bool
  ha : Bool
/-- a fault -/
structure Ft where
  v : Int
  pc : Int
  ad : Int
  wo : Int
  wr : Bool
/-- a step on its way -/
structure Mc where
  r : Rg
  bx : List Int
  bl : List Int
  bm : Nat
  st : Bool
  f : Ft
def cpOk (c : Cp) : Bool := rgOk c.r && (goodBus c.bx c.bl c.bm && !(c.st && c.ha))
namespace Mc
/- the instruction at PC -/
/- operands -/
/- a step -/
end Mc
end Go.Proofs.Ytblddehlkaolbaa.Pl

namespace Go.Proofs.Ytblddehlkaolbaa
open Go.RowKit
set_option linter.unusedVariables false
/-- a processor's four lists: each in a block of its own, of the span -/
structure CpSl (w : World) (lo hi : Nat) (c : Pl.Cp) (a b e q : Option Addr) : Prop where
  d : SlotIn w lo hi a c.r.xs
  a' : SlotIn w lo hi b c.r.ys
  b' : SlotIn w lo hi e c.bx
  l : SlotIn w lo hi q c.bl
  n1 : ∀ g, blk a = some g → blk b ≠ some g
  n2 : ∀ g, blk a = some g → blk e ≠ some g
  n3 : ∀ g, blk a = some g → blk q ≠ some g
  n4 : ∀ g, blk b = some g → blk e ≠ some g
  n5 : ∀ g, blk b = some g → blk q ≠ some g
  n6 : ∀ g, blk e = some g → blk q ≠ some g
theorem CpSl.kept {w w' : World} {l h lo hi : Nat} {c : Pl.Cp} {a b e q : Option Addr} (s : CpSl w l h c a b e q) (k : Kept lo hi w w') (hd : h ≤ lo ∨ hi ≤ l ∨ hi ≤ lo) : CpSl w' l h c a b e q :=
  ⟨s.d.kept k hd, s.a'.kept k hd, s.b'.kept k hd, s.l.kept k hd, s.n1, s.n2, s.n3, s.n4, s.n5, s.n6⟩
def szC (n m k j : Nat) (left : Int) : Int := if szB n m left < 0 then -1 else szB k j (szB n m left)
theorem szC_neg {n m k j : Nat} {left : Int} (h : ¬ szC n m k j left < 0) : (n : Int) + (m : Int) + (k : Int) + (j : Int) ≤ left := by
  unfold szC at h
  split at h
  · exact absurd (by decide) h
  · rename_i h1
    have a1 := szB_neg h1
    have a2 := szB_neg h
    unfold szB at a2
    split at a2
    · omega
    · split at a2 <;> omega
theorem szB_hi {n m : Nat} {left : Int} (h : ¬ szB n m left < 0) : 0 ≤ szB n m left ∧ szB n m left ≤ left := by
  unfold szB at h ⊢
  split
  · rename_i h1; rw [if_pos h1] at h; exact absurd (by decide) h
  · rename_i h1
    rw [if_neg h1] at h
    split
    · rename_i h2; rw [if_pos h2] at h; exact absurd (by decide) h
    · omega
theorem szB_minus {n m : Nat} {left : Int} (h : szB n m left < 0) : szB n m left = -1 := by
  unfold szB at h ⊢
  split
  · rfl
  · rename_i h1
    rw [if_neg h1] at h
    split
    · rfl
    · rename_i h2; rw [if_neg h2] at h; omega
theorem szCpu (w : World) (c : Pl.Cp) (a b e q : Option Addr) (ca cb ce cq : Nat) (left : Int) (lx : c.r.xs.length ≤ 9223372036854775807) (ly : c.r.ys.length ≤ 9223372036854775807) (lb : c.bx.length ≤ 9223372036854775807) (lm : c.bm ≤ 9223372036854775807) (l0 : 0 ≤ left) (l1 : left ≤ 2000000) :
    Calls Try.prog 16 #[.agg #[.slice a c.r.xs.length ca, .slice b c.r.ys.length cb, .int .i64 c.r.o, .int .i64 c.r.p, .int .i64 c.r.f, .int .i64 c.r.m, .bool c.r.s, .bool c.r.t, .slice e c.bx.length ce, .slice q c.bm cq, .bool c.st, .bool c.ha], .int .i64 left] w fun r w' => r = .returned (.int .i64 (szC c.r.xs.length c.r.ys.length c.bx.length c.bm left)) ∧ Kept 0 0 w w' := by
  have K0 := hide (kept_alloc w (.cells #[.slice a c.r.xs.length ca, .slice b c.r.ys.length cb, .int .i64 c.r.o, .int .i64 c.r.p, .int .i64 c.r.f, .int .i64 c.r.m, .bool c.r.s, .bool c.r.t, .slice e c.bx.length ce, .slice q c.bm cq, .bool c.st, .bool c.ha] 43))
  have B0 := hide (Blk.new w #[.slice a c.r.xs.length ca, .slice b c.r.ys.length cb, .int .i64 c.r.o, .int .i64 c.r.p, .int .i64 c.r.f, .int .i64 c.r.m, .bool c.r.s, .bool c.r.t, .slice e c.bx.length ce, .slice q c.bm cq, .bool c.st, .bool c.ha] 43)
  by_cases h : szB c.r.xs.length c.r.ys.length left < 0
  · have E : Hid (szC c.r.xs.length c.r.ys.length c.bx.length c.bm left = -1) := hide (by simp [szC, h])
    have e1 := szB_minus h
    go_enter Try.func16, Try.ntmps16
    go_wp2_with fail
    refine (szRegs _ _ _ _ _ _ _ _ _ _ _ _ _ left lx ly l0 l1).mono ?_
    rintro e9 w1 ⟨rfl, k⟩
    rw [e1]
    have HK := hide (K0.out.trans k)
    clear k
    go_wp2_with fail
    go_ret
    exact ⟨rI E.out.symm, HK.out⟩
  · obtain ⟨s0, s1⟩ := szB_hi h
    have E : Hid (szC c.r.xs.length c.r.ys.length c.bx.length c.bm left = szB c.bx.length c.bm (szB c.r.xs.length c.r.ys.length left)) := hide (by simp [szC, h])
    revert h s0 s1 E
    generalize hS : szB c.r.xs.length c.r.ys.length left = S
    have HS := hide hS
    clear hS
    intro h s0 s1 E
    by_cases h2 : szB c.bx.length c.bm S < 0
    all_goals
      have E2 := hide (fun q => @szB_minus c.bx.length c.bm S q)
      go_enter Try.func16, Try.ntmps16
      go_wp2_with fail
      refine (szRegs _ _ _ _ _ _ _ _ _ _ _ _ _ left lx ly l0 l1).mono ?_
      rintro e9 w1 ⟨rfl, k⟩
      rw [HS.out]
      have HK := hide (K0.out.trans k)
      have B1 := hide (B0.out.kept0 k)
      clear k
      have i8 := B1.out.cell (i := 8) rfl
      have i9 := B1.out.cell (i := 9) rfl
      go_wp2_with fail
      refine (szBus _ _ _ _ _ _ _ S lb lm s0 (by omega)).mono ?_
      rintro e9 w2 ⟨rfl, k⟩
      have HK2 := hide (HK.out.trans k)
      clear k i8 i9
      go_wp2_with fail
      go_ret
      first
        | exact ⟨rI E.out.symm, HK2.out⟩
        | exact ⟨rI (by rw [E.out, E2.out h2]), HK2.out⟩
set_option maxHeartbeats 4000000 in
theorem eqCpu (w : World) (c : Pl.Cp) (a b e q a2 b2 e2 q2 : Option Addr) (ca cb ce cq ca2 cb2 ce2 cq2 : Nat) (ha : IRow w a c.r.xs) (hb : IRow w b c.r.ys) (he : IRow w e c.bx) (hq : IRow w q c.bl) (ha2 : IRow w a2 c.r.xs) (hb2 : IRow w b2 c.r.ys) (he2 : IRow w e2 c.bx) (hq2 : IRow w q2 c.bl) (lx : c.r.xs.length ≤ 2000000) (ly : c.r.ys.length ≤ 2000000) (lb : c.bx.length ≤ 2000000) (ll : c.bl.length = 5 * c.bm) (lm : c.bm ≤ 2000000) :
    Calls Try.prog 11 #[.agg #[.slice a c.r.xs.length ca, .slice b c.r.ys.length cb, .int .i64 c.r.o, .int .i64 c.r.p, .int .i64 c.r.f, .int .i64 c.r.m, .bool c.r.s, .bool c.r.t, .slice e c.bx.length ce, .slice q c.bm cq, .bool c.st, .bool c.ha], .agg #[.slice a2 c.r.xs.length ca2, .slice b2 c.r.ys.length cb2, .int .i64 c.r.o, .int .i64 c.r.p, .int .i64 c.r.f, .int .i64 c.r.m, .bool c.r.s, .bool c.r.t, .slice e2 c.bx.length ce2, .slice q2 c.bm cq2, .bool c.st, .bool c.ha]] w fun r w' => r = .returned (.bool true) ∧ Kept 0 0 w w' := by
  have K0 := hide (kept_new (kept_alloc w (.cells #[.slice a c.r.xs.length ca, .slice b c.r.ys.length cb, .int .i64 c.r.o, .int .i64 c.r.p, .int .i64 c.r.f, .int .i64 c.r.m, .bool c.r.s, .bool c.r.t, .slice e c.bx.length ce, .slice q c.bm cq, .bool c.st, .bool c.ha] 29)) (.cells #[.slice a2 c.r.xs.length ca2, .slice b2 c.r.ys.length cb2, .int .i64 c.r.o, .int .i64 c.r.p, .int .i64 c.r.f, .int .i64 c.r.m, .bool c.r.s, .bool c.r.t, .slice e2 c.bx.length ce2, .slice q2 c.bm cq2, .bool c.st, .bool c.ha] 29))
  have B0 := (Blk.new w #[.slice a c.r.xs.length ca, .slice b c.r.ys.length cb, .int .i64 c.r.o, .int .i64 c.r.p, .int .i64 c.r.f, .int .i64 c.r.m, .bool c.r.s, .bool c.r.t, .slice e c.bx.length ce, .slice q c.bm cq, .bool c.st, .bool c.ha] 29).alloc (.cells #[.slice a2 c.r.xs.length ca2, .slice b2 c.r.ys.length cb2, .int .i64 c.r.o, .int .i64 c.r.p, .int .i64 c.r.f, .int .i64 c.r.m, .bool c.r.s, .bool c.r.t, .slice e2 c.bx.length ce2, .slice q2 c.bm cq2, .bool c.st, .bool c.ha] 29)
  have B1 := Blk.new (w.alloc (.cells #[.slice a c.r.xs.length ca, .slice b c.r.ys.length cb, .int .i64 c.r.o, .int .i64 c.r.p, .int .i64 c.r.f, .int .i64 c.r.m, .bool c.r.s, .bool c.r.t, .slice e c.bx.length ce, .slice q c.bm cq, .bool c.st, .bool c.ha] 29)) #[.slice a2 c.r.xs.length ca2, .slice b2 c.r.ys.length cb2, .int .i64 c.r.o, .int .i64 c.r.p, .int .i64 c.r.f, .int .i64 c.r.m, .bool c.r.s, .bool c.r.t, .slice e2 c.bx.length ce2, .slice q2 c.bm cq2, .bool c.st, .bool c.ha] 29
  simp only [World.size_alloc] at B1
  obtain ⟨X, hX⟩ : ∃ X : World, (w.alloc (.cells #[.slice a c.r.xs.length ca, .slice b c.r.ys.length cb, .int .i64 c.r.o, .int .i64 c.r.p, .int .i64 c.r.f, .int .i64 c.r.m, .bool c.r.s, .bool c.r.t, .slice e c.bx.length ce, .slice q c.bm cq, .bool c.st, .bool c.ha] 29)).alloc (.cells #[.slice a2 c.r.xs.length ca2, .slice b2 c.r.ys.length cb2, .int .i64 c.r.o, .int .i64 c.r.p, .int .i64 c.r.f, .int .i64 c.r.m, .bool c.r.s, .bool c.r.t, .slice e2 c.bx.length ce2, .slice q2 c.bm cq2, .bool c.st, .bool c.ha] 29) = X := ⟨_, rfl⟩
  rw [hX] at K0 B0 B1
  have HB0 := hide B0
  have HB1 := hide B1
  have i0 := B0.cell (i := 0) rfl
  have i1 := B0.cell (i := 1) rfl
  have i2 := B0.cell (i := 2) rfl
  have i3 := B0.cell (i := 3) rfl
  have i4 := B0.cell (i := 4) rfl
  have i5 := B0.cell (i := 5) rfl
  have i6 := B0.cell (i := 6) rfl
  have i7 := B0.cell (i := 7) rfl
  have i8 := B0.cell (i := 8) rfl
  have i9 := B0.cell (i := 9) rfl
  have i10 := B0.cell (i := 10) rfl
  have i11 := B0.cell (i := 11) rfl
  have j0 := B1.cell (i := 0) rfl
  have j1 := B1.cell (i := 1) rfl
  have j2 := B1.cell (i := 2) rfl
  have j3 := B1.cell (i := 3) rfl
  have j4 := B1.cell (i := 4) rfl
  have j5 := B1.cell (i := 5) rfl
  have j6 := B1.cell (i := 6) rfl
  have j7 := B1.cell (i := 7) rfl
  have j8 := B1.cell (i := 8) rfl
  have j9 := B1.cell (i := 9) rfl
  have j10 := B1.cell (i := 10) rfl
  have j11 := B1.cell (i := 11) rfl
  have HL := hide ll
  have HE := hide (he.keptS K0.out)
  have HQ := hide (hq.keptS K0.out)
  have HE2 := hide (he2.keptS K0.out)
  have HQ2 := hide (hq2.keptS K0.out)
  have HA := hide (ha.keptS K0.out)
  have HB := hide (hb.keptS K0.out)
  have HA2 := hide (ha2.keptS K0.out)
  have HBB2 := hide (hb2.keptS K0.out)
  clear B0 B1 ll ha hb he hq ha2 hb2 he2 hq2
  go_enter Try.func11, Try.ntmps11
  go_wp2_with fail
  refine (eqRegs _ c.r.o c.r.p c.r.f c.r.m c.r.s c.r.t a b a2 b2 ca cb ca2 cb2 c.r.xs c.r.ys HA.out HB.out HA2.out HBB2.out lx ly).mono ?_
  rintro e9 w1 ⟨rfl, k⟩
  have K1 := hide (K0.out.trans k)
  have C0 := hide (HB0.out.kept0 k)
  have C1 := hide (HB1.out.kept0 k)
  have HE' := hide (HE.out.keptS k)
  have HQ' := hide (HQ.out.keptS k)
  have HE2' := hide (HE2.out.keptS k)
  have HQ2' := hide (HQ2.out.keptS k)
  clear k i0 j0 i1 j1 i2 j2 i3 j3 i4 j4 i5 j5 i6 j6 i7 j7 i8 j8 i9 j9 i10 j10 i11 j11
  have i8 := C0.out.cell (i := 8) rfl
  have i9 := C0.out.cell (i := 9) rfl
  have i10 := C0.out.cell (i := 10) rfl
  have i11 := C0.out.cell (i := 11) rfl
  have j8 := C1.out.cell (i := 8) rfl
  have j9 := C1.out.cell (i := 9) rfl
  have j10 := C1.out.cell (i := 10) rfl
  have j11 := C1.out.cell (i := 11) rfl
  go_wp2_with fail
  refine (eqBus _ e q e2 q2 ce cq ce2 cq2 c.bm c.bm c.bx c.bl c.bx c.bl HE'.out HQ'.out HE2'.out HQ2'.out lb lb HL.out HL.out lm lm).mono ?_
  rintro e9 w2 ⟨rfl, k⟩
  rw [show (decide (c.bx = c.bx) && decide (c.bl = c.bl)) = true from by simp]
  have K2 := hide (K1.out.trans k)
  have D0 := hide (C0.out.kept0 k)
  have D1 := hide (C1.out.kept0 k)
  clear k i8 i9 i10 i11 j8 j9 j10 j11
  have i10 := D0.out.cell (i := 10) rfl
  have i11 := D0.out.cell (i := 11) rfl
  have j10 := D1.out.cell (i := 10) rfl
  have j11 := D1.out.cell (i := 11) rfl
  go_wp2_with fail
  go_ret
  exact ⟨rfl, K2.out⟩
end Go.Proofs.Ytblddehlkaolbaa

namespace Go.Proofs.Ytblddehlkaolbaa
open Go.RowKit
set_option linter.unusedVariables false
set_option maxRecDepth 100000 in
set_option maxHeartbeats 8000000 in
theorem toCpu (w : World) (c : Pl.Cp) (a b e q : Option Addr) (ca cb ce cq : Nat) (ha : IRow w a c.r.xs) (hb : IRow w b c.r.ys) (he : IRow w e c.bx) (hq : IRow w q c.bl) (lx : c.r.xs.length ≤ 2000000) (ly : c.r.ys.length ≤ 2000000) (lb : c.bx.length ≤ 2000000) (ll : c.bl.length = 5 * c.bm) (lm : c.bm ≤ 2000000) :
    Calls Try.prog 18 #[.agg #[.slice a c.r.xs.length ca, .slice b c.r.ys.length cb, .int .i64 c.r.o, .int .i64 c.r.p, .int .i64 c.r.f, .int .i64 c.r.m, .bool c.r.s, .bool c.r.t, .slice e c.bx.length ce, .slice q c.bm cq, .bool c.st, .bool c.ha]] w fun r w' => ∃ g1 g2 g3 g4 : Nat, r = .returned (.agg #[.slice (some ⟨g1, 0, none⟩) c.r.xs.length c.r.xs.length, .slice (some ⟨g2, 0, none⟩) c.r.ys.length c.r.ys.length, .int .i64 c.r.o, .int .i64 c.r.p, .int .i64 c.r.f, .int .i64 c.r.m, .bool c.r.s, .bool c.r.t, .slice (some ⟨g3, 0, none⟩) c.bx.length c.bx.length, .slice (some ⟨g4, 0, none⟩) c.bm c.bm, .bool c.st, .bool c.ha]) ∧ CpSl w' w.heap.size w'.heap.size c (some ⟨g1, 0, none⟩) (some ⟨g2, 0, none⟩) (some ⟨g3, 0, none⟩) (some ⟨g4, 0, none⟩) ∧ Kept 0 0 w w' := by
  have k0 : Kept 0 0 w (((w.alloc (.cells #[.slice a c.r.xs.length ca, .slice b c.r.ys.length cb, .int .i64 c.r.o, .int .i64 c.r.p, .int .i64 c.r.f, .int .i64 c.r.m, .bool c.r.s, .bool c.r.t, .slice e c.bx.length ce, .slice q c.bm cq, .bool c.st, .bool c.ha] 43)).alloc (.cells #[.slice none 0 0, .slice none 0 0, .int .i64 0, .int .i64 0, .int .i64 0, .int .i64 0, .bool false, .bool false, .slice none 0 0, .slice none 0 0, .bool false, .bool false] 29)).alloc (.cells #[.slice none 0 0, .slice none 0 0, .int .i64 0, .int .i64 0, .int .i64 0, .int .i64 0, .bool false, .bool false, .slice none 0 0, .slice none 0 0, .bool false, .bool false] 29)) := kept_new (kept_new (kept_alloc _ _) _) _
  have BA := ((Blk.new w #[.slice a c.r.xs.length ca, .slice b c.r.ys.length cb, .int .i64 c.r.o, .int .i64 c.r.p, .int .i64 c.r.f, .int .i64 c.r.m, .bool c.r.s, .bool c.r.t, .slice e c.bx.length ce, .slice q c.bm cq, .bool c.st, .bool c.ha] 43).alloc (.cells #[.slice none 0 0, .slice none 0 0, .int .i64 0, .int .i64 0, .int .i64 0, .int .i64 0, .bool false, .bool false, .slice none 0 0, .slice none 0 0, .bool false, .bool false] 29)).alloc (.cells #[.slice none 0 0, .slice none 0 0, .int .i64 0, .int .i64 0, .int .i64 0, .int .i64 0, .bool false, .bool false, .slice none 0 0, .slice none 0 0, .bool false, .bool false] 29)
  have BR := (Blk.new (w.alloc (.cells #[.slice a c.r.xs.length ca, .slice b c.r.ys.length cb, .int .i64 c.r.o, .int .i64 c.r.p, .int .i64 c.r.f, .int .i64 c.r.m, .bool c.r.s, .bool c.r.t, .slice e c.bx.length ce, .slice q c.bm cq, .bool c.st, .bool c.ha] 43)) #[.slice none 0 0, .slice none 0 0, .int .i64 0, .int .i64 0, .int .i64 0, .int .i64 0, .bool false, .bool false, .slice none 0 0, .slice none 0 0, .bool false, .bool false] 29).alloc (.cells #[.slice none 0 0, .slice none 0 0, .int .i64 0, .int .i64 0, .int .i64 0, .int .i64 0, .bool false, .bool false, .slice none 0 0, .slice none 0 0, .bool false, .bool false] 29)
  have BO := Blk.new ((w.alloc (.cells #[.slice a c.r.xs.length ca, .slice b c.r.ys.length cb, .int .i64 c.r.o, .int .i64 c.r.p, .int .i64 c.r.f, .int .i64 c.r.m, .bool c.r.s, .bool c.r.t, .slice e c.bx.length ce, .slice q c.bm cq, .bool c.st, .bool c.ha] 43)).alloc (.cells #[.slice none 0 0, .slice none 0 0, .int .i64 0, .int .i64 0, .int .i64 0, .int .i64 0, .bool false, .bool false, .slice none 0 0, .slice none 0 0, .bool false, .bool false] 29)) #[.slice none 0 0, .slice none 0 0, .int .i64 0, .int .i64 0, .int .i64 0, .int .i64 0, .bool false, .bool false, .slice none 0 0, .slice none 0 0, .bool false, .bool false] 29
  simp only [World.size_alloc] at BR BO
  obtain ⟨X, hX⟩ : ∃ X : World, (((w.alloc (.cells #[.slice a c.r.xs.length ca, .slice b c.r.ys.length cb, .int .i64 c.r.o, .int .i64 c.r.p, .int .i64 c.r.f, .int .i64 c.r.m, .bool c.r.s, .bool c.r.t, .slice e c.bx.length ce, .slice q c.bm cq, .bool c.st, .bool c.ha] 43)).alloc (.cells #[.slice none 0 0, .slice none 0 0, .int .i64 0, .int .i64 0, .int .i64 0, .int .i64 0, .bool false, .bool false, .slice none 0 0, .slice none 0 0, .bool false, .bool false] 29)).alloc (.cells #[.slice none 0 0, .slice none 0 0, .int .i64 0, .int .i64 0, .int .i64 0, .int .i64 0, .bool false, .bool false, .slice none 0 0, .slice none 0 0, .bool false, .bool false] 29)) = X := ⟨_, rfl⟩
  rw [hX] at k0 BA BR BO
  have n0 := BO.lt
  have K0 := hide k0
  have HBA := hide BA
  have HBR := hide BR
  have HBO := hide BO
  have HA := hide (ha.keptS k0)
  have HB := hide (hb.keptS k0)
  have HE := hide he
  have HQ := hide hq
  have HL := hide ll
  have i0 := BA.cell (i := 0) rfl
  have i1 := BA.cell (i := 1) rfl
  have i2 := BA.cell (i := 2) rfl
  have i3 := BA.cell (i := 3) rfl
  have i4 := BA.cell (i := 4) rfl
  have i5 := BA.cell (i := 5) rfl
  have i6 := BA.cell (i := 6) rfl
  have i7 := BA.cell (i := 7) rfl
  have i8 := BA.cell (i := 8) rfl
  have i9 := BA.cell (i := 9) rfl
  have i10 := BA.cell (i := 10) rfl
  have i11 := BA.cell (i := 11) rfl
  clear k0 BA BR BO ha hb he hq ll
  go_enter Try.func18, Try.ntmps18
  go_wp2_with fail
  refine (toRegs _ c.r.o c.r.p c.r.f c.r.m c.r.s c.r.t a b ca cb c.r.xs c.r.ys HA.out HB.out lx ly).mono ?_
  rintro e9 w1 ⟨g1, g2, rfl, o1, o2, l1, l2, l3, k⟩
  have HA1 := hide (HBA.out.kept0 k)
  have HR1 := hide (HBR.out.kept0 k)
  have HO1 := hide (HBO.out.kept0 k)
  have K1 := hide (K0.out.trans k)
  have k1s := k.size
  have OW1 := hide o1
  have OW2 := hide o2
  clear k o1 o2 i0 i1 i2 i3 i4 i5 i6 i7 i8 i9 i10 i11
  have o0 := HO1.out.cell (i := 0) rfl
  have of0 := HO1.out.frozen 0
  have o1 := HO1.out.cell (i := 1) rfl
  have of1 := HO1.out.frozen 1
  have o2 := HO1.out.cell (i := 2) rfl
  have of2 := HO1.out.frozen 2
  have o3 := HO1.out.cell (i := 3) rfl
  have of3 := HO1.out.frozen 3
  have o4 := HO1.out.cell (i := 4) rfl
  have of4 := HO1.out.frozen 4
  have o5 := HO1.out.cell (i := 5) rfl
  have of5 := HO1.out.frozen 5
  have o6 := HO1.out.cell (i := 6) rfl
  have of6 := HO1.out.frozen 6
  have o7 := HO1.out.cell (i := 7) rfl
  have of7 := HO1.out.frozen 7
  have K2 : Kept 0 0 w ((((((((w1.setCell ⟨w.heap.size + 2, 0, none⟩ (.slice (some ⟨g1, 0, none⟩) c.r.xs.length c.r.xs.length)).setCell ⟨w.heap.size + 2, 1, none⟩ (.slice (some ⟨g2, 0, none⟩) c.r.ys.length c.r.ys.length)).setCell ⟨w.heap.size + 2, 2, none⟩ (.int .i64 c.r.o)).setCell ⟨w.heap.size + 2, 3, none⟩ (.int .i64 c.r.p)).setCell ⟨w.heap.size + 2, 4, none⟩ (.int .i64 c.r.f)).setCell ⟨w.heap.size + 2, 5, none⟩ (.int .i64 c.r.m)).setCell ⟨w.heap.size + 2, 6, none⟩ (.bool c.r.s)).setCell ⟨w.heap.size + 2, 7, none⟩ (.bool c.r.t)) := (kept_set (kept_set (kept_set (kept_set (kept_set (kept_set (kept_set (kept_set K1.out _ _ _ (.inr (by omega))) _ _ _ (.inr (by omega))) _ _ _ (.inr (by omega))) _ _ _ (.inr (by omega))) _ _ _ (.inr (by omega))) _ _ _ (.inr (by omega))) _ _ _ (.inr (by omega))) _ _ _ (.inr (by omega)))
  have HO2_0 : Blk (w1.setCell ⟨w.heap.size + 2, 0, none⟩ (.slice (some ⟨g1, 0, none⟩) c.r.xs.length c.r.xs.length)) (w.heap.size + 2) #[.slice (some ⟨g1, 0, none⟩) c.r.xs.length c.r.xs.length, .slice none 0 0, .int .i64 0, .int .i64 0, .int .i64 0, .int .i64 0, .bool false, .bool false, .slice none 0 0, .slice none 0 0, .bool false, .bool false] 29 := HO1.out.set 0 (.slice (some ⟨g1, 0, none⟩) c.r.xs.length c.r.xs.length)
  have HO2_1 : Blk ((w1.setCell ⟨w.heap.size + 2, 0, none⟩ (.slice (some ⟨g1, 0, none⟩) c.r.xs.length c.r.xs.length)).setCell ⟨w.heap.size + 2, 1, none⟩ (.slice (some ⟨g2, 0, none⟩) c.r.ys.length c.r.ys.length)) (w.heap.size + 2) #[.slice (some ⟨g1, 0, none⟩) c.r.xs.length c.r.xs.length, .slice (some ⟨g2, 0, none⟩) c.r.ys.length c.r.ys.length, .int .i64 0, .int .i64 0, .int .i64 0, .int .i64 0, .bool false, .bool false, .slice none 0 0, .slice none 0 0, .bool false, .bool false] 29 := HO2_0.set 1 (.slice (some ⟨g2, 0, none⟩) c.r.ys.length c.r.ys.length)
  have HO2_2 : Blk (((w1.setCell ⟨w.heap.size + 2, 0, none⟩ (.slice (some ⟨g1, 0, none⟩) c.r.xs.length c.r.xs.length)).setCell ⟨w.heap.size + 2, 1, none⟩ (.slice (some ⟨g2, 0, none⟩) c.r.ys.length c.r.ys.length)).setCell ⟨w.heap.size + 2, 2, none⟩ (.int .i64 c.r.o)) (w.heap.size + 2) #[.slice (some ⟨g1, 0, none⟩) c.r.xs.length c.r.xs.length, .slice (some ⟨g2, 0, none⟩) c.r.ys.length c.r.ys.length, .int .i64 c.r.o, .int .i64 0, .int .i64 0, .int .i64 0, .bool false, .bool false, .slice none 0 0, .slice none 0 0, .bool false, .bool false] 29 := HO2_1.set 2 (.int .i64 c.r.o)
  have HO2_3 : Blk ((((w1.setCell ⟨w.heap.size + 2, 0, none⟩ (.slice (some ⟨g1, 0, none⟩) c.r.xs.length c.r.xs.length)).setCell ⟨w.heap.size + 2, 1, none⟩ (.slice (some ⟨g2, 0, none⟩) c.r.ys.length c.r.ys.length)).setCell ⟨w.heap.size + 2, 2, none⟩ (.int .i64 c.r.o)).setCell ⟨w.heap.size + 2, 3, none⟩ (.int .i64 c.r.p)) (w.heap.size + 2) #[.slice (some ⟨g1, 0, none⟩) c.r.xs.length c.r.xs.length, .slice (some ⟨g2, 0, none⟩) c.r.ys.length c.r.ys.length, .int .i64 c.r.o, .int .i64 c.r.p, .int .i64 0, .int .i64 0, .bool false, .bool false, .slice none 0 0, .slice none 0 0, .bool false, .bool false] 29 := HO2_2.set 3 (.int .i64 c.r.p)
  have HO2_4 : Blk (((((w1.setCell ⟨w.heap.size + 2, 0, none⟩ (.slice (some ⟨g1, 0, none⟩) c.r.xs.length c.r.xs.length)).setCell ⟨w.heap.size + 2, 1, none⟩ (.slice (some ⟨g2, 0, none⟩) c.r.ys.length c.r.ys.length)).setCell ⟨w.heap.size + 2, 2, none⟩ (.int .i64 c.r.o)).setCell ⟨w.heap.size + 2, 3, none⟩ (.int .i64 c.r.p)).setCell ⟨w.heap.size + 2, 4, none⟩ (.int .i64 c.r.f)) (w.heap.size + 2) #[.slice (some ⟨g1, 0, none⟩) c.r.xs.length c.r.xs.length, .slice (some ⟨g2, 0, none⟩) c.r.ys.length c.r.ys.length, .int .i64 c.r.o, .int .i64 c.r.p, .int .i64 c.r.f, .int .i64 0, .bool false, .bool false, .slice none 0 0, .slice none 0 0, .bool false, .bool false] 29 := HO2_3.set 4 (.int .i64 c.r.f)
  have HO2_5 : Blk ((((((w1.setCell ⟨w.heap.size + 2, 0, none⟩ (.slice (some ⟨g1, 0, none⟩) c.r.xs.length c.r.xs.length)).setCell ⟨w.heap.size + 2, 1, none⟩ (.slice (some ⟨g2, 0, none⟩) c.r.ys.length c.r.ys.length)).setCell ⟨w.heap.size + 2, 2, none⟩ (.int .i64 c.r.o)).setCell ⟨w.heap.size + 2, 3, none⟩ (.int .i64 c.r.p)).setCell ⟨w.heap.size + 2, 4, none⟩ (.int .i64 c.r.f)).setCell ⟨w.heap.size + 2, 5, none⟩ (.int .i64 c.r.m)) (w.heap.size + 2) #[.slice (some ⟨g1, 0, none⟩) c.r.xs.length c.r.xs.length, .slice (some ⟨g2, 0, none⟩) c.r.ys.length c.r.ys.length, .int .i64 c.r.o, .int .i64 c.r.p, .int .i64 c.r.f, .int .i64 c.r.m, .bool false, .bool false, .slice none 0 0, .slice none 0 0, .bool false, .bool false] 29 := HO2_4.set 5 (.int .i64 c.r.m)
  have HO2_6 : Blk (((((((w1.setCell ⟨w.heap.size + 2, 0, none⟩ (.slice (some ⟨g1, 0, none⟩) c.r.xs.length c.r.xs.length)).setCell ⟨w.heap.size + 2, 1, none⟩ (.slice (some ⟨g2, 0, none⟩) c.r.ys.length c.r.ys.length)).setCell ⟨w.heap.size + 2, 2, none⟩ (.int .i64 c.r.o)).setCell ⟨w.heap.size + 2, 3, none⟩ (.int .i64 c.r.p)).setCell ⟨w.heap.size + 2, 4, none⟩ (.int .i64 c.r.f)).setCell ⟨w.heap.size + 2, 5, none⟩ (.int .i64 c.r.m)).setCell ⟨w.heap.size + 2, 6, none⟩ (.bool c.r.s)) (w.heap.size + 2) #[.slice (some ⟨g1, 0, none⟩) c.r.xs.length c.r.xs.length, .slice (some ⟨g2, 0, none⟩) c.r.ys.length c.r.ys.length, .int .i64 c.r.o, .int .i64 c.r.p, .int .i64 c.r.f, .int .i64 c.r.m, .bool c.r.s, .bool false, .slice none 0 0, .slice none 0 0, .bool false, .bool false] 29 := HO2_5.set 6 (.bool c.r.s)
  have HO2 : Blk ((((((((w1.setCell ⟨w.heap.size + 2, 0, none⟩ (.slice (some ⟨g1, 0, none⟩) c.r.xs.length c.r.xs.length)).setCell ⟨w.heap.size + 2, 1, none⟩ (.slice (some ⟨g2, 0, none⟩) c.r.ys.length c.r.ys.length)).setCell ⟨w.heap.size + 2, 2, none⟩ (.int .i64 c.r.o)).setCell ⟨w.heap.size + 2, 3, none⟩ (.int .i64 c.r.p)).setCell ⟨w.heap.size + 2, 4, none⟩ (.int .i64 c.r.f)).setCell ⟨w.heap.size + 2, 5, none⟩ (.int .i64 c.r.m)).setCell ⟨w.heap.size + 2, 6, none⟩ (.bool c.r.s)).setCell ⟨w.heap.size + 2, 7, none⟩ (.bool c.r.t)) (w.heap.size + 2) #[.slice (some ⟨g1, 0, none⟩) c.r.xs.length c.r.xs.length, .slice (some ⟨g2, 0, none⟩) c.r.ys.length c.r.ys.length, .int .i64 c.r.o, .int .i64 c.r.p, .int .i64 c.r.f, .int .i64 c.r.m, .bool c.r.s, .bool c.r.t, .slice none 0 0, .slice none 0 0, .bool false, .bool false] 29 := HO2_6.set 7 (.bool c.r.t)
  have HA2 : Blk ((((((((w1.setCell ⟨w.heap.size + 2, 0, none⟩ (.slice (some ⟨g1, 0, none⟩) c.r.xs.length c.r.xs.length)).setCell ⟨w.heap.size + 2, 1, none⟩ (.slice (some ⟨g2, 0, none⟩) c.r.ys.length c.r.ys.length)).setCell ⟨w.heap.size + 2, 2, none⟩ (.int .i64 c.r.o)).setCell ⟨w.heap.size + 2, 3, none⟩ (.int .i64 c.r.p)).setCell ⟨w.heap.size + 2, 4, none⟩ (.int .i64 c.r.f)).setCell ⟨w.heap.size + 2, 5, none⟩ (.int .i64 c.r.m)).setCell ⟨w.heap.size + 2, 6, none⟩ (.bool c.r.s)).setCell ⟨w.heap.size + 2, 7, none⟩ (.bool c.r.t)) w.heap.size #[.slice a c.r.xs.length ca, .slice b c.r.ys.length cb, .int .i64 c.r.o, .int .i64 c.r.p, .int .i64 c.r.f, .int .i64 c.r.m, .bool c.r.s, .bool c.r.t, .slice e c.bx.length ce, .slice q c.bm cq, .bool c.st, .bool c.ha] 43 := ((((((((HA1.out.other _ _ _ (by omega)).other _ _ _ (by omega)).other _ _ _ (by omega)).other _ _ _ (by omega)).other _ _ _ (by omega)).other _ _ _ (by omega)).other _ _ _ (by omega)).other _ _ _ (by omega))
  have HR2 : Blk ((((((((w1.setCell ⟨w.heap.size + 2, 0, none⟩ (.slice (some ⟨g1, 0, none⟩) c.r.xs.length c.r.xs.length)).setCell ⟨w.heap.size + 2, 1, none⟩ (.slice (some ⟨g2, 0, none⟩) c.r.ys.length c.r.ys.length)).setCell ⟨w.heap.size + 2, 2, none⟩ (.int .i64 c.r.o)).setCell ⟨w.heap.size + 2, 3, none⟩ (.int .i64 c.r.p)).setCell ⟨w.heap.size + 2, 4, none⟩ (.int .i64 c.r.f)).setCell ⟨w.heap.size + 2, 5, none⟩ (.int .i64 c.r.m)).setCell ⟨w.heap.size + 2, 6, none⟩ (.bool c.r.s)).setCell ⟨w.heap.size + 2, 7, none⟩ (.bool c.r.t)) (w.heap.size + 1) #[.slice none 0 0, .slice none 0 0, .int .i64 0, .int .i64 0, .int .i64 0, .int .i64 0, .bool false, .bool false, .slice none 0 0, .slice none 0 0, .bool false, .bool false] 29 := ((((((((HR1.out.other _ _ _ (by omega)).other _ _ _ (by omega)).other _ _ _ (by omega)).other _ _ _ (by omega)).other _ _ _ (by omega)).other _ _ _ (by omega)).other _ _ _ (by omega)).other _ _ _ (by omega))
  have P1 : Own ((((((((w1.setCell ⟨w.heap.size + 2, 0, none⟩ (.slice (some ⟨g1, 0, none⟩) c.r.xs.length c.r.xs.length)).setCell ⟨w.heap.size + 2, 1, none⟩ (.slice (some ⟨g2, 0, none⟩) c.r.ys.length c.r.ys.length)).setCell ⟨w.heap.size + 2, 2, none⟩ (.int .i64 c.r.o)).setCell ⟨w.heap.size + 2, 3, none⟩ (.int .i64 c.r.p)).setCell ⟨w.heap.size + 2, 4, none⟩ (.int .i64 c.r.f)).setCell ⟨w.heap.size + 2, 5, none⟩ (.int .i64 c.r.m)).setCell ⟨w.heap.size + 2, 6, none⟩ (.bool c.r.s)).setCell ⟨w.heap.size + 2, 7, none⟩ (.bool c.r.t)) g1 c.r.xs := ((((((((OW1.out.setOther _ _ _ (by omega)).setOther _ _ _ (by omega)).setOther _ _ _ (by omega)).setOther _ _ _ (by omega)).setOther _ _ _ (by omega)).setOther _ _ _ (by omega)).setOther _ _ _ (by omega)).setOther _ _ _ (by omega))
  have P2 : Own ((((((((w1.setCell ⟨w.heap.size + 2, 0, none⟩ (.slice (some ⟨g1, 0, none⟩) c.r.xs.length c.r.xs.length)).setCell ⟨w.heap.size + 2, 1, none⟩ (.slice (some ⟨g2, 0, none⟩) c.r.ys.length c.r.ys.length)).setCell ⟨w.heap.size + 2, 2, none⟩ (.int .i64 c.r.o)).setCell ⟨w.heap.size + 2, 3, none⟩ (.int .i64 c.r.p)).setCell ⟨w.heap.size + 2, 4, none⟩ (.int .i64 c.r.f)).setCell ⟨w.heap.size + 2, 5, none⟩ (.int .i64 c.r.m)).setCell ⟨w.heap.size + 2, 6, none⟩ (.bool c.r.s)).setCell ⟨w.heap.size + 2, 7, none⟩ (.bool c.r.t)) g2 c.r.ys := ((((((((OW2.out.setOther _ _ _ (by omega)).setOther _ _ _ (by omega)).setOther _ _ _ (by omega)).setOther _ _ _ (by omega)).setOther _ _ _ (by omega)).setOther _ _ _ (by omega)).setOther _ _ _ (by omega)).setOther _ _ _ (by omega))
  have szY : ((((((((w1.setCell ⟨w.heap.size + 2, 0, none⟩ (.slice (some ⟨g1, 0, none⟩) c.r.xs.length c.r.xs.length)).setCell ⟨w.heap.size + 2, 1, none⟩ (.slice (some ⟨g2, 0, none⟩) c.r.ys.length c.r.ys.length)).setCell ⟨w.heap.size + 2, 2, none⟩ (.int .i64 c.r.o)).setCell ⟨w.heap.size + 2, 3, none⟩ (.int .i64 c.r.p)).setCell ⟨w.heap.size + 2, 4, none⟩ (.int .i64 c.r.f)).setCell ⟨w.heap.size + 2, 5, none⟩ (.int .i64 c.r.m)).setCell ⟨w.heap.size + 2, 6, none⟩ (.bool c.r.s)).setCell ⟨w.heap.size + 2, 7, none⟩ (.bool c.r.t)).heap.size = w1.heap.size := by simp [World.setCell]
  obtain ⟨Y, hY⟩ : ∃ Y : World, ((((((((w1.setCell ⟨w.heap.size + 2, 0, none⟩ (.slice (some ⟨g1, 0, none⟩) c.r.xs.length c.r.xs.length)).setCell ⟨w.heap.size + 2, 1, none⟩ (.slice (some ⟨g2, 0, none⟩) c.r.ys.length c.r.ys.length)).setCell ⟨w.heap.size + 2, 2, none⟩ (.int .i64 c.r.o)).setCell ⟨w.heap.size + 2, 3, none⟩ (.int .i64 c.r.p)).setCell ⟨w.heap.size + 2, 4, none⟩ (.int .i64 c.r.f)).setCell ⟨w.heap.size + 2, 5, none⟩ (.int .i64 c.r.m)).setCell ⟨w.heap.size + 2, 6, none⟩ (.bool c.r.s)).setCell ⟨w.heap.size + 2, 7, none⟩ (.bool c.r.t)) = Y := ⟨_, rfl⟩
  rw [hY] at K2 HO2 HA2 HR2 P1 P2 szY
  replace K2 := hide K2
  clear HO2_0 HO2_1 HO2_2 HO2_3 HO2_4 HO2_5 HO2_6
  replace HO2 := hide HO2
  replace HA2 := hide HA2
  replace HR2 := hide HR2
  replace P1 := hide P1
  replace P2 := hide P2
  have i8 := HA2.out.cell (i := 8) rfl
  have i9 := HA2.out.cell (i := 9) rfl
  go_wp2_with fail
  clear hX hY o0 of0 o1 of1 o2 of2 o3 of3 o4 of4 o5 of5 o6 of6 o7 of7 i8 i9
  refine (toBus _ e q ce cq c.bm c.bx c.bl (HE.out.keptS K2.out) (HQ.out.keptS K2.out) lb HL.out lm).mono ?_
  rintro e9 w2 ⟨g3, g4, rfl, o3, o4, l4, l5, l6, k⟩
  have EA := hide (HA2.out.kept0 k)
  have ER := hide (HR2.out.kept0 k)
  have EO := hide (HO2.out.kept0 k)
  have K3 := hide (K2.out.trans k)
  have k3s := k.size
  have P3 := hide (P1.out.keptS k (by omega))
  have P4 := hide (P2.out.keptS k (by omega))
  have P5 := hide o3
  have P6 := hide o4
  clear k o3 o4
  have o8 := EO.out.cell (i := 8) rfl
  have of8 := EO.out.frozen 8
  have o9 := EO.out.cell (i := 9) rfl
  have of9 := EO.out.frozen 9
  have o10 := EO.out.cell (i := 10) rfl
  have of10 := EO.out.frozen 10
  have o11 := EO.out.cell (i := 11) rfl
  have of11 := EO.out.frozen 11
  have i10 := EA.out.cell (i := 10) rfl
  have i11 := EA.out.cell (i := 11) rfl
  have K4 : Kept 0 0 w ((((w2.setCell ⟨w.heap.size + 2, 8, none⟩ (.slice (some ⟨g3, 0, none⟩) c.bx.length c.bx.length)).setCell ⟨w.heap.size + 2, 9, none⟩ (.slice (some ⟨g4, 0, none⟩) c.bm c.bm)).setCell ⟨w.heap.size + 2, 10, none⟩ (.bool c.st)).setCell ⟨w.heap.size + 2, 11, none⟩ (.bool c.ha)) := (kept_set (kept_set (kept_set (kept_set K3.out _ _ _ (.inr (by omega))) _ _ _ (.inr (by omega))) _ _ _ (.inr (by omega))) _ _ _ (.inr (by omega)))
  have FO_0 : Blk (w2.setCell ⟨w.heap.size + 2, 8, none⟩ (.slice (some ⟨g3, 0, none⟩) c.bx.length c.bx.length)) (w.heap.size + 2) #[.slice (some ⟨g1, 0, none⟩) c.r.xs.length c.r.xs.length, .slice (some ⟨g2, 0, none⟩) c.r.ys.length c.r.ys.length, .int .i64 c.r.o, .int .i64 c.r.p, .int .i64 c.r.f, .int .i64 c.r.m, .bool c.r.s, .bool c.r.t, .slice (some ⟨g3, 0, none⟩) c.bx.length c.bx.length, .slice none 0 0, .bool false, .bool false] 29 := EO.out.set 8 (.slice (some ⟨g3, 0, none⟩) c.bx.length c.bx.length)
  have FO_1 : Blk ((w2.setCell ⟨w.heap.size + 2, 8, none⟩ (.slice (some ⟨g3, 0, none⟩) c.bx.length c.bx.length)).setCell ⟨w.heap.size + 2, 9, none⟩ (.slice (some ⟨g4, 0, none⟩) c.bm c.bm)) (w.heap.size + 2) #[.slice (some ⟨g1, 0, none⟩) c.r.xs.length c.r.xs.length, .slice (some ⟨g2, 0, none⟩) c.r.ys.length c.r.ys.length, .int .i64 c.r.o, .int .i64 c.r.p, .int .i64 c.r.f, .int .i64 c.r.m, .bool c.r.s, .bool c.r.t, .slice (some ⟨g3, 0, none⟩) c.bx.length c.bx.length, .slice (some ⟨g4, 0, none⟩) c.bm c.bm, .bool false, .bool false] 29 := FO_0.set 9 (.slice (some ⟨g4, 0, none⟩) c.bm c.bm)
  have FO_2 : Blk (((w2.setCell ⟨w.heap.size + 2, 8, none⟩ (.slice (some ⟨g3, 0, none⟩) c.bx.length c.bx.length)).setCell ⟨w.heap.size + 2, 9, none⟩ (.slice (some ⟨g4, 0, none⟩) c.bm c.bm)).setCell ⟨w.heap.size + 2, 10, none⟩ (.bool c.st)) (w.heap.size + 2) #[.slice (some ⟨g1, 0, none⟩) c.r.xs.length c.r.xs.length, .slice (some ⟨g2, 0, none⟩) c.r.ys.length c.r.ys.length, .int .i64 c.r.o, .int .i64 c.r.p, .int .i64 c.r.f, .int .i64 c.r.m, .bool c.r.s, .bool c.r.t, .slice (some ⟨g3, 0, none⟩) c.bx.length c.bx.length, .slice (some ⟨g4, 0, none⟩) c.bm c.bm, .bool c.st, .bool false] 29 := FO_1.set 10 (.bool c.st)
  have FO : Blk ((((w2.setCell ⟨w.heap.size + 2, 8, none⟩ (.slice (some ⟨g3, 0, none⟩) c.bx.length c.bx.length)).setCell ⟨w.heap.size + 2, 9, none⟩ (.slice (some ⟨g4, 0, none⟩) c.bm c.bm)).setCell ⟨w.heap.size + 2, 10, none⟩ (.bool c.st)).setCell ⟨w.heap.size + 2, 11, none⟩ (.bool c.ha)) (w.heap.size + 2) #[.slice (some ⟨g1, 0, none⟩) c.r.xs.length c.r.xs.length, .slice (some ⟨g2, 0, none⟩) c.r.ys.length c.r.ys.length, .int .i64 c.r.o, .int .i64 c.r.p, .int .i64 c.r.f, .int .i64 c.r.m, .bool c.r.s, .bool c.r.t, .slice (some ⟨g3, 0, none⟩) c.bx.length c.bx.length, .slice (some ⟨g4, 0, none⟩) c.bm c.bm, .bool c.st, .bool c.ha] 29 := FO_2.set 11 (.bool c.ha)
  have FR : Blk ((((w2.setCell ⟨w.heap.size + 2, 8, none⟩ (.slice (some ⟨g3, 0, none⟩) c.bx.length c.bx.length)).setCell ⟨w.heap.size + 2, 9, none⟩ (.slice (some ⟨g4, 0, none⟩) c.bm c.bm)).setCell ⟨w.heap.size + 2, 10, none⟩ (.bool c.st)).setCell ⟨w.heap.size + 2, 11, none⟩ (.bool c.ha)) (w.heap.size + 1) #[.slice none 0 0, .slice none 0 0, .int .i64 0, .int .i64 0, .int .i64 0, .int .i64 0, .bool false, .bool false, .slice none 0 0, .slice none 0 0, .bool false, .bool false] 29 := ((((ER.out.other _ _ _ (by omega)).other _ _ _ (by omega)).other _ _ _ (by omega)).other _ _ _ (by omega))
  have Q1 : Own ((((w2.setCell ⟨w.heap.size + 2, 8, none⟩ (.slice (some ⟨g3, 0, none⟩) c.bx.length c.bx.length)).setCell ⟨w.heap.size + 2, 9, none⟩ (.slice (some ⟨g4, 0, none⟩) c.bm c.bm)).setCell ⟨w.heap.size + 2, 10, none⟩ (.bool c.st)).setCell ⟨w.heap.size + 2, 11, none⟩ (.bool c.ha)) g1 c.r.xs := ((((P3.out.setOther _ _ _ (by omega)).setOther _ _ _ (by omega)).setOther _ _ _ (by omega)).setOther _ _ _ (by omega))
  have Q2 : Own ((((w2.setCell ⟨w.heap.size + 2, 8, none⟩ (.slice (some ⟨g3, 0, none⟩) c.bx.length c.bx.length)).setCell ⟨w.heap.size + 2, 9, none⟩ (.slice (some ⟨g4, 0, none⟩) c.bm c.bm)).setCell ⟨w.heap.size + 2, 10, none⟩ (.bool c.st)).setCell ⟨w.heap.size + 2, 11, none⟩ (.bool c.ha)) g2 c.r.ys := ((((P4.out.setOther _ _ _ (by omega)).setOther _ _ _ (by omega)).setOther _ _ _ (by omega)).setOther _ _ _ (by omega))
  have Q3 : Own ((((w2.setCell ⟨w.heap.size + 2, 8, none⟩ (.slice (some ⟨g3, 0, none⟩) c.bx.length c.bx.length)).setCell ⟨w.heap.size + 2, 9, none⟩ (.slice (some ⟨g4, 0, none⟩) c.bm c.bm)).setCell ⟨w.heap.size + 2, 10, none⟩ (.bool c.st)).setCell ⟨w.heap.size + 2, 11, none⟩ (.bool c.ha)) g3 c.bx := ((((P5.out.setOther _ _ _ (by omega)).setOther _ _ _ (by omega)).setOther _ _ _ (by omega)).setOther _ _ _ (by omega))
  have Q4 : Own ((((w2.setCell ⟨w.heap.size + 2, 8, none⟩ (.slice (some ⟨g3, 0, none⟩) c.bx.length c.bx.length)).setCell ⟨w.heap.size + 2, 9, none⟩ (.slice (some ⟨g4, 0, none⟩) c.bm c.bm)).setCell ⟨w.heap.size + 2, 10, none⟩ (.bool c.st)).setCell ⟨w.heap.size + 2, 11, none⟩ (.bool c.ha)) g4 c.bl := ((((P6.out.setOther _ _ _ (by omega)).setOther _ _ _ (by omega)).setOther _ _ _ (by omega)).setOther _ _ _ (by omega))
  have szV : ((((w2.setCell ⟨w.heap.size + 2, 8, none⟩ (.slice (some ⟨g3, 0, none⟩) c.bx.length c.bx.length)).setCell ⟨w.heap.size + 2, 9, none⟩ (.slice (some ⟨g4, 0, none⟩) c.bm c.bm)).setCell ⟨w.heap.size + 2, 10, none⟩ (.bool c.st)).setCell ⟨w.heap.size + 2, 11, none⟩ (.bool c.ha)).heap.size = w2.heap.size := by simp [World.setCell]
  obtain ⟨V, hV⟩ : ∃ V : World, ((((w2.setCell ⟨w.heap.size + 2, 8, none⟩ (.slice (some ⟨g3, 0, none⟩) c.bx.length c.bx.length)).setCell ⟨w.heap.size + 2, 9, none⟩ (.slice (some ⟨g4, 0, none⟩) c.bm c.bm)).setCell ⟨w.heap.size + 2, 10, none⟩ (.bool c.st)).setCell ⟨w.heap.size + 2, 11, none⟩ (.bool c.ha)) = V := ⟨_, rfl⟩
  rw [hV] at K4 FO FR Q1 Q2 Q3 Q4 szV
  replace K4 := hide K4
  clear FO_0 FO_1 FO_2
  replace FO := hide FO
  replace FR := hide FR
  replace Q1 := hide Q1
  replace Q2 := hide Q2
  replace Q3 := hide Q3
  replace Q4 := hide Q4
  have m0 := FO.out.cell (i := 0) rfl
  have m1 := FO.out.cell (i := 1) rfl
  have m2 := FO.out.cell (i := 2) rfl
  have m3 := FO.out.cell (i := 3) rfl
  have m4 := FO.out.cell (i := 4) rfl
  have m5 := FO.out.cell (i := 5) rfl
  have m6 := FO.out.cell (i := 6) rfl
  have m7 := FO.out.cell (i := 7) rfl
  have m8 := FO.out.cell (i := 8) rfl
  have m9 := FO.out.cell (i := 9) rfl
  have m10 := FO.out.cell (i := 10) rfl
  have m11 := FO.out.cell (i := 11) rfl
  have r0 := FR.out.cell (i := 0) rfl
  have rf0 := FR.out.frozen 0
  have r1 := FR.out.cell (i := 1) rfl
  have rf1 := FR.out.frozen 1
  have r2 := FR.out.cell (i := 2) rfl
  have rf2 := FR.out.frozen 2
  have r3 := FR.out.cell (i := 3) rfl
  have rf3 := FR.out.frozen 3
  have r4 := FR.out.cell (i := 4) rfl
  have rf4 := FR.out.frozen 4
  have r5 := FR.out.cell (i := 5) rfl
  have rf5 := FR.out.frozen 5
  have r6 := FR.out.cell (i := 6) rfl
  have rf6 := FR.out.frozen 6
  have r7 := FR.out.cell (i := 7) rfl
  have rf7 := FR.out.frozen 7
  have r8 := FR.out.cell (i := 8) rfl
  have rf8 := FR.out.frozen 8
  have r9 := FR.out.cell (i := 9) rfl
  have rf9 := FR.out.frozen 9
  have r10 := FR.out.cell (i := 10) rfl
  have rf10 := FR.out.frozen 10
  have r11 := FR.out.cell (i := 11) rfl
  have rf11 := FR.out.frozen 11
  go_wp2_with fail
  clear hV
  have FF_0 : Blk (V.setCell ⟨w.heap.size + 1, 0, none⟩ (.slice (some ⟨g1, 0, none⟩) c.r.xs.length c.r.xs.length)) (w.heap.size + 1) #[.slice (some ⟨g1, 0, none⟩) c.r.xs.length c.r.xs.length, .slice none 0 0, .int .i64 0, .int .i64 0, .int .i64 0, .int .i64 0, .bool false, .bool false, .slice none 0 0, .slice none 0 0, .bool false, .bool false] 29 := FR.out.set 0 (.slice (some ⟨g1, 0, none⟩) c.r.xs.length c.r.xs.length)
  have FF_1 : Blk ((V.setCell ⟨w.heap.size + 1, 0, none⟩ (.slice (some ⟨g1, 0, none⟩) c.r.xs.length c.r.xs.length)).setCell ⟨w.heap.size + 1, 1, none⟩ (.slice (some ⟨g2, 0, none⟩) c.r.ys.length c.r.ys.length)) (w.heap.size + 1) #[.slice (some ⟨g1, 0, none⟩) c.r.xs.length c.r.xs.length, .slice (some ⟨g2, 0, none⟩) c.r.ys.length c.r.ys.length, .int .i64 0, .int .i64 0, .int .i64 0, .int .i64 0, .bool false, .bool false, .slice none 0 0, .slice none 0 0, .bool false, .bool false] 29 := FF_0.set 1 (.slice (some ⟨g2, 0, none⟩) c.r.ys.length c.r.ys.length)
  have FF_2 : Blk (((V.setCell ⟨w.heap.size + 1, 0, none⟩ (.slice (some ⟨g1, 0, none⟩) c.r.xs.length c.r.xs.length)).setCell ⟨w.heap.size + 1, 1, none⟩ (.slice (some ⟨g2, 0, none⟩) c.r.ys.length c.r.ys.length)).setCell ⟨w.heap.size + 1, 2, none⟩ (.int .i64 c.r.o)) (w.heap.size + 1) #[.slice (some ⟨g1, 0, none⟩) c.r.xs.length c.r.xs.length, .slice (some ⟨g2, 0, none⟩) c.r.ys.length c.r.ys.length, .int .i64 c.r.o, .int .i64 0, .int .i64 0, .int .i64 0, .bool false, .bool false, .slice none 0 0, .slice none 0 0, .bool false, .bool false] 29 := FF_1.set 2 (.int .i64 c.r.o)
  have FF_3 : Blk ((((V.setCell ⟨w.heap.size + 1, 0, none⟩ (.slice (some ⟨g1, 0, none⟩) c.r.xs.length c.r.xs.length)).setCell ⟨w.heap.size + 1, 1, none⟩ (.slice (some ⟨g2, 0, none⟩) c.r.ys.length c.r.ys.length)).setCell ⟨w.heap.size + 1, 2, none⟩ (.int .i64 c.r.o)).setCell ⟨w.heap.size + 1, 3, none⟩ (.int .i64 c.r.p)) (w.heap.size + 1) #[.slice (some ⟨g1, 0, none⟩) c.r.xs.length c.r.xs.length, .slice (some ⟨g2, 0, none⟩) c.r.ys.length c.r.ys.length, .int .i64 c.r.o, .int .i64 c.r.p, .int .i64 0, .int .i64 0, .bool false, .bool false, .slice none 0 0, .slice none 0 0, .bool false, .bool false] 29 := FF_2.set 3 (.int .i64 c.r.p)
  have FF_4 : Blk (((((V.setCell ⟨w.heap.size + 1, 0, none⟩ (.slice (some ⟨g1, 0, none⟩) c.r.xs.length c.r.xs.length)).setCell ⟨w.heap.size + 1, 1, none⟩ (.slice (some ⟨g2, 0, none⟩) c.r.ys.length c.r.ys.length)).setCell ⟨w.heap.size + 1, 2, none⟩ (.int .i64 c.r.o)).setCell ⟨w.heap.size + 1, 3, none⟩ (.int .i64 c.r.p)).setCell ⟨w.heap.size + 1, 4, none⟩ (.int .i64 c.r.f)) (w.heap.size + 1) #[.slice (some ⟨g1, 0, none⟩) c.r.xs.length c.r.xs.length, .slice (some ⟨g2, 0, none⟩) c.r.ys.length c.r.ys.length, .int .i64 c.r.o, .int .i64 c.r.p, .int .i64 c.r.f, .int .i64 0, .bool false, .bool false, .slice none 0 0, .slice none 0 0, .bool false, .bool false] 29 := FF_3.set 4 (.int .i64 c.r.f)
  have FF_5 : Blk ((((((V.setCell ⟨w.heap.size + 1, 0, none⟩ (.slice (some ⟨g1, 0, none⟩) c.r.xs.length c.r.xs.length)).setCell ⟨w.heap.size + 1, 1, none⟩ (.slice (some ⟨g2, 0, none⟩) c.r.ys.length c.r.ys.length)).setCell ⟨w.heap.size + 1, 2, none⟩ (.int .i64 c.r.o)).setCell ⟨w.heap.size + 1, 3, none⟩ (.int .i64 c.r.p)).setCell ⟨w.heap.size + 1, 4, none⟩ (.int .i64 c.r.f)).setCell ⟨w.heap.size + 1, 5, none⟩ (.int .i64 c.r.m)) (w.heap.size + 1) #[.slice (some ⟨g1, 0, none⟩) c.r.xs.length c.r.xs.length, .slice (some ⟨g2, 0, none⟩) c.r.ys.length c.r.ys.length, .int .i64 c.r.o, .int .i64 c.r.p, .int .i64 c.r.f, .int .i64 c.r.m, .bool false, .bool false, .slice none 0 0, .slice none 0 0, .bool false, .bool false] 29 := FF_4.set 5 (.int .i64 c.r.m)
  have FF_6 : Blk (((((((V.setCell ⟨w.heap.size + 1, 0, none⟩ (.slice (some ⟨g1, 0, none⟩) c.r.xs.length c.r.xs.length)).setCell ⟨w.heap.size + 1, 1, none⟩ (.slice (some ⟨g2, 0, none⟩) c.r.ys.length c.r.ys.length)).setCell ⟨w.heap.size + 1, 2, none⟩ (.int .i64 c.r.o)).setCell ⟨w.heap.size + 1, 3, none⟩ (.int .i64 c.r.p)).setCell ⟨w.heap.size + 1, 4, none⟩ (.int .i64 c.r.f)).setCell ⟨w.heap.size + 1, 5, none⟩ (.int .i64 c.r.m)).setCell ⟨w.heap.size + 1, 6, none⟩ (.bool c.r.s)) (w.heap.size + 1) #[.slice (some ⟨g1, 0, none⟩) c.r.xs.length c.r.xs.length, .slice (some ⟨g2, 0, none⟩) c.r.ys.length c.r.ys.length, .int .i64 c.r.o, .int .i64 c.r.p, .int .i64 c.r.f, .int .i64 c.r.m, .bool c.r.s, .bool false, .slice none 0 0, .slice none 0 0, .bool false, .bool false] 29 := FF_5.set 6 (.bool c.r.s)
  have FF_7 : Blk ((((((((V.setCell ⟨w.heap.size + 1, 0, none⟩ (.slice (some ⟨g1, 0, none⟩) c.r.xs.length c.r.xs.length)).setCell ⟨w.heap.size + 1, 1, none⟩ (.slice (some ⟨g2, 0, none⟩) c.r.ys.length c.r.ys.length)).setCell ⟨w.heap.size + 1, 2, none⟩ (.int .i64 c.r.o)).setCell ⟨w.heap.size + 1, 3, none⟩ (.int .i64 c.r.p)).setCell ⟨w.heap.size + 1, 4, none⟩ (.int .i64 c.r.f)).setCell ⟨w.heap.size + 1, 5, none⟩ (.int .i64 c.r.m)).setCell ⟨w.heap.size + 1, 6, none⟩ (.bool c.r.s)).setCell ⟨w.heap.size + 1, 7, none⟩ (.bool c.r.t)) (w.heap.size + 1) #[.slice (some ⟨g1, 0, none⟩) c.r.xs.length c.r.xs.length, .slice (some ⟨g2, 0, none⟩) c.r.ys.length c.r.ys.length, .int .i64 c.r.o, .int .i64 c.r.p, .int .i64 c.r.f, .int .i64 c.r.m, .bool c.r.s, .bool c.r.t, .slice none 0 0, .slice none 0 0, .bool false, .bool false] 29 := FF_6.set 7 (.bool c.r.t)
  have FF_8 : Blk (((((((((V.setCell ⟨w.heap.size + 1, 0, none⟩ (.slice (some ⟨g1, 0, none⟩) c.r.xs.length c.r.xs.length)).setCell ⟨w.heap.size + 1, 1, none⟩ (.slice (some ⟨g2, 0, none⟩) c.r.ys.length c.r.ys.length)).setCell ⟨w.heap.size + 1, 2, none⟩ (.int .i64 c.r.o)).setCell ⟨w.heap.size + 1, 3, none⟩ (.int .i64 c.r.p)).setCell ⟨w.heap.size + 1, 4, none⟩ (.int .i64 c.r.f)).setCell ⟨w.heap.size + 1, 5, none⟩ (.int .i64 c.r.m)).setCell ⟨w.heap.size + 1, 6, none⟩ (.bool c.r.s)).setCell ⟨w.heap.size + 1, 7, none⟩ (.bool c.r.t)).setCell ⟨w.heap.size + 1, 8, none⟩ (.slice (some ⟨g3, 0, none⟩) c.bx.length c.bx.length)) (w.heap.size + 1) #[.slice (some ⟨g1, 0, none⟩) c.r.xs.length c.r.xs.length, .slice (some ⟨g2, 0, none⟩) c.r.ys.length c.r.ys.length, .int .i64 c.r.o, .int .i64 c.r.p, .int .i64 c.r.f, .int .i64 c.r.m, .bool c.r.s, .bool c.r.t, .slice (some ⟨g3, 0, none⟩) c.bx.length c.bx.length, .slice none 0 0, .bool false, .bool false] 29 := FF_7.set 8 (.slice (some ⟨g3, 0, none⟩) c.bx.length c.bx.length)
  have FF_9 : Blk ((((((((((V.setCell ⟨w.heap.size + 1, 0, none⟩ (.slice (some ⟨g1, 0, none⟩) c.r.xs.length c.r.xs.length)).setCell ⟨w.heap.size + 1, 1, none⟩ (.slice (some ⟨g2, 0, none⟩) c.r.ys.length c.r.ys.length)).setCell ⟨w.heap.size + 1, 2, none⟩ (.int .i64 c.r.o)).setCell ⟨w.heap.size + 1, 3, none⟩ (.int .i64 c.r.p)).setCell ⟨w.heap.size + 1, 4, none⟩ (.int .i64 c.r.f)).setCell ⟨w.heap.size + 1, 5, none⟩ (.int .i64 c.r.m)).setCell ⟨w.heap.size + 1, 6, none⟩ (.bool c.r.s)).setCell ⟨w.heap.size + 1, 7, none⟩ (.bool c.r.t)).setCell ⟨w.heap.size + 1, 8, none⟩ (.slice (some ⟨g3, 0, none⟩) c.bx.length c.bx.length)).setCell ⟨w.heap.size + 1, 9, none⟩ (.slice (some ⟨g4, 0, none⟩) c.bm c.bm)) (w.heap.size + 1) #[.slice (some ⟨g1, 0, none⟩) c.r.xs.length c.r.xs.length, .slice (some ⟨g2, 0, none⟩) c.r.ys.length c.r.ys.length, .int .i64 c.r.o, .int .i64 c.r.p, .int .i64 c.r.f, .int .i64 c.r.m, .bool c.r.s, .bool c.r.t, .slice (some ⟨g3, 0, none⟩) c.bx.length c.bx.length, .slice (some ⟨g4, 0, none⟩) c.bm c.bm, .bool false, .bool false] 29 := FF_8.set 9 (.slice (some ⟨g4, 0, none⟩) c.bm c.bm)
  have FF_10 : Blk (((((((((((V.setCell ⟨w.heap.size + 1, 0, none⟩ (.slice (some ⟨g1, 0, none⟩) c.r.xs.length c.r.xs.length)).setCell ⟨w.heap.size + 1, 1, none⟩ (.slice (some ⟨g2, 0, none⟩) c.r.ys.length c.r.ys.length)).setCell ⟨w.heap.size + 1, 2, none⟩ (.int .i64 c.r.o)).setCell ⟨w.heap.size + 1, 3, none⟩ (.int .i64 c.r.p)).setCell ⟨w.heap.size + 1, 4, none⟩ (.int .i64 c.r.f)).setCell ⟨w.heap.size + 1, 5, none⟩ (.int .i64 c.r.m)).setCell ⟨w.heap.size + 1, 6, none⟩ (.bool c.r.s)).setCell ⟨w.heap.size + 1, 7, none⟩ (.bool c.r.t)).setCell ⟨w.heap.size + 1, 8, none⟩ (.slice (some ⟨g3, 0, none⟩) c.bx.length c.bx.length)).setCell ⟨w.heap.size + 1, 9, none⟩ (.slice (some ⟨g4, 0, none⟩) c.bm c.bm)).setCell ⟨w.heap.size + 1, 10, none⟩ (.bool c.st)) (w.heap.size + 1) #[.slice (some ⟨g1, 0, none⟩) c.r.xs.length c.r.xs.length, .slice (some ⟨g2, 0, none⟩) c.r.ys.length c.r.ys.length, .int .i64 c.r.o, .int .i64 c.r.p, .int .i64 c.r.f, .int .i64 c.r.m, .bool c.r.s, .bool c.r.t, .slice (some ⟨g3, 0, none⟩) c.bx.length c.bx.length, .slice (some ⟨g4, 0, none⟩) c.bm c.bm, .bool c.st, .bool false] 29 := FF_9.set 10 (.bool c.st)
  have FF : Blk ((((((((((((V.setCell ⟨w.heap.size + 1, 0, none⟩ (.slice (some ⟨g1, 0, none⟩) c.r.xs.length c.r.xs.length)).setCell ⟨w.heap.size + 1, 1, none⟩ (.slice (some ⟨g2, 0, none⟩) c.r.ys.length c.r.ys.length)).setCell ⟨w.heap.size + 1, 2, none⟩ (.int .i64 c.r.o)).setCell ⟨w.heap.size + 1, 3, none⟩ (.int .i64 c.r.p)).setCell ⟨w.heap.size + 1, 4, none⟩ (.int .i64 c.r.f)).setCell ⟨w.heap.size + 1, 5, none⟩ (.int .i64 c.r.m)).setCell ⟨w.heap.size + 1, 6, none⟩ (.bool c.r.s)).setCell ⟨w.heap.size + 1, 7, none⟩ (.bool c.r.t)).setCell ⟨w.heap.size + 1, 8, none⟩ (.slice (some ⟨g3, 0, none⟩) c.bx.length c.bx.length)).setCell ⟨w.heap.size + 1, 9, none⟩ (.slice (some ⟨g4, 0, none⟩) c.bm c.bm)).setCell ⟨w.heap.size + 1, 10, none⟩ (.bool c.st)).setCell ⟨w.heap.size + 1, 11, none⟩ (.bool c.ha)) (w.heap.size + 1) #[.slice (some ⟨g1, 0, none⟩) c.r.xs.length c.r.xs.length, .slice (some ⟨g2, 0, none⟩) c.r.ys.length c.r.ys.length, .int .i64 c.r.o, .int .i64 c.r.p, .int .i64 c.r.f, .int .i64 c.r.m, .bool c.r.s, .bool c.r.t, .slice (some ⟨g3, 0, none⟩) c.bx.length c.bx.length, .slice (some ⟨g4, 0, none⟩) c.bm c.bm, .bool c.st, .bool c.ha] 29 := FF_10.set 11 (.bool c.ha)
  refine bodyPost_ret (v := .agg #[.slice (some ⟨g1, 0, none⟩) c.r.xs.length c.r.xs.length, .slice (some ⟨g2, 0, none⟩) c.r.ys.length c.r.ys.length, .int .i64 c.r.o, .int .i64 c.r.p, .int .i64 c.r.f, .int .i64 c.r.m, .bool c.r.s, .bool c.r.t, .slice (some ⟨g3, 0, none⟩) c.bx.length c.bx.length, .slice (some ⟨g4, 0, none⟩) c.bm c.bm, .bool c.st, .bool c.ha]) ?_ rfl ⟨g1, g2, g3, g4, rfl, ⟨.inr ⟨g1, rfl, by omega, ?_, ?_⟩, .inr ⟨g2, rfl, by omega, ?_, ?_⟩, .inr ⟨g3, rfl, by omega, ?_, ?_⟩, .inr ⟨g4, rfl, by omega, ?_, ?_⟩, ?_, ?_, ?_, ?_, ?_, ?_⟩, ?_⟩
  · exact results_cell_row rfl _ _ _ _ _ (0, 0) _ rfl FF Try.underlying29 rfl (by kernel_rfl)
  · simp [World.setCell]; omega
  · exact ((((((((((((Q1.out.setOther _ _ _ (by omega)).setOther _ _ _ (by omega)).setOther _ _ _ (by omega)).setOther _ _ _ (by omega)).setOther _ _ _ (by omega)).setOther _ _ _ (by omega)).setOther _ _ _ (by omega)).setOther _ _ _ (by omega)).setOther _ _ _ (by omega)).setOther _ _ _ (by omega)).setOther _ _ _ (by omega)).setOther _ _ _ (by omega))
  · simp [World.setCell]; omega
  · exact ((((((((((((Q2.out.setOther _ _ _ (by omega)).setOther _ _ _ (by omega)).setOther _ _ _ (by omega)).setOther _ _ _ (by omega)).setOther _ _ _ (by omega)).setOther _ _ _ (by omega)).setOther _ _ _ (by omega)).setOther _ _ _ (by omega)).setOther _ _ _ (by omega)).setOther _ _ _ (by omega)).setOther _ _ _ (by omega)).setOther _ _ _ (by omega))
  · simp [World.setCell]; omega
  · exact ((((((((((((Q3.out.setOther _ _ _ (by omega)).setOther _ _ _ (by omega)).setOther _ _ _ (by omega)).setOther _ _ _ (by omega)).setOther _ _ _ (by omega)).setOther _ _ _ (by omega)).setOther _ _ _ (by omega)).setOther _ _ _ (by omega)).setOther _ _ _ (by omega)).setOther _ _ _ (by omega)).setOther _ _ _ (by omega)).setOther _ _ _ (by omega))
  · simp [World.setCell]; omega
  · exact ((((((((((((Q4.out.setOther _ _ _ (by omega)).setOther _ _ _ (by omega)).setOther _ _ _ (by omega)).setOther _ _ _ (by omega)).setOther _ _ _ (by omega)).setOther _ _ _ (by omega)).setOther _ _ _ (by omega)).setOther _ _ _ (by omega)).setOther _ _ _ (by omega)).setOther _ _ _ (by omega)).setOther _ _ _ (by omega)).setOther _ _ _ (by omega))
  · intro g h1 h2; simp [blk] at h1 h2; omega
  · intro g h1 h2; simp [blk] at h1 h2; omega
  · intro g h1 h2; simp [blk] at h1 h2; omega
  · intro g h1 h2; simp [blk] at h1 h2; omega
  · intro g h1 h2; simp [blk] at h1 h2; omega
  · intro g h1 h2; simp [blk] at h1 h2; omega
  · exact (kept_set (kept_set (kept_set (kept_set (kept_set (kept_set (kept_set (kept_set (kept_set (kept_set (kept_set (kept_set K4.out _ _ _ (.inr (by omega))) _ _ _ (.inr (by omega))) _ _ _ (.inr (by omega))) _ _ _ (.inr (by omega))) _ _ _ (.inr (by omega))) _ _ _ (.inr (by omega))) _ _ _ (.inr (by omega))) _ _ _ (.inr (by omega))) _ _ _ (.inr (by omega))) _ _ _ (.inr (by omega))) _ _ _ (.inr (by omega))) _ _ _ (.inr (by omega)))
end Go.Proofs.Ytblddehlkaolbaa

namespace Go.Proofs.Ytblddehlkaolbaa
open Go.RowKit
set_option linter.unusedVariables false
theorem specWord (n : Int) (w : World) : Calls Try.prog 27 #[.int .i64 n] w fun e w' => e = .returned (.bool (Pl.wordOk n)) ∧ w' = w := by
  go_enter Try.func27, Try.ntmps27
  go_wp2_with (go_at_call 63; refine (l1In _ _ _ _).mono ?_; rintro e w' ⟨rfl, hw⟩; have hw2 := hw.symm; clear hw; subst hw2)
  go_ret
  exact ⟨rfl, rfl⟩
end Go.Proofs.Ytblddehlkaolbaa

namespace Go.Proofs.Ytblddehlkaolbaa
open Go.RowKit
set_option linter.unusedVariables false

theorem specFlags (n : Int) (w : World) : Calls Try.prog 75 #[.int .i64 n] w fun e w' => e = .returned (.bool (Pl.within n 0 31)) ∧ w' = w := by
  go_enter Try.func75, Try.ntmps75
  go_wp2_with (go_at_call 63; refine (l1In _ _ _ _).mono ?_; rintro e w' ⟨rfl, hw⟩; have hw2 := hw.symm; clear hw; subst hw2)
  go_ret
  exact ⟨rfl, rfl⟩
theorem specFour (w : World) (a : Option Addr) (ca : Nat) (xs : List Int) (ha : IRow w a xs) (lx : xs.length ≤ 2000000) :
    Calls Try.prog 74 #[.slice a xs.length ca] w fun e w' => e = .returned (.bool (Pl.fourOk xs)) ∧ w' = w := by
  have HA := hide ha
  clear ha
  go_enter Try.func74, Try.ntmps74
  go_wp2
  go_loop [4, 7] (fun _ j => ∃ k : Nat, k ≤ xs.length ∧ j = .int .i64 k ∧ ∀ i, i < k → Pl.wordOk (el xs i) = true) (fun _ j => xs.length - (intOf j).toNat)
  case atStart => exact ⟨0, Nat.zero_le _, rfl, fun i hi => absurd hi (Nat.not_lt_zero i)⟩
  case round =>
    obtain ⟨k, hk, rfl, heq⟩ := hrel
    have HE := hide heq
    clear heq
    by_cases hlt : k < xs.length
    · obtain ⟨g1, o1, rfl, hc1⟩ := HA.out k hlt
      rw [show xs[k]?.getD 0 = el xs k from rfl] at hc1
      cases hb : Pl.wordOk (el xs k)
      · go_wp2_with (go_at_call 27; refine (specWord _ _).mono ?_; rintro e w' ⟨rfl, rfl⟩; rw [hb])
        go_ret
        exact ⟨rB (Pl.all_no hlt hb).symm, rfl⟩
      · go_wp2_with (go_at_call 27; refine (specWord _ _).mono ?_; rintro e w' ⟨rfl, rfl⟩; rw [hb])
        go_round
        case rel => exact ⟨k + 1, by omega, by go_num, snoc_all HE.out hb⟩
        case measure => simp [intOf]; omega
    · have E : Hid (Pl.fourOk xs = decide ((xs.length : Int) = 4)) := hide (Pl.all_of (fun i hi => HE.out i (by omega)))
      cases h4 : ((xs.length : Int) == 4)
      all_goals
        go_wp2
        go_ret
        exact ⟨rB (by rw [E.out]; simp at h4; simp [h4]), rfl⟩
set_option maxHeartbeats 4000000 in
theorem specGoodRegs (w : World) (r : Pl.Rg) (a b : Option Addr) (ca cb : Nat) (ha : IRow w a r.xs) (hb : IRow w b r.ys) (lx : r.xs.length ≤ 2000000) (ly : r.ys.length ≤ 2000000) :
    Calls Try.prog 40 #[.agg #[.slice a r.xs.length ca, .slice b r.ys.length cb, .int .i64 r.o, .int .i64 r.p, .int .i64 r.f, .int .i64 r.m, .bool r.s, .bool r.t]] w fun e w' => e = .returned (.bool (Pl.rgOk r)) ∧ Kept 0 0 w w' := by
  have HA := hide ha
  have HB := hide hb
  have HK := hide (kept_alloc w (.cells #[.slice a r.xs.length ca, .slice b r.ys.length cb, .int .i64 r.o, .int .i64 r.p, .int .i64 r.f, .int .i64 r.m, .bool r.s, .bool r.t] 24))
  clear ha hb
  have G : Hid (Pl.rgOk r = (Pl.fourOk r.xs && (Pl.fourOk r.ys && (Pl.wordOk r.o && (Pl.wordOk r.p && (Pl.within r.f 0 31 && Pl.within r.m 0 7)))))) := hide rfl
  cases h1 : Pl.fourOk r.xs
  · go_enter Try.func40, Try.ntmps40
    go_wp2_with (first | (go_at_call 74; refine (specFour _ a ca r.xs (HA.out.keptS HK.out) lx).mono ?_; rintro e w' ⟨rfl, hw⟩; have hw2 := hw.symm; clear hw; subst hw2; rw [h1]; have Z1 : True := trivial))
    go_ret
    exact ⟨rB (by rw [G.out, h1]; simp), HK.out⟩
  · cases h2 : Pl.fourOk r.ys
    · go_enter Try.func40, Try.ntmps40
      go_wp2_with (first | (go_at_call 74; have z := Z1; refine (specFour _ b cb r.ys (HB.out.keptS HK.out) ly).mono ?_; rintro e w' ⟨rfl, hw⟩; have hw2 := hw.symm; clear hw; subst hw2; rw [h2]) | (go_at_call 74; refine (specFour _ a ca r.xs (HA.out.keptS HK.out) lx).mono ?_; rintro e w' ⟨rfl, hw⟩; have hw2 := hw.symm; clear hw; subst hw2; rw [h1]; have Z1 : True := trivial))
      go_ret
      exact ⟨rB (by rw [G.out, h1, h2]; simp), HK.out⟩
    · cases h3 : Pl.wordOk r.o
      · go_enter Try.func40, Try.ntmps40
        go_wp2_with (first | (go_at_call 74; have z := Z1; refine (specFour _ b cb r.ys (HB.out.keptS HK.out) ly).mono ?_; rintro e w' ⟨rfl, hw⟩; have hw2 := hw.symm; clear hw; subst hw2; rw [h2]) | (go_at_call 74; refine (specFour _ a ca r.xs (HA.out.keptS HK.out) lx).mono ?_; rintro e w' ⟨rfl, hw⟩; have hw2 := hw.symm; clear hw; subst hw2; rw [h1]; have Z1 : True := trivial) | (go_at_call 27; refine (specWord r.o _).mono ?_; rintro e w' ⟨rfl, hw⟩; have hw2 := hw.symm; clear hw; subst hw2; rw [h3]; have Z3 : True := trivial))
        go_ret
        exact ⟨rB (by rw [G.out, h1, h2, h3]; simp), HK.out⟩
      · cases h4 : Pl.wordOk r.p
        · go_enter Try.func40, Try.ntmps40
          go_wp2_with (first | (go_at_call 74; have z := Z1; refine (specFour _ b cb r.ys (HB.out.keptS HK.out) ly).mono ?_; rintro e w' ⟨rfl, hw⟩; have hw2 := hw.symm; clear hw; subst hw2; rw [h2]) | (go_at_call 74; refine (specFour _ a ca r.xs (HA.out.keptS HK.out) lx).mono ?_; rintro e w' ⟨rfl, hw⟩; have hw2 := hw.symm; clear hw; subst hw2; rw [h1]; have Z1 : True := trivial) | (go_at_call 27; have z := Z3; refine (specWord r.p _).mono ?_; rintro e w' ⟨rfl, hw⟩; have hw2 := hw.symm; clear hw; subst hw2; rw [h4]) | (go_at_call 27; refine (specWord r.o _).mono ?_; rintro e w' ⟨rfl, hw⟩; have hw2 := hw.symm; clear hw; subst hw2; rw [h3]; have Z3 : True := trivial))
          go_ret
          exact ⟨rB (by rw [G.out, h1, h2, h3, h4]; simp), HK.out⟩
        · cases h5 : Pl.within r.f 0 31
          · go_enter Try.func40, Try.ntmps40
            go_wp2_with (first | (go_at_call 74; have z := Z1; refine (specFour _ b cb r.ys (HB.out.keptS HK.out) ly).mono ?_; rintro e w' ⟨rfl, hw⟩; have hw2 := hw.symm; clear hw; subst hw2; rw [h2]) | (go_at_call 74; refine (specFour _ a ca r.xs (HA.out.keptS HK.out) lx).mono ?_; rintro e w' ⟨rfl, hw⟩; have hw2 := hw.symm; clear hw; subst hw2; rw [h1]; have Z1 : True := trivial) | (go_at_call 27; have z := Z3; refine (specWord r.p _).mono ?_; rintro e w' ⟨rfl, hw⟩; have hw2 := hw.symm; clear hw; subst hw2; rw [h4]) | (go_at_call 27; refine (specWord r.o _).mono ?_; rintro e w' ⟨rfl, hw⟩; have hw2 := hw.symm; clear hw; subst hw2; rw [h3]; have Z3 : True := trivial) | (go_at_call 75; refine (specFlags _ _).mono ?_; rintro e w' ⟨rfl, hw⟩; have hw2 := hw.symm; clear hw; subst hw2; rw [h5]))
            go_ret
            exact ⟨rB (by rw [G.out, h1, h2, h3, h4, h5]; simp), HK.out⟩
          · cases h6 : Pl.within r.m 0 7
            · go_enter Try.func40, Try.ntmps40
              go_wp2_with (first | (go_at_call 74; have z := Z1; refine (specFour _ b cb r.ys (HB.out.keptS HK.out) ly).mono ?_; rintro e w' ⟨rfl, hw⟩; have hw2 := hw.symm; clear hw; subst hw2; rw [h2]) | (go_at_call 74; refine (specFour _ a ca r.xs (HA.out.keptS HK.out) lx).mono ?_; rintro e w' ⟨rfl, hw⟩; have hw2 := hw.symm; clear hw; subst hw2; rw [h1]; have Z1 : True := trivial) | (go_at_call 27; have z := Z3; refine (specWord r.p _).mono ?_; rintro e w' ⟨rfl, hw⟩; have hw2 := hw.symm; clear hw; subst hw2; rw [h4]) | (go_at_call 27; refine (specWord r.o _).mono ?_; rintro e w' ⟨rfl, hw⟩; have hw2 := hw.symm; clear hw; subst hw2; rw [h3]; have Z3 : True := trivial) | (go_at_call 75; refine (specFlags _ _).mono ?_; rintro e w' ⟨rfl, hw⟩; have hw2 := hw.symm; clear hw; subst hw2; rw [h5]) | (go_at_call 63; refine (l1In _ _ _ _).mono ?_; rintro e w' ⟨rfl, hw⟩; have hw2 := hw.symm; clear hw; subst hw2; rw [show (decide (0 ≤ r.m) && decide (r.m ≤ 7)) = Pl.within r.m 0 7 from rfl, h6]))
              go_ret
              exact ⟨rB (by rw [G.out, h1, h2, h3, h4, h5, h6]; simp), HK.out⟩
            · go_enter Try.func40, Try.ntmps40
              go_wp2_with (first | (go_at_call 74; have z := Z1; refine (specFour _ b cb r.ys (HB.out.keptS HK.out) ly).mono ?_; rintro e w' ⟨rfl, hw⟩; have hw2 := hw.symm; clear hw; subst hw2; rw [h2]) | (go_at_call 74; refine (specFour _ a ca r.xs (HA.out.keptS HK.out) lx).mono ?_; rintro e w' ⟨rfl, hw⟩; have hw2 := hw.symm; clear hw; subst hw2; rw [h1]; have Z1 : True := trivial) | (go_at_call 27; have z := Z3; refine (specWord r.p _).mono ?_; rintro e w' ⟨rfl, hw⟩; have hw2 := hw.symm; clear hw; subst hw2; rw [h4]) | (go_at_call 27; refine (specWord r.o _).mono ?_; rintro e w' ⟨rfl, hw⟩; have hw2 := hw.symm; clear hw; subst hw2; rw [h3]; have Z3 : True := trivial) | (go_at_call 75; refine (specFlags _ _).mono ?_; rintro e w' ⟨rfl, hw⟩; have hw2 := hw.symm; clear hw; subst hw2; rw [h5]) | (go_at_call 63; refine (l1In _ _ _ _).mono ?_; rintro e w' ⟨rfl, hw⟩; have hw2 := hw.symm; clear hw; subst hw2; rw [show (decide (0 ≤ r.m) && decide (r.m ≤ 7)) = Pl.within r.m 0 7 from rfl, h6]))
              go_ret
              exact ⟨rB (by rw [G.out, h1, h2, h3, h4, h5, h6]; simp), HK.out⟩
end Go.Proofs.Ytblddehlkaolbaa

namespace Go.Proofs.Ytblddehlkaolbaa
open Go.RowKit
set_option linter.unusedVariables false
/-- the step's own blocks: from lo to hi, and the log's -/
def own (lo hi g k : Nat) : Prop := (lo ≤ k ∧ k < hi) ∨ k = g
end Go.Proofs.Ytblddehlkaolbaa

namespace Go.Proofs.Ytblddehlkaolbaa
open Go.RowKit
set_option linter.unusedVariables false

theorem signedAs8 (v : Int) (w : World) (lo : -9223372036854775808 ≤ v) (hi : v ≤ 9223372036854775807) :
    Calls Try.prog 88 #[.int .i64 v] w fun e w' => e = .returned (.tuple #[.int .i64 (Pl.sgnV 1 v), .bool (Pl.okv 1 v)]) ∧ w' = w := by
  by_cases h : 0 ≤ v ∧ v < 256
  · obtain ⟨h0, h1⟩ := h
    have hs : IntKind.u8.signed = false := rfl
    have hm : IntKind.u8.max = 255 := by decide
    have hb : bits .xor .u8 255 0 = 255 := by decide
    by_cases h : 127 < v
    all_goals
      go_enter Try.func88, Try.ntmps88
      go_wp2
      go_ret2
      exact ⟨rIB (by simp [Pl.sgnV, Pl.okv, Pl.sg, Pl.top, h0, h1]; omega) (by simp [Pl.okv, Pl.top, h0, h1]), rfl⟩
  · go_enter Try.func88, Try.ntmps88
    go_wp2
    go_ret2
    have k : Pl.okv 1 v = false := by
      cases c : Pl.okv 1 v
      · rfl
      · have := Pl.top_ok c; omega
    exact ⟨rIB (by simp [Pl.sgnV, k]) k.symm, rfl⟩

theorem signedAs16 (v : Int) (w : World) (lo : -9223372036854775808 ≤ v) (hi : v ≤ 9223372036854775807) :
    Calls Try.prog 89 #[.int .i64 v] w fun e w' => e = .returned (.tuple #[.int .i64 (Pl.sgnV 2 v), .bool (Pl.okv 2 v)]) ∧ w' = w := by
  by_cases h : 0 ≤ v ∧ v < 65536
  · obtain ⟨h0, h1⟩ := h
    have hs : IntKind.u16.signed = false := rfl
    have hm : IntKind.u16.max = 65535 := by decide
    have hb : bits .xor .u16 65535 0 = 65535 := by decide
    by_cases h : 32767 < v
    all_goals
      go_enter Try.func89, Try.ntmps89
      go_wp2
      go_ret2
      exact ⟨rIB (by simp [Pl.sgnV, Pl.okv, Pl.sg, Pl.top, h0, h1]; omega) (by simp [Pl.okv, Pl.top, h0, h1]), rfl⟩
  · have hw : IntKind.u16.wrap v = v % 65536 := IntKind.wrap_u16 v
    go_enter Try.func89, Try.ntmps89
    go_wp2
    go_ret2
    have k : Pl.okv 2 v = false := by
      cases c : Pl.okv 2 v
      · rfl
      · have := Pl.top_ok c; omega
    exact ⟨rIB (by simp [Pl.sgnV, k]) k.symm, rfl⟩

theorem signedOf (s v : Int) (w : World) (lo : -9223372036854775808 ≤ v) (hi : v ≤ 9223372036854775807) :
    Calls Try.prog 66 #[.int .i64 s, .int .i64 v] w fun e w' => e = .returned (.tuple #[.int .i64 (Pl.sgnV s v), .bool (Pl.okv s v)]) ∧ w' = w := by
  by_cases h1 : s = 1
  · subst h1
    go_enter Try.func66, Try.ntmps66
    go_wp2_with fail
    refine (signedAs8 v _ lo hi).mono ?_
    rintro e w' ⟨rfl, rfl⟩
    go_wp2_with fail
    go_ret2
    exact ⟨rfl, rfl⟩
  · by_cases h2 : s = 2
    · subst h2
      go_enter Try.func66, Try.ntmps66
      go_wp2_with fail
      refine (signedAs16 v _ lo hi).mono ?_
      rintro e w' ⟨rfl, rfl⟩
      go_wp2_with fail
      go_ret2
      exact ⟨rfl, rfl⟩
    · have k : Pl.okv s v = false := by simp [Pl.okv, h1, h2]
      have k1 : (s == 1) = false := by simpa using h1
      have k2 : (s == 2) = false := by simpa using h2
      go_enter Try.func66, Try.ntmps66
      go_wp2_with fail
      go_ret2
      exact ⟨rIB (by simp [Pl.sgnV, k]) k.symm, rfl⟩

end Go.Proofs.Ytblddehlkaolbaa

namespace Go.Proofs.Ytblddehlkaolbaa
open Go.RowKit
set_option linter.unusedVariables false
theorem specGoodCpu (w : World) (c : Pl.Cp) (a b e q : Option Addr) (ca cb ce cq : Nat) (ha : IRow w a c.r.xs) (hb : IRow w b c.r.ys) (he : IRow w e c.bx) (hq : IRow w q c.bl) (lx : c.r.xs.length ≤ 2000000) (ly : c.r.ys.length ≤ 2000000) (lb : c.bx.length ≤ 2000000) (ll : c.bl.length = 5 * c.bm) (lm : c.bm ≤ 2000000) :
    Calls Try.prog 17 #[.agg #[.slice a c.r.xs.length ca, .slice b c.r.ys.length cb, .int .i64 c.r.o, .int .i64 c.r.p, .int .i64 c.r.f, .int .i64 c.r.m, .bool c.r.s, .bool c.r.t, .slice e c.bx.length ce, .slice q c.bm cq, .bool c.st, .bool c.ha]] w fun r w' => r = .returned (.bool (Pl.cpOk c)) ∧ Kept 0 0 w w' := by
  have K0 := hide (kept_alloc w (.cells #[.slice a c.r.xs.length ca, .slice b c.r.ys.length cb, .int .i64 c.r.o, .int .i64 c.r.p, .int .i64 c.r.f, .int .i64 c.r.m, .bool c.r.s, .bool c.r.t, .slice e c.bx.length ce, .slice q c.bm cq, .bool c.st, .bool c.ha] 29))
  have BA := Blk.new w #[.slice a c.r.xs.length ca, .slice b c.r.ys.length cb, .int .i64 c.r.o, .int .i64 c.r.p, .int .i64 c.r.f, .int .i64 c.r.m, .bool c.r.s, .bool c.r.t, .slice e c.bx.length ce, .slice q c.bm cq, .bool c.st, .bool c.ha] 29
  obtain ⟨X, hX⟩ : ∃ X : World, w.alloc (.cells #[.slice a c.r.xs.length ca, .slice b c.r.ys.length cb, .int .i64 c.r.o, .int .i64 c.r.p, .int .i64 c.r.f, .int .i64 c.r.m, .bool c.r.s, .bool c.r.t, .slice e c.bx.length ce, .slice q c.bm cq, .bool c.st, .bool c.ha] 29) = X := ⟨_, rfl⟩
  rw [hX] at K0 BA
  have HBA := hide BA
  have HA := hide (ha.keptS K0.out)
  have HB := hide (hb.keptS K0.out)
  have HE := hide (he.keptS K0.out)
  have HQ := hide (hq.keptS K0.out)
  clear BA ha hb he hq
  have i0 := HBA.out.cell (i := 0) rfl
  have i1 := HBA.out.cell (i := 1) rfl
  have i2 := HBA.out.cell (i := 2) rfl
  have i3 := HBA.out.cell (i := 3) rfl
  have i4 := HBA.out.cell (i := 4) rfl
  have i5 := HBA.out.cell (i := 5) rfl
  have i6 := HBA.out.cell (i := 6) rfl
  have i7 := HBA.out.cell (i := 7) rfl
  have i8 := HBA.out.cell (i := 8) rfl
  have i9 := HBA.out.cell (i := 9) rfl
  have i10 := HBA.out.cell (i := 10) rfl
  have i11 := HBA.out.cell (i := 11) rfl
  cases h1 : Pl.rgOk c.r
  · go_enter Try.func17, Try.ntmps17
    go_wp2_with (first | (go_at_call 40; refine (specGoodRegs _ c.r a b ca cb HA.out HB.out lx ly).mono ?_; rintro e9 W ⟨rfl, k9⟩; rw [h1]; have HK1 := hide k9; have HB1 := hide (HBA.out.kept0 k9); have HE1 := hide (HE.out.keptS k9); have HQ1 := hide (HQ.out.keptS k9); clear k9 i0 i1 i2 i3 i4 i5 i6 i7 i8 i9 i10 i11; have i0 := HB1.out.cell (i := 0) rfl; have i1 := HB1.out.cell (i := 1) rfl; have i2 := HB1.out.cell (i := 2) rfl; have i3 := HB1.out.cell (i := 3) rfl; have i4 := HB1.out.cell (i := 4) rfl; have i5 := HB1.out.cell (i := 5) rfl; have i6 := HB1.out.cell (i := 6) rfl; have i7 := HB1.out.cell (i := 7) rfl; have i8 := HB1.out.cell (i := 8) rfl; have i9 := HB1.out.cell (i := 9) rfl; have i10 := HB1.out.cell (i := 10) rfl; have i11 := HB1.out.cell (i := 11) rfl))
    go_ret
    exact ⟨rB (by unfold Pl.cpOk; simp [h1]), K0.out.trans HK1.out⟩
  · cases h2 : Pl.goodBus c.bx c.bl c.bm
    · go_enter Try.func17, Try.ntmps17
      go_wp2_with (first | (go_at_call 41; have z9 := HB1; refine (specGoodBus _ e q ce cq c.bm c.bx c.bl HE1.out HQ1.out lb ll lm).mono ?_; rintro e9 W2 ⟨rfl, k9⟩; rw [h2]; have HK2 := hide k9; have HB2 := hide (HB1.out.kept0 k9); clear k9 i0 i1 i2 i3 i4 i5 i6 i7 i8 i9 i10 i11; have i0 := HB2.out.cell (i := 0) rfl; have i1 := HB2.out.cell (i := 1) rfl; have i2 := HB2.out.cell (i := 2) rfl; have i3 := HB2.out.cell (i := 3) rfl; have i4 := HB2.out.cell (i := 4) rfl; have i5 := HB2.out.cell (i := 5) rfl; have i6 := HB2.out.cell (i := 6) rfl; have i7 := HB2.out.cell (i := 7) rfl; have i8 := HB2.out.cell (i := 8) rfl; have i9 := HB2.out.cell (i := 9) rfl; have i10 := HB2.out.cell (i := 10) rfl; have i11 := HB2.out.cell (i := 11) rfl) | (go_at_call 40; refine (specGoodRegs _ c.r a b ca cb HA.out HB.out lx ly).mono ?_; rintro e9 W ⟨rfl, k9⟩; rw [h1]; have HK1 := hide k9; have HB1 := hide (HBA.out.kept0 k9); have HE1 := hide (HE.out.keptS k9); have HQ1 := hide (HQ.out.keptS k9); clear k9 i0 i1 i2 i3 i4 i5 i6 i7 i8 i9 i10 i11; have i0 := HB1.out.cell (i := 0) rfl; have i1 := HB1.out.cell (i := 1) rfl; have i2 := HB1.out.cell (i := 2) rfl; have i3 := HB1.out.cell (i := 3) rfl; have i4 := HB1.out.cell (i := 4) rfl; have i5 := HB1.out.cell (i := 5) rfl; have i6 := HB1.out.cell (i := 6) rfl; have i7 := HB1.out.cell (i := 7) rfl; have i8 := HB1.out.cell (i := 8) rfl; have i9 := HB1.out.cell (i := 9) rfl; have i10 := HB1.out.cell (i := 10) rfl; have i11 := HB1.out.cell (i := 11) rfl))
      go_ret
      exact ⟨rB (by unfold Pl.cpOk; simp [h1, h2]), (K0.out.trans HK1.out).trans HK2.out⟩
    · rcases Bool.eq_false_or_eq_true c.st with h3 | h3
      · have H3 := hide h3
        rw [H3.out] at i10
        clear h3
        go_enter Try.func17, Try.ntmps17
        go_wp2_with (first | (go_at_call 41; have z9 := HB1; refine (specGoodBus _ e q ce cq c.bm c.bx c.bl HE1.out HQ1.out lb ll lm).mono ?_; rintro e9 W2 ⟨rfl, k9⟩; rw [h2]; have HK2 := hide k9; have HB2 := hide (HB1.out.kept0 k9); clear k9 i0 i1 i2 i3 i4 i5 i6 i7 i8 i9 i10 i11; have i0 := HB2.out.cell (i := 0) rfl; have i1 := HB2.out.cell (i := 1) rfl; have i2 := HB2.out.cell (i := 2) rfl; have i3 := HB2.out.cell (i := 3) rfl; have i4 := HB2.out.cell (i := 4) rfl; have i5 := HB2.out.cell (i := 5) rfl; have i6 := HB2.out.cell (i := 6) rfl; have i7 := HB2.out.cell (i := 7) rfl; have i8 := HB2.out.cell (i := 8) rfl; have i9 := HB2.out.cell (i := 9) rfl; have i10 := HB2.out.cell (i := 10) rfl; have i11 := HB2.out.cell (i := 11) rfl; rw [H3.out] at i10) | (go_at_call 40; refine (specGoodRegs _ c.r a b ca cb HA.out HB.out lx ly).mono ?_; rintro e9 W ⟨rfl, k9⟩; rw [h1]; have HK1 := hide k9; have HB1 := hide (HBA.out.kept0 k9); have HE1 := hide (HE.out.keptS k9); have HQ1 := hide (HQ.out.keptS k9); clear k9 i0 i1 i2 i3 i4 i5 i6 i7 i8 i9 i10 i11; have i0 := HB1.out.cell (i := 0) rfl; have i1 := HB1.out.cell (i := 1) rfl; have i2 := HB1.out.cell (i := 2) rfl; have i3 := HB1.out.cell (i := 3) rfl; have i4 := HB1.out.cell (i := 4) rfl; have i5 := HB1.out.cell (i := 5) rfl; have i6 := HB1.out.cell (i := 6) rfl; have i7 := HB1.out.cell (i := 7) rfl; have i8 := HB1.out.cell (i := 8) rfl; have i9 := HB1.out.cell (i := 9) rfl; have i10 := HB1.out.cell (i := 10) rfl; have i11 := HB1.out.cell (i := 11) rfl; rw [H3.out] at i10))
        go_ret
        exact ⟨rB (by unfold Pl.cpOk; simp [h1, h2, H3.out]), (K0.out.trans HK1.out).trans HK2.out⟩
      · have H3 := hide h3
        rw [H3.out] at i10
        clear h3
        go_enter Try.func17, Try.ntmps17
        go_wp2_with (first | (go_at_call 41; have z9 := HB1; refine (specGoodBus _ e q ce cq c.bm c.bx c.bl HE1.out HQ1.out lb ll lm).mono ?_; rintro e9 W2 ⟨rfl, k9⟩; rw [h2]; have HK2 := hide k9; have HB2 := hide (HB1.out.kept0 k9); clear k9 i0 i1 i2 i3 i4 i5 i6 i7 i8 i9 i10 i11; have i0 := HB2.out.cell (i := 0) rfl; have i1 := HB2.out.cell (i := 1) rfl; have i2 := HB2.out.cell (i := 2) rfl; have i3 := HB2.out.cell (i := 3) rfl; have i4 := HB2.out.cell (i := 4) rfl; have i5 := HB2.out.cell (i := 5) rfl; have i6 := HB2.out.cell (i := 6) rfl; have i7 := HB2.out.cell (i := 7) rfl; have i8 := HB2.out.cell (i := 8) rfl; have i9 := HB2.out.cell (i := 9) rfl; have i10 := HB2.out.cell (i := 10) rfl; have i11 := HB2.out.cell (i := 11) rfl; rw [H3.out] at i10) | (go_at_call 40; refine (specGoodRegs _ c.r a b ca cb HA.out HB.out lx ly).mono ?_; rintro e9 W ⟨rfl, k9⟩; rw [h1]; have HK1 := hide k9; have HB1 := hide (HBA.out.kept0 k9); have HE1 := hide (HE.out.keptS k9); have HQ1 := hide (HQ.out.keptS k9); clear k9 i0 i1 i2 i3 i4 i5 i6 i7 i8 i9 i10 i11; have i0 := HB1.out.cell (i := 0) rfl; have i1 := HB1.out.cell (i := 1) rfl; have i2 := HB1.out.cell (i := 2) rfl; have i3 := HB1.out.cell (i := 3) rfl; have i4 := HB1.out.cell (i := 4) rfl; have i5 := HB1.out.cell (i := 5) rfl; have i6 := HB1.out.cell (i := 6) rfl; have i7 := HB1.out.cell (i := 7) rfl; have i8 := HB1.out.cell (i := 8) rfl; have i9 := HB1.out.cell (i := 9) rfl; have i10 := HB1.out.cell (i := 10) rfl; have i11 := HB1.out.cell (i := 11) rfl; rw [H3.out] at i10))
        go_ret
        exact ⟨rB (by unfold Pl.cpOk; simp [h1, h2, H3.out]), (K0.out.trans HK1.out).trans HK2.out⟩
end Go.Proofs.Ytblddehlkaolbaa

namespace Go.Proofs.Ytblddehlkaolbaa
open Go.RowKit
/-- the numbers of registers that came in are ints -/
structure Pl.WfR (d : Pl.Rg) : Prop where
  o : (Lit.int .i64 d.o).wf = true
  p : (Lit.int .i64 d.p).wf = true
  f : (Lit.int .i64 d.f).wf = true
  m : (Lit.int .i64 d.m).wf = true
end Go.Proofs.Ytblddehlkaolbaa

namespace Go.Proofs.Ytblddehlkaolbaa
open Go.RowKit
set_option linter.unusedVariables false
theorem wfB {v : Int} (h : (Lit.int .i64 v).wf = true) : -9223372036854775808 ≤ v ∧ v ≤ 9223372036854775807 := bounds_i64 h
theorem okv2 (v : Int) : Pl.okv 2 v = Pl.wordOk v := by
  unfold Pl.okv Pl.wordOk Pl.within Pl.top
  rw [Bool.eq_iff_iff]; simp; omega
theorem isWord (v : Int) (w : World) (lo : -9223372036854775808 ≤ v) (hi : v ≤ 9223372036854775807) :
    Calls Try.prog 30 #[.int .i64 v] w fun e w' => e = .returned (.bool (Pl.wordOk v)) ∧ w' = w := by
  go_enter Try.func30, Try.ntmps30
  go_wp2_with (go_at_call 66; refine (signedOf _ _ _ lo hi).mono ?_; rintro e w' ⟨rfl, hw⟩; have hw2 := hw.symm; clear hw; subst hw2; rw [okv2])
  go_ret
  exact ⟨rfl, rfl⟩
end Go.Proofs.Ytblddehlkaolbaa

namespace Go.Proofs.Ytblddehlkaolbaa
open Go.RowKit
set_option linter.unusedVariables false

theorem isFlags6 (k : Int) (w : World) : Calls Try.prog 79 #[.int .i64 k] w fun e w' => e = .returned (.bool (Pl.within k 0 31)) ∧ w' = w := by
  by_cases h0 : 0 ≤ k
  · by_cases h1 : k ≤ 31
    · go_enter Try.func79, Try.ntmps79
      go_wp2
      go_ret
      exact ⟨rB (by simp [Pl.within, h0, h1]), rfl⟩
    · go_enter Try.func79, Try.ntmps79
      go_wp2
      go_ret
      exact ⟨rB (by simp [Pl.within, h0]; omega), rfl⟩
  · go_enter Try.func79, Try.ntmps79
    go_wp2
    go_ret
    exact ⟨rB (by simp [Pl.within]; omega), rfl⟩
theorem areWords (w : World) (a : Option Addr) (ca : Nat) (xs : List Int) (ha : Came w a xs) (lx : xs.length ≤ 2000000) :
    Calls Try.prog 78 #[.slice a xs.length ca] w fun e w' => e = .returned (.bool (xs.all Pl.wordOk)) ∧ w' = w := by
  have HA := hide ha
  clear ha
  go_enter Try.func78, Try.ntmps78
  go_wp2
  go_loop [4, 7] (fun _ j => ∃ k : Nat, k ≤ xs.length ∧ j = .int .i64 k ∧ ∀ i, i < k → Pl.wordOk (el xs i) = true) (fun _ j => xs.length - (intOf j).toNat)
  case atStart => exact ⟨0, Nat.zero_le _, rfl, fun i hi => absurd hi (Nat.not_lt_zero i)⟩
  case round =>
    obtain ⟨k, hk, rfl, heq⟩ := hrel
    have HE := hide heq
    clear heq
    by_cases hlt : k < xs.length
    · obtain ⟨g1, o1, rfl, hc1⟩ := HA.out.1 k hlt
      obtain ⟨lo, hi⟩ := HA.out.2 k hlt
      rw [show xs[k]?.getD 0 = el xs k from rfl] at hc1 lo hi
      cases hb : Pl.wordOk (el xs k)
      · go_wp2_with (go_at_call 30; refine (isWord _ _ lo hi).mono ?_; rintro e w' ⟨rfl, rfl⟩; rw [hb])
        go_ret
        refine ⟨rB ?_, rfl⟩
        have hm : xs[k]'hlt ∈ xs := List.getElem_mem hlt
        have he : el xs k = xs[k]'hlt := by simp [el, List.getElem?_eq_getElem hlt]
        rw [he] at hb
        cases hq : xs.all Pl.wordOk
        · rfl
        · have := List.all_eq_true.1 hq _ hm
          rw [hb] at this; cases this
      · go_wp2_with (go_at_call 30; refine (isWord _ _ lo hi).mono ?_; rintro e w' ⟨rfl, rfl⟩; rw [hb])
        go_round
        case rel => exact ⟨k + 1, by omega, by go_num, snoc_all HE.out hb⟩
        case measure => simp [intOf]; omega
    · go_wp2
      go_ret
      refine ⟨rB ?_, rfl⟩
      symm
      rw [List.all_eq_true]
      intro x hx
      obtain ⟨i, hi, rfl⟩ := List.getElem_of_mem hx
      have := HE.out i (by omega)
      simpa [el, List.getElem?_eq_getElem hi] using this
end Go.Proofs.Ytblddehlkaolbaa

