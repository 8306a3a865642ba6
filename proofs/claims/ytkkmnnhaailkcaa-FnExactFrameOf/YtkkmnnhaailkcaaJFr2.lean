/- What the model's test of a value of a size answers, for every argument; none changes the world. What the models of chapter 4 that only look answer, for every argument. What an access does to a bus, in numbers: plain arithmetic; no Go text is spoken of here. Bits moved one place at a time, so often, and back; how many are 1; the other way round: plain arithmetic; no Go text is spoken of here. A step of a processor in numbers: plain arithmetic; no Go text is spoken of here. What the laws' own functions over Cpu and Fault do: size, comparison, marks. What the laws' toCpu does: a copy, each list in a new block of its own. Exceptions in numbers: which faults are good, what a frame holds. What the law's toFault answers. Registers whose numbers are ints. What the model's tests of words and operands answer. What the models of chapter 6 answer that make nothing: tests of registers and operands, the status. What the model's l11Long, GoodFault, IsLongFrame answer, for every fault. What the model of StatusOf answers, for every argument. InfoOf, FrameOf, VectorAt in numbers; small rules. -/
import Derived.Test.YtkkmnnhaailkcaaJFr1
import Derived.BigQuiet
import Derived.Deep.QuietTactic
import Derived.Deep.RegionHeld3
import Derived.Deep.AppendLies
namespace Go.Proofs.Ytkkmnnhaailkcaa
open Go.RowKit
set_option linter.unusedVariables false

theorem l1Top1 (w : World) : Calls Try.prog 87 #[iv 1] w fun e w' => e = .returned (iv 256) ∧ w' = w := by
  go_enter Try.func87, Try.ntmps87
  go_wp2
  go_ret
  exact ⟨rfl, rfl⟩

theorem l1Top2 (w : World) : Calls Try.prog 87 #[iv 2] w fun e w' => e = .returned (iv 65536) ∧ w' = w := by
  go_enter Try.func87, Try.ntmps87
  go_wp2
  go_ret
  exact ⟨rfl, rfl⟩

theorem l1Value (s v : Int) (w : World) :
    Calls Try.prog 83 #[iv s, iv v] w fun e w' => e = .returned (.bool (Pl.okv s v)) ∧ w' = w := by
  by_cases h1 : s = 1
  · subst h1
    go_enter Try.func83, Try.ntmps83
    go_wp2_with fail
    refine (l1Size1 _).mono ?_
    rintro e w' ⟨rfl, rfl⟩
    go_wp2_with fail
    refine (l1Top1 _).mono ?_
    rintro e w' ⟨rfl, rfl⟩
    go_wp2_with fail
    refine (l1In _ _ _ _).mono ?_
    rintro e w' ⟨rfl, rfl⟩
    go_wp2_with fail
    go_ret
    exact ⟨rB (by rw [Bool.eq_iff_iff]; simp [Pl.okv, Pl.top]; omega), rfl⟩
  · by_cases h2 : s = 2
    · subst h2
      go_enter Try.func83, Try.ntmps83
      go_wp2_with fail
      refine (l1Size2 _).mono ?_
      rintro e w' ⟨rfl, rfl⟩
      go_wp2_with fail
      refine (l1Top2 _).mono ?_
      rintro e w' ⟨rfl, rfl⟩
      go_wp2_with fail
      refine (l1In _ _ _ _).mono ?_
      rintro e w' ⟨rfl, rfl⟩
      go_wp2_with fail
      go_ret
      exact ⟨rB (by rw [Bool.eq_iff_iff]; simp [Pl.okv, Pl.top]; omega), rfl⟩
    · go_enter Try.func83, Try.ntmps83
      go_wp2_with fail
      refine (l1Size_no s _ h1 h2).mono ?_
      rintro e w' ⟨rfl, rfl⟩
      go_wp2_with fail
      go_ret
      exact ⟨rB (by simp [Pl.okv, h1, h2]), rfl⟩

end Go.Proofs.Ytkkmnnhaailkcaa

namespace Go.Proofs.Ytkkmnnhaailkcaa
open Go.RowKit
set_option linter.unusedVariables false

theorem l4Addr (a : Int) (w : World) : Calls Try.prog 63 #[iv a] w fun e w' => e = .returned (.bool (Pl.addr a)) ∧ w' = w := by
  go_enter Try.func63, Try.ntmps63
  go_wp2_with fail
  refine (l1In _ _ _ _).mono ?_
  rintro e w' ⟨rfl, rfl⟩
  go_wp2_with fail
  go_ret
  exact ⟨rfl, rfl⟩
theorem l4Access (k s a v c : Int) (w : World) : Calls Try.prog 74 #[.agg #[iv k, iv s, iv a, iv v, iv c]] w fun e w' => e = .returned (.bool (Pl.accOk k s a v c)) ∧ ∃ o, w' = w.alloc o := by
  cases h1 : (decide (1 ≤ k) && decide (k ≤ 3))
  · go_enter Try.func74, Try.ntmps74
    go_wp2_with (first | (go_at_call 26; refine (l1In _ _ _ _).mono ?_; rintro e w' ⟨rfl, rfl⟩; rw [h1]) | (go_at_call 83; refine (l1Value _ _ _).mono ?_; rintro e w' ⟨rfl, rfl⟩) | (go_at_call 63; refine (l4Addr _ _).mono ?_; rintro e w' ⟨rfl, rfl⟩))
    go_ret
    exact ⟨rB (by unfold Pl.accOk Pl.accKind; rw [h1]; simp), _, rfl⟩
  · cases h2 : Pl.okv s v
    · go_enter Try.func74, Try.ntmps74
      go_wp2_with (first | (go_at_call 26; refine (l1In _ _ _ _).mono ?_; rintro e w' ⟨rfl, rfl⟩; rw [h1]) | (go_at_call 83; refine (l1Value _ _ _).mono ?_; rintro e w' ⟨rfl, rfl⟩; rw [h2]) | (go_at_call 63; refine (l4Addr _ _).mono ?_; rintro e w' ⟨rfl, rfl⟩))
      go_ret
      exact ⟨rB (by unfold Pl.accOk Pl.accKind; rw [h1, h2]; simp), _, rfl⟩
    · cases h3 : Pl.addr a
      · go_enter Try.func74, Try.ntmps74
        go_wp2_with (first | (go_at_call 26; refine (l1In _ _ _ _).mono ?_; rintro e w' ⟨rfl, rfl⟩; rw [h1]) | (go_at_call 83; refine (l1Value _ _ _).mono ?_; rintro e w' ⟨rfl, rfl⟩; rw [h2]) | (go_at_call 63; refine (l4Addr _ _).mono ?_; rintro e w' ⟨rfl, rfl⟩; rw [h3]))
        go_ret
        exact ⟨rB (by unfold Pl.accOk Pl.accKind; rw [h1, h2, h3]; simp), _, rfl⟩
      · cases h4 : (decide (0 ≤ c) && decide (c ≤ 3))
        · go_enter Try.func74, Try.ntmps74
          go_wp2_with (first | (go_at_call 26; refine (l1In _ _ _ _).mono ?_; rintro e w' ⟨rfl, rfl⟩; first | rw [h1] | rw [h4]) | (go_at_call 83; refine (l1Value _ _ _).mono ?_; rintro e w' ⟨rfl, rfl⟩; rw [h2]) | (go_at_call 63; refine (l4Addr _ _).mono ?_; rintro e w' ⟨rfl, rfl⟩; rw [h3]))
          go_ret
          exact ⟨rB (by unfold Pl.accOk Pl.accKind; rw [h1, h2, h3, h4]; simp), _, rfl⟩
        · cases h5 : (k != 3)
          · cases h6 : (c != 0)
            all_goals
              go_enter Try.func74, Try.ntmps74
              go_wp2_with (first | (go_at_call 26; refine (l1In _ _ _ _).mono ?_; rintro e w' ⟨rfl, rfl⟩; first | rw [h1] | rw [h4]) | (go_at_call 83; refine (l1Value _ _ _).mono ?_; rintro e w' ⟨rfl, rfl⟩; rw [h2]) | (go_at_call 63; refine (l4Addr _ _).mono ?_; rintro e w' ⟨rfl, rfl⟩; rw [h3]))
              go_ret
              exact ⟨rB (by unfold Pl.accOk Pl.accKind; rw [h1, h2, h3, h4, h5, h6]; simp), _, rfl⟩
          · go_enter Try.func74, Try.ntmps74
            go_wp2_with (first | (go_at_call 26; refine (l1In _ _ _ _).mono ?_; rintro e w' ⟨rfl, rfl⟩; first | rw [h1] | rw [h4]) | (go_at_call 83; refine (l1Value _ _ _).mono ?_; rintro e w' ⟨rfl, rfl⟩; rw [h2]) | (go_at_call 63; refine (l4Addr _ _).mono ?_; rintro e w' ⟨rfl, rfl⟩; rw [h3]))
            go_ret
            exact ⟨rB (by unfold Pl.accOk Pl.accKind; rw [h1, h2, h3, h4, h5]; simp), _, rfl⟩

theorem specGoodBus (w : World) (a b : Option Addr) (ca cb m : Nat) (xs ys : List Int) (ha : IRow w a xs) (hb : IRow w b ys) (lx : xs.length ≤ 2000000) (ly : ys.length = 5 * m) (bm : m ≤ 2000000) :
    Calls Try.prog 52 #[.agg #[.slice a xs.length ca, .slice b m cb]] w fun e w' => e = .returned (.bool (Pl.goodBus xs ys m)) ∧ Kept 0 0 w w' := by
  have HA := hide ha
  have HB := hide hb
  have HY := hide ly
  clear ha hb ly
  go_enter Try.func52, Try.ntmps52
  go_wp2
  have HK0 := hide (kept_alloc w (.cells #[.slice a xs.length ca, .slice b m cb] 42))
  have HW := hide (Blk.new w #[.slice a xs.length ca, .slice b m cb] 42)
  obtain ⟨W, hW⟩ : ∃ W : World, W = w.alloc (.cells #[.slice a xs.length ca, .slice b m cb] 42) := ⟨_, rfl⟩
  rw [← hW] at HK0 HW ⊢
  clear hW
  go_loopw [4, 8] (fun _ j wr => ∃ k : Nat, k ≤ m ∧ j = iv k ∧ (∀ i, i < k → Pl.accAt ys i = true) ∧ Kept 0 0 W wr) (fun _ j _ => m - (intOf j).toNat)
  case atStart => exact ⟨0, Nat.zero_le _, rfl, fun i hi => absurd hi (Nat.not_lt_zero i), Kept.refl _ _ _⟩
  case round =>
    obtain ⟨k, hk, rfl, heq, hkept⟩ := hrel
    have HE := hide heq
    have HK := hide hkept
    clear heq hkept
    by_cases hlt : k < m
    · obtain ⟨g1, o1, rfl, p0, p1, p2, p3, p4⟩ := (HB.out.keptS (HK0.out.trans HK.out)).five HY.out hlt
      cases hb : Pl.accAt ys k
      · have hb2 : Pl.accOk (el ys (k * 5)) (el ys (k * 5 + 1)) (el ys (k * 5 + 2)) (el ys (k * 5 + 3)) (el ys (k * 5 + 4)) = false := hb
        clear hb
        go_wp2_with (go_at_call 74; refine (l4Access _ _ _ _ _ _).mono ?_; rintro e w' ⟨rfl, o, rfl⟩; rw [hb2])
        go_ret
        exact ⟨rB (by unfold Pl.goodBus; rw [Pl.accsOk_no hlt hb2]; rfl), HK0.out.trans (kept_new (kept_new HK.out _) _)⟩
      · have hb2 : Pl.accOk (el ys (k * 5)) (el ys (k * 5 + 1)) (el ys (k * 5 + 2)) (el ys (k * 5 + 3)) (el ys (k * 5 + 4)) = true := hb
        clear hb
        go_wp2_with (go_at_call 74; refine (l4Access _ _ _ _ _ _).mono ?_; rintro e w' ⟨rfl, o, rfl⟩; rw [hb2])
        go_roundw
        case rel => exact ⟨k + 1, by omega, by go_num, snoc_all HE.out hb2, kept_new (kept_new HK.out _) _⟩
        case measure => simp [intOf]; omega
    · have HA1 : Hid (Pl.accsOk ys m = true) := hide (Pl.accsOk_of (fun i hi => HE.out i (by omega)))
      have B := HW.out.kept0 HK.out
      have c0 := B.cell (i := 0) rfl
      have c1 := B.cell (i := 1) rfl
      have HX := hide (HA.out.keptS (HK0.out.trans HK.out))
      clear B
      have G : Hid (Pl.goodBus xs ys m = (((xs.length : Int) == 512) && (Pl.bytesOk xs && decide ((m : Int) ≤ 400)))) := hide (by
        unfold Pl.goodBus
        rw [HA1.out, Bool.true_and]
        congr 1
        · rw [Bool.eq_iff_iff]; simp; omega
        · congr 1; rw [Bool.eq_iff_iff]; simp; omega)
      cases h1 : ((xs.length : Int) == 512)
      · go_wp2_with fail
        go_ret
        exact ⟨rB (by rw [G.out, h1]; rfl), HK0.out.trans HK.out⟩
      · cases h2 : Pl.bytesOk xs
        · go_wp2_with fail
          refine (l4Bytes _ a ca xs HX.out lx).mono ?_
          rintro e w' ⟨rfl, rfl⟩
          rw [h2]
          go_wp2_with fail
          go_ret
          exact ⟨rB (by rw [G.out, h1, h2]; rfl), HK0.out.trans HK.out⟩
        · cases h3 : decide ((m : Int) ≤ 400)
          all_goals
            go_wp2_with fail
            refine (l4Bytes _ a ca xs HX.out lx).mono ?_
            rintro e w' ⟨rfl, rfl⟩
            rw [h2]
            go_wp2_with fail
            go_ret
            exact ⟨rB (by rw [G.out, h1, h2, h3]; rfl), HK0.out.trans HK.out⟩
end Go.Proofs.Ytkkmnnhaailkcaa

namespace Go.Proofs.Ytkkmnnhaailkcaa.Pl
set_option linter.unusedVariables false
/-- a value laid there, of a size -/
def wr (xs : List Int) (s : Int) (i : Nat) (v : Int) : List Int := if s = 1 then xs.set i v else (xs.set i (v / 256)).set (i + 1) (v % 256)
end Go.Proofs.Ytkkmnnhaailkcaa.Pl

namespace Go.Proofs.Ytkkmnnhaailkcaa.Pl
set_option linter.unusedVariables false

/-- the highest bit -/
def hi (s v : Int) : Int := if top s / 2 ≤ v then 1 else 0
/-- what falls out -/
def fell (k s v : Int) : Int := if k % 2 = 0 then hi s v else v % 2
/-- what comes in -/
def inn (k s x v : Int) : Int := if k = 1 then hi s v else if k = 4 ∨ k = 5 then fell k s v else if 6 ≤ k then x else 0
def nv (k s x v : Int) : Int := if k % 2 = 0 then v * 2 % top s + inn k s x v else v / 2 + inn k s x v * (top s / 2)
def nx (k s x v : Int) : Int := if k = 4 ∨ k = 5 then x else fell k s v
/-- a value and the kept bit, one place on -/
def stp (k s : Int) (p : Int × Int) : Int × Int := (nv k s p.2 p.1, nx k s p.2 p.1)
def st (k s : Int) (p : Int × Int) : Nat → Int × Int
  | 0 => p
  | n + 1 => stp k s (st k s p n)
/-! ### what a call answers -/
end Go.Proofs.Ytkkmnnhaailkcaa.Pl

namespace Go.Proofs.Ytkkmnnhaailkcaa.Pl
set_option linter.unusedVariables false

/-- a processor -/
structure Cp where
  r : Rg
  bx : List Int
  bl : List Int
  bm : Nat
  st : Bool
  ha : Bool
/-- a fault -/
structure Ft where
  v : Int
  pc : Int
  ad : Int
  wo : Int
  wr : Bool
/-- a step on its way -/
structure Mc where
  r : Rg
  bx : List Int
  bl : List Int
  bm : Nat
  st : Bool
  f : Ft
def cpOk (c : Cp) : Bool := rgOk c.r && (goodBus c.bx c.bl c.bm && !(c.st && c.ha))
namespace Mc
/- the instruction at PC -/
/- operands -/
/- a step -/
end Mc
end Go.Proofs.Ytkkmnnhaailkcaa.Pl
namespace Go.Proofs.Ytkkmnnhaailkcaa
abbrev cpA (c : Pl.Cp) (a b e q : Option Addr) (ca cb ce cq : Nat) : Array Value := #[.slice a c.r.xs.length ca, .slice b c.r.ys.length cb, iv c.r.o, iv c.r.p, iv c.r.f, iv c.r.m, .bool c.r.s, .bool c.r.t, .slice e c.bx.length ce, .slice q c.bm cq, .bool c.st, .bool c.ha]
abbrev ftA (f : Pl.Ft) : Array Value := #[iv f.v, iv f.pc, iv f.ad, iv f.wo, .bool f.wr]
end Go.Proofs.Ytkkmnnhaailkcaa

namespace Go.Proofs.Ytkkmnnhaailkcaa
open Go.RowKit
set_option linter.unusedVariables false
/-- of the blocks that were there all but two are as they were -/
structure KeptB (p q : Option Nat) (w w' : World) : Prop where
  os : w'.os = w.os
  tape : w'.tape = w.tape
  output : w'.output = w.output
  size : w.heap.size ≤ w'.heap.size
  block : ∀ k, k < w.heap.size → some k ≠ p → some k ≠ q → w'.heap[k]? = w.heap[k]?
theorem kb_of {p q : Option Nat} {w X w1 w2 : World} (k : Kept 0 0 w X) (g1 : X.grownBy w1 p) (g2 : w1.grownBy w2 q) : KeptB p q w w2 :=
  ⟨(g2.os.trans g1.os).trans k.os, (g2.tape.trans g1.tape).trans k.tape, (g2.output.trans g1.output).trans k.output, Nat.le_trans k.size (Nat.le_trans g1.size g2.size), fun i hi h1 h2 =>
    (g2.block i (Nat.lt_of_lt_of_le (Nat.lt_of_lt_of_le hi k.size) g1.size) h2).trans ((g1.block i (Nat.lt_of_lt_of_le hi k.size) h1).trans (k.block i hi (by omega)))⟩
theorem Own.keptB {w w' : World} {g : Nat} {xs : List Int} {p q : Option Nat} (h : Own w g xs) (k : KeptB p q w w') (h1 : some g ≠ p) (h2 : some g ≠ q) : Own w' g xs := by
  intro i hi
  obtain ⟨hc, hf⟩ := h i hi
  have e := k.block g (World.block_lt_of_cell? _ _ hc) h1 h2
  exact ⟨by rw [World.cell?_of_block (w := w) e]; exact hc, by rw [World.frozen?_of_block (w := w) e]; exact hf⟩
theorem SlotIn.keptB {w w' : World} {lo hi : Nat} {a : Option Addr} {xs : List Int} {p q : Option Nat} (h : SlotIn w lo hi a xs) (k : KeptB p q w w') (h1 : ∀ g, blk a = some g → some g ≠ p) (h2 : ∀ g, blk a = some g → some g ≠ q) : SlotIn w' lo hi a xs := by
  rcases h with h | ⟨g, ea, b0, b1, ho⟩
  · exact .inl h
  · exact .inr ⟨g, ea, b0, b1, ho.keptB k (h1 g (by rw [ea]; rfl)) (h2 g (by rw [ea]; rfl))⟩
theorem markRegs2 (w : World) (lo hi : Nat) (o pc fl mk : Int) (su tr : Bool) (a b : Option Addr) (ca cb : Nat) (xs ys : List Int) (q : Int) (ha : SlotIn w lo hi a xs) (hb : SlotIn w lo hi b ys) (hab : ∀ g, blk a = some g → blk b ≠ some g) (hh : hi ≤ w.heap.size) (lx : xs.length ≤ 2000000) (ly : ys.length ≤ 2000000) (q0 : 0 ≤ q) (q1 : q ≤ 10000000) :
    Calls Try.prog 42 #[.agg #[.slice a xs.length ca, .slice b ys.length cb, iv o, iv pc, iv fl, iv mk, .bool su, .bool tr], iv q] w fun e w' => e = .returned (iv (q + (xs.length : Int) + (ys.length : Int))) ∧ SlotIn w' lo hi a (marks q xs.length) ∧ SlotIn w' lo hi b (marks (q + (xs.length : Int)) ys.length) ∧ Kept lo hi w w' ∧ KeptB (blk a) (blk b) w w' := by
  have HA := hide ha
  have HB := hide hb
  have HAB := hide hab
  clear ha hb hab
  go_enter Try.func42, Try.ntmps42
  go_wp2_with fail
  have k0 := kept_alloc w (.cells #[.slice a xs.length ca, .slice b ys.length cb, iv o, iv pc, iv fl, iv mk, .bool su, .bool tr] 39)
  have s0 := HA.out.kept k0 (by omega)
  have t0 := HB.out.kept k0 (by omega)
  refine (markSlot _ lo ca a xs q (s0.slot (by simp; omega)) lx q0 (by omega)).mono ?_
  rintro e w1 ⟨rfl, s1, g1⟩
  have k1 := kept_row g1 s0.blk_in
  have s1' := s0.again s1
  have B0 := (Blk.new w #[.slice a xs.length ca, .slice b ys.length cb, iv o, iv pc, iv fl, iv mk, .bool su, .bool tr] 39).kept k1 (by omega)
  have c1 := B0.cell (i := 1) rfl
  have t1 : SlotIn w1 lo hi b ys := by
    rcases t0 with t | ⟨g, eb, b0, b1, ho⟩
    · exact .inl t
    · refine .inr ⟨g, eb, b0, b1, ho.kept g1 ?_⟩
      intro e
      exact HAB.out g e.symm (by rw [eb]; rfl)
  have HG1 := hide g1
  have HK0 := hide k0
  have HK1 := hide ((k0.any (lo := lo) (hi := hi)).trans k1)
  have HS1 := hide s1'
  have HT1 := hide t1
  clear k0 s0 t0 s1 g1 k1 s1' t1 B0
  go_wp2_with fail
  refine (markSlot _ lo cb b ys (q + (xs.length : Int)) (HT1.out.slot (Nat.le_trans hh HK1.out.size)) ly (by omega) (by omega)).mono ?_
  rintro e w2 ⟨rfl, s2, g2⟩
  have k2 := kept_row g2 HT1.out.blk_in
  have HS2 : Hid (SlotIn w2 lo hi a (marks q xs.length)) := hide (by
    rcases HS1.out with t | ⟨g, ea, b0, b1, ho⟩
    · exact .inl t
    · refine .inr ⟨g, ea, b0, b1, ho.kept g2 ?_⟩
      intro e
      exact HAB.out g (by rw [ea]; rfl) e.symm)
  have HT2 := hide (HT1.out.again s2)
  have HK2 := hide (HK1.out.trans k2)
  have HB2 := hide (kb_of HK0.out HG1.out g2)
  clear s2 g2 k2
  go_wp2_with fail
  go_ret
  exact ⟨rfl, HS2.out, HT2.out, HK2.out, HB2.out⟩

theorem markBus2 (w : World) (lo hi : Nat) (a b : Option Addr) (ca cb m : Nat) (xs ys : List Int) (q : Int) (ha : SlotIn w lo hi a xs) (hb : SlotIn w lo hi b ys) (hab : ∀ g, blk a = some g → blk b ≠ some g) (hh : hi ≤ w.heap.size) (lx : xs.length ≤ 2000000) (ly : ys.length = 5 * m) (bm : m ≤ 2000000) (q0 : 0 ≤ q) (q1 : q ≤ 10000000) :
    Calls Try.prog 43 #[.agg #[.slice a xs.length ca, .slice b m cb], iv q] w fun e w' => e = .returned (iv (q + (xs.length : Int) + 5 * (m : Int))) ∧ SlotIn w' lo hi a (marks q xs.length) ∧ SlotIn w' lo hi b (marks (q + (xs.length : Int)) (5 * m)) ∧ Kept lo hi w w' ∧ KeptB (blk a) (blk b) w w' := by
  have HY := hide ly
  have HA := hide ha
  have HB := hide hb
  have HAB := hide hab
  clear ly ha hb hab
  go_enter Try.func43, Try.ntmps43
  go_wp2_with fail
  have k0 := kept_alloc w (.cells #[.slice a xs.length ca, .slice b m cb] 42)
  have s0 := HA.out.kept k0 (by omega)
  have t0 := HB.out.kept k0 (by omega)
  refine (markSlot _ lo ca a xs q (s0.slot (by simp; omega)) lx q0 (by omega)).mono ?_
  rintro e w1 ⟨rfl, s1, g1⟩
  have k1 := kept_row g1 s0.blk_in
  have s1' := s0.again s1
  have B0 := (Blk.new w #[.slice a xs.length ca, .slice b m cb] 42).kept k1 (by omega)
  have c1 := B0.cell (i := 1) rfl
  have t1 : SlotIn w1 lo hi b ys := by
    rcases t0 with t | ⟨g, eb, b0, b1, ho⟩
    · exact .inl t
    · refine .inr ⟨g, eb, b0, b1, ho.kept g1 ?_⟩
      intro e
      exact HAB.out g e.symm (by rw [eb]; rfl)
  have HG1 := hide g1
  have HK0 := hide k0
  have HK1 := hide ((k0.any (lo := lo) (hi := hi)).trans k1)
  have HS1 := hide s1'
  have HT1 := hide t1
  clear k0 s0 t0 s1 g1 k1 s1' t1 B0
  go_wp2_with fail
  refine (markSlotA _ lo cb m b ys (q + (xs.length : Int)) (HT1.out.slot (Nat.le_trans hh HK1.out.size)) HY.out bm (by omega) (by omega)).mono ?_
  rintro e w2 ⟨rfl, s2, g2⟩
  have k2 := kept_row g2 HT1.out.blk_in
  have HS2 : Hid (SlotIn w2 lo hi a (marks q xs.length)) := hide (by
    rcases HS1.out with t | ⟨g, ea, b0, b1, ho⟩
    · exact .inl t
    · refine .inr ⟨g, ea, b0, b1, ho.kept g2 ?_⟩
      intro e
      exact HAB.out g (by rw [ea]; rfl) e.symm)
  have HT2 := hide (HT1.out.again s2)
  have HK2 := hide (HK1.out.trans k2)
  have HB2 := hide (kb_of HK0.out HG1.out g2)
  clear s2 g2 k2
  go_wp2_with fail
  go_ret
  exact ⟨rfl, HS2.out, HT2.out, HK2.out, HB2.out⟩

/-- a processor's four lists: each in a block of its own, of the span -/
structure CpSl (w : World) (lo hi : Nat) (c : Pl.Cp) (a b e q : Option Addr) : Prop where
  d : SlotIn w lo hi a c.r.xs
  a' : SlotIn w lo hi b c.r.ys
  b' : SlotIn w lo hi e c.bx
  l : SlotIn w lo hi q c.bl
  n1 : ∀ g, blk a = some g → blk b ≠ some g
  n2 : ∀ g, blk a = some g → blk e ≠ some g
  n3 : ∀ g, blk a = some g → blk q ≠ some g
  n4 : ∀ g, blk b = some g → blk e ≠ some g
  n5 : ∀ g, blk b = some g → blk q ≠ some g
  n6 : ∀ g, blk e = some g → blk q ≠ some g
theorem CpSl.kept {w w' : World} {l h lo hi : Nat} {c : Pl.Cp} {a b e q : Option Addr} (s : CpSl w l h c a b e q) (k : Kept lo hi w w') (hd : h ≤ lo ∨ hi ≤ l ∨ hi ≤ lo) : CpSl w' l h c a b e q :=
  ⟨s.d.kept k hd, s.a'.kept k hd, s.b'.kept k hd, s.l.kept k hd, s.n1, s.n2, s.n3, s.n4, s.n5, s.n6⟩
def szC (n m k j : Nat) (left : Int) : Int := if szB n m left < 0 then -1 else szB k j (szB n m left)
theorem szC_neg {n m k j : Nat} {left : Int} (h : ¬ szC n m k j left < 0) : (n : Int) + (m : Int) + (k : Int) + (j : Int) ≤ left := by
  unfold szC at h
  split at h
  · exact absurd (by decide) h
  · rename_i h1
    have a1 := szB_neg h1
    have a2 := szB_neg h
    unfold szB at a2
    split at a2
    · omega
    · split at a2 <;> omega
theorem szB_hi {n m : Nat} {left : Int} (h : ¬ szB n m left < 0) : 0 ≤ szB n m left ∧ szB n m left ≤ left := by
  unfold szB at h ⊢
  split
  · rename_i h1; rw [if_pos h1] at h; exact absurd (by decide) h
  · rename_i h1
    rw [if_neg h1] at h
    split
    · rename_i h2; rw [if_pos h2] at h; exact absurd (by decide) h
    · omega
theorem szB_minus {n m : Nat} {left : Int} (h : szB n m left < 0) : szB n m left = -1 := by
  unfold szB at h ⊢
  split
  · rfl
  · rename_i h1
    rw [if_neg h1] at h
    split
    · rfl
    · rename_i h2; rw [if_neg h2] at h; omega
theorem szCpu (w : World) (c : Pl.Cp) (a b e q : Option Addr) (ca cb ce cq : Nat) (left : Int) (lx : c.r.xs.length ≤ 9223372036854775807) (ly : c.r.ys.length ≤ 9223372036854775807) (lb : c.bx.length ≤ 9223372036854775807) (lm : c.bm ≤ 9223372036854775807) (l0 : 0 ≤ left) (l1 : left ≤ 2000000) :
    Calls Try.prog 11 #[.agg (cpA c a b e q ca cb ce cq), iv left] w fun r w' => r = .returned (iv (szC c.r.xs.length c.r.ys.length c.bx.length c.bm left)) ∧ Kept 0 0 w w' := by
  have K0 := hide (kept_alloc w (.cells (cpA c a b e q ca cb ce cq) 35))
  have B0 := hide (Blk.new w (cpA c a b e q ca cb ce cq) 35)
  by_cases h : szB c.r.xs.length c.r.ys.length left < 0
  · have E : Hid (szC c.r.xs.length c.r.ys.length c.bx.length c.bm left = -1) := hide (by simp [szC, h])
    have e1 := szB_minus h
    go_enter Try.func11, Try.ntmps11
    go_wp2_with fail
    refine (szRegs _ _ _ _ _ _ _ _ _ _ _ _ _ left lx ly l0 l1).mono ?_
    rintro e9 w1 ⟨rfl, k⟩
    rw [e1]
    have HK := hide (K0.out.trans k)
    clear k
    go_wp2_with fail
    go_ret
    exact ⟨rI E.out.symm, HK.out⟩
  · obtain ⟨s0, s1⟩ := szB_hi h
    have E : Hid (szC c.r.xs.length c.r.ys.length c.bx.length c.bm left = szB c.bx.length c.bm (szB c.r.xs.length c.r.ys.length left)) := hide (by simp [szC, h])
    revert h s0 s1 E
    generalize hS : szB c.r.xs.length c.r.ys.length left = S
    have HS := hide hS
    clear hS
    intro h s0 s1 E
    by_cases h2 : szB c.bx.length c.bm S < 0
    all_goals
      have E2 := hide (fun q => @szB_minus c.bx.length c.bm S q)
      go_enter Try.func11, Try.ntmps11
      go_wp2_with fail
      refine (szRegs _ _ _ _ _ _ _ _ _ _ _ _ _ left lx ly l0 l1).mono ?_
      rintro e9 w1 ⟨rfl, k⟩
      rw [HS.out]
      have HK := hide (K0.out.trans k)
      have B1 := hide (B0.out.kept0 k)
      clear k
      have i8 := B1.out.cell (i := 8) rfl
      have i9 := B1.out.cell (i := 9) rfl
      go_wp2_with fail
      refine (szBus _ _ _ _ _ _ _ S lb lm s0 (by omega)).mono ?_
      rintro e9 w2 ⟨rfl, k⟩
      have HK2 := hide (HK.out.trans k)
      clear k i8 i9
      go_wp2_with fail
      go_ret
      first
        | exact ⟨rI E.out.symm, HK2.out⟩
        | exact ⟨rI (by rw [E.out, E2.out h2]), HK2.out⟩
set_option maxHeartbeats 4000000 in
theorem eqCpu (w : World) (c : Pl.Cp) (a b e q a2 b2 e2 q2 : Option Addr) (ca cb ce cq ca2 cb2 ce2 cq2 : Nat) (ha : IRow w a c.r.xs) (hb : IRow w b c.r.ys) (he : IRow w e c.bx) (hq : IRow w q c.bl) (ha2 : IRow w a2 c.r.xs) (hb2 : IRow w b2 c.r.ys) (he2 : IRow w e2 c.bx) (hq2 : IRow w q2 c.bl) (lx : c.r.xs.length ≤ 2000000) (ly : c.r.ys.length ≤ 2000000) (lb : c.bx.length ≤ 2000000) (ll : c.bl.length = 5 * c.bm) (lm : c.bm ≤ 2000000) :
    Calls Try.prog 16 #[.agg (cpA c a b e q ca cb ce cq), .agg (cpA c a2 b2 e2 q2 ca2 cb2 ce2 cq2)] w fun r w' => r = .returned (.bool true) ∧ Kept 0 0 w w' := by
  have K0 := hide (kept_new (kept_alloc w (.cells (cpA c a b e q ca cb ce cq) 44)) (.cells (cpA c a2 b2 e2 q2 ca2 cb2 ce2 cq2) 44))
  have B0 := (Blk.new w (cpA c a b e q ca cb ce cq) 44).alloc (.cells (cpA c a2 b2 e2 q2 ca2 cb2 ce2 cq2) 44)
  have B1 := Blk.new (w.alloc (.cells (cpA c a b e q ca cb ce cq) 44)) (cpA c a2 b2 e2 q2 ca2 cb2 ce2 cq2) 44
  simp only [World.size_alloc] at B1
  obtain ⟨X, hX⟩ : ∃ X : World, (w.alloc (.cells (cpA c a b e q ca cb ce cq) 44)).alloc (.cells (cpA c a2 b2 e2 q2 ca2 cb2 ce2 cq2) 44) = X := ⟨_, rfl⟩
  rw [hX] at K0 B0 B1
  have HB0 := hide B0
  have HB1 := hide B1
  have i0 := B0.all
  have j0 := B1.all
  have HL := hide ll
  have HE := hide (he.keptS K0.out)
  have HQ := hide (hq.keptS K0.out)
  have HE2 := hide (he2.keptS K0.out)
  have HQ2 := hide (hq2.keptS K0.out)
  have HA := hide (ha.keptS K0.out)
  have HB := hide (hb.keptS K0.out)
  have HA2 := hide (ha2.keptS K0.out)
  have HBB2 := hide (hb2.keptS K0.out)
  clear B0 B1 ll ha hb he hq ha2 hb2 he2 hq2
  go_enter Try.func16, Try.ntmps16
  go_wp2_with fail
  refine (eqRegs _ c.r.o c.r.p c.r.f c.r.m c.r.s c.r.t a b a2 b2 ca cb ca2 cb2 c.r.xs c.r.ys HA.out HB.out HA2.out HBB2.out lx ly).mono ?_
  rintro e9 w1 ⟨rfl, k⟩
  have K1 := hide (K0.out.trans k)
  have C0 := hide (HB0.out.kept0 k)
  have C1 := hide (HB1.out.kept0 k)
  have HE' := hide (HE.out.keptS k)
  have HQ' := hide (HQ.out.keptS k)
  have HE2' := hide (HE2.out.keptS k)
  have HQ2' := hide (HQ2.out.keptS k)
  clear k i0 j0
  have i8 := C0.out.all
  have j8 := C1.out.all
  go_wp2_with fail
  refine (eqBus _ e q e2 q2 ce cq ce2 cq2 c.bm c.bm c.bx c.bl c.bx c.bl HE'.out HQ'.out HE2'.out HQ2'.out lb lb HL.out HL.out lm lm).mono ?_
  rintro e9 w2 ⟨rfl, k⟩
  rw [show (decide (c.bx = c.bx) && decide (c.bl = c.bl)) = true from by simp]
  have K2 := hide (K1.out.trans k)
  have D0 := hide (C0.out.kept0 k)
  have D1 := hide (C1.out.kept0 k)
  clear k
  have i10 := D0.out.cell (i := 10) rfl
  have i11 := D0.out.cell (i := 11) rfl
  have j10 := D1.out.cell (i := 10) rfl
  have j11 := D1.out.cell (i := 11) rfl
  go_wp2_with fail
  go_ret
  exact ⟨rfl, K2.out⟩
/-- a processor whose lists hold marks from k on -/
def Pl.mkC (c : Pl.Cp) (k : Int) : Pl.Cp := { c with r := { c.r with xs := marks k c.r.xs.length, ys := marks (k + (c.r.xs.length : Int)) c.r.ys.length }, bx := marks (k + (c.r.xs.length : Int) + (c.r.ys.length : Int)) c.bx.length, bl := marks (k + (c.r.xs.length : Int) + (c.r.ys.length : Int) + (c.bx.length : Int)) (5 * c.bm) }
def Pl.mkN (c : Pl.Cp) (k : Int) : Int := k + (c.r.xs.length : Int) + (c.r.ys.length : Int) + (c.bx.length : Int) + 5 * (c.bm : Int)
set_option maxHeartbeats 4000000 in
theorem markCpu (w : World) (lo hi : Nat) (c : Pl.Cp) (a b e q : Option Addr) (ca cb ce cq : Nat) (hs : CpSl w lo hi c a b e q) (hh : hi ≤ w.heap.size) (lx : c.r.xs.length ≤ 2000000) (ly : c.r.ys.length ≤ 2000000) (lb : c.bx.length ≤ 2000000) (ll : c.bl.length = 5 * c.bm) (lm : c.bm ≤ 2000000) :
    Calls Try.prog 17 #[.agg (cpA c a b e q ca cb ce cq), iv 1] w fun r w' => r = .returned (iv (Pl.mkN c 1)) ∧ CpSl w' lo hi (Pl.mkC c 1) a b e q ∧ Kept lo hi w w' := by
  have E : Hid (Pl.mkN c 1 = 1 + (c.r.xs.length : Int) + (c.r.ys.length : Int) + (c.bx.length : Int) + 5 * (c.bm : Int)) := hide rfl
  have K0 := hide (kept_alloc w (.cells (cpA c a b e q ca cb ce cq) 44))
  have B0 := Blk.new w (cpA c a b e q ca cb ce cq) 44
  have HS := hide (hs.kept K0.out (by omega))
  have hsz : hi ≤ (w.alloc (.cells (cpA c a b e q ca cb ce cq) 44)).heap.size := by simp; omega
  obtain ⟨X, hX⟩ : ∃ X : World, w.alloc (.cells (cpA c a b e q ca cb ce cq) 44) = X := ⟨_, rfl⟩
  rw [hX] at K0 B0 HS hsz
  have HB0 := hide B0
  have i0 := B0.all
  have HL := hide ll
  clear B0 ll hs
  go_enter Try.func17, Try.ntmps17
  go_wp2_with fail
  refine (markRegs2 _ lo hi c.r.o c.r.p c.r.f c.r.m c.r.s c.r.t a b ca cb c.r.xs c.r.ys 1 HS.out.d HS.out.a' HS.out.n1 hsz (by omega) (by omega) (by decide) (by decide)).mono ?_
  rintro e9 w1 ⟨rfl, s1, s2, k, kb⟩
  have K1 := hide ((K0.out.any (lo := lo) (hi := hi)).trans k)
  have C0 := hide (HB0.out.kept k (by omega))
  have HM1 := hide s1
  have HM2 := hide s2
  have HE := hide (HS.out.b'.keptB kb (fun g h1 h2 => HS.out.n2 g h2.symm h1) (fun g h1 h2 => HS.out.n4 g h2.symm h1))
  have HQ := hide (HS.out.l.keptB kb (fun g h1 h2 => HS.out.n3 g h2.symm h1) (fun g h1 h2 => HS.out.n5 g h2.symm h1))
  have hz1 := k.size
  clear k kb s1 s2 i0
  have i8 := C0.out.cell (i := 8) rfl
  have i9 := C0.out.cell (i := 9) rfl
  go_wp2_with fail
  refine (markBus2 _ lo hi e q ce cq c.bm c.bx c.bl (1 + (c.r.xs.length : Int) + (c.r.ys.length : Int)) HE.out HQ.out HS.out.n6 (by omega) lb HL.out lm (by omega) (by omega)).mono ?_
  rintro e9 w2 ⟨rfl, s3, s4, k, kb⟩
  have K2 := hide (K1.out.trans k)
  have HM3 := hide s3
  have HM4 := hide s4
  have HN1 := hide (HM1.out.keptB kb (fun g h1 h2 => HS.out.n2 g h1 h2.symm) (fun g h1 h2 => HS.out.n3 g h1 h2.symm))
  have HN2 := hide (HM2.out.keptB kb (fun g h1 h2 => HS.out.n4 g h1 h2.symm) (fun g h1 h2 => HS.out.n5 g h1 h2.symm))
  clear k kb s3 s4
  go_wp2_with fail
  go_ret
  exact ⟨rI E.out.symm, ⟨HN1.out, HN2.out, HM3.out, HM4.out, HS.out.n1, HS.out.n2, HS.out.n3, HS.out.n4, HS.out.n5, HS.out.n6⟩, K2.out⟩
end Go.Proofs.Ytkkmnnhaailkcaa

namespace Go.Proofs.Ytkkmnnhaailkcaa
open Go.RowKit
set_option linter.unusedVariables false
theorem Blk.put8 {w : World} {b : Nat} {u0 u1 u2 u3 u4 u5 u6 u7 u8 u9 u10 u11 v0 v1 v2 v3 v4 v5 v6 v7 : Value} {ty : TypeId} (h : Blk w b #[u0, u1, u2, u3, u4, u5, u6, u7, u8, u9, u10, u11] ty) : Blk ((((((((w.setCell ⟨b, 0, none⟩ v0).setCell ⟨b, 1, none⟩ v1).setCell ⟨b, 2, none⟩ v2).setCell ⟨b, 3, none⟩ v3).setCell ⟨b, 4, none⟩ v4).setCell ⟨b, 5, none⟩ v5).setCell ⟨b, 6, none⟩ v6).setCell ⟨b, 7, none⟩ v7) b #[v0, v1, v2, v3, v4, v5, v6, v7, u8, u9, u10, u11] ty := by
  have h0 : Blk (w.setCell ⟨b, 0, none⟩ v0) b #[v0, u1, u2, u3, u4, u5, u6, u7, u8, u9, u10, u11] ty := h.set 0 v0
  have h1 : Blk ((w.setCell ⟨b, 0, none⟩ v0).setCell ⟨b, 1, none⟩ v1) b #[v0, v1, u2, u3, u4, u5, u6, u7, u8, u9, u10, u11] ty := h0.set 1 v1
  have h2 : Blk (((w.setCell ⟨b, 0, none⟩ v0).setCell ⟨b, 1, none⟩ v1).setCell ⟨b, 2, none⟩ v2) b #[v0, v1, v2, u3, u4, u5, u6, u7, u8, u9, u10, u11] ty := h1.set 2 v2
  have h3 : Blk ((((w.setCell ⟨b, 0, none⟩ v0).setCell ⟨b, 1, none⟩ v1).setCell ⟨b, 2, none⟩ v2).setCell ⟨b, 3, none⟩ v3) b #[v0, v1, v2, v3, u4, u5, u6, u7, u8, u9, u10, u11] ty := h2.set 3 v3
  have h4 : Blk (((((w.setCell ⟨b, 0, none⟩ v0).setCell ⟨b, 1, none⟩ v1).setCell ⟨b, 2, none⟩ v2).setCell ⟨b, 3, none⟩ v3).setCell ⟨b, 4, none⟩ v4) b #[v0, v1, v2, v3, v4, u5, u6, u7, u8, u9, u10, u11] ty := h3.set 4 v4
  have h5 : Blk ((((((w.setCell ⟨b, 0, none⟩ v0).setCell ⟨b, 1, none⟩ v1).setCell ⟨b, 2, none⟩ v2).setCell ⟨b, 3, none⟩ v3).setCell ⟨b, 4, none⟩ v4).setCell ⟨b, 5, none⟩ v5) b #[v0, v1, v2, v3, v4, v5, u6, u7, u8, u9, u10, u11] ty := h4.set 5 v5
  have h6 : Blk (((((((w.setCell ⟨b, 0, none⟩ v0).setCell ⟨b, 1, none⟩ v1).setCell ⟨b, 2, none⟩ v2).setCell ⟨b, 3, none⟩ v3).setCell ⟨b, 4, none⟩ v4).setCell ⟨b, 5, none⟩ v5).setCell ⟨b, 6, none⟩ v6) b #[v0, v1, v2, v3, v4, v5, v6, u7, u8, u9, u10, u11] ty := h5.set 6 v6
  have h7 : Blk ((((((((w.setCell ⟨b, 0, none⟩ v0).setCell ⟨b, 1, none⟩ v1).setCell ⟨b, 2, none⟩ v2).setCell ⟨b, 3, none⟩ v3).setCell ⟨b, 4, none⟩ v4).setCell ⟨b, 5, none⟩ v5).setCell ⟨b, 6, none⟩ v6).setCell ⟨b, 7, none⟩ v7) b #[v0, v1, v2, v3, v4, v5, v6, v7, u8, u9, u10, u11] ty := h6.set 7 v7
  exact h7
theorem Blk.put4 {w : World} {b : Nat} {u0 u1 u2 u3 u4 u5 u6 u7 u8 u9 u10 u11 v8 v9 v10 v11 : Value} {ty : TypeId} (h : Blk w b #[u0, u1, u2, u3, u4, u5, u6, u7, u8, u9, u10, u11] ty) : Blk ((((w.setCell ⟨b, 8, none⟩ v8).setCell ⟨b, 9, none⟩ v9).setCell ⟨b, 10, none⟩ v10).setCell ⟨b, 11, none⟩ v11) b #[u0, u1, u2, u3, u4, u5, u6, u7, v8, v9, v10, v11] ty := by
  have h0 : Blk (w.setCell ⟨b, 8, none⟩ v8) b #[u0, u1, u2, u3, u4, u5, u6, u7, v8, u9, u10, u11] ty := h.set 8 v8
  have h1 : Blk ((w.setCell ⟨b, 8, none⟩ v8).setCell ⟨b, 9, none⟩ v9) b #[u0, u1, u2, u3, u4, u5, u6, u7, v8, v9, u10, u11] ty := h0.set 9 v9
  have h2 : Blk (((w.setCell ⟨b, 8, none⟩ v8).setCell ⟨b, 9, none⟩ v9).setCell ⟨b, 10, none⟩ v10) b #[u0, u1, u2, u3, u4, u5, u6, u7, v8, v9, v10, u11] ty := h1.set 10 v10
  have h3 : Blk ((((w.setCell ⟨b, 8, none⟩ v8).setCell ⟨b, 9, none⟩ v9).setCell ⟨b, 10, none⟩ v10).setCell ⟨b, 11, none⟩ v11) b #[u0, u1, u2, u3, u4, u5, u6, u7, v8, v9, v10, v11] ty := h2.set 11 v11
  exact h3
set_option maxRecDepth 100000 in
set_option maxHeartbeats 8000000 in
theorem toCpu (w : World) (c : Pl.Cp) (a b e q : Option Addr) (ca cb ce cq : Nat) (ha : IRow w a c.r.xs) (hb : IRow w b c.r.ys) (he : IRow w e c.bx) (hq : IRow w q c.bl) (lx : c.r.xs.length ≤ 2000000) (ly : c.r.ys.length ≤ 2000000) (lb : c.bx.length ≤ 2000000) (ll : c.bl.length = 5 * c.bm) (lm : c.bm ≤ 2000000) :
    Calls Try.prog 13 #[.agg (cpA c a b e q ca cb ce cq)] w fun r w' => ∃ g1 g2 g3 g4 : Nat, r = .returned (.agg (cpA c (some ⟨g1, 0, none⟩) (some ⟨g2, 0, none⟩) (some ⟨g3, 0, none⟩) (some ⟨g4, 0, none⟩) c.r.xs.length c.r.ys.length c.bx.length c.bm)) ∧ CpSl w' w.heap.size w'.heap.size c (some ⟨g1, 0, none⟩) (some ⟨g2, 0, none⟩) (some ⟨g3, 0, none⟩) (some ⟨g4, 0, none⟩) ∧ Kept 0 0 w w' := by
  have k0 : Kept 0 0 w (((w.alloc (.cells (cpA c a b e q ca cb ce cq) 35)).alloc (.cells cpZ 44)).alloc (.cells cpZ 44)) := kept_new (kept_new (kept_alloc _ _) _) _
  have BA := ((Blk.new w (cpA c a b e q ca cb ce cq) 35).alloc (.cells cpZ 44)).alloc (.cells cpZ 44)
  have BR := (Blk.new (w.alloc (.cells (cpA c a b e q ca cb ce cq) 35)) cpZ 44).alloc (.cells cpZ 44)
  have BO := Blk.new ((w.alloc (.cells (cpA c a b e q ca cb ce cq) 35)).alloc (.cells cpZ 44)) cpZ 44
  simp only [World.size_alloc] at BR BO
  obtain ⟨X, hX⟩ : ∃ X : World, (((w.alloc (.cells (cpA c a b e q ca cb ce cq) 35)).alloc (.cells cpZ 44)).alloc (.cells cpZ 44)) = X := ⟨_, rfl⟩
  rw [hX] at k0 BA BR BO
  have n0 := BO.lt
  have K0 := hide k0
  have HBA := hide BA
  have HBR := hide BR
  have HBO := hide BO
  have HA := hide (ha.keptS k0)
  have HB := hide (hb.keptS k0)
  have HE := hide he
  have HQ := hide hq
  have HL := hide ll
  have i0 := BA.all
  clear k0 BA BR BO ha hb he hq ll
  go_enter Try.func13, Try.ntmps13
  go_wp2_with fail
  refine (toRegs _ c.r.o c.r.p c.r.f c.r.m c.r.s c.r.t a b ca cb c.r.xs c.r.ys HA.out HB.out lx ly).mono ?_
  rintro e9 w1 ⟨g1, g2, rfl, o1, o2, l1, l2, l3, k⟩
  have HA1 := hide (HBA.out.kept0 k)
  have HR1 := hide (HBR.out.kept0 k)
  have HO1 := hide (HBO.out.kept0 k)
  have K1 := hide (K0.out.trans k)
  have k1s := k.size
  have OW1 := hide o1
  have OW2 := hide o2
  clear k o1 o2 i0
  have o0 := HO1.out.cell (i := 0) rfl
  have o1 := HO1.out.cell (i := 1) rfl
  have o2 := HO1.out.cell (i := 2) rfl
  have o3 := HO1.out.cell (i := 3) rfl
  have o4 := HO1.out.cell (i := 4) rfl
  have o5 := HO1.out.cell (i := 5) rfl
  have o6 := HO1.out.cell (i := 6) rfl
  have o7 := HO1.out.cell (i := 7) rfl
  have of0 := HO1.out.fz
  have K2 : Kept 0 0 w ((((((((w1.setCell ⟨w.heap.size + 2, 0, none⟩ (.slice (some ⟨g1, 0, none⟩) c.r.xs.length c.r.xs.length)).setCell ⟨w.heap.size + 2, 1, none⟩ (.slice (some ⟨g2, 0, none⟩) c.r.ys.length c.r.ys.length)).setCell ⟨w.heap.size + 2, 2, none⟩ (iv c.r.o)).setCell ⟨w.heap.size + 2, 3, none⟩ (iv c.r.p)).setCell ⟨w.heap.size + 2, 4, none⟩ (iv c.r.f)).setCell ⟨w.heap.size + 2, 5, none⟩ (iv c.r.m)).setCell ⟨w.heap.size + 2, 6, none⟩ (.bool c.r.s)).setCell ⟨w.heap.size + 2, 7, none⟩ (.bool c.r.t)) := (kept_set (kept_set (kept_set (kept_set (kept_set (kept_set (kept_set (kept_set K1.out _ _ _ (.inr (by omega))) _ _ _ (.inr (by omega))) _ _ _ (.inr (by omega))) _ _ _ (.inr (by omega))) _ _ _ (.inr (by omega))) _ _ _ (.inr (by omega))) _ _ _ (.inr (by omega))) _ _ _ (.inr (by omega)))
  have HO2 : Blk ((((((((w1.setCell ⟨w.heap.size + 2, 0, none⟩ (.slice (some ⟨g1, 0, none⟩) c.r.xs.length c.r.xs.length)).setCell ⟨w.heap.size + 2, 1, none⟩ (.slice (some ⟨g2, 0, none⟩) c.r.ys.length c.r.ys.length)).setCell ⟨w.heap.size + 2, 2, none⟩ (iv c.r.o)).setCell ⟨w.heap.size + 2, 3, none⟩ (iv c.r.p)).setCell ⟨w.heap.size + 2, 4, none⟩ (iv c.r.f)).setCell ⟨w.heap.size + 2, 5, none⟩ (iv c.r.m)).setCell ⟨w.heap.size + 2, 6, none⟩ (.bool c.r.s)).setCell ⟨w.heap.size + 2, 7, none⟩ (.bool c.r.t)) (w.heap.size + 2) #[.slice (some ⟨g1, 0, none⟩) c.r.xs.length c.r.xs.length, .slice (some ⟨g2, 0, none⟩) c.r.ys.length c.r.ys.length, iv c.r.o, iv c.r.p, iv c.r.f, iv c.r.m, .bool c.r.s, .bool c.r.t, .slice none 0 0, .slice none 0 0, .bool false, .bool false] 44 := Blk.put8 HO1.out
  have HA2 : Blk ((((((((w1.setCell ⟨w.heap.size + 2, 0, none⟩ (.slice (some ⟨g1, 0, none⟩) c.r.xs.length c.r.xs.length)).setCell ⟨w.heap.size + 2, 1, none⟩ (.slice (some ⟨g2, 0, none⟩) c.r.ys.length c.r.ys.length)).setCell ⟨w.heap.size + 2, 2, none⟩ (iv c.r.o)).setCell ⟨w.heap.size + 2, 3, none⟩ (iv c.r.p)).setCell ⟨w.heap.size + 2, 4, none⟩ (iv c.r.f)).setCell ⟨w.heap.size + 2, 5, none⟩ (iv c.r.m)).setCell ⟨w.heap.size + 2, 6, none⟩ (.bool c.r.s)).setCell ⟨w.heap.size + 2, 7, none⟩ (.bool c.r.t)) w.heap.size (cpA c a b e q ca cb ce cq) 35 := ((((((((HA1.out.other _ _ _ (by omega)).other _ _ _ (by omega)).other _ _ _ (by omega)).other _ _ _ (by omega)).other _ _ _ (by omega)).other _ _ _ (by omega)).other _ _ _ (by omega)).other _ _ _ (by omega))
  have HR2 : Blk ((((((((w1.setCell ⟨w.heap.size + 2, 0, none⟩ (.slice (some ⟨g1, 0, none⟩) c.r.xs.length c.r.xs.length)).setCell ⟨w.heap.size + 2, 1, none⟩ (.slice (some ⟨g2, 0, none⟩) c.r.ys.length c.r.ys.length)).setCell ⟨w.heap.size + 2, 2, none⟩ (iv c.r.o)).setCell ⟨w.heap.size + 2, 3, none⟩ (iv c.r.p)).setCell ⟨w.heap.size + 2, 4, none⟩ (iv c.r.f)).setCell ⟨w.heap.size + 2, 5, none⟩ (iv c.r.m)).setCell ⟨w.heap.size + 2, 6, none⟩ (.bool c.r.s)).setCell ⟨w.heap.size + 2, 7, none⟩ (.bool c.r.t)) (w.heap.size + 1) cpZ 44 := ((((((((HR1.out.other _ _ _ (by omega)).other _ _ _ (by omega)).other _ _ _ (by omega)).other _ _ _ (by omega)).other _ _ _ (by omega)).other _ _ _ (by omega)).other _ _ _ (by omega)).other _ _ _ (by omega))
  have P1 : Own ((((((((w1.setCell ⟨w.heap.size + 2, 0, none⟩ (.slice (some ⟨g1, 0, none⟩) c.r.xs.length c.r.xs.length)).setCell ⟨w.heap.size + 2, 1, none⟩ (.slice (some ⟨g2, 0, none⟩) c.r.ys.length c.r.ys.length)).setCell ⟨w.heap.size + 2, 2, none⟩ (iv c.r.o)).setCell ⟨w.heap.size + 2, 3, none⟩ (iv c.r.p)).setCell ⟨w.heap.size + 2, 4, none⟩ (iv c.r.f)).setCell ⟨w.heap.size + 2, 5, none⟩ (iv c.r.m)).setCell ⟨w.heap.size + 2, 6, none⟩ (.bool c.r.s)).setCell ⟨w.heap.size + 2, 7, none⟩ (.bool c.r.t)) g1 c.r.xs := ((((((((OW1.out.setOther _ _ _ (by omega)).setOther _ _ _ (by omega)).setOther _ _ _ (by omega)).setOther _ _ _ (by omega)).setOther _ _ _ (by omega)).setOther _ _ _ (by omega)).setOther _ _ _ (by omega)).setOther _ _ _ (by omega))
  have P2 : Own ((((((((w1.setCell ⟨w.heap.size + 2, 0, none⟩ (.slice (some ⟨g1, 0, none⟩) c.r.xs.length c.r.xs.length)).setCell ⟨w.heap.size + 2, 1, none⟩ (.slice (some ⟨g2, 0, none⟩) c.r.ys.length c.r.ys.length)).setCell ⟨w.heap.size + 2, 2, none⟩ (iv c.r.o)).setCell ⟨w.heap.size + 2, 3, none⟩ (iv c.r.p)).setCell ⟨w.heap.size + 2, 4, none⟩ (iv c.r.f)).setCell ⟨w.heap.size + 2, 5, none⟩ (iv c.r.m)).setCell ⟨w.heap.size + 2, 6, none⟩ (.bool c.r.s)).setCell ⟨w.heap.size + 2, 7, none⟩ (.bool c.r.t)) g2 c.r.ys := ((((((((OW2.out.setOther _ _ _ (by omega)).setOther _ _ _ (by omega)).setOther _ _ _ (by omega)).setOther _ _ _ (by omega)).setOther _ _ _ (by omega)).setOther _ _ _ (by omega)).setOther _ _ _ (by omega)).setOther _ _ _ (by omega))
  have szY : ((((((((w1.setCell ⟨w.heap.size + 2, 0, none⟩ (.slice (some ⟨g1, 0, none⟩) c.r.xs.length c.r.xs.length)).setCell ⟨w.heap.size + 2, 1, none⟩ (.slice (some ⟨g2, 0, none⟩) c.r.ys.length c.r.ys.length)).setCell ⟨w.heap.size + 2, 2, none⟩ (iv c.r.o)).setCell ⟨w.heap.size + 2, 3, none⟩ (iv c.r.p)).setCell ⟨w.heap.size + 2, 4, none⟩ (iv c.r.f)).setCell ⟨w.heap.size + 2, 5, none⟩ (iv c.r.m)).setCell ⟨w.heap.size + 2, 6, none⟩ (.bool c.r.s)).setCell ⟨w.heap.size + 2, 7, none⟩ (.bool c.r.t)).heap.size = w1.heap.size := by simp [World.setCell]
  obtain ⟨Y, hY⟩ : ∃ Y : World, ((((((((w1.setCell ⟨w.heap.size + 2, 0, none⟩ (.slice (some ⟨g1, 0, none⟩) c.r.xs.length c.r.xs.length)).setCell ⟨w.heap.size + 2, 1, none⟩ (.slice (some ⟨g2, 0, none⟩) c.r.ys.length c.r.ys.length)).setCell ⟨w.heap.size + 2, 2, none⟩ (iv c.r.o)).setCell ⟨w.heap.size + 2, 3, none⟩ (iv c.r.p)).setCell ⟨w.heap.size + 2, 4, none⟩ (iv c.r.f)).setCell ⟨w.heap.size + 2, 5, none⟩ (iv c.r.m)).setCell ⟨w.heap.size + 2, 6, none⟩ (.bool c.r.s)).setCell ⟨w.heap.size + 2, 7, none⟩ (.bool c.r.t)) = Y := ⟨_, rfl⟩
  rw [hY] at K2 HO2 HA2 HR2 P1 P2 szY
  replace K2 := hide K2
  replace HO2 := hide HO2
  replace HA2 := hide HA2
  replace HR2 := hide HR2
  replace P1 := hide P1
  replace P2 := hide P2
  have i8 := HA2.out.cell (i := 8) rfl
  have i9 := HA2.out.cell (i := 9) rfl
  go_wp2_with fail
  clear hX hY o0 of0 o1 o2 o3 o4 o5 o6 o7
  refine (toBus _ e q ce cq c.bm c.bx c.bl (HE.out.keptS K2.out) (HQ.out.keptS K2.out) lb HL.out lm).mono ?_
  rintro e9 w2 ⟨g3, g4, rfl, o3, o4, l4, l5, l6, k⟩
  have EA := hide (HA2.out.kept0 k)
  have ER := hide (HR2.out.kept0 k)
  have EO := hide (HO2.out.kept0 k)
  have K3 := hide (K2.out.trans k)
  have k3s := k.size
  have P3 := hide (P1.out.keptS k (by omega))
  have P4 := hide (P2.out.keptS k (by omega))
  have P5 := hide o3
  have P6 := hide o4
  clear k o3 o4
  have o8 := EO.out.all
  have of8 := EO.out.fz
  have i10 := EA.out.cell (i := 10) rfl
  have i11 := EA.out.cell (i := 11) rfl
  have K4 : Kept 0 0 w ((((w2.setCell ⟨w.heap.size + 2, 8, none⟩ (.slice (some ⟨g3, 0, none⟩) c.bx.length c.bx.length)).setCell ⟨w.heap.size + 2, 9, none⟩ (.slice (some ⟨g4, 0, none⟩) c.bm c.bm)).setCell ⟨w.heap.size + 2, 10, none⟩ (.bool c.st)).setCell ⟨w.heap.size + 2, 11, none⟩ (.bool c.ha)) := (kept_set (kept_set (kept_set (kept_set K3.out _ _ _ (.inr (by omega))) _ _ _ (.inr (by omega))) _ _ _ (.inr (by omega))) _ _ _ (.inr (by omega)))
  have FO : Blk ((((w2.setCell ⟨w.heap.size + 2, 8, none⟩ (.slice (some ⟨g3, 0, none⟩) c.bx.length c.bx.length)).setCell ⟨w.heap.size + 2, 9, none⟩ (.slice (some ⟨g4, 0, none⟩) c.bm c.bm)).setCell ⟨w.heap.size + 2, 10, none⟩ (.bool c.st)).setCell ⟨w.heap.size + 2, 11, none⟩ (.bool c.ha)) (w.heap.size + 2) (cpA c (some ⟨g1, 0, none⟩) (some ⟨g2, 0, none⟩) (some ⟨g3, 0, none⟩) (some ⟨g4, 0, none⟩) c.r.xs.length c.r.ys.length c.bx.length c.bm) 44 := Blk.put4 EO.out
  have FR : Blk ((((w2.setCell ⟨w.heap.size + 2, 8, none⟩ (.slice (some ⟨g3, 0, none⟩) c.bx.length c.bx.length)).setCell ⟨w.heap.size + 2, 9, none⟩ (.slice (some ⟨g4, 0, none⟩) c.bm c.bm)).setCell ⟨w.heap.size + 2, 10, none⟩ (.bool c.st)).setCell ⟨w.heap.size + 2, 11, none⟩ (.bool c.ha)) (w.heap.size + 1) cpZ 44 := ((((ER.out.other _ _ _ (by omega)).other _ _ _ (by omega)).other _ _ _ (by omega)).other _ _ _ (by omega))
  have Q1 : Own ((((w2.setCell ⟨w.heap.size + 2, 8, none⟩ (.slice (some ⟨g3, 0, none⟩) c.bx.length c.bx.length)).setCell ⟨w.heap.size + 2, 9, none⟩ (.slice (some ⟨g4, 0, none⟩) c.bm c.bm)).setCell ⟨w.heap.size + 2, 10, none⟩ (.bool c.st)).setCell ⟨w.heap.size + 2, 11, none⟩ (.bool c.ha)) g1 c.r.xs := ((((P3.out.setOther _ _ _ (by omega)).setOther _ _ _ (by omega)).setOther _ _ _ (by omega)).setOther _ _ _ (by omega))
  have Q2 : Own ((((w2.setCell ⟨w.heap.size + 2, 8, none⟩ (.slice (some ⟨g3, 0, none⟩) c.bx.length c.bx.length)).setCell ⟨w.heap.size + 2, 9, none⟩ (.slice (some ⟨g4, 0, none⟩) c.bm c.bm)).setCell ⟨w.heap.size + 2, 10, none⟩ (.bool c.st)).setCell ⟨w.heap.size + 2, 11, none⟩ (.bool c.ha)) g2 c.r.ys := ((((P4.out.setOther _ _ _ (by omega)).setOther _ _ _ (by omega)).setOther _ _ _ (by omega)).setOther _ _ _ (by omega))
  have Q3 : Own ((((w2.setCell ⟨w.heap.size + 2, 8, none⟩ (.slice (some ⟨g3, 0, none⟩) c.bx.length c.bx.length)).setCell ⟨w.heap.size + 2, 9, none⟩ (.slice (some ⟨g4, 0, none⟩) c.bm c.bm)).setCell ⟨w.heap.size + 2, 10, none⟩ (.bool c.st)).setCell ⟨w.heap.size + 2, 11, none⟩ (.bool c.ha)) g3 c.bx := ((((P5.out.setOther _ _ _ (by omega)).setOther _ _ _ (by omega)).setOther _ _ _ (by omega)).setOther _ _ _ (by omega))
  have Q4 : Own ((((w2.setCell ⟨w.heap.size + 2, 8, none⟩ (.slice (some ⟨g3, 0, none⟩) c.bx.length c.bx.length)).setCell ⟨w.heap.size + 2, 9, none⟩ (.slice (some ⟨g4, 0, none⟩) c.bm c.bm)).setCell ⟨w.heap.size + 2, 10, none⟩ (.bool c.st)).setCell ⟨w.heap.size + 2, 11, none⟩ (.bool c.ha)) g4 c.bl := ((((P6.out.setOther _ _ _ (by omega)).setOther _ _ _ (by omega)).setOther _ _ _ (by omega)).setOther _ _ _ (by omega))
  have szV : ((((w2.setCell ⟨w.heap.size + 2, 8, none⟩ (.slice (some ⟨g3, 0, none⟩) c.bx.length c.bx.length)).setCell ⟨w.heap.size + 2, 9, none⟩ (.slice (some ⟨g4, 0, none⟩) c.bm c.bm)).setCell ⟨w.heap.size + 2, 10, none⟩ (.bool c.st)).setCell ⟨w.heap.size + 2, 11, none⟩ (.bool c.ha)).heap.size = w2.heap.size := by simp [World.setCell]
  obtain ⟨V, hV⟩ : ∃ V : World, ((((w2.setCell ⟨w.heap.size + 2, 8, none⟩ (.slice (some ⟨g3, 0, none⟩) c.bx.length c.bx.length)).setCell ⟨w.heap.size + 2, 9, none⟩ (.slice (some ⟨g4, 0, none⟩) c.bm c.bm)).setCell ⟨w.heap.size + 2, 10, none⟩ (.bool c.st)).setCell ⟨w.heap.size + 2, 11, none⟩ (.bool c.ha)) = V := ⟨_, rfl⟩
  rw [hV] at K4 FO FR Q1 Q2 Q3 Q4 szV
  replace K4 := hide K4
  replace FO := hide FO
  replace FR := hide FR
  replace Q1 := hide Q1
  replace Q2 := hide Q2
  replace Q3 := hide Q3
  replace Q4 := hide Q4
  have m0 := FO.out.all
  have r0 := FR.out.all
  have rf0 := FR.out.fz
  go_wp2_with fail
  clear hV
  have FF : Blk ((((((((((((V.setCell ⟨w.heap.size + 1, 0, none⟩ (.slice (some ⟨g1, 0, none⟩) c.r.xs.length c.r.xs.length)).setCell ⟨w.heap.size + 1, 1, none⟩ (.slice (some ⟨g2, 0, none⟩) c.r.ys.length c.r.ys.length)).setCell ⟨w.heap.size + 1, 2, none⟩ (iv c.r.o)).setCell ⟨w.heap.size + 1, 3, none⟩ (iv c.r.p)).setCell ⟨w.heap.size + 1, 4, none⟩ (iv c.r.f)).setCell ⟨w.heap.size + 1, 5, none⟩ (iv c.r.m)).setCell ⟨w.heap.size + 1, 6, none⟩ (.bool c.r.s)).setCell ⟨w.heap.size + 1, 7, none⟩ (.bool c.r.t)).setCell ⟨w.heap.size + 1, 8, none⟩ (.slice (some ⟨g3, 0, none⟩) c.bx.length c.bx.length)).setCell ⟨w.heap.size + 1, 9, none⟩ (.slice (some ⟨g4, 0, none⟩) c.bm c.bm)).setCell ⟨w.heap.size + 1, 10, none⟩ (.bool c.st)).setCell ⟨w.heap.size + 1, 11, none⟩ (.bool c.ha)) (w.heap.size + 1) (cpA c (some ⟨g1, 0, none⟩) (some ⟨g2, 0, none⟩) (some ⟨g3, 0, none⟩) (some ⟨g4, 0, none⟩) c.r.xs.length c.r.ys.length c.bx.length c.bm) 44 := Blk.put4 (Blk.put8 FR.out)
  refine bodyPost_ret (v := .agg (cpA c (some ⟨g1, 0, none⟩) (some ⟨g2, 0, none⟩) (some ⟨g3, 0, none⟩) (some ⟨g4, 0, none⟩) c.r.xs.length c.r.ys.length c.bx.length c.bm)) ?_ rfl ⟨g1, g2, g3, g4, rfl, ⟨.inr ⟨g1, rfl, by omega, ?_, ?_⟩, .inr ⟨g2, rfl, by omega, ?_, ?_⟩, .inr ⟨g3, rfl, by omega, ?_, ?_⟩, .inr ⟨g4, rfl, by omega, ?_, ?_⟩, ?_, ?_, ?_, ?_, ?_, ?_⟩, ?_⟩
  · exact results_cell_row rfl _ _ _ _ _ (0, 0) _ rfl FF Try.underlying44 rfl (by kernel_rfl)
  · simp [World.setCell]; omega
  · exact ((((((((((((Q1.out.setOther _ _ _ (by omega)).setOther _ _ _ (by omega)).setOther _ _ _ (by omega)).setOther _ _ _ (by omega)).setOther _ _ _ (by omega)).setOther _ _ _ (by omega)).setOther _ _ _ (by omega)).setOther _ _ _ (by omega)).setOther _ _ _ (by omega)).setOther _ _ _ (by omega)).setOther _ _ _ (by omega)).setOther _ _ _ (by omega))
  · simp [World.setCell]; omega
  · exact ((((((((((((Q2.out.setOther _ _ _ (by omega)).setOther _ _ _ (by omega)).setOther _ _ _ (by omega)).setOther _ _ _ (by omega)).setOther _ _ _ (by omega)).setOther _ _ _ (by omega)).setOther _ _ _ (by omega)).setOther _ _ _ (by omega)).setOther _ _ _ (by omega)).setOther _ _ _ (by omega)).setOther _ _ _ (by omega)).setOther _ _ _ (by omega))
  · simp [World.setCell]; omega
  · exact ((((((((((((Q3.out.setOther _ _ _ (by omega)).setOther _ _ _ (by omega)).setOther _ _ _ (by omega)).setOther _ _ _ (by omega)).setOther _ _ _ (by omega)).setOther _ _ _ (by omega)).setOther _ _ _ (by omega)).setOther _ _ _ (by omega)).setOther _ _ _ (by omega)).setOther _ _ _ (by omega)).setOther _ _ _ (by omega)).setOther _ _ _ (by omega))
  · simp [World.setCell]; omega
  · exact ((((((((((((Q4.out.setOther _ _ _ (by omega)).setOther _ _ _ (by omega)).setOther _ _ _ (by omega)).setOther _ _ _ (by omega)).setOther _ _ _ (by omega)).setOther _ _ _ (by omega)).setOther _ _ _ (by omega)).setOther _ _ _ (by omega)).setOther _ _ _ (by omega)).setOther _ _ _ (by omega)).setOther _ _ _ (by omega)).setOther _ _ _ (by omega))
  · intro g h1 h2; simp [blk] at h1 h2; omega
  · intro g h1 h2; simp [blk] at h1 h2; omega
  · intro g h1 h2; simp [blk] at h1 h2; omega
  · intro g h1 h2; simp [blk] at h1 h2; omega
  · intro g h1 h2; simp [blk] at h1 h2; omega
  · intro g h1 h2; simp [blk] at h1 h2; omega
  · exact (kept_set (kept_set (kept_set (kept_set (kept_set (kept_set (kept_set (kept_set (kept_set (kept_set (kept_set (kept_set K4.out _ _ _ (.inr (by omega))) _ _ _ (.inr (by omega))) _ _ _ (.inr (by omega))) _ _ _ (.inr (by omega))) _ _ _ (.inr (by omega))) _ _ _ (.inr (by omega))) _ _ _ (.inr (by omega))) _ _ _ (.inr (by omega))) _ _ _ (.inr (by omega))) _ _ _ (.inr (by omega))) _ _ _ (.inr (by omega))) _ _ _ (.inr (by omega)))
end Go.Proofs.Ytkkmnnhaailkcaa

namespace Go.Proofs.Ytkkmnnhaailkcaa.Pl
set_option linter.unusedVariables false
def ftLong (v : Int) : Bool := v == 2 || v == 3
def ftOk (f : Ft) : Bool := within f.v 2 21 && (wordOk f.pc && (wordOk f.ad && (wordOk f.wo && (ftLong f.v || (f.ad == 0 && !f.wr)))))
def ftInfo (s : Bool) (f : Ft) : Int := fl1 f.wr 1 + fl1 s 2
def ftRow (r : Rg) (f : Ft) : List Int := if ftLong f.v then [f.pc, status r, f.wo, f.ad, ftInfo r.s f] else [f.pc, status r]
/-- what was read out of memory is a whole number of the machine -/
structure WfF (f : Ft) : Prop where
  p0 : -9223372036854775808 ≤ f.pc
  p1 : f.pc ≤ 9223372036854775807
  a0 : -9223372036854775808 ≤ f.ad
  a1 : f.ad ≤ 9223372036854775807
  w0 : -9223372036854775808 ≤ f.wo
  w1 : f.wo ≤ 9223372036854775807
/-- where a fault's test ends -/
theorem ft_ways (f : Ft) : f.v < 2 ∨ (2 ≤ f.v ∧ 21 < f.v) ∨ (2 ≤ f.v ∧ f.v ≤ 21) ∧ (wordOk f.pc = false ∨ wordOk f.pc = true ∧ (wordOk f.ad = false ∨ wordOk f.ad = true ∧ (wordOk f.wo = false ∨ wordOk f.wo = true ∧ (ftLong f.v = true ∨ ftLong f.v = false ∧ ((f.ad == 0) = false ∨ (f.ad == 0) = true))))) := by
  by_cases h1 : f.v < 2
  · exact .inl h1
  · by_cases h2 : 21 < f.v
    · exact .inr (.inl ⟨by omega, h2⟩)
    · refine .inr (.inr ⟨⟨by omega, by omega⟩, ?_⟩)
      cases wordOk f.pc <;> cases wordOk f.ad <;> cases wordOk f.wo <;> cases ftLong f.v <;> by_cases f.ad = 0 <;> simp_all
end Go.Proofs.Ytkkmnnhaailkcaa.Pl

namespace Go.Proofs.Ytkkmnnhaailkcaa
open Go.RowKit
set_option linter.unusedVariables false
theorem toFault (f : Pl.Ft) (w : World) : Calls Try.prog 9 #[.agg (ftA f)] w fun e w' => e = .returned (.agg (ftA f)) ∧ Kept 0 0 w w' := by
  go_enter Try.func9, Try.ntmps9
  go_wp2
  refine bodyPost_ret (v := .agg (ftA f)) ?_ rfl ⟨rfl, kept_new (kept_new (kept_alloc _ _) _) _⟩
  rw [results_one rfl]; go_simp
end Go.Proofs.Ytkkmnnhaailkcaa

namespace Go.Proofs.Ytkkmnnhaailkcaa
open Go.RowKit
/-- the numbers of registers that came in are ints -/
structure Pl.WfR (d : Pl.Rg) : Prop where
  o : (Lit.int .i64 d.o).wf = true
  p : (Lit.int .i64 d.p).wf = true
  f : (Lit.int .i64 d.f).wf = true
  m : (Lit.int .i64 d.m).wf = true
end Go.Proofs.Ytkkmnnhaailkcaa

namespace Go.Proofs.Ytkkmnnhaailkcaa
open Go.RowKit
set_option linter.unusedVariables false
theorem specWord (n : Int) (w : World) : Calls Try.prog 27 #[iv n] w fun e w' => e = .returned (.bool (Pl.wordOk n)) ∧ w' = w := by
  go_enter Try.func27, Try.ntmps27
  go_wp2_with (go_at_call 26; refine (l1In _ _ _ _).mono ?_; rintro e w' ⟨rfl, hw⟩; have hw2 := hw.symm; clear hw; subst hw2)
  go_ret
  exact ⟨rfl, rfl⟩
end Go.Proofs.Ytkkmnnhaailkcaa

namespace Go.Proofs.Ytkkmnnhaailkcaa
open Go.RowKit
set_option linter.unusedVariables false

theorem specFlags (n : Int) (w : World) : Calls Try.prog 73 #[iv n] w fun e w' => e = .returned (.bool (Pl.within n 0 31)) ∧ w' = w := by
  go_enter Try.func73, Try.ntmps73
  go_wp2_with (go_at_call 26; refine (l1In _ _ _ _).mono ?_; rintro e w' ⟨rfl, hw⟩; have hw2 := hw.symm; clear hw; subst hw2)
  go_ret
  exact ⟨rfl, rfl⟩
theorem specFour (w : World) (a : Option Addr) (ca : Nat) (xs : List Int) (ha : IRow w a xs) (lx : xs.length ≤ 2000000) :
    Calls Try.prog 72 #[.slice a xs.length ca] w fun e w' => e = .returned (.bool (Pl.fourOk xs)) ∧ w' = w := by
  have HA := hide ha
  clear ha
  go_enter Try.func72, Try.ntmps72
  go_wp2
  go_loop [4, 7] (fun _ j => ∃ k : Nat, k ≤ xs.length ∧ j = iv k ∧ ∀ i, i < k → Pl.wordOk (el xs i) = true) (fun _ j => xs.length - (intOf j).toNat)
  case atStart => exact ⟨0, Nat.zero_le _, rfl, fun i hi => absurd hi (Nat.not_lt_zero i)⟩
  case round =>
    obtain ⟨k, hk, rfl, heq⟩ := hrel
    have HE := hide heq
    clear heq
    by_cases hlt : k < xs.length
    · obtain ⟨g1, o1, rfl, hc1⟩ := HA.out k hlt
      rw [show xs[k]?.getD 0 = el xs k from rfl] at hc1
      cases hb : Pl.wordOk (el xs k)
      · go_wp2_with (go_at_call 27; refine (specWord _ _).mono ?_; rintro e w' ⟨rfl, rfl⟩; rw [hb])
        go_ret
        exact ⟨rB (Pl.all_no hlt hb).symm, rfl⟩
      · go_wp2_with (go_at_call 27; refine (specWord _ _).mono ?_; rintro e w' ⟨rfl, rfl⟩; rw [hb])
        go_round
        case rel => exact ⟨k + 1, by omega, by go_num, snoc_all HE.out hb⟩
        case measure => simp [intOf]; omega
    · have E : Hid (Pl.fourOk xs = decide ((xs.length : Int) = 4)) := hide (Pl.all_of (fun i hi => HE.out i (by omega)))
      cases h4 : ((xs.length : Int) == 4)
      all_goals
        go_wp2
        go_ret
        exact ⟨rB (by rw [E.out]; simp at h4; simp [h4]), rfl⟩
set_option maxHeartbeats 4000000 in
theorem specGoodRegs (w : World) (r : Pl.Rg) (a b : Option Addr) (ca cb : Nat) (ha : IRow w a r.xs) (hb : IRow w b r.ys) (lx : r.xs.length ≤ 2000000) (ly : r.ys.length ≤ 2000000) :
    Calls Try.prog 51 #[.agg #[.slice a r.xs.length ca, .slice b r.ys.length cb, iv r.o, iv r.p, iv r.f, iv r.m, .bool r.s, .bool r.t]] w fun e w' => e = .returned (.bool (Pl.rgOk r)) ∧ Kept 0 0 w w' := by
  have HA := hide ha
  have HB := hide hb
  have HK := hide (kept_alloc w (.cells #[.slice a r.xs.length ca, .slice b r.ys.length cb, iv r.o, iv r.p, iv r.f, iv r.m, .bool r.s, .bool r.t] 39))
  clear ha hb
  have G : Hid (Pl.rgOk r = (Pl.fourOk r.xs && (Pl.fourOk r.ys && (Pl.wordOk r.o && (Pl.wordOk r.p && (Pl.within r.f 0 31 && Pl.within r.m 0 7)))))) := hide rfl
  cases h1 : Pl.fourOk r.xs
  · go_enter Try.func51, Try.ntmps51
    go_wp2_with (first | (go_at_call 72; refine (specFour _ a ca r.xs (HA.out.keptS HK.out) lx).mono ?_; rintro e w' ⟨rfl, hw⟩; have hw2 := hw.symm; clear hw; subst hw2; rw [h1]; have Z1 : True := trivial))
    go_ret
    exact ⟨rB (by rw [G.out, h1]; simp), HK.out⟩
  · cases h2 : Pl.fourOk r.ys
    · go_enter Try.func51, Try.ntmps51
      go_wp2_with (first | (go_at_call 72; have z := Z1; refine (specFour _ b cb r.ys (HB.out.keptS HK.out) ly).mono ?_; rintro e w' ⟨rfl, hw⟩; have hw2 := hw.symm; clear hw; subst hw2; rw [h2]) | (go_at_call 72; refine (specFour _ a ca r.xs (HA.out.keptS HK.out) lx).mono ?_; rintro e w' ⟨rfl, hw⟩; have hw2 := hw.symm; clear hw; subst hw2; rw [h1]; have Z1 : True := trivial))
      go_ret
      exact ⟨rB (by rw [G.out, h1, h2]; simp), HK.out⟩
    · cases h3 : Pl.wordOk r.o
      · go_enter Try.func51, Try.ntmps51
        go_wp2_with (first | (go_at_call 72; have z := Z1; refine (specFour _ b cb r.ys (HB.out.keptS HK.out) ly).mono ?_; rintro e w' ⟨rfl, hw⟩; have hw2 := hw.symm; clear hw; subst hw2; rw [h2]) | (go_at_call 72; refine (specFour _ a ca r.xs (HA.out.keptS HK.out) lx).mono ?_; rintro e w' ⟨rfl, hw⟩; have hw2 := hw.symm; clear hw; subst hw2; rw [h1]; have Z1 : True := trivial) | (go_at_call 27; refine (specWord r.o _).mono ?_; rintro e w' ⟨rfl, hw⟩; have hw2 := hw.symm; clear hw; subst hw2; rw [h3]; have Z3 : True := trivial))
        go_ret
        exact ⟨rB (by rw [G.out, h1, h2, h3]; simp), HK.out⟩
      · cases h4 : Pl.wordOk r.p
        · go_enter Try.func51, Try.ntmps51
          go_wp2_with (first | (go_at_call 72; have z := Z1; refine (specFour _ b cb r.ys (HB.out.keptS HK.out) ly).mono ?_; rintro e w' ⟨rfl, hw⟩; have hw2 := hw.symm; clear hw; subst hw2; rw [h2]) | (go_at_call 72; refine (specFour _ a ca r.xs (HA.out.keptS HK.out) lx).mono ?_; rintro e w' ⟨rfl, hw⟩; have hw2 := hw.symm; clear hw; subst hw2; rw [h1]; have Z1 : True := trivial) | (go_at_call 27; have z := Z3; refine (specWord r.p _).mono ?_; rintro e w' ⟨rfl, hw⟩; have hw2 := hw.symm; clear hw; subst hw2; rw [h4]) | (go_at_call 27; refine (specWord r.o _).mono ?_; rintro e w' ⟨rfl, hw⟩; have hw2 := hw.symm; clear hw; subst hw2; rw [h3]; have Z3 : True := trivial))
          go_ret
          exact ⟨rB (by rw [G.out, h1, h2, h3, h4]; simp), HK.out⟩
        · cases h5 : Pl.within r.f 0 31
          · go_enter Try.func51, Try.ntmps51
            go_wp2_with (first | (go_at_call 72; have z := Z1; refine (specFour _ b cb r.ys (HB.out.keptS HK.out) ly).mono ?_; rintro e w' ⟨rfl, hw⟩; have hw2 := hw.symm; clear hw; subst hw2; rw [h2]) | (go_at_call 72; refine (specFour _ a ca r.xs (HA.out.keptS HK.out) lx).mono ?_; rintro e w' ⟨rfl, hw⟩; have hw2 := hw.symm; clear hw; subst hw2; rw [h1]; have Z1 : True := trivial) | (go_at_call 27; have z := Z3; refine (specWord r.p _).mono ?_; rintro e w' ⟨rfl, hw⟩; have hw2 := hw.symm; clear hw; subst hw2; rw [h4]) | (go_at_call 27; refine (specWord r.o _).mono ?_; rintro e w' ⟨rfl, hw⟩; have hw2 := hw.symm; clear hw; subst hw2; rw [h3]; have Z3 : True := trivial) | (go_at_call 73; refine (specFlags _ _).mono ?_; rintro e w' ⟨rfl, hw⟩; have hw2 := hw.symm; clear hw; subst hw2; rw [h5]))
            go_ret
            exact ⟨rB (by rw [G.out, h1, h2, h3, h4, h5]; simp), HK.out⟩
          · cases h6 : Pl.within r.m 0 7
            · go_enter Try.func51, Try.ntmps51
              go_wp2_with (first | (go_at_call 72; have z := Z1; refine (specFour _ b cb r.ys (HB.out.keptS HK.out) ly).mono ?_; rintro e w' ⟨rfl, hw⟩; have hw2 := hw.symm; clear hw; subst hw2; rw [h2]) | (go_at_call 72; refine (specFour _ a ca r.xs (HA.out.keptS HK.out) lx).mono ?_; rintro e w' ⟨rfl, hw⟩; have hw2 := hw.symm; clear hw; subst hw2; rw [h1]; have Z1 : True := trivial) | (go_at_call 27; have z := Z3; refine (specWord r.p _).mono ?_; rintro e w' ⟨rfl, hw⟩; have hw2 := hw.symm; clear hw; subst hw2; rw [h4]) | (go_at_call 27; refine (specWord r.o _).mono ?_; rintro e w' ⟨rfl, hw⟩; have hw2 := hw.symm; clear hw; subst hw2; rw [h3]; have Z3 : True := trivial) | (go_at_call 73; refine (specFlags _ _).mono ?_; rintro e w' ⟨rfl, hw⟩; have hw2 := hw.symm; clear hw; subst hw2; rw [h5]) | (go_at_call 26; refine (l1In _ _ _ _).mono ?_; rintro e w' ⟨rfl, hw⟩; have hw2 := hw.symm; clear hw; subst hw2; rw [show (decide (0 ≤ r.m) && decide (r.m ≤ 7)) = Pl.within r.m 0 7 from rfl, h6]))
              go_ret
              exact ⟨rB (by rw [G.out, h1, h2, h3, h4, h5, h6]; simp), HK.out⟩
            · go_enter Try.func51, Try.ntmps51
              go_wp2_with (first | (go_at_call 72; have z := Z1; refine (specFour _ b cb r.ys (HB.out.keptS HK.out) ly).mono ?_; rintro e w' ⟨rfl, hw⟩; have hw2 := hw.symm; clear hw; subst hw2; rw [h2]) | (go_at_call 72; refine (specFour _ a ca r.xs (HA.out.keptS HK.out) lx).mono ?_; rintro e w' ⟨rfl, hw⟩; have hw2 := hw.symm; clear hw; subst hw2; rw [h1]; have Z1 : True := trivial) | (go_at_call 27; have z := Z3; refine (specWord r.p _).mono ?_; rintro e w' ⟨rfl, hw⟩; have hw2 := hw.symm; clear hw; subst hw2; rw [h4]) | (go_at_call 27; refine (specWord r.o _).mono ?_; rintro e w' ⟨rfl, hw⟩; have hw2 := hw.symm; clear hw; subst hw2; rw [h3]; have Z3 : True := trivial) | (go_at_call 73; refine (specFlags _ _).mono ?_; rintro e w' ⟨rfl, hw⟩; have hw2 := hw.symm; clear hw; subst hw2; rw [h5]) | (go_at_call 26; refine (l1In _ _ _ _).mono ?_; rintro e w' ⟨rfl, hw⟩; have hw2 := hw.symm; clear hw; subst hw2; rw [show (decide (0 ≤ r.m) && decide (r.m ≤ 7)) = Pl.within r.m 0 7 from rfl, h6]))
              go_ret
              exact ⟨rB (by rw [G.out, h1, h2, h3, h4, h5, h6]; simp), HK.out⟩
theorem l1Flag6 (b : Bool) (f : Int) (w : World) : Calls Try.prog 61 #[.bool b, iv f] w fun e w' => e = .returned (iv (Pl.fl1 b f)) ∧ w' = w := by
  cases b
  all_goals
    go_enter Try.func61, Try.ntmps61
    go_wp2
    go_ret
    exact ⟨rfl, rfl⟩
end Go.Proofs.Ytkkmnnhaailkcaa

namespace Go.Proofs.Ytkkmnnhaailkcaa
open Go.RowKit
set_option linter.unusedVariables false
set_option maxRecDepth 100000 in
theorem l11Long (v : Int) (w : World) : Calls Try.prog 28 #[iv v] w fun e w' => e = .returned (.bool (Pl.ftLong v)) ∧ w' = w := by
  have H : v = 2 ∨ ¬ v = 2 ∧ (v = 3 ∨ ¬ v = 3) := by omega
  rcases H with rfl | ⟨h2, rfl | h3⟩
  all_goals
    go_enter Try.func28, Try.ntmps28
    go_wp2
    go_ret
    exact ⟨rB (by simp [Pl.ftLong, *]), rfl⟩
set_option maxRecDepth 100000 in
theorem specGoodFault (f : Pl.Ft) (w : World) : Calls Try.prog 8 #[.agg (ftA f)] w fun e w' => e = .returned (.bool (Pl.ftOk f)) ∧ Kept 0 0 w w' := by
  have K0 := hide (kept_alloc w (.cells (ftA f) 25))
  have H := Pl.ft_ways f
  rcases H with h1 | ⟨h1, h2⟩ | ⟨⟨h1, h2⟩, h3 | ⟨h3, h4 | ⟨h4, h5 | ⟨h5, h6 | ⟨h6, h7 | h7⟩⟩⟩⟩⟩
  all_goals
    obtain ⟨z, hz⟩ : ∃ z, z = (decide (2 ≤ f.v) && decide (f.v ≤ 21)) := ⟨_, rfl⟩
    have hz2 : z = decide (2 ≤ f.v ∧ f.v ≤ 21) := by rw [hz]; simp
    first | rw [decide_eq_true (show 2 ≤ f.v ∧ f.v ≤ 21 from ⟨h1, h2⟩)] at hz2 | rw [decide_eq_false (show ¬ (2 ≤ f.v ∧ f.v ≤ 21) by omega)] at hz2
    go_enter Try.func8, Try.ntmps8
    go_wp2_with (first | (go_at_call 26; refine (l1In _ _ _ _).mono ?_; rintro e w' ⟨rfl, rfl⟩; rw [← hz, hz2]) | (go_at_call 27; have z := Z2; refine (specWord f.wo _).mono ?_; rintro e w' ⟨rfl, rfl⟩; rw [h5]) | (go_at_call 27; have z := Z1; refine (specWord f.ad _).mono ?_; rintro e w' ⟨rfl, rfl⟩; rw [h4]; have Z2 : True := trivial) | (go_at_call 27; refine (specWord f.pc _).mono ?_; rintro e w' ⟨rfl, rfl⟩; rw [h3]; have Z1 : True := trivial) | (go_at_call 28; refine (l11Long _ _).mono ?_; rintro e w' ⟨rfl, rfl⟩; rw [h6]))
    go_ret
    refine ⟨rB ?_, K0.out⟩
    unfold Pl.ftOk Pl.within; rw [← hz, hz2]; simp_all
end Go.Proofs.Ytkkmnnhaailkcaa

namespace Go.Proofs.Ytkkmnnhaailkcaa
open Go.RowKit
set_option linter.unusedVariables false

theorem w64 {n : Int} (h0 : -9223372036854775808 ≤ n) (h1 : n ≤ 9223372036854775807) : IntKind.i64.wrap n = n := by rw [IntKind.wrap_i64]; omega
theorem fl1_in (b : Bool) (n : Int) (h : 0 ≤ n) : 0 ≤ Pl.fl1 b n ∧ Pl.fl1 b n ≤ n := by cases b <;> simp [Pl.fl1] <;> omega

set_option maxHeartbeats 4000000 in
theorem specStatus (w : World) (r : Pl.Rg) (a b : Option Addr) (ca cb : Nat) (hg : Pl.Good r) :
    Calls Try.prog 53 #[.agg #[.slice a r.xs.length ca, .slice b r.ys.length cb, iv r.o, iv r.p, iv r.f, iv r.m, .bool r.s, .bool r.t]] w fun e w' => e = .returned (iv (Pl.status r)) ∧ Kept 0 0 w w' := by
  have HK := hide (kept_alloc w (.cells #[.slice a r.xs.length ca, .slice b r.ys.length cb, iv r.o, iv r.p, iv r.f, iv r.m, .bool r.s, .bool r.t] 39))
  have f0 := hg.f0
  have f1 := hg.f1
  have m0 := hg.m0
  have m1 := hg.m1
  clear hg
  obtain ⟨s0, s1⟩ := fl1_in r.s 256 (by decide)
  obtain ⟨t0, t1⟩ := fl1_in r.t 512 (by decide)
  have e1 : IntKind.i64.wrap (32 * r.m) = 32 * r.m := w64 (by omega) (by omega)
  have e2 : IntKind.i64.wrap (r.f + 32 * r.m) = r.f + 32 * r.m := w64 (by omega) (by omega)
  have e3 : IntKind.i64.wrap (r.f + 32 * r.m + Pl.fl1 r.s 256) = r.f + 32 * r.m + Pl.fl1 r.s 256 := w64 (by omega) (by omega)
  have e4 : IntKind.i64.wrap (r.f + 32 * r.m + Pl.fl1 r.s 256 + Pl.fl1 r.t 512) = r.f + 32 * r.m + Pl.fl1 r.s 256 + Pl.fl1 r.t 512 := w64 (by omega) (by omega)
  go_enter Try.func53, Try.ntmps53
  go_wp2_with fail
  go_quiet (first | (go_at_call 61; exact Calls.quiet_of_same (l1Flag6 _ _ _)) | fail)
  go_wp2_with fail
  go_ret
  exact ⟨rI rfl, kept_drewN HK.out _⟩

end Go.Proofs.Ytkkmnnhaailkcaa

namespace Go.Proofs.Ytkkmnnhaailkcaa
open Go.RowKit
set_option linter.unusedVariables false
def Pl.foOk (c : Pl.Cp) (f : Pl.Ft) : Bool := Pl.cpOk c && Pl.ftOk f
def Pl.foV (c : Pl.Cp) (f : Pl.Ft) : List Int := if Pl.foOk c f then Pl.ftRow c.r f else []
theorem Pl.cpOk_r {c : Pl.Cp} (h : Pl.cpOk c = true) : Pl.rgOk c.r = true := by
  unfold Pl.cpOk at h; simp only [Bool.and_eq_true] at h; exact h.1
theorem own2 {w : World} {g : Nat} {x y : Int} (h : Blk w g #[iv x, iv y] 3) : w.ownsRow g 3 1 (.slice (some ⟨g, 0, none⟩) 2 2) 2 [iv x, iv y] :=
  ⟨by simp, .inr ⟨g, 2, #[iv x, iv y], rfl, Nat.le_refl _, h, Nat.le_refl _, by unfold maxLen; omega, by simp, by simp⟩⟩
end Go.Proofs.Ytkkmnnhaailkcaa

