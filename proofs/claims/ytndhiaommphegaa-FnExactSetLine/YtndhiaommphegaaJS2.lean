/- Bits moved one place at a time, so often, and back; how many are 1; the other way round: plain arithmetic; no Go text is spoken of here. A step of a processor in numbers: plain arithmetic; no Go text is spoken of here. What a step on its way keeps: registers that are words, a bus that is good; plain arithmetic. A processor with its line, in numbers. What the model's tests of words and operands answer. What the models of chapter 6 answer that make nothing: tests of registers and operands, the status. 'append([]int{}, xs...)': a list of numbers copied into a row of the call's own, whatever the list: nil, empty, cut or not. What the models of chapter 6 answer that make registers: NewRegs, l6Own. What the model of Touch answers, for every argument. Which blocks a call may have written: all but those of a kind are as they were. A step on its way, as it lies in memory: the block of the model's own struct, the registers' lists, the bytes and the log. What the model of an access does to a bus of its own. A processor of one's own, a step that begins, and the processor that it is then. What the laws' own functions over Regs do (a struct of numbers, flags and two lists): its size, copy, comparison, marks. -/
import Derived.Test.YtndhiaommphegaaJS1
import Derived.BigQuiet
import Derived.Deep.QuietTactic
import Derived.Deep.AppendLies
import Derived.Maps.AppendAt
import Derived.Laws.AppendOwnNone
import Derived.Deep.RegionLawGrows
import Derived.Deep.RegionWith
import Derived.BigRegion
import Derived.Deep.DeepCutAuto
namespace Go.Proofs.Ytndhiaommphegaa.Pl
set_option linter.unusedVariables false

/-- the highest bit -/
def hi (s v : Int) : Int := if top s / 2 ≤ v then 1 else 0
/-- what falls out -/
def fell (k s v : Int) : Int := if k % 2 = 0 then hi s v else v % 2
/-- what comes in -/
def inn (k s x v : Int) : Int := if k = 1 then hi s v else if k = 4 ∨ k = 5 then fell k s v else if 6 ≤ k then x else 0
def nv (k s x v : Int) : Int := if k % 2 = 0 then v * 2 % top s + inn k s x v else v / 2 + inn k s x v * (top s / 2)
def nx (k s x v : Int) : Int := if k = 4 ∨ k = 5 then x else fell k s v
/-- a value and the kept bit, one place on -/
def stp (k s : Int) (p : Int × Int) : Int × Int := (nv k s p.2 p.1, nx k s p.2 p.1)
def st (k s : Int) (p : Int × Int) : Nat → Int × Int
  | 0 => p
  | n + 1 => stp k s (st k s p n)
/-! ### what a call answers -/
end Go.Proofs.Ytndhiaommphegaa.Pl

namespace Go.Proofs.Ytndhiaommphegaa.Pl
set_option linter.unusedVariables false

/-- a processor -/
structure Cp where
  r : Rg
  bx : List Int
  bl : List Int
  bm : Nat
  st : Bool
  ha : Bool
/-- a fault -/
structure Ft where
  v : Int
  pc : Int
  ad : Int
  wo : Int
  wr : Bool
/-- a step on its way -/
structure Mc where
  r : Rg
  bx : List Int
  bl : List Int
  bm : Nat
  st : Bool
  f : Ft
def ftNo : Ft := ⟨0, 0, 0, 0, false⟩
def cpNo : Cp := ⟨rgNo, [], [], 0, false, false⟩
def cpOk (c : Cp) : Bool := rgOk c.r && (goodBus c.bx c.bl c.bm && !(c.st && c.ha))
namespace Mc
def fine (c : Mc) : Bool := c.f.v == 0
def ofC (c : Cp) : Mc := ⟨c.r, c.bx, c.bl, c.bm, c.st, ftNo⟩
def cpu (c : Mc) (h : Bool) : Cp := ⟨c.r, c.bx, c.bl, c.bm, c.st, h⟩
def accF (f : Ft) (k s a : Int) : Ft := bif (code k s a != 0) && (f.v == 0) then { f with v := bif code k s a == 2 then 3 else 2, ad := a, wr := k == 2 } else f
def acc (c : Mc) (k s a v : Int) : Mc := { c with bx := nb c.bx k s a v, bl := nl c.bx c.bl c.bm k s a v, bm := nm c.bm k s a, f := accF c.f k s a }
def accV (c : Mc) (k s a v : Int) : Int := lv c.bx k s a v
def setF (c : Mc) (v : Int) : Mc := { c with r := { c.r with f := v } }
def setR (c : Mc) (r : Rg) : Mc := { c with r := r }
/- the instruction at PC -/
/- operands -/
def low (c : Mc) (z k : Int) : Int := el c.r.xs k.toNat % top z
def inReg (m : Int) : Bool := (m == 0) || ((m == 1) || (m == 7))
def plc (c : Mc) (z m k e : Int) : Mc := c.setR (placeR c.r z m k e)
def read (c : Mc) (z m k e : Int) : Mc := bif inReg m then c else (c.plc z m k e).acc 1 z (placeV c.r z m k e) 0
def readV (c : Mc) (z m k e : Int) : Int := bif m == 0 then c.low z k else bif m == 1 then el c.r.ys k.toNat else bif m == 7 then e else (c.plc z m k e).accV 1 z (placeV c.r z m k e) 0
def readA (c : Mc) (z m k e : Int) : Int := bif inReg m then 0 else placeV c.r z m k e
def write (c : Mc) (z m k a v : Int) : Mc := bif m == 0 then c.setR (putR c.r z k v) else c.acc 2 z a v
def place (c : Mc) (z m k e : Int) : Mc := bif m == 0 then c else c.plc z m k e
def plcA (c : Mc) (z m k e : Int) : Int := bif m == 0 then 0 else placeV c.r z m k e
def put (c : Mc) (z k v : Int) : Mc := c.setR (putR c.r z k v)
def one0 (c : Mc) (x : In) : Mc := (((c.place x.z x.m x.k x.e).write x.z x.m x.k (c.plcA x.z x.m x.k x.e) 0)).setF (logF x.z c.r.f 0)
def one' (c d : Mc) (x : In) (a v : Int) : Mc :=
  bif x.s == 1 then (d.write x.z x.m x.k a (subV x.z 0 0 v)).setF (subF x.z 0 0 v)
  else bif x.s == 2 then (d.write x.z x.m x.k a (top x.z - 1 - v)).setF (logF x.z c.r.f (top x.z - 1 - v))
  else d.setF (logF x.z c.r.f v)
def one (c : Mc) (x : In) : Mc :=
  bif x.s == 0 then c.one0 x
  else bif (c.read x.z x.m x.k x.e).fine then c.one' (c.read x.z x.m x.k x.e) x (c.readA x.z x.m x.k x.e) (c.readV x.z x.m x.k x.e) else c.read x.z x.m x.k x.e
/- a step -/
end Mc
end Go.Proofs.Ytndhiaommphegaa.Pl
namespace Go.Proofs.Ytndhiaommphegaa
abbrev cpA (c : Pl.Cp) (a b e q : Option Addr) (ca cb ce cq : Nat) : Array Value := #[.slice a c.r.xs.length ca, .slice b c.r.ys.length cb, iv c.r.o, iv c.r.p, iv c.r.f, iv c.r.m, .bool c.r.s, .bool c.r.t, .slice e c.bx.length ce, .slice q c.bm cq, .bool c.st, .bool c.ha]
end Go.Proofs.Ytndhiaommphegaa

namespace Go.Proofs.Ytndhiaommphegaa.Pl
set_option linter.unusedVariables false

structure GM (c : Mc) : Prop where
  g : Good c.r
  p0 : 0 ≤ c.r.p
  p1 : c.r.p ≤ 65535
  bx : c.bx.length = 512
  ok : bytesOk c.bx = true
  bl : c.bl.length = 5 * c.bm
  bm : c.bm ≤ 400
  ac : accsOk c.bl c.bm = true
theorem GM.of {c : Cp} (h : cpOk c = true) (hl : c.bl.length = 5 * c.bm) (b : Bool) : GM ⟨c.r, c.bx, c.bl, c.bm, b, ftNo⟩ := by
  simp only [cpOk, Bool.and_eq_true] at h
  obtain ⟨h1, h2, _⟩ := h
  obtain ⟨q1, q2, q3, q4⟩ := goodBus_ok h2
  have hp : 0 ≤ c.r.p ∧ c.r.p ≤ 65535 := by
    simp only [rgOk, Bool.and_eq_true, wordOk, within, decide_eq_true_eq] at h1
    exact h1.2.2.2.1
  exact ⟨good_of h1, hp.1, hp.2, q1, q2, hl, q3, q4⟩
end Go.Proofs.Ytndhiaommphegaa.Pl

namespace Go.Proofs.Ytndhiaommphegaa.Pl
set_option linter.unusedVariables false
structure Iq where
  c : Cp
  l : Int
  e : Bool
def iqNo : Iq := ⟨cpNo, 0, false⟩
def iqOk (x : Iq) : Bool := cpOk x.c && within x.l 0 7
def iqSet (x : Iq) (v : Int) : Iq := ⟨x.c, v, bif decide (v = 7) && !decide (x.l = 7) then true else x.e⟩
theorem iq_ok {x : Iq} (h : iqOk x = true) : cpOk x.c = true ∧ 0 ≤ x.l ∧ x.l ≤ 7 := by simpa [iqOk, within] using h
end Go.Proofs.Ytndhiaommphegaa.Pl

namespace Go.Proofs.Ytndhiaommphegaa
open Go.RowKit
set_option linter.unusedVariables false
theorem specWord (n : Int) (w : World) : Calls Try.prog 64 #[iv n] w fun e w' => e = .returned (.bool (Pl.wordOk n)) ∧ w' = w := by
  go_enter Try.func64, Try.ntmps64
  go_wp2_with (go_at_call 38; refine (l1In _ _ _ _).mono ?_; rintro e w' ⟨rfl, hw⟩; have hw2 := hw.symm; clear hw; subst hw2)
  go_ret
  exact ⟨rfl, rfl⟩
end Go.Proofs.Ytndhiaommphegaa

namespace Go.Proofs.Ytndhiaommphegaa
open Go.RowKit
set_option linter.unusedVariables false

theorem specFlags (n : Int) (w : World) : Calls Try.prog 65 #[iv n] w fun e w' => e = .returned (.bool (Pl.within n 0 31)) ∧ w' = w := by
  go_enter Try.func65, Try.ntmps65
  go_wp2_with (go_at_call 38; refine (l1In _ _ _ _).mono ?_; rintro e w' ⟨rfl, hw⟩; have hw2 := hw.symm; clear hw; subst hw2)
  go_ret
  exact ⟨rfl, rfl⟩
theorem specFour (w : World) (a : Option Addr) (ca : Nat) (xs : List Int) (ha : IRow w a xs) (lx : xs.length ≤ 2000000) :
    Calls Try.prog 63 #[.slice a xs.length ca] w fun e w' => e = .returned (.bool (Pl.fourOk xs)) ∧ w' = w := by
  have HA := hide ha
  clear ha
  go_enter Try.func63, Try.ntmps63
  go_wp2
  go_loop [4, 7] (fun _ j => ∃ k : Nat, k ≤ xs.length ∧ j = iv k ∧ ∀ i, i < k → Pl.wordOk (el xs i) = true) (fun _ j => xs.length - (intOf j).toNat)
  case atStart => exact ⟨0, Nat.zero_le _, rfl, fun i hi => absurd hi (Nat.not_lt_zero i)⟩
  case round =>
    obtain ⟨k, hk, rfl, heq⟩ := hrel
    have HE := hide heq
    clear heq
    by_cases hlt : k < xs.length
    · obtain ⟨g1, o1, rfl, hc1⟩ := HA.out k hlt
      rw [show xs[k]?.getD 0 = el xs k from rfl] at hc1
      cases hb : Pl.wordOk (el xs k)
      · go_wp2_with (go_at_call 64; refine (specWord _ _).mono ?_; rintro e w' ⟨rfl, rfl⟩; rw [hb])
        go_ret
        exact ⟨rB (Pl.all_no hlt hb).symm, rfl⟩
      · go_wp2_with (go_at_call 64; refine (specWord _ _).mono ?_; rintro e w' ⟨rfl, rfl⟩; rw [hb])
        go_round
        case rel => exact ⟨k + 1, by omega, by go_num, snoc_all HE.out hb⟩
        case measure => simp [intOf]; omega
    · have E : Hid (Pl.fourOk xs = decide ((xs.length : Int) = 4)) := hide (Pl.all_of (fun i hi => HE.out i (by omega)))
      cases h4 : ((xs.length : Int) == 4)
      all_goals
        go_wp2
        go_ret
        exact ⟨rB (by rw [E.out]; simp at h4; simp [h4]), rfl⟩
set_option maxHeartbeats 4000000 in
theorem specGoodRegs (w : World) (r : Pl.Rg) (a b : Option Addr) (ca cb : Nat) (ha : IRow w a r.xs) (hb : IRow w b r.ys) (lx : r.xs.length ≤ 2000000) (ly : r.ys.length ≤ 2000000) :
    Calls Try.prog 47 #[.agg #[.slice a r.xs.length ca, .slice b r.ys.length cb, iv r.o, iv r.p, iv r.f, iv r.m, .bool r.s, .bool r.t]] w fun e w' => e = .returned (.bool (Pl.rgOk r)) ∧ Kept 0 0 w w' := by
  have HA := hide ha
  have HB := hide hb
  have HK := hide (kept_alloc w (.cells #[.slice a r.xs.length ca, .slice b r.ys.length cb, iv r.o, iv r.p, iv r.f, iv r.m, .bool r.s, .bool r.t] 31))
  clear ha hb
  have G : Hid (Pl.rgOk r = (Pl.fourOk r.xs && (Pl.fourOk r.ys && (Pl.wordOk r.o && (Pl.wordOk r.p && (Pl.within r.f 0 31 && Pl.within r.m 0 7)))))) := hide rfl
  cases h1 : Pl.fourOk r.xs
  · go_enter Try.func47, Try.ntmps47
    go_wp2_with (first | (go_at_call 63; refine (specFour _ a ca r.xs (HA.out.keptS HK.out) lx).mono ?_; rintro e w' ⟨rfl, hw⟩; have hw2 := hw.symm; clear hw; subst hw2; rw [h1]; have Z1 : True := trivial))
    go_ret
    exact ⟨rB (by rw [G.out, h1]; simp), HK.out⟩
  · cases h2 : Pl.fourOk r.ys
    · go_enter Try.func47, Try.ntmps47
      go_wp2_with (first | (go_at_call 63; have z := Z1; refine (specFour _ b cb r.ys (HB.out.keptS HK.out) ly).mono ?_; rintro e w' ⟨rfl, hw⟩; have hw2 := hw.symm; clear hw; subst hw2; rw [h2]) | (go_at_call 63; refine (specFour _ a ca r.xs (HA.out.keptS HK.out) lx).mono ?_; rintro e w' ⟨rfl, hw⟩; have hw2 := hw.symm; clear hw; subst hw2; rw [h1]; have Z1 : True := trivial))
      go_ret
      exact ⟨rB (by rw [G.out, h1, h2]; simp), HK.out⟩
    · cases h3 : Pl.wordOk r.o
      · go_enter Try.func47, Try.ntmps47
        go_wp2_with (first | (go_at_call 63; have z := Z1; refine (specFour _ b cb r.ys (HB.out.keptS HK.out) ly).mono ?_; rintro e w' ⟨rfl, hw⟩; have hw2 := hw.symm; clear hw; subst hw2; rw [h2]) | (go_at_call 63; refine (specFour _ a ca r.xs (HA.out.keptS HK.out) lx).mono ?_; rintro e w' ⟨rfl, hw⟩; have hw2 := hw.symm; clear hw; subst hw2; rw [h1]; have Z1 : True := trivial) | (go_at_call 64; refine (specWord r.o _).mono ?_; rintro e w' ⟨rfl, hw⟩; have hw2 := hw.symm; clear hw; subst hw2; rw [h3]; have Z3 : True := trivial))
        go_ret
        exact ⟨rB (by rw [G.out, h1, h2, h3]; simp), HK.out⟩
      · cases h4 : Pl.wordOk r.p
        · go_enter Try.func47, Try.ntmps47
          go_wp2_with (first | (go_at_call 63; have z := Z1; refine (specFour _ b cb r.ys (HB.out.keptS HK.out) ly).mono ?_; rintro e w' ⟨rfl, hw⟩; have hw2 := hw.symm; clear hw; subst hw2; rw [h2]) | (go_at_call 63; refine (specFour _ a ca r.xs (HA.out.keptS HK.out) lx).mono ?_; rintro e w' ⟨rfl, hw⟩; have hw2 := hw.symm; clear hw; subst hw2; rw [h1]; have Z1 : True := trivial) | (go_at_call 64; have z := Z3; refine (specWord r.p _).mono ?_; rintro e w' ⟨rfl, hw⟩; have hw2 := hw.symm; clear hw; subst hw2; rw [h4]) | (go_at_call 64; refine (specWord r.o _).mono ?_; rintro e w' ⟨rfl, hw⟩; have hw2 := hw.symm; clear hw; subst hw2; rw [h3]; have Z3 : True := trivial))
          go_ret
          exact ⟨rB (by rw [G.out, h1, h2, h3, h4]; simp), HK.out⟩
        · cases h5 : Pl.within r.f 0 31
          · go_enter Try.func47, Try.ntmps47
            go_wp2_with (first | (go_at_call 63; have z := Z1; refine (specFour _ b cb r.ys (HB.out.keptS HK.out) ly).mono ?_; rintro e w' ⟨rfl, hw⟩; have hw2 := hw.symm; clear hw; subst hw2; rw [h2]) | (go_at_call 63; refine (specFour _ a ca r.xs (HA.out.keptS HK.out) lx).mono ?_; rintro e w' ⟨rfl, hw⟩; have hw2 := hw.symm; clear hw; subst hw2; rw [h1]; have Z1 : True := trivial) | (go_at_call 64; have z := Z3; refine (specWord r.p _).mono ?_; rintro e w' ⟨rfl, hw⟩; have hw2 := hw.symm; clear hw; subst hw2; rw [h4]) | (go_at_call 64; refine (specWord r.o _).mono ?_; rintro e w' ⟨rfl, hw⟩; have hw2 := hw.symm; clear hw; subst hw2; rw [h3]; have Z3 : True := trivial) | (go_at_call 65; refine (specFlags _ _).mono ?_; rintro e w' ⟨rfl, hw⟩; have hw2 := hw.symm; clear hw; subst hw2; rw [h5]))
            go_ret
            exact ⟨rB (by rw [G.out, h1, h2, h3, h4, h5]; simp), HK.out⟩
          · cases h6 : Pl.within r.m 0 7
            · go_enter Try.func47, Try.ntmps47
              go_wp2_with (first | (go_at_call 63; have z := Z1; refine (specFour _ b cb r.ys (HB.out.keptS HK.out) ly).mono ?_; rintro e w' ⟨rfl, hw⟩; have hw2 := hw.symm; clear hw; subst hw2; rw [h2]) | (go_at_call 63; refine (specFour _ a ca r.xs (HA.out.keptS HK.out) lx).mono ?_; rintro e w' ⟨rfl, hw⟩; have hw2 := hw.symm; clear hw; subst hw2; rw [h1]; have Z1 : True := trivial) | (go_at_call 64; have z := Z3; refine (specWord r.p _).mono ?_; rintro e w' ⟨rfl, hw⟩; have hw2 := hw.symm; clear hw; subst hw2; rw [h4]) | (go_at_call 64; refine (specWord r.o _).mono ?_; rintro e w' ⟨rfl, hw⟩; have hw2 := hw.symm; clear hw; subst hw2; rw [h3]; have Z3 : True := trivial) | (go_at_call 65; refine (specFlags _ _).mono ?_; rintro e w' ⟨rfl, hw⟩; have hw2 := hw.symm; clear hw; subst hw2; rw [h5]) | (go_at_call 38; refine (l1In _ _ _ _).mono ?_; rintro e w' ⟨rfl, hw⟩; have hw2 := hw.symm; clear hw; subst hw2; rw [show (decide (0 ≤ r.m) && decide (r.m ≤ 7)) = Pl.within r.m 0 7 from rfl, h6]))
              go_ret
              exact ⟨rB (by rw [G.out, h1, h2, h3, h4, h5, h6]; simp), HK.out⟩
            · go_enter Try.func47, Try.ntmps47
              go_wp2_with (first | (go_at_call 63; have z := Z1; refine (specFour _ b cb r.ys (HB.out.keptS HK.out) ly).mono ?_; rintro e w' ⟨rfl, hw⟩; have hw2 := hw.symm; clear hw; subst hw2; rw [h2]) | (go_at_call 63; refine (specFour _ a ca r.xs (HA.out.keptS HK.out) lx).mono ?_; rintro e w' ⟨rfl, hw⟩; have hw2 := hw.symm; clear hw; subst hw2; rw [h1]; have Z1 : True := trivial) | (go_at_call 64; have z := Z3; refine (specWord r.p _).mono ?_; rintro e w' ⟨rfl, hw⟩; have hw2 := hw.symm; clear hw; subst hw2; rw [h4]) | (go_at_call 64; refine (specWord r.o _).mono ?_; rintro e w' ⟨rfl, hw⟩; have hw2 := hw.symm; clear hw; subst hw2; rw [h3]; have Z3 : True := trivial) | (go_at_call 65; refine (specFlags _ _).mono ?_; rintro e w' ⟨rfl, hw⟩; have hw2 := hw.symm; clear hw; subst hw2; rw [h5]) | (go_at_call 38; refine (l1In _ _ _ _).mono ?_; rintro e w' ⟨rfl, hw⟩; have hw2 := hw.symm; clear hw; subst hw2; rw [show (decide (0 ≤ r.m) && decide (r.m ≤ 7)) = Pl.within r.m 0 7 from rfl, h6]))
              go_ret
              exact ⟨rB (by rw [G.out, h1, h2, h3, h4, h5, h6]; simp), HK.out⟩
end Go.Proofs.Ytndhiaommphegaa

namespace Go.Proofs.Ytndhiaommphegaa
open Go.RowKit
set_option linter.unusedVariables false

theorem own_empty1 {w : World} {g base size : Nat} {e : TypeId} (h : Blk w g #[] e) (hb : base ≤ g) : w.ownsRow base e size (.slice (some ⟨g, 0, none⟩) 0 0) 0 [] :=
  ⟨by simp, .inr ⟨g, 0, #[], rfl, hb, h, Nat.le_refl _, Nat.zero_le _, by simp, by simp⟩⟩
theorem copy_ints {ops : Array Oper} {rest : List Oper} {o : Oper} {a : Act} {w : World} {Q : Exit → Act → World → Prop} (hgd : o.guard = none) (s x : Operand)
    (ho : o.op = .call { callee := .builtin .append, args := #[s, x], argTypes := #[22, 22] }) (base g : Nat) (hs : a.eval s = .slice (some ⟨g, 0, none⟩) 0 0) (hg : Blk w g #[] 3) (hbg : base ≤ g)
    (sp : Option Addr) (n c : Nat) (xs : List Int) (hx : a.eval x = .slice sp n c) (hr : IRow w sp xs) (hn : xs.length = n) (bn : n ≤ 2000000) (H : Nat) (hH : w.heap.size = H)
    (h : ∀ (g' cap : Nat) (w' : World), w'.ownsRow base 3 1 (.slice (some ⟨g', 0, none⟩) n cap) n (xs.map (Value.int .i64)) → Kept g (g + 1) w w' → (g' = g ∨ g' = H) → g' < w'.heap.size → wpList Try.prog ops Q rest (a.put o.dst (.slice (some ⟨g', 0, none⟩) n cap)) w') :
    wpList Try.prog ops Q (o :: rest) a w := by
  obtain ⟨i, hi, hz0, hz1, hz2⟩ := info_parts Try.info3
  have hlt := hg.lt
  by_cases h0 : n = 0
  · subst h0
    obtain rfl : xs = [] := List.eq_nil_of_length_eq_zero hn
    have hl0 : ∀ (x : Addr), (loadCells x 0).run Try.prog w = .ok #[] w := fun x => by simpa using run_loadCells_list (P := Try.prog) w x [] (by simp)
    have hrun : (Builtin.append_ #[22, 22] o.type #[.slice (some ⟨g, 0, none⟩) 0 0, .slice sp 0 c]).run Try.prog w = .ok (.slice (some ⟨g, 0, none⟩) 0 0) w := by
      cases sp <;> simp [Builtin.append_, run_underlying Try.underlying22, Builtin.lenOf, Builtin.firstCells, sizeOf, typeInfo, hi, storeCells, hl0]
    refine wpList_plain hgd fun K hK => ?_
    unfold Oper.wp
    simp [execOp, ho, resolve, invoke, builtin, hs, hx, hrun, Result.andThen]
    exact hK _ _ (h g 0 w (own_empty1 hg hbg) (Kept.refl _ _ _) (.inl rfl) hlt)
  · obtain ⟨ga, oa, rfl, _⟩ := hr 0 (by omega)
    refine wpList_append_lies _ hgd s x 22 ho base 3 i (iv 0) 1 8 Try.underlying22 hi hz0 hz1 hz2 rfl (by decide) (.slice (some ⟨g, 0, none⟩) 0 0) 0 [] hs (own_empty1 hg hbg) ⟨ga, oa, none⟩ n c (xs.map (Value.int .i64)) hx (by simp [hn]) (news_of hr) news_one (by omega) (by unfold maxLen; omega) (by omega) (by omega) H hH ?_
    intro g' cap w' h1 h2 h3 h4
    simp only [Nat.zero_add, List.nil_append] at h1 ⊢
    refine h g' cap w' h1 (kept_row h2 (by intro j hj; have h5 : g = j := Option.some.inj hj; omega)) ?_ h4
    rcases h3 with h3 | h3
    · exact .inl (Option.some.inj h3).symm
    · exact .inr h3
end Go.Proofs.Ytndhiaommphegaa

namespace Go.Proofs.Ytndhiaommphegaa
open Go.RowKit
set_option linter.unusedVariables false

/-- the lists of registers lie in new blocks, apart -/
def RegIn (w : World) (base : Nat) (r : Pl.Rg) (a b : Option Addr) : Prop := SlotIn w base w.heap.size a r.xs ∧ SlotIn w base w.heap.size b r.ys ∧ (∀ g, blk a = some g → blk b ≠ some g)
theorem RegIn.kept {w w' : World} {base : Nat} {r : Pl.Rg} {a b : Option Addr} (h : RegIn w base r a b) (k : Kept 0 0 w w') : RegIn w' base r a b :=
  ⟨(h.1.kept k (by omega)).wide (Nat.le_refl _) k.size, (h.2.1.kept k (by omega)).wide (Nat.le_refl _) k.size, h.2.2⟩
set_option maxHeartbeats 8000000 in
theorem specOwn (w : World) (r : Pl.Rg) (a b : Option Addr) (ca cb : Nat) (ha : IRow w a r.xs) (hb : IRow w b r.ys) (lx : r.xs.length ≤ 2000000) (ly : r.ys.length ≤ 2000000) :
    Calls Try.prog 49 #[.agg #[.slice a r.xs.length ca, .slice b r.ys.length cb, iv r.o, iv r.p, iv r.f, iv r.m, .bool r.s, .bool r.t]] w fun e w' => ∃ (a' b' : Option Addr) (ca' cb' : Nat), e = .returned (.agg #[.slice a' r.xs.length ca', .slice b' r.ys.length cb', iv r.o, iv r.p, iv r.f, iv r.m, .bool r.s, .bool r.t]) ∧ RegIn w' w.heap.size r a' b' ∧ Kept 0 0 w w' := by
  have HA := hide ha
  have HB := hide hb
  clear ha hb
  have K0 := hide (kept_new (kept_new (kept_alloc w (.cells #[.slice a r.xs.length ca, .slice b r.ys.length cb, iv r.o, iv r.p, iv r.f, iv r.m, .bool r.s, .bool r.t] 31)) (.cells #[.slice none 0 0, .slice none 0 0, iv 0, iv 0, iv 0, iv 0, .bool false, .bool false] 31)) (.cells #[] 3))
  have B0 := hide (((Blk.new w #[.slice a r.xs.length ca, .slice b r.ys.length cb, iv r.o, iv r.p, iv r.f, iv r.m, .bool r.s, .bool r.t] 31).alloc (.cells #[.slice none 0 0, .slice none 0 0, iv 0, iv 0, iv 0, iv 0, .bool false, .bool false] 31)).alloc (.cells #[] 3))
  have B1 := (Blk.new (w.alloc (.cells #[.slice a r.xs.length ca, .slice b r.ys.length cb, iv r.o, iv r.p, iv r.f, iv r.m, .bool r.s, .bool r.t] 31)) #[.slice none 0 0, .slice none 0 0, iv 0, iv 0, iv 0, iv 0, .bool false, .bool false] 31).alloc (.cells #[] 3)
  have B2 := Blk.new ((w.alloc (.cells #[.slice a r.xs.length ca, .slice b r.ys.length cb, iv r.o, iv r.p, iv r.f, iv r.m, .bool r.s, .bool r.t] 31)).alloc (.cells #[.slice none 0 0, .slice none 0 0, iv 0, iv 0, iv 0, iv 0, .bool false, .bool false] 31)) #[] 3
  simp only [World.size_alloc] at B1 B2
  replace B1 := hide B1
  replace B2 := hide B2
  go_enter Try.func49, Try.ntmps49
  go_wp2_with (at_builtin; refine copy_ints rfl (.tmp 3) (.tmp 5) rfl w.heap.size (w.heap.size + 1 + 1) rfl B2.out (by omega) a r.xs.length ca r.xs rfl (HA.out.keptS K0.out) rfl lx (w.heap.size + 1 + 1 + 1) (by simp) ?_)
  intro g1 c1 w1 o1 k1 hg1 l1
  have C0 := hide (B0.out.kept k1 (by omega))
  have C1 := hide (B1.out.kept k1 (by omega))
  have d3 := C0.out.cell (i := 0) rfl
  have f3 := C0.out.frozen 0
  have n0 := B2.out.lt
  have n1 := k1.size
  obtain ⟨p1, p2⟩ := o1.lt g1 rfl
  have D0 := hide ((C0.out.set 0 (.slice (some ⟨g1, 0, none⟩) r.xs.length c1)).alloc (.cells #[] 3))
  have D1 := hide ((C1.out.other w.heap.size 0 (.slice (some ⟨g1, 0, none⟩) r.xs.length c1) (by omega)).alloc (.cells #[] 3))
  have O1 := hide ((o1.kept (grownBy_set w1 w.heap.size 0 (.slice (some ⟨g1, 0, none⟩) r.xs.length c1)) (.inr (fun e => by have h3 : g1 = w.heap.size := Option.some.inj e; omega))).alloc (.cells #[] 3))
  have K1 := hide (kept_new (kept_set (kept_over K0.out k1 (by omega)) w.heap.size 0 (.slice (some ⟨g1, 0, none⟩) r.xs.length c1) (.inr (Nat.le_refl _))) (.cells #[] 3))
  have E2 := Blk.new (w1.setCell ⟨w.heap.size, 0, none⟩ (.slice (some ⟨g1, 0, none⟩) r.xs.length c1)) #[] 3
  simp only [World.size_setCell] at E2
  replace E2 := hide E2
  have q4 := D0.out.cell (i := 1) rfl
  clear o1 k1 B0 B1 B2 C0 C1
  go_wp2_with (at_builtin; refine copy_ints rfl (.tmp 8) (.tmp 10) rfl w.heap.size w1.heap.size rfl E2.out (by omega) b r.ys.length cb r.ys rfl (HB.out.keptS K1.out) rfl ly (w1.heap.size + 1) (by simp) ?_)
  intro g2 c2 w2 o2 k2 hg2 l2
  clear q4 d3 f3
  have F0 := D0.out.kept k2 (by omega)
  have F1 := D1.out.kept k2 (by omega)
  obtain ⟨p3, p4⟩ := o2.lt g2 rfl
  have n2 := k2.size
  simp only [World.size_alloc, World.size_setCell] at n2
  have P1 := hide (O1.out.kept (kept_by k2) (.inr (fun e => by have h3 : g1 = w1.heap.size := Option.some.inj e; omega)))
  have P2 := hide o2
  have K2 := hide (kept_over K1.out k2 (by omega))
  have x0 := F0.all
  have v1' := F0.frozen 1
  have y0 := F1.all
  have u0 := F1.fz
  have G1 := hide F1
  have hne : g1 ≠ g2 := by omega
  clear F0 F1 o2 k2
  go_wp2_with fail
  refine bodyPost_ret (v := .agg #[.slice (some ⟨g1, 0, none⟩) r.xs.length c1, .slice (some ⟨g2, 0, none⟩) r.ys.length c2, iv r.o, iv r.p, iv r.f, iv r.m, .bool r.s, .bool r.t]) ?_ rfl ?_
  · exact results_cell_row rfl _ _ _ _ _ (0, 0) _ rfl (((((((((G1.out.other _ _ _ (by omega)).set _ _).set _ _).set _ _).set _ _).set _ _).set _ _).set _ _).set _ _) Try.underlying31 rfl (by kernel_rfl)
  · refine ⟨some ⟨g1, 0, none⟩, some ⟨g2, 0, none⟩, c1, c2, rfl, ⟨.inr ⟨g1, rfl, by omega, by simp; omega, ?_⟩, .inr ⟨g2, rfl, by omega, by simp; omega, ?_⟩, ?_⟩, ?_⟩
    · exact ((((((((((own_of_row P1.out).setOther _ _ _ (by omega)).setOther _ _ _ (by omega)).setOther _ _ _ (by omega)).setOther _ _ _ (by omega)).setOther _ _ _ (by omega)).setOther _ _ _ (by omega)).setOther _ _ _ (by omega)).setOther _ _ _ (by omega)).setOther _ _ _ (by omega))
    · exact ((((((((((own_of_row P2.out).setOther _ _ _ (by omega)).setOther _ _ _ (by omega)).setOther _ _ _ (by omega)).setOther _ _ _ (by omega)).setOther _ _ _ (by omega)).setOther _ _ _ (by omega)).setOther _ _ _ (by omega)).setOther _ _ _ (by omega)).setOther _ _ _ (by omega))
    · intro g hg hh
      simp [blk] at hg hh
      omega
    · exact (kept_set (kept_set (kept_set (kept_set (kept_set (kept_set (kept_set (kept_set (kept_set K2.out _ _ _ (.inr (by omega))) _ _ _ (.inr (by omega))) _ _ _ (.inr (by omega))) _ _ _ (.inr (by omega))) _ _ _ (.inr (by omega))) _ _ _ (.inr (by omega))) _ _ _ (.inr (by omega))) _ _ _ (.inr (by omega))) _ _ _ (.inr (by omega)))
end Go.Proofs.Ytndhiaommphegaa

namespace Go.Proofs.Ytndhiaommphegaa
open Go.RowKit
set_option linter.unusedVariables false

set_option maxHeartbeats 4000000 in
theorem l4Own_log (w : World) (ga oa gb ob : Nat) (ca cb m : Nat) (xs ys : List Int) (ha : IRow w (some ⟨ga, oa, none⟩) xs) (hb : IRow w (some ⟨gb, ob, none⟩) ys) (lx : xs.length ≤ 2000000) (ly : ys.length = 5 * m) (bm : m ≤ 2000000) (x0 : 0 < xs.length) (m0 : 0 < m) :
    Calls Try.prog 50 #[.agg #[.slice (some ⟨ga, oa, none⟩) xs.length ca, .slice (some ⟨gb, ob, none⟩) m cb]] w fun e w' => ∃ (g1 c1 g2 c2 : Nat), e = .returned (.agg #[.slice (some ⟨g1, 0, none⟩) xs.length c1, .slice (some ⟨g2, 0, none⟩) m c2]) ∧ w'.ownsRow w.heap.size 3 1 (.slice (some ⟨g1, 0, none⟩) xs.length c1) xs.length (xs.map (Value.int .i64)) ∧ w'.ownsRow w.heap.size 104 5 (.slice (some ⟨g2, 0, none⟩) m c2) m (ys.map (Value.int .i64)) ∧ g1 < g2 ∧ Kept 0 0 w w' := by
  obtain ⟨i, hi, hz0, hz1, hz2⟩ := info_parts Try.info3
  obtain ⟨j, hj, hy0, hy1, hy2⟩ := info_parts Try.infoAcc
  have HY := hide ly
  have HA := hide ha
  have HB := hide hb
  have K0 := hide (kept_new (kept_alloc w (.cells #[.slice (some ⟨ga, oa, none⟩) xs.length ca, .slice (some ⟨gb, ob, none⟩) m cb] 34)) (.cells #[.slice none 0 0, .slice none 0 0] 34))
  have B0 := hide ((Blk.new w #[.slice (some ⟨ga, oa, none⟩) xs.length ca, .slice (some ⟨gb, ob, none⟩) m cb] 34).alloc (.cells #[.slice none 0 0, .slice none 0 0] 34))
  have B1 := Blk.new (w.alloc (.cells #[.slice (some ⟨ga, oa, none⟩) xs.length ca, .slice (some ⟨gb, ob, none⟩) m cb] 34)) #[.slice none 0 0, .slice none 0 0] 34
  simp only [World.size_alloc] at B1
  replace B1 := hide B1
  have hn5 : (ys.map (Value.int .i64)).length = m * 5 := by rw [List.length_map, ly]; omega
  have hmx : 0 + m ≤ maxLen := by unfold maxLen; omega
  have hby : (0 + m) * 40 ≤ 140737488355328 := by omega
  have HX1 : Hid ((xs.map (Value.int .i64)).length = xs.length * 1) := hide (by simp)
  have HXM : Hid (0 + xs.length ≤ maxLen) := hide (by unfold maxLen; omega)
  have HXB : Hid ((0 + xs.length) * 8 ≤ 140737488355328) := hide (by omega)
  have H5 : Hid (0 < 5) := hide (by decide)
  have HN5 := hide hn5
  have HMX := hide hmx
  have HBY := hide hby
  clear ly ha hb hn5 hmx hby
  go_enter Try.func50, Try.ntmps50
  go_wp2_with fail
  go_region_law (first
    | (refine step_append_grows rfl (.tmp 3) (.tmp 5) 22 rfl 3 i (iv 0) 1 8 Try.underlying22 hi hz0 hz1 hz2 rfl Nat.one_pos _ 0 0 [] rfl ?n1 rfl ?n2 ⟨ga, oa, none⟩ xs.length ca (xs.map (Value.int .i64)) rfl HX1.out ?news news_one ?n3 HXM.out HXB.out ?_
       (case n1 => intro h; cases h)
       (case n2 => intro b _ j u h; simp at h)
       (case n3 => omega)
       (case news => first | exact news_of (HA.out.keptS (kept_drew (kept_new K0.out _))) | exact news_of (HA.out.keptS (kept_drew (kept_new (kept_new K0.out _) _))))
       intro v1 w1 own1 gr1
       obtain ⟨g1, c1, rfl, b1, l1⟩ := own_form own1 (by omega)
       have k1 := undrewK (kept_grown gr1)
       have O1 := hide (own_base (base' := w.heap.size) own1 (by simp <;> omega))
       have B01 : Hid (Blk w1 w.heap.size #[.slice (some ⟨ga, oa, none⟩) xs.length ca, .slice (some ⟨gb, ob, none⟩) m cb] 34) := by first | exact hide (((B0.out.alloc _).kept0 k1)) | exact hide ((((B0.out.alloc _).alloc _).kept0 k1))
       have B11 : Hid (Blk w1 (w.heap.size + 1) #[.slice none 0 0, .slice none 0 0] 34) := by first | exact hide (((B1.out.alloc _).kept0 k1)) | exact hide ((((B1.out.alloc _).alloc _).kept0 k1))
       have K1 : Hid (Kept 0 0 w w1) := by first | exact hide ((kept_new K0.out _).trans k1) | exact hide ((kept_new (kept_new K0.out _) _).trans k1)
       have q1 := B01.out.cell (i := 1) rfl
       have q2 : ∀ o, (w1.alloc o).cell? ⟨w.heap.size, 1, none⟩ = some (.slice (some ⟨gb, ob, none⟩) m cb) := fun o => (B01.out.alloc o).cell (i := 1) rfl
       simp at b1
       clear own1 gr1 k1)
    | (refine step_append_grows rfl (.tmp 7) (.tmp 9) 32 rfl 104 j (.agg #[iv 0, iv 0, iv 0, iv 0, iv 0]) 5 40 Try.underlying32 hj hy0 hy1 hy2 rfl H5.out _ 0 0 [] rfl ?n1 rfl ?n2 ⟨gb, ob, none⟩ m cb (ys.map (Value.int .i64)) rfl HN5.out ?news news_one ?n3 HMX.out HBY.out ?_
       (case n1 => intro h; cases h)
       (case n2 => intro b _ j u h; simp at h)
       (case n3 => omega)
       (case news => first | exact news_of (HB.out.keptS K1.out) | exact news_of (HB.out.keptS (kept_new K1.out _)))
       intro v2 w2 own2 gr2
       obtain ⟨g2, c2, rfl, b2, l2⟩ := own_form own2 (by omega)
       have k2 := kept_grown gr2
       have O2 := hide (own_base (base' := w.heap.size) own2 (by have := K1.out.size; simp <;> omega))
       have B12 : Hid (Blk w2 (w.heap.size + 1) #[.slice none 0 0, .slice none 0 0] 34) := by first | exact hide (B11.out.kept0 k2) | exact hide ((B11.out.alloc _).kept0 k2)
       have K2 : Hid (Kept 0 0 w w2) := by first | exact hide (K1.out.trans k2) | exact hide ((kept_new K1.out _).trans k2)
       have O12 : Hid (w2.ownsRow w.heap.size 3 1 (.slice (some ⟨g1, 0, none⟩) (0 + xs.length) c1) (0 + xs.length) ([] ++ xs.map (Value.int .i64))) := by first | exact hide (O1.out.kept gr2 (.inr (fun h => by cases h))) | exact hide ((O1.out.alloc _).kept gr2 (.inr (fun h => by cases h)))
       have r0 := B12.out.cell (i := 0) rfl
       have r1 := B12.out.cell (i := 1) rfl
       have f0 := B12.out.frozen 0
       have f1 := B12.out.frozen 1
       clear own2 gr2 k2))
  all_goals
    try simp only [World.size_alloc] at b2
    go_wp2_with fail
    refine bodyPost_ret (v := .agg #[.slice (some ⟨g1, 0, none⟩) xs.length c1, .slice (some ⟨g2, 0, none⟩) m c2]) ?_ rfl ⟨g1, c1, g2, c2, rfl, ?_, ?_, by omega, ?_⟩
    · rw [results_one rfl]; go_simp
    · have h := O12.out
      simp only [Nat.zero_add, List.nil_append] at h
      exact ((h.kept (grownBy_set _ _ _ _) (.inr (fun e => by have h2 : g1 = w.heap.size + 1 := Option.some.inj e; omega))).kept (grownBy_set _ _ _ _) (.inr (fun e => by have h2 : g1 = w.heap.size + 1 := Option.some.inj e; omega)))
    · have h := O2.out
      simp only [Nat.zero_add, List.nil_append] at h
      exact ((h.kept (grownBy_set _ _ _ _) (.inr (fun e => by have h2 : g2 = w.heap.size + 1 := Option.some.inj e; omega))).kept (grownBy_set _ _ _ _) (.inr (fun e => by have h2 : g2 = w.heap.size + 1 := Option.some.inj e; omega)))
    · exact kept_set (kept_set K2.out _ _ _ (.inr (by omega))) _ _ _ (.inr (by omega))
end Go.Proofs.Ytndhiaommphegaa

namespace Go.Proofs.Ytndhiaommphegaa
open Go.RowKit
set_option linter.unusedVariables false
/-- the step's own blocks: from lo to hi, and the log's -/
def own (lo hi g k : Nat) : Prop := (lo ≤ k ∧ k < hi) ∨ k = g
end Go.Proofs.Ytndhiaommphegaa

namespace Go.Proofs.Ytndhiaommphegaa
open Go.RowKit
set_option linter.unusedVariables false

theorem ownsRow_keptS {w w' : World} {base g n cap size lo hi : Nat} {e : TypeId} {xs : List Value} (h : w.ownsRow base e size (.slice (some ⟨g, 0, none⟩) n cap) n xs) (k : Kept lo hi w w') (hn : ¬ (lo ≤ g ∧ g < hi)) : w'.ownsRow base e size (.slice (some ⟨g, 0, none⟩) n cap) n xs := by
  have hlt := h.lt g rfl
  rcases h with ⟨hl, ⟨e1, e0⟩ | ⟨g', cap', cur, e1, hb, hgg, rest⟩⟩
  · cases e1
  · cases e1
    exact ⟨hl, .inr ⟨g, cap, cur, rfl, hb, (k.block g hlt.2 hn).trans hgg, rest⟩⟩
theorem MB.kept8 {w : World} {p : Nat} (v0 v1 v2 v3 v4 v5 v6 v7 : Value) : Kept p (p + 1) w ((((((((w.setCell ⟨p, 0, none⟩ v0).setCell ⟨p, 1, none⟩ v1).setCell ⟨p, 2, none⟩ v2).setCell ⟨p, 3, none⟩ v3).setCell ⟨p, 4, none⟩ v4).setCell ⟨p, 5, none⟩ v5).setCell ⟨p, 6, none⟩ v6).setCell ⟨p, 7, none⟩ v7) :=
  kept_set (kept_set (kept_set (kept_set (kept_set (kept_set (kept_set (kept_set (Kept.refl _ _ _) _ _ _ (.inl (by omega))) _ _ _ (.inl (by omega))) _ _ _ (.inl (by omega))) _ _ _ (.inl (by omega))) _ _ _ (.inl (by omega))) _ _ _ (.inl (by omega))) _ _ _ (.inl (by omega))) _ _ _ (.inl (by omega))
theorem kept_one (w : World) (p i : Nat) (v : Value) : Kept p (p + 1) w (w.setCell ⟨p, i, none⟩ v) := kept_set (Kept.refl _ _ _) _ _ _ (.inl (by omega))
theorem Kept.one {w w' : World} {p : Nat} (h : Kept p (p + 1) w w') (i : Nat) (v : Value) : Kept p (p + 1) w (w'.setCell ⟨p, i, none⟩ v) := kept_set h _ _ _ (.inl (by omega))
/- the registers' own functions, over lists of four -/
def regV (r : Pl.Rg) (gd cd ga ca : Nat) : Value := .agg #[.slice (some ⟨gd, 0, none⟩) 4 cd, .slice (some ⟨ga, 0, none⟩) 4 ca, iv r.o, iv r.p, iv r.f, iv r.m, .bool r.s, .bool r.t]
section
variable {w : World} {p gd cd ga ca g1 c1 g2 c2 : Nat} {c : Pl.Mc}
end
end Go.Proofs.Ytndhiaommphegaa

namespace Go.Proofs.Ytndhiaommphegaa
open Go.RowKit
set_option linter.unusedVariables false
theorem own_empty {w : World} {g base size : Nat} {e : TypeId} (h : Blk w g #[] e) (hb : base ≤ g) : w.ownsRow base e size (.slice (some ⟨g, 0, none⟩) 0 0) 0 [] :=
  ⟨by simp, .inr ⟨g, 0, #[], rfl, hb, h, Nat.le_refl _, Nat.zero_le _, by simp, by simp⟩⟩
theorem blk_at3 {w w1 : World} {o p q : Obj} {e : TypeId} (k : Kept 0 0 ((((w.alloc o).alloc p).alloc q).alloc (.cells #[] e)) w1) : Blk w1 (w.heap.size + 1 + 1 + 1) #[] e := by
  have h := (Blk.new (((w.alloc o).alloc p).alloc q) #[] e).kept0 k
  simpa only [World.size_alloc] using h
theorem blk_at2 {w w1 : World} {o p q : Obj} {e : TypeId} (k : Kept 0 0 ((((w.alloc o).alloc p).alloc (.cells #[] e)).alloc q) w1) : Blk w1 (w.heap.size + 1 + 1) #[] e := by
  have h := ((Blk.new ((w.alloc o).alloc p) #[] e).alloc q).kept0 k
  simpa only [World.size_alloc] using h
set_option maxHeartbeats 4000000 in
theorem l4Own_nil (w : World) (ga oa : Nat) (ca cb : Nat) (xs : List Int) (ha : IRow w (some ⟨ga, oa, none⟩) xs) (lx : xs.length ≤ 2000000) (x0 : 0 < xs.length) :
   Calls Try.prog 50 #[.agg #[.slice (some ⟨ga, oa, none⟩) xs.length ca, .slice none 0 cb]] w fun e w' => ∃ (g1 c1 g2 c2 : Nat), e = .returned (.agg #[.slice (some ⟨g1, 0, none⟩) xs.length c1, .slice (some ⟨g2, 0, none⟩) 0 c2]) ∧ w'.ownsRow w.heap.size 3 1 (.slice (some ⟨g1, 0, none⟩) xs.length c1) xs.length (xs.map (Value.int .i64)) ∧ w'.ownsRow w.heap.size 104 5 (.slice (some ⟨g2, 0, none⟩) 0 c2) 0 [] ∧ g1 ≠ g2 ∧ Kept 0 0 w w' := by
  obtain ⟨i, hi, hz0, hz1, hz2⟩ := info_parts Try.info3
  have HA := hide ha
  have K0 := hide (kept_new (kept_alloc w (.cells #[.slice (some ⟨ga, oa, none⟩) xs.length ca, .slice none 0 cb] 34)) (.cells #[.slice none 0 0, .slice none 0 0] 34))
  have B0 := hide ((Blk.new w #[.slice (some ⟨ga, oa, none⟩) xs.length ca, .slice none 0 cb] 34).alloc (.cells #[.slice none 0 0, .slice none 0 0] 34))
  have B1 := Blk.new (w.alloc (.cells #[.slice (some ⟨ga, oa, none⟩) xs.length ca, .slice none 0 cb] 34)) #[.slice none 0 0, .slice none 0 0] 34
  simp only [World.size_alloc] at B1
  replace B1 := hide B1
  have HX1 : Hid ((xs.map (Value.int .i64)).length = xs.length * 1) := hide (by simp)
  have HXM : Hid (0 + xs.length ≤ maxLen) := hide (by unfold maxLen; omega)
  have HXB : Hid ((0 + xs.length) * 8 ≤ 140737488355328) := hide (by omega)
  clear ha
  go_enter Try.func50, Try.ntmps50
  go_wp2_with fail
  go_region_law (first
    | (refine step_append_grows rfl (.tmp 3) (.tmp 5) 22 rfl 3 i (iv 0) 1 8 Try.underlying22 hi hz0 hz1 hz2 rfl Nat.one_pos _ 0 0 [] rfl ?n1 rfl ?n2 ⟨ga, oa, none⟩ xs.length ca (xs.map (Value.int .i64)) rfl HX1.out ?news news_one ?n3 HXM.out HXB.out ?_
       (case n1 => intro h; cases h)
       (case n2 => intro b _ j u h; simp at h)
       (case n3 => omega)
       (case news => first | exact news_of (HA.out.keptS (kept_drew (kept_new K0.out _))) | exact news_of (HA.out.keptS (kept_drew (kept_new (kept_new K0.out _) _))))
       intro v1 w1 own1 gr1
       obtain ⟨g1, c1, rfl, b1, l1⟩ := own_form own1 (by omega)
       have k1 := undrewK (kept_grown gr1)
       have O1 := hide (own_base (base' := w.heap.size) own1 (by simp <;> omega))
       have B01 : Hid (Blk w1 w.heap.size #[.slice (some ⟨ga, oa, none⟩) xs.length ca, .slice none 0 cb] 34) := by first | exact hide (((B0.out.alloc _).kept0 k1)) | exact hide ((((B0.out.alloc _).alloc _).kept0 k1))
       have B11 : Hid (Blk w1 (w.heap.size + 1) #[.slice none 0 0, .slice none 0 0] 34) := by first | exact hide (((B1.out.alloc _).kept0 k1)) | exact hide ((((B1.out.alloc _).alloc _).kept0 k1))
       have K1 : Hid (Kept 0 0 w w1) := by first | exact hide ((kept_new K0.out _).trans k1) | exact hide ((kept_new (kept_new K0.out _) _).trans k1)
       have q1 := B01.out.cell (i := 1) rfl
       have q2 : ∀ o, (w1.alloc o).cell? ⟨w.heap.size, 1, none⟩ = some (.slice none 0 cb) := fun o => (B01.out.alloc o).cell (i := 1) rfl
       (first
         | have E := hide (blk_at2 (e := 104) k1)
         | have E := hide (blk_at3 (e := 104) k1)
         | skip)
       have r0 : ∀ o, (w1.alloc o).cell? ⟨w.heap.size + 1, 0, none⟩ = some (.slice none 0 0) := fun o => (B11.out.alloc o).cell (i := 0) rfl
       have r1 : ∀ o, (w1.alloc o).cell? ⟨w.heap.size + 1, 1, none⟩ = some (.slice none 0 0) := fun o => (B11.out.alloc o).cell (i := 1) rfl
       have f0 : ∀ o, (w1.alloc o).frozen? ⟨w.heap.size + 1, 0, none⟩ = false := fun o => (B11.out.alloc o).frozen 0
       have f1 : ∀ o, (w1.alloc o).frozen? ⟨w.heap.size + 1, 1, none⟩ = false := fun o => (B11.out.alloc o).frozen 1
       have r2 := B11.out.cell (i := 0) rfl
       have r3 := B11.out.cell (i := 1) rfl
       have f2 := B11.out.frozen 0
       have f3 := B11.out.frozen 1
       simp at b1
       clear own1 gr1 k1))
  all_goals
    have HS := K1.out.size
    go_wp2_with fail
    first
    | (refine bodyPost_ret (v := .agg #[.slice (some ⟨g1, 0, none⟩) xs.length c1, .slice (some ⟨w1.heap.size, 0, none⟩) 0 0]) ?_ rfl ⟨g1, c1, w1.heap.size, 0, rfl, ?_, ?_, by omega, ?_⟩
       · rw [results_one rfl]; go_simp
       · have h := O1.out
         simp only [Nat.zero_add, List.nil_append] at h
         exact (((h.alloc _).kept (grownBy_set _ _ _ _) (.inr (fun e => by have h2 : g1 = w.heap.size + 1 := Option.some.inj e; omega))).kept (grownBy_set _ _ _ _) (.inr (fun e => by have h2 : g1 = w.heap.size + 1 := Option.some.inj e; omega)))
       · have h := World.ownsRow_made (base := w.heap.size) (size := 5) (e := 104) w1 #[] 0 (by omega) (Nat.zero_le _) rfl
         exact ((h.kept (grownBy_set _ _ _ _) (.inr (fun e => by have h2 : w1.heap.size = w.heap.size + 1 := Option.some.inj e; omega))).kept (grownBy_set _ _ _ _) (.inr (fun e => by have h2 : w1.heap.size = w.heap.size + 1 := Option.some.inj e; omega)))
       · exact kept_set (kept_set (kept_new K1.out _) _ _ _ (.inr (by omega))) _ _ _ (.inr (by omega)))
    | (refine bodyPost_ret (v := .agg #[.slice (some ⟨g1, 0, none⟩) xs.length c1, .slice (some ⟨w.heap.size + 1 + 1 + 1, 0, none⟩) 0 0]) ?_ rfl ⟨g1, c1, w.heap.size + 1 + 1 + 1, 0, rfl, ?_, ?_, by omega, ?_⟩
       · rw [results_one rfl]; go_simp
       · have h := O1.out
         simp only [Nat.zero_add, List.nil_append] at h
         exact ((h.kept (grownBy_set _ _ _ _) (.inr (fun e => by have h2 : g1 = w.heap.size + 1 := Option.some.inj e; omega))).kept (grownBy_set _ _ _ _) (.inr (fun e => by have h2 : g1 = w.heap.size + 1 := Option.some.inj e; omega)))
       · exact own_empty ((E.out.other _ _ _ (by omega)).other _ _ _ (by omega)) (by omega)
       · exact kept_set (kept_set K1.out _ _ _ (.inr (by omega))) _ _ _ (.inr (by omega)))
    | (refine bodyPost_ret (v := .agg #[.slice (some ⟨g1, 0, none⟩) xs.length c1, .slice (some ⟨w.heap.size + 1 + 1, 0, none⟩) 0 0]) ?_ rfl ⟨g1, c1, w.heap.size + 1 + 1, 0, rfl, ?_, ?_, by omega, ?_⟩
       · rw [results_one rfl]; go_simp
       · have h := O1.out
         simp only [Nat.zero_add, List.nil_append] at h
         exact ((h.kept (grownBy_set _ _ _ _) (.inr (fun e => by have h2 : g1 = w.heap.size + 1 := Option.some.inj e; omega))).kept (grownBy_set _ _ _ _) (.inr (fun e => by have h2 : g1 = w.heap.size + 1 := Option.some.inj e; omega)))
       · exact own_empty ((E.out.other _ _ _ (by omega)).other _ _ _ (by omega)) (by omega)
       · exact kept_set (kept_set K1.out _ _ _ (.inr (by omega))) _ _ _ (.inr (by omega)))
set_option maxHeartbeats 4000000 in
theorem l4Own_none (w : World) (ga oa : Nat) (gb ob : Nat) (ub : _) (ca cb : Nat) (xs : List Int) (ha : IRow w (some ⟨ga, oa, none⟩) xs) (lx : xs.length ≤ 2000000) (x0 : 0 < xs.length) :
   Calls Try.prog 50 #[.agg #[.slice (some ⟨ga, oa, none⟩) xs.length ca, .slice (some ⟨gb, ob, ub⟩) 0 cb]] w fun e w' => ∃ (g1 c1 g2 c2 : Nat), e = .returned (.agg #[.slice (some ⟨g1, 0, none⟩) xs.length c1, .slice (some ⟨g2, 0, none⟩) 0 c2]) ∧ w'.ownsRow w.heap.size 3 1 (.slice (some ⟨g1, 0, none⟩) xs.length c1) xs.length (xs.map (Value.int .i64)) ∧ w'.ownsRow w.heap.size 104 5 (.slice (some ⟨g2, 0, none⟩) 0 c2) 0 [] ∧ g1 ≠ g2 ∧ Kept 0 0 w w' := by
  obtain ⟨i, hi, hz0, hz1, hz2⟩ := info_parts Try.info3
  have HA := hide ha
  have K0 := hide (kept_new (kept_alloc w (.cells #[.slice (some ⟨ga, oa, none⟩) xs.length ca, .slice (some ⟨gb, ob, ub⟩) 0 cb] 34)) (.cells #[.slice none 0 0, .slice none 0 0] 34))
  have B0 := hide ((Blk.new w #[.slice (some ⟨ga, oa, none⟩) xs.length ca, .slice (some ⟨gb, ob, ub⟩) 0 cb] 34).alloc (.cells #[.slice none 0 0, .slice none 0 0] 34))
  have B1 := Blk.new (w.alloc (.cells #[.slice (some ⟨ga, oa, none⟩) xs.length ca, .slice (some ⟨gb, ob, ub⟩) 0 cb] 34)) #[.slice none 0 0, .slice none 0 0] 34
  simp only [World.size_alloc] at B1
  replace B1 := hide B1
  have HX1 : Hid ((xs.map (Value.int .i64)).length = xs.length * 1) := hide (by simp)
  have HXM : Hid (0 + xs.length ≤ maxLen) := hide (by unfold maxLen; omega)
  have HXB : Hid ((0 + xs.length) * 8 ≤ 140737488355328) := hide (by omega)
  clear ha
  go_enter Try.func50, Try.ntmps50
  go_wp2_with fail
  go_region_law (first
    | (refine step_append_grows rfl (.tmp 3) (.tmp 5) 22 rfl 3 i (iv 0) 1 8 Try.underlying22 hi hz0 hz1 hz2 rfl Nat.one_pos _ 0 0 [] rfl ?n1 rfl ?n2 ⟨ga, oa, none⟩ xs.length ca (xs.map (Value.int .i64)) rfl HX1.out ?news news_one ?n3 HXM.out HXB.out ?_
       (case n1 => intro h; cases h)
       (case n2 => intro b _ j u h; simp at h)
       (case n3 => omega)
       (case news => first | exact news_of (HA.out.keptS (kept_drew (kept_new K0.out _))) | exact news_of (HA.out.keptS (kept_drew (kept_new (kept_new K0.out _) _))))
       intro v1 w1 own1 gr1
       obtain ⟨g1, c1, rfl, b1, l1⟩ := own_form own1 (by omega)
       have k1 := undrewK (kept_grown gr1)
       have O1 := hide (own_base (base' := w.heap.size) own1 (by simp <;> omega))
       have B01 : Hid (Blk w1 w.heap.size #[.slice (some ⟨ga, oa, none⟩) xs.length ca, .slice (some ⟨gb, ob, ub⟩) 0 cb] 34) := by first | exact hide (((B0.out.alloc _).kept0 k1)) | exact hide ((((B0.out.alloc _).alloc _).kept0 k1))
       have B11 : Hid (Blk w1 (w.heap.size + 1) #[.slice none 0 0, .slice none 0 0] 34) := by first | exact hide (((B1.out.alloc _).kept0 k1)) | exact hide ((((B1.out.alloc _).alloc _).kept0 k1))
       have K1 : Hid (Kept 0 0 w w1) := by first | exact hide ((kept_new K0.out _).trans k1) | exact hide ((kept_new (kept_new K0.out _) _).trans k1)
       have q1 := B01.out.cell (i := 1) rfl
       have q2 : ∀ o, (w1.alloc o).cell? ⟨w.heap.size, 1, none⟩ = some (.slice (some ⟨gb, ob, ub⟩) 0 cb) := fun o => (B01.out.alloc o).cell (i := 1) rfl
       (first
         | have E := hide (blk_at2 (e := 104) k1)
         | have E := hide (blk_at3 (e := 104) k1)
         | skip)
       have r0 : ∀ o, (w1.alloc o).cell? ⟨w.heap.size + 1, 0, none⟩ = some (.slice none 0 0) := fun o => (B11.out.alloc o).cell (i := 0) rfl
       have r1 : ∀ o, (w1.alloc o).cell? ⟨w.heap.size + 1, 1, none⟩ = some (.slice none 0 0) := fun o => (B11.out.alloc o).cell (i := 1) rfl
       have f0 : ∀ o, (w1.alloc o).frozen? ⟨w.heap.size + 1, 0, none⟩ = false := fun o => (B11.out.alloc o).frozen 0
       have f1 : ∀ o, (w1.alloc o).frozen? ⟨w.heap.size + 1, 1, none⟩ = false := fun o => (B11.out.alloc o).frozen 1
       have r2 := B11.out.cell (i := 0) rfl
       have r3 := B11.out.cell (i := 1) rfl
       have f2 := B11.out.frozen 0
       have f3 := B11.out.frozen 1
       simp at b1
       clear own1 gr1 k1))
  all_goals
    have HS := K1.out.size
    go_wp2_with fail
    first
    | (refine bodyPost_ret (v := .agg #[.slice (some ⟨g1, 0, none⟩) xs.length c1, .slice (some ⟨w1.heap.size, 0, none⟩) 0 0]) ?_ rfl ⟨g1, c1, w1.heap.size, 0, rfl, ?_, ?_, by omega, ?_⟩
       · rw [results_one rfl]; go_simp
       · have h := O1.out
         simp only [Nat.zero_add, List.nil_append] at h
         exact (((h.alloc _).kept (grownBy_set _ _ _ _) (.inr (fun e => by have h2 : g1 = w.heap.size + 1 := Option.some.inj e; omega))).kept (grownBy_set _ _ _ _) (.inr (fun e => by have h2 : g1 = w.heap.size + 1 := Option.some.inj e; omega)))
       · have h := World.ownsRow_made (base := w.heap.size) (size := 5) (e := 104) w1 #[] 0 (by omega) (Nat.zero_le _) rfl
         exact ((h.kept (grownBy_set _ _ _ _) (.inr (fun e => by have h2 : w1.heap.size = w.heap.size + 1 := Option.some.inj e; omega))).kept (grownBy_set _ _ _ _) (.inr (fun e => by have h2 : w1.heap.size = w.heap.size + 1 := Option.some.inj e; omega)))
       · exact kept_set (kept_set (kept_new K1.out _) _ _ _ (.inr (by omega))) _ _ _ (.inr (by omega)))
    | (refine bodyPost_ret (v := .agg #[.slice (some ⟨g1, 0, none⟩) xs.length c1, .slice (some ⟨w.heap.size + 1 + 1 + 1, 0, none⟩) 0 0]) ?_ rfl ⟨g1, c1, w.heap.size + 1 + 1 + 1, 0, rfl, ?_, ?_, by omega, ?_⟩
       · rw [results_one rfl]; go_simp
       · have h := O1.out
         simp only [Nat.zero_add, List.nil_append] at h
         exact ((h.kept (grownBy_set _ _ _ _) (.inr (fun e => by have h2 : g1 = w.heap.size + 1 := Option.some.inj e; omega))).kept (grownBy_set _ _ _ _) (.inr (fun e => by have h2 : g1 = w.heap.size + 1 := Option.some.inj e; omega)))
       · exact own_empty ((E.out.other _ _ _ (by omega)).other _ _ _ (by omega)) (by omega)
       · exact kept_set (kept_set K1.out _ _ _ (.inr (by omega))) _ _ _ (.inr (by omega)))
    | (refine bodyPost_ret (v := .agg #[.slice (some ⟨g1, 0, none⟩) xs.length c1, .slice (some ⟨w.heap.size + 1 + 1, 0, none⟩) 0 0]) ?_ rfl ⟨g1, c1, w.heap.size + 1 + 1, 0, rfl, ?_, ?_, by omega, ?_⟩
       · rw [results_one rfl]; go_simp
       · have h := O1.out
         simp only [Nat.zero_add, List.nil_append] at h
         exact ((h.kept (grownBy_set _ _ _ _) (.inr (fun e => by have h2 : g1 = w.heap.size + 1 := Option.some.inj e; omega))).kept (grownBy_set _ _ _ _) (.inr (fun e => by have h2 : g1 = w.heap.size + 1 := Option.some.inj e; omega)))
       · exact own_empty ((E.out.other _ _ _ (by omega)).other _ _ _ (by omega)) (by omega)
       · exact kept_set (kept_set K1.out _ _ _ (.inr (by omega))) _ _ _ (.inr (by omega)))
end Go.Proofs.Ytndhiaommphegaa

namespace Go.Proofs.Ytndhiaommphegaa
open Go.RowKit
set_option linter.unusedVariables false

theorem l4Own (w : World) (a b : Option Addr) (ca cb m : Nat) (xs ys : List Int) (ha : IRow w a xs) (hb : IRow w b ys) (lx : xs.length ≤ 2000000) (ly : ys.length = 5 * m) (bm : m ≤ 2000000) (x0 : 0 < xs.length) :
    Calls Try.prog 50 #[.agg #[.slice a xs.length ca, .slice b m cb]] w fun e w' => ∃ (g1 c1 g2 c2 : Nat), e = .returned (.agg #[.slice (some ⟨g1, 0, none⟩) xs.length c1, .slice (some ⟨g2, 0, none⟩) m c2]) ∧ w'.ownsRow w.heap.size 3 1 (.slice (some ⟨g1, 0, none⟩) xs.length c1) xs.length (xs.map (Value.int .i64)) ∧ w'.ownsRow w.heap.size 104 5 (.slice (some ⟨g2, 0, none⟩) m c2) m (ys.map (Value.int .i64)) ∧ g1 ≠ g2 ∧ Kept 0 0 w w' := by
  obtain ⟨ga, oa, rfl, _⟩ := ha 0 x0
  by_cases h0 : m = 0
  · subst h0
    obtain rfl : ys = [] := List.eq_nil_of_length_eq_zero (by omega)
    cases b with
    | none => exact l4Own_nil w ga oa ca cb xs ha lx x0
    | some ad => exact l4Own_none w ga oa ad.block ad.off ad.spot ca cb xs ha lx x0
  · obtain ⟨gb, ob, rfl, _⟩ := hb 0 (by omega)
    refine (l4Own_log w ga oa gb ob ca cb m xs ys ha hb lx ly bm x0 (by omega)).mono ?_
    rintro e w' ⟨g1, c1, g2, c2, rfl, o1, o2, hl, kk⟩
    exact ⟨g1, c1, g2, c2, rfl, o1, o2, by omega, kk⟩

end Go.Proofs.Ytndhiaommphegaa

namespace Go.Proofs.Ytndhiaommphegaa
open Go.RowKit
set_option linter.unusedVariables false
def cpuC (c : Pl.Cp) (gd cd ga ca g1 c1 g2 c2 : Nat) : Array Value := #[.slice (some ⟨gd, 0, none⟩) 4 cd, .slice (some ⟨ga, 0, none⟩) 4 ca, iv c.r.o, iv c.r.p, iv c.r.f, iv c.r.m, .bool c.r.s, .bool c.r.t, .slice (some ⟨g1, 0, none⟩) 512 c1, .slice (some ⟨g2, 0, none⟩) c.bm c2, .bool c.st, .bool c.ha]
/-- its lists in blocks of their own, from lo on -/
structure CO (w : World) (lo mid : Nat) (c : Pl.Cp) (gd ga g1 g2 c2 : Nat) : Prop where
  d : Own w gd c.r.xs
  a : Own w ga c.r.ys
  b : Own w g1 c.bx
  l : w.ownsRow mid 104 5 (.slice (some ⟨g2, 0, none⟩) c.bm c2) c.bm (c.bl.map (Value.int .i64))
  d0 : lo ≤ gd
  d1 : gd < mid
  a0 : lo ≤ ga
  a1 : ga < mid
  da : gd ≠ ga
  b0 : mid ≤ g1
  b1 : g1 < w.heap.size
  bl : g1 ≠ g2
theorem CO.any {w w' : World} {lo mid gd ga g1 g2 c2 : Nat} {c : Pl.Cp} (h : CO w lo mid c gd ga g1 g2 c2) (k : Kept 0 0 w w') : CO w' lo mid c gd ga g1 g2 c2 :=
  ⟨h.d.keptS k (by omega), h.a.keptS k (by omega), h.b.keptS k (by omega), ownsRow_keptS h.l k (by omega), h.d0, h.d1, h.a0, h.a1, h.da, h.b0, Nat.lt_of_lt_of_le h.b1 k.size, h.bl⟩
theorem slotIn_some {w : World} {lo hi : Nat} {a : Option Addr} {xs : List Int} (h : SlotIn w lo hi a xs) (hx : 0 < xs.length) : ∃ g, a = some ⟨g, 0, none⟩ ∧ lo ≤ g ∧ g < hi ∧ Own w g xs := by
  rcases h with ⟨_, e⟩ | h
  · rw [e] at hx; exact absurd hx (Nat.lt_irrefl 0)
  · exact h
theorem own4 (w : World) (r : Pl.Rg) (a b : Option Addr) (ca cb : Nat) (ha : IRow w a r.xs) (hb : IRow w b r.ys) (h4 : r.xs.length = 4) (h5 : r.ys.length = 4) :
    Calls Try.prog 49 #[.agg #[.slice a 4 ca, .slice b 4 cb, iv r.o, iv r.p, iv r.f, iv r.m, .bool r.s, .bool r.t]] w fun e w' => ∃ gd cd ga cA : Nat, e = .returned (regV r gd cd ga cA) ∧ Own w' gd r.xs ∧ Own w' ga r.ys ∧ w.heap.size ≤ gd ∧ gd < w'.heap.size ∧ w.heap.size ≤ ga ∧ ga < w'.heap.size ∧ gd ≠ ga ∧ Kept 0 0 w w' := by
  have h := specOwn w r a b ca cb ha hb (by omega) (by omega)
  rw [h4, h5] at h
  refine h.mono ?_
  rintro e w' ⟨a', b', ca', cb', rfl, ⟨s1, s2, s3⟩, k⟩
  obtain ⟨gd, rfl, d0, d1, od⟩ := slotIn_some s1 (by omega)
  obtain ⟨ga, rfl, a0, a1, oa⟩ := slotIn_some s2 (by omega)
  exact ⟨gd, ca', ga, cb', rfl, od, oa, d0, d1, a0, a1, fun q => s3 gd rfl (by rw [q]; rfl), k⟩
theorem bus4 (w : World) (a b : Option Addr) (ca cb m : Nat) (xs ys : List Int) (ha : IRow w a xs) (hb : IRow w b ys) (lx : xs.length = 512) (ly : ys.length = 5 * m) (bm : m ≤ 400) :
    Calls Try.prog 50 #[.agg #[.slice a 512 ca, .slice b m cb]] w fun e w' => ∃ g1 c1 g2 c2 : Nat, e = .returned (.agg #[.slice (some ⟨g1, 0, none⟩) 512 c1, .slice (some ⟨g2, 0, none⟩) m c2]) ∧ Own w' g1 xs ∧ w'.ownsRow w.heap.size 104 5 (.slice (some ⟨g2, 0, none⟩) m c2) m (ys.map (Value.int .i64)) ∧ w.heap.size ≤ g1 ∧ g1 < w'.heap.size ∧ g1 ≠ g2 ∧ Kept 0 0 w w' := by
  have h := l4Own w a b ca cb m xs ys ha hb (by omega) ly (by omega) (by omega)
  rw [lx] at h
  refine h.mono ?_
  rintro e w' ⟨g1, c1, g2, c2, rfl, o1, o2, hn, k⟩
  have q := o1.lt g1 rfl
  have e1 := own_of_row (xs := xs) (by rw [← lx] at o1; exact lx ▸ o1)
  exact ⟨g1, c1, g2, c2, rfl, e1, o2, q.1, q.2, hn, k⟩
theorem s12_0 (a0 a1 a2 a3 a4 a5 a6 a7 a8 a9 a10 a11 v : Value) : (#[a0, a1, a2, a3, a4, a5, a6, a7, a8, a9, a10, a11] : Array Value).setIfInBounds 0 v = #[v, a1, a2, a3, a4, a5, a6, a7, a8, a9, a10, a11] := rfl
theorem s12_1 (a0 a1 a2 a3 a4 a5 a6 a7 a8 a9 a10 a11 v : Value) : (#[a0, a1, a2, a3, a4, a5, a6, a7, a8, a9, a10, a11] : Array Value).setIfInBounds 1 v = #[a0, v, a2, a3, a4, a5, a6, a7, a8, a9, a10, a11] := rfl
theorem s12_2 (a0 a1 a2 a3 a4 a5 a6 a7 a8 a9 a10 a11 v : Value) : (#[a0, a1, a2, a3, a4, a5, a6, a7, a8, a9, a10, a11] : Array Value).setIfInBounds 2 v = #[a0, a1, v, a3, a4, a5, a6, a7, a8, a9, a10, a11] := rfl
theorem s12_3 (a0 a1 a2 a3 a4 a5 a6 a7 a8 a9 a10 a11 v : Value) : (#[a0, a1, a2, a3, a4, a5, a6, a7, a8, a9, a10, a11] : Array Value).setIfInBounds 3 v = #[a0, a1, a2, v, a4, a5, a6, a7, a8, a9, a10, a11] := rfl
theorem s12_4 (a0 a1 a2 a3 a4 a5 a6 a7 a8 a9 a10 a11 v : Value) : (#[a0, a1, a2, a3, a4, a5, a6, a7, a8, a9, a10, a11] : Array Value).setIfInBounds 4 v = #[a0, a1, a2, a3, v, a5, a6, a7, a8, a9, a10, a11] := rfl
theorem s12_5 (a0 a1 a2 a3 a4 a5 a6 a7 a8 a9 a10 a11 v : Value) : (#[a0, a1, a2, a3, a4, a5, a6, a7, a8, a9, a10, a11] : Array Value).setIfInBounds 5 v = #[a0, a1, a2, a3, a4, v, a6, a7, a8, a9, a10, a11] := rfl
theorem s12_6 (a0 a1 a2 a3 a4 a5 a6 a7 a8 a9 a10 a11 v : Value) : (#[a0, a1, a2, a3, a4, a5, a6, a7, a8, a9, a10, a11] : Array Value).setIfInBounds 6 v = #[a0, a1, a2, a3, a4, a5, v, a7, a8, a9, a10, a11] := rfl
theorem s12_7 (a0 a1 a2 a3 a4 a5 a6 a7 a8 a9 a10 a11 v : Value) : (#[a0, a1, a2, a3, a4, a5, a6, a7, a8, a9, a10, a11] : Array Value).setIfInBounds 7 v = #[a0, a1, a2, a3, a4, a5, a6, v, a8, a9, a10, a11] := rfl
theorem CO.over {w w' : World} {b mid gd ga g1 g2 c2 : Nat} {c : Pl.Cp} (h : CO w (b + 2) mid c gd ga g1 g2 c2) (k : Kept b (b + 2) w w') : CO w' b mid c gd ga g1 g2 c2 := by
  have q := h.l.lt g2 rfl
  have := h.d0; have := h.d1; have := h.b0; have := h.a0; have := h.a1
  exact ⟨h.d.keptS k (by omega), h.a.keptS k (by omega), h.b.keptS k (by omega), ownsRow_keptS h.l k (by omega), by omega, h.d1, by omega, h.a1, h.da, h.b0, Nat.lt_of_lt_of_le h.b1 k.size, h.bl⟩
set_option maxHeartbeats 4000000 in
theorem mOwn (w : World) (c : Pl.Cp) (a b e q : Option Addr) (ca cb ce cq : Nat) (ha : IRow w a c.r.xs) (hb : IRow w b c.r.ys) (he : IRow w e c.bx) (hq : IRow w q c.bl) (h4 : c.r.xs.length = 4) (h5 : c.r.ys.length = 4) (hx : c.bx.length = 512) (hl : c.bl.length = 5 * c.bm) (hm : c.bm ≤ 400) :
    Calls Try.prog 27 #[.agg #[.slice a 4 ca, .slice b 4 cb, iv c.r.o, iv c.r.p, iv c.r.f, iv c.r.m, .bool c.r.s, .bool c.r.t, .slice e 512 ce, .slice q c.bm cq, .bool c.st, .bool c.ha]] w fun r w' => ∃ gd cd ga cA g1 c1 g2 c2 mid : Nat, r = .returned (.agg (cpuC c gd cd ga cA g1 c1 g2 c2)) ∧ CO w' w.heap.size mid c gd ga g1 g2 c2 ∧ Kept 0 0 w w' := by
  have K0 := hide (kept_new (kept_alloc w (.cells #[.slice a 4 ca, .slice b 4 cb, iv c.r.o, iv c.r.p, iv c.r.f, iv c.r.m, .bool c.r.s, .bool c.r.t, .slice e 512 ce, .slice q c.bm cq, .bool c.st, .bool c.ha] 36)) (.cells cpZ 36))
  have BA := (Blk.new w #[.slice a 4 ca, .slice b 4 cb, iv c.r.o, iv c.r.p, iv c.r.f, iv c.r.m, .bool c.r.s, .bool c.r.t, .slice e 512 ce, .slice q c.bm cq, .bool c.st, .bool c.ha] 36).alloc (.cells cpZ 36)
  have BO := Blk.new (w.alloc (.cells #[.slice a 4 ca, .slice b 4 cb, iv c.r.o, iv c.r.p, iv c.r.f, iv c.r.m, .bool c.r.s, .bool c.r.t, .slice e 512 ce, .slice q c.bm cq, .bool c.st, .bool c.ha] 36)) cpZ 36
  simp only [World.size_alloc] at BO
  obtain ⟨X, hX⟩ : ∃ X : World, (w.alloc (.cells #[.slice a 4 ca, .slice b 4 cb, iv c.r.o, iv c.r.p, iv c.r.f, iv c.r.m, .bool c.r.s, .bool c.r.t, .slice e 512 ce, .slice q c.bm cq, .bool c.st, .bool c.ha] 36)).alloc (.cells cpZ 36) = X := ⟨_, rfl⟩
  rw [hX] at K0 BA BO
  have HBA := hide BA
  have HBO := hide BO
  have HA := hide (ha.keptS K0.out)
  have HB := hide (hb.keptS K0.out)
  have HE := hide he
  have HQ := hide hq
  have hxs := K0.out.size
  clear BA BO ha hb he hq
  have i0 := HBA.out.all
  have if0 := HBA.out.fz
  go_enter Try.func27, Try.ntmps27
  go_wp2_with (go_at_call 49; refine (own4 _ c.r a b ca cb HA.out HB.out h4 h5).mono ?_; unfold regV; rintro e9 W1 ⟨gd, cd, ga, cA, rfl, od, oa, d0, d1, a0, a1, da, k9⟩; have HD1 := hide od; have HA1 := hide oa; have K1 := hide (K0.out.trans k9); have HI1 := hide (HBA.out.kept0 k9); have HO1 := hide (HBO.out.kept0 k9); clear k9 od oa i0 if0; have i0 := HI1.out.cell (i := 0) rfl; have if0 := HI1.out.frozen 0; have i1 := HI1.out.cell (i := 1) rfl; have if1 := HI1.out.frozen 1; have i2 := HI1.out.cell (i := 2) rfl; have if2 := HI1.out.frozen 2; have i3 := HI1.out.cell (i := 3) rfl; have if3 := HI1.out.frozen 3; have i4 := HI1.out.cell (i := 4) rfl; have if4 := HI1.out.frozen 4; have i5 := HI1.out.cell (i := 5) rfl; have if5 := HI1.out.frozen 5; have i6 := HI1.out.cell (i := 6) rfl; have if6 := HI1.out.frozen 6; have i7 := HI1.out.cell (i := 7) rfl; have if7 := HI1.out.frozen 7; have i8 := HI1.out.cell (i := 8) rfl; have if8 := HI1.out.frozen 8; have i9 := HI1.out.cell (i := 9) rfl; have if9 := HI1.out.frozen 9; have i10 := HI1.out.cell (i := 10) rfl; have if10 := HI1.out.frozen 10; have i11 := HI1.out.cell (i := 11) rfl; have if11 := HI1.out.frozen 11)
  have K8 := MB.kept8 (w := W1) (p := w.heap.size) (.slice (some ⟨gd, 0, none⟩) 4 cd) (.slice (some ⟨ga, 0, none⟩) 4 cA) (iv c.r.o) (iv c.r.p) (iv c.r.f) (iv c.r.m) (.bool c.r.s) (.bool c.r.t)
  have HI2 : Blk ((((((((W1.setCell ⟨w.heap.size, 0, none⟩ (.slice (some ⟨gd, 0, none⟩) 4 cd)).setCell ⟨w.heap.size, 1, none⟩ (.slice (some ⟨ga, 0, none⟩) 4 cA)).setCell ⟨w.heap.size, 2, none⟩ (iv c.r.o)).setCell ⟨w.heap.size, 3, none⟩ (iv c.r.p)).setCell ⟨w.heap.size, 4, none⟩ (iv c.r.f)).setCell ⟨w.heap.size, 5, none⟩ (iv c.r.m)).setCell ⟨w.heap.size, 6, none⟩ (.bool c.r.s)).setCell ⟨w.heap.size, 7, none⟩ (.bool c.r.t)) w.heap.size #[.slice (some ⟨gd, 0, none⟩) 4 cd, .slice (some ⟨ga, 0, none⟩) 4 cA, iv c.r.o, iv c.r.p, iv c.r.f, iv c.r.m, .bool c.r.s, .bool c.r.t, .slice e 512 ce, .slice q c.bm cq, .bool c.st, .bool c.ha] 36 := by
    have z := (((((((HI1.out.set 0 (.slice (some ⟨gd, 0, none⟩) 4 cd)).set 1 (.slice (some ⟨ga, 0, none⟩) 4 cA)).set 2 (iv c.r.o)).set 3 (iv c.r.p)).set 4 (iv c.r.f)).set 5 (iv c.r.m)).set 6 (.bool c.r.s)).set 7 (.bool c.r.t)
    rw [s12_0, s12_1, s12_2, s12_3, s12_4, s12_5, s12_6, s12_7] at z
    exact z
  generalize ((((((((W1.setCell ⟨w.heap.size, 0, none⟩ (.slice (some ⟨gd, 0, none⟩) 4 cd)).setCell ⟨w.heap.size, 1, none⟩ (.slice (some ⟨ga, 0, none⟩) 4 cA)).setCell ⟨w.heap.size, 2, none⟩ (iv c.r.o)).setCell ⟨w.heap.size, 3, none⟩ (iv c.r.p)).setCell ⟨w.heap.size, 4, none⟩ (iv c.r.f)).setCell ⟨w.heap.size, 5, none⟩ (iv c.r.m)).setCell ⟨w.heap.size, 6, none⟩ (.bool c.r.s)).setCell ⟨w.heap.size, 7, none⟩ (.bool c.r.t)) = Y at K8 HI2 ⊢
  have hX2 : X.heap.size = w.heap.size + 2 := by rw [← hX]; simp
  have ds := K8.size
  have KY := hide (kept_over K1.out K8 (Nat.le_refl _))
  have HDY := hide (HD1.out.keptS K8 (by omega))
  have HAY := hide (HA1.out.keptS K8 (by omega))
  have HOY := hide (Blk.kept HO1.out K8 (by omega))
  have HIY := hide HI2
  have HEY := hide (HE.out.keptS KY.out)
  have HQY := hide (HQ.out.keptS KY.out)
  have HX2 := hide hX2
  have hs1 := HO1.out.lt
  clear K8 HI2 hX2 hX i0 if0
  have hdd := HDY.out.lt (by rw [h4]; decide)
  refine (bus4 _ e q ce cq c.bm c.bx c.bl HEY.out HQY.out hx hl hm).mono ?_
  rintro e9 W2 ⟨g1, c1, g2, c2, rfl, ob, ol, b0, b1, bn, k9⟩
  have HCO : Hid (CO W2 (w.heap.size + 2) Y.heap.size c gd ga g1 g2 c2) := hide ⟨HDY.out.keptS k9 (by omega), HAY.out.keptS k9 (by omega), ob, ol, by have := HX2.out; omega, by omega, by have := HX2.out; omega, by omega, da, b0, b1, bn⟩
  have K2 := hide (KY.out.trans k9)
  have HI3 := hide (HIY.out.kept0 k9)
  have HO3 := hide (HOY.out.kept0 k9)
  have hs3 := HO3.out.lt
  clear ob ol k9
  have i0 := HI3.out.all
  have if0 := HI3.out.fz
  have o0 := HO3.out.all
  have of0 := HO3.out.fz
  go_wp2_with fail
  refine bodyPost_ret (v := .agg (cpuC c gd cd ga cA g1 c1 g2 c2)) ?_ rfl ⟨gd, cd, ga, cA, g1, c1, g2, c2, Y.heap.size, rfl, HCO.out.over ?kk, ?kw⟩
  case kk => repeat (first | with_reducible exact Kept.refl _ _ _ | refine kept_set ?_ _ _ _ (.inl (by omega)))
  case kw => repeat (first | with_reducible exact K2.out | refine kept_set ?_ _ _ _ (.inr (by omega)))
  rw [results_one rfl]; go_simp; rfl
end Go.Proofs.Ytndhiaommphegaa

namespace Go.Proofs.Ytndhiaommphegaa
open Go.RowKit
set_option linter.unusedVariables false

theorem szRegs (w : World) (o pc fl mk : Int) (su tr : Bool) (a b : Option Addr) (ca cb n m : Nat) (left : Int) (hn : n ≤ 9223372036854775807) (hm : m ≤ 9223372036854775807) (l0 : 0 ≤ left) (l1 : left ≤ 2000000) :
    Calls Try.prog 24 #[.agg #[.slice a n ca, .slice b m cb, iv o, iv pc, iv fl, iv mk, .bool su, .bool tr], iv left] w fun e w' => e = .returned (iv (szB n m left)) ∧ Kept 0 0 w w' := by
  by_cases h : left - (n : Int) < 0
  · have E : Hid (szB n m left = -1) := hide (by simp [szB, h])
    have e1 : (if left - (n : Int) < 0 then (-1 : Int) else left - (n : Int)) = -1 := by simp [h]
    go_enter Try.func24, Try.ntmps24
    go_wp2_with fail
    refine (szIntS _ a ca n left hn l0 l1).mono ?_
    rintro e w' ⟨rfl, rfl⟩
    rw [e1]
    go_wp2_with fail
    go_ret
    exact ⟨rI E.out.symm, kept_alloc _ _⟩
  · have e1 : (if left - (n : Int) < 0 then (-1 : Int) else left - (n : Int)) = left - (n : Int) := by simp [h]
    by_cases h2 : left - (n : Int) - (m : Int) < 0
    · have E : Hid (szB n m left = -1) := hide (by simp [szB, h, h2])
      have e2 : (if left - (n : Int) - (m : Int) < 0 then (-1 : Int) else left - (n : Int) - (m : Int)) = -1 := by simp [h2]
      go_enter Try.func24, Try.ntmps24
      go_wp2_with fail
      refine (szIntS _ a ca n left hn l0 l1).mono ?_
      rintro e w' ⟨rfl, rfl⟩
      rw [e1]
      go_wp2_with fail
      refine (szIntS _ b cb m (left - (n : Int)) hm (by omega) (by omega)).mono ?_
      rintro e w' ⟨rfl, rfl⟩
      rw [e2]
      go_wp2_with fail
      go_ret
      exact ⟨rI E.out.symm, kept_alloc _ _⟩
    · have E : Hid (szB n m left = left - (n : Int) - (m : Int)) := hide (by simp [szB, h, h2])
      have e2 : (if left - (n : Int) - (m : Int) < 0 then (-1 : Int) else left - (n : Int) - (m : Int)) = left - (n : Int) - (m : Int) := by simp [h2]
      go_enter Try.func24, Try.ntmps24
      go_wp2_with fail
      refine (szIntS _ a ca n left hn l0 l1).mono ?_
      rintro e w' ⟨rfl, rfl⟩
      rw [e1]
      go_wp2_with fail
      refine (szIntS _ b cb m (left - (n : Int)) hm (by omega) (by omega)).mono ?_
      rintro e w' ⟨rfl, rfl⟩
      rw [e2]
      go_wp2_with fail
      go_ret
      exact ⟨rI E.out.symm, kept_alloc _ _⟩

theorem eqRegs (w : World) (o pc fl mk : Int) (su tr : Bool) (a b c d : Option Addr) (ca cb cc cd : Nat) (xs ys : List Int) (ha : IRow w a xs) (hb : IRow w b ys) (hc : IRow w c xs) (hd : IRow w d ys) (lx : xs.length ≤ 2000000) (ly : ys.length ≤ 2000000) :
    Calls Try.prog 33 #[.agg #[.slice a xs.length ca, .slice b ys.length cb, iv o, iv pc, iv fl, iv mk, .bool su, .bool tr], .agg #[.slice c xs.length cc, .slice d ys.length cd, iv o, iv pc, iv fl, iv mk, .bool su, .bool tr]] w fun e w' => e = .returned (.bool true) ∧ Kept 0 0 w w' := by
  have HK0 := hide (kept_new (kept_alloc w (.cells #[.slice a xs.length ca, .slice b ys.length cb, iv o, iv pc, iv fl, iv mk, .bool su, .bool tr] 31)) (.cells #[.slice c xs.length cc, .slice d ys.length cd, iv o, iv pc, iv fl, iv mk, .bool su, .bool tr] 31))
  have HA := hide ha
  have HB := hide hb
  have HC := hide hc
  have HD := hide hd
  have B0 := hide ((Blk.new w #[.slice a xs.length ca, .slice b ys.length cb, iv o, iv pc, iv fl, iv mk, .bool su, .bool tr] 31).alloc (.cells #[.slice c xs.length cc, .slice d ys.length cd, iv o, iv pc, iv fl, iv mk, .bool su, .bool tr] 31))
  have B1 := Blk.new (w.alloc (.cells #[.slice a xs.length ca, .slice b ys.length cb, iv o, iv pc, iv fl, iv mk, .bool su, .bool tr] 31)) #[.slice c xs.length cc, .slice d ys.length cd, iv o, iv pc, iv fl, iv mk, .bool su, .bool tr] 31
  simp only [World.size_alloc] at B1
  replace B1 := hide B1
  clear ha hb hc hd
  go_enter Try.func33, Try.ntmps33
  go_wp2_with fail
  refine (eqIntS _ a c ca cc xs xs (HA.out.keptS HK0.out) (HC.out.keptS HK0.out) lx lx).mono ?_
  rintro e w1 ⟨rfl, g1⟩
  rw [show decide (xs = xs) = true from by simp]
  have k1 := kept_grown g1
  have C0 := hide (B0.out.kept0 k1)
  have C1 := hide (B1.out.kept0 k1)
  have c1 := C0.out.cell (i := 1) rfl
  have d1 := C1.out.cell (i := 1) rfl
  have HK1 := hide (HK0.out.trans k1)
  clear g1 k1
  go_wp2_with fail
  refine (eqIntS _ b d cb cd ys ys (HB.out.keptS HK1.out) (HD.out.keptS HK1.out) ly ly).mono ?_
  rintro e w2 ⟨rfl, g2⟩
  rw [show decide (ys = ys) = true from by simp]
  have k2 := kept_grown g2
  have q2 := (C0.out.kept0 k2).all
  have r2 := (C1.out.kept0 k2).all
  have HK2 := hide (HK1.out.trans k2)
  clear g2 k2
  go_wp2_with fail
  go_ret
  exact ⟨rfl, HK2.out⟩

theorem heldRegs (w : World) (o pc fl mk : Int) (su tr : Bool) (a b : Option Addr) (ca cb n m : Nat) (q : Int) (ha : IRow w a (marks q n)) (hb : IRow w b (marks (q + (n : Int)) m)) (lx : n ≤ 2000000) (ly : m ≤ 2000000) (q0 : 0 ≤ q) (q1 : q ≤ 1000000) :
    Calls Try.prog 61 #[.agg #[.slice a n ca, .slice b m cb, iv o, iv pc, iv fl, iv mk, .bool su, .bool tr], iv q] w fun e w' => e = .returned (iv (q + (n : Int) + (m : Int))) ∧ Kept 0 0 w w' := by
  have k0 := kept_alloc w (.cells #[.slice a n ca, .slice b m cb, iv o, iv pc, iv fl, iv mk, .bool su, .bool tr] 31)
  have HK0 := hide k0
  have HA := hide ha
  have HB := hide hb
  clear k0 ha hb
  go_enter Try.func61, Try.ntmps61
  go_wp2_with fail
  refine (heldIntS _ a ca n q (HA.out.keptS HK0.out) lx q0 (by omega)).mono ?_
  rintro e w1 ⟨rfl, g1⟩
  have k1 := kept_grown g1
  have B0 := (Blk.new w #[.slice a n ca, .slice b m cb, iv o, iv pc, iv fl, iv mk, .bool su, .bool tr] 31).kept0 k1
  have c1 := B0.cell (i := 1) rfl
  have HK1 := hide (HK0.out.trans k1)
  clear g1 k1 B0
  go_wp2_with fail
  refine (heldIntS _ b cb m (q + (n : Int)) (HB.out.keptS HK1.out) ly (by omega) (by omega)).mono ?_
  rintro e w2 ⟨rfl, g2⟩
  have HK2 := hide (HK1.out.trans (kept_grown g2))
  clear g2
  go_wp2_with fail
  go_ret
  exact ⟨rfl, HK2.out⟩

set_option maxHeartbeats 8000000 in
theorem toRegs (w : World) (o pc fl mk : Int) (su tr : Bool) (a b : Option Addr) (ca cb : Nat) (xs ys : List Int) (ha : IRow w a xs) (hb : IRow w b ys) (lx : xs.length ≤ 2000000) (ly : ys.length ≤ 2000000) :
    Calls Try.prog 28 #[.agg #[.slice a xs.length ca, .slice b ys.length cb, iv o, iv pc, iv fl, iv mk, .bool su, .bool tr]] w fun e' w' => ∃ g1 g2 : Nat, e' = .returned (.agg #[.slice (some ⟨g1, 0, none⟩) xs.length xs.length, .slice (some ⟨g2, 0, none⟩) ys.length ys.length, iv o, iv pc, iv fl, iv mk, .bool su, .bool tr]) ∧ Own w' g1 xs ∧ Own w' g2 ys ∧ w.heap.size ≤ g1 ∧ g1 < g2 ∧ g2 < w'.heap.size ∧ Kept 0 0 w w' := by
  have HA := hide ha
  have HB := hide hb
  clear ha hb
  go_enter Try.func28, Try.ntmps28
  go_wp2_with fail
  have k0 : Kept 0 0 w (((w.alloc (.cells #[.slice a xs.length ca, .slice b ys.length cb, iv o, iv pc, iv fl, iv mk, .bool su, .bool tr] 24)).alloc (.cells #[.slice none 0 0, .slice none 0 0, iv 0, iv 0, iv 0, iv 0, .bool false, .bool false] 31)).alloc (.cells #[.slice none 0 0, .slice none 0 0, iv 0, iv 0, iv 0, iv 0, .bool false, .bool false] 31)) := kept_new (kept_new (kept_alloc _ _) _) _
  have B0 := ((Blk.new w #[.slice a xs.length ca, .slice b ys.length cb, iv o, iv pc, iv fl, iv mk, .bool su, .bool tr] 24).alloc (.cells #[.slice none 0 0, .slice none 0 0, iv 0, iv 0, iv 0, iv 0, .bool false, .bool false] 31)).alloc (.cells #[.slice none 0 0, .slice none 0 0, iv 0, iv 0, iv 0, iv 0, .bool false, .bool false] 31)
  have B1 := (Blk.new (w.alloc (.cells #[.slice a xs.length ca, .slice b ys.length cb, iv o, iv pc, iv fl, iv mk, .bool su, .bool tr] 24)) #[.slice none 0 0, .slice none 0 0, iv 0, iv 0, iv 0, iv 0, .bool false, .bool false] 31).alloc (.cells #[.slice none 0 0, .slice none 0 0, iv 0, iv 0, iv 0, iv 0, .bool false, .bool false] 31)
  have B2 := Blk.new ((w.alloc (.cells #[.slice a xs.length ca, .slice b ys.length cb, iv o, iv pc, iv fl, iv mk, .bool su, .bool tr] 24)).alloc (.cells #[.slice none 0 0, .slice none 0 0, iv 0, iv 0, iv 0, iv 0, .bool false, .bool false] 31)) #[.slice none 0 0, .slice none 0 0, iv 0, iv 0, iv 0, iv 0, .bool false, .bool false] 31
  simp only [World.size_alloc] at B1 B2
  obtain ⟨W, hW⟩ : ∃ W : World, W = (((w.alloc (.cells #[.slice a xs.length ca, .slice b ys.length cb, iv o, iv pc, iv fl, iv mk, .bool su, .bool tr] 24)).alloc (.cells #[.slice none 0 0, .slice none 0 0, iv 0, iv 0, iv 0, iv 0, .bool false, .bool false] 31)).alloc (.cells #[.slice none 0 0, .slice none 0 0, iv 0, iv 0, iv 0, iv 0, .bool false, .bool false] 31)) := ⟨_, rfl⟩
  rw [← hW] at k0 B0 B1 B2 ⊢
  clear hW
  have n0 := B2.lt
  refine (toIntS _ a ca xs (HA.out.keptS k0) lx).mono ?_
  rintro e' w1 ⟨rfl, o1, z1, g1⟩
  have k1 := kept_grown g1
  have C0 := B0.kept0 k1
  have C1 := hide (B1.kept0 k1)
  have C2 := B2.kept0 k1
  have d3 := C2.cell (i := 0) rfl
  have f3 := C2.frozen 0
  have D2 := hide (C2.set 0 (.slice (some ⟨W.heap.size, 0, none⟩) xs.length xs.length))
  have D1 := hide (C1.out.other (w.heap.size + 1 + 1) 0 (.slice (some ⟨W.heap.size, 0, none⟩) xs.length xs.length) (by omega))
  have D0 := hide (C0.other (w.heap.size + 1 + 1) 0 (.slice (some ⟨W.heap.size, 0, none⟩) xs.length xs.length) (by omega))
  have O1 := hide (o1.setOther (w.heap.size + 1 + 1) 0 (.slice (some ⟨W.heap.size, 0, none⟩) xs.length xs.length) (by omega))
  have K1 := hide (kept_set (k0.trans k1) (w.heap.size + 1 + 1) 0 (.slice (some ⟨W.heap.size, 0, none⟩) xs.length xs.length) (.inr (by omega)))
  have Z1 : Hid (W.heap.size < (w1.setCell ⟨w.heap.size + 1 + 1, 0, none⟩ (.slice (some ⟨W.heap.size, 0, none⟩) xs.length xs.length)).heap.size) := hide (by simpa using z1)
  obtain ⟨X, hX⟩ : ∃ X : World, X = w1.setCell ⟨w.heap.size + 1 + 1, 0, none⟩ (.slice (some ⟨W.heap.size, 0, none⟩) xs.length xs.length) := ⟨_, rfl⟩
  rw [← hX] at D2 D1 D0 O1 K1 Z1
  have x4 := D0.out.cell (i := 1) rfl
  rw [hX] at x4
  have cc1 := C0.all
  clear B0 B1 B2 C0 C1 C2 o1 z1 g1 k0 k1
  go_wp2_with fail
  rw [← hX]
  clear hX x4 d3 f3 cc1
  refine (toIntS _ b cb ys (HB.out.keptS K1.out) ly).mono ?_
  rintro e' w2 ⟨rfl, o2, z2, g2⟩
  have k2 := kept_grown g2
  have E0 := D0.out.kept0 k2
  have E1 := D1.out.kept0 k2
  have E2 := D2.out.kept0 k2
  have zz := Z1.out
  have O1 := hide (O1.out.keptS k2 (by omega))
  have O2 := hide o2
  have K2 := hide (K1.out.trans k2)
  have e2 := E0.all
  have a0 := E2.all
  have u1 := E2.fz
  have b0 := E1.all
  have v0 := E1.fz
  have E1 := hide E1
  clear E0 E2 o2 g2 k2
  go_wp2_with fail
  refine bodyPost_ret (v := .agg #[.slice (some ⟨W.heap.size, 0, none⟩) xs.length xs.length, .slice (some ⟨X.heap.size, 0, none⟩) ys.length ys.length, iv o, iv pc, iv fl, iv mk, .bool su, .bool tr]) ?_ rfl ⟨W.heap.size, X.heap.size, rfl, ?_, ?_, by omega, zz, ?_, ?_⟩
  · exact results_cell_row rfl _ _ _ _ _ (0, 0) _ rfl (((((((((((((((E1.out.other _ _ _ (by omega)).other _ _ _ (by omega)).other _ _ _ (by omega)).other _ _ _ (by omega)).other _ _ _ (by omega)).other _ _ _ (by omega)).other _ _ _ (by omega)).set _ _).set _ _).set _ _).set _ _).set _ _).set _ _).set _ _).set _ _) Try.underlying31 rfl (by kernel_rfl)
  · exact (((((((((((((((O1.out.setOther _ _ _ (by omega)).setOther _ _ _ (by omega)).setOther _ _ _ (by omega)).setOther _ _ _ (by omega)).setOther _ _ _ (by omega)).setOther _ _ _ (by omega)).setOther _ _ _ (by omega)).setOther _ _ _ (by omega)).setOther _ _ _ (by omega)).setOther _ _ _ (by omega)).setOther _ _ _ (by omega)).setOther _ _ _ (by omega)).setOther _ _ _ (by omega)).setOther _ _ _ (by omega)).setOther _ _ _ (by omega))
  · exact (((((((((((((((O2.out.setOther _ _ _ (by omega)).setOther _ _ _ (by omega)).setOther _ _ _ (by omega)).setOther _ _ _ (by omega)).setOther _ _ _ (by omega)).setOther _ _ _ (by omega)).setOther _ _ _ (by omega)).setOther _ _ _ (by omega)).setOther _ _ _ (by omega)).setOther _ _ _ (by omega)).setOther _ _ _ (by omega)).setOther _ _ _ (by omega)).setOther _ _ _ (by omega)).setOther _ _ _ (by omega)).setOther _ _ _ (by omega))
  · simpa using z2
  · exact (kept_set (kept_set (kept_set (kept_set (kept_set (kept_set (kept_set (kept_set (kept_set (kept_set (kept_set (kept_set (kept_set (kept_set (kept_set K2.out _ _ _ (.inr (by omega))) _ _ _ (.inr (by omega))) _ _ _ (.inr (by omega))) _ _ _ (.inr (by omega))) _ _ _ (.inr (by omega))) _ _ _ (.inr (by omega))) _ _ _ (.inr (by omega))) _ _ _ (.inr (by omega))) _ _ _ (.inr (by omega))) _ _ _ (.inr (by omega))) _ _ _ (.inr (by omega))) _ _ _ (.inr (by omega))) _ _ _ (.inr (by omega))) _ _ _ (.inr (by omega))) _ _ _ (.inr (by omega)))
end Go.Proofs.Ytndhiaommphegaa

