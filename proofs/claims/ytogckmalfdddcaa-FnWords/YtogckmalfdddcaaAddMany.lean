/- What AddMany, and its model, answer for every two lists: one contract each. -/
import Derived.Test.YtogckmalfdddcaaMarks
import Derived.Test.YtogckmalfdddcaaMany
import Derived.Deep.QuietTactic
import Derived.BigQuiet
namespace Go.Proofs.Ytogckmalfdddcaa
open Go.RowKit
set_option linter.unusedVariables false

/-- a list that was answered: nil, or in a block of its own from 'base' on -/
def Res (w : World) (base : Nat) (v : Value) (xs : List Int) : Prop :=
  (v = .slice none 0 0 ∧ xs = []) ∨ ∃ g cap : Nat, v = .slice (some ⟨g, 0, none⟩) xs.length cap ∧ base ≤ g ∧ g < w.heap.size ∧ Own w g xs

def Wide (xs : List Int) : Prop := ∀ i : Nat, i < xs.length → -9223372036854775808 ≤ xs[i]?.getD 0 ∧ xs[i]?.getD 0 ≤ 9223372036854775807

theorem rVIB {v : Value} {a b : Int} {c d : Bool} (h : a = b) (k : c = d) : Ending.returned (.tuple #[v, .int .i64 a, .bool c]) = .returned (.tuple #[v, .int .i64 b, .bool d]) := by rw [h, k]
theorem grownBy_drewN {a b : World} {row : Option Nat} (h : a.grownBy b row) (n : Nat) : a.grownBy (b.drewN n) row := ⟨h.os, h.tape, h.output, h.size, h.block⟩
theorem Own.drewN {w : World} {g : Nat} {xs : List Int} (h : Own w g xs) (n : Nat) : Own (w.drewN n) g xs := h

theorem stF_next {s : Int} {xs ys : List Int} {k : Nat} {F x y : Int} (hF : Pl.stF s xs ys k = F) (hx : xs[k]?.getD 0 = x) (hy : ys[k]?.getD 0 = y) : Pl.stF s xs ys (k + 1) = Pl.addF s (bits .and .i64 F 1) x y := by
  rw [Pl.stF, hF, hx, hy]
theorem stV_at {s : Int} {xs ys : List Int} {k : Nat} {F x y : Int} (hF : Pl.stF s xs ys k = F) (hx : xs[k]?.getD 0 = x) (hy : ys[k]?.getD 0 = y) : Pl.stV s xs ys k = Pl.addV s (bits .and .i64 F 1) x y := by
  rw [Pl.stV, hF, hx, hy]
theorem stO_at {s : Int} {xs ys : List Int} {k : Nat} {F x y : Int} (hF : Pl.stF s xs ys k = F) (hx : xs[k]?.getD 0 = x) (hy : ys[k]?.getD 0 = y) : Pl.stO s xs ys k = Pl.two s (bits .and .i64 F 1) x y := by
  rw [Pl.stO, hF, hx, hy]

theorem many_list {s : Int} {xs ys zs : List Int} (kn : Pl.manyOk s xs ys = true) (hl : zs.length = xs.length) (heq : ∀ i, i < xs.length → zs[i]?.getD 0 = Pl.stV s xs ys i) : zs = Pl.manyL s xs ys := by
  rw [Pl.manyL, if_pos kn]
  apply ext_of (by simpa using hl)
  intro i hi
  rw [heq i (by omega)]
  simp [show i < xs.length by omega]

/-- one part more, written at its place -/
theorem summed {w wr : World} {s : Int} {xs ys zs : List Int} {k : Nat} {V : Int} (hlt : k < xs.length) (hl : zs.length = xs.length) (hown : Own wr w.heap.size zs) (heq : ∀ i, i < k → zs[i]?.getD 0 = Pl.stV s xs ys i) (hV : Pl.stV s xs ys k = V) (hg : w.grownBy wr none) :
    (zs.set k V).length = xs.length ∧ Own (wr.setCell ⟨w.heap.size, k, none⟩ (.int .i64 V)) w.heap.size (zs.set k V) ∧ (∀ i, i < k + 1 → (zs.set k V)[i]?.getD 0 = Pl.stV s xs ys i) ∧ w.grownBy (wr.setCell ⟨w.heap.size, k, none⟩ (.int .i64 V)) none := by
  refine ⟨by simpa using hl, hown.set _, ?_, ?_⟩
  · intro i hi
    by_cases e : k = i
    · subst e; rw [hV]; simp [hl, hlt]
    · rw [List.getElem?_set_ne e]; exact heq i (by omega)
  · exact ⟨hg.os, hg.tape, hg.output, by simpa using hg.size, fun j hj hne => (Below.heap_setCell _ _ _ _ (by simp; omega)).trans (hg.block j hj hne)⟩

theorem ones_next {s : Int} {xs ys : List Int} {k : Nat} {q V : Int} (q0 : 0 ≤ q) (q1 : q < 65536) (hq : (q == 0) = Pl.manyZ s xs ys k) (hV : Pl.stV s xs ys k = V) (v0 : 0 ≤ V) (v1 : V < 65536) :
    0 ≤ bits .or .i64 q V ∧ bits .or .i64 q V < 65536 ∧ (bits .or .i64 q V == 0) = Pl.manyZ s xs ys (k + 1) := by
  obtain ⟨b0, b1, b2⟩ := Pl.or_bd q0 q1 v0 v1
  refine ⟨b0, b1, ?_⟩
  rw [Pl.manyZ_succ, ← hq, hV, Bool.eq_iff_iff]
  simpa using b2

theorem addMany_fits (w : World) (s : Int) (a b : Option Addr) (ca cb : Nat) (xs ys : List Int) (ha : IRow w a xs) (hb : IRow w b ys) (wa : Wide xs) (wb : Wide ys) (hf : xs.length = ys.length) (h1 : 1 ≤ xs.length) (h8 : xs.length ≤ 8) :
    Calls Try.prog 25 #[.int .i64 s, .slice a xs.length ca, .slice b ys.length cb] w fun e w' => ∃ v, e = .returned (.tuple #[v, .int .i64 (Pl.manyF s xs ys), .bool (Pl.manyOk s xs ys)]) ∧ Res w' w.heap.size v (Pl.manyL s xs ys) ∧ w.grownBy w' none := by
  obtain ⟨i, hi, hz0, hz1, hz2⟩ := info_parts Try.info3
  have kl : (((xs.length : Nat) : Int) != ((ys.length : Nat) : Int)) = false := by simp [hf]
  have HL : Hid (xs.length = ys.length) := hf
  have l2 : ys.length ≤ 8 := by omega
  clear hf
  go_enter Try.func25, Try.ntmps25
  go_wp2_with (first | (at_make; refine wpList_make_full _ rfl _ _ 35 rfl w.heap.size 3 i (.int .i64 0) 1 Try.underlying35 hi hz0 hz1 _ _ _ _ xs.length rfl rfl rfl rfl ?c1 ?c2 ?c3 ?_))
  case c1 => rw [hz2]; omega
  case c2 => unfold maxLen; omega
  case c3 => exact Nat.le_refl _
  intro w1 hown hg
  have ho : Own w1 w.heap.size (List.replicate xs.length 0) := own_of_row (base := w.heap.size) (n := xs.length) (cap := xs.length) (by
    have e : (madeCells #[Value.int .i64 0] xs.length).toList = (List.replicate xs.length (0 : Int)).map (Value.int .i64) := by
      rw [toList_madeCells_one]; simp
    rw [← e]; exact hown)
  have hs : w.heap.size < w1.heap.size := (hown.lt _ rfl).2
  clear hown
  go_wp2
  go_loopw [10, 11, 36] (fun f o j wr => ∃ (k : Nat) (q : Int) (zs : List Int), k ≤ xs.length ∧ j = .int .i64 k ∧ f = .int .i64 (Pl.stF s xs ys k) ∧ o = .int .i64 q ∧ (0 ≤ q ∧ q < 65536 ∧ (q == 0) = Pl.manyZ s xs ys k) ∧
      zs.length = xs.length ∧ Own wr w.heap.size zs ∧ (∀ i, i < k → zs[i]?.getD 0 = Pl.stV s xs ys i) ∧ (∀ i, i < k → Pl.stO s xs ys i = true) ∧ w.heap.size < wr.heap.size ∧ w.grownBy wr none) (fun _ _ j _ => xs.length - (intOf j).toNat)
  case atStart => exact ⟨0, 0, _, Nat.zero_le _, rfl, rfl, rfl, ⟨by omega, by omega, rfl⟩, by simp, ho, fun i hi => absurd hi (Nat.not_lt_zero i), fun i hi => absurd hi (Nat.not_lt_zero i), hs, hg⟩
  case round =>
    obtain ⟨k, q, zs, hk, rfl, rfl, rfl, ⟨q0, q1, hq⟩, hl, hown, heq, hok, hsz, hgr⟩ := hrel
    by_cases hlt : k < xs.length
    · obtain ⟨g1, o1, rfl, hc1⟩ := ha.kept hgr k hlt
      obtain ⟨g2, o2, rfl, hc2⟩ := hb.kept hgr k (by have := HL.out; omega)
      have wa1 := wa k hlt
      have wb1 := wb k (by have := HL.out; omega)
      obtain ⟨hc3, hf3⟩ := hown k (by omega)
      have hlt2 : k < ys.length := by have := HL.out; omega
      generalize hx : xs[k]?.getD 0 = x at hc1 wa1
      generalize hy : ys[k]?.getD 0 = y at hc2 wb1
      generalize hF : Pl.stF s xs ys k = F
      have HX := hide hx
      have HY := hide hy
      have HF := hide hF
      have HQ := hide hq
      have HZ := hide hl
      have HE := hide heq
      have HO := hide hok
      obtain ⟨xa, xb⟩ := wa1
      obtain ⟨ya, yb⟩ := wb1
      clear hx hy hF hq hl heq hok ha hb wa wb
      cases ko : Pl.two s (bits .and .i64 F 1) x y
      · go_wp2
        go_quiet ((go_at_call 15; exact Calls.quiet_of_same (addFlags _ _ _ _ _ xa xb ya yb)))
        go_wp2
        go_ret3
        have kn : Pl.manyOk s xs ys = false := Pl.manyOk_not hlt (by rw [stO_at HF.out HX.out HY.out]; exact ko)
        exact ⟨.slice none 0 0, rVIB (by simp [Pl.manyF, kn]) kn.symm, .inl ⟨rfl, by simp [Pl.manyL, kn]⟩, grownBy_drewN hgr _⟩
      · have vb := Pl.addV_bd s (bits .and .i64 F 1) x y
        go_wp2
        go_quiet ((go_at_call 15; exact Calls.quiet_of_same (addFlags _ _ _ _ _ xa xb ya yb)))
        go_wp2
        go_roundw
        case rel =>
          have hV := stV_at HF.out HX.out HY.out
          obtain ⟨e1, e2, e3, e4⟩ := summed hlt HZ.out (hown.drewN nq) HE.out hV (grownBy_drewN hgr nq)
          exact ⟨k + 1, _, _, by omega, by go_num, by rw [stF_next HF.out HX.out HY.out], rfl, ones_next q0 q1 HQ.out hV vb.1 vb.2, e1, e2, e3, snoc_all HO.out (by rw [stO_at HF.out HX.out HY.out]; exact ko), by simpa using hsz, e4⟩
        case measure => simp [intOf]; omega
    · obtain rfl : k = xs.length := by omega
      have HQ := hide hq
      have HZ := hide hl
      have HE := hide heq
      have HO := hide hok
      clear hq hl heq hok ha hb wa wb
      go_wp2_with fail
      refine (flagsIf _ _ _).mono ?_
      rintro e w' ⟨rfl, rfl⟩
      go_wp2_with fail
      go_ret3
      have kn : Pl.manyOk s xs ys = true := Pl.manyOk_of (by simp [Pl.fits, HL.out.symm, h1, h8]) HO.out
      have eL : zs = Pl.manyL s xs ys := many_list kn HZ.out HE.out
      refine ⟨.slice (some ⟨w.heap.size, 0, none⟩) xs.length xs.length, rVIB (by rw [Pl.manyF, if_pos kn, ← HQ.out]) kn.symm, .inr ⟨w.heap.size, xs.length, ?_, Nat.le_refl _, hsz, by rw [← eL]; exact hown⟩, hgr⟩
      rw [← eL, HZ.out]

theorem addMany_unfit (w : World) (s : Int) (a b : Option Addr) (ca cb : Nat) (xs ys : List Int) (lx : xs.length ≤ 2000000) (ly : ys.length ≤ 2000000) (h : ¬ (xs.length = ys.length ∧ 1 ≤ xs.length ∧ xs.length ≤ 8)) :
    Calls Try.prog 25 #[.int .i64 s, .slice a xs.length ca, .slice b ys.length cb] w fun e w' => ∃ v, e = .returned (.tuple #[v, .int .i64 (Pl.manyF s xs ys), .bool (Pl.manyOk s xs ys)]) ∧ Res w' w.heap.size v (Pl.manyL s xs ys) ∧ w.grownBy w' none := by
  have kn : Pl.manyOk s xs ys = false := by simp only [Pl.manyOk, Pl.fits, h, decide_false, Bool.false_and]
  have HK : Hid (Pl.manyOk s xs ys = false) := kn
  have HF : Hid (Pl.manyF s xs ys = 0) := hide (by simp [Pl.manyF, kn])
  have HV : Hid (Pl.manyL s xs ys = []) := hide (by simp [Pl.manyL, kn])
  clear kn
  by_cases hl : xs.length = ys.length
  · have kl : (((xs.length : Nat) : Int) != ((ys.length : Nat) : Int)) = false := by simp [hl]
    by_cases h1 : xs.length < 1
    · clear h hl
      go_enter Try.func25, Try.ntmps25
      go_wp2
      go_ret3
      exact ⟨.slice none 0 0, rVIB HF.out.symm HK.out.symm, .inl ⟨rfl, HV.out⟩, World.grownBy.refl _ _⟩
    · have h8 : 8 < xs.length := by omega
      clear h hl
      go_enter Try.func25, Try.ntmps25
      go_wp2
      go_ret3
      exact ⟨.slice none 0 0, rVIB HF.out.symm HK.out.symm, .inl ⟨rfl, HV.out⟩, World.grownBy.refl _ _⟩
  · have kl : (((xs.length : Nat) : Int) != ((ys.length : Nat) : Int)) = true := by rw [bne_iff_ne]; omega
    clear h hl
    go_enter Try.func25, Try.ntmps25
    go_wp2
    go_ret3
    exact ⟨.slice none 0 0, rVIB HF.out.symm HK.out.symm, .inl ⟨rfl, HV.out⟩, World.grownBy.refl _ _⟩

theorem addMany (w : World) (s : Int) (a b : Option Addr) (ca cb : Nat) (xs ys : List Int) (ha : IRow w a xs) (hb : IRow w b ys) (wa : Wide xs) (wb : Wide ys) (lx : xs.length ≤ 2000000) (ly : ys.length ≤ 2000000) :
    Calls Try.prog 25 #[.int .i64 s, .slice a xs.length ca, .slice b ys.length cb] w fun e w' => ∃ v, e = .returned (.tuple #[v, .int .i64 (Pl.manyF s xs ys), .bool (Pl.manyOk s xs ys)]) ∧ Res w' w.heap.size v (Pl.manyL s xs ys) ∧ w.grownBy w' none := by
  by_cases h : xs.length = ys.length ∧ 1 ≤ xs.length ∧ xs.length ≤ 8
  · exact addMany_fits w s a b ca cb xs ys ha hb wa wb h.1 h.2.1 h.2.2
  · exact addMany_unfit w s a b ca cb xs ys lx ly h

end Go.Proofs.Ytogckmalfdddcaa
