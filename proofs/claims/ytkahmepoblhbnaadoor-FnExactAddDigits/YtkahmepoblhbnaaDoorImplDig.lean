/- What the program's AddDigits answers for every two lists, where the table of sums holds what the program's text lays. -/
import Derived.Test.YtkahmepoblhbnaaDoorTabs
import Derived.Test.YtkahmepoblhbnaaDoorDigits
import Derived.Test.YtkahmepoblhbnaaDoorLists
namespace Go.Proofs.YtkahmepoblhbnaaDoor
open Go.RowKit
set_option linter.unusedVariables false

theorem TabS.kept {w w' : World} (h : TabS w) (hg : w.grownBy w' none) : TabS w' := h.below (below_grown0 (Below.refl _ _) hg)
theorem TabN.kept {w w' : World} (h : TabN w) (hg : w.grownBy w' none) : TabN w' := h.below (below_grown0 (Below.refl _ _) hg)

theorem dig_list {xs ys zs : List Int} (kn : Pl.digOk xs ys = true) (hl : zs.length = xs.length) (heq : ∀ i, i < xs.length → zs[i]?.getD 0 = Pl.dV xs ys i) : zs = Pl.digL xs ys := by
  rw [Pl.digL, if_pos kn]
  apply ext_of (by simpa using hl)
  intro i hi
  rw [heq i (by omega)]
  simp [show i < xs.length by omega]

/-- one digit more, written at its place -/
theorem dsummed {w wr : World} {xs ys zs : List Int} {k : Nat} {V : Int} (hlt : k < xs.length) (hl : zs.length = xs.length) (hown : Own wr w.heap.size zs) (heq : ∀ i, i < k → zs[i]?.getD 0 = Pl.dV xs ys i) (hV : Pl.dV xs ys k = V) (hg : w.grownBy wr none) :
    (zs.set k V).length = xs.length ∧ Own (wr.setCell ⟨w.heap.size, k, none⟩ (.int .i64 V)) w.heap.size (zs.set k V) ∧ (∀ i, i < k + 1 → (zs.set k V)[i]?.getD 0 = Pl.dV xs ys i) ∧ w.grownBy (wr.setCell ⟨w.heap.size, k, none⟩ (.int .i64 V)) none := by
  refine ⟨by simpa using hl, hown.set _, ?_, ?_⟩
  · intro i hi
    by_cases e : k = i
    · subst e; rw [hV]; simp [hl, hlt]
    · rw [List.getElem?_set_ne e]; exact heq i (by omega)
  · exact ⟨hg.os, hg.tape, hg.output, by simpa using hg.size, fun j hj hne => (Below.heap_setCell _ _ _ _ (by simp; omega)).trans (hg.block j hj hne)⟩

theorem addDigits_fits (w : World) (ht : TabS w) (a b : Option Addr) (ca cb : Nat) (xs ys : List Int) (ha : IRow w a xs) (hb : IRow w b ys) (wa : Wide xs) (wb : Wide ys) (hf : xs.length = ys.length) (h1 : 1 ≤ xs.length) (h8 : xs.length ≤ 8) :
    Calls Tryd.prog 23 #[.slice a xs.length ca, .slice b ys.length cb] w fun e w' => ∃ v, e = .returned (.tuple #[v, .int .i64 (Pl.digC xs ys), .bool (Pl.digOk xs ys)]) ∧ Res w' w.heap.size v (Pl.digL xs ys) ∧ w.grownBy w' none := by
  obtain ⟨i, hi, hz0, hz1, hz2⟩ := info_parts Tryd.info3
  have kl : (((xs.length : Nat) : Int) != ((ys.length : Nat) : Int)) = false := by simp [hf]
  have HL : Hid (xs.length = ys.length) := hf
  have l2 : ys.length ≤ 8 := by omega
  clear hf
  go_enter Tryd.func23, Tryd.ntmps23
  go_wp2_with (first | (at_make; refine wpList_make_full _ rfl _ _ 32 rfl w.heap.size 3 i (.int .i64 0) 1 Tryd.underlying32 hi hz0 hz1 _ _ _ _ xs.length rfl rfl rfl rfl ?c1 ?c2 ?c3 ?_))
  case c1 => rw [hz2]; omega
  case c2 => unfold maxLen; omega
  case c3 => exact Nat.le_refl _
  intro w1 hown hg
  have ho : Own w1 w.heap.size (List.replicate xs.length 0) := own_of_row (base := w.heap.size) (n := xs.length) (cap := xs.length) (by
    have e : (madeCells #[Value.int .i64 0] xs.length).toList = (List.replicate xs.length (0 : Int)).map (Value.int .i64) := by
      rw [toList_madeCells_one]; simp
    rw [← e]; exact hown)
  have hs : w.heap.size < w1.heap.size := (hown.lt _ rfl).2
  clear hown
  go_wp2
  go_loopw [8, 33] (fun c j wr => ∃ (k : Nat) (zs : List Int), k ≤ xs.length ∧ j = .int .i64 k ∧ c = .int .i64 (Pl.dC xs ys k) ∧
      zs.length = xs.length ∧ Own wr w.heap.size zs ∧ (∀ i, i < k → zs[i]?.getD 0 = Pl.dV xs ys i) ∧ (∀ i, i < k → Pl.dO xs ys i = true) ∧ w.heap.size < wr.heap.size ∧ w.grownBy wr none) (fun _ j _ => xs.length - (intOf j).toNat)
  case atStart => exact ⟨0, _, Nat.zero_le _, rfl, rfl, by simp, ho, fun i hi => absurd hi (Nat.not_lt_zero i), fun i hi => absurd hi (Nat.not_lt_zero i), hs, hg⟩
  case round =>
    obtain ⟨k, zs, hk, rfl, rfl, hl, hown, heq, hok, hsz, hgr⟩ := hrel
    by_cases hlt : k < xs.length
    · obtain ⟨g1, o1, rfl, hc1⟩ := ha.kept hgr k hlt
      obtain ⟨g2, o2, rfl, hc2⟩ := hb.kept hgr k (by have := HL.out; omega)
      have ht1 := ht.kept hgr
      have wa1 := wa k hlt
      have wb1 := wb k (by have := HL.out; omega)
      obtain ⟨hc3, hf3⟩ := hown k (by omega)
      have hlt2 : k < ys.length := by have := HL.out; omega
      obtain ⟨cl, cu⟩ := Pl.dC_bd xs ys k
      generalize hx : xs[k]?.getD 0 = x at hc1 wa1
      generalize hy : ys[k]?.getD 0 = y at hc2 wb1
      generalize hC : Pl.dC xs ys k = C at cl cu
      have HX := hide hx
      have HY := hide hy
      have HC := hide hC
      have HZ := hide hl
      have HE := hide heq
      have HO := hide hok
      obtain ⟨xa, xb⟩ := wa1
      obtain ⟨ya, yb⟩ := wb1
      clear hx hy hC hl heq hok ha hb wa wb
      cases ko : Pl.two2 C x y
      · go_wp2
        go_quiet ((go_at_call 11; exact Calls.quiet_of_same (addBcd _ _ _ _ (ht1.drewN _) (by omega) (by omega) xa xb ya yb)))
        go_wp2
        go_ret3
        have kn : Pl.digOk xs ys = false := Pl.digOk_not hlt (by rw [Pl.dO_at HC.out HX.out HY.out]; exact ko)
        exact ⟨.slice none 0 0, rVIB (by simp [Pl.digC, kn]) kn.symm, .inl ⟨rfl, by simp [Pl.digL, kn]⟩, grownBy_drewN hgr _⟩
      · go_wp2
        go_quiet ((go_at_call 11; exact Calls.quiet_of_same (addBcd _ _ _ _ (ht1.drewN _) (by omega) (by omega) xa xb ya yb)))
        go_wp2
        go_roundw
        case rel =>
          have hV := Pl.dV_at HC.out HX.out HY.out
          obtain ⟨e1, e2, e3, e4⟩ := dsummed hlt HZ.out (hown.drewN nq) HE.out hV (grownBy_drewN hgr nq)
          exact ⟨k + 1, _, by omega, by go_num, by rw [Pl.dC_next HC.out HX.out HY.out], e1, e2, e3, snoc_all HO.out (by rw [Pl.dO_at HC.out HX.out HY.out]; exact ko), by simpa using hsz, e4⟩
        case measure => simp [intOf]; omega
    · obtain rfl : k = xs.length := by omega
      have HZ := hide hl
      have HE := hide heq
      have HO := hide hok
      clear hl heq hok ha hb wa wb
      go_wp2_with fail
      go_ret3
      have kn : Pl.digOk xs ys = true := Pl.digOk_of (by simp [Pl.dfits, HL.out.symm, h1, h8]) HO.out
      have eL : zs = Pl.digL xs ys := dig_list kn HZ.out HE.out
      refine ⟨.slice (some ⟨w.heap.size, 0, none⟩) xs.length xs.length, rVIB (by rw [Pl.digC, if_pos kn]) kn.symm, .inr ⟨w.heap.size, xs.length, ?_, Nat.le_refl _, hsz, by rw [← eL]; exact hown⟩, hgr⟩
      rw [← eL, HZ.out]

theorem addDigits_unfit (w : World) (a b : Option Addr) (ca cb : Nat) (xs ys : List Int) (lx : xs.length ≤ 2000000) (ly : ys.length ≤ 2000000) (h : ¬ (xs.length = ys.length ∧ 1 ≤ xs.length ∧ xs.length ≤ 8)) :
    Calls Tryd.prog 23 #[.slice a xs.length ca, .slice b ys.length cb] w fun e w' => ∃ v, e = .returned (.tuple #[v, .int .i64 (Pl.digC xs ys), .bool (Pl.digOk xs ys)]) ∧ Res w' w.heap.size v (Pl.digL xs ys) ∧ w.grownBy w' none := by
  have kn : Pl.digOk xs ys = false := by simp only [Pl.digOk, Pl.dfits, h, decide_false, Bool.false_and]
  have HK : Hid (Pl.digOk xs ys = false) := kn
  have HF : Hid (Pl.digC xs ys = 0) := hide (by simp [Pl.digC, kn])
  have HV : Hid (Pl.digL xs ys = []) := hide (by simp [Pl.digL, kn])
  clear kn
  by_cases hl : xs.length = ys.length
  · have kl : (((xs.length : Nat) : Int) != ((ys.length : Nat) : Int)) = false := by simp [hl]
    by_cases h1 : xs.length < 1
    · clear h hl
      go_enter Tryd.func23, Tryd.ntmps23
      go_wp2
      go_ret3
      exact ⟨.slice none 0 0, rVIB HF.out.symm HK.out.symm, .inl ⟨rfl, HV.out⟩, World.grownBy.refl _ _⟩
    · have h8 : 8 < xs.length := by omega
      clear h hl
      go_enter Tryd.func23, Tryd.ntmps23
      go_wp2
      go_ret3
      exact ⟨.slice none 0 0, rVIB HF.out.symm HK.out.symm, .inl ⟨rfl, HV.out⟩, World.grownBy.refl _ _⟩
  · have kl : (((xs.length : Nat) : Int) != ((ys.length : Nat) : Int)) = true := by rw [bne_iff_ne]; omega
    clear h hl
    go_enter Tryd.func23, Tryd.ntmps23
    go_wp2
    go_ret3
    exact ⟨.slice none 0 0, rVIB HF.out.symm HK.out.symm, .inl ⟨rfl, HV.out⟩, World.grownBy.refl _ _⟩

theorem addDigits (w : World) (ht : TabS w) (a b : Option Addr) (ca cb : Nat) (xs ys : List Int) (ha : IRow w a xs) (hb : IRow w b ys) (wa : Wide xs) (wb : Wide ys) (lx : xs.length ≤ 2000000) (ly : ys.length ≤ 2000000) :
    Calls Tryd.prog 23 #[.slice a xs.length ca, .slice b ys.length cb] w fun e w' => ∃ v, e = .returned (.tuple #[v, .int .i64 (Pl.digC xs ys), .bool (Pl.digOk xs ys)]) ∧ Res w' w.heap.size v (Pl.digL xs ys) ∧ w.grownBy w' none := by
  by_cases h : xs.length = ys.length ∧ 1 ≤ xs.length ∧ xs.length ≤ 8
  · exact addDigits_fits w ht a b ca cb xs ys ha hb wa wb h.1 h.2.1 h.2.2
  · exact addDigits_unfit w a b ca cb xs ys lx ly h

end Go.Proofs.YtkahmepoblhbnaaDoor
