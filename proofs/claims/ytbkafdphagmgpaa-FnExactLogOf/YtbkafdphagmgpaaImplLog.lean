/- What the program's LogOf answers, for every bus and kind. -/
import Derived.Test.YtbkafdphagmgpaaSpecLog
import Derived.Test.YtbkafdphagmgpaaImplGood
namespace Go.Proofs.Ytbkafdphagmgpaa
open Go.RowKit
set_option linter.unusedVariables false

set_option maxHeartbeats 4000000 in
theorem logOf_good (w : World) (a b : Option Addr) (ca cb m : Nat) (xs ys : List Int) (q : Int) (ha : Came w a xs) (hb : Came w b ys) (lx : xs.length ≤ 2000000) (ly : ys.length = 5 * m) (bm : m ≤ 2000000) (hg : Pl.goodBus xs ys m = true) (hq : Pl.accKind q = true) :
    Calls Try.prog 29 #[.agg #[.slice a xs.length ca, .slice b m cb], .int .i64 q] w fun e w' => ∃ v, e = .returned (.tuple #[v, .bool true]) ∧ w'.ownsRow w.heap.size 61 5 v (Pl.cntK ys q m) ((Pl.ofK ys q m).map (Value.int .i64)) ∧ Kept 0 0 w w' := by
  obtain ⟨i, hi, hz0, hz1, hz2⟩ := info_parts Try.infoAcc
  have HA := hide ha
  have HB := hide hb
  have HY := hide ly
  have HG := hide hg
  have kq := hq
  clear ha hb ly hg hq
  have HK0 := hide (kept_alloc w (.cells #[.slice a xs.length ca, .slice b m cb] 25))
  have HW := hide (Blk.new w #[.slice a xs.length ca, .slice b m cb] 25)
  go_enter Try.func29, Try.ntmps29
  go_wp2_with fail
  refine (goodBus _ a b ca cb m xs ys (HA.out.keptS HK0.out) (HB.out.keptS HK0.out) lx HY.out bm).mono ?_
  rintro e w1 ⟨rfl, k1⟩
  rw [HG.out]
  have W1 := hide (HW.out.kept0 k1)
  have K1 := hide (HK0.out.trans k1)
  have z1 := W1.out.cell (i := 1) rfl
  clear k1
  go_wp2_with fail
  refine (isAccessKind _ _).mono ?_
  rintro e w2 ⟨rfl, rfl⟩
  rw [kq]
  go_wp2_with fail
  have hw2 := K1.out.size
  go_loopw [6, 8, 20] (fun v _ j wr => ∃ k : Nat, k ≤ m ∧ j = .int .i64 k ∧ wr.ownsRow w2.heap.size 61 5 v (Pl.cntK ys q k) ((Pl.ofK ys q k).map (Value.int .i64)) ∧ w2.grownBy wr none) (fun _ _ j _ => m - (intOf j).toNat)
  case atStart => exact ⟨0, Nat.zero_le _, rfl, World.ownsRow_nil _ _ _ _, World.grownBy.refl _ _⟩
  case round =>
    obtain ⟨k, hk, rfl, hown, hgr⟩ := hrel
    have HR := hide hgr
    have HO := hide hown
    have hck := Pl.cntK_le ys q k
    clear hown hgr
    by_cases hlt : k < m
    · obtain ⟨g1, o1, rfl, p0, p1, p2, p3, p4⟩ := (HB.out.keptS (K1.out.trans (kept_grown HR.out))).1.five HY.out hlt
      by_cases he : el ys (k * 5) = q
      · have he2 : decide (el ys (k * 5) = q) = true := by simpa using he
        go_wp2_with (at_builtin; refine wpList_append_own _ rfl _ _ 23 rfl w2.heap.size 61 i (.agg #[.int .i64 0, .int .i64 0, .int .i64 0, .int .i64 0, .int .i64 0]) 5 40 Try.underlying23 hi hz0 hz1 hz2 rfl (by decide) _ _ _ rfl ((HO.out.alloc _).alloc _) ⟨wr.heap.size + 1, 0, none⟩ 1 1 [.int .i64 q, .int .i64 (el ys (k * 5 + 1)), .int .i64 (el ys (k * 5 + 2)), .int .i64 (el ys (k * 5 + 3)), .int .i64 (el ys (k * 5 + 4))] rfl rfl ?c1 ?c2 ?c3 ?c4 ?c5 ?_)
        case c1 => exact cell_five_new _ _ _ _ _ _ _ _
        case c2 => intro u hu; simp at hu; rcases hu with rfl | rfl | rfl | rfl | rfl <;> rfl
        case c3 => unfold maxLen; omega
        case c4 => omega
        case c5 => have := HR.out.size; simp; omega
        intro v' w3 hown' hgrow _
        clear p0 p1 p2 p3 p4
        go_wp2_with fail
        go_roundw
        case rel =>
          have hl := HO.out.lt
          exact ⟨k + 1, by omega, by go_num, by
            unfold Pl.cntK Pl.ofK
            rw [if_pos he, if_pos he, List.map_append]
            have e5 : (Pl.acc5 ys k).map (Value.int .i64) = [.int .i64 q, .int .i64 (el ys (k * 5 + 1)), .int .i64 (el ys (k * 5 + 2)), .int .i64 (el ys (k * 5 + 3)), .int .i64 (el ys (k * 5 + 4))] := by rw [← he]; rfl
            rw [e5]; exact hown', grown_new (grownBy_alloc (grownBy_alloc HR.out _) _) hgrow (fun j hj => (hl j hj).1)⟩
        case measure => simp [intOf]; omega
      · have he2 : decide (el ys (k * 5) = q) = false := by simpa using he
        go_wp2_with fail
        go_roundw
        case rel => exact ⟨k + 1, by omega, by go_num, by unfold Pl.cntK Pl.ofK; rw [if_neg he, if_neg he]; exact HO.out.alloc _, grownBy_alloc HR.out _⟩
        case measure => simp [intOf]; omega
    · obtain rfl : k = m := by omega
      go_wp2_with fail
      go_ret2
      exact ⟨_, rfl, own_base0 HO.out hw2, K1.out.trans (kept_grown HR.out)⟩

theorem logOf_bad (w : World) (a b : Option Addr) (ca cb m : Nat) (xs ys : List Int) (q : Int) (ha : Came w a xs) (hb : Came w b ys) (lx : xs.length ≤ 2000000) (ly : ys.length = 5 * m) (bm : m ≤ 2000000) (hg : Pl.goodBus xs ys m = false) :
    Calls Try.prog 29 #[.agg #[.slice a xs.length ca, .slice b m cb], .int .i64 q] w fun e w' => e = .returned (.tuple #[.slice none 0 0, .bool false]) ∧ Kept 0 0 w w' := by
  have HK0 := hide (kept_alloc w (.cells #[.slice a xs.length ca, .slice b m cb] 25))
  have HA := hide ha
  have HB := hide hb
  clear ha hb
  go_enter Try.func29, Try.ntmps29
  go_wp2_with fail
  refine (goodBus _ a b ca cb m xs ys (HA.out.keptS HK0.out) (HB.out.keptS HK0.out) lx ly bm).mono ?_
  rintro e w1 ⟨rfl, k1⟩
  rw [hg]
  have K1 := hide (HK0.out.trans k1)
  clear k1
  go_wp2_with fail
  go_ret2
  exact ⟨rfl, K1.out⟩

theorem logOf_kind (w : World) (a b : Option Addr) (ca cb m : Nat) (xs ys : List Int) (q : Int) (ha : Came w a xs) (hb : Came w b ys) (lx : xs.length ≤ 2000000) (ly : ys.length = 5 * m) (bm : m ≤ 2000000) (hg : Pl.goodBus xs ys m = true) (hq : Pl.accKind q = false) :
    Calls Try.prog 29 #[.agg #[.slice a xs.length ca, .slice b m cb], .int .i64 q] w fun e w' => e = .returned (.tuple #[.slice none 0 0, .bool false]) ∧ Kept 0 0 w w' := by
  have HK0 := hide (kept_alloc w (.cells #[.slice a xs.length ca, .slice b m cb] 25))
  have kq := hq
  have HA := hide ha
  have HB := hide hb
  clear ha hb hq
  go_enter Try.func29, Try.ntmps29
  go_wp2_with fail
  refine (goodBus _ a b ca cb m xs ys (HA.out.keptS HK0.out) (HB.out.keptS HK0.out) lx ly bm).mono ?_
  rintro e w1 ⟨rfl, k1⟩
  rw [hg]
  have K1 := hide (HK0.out.trans k1)
  clear k1
  go_wp2_with fail
  refine (isAccessKind _ _).mono ?_
  rintro e w2 ⟨rfl, rfl⟩
  rw [kq]
  go_wp2_with fail
  go_ret2
  exact ⟨rfl, K1.out⟩

theorem logOf (w : World) (a b : Option Addr) (ca cb m : Nat) (xs ys : List Int) (q : Int) (ha : Came w a xs) (hb : Came w b ys) (lx : xs.length ≤ 2000000) (ly : ys.length = 5 * m) (bm : m ≤ 2000000) (wf : (Lit.int .i64 q).wf = true) :
    Calls Try.prog 29 #[.agg #[.slice a xs.length ca, .slice b m cb], .int .i64 q] w fun e w' => ∃ (d : Option Addr) (cd : Nat), e = .returned (.tuple #[.slice d (Pl.logN xs ys m q) cd, .bool (Pl.logOk xs ys m q)]) ∧ SlotIn w' w.heap.size w'.heap.size d (Pl.logL xs ys m q) ∧ Kept 0 0 w w' := by
  cases hg : Pl.goodBus xs ys m
  · refine (logOf_bad w a b ca cb m xs ys q ha hb lx ly bm hg).mono ?_
    rintro e w' ⟨rfl, k⟩
    have e : Pl.logOk xs ys m q = false := by simp [Pl.logOk, hg]
    exact ⟨none, 0, by simp [Pl.logN, e], .inl ⟨rfl, by simp [Pl.logL, e]⟩, k⟩
  · cases hq : Pl.accKind q
    · refine (logOf_kind w a b ca cb m xs ys q ha hb lx ly bm hg hq).mono ?_
      rintro e w' ⟨rfl, k⟩
      have e : Pl.logOk xs ys m q = false := by simp [Pl.logOk, hq]
      exact ⟨none, 0, by simp [Pl.logN, e], .inl ⟨rfl, by simp [Pl.logL, e]⟩, k⟩
    · refine (logOf_good w a b ca cb m xs ys q ha hb lx ly bm hg hq).mono ?_
      rintro e w' ⟨v, rfl, ho, k⟩
      have e : Pl.logOk xs ys m q = true := by simp [Pl.logOk, hg, hq]
      obtain ⟨d, cd, rfl, hs⟩ := slotIn_of_row5 ho
      exact ⟨d, cd, by simp [Pl.logN, e], by simpa [Pl.logL, e] using hs, k⟩
end Go.Proofs.Ytbkafdphagmgpaa
