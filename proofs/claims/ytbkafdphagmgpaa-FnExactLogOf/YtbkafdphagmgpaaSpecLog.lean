/- What the model of LogOf answers, for every bus and kind. -/
import Derived.Test.YtbkafdphagmgpaaSpecPeek
import Derived.Maps.AppendAt
import Derived.Laws.AppendOwnNone
namespace Go.Proofs.Ytbkafdphagmgpaa
open Go.RowKit
set_option linter.unusedVariables false
namespace Pl
def acc5 (ys : List Int) (i : Nat) : List Int := [el ys (i * 5), el ys (i * 5 + 1), el ys (i * 5 + 2), el ys (i * 5 + 3), el ys (i * 5 + 4)]
def ofK (ys : List Int) (k : Int) : Nat → List Int
  | 0 => []
  | n + 1 => if el ys (n * 5) = k then ofK ys k n ++ acc5 ys n else ofK ys k n
def cntK (ys : List Int) (k : Int) : Nat → Nat
  | 0 => 0
  | n + 1 => if el ys (n * 5) = k then cntK ys k n + 1 else cntK ys k n
theorem ofK_len (ys : List Int) (k : Int) (n : Nat) : (ofK ys k n).length = 5 * cntK ys k n := by
  induction n with
  | zero => rfl
  | succ n ih =>
    unfold ofK cntK
    split
    · simp [ih, acc5]; omega
    · exact ih
theorem cntK_le (ys : List Int) (k : Int) (n : Nat) : cntK ys k n ≤ n := by
  induction n with
  | zero => exact Nat.le_refl _
  | succ n ih => unfold cntK; split <;> omega
def logOk (xs ys : List Int) (m : Nat) (k : Int) : Bool := goodBus xs ys m && accKind k
def logL (xs ys : List Int) (m : Nat) (k : Int) : List Int := if logOk xs ys m k = true then ofK ys k m else []
def logN (xs ys : List Int) (m : Nat) (k : Int) : Nat := if logOk xs ys m k = true then cntK ys k m else 0
end Pl

theorem own_base0 {w : World} {base base' : Nat} {e : TypeId} {size : Nat} {v : Value} {n : Nat} {xs : List Value} (h : w.ownsRow base e size v n xs) (hb : base' ≤ base) : w.ownsRow base' e size v n xs := by
  refine ⟨h.1, ?_⟩
  rcases h.2 with h' | ⟨g, cap, cur, rfl, hg, rest⟩
  · exact .inl h'
  · exact .inr ⟨g, cap, cur, rfl, by omega, rest⟩
theorem cell_five_new (w : World) (o : Obj) (a b c d e : Value) (ty : TypeId) : ∀ j u, [a, b, c, d, e][j]? = some u → ((w.alloc o).alloc (.cells #[a, b, c, d, e] ty)).cell? ((⟨w.heap.size + 1, 0, none⟩ : Addr).add j) = some u := by
  intro j u hu
  have h : Blk ((w.alloc o).alloc (.cells #[a, b, c, d, e] ty)) (w.heap.size + 1) #[a, b, c, d, e] ty := by
    have h := Blk.new (w.alloc o) #[a, b, c, d, e] ty
    simpa only [World.size_alloc] using h
  have hc := h.cell (i := j) (v := u) (by simpa using hu)
  by_cases h0 : j = 0
  · subst h0; simpa [Addr.add] using hc
  · simpa [Addr.add, h0] using hc

set_option maxHeartbeats 4000000 in
theorem specLogOf_good (w : World) (a b : Option Addr) (ca cb m : Nat) (xs ys : List Int) (q : Int) (ha : IRow w a xs) (hb : IRow w b ys) (lx : xs.length ≤ 2000000) (ly : ys.length = 5 * m) (bm : m ≤ 2000000) (hg : Pl.goodBus xs ys m = true) (hq : Pl.accKind q = true) :
    Calls Try.prog 28 #[.agg #[.slice a xs.length ca, .slice b m cb], .int .i64 q] w fun e w' => ∃ v, e = .returned (.tuple #[v, .bool true]) ∧ w'.ownsRow w.heap.size 61 5 v (Pl.cntK ys q m) ((Pl.ofK ys q m).map (Value.int .i64)) ∧ Kept 0 0 w w' := by
  obtain ⟨i, hi, hz0, hz1, hz2⟩ := info_parts Try.infoAcc
  have HA := hide ha
  have HB := hide hb
  have HY := hide ly
  have HG := hide hg
  have kq : (decide ((1 : Int) ≤ q) && decide (q ≤ 3)) = true := hq
  clear ha hb ly hg hq
  have HK0 := hide (kept_alloc w (.cells #[.slice a xs.length ca, .slice b m cb] 25))
  have HW := hide (Blk.new w #[.slice a xs.length ca, .slice b m cb] 25)
  go_enter Try.func28, Try.ntmps28
  go_wp2_with fail
  refine (specGoodBus _ a b ca cb m xs ys (HA.out.keptS HK0.out) (HB.out.keptS HK0.out) lx HY.out bm).mono ?_
  rintro e w1 ⟨rfl, k1⟩
  rw [HG.out]
  have W1 := hide (HW.out.kept0 k1)
  have K1 := hide (HK0.out.trans k1)
  have z1 := W1.out.cell (i := 1) rfl
  clear k1
  go_wp2_with fail
  refine (l1In _ _ _ _).mono ?_
  rintro e w2 ⟨rfl, rfl⟩
  go_wp2_with fail
  have hw2 := K1.out.size
  go_loopw [6, 8, 20] (fun v _ j wr => ∃ k : Nat, k ≤ m ∧ j = .int .i64 k ∧ wr.ownsRow w2.heap.size 61 5 v (Pl.cntK ys q k) ((Pl.ofK ys q k).map (Value.int .i64)) ∧ w2.grownBy wr none) (fun _ _ j _ => m - (intOf j).toNat)
  case atStart => exact ⟨0, Nat.zero_le _, rfl, World.ownsRow_nil _ _ _ _, World.grownBy.refl _ _⟩
  case round =>
    obtain ⟨k, hk, rfl, hown, hgr⟩ := hrel
    have HR := hide hgr
    have HO := hide hown
    have hck := Pl.cntK_le ys q k
    clear hown hgr
    by_cases hlt : k < m
    · obtain ⟨g1, o1, rfl, p0, p1, p2, p3, p4⟩ := (HB.out.keptS (K1.out.trans (kept_grown HR.out))).five HY.out hlt
      by_cases he : el ys (k * 5) = q
      · have he2 : decide (el ys (k * 5) = q) = true := by simpa using he
        go_wp2_with (at_builtin; refine wpList_append_own _ rfl _ _ 23 rfl w2.heap.size 61 i (.agg #[.int .i64 0, .int .i64 0, .int .i64 0, .int .i64 0, .int .i64 0]) 5 40 Try.underlying23 hi hz0 hz1 hz2 rfl (by decide) _ _ _ rfl ((HO.out.alloc _).alloc _) ⟨wr.heap.size + 1, 0, none⟩ 1 1 [.int .i64 q, .int .i64 (el ys (k * 5 + 1)), .int .i64 (el ys (k * 5 + 2)), .int .i64 (el ys (k * 5 + 3)), .int .i64 (el ys (k * 5 + 4))] rfl rfl ?c1 ?c2 ?c3 ?c4 ?c5 ?_)
        case c1 => exact cell_five_new _ _ _ _ _ _ _ _
        case c2 => intro u hu; simp at hu; rcases hu with rfl | rfl | rfl | rfl | rfl <;> rfl
        case c3 => unfold maxLen; omega
        case c4 => omega
        case c5 => have := HR.out.size; simp; omega
        intro v' w3 hown' hgrow _
        clear p0 p1 p2 p3 p4
        go_wp2_with fail
        go_roundw
        case rel =>
          have hl := HO.out.lt
          exact ⟨k + 1, by omega, by go_num, by
            unfold Pl.cntK Pl.ofK
            rw [if_pos he, if_pos he, List.map_append]
            have e5 : (Pl.acc5 ys k).map (Value.int .i64) = [.int .i64 q, .int .i64 (el ys (k * 5 + 1)), .int .i64 (el ys (k * 5 + 2)), .int .i64 (el ys (k * 5 + 3)), .int .i64 (el ys (k * 5 + 4))] := by rw [← he]; rfl
            rw [e5]; exact hown', grown_new (grownBy_alloc (grownBy_alloc HR.out _) _) hgrow (fun j hj => (hl j hj).1)⟩
        case measure => simp [intOf]; omega
      · have he2 : decide (el ys (k * 5) = q) = false := by simpa using he
        go_wp2_with fail
        go_roundw
        case rel => exact ⟨k + 1, by omega, by go_num, by unfold Pl.cntK Pl.ofK; rw [if_neg he, if_neg he]; exact HO.out.alloc _, grownBy_alloc HR.out _⟩
        case measure => simp [intOf]; omega
    · obtain rfl : k = m := by omega
      go_wp2_with fail
      go_ret2
      exact ⟨_, rfl, own_base0 HO.out hw2, K1.out.trans (kept_grown HR.out)⟩

theorem slotIn_of_row5 {w : World} {base n : Nat} {v : Value} {xs : List Int} (h : w.ownsRow base 61 5 v n (xs.map (Value.int .i64))) : ∃ (b : Option Addr) (cb : Nat), v = .slice b n cb ∧ SlotIn w base w.heap.size b xs := by
  rcases h.2 with ⟨e, e0⟩ | ⟨g, cap, cur, e, hb, hr⟩
  · subst e e0
    have h1 := h.1
    simp at h1
    exact ⟨none, 0, rfl, .inl ⟨rfl, h1⟩⟩
  · subst e
    exact ⟨some ⟨g, 0, none⟩, cap, rfl, .inr ⟨g, rfl, hb, (h.lt g rfl).2, own_of_row5 h⟩⟩

theorem specLogOf_bad (w : World) (a b : Option Addr) (ca cb m : Nat) (xs ys : List Int) (q : Int) (ha : IRow w a xs) (hb : IRow w b ys) (lx : xs.length ≤ 2000000) (ly : ys.length = 5 * m) (bm : m ≤ 2000000) (hg : Pl.goodBus xs ys m = false) :
    Calls Try.prog 28 #[.agg #[.slice a xs.length ca, .slice b m cb], .int .i64 q] w fun e w' => e = .returned (.tuple #[.slice none 0 0, .bool false]) ∧ Kept 0 0 w w' := by
  have HK0 := hide (kept_alloc w (.cells #[.slice a xs.length ca, .slice b m cb] 25))
  have HA := hide ha
  have HB := hide hb
  clear ha hb
  go_enter Try.func28, Try.ntmps28
  go_wp2_with fail
  refine (specGoodBus _ a b ca cb m xs ys (HA.out.keptS HK0.out) (HB.out.keptS HK0.out) lx ly bm).mono ?_
  rintro e w1 ⟨rfl, k1⟩
  rw [hg]
  have K1 := hide (HK0.out.trans k1)
  clear k1
  go_wp2_with fail
  go_ret2
  exact ⟨rfl, K1.out⟩

theorem specLogOf_kind (w : World) (a b : Option Addr) (ca cb m : Nat) (xs ys : List Int) (q : Int) (ha : IRow w a xs) (hb : IRow w b ys) (lx : xs.length ≤ 2000000) (ly : ys.length = 5 * m) (bm : m ≤ 2000000) (hg : Pl.goodBus xs ys m = true) (hq : Pl.accKind q = false) :
    Calls Try.prog 28 #[.agg #[.slice a xs.length ca, .slice b m cb], .int .i64 q] w fun e w' => e = .returned (.tuple #[.slice none 0 0, .bool false]) ∧ Kept 0 0 w w' := by
  have HK0 := hide (kept_alloc w (.cells #[.slice a xs.length ca, .slice b m cb] 25))
  have kq : (decide ((1 : Int) ≤ q) && decide (q ≤ 3)) = false := hq
  have HA := hide ha
  have HB := hide hb
  clear ha hb hq
  go_enter Try.func28, Try.ntmps28
  go_wp2_with fail
  refine (specGoodBus _ a b ca cb m xs ys (HA.out.keptS HK0.out) (HB.out.keptS HK0.out) lx ly bm).mono ?_
  rintro e w1 ⟨rfl, k1⟩
  rw [hg]
  have K1 := hide (HK0.out.trans k1)
  clear k1
  go_wp2_with fail
  refine (l1In _ _ _ _).mono ?_
  rintro e w2 ⟨rfl, rfl⟩
  rw [kq]
  go_wp2_with fail
  go_ret2
  exact ⟨rfl, K1.out⟩

theorem specLogOf (w : World) (a b : Option Addr) (ca cb m : Nat) (xs ys : List Int) (q : Int) (ha : IRow w a xs) (hb : IRow w b ys) (lx : xs.length ≤ 2000000) (ly : ys.length = 5 * m) (bm : m ≤ 2000000) :
    Calls Try.prog 28 #[.agg #[.slice a xs.length ca, .slice b m cb], .int .i64 q] w fun e w' => ∃ (d : Option Addr) (cd : Nat), e = .returned (.tuple #[.slice d (Pl.logN xs ys m q) cd, .bool (Pl.logOk xs ys m q)]) ∧ SlotIn w' w.heap.size w'.heap.size d (Pl.logL xs ys m q) ∧ Kept 0 0 w w' := by
  cases hg : Pl.goodBus xs ys m
  · refine (specLogOf_bad w a b ca cb m xs ys q ha hb lx ly bm hg).mono ?_
    rintro e w' ⟨rfl, k⟩
    have e : Pl.logOk xs ys m q = false := by simp [Pl.logOk, hg]
    exact ⟨none, 0, by simp [Pl.logN, e], .inl ⟨rfl, by simp [Pl.logL, e]⟩, k⟩
  · cases hq : Pl.accKind q
    · refine (specLogOf_kind w a b ca cb m xs ys q ha hb lx ly bm hg hq).mono ?_
      rintro e w' ⟨rfl, k⟩
      have e : Pl.logOk xs ys m q = false := by simp [Pl.logOk, hq]
      exact ⟨none, 0, by simp [Pl.logN, e], .inl ⟨rfl, by simp [Pl.logL, e]⟩, k⟩
    · refine (specLogOf_good w a b ca cb m xs ys q ha hb lx ly bm hg hq).mono ?_
      rintro e w' ⟨v, rfl, ho, k⟩
      have e : Pl.logOk xs ys m q = true := by simp [Pl.logOk, hg, hq]
      obtain ⟨d, cd, rfl, hs⟩ := slotIn_of_row5 ho
      exact ⟨d, cd, by simp [Pl.logN, e], by simpa [Pl.logL, e] using hs, k⟩
theorem logL_len (xs ys : List Int) (m : Nat) (q : Int) : (Pl.logL xs ys m q).length = 5 * Pl.logN xs ys m q := by
  unfold Pl.logL Pl.logN
  split
  · exact Pl.ofK_len _ _ _
  · rfl
theorem logN_le (xs ys : List Int) (m : Nat) (q : Int) : Pl.logN xs ys m q ≤ m := by
  unfold Pl.logN
  split
  · exact Pl.cntK_le _ _ _
  · exact Nat.zero_le _
end Go.Proofs.Ytbkafdphagmgpaa
