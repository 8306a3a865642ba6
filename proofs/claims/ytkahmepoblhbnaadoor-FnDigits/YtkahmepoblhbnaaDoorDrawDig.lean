/- What the model's draw of two lists of decimal bytes answers, of whatever bytes: two lists of at most nine values each, in blocks of their own; no block that was there has turned. -/
import Derived.Test.YtkahmepoblhbnaaDoorDrawBcd
namespace Go.Proofs.YtkahmepoblhbnaaDoor
open Go.RowKit
set_option linter.unusedVariables false

theorem drawAddDigits (w : World) (a : Option Addr) (len cap : Nat) (h : Bytes w a len) :
    Calls Tryd.prog 22 #[.slice a len cap] w fun e w' => ∃ (va vb : Value) (xs ys : List Int), e = .returned (.tuple #[va, vb]) ∧ Twin w.heap.size w' va vb xs ys ∧ Small xs ∧ Small ys ∧ xs.length ≤ 9 ∧ ys.length ≤ 9 ∧ Below w.heap.size w w' := by
  obtain ⟨i, hi, hz0, hz1, hz2⟩ := info_parts Tryd.info3
  have hA : ∀ g off, 0 < len → a = some ⟨g, off, none⟩ → g < w.heap.size := by
    intro g off hl ea
    obtain ⟨g', off', z, ea', hc, _⟩ := h.2 0 hl
    rw [ea] at ea'
    cases ea'
    exact World.block_lt_of_cell? _ _ hc
  go_enter Tryd.func22, Tryd.ntmps22
  go_wp2_with fail
  refine (pick _ _ a len cap 0 3 (h.cur cap) (by omega) (by omega) (by omega) (by omega)).mono ?_
  rintro e w2 ⟨n1, rfl, n10, n11, hg2, q2, q20, q21, hc2⟩
  go_wp2_with fail
  refine (one _ _ a len cap q2 20 hc2 (by omega) (by omega) (by omega) (by omega)).mono ?_
  rintro e w3 ⟨big, rfl, hg3, q3, q30, q31, hc3⟩
  have hb3 := below_of (grownBy_trans hg2 hg3)
  cases big
  · go_wp2_with fail
    go_loopw [5, 6, 7] (fun va vb n wr => ∃ (k : Nat) (xs ys : List Int) (q : Int), n = .int .i64 k ∧ xs.length + k ≤ 9 ∧ ys.length + k ≤ 9 ∧ Twin w.heap.size wr va vb xs ys ∧ Small xs ∧ Small ys ∧ 0 ≤ q ∧ q + 10 * (k : Int) ≤ 300 ∧ Cur wr w.heap.size a len cap q ∧ Below w.heap.size w wr) (fun _ _ n _ => (intOf n).toNat)
    case atStart => exact ⟨(1 + n1).toNat, [], [], q3, by rw [Int.toNat_of_nonneg (by omega)], by simp; omega, by simp; omega, ⟨World.ownsRow_nil _ _ _ _, World.ownsRow_nil _ _ _ _, .inl rfl⟩, by intro x hx; simp at hx, by intro x hx; simp at hx, by omega, by omega, hc3, hb3⟩
    case round =>
      obtain ⟨k, xs, ys, q, rfl, lx, ly, tw, sx, sy, q0, qk, hc, hb⟩ := hrel
      by_cases hk : 0 < k
      · go_wp2_with fail
        refine (pick _ _ a len cap q 100 hc (by omega) (by omega) (by omega) (by omega)).mono ?_
        rintro e w5 ⟨n5, rfl, n50, n51, hg5, q5, q50, q51, hc5⟩
        have tw5 := tw.cur hg5
        have hb5 := hb.grown hg5 hb.size (by intro j hj; cases hj; omega)
        clear tw hg5 hb hc
        go_wp2_with fail
        refine (l2Of n5 _ n50 (by omega)).mono ?_
        rintro e wt ⟨rfl, rfl⟩
        have ub := Pl.ofN_bd n50 (show n5 ≤ 99 by omega)
        generalize Pl.ofN n5 = u at *
        have u0 : -1 ≤ u := by omega
        have u1 : u ≤ 65536 := by omega
        go_wp2_with (at_builtin; refine wpList_append_own_at _ rfl _ _ 32 rfl (w.heap.size + 1) 3 i (.int .i64 0) 1 8 Tryd.underlying32 hi hz0 hz1 hz2 rfl (by decide) _ _ _ rfl (tw5.alloc _).oa ⟨wt.heap.size, 0, none⟩ 1 1 [.int .i64 u] rfl rfl ?c1 ?c2 ?c3 ?c4 ?c5 ?_)
        case c1 => exact cell_one_new _ _ _
        case c2 => intro u hu; simp at hu; subst hu; rfl
        case c3 => unfold maxLen; omega
        case c4 => omega
        case c5 => have := hc5.lt; simp; omega
        intro v6 w6 hown6 hg6 _ hat6
        have tw6 := (tw5.alloc _).pushA hown6 hg6 (by rw [World.size_alloc]; exact hat6)
        have ro6 : ∀ j, Value.ownBlock _ = some j → w.heap.size + 1 ≤ j := fun j hj => (tw5.oa.lt j hj).1
        have hc6 := (hc5.alloc _).kept2 hg6 (fun e => by have := ro6 _ e.symm; omega) (fun g off hl ea e => by have := ro6 _ e.symm; have := hA g off hl ea; omega)
        have hb6 := (hb5.alloc hb5.size _).grown hg6 (by have := hb5.size; simp; omega) (fun j hj => by have := ro6 j hj; omega)
        clear ro6 tw5 hown6 hg6 hat6 hc5 hb5
        go_wp2_with fail
        refine (digits _ _ a len cap q5 hc6 (by omega) (by omega)).mono ?_
        rintro e w7 ⟨v, rfl, v0, v1, hg7, q7, q70, q71, hc7⟩
        have tw7 := tw6.cur hg7
        have hb7 := hb6.grown hg7 hb6.size (by intro j hj; cases hj; omega)
        clear tw6 hg7 hb6 hc6
        go_wp2_with (at_builtin; refine wpList_append_own_at _ rfl _ _ 32 rfl (w.heap.size + 1) 3 i (.int .i64 0) 1 8 Tryd.underlying32 hi hz0 hz1 hz2 rfl (by decide) _ _ _ rfl (tw7.alloc _).ob ⟨w7.heap.size, 0, none⟩ 1 1 [.int .i64 v] rfl rfl ?d1 ?d2 ?d3 ?d4 ?d5 ?_)
        case d1 => exact cell_one_new _ _ _
        case d2 => intro u hu; simp at hu; subst hu; rfl
        case d3 => unfold maxLen; omega
        case d4 => omega
        case d5 => have := hc7.lt; simp; omega
        intro v8 w8 hown8 hg8 _ hat8
        have tw8 := (tw7.alloc _).pushB hown8 hg8 (by rw [World.size_alloc]; exact hat8)
        have ro8 : ∀ j, Value.ownBlock _ = some j → w.heap.size + 1 ≤ j := fun j hj => (tw7.ob.lt j hj).1
        have hc8 := (hc7.alloc _).kept2 hg8 (fun e => by have := ro8 _ e.symm; omega) (fun g off hl ea e => by have := ro8 _ e.symm; have := hA g off hl ea; omega)
        have hb8 := (hb7.alloc hb7.size _).grown hg8 (by have := hb7.size; simp; omega) (fun j hj => by have := ro8 j hj; omega)
        clear ro8 tw7 hown8 hg8 hat8 hc7 hb7
        go_wp2_with fail
        go_roundw
        case rel => exact ⟨k - 1, xs ++ [u], ys ++ [v], q7, by rw [show (k : Int) - 1 = ((k - 1 : Nat) : Int) from by omega], by simp; omega, by simp; omega, tw8, sx.push u0 u1, sy.push v0 (by omega), by omega, by omega, hc8, hb8⟩
        case measure => simp [intOf]; omega
      · go_wp2_with fail
        exact bodyPost_ret (v := .tuple #[_, _]) (by simp [results, Tryd.results22, go_sem]) rfl ⟨_, _, xs, ys, rfl, tw, sx, sy, by omega, by omega, hb⟩
  · go_wp2_with fail
    refine (pick _ _ a len cap q3 2 hc3 (by omega) (by omega) (by omega) (by omega)).mono ?_
    rintro e w4 ⟨n2, rfl, n20, n21, hg4, q4, q40, q41, hc4⟩
    have hb4 := below_of (grownBy_trans (grownBy_trans hg2 hg3) hg4)
    go_wp2_with fail
    go_loopw [5, 6, 7] (fun va vb n wr => ∃ (k : Nat) (xs ys : List Int) (q : Int), n = .int .i64 k ∧ xs.length + k ≤ 9 ∧ ys.length + k ≤ 9 ∧ Twin w.heap.size wr va vb xs ys ∧ Small xs ∧ Small ys ∧ 0 ≤ q ∧ q + 10 * (k : Int) ≤ 300 ∧ Cur wr w.heap.size a len cap q ∧ Below w.heap.size w wr) (fun _ _ n _ => (intOf n).toNat)
    case atStart => exact ⟨(8 + n2).toNat, [], [], q4, by rw [Int.toNat_of_nonneg (by omega)], by simp; omega, by simp; omega, ⟨World.ownsRow_nil _ _ _ _, World.ownsRow_nil _ _ _ _, .inl rfl⟩, by intro x hx; simp at hx, by intro x hx; simp at hx, by omega, by omega, hc4, hb4⟩
    case round =>
      obtain ⟨k, xs, ys, q, rfl, lx, ly, tw, sx, sy, q0, qk, hc, hb⟩ := hrel
      by_cases hk : 0 < k
      · go_wp2_with fail
        refine (pick _ _ a len cap q 100 hc (by omega) (by omega) (by omega) (by omega)).mono ?_
        rintro e w5 ⟨n5, rfl, n50, n51, hg5, q5, q50, q51, hc5⟩
        have tw5 := tw.cur hg5
        have hb5 := hb.grown hg5 hb.size (by intro j hj; cases hj; omega)
        clear tw hg5 hb hc
        go_wp2_with fail
        refine (l2Of n5 _ n50 (by omega)).mono ?_
        rintro e wt ⟨rfl, rfl⟩
        have ub := Pl.ofN_bd n50 (show n5 ≤ 99 by omega)
        generalize Pl.ofN n5 = u at *
        have u0 : -1 ≤ u := by omega
        have u1 : u ≤ 65536 := by omega
        go_wp2_with (at_builtin; refine wpList_append_own_at _ rfl _ _ 32 rfl (w.heap.size + 1) 3 i (.int .i64 0) 1 8 Tryd.underlying32 hi hz0 hz1 hz2 rfl (by decide) _ _ _ rfl (tw5.alloc _).oa ⟨wt.heap.size, 0, none⟩ 1 1 [.int .i64 u] rfl rfl ?c1 ?c2 ?c3 ?c4 ?c5 ?_)
        case c1 => exact cell_one_new _ _ _
        case c2 => intro u hu; simp at hu; subst hu; rfl
        case c3 => unfold maxLen; omega
        case c4 => omega
        case c5 => have := hc5.lt; simp; omega
        intro v6 w6 hown6 hg6 _ hat6
        have tw6 := (tw5.alloc _).pushA hown6 hg6 (by rw [World.size_alloc]; exact hat6)
        have ro6 : ∀ j, Value.ownBlock _ = some j → w.heap.size + 1 ≤ j := fun j hj => (tw5.oa.lt j hj).1
        have hc6 := (hc5.alloc _).kept2 hg6 (fun e => by have := ro6 _ e.symm; omega) (fun g off hl ea e => by have := ro6 _ e.symm; have := hA g off hl ea; omega)
        have hb6 := (hb5.alloc hb5.size _).grown hg6 (by have := hb5.size; simp; omega) (fun j hj => by have := ro6 j hj; omega)
        clear ro6 tw5 hown6 hg6 hat6 hc5 hb5
        go_wp2_with fail
        refine (digits _ _ a len cap q5 hc6 (by omega) (by omega)).mono ?_
        rintro e w7 ⟨v, rfl, v0, v1, hg7, q7, q70, q71, hc7⟩
        have tw7 := tw6.cur hg7
        have hb7 := hb6.grown hg7 hb6.size (by intro j hj; cases hj; omega)
        clear tw6 hg7 hb6 hc6
        go_wp2_with (at_builtin; refine wpList_append_own_at _ rfl _ _ 32 rfl (w.heap.size + 1) 3 i (.int .i64 0) 1 8 Tryd.underlying32 hi hz0 hz1 hz2 rfl (by decide) _ _ _ rfl (tw7.alloc _).ob ⟨w7.heap.size, 0, none⟩ 1 1 [.int .i64 v] rfl rfl ?d1 ?d2 ?d3 ?d4 ?d5 ?_)
        case d1 => exact cell_one_new _ _ _
        case d2 => intro u hu; simp at hu; subst hu; rfl
        case d3 => unfold maxLen; omega
        case d4 => omega
        case d5 => have := hc7.lt; simp; omega
        intro v8 w8 hown8 hg8 _ hat8
        have tw8 := (tw7.alloc _).pushB hown8 hg8 (by rw [World.size_alloc]; exact hat8)
        have ro8 : ∀ j, Value.ownBlock _ = some j → w.heap.size + 1 ≤ j := fun j hj => (tw7.ob.lt j hj).1
        have hc8 := (hc7.alloc _).kept2 hg8 (fun e => by have := ro8 _ e.symm; omega) (fun g off hl ea e => by have := ro8 _ e.symm; have := hA g off hl ea; omega)
        have hb8 := (hb7.alloc hb7.size _).grown hg8 (by have := hb7.size; simp; omega) (fun j hj => by have := ro8 j hj; omega)
        clear ro8 tw7 hown8 hg8 hat8 hc7 hb7
        go_wp2_with fail
        go_roundw
        case rel => exact ⟨k - 1, xs ++ [u], ys ++ [v], q7, by rw [show (k : Int) - 1 = ((k - 1 : Nat) : Int) from by omega], by simp; omega, by simp; omega, tw8, sx.push u0 u1, sy.push v0 (by omega), by omega, by omega, hc8, hb8⟩
        case measure => simp [intOf]; omega
      · go_wp2_with fail
        exact bodyPost_ret (v := .tuple #[_, _]) (by simp [results, Tryd.results22, go_sem]) rfl ⟨_, _, xs, ys, rfl, tw, sx, sy, by omega, by omega, hb⟩

end Go.Proofs.YtkahmepoblhbnaaDoor
