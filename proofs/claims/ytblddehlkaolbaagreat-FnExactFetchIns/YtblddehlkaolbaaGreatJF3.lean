/- What the models of chapter 6 answer that make nothing: tests of registers and operands, the status. 'append([]int{}, xs...)': a list of numbers copied into a row of the call's own, whatever the list: nil, empty, cut or not. What the models of chapter 6 answer that make registers: NewRegs, l6Own. What the model of Touch answers, for every argument. -/
import Derived.Test.YtblddehlkaolbaaGreatJF1
import Derived.Test.YtblddehlkaolbaaGreatJF2
import Derived.BigQuiet
import Derived.Deep.QuietTactic
import Derived.Deep.AppendLies
import Derived.Maps.AppendAt
import Derived.Laws.AppendOwnNone
import Derived.Deep.RegionLawGrows
namespace Go.Proofs.YtblddehlkaolbaaGreat
open Go.RowKit
set_option linter.unusedVariables false

theorem specFlags (n : Int) (w : World) : Calls Tryz.prog 49 #[.int .i64 n] w fun e w' => e = .returned (.bool (Pl.within n 0 31)) ∧ w' = w := by
  go_enter Tryz.func49, Tryz.ntmps49
  go_wp2_with (go_at_call 50; refine (l1In _ _ _ _).mono ?_; rintro e w' ⟨rfl, hw⟩; have hw2 := hw.symm; clear hw; subst hw2)
  go_ret
  exact ⟨rfl, rfl⟩
theorem specFour (w : World) (a : Option Addr) (ca : Nat) (xs : List Int) (ha : IRow w a xs) (lx : xs.length ≤ 2000000) :
    Calls Tryz.prog 47 #[.slice a xs.length ca] w fun e w' => e = .returned (.bool (Pl.fourOk xs)) ∧ w' = w := by
  have HA := hide ha
  clear ha
  go_enter Tryz.func47, Tryz.ntmps47
  go_wp2
  go_loop [4, 7] (fun _ j => ∃ k : Nat, k ≤ xs.length ∧ j = .int .i64 k ∧ ∀ i, i < k → Pl.wordOk (el xs i) = true) (fun _ j => xs.length - (intOf j).toNat)
  case atStart => exact ⟨0, Nat.zero_le _, rfl, fun i hi => absurd hi (Nat.not_lt_zero i)⟩
  case round =>
    obtain ⟨k, hk, rfl, heq⟩ := hrel
    have HE := hide heq
    clear heq
    by_cases hlt : k < xs.length
    · obtain ⟨g1, o1, rfl, hc1⟩ := HA.out k hlt
      rw [show xs[k]?.getD 0 = el xs k from rfl] at hc1
      cases hb : Pl.wordOk (el xs k)
      · go_wp2_with (go_at_call 48; refine (specWord _ _).mono ?_; rintro e w' ⟨rfl, rfl⟩; rw [hb])
        go_ret
        exact ⟨rB (Pl.all_no hlt hb).symm, rfl⟩
      · go_wp2_with (go_at_call 48; refine (specWord _ _).mono ?_; rintro e w' ⟨rfl, rfl⟩; rw [hb])
        go_round
        case rel => exact ⟨k + 1, by omega, by go_num, snoc_all HE.out hb⟩
        case measure => simp [intOf]; omega
    · have E : Hid (Pl.fourOk xs = decide ((xs.length : Int) = 4)) := hide (Pl.all_of (fun i hi => HE.out i (by omega)))
      cases h4 : ((xs.length : Int) == 4)
      all_goals
        go_wp2
        go_ret
        exact ⟨rB (by rw [E.out]; simp at h4; simp [h4]), rfl⟩
set_option maxHeartbeats 4000000 in
theorem specGoodRegs (w : World) (r : Pl.Rg) (a b : Option Addr) (ca cb : Nat) (ha : IRow w a r.xs) (hb : IRow w b r.ys) (lx : r.xs.length ≤ 2000000) (ly : r.ys.length ≤ 2000000) :
    Calls Tryz.prog 27 #[.agg #[.slice a r.xs.length ca, .slice b r.ys.length cb, .int .i64 r.o, .int .i64 r.p, .int .i64 r.f, .int .i64 r.m, .bool r.s, .bool r.t]] w fun e w' => e = .returned (.bool (Pl.rgOk r)) ∧ Kept 0 0 w w' := by
  have HA := hide ha
  have HB := hide hb
  have HK := hide (kept_alloc w (.cells #[.slice a r.xs.length ca, .slice b r.ys.length cb, .int .i64 r.o, .int .i64 r.p, .int .i64 r.f, .int .i64 r.m, .bool r.s, .bool r.t] 39))
  clear ha hb
  have G : Hid (Pl.rgOk r = (Pl.fourOk r.xs && (Pl.fourOk r.ys && (Pl.wordOk r.o && (Pl.wordOk r.p && (Pl.within r.f 0 31 && Pl.within r.m 0 7)))))) := hide rfl
  cases h1 : Pl.fourOk r.xs
  · go_enter Tryz.func27, Tryz.ntmps27
    go_wp2_with (first | (go_at_call 47; refine (specFour _ a ca r.xs (HA.out.keptS HK.out) lx).mono ?_; rintro e w' ⟨rfl, hw⟩; have hw2 := hw.symm; clear hw; subst hw2; rw [h1]; have Z1 : True := trivial))
    go_ret
    exact ⟨rB (by rw [G.out, h1]; simp), HK.out⟩
  · cases h2 : Pl.fourOk r.ys
    · go_enter Tryz.func27, Tryz.ntmps27
      go_wp2_with (first | (go_at_call 47; have z := Z1; refine (specFour _ b cb r.ys (HB.out.keptS HK.out) ly).mono ?_; rintro e w' ⟨rfl, hw⟩; have hw2 := hw.symm; clear hw; subst hw2; rw [h2]) | (go_at_call 47; refine (specFour _ a ca r.xs (HA.out.keptS HK.out) lx).mono ?_; rintro e w' ⟨rfl, hw⟩; have hw2 := hw.symm; clear hw; subst hw2; rw [h1]; have Z1 : True := trivial))
      go_ret
      exact ⟨rB (by rw [G.out, h1, h2]; simp), HK.out⟩
    · cases h3 : Pl.wordOk r.o
      · go_enter Tryz.func27, Tryz.ntmps27
        go_wp2_with (first | (go_at_call 47; have z := Z1; refine (specFour _ b cb r.ys (HB.out.keptS HK.out) ly).mono ?_; rintro e w' ⟨rfl, hw⟩; have hw2 := hw.symm; clear hw; subst hw2; rw [h2]) | (go_at_call 47; refine (specFour _ a ca r.xs (HA.out.keptS HK.out) lx).mono ?_; rintro e w' ⟨rfl, hw⟩; have hw2 := hw.symm; clear hw; subst hw2; rw [h1]; have Z1 : True := trivial) | (go_at_call 48; refine (specWord r.o _).mono ?_; rintro e w' ⟨rfl, hw⟩; have hw2 := hw.symm; clear hw; subst hw2; rw [h3]; have Z3 : True := trivial))
        go_ret
        exact ⟨rB (by rw [G.out, h1, h2, h3]; simp), HK.out⟩
      · cases h4 : Pl.wordOk r.p
        · go_enter Tryz.func27, Tryz.ntmps27
          go_wp2_with (first | (go_at_call 47; have z := Z1; refine (specFour _ b cb r.ys (HB.out.keptS HK.out) ly).mono ?_; rintro e w' ⟨rfl, hw⟩; have hw2 := hw.symm; clear hw; subst hw2; rw [h2]) | (go_at_call 47; refine (specFour _ a ca r.xs (HA.out.keptS HK.out) lx).mono ?_; rintro e w' ⟨rfl, hw⟩; have hw2 := hw.symm; clear hw; subst hw2; rw [h1]; have Z1 : True := trivial) | (go_at_call 48; have z := Z3; refine (specWord r.p _).mono ?_; rintro e w' ⟨rfl, hw⟩; have hw2 := hw.symm; clear hw; subst hw2; rw [h4]) | (go_at_call 48; refine (specWord r.o _).mono ?_; rintro e w' ⟨rfl, hw⟩; have hw2 := hw.symm; clear hw; subst hw2; rw [h3]; have Z3 : True := trivial))
          go_ret
          exact ⟨rB (by rw [G.out, h1, h2, h3, h4]; simp), HK.out⟩
        · cases h5 : Pl.within r.f 0 31
          · go_enter Tryz.func27, Tryz.ntmps27
            go_wp2_with (first | (go_at_call 47; have z := Z1; refine (specFour _ b cb r.ys (HB.out.keptS HK.out) ly).mono ?_; rintro e w' ⟨rfl, hw⟩; have hw2 := hw.symm; clear hw; subst hw2; rw [h2]) | (go_at_call 47; refine (specFour _ a ca r.xs (HA.out.keptS HK.out) lx).mono ?_; rintro e w' ⟨rfl, hw⟩; have hw2 := hw.symm; clear hw; subst hw2; rw [h1]; have Z1 : True := trivial) | (go_at_call 48; have z := Z3; refine (specWord r.p _).mono ?_; rintro e w' ⟨rfl, hw⟩; have hw2 := hw.symm; clear hw; subst hw2; rw [h4]) | (go_at_call 48; refine (specWord r.o _).mono ?_; rintro e w' ⟨rfl, hw⟩; have hw2 := hw.symm; clear hw; subst hw2; rw [h3]; have Z3 : True := trivial) | (go_at_call 49; refine (specFlags _ _).mono ?_; rintro e w' ⟨rfl, hw⟩; have hw2 := hw.symm; clear hw; subst hw2; rw [h5]))
            go_ret
            exact ⟨rB (by rw [G.out, h1, h2, h3, h4, h5]; simp), HK.out⟩
          · cases h6 : Pl.within r.m 0 7
            · go_enter Tryz.func27, Tryz.ntmps27
              go_wp2_with (first | (go_at_call 47; have z := Z1; refine (specFour _ b cb r.ys (HB.out.keptS HK.out) ly).mono ?_; rintro e w' ⟨rfl, hw⟩; have hw2 := hw.symm; clear hw; subst hw2; rw [h2]) | (go_at_call 47; refine (specFour _ a ca r.xs (HA.out.keptS HK.out) lx).mono ?_; rintro e w' ⟨rfl, hw⟩; have hw2 := hw.symm; clear hw; subst hw2; rw [h1]; have Z1 : True := trivial) | (go_at_call 48; have z := Z3; refine (specWord r.p _).mono ?_; rintro e w' ⟨rfl, hw⟩; have hw2 := hw.symm; clear hw; subst hw2; rw [h4]) | (go_at_call 48; refine (specWord r.o _).mono ?_; rintro e w' ⟨rfl, hw⟩; have hw2 := hw.symm; clear hw; subst hw2; rw [h3]; have Z3 : True := trivial) | (go_at_call 49; refine (specFlags _ _).mono ?_; rintro e w' ⟨rfl, hw⟩; have hw2 := hw.symm; clear hw; subst hw2; rw [h5]) | (go_at_call 50; refine (l1In _ _ _ _).mono ?_; rintro e w' ⟨rfl, hw⟩; have hw2 := hw.symm; clear hw; subst hw2; rw [show (decide (0 ≤ r.m) && decide (r.m ≤ 7)) = Pl.within r.m 0 7 from rfl, h6]))
              go_ret
              exact ⟨rB (by rw [G.out, h1, h2, h3, h4, h5, h6]; simp), HK.out⟩
            · go_enter Tryz.func27, Tryz.ntmps27
              go_wp2_with (first | (go_at_call 47; have z := Z1; refine (specFour _ b cb r.ys (HB.out.keptS HK.out) ly).mono ?_; rintro e w' ⟨rfl, hw⟩; have hw2 := hw.symm; clear hw; subst hw2; rw [h2]) | (go_at_call 47; refine (specFour _ a ca r.xs (HA.out.keptS HK.out) lx).mono ?_; rintro e w' ⟨rfl, hw⟩; have hw2 := hw.symm; clear hw; subst hw2; rw [h1]; have Z1 : True := trivial) | (go_at_call 48; have z := Z3; refine (specWord r.p _).mono ?_; rintro e w' ⟨rfl, hw⟩; have hw2 := hw.symm; clear hw; subst hw2; rw [h4]) | (go_at_call 48; refine (specWord r.o _).mono ?_; rintro e w' ⟨rfl, hw⟩; have hw2 := hw.symm; clear hw; subst hw2; rw [h3]; have Z3 : True := trivial) | (go_at_call 49; refine (specFlags _ _).mono ?_; rintro e w' ⟨rfl, hw⟩; have hw2 := hw.symm; clear hw; subst hw2; rw [h5]) | (go_at_call 50; refine (l1In _ _ _ _).mono ?_; rintro e w' ⟨rfl, hw⟩; have hw2 := hw.symm; clear hw; subst hw2; rw [show (decide (0 ≤ r.m) && decide (r.m ≤ 7)) = Pl.within r.m 0 7 from rfl, h6]))
              go_ret
              exact ⟨rB (by rw [G.out, h1, h2, h3, h4, h5, h6]; simp), HK.out⟩
end Go.Proofs.YtblddehlkaolbaaGreat

namespace Go.Proofs.YtblddehlkaolbaaGreat
open Go.RowKit
set_option linter.unusedVariables false

theorem own_empty1 {w : World} {g base size : Nat} {e : TypeId} (h : Blk w g #[] e) (hb : base ≤ g) : w.ownsRow base e size (.slice (some ⟨g, 0, none⟩) 0 0) 0 [] :=
  ⟨by simp, .inr ⟨g, 0, #[], rfl, hb, h, Nat.le_refl _, Nat.zero_le _, by simp, by simp⟩⟩
theorem copy_ints {ops : Array Oper} {rest : List Oper} {o : Oper} {a : Act} {w : World} {Q : Exit → Act → World → Prop} (hgd : o.guard = none) (s x : Operand)
    (ho : o.op = .call { callee := .builtin .append, args := #[s, x], argTypes := #[22, 22] }) (base g : Nat) (hs : a.eval s = .slice (some ⟨g, 0, none⟩) 0 0) (hg : Blk w g #[] 3) (hbg : base ≤ g)
    (sp : Option Addr) (n c : Nat) (xs : List Int) (hx : a.eval x = .slice sp n c) (hr : IRow w sp xs) (hn : xs.length = n) (bn : n ≤ 2000000) (H : Nat) (hH : w.heap.size = H)
    (h : ∀ (g' cap : Nat) (w' : World), w'.ownsRow base 3 1 (.slice (some ⟨g', 0, none⟩) n cap) n (xs.map (Value.int .i64)) → Kept g (g + 1) w w' → (g' = g ∨ g' = H) → g' < w'.heap.size → wpList Tryz.prog ops Q rest (a.put o.dst (.slice (some ⟨g', 0, none⟩) n cap)) w') :
    wpList Tryz.prog ops Q (o :: rest) a w := by
  obtain ⟨i, hi, hz0, hz1, hz2⟩ := info_parts Tryz.info3
  have hlt := hg.lt
  by_cases h0 : n = 0
  · subst h0
    obtain rfl : xs = [] := List.eq_nil_of_length_eq_zero hn
    have hl0 : ∀ (x : Addr), (loadCells x 0).run Tryz.prog w = .ok #[] w := fun x => by simpa using run_loadCells_list (P := Tryz.prog) w x [] (by simp)
    have hrun : (Builtin.append_ #[22, 22] o.type #[.slice (some ⟨g, 0, none⟩) 0 0, .slice sp 0 c]).run Tryz.prog w = .ok (.slice (some ⟨g, 0, none⟩) 0 0) w := by
      cases sp <;> simp [Builtin.append_, run_underlying Tryz.underlying22, Builtin.lenOf, Builtin.firstCells, sizeOf, typeInfo, hi, storeCells, hl0]
    refine wpList_plain hgd fun K hK => ?_
    unfold Oper.wp
    simp [execOp, ho, resolve, invoke, builtin, hs, hx, hrun, Result.andThen]
    exact hK _ _ (h g 0 w (own_empty1 hg hbg) (Kept.refl _ _ _) (.inl rfl) hlt)
  · obtain ⟨ga, oa, rfl, _⟩ := hr 0 (by omega)
    refine wpList_append_lies _ hgd s x 22 ho base 3 i (.int .i64 0) 1 8 Tryz.underlying22 hi hz0 hz1 hz2 rfl (by decide) (.slice (some ⟨g, 0, none⟩) 0 0) 0 [] hs (own_empty1 hg hbg) ⟨ga, oa, none⟩ n c (xs.map (Value.int .i64)) hx (by simp [hn]) (news_of hr) news_one (by omega) (by unfold maxLen; omega) (by omega) (by omega) H hH ?_
    intro g' cap w' h1 h2 h3 h4
    simp only [Nat.zero_add, List.nil_append] at h1 ⊢
    refine h g' cap w' h1 (kept_row h2 (by intro j hj; have h5 : g = j := Option.some.inj hj; omega)) ?_ h4
    rcases h3 with h3 | h3
    · exact .inl (Option.some.inj h3).symm
    · exact .inr h3
end Go.Proofs.YtblddehlkaolbaaGreat

namespace Go.Proofs.YtblddehlkaolbaaGreat
open Go.RowKit
set_option linter.unusedVariables false

/-- the lists of registers lie in new blocks, apart -/
def RegIn (w : World) (base : Nat) (r : Pl.Rg) (a b : Option Addr) : Prop := SlotIn w base w.heap.size a r.xs ∧ SlotIn w base w.heap.size b r.ys ∧ (∀ g, blk a = some g → blk b ≠ some g)
set_option maxHeartbeats 8000000 in
theorem specOwn (w : World) (r : Pl.Rg) (a b : Option Addr) (ca cb : Nat) (ha : IRow w a r.xs) (hb : IRow w b r.ys) (lx : r.xs.length ≤ 2000000) (ly : r.ys.length ≤ 2000000) :
    Calls Tryz.prog 53 #[.agg #[.slice a r.xs.length ca, .slice b r.ys.length cb, .int .i64 r.o, .int .i64 r.p, .int .i64 r.f, .int .i64 r.m, .bool r.s, .bool r.t]] w fun e w' => ∃ (a' b' : Option Addr) (ca' cb' : Nat), e = .returned (.agg #[.slice a' r.xs.length ca', .slice b' r.ys.length cb', .int .i64 r.o, .int .i64 r.p, .int .i64 r.f, .int .i64 r.m, .bool r.s, .bool r.t]) ∧ RegIn w' w.heap.size r a' b' ∧ Kept 0 0 w w' := by
  have HA := hide ha
  have HB := hide hb
  clear ha hb
  have K0 := hide (kept_new (kept_new (kept_alloc w (.cells #[.slice a r.xs.length ca, .slice b r.ys.length cb, .int .i64 r.o, .int .i64 r.p, .int .i64 r.f, .int .i64 r.m, .bool r.s, .bool r.t] 39)) (.cells #[.slice none 0 0, .slice none 0 0, .int .i64 0, .int .i64 0, .int .i64 0, .int .i64 0, .bool false, .bool false] 39)) (.cells #[] 3))
  have B0 := hide (((Blk.new w #[.slice a r.xs.length ca, .slice b r.ys.length cb, .int .i64 r.o, .int .i64 r.p, .int .i64 r.f, .int .i64 r.m, .bool r.s, .bool r.t] 39).alloc (.cells #[.slice none 0 0, .slice none 0 0, .int .i64 0, .int .i64 0, .int .i64 0, .int .i64 0, .bool false, .bool false] 39)).alloc (.cells #[] 3))
  have B1 := (Blk.new (w.alloc (.cells #[.slice a r.xs.length ca, .slice b r.ys.length cb, .int .i64 r.o, .int .i64 r.p, .int .i64 r.f, .int .i64 r.m, .bool r.s, .bool r.t] 39)) #[.slice none 0 0, .slice none 0 0, .int .i64 0, .int .i64 0, .int .i64 0, .int .i64 0, .bool false, .bool false] 39).alloc (.cells #[] 3)
  have B2 := Blk.new ((w.alloc (.cells #[.slice a r.xs.length ca, .slice b r.ys.length cb, .int .i64 r.o, .int .i64 r.p, .int .i64 r.f, .int .i64 r.m, .bool r.s, .bool r.t] 39)).alloc (.cells #[.slice none 0 0, .slice none 0 0, .int .i64 0, .int .i64 0, .int .i64 0, .int .i64 0, .bool false, .bool false] 39)) #[] 3
  simp only [World.size_alloc] at B1 B2
  replace B1 := hide B1
  replace B2 := hide B2
  go_enter Tryz.func53, Tryz.ntmps53
  go_wp2_with (at_builtin; refine copy_ints rfl (.tmp 3) (.tmp 5) rfl w.heap.size (w.heap.size + 1 + 1) rfl B2.out (by omega) a r.xs.length ca r.xs rfl (HA.out.keptS K0.out) rfl lx (w.heap.size + 1 + 1 + 1) (by simp) ?_)
  intro g1 c1 w1 o1 k1 hg1 l1
  have C0 := hide (B0.out.kept k1 (by omega))
  have C1 := hide (B1.out.kept k1 (by omega))
  have d3 := C0.out.cell (i := 0) rfl
  have f3 := C0.out.frozen 0
  have n0 := B2.out.lt
  have n1 := k1.size
  obtain ⟨p1, p2⟩ := o1.lt g1 rfl
  have D0 := hide ((C0.out.set 0 (.slice (some ⟨g1, 0, none⟩) r.xs.length c1)).alloc (.cells #[] 3))
  have D1 := hide ((C1.out.other w.heap.size 0 (.slice (some ⟨g1, 0, none⟩) r.xs.length c1) (by omega)).alloc (.cells #[] 3))
  have O1 := hide ((o1.kept (grownBy_set w1 w.heap.size 0 (.slice (some ⟨g1, 0, none⟩) r.xs.length c1)) (.inr (fun e => by have h3 : g1 = w.heap.size := Option.some.inj e; omega))).alloc (.cells #[] 3))
  have K1 := hide (kept_new (kept_set (kept_over K0.out k1 (by omega)) w.heap.size 0 (.slice (some ⟨g1, 0, none⟩) r.xs.length c1) (.inr (Nat.le_refl _))) (.cells #[] 3))
  have E2 := Blk.new (w1.setCell ⟨w.heap.size, 0, none⟩ (.slice (some ⟨g1, 0, none⟩) r.xs.length c1)) #[] 3
  simp only [World.size_setCell] at E2
  replace E2 := hide E2
  have q4 := D0.out.cell (i := 1) rfl
  clear o1 k1 B0 B1 B2 C0 C1
  go_wp2_with (at_builtin; refine copy_ints rfl (.tmp 8) (.tmp 10) rfl w.heap.size w1.heap.size rfl E2.out (by omega) b r.ys.length cb r.ys rfl (HB.out.keptS K1.out) rfl ly (w1.heap.size + 1) (by simp) ?_)
  intro g2 c2 w2 o2 k2 hg2 l2
  clear q4 d3 f3
  have F0 := D0.out.kept k2 (by omega)
  have F1 := D1.out.kept k2 (by omega)
  obtain ⟨p3, p4⟩ := o2.lt g2 rfl
  have n2 := k2.size
  simp only [World.size_alloc, World.size_setCell] at n2
  have P1 := hide (O1.out.kept (kept_by k2) (.inr (fun e => by have h3 : g1 = w1.heap.size := Option.some.inj e; omega)))
  have P2 := hide o2
  have K2 := hide (kept_over K1.out k2 (by omega))
  have x0 := F0.cell (i := 0) rfl
  have x1 := F0.cell (i := 1) rfl
  have x2 := F0.cell (i := 2) rfl
  have x3 := F0.cell (i := 3) rfl
  have x4 := F0.cell (i := 4) rfl
  have x5 := F0.cell (i := 5) rfl
  have x6 := F0.cell (i := 6) rfl
  have x7 := F0.cell (i := 7) rfl
  have v1' := F0.frozen 1
  have y0 := F1.cell (i := 0) rfl
  have u0 := F1.frozen 0
  have y1 := F1.cell (i := 1) rfl
  have u1 := F1.frozen 1
  have y2 := F1.cell (i := 2) rfl
  have u2 := F1.frozen 2
  have y3 := F1.cell (i := 3) rfl
  have u3 := F1.frozen 3
  have y4 := F1.cell (i := 4) rfl
  have u4 := F1.frozen 4
  have y5 := F1.cell (i := 5) rfl
  have u5 := F1.frozen 5
  have y6 := F1.cell (i := 6) rfl
  have u6 := F1.frozen 6
  have y7 := F1.cell (i := 7) rfl
  have u7 := F1.frozen 7
  have G1 := hide F1
  have hne : g1 ≠ g2 := by omega
  clear F0 F1 o2 k2
  go_wp2_with fail
  refine bodyPost_ret (v := .agg #[.slice (some ⟨g1, 0, none⟩) r.xs.length c1, .slice (some ⟨g2, 0, none⟩) r.ys.length c2, .int .i64 r.o, .int .i64 r.p, .int .i64 r.f, .int .i64 r.m, .bool r.s, .bool r.t]) ?_ rfl ?_
  · exact results_cell_row rfl _ _ _ _ _ (0, 0) _ rfl (((((((((G1.out.other _ _ _ (by omega)).set _ _).set _ _).set _ _).set _ _).set _ _).set _ _).set _ _).set _ _) Tryz.underlying39 rfl (by kernel_rfl)
  · refine ⟨some ⟨g1, 0, none⟩, some ⟨g2, 0, none⟩, c1, c2, rfl, ⟨.inr ⟨g1, rfl, by omega, by simp; omega, ?_⟩, .inr ⟨g2, rfl, by omega, by simp; omega, ?_⟩, ?_⟩, ?_⟩
    · exact ((((((((((own_of_row P1.out).setOther _ _ _ (by omega)).setOther _ _ _ (by omega)).setOther _ _ _ (by omega)).setOther _ _ _ (by omega)).setOther _ _ _ (by omega)).setOther _ _ _ (by omega)).setOther _ _ _ (by omega)).setOther _ _ _ (by omega)).setOther _ _ _ (by omega))
    · exact ((((((((((own_of_row P2.out).setOther _ _ _ (by omega)).setOther _ _ _ (by omega)).setOther _ _ _ (by omega)).setOther _ _ _ (by omega)).setOther _ _ _ (by omega)).setOther _ _ _ (by omega)).setOther _ _ _ (by omega)).setOther _ _ _ (by omega)).setOther _ _ _ (by omega))
    · intro g hg hh
      simp [blk] at hg hh
      omega
    · exact (kept_set (kept_set (kept_set (kept_set (kept_set (kept_set (kept_set (kept_set (kept_set K2.out _ _ _ (.inr (by omega))) _ _ _ (.inr (by omega))) _ _ _ (.inr (by omega))) _ _ _ (.inr (by omega))) _ _ _ (.inr (by omega))) _ _ _ (.inr (by omega))) _ _ _ (.inr (by omega))) _ _ _ (.inr (by omega))) _ _ _ (.inr (by omega)))
end Go.Proofs.YtblddehlkaolbaaGreat

namespace Go.Proofs.YtblddehlkaolbaaGreat
open Go.RowKit
set_option linter.unusedVariables false

set_option maxHeartbeats 4000000 in
theorem l4Own_log (w : World) (ga oa gb ob : Nat) (ca cb m : Nat) (xs ys : List Int) (ha : IRow w (some ⟨ga, oa, none⟩) xs) (hb : IRow w (some ⟨gb, ob, none⟩) ys) (lx : xs.length ≤ 2000000) (ly : ys.length = 5 * m) (bm : m ≤ 2000000) (x0 : 0 < xs.length) (m0 : 0 < m) :
    Calls Tryz.prog 54 #[.agg #[.slice (some ⟨ga, oa, none⟩) xs.length ca, .slice (some ⟨gb, ob, none⟩) m cb]] w fun e w' => ∃ (g1 c1 g2 c2 : Nat), e = .returned (.agg #[.slice (some ⟨g1, 0, none⟩) xs.length c1, .slice (some ⟨g2, 0, none⟩) m c2]) ∧ w'.ownsRow w.heap.size 3 1 (.slice (some ⟨g1, 0, none⟩) xs.length c1) xs.length (xs.map (Value.int .i64)) ∧ w'.ownsRow w.heap.size 95 5 (.slice (some ⟨g2, 0, none⟩) m c2) m (ys.map (Value.int .i64)) ∧ g1 < g2 ∧ Kept 0 0 w w' := by
  obtain ⟨i, hi, hz0, hz1, hz2⟩ := info_parts Tryz.info3
  obtain ⟨j, hj, hy0, hy1, hy2⟩ := info_parts Tryz.infoAcc
  have HY := hide ly
  have HA := hide ha
  have HB := hide hb
  have K0 := hide (kept_new (kept_alloc w (.cells #[.slice (some ⟨ga, oa, none⟩) xs.length ca, .slice (some ⟨gb, ob, none⟩) m cb] 42)) (.cells #[.slice none 0 0, .slice none 0 0] 42))
  have B0 := hide ((Blk.new w #[.slice (some ⟨ga, oa, none⟩) xs.length ca, .slice (some ⟨gb, ob, none⟩) m cb] 42).alloc (.cells #[.slice none 0 0, .slice none 0 0] 42))
  have B1 := Blk.new (w.alloc (.cells #[.slice (some ⟨ga, oa, none⟩) xs.length ca, .slice (some ⟨gb, ob, none⟩) m cb] 42)) #[.slice none 0 0, .slice none 0 0] 42
  simp only [World.size_alloc] at B1
  replace B1 := hide B1
  have hn5 : (ys.map (Value.int .i64)).length = m * 5 := by rw [List.length_map, ly]; omega
  have hmx : 0 + m ≤ maxLen := by unfold maxLen; omega
  have hby : (0 + m) * 40 ≤ 140737488355328 := by omega
  have HX1 : Hid ((xs.map (Value.int .i64)).length = xs.length * 1) := hide (by simp)
  have HXM : Hid (0 + xs.length ≤ maxLen) := hide (by unfold maxLen; omega)
  have HXB : Hid ((0 + xs.length) * 8 ≤ 140737488355328) := hide (by omega)
  have H5 : Hid (0 < 5) := hide (by decide)
  have HN5 := hide hn5
  have HMX := hide hmx
  have HBY := hide hby
  clear ly ha hb hn5 hmx hby
  go_enter Tryz.func54, Tryz.ntmps54
  go_wp2_with fail
  go_region_law (first
    | (refine step_append_grows rfl (.tmp 3) (.tmp 5) 22 rfl 3 i (.int .i64 0) 1 8 Tryz.underlying22 hi hz0 hz1 hz2 rfl Nat.one_pos _ 0 0 [] rfl ?n1 rfl ?n2 ⟨ga, oa, none⟩ xs.length ca (xs.map (Value.int .i64)) rfl HX1.out ?news news_one ?n3 HXM.out HXB.out ?_
       (case n1 => intro h; cases h)
       (case n2 => intro b _ j u h; simp at h)
       (case n3 => omega)
       (case news => first | exact news_of (HA.out.keptS (kept_drew (kept_new K0.out _))) | exact news_of (HA.out.keptS (kept_drew (kept_new (kept_new K0.out _) _))))
       intro v1 w1 own1 gr1
       obtain ⟨g1, c1, rfl, b1, l1⟩ := own_form own1 (by omega)
       have k1 := undrewK (kept_grown gr1)
       have O1 := hide (own_base (base' := w.heap.size) own1 (by simp <;> omega))
       have B01 : Hid (Blk w1 w.heap.size #[.slice (some ⟨ga, oa, none⟩) xs.length ca, .slice (some ⟨gb, ob, none⟩) m cb] 42) := by first | exact hide (((B0.out.alloc _).kept0 k1)) | exact hide ((((B0.out.alloc _).alloc _).kept0 k1))
       have B11 : Hid (Blk w1 (w.heap.size + 1) #[.slice none 0 0, .slice none 0 0] 42) := by first | exact hide (((B1.out.alloc _).kept0 k1)) | exact hide ((((B1.out.alloc _).alloc _).kept0 k1))
       have K1 : Hid (Kept 0 0 w w1) := by first | exact hide ((kept_new K0.out _).trans k1) | exact hide ((kept_new (kept_new K0.out _) _).trans k1)
       have q1 := B01.out.cell (i := 1) rfl
       have q2 : ∀ o, (w1.alloc o).cell? ⟨w.heap.size, 1, none⟩ = some (.slice (some ⟨gb, ob, none⟩) m cb) := fun o => (B01.out.alloc o).cell (i := 1) rfl
       simp at b1
       clear own1 gr1 k1)
    | (refine step_append_grows rfl (.tmp 7) (.tmp 9) 40 rfl 95 j (.agg #[.int .i64 0, .int .i64 0, .int .i64 0, .int .i64 0, .int .i64 0]) 5 40 Tryz.underlying40 hj hy0 hy1 hy2 rfl H5.out _ 0 0 [] rfl ?n1 rfl ?n2 ⟨gb, ob, none⟩ m cb (ys.map (Value.int .i64)) rfl HN5.out ?news news_one ?n3 HMX.out HBY.out ?_
       (case n1 => intro h; cases h)
       (case n2 => intro b _ j u h; simp at h)
       (case n3 => omega)
       (case news => first | exact news_of (HB.out.keptS K1.out) | exact news_of (HB.out.keptS (kept_new K1.out _)))
       intro v2 w2 own2 gr2
       obtain ⟨g2, c2, rfl, b2, l2⟩ := own_form own2 (by omega)
       have k2 := kept_grown gr2
       have O2 := hide (own_base (base' := w.heap.size) own2 (by have := K1.out.size; simp <;> omega))
       have B12 : Hid (Blk w2 (w.heap.size + 1) #[.slice none 0 0, .slice none 0 0] 42) := by first | exact hide (B11.out.kept0 k2) | exact hide ((B11.out.alloc _).kept0 k2)
       have K2 : Hid (Kept 0 0 w w2) := by first | exact hide (K1.out.trans k2) | exact hide ((kept_new K1.out _).trans k2)
       have O12 : Hid (w2.ownsRow w.heap.size 3 1 (.slice (some ⟨g1, 0, none⟩) (0 + xs.length) c1) (0 + xs.length) ([] ++ xs.map (Value.int .i64))) := by first | exact hide (O1.out.kept gr2 (.inr (fun h => by cases h))) | exact hide ((O1.out.alloc _).kept gr2 (.inr (fun h => by cases h)))
       have r0 := B12.out.cell (i := 0) rfl
       have r1 := B12.out.cell (i := 1) rfl
       have f0 := B12.out.frozen 0
       have f1 := B12.out.frozen 1
       clear own2 gr2 k2))
  all_goals
    try simp only [World.size_alloc] at b2
    go_wp2_with fail
    refine bodyPost_ret (v := .agg #[.slice (some ⟨g1, 0, none⟩) xs.length c1, .slice (some ⟨g2, 0, none⟩) m c2]) ?_ rfl ⟨g1, c1, g2, c2, rfl, ?_, ?_, by omega, ?_⟩
    · rw [results_one rfl]; go_simp
    · have h := O12.out
      simp only [Nat.zero_add, List.nil_append] at h
      exact ((h.kept (grownBy_set _ _ _ _) (.inr (fun e => by have h2 : g1 = w.heap.size + 1 := Option.some.inj e; omega))).kept (grownBy_set _ _ _ _) (.inr (fun e => by have h2 : g1 = w.heap.size + 1 := Option.some.inj e; omega)))
    · have h := O2.out
      simp only [Nat.zero_add, List.nil_append] at h
      exact ((h.kept (grownBy_set _ _ _ _) (.inr (fun e => by have h2 : g2 = w.heap.size + 1 := Option.some.inj e; omega))).kept (grownBy_set _ _ _ _) (.inr (fun e => by have h2 : g2 = w.heap.size + 1 := Option.some.inj e; omega)))
    · exact kept_set (kept_set K2.out _ _ _ (.inr (by omega))) _ _ _ (.inr (by omega))
end Go.Proofs.YtblddehlkaolbaaGreat

