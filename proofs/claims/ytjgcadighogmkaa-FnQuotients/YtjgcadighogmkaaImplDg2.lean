/- The program's iterators that range over another: Booth's digits, and those of a number with a sign. -/
import Derived.Test.YtjgcadighogmkaaImplDg
namespace Go.Proofs.Ytjgcadighogmkaa
open Go.RowKit Go.Shelf
attribute [local go_sem] Oper.semAt_some
set_option linter.unusedVariables false
set_option linter.unusedSimpArgs false
/-- the digits of a number with a sign: the highest bit counts below 0 -/
def Pl.sdig (v : Int) (k : Nat) : Int := if k = 15 then -(Pl.wbit v k) else Pl.wbit v k
set_option maxHeartbeats 4000000 in
theorem boothGives {v : Int} (h : Pl.wOk v = true) (b : Nat) : Gives Try.prog 62 #[.pointer (some ⟨b, 0, none⟩)] b (.cells #[.int .i64 v] 3 (0, 0)) (encP (Pl.bdig v)) 16 := fun l J W hb hJ hY h0 => by
  have hv := Pl.wOk_ok h
  have hbx : Boxed W b 3 (.int .i64 v) := hb
  have hcell := hbx.cell
  have hc2 : ∀ o1 o2, ((W.alloc o1).alloc o2).cell? ⟨b, 0, none⟩ = some (.int .i64 v) := fun o1 o2 => ((((Below.refl _ W).alloc (Nat.le_refl _) o1).alloc (by simp) o2).cell hbx.lt).trans hcell
  refine (callsIn_wide (n := 9)).1 (callsIn_of_wp_marks Try.func62 rfl trivial ?_ rfl)
  simp only [Try.ntmps62, List.size_toArray, List.length_cons, List.length_nil, Nat.reduceAdd, Nat.reduceSub, Array.replicate_succ, Array.replicate_zero, List.push_toArray, List.append_toArray, List.nil_append, List.cons_append]
  gi_wp2_with (refine ⟨trivial, ?_⟩; gi_at_call 48; refine (callsIn_wide.2 (plainDigits _ _)).mono ?_; rintro e w' ⟨rfl, rfl⟩)
  have hT : Boxed (((W.alloc (.cells #[.func (.yield l) #[] #[]] 42)).alloc (.cells #[.int .i64 0] 3)).alloc (.cells #[.int .i64 v] 3)) W.heap.size 42 (.func (.yield l) #[] #[]) := ((Boxed.new W _ _).alloc _).alloc _
  have hA : Boxed (((W.alloc (.cells #[.func (.yield l) #[] #[]] 42)).alloc (.cells #[.int .i64 0] 3)).alloc (.cells #[.int .i64 v] 3)) (W.heap.size + 1) 3 (.int .i64 0) := by
    have := (Boxed.new (W.alloc (.cells #[.func (.yield l) #[] #[]] 42)) 3 (.int .i64 0)).alloc (.cells #[.int .i64 v] 3)
    rwa [World.size_alloc] at this
  have hC : Boxed (((W.alloc (.cells #[.func (.yield l) #[] #[]] 42)).alloc (.cells #[.int .i64 0] 3)).alloc (.cells #[.int .i64 v] 3)) (W.heap.size + 2) 3 (.int .i64 v) := by
    have := Boxed.new ((W.alloc (.cells #[.func (.yield l) #[] #[]] 42)).alloc (.cells #[.int .i64 0] 3)) 3 (.int .i64 v)
    rwa [World.size_alloc, World.size_alloc] at this
  have hBW : Below W.heap.size W (((W.alloc (.cells #[.func (.yield l) #[] #[]] 42)).alloc (.cells #[.int .i64 0] 3)).alloc (.cells #[.int .i64 v] 3)) := (((Below.refl _ W).alloc (Nat.le_refl _) _).alloc (by simp) _).alloc (by simp; omega) _
  have hSz : (((W.alloc (.cells #[.func (.yield l) #[] #[]] 42)).alloc (.cells #[.int .i64 0] 3)).alloc (.cells #[.int .i64 v] 3)).heap.size = W.heap.size + 3 := by simp
  revert hT hA hC hBW hSz
  generalize ((W.alloc (.cells #[.func (.yield l) #[] #[]] 42)).alloc (.cells #[.int .i64 0] 3)).alloc (.cells #[.int .i64 v] 3) = w0
  intro hT hA hC hBW hSz
  refine wp_range (plainGives h (W.heap.size + 2)) rfl (enters_of Try.func66 (by kernel_rfl) rfl) hC (fun _ => rfl)
    (fun k X => J k X ∧ Boxed X W.heap.size 42 (.func (.yield l) #[] #[]) ∧ Boxed X (W.heap.size + 1) 3 (.int .i64 (Pl.ahead v k)))
    (fun k X Y hs hb => ⟨hJ k X Y hs.1 (hb.mono (by omega)), boxed_below hs.2.1 hb (by omega), boxed_below hs.2.2 hb (by omega)⟩)
    ⟨hJ 0 _ _ h0 hBW, hT, hA⟩
    (fun k => { tmps := #[.func (.yield l) #[] #[], .pointer (some ⟨b, 0, none⟩), .pointer (some ⟨W.heap.size, 0, none⟩), .pointer (some ⟨W.heap.size + 1, 0, none⟩), .int .i64 (k : Int), .int .i64 (Pl.wbit v k), .int .i64 v, .func (.func 66) #[] #[.pointer (some ⟨W.heap.size + 2, 0, none⟩)], .int .i64 (k : Int), .int .i64 (Pl.wbit v k), undef, undef, undef, undef, undef, undef, undef, undef], defers := [] }) ?assign ?body ?done
  case assign =>
    intro l' k X K hK
    gi_wp2
    exact hK
  case body =>
    rintro l' k X hk ⟨hj, hT, hA⟩ hs
    have hcT := hT.cell
    have hcA := hA.cell
    have hfA := hA.frozen
    have hw1 := Pl.wbit_bd v k
    have ha1 := ahead_bd v k
    obtain ⟨fn, tmps, assign, body, hy, hR⟩ := yield_any 2 (hY k X hk hj (by omega))
    dsimp only [encP, Pl.bdig] at hy
    gi_wp2
    refine RoundIn.mono (F := Fence.wide.inRound l') hR ?_
    rintro e W3 ⟨rfl, hj3, hk3⟩
    have hT3 := hk3.at hT (.inl (Nat.le_refl _))
    have hA3 : Boxed W3 (W.heap.size + 1) 3 (.int .i64 (Pl.ahead v k)) := hk3.at hA (.inl (by omega))
    have hcA3 := hA3.cell
    have hfA3 := hA3.frozen
    gi_wp2
    refine ⟨⟨hJ _ _ _ hj3 ((Below.refl _ W3).setCell (p := ⟨W.heap.size + 1, 0, none⟩) (by simp) _), ?_, hA3.set _⟩, ?_⟩
    · exact Boxed.other hT3 (by omega) _
    · exact (hk3.sub (by omega) (by omega)).setCell (p := ⟨W.heap.size + 1, 0, none⟩) (by simp; omega) (by simp) _
  case done =>
    rintro X ⟨hj, _, _⟩ hK
    gi_wp2
    refine ⟨by simp, .inl ⟨_, _, rfl, run_takeDeferred hK, ?_⟩⟩
    exact ⟨_, results_none rfl _ _ _, ⟨⟨_, rfl⟩, hJ _ _ _ hj (below_put (by omega) _)⟩⟩
set_option maxHeartbeats 4000000 in
theorem signedGives {v : Int} (h : Pl.wOk v = true) (b : Nat) : Gives Try.prog 64 #[.pointer (some ⟨b, 0, none⟩)] b (.cells #[.int .i64 v] 3 (0, 0)) (encP (Pl.sdig v)) 16 := fun l J W hb hJ hY h0 => by
  have hv := Pl.wOk_ok h
  have hbx : Boxed W b 3 (.int .i64 v) := hb
  have hcell := hbx.cell
  have hc2 : ∀ o1, (W.alloc o1).cell? ⟨b, 0, none⟩ = some (.int .i64 v) := fun o1 => (((Below.refl _ W).alloc (Nat.le_refl _) o1).cell hbx.lt).trans hcell
  refine (callsIn_wide (n := 9)).1 (callsIn_of_wp_marks Try.func64 rfl trivial ?_ rfl)
  simp only [Try.ntmps64, List.size_toArray, List.length_cons, List.length_nil, Nat.reduceAdd, Nat.reduceSub, Array.replicate_succ, Array.replicate_zero, List.push_toArray, List.append_toArray, List.nil_append, List.cons_append]
  gi_wp2_with (refine ⟨trivial, ?_⟩; gi_at_call 48; refine (callsIn_wide.2 (plainDigits _ _)).mono ?_; rintro e w' ⟨rfl, rfl⟩)
  have hT : Boxed ((W.alloc (.cells #[.func (.yield l) #[] #[]] 42)).alloc (.cells #[.int .i64 v] 3)) W.heap.size 42 (.func (.yield l) #[] #[]) := (Boxed.new W _ _).alloc _
  have hC : Boxed ((W.alloc (.cells #[.func (.yield l) #[] #[]] 42)).alloc (.cells #[.int .i64 v] 3)) (W.heap.size + 1) 3 (.int .i64 v) := by
    have := Boxed.new (W.alloc (.cells #[.func (.yield l) #[] #[]] 42)) 3 (.int .i64 v)
    rwa [World.size_alloc] at this
  have hBW : Below W.heap.size W ((W.alloc (.cells #[.func (.yield l) #[] #[]] 42)).alloc (.cells #[.int .i64 v] 3)) := ((Below.refl _ W).alloc (Nat.le_refl _) _).alloc (by simp) _
  have hSz : ((W.alloc (.cells #[.func (.yield l) #[] #[]] 42)).alloc (.cells #[.int .i64 v] 3)).heap.size = W.heap.size + 2 := by simp
  revert hT hC hBW hSz
  generalize (W.alloc (.cells #[.func (.yield l) #[] #[]] 42)).alloc (.cells #[.int .i64 v] 3) = w0
  intro hT hC hBW hSz
  refine wp_range (plainGives h (W.heap.size + 1)) rfl (enters_of Try.func66 (by kernel_rfl) rfl) hC (fun _ => rfl)
    (fun k X => J k X ∧ Boxed X W.heap.size 42 (.func (.yield l) #[] #[]))
    (fun k X Y hs hb => ⟨hJ k X Y hs.1 (hb.mono (by omega)), boxed_below hs.2 hb (by omega)⟩)
    ⟨hJ 0 _ _ h0 hBW, hT⟩
    (fun k => { tmps := #[.func (.yield l) #[] #[], .pointer (some ⟨b, 0, none⟩), .pointer (some ⟨W.heap.size, 0, none⟩), .int .i64 (k : Int), .int .i64 (Pl.wbit v k), .int .i64 v, .func (.func 66) #[] #[.pointer (some ⟨W.heap.size + 1, 0, none⟩)], .int .i64 (k : Int), .int .i64 (Pl.wbit v k), undef, undef, undef, undef, undef, undef, undef, undef, undef], defers := [] }) ?assign ?body ?done
  case assign =>
    intro l' k X K hK
    gi_wp2
    exact hK
  case body =>
    rintro l' k X hk ⟨hj, hT⟩ hs
    have hcT := hT.cell
    have hw1 := Pl.wbit_bd v k
    obtain ⟨fn, tmps, assign, body, hy, hR⟩ := yield_any 2 (hY k X hk hj (by omega))
    have hend : ∀ W3, (J (k + 1) W3 ∧ Keep W.heap.size b X W3) → ((J (k + 1) W3 ∧ Boxed W3 W.heap.size 42 (.func (.yield l) #[] #[])) ∧ Keep w0.heap.size (W.heap.size + 1) X W3) :=
      fun W3 ⟨hj3, hk3⟩ => ⟨⟨hj3, hk3.at hT (.inl (Nat.le_refl _))⟩, hk3.sub (by omega) (by omega)⟩
    by_cases h15 : k = 15
    · subst h15
      have hy2 : Sem.run Try.prog (Instr.yield l #[.int .i64 15, .int .i64 (-Pl.wbit v 15)]) X = Result.ok (Next.round l fn tmps assign body) X := hy
      clear hy
      gi_wp2
      refine RoundIn.mono (F := Fence.wide.inRound l') hR ?_
      rintro e W3 ⟨rfl, hj3, hk3⟩
      gi_wp2
      exact hend W3 ⟨hj3, hk3⟩
    · have hne : ¬ ((k : Int) = 15) := by omega
      dsimp only [encP, Pl.sdig] at hy
      rw [if_neg h15] at hy
      gi_wp2
      refine RoundIn.mono (F := Fence.wide.inRound l') hR ?_
      rintro e W3 ⟨rfl, hj3, hk3⟩
      gi_wp2
      exact hend W3 ⟨hj3, hk3⟩
  case done =>
    rintro X ⟨hj, _⟩ hK
    gi_wp2
    refine ⟨by simp, .inl ⟨_, _, rfl, run_takeDeferred hK, ?_⟩⟩
    exact ⟨_, results_none rfl _ _ _, ⟨⟨_, rfl⟩, hJ _ _ _ hj (below_put (by omega) _)⟩⟩
end Go.Proofs.Ytjgcadighogmkaa
