/- The law on EncodeIns: of whatever instruction, its Go function returns true, and no block that was there has turned. -/
import Derived.Test.YtlbnllhabdnjjaaInsFns
import Derived.Test.YtlbnllhabdnjjaaSpecIns4
import Derived.Test.YtlbnllhabdnjjaaImplInsF
namespace Go.Proofs.Ytlbnllhabdnjjaa
open Go.RowKit
set_option linter.unusedVariables false
theorem enc_len (x : Pl.In) : (Pl.enc x).length ≤ 2000000 := by
  unfold Pl.enc
  split
  · have := Pl.encode_len x; omega
  · simp
set_option maxRecDepth 100000 in
set_option maxHeartbeats 8000000 in
theorem lawEncodeIns (op z r m k e s : Int) (w : World) (wfop : (Lit.int .i64 op).wf = true) (wfz : (Lit.int .i64 z).wf = true) (wfr : (Lit.int .i64 r).wf = true) (wfm : (Lit.int .i64 m).wf = true) (wfk : (Lit.int .i64 k).wf = true) (wfe : (Lit.int .i64 e).wf = true) (wfs : (Lit.int .i64 s).wf = true) :
    Calls Try.prog 4 #[.agg #[.int .i64 op, .int .i64 z, .int .i64 r, .int .i64 m, .int .i64 k, .int .i64 e, .int .i64 s]] w fun r' w' => r' = .returned (.bool true) ∧ Below w.heap.size w w' := by
  have WA := hide (Blk.new w #[.int .i64 op, .int .i64 z, .int .i64 r, .int .i64 m, .int .i64 k, .int .i64 e, .int .i64 s] 25)
  have Bel := hide (kept_alloc w (.cells #[.int .i64 op, .int .i64 z, .int .i64 r, .int .i64 m, .int .i64 k, .int .i64 e, .int .i64 s] 25)).below
  have bl := enc_len ⟨op, z, r, m, k, e, s⟩
  generalize hLl : Pl.enc ⟨op, z, r, m, k, e, s⟩ = L at bl
  generalize hKk : Pl.inOk ⟨op, z, r, m, k, e, s⟩ = OK
  have HLL := hide hLl
  have HKK := hide hKk
  clear hLl hKk
  go_enter Try.func4, Try.ntmps4
  go_wp2_with fail
  refine (toIns _ _ _ _ _ _ _ _).mono ?_
  rintro r9 w1 ⟨rfl, k9⟩
  have Beln := hide (below_kept Bel.out k9 (by omega))
  have WAn := hide (WA.out.kept k9 (by omega))
  clear Bel WA
  have Bel := Beln
  have WA := WAn
  clear Beln WAn
  have nw1 := k9.size
  clear k9
  simp only [World.size_alloc] at nw1
  go_wp2_with fail
  refine (specEncodeIns _ op z r m k e s).mono ?_
  rw [HLL.out, HKK.out]
  rintro r9 w2 ⟨d0, e0, rfl, s9, k9⟩
  have Beln := hide (below_kept Bel.out k9 (by omega))
  have WAn := hide (WA.out.kept k9 (by omega))
  clear Bel WA
  have Bel := Beln
  have WA := WAn
  clear Beln WAn
  have n2 := k9.size
  have S0 := hide s9
  clear k9 s9
  have c0 := WA.out.cell (i := 0) rfl
  have c1 := WA.out.cell (i := 1) rfl
  have c2 := WA.out.cell (i := 2) rfl
  have c3 := WA.out.cell (i := 3) rfl
  have c4 := WA.out.cell (i := 4) rfl
  have c5 := WA.out.cell (i := 5) rfl
  have c6 := WA.out.cell (i := 6) rfl
  go_wp2_with fail
  clear c0 c1 c2 c3 c4 c5 c6
  refine (toIns _ _ _ _ _ _ _ _).mono ?_
  rintro r9 w3 ⟨rfl, k9⟩
  have Beln := hide (below_kept Bel.out k9 (by omega))
  have WAn := hide (WA.out.kept k9 (by omega))
  have S0n := hide (S0.out.kept k9 (by omega))
  clear Bel WA S0
  have Bel := Beln
  have WA := WAn
  have S0 := S0n
  clear Beln WAn S0n
  have nw3 := k9.size
  clear k9
  go_wp2_with fail
  refine (implEncodeIns _ op z r m k e s wfop wfz wfr wfm wfk wfe wfs).mono ?_
  rw [HLL.out, HKK.out]
  rintro r9 w4 ⟨d1, e1, rfl, s9, k9⟩
  have Beln := hide (below_kept Bel.out k9 (by omega))
  have WAn := hide (WA.out.kept k9 (by omega))
  have S0n := hide (S0.out.kept k9 (by omega))
  clear Bel WA S0
  have Bel := Beln
  have WA := WAn
  have S0 := S0n
  clear Beln WAn S0n
  have nw4 := k9.size
  have S1 := hide s9
  clear k9 s9
  go_wp2_with fail
  refine (eqIntS _ d1 d0 _ _ L L S1.out.row S0.out.row bl bl).mono ?_
  rintro r9 w5 ⟨rfl, gr⟩
  rw [decide_eq_true (rfl : L = L)]
  have k9 := kept_grown gr
  have Beln := hide (below_kept Bel.out k9 (by omega))
  have WAn := hide (WA.out.kept k9 (by omega))
  have S0n := hide (S0.out.kept k9 (by omega))
  have S1n := hide (S1.out.kept k9 (by omega))
  clear Bel WA S0 S1
  have Bel := Beln
  have WA := WAn
  have S0 := S0n
  have S1 := S1n
  clear Beln WAn S0n S1n
  have nw5 := k9.size
  clear k9 gr
  go_wp2_with fail
  refine (markSlot _ w3.heap.size _ d1 L 1 (S1.out.slot (by omega)) bl (by decide) (by decide)).mono ?_
  rintro r9 w6 ⟨rfl, sl, gr⟩
  have k9 : Kept w3.heap.size w4.heap.size _ w6 := kept_row gr S1.out.blk_in
  have M := hide (S1.out.again sl)
  clear S1
  have Beln := hide (below_kept Bel.out k9 (by omega))
  have WAn := hide (WA.out.kept k9 (by omega))
  have S0n := hide (S0.out.kept k9 (by omega))
  clear Bel WA S0
  have Bel := Beln
  have WA := WAn
  have S0 := S0n
  clear Beln WAn S0n
  have n6 := k9.size
  clear k9 sl gr
  go_wp2_with fail
  refine (heldIntS _ d1 _ L.length 1 M.out.row bl (by decide) (by decide)).mono ?_
  rintro r9 w7 ⟨rfl, gr⟩
  have k9 := kept_grown gr
  have Beln := hide (below_kept Bel.out k9 (by omega))
  have WAn := hide (WA.out.kept k9 (by omega))
  have S0n := hide (S0.out.kept k9 (by omega))
  have Mn := hide (M.out.kept k9 (by omega))
  clear Bel WA S0 M
  have Bel := Beln
  have WA := WAn
  have S0 := S0n
  have M := Mn
  clear Beln WAn S0n Mn
  have nw7 := k9.size
  clear k9 gr
  have c0 := WA.out.cell (i := 0) rfl
  have c1 := WA.out.cell (i := 1) rfl
  have c2 := WA.out.cell (i := 2) rfl
  have c3 := WA.out.cell (i := 3) rfl
  have c4 := WA.out.cell (i := 4) rfl
  have c5 := WA.out.cell (i := 5) rfl
  have c6 := WA.out.cell (i := 6) rfl
  go_wp2_with fail
  clear c0 c1 c2 c3 c4 c5 c6
  refine (toIns _ _ _ _ _ _ _ _).mono ?_
  rintro r9 w8 ⟨rfl, k9⟩
  have Beln := hide (below_kept Bel.out k9 (by omega))
  have WAn := hide (WA.out.kept k9 (by omega))
  have S0n := hide (S0.out.kept k9 (by omega))
  have Mn := hide (M.out.kept k9 (by omega))
  clear Bel WA S0 M
  have Bel := Beln
  have WA := WAn
  have S0 := S0n
  have M := Mn
  clear Beln WAn S0n Mn
  have nw8 := k9.size
  clear k9
  go_wp2_with fail
  refine (implEncodeIns _ op z r m k e s wfop wfz wfr wfm wfk wfe wfs).mono ?_
  rw [HLL.out, HKK.out]
  rintro r9 w9 ⟨d2, e2, rfl, s9, k9⟩
  have Beln := hide (below_kept Bel.out k9 (by omega))
  have WAn := hide (WA.out.kept k9 (by omega))
  have S0n := hide (S0.out.kept k9 (by omega))
  have Mn := hide (M.out.kept k9 (by omega))
  clear Bel WA S0 M
  have Bel := Beln
  have WA := WAn
  have S0 := S0n
  have M := Mn
  clear Beln WAn S0n Mn
  have nw9 := k9.size
  have S2 := hide s9
  clear k9 s9
  go_wp2_with fail
  refine (eqIntS _ d2 d0 _ _ L L S2.out.row S0.out.row bl bl).mono ?_
  rintro r9 w10 ⟨rfl, gr⟩
  rw [decide_eq_true (rfl : L = L)]
  have k9 := kept_grown gr
  have Beln := hide (below_kept Bel.out k9 (by omega))
  have WAn := hide (WA.out.kept k9 (by omega))
  have S0n := hide (S0.out.kept k9 (by omega))
  have Mn := hide (M.out.kept k9 (by omega))
  have S2n := hide (S2.out.kept k9 (by omega))
  clear Bel WA S0 M S2
  have Bel := Beln
  have WA := WAn
  have S0 := S0n
  have M := Mn
  have S2 := S2n
  clear Beln WAn S0n Mn S2n
  have nw10 := k9.size
  clear k9 gr
  go_wp2_with fail
  refine (heldIntS _ d1 _ L.length 1 M.out.row bl (by decide) (by decide)).mono ?_
  rintro r9 w11 ⟨rfl, gr⟩
  have k9 := kept_grown gr
  have Beln := hide (below_kept Bel.out k9 (by omega))
  have WAn := hide (WA.out.kept k9 (by omega))
  have S0n := hide (S0.out.kept k9 (by omega))
  have Mn := hide (M.out.kept k9 (by omega))
  have S2n := hide (S2.out.kept k9 (by omega))
  clear Bel WA S0 M S2
  have Bel := Beln
  have WA := WAn
  have S0 := S0n
  have M := Mn
  have S2 := S2n
  clear Beln WAn S0n Mn S2n
  have nw11 := k9.size
  clear k9 gr
  go_wp2_with fail
  go_ret
  exact ⟨rfl, Bel.out⟩
end Go.Proofs.Ytlbnllhabdnjjaa
