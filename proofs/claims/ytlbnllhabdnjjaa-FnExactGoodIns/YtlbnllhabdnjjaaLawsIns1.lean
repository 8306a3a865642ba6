/- The laws on GoodIns and IsPrivileged: of whatever arguments, their Go functions return true, and no block that was there has turned. -/
import Derived.Test.YtlbnllhabdnjjaaInsFns
import Derived.Test.YtlbnllhabdnjjaaSpecIns3
import Derived.Test.YtlbnllhabdnjjaaImplInsF
namespace Go.Proofs.Ytlbnllhabdnjjaa
open Go.RowKit
set_option linter.unusedVariables false
theorem lawGoodIns (op z r m k e s : Int) (w : World) (wfop : (Lit.int .i64 op).wf = true) (wfz : (Lit.int .i64 z).wf = true) (wfr : (Lit.int .i64 r).wf = true) (wfm : (Lit.int .i64 m).wf = true) (wfk : (Lit.int .i64 k).wf = true) (wfe : (Lit.int .i64 e).wf = true) (wfs : (Lit.int .i64 s).wf = true) :
    Calls Try.prog 3 #[.agg #[.int .i64 op, .int .i64 z, .int .i64 r, .int .i64 m, .int .i64 k, .int .i64 e, .int .i64 s]] w fun r' w' => r' = .returned (.bool true) ∧ Below w.heap.size w w' := by
  have K0 := hide (kept_alloc w (.cells #[.int .i64 op, .int .i64 z, .int .i64 r, .int .i64 m, .int .i64 k, .int .i64 e, .int .i64 s] 25))
  have W0 := hide (Blk.new w #[.int .i64 op, .int .i64 z, .int .i64 r, .int .i64 m, .int .i64 k, .int .i64 e, .int .i64 s] 25)
  generalize hG0 : Pl.inOk ⟨op, z, r, m, k, e, s⟩ = O
  have HG0 := hide hG0
  clear hG0
  go_enter Try.func3, Try.ntmps3
  go_wp2_with fail
  refine (toIns _ _ _ _ _ _ _ _).mono ?_
  rintro r1 w1 ⟨rfl, k1⟩
  have K1 := hide (K0.out.trans k1)
  have W1 := hide (W0.out.kept0 k1)
  clear k1
  have c0 := W1.out.cell (i := 0) rfl
  have c1 := W1.out.cell (i := 1) rfl
  have c2 := W1.out.cell (i := 2) rfl
  have c3 := W1.out.cell (i := 3) rfl
  have c4 := W1.out.cell (i := 4) rfl
  have c5 := W1.out.cell (i := 5) rfl
  have c6 := W1.out.cell (i := 6) rfl
  go_wp2_with fail
  refine (specGoodIns _ op z r m k e s).mono ?_
  rw [HG0.out]
  rintro r2 w2 ⟨rfl, k2⟩
  have K2 := hide (K1.out.trans k2)
  have W2 := hide (W1.out.kept0 k2)
  clear k2 c0 c1 c2 c3 c4 c5 c6
  have c0 := W2.out.cell (i := 0) rfl
  have c1 := W2.out.cell (i := 1) rfl
  have c2 := W2.out.cell (i := 2) rfl
  have c3 := W2.out.cell (i := 3) rfl
  have c4 := W2.out.cell (i := 4) rfl
  have c5 := W2.out.cell (i := 5) rfl
  have c6 := W2.out.cell (i := 6) rfl
  go_wp2_with fail
  refine (toIns _ _ _ _ _ _ _ _).mono ?_
  rintro r3 w3 ⟨rfl, k3⟩
  have K3 := hide (K2.out.trans k3)
  clear k3 c0 c1 c2 c3 c4 c5 c6
  go_wp2_with fail
  refine (implGoodIns _ op z r m k e s wfop wfz wfr wfm wfk wfe wfs).mono ?_
  rw [HG0.out]
  rintro r4 w4 ⟨rfl, k4⟩
  go_wp2_with fail
  go_ret
  exact ⟨rfl, (K3.out.trans k4).below⟩
theorem lawIsPriv (op z r m k e s : Int) (w : World) (wfop : (Lit.int .i64 op).wf = true) (wfz : (Lit.int .i64 z).wf = true) (wfr : (Lit.int .i64 r).wf = true) (wfm : (Lit.int .i64 m).wf = true) (wfk : (Lit.int .i64 k).wf = true) (wfe : (Lit.int .i64 e).wf = true) (wfs : (Lit.int .i64 s).wf = true) :
    Calls Try.prog 9 #[.agg #[.int .i64 op, .int .i64 z, .int .i64 r, .int .i64 m, .int .i64 k, .int .i64 e, .int .i64 s]] w fun r' w' => r' = .returned (.bool true) ∧ Below w.heap.size w w' := by
  have K0 := hide (kept_alloc w (.cells #[.int .i64 op, .int .i64 z, .int .i64 r, .int .i64 m, .int .i64 k, .int .i64 e, .int .i64 s] 25))
  have W0 := hide (Blk.new w #[.int .i64 op, .int .i64 z, .int .i64 r, .int .i64 m, .int .i64 k, .int .i64 e, .int .i64 s] 25)
  generalize hG0 : (Pl.inOk ⟨op, z, r, m, k, e, s⟩ && Pl.priv ⟨op, z, r, m, k, e, s⟩) = N
  have HG0 := hide hG0
  clear hG0
  generalize hG1 : Pl.inOk ⟨op, z, r, m, k, e, s⟩ = O
  have HG1 := hide hG1
  clear hG1
  go_enter Try.func9, Try.ntmps9
  go_wp2_with fail
  refine (toIns _ _ _ _ _ _ _ _).mono ?_
  rintro r1 w1 ⟨rfl, k1⟩
  have K1 := hide (K0.out.trans k1)
  have W1 := hide (W0.out.kept0 k1)
  clear k1
  have c0 := W1.out.cell (i := 0) rfl
  have c1 := W1.out.cell (i := 1) rfl
  have c2 := W1.out.cell (i := 2) rfl
  have c3 := W1.out.cell (i := 3) rfl
  have c4 := W1.out.cell (i := 4) rfl
  have c5 := W1.out.cell (i := 5) rfl
  have c6 := W1.out.cell (i := 6) rfl
  go_wp2_with fail
  refine (specIsPriv _ op z r m k e s).mono ?_
  rw [HG0.out, HG1.out]
  rintro r2 w2 ⟨rfl, k2⟩
  have K2 := hide (K1.out.trans k2)
  have W2 := hide (W1.out.kept0 k2)
  clear k2 c0 c1 c2 c3 c4 c5 c6
  have c0 := W2.out.cell (i := 0) rfl
  have c1 := W2.out.cell (i := 1) rfl
  have c2 := W2.out.cell (i := 2) rfl
  have c3 := W2.out.cell (i := 3) rfl
  have c4 := W2.out.cell (i := 4) rfl
  have c5 := W2.out.cell (i := 5) rfl
  have c6 := W2.out.cell (i := 6) rfl
  go_wp2_with fail
  refine (toIns _ _ _ _ _ _ _ _).mono ?_
  rintro r3 w3 ⟨rfl, k3⟩
  have K3 := hide (K2.out.trans k3)
  clear k3 c0 c1 c2 c3 c4 c5 c6
  go_wp2_with fail
  refine (implIsPriv _ op z r m k e s wfop wfz wfr wfm wfk wfe wfs).mono ?_
  rw [HG0.out, HG1.out]
  rintro r4 w4 ⟨rfl, k4⟩
  go_wp2_with fail
  go_ret
  exact ⟨rfl, (K3.out.trans k4).below⟩
end Go.Proofs.Ytlbnllhabdnjjaa
