/- The laws on TextOf: of whatever arguments, their Go functions return true, and no block that was there has turned. -/
import Derived.Test.YtlbnllhabdnjjaaDoorInsFns
import Derived.Test.YtlbnllhabdnjjaaDoorSpecText
import Derived.Test.YtlbnllhabdnjjaaDoorImplText
namespace Go.Proofs.YtlbnllhabdnjjaaDoor
open Go.RowKit
set_option linter.unusedVariables false
theorem lawTextOf (op z r m k e s : Int) (w : World) (ht : TabP w) (wfop : (Lit.int .i64 op).wf = true) (wfz : (Lit.int .i64 z).wf = true) (wfr : (Lit.int .i64 r).wf = true) (wfm : (Lit.int .i64 m).wf = true) (wfk : (Lit.int .i64 k).wf = true) (wfe : (Lit.int .i64 e).wf = true) (wfs : (Lit.int .i64 s).wf = true) :
    Calls Tryd.prog 4 #[.agg #[.int .i64 op, .int .i64 z, .int .i64 r, .int .i64 m, .int .i64 k, .int .i64 e, .int .i64 s]] w fun r' w' => r' = .returned (.bool true) ∧ Below w.heap.size w w' := by
  have HT := hide ht
  clear ht
  have K0 := hide (kept_alloc w (.cells #[.int .i64 op, .int .i64 z, .int .i64 r, .int .i64 m, .int .i64 k, .int .i64 e, .int .i64 s] 45))
  have W0 := hide (Blk.new w #[.int .i64 op, .int .i64 z, .int .i64 r, .int .i64 m, .int .i64 k, .int .i64 e, .int .i64 s] 45)
  obtain ⟨N0, hN⟩ : ∃ N : ByteArray, N = ⟨(Pl.txt ⟨op, z, r, m, k, e, s⟩).toArray⟩ := ⟨_, rfl⟩
  have HG0 : Hid (str (Pl.txt ⟨op, z, r, m, k, e, s⟩) = .string N0) := hide (by rw [hN]; rfl)
  clear hN
  generalize hG1 : Pl.inOk ⟨op, z, r, m, k, e, s⟩ = O
  have HG1 := hide hG1
  clear hG1
  go_enter Tryd.func4, Tryd.ntmps4
  go_wp2_with fail
  refine (toIns _ _ _ _ _ _ _ _).mono ?_
  rintro r1 w1 ⟨rfl, k1⟩
  have K1 := hide (K0.out.trans k1)
  have W1 := hide (W0.out.kept0 k1)
  clear k1
  have c0 := W1.out.cell (i := 0) rfl
  have c1 := W1.out.cell (i := 1) rfl
  have c2 := W1.out.cell (i := 2) rfl
  have c3 := W1.out.cell (i := 3) rfl
  have c4 := W1.out.cell (i := 4) rfl
  have c5 := W1.out.cell (i := 5) rfl
  have c6 := W1.out.cell (i := 6) rfl
  go_wp2_with fail
  refine (specTextOf _ op z r m k e s).mono ?_
  rw [HG0.out, HG1.out]
  rintro r2 w2 ⟨rfl, k2⟩
  have K2 := hide (K1.out.trans k2)
  have W2 := hide (W1.out.kept0 k2)
  clear k2 c0 c1 c2 c3 c4 c5 c6
  have c0 := W2.out.cell (i := 0) rfl
  have c1 := W2.out.cell (i := 1) rfl
  have c2 := W2.out.cell (i := 2) rfl
  have c3 := W2.out.cell (i := 3) rfl
  have c4 := W2.out.cell (i := 4) rfl
  have c5 := W2.out.cell (i := 5) rfl
  have c6 := W2.out.cell (i := 6) rfl
  go_wp2_with fail
  refine (toIns _ _ _ _ _ _ _ _).mono ?_
  rintro r3 w3 ⟨rfl, k3⟩
  have K3 := hide (K2.out.trans k3)
  clear k3 c0 c1 c2 c3 c4 c5 c6
  go_wp2_with fail
  refine (implTextOf _ op z r m k e s wfop wfz wfr wfm wfk wfe wfs (HT.out.kept K3.out)).mono ?_
  rw [HG0.out, HG1.out]
  rintro r4 w4 ⟨rfl, k4⟩
  go_wp2_with fail
  go_ret
  exact ⟨rfl, (K3.out.trans k4).below⟩
end Go.Proofs.YtlbnllhabdnjjaaDoor
