/- How long the lists of answered registers are. -/
import Derived.Test.YtikmelkobbbgnaaRegPl
namespace Go.Proofs.Ytikmelkobbbgnaa.Pl
set_option linter.unusedVariables false
theorem no_len : rgNo.xs.length ≤ 4 ∧ rgNo.ys.length ≤ 4 := ⟨by decide, by decide⟩
theorem ws_len (r : Rg) (n : Int) : (wsR r n).xs.length ≤ 4 ∧ (wsR r n).ys.length ≤ 4 := by
  unfold wsR
  split
  · rename_i h
    simp only [wsOk, Bool.and_eq_true] at h
    have g := good_of h.1
    unfold withR
    split <;> simp [g.d4, g.a4]
  · exact no_len
theorem pd_len (r : Rg) (z k v : Int) : (pdR r z k v).xs.length ≤ 4 ∧ (pdR r z k v).ys.length ≤ 4 := by
  unfold pdR
  split
  · rename_i h
    simp only [pdOk, Bool.and_eq_true] at h
    have g := good_of h.1
    simp [putR, g.d4, g.a4]
  · exact no_len
theorem plc_len (r : Rg) (z m k e : Int) : (plcR r z m k e).xs.length ≤ 4 ∧ (plcR r z m k e).ys.length ≤ 4 := by
  unfold plcR
  split
  · rename_i h
    simp only [plcOk, Bool.and_eq_true] at h
    have g := good_of h.1
    unfold placeR
    split
    · simp [g.d4, g.a4]
    · split <;> simp [g.d4, g.a4]
  · exact no_len
end Go.Proofs.Ytikmelkobbbgnaa.Pl
