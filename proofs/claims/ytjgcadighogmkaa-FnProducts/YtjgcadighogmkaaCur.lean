/- What the model's reader of drawn bytes does: its calls change its own three cells and no other block that was there; what they answer lies within the bounds that the draws need. -/
import Derived.Test.YtjgcadighogmkaaGrow
namespace Go.Proofs.Ytjgcadighogmkaa
open Go.RowKit
set_option linter.unusedVariables false

/-- a reader of bytes, laid in block b: the bytes, the place, the seed -/
structure Cur (w : World) (b : Nat) (a : Option Addr) (len cap : Nat) (p : Int) : Prop where
  c0 : w.cell? ⟨b, 0, none⟩ = some (.slice a len cap)
  c1 : w.cell? ⟨b, 1, none⟩ = some (.int .i64 p)
  c2 : ∃ sd : Int, w.cell? ⟨b, 2, none⟩ = some (.int .u64 sd)
  f1 : w.frozen? ⟨b, 1, none⟩ = false
  f2 : w.frozen? ⟨b, 2, none⟩ = false
  hl : len ≤ maxLen
  row : ∀ i : Nat, i < len → ∃ (g off : Nat) (z : Int), a = some ⟨g, off, none⟩ ∧ g ≠ b ∧ w.cell? ⟨g, off + i, none⟩ = some (.int .u8 z) ∧ 0 ≤ z ∧ z ≤ 255

theorem Cur.lt {w : World} {b : Nat} {a : Option Addr} {len cap : Nat} {p : Int} (h : Cur w b a len cap p) : b < w.heap.size := World.block_lt_of_cell? _ _ h.c0

theorem Cur.drew {w : World} {b : Nat} {a : Option Addr} {len cap : Nat} {p : Int} (h : Cur w b a len cap p) : Cur w.drew b a len cap p := ⟨h.c0, h.c1, h.c2, h.f1, h.f2, h.hl, h.row⟩

/-- what leaves the reader's block and the bytes' block as they were leaves the reader -/
theorem Cur.kept {w w' : World} {b : Nat} {a : Option Addr} {len cap : Nat} {p : Int} {row : Option Nat} (h : Cur w b a len cap p) (hg : w.grownBy w' row) (hb : some b ≠ row) (ha : ∀ g off, a = some ⟨g, off, none⟩ → some g ≠ row) : Cur w' b a len cap p := by
  have hf : ∀ o, w'.frozen? ⟨b, o, none⟩ = w.frozen? ⟨b, o, none⟩ := fun o => World.frozen?_of_block (w := w) (hg.block b h.lt hb)
  obtain ⟨sd, c2⟩ := h.c2
  refine ⟨hg.cell h.c0 hb, hg.cell h.c1 hb, ⟨sd, hg.cell c2 hb⟩, by rw [hf]; exact h.f1, by rw [hf]; exact h.f2, h.hl, ?_⟩
  intro i hi
  obtain ⟨g, off, z, ea, hne, hc, z0, z1⟩ := h.row i hi
  exact ⟨g, off, z, ea, hne, hg.cell hc (ha g off ea), z0, z1⟩

theorem Cur.stepped {w : World} {b : Nat} {a : Option Addr} {len cap : Nat} {p : Int} (h : Cur w b a len cap p) (q v : Int) :
    Cur ((w.setCell ⟨b, 1, none⟩ (.int .i64 q)).setCell ⟨b, 2, none⟩ (.int .u64 v)) b a len cap q := by
  obtain ⟨sd, c2⟩ := h.c2
  have k2 : (w.setCell ⟨b, 1, none⟩ (.int .i64 q)).cell? ⟨b, 2, none⟩ = some (.int .u64 sd) := by rw [World.cell?_setCell_other _ _ _ _ (by simp)]; exact c2
  refine ⟨?_, ?_, ⟨v, World.cell?_setCell_same _ _ _ k2⟩, by simpa using h.f1, by simpa using h.f2, h.hl, ?_⟩
  · rw [World.cell?_setCell_other _ _ _ _ (by simp), World.cell?_setCell_other _ _ _ _ (by simp)]; exact h.c0
  · rw [World.cell?_setCell_other _ _ _ _ (by simp)]; exact World.cell?_setCell_same _ _ _ h.c1
  · intro i hi
    obtain ⟨g, off, z, ea, hne, hc, z0, z1⟩ := h.row i hi
    refine ⟨g, off, z, ea, hne, ?_, z0, z1⟩
    rw [World.cell?_setCell_other _ _ _ _ (fun e => hne (congrArg Addr.block e).symm), World.cell?_setCell_other _ _ _ _ (fun e => hne (congrArg Addr.block e).symm)]; exact hc

theorem grown_stepped (w : World) (b : Nat) (u v : Value) : w.grownBy ((w.setCell ⟨b, 1, none⟩ u).setCell ⟨b, 2, none⟩ v) (some b) :=
  grownBy_trans (grownBy_set w b 1 u) (grownBy_set _ b 2 v)

theorem and255u (x : Int) : 0 ≤ wrap64 (bits .and .u64 x 255) ∧ wrap64 (bits .and .u64 x 255) ≤ 255 := by
  have e : bits .and .u64 x 255 = x % 256 := by
    show IntKind.u64.wrap ((BitVec.ofInt 64 x &&& BitVec.ofInt 64 255).toNat : Int) = _
    rw [BitVec.toNat_and, BitVec.toNat_ofInt, show (BitVec.ofInt 64 255).toNat = 2 ^ 8 - 1 from by decide, Nat.and_two_pow_sub_one_eq_mod]
    simp only [IntKind.wrap, IntKind.bits, IntKind.signed]
    simp
    omega
  rw [e, IntWalk.wrap64_in _ ⟨by omega, by omega⟩]
  omega

theorem next_old (w : World) (b : Nat) (a : Option Addr) (len cap : Nat) (p : Int) (h : Cur w b a len cap p) (p0 : 0 ≤ p) (p1 : p ≤ 1000000) (hlt : (len : Int) ≤ p) :
    Calls Try.prog 67 #[.pointer (some ⟨b, 0, none⟩)] w fun e w' => ∃ r : Int, e = .returned (.int .i64 r) ∧ 0 ≤ r ∧ r ≤ 255 ∧ Cur w' b a len cap (p + 1) ∧ w.grownBy w' (some b) := by
  have K : Hid (Cur w b a len cap p) := h
  obtain ⟨c0, c1, ⟨sd, c2⟩, f1, f2, hl, row⟩ := h
  clear row
  unfold maxLen at hl
  go_enter Try.func67, Try.ntmps67
  go_wp2
  go_region
  go_wp2
  go_region
  go_wp2
  go_ret
  exact ⟨_, rfl, (and255u _).1, (and255u _).2, (Cur.stepped K.out _ _).drew.drew, grownBy_drew (grownBy_drew (grown_stepped _ _ _ _))⟩

theorem next_new (w : World) (b : Nat) (a : Option Addr) (len cap : Nat) (p : Int) (h : Cur w b a len cap p) (p0 : 0 ≤ p) (p1 : p ≤ 1000000) (hlt : p < (len : Int)) :
    Calls Try.prog 67 #[.pointer (some ⟨b, 0, none⟩)] w fun e w' => ∃ r : Int, e = .returned (.int .i64 r) ∧ 0 ≤ r ∧ r ≤ 255 ∧ Cur w' b a len cap (p + 1) ∧ w.grownBy w' (some b) := by
  have K : Hid (Cur w b a len cap p) := h
  obtain ⟨c0, c1, ⟨sd, c2⟩, f1, f2, hl, row⟩ := h
  obtain ⟨n, rfl⟩ := Int.eq_ofNat_of_zero_le p0
  obtain ⟨g, off, z, rfl, hne, hc, z0, z1⟩ := row n (by omega)
  clear row
  unfold maxLen at hl
  go_enter Try.func67, Try.ntmps67
  go_wp2
  go_region
  go_wp2
  go_region
  go_wp2
  go_region
  go_wp2
  go_ret
  exact ⟨_, rfl, z0, z1, (Cur.stepped K.out _ _).drew.drew.drew, grownBy_drew (grownBy_drew (grownBy_drew (grown_stepped _ _ _ _)))⟩

theorem next_any (w : World) (b : Nat) (a : Option Addr) (len cap : Nat) (p : Int) (h : Cur w b a len cap p) (p0 : 0 ≤ p) (p1 : p ≤ 1000000) :
    Calls Try.prog 67 #[.pointer (some ⟨b, 0, none⟩)] w fun e w' => ∃ r : Int, e = .returned (.int .i64 r) ∧ 0 ≤ r ∧ r ≤ 255 ∧ Cur w' b a len cap (p + 1) ∧ w.grownBy w' (some b) := by
  by_cases hlt : p < (len : Int)
  · exact next_new w b a len cap p h p0 p1 hlt
  · exact next_old w b a len cap p h p0 p1 (by omega)

end Go.Proofs.Ytjgcadighogmkaa
