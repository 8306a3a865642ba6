/- What the model's Booth digits, and its products with signs, are. -/
import Derived.Test.YtjgcadighogmkaaSpecMul
namespace Go.Proofs.Ytjgcadighogmkaa
open Go.RowKit
set_option linter.unusedVariables false
theorem slotIn_rowM {w : World} {base n : Nat} {v : Value} {xs : List Int} (h : w.ownsRow base 3 1 v n (xs.map (Value.int .i64))) : ∃ (b : Option Addr) (cb : Nat), v = .slice b n cb ∧ SlotIn w base w.heap.size b xs ∧ n ≤ cb := by
  have h9 := h
  rcases h with ⟨hl, ⟨rfl, e⟩ | ⟨g, cap, cur, e, hb, hgg, hn, _, hsz, ht⟩⟩
  · subst e
    exact ⟨none, 0, rfl, .inl ⟨rfl, by simpa using hl⟩, Nat.le_refl _⟩
  · subst e
    exact ⟨some ⟨g, 0, none⟩, cap, rfl, .inr ⟨g, rfl, (h9.lt g rfl).1, (h9.lt g rfl).2, own_of_row h9⟩, hn⟩
theorem bit_at (v : Int) (k : Nat) : bits .and .i64 (v / 2 ^ k) 1 = Pl.wbit v k := by rw [Pl.and1]; rfl
theorem ahead_bd (v : Int) (k : Nat) : 0 ≤ Pl.ahead v k ∧ Pl.ahead v k ≤ 1 := by
  cases k with
  | zero => exact ⟨Int.le_refl _, (by show (0 : Int) ≤ 1; decide)⟩
  | succ k => have := Pl.wbit_bd v k; show 0 ≤ Pl.wbit v k ∧ Pl.wbit v k ≤ 1; omega
set_option maxRecDepth 20000 in
set_option maxHeartbeats 4000000 in
theorem specBooth (v : Int) (w : World) (h : Pl.wOk v = true) : Calls Try.prog 41 #[.int .i64 v] w fun e w' => ∃ (d : Option Addr) (c : Nat), e = .returned (.slice d (Pl.booth v 16).length c) ∧ SlotIn w' w.heap.size w'.heap.size d (Pl.booth v 16) ∧ Kept 0 0 w w' := by
  obtain ⟨v0, v1⟩ := Pl.wOk_ok h
  obtain ⟨i, hi0, hz0, hz1, hz2⟩ := info_parts Try.info3
  go_enter Try.func41, Try.ntmps41
  go_wp2_with fail
  go_loopw [3, 4, 5, 6] (fun o a q _ wr => ∃ k : Nat, k ≤ 16 ∧ q = .int .i64 k ∧ a = .int .i64 (Pl.ahead v k) ∧ wr.ownsRow w.heap.size 3 1 o (Pl.booth v k).length ((Pl.booth v k).map (Value.int .i64)) ∧ Kept 0 0 w wr) (fun _ _ q _ _ => 16 - (intOf q).toNat)
  case atStart => exact ⟨0, by omega, rfl, rfl, World.ownsRow_nil _ _ _ _, Kept.refl _ _ _⟩
  case round =>
    obtain ⟨k, hk, rfl, rfl, hown, hkept⟩ := hrel
    have HK := hide hkept
    have HO := hide hown
    clear hkept hown
    by_cases hlt : k < 16
    · have hw := bit_at v k
      obtain ⟨A0, A1⟩ := ahead_bd v k
      have hbb := Pl.wbit_bd v k
      have HAN : Hid (Pl.ahead v (k + 1) = Pl.wbit v k) := hide rfl
      have G : Hid (Pl.booth v (k + 1) = Pl.booth v k ++ [Pl.ahead v k - Pl.wbit v k]) := hide (Pl.booth_snoc v k)
      have HLL := hide (Pl.booth_len v k)
      obtain ⟨A, hA⟩ : ∃ A, Pl.ahead v k = A := ⟨_, rfl⟩
      obtain ⟨B, hB⟩ : ∃ B, Pl.wbit v k = B := ⟨_, rfl⟩
      rw [hA] at A0 A1 G ⊢
      rw [hB] at hw hbb HAN G
      have B0 : 0 ≤ B := by omega
      have B1 : B ≤ 1 := by omega
      clear hA hB hbb
      have O2 := hide (HO.out.alloc (.cells #[.int .i64 (A - B)] 3))
      have BN := hide (Blk.new wr #[.int .i64 (A - B)] 3)
      have s2 := HK.out.size
      go_wp2_with (first | (at_builtin; refine wpList_append_own _ rfl _ _ 28 rfl w.heap.size 3 i (.int .i64 0) 1 8 Try.underlying28 hi0 hz0 hz1 hz2 rfl (by decide) _ _ _ rfl O2.out ⟨wr.heap.size, 0, none⟩ 1 1 [.int .i64 (A - B)] rfl rfl ?c1 ?c2 ?c3 ?c4 ?c5 ?_))
      case c1 => exact World.news_of_block (cs := #[.int .i64 (A - B)]) (t := 3) (fr := (0, 0)) BN.out
      case c2 => intro u hu; simp at hu; rcases hu with rfl; rfl
      case c3 => have := HLL.out; unfold maxLen; omega
      case c4 => have := HLL.out; omega
      case c5 => have := HLL.out; simp; omega
      intro v' w4 hown' hgr _
      have HO4 := hide hown'
      have K4 := hide (kept_over (kept_new HK.out (.cells #[.int .i64 (A - B)] 3)) (kept_row (lo := w.heap.size) (hi := wr.heap.size + 1) hgr (fun g hg => by have q := O2.out.lt g hg; simpa using q)) (Nat.le_refl _))
      clear hown' hgr
      go_wp2_with fail
      go_roundw
      case rel => exact ⟨k + 1, by omega, by go_num, by rw [HAN.out], by rw [G.out, List.length_append, List.map_append]; exact HO4.out, K4.out⟩
      case measure => simp [intOf]; omega
    · obtain rfl : k = 16 := by omega
      obtain ⟨d, c, rfl, hS, _⟩ := slotIn_rowM HO.out
      go_wp2_with fail
      go_ret
      exact ⟨d, c, rfl, hS, HK.out⟩
def Pl.bdV (v : Int) : List Int := if Pl.wOk v = true then Pl.booth v 16 else []
theorem specBoothDigits (v : Int) (w : World) : Calls Try.prog 21 #[.int .i64 v] w fun e w' => ∃ (d : Option Addr) (c : Nat), e = .returned (.tuple #[.slice d (Pl.bdV v).length c, .bool (Pl.wOk v)]) ∧ SlotIn w' w.heap.size w'.heap.size d (Pl.bdV v) ∧ Kept 0 0 w w' := by
  cases h : Pl.wOk v
  · have E : Hid (Pl.bdV v = []) := hide (by simp [Pl.bdV, h])
    go_enter Try.func21, Try.ntmps21
    go_wp2_with (go_at_call 40; refine (l6WordM _ _).mono ?_; rintro e9 w9 ⟨rfl, hw⟩; have hw2 := hw.symm; clear hw; subst hw2; rw [h])
    go_ret2
    exact ⟨none, 0, by rw [E.out]; rfl, .inl ⟨rfl, E.out⟩, Kept.refl _ _ _⟩
  · have E : Hid (Pl.bdV v = Pl.booth v 16) := hide (by simp [Pl.bdV, h])
    go_enter Try.func21, Try.ntmps21
    go_wp2_with (first | (go_at_call 40; refine (l6WordM _ _).mono ?_; rintro e9 w9 ⟨rfl, hw⟩; have hw2 := hw.symm; clear hw; subst hw2; rw [h]) | (go_at_call 41; refine (specBooth v _ h).mono ?_; rintro e9 w2 ⟨d, c, rfl, hS, k2⟩))
    go_ret2
    exact ⟨d, c, by rw [E.out]; rfl, by rw [E.out]; exact hS, k2⟩
theorem l1TopB (w : World) : Calls Try.prog 69 #[.int .i64 2] w fun e w' => e = .returned (.int .i64 65536) ∧ w' = w := by
  go_enter Try.func69, Try.ntmps69
  go_wp2
  go_ret
  exact ⟨rfl, rfl⟩
theorem l1SignedB (v : Int) (w : World) (h0 : 0 ≤ v) (h1 : v < 65536) :
    Calls Try.prog 63 #[.int .i64 2, .int .i64 v] w fun e w' => e = .returned (.int .i64 (Pl.sg 2 v)) ∧ w' = w := by
  by_cases h : 32768 ≤ v
  · go_enter Try.func63, Try.ntmps63
    go_wp2_with fail
    refine (l1TopB _).mono ?_
    rintro e w' ⟨rfl, rfl⟩
    go_wp2_with fail
    refine (l1TopB _).mono ?_
    rintro e w' ⟨rfl, rfl⟩
    go_wp2_with fail
    go_ret
    exact ⟨rI (by simp [Pl.sg, Pl.top]; omega), rfl⟩
  · go_enter Try.func63, Try.ntmps63
    go_wp2_with fail
    refine (l1TopB _).mono ?_
    rintro e w' ⟨rfl, rfl⟩
    go_wp2_with fail
    go_ret
    exact ⟨rI (by simp [Pl.sg, Pl.top]; omega), rfl⟩
theorem l9Signed (v : Int) (w : World) (h : Pl.wOk v = true) : Calls Try.prog 42 #[.int .i64 v] w fun e w' => e = .returned (.int .i64 (Pl.sg 2 v)) ∧ w' = w := by
  obtain ⟨v0, v1⟩ := Pl.wOk_ok h
  go_enter Try.func42, Try.ntmps42
  go_wp2_with (go_at_call 63; refine (l1SignedB v _ v0 (by omega)).mono ?_; rintro e9 w9 ⟨rfl, hw⟩; have hw2 := hw.symm; clear hw; subst hw2)
  go_ret
  exact ⟨rfl, rfl⟩
theorem l9Two (p : Int) (w : World) : Calls Try.prog 43 #[.int .i64 p] w fun e w' => e = .returned (.tuple #[.int .i64 (Pl.hiW p), .int .i64 (Pl.loW p)]) ∧ w' = w := by
  have h1 := Pl.and65535 (p / 65536)
  have h2 := Pl.and65535 p
  go_enter Try.func43, Try.ntmps43
  go_wp2
  go_ret2
  exact ⟨rfl, rfl⟩
theorem specMulSigned (a b : Int) (w : World) : Calls Try.prog 16 #[.int .i64 a, .int .i64 b] w fun e w' => e = .returned (.tuple #[.int .i64 (Pl.smH a b), .int .i64 (Pl.smL a b), .bool (Pl.ok2 a b)]) ∧ w' = w := by
  unfold Pl.smH Pl.smL Pl.ok2
  cases ha : Pl.wOk a
  · go_enter Try.func16, Try.ntmps16
    go_wp2_with (go_at_call 40; refine (l6WordM _ _).mono ?_; rintro e9 w9 ⟨rfl, hw⟩; have hw2 := hw.symm; clear hw; subst hw2; rw [ha])
    go_ret3
    exact ⟨rfl, rfl⟩
  · cases hb : Pl.wOk b
    · go_enter Try.func16, Try.ntmps16
      go_wp2_with (first | (go_at_call 40; have z9 := Z1; refine (l6WordM b _).mono ?_; rintro e9 w9 ⟨rfl, hw⟩; have hw2 := hw.symm; clear hw; subst hw2; rw [hb]) | (go_at_call 40; refine (l6WordM a _).mono ?_; rintro e9 w9 ⟨rfl, hw⟩; have hw2 := hw.symm; clear hw; subst hw2; rw [ha]; have Z1 : True := trivial))
      go_ret3
      exact ⟨rfl, rfl⟩
    · obtain ⟨a0, a1⟩ := Pl.wOk_ok ha
      obtain ⟨b0, b1⟩ := Pl.wOk_ok hb
      obtain ⟨s0, s1⟩ := Pl.sg_bd2 a0 (by omega)
      obtain ⟨t0, t1⟩ := Pl.sg_bd2 b0 (by omega)
      obtain ⟨m0, m1⟩ := smul_bd s0 s1 (by omega : -65536 ≤ Pl.sg 2 b) (by omega)
      obtain ⟨P, hP⟩ : ∃ P, Pl.sg 2 a * Pl.sg 2 b = P := ⟨_, rfl⟩
      rw [hP] at m0 m1 ⊢
      go_enter Try.func16, Try.ntmps16
      go_wp2_with (first | (go_at_call 40; have z9 := Z1; refine (l6WordM b _).mono ?_; rintro e9 w9 ⟨rfl, hw⟩; have hw2 := hw.symm; clear hw; subst hw2; rw [hb]) | (go_at_call 40; refine (l6WordM a _).mono ?_; rintro e9 w9 ⟨rfl, hw⟩; have hw2 := hw.symm; clear hw; subst hw2; rw [ha]; have Z1 : True := trivial) | (go_at_call 42; have z9 := Z2; refine (l9Signed b _ hb).mono ?_; rintro e9 w9 ⟨rfl, hw⟩; have hw2 := hw.symm; clear hw; subst hw2) | (go_at_call 42; refine (l9Signed a _ ha).mono ?_; rintro e9 w9 ⟨rfl, hw⟩; have hw2 := hw.symm; clear hw; subst hw2; have Z2 : True := trivial) | (go_at_call 43; refine (l9Two _ _).mono ?_; rintro e9 w9 ⟨rfl, hw⟩; have hw2 := hw.symm; clear hw; subst hw2))
      go_ret3
      exact ⟨rfl, rfl⟩
end Go.Proofs.Ytjgcadighogmkaa
