/- Whether a unit's words are there, of both sides. What the program's allFresh answers, in whatever order a map is gone through. What the model's l16Stale answers: how many units of a store are not there any more. Two lists that grow side by side, each in a block of its own. Two lists of numbers that grow side by side in one drawn statement. The contract of the library that sorts, at this program: its table of numbers, and the contract. Lists that rise: in numbers, and what the program's isRising, isRoom, isCached answer. What the program's areUnits answers, at every list. -/
import Derived.Test.YtflnodadeajmcaaGreatAF2
import Derived.Test.YtflnodadeajmcaaGreatAF10
import Derived.Test.YtflnodadeajmcaaGreatAF1
import Derived.Maps.AppendAt
import Derived.Test.YtflnodadeajmcaaGreatAF4
import Derived.Test.YtflnodadeajmcaaGreatProg
import Derived.Shelf.Small.Bits
import Derived.Shelf.Strconv.Itoa0
import Derived.Shelf.Sort.Plain
import Derived.Ground.Names2Prog
import Derived.Shelf.Slices.SearchI
import Derived.Shelf.Slices.In.SortNone
import Derived.Sort.OwnSortedInts
namespace Go.Proofs.YtflnodadeajmcaaGreat
open Go.RowKit
set_option linter.unusedVariables false
set_option linter.unusedSimpArgs false
/-- whether the words ws lie from a place on -/
def Pl.lies (xs : List Int) (f : Int) (ws : List Int) : Bool := (List.range ws.length).all fun k => Pl.wdOk (f + 2 * (k : Int)) && (Pl.wdAt xs (f + 2 * (k : Int)) == el ws k)
theorem Pl.lies_no {xs ws : List Int} {f : Int} {k : Nat} (hk : k < ws.length) (h : (Pl.wdOk (f + 2 * (k : Int)) && (Pl.wdAt xs (f + 2 * (k : Int)) == el ws k)) = false) : Pl.lies xs f ws = false := by
  rw [Bool.eq_false_iff]
  intro q
  have := List.all_eq_true.1 q k (List.mem_range.2 hk)
  rw [h] at this
  cases this
theorem Pl.lies_yes {xs ws : List Int} {f : Int} (h : ∀ k, k < ws.length → (Pl.wdOk (f + 2 * (k : Int)) && (Pl.wdAt xs (f + 2 * (k : Int)) == el ws k)) = true) : Pl.lies xs f ws = true :=
  List.all_eq_true.2 fun k hk => h k (List.mem_range.1 hk)
theorem Pl.wd_same {xs : List Int} {q v : Int} (hv : 0 ≤ v) : (Pl.wdM xs q == v) = (Pl.wdOk q && (Pl.wdAt xs q == v)) := by
  unfold Pl.wdM
  cases h : Pl.wdOk q
  · simp; omega
  · simp
theorem Pl.encode_pos {x : Pl.In} (h : Pl.inOk x = true) : ∀ v ∈ Pl.encode x, 0 ≤ v := by
  have m := Pl.modeR h
  intro v hv
  unfold Pl.encode at hv
  have h1 : 0 ≤ Pl.word1 x := by unfold Pl.word1; omega
  split at hv
  · simp at hv; rcases hv with rfl | rfl
    · exact h1
    · omega
  · simp at hv; rw [hv]; exact h1
theorem Pl.encTo_mem {ys : List Int} {n : Nat} (h : ∀ k, k < n → Pl.inOk (Pl.inAt ys k) = true) : ∀ v ∈ Pl.encTo ys n, 0 ≤ v := by
  induction n with
  | zero => intro v hv; simp [Pl.encTo] at hv
  | succ n ih =>
    intro v hv
    unfold Pl.encTo at hv
    rcases List.mem_append.1 hv with hv | hv
    · exact ih (fun k hk => h k (by omega)) v hv
    · exact Pl.encode_pos (h n (by omega)) v hv
theorem Pl.encTo_pos {ys : List Int} {n : Nat} (h : ∀ k, k < n → Pl.inOk (Pl.inAt ys k) = true) (k : Nat) : 0 ≤ el (Pl.encTo ys n) k := by
  unfold el
  rcases Nat.lt_or_ge k (Pl.encTo ys n).length with hk | hk
  · have hm : (Pl.encTo ys n)[k]?.getD 0 ∈ Pl.encTo ys n := by simp [hk]
    exact Pl.encTo_mem h _ hm
  · rw [List.getElem?_eq_none hk]; exact Int.le_refl _
set_option maxRecDepth 100000 in
set_option maxHeartbeats 8000000 in
theorem specUFresh (w : World) (a b c : Option Addr) (ca cb cc m n : Nat) (xs : List Int) (f t : Int) (ys ts : List Int) (sk : List Bool) (ha : IRow w a xs) (hc : MRow w c n ys ts sk) (lx : xs.length = 512) (hb : Pl.bytesOk xs = true) (G : Pl.GU f t n ys ts sk) :
    Calls Tryz.prog 60 #[.agg #[.slice a xs.length ca, .slice b m cb], .agg #[iv f, iv t, .slice c n cc]] w fun e w' => e = .returned (.bool (Pl.lies xs f (Pl.encTo ys n))) ∧ Kept 0 0 w w' := by
  have K0 := hide (kept_new (kept_alloc w (.cells #[.slice a xs.length ca, .slice b m cb] 35)) (.cells #[iv f, iv t, .slice c n cc] 46))
  have B0 := hide ((Blk.new w #[.slice a xs.length ca, .slice b m cb] 35).alloc (.cells #[iv f, iv t, .slice c n cc] 46))
  have U0 := Blk.new (w.alloc (.cells #[.slice a xs.length ca, .slice b m cb] 35)) #[iv f, iv t, .slice c n cc] 46
  simp only [World.size_alloc] at U0
  replace U0 := hide U0
  have HA := hide ha
  have HC := hide hc
  have HX := hide lx
  have HBY := hide hb
  have f0 := G.f0
  have f1 := G.f1
  have n8 := G.n8
  have hel := Pl.encTo_len ys n
  have hpos := Pl.encTo_pos G.ok
  obtain ⟨Z, hZ⟩ : ∃ Z, Z = Pl.encTo ys n := ⟨_, rfl⟩
  rw [← hZ] at hel hpos
  have HZ := hide hZ
  have HP := hide hpos
  clear hZ hpos
  rw [show Pl.encTo ys n = Z from HZ.out.symm]
  have pu := U0.out.all
  clear hc lx hb ha
  go_enter Tryz.func60, Tryz.ntmps60
  go_wp2_with (first | (go_at_call 91; refine (specUWords _ f t c cc n ys ts sk (HC.out.keptS K0.out) G.ok (by omega)).mono ?_; rw [← HZ.out]; rintro e9 w2 ⟨b1, c1, rfl, s1, k1⟩; have K1 := hide (K0.out.trans k1); have U1 := hide (U0.out.kept0 k1); have B1 := hide (B0.out.kept0 k1); have S1 := hide s1; clear k1 s1 pu))
  go_loopw [5, 6, 10] (fun _ _ j wr => ∃ k : Nat, k ≤ Z.length ∧ j = .int .i64 k ∧ (∀ i, i < k → (Pl.wdOk (f + 2 * (i : Int)) && (Pl.wdAt xs (f + 2 * (i : Int)) == el Z i)) = true) ∧ Kept 0 0 w2 wr) (fun _ _ j _ => Z.length - (intOf j).toNat)
  case atStart => exact ⟨0, Nat.zero_le _, rfl, fun i hi => absurd hi (Nat.not_lt_zero i), Kept.refl _ _ _⟩
  case round =>
    obtain ⟨k, hk, rfl, hall, hkept⟩ := hrel
    have HK := hide hkept
    have HL := hide hall
    clear hkept hall
    by_cases hlt : k < Z.length
    · obtain ⟨g1, o1, rfl, q0⟩ := ((S1.out.kept HK.out (by omega)).row) k hlt
      rw [show Z[k]?.getD 0 = el Z k from rfl] at q0
      have U2 := hide (U1.out.kept0 HK.out)
      have pu := U2.out.all
      have vp := HP.out k
      obtain ⟨V, hV⟩ : ∃ V, V = el Z k := ⟨_, rfl⟩
      rw [← hV] at q0 vp
      have HV := hide hV
      clear hV
      have Q0 : 0 ≤ f + 2 * (k : Int) := by omega
      have Q1 : f + 2 * (k : Int) ≤ 2000 := by omega
      have B2 := hide (B1.out.kept0 HK.out)
      have pb := B2.out.all
      cases hx : (Pl.wdM xs (f + 2 * (k : Int)) == V)
      · have E : Hid (Pl.lies xs f Z = false) := hide (Pl.lies_no hlt (by rw [← HV.out, ← Pl.wd_same vp]; exact hx))
        go_wp2_with (first | (go_at_call 92; refine (specUWord _ a b ca cb m xs (f + 2 * (k : Int)) (HA.out.keptS (K1.out.trans HK.out)) HX.out HBY.out Q0 Q1).mono ?_; rintro e9 w3 ⟨rfl, k3⟩; have K3 := hide (HK.out.trans k3); clear k3))
        go_ret
        exact ⟨rB E.out.symm, K1.out.trans K3.out⟩
      · have E : Hid ((Pl.wdOk (f + 2 * (k : Int)) && (Pl.wdAt xs (f + 2 * (k : Int)) == el Z k)) = true) := hide (by rw [← HV.out, ← Pl.wd_same vp]; exact hx)
        go_wp2_with (first | (go_at_call 92; refine (specUWord _ a b ca cb m xs (f + 2 * (k : Int)) (HA.out.keptS (K1.out.trans HK.out)) HX.out HBY.out Q0 Q1).mono ?_; rintro e9 w3 ⟨rfl, k3⟩; have K3 := hide (HK.out.trans k3); clear k3))
        go_roundw
        case rel => exact ⟨k + 1, by omega, by go_num, snoc_all HL.out E.out, K3.out⟩
        case measure => simp [intOf]; omega
    · obtain rfl : k = Z.length := by omega
      have E : Hid (Pl.lies xs f Z = true) := hide (Pl.lies_yes HL.out)
      go_wp2_with fail
      go_ret
      exact ⟨rB E.out.symm, K1.out.trans HK.out⟩
set_option maxRecDepth 100000 in
set_option maxHeartbeats 8000000 in
theorem implUFresh (w : World) (bk : Nat) (c : Option Addr) (cc n : Nat) (xs : List Int) (f t : Int) (ys ts : List Int) (sk : List Bool) (hB : Blk w bk (cellsOf xs) 71) (hc : MRow w c n ys ts sk) (lx : xs.length = 512) (hb : Pl.bytesOk xs = true) (G : Pl.GU f t n ys ts sk) :
    Calls Tryz.prog 67 #[.pointer (some ⟨bk, 0, none⟩), .agg #[iv f, iv t, .slice c n cc]] w fun e w' => e = .returned (.bool (Pl.lies xs f (Pl.encTo ys n))) ∧ Kept 0 0 w w' := by
  have K0 := hide (kept_alloc w (.cells #[iv f, iv t, .slice c n cc] 46))
  have U0 := hide (Blk.new w #[iv f, iv t, .slice c n cc] 46)
  have HB := hide hB
  have HC := hide hc
  have HX := hide lx
  have HBY := hide hb
  have f0 := G.f0
  have f1 := G.f1
  have n8 := G.n8
  have hel := Pl.encTo_len ys n
  have hpos := Pl.encTo_pos G.ok
  obtain ⟨Z, hZ⟩ : ∃ Z, Z = Pl.encTo ys n := ⟨_, rfl⟩
  rw [← hZ] at hel hpos
  have HZ := hide hZ
  have HP := hide hpos
  clear hZ hpos
  rw [show Pl.encTo ys n = Z from HZ.out.symm]
  have pu := U0.out.all
  clear hc lx hb hB
  go_enter Tryz.func67, Tryz.ntmps67
  go_wp2_with (first | (go_at_call 99; refine (implUWords _ f t c cc n ys ts sk (HC.out.keptS K0.out) G.ok (by omega)).mono ?_; rw [← HZ.out]; rintro e9 w2 ⟨b1, c1, rfl, s1, k1⟩; have K1 := hide (K0.out.trans k1); have U1 := hide (U0.out.kept0 k1); have S1 := hide s1; clear k1 s1 pu))
  go_loopw [5, 6, 7, 8, 12] (fun _ _ _ _ j wr => ∃ k : Nat, k ≤ Z.length ∧ j = .int .i64 k ∧ (∀ i, i < k → (Pl.wdOk (f + 2 * (i : Int)) && (Pl.wdAt xs (f + 2 * (i : Int)) == el Z i)) = true) ∧ Kept 0 0 w2 wr) (fun _ _ _ _ j _ => Z.length - (intOf j).toNat)
  case atStart => exact ⟨0, Nat.zero_le _, rfl, fun i hi => absurd hi (Nat.not_lt_zero i), Kept.refl _ _ _⟩
  case round =>
    obtain ⟨k, hk, rfl, hall, hkept⟩ := hrel
    have HK := hide hkept
    have HL := hide hall
    clear hkept hall
    by_cases hlt : k < Z.length
    · obtain ⟨g1, o1, rfl, q0⟩ := ((S1.out.kept HK.out (by omega)).row) k hlt
      rw [show Z[k]?.getD 0 = el Z k from rfl] at q0
      have U2 := hide (U1.out.kept0 HK.out)
      have pu := U2.out.all
      have vp := HP.out k
      obtain ⟨V, hV⟩ : ∃ V, V = el Z k := ⟨_, rfl⟩
      rw [← hV] at q0 vp
      have HV := hide hV
      clear hV
      have Q0 : 0 ≤ f + 2 * (k : Int) := by omega
      have Q1 : f + 2 * (k : Int) ≤ 2000 := by omega
      have HKK : Hid (f + (k : Int) * 2 = f + 2 * (k : Int)) := hide (by omega)
      cases h1 : Pl.wdOk (f + 2 * (k : Int))
      · have E : Hid (Pl.lies xs f Z = false) := hide (Pl.lies_no hlt (by rw [h1]; rfl))
        go_wp2_with (first | (go_at_call 100; refine (implUPeek _ bk xs (f + (k : Int) * 2) ((HB.out.kept0 K1.out).kept0 HK.out) HX.out HBY.out (by omega) (by omega)).mono ?_; rw [HKK.out]; rintro e9 w3 ⟨rfl, k3⟩; have K3 := hide (HK.out.trans k3); clear k3))
        go_ret
        exact ⟨rB E.out.symm, K1.out.trans K3.out⟩
      · cases hx : (Pl.wdP xs (f + 2 * (k : Int)) == V)
        · have E : Hid (Pl.lies xs f Z = false) := hide (Pl.lies_no hlt (by rw [← HV.out, h1]; unfold Pl.wdP at hx; rw [h1] at hx; exact hx))
          go_wp2_with (first | (go_at_call 100; refine (implUPeek _ bk xs (f + (k : Int) * 2) ((HB.out.kept0 K1.out).kept0 HK.out) HX.out HBY.out (by omega) (by omega)).mono ?_; rw [HKK.out]; rintro e9 w3 ⟨rfl, k3⟩; have K3 := hide (HK.out.trans k3); clear k3))
          go_ret
          exact ⟨rB E.out.symm, K1.out.trans K3.out⟩
        · have E : Hid ((Pl.wdOk (f + 2 * (k : Int)) && (Pl.wdAt xs (f + 2 * (k : Int)) == el Z k)) = true) := hide (by rw [← HV.out, h1]; unfold Pl.wdP at hx; rw [h1] at hx; exact hx)
          go_wp2_with (first | (go_at_call 100; refine (implUPeek _ bk xs (f + (k : Int) * 2) ((HB.out.kept0 K1.out).kept0 HK.out) HX.out HBY.out (by omega) (by omega)).mono ?_; rw [HKK.out]; rintro e9 w3 ⟨rfl, k3⟩; have K3 := hide (HK.out.trans k3); clear k3))
          go_roundw
          case rel => exact ⟨k + 1, by omega, by go_num, snoc_all HL.out E.out, K3.out⟩
          case measure => simp [intOf]; omega
    · obtain rfl : k = Z.length := by omega
      have E : Hid (Pl.lies xs f Z = true) := hide (Pl.lies_yes HL.out)
      go_wp2_with fail
      go_ret
      exact ⟨rB E.out.symm, K1.out.trans HK.out⟩
end Go.Proofs.YtflnodadeajmcaaGreat

namespace Go.Proofs.YtflnodadeajmcaaGreat
open Go.RowKit Go.Maps
set_option linter.unusedVariables false
/-- a kept unit's words are there -/
noncomputable def Pl.frC (xs : List Int) (x : Pl.Ck) : Bool := Pl.lies xs x.f (Pl.encTo x.ys x.n)
noncomputable def Pl.allFr (xs : List Int) (us : List Pl.Ck) : Bool := @decide (∀ k, k < us.length → Pl.frC xs (Pl.ck us k) = true) (Classical.propDecidable _)
theorem Pl.allFr_yes {xs : List Int} {us : List Pl.Ck} (h : ∀ k, k < us.length → Pl.frC xs (Pl.ck us k) = true) : Pl.allFr xs us = true := @decide_eq_true _ (Classical.propDecidable _) h
theorem Pl.allFr_no {xs : List Int} {us : List Pl.Ck} (h : ¬ ∀ k, k < us.length → Pl.frC xs (Pl.ck us k) = true) : Pl.allFr xs us = false := @decide_eq_false _ (Classical.propDecidable _) h
/-- a round of a range over a shelf: nothing is left, or some unit of the list comes -/
theorem wpList_next_ck (w : World) {ops : Array Oper} {rest : List Oper} {o : Oper} {a : Act} {Q : Exit → Act → World → Prop} (hg : o.guard = none) (it : Operand) (hop : o.op = Op.next it false) (b r n : Nat) (D : DataW Value) (left : Lit → Bool) (cnt : Nat)
    (hit : a.eval it = .pointer (some ⟨r, 0, none⟩)) (h : w.ranges Tryz.prog 3 hold b r n D left cnt) (V : World) (us : List Pl.Ck) (k : Nat) (hm : MapOf V us k D)
    (hDone : cnt = 0 → (∀ kl, left kl = false) → wpList Tryz.prog ops Q rest (a.put o.dst (.tuple #[.bool false])) w)
    (hMore : ∀ (i : Nat) (bb : Option Addr) (cb : Nat) (w' : World) (cnt' : Nat), i < k → left (ky (Pl.ck us i).f) = true → MRow V bb (Pl.ck us i).n (Pl.ck us i).ys (Pl.ck us i).ts (Pl.ck us i).sk → w'.ranges Tryz.prog 3 hold b r n D (fun z => left z && !z.sameKey (ky (Pl.ck us i).f)) cnt' → cnt' < cnt →
      w.grownBy w' (some r) → w'.heap.size = w.heap.size → (Instr.entry (.pointer (some ⟨r, 0, none⟩))).run Tryz.prog w' = .ok (.tuple #[iv (Pl.ck us i).f, .agg #[iv (Pl.ck us i).f, iv (Pl.ck us i).t, .slice bb (Pl.ck us i).n cb, iv (Pl.ck us i).u]]) w' →
      wpList Tryz.prog ops Q rest (a.put o.dst (.tuple #[.bool true, iv (Pl.ck us i).f, .agg #[iv (Pl.ck us i).f, iv (Pl.ck us i).t, .slice bb (Pl.ck us i).n cb, iv (Pl.ck us i).u]])) w') :
    wpList Tryz.prog ops Q (o :: rest) a w := by
  refine wpList_next_ranges w hg it hop 3 Tryz.keyInt hold (Value.int .i64) (fun v : Value => v) (fun key kl hkey => by obtain ⟨x, rfl, _⟩ := Maps.keyOf_int_inv Tryz.underlying3 hkey; exact ⟨x, rfl⟩) (fun v y _ => ⟨v, rfl⟩) b r n D left cnt hit h hDone ?_
  intro x c kl y w' cnt' hkey hlk hv hat hrg hlt hgr hsz hen
  obtain ⟨x', ex, rfl, hwx⟩ := Maps.keyOf_int_inv Tryz.underlying3 hkey
  cases ex
  obtain ⟨i, hi, e1, bb, cb, e2, hrow⟩ := hm.of_has hat rfl
  have e3 := hold_inv hv
  rw [e2] at e3
  have e4 : ckV (Pl.ck us i) bb cb = c := by injection e3
  subst e4 e1
  exact hMore i bb cb w' cnt' hi hlk hrow hrg hlt hgr hsz hen
set_option maxRecDepth 20000 in
set_option maxHeartbeats 4000000 in
theorem implAllFr (w : World) (kb mb bm : Nat) (r c : Int) (n : Nat) (us : List Pl.Ck) (xs : List Int) (hn : n = us.length) (hK : Blk w kb #[iv r, iv c, .map (some bm)] 68) (hB : Blk w mb (cellsOf xs) 71) (hS : Shelf w bm us n) (lx : xs.length = 512) (hb : Pl.bytesOk xs = true)
    (hG : ∀ k, k < us.length → Pl.GU (Pl.ck us k).f (Pl.ck us k).t (Pl.ck us k).n (Pl.ck us k).ys (Pl.ck us k).ts (Pl.ck us k).sk) (hd : ∀ i k, i < k → k < us.length → (Pl.ck us i).f ≠ (Pl.ck us k).f) :
    Calls Tryz.prog 37 #[.pointer (some ⟨kb, 0, none⟩), .pointer (some ⟨mb, 0, none⟩)] w fun e w' => e = .returned (.bool (Pl.allFr xs us)) ∧ Kept 0 0 w w' := by
  obtain ⟨D, hown, hmo⟩ := hS
  have HB := hide hB
  have HX := hide lx
  have HY := hide hb
  have HN := hide hn
  have HGU := hide hG
  have HD := hide hd
  have HM := hide hmo
  have HO := hide hown
  have pk := hK.all
  clear hB lx hb hn hG hd hmo hown
  go_enter Tryz.func37, Tryz.ntmps37
  go_wp2_with (first | (at_range; refine wpList_range_own _ rfl _ 66 rfl 3 101 Tryz.keyInt Tryz.underlying66 hold bm n D rfl HO.out ?_))
  intro w0 hrg0 hg0 hs0
  go_wp2_with fail
  try go_frame
  go_loopw [12] (fun _ wr => ∃ (left : Lit → Bool) (cnt : Nat), wr.ranges Tryz.prog 3 hold bm w.heap.size n D left cnt ∧ (∀ k, k < n → left (ky (Pl.ck us k).f) = false → Pl.frC xs (Pl.ck us k) = true) ∧ Kept 0 0 w wr) (fun _ wr => wr.rangeLeft bm w.heap.size)
  case atStart => exact ⟨_, _, hrg0, fun k hk e => absurd ((HM.out.has _).2 ⟨k, hk, rfl⟩) (by rw [e]; decide), kept_grown hg0⟩
  case round =>
    obtain ⟨left, cnt, hrg, hall, hkept⟩ := hrel
    have HL := hide hall
    have HK := hide hkept
    have HR := hide hrg
    clear hall hkept hrg0 hg0 hs0
    go_wp2_with (first | (at_next; refine wpList_next_ck _ rfl _ rfl bm w.heap.size n D left cnt rfl HR.out w us n HM.out ?_ ?_))
    · intro _ hl0
      have E : Hid (Pl.allFr xs us = true) := hide (Pl.allFr_yes fun k hk => HL.out k (by rw [HN.out]; exact hk) (hl0 _))
      go_wp2_with fail
      go_ret
      exact ⟨rB E.out.symm, HK.out⟩
    · intro i bb cb w1 cnt1 hi hli hrow hrg1 hlt1 hg1 hs1 hen
      have hiu : i < us.length := by rw [← HN.out]; exact hi
      have G := HGU.out i hiu
      have K1 := hide (kept_over HK.out (kept_row (lo := w.heap.size) (hi := w.heap.size + 1) hg1 (fun g q => by cases q; omega)) (Nat.le_refl _))
      have KA := hide (kept_new K1.out (.cells #[iv (Pl.ck us i).f, iv (Pl.ck us i).t, .slice bb (Pl.ck us i).n cb, iv (Pl.ck us i).u] 101))
      have RA := hide (hrg1.alloc (.cells #[iv (Pl.ck us i).f, iv (Pl.ck us i).t, .slice bb (Pl.ck us i).n cb, iv (Pl.ck us i).u] 101))
      have RW := hide hrow
      obtain ⟨V, hV⟩ : ∃ V, V = Pl.lies xs (Pl.ck us i).f (Pl.encTo (Pl.ck us i).ys (Pl.ck us i).n) := ⟨_, rfl⟩
      have HV := hide hV
      clear hV hg1 hrg1 hrow
      cases V
      · have E : Hid (Pl.allFr xs us = false) := hide (Pl.allFr_no fun h => by have := h i hiu; unfold Pl.frC at this; rw [← HV.out] at this; cases this)
        go_wp2_with (first | (go_at_call 67; refine (implUFresh _ mb bb cb (Pl.ck us i).n xs (Pl.ck us i).f (Pl.ck us i).t (Pl.ck us i).ys (Pl.ck us i).ts (Pl.ck us i).sk (HB.out.kept0 KA.out) (RW.out.keptS KA.out) HX.out HY.out G).mono ?_; rw [← HV.out]; rintro e9 w2 ⟨rfl, k2⟩; have K2 := hide (KA.out.trans k2); clear k2))
        go_ret
        exact ⟨rB E.out.symm, K2.out⟩
      · go_wp2_with (first | (go_at_call 67; refine (implUFresh _ mb bb cb (Pl.ck us i).n xs (Pl.ck us i).f (Pl.ck us i).t (Pl.ck us i).ys (Pl.ck us i).ts (Pl.ck us i).sk (HB.out.kept0 KA.out) (RW.out.keptS KA.out) HX.out HY.out G).mono ?_; rw [← HV.out]; rintro e9 w2 ⟨rfl, k2⟩; have K2 := hide (KA.out.trans k2); have R2 := hide (RA.out.kept k2.grown (by simp) (by simp)); clear k2))
        go_roundw
        case rel =>
          refine ⟨_, _, R2.out, fun k hk e => ?_, K2.out⟩
          cases hl : left (ky (Pl.ck us k).f)
          · exact HL.out k hk hl
          · rw [hl] at e
            have e2 : (ky (Pl.ck us k).f).sameKey (ky (Pl.ck us i).f) = true := by simpa using e
            have e3 := WideAt.sameKey_eq e2
            have e4 : (Pl.ck us k).f = (Pl.ck us i).f := by simpa [ky] using e3
            have e5 : k = i := by
              rcases Nat.lt_trichotomy k i with q | q | q
              · exact absurd e4 (HD.out k i q hiu)
              · exact q
              · exact absurd e4.symm (HD.out i k q (by rw [← HN.out]; exact hk))
            subst e5
            exact HV.out.symm
        case measure => rw [R2.out.left_eq, HR.out.left_eq]; omega
end Go.Proofs.YtflnodadeajmcaaGreat

namespace Go.Proofs.YtflnodadeajmcaaGreat
open Go.RowKit
set_option linter.unusedVariables false
/-- those of the first k of a list that are there -/
noncomputable def Pl.frL (xs : List Int) (us : List Pl.Ck) : Nat → List Pl.Ck
  | 0 => []
  | k + 1 => if Pl.frC xs (Pl.ck us k) = true then Pl.frL xs us k ++ [Pl.ck us k] else Pl.frL xs us k
theorem Pl.frL_yes {xs : List Int} {us : List Pl.Ck} {k : Nat} (h : Pl.frC xs (Pl.ck us k) = true) : Pl.frL xs us (k + 1) = Pl.frL xs us k ++ [Pl.ck us k] := by
  show (if Pl.frC xs (Pl.ck us k) = true then _ else _) = _; rw [if_pos h]
theorem Pl.frL_no {xs : List Int} {us : List Pl.Ck} {k : Nat} (h : Pl.frC xs (Pl.ck us k) = false) : Pl.frL xs us (k + 1) = Pl.frL xs us k := by
  show (if Pl.frC xs (Pl.ck us k) = true then _ else _) = _; rw [if_neg (by rw [h]; simp)]
theorem Pl.frL_le (xs : List Int) (us : List Pl.Ck) (k : Nat) : (Pl.frL xs us k).length ≤ k := by
  induction k with
  | zero => exact Nat.le_refl _
  | succ k ih =>
    cases h : Pl.frC xs (Pl.ck us k)
    · rw [Pl.frL_no h]; omega
    · rw [Pl.frL_yes h, List.length_append]; simp; omega
theorem Pl.frL_all {xs : List Int} {us : List Pl.Ck} {k : Nat} : (Pl.frL xs us k).length = k ↔ ∀ i, i < k → Pl.frC xs (Pl.ck us i) = true := by
  induction k with
  | zero => simp [Pl.frL]
  | succ k ih =>
    have hle := Pl.frL_le xs us k
    cases h : Pl.frC xs (Pl.ck us k)
    · rw [Pl.frL_no h]
      constructor
      · intro q; omega
      · intro q; have := q k (by omega); rw [h] at this; cases this
    · rw [Pl.frL_yes h, List.length_append]
      constructor
      · intro q i hi
        by_cases e : i = k
        · rw [e]; exact h
        · exact ih.1 (by simpa using q) i (by omega)
      · intro q; rw [ih.2 (fun i hi => q i (by omega))]; rfl
theorem ck_left {us vs : List Pl.Ck} {i : Nat} (h : i < us.length) : Pl.ck (us ++ vs) i = Pl.ck us i := by unfold Pl.ck; rw [List.getElem?_append_left h]
theorem ck_last {us : List Pl.Ck} {x : Pl.Ck} : Pl.ck (us ++ [x]) us.length = x := by unfold Pl.ck; simp
/-- each one of the list that is left is one of the list -/
theorem Pl.frL_mem {xs : List Int} {us : List Pl.Ck} {k : Nat} : ∀ i, i < (Pl.frL xs us k).length → ∃ j, j < k ∧ Pl.ck (Pl.frL xs us k) i = Pl.ck us j := by
  induction k with
  | zero => intro i hi; exact absurd hi (Nat.not_lt_zero i)
  | succ k ih =>
    intro i hi
    cases h : Pl.frC xs (Pl.ck us k)
    · rw [Pl.frL_no h] at hi ⊢
      obtain ⟨j, hj, e⟩ := ih i hi
      exact ⟨j, by omega, e⟩
    · rw [Pl.frL_yes h] at hi ⊢
      by_cases q : i < (Pl.frL xs us k).length
      · obtain ⟨j, hj, e⟩ := ih i q
        exact ⟨j, by omega, (ck_left q).trans e⟩
      · have : i = (Pl.frL xs us k).length := by rw [List.length_append] at hi; simp at hi; omega
        exact ⟨k, by omega, by rw [this, ck_last]⟩
/-- the cells of a list that grows out of another one: the i-th one's four, its micros where they lay in world V -/
def CVs (V : World) (vs : List Value) (k : Nat) (x : Pl.Ck) : Prop :=
  vl vs (k * 4) = iv x.f ∧ vl vs (k * 4 + 1) = iv x.t ∧ vl vs (k * 4 + 3) = iv x.u ∧ ∃ (b : Option Addr) (cb : Nat), vl vs (k * 4 + 2) = .slice b x.n cb ∧ MRow V b x.n x.ys x.ts x.sk
theorem CVs.left {V : World} {vs us : List Value} {k : Nat} {x : Pl.Ck} (h : CVs V vs k x) (hk : k * 4 + 3 < vs.length) : CVs V (vs ++ us) k x := by
  obtain ⟨h0, h1, h3, b, cb, h2, hm⟩ := h
  exact ⟨(vl_left (by omega)).trans h0, (vl_left (by omega)).trans h1, (vl_left (by omega)).trans h3, b, cb, (vl_left (by omega)).trans h2, hm⟩
theorem CVs.last {V : World} {vs : List Value} {k : Nat} (hl : vs.length = k * 4) {x : Pl.Ck} {b : Option Addr} {cb : Nat} (hm : MRow V b x.n x.ys x.ts x.sk) : CVs V (vs ++ [iv x.f, iv x.t, .slice b x.n cb, iv x.u]) k x := by
  have e0 := vl_right (vs := vs) (us := [iv x.f, iv x.t, .slice b x.n cb, iv x.u]) (i := 0)
  have e1 := vl_right (vs := vs) (us := [iv x.f, iv x.t, .slice b x.n cb, iv x.u]) (i := 1)
  have e2 := vl_right (vs := vs) (us := [iv x.f, iv x.t, .slice b x.n cb, iv x.u]) (i := 2)
  have e3 := vl_right (vs := vs) (us := [iv x.f, iv x.t, .slice b x.n cb, iv x.u]) (i := 3)
  rw [hl] at e0 e1 e2 e3
  exact ⟨e0, e1, e3, b, cb, e2, hm⟩
/-- a list of one's own whose cells tell kept units is a row of them -/
theorem crow_own {V w : World} {base n : Nat} {v : Value} {vs : List Value} {us : List Pl.Ck} {e : TypeId} (h : w.ownsRow base e 4 v n vs) (hn : n = us.length) (hc : ∀ i, i < us.length → CVs V vs i (Pl.ck us i)) (q : Kept 0 0 V w) : ∃ (b : Option Addr) (cb : Nat), v = .slice b n cb ∧ CRow w b us := by
  have h9 := h
  rcases h.2 with ⟨e0, n0⟩ | ⟨g, cap, cur, e0, hb, _⟩
  · exact ⟨none, 0, by rw [e0, n0], fun i hi => absurd hi (by omega)⟩
  · subst e0
    have hv : VOwn w g vs := vown_made (sz := 4) h9 h9.1
    have hl := h9.1
    refine ⟨_, _, rfl, fun i hi => ?_⟩
    obtain ⟨d0, d1, d3, b, cb, d2, dm⟩ := hc i hi
    refine ⟨g, 0, rfl, ?_, ?_, ⟨b, cb, ?_, dm.keptS q⟩, ?_⟩
    · rw [Nat.zero_add]; exact (hv (i * 4) (by omega)).1.trans (congrArg Option.some d0)
    · rw [Nat.zero_add]; exact (hv (i * 4 + 1) (by omega)).1.trans (congrArg Option.some d1)
    · rw [Nat.zero_add]; exact (hv (i * 4 + 2) (by omega)).1.trans (congrArg Option.some d2)
    · rw [Nat.zero_add]; exact (hv (i * 4 + 3) (by omega)).1.trans (congrArg Option.some d3)
theorem results_cT {fn : Func} {p u1 : Tmp} {ty : TypeId} (h : fn.results = #[.cell p ty, .tmp u1]) (tmps : Array Value) (P : Program) (w : World) :
    (results fn tmps).run P w = ((asAddr (tmps.getD p undef)).run P w).andThen fun a w₁ => ((loadVar ty a).run P w₁).andThen fun v w₂ => .ok (.tuple #[v, tmps.getD u1 undef]) w₂ := by
  simp only [results, h]
  simp [Sem.run_bind, Result.andThen]
set_option maxRecDepth 20000 in
set_option maxHeartbeats 8000000 in
theorem specStale (w : World) (d e : Option Addr) (cd ce m : Nat) (xs : List Int) (r c : Int) (a : Option Addr) (ca n : Nat) (us : List Pl.Ck) (hd : IRow w d xs) (lx : xs.length = 512) (hby : Pl.bytesOk xs = true) (hn : n = us.length) (ha : CRow w a us)
    (hG : ∀ k, k < us.length → Pl.GU (Pl.ck us k).f (Pl.ck us k).t (Pl.ck us k).n (Pl.ck us k).ys (Pl.ck us k).ts (Pl.ck us k).sk) (bx : n ≤ 2000000) :
    Calls Tryz.prog 29 #[.agg #[.slice d xs.length cd, .slice e m ce], .agg #[iv r, iv c, .slice a n ca]] w fun e' w' => ∃ z : Value, e' = .returned (.tuple #[z, iv ((n : Int) - ((Pl.frL xs us n).length : Int))]) ∧ (∃ (b' : Option Addr) (cb' : Nat), z = .agg #[iv r, iv c, .slice b' (Pl.frL xs us n).length cb']) ∧ Kept 0 0 w w' := by
  obtain ⟨ti, hi0, hz0, hz1, hz2⟩ := info_parts Tryz.infoCached
  obtain ⟨NX, hNX⟩ : ∃ NX, NX = xs.length := ⟨_, rfl⟩
  have HNX := hide hNX
  have HX := hide lx
  have HY := hide hby
  have HD := hide hd
  have HA := hide ha
  have HN := hide hn
  have HGU := hide hG
  have SF : Hid (∀ (W : World) (k : Nat) (b1 : Option Addr) (cb1 : Nat), k < us.length → Kept 0 0 w W → MRow W b1 (Pl.ck us k).n (Pl.ck us k).ys (Pl.ck us k).ts (Pl.ck us k).sk → Calls Tryz.prog 60 #[.agg #[.slice d NX cd, .slice e m ce], .agg #[iv (Pl.ck us k).f, iv (Pl.ck us k).t, .slice b1 (Pl.ck us k).n cb1]] W fun e w' => e = .returned (.bool (Pl.frC xs (Pl.ck us k))) ∧ Kept 0 0 W w') := hide (fun W k b1 cb1 hk hq hm => by
    rw [hNX]
    exact specUFresh W d e b1 cd ce cb1 m (Pl.ck us k).n xs (Pl.ck us k).f (Pl.ck us k).t (Pl.ck us k).ys (Pl.ck us k).ts (Pl.ck us k).sk (hd.keptS hq) hm lx hby (hG k hk))
  have B0 := ((Blk.new w #[.slice d NX cd, .slice e m ce] 35).alloc (.cells #[iv r, iv c, .slice a n ca] 39)).alloc (.cells #[iv 0, iv 0, .slice none 0 0] 39) |>.alloc (.cells #[iv r, iv c, .slice none 0 0] 39)
  have S0 := ((Blk.new (w.alloc (.cells #[.slice d NX cd, .slice e m ce] 35)) #[iv r, iv c, .slice a n ca] 39).alloc (.cells #[iv 0, iv 0, .slice none 0 0] 39)).alloc (.cells #[iv r, iv c, .slice none 0 0] 39)
  have R0 := (Blk.new ((w.alloc (.cells #[.slice d NX cd, .slice e m ce] 35)).alloc (.cells #[iv r, iv c, .slice a n ca] 39)) #[iv 0, iv 0, .slice none 0 0] 39).alloc (.cells #[iv r, iv c, .slice none 0 0] 39)
  have X0 := Blk.new (((w.alloc (.cells #[.slice d NX cd, .slice e m ce] 35)).alloc (.cells #[iv r, iv c, .slice a n ca] 39)).alloc (.cells #[iv 0, iv 0, .slice none 0 0] 39)) #[iv r, iv c, .slice none 0 0] 39
  simp only [World.size_alloc] at S0 R0 X0
  replace B0 := hide B0
  replace S0 := hide S0
  replace R0 := hide R0
  replace X0 := hide X0
  have K0 := hide (kept_new (kept_new (kept_new (kept_alloc w (.cells #[.slice d NX cd, .slice e m ce] 35)) (.cells #[iv r, iv c, .slice a n ca] 39)) (.cells #[iv 0, iv 0, .slice none 0 0] 39)) (.cells #[iv r, iv c, .slice none 0 0] 39))
  rw [← hNX]
  clear hNX lx hby hd ha hn hG
  go_enter Tryz.func29, Tryz.ntmps29
  go_wp2
  go_loopw [17] (fun j wr => ∃ (k : Nat) (vs : List Value) (v : Value), k ≤ n ∧ j = .int .i64 k ∧ Blk wr (w.heap.size + 1 + 1 + 1) #[iv r, iv c, v] 39 ∧ Blk wr (w.heap.size + 1 + 1) #[iv 0, iv 0, .slice none 0 0] 39 ∧ Blk wr (w.heap.size + 1) #[iv r, iv c, .slice a n ca] 39 ∧ Blk wr w.heap.size #[.slice d NX cd, .slice e m ce] 35 ∧ wr.ownsRow (w.heap.size + 1 + 1 + 1 + 1) 101 4 v (Pl.frL xs us k).length vs ∧ (∀ i, i < (Pl.frL xs us k).length → CVs w vs i (Pl.ck (Pl.frL xs us k) i)) ∧ Kept 0 0 w wr) (fun j _ => n - (intOf j).toNat)
  case atStart => exact ⟨0, [], _, Nat.zero_le _, rfl, X0.out, R0.out, S0.out, B0.out, World.ownsRow_nil _ _ _ _, fun i hi => absurd hi (Nat.not_lt_zero i), K0.out⟩
  case round =>
    obtain ⟨k, vs, v, hk, rfl, hx, hr, hs, hb, hown, hall, hkept⟩ := hrel
    have HX1 := hide hx
    have HR1 := hide hr
    have HS1 := hide hs
    have HB1 := hide hb
    have HOW := hide hown
    have HL := hide hall
    have HK := hide hkept
    have hsz := hx.lt
    have hfl := Pl.frL_le xs us k
    clear hx hr hs hb hown hall
    by_cases hlt : k < n
    · have hlu : k < us.length := by rw [← HN.out]; exact hlt
      obtain ⟨g1, o1, b1, cb1, rfl, p0, p1, p2, p3, pm⟩ := HA.out.at4k hkept hlu
      have PM := hide pm
      have KA := hide (kept_new HK.out (.cells #[iv (Pl.ck us k).f, iv (Pl.ck us k).t, .slice b1 (Pl.ck us k).n cb1, iv (Pl.ck us k).u] 101))
      have BX := hide (Blk.new wr #[iv (Pl.ck us k).f, iv (Pl.ck us k).t, .slice b1 (Pl.ck us k).n cb1, iv (Pl.ck us k).u] 101)
      have bb1 := (HB1.out.alloc (.cells #[iv (Pl.ck us k).f, iv (Pl.ck us k).t, .slice b1 (Pl.ck us k).n cb1, iv (Pl.ck us k).u] 101)).all
      obtain ⟨F, hF⟩ : ∃ F, F = Pl.frC xs (Pl.ck us k) := ⟨_, rfl⟩
      have HF := hide hF
      clear hkept pm hF
      go_wp2_with fail
      refine (SF.out _ k b1 cb1 hlu KA.out (PM.out.keptS KA.out)).mono ?_
      rw [← HF.out]
      rintro e9 w2 ⟨rfl, k2⟩
      have KW := hide ((kept_new (Kept.refl 0 0 wr) (.cells #[iv (Pl.ck us k).f, iv (Pl.ck us k).t, .slice b1 (Pl.ck us k).n cb1, iv (Pl.ck us k).u] 101)).trans k2)
      have K2 := hide (KA.out.trans k2)
      have BX2 := hide (BX.out.kept0 k2)
      have hsz2 := KW.out.size
      clear k2 bb1
      cases F
      · go_wp2_with fail
        go_roundw
        case rel => exact ⟨k + 1, vs, v, by omega, by go_num, HX1.out.kept0 KW.out, HR1.out.kept0 KW.out, HS1.out.kept0 KW.out, HB1.out.kept0 KW.out, by rw [Pl.frL_no HF.out.symm]; exact HOW.out.kept KW.out.grown (Classical.em _), by rw [Pl.frL_no HF.out.symm]; exact HL.out, K2.out⟩
        case measure => simp [intOf]; omega
      · have BO2 := hide (HX1.out.kept0 KW.out)
        have o2 := BO2.out.all
        have x2 := BX2.out.all
        have OB := hide ((HOW.out.kept KW.out.grown (Classical.em _)).alloc (.cells #[iv (Pl.ck us k).f, iv (Pl.ck us k).t, .slice b1 (Pl.ck us k).n cb1, iv (Pl.ck us k).u] 101))
        have NN := hide (VRow.news (blk_vrow (vs := [iv (Pl.ck us k).f, iv (Pl.ck us k).t, .slice b1 (Pl.ck us k).n cb1, iv (Pl.ck us k).u]) (Blk.new w2 #[iv (Pl.ck us k).f, iv (Pl.ck us k).t, .slice b1 (Pl.ck us k).n cb1, iv (Pl.ck us k).u] 101)))
        go_wp2_with (first | (at_builtin; refine wpList_append_own_at _ rfl _ _ 37 rfl (w.heap.size + 1 + 1 + 1 + 1) 101 ti (.agg #[iv 0, iv 0, .slice none 0 0, iv 0]) 4 48 Tryz.underlying37 hi0 hz0 hz1 hz2 rfl (by decide) v (Pl.frL xs us k).length vs rfl OB.out ⟨w2.heap.size, 0, none⟩ 1 1 _ rfl rfl NN.out ?c1 ?c3 ?c4 ?c5 ?_))
        case c1 => intro u hu; simp at hu; rcases hu with rfl | rfl | rfl | rfl <;> rfl
        case c3 => unfold maxLen; omega
        case c4 => omega
        case c5 => simp only [World.size_alloc]; omega
        intro v0 w5 hown5 hgr5 _ hat5
        obtain ⟨g5, cap5, rfl, _, _⟩ := own_form hown5 (by omega)
        have HO5 := hide hown5
        have vlo : ∀ b, b < w.heap.size + 1 + 1 + 1 + 1 → v.ownBlock ≠ some b := by intro b hb q; have := (HOW.out.lt _ q).1; omega
        have BO5 := hide (blkGrown hgr5 (BO2.out.alloc _) (vlo _ (by omega)))
        have BR5 := hide (blkGrown hgr5 ((HR1.out.kept0 KW.out).alloc _) (vlo _ (by omega)))
        have BS5 := hide (blkGrown hgr5 ((HS1.out.kept0 KW.out).alloc _) (vlo _ (by omega)))
        have BB5 := hide (blkGrown hgr5 ((HB1.out.kept0 KW.out).alloc _) (vlo _ (by omega)))
        have K5 := hide (kept_over (kept_new K2.out (.cells #[iv (Pl.ck us k).f, iv (Pl.ck us k).t, .slice b1 (Pl.ck us k).n cb1, iv (Pl.ck us k).u] 101)) (kept_row (lo := w.heap.size) (hi := w2.heap.size) hgr5 (fun b q => ⟨by have := (HOW.out.lt _ q).1; omega, by have := (HOW.out.lt _ q).2; omega⟩)) (Nat.le_refl _))
        have hvl : vs.length = (Pl.frL xs us k).length * 4 := HOW.out.1
        have o5 := BO5.out.all
        have fo5 := BO5.out.fz
        have lo5 := BO5.out.lt
        clear hown5 hgr5 hat5 o2 x2
        go_wp2_with fail
        go_roundw
        case rel =>
          refine ⟨k + 1, vs ++ [iv (Pl.ck us k).f, iv (Pl.ck us k).t, .slice b1 (Pl.ck us k).n cb1, iv (Pl.ck us k).u], .slice (some ⟨g5, 0, none⟩) ((Pl.frL xs us k).length + 1) cap5, by omega, by go_num, BO5.out.set 2 _, BR5.out.other _ 2 _ (by omega), BS5.out.other _ 2 _ (by omega), BB5.out.other _ 2 _ (by omega), ?_, ?_, kept_set K5.out _ _ _ (.inr (by omega))⟩
          · rw [Pl.frL_yes HF.out.symm, List.length_append]
            exact HO5.out.kept (grownBy_set _ _ _ _) (.inr (by intro q; have q2 := (HO5.out.lt _ q).1; omega))
          · rw [Pl.frL_yes HF.out.symm]
            intro i hi
            by_cases q : i < (Pl.frL xs us k).length
            · rw [ck_left q]
              exact (HL.out i q).left (by omega)
            · have : i = (Pl.frL xs us k).length := by rw [List.length_append] at hi; simp at hi; omega
              rw [this, ck_last]
              exact CVs.last hvl PM.out
        case measure => simp [intOf]; omega
    · obtain rfl : k = n := by omega
      have hm9 : ∀ i, i < (Pl.frL xs us k).length → 1 ≤ (Pl.ck (Pl.frL xs us k) i).n ∧ (Pl.ck (Pl.frL xs us k) i).n ≤ 2000000 := by
        intro i hi
        obtain ⟨j, hj, e⟩ := Pl.frL_mem i hi
        rw [e]
        have G := HGU.out j (by rw [← HN.out]; exact hj)
        have := G.n1
        have := G.n8
        omega
      obtain ⟨b9, cb9, rfl, crow⟩ := crow_own HOW.out rfl HL.out HK.out
      have CR := hide crow
      have HM9 := hide hm9
      have o9 := HX1.out.all
      have ew : IntKind.i64.wrap ((k : Int) - ((Pl.frL xs us k).length : Int)) = (k : Int) - ((Pl.frL xs us k).length : Int) := by rw [IntKind.wrap_i64]; omega
      clear crow hkept hm9
      go_wp2_with fail
      have s9 := HS1.out.all
      have r9 := HR1.out.all
      have fr9 := HR1.out.fz
      have lr9 := HR1.out.lt
      go_region_with (first | (go_at_call 43; refine (specOwn _ r c b9 cb9 _ (Pl.frL xs us k) rfl (CR.out.keptS (kept_drew (Kept.refl _ _ _))) (fun i hi => (HM9.out i hi).1) (fun i hi => (HM9.out i hi).2) (by omega)).mono ?_; rintro e9 w6 ⟨b6, cb6, rfl, cr6, kd⟩; have k6 := undrewK kd; have X6 := hide (HX1.out.kept0 k6); have S6 := hide (HS1.out.kept0 k6); have R6 := hide (HR1.out.kept0 k6); have K6 := hide (HK.out.trans k6); have C6 := hide cr6; have x6 := X6.out.all; have s6 := S6.out.all; have r6 := R6.out.all; have fr6 := R6.out.fz; have lr6 := R6.out.lt; clear k6 kd cr6))
      all_goals
        go_wp2_with fail
        refine bodyPost_ret (v := .tuple #[.agg #[iv r, iv c, .slice b6 (Pl.frL xs us k).length cb6], iv ((k : Int) - ((Pl.frL xs us k).length : Int))]) ?_ rfl ⟨_, rfl, ⟨b6, cb6, rfl⟩, by first | exact kept_set (kept_set (kept_set K6.out _ _ _ (.inr (by omega))) _ _ _ (.inr (by omega))) _ _ _ (.inr (by omega)) | exact kept_drew (kept_set (kept_set (kept_set K6.out _ _ _ (.inr (by omega))) _ _ _ (.inr (by omega))) _ _ _ (.inr (by omega)))⟩
        rw [results_cT rfl]; go_simp
end Go.Proofs.YtflnodadeajmcaaGreat

namespace Go.Proofs.YtflnodadeajmcaaGreat
open Go.RowKit
set_option linter.unusedVariables false

/-- two lists that grow, each in a block of its own, above block number c -/
structure Twin (c : Nat) (w : World) (va vb : Value) (xs ys : List Int) : Prop where
  oa : w.ownsRow (c + 1) 3 1 va xs.length (xs.map (Value.int .i64))
  ob : w.ownsRow (c + 1) 3 1 vb ys.length (ys.map (Value.int .i64))
  ne : va.ownBlock = none ∨ va.ownBlock ≠ vb.ownBlock

theorem Twin.alloc {c : Nat} {w : World} {va vb : Value} {xs ys : List Int} (h : Twin c w va vb xs ys) (o : Obj) : Twin c (w.alloc o) va vb xs ys := ⟨h.oa.alloc o, h.ob.alloc o, h.ne⟩

theorem Twin.pushA {c : Nat} {w w1 : World} {va vb v' : Value} {xs ys : List Int} {z : Int} (h : Twin c w va vb xs ys) (hown : w1.ownsRow (c + 1) 3 1 v' (xs.length + 1) (xs.map (Value.int .i64) ++ [.int .i64 z])) (hg : w.grownBy w1 va.ownBlock) (hat : v'.ownBlock = va.ownBlock ∨ v'.ownBlock = some w.heap.size) : Twin c w1 v' vb (xs ++ [z]) ys := by
  have hb : vb.ownBlock = none ∨ vb.ownBlock ≠ va.ownBlock := by
    rcases h.ne with e | e
    · rw [e]; cases vb.ownBlock <;> simp
    · exact .inr (Ne.symm e)
  refine ⟨by simpa using hown, h.ob.kept hg hb, ?_⟩
  rcases hat with e | e
  · rw [e]; exact h.ne
  · right
    rw [e]
    intro e2
    have := (h.ob.lt _ e2.symm).2
    omega

theorem Twin.pushB {c : Nat} {w w1 : World} {va vb v' : Value} {xs ys : List Int} {z : Int} (h : Twin c w va vb xs ys) (hown : w1.ownsRow (c + 1) 3 1 v' (ys.length + 1) (ys.map (Value.int .i64) ++ [.int .i64 z])) (hg : w.grownBy w1 vb.ownBlock) (hat : v'.ownBlock = vb.ownBlock ∨ v'.ownBlock = some w.heap.size) : Twin c w1 va v' xs (ys ++ [z]) := by
  refine ⟨h.oa.kept hg h.ne, by simpa using hown, ?_⟩
  rcases hat with e | e
  · rw [e]; exact h.ne
  · cases ea : va.ownBlock with
    | none => exact .inl rfl
    | some k =>
      right
      rw [e]
      intro e2
      have := (h.oa.lt k ea).2
      simp at e2
      omega

end Go.Proofs.YtflnodadeajmcaaGreat

namespace Go.Proofs.YtflnodadeajmcaaGreat
open Go.RowKit
set_option linter.unusedVariables false
/-- append onto a slice of the call's own, as one operation: where the new one lies -/
theorem wp_append_at {P : Program} {w : World} {o : Oper} {a : Act} {K : Act → World → Prop} {Q : Exit → Act → World → Prop} (s x : Operand) (t : TypeId)
    (ho : o.op = .call { callee := .builtin .append, args := #[s, x], argTypes := #[t, t] })
    (base : Nat) (e : TypeId) (i : TypeInfo) (z : Value) (size bytes : Nat) (ht : P.underlying t = some (.slice e)) (hi : P.info? e = some i) (hz : i.zero = some z)
    (hsize : i.size = size) (hby : i.bytes = bytes) (hzs : z.cells.size = size) (hsz : 0 < size)
    (v : Value) (n : Nat) (xs : List Value) (hs : a.eval s = v) (hown : w.ownsRow base e size v n xs)
    (ad : Addr) (m c : Nat) (news : List Value) (hx : a.eval x = .slice (some ad) m c) (hl : news.length = m * size) (hnews : ∀ j u, news[j]? = some u → w.cell? (ad.add j) = some u) (h1 : ∀ u ∈ news, u.oneCell' = true)
    (h63 : n + m ≤ maxLen) (hbytes : (n + m) * bytes ≤ 140737488355328) (hbase : base ≤ w.heap.size)
    (h : ∀ v' w', w'.ownsRow base e size v' (n + m) (xs ++ news) → w.grownBy w' v.ownBlock → (v'.ownBlock = v.ownBlock ∨ v'.ownBlock = some w.heap.size) → K (a.put o.dst v') w') : o.wp P a w K Q := by
  obtain ⟨v', w', hr, h2, h3, h4, h5⟩ := run_append_own_at (P := P) w base t o.type e i z size bytes ht hi hz hsize hby hzs hsz v n xs hown ad m c news hl hnews h1 h63 hbytes hbase
  unfold Oper.wp execOp
  simp only [ho, resolve, invoke, builtin, Sem.run_bind, Sem.run_pure, Result.andThen_ok, List.map_toArray, List.map_cons, List.map_nil, hs, hx, hr]
  exact h v' w' h2 h3 h5
theorem news_at {w : World} {g : Nat} {z : Int} (h : w.cell? ⟨g, 0, none⟩ = some (iv z)) : ∀ j u, [iv z][j]? = some u → w.cell? ((⟨g, 0, none⟩ : Addr).add j) = some u := by
  intro j u hj
  match j, hj with
  | 0, hj => simp at hj; subst hj; simpa [Addr.add] using h
theorem cell_grown {w w' : World} {row : Option Nat} {g : Nat} {v : Value} (hg : w.grownBy w' row) (hc : w.cell? ⟨g, 0, none⟩ = some v) (hn : row ≠ some g) : w'.cell? ⟨g, 0, none⟩ = some v := by
  rw [World.cell?_of_block (w := w) (hg.block g (World.block_lt_of_cell? _ _ hc) (by intro q; exact hn q.symm))]
  exact hc
theorem blk_grown {w w' : World} {row : Option Nat} {b : Nat} {cs : Array Value} {ty : TypeId} (hg : w.grownBy w' row) (h : Blk w b cs ty) (hn : row ≠ some b) : Blk w' b cs ty :=
  (hg.block b h.lt (by intro q; exact hn q.symm)).trans h
theorem keepA {l : Array Bool} {i j k d : Nat} {A : Act} {u v : Value} (h : l.getD j true = false → A.tmps[k]? = some v) (hk : k ≠ d) : (l.setIfInBounds i true).getD j true = false → (A.put (some d) u).tmps[k]? = some v := by
  intro e
  refine (put_ne hk).trans (h ?_)
  by_cases q : j = i
  · subst q; rw [getD_set_eq] at e; cases e
  · rwa [getD_set_ne q] at e
/-- the world within the statement that appends to both lists: the operations 4 and 9 lay the two new numbers, 5 and 10 append, 11 and 12 store -/
structure Two (w : World) (c xb : Nat) (xc : Array Value) (tx : TypeId) (va vb : Value) (xs ys : List Int) (f u : Int) (l : Array Bool) (W : World) (g1 g2 : Nat) (x5 x6 : Value) : Prop where
  c4 : l.getD 4 true = true → W.cell? ⟨g1, 0, none⟩ = some (iv f) ∧ va.ownBlock ≠ some g1 ∧ vb.ownBlock ≠ some g1
  c9 : l.getD 9 true = true → W.cell? ⟨g2, 0, none⟩ = some (iv u) ∧ va.ownBlock ≠ some g2 ∧ vb.ownBlock ≠ some g2
  t0 : l.getD 5 true = false → Twin c W va vb xs ys
  t5 : l.getD 5 true = true → l.getD 10 true = false → Twin c W x5 vb (xs ++ [f]) ys
  tt : l.getD 10 true = true → Twin c W x5 x6 (xs ++ [f]) (ys ++ [u])
  k10 : l.getD 10 true = true → l.getD 5 true = true
  k11 : l.getD 11 true = true → l.getD 5 true = true
  k12 : l.getD 12 true = true → l.getD 10 true = true
  bx : Blk W xb xc tx
  na : ∀ k, va.ownBlock = some k → k < xb
  nb : ∀ k, vb.ownBlock = some k → k < xb
  kw : Kept 0 0 w W
  cx : c ≤ xb
  cw : w.heap.size ≤ c + 1
theorem ne_of_lt {v : Value} {n g : Nat} (h : ∀ k, v.ownBlock = some k → k < n) (hg : n ≤ g) : v.ownBlock ≠ some g := by
  intro q; have := h g q; omega
variable {w W : World} {c xb : Nat} {xc : Array Value} {tx : TypeId} {va vb : Value} {xs ys : List Int} {f u : Int} {l : Array Bool} {g1 g2 : Nat} {x5 x6 : Value}
theorem Two.sz (h : Two w c xb xc tx va vb xs ys f u l W g1 g2 x5 x6) : c + 1 ≤ W.heap.size := by have := h.bx.lt; have := h.cx; omega
theorem Two.other (h : Two w c xb xc tx va vb xs ys f u l W g1 g2 x5 x6) {i : Nat} (hi : i ≠ 4 ∧ i ≠ 9 ∧ i ≠ 5 ∧ i ≠ 10 ∧ i ≠ 11 ∧ i ≠ 12) : Two w c xb xc tx va vb xs ys f u (l.setIfInBounds i true) W g1 g2 x5 x6 := by
  obtain ⟨q4, q9, q5, q10, q11, q12⟩ := hi
  have e4 := getD_set_ne (l := l) (Ne.symm q4)
  have e9 := getD_set_ne (l := l) (Ne.symm q9)
  have e5 := getD_set_ne (l := l) (Ne.symm q5)
  have e10 := getD_set_ne (l := l) (Ne.symm q10)
  have e11 := getD_set_ne (l := l) (Ne.symm q11)
  have e12 := getD_set_ne (l := l) (Ne.symm q12)
  exact ⟨by rw [e4]; exact h.c4, by rw [e9]; exact h.c9, by rw [e5]; exact h.t0, by rw [e5, e10]; exact h.t5, by rw [e10]; exact h.tt, by rw [e10, e5]; exact h.k10, by rw [e11, e5]; exact h.k11, by rw [e12, e10]; exact h.k12, h.bx, h.na, h.nb, h.kw, h.cx, h.cw⟩
/-- operation 11 stores the first list's new slice -/
theorem Two.op11 (h : Two w c xb xc tx va vb xs ys f u l W g1 g2 x5 x6) (h5 : l.getD 5 true = true) : Two w c xb xc tx va vb xs ys f u (l.setIfInBounds 11 true) W g1 g2 x5 x6 := by
  have e4 := getD_set_ne (l := l) (show (4 : Nat) ≠ 11 by decide)
  have e9 := getD_set_ne (l := l) (show (9 : Nat) ≠ 11 by decide)
  have e5 := getD_set_ne (l := l) (show (5 : Nat) ≠ 11 by decide)
  have e10 := getD_set_ne (l := l) (show (10 : Nat) ≠ 11 by decide)
  have e12 := getD_set_ne (l := l) (show (12 : Nat) ≠ 11 by decide)
  exact ⟨by rw [e4]; exact h.c4, by rw [e9]; exact h.c9, by rw [e5]; exact h.t0, by rw [e5, e10]; exact h.t5, by rw [e10]; exact h.tt, by rw [e10, e5]; exact h.k10, by rw [e5]; exact fun _ => h5, by rw [e12, e10]; exact h.k12, h.bx, h.na, h.nb, h.kw, h.cx, h.cw⟩
theorem Two.op12 (h : Two w c xb xc tx va vb xs ys f u l W g1 g2 x5 x6) (h10 : l.getD 10 true = true) : Two w c xb xc tx va vb xs ys f u (l.setIfInBounds 12 true) W g1 g2 x5 x6 := by
  have e4 := getD_set_ne (l := l) (show (4 : Nat) ≠ 12 by decide)
  have e9 := getD_set_ne (l := l) (show (9 : Nat) ≠ 12 by decide)
  have e5 := getD_set_ne (l := l) (show (5 : Nat) ≠ 12 by decide)
  have e10 := getD_set_ne (l := l) (show (10 : Nat) ≠ 12 by decide)
  have e11 := getD_set_ne (l := l) (show (11 : Nat) ≠ 12 by decide)
  exact ⟨by rw [e4]; exact h.c4, by rw [e9]; exact h.c9, by rw [e5]; exact h.t0, by rw [e5, e10]; exact h.t5, by rw [e10]; exact h.tt, by rw [e10, e5]; exact h.k10, by rw [e11, e5]; exact h.k11, by rw [e10]; exact fun _ => h10, h.bx, h.na, h.nb, h.kw, h.cx, h.cw⟩
theorem Two.op4 (h : Two w c xb xc tx va vb xs ys f u l W g1 g2 x5 x6) (ty : TypeId) : Two w c xb xc tx va vb xs ys f u (l.setIfInBounds 4 true) (W.alloc (.cells #[iv f] ty)) W.heap.size g2 x5 x6 := by
  have e9 := getD_set_ne (l := l) (show (9 : Nat) ≠ 4 by decide)
  have e5 := getD_set_ne (l := l) (show (5 : Nat) ≠ 4 by decide)
  have e10 := getD_set_ne (l := l) (show (10 : Nat) ≠ 4 by decide)
  have e11 := getD_set_ne (l := l) (show (11 : Nat) ≠ 4 by decide)
  have e12 := getD_set_ne (l := l) (show (12 : Nat) ≠ 4 by decide)
  have hb := h.bx.lt
  refine ⟨fun _ => ⟨(Blk.new W #[iv f] ty).cell (i := 0) rfl, ne_of_lt h.na (by omega), ne_of_lt h.nb (by omega)⟩, ?_, ?_, ?_, ?_, by rw [e10, e5]; exact h.k10, by rw [e11, e5]; exact h.k11, by rw [e12, e10]; exact h.k12, h.bx.alloc _, h.na, h.nb, kept_new h.kw _, h.cx, h.cw⟩
  · rw [e9]
    intro q
    obtain ⟨d0, d1, d2⟩ := h.c9 q
    exact ⟨cell_grown (grownBy_alloc (row := none) (World.grownBy.refl _ _) _) d0 (by simp), d1, d2⟩
  · rw [e5]; exact fun q => (h.t0 q).alloc _
  · rw [e5, e10]; exact fun q r => (h.t5 q r).alloc _
  · rw [e10]; exact fun q => (h.tt q).alloc _
theorem Two.op9 (h : Two w c xb xc tx va vb xs ys f u l W g1 g2 x5 x6) (ty : TypeId) : Two w c xb xc tx va vb xs ys f u (l.setIfInBounds 9 true) (W.alloc (.cells #[iv u] ty)) g1 W.heap.size x5 x6 := by
  have e4 := getD_set_ne (l := l) (show (4 : Nat) ≠ 9 by decide)
  have e5 := getD_set_ne (l := l) (show (5 : Nat) ≠ 9 by decide)
  have e10 := getD_set_ne (l := l) (show (10 : Nat) ≠ 9 by decide)
  have e11 := getD_set_ne (l := l) (show (11 : Nat) ≠ 9 by decide)
  have e12 := getD_set_ne (l := l) (show (12 : Nat) ≠ 9 by decide)
  have hb := h.bx.lt
  refine ⟨?_, fun _ => ⟨(Blk.new W #[iv u] ty).cell (i := 0) rfl, ne_of_lt h.na (by omega), ne_of_lt h.nb (by omega)⟩, ?_, ?_, ?_, by rw [e10, e5]; exact h.k10, by rw [e11, e5]; exact h.k11, by rw [e12, e10]; exact h.k12, h.bx.alloc _, h.na, h.nb, kept_new h.kw _, h.cx, h.cw⟩
  · rw [e4]
    intro q
    obtain ⟨d0, d1, d2⟩ := h.c4 q
    exact ⟨cell_grown (grownBy_alloc (row := none) (World.grownBy.refl _ _) _) d0 (by simp), d1, d2⟩
  · rw [e5]; exact fun q => (h.t0 q).alloc _
  · rw [e5, e10]; exact fun q r => (h.t5 q r).alloc _
  · rw [e10]; exact fun q => (h.tt q).alloc _
theorem Two.op5 (h : Two w c xb xc tx va vb xs ys f u l W g1 g2 x5 x6) (h5 : l.getD 5 true = false) {v' : Value} {W' : World} (hown : W'.ownsRow (c + 1) 3 1 v' (xs.length + 1) (xs.map (Value.int .i64) ++ [iv f])) (hg : W.grownBy W' va.ownBlock) (hat : v'.ownBlock = va.ownBlock ∨ v'.ownBlock = some W.heap.size) :
    Two w c xb xc tx va vb xs ys f u (l.setIfInBounds 5 true) W' g1 g2 v' x6 := by
  have e4 := getD_set_ne (l := l) (show (4 : Nat) ≠ 5 by decide)
  have e9 := getD_set_ne (l := l) (show (9 : Nat) ≠ 5 by decide)
  have e5 := getD_set_eq (l := l) (i := 5)
  have e10 := getD_set_ne (l := l) (show (10 : Nat) ≠ 5 by decide)
  have e11 := getD_set_ne (l := l) (show (11 : Nat) ≠ 5 by decide)
  have e12 := getD_set_ne (l := l) (show (12 : Nat) ≠ 5 by decide)
  have hcw := h.cw
  refine ⟨?_, ?_, ?_, ?_, ?_, ?_, ?_, by rw [e12, e10]; exact h.k12, blk_grown hg h.bx (ne_of_lt h.na (Nat.le_refl _)), h.na, h.nb, kept_over h.kw (kept_row (lo := w.heap.size) (hi := W.heap.size) hg (fun g q => ⟨by have := ((h.t0 h5).oa.lt g q).1; omega, ((h.t0 h5).oa.lt g q).2⟩)) (Nat.le_refl _), h.cx, h.cw⟩
  · rw [e4]; intro q; obtain ⟨d0, d1, d2⟩ := h.c4 q; exact ⟨cell_grown hg d0 d1, d1, d2⟩
  · rw [e9]; intro q; obtain ⟨d0, d1, d2⟩ := h.c9 q; exact ⟨cell_grown hg d0 d1, d1, d2⟩
  · rw [e5]; intro q; cases q
  · intro _ _; exact (h.t0 h5).pushA hown hg hat
  · rw [e10]; intro q; have := h.k10 q; rw [h5] at this; cases this
  · intro _; exact e5
  · intro _; exact e5
theorem Two.op10 (h : Two w c xb xc tx va vb xs ys f u l W g1 g2 x5 x6) (h5 : l.getD 5 true = true) (h10 : l.getD 10 true = false) {v' : Value} {W' : World} (hown : W'.ownsRow (c + 1) 3 1 v' (ys.length + 1) (ys.map (Value.int .i64) ++ [iv u])) (hg : W.grownBy W' vb.ownBlock) (hat : v'.ownBlock = vb.ownBlock ∨ v'.ownBlock = some W.heap.size) :
    Two w c xb xc tx va vb xs ys f u (l.setIfInBounds 10 true) W' g1 g2 x5 v' := by
  have e4 := getD_set_ne (l := l) (show (4 : Nat) ≠ 10 by decide)
  have e9 := getD_set_ne (l := l) (show (9 : Nat) ≠ 10 by decide)
  have e5 := getD_set_ne (l := l) (show (5 : Nat) ≠ 10 by decide)
  have e10 := getD_set_eq (l := l) (i := 10)
  have e11 := getD_set_ne (l := l) (show (11 : Nat) ≠ 10 by decide)
  have hcw := h.cw
  refine ⟨?_, ?_, ?_, ?_, ?_, ?_, by rw [e11, e5]; exact h.k11, ?_, blk_grown hg h.bx (ne_of_lt h.nb (Nat.le_refl _)), h.na, h.nb, kept_over h.kw (kept_row (lo := w.heap.size) (hi := W.heap.size) hg (fun g q => ⟨by have := ((h.t5 h5 h10).ob.lt g q).1; omega, ((h.t5 h5 h10).ob.lt g q).2⟩)) (Nat.le_refl _), h.cx, h.cw⟩
  · rw [e4]; intro q; obtain ⟨d0, d1, d2⟩ := h.c4 q; exact ⟨cell_grown hg d0 d2, d1, d2⟩
  · rw [e9]; intro q; obtain ⟨d0, d1, d2⟩ := h.c9 q; exact ⟨cell_grown hg d0 d2, d1, d2⟩
  · rw [e5]; intro q; rw [h5] at q; cases q
  · rw [e10]; intro _ q; cases q
  · intro _; exact (h.t5 h5 h10).pushB hown hg hat
  · rw [e5]; intro _; exact h5
  · intro _; exact e10
end Go.Proofs.YtflnodadeajmcaaGreat

namespace Go.Proofs
open Go.Shelf
def Tryz.lays189_ren : Go.Shelf.Ren := ⟨fun | 189 => 97 | 125 => 128 | 257 => 127 | 128 => 162 | 129 => 163 | 294 => 153 | 295 => 154 | 296 => 155 | 297 => 156 | 298 => 157 | 299 => 158 | 216 => 159 | 300 => 160 | 301 => 161 | 328 => 177 | 329 => 178 | 330 => 179 | 331 => 180 | 332 => 181 | 215 => 182 | 343 => 196 | n => n, fun | 28 => 22 | 3 => 3 | 46 => 156 | 0 => 0 | 51 => 197 | 53 => 199 | 4 => 4 | 183 => 191 | 182 => 190 | 131 => 142 | 5 => 5 | 9 => 9 | 218 => 208 | 222 => 212 | 228 => 219 | 229 => 215 | n => n, fun | n => n⟩
theorem Tryz.lays189 : Go.Proofs.Lays.n189 Tryz.prog Tryz.lays189_ren := {
  mixed := by kernel_rfl
  f125 := Tryz.func128.trans (congrArg some (by kernel_rfl))
  f128 := Tryz.func162.trans (congrArg some (by kernel_rfl))
  f129 := Tryz.func163.trans (congrArg some (by kernel_rfl))
  f189 := Tryz.func97.trans (congrArg some (by kernel_rfl))
  f215 := Tryz.func182.trans (congrArg some (by kernel_rfl))
  f216 := Tryz.func159.trans (congrArg some (by kernel_rfl))
  f257 := Tryz.func127.trans (congrArg some (by kernel_rfl))
  f294 := Tryz.func153.trans (congrArg some (by kernel_rfl))
  f295 := Tryz.func154.trans (congrArg some (by kernel_rfl))
  f296 := Tryz.func155.trans (congrArg some (by kernel_rfl))
  f297 := Tryz.func156.trans (congrArg some (by kernel_rfl))
  f298 := Tryz.func157.trans (congrArg some (by kernel_rfl))
  f299 := Tryz.func158.trans (congrArg some (by kernel_rfl))
  f300 := Tryz.func160.trans (congrArg some (by kernel_rfl))
  f301 := Tryz.func161.trans (congrArg some (by kernel_rfl))
  f328 := Tryz.func177.trans (congrArg some (by kernel_rfl))
  f329 := Tryz.func178.trans (congrArg some (by kernel_rfl))
  f330 := Tryz.func179.trans (congrArg some (by kernel_rfl))
  f331 := Tryz.func180.trans (congrArg some (by kernel_rfl))
  f332 := Tryz.func181.trans (congrArg some (by kernel_rfl))
  f343 := Tryz.func196.trans (congrArg some (by kernel_rfl))
  t0 := Tryz.underlying0
  a0 := Tryz.isAgg0
  z0 := Tryz.sizeOf0
  v0 := Tryz.zeroValue0
  t3 := Tryz.underlying3
  a3 := Tryz.isAgg3
  z3 := Tryz.sizeOf3
  v3 := Tryz.zeroValue3
  t4 := Tryz.underlying4
  a4 := Tryz.isAgg4
  z4 := Tryz.sizeOf4
  v4 := Tryz.zeroValue4
  t5 := Tryz.underlying5
  a5 := Tryz.isAgg5
  z5 := Tryz.sizeOf5
  v5 := Tryz.zeroValue5
  t9 := Tryz.underlying9
  a9 := Tryz.isAgg9
  z9 := Tryz.sizeOf9
  v9 := Tryz.zeroValue9
  t28 := Tryz.underlying22
  a28 := Tryz.isAgg22
  z28 := Tryz.sizeOf22
  v28 := Tryz.zeroValue22
  t46 := Tryz.underlying156
  a46 := Tryz.isAgg156
  z46 := Tryz.sizeOf156
  v46 := Tryz.zeroValue156
  t51 := Tryz.underlying197
  a51 := Tryz.isAgg197
  z51 := Tryz.sizeOf197
  v51 := Tryz.zeroValue197
  t53 := Tryz.underlying199
  a53 := Tryz.isAgg199
  z53 := Tryz.sizeOf199
  v53 := Tryz.zeroValue199
  t131 := Tryz.underlying142
  a131 := Tryz.isAgg142
  z131 := Tryz.sizeOf142
  v131 := Tryz.zeroValue142
  t182 := Tryz.underlying190
  a182 := Tryz.isAgg190
  z182 := Tryz.sizeOf190
  v182 := Tryz.zeroValue190
  t183 := Tryz.underlying191
  a183 := Tryz.isAgg191
  z183 := Tryz.sizeOf191
  v183 := Tryz.zeroValue191
  t218 := Tryz.underlying208
  a218 := Tryz.isAgg208
  z218 := Tryz.sizeOf208
  v218 := Tryz.zeroValue208
  t222 := Tryz.underlying212
  a222 := Tryz.isAgg212
  z222 := Tryz.sizeOf212
  v222 := Tryz.zeroValue212
  t228 := Tryz.underlying219
  a228 := Tryz.isAgg219
  z228 := Tryz.sizeOf219
  v228 := Tryz.zeroValue219
  t229 := Tryz.underlying215
  a229 := Tryz.isAgg215
  z229 := Tryz.sizeOf215
  v229 := Tryz.zeroValue215 }
open Go.Sort Go.RowKit in
theorem Tryz.slices_Sort_int (blk off cap : Nat) (zs : List Int) (w : World) (hH : Holds (Value.int .i64) w blk off zs.toArray) (hblk : blk < w.heap.size) (hsz : zs.length < 4611686018427387904) :
    Calls Tryz.prog 97 #[.slice (some ⟨blk, off, none⟩) zs.length cap] w fun e w' =>
      e = .returned (.tuple #[]) ∧ ∃ n os, w' = grow (putRow (Value.int .i64) (Sort.ahead w n) blk off (zs.mergeSort fun x y => decide (x ≤ y)).toArray) os := Any.slices_Sort_int Tryz.lays189 blk off cap zs w hH hblk hsz
open Go.RowKit Go.Lib in
open Go.RowKit Go.Lib in
open Go.RowKit Go.Sort in
/-- .. and plain. (LAID: no walk: one application.) -/
theorem Tryz.slices_Sort_int_none (p : Option Addr) (cap : Nat) (w : World) :
    Calls Tryz.prog 97 #[.slice p 0 cap] w fun e w' => e = .returned (.tuple #[]) ∧ w' = w := Any.slices_Sort_int_none Tryz.lays189 p cap w
end Go.Proofs

namespace Go.Proofs.YtflnodadeajmcaaGreat
open Go.RowKit
set_option linter.unusedVariables false
/-- each number of a list is above the one ahead of it -/
def Pl.Rises (xs : List Int) : Prop := ∀ i, i + 1 < xs.length → el xs i < el xs (i + 1)
noncomputable def Pl.rises (xs : List Int) : Bool := @decide (Pl.Rises xs) (Classical.propDecidable _)
theorem Pl.rises_yes {xs : List Int} (h : Pl.Rises xs) : Pl.rises xs = true := @decide_eq_true _ (Classical.propDecidable _) h
theorem Pl.rises_no {xs : List Int} (h : ¬ Pl.Rises xs) : Pl.rises xs = false := @decide_eq_false _ (Classical.propDecidable _) h
theorem Pl.rises_of {xs : List Int} (h : Pl.rises xs = true) : Pl.Rises xs := @of_decide_eq_true _ (Classical.propDecidable _) h
theorem Pl.Rises.lt {xs : List Int} (h : Pl.Rises xs) {i j : Nat} (hij : i < j) (hj : j < xs.length) : el xs i < el xs j := by
  induction j with
  | zero => omega
  | succ j ih =>
    have h1 := h j hj
    rcases Nat.lt_or_ge i j with q | q
    · have := ih q (by omega); omega
    · obtain rfl : i = j := by omega
      exact h1
theorem el_get {xs : List Int} {i : Nat} (h : i < xs.length) : el xs i = xs[i] := by unfold el; simp [h]
/-- a sorted list rises just where no two of it are alike -/
theorem Pl.rises_sorted (xs : List Int) : Pl.Rises (xs.mergeSort fun x y => decide (x ≤ y)) ↔ xs.Nodup := by
  have hp : (xs.mergeSort fun x y => decide (x ≤ y)).Perm xs := List.mergeSort_perm _ _
  have hs : (xs.mergeSort fun x y => decide (x ≤ y)).Pairwise (fun x y => x ≤ y) := by
    have := List.pairwise_mergeSort (le := fun x y : Int => decide (x ≤ y)) (by intro a b c; simp; omega) (by intro a b; simp; omega) xs
    simpa using this
  rw [← hp.nodup_iff]
  obtain ⟨ys, hy⟩ : ∃ ys, ys = xs.mergeSort fun x y => decide (x ≤ y) := ⟨_, rfl⟩
  rw [← hy] at hs ⊢
  constructor
  · intro h
    rw [List.nodup_iff_pairwise_ne, List.pairwise_iff_getElem]
    intro i j hi hj hij
    have := h.lt hij hj
    rw [el_get hi, el_get hj] at this
    omega
  · intro h i hi
    rw [List.nodup_iff_pairwise_ne, List.pairwise_iff_getElem] at h
    rw [List.pairwise_iff_getElem] at hs
    have h1 := h i (i + 1) (by omega) hi (by omega)
    have h2 := hs i (i + 1) (by omega) hi (by omega)
    rw [el_get (show i < ys.length by omega), el_get hi]
    omega
theorem Pl.nodup_el {xs : List Int} : xs.Nodup ↔ ∀ k, k < xs.length → ∀ j, j < k → el xs j ≠ el xs k := by
  rw [List.nodup_iff_pairwise_ne, List.pairwise_iff_getElem]
  constructor
  · intro h k hk j hj
    rw [el_get (show j < xs.length by omega), el_get hk]
    exact h j k (by omega) hk hj
  · intro h i j hi hj hij
    have := h j hj i hij
    rwa [el_get hi, el_get hj] at this
set_option maxHeartbeats 2000000 in
theorem implRising (w : World) (a : Option Addr) (ca : Nat) (xs : List Int) (ha : IRow w a xs) (bx : xs.length ≤ 2000000) :
    Calls Tryz.prog 98 #[.slice a xs.length ca] w fun e w' => e = .returned (.bool (Pl.rises xs)) ∧ Kept 0 0 w w' := by
  obtain ⟨n, hn⟩ : ∃ n, n = xs.length := ⟨_, rfl⟩
  have HA := hide ha
  have HN := hide hn
  rw [← hn] at bx ⊢
  clear ha hn
  go_enter Tryz.func98, Tryz.ntmps98
  go_wp2
  go_loopw [3] (fun v wr => ∃ k : Nat, 1 ≤ k ∧ k ≤ n + 1 ∧ v = .int .i64 k ∧ (∀ i, i + 1 < k → i + 1 < n → el xs i < el xs (i + 1)) ∧ Kept 0 0 w wr) (fun v _ => n + 1 - (intOf v).toNat)
  case atStart => exact ⟨1, Nat.le_refl _, by omega, rfl, fun i hi => absurd hi (by omega), Kept.refl _ _ _⟩
  case round =>
    obtain ⟨k, hk1, hk, rfl, hall, hg⟩ := hrel
    have HL := hide hall
    have HG := hide hg
    clear hall
    by_cases hlt : k < n
    · obtain ⟨m, rfl⟩ : ∃ m, k = m + 1 := ⟨k - 1, by omega⟩
      obtain ⟨g1, o1, rfl, p0⟩ := (HA.out.keptS hg) m (by have := HN.out; omega)
      obtain ⟨g2, o2, e2, p1⟩ := (HA.out.keptS hg) (m + 1) (by have := HN.out; omega)
      cases e2
      rw [show xs[m]?.getD 0 = el xs m from rfl] at p0
      rw [show xs[m + 1]?.getD 0 = el xs (m + 1) from rfl] at p1
      have ew : IntKind.i64.wrap (m : Int) = (m : Int) := by rw [IntKind.wrap_i64]; omega
      clear hg
      cases hc : decide (el xs (m + 1) ≤ el xs m)
      · go_wp2
        go_region
        go_wp2
        go_roundw
        case rel => exact ⟨m + 1 + 1, by omega, by omega, by go_num, fun i hi hin => (if e : i = m then by subst e; simp at hc; exact hc else HL.out i (by omega) hin), kept_drew HG.out⟩
        case measure => simp [intOf]; omega
      · have E : Hid (Pl.rises xs = false) := hide (Pl.rises_no fun h => by have := h m (by have := HN.out; omega); simp at hc; omega)
        go_wp2
        go_region
        go_wp2
        go_ret
        exact ⟨rB E.out.symm, kept_drew HG.out⟩
    · have E : Hid (Pl.rises xs = true) := hide (Pl.rises_yes fun i hi => HL.out i (by have := HN.out; omega) (by have := HN.out; omega))
      go_wp2
      go_ret
      exact ⟨rB E.out.symm, HG.out⟩
theorem implRoom (w : World) (r : Int) : Calls Tryz.prog 65 #[iv r] w fun e w' => e = .returned (.bool (decide (1 ≤ r) && decide (r ≤ 8))) ∧ w' = w := by
  cases h1 : decide (1 ≤ r) <;> cases h2 : decide (r ≤ 8)
  all_goals
    go_enter Tryz.func65, Tryz.ntmps65
    go_wp2_with fail
    go_ret
    exact ⟨rB (by simp), rfl⟩
set_option maxHeartbeats 2000000 in
theorem implCached (w : World) (x : Pl.Ck) (a : Option Addr) (ca : Nat) (c : Int) (ha : MRow w a x.n x.ys x.ts x.sk) (ok : Pl.CkOk x) (bx : x.n ≤ 2000000) :
    Calls Tryz.prog 96 #[.agg #[iv x.f, iv x.t, .slice a x.n ca, iv x.u], iv c] w fun e w' => e = .returned (.bool (Pl.goodC c x)) ∧ Kept 0 0 w w' := by
  obtain ⟨ly, _, _, wy, _, _, _, _, _⟩ := ok
  obtain ⟨f, t, n, ys, ts, sk, u⟩ := x
  simp only at ha bx ly wy ⊢
  have K0 := hide (kept_alloc w (.cells #[iv f, iv t, .slice a n ca, iv u] 101))
  have P0 := hide (Blk.new w #[iv f, iv t, .slice a n ca, iv u] 101)
  have HA := hide (ha.keptS K0.out)
  have LY := hide ly
  have WY := hide wy
  clear ha ly wy
  cases hG : Pl.goodU f t n ys ts sk
  · have E : Hid (Pl.goodC c ⟨f, t, n, ys, ts, sk, u⟩ = false) := hide (by unfold Pl.goodC; simp only; rw [hG]; rfl)
    go_enter Tryz.func96, Tryz.ntmps96
    go_wp2_with (first | (go_at_call 126; refine (implGoodUnit _ f t a ca n ys ts sk HA.out LY.out WY.out bx).mono ?_; rw [hG]; rintro e9 w2 ⟨rfl, k2⟩; have K2 := hide (K0.out.trans k2); have p2 := (P0.out.kept0 k2).all; clear k2))
    go_ret
    exact ⟨rB E.out.symm, K2.out⟩
  · cases h1 : decide (0 ≤ u) <;> cases h2 : decide (u ≤ c)
    all_goals
      obtain ⟨V, hV⟩ : ∃ V, V = (decide (0 ≤ u) && decide (u ≤ c)) := ⟨_, rfl⟩
      have E : Hid (Pl.goodC c ⟨f, t, n, ys, ts, sk, u⟩ = V) := hide (by unfold Pl.goodC; simp only; rw [hG, hV]; rfl)
      rw [h1, h2] at hV
      go_enter Tryz.func96, Tryz.ntmps96
      go_wp2_with (first | (go_at_call 126; refine (implGoodUnit _ f t a ca n ys ts sk HA.out LY.out WY.out bx).mono ?_; rw [hG]; rintro e9 w2 ⟨rfl, k2⟩; have K2 := hide (K0.out.trans k2); have p2 := (P0.out.kept0 k2).all; clear k2))
      go_ret
      exact ⟨rB (by rw [E.out, hV]; rfl), K2.out⟩
end Go.Proofs.YtflnodadeajmcaaGreat

namespace Go.Proofs.YtflnodadeajmcaaGreat
open Go.RowKit
set_option linter.unusedVariables false
/-- where the first k of a list begin, and when they were used -/
def Pl.froms (us : List Pl.Ck) (k : Nat) : List Int := (List.range k).map fun i => (Pl.ck us i).f
def Pl.uses (us : List Pl.Ck) (k : Nat) : List Int := (List.range k).map fun i => (Pl.ck us i).u
theorem Pl.froms_len (us : List Pl.Ck) (k : Nat) : (Pl.froms us k).length = k := by simp [Pl.froms]
theorem Pl.uses_len (us : List Pl.Ck) (k : Nat) : (Pl.uses us k).length = k := by simp [Pl.uses]
theorem Pl.froms_s (us : List Pl.Ck) (k : Nat) : Pl.froms us (k + 1) = Pl.froms us k ++ [(Pl.ck us k).f] := by simp [Pl.froms, List.range_succ]
theorem Pl.uses_s (us : List Pl.Ck) (k : Nat) : Pl.uses us (k + 1) = Pl.uses us k ++ [(Pl.ck us k).u] := by simp [Pl.uses, List.range_succ]
theorem Pl.froms_el (us : List Pl.Ck) {k i : Nat} (h : i < k) : el (Pl.froms us k) i = (Pl.ck us i).f := by unfold el Pl.froms; simp [h]
theorem Pl.uses_el (us : List Pl.Ck) {k i : Nat} (h : i < k) : el (Pl.uses us k) i = (Pl.ck us i).u := by unfold el Pl.uses; simp [h]
theorem Twin.kept0 {c : Nat} {w w' : World} {va vb : Value} {xs ys : List Int} (h : Twin c w va vb xs ys) (k : Kept 0 0 w w') : Twin c w' va vb xs ys := ⟨h.oa.kept k.grown (Classical.em _), h.ob.kept k.grown (Classical.em _), h.ne⟩
theorem Twin.keptW {c : Nat} {w w1 w' : World} {va vb : Value} {xs ys : List Int} (h : Twin c w va vb xs ys) (k : Kept 0 0 w w1) (k2 : Kept 0 0 w1 w') : Twin c w' va vb xs ys := h.kept0 (k.trans k2)
/-- what areUnits tells -/
noncomputable def Pl.areU (c : Int) (us : List Pl.Ck) : Bool := @decide ((∀ k, k < us.length → Pl.goodC c (Pl.ck us k) = true) ∧ Pl.Rises (Pl.froms us us.length) ∧ (Pl.uses us us.length).Nodup) (Classical.propDecidable _)
theorem Pl.areU_yes {c : Int} {us : List Pl.Ck} (h : (∀ k, k < us.length → Pl.goodC c (Pl.ck us k) = true) ∧ Pl.Rises (Pl.froms us us.length) ∧ (Pl.uses us us.length).Nodup) : Pl.areU c us = true := @decide_eq_true _ (Classical.propDecidable _) h
theorem Pl.areU_no {c : Int} {us : List Pl.Ck} (h : ¬ ((∀ k, k < us.length → Pl.goodC c (Pl.ck us k) = true) ∧ Pl.Rises (Pl.froms us us.length) ∧ (Pl.uses us us.length).Nodup)) : Pl.areU c us = false := @decide_eq_false _ (Classical.propDecidable _) h
/-- a list of the call's own, sorted -/
theorem sortOwn (w : World) (base : Nat) (v : Value) (U : List Int) (h : w.ownsRow base 3 1 v U.length (U.map (Value.int .i64))) (lu : U.length ≤ 2000000) :
    Calls Tryz.prog 97 #[v] w fun e w' => e = .returned (.tuple #[]) ∧ w'.ownsRow base 3 1 v U.length ((U.mergeSort fun x y => decide (x ≤ y)).map (Value.int .i64)) ∧ w.grownBy w' v.ownBlock := by
  have h9 := h
  rcases h.2 with ⟨rfl, n0⟩ | ⟨g, cap, cur, rfl, hb, hgg, hn, hc, hsz, ht⟩
  · obtain rfl : U = [] := List.length_eq_zero_iff.1 n0
    refine (Tryz.slices_Sort_int_none none 0 w).mono ?_
    rintro e w' ⟨rfl, rfl⟩
    exact ⟨rfl, by simpa using h9, World.grownBy.refl _ _⟩
  · rw [Nat.mul_one] at ht
    refine (Tryz.slices_Sort_int g 0 cap U w (holds_of_blockI hgg ht) (h9.lt g rfl).2 (by omega)).mono ?_
    rintro e w' ⟨rfl, n, os, rfl⟩
    exact ⟨rfl, ownsRow_sortedI (by simp) hb hgg hn hc hsz, grownBy_sortedI _⟩
theorem irow_owns {w : World} {base n : Nat} {v : Value} {xs : List Int} (h : w.ownsRow base 3 1 v n (xs.map (Value.int .i64))) : ∃ (b : Option Addr) (cb : Nat), v = .slice b n cb ∧ IRow w b xs := by
  have hl : xs.length = n := by simpa using h.1
  subst hl
  obtain ⟨b, cb, e, hs⟩ := slotIn_row h
  exact ⟨b, cb, e, hs.row⟩
set_option maxRecDepth 100000 in
set_option maxHeartbeats 8000000 in
theorem implAreUnits (w : World) (c : Int) (a : Option Addr) (ca : Nat) (us : List Pl.Ck) (ha : CRow w a us) (hok : ∀ k, k < us.length → Pl.CkOk (Pl.ck us k)) (bx : us.length ≤ 2000000) (bn : ∀ k, k < us.length → (Pl.ck us k).n ≤ 2000000) :
    Calls Tryz.prog 66 #[.slice a us.length ca, iv c] w fun e w' => e = .returned (.bool (Pl.areU c us)) ∧ Kept 0 0 w w' := by
  obtain ⟨ti, hi0, hz0, hz1, hz2⟩ := info_parts Tryz.info3
  obtain ⟨n, hn⟩ : ∃ n, n = us.length := ⟨_, rfl⟩
  have HA := hide ha
  have HN := hide hn
  have HO := hide hok
  rw [← hn] at bx ⊢
  clear ha hn hok
  go_enter Tryz.func66, Tryz.ntmps66
  go_wp2
  go_loopw [5, 6, 11] (fun va vb j wr => ∃ k : Nat, k ≤ n ∧ j = .int .i64 k ∧ Twin w.heap.size wr va vb (Pl.froms us k) (Pl.uses us k) ∧ (∀ i, i < k → Pl.goodC c (Pl.ck us i) = true) ∧ Kept 0 0 w wr) (fun _ _ j _ => n - (intOf j).toNat)
  case atStart => exact ⟨0, Nat.zero_le _, rfl, ⟨World.ownsRow_nil _ _ _ _, World.ownsRow_nil _ _ _ _, .inl rfl⟩, fun i hi => absurd hi (Nat.not_lt_zero i), Kept.refl _ _ _⟩
  case round =>
    obtain ⟨k, hk, rfl, htw, hall, hkept⟩ := hrel
    have HT := hide htw
    have HL := hide hall
    have HK := hide hkept
    clear htw hall
    by_cases hlt : k < n
    · have hlu : k < us.length := by rw [← HN.out]; exact hlt
      obtain ⟨g9, of9, b1, cb1, rfl, p0, p1, p2, p3, pm⟩ := (HA.out.keptS hkept).at4 hlu
      have bk := bn k hlu
      have ok1 := HO.out k hlu
      have PM := hide (pm.keptS (kept_alloc wr (.cells #[iv (Pl.ck us k).f, iv (Pl.ck us k).t, .slice b1 (Pl.ck us k).n cb1, iv (Pl.ck us k).u] 101)))
      have BX := hide (Blk.new wr #[iv (Pl.ck us k).f, iv (Pl.ck us k).t, .slice b1 (Pl.ck us k).n cb1, iv (Pl.ck us k).u] 101)
      have HKX := hide (kept_new HK.out (.cells #[iv (Pl.ck us k).f, iv (Pl.ck us k).t, .slice b1 (Pl.ck us k).n cb1, iv (Pl.ck us k).u] 101))
      clear pm hkept
      cases hG : Pl.goodC c (Pl.ck us k)
      · have E : Hid (Pl.areU c us = false) := hide (Pl.areU_no fun h => by have := h.1 k hlu; rw [hG] at this; cases this)
        go_wp2_with (first | (go_at_call 96; refine (implCached _ (Pl.ck us k) b1 cb1 c PM.out ok1 bk).mono ?_; rw [hG]; rintro e9 W5 ⟨rfl, k5⟩; have K5 := hide (HKX.out.trans k5); have BX5 := hide (BX.out.kept0 k5); have HT5 := hide (HT.out.keptW (kept_new (Kept.refl 0 0 wr) (.cells #[iv (Pl.ck us k).f, iv (Pl.ck us k).t, .slice b1 (Pl.ck us k).n cb1, iv (Pl.ck us k).u] 101)) k5); clear k5))
        go_ret
        exact ⟨rB E.out.symm, K5.out⟩
      · go_wp2_with (first | (go_at_call 96; refine (implCached _ (Pl.ck us k) b1 cb1 c PM.out ok1 bk).mono ?_; rw [hG]; rintro e9 W5 ⟨rfl, k5⟩; have K5 := hide (HKX.out.trans k5); have BX5 := hide (BX.out.kept0 k5); have HT5 := hide (HT.out.keptW (kept_new (Kept.refl 0 0 wr) (.cells #[iv (Pl.ck us k).f, iv (Pl.ck us k).t, .slice b1 (Pl.ck us k).n cb1, iv (Pl.ck us k).u] 101)) k5); clear k5))
        have HLN : Hid ((Pl.froms us k).length = k ∧ (Pl.uses us k).length = k ∧ k ≤ 2000000) := hide ⟨Pl.froms_len us k, Pl.uses_len us k, by omega⟩
        have TW0 : Hid (Two w w.heap.size wr.heap.size #[iv (Pl.ck us k).f, iv (Pl.ck us k).t, .slice b1 (Pl.ck us k).n cb1, iv (Pl.ck us k).u] 101 u5 u6 (Pl.froms us k) (Pl.uses us k) (Pl.ck us k).f (Pl.ck us k).u (Array.replicate 13 false) W5.drew 0 0 u5 u6) := hide ⟨fun q => absurd q (by decide), fun q => absurd q (by decide), fun _ => ⟨HT5.out.oa, HT5.out.ob, HT5.out.ne⟩, fun q => absurd q (by decide), fun q => absurd q (by decide), fun q => absurd q (by decide), fun q => absurd q (by decide), fun q => absurd q (by decide), BX5.out, fun g q => (HT.out.oa.lt g q).2, fun g q => (HT.out.ob.lt g q).2, kept_drew K5.out, HK.out.size, by omega⟩
        refine wp_region_inv2 (fun A0 l A W => ∃ (g1 g2 : Nat) (x5 x6 : Value), FR [19, 20, 21, 22, 23, 24, 25, 26, 27, 28, 29, 5, 6] A0 A ∧ Once l 0 (A.tmps[19]? = some (u5)) ∧ Once l 1 (A.tmps[20]? = some (.pointer (some ⟨wr.heap.size, 0, none⟩))) ∧ Once l 2 (A.tmps[21]? = some (.pointer (some ⟨wr.heap.size, 0, none⟩))) ∧ Once l 3 (A.tmps[22]? = some (iv (Pl.ck us k).f)) ∧ Once l 4 (A.tmps[23]? = some (.slice (some ⟨g1, 0, none⟩) 1 1)) ∧ Once l 5 (A.tmps[24]? = some (x5)) ∧ Once l 6 (A.tmps[25]? = some (u6)) ∧ Once l 7 (A.tmps[26]? = some (.pointer (some ⟨wr.heap.size, 3, none⟩))) ∧ Once l 8 (A.tmps[27]? = some (iv (Pl.ck us k).u)) ∧ Once l 9 (A.tmps[28]? = some (.slice (some ⟨g2, 0, none⟩) 1 1)) ∧ Once l 10 (A.tmps[29]? = some (x6)) ∧ Once l 11 (A.tmps[5]? = some (x5)) ∧ Once l 12 (A.tmps[6]? = some (x6)) ∧ (l.getD 0 true = false → A.tmps[5]? = some u5) ∧ (l.getD 6 true = false → A.tmps[6]? = some u6) ∧ Two w w.heap.size wr.heap.size #[iv (Pl.ck us k).f, iv (Pl.ck us k).t, .slice b1 (Pl.ck us k).n cb1, iv (Pl.ck us k).u] 101 u5 u6 (Pl.froms us k) (Pl.uses us k) (Pl.ck us k).f (Pl.ck us k).u l W g1 g2 x5 x6) (by kernel_rfl) (by kernel_rfl) ?start ?fin ?step
        case start => exact ⟨0, 0, u5, u6, FR.refl _ _, once_start (by decide), once_start (by decide), once_start (by decide), once_start (by decide), once_start (by decide), once_start (by decide), once_start (by decide), once_start (by decide), once_start (by decide), once_start (by decide), once_start (by decide), once_start (by decide), once_start (by decide), fun _ => rfl, fun _ => rfl, TW0.out⟩
        case fin =>
          intro l A W h hl
          obtain ⟨g1, g2, x5, x6, hFR, o0, o1, o2, o3, o4, o5, o6, o7, o8, o9, o10, o11, o12, q5, q6, tw⟩ := h
          have T5 := tw.tt (hl 10 (by decide))
          have TK := tw.kw
          have TZ := tw.bx.lt
          have g11 := o11 (hl 11 (by decide))
          have g12 := o12 (hl 12 (by decide))
          have hc9 := hFR.chain
          simp only [List.foldl] at hc9
          rw [getD_of g11, getD_of g12] at hc9
          clear hl hFR tw q5 q6 g11 g12 o0 o1 o2 o3 o4 o5 o6 o7 o8 o9 o10 o11 o12
          generalize A.tmps.getD 19 undef = s19 at hc9
          generalize A.tmps.getD 20 undef = s20 at hc9
          generalize A.tmps.getD 21 undef = s21 at hc9
          generalize A.tmps.getD 22 undef = s22 at hc9
          generalize A.tmps.getD 23 undef = s23 at hc9
          generalize A.tmps.getD 24 undef = s24 at hc9
          generalize A.tmps.getD 25 undef = s25 at hc9
          generalize A.tmps.getD 26 undef = s26 at hc9
          generalize A.tmps.getD 27 undef = s27 at hc9
          generalize A.tmps.getD 28 undef = s28 at hc9
          generalize A.tmps.getD 29 undef = s29 at hc9
          subst hc9
          go_simp
          go_wp2_with fail
          go_roundw
          case rel => exact ⟨k + 1, by omega, by go_num, by rw [Pl.froms_s, Pl.uses_s]; exact T5, snoc_all HL.out hG, TK⟩
          case measure => simp [intOf]; omega
        case step =>
          intro l A W i hI hm
          obtain ⟨g1, g2, x5, x6, hFR, o0, o1, o2, o3, o4, o5, o6, o7, o8, o9, o10, o11, o12, q5, q6, tw⟩ := hI
          obtain ⟨hi1, hi2⟩ := ready_new hm
          have hsz : Hid (29 < A.tmps.size) := hide (by rw [hFR.size]; simp)
          have m8 : A.tmps[8]? = some (.pointer (some ⟨wr.heap.size, 0, none⟩)) := (hFR.out 8 (by decide)).trans rfl
          rcases i with _ | _ | _ | _ | _ | _ | _ | _ | _ | _ | _ | _ | _ | i
          · have a5 := q5 hi2
            refine wpOp_step rfl (fun KK hK2 => ?_)
            go_simp
            exact hK2 (A.put (some 19) (u5)) W ⟨g1, g2, x5, x6, hFR.put (by decide) _, .now (put_eq (by have hz := hsz.out; omega)), o1.q, o2.q, o3.q, o4.q, o5.q, o6.q, o7.q, o8.q, o9.q, o10.q, o11.q, o12.q, keepA q5 (by decide), keepA q6 (by decide), tw.other (by decide)⟩
          · refine wpOp_step rfl (fun KK hK2 => ?_)
            go_simp
            exact hK2 (A.put (some 20) (.pointer (some ⟨wr.heap.size, 0, none⟩))) W ⟨g1, g2, x5, x6, hFR.put (by decide) _, o0.q, .now (put_eq (by have hz := hsz.out; omega)), o2.q, o3.q, o4.q, o5.q, o6.q, o7.q, o8.q, o9.q, o10.q, o11.q, o12.q, keepA q5 (by decide), keepA q6 (by decide), tw.other (by decide)⟩
          · have e1 := o1 (ready_dep hm 1 (by kernel_rfl))
            refine wpOp_step rfl (fun KK hK2 => ?_)
            go_simp
            exact hK2 (A.put (some 21) (.pointer (some ⟨wr.heap.size, 0, none⟩))) W ⟨g1, g2, x5, x6, hFR.put (by decide) _, o0.q, o1.q, .now (put_eq (by have hz := hsz.out; omega)), o3.q, o4.q, o5.q, o6.q, o7.q, o8.q, o9.q, o10.q, o11.q, o12.q, keepA q5 (by decide), keepA q6 (by decide), tw.other (by decide)⟩
          · have e2 := o2 (ready_dep hm 2 (by kernel_rfl))
            have x0 := tw.bx.all
            refine wpOp_step rfl (fun KK hK2 => ?_)
            go_simp
            exact hK2 (A.put (some 22) (iv (Pl.ck us k).f)) W ⟨g1, g2, x5, x6, hFR.put (by decide) _, o0.q, o1.q, o2.q, .now (put_eq (by have hz := hsz.out; omega)), o4.q, o5.q, o6.q, o7.q, o8.q, o9.q, o10.q, o11.q, o12.q, keepA q5 (by decide), keepA q6 (by decide), tw.other (by decide)⟩
          · have e3 := o3 (ready_dep hm 3 (by kernel_rfl))
            refine wpOp_step rfl (fun KK hK2 => ?_)
            go_simp
            exact hK2 (A.put (some 23) (.slice (some ⟨W.heap.size, 0, none⟩) 1 1)) _ ⟨W.heap.size, g2, x5, x6, hFR.put (by decide) _, o0.q, o1.q, o2.q, o3.q, .now (put_eq (by have hz := hsz.out; omega)), o5.q, o6.q, o7.q, o8.q, o9.q, o10.q, o11.q, o12.q, keepA q5 (by decide), keepA q6 (by decide), tw.op4 _⟩
          · have e0 := o0 (ready_dep hm 0 (by kernel_rfl))
            have e4 := o4 (ready_dep hm 4 (by kernel_rfl))
            obtain ⟨d0, _, _⟩ := tw.c4 (ready_dep hm 4 (by kernel_rfl))
            refine wpOp_step rfl (fun KK hK2 => ?_)
            refine wp_append_at (.tmp 19) (.tmp 23) 22 rfl (w.heap.size + 1) 3 ti (iv 0) 1 8 Tryz.underlying22 hi0 hz0 hz1 hz2 rfl (by decide) u5 (Pl.froms us k).length ((Pl.froms us k).map (Value.int .i64)) (getD_of e0) (tw.t0 hi2).oa ⟨g1, 0, none⟩ 1 1 [iv (Pl.ck us k).f] (getD_of e4) rfl (news_at d0) (by intro u hu; simp at hu; subst hu; rfl) (by unfold maxLen; have := HLN.out; omega) (by have := HLN.out; omega) tw.sz ?_
            intro v' W' hown hgr hat
            exact hK2 (A.put (some 24) (v')) _ ⟨g1, g2, v', x6, hFR.put (by decide) _, o0.q, o1.q, o2.q, o3.q, o4.q, .now (put_eq (by have hz := hsz.out; omega)), o6.q, o7.q, o8.q, o9.q, o10.q, fun e => absurd (tw.k11 ((getD_set_ne (by decide)).symm.trans e)) (by rw [hi2]; decide), o12.q, keepA q5 (by decide), keepA q6 (by decide), tw.op5 hi2 hown hgr hat⟩
          · have a6 := q6 hi2
            refine wpOp_step rfl (fun KK hK2 => ?_)
            go_simp
            exact hK2 (A.put (some 25) (u6)) W ⟨g1, g2, x5, x6, hFR.put (by decide) _, o0.q, o1.q, o2.q, o3.q, o4.q, o5.q, .now (put_eq (by have hz := hsz.out; omega)), o7.q, o8.q, o9.q, o10.q, o11.q, o12.q, keepA q5 (by decide), keepA q6 (by decide), tw.other (by decide)⟩
          · refine wpOp_step rfl (fun KK hK2 => ?_)
            go_simp
            exact hK2 (A.put (some 26) (.pointer (some ⟨wr.heap.size, 3, none⟩))) W ⟨g1, g2, x5, x6, hFR.put (by decide) _, o0.q, o1.q, o2.q, o3.q, o4.q, o5.q, o6.q, .now (put_eq (by have hz := hsz.out; omega)), o8.q, o9.q, o10.q, o11.q, o12.q, keepA q5 (by decide), keepA q6 (by decide), tw.other (by decide)⟩
          · have e7 := o7 (ready_dep hm 7 (by kernel_rfl))
            have x0 := tw.bx.all
            refine wpOp_step rfl (fun KK hK2 => ?_)
            go_simp
            exact hK2 (A.put (some 27) (iv (Pl.ck us k).u)) W ⟨g1, g2, x5, x6, hFR.put (by decide) _, o0.q, o1.q, o2.q, o3.q, o4.q, o5.q, o6.q, o7.q, .now (put_eq (by have hz := hsz.out; omega)), o9.q, o10.q, o11.q, o12.q, keepA q5 (by decide), keepA q6 (by decide), tw.other (by decide)⟩
          · have e8 := o8 (ready_dep hm 8 (by kernel_rfl))
            refine wpOp_step rfl (fun KK hK2 => ?_)
            go_simp
            exact hK2 (A.put (some 28) (.slice (some ⟨W.heap.size, 0, none⟩) 1 1)) _ ⟨g1, W.heap.size, x5, x6, hFR.put (by decide) _, o0.q, o1.q, o2.q, o3.q, o4.q, o5.q, o6.q, o7.q, o8.q, .now (put_eq (by have hz := hsz.out; omega)), o10.q, o11.q, o12.q, keepA q5 (by decide), keepA q6 (by decide), tw.op9 _⟩
          · have e6 := o6 (ready_dep hm 6 (by kernel_rfl))
            have e9 := o9 (ready_dep hm 9 (by kernel_rfl))
            obtain ⟨d0, _, _⟩ := tw.c9 (ready_dep hm 9 (by kernel_rfl))
            refine wpOp_step rfl (fun KK hK2 => ?_)
            refine wp_append_at (.tmp 25) (.tmp 28) 22 rfl (w.heap.size + 1) 3 ti (iv 0) 1 8 Tryz.underlying22 hi0 hz0 hz1 hz2 rfl (by decide) u6 (Pl.uses us k).length ((Pl.uses us k).map (Value.int .i64)) (getD_of e6) (tw.t5 (ready_dep hm 5 (by kernel_rfl)) hi2).ob ⟨g2, 0, none⟩ 1 1 [iv (Pl.ck us k).u] (getD_of e9) rfl (news_at d0) (by intro u hu; simp at hu; subst hu; rfl) (by unfold maxLen; have := HLN.out; omega) (by have := HLN.out; omega) tw.sz ?_
            intro v' W' hown hgr hat
            exact hK2 (A.put (some 29) (v')) _ ⟨g1, g2, x5, v', hFR.put (by decide) _, o0.q, o1.q, o2.q, o3.q, o4.q, o5.q, o6.q, o7.q, o8.q, o9.q, .now (put_eq (by have hz := hsz.out; omega)), o11.q, fun e => absurd (tw.k12 ((getD_set_ne (by decide)).symm.trans e)) (by rw [hi2]; decide), keepA q5 (by decide), keepA q6 (by decide), tw.op10 (ready_dep hm 5 (by kernel_rfl)) hi2 hown hgr hat⟩
          · have e5 := o5 (ready_dep hm 5 (by kernel_rfl))
            refine wpOp_step rfl (fun KK hK2 => ?_)
            go_simp
            exact hK2 (A.put (some 5) (x5)) W ⟨g1, g2, x5, x6, hFR.put (by decide) _, o0.q, o1.q, o2.q, o3.q, o4.q, o5.q, o6.q, o7.q, o8.q, o9.q, o10.q, .now (put_eq (by have hz := hsz.out; omega)), o12.q, fun e => absurd ((getD_set_ne (by decide)).symm.trans e) (by rw [ready_dep hm 0 (by kernel_rfl)]; decide), keepA q6 (by decide), tw.op11 (ready_dep hm 5 (by kernel_rfl))⟩
          · have e10 := o10 (ready_dep hm 10 (by kernel_rfl))
            refine wpOp_step rfl (fun KK hK2 => ?_)
            go_simp
            exact hK2 (A.put (some 6) (x6)) W ⟨g1, g2, x5, x6, hFR.put (by decide) _, o0.q, o1.q, o2.q, o3.q, o4.q, o5.q, o6.q, o7.q, o8.q, o9.q, o10.q, o11.q, .now (put_eq (by have hz := hsz.out; omega)), keepA q5 (by decide), fun e => absurd ((getD_set_ne (by decide)).symm.trans e) (by rw [ready_dep hm 6 (by kernel_rfl)]; decide), tw.op12 (ready_dep hm 10 (by kernel_rfl))⟩
          · simp at hi1
            omega
    · obtain rfl : k = n := by omega
      have T := HT.out
      obtain ⟨F, hF⟩ : ∃ F, F = Pl.froms us k := ⟨_, rfl⟩
      obtain ⟨U, hU⟩ : ∃ U, U = Pl.uses us k := ⟨_, rfl⟩
      obtain ⟨S, hS⟩ : ∃ S, S = U.mergeSort fun x y => decide (x ≤ y) := ⟨_, rfl⟩
      have E : Hid (Pl.areU c us = (Pl.rises F && Pl.rises S)) := hide (by
        have hn := HN.out
        cases h1 : Pl.rises F
        · exact Pl.areU_no fun h => by have h2 := Pl.rises_yes h.2.1; rw [← hn, ← hF, h1] at h2; cases h2
        · cases h2 : Pl.rises S
          · exact Pl.areU_no fun h => by have h3 := Pl.rises_yes ((Pl.rises_sorted _).2 h.2.2); rw [← hn, ← hU, ← hS, h2] at h3; cases h3
          · exact Pl.areU_yes ⟨fun i hi => HL.out i (by omega), by rw [← hn, ← hF]; exact Pl.rises_of h1, by rw [← hn, ← hU]; exact (Pl.rises_sorted _).1 (by rw [← hS]; exact Pl.rises_of h2)⟩)
      have LF : Hid (F.length ≤ 2000000) := hide (by rw [hF, Pl.froms_len]; omega)
      have LU : Hid (U.length ≤ 2000000) := hide (by rw [hU, Pl.uses_len]; omega)
      have LS : Hid (S.length = U.length) := hide (by rw [hS]; simp)
      have HS := hide hS
      rw [← hF, ← hU] at T
      have TO := hide T
      obtain ⟨a5, c5, rfl, s5⟩ := irow_owns T.oa
      obtain ⟨a6, c6, rfl, s6⟩ := irow_owns T.ob
      clear T hF hU hS s5 s6 hkept
      cases h1 : Pl.rises F <;> cases h2 : Pl.rises S
      all_goals
        go_wp2_with (first
          | (go_at_call 97; refine (sortOwn _ (w.heap.size + 1) _ U TO.out.ob LU.out).mono ?_; rintro e9 w7 ⟨rfl, o7, gr7⟩; have SO : Hid (IRow w7 a6 S) := hide (by obtain ⟨b, cb, e, hr⟩ := irow_owns o7; cases e; rw [HS.out]; exact hr); have FO : Hid (IRow w7 a5 F) := hide (by obtain ⟨b, cb, e, hr⟩ := irow_owns (TO.out.oa.kept gr7 TO.out.ne); cases e; exact hr); have K7 := hide (kept_over HK.out (kept_row (lo := w.heap.size) (hi := wr.heap.size) gr7 (fun g q => ⟨by have := (TO.out.ob.lt g q).1; omega, (TO.out.ob.lt g q).2⟩)) (Nat.le_refl _)); clear o7 gr7)
          | (go_at_call 98; refine (implRising _ a5 c5 F FO.out LF.out).mono ?_; rw [h1]; rintro e9 w8 ⟨rfl, k8⟩; have K8 := hide (K7.out.trans k8); have SO8 := hide (SO.out.keptS k8); clear k8 FO)
          | (go_at_call 98; rw [← LS.out]; refine (implRising _ a6 c6 S SO8.out (by rw [LS.out]; exact LU.out)).mono ?_; rw [h2]; rintro e9 w9 ⟨rfl, k9⟩; have K9 := hide (K8.out.trans k9); clear k9))
        go_ret
        exact ⟨rB (by rw [E.out, h1, h2]; rfl), by first | exact K9.out | exact K8.out⟩
end Go.Proofs.YtflnodadeajmcaaGreat

