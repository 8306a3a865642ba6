/- Copying kept units: what the laws' toCached answers. Two lists that grow side by side, each in a block of its own. A region that draws its order, by what holds whatever has come up so far: every order at once. A frame of which some slots alone are written: for a drawn region walked by what holds, the frame a variable. Two lists of numbers that grow side by side in one drawn statement. What the model's test of a size answers. What the model's tests of words and operands answer. What the small models of chapter 7 answer. What the model's GoodIns answers, for operands that are no numbers in the code and size 1. -/
import Derived.Test.YtnkapmchfneolaaGreatGS1
import Derived.Maps.AppendAt
import Derived.RegionTactic
import Derived.BigQuiet
import Derived.Deep.QuietTactic
import Derived.Deep.DeepCutAuto
namespace Go.Proofs.YtnkapmchfneolaaGreat
open Go.RowKit
set_option linter.unusedVariables false
set_option maxHeartbeats 2000000 in
theorem toCached (w : World) (x : Pl.Ck) (a : Option Addr) (ca : Nat) (ha : MRow w a x.n x.ys x.ts x.sk) (bx : x.n ≤ 2000000) :
    Calls Tryz.prog 62 #[.agg #[iv x.f, iv x.t, .slice a x.n ca, iv x.u]] w fun e w' => ∃ g : Nat, e = .returned (.agg #[iv x.f, iv x.t, .slice (some ⟨g, 0, none⟩) x.n x.n, iv x.u]) ∧ w.heap.size ≤ g ∧ g < w'.heap.size ∧ MOwn w' g x.n x.ys x.ts x.sk ∧ Kept 0 0 w w' := by
  obtain ⟨f, t, n, ys, ts, sk, u⟩ := x
  simp only at ha bx ⊢
  have K0 := hide (kept_new (kept_new (kept_alloc w (.cells #[iv f, iv t, .slice a n ca, iv u] 80)) (.cells #[iv 0, iv 0, .slice none 0 0, iv 0] 55)) (.cells #[iv 0, iv 0, .slice none 0 0, iv 0] 55))
  have P0 := hide (((Blk.new w #[iv f, iv t, .slice a n ca, iv u] 80).alloc (.cells #[iv 0, iv 0, .slice none 0 0, iv 0] 55)).alloc (.cells #[iv 0, iv 0, .slice none 0 0, iv 0] 55))
  have R0 := (Blk.new (w.alloc (.cells #[iv f, iv t, .slice a n ca, iv u] 80)) #[iv 0, iv 0, .slice none 0 0, iv 0] 55).alloc (.cells #[iv 0, iv 0, .slice none 0 0, iv 0] 55)
  have X0 := Blk.new ((w.alloc (.cells #[iv f, iv t, .slice a n ca, iv u] 80)).alloc (.cells #[iv 0, iv 0, .slice none 0 0, iv 0] 55)) #[iv 0, iv 0, .slice none 0 0, iv 0] 55
  simp only [World.size_alloc] at R0 X0
  replace R0 := hide R0
  replace X0 := hide X0
  have HA := hide (ha.keptS K0.out)
  clear ha
  go_enter Tryz.func62, Tryz.ntmps62
  go_wp2_with (first | (go_at_call 21; refine (toUnit _ f t a ca n ys ts sk HA.out bx).mono ?_; rintro r9 w2 ⟨g, rfl, s1, s2, o2, k2⟩; have P2 := hide (P0.out.kept0 k2); have R2 := hide (R0.out.kept0 k2); have X2 := hide (X0.out.kept0 k2); have K2 := hide (K0.out.trans k2); have O2 := hide o2; have S1 := hide s1; have S2 := hide s2; have p2 := P2.out.all; have r2 := R2.out.all; have fr2 := R2.out.fz; have x2 := X2.out.all; have fx2 := X2.out.fz; have l2 := X2.out.lt; clear k2 o2 s1 s2))
  have S3 := S2.out
  have S4 := S1.out
  simp only [World.size_alloc] at S4
  have O3 := O2.out
  refine bodyPost_ret (v := .agg #[iv f, iv t, .slice (some ⟨g, 0, none⟩) n n, iv u]) ?_ rfl ⟨g, rfl, by omega, by simp only [World.size_setCell]; omega, ?_, ?_⟩
  · rw [results_one rfl]; go_simp
  · exact (((((((O3.setOther _ _ _ (by omega)).setOther _ _ _ (by omega)).setOther _ _ _ (by omega)).setOther _ _ _ (by omega)).setOther _ _ _ (by omega)).setOther _ _ _ (by omega)).setOther _ _ _ (by omega)).setOther _ _ _ (by omega)
  · exact (kept_set (kept_set (kept_set (kept_set (kept_set (kept_set (kept_set (kept_set K2.out _ _ _ (.inr (by omega))) _ _ _ (.inr (by omega))) _ _ _ (.inr (by omega))) _ _ _ (.inr (by omega))) _ _ _ (.inr (by omega))) _ _ _ (.inr (by omega))) _ _ _ (.inr (by omega))) _ _ _ (.inr (by omega)))
theorem Tryz.infoCached : (Tryz.prog.info? 55).map (fun i => (i.zero, i.size, i.bytes)) = some (some (.agg #[iv 0, iv 0, .slice none 0 0, iv 0]), 4, 48) := by kernel_rfl
set_option maxHeartbeats 2000000 in
theorem toCachedS (w : World) (a : Option Addr) (ca : Nat) (us : List Pl.Ck) (ha : CRow w a us) (bx : us.length ≤ 2000000) (bn : ∀ k, k < us.length → (Pl.ck us k).n ≤ 2000000) :
    Calls Tryz.prog 28 #[.slice a us.length ca] w fun e w' => e = .returned (.slice (some ⟨w.heap.size, 0, none⟩) us.length us.length) ∧ COwn w' w.heap.size us ∧ w.heap.size < w'.heap.size ∧ Kept 0 0 w w' := by
  obtain ⟨i, hi, hz0, hz1, hz2⟩ := info_parts Tryz.infoCached
  obtain ⟨n, hn⟩ : ∃ n, n = us.length := ⟨_, rfl⟩
  have HA := hide ha
  have HN := hide hn
  rw [← hn] at bx ⊢
  clear ha hn
  go_enter Tryz.func28, Tryz.ntmps28
  go_wp2_with (first | (at_make; refine wpList_make_full _ rfl _ _ 27 rfl w.heap.size 55 i (.agg #[iv 0, iv 0, .slice none 0 0, iv 0]) 4 Tryz.underlying27 hi hz0 hz1 _ _ _ _ n rfl rfl rfl rfl ?c1 ?c2 ?c3 ?_))
  case c1 => rw [hz2]; omega
  case c2 => unfold maxLen; omega
  case c3 => exact Nat.le_refl _
  intro w1 hown hg
  obtain ⟨vs, hvs⟩ : ∃ vs, vs = (madeCells #[iv 0, iv 0, .slice none 0 0, iv 0] (n * 4)).toList := ⟨_, rfl⟩
  have hvl : vs.length = 4 * n := by rw [hvs]; simp [size_madeCells]; omega
  rw [← hvs] at hown
  have ho : VOwn w1 w.heap.size vs := vown_made (sz := 4) hown (by omega)
  have hs : w.heap.size < w1.heap.size := (hown.lt _ rfl).2
  clear hown hvs
  go_wp2
  go_loopw [4] (fun j wr => ∃ (k : Nat) (zs : List Value), k ≤ n ∧ j = .int .i64 k ∧ zs.length = 4 * n ∧ VOwn wr w.heap.size zs ∧ (∀ i, i < k → CV wr w.heap.size zs i (Pl.ck us i)) ∧ w.heap.size < wr.heap.size ∧ w.grownBy wr none) (fun j _ => n - (intOf j).toNat)
  case atStart => exact ⟨0, _, Nat.zero_le _, rfl, hvl, ho, fun i hi => absurd hi (by omega), hs, hg⟩
  case round =>
    obtain ⟨k, zs, hk, rfl, hl, hown, heq, hsz, hgr⟩ := hrel
    have HE := hide heq
    have HL := hide hl
    have HO := hide hown
    have HS := hide hsz
    clear heq hl
    by_cases hlt : k < n
    · obtain ⟨g1, o1, b1, cb1, rfl, p0, p1, p2, p3, pm⟩ := (HA.out.keptS (kept_grown hgr)).at4 (k := k) (by rw [← HN.out]; exact hlt)
      have bk := bn k (by rw [← HN.out]; exact hlt)
      have PM := hide pm
      clear hown hsz pm
      go_wp2_with fail
      refine (toCached _ (Pl.ck us k) b1 cb1 PM.out bk).mono ?_
      rintro e X ⟨gx, rfl, g0, g1', hm, kX⟩
      have hx : wr.grownBy X none := kX.grown
      have HX2 : Hid (w.grownBy X none) := hide (grownBy_trans hgr hx)
      have HO2 := hide (HO.out.keptS kX (by omega))
      have HS2 : Hid (w.heap.size < X.heap.size) := hide (Nat.lt_of_lt_of_le HS.out hx.size)
      have HE2 := hide (fun i (q : i < k) => (HE.out i q).kept0 kX)
      have HM2 := hide hm
      have HG0 := hide g0
      have HG1 := hide g1'
      clear kX hx p0 p1 p2 p3 hgr hm PM HE g0 g1'
      obtain ⟨⟨c0, c1, c2, c3⟩, f0, f1, f2, f3⟩ := HO2.out.at4 HL.out hlt
      go_wp2_with fail
      go_roundw
      case rel =>
        have hk4 : k * 4 + 3 < zs.length := by have := HL.out; omega
        have q0 := HS.out
        have q1 := HG0.out
        have q2 := HG1.out
        obtain ⟨n0, n1, n2, n3⟩ := set4_new (a := iv (Pl.ck us k).f) (b := iv (Pl.ck us k).t) (c := .slice (some ⟨gx, 0, none⟩) (Pl.ck us k).n (Pl.ck us k).n) (d := iv (Pl.ck us k).u) hk4
        refine ⟨k + 1, set4 zs k _ _ _ _, by omega, by go_num, by rw [set4_len]; exact HL.out, HO2.out.set4 k (iv (Pl.ck us k).f) (iv (Pl.ck us k).t) (.slice (some ⟨gx, 0, none⟩) (Pl.ck us k).n (Pl.ck us k).n) (iv (Pl.ck us k).u), ?_, by simp only [World.size_setCell]; omega, ?_⟩
        · intro i hi
          by_cases e : i < k
          · obtain ⟨d0, d1, d3, b, d2, l1, l2, dm⟩ := (((((HE2.out i e).setO (k * 4) (iv (Pl.ck us k).f)).setO (k * 4 + 1) (iv (Pl.ck us k).t)).setO (k * 4 + 2) (.slice (some ⟨gx, 0, none⟩) (Pl.ck us k).n (Pl.ck us k).n)).setO (k * 4 + 3) (iv (Pl.ck us k).u))
            exact ⟨(set4_old (by omega)).trans d0, (set4_old (by omega)).trans d1, (set4_old (by omega)).trans d3, b, (set4_old (by omega)).trans d2, l1, l2, dm⟩
          · obtain rfl : i = k := by omega
            exact ⟨n0, n1, n3, gx, n2, by omega, by simp only [World.size_setCell]; omega, (((VOwn.setOther HM2.out _ _ _ (by omega)).setOther _ _ _ (by omega)).setOther _ _ _ (by omega)).setOther _ _ _ (by omega)⟩
        · exact grown_setV (grown_setV (grown_setV (grown_setV HX2.out (.inr (Nat.le_refl _)) _ _) (.inr (Nat.le_refl _)) _ _) (.inr (Nat.le_refl _)) _ _) (.inr (Nat.le_refl _)) _ _
      case measure => simp [intOf]; omega
    · clear hown hsz
      go_wp2
      go_ret
      obtain rfl : k = n := by omega
      exact ⟨rfl, ⟨zs, by rw [← HN.out]; exact HL.out, HO.out, by rw [← HN.out]; exact HE.out⟩, HS.out, kept_grown hgr⟩
set_option maxHeartbeats 2000000 in
theorem eqCachedS (w : World) (a b : Option Addr) (ca cb : Nat) (us : List Pl.Ck) (ha : CRow w a us) (hb : CRow w b us) (bx : us.length ≤ 2000000) (bn : ∀ k, k < us.length → (Pl.ck us k).n ≤ 2000000) :
    Calls Tryz.prog 31 #[.slice a us.length ca, .slice b us.length cb] w fun e w' => e = .returned (.bool true) ∧ Kept 0 0 w w' := by
  obtain ⟨n, hn⟩ : ∃ n, n = us.length := ⟨_, rfl⟩
  have HA := hide ha
  have HB := hide hb
  have HN := hide hn
  rw [← hn] at bx ⊢
  clear ha hb hn
  go_enter Tryz.func31, Tryz.ntmps31
  go_wp2
  go_loopw [5] (fun j wr => ∃ k : Nat, k ≤ n ∧ j = .int .i64 k ∧ Kept 0 0 w wr) (fun j _ => n - (intOf j).toNat)
  case atStart => exact ⟨0, Nat.zero_le _, rfl, Kept.refl _ _ _⟩
  case round =>
    obtain ⟨k, hk, rfl, hg⟩ := hrel
    have HG := hide hg
    by_cases hlt : k < n
    · obtain ⟨g1, o1, b1, cb1, rfl, p0, p1, p2, p3, pm⟩ := (HA.out.keptS hg).at4 (k := k) (by rw [← HN.out]; exact hlt)
      obtain ⟨g2, o2, b2, cb2, rfl, q0, q1, q2, q3, qm⟩ := (HB.out.keptS hg).at4 (k := k) (by rw [← HN.out]; exact hlt)
      have bk := bn k (by rw [← HN.out]; exact hlt)
      have PM := hide pm
      have QM := hide qm
      clear hg pm qm
      go_wp2
      go_region_with (go_at_call 66; refine (eqCached _ (Pl.ck us k) b1 b2 cb1 cb2 (PM.out.keptS (kept_drew (Kept.refl _ _ _))) (QM.out.keptS (kept_drew (Kept.refl _ _ _))) bk).mono ?_; rintro e w' ⟨rfl, k5⟩; have K5 := hide (HG.out.trans (undrewK k5)); clear k5)
      all_goals
        go_wp2
        go_roundw
        case rel => exact ⟨k + 1, by omega, by go_num, K5.out⟩
        case measure => simp [intOf]; omega
    · go_wp2
      go_ret
      exact ⟨rfl, hg⟩
/-- what is left of an allowance behind a list of kept units: below nought, or the list fits it -/
def SzOk (us : List Pl.Ck) (left L : Int) : Prop := L < 0 ∨ (0 ≤ L ∧ L ≤ left ∧ (us.length : Int) ≤ left ∧ ∀ k, k < us.length → ((Pl.ck us k).n : Int) ≤ left)
theorem szCached (w : World) (x : Pl.Ck) (a : Option Addr) (ca : Nat) (left : Int) (hn : x.n ≤ 9223372036854775807) (l0 : 0 ≤ left) (l1 : left ≤ 2000000) :
    Calls Tryz.prog 56 #[.agg #[iv x.f, iv x.t, .slice a x.n ca, iv x.u], .int .i64 left] w fun e w' => e = .returned (.int .i64 (if left - (x.n : Int) < 0 then -1 else left - (x.n : Int))) ∧ Kept 0 0 w w' := by
  obtain ⟨f, t, n, ys, ts, sk, u⟩ := x
  simp only at hn ⊢
  have K0 := hide (kept_alloc w (.cells #[iv f, iv t, .slice a n ca, iv u] 80))
  by_cases h : left - (n : Int) < 0
  · have e0 : (if left - (n : Int) < 0 then (-1 : Int) else left - (n : Int)) = -1 := if_pos h
    go_enter Tryz.func56, Tryz.ntmps56
    go_wp2_with (first | (go_at_call 19; refine (szUnit _ f t a ca n left hn l0 l1).mono ?_; rintro e9 w9 ⟨rfl, k9⟩; have K9 := hide (K0.out.trans k9); clear k9; rw [e0]))
    go_ret
    exact ⟨by first | rfl | rw [e0], K9.out⟩
  · obtain ⟨L, hL⟩ : ∃ L : Int, L = left - (n : Int) := ⟨_, rfl⟩
    have e0 : (if left - (n : Int) < 0 then (-1 : Int) else left - (n : Int)) = L := (if_neg h).trans hL.symm
    have hL0 : ¬ L < 0 := by omega
    have HL := hide hL
    clear hL
    go_enter Tryz.func56, Tryz.ntmps56
    go_wp2_with (first | (go_at_call 19; refine (szUnit _ f t a ca n left hn l0 l1).mono ?_; rintro e9 w9 ⟨rfl, k9⟩; have K9 := hide (K0.out.trans k9); clear k9; rw [e0]))
    go_ret
    exact ⟨by first | rfl | (rw [← HL.out]; rfl), K9.out⟩
end Go.Proofs.YtnkapmchfneolaaGreat

namespace Go.Proofs.YtnkapmchfneolaaGreat
open Go.RowKit
set_option linter.unusedVariables false

/-- two lists that grow, each in a block of its own, above block number c -/
structure Twin (c : Nat) (w : World) (va vb : Value) (xs ys : List Int) : Prop where
  oa : w.ownsRow (c + 1) 3 1 va xs.length (xs.map (Value.int .i64))
  ob : w.ownsRow (c + 1) 3 1 vb ys.length (ys.map (Value.int .i64))
  ne : va.ownBlock = none ∨ va.ownBlock ≠ vb.ownBlock

theorem Twin.alloc {c : Nat} {w : World} {va vb : Value} {xs ys : List Int} (h : Twin c w va vb xs ys) (o : Obj) : Twin c (w.alloc o) va vb xs ys := ⟨h.oa.alloc o, h.ob.alloc o, h.ne⟩

theorem Twin.pushA {c : Nat} {w w1 : World} {va vb v' : Value} {xs ys : List Int} {z : Int} (h : Twin c w va vb xs ys) (hown : w1.ownsRow (c + 1) 3 1 v' (xs.length + 1) (xs.map (Value.int .i64) ++ [.int .i64 z])) (hg : w.grownBy w1 va.ownBlock) (hat : v'.ownBlock = va.ownBlock ∨ v'.ownBlock = some w.heap.size) : Twin c w1 v' vb (xs ++ [z]) ys := by
  have hb : vb.ownBlock = none ∨ vb.ownBlock ≠ va.ownBlock := by
    rcases h.ne with e | e
    · rw [e]; cases vb.ownBlock <;> simp
    · exact .inr (Ne.symm e)
  refine ⟨by simpa using hown, h.ob.kept hg hb, ?_⟩
  rcases hat with e | e
  · rw [e]; exact h.ne
  · right
    rw [e]
    intro e2
    have := (h.ob.lt _ e2.symm).2
    omega

theorem Twin.pushB {c : Nat} {w w1 : World} {va vb v' : Value} {xs ys : List Int} {z : Int} (h : Twin c w va vb xs ys) (hown : w1.ownsRow (c + 1) 3 1 v' (ys.length + 1) (ys.map (Value.int .i64) ++ [.int .i64 z])) (hg : w.grownBy w1 vb.ownBlock) (hat : v'.ownBlock = vb.ownBlock ∨ v'.ownBlock = some w.heap.size) : Twin c w1 va v' xs (ys ++ [z]) := by
  refine ⟨h.oa.kept hg h.ne, by simpa using hown, ?_⟩
  rcases hat with e | e
  · rw [e]; exact h.ne
  · cases ea : va.ownBlock with
    | none => exact .inl rfl
    | some k =>
      right
      rw [e]
      intro e2
      have := (h.oa.lt k ea).2
      simp at e2
      omega

end Go.Proofs.YtnkapmchfneolaaGreat

namespace Go.Proofs.YtnkapmchfneolaaGreat
open Go.RowKit
set_option linter.unusedVariables false

/-- operation k of the region waits for operation j -/
def waitsB (md : Region.Mode) (ops : Array Oper) (i k : Nat) : Bool := ((ops[i]?).map fun o => o.after.any fun e => Region.binds md e && e.on == k).getD false
theorem ready_new {md : Region.Mode} {ops : Array Oper} {l : Array Bool} {i : Nat} (h : i ∈ Region.ready md ops l) : i < ops.size ∧ l.getD i true = false := by
  unfold Region.ready at h
  rw [List.mem_filter, Bool.and_eq_true] at h
  refine ⟨List.mem_range.1 h.1, ?_⟩
  have := h.2.1
  revert this
  cases l.getD i true <;> simp
theorem getD_true {l : Array Bool} {k : Nat} (h : l.getD k false = true) : l.getD k true = true := by
  unfold Array.getD at *
  split
  · rename_i hk; simpa [hk] using h
  · rfl
theorem ready_dep {md : Region.Mode} {ops : Array Oper} {l : Array Bool} {i : Nat} (h : i ∈ Region.ready md ops l) (k : Nat) (hk : waitsB md ops i k = true) : l.getD k true = true := by
  unfold Region.ready at h
  rw [List.mem_filter, Bool.and_eq_true] at h
  have h2 := h.2.2
  unfold waitsB at hk
  cases ho : ops[i]? with
  | none => rw [ho] at hk; simp at hk
  | some o =>
    rw [ho] at hk h2
    simp only [Option.map_some, Option.getD_some] at hk h2
    rw [Array.any_eq_true'] at hk
    obtain ⟨e, he, hb⟩ := hk
    rw [Array.all_eq_true'] at h2
    have h3 := h2 e he
    rw [Bool.and_eq_true] at hb
    rw [hb.1] at h3
    have h4 : e.on = k := by simpa using hb.2
    rw [h4] at h3
    exact getD_true (by simpa using h3)
theorem filter_lt {xs : List Nat} {p q : Nat → Bool} (hpq : ∀ x, q x = true → p x = true) {i : Nat} (hi : i ∈ xs) (hp : p i = true) (hq : q i = false) : (xs.filter q).length < (xs.filter p).length := by
  induction xs with
  | nil => cases hi
  | cons x t ih =>
    have hle : (t.filter q).length ≤ (t.filter p).length := by
      clear ih hi
      induction t with
      | nil => simp
      | cons y t ih =>
        cases h1 : q y
        · cases h2 : p y <;> simp [h1, h2] <;> omega
        · simp [h1, hpq y h1]; exact ih
    rcases List.mem_cons.1 hi with rfl | hi
    · simp [hp, hq]; omega
    · have := ih hi
      cases h1 : q x
      · cases h2 : p x <;> simp [h1, h2] <;> omega
      · simp [h1, hpq x h1]; exact this
theorem getD_set_ne {l : Array Bool} {i j : Nat} (h : j ≠ i) : (l.setIfInBounds i true).getD j true = l.getD j true := by
  simp only [Array.getD_eq_getD_getElem?]
  rw [Array.getElem?_setIfInBounds_ne (Ne.symm h)]
theorem getD_set_eq {l : Array Bool} {i : Nat} : (l.setIfInBounds i true).getD i true = true := by
  simp only [Array.getD_eq_getD_getElem?, Array.getElem?_setIfInBounds]
  split
  · split <;> rfl
  · rename_i h; exact absurd trivial h

theorem wpAny_inv {P : Program} {md : Region.Mode} {ops : Array Oper} {Q : Exit → Act → World → Prop} {I : Array Bool → Act → World → Prop}
    (hfin : ∀ l a w, l.size = ops.size → I l a w → Region.ready md ops l = [] → Q .normal a w)
    (hstep : ∀ l a w i, I l a w → i ∈ Region.ready md ops l → wpOp P ops Q i (I (l.setIfInBounds i true)) a w) :
    ∀ (fuel : Nat) (l : Array Bool) (a : Act) (w : World), l.size = ops.size → ((List.range ops.size).filter fun i => !l.getD i true).length ≤ fuel → I l a w → wpAny P md ops Q fuel l a w := by
  intro fuel
  induction fuel with
  | zero =>
    intro l a w hz hn hI
    have h0 : Region.ready md ops l = [] := by
      cases hr : Region.ready md ops l with
      | nil => rfl
      | cons i t =>
        exfalso
        have hi : i ∈ Region.ready md ops l := by rw [hr]; simp
        obtain ⟨h1, h2⟩ := ready_new hi
        have : i ∈ (List.range ops.size).filter fun i => !l.getD i true := List.mem_filter.2 ⟨List.mem_range.2 h1, by rw [h2]; rfl⟩
        have := List.length_pos_of_mem this
        omega
    exact ⟨h0, hfin l a w hz hI h0⟩
  | succ n ih =>
    intro l a w hz hn hI
    refine ⟨fun h0 => hfin l a w hz hI h0, fun i hi => ?_⟩
    refine wpOp_mono (fun a' w' h' => ih _ a' w' (by simp [hz]) ?_ h') (hstep l a w i hI hi)
    obtain ⟨h1, h2⟩ := ready_new hi
    have := filter_lt (xs := List.range ops.size) (p := fun j => !l.getD j true) (q := fun j => !(l.setIfInBounds i true).getD j true) (i := i) (by
      intro x hx
      by_cases e : x = i
      · subst e; rw [h2]; rfl
      · rw [getD_set_ne e] at hx; exact hx) (List.mem_range.2 h1) (by rw [h2]; rfl) (by rw [getD_set_eq]; rfl)
    omega

/-- an operation waits for earlier ones alone -/
def lowB (md : Region.Mode) (ops : Array Oper) : Bool := (List.range ops.size).all fun i => ((ops[i]?).map fun o => o.after.all fun e => !Region.binds md e || decide (e.on < i)).getD true
theorem ready_none {md : Region.Mode} {ops : Array Oper} {l : Array Bool} (hz : l.size = ops.size) (hB : lowB md ops = true) (h0 : Region.ready md ops l = []) : ∀ i, i < ops.size → l.getD i true = true := by
  intro i
  induction i using Nat.strongRecOn with
  | ind i ih =>
    intro hi
    cases hl : l.getD i true
    · exfalso
      have hm : i ∈ Region.ready md ops l := by
        unfold Region.ready
        rw [List.mem_filter, Bool.and_eq_true]
        refine ⟨List.mem_range.2 hi, by rw [hl]; rfl, ?_⟩
        have hb := List.all_eq_true.1 hB i (List.mem_range.2 hi)
        rw [Array.getElem?_eq_getElem hi] at hb ⊢
        simp only [Option.map_some, Option.getD_some] at hb ⊢
        rw [Array.all_eq_true'] at hb ⊢
        intro e he
        have h1 := hb e he
        rw [Bool.or_eq_true] at h1 ⊢
        rcases h1 with h1 | h1
        · exact .inl h1
        · have h2 : e.on < i := by simpa using h1
          have h3 := ih e.on h2 (by omega)
          refine .inr ?_
          unfold Array.getD at h3 ⊢
          split
          · rename_i hk; simpa [hk] using h3
          · rename_i hk; omega
      rw [h0] at hm
      cases hm
    · rfl
theorem wp_region_inv {P : Program} {ops : Array Oper} {Q : Exit → Act → World → Prop} {id : Nat} {a : Act} {w : World} (I : Array Bool → Act → World → Prop) (hm : P.follows .mixedOrders = true) (hB : lowB .any ops = true)
    (hstart : I (Array.replicate ops.size false) a w.drew)
    (hfin : ∀ l a w, I l a w → (∀ i, i < ops.size → l.getD i true = true) → Q .normal a w)
    (hstep : ∀ l a w i, I l a w → i ∈ Region.ready .any ops l → wpOp P ops Q i (I (l.setIfInBounds i true)) a w) :
    (Code.region id ops true).wp P Q a w := by
  refine wp_region_any hm (wpAny_inv (I := I) (fun l a w hz h h0 => hfin l a w h (ready_none hz hB h0)) hstep _ _ _ _ (by simp) ?_ hstart)
  exact Nat.le_trans (List.length_filter_le _ _) (by simp)

/-- what holds once operation i has come up -/
def Once (l : Array Bool) (i : Nat) (p : Prop) : Prop := l.getD i true = true → p
theorem Once.past {l : Array Bool} {i j : Nat} {p q : Prop} (h : Once l j p) (hn : j ≠ i) (hp : p → q) : Once (l.setIfInBounds i true) j q := fun e => hp (h (by rwa [getD_set_ne hn] at e))
theorem Once.now {l : Array Bool} {i j : Nat} {p : Prop} (h : p) : Once (l.setIfInBounds i true) j p := fun _ => h
theorem once_start {n i : Nat} {p : Prop} (hi : i < n) : Once (Array.replicate n false) i p := by
  intro e
  simp [Array.getD_eq_getD_getElem?, hi] at e
end Go.Proofs.YtnkapmchfneolaaGreat

namespace Go.Proofs.YtnkapmchfneolaaGreat
open Go.RowKit
set_option linter.unusedVariables false

/-- the frame A is A0 but for these slots -/
structure FR (SL : List Nat) (A0 A : Act) : Prop where
  size : A.tmps.size = A0.tmps.size
  defers : A.defers = A0.defers
  out : ∀ k, k ∉ SL → A.tmps[k]? = A0.tmps[k]?
theorem FR.refl (SL : List Nat) (A : Act) : FR SL A A := ⟨rfl, rfl, fun _ _ => rfl⟩
theorem put_ne {A : Act} {j k : Nat} {v : Value} (h : k ≠ j) : (A.put (some j) v).tmps[k]? = A.tmps[k]? := by
  show (A.tmps.setIfInBounds j v)[k]? = _
  rw [Array.getElem?_setIfInBounds_ne (Ne.symm h)]
theorem put_eq {A : Act} {k : Nat} {v : Value} (h : k < A.tmps.size) : (A.put (some k) v).tmps[k]? = some v := by
  show (A.tmps.setIfInBounds k v)[k]? = _
  rw [Array.getElem?_setIfInBounds]
  simp [h]
theorem FR.put {SL : List Nat} {A0 A : Act} (h : FR SL A0 A) {k : Nat} (hk : k ∈ SL) (v : Value) : FR SL A0 (A.put (some k) v) := by
  refine ⟨?_, h.defers, fun j hj => ?_⟩
  · show (A.tmps.setIfInBounds k v).size = _
    rw [Array.size_setIfInBounds]; exact h.size
  · rw [put_ne (fun e => hj (by rw [e]; exact hk))]; exact h.out j hj
theorem act_ext {A B : Act} (hs : A.tmps.size = B.tmps.size) (hd : A.defers = B.defers) (h : ∀ k : Nat, A.tmps[k]? = B.tmps[k]?) : A = B := by
  cases A; cases B
  simp only at hs hd h
  subst hd
  congr 1
  exact Array.ext_getElem? h
theorem chain_of {A : Act} : ∀ (SL : List Nat) (B : Act), A.tmps.size = B.tmps.size → A.defers = B.defers → (∀ k, k ∉ SL → A.tmps[k]? = B.tmps[k]?) → A = SL.foldl (fun a k => a.put (some k) (A.tmps.getD k undef)) B
  | [], B, hs, hd, h => act_ext hs hd (fun k => h k (by simp))
  | k :: t, B, hs, hd, h => by
    refine chain_of t (B.put (some k) (A.tmps.getD k undef)) ?_ hd (fun j hj => ?_)
    · show _ = (B.tmps.setIfInBounds k _).size
      rw [Array.size_setIfInBounds]; exact hs
    · by_cases e : j = k
      · subst e
        by_cases hb : j < B.tmps.size
        · rw [put_eq hb]
          have : j < A.tmps.size := by omega
          rw [Array.getElem?_eq_getElem this]
          simp [Array.getD_eq_getD_getElem?, this]
        · show _ = (B.tmps.setIfInBounds j _)[j]?
          rw [Array.getElem?_eq_none (by omega), Array.getElem?_eq_none (by rw [Array.size_setIfInBounds]; omega)]
      · rw [put_ne e]
        exact h j (by simp [e, hj])
theorem FR.chain {SL : List Nat} {A0 A : Act} (h : FR SL A0 A) : A = SL.foldl (fun a k => a.put (some k) (A.tmps.getD k undef)) A0 := chain_of SL A0 h.size h.defers h.out
theorem getD_of {A : Act} {k : Nat} {v : Value} (h : A.tmps[k]? = some v) : A.tmps.getD k undef = v := by
  rw [Array.getD_eq_getD_getElem?, h]; rfl
theorem wp_region_inv2 {P : Program} {ops : Array Oper} {Q : Exit → Act → World → Prop} {id : Nat} {a : Act} {w : World} (I : Act → Array Bool → Act → World → Prop) (hm : P.follows .mixedOrders = true) (hB : lowB .any ops = true)
    (hstart : I a (Array.replicate ops.size false) a w.drew)
    (hfin : ∀ l A w, I a l A w → (∀ i, i < ops.size → l.getD i true = true) → Q .normal A w)
    (hstep : ∀ l A w i, I a l A w → i ∈ Region.ready .any ops l → wpOp P ops Q i (I a (l.setIfInBounds i true)) A w) :
    (Code.region id ops true).wp P Q a w := wp_region_inv (I a) hm hB hstart hfin hstep
theorem Once.q {l : Array Bool} {i j k d : Nat} {A : Act} {u : Value} {v : Option Value} (h : Once l j (A.tmps[k]? = v)) (h1 : j ≠ i := by decide) (h2 : k ≠ d := by decide) : Once (l.setIfInBounds i true) j ((A.put (some d) u).tmps[k]? = v) := h.past h1 (fun e => (put_ne h2).trans e)
end Go.Proofs.YtnkapmchfneolaaGreat

namespace Go.Proofs.YtnkapmchfneolaaGreat
open Go.RowKit
set_option linter.unusedVariables false
/-- append onto a slice of the call's own, as one operation: where the new one lies -/
theorem wp_append_at {P : Program} {w : World} {o : Oper} {a : Act} {K : Act → World → Prop} {Q : Exit → Act → World → Prop} (s x : Operand) (t : TypeId)
    (ho : o.op = .call { callee := .builtin .append, args := #[s, x], argTypes := #[t, t] })
    (base : Nat) (e : TypeId) (i : TypeInfo) (z : Value) (size bytes : Nat) (ht : P.underlying t = some (.slice e)) (hi : P.info? e = some i) (hz : i.zero = some z)
    (hsize : i.size = size) (hby : i.bytes = bytes) (hzs : z.cells.size = size) (hsz : 0 < size)
    (v : Value) (n : Nat) (xs : List Value) (hs : a.eval s = v) (hown : w.ownsRow base e size v n xs)
    (ad : Addr) (m c : Nat) (news : List Value) (hx : a.eval x = .slice (some ad) m c) (hl : news.length = m * size) (hnews : ∀ j u, news[j]? = some u → w.cell? (ad.add j) = some u) (h1 : ∀ u ∈ news, u.oneCell' = true)
    (h63 : n + m ≤ maxLen) (hbytes : (n + m) * bytes ≤ 140737488355328) (hbase : base ≤ w.heap.size)
    (h : ∀ v' w', w'.ownsRow base e size v' (n + m) (xs ++ news) → w.grownBy w' v.ownBlock → (v'.ownBlock = v.ownBlock ∨ v'.ownBlock = some w.heap.size) → K (a.put o.dst v') w') : o.wp P a w K Q := by
  obtain ⟨v', w', hr, h2, h3, h4, h5⟩ := run_append_own_at (P := P) w base t o.type e i z size bytes ht hi hz hsize hby hzs hsz v n xs hown ad m c news hl hnews h1 h63 hbytes hbase
  unfold Oper.wp execOp
  simp only [ho, resolve, invoke, builtin, Sem.run_bind, Sem.run_pure, Result.andThen_ok, List.map_toArray, List.map_cons, List.map_nil, hs, hx, hr]
  exact h v' w' h2 h3 h5
theorem news_at {w : World} {g : Nat} {z : Int} (h : w.cell? ⟨g, 0, none⟩ = some (iv z)) : ∀ j u, [iv z][j]? = some u → w.cell? ((⟨g, 0, none⟩ : Addr).add j) = some u := by
  intro j u hj
  match j, hj with
  | 0, hj => simp at hj; subst hj; simpa [Addr.add] using h
theorem cell_grown {w w' : World} {row : Option Nat} {g : Nat} {v : Value} (hg : w.grownBy w' row) (hc : w.cell? ⟨g, 0, none⟩ = some v) (hn : row ≠ some g) : w'.cell? ⟨g, 0, none⟩ = some v := by
  rw [World.cell?_of_block (w := w) (hg.block g (World.block_lt_of_cell? _ _ hc) (by intro q; exact hn q.symm))]
  exact hc
theorem blk_grown {w w' : World} {row : Option Nat} {b : Nat} {cs : Array Value} {ty : TypeId} (hg : w.grownBy w' row) (h : Blk w b cs ty) (hn : row ≠ some b) : Blk w' b cs ty :=
  (hg.block b h.lt (by intro q; exact hn q.symm)).trans h
theorem keepA {l : Array Bool} {i j k d : Nat} {A : Act} {u v : Value} (h : l.getD j true = false → A.tmps[k]? = some v) (hk : k ≠ d) : (l.setIfInBounds i true).getD j true = false → (A.put (some d) u).tmps[k]? = some v := by
  intro e
  refine (put_ne hk).trans (h ?_)
  by_cases q : j = i
  · subst q; rw [getD_set_eq] at e; cases e
  · rwa [getD_set_ne q] at e
/-- the world within the statement that appends to both lists: the operations 4 and 9 lay the two new numbers, 5 and 10 append, 11 and 12 store -/
structure Two (w : World) (c xb : Nat) (xc : Array Value) (tx : TypeId) (va vb : Value) (xs ys : List Int) (f u : Int) (l : Array Bool) (W : World) (g1 g2 : Nat) (x5 x6 : Value) : Prop where
  c4 : l.getD 4 true = true → W.cell? ⟨g1, 0, none⟩ = some (iv f) ∧ va.ownBlock ≠ some g1 ∧ vb.ownBlock ≠ some g1
  c9 : l.getD 9 true = true → W.cell? ⟨g2, 0, none⟩ = some (iv u) ∧ va.ownBlock ≠ some g2 ∧ vb.ownBlock ≠ some g2
  t0 : l.getD 5 true = false → Twin c W va vb xs ys
  t5 : l.getD 5 true = true → l.getD 10 true = false → Twin c W x5 vb (xs ++ [f]) ys
  tt : l.getD 10 true = true → Twin c W x5 x6 (xs ++ [f]) (ys ++ [u])
  k10 : l.getD 10 true = true → l.getD 5 true = true
  k11 : l.getD 11 true = true → l.getD 5 true = true
  k12 : l.getD 12 true = true → l.getD 10 true = true
  bx : Blk W xb xc tx
  na : ∀ k, va.ownBlock = some k → k < xb
  nb : ∀ k, vb.ownBlock = some k → k < xb
  kw : Kept 0 0 w W
  cx : c ≤ xb
  cw : w.heap.size ≤ c + 1
theorem ne_of_lt {v : Value} {n g : Nat} (h : ∀ k, v.ownBlock = some k → k < n) (hg : n ≤ g) : v.ownBlock ≠ some g := by
  intro q; have := h g q; omega
variable {w W : World} {c xb : Nat} {xc : Array Value} {tx : TypeId} {va vb : Value} {xs ys : List Int} {f u : Int} {l : Array Bool} {g1 g2 : Nat} {x5 x6 : Value}
theorem Two.sz (h : Two w c xb xc tx va vb xs ys f u l W g1 g2 x5 x6) : c + 1 ≤ W.heap.size := by have := h.bx.lt; have := h.cx; omega
theorem Two.other (h : Two w c xb xc tx va vb xs ys f u l W g1 g2 x5 x6) {i : Nat} (hi : i ≠ 4 ∧ i ≠ 9 ∧ i ≠ 5 ∧ i ≠ 10 ∧ i ≠ 11 ∧ i ≠ 12) : Two w c xb xc tx va vb xs ys f u (l.setIfInBounds i true) W g1 g2 x5 x6 := by
  obtain ⟨q4, q9, q5, q10, q11, q12⟩ := hi
  have e4 := getD_set_ne (l := l) (Ne.symm q4)
  have e9 := getD_set_ne (l := l) (Ne.symm q9)
  have e5 := getD_set_ne (l := l) (Ne.symm q5)
  have e10 := getD_set_ne (l := l) (Ne.symm q10)
  have e11 := getD_set_ne (l := l) (Ne.symm q11)
  have e12 := getD_set_ne (l := l) (Ne.symm q12)
  exact ⟨by rw [e4]; exact h.c4, by rw [e9]; exact h.c9, by rw [e5]; exact h.t0, by rw [e5, e10]; exact h.t5, by rw [e10]; exact h.tt, by rw [e10, e5]; exact h.k10, by rw [e11, e5]; exact h.k11, by rw [e12, e10]; exact h.k12, h.bx, h.na, h.nb, h.kw, h.cx, h.cw⟩
/-- operation 11 stores the first list's new slice -/
theorem Two.op11 (h : Two w c xb xc tx va vb xs ys f u l W g1 g2 x5 x6) (h5 : l.getD 5 true = true) : Two w c xb xc tx va vb xs ys f u (l.setIfInBounds 11 true) W g1 g2 x5 x6 := by
  have e4 := getD_set_ne (l := l) (show (4 : Nat) ≠ 11 by decide)
  have e9 := getD_set_ne (l := l) (show (9 : Nat) ≠ 11 by decide)
  have e5 := getD_set_ne (l := l) (show (5 : Nat) ≠ 11 by decide)
  have e10 := getD_set_ne (l := l) (show (10 : Nat) ≠ 11 by decide)
  have e12 := getD_set_ne (l := l) (show (12 : Nat) ≠ 11 by decide)
  exact ⟨by rw [e4]; exact h.c4, by rw [e9]; exact h.c9, by rw [e5]; exact h.t0, by rw [e5, e10]; exact h.t5, by rw [e10]; exact h.tt, by rw [e10, e5]; exact h.k10, by rw [e5]; exact fun _ => h5, by rw [e12, e10]; exact h.k12, h.bx, h.na, h.nb, h.kw, h.cx, h.cw⟩
theorem Two.op12 (h : Two w c xb xc tx va vb xs ys f u l W g1 g2 x5 x6) (h10 : l.getD 10 true = true) : Two w c xb xc tx va vb xs ys f u (l.setIfInBounds 12 true) W g1 g2 x5 x6 := by
  have e4 := getD_set_ne (l := l) (show (4 : Nat) ≠ 12 by decide)
  have e9 := getD_set_ne (l := l) (show (9 : Nat) ≠ 12 by decide)
  have e5 := getD_set_ne (l := l) (show (5 : Nat) ≠ 12 by decide)
  have e10 := getD_set_ne (l := l) (show (10 : Nat) ≠ 12 by decide)
  have e11 := getD_set_ne (l := l) (show (11 : Nat) ≠ 12 by decide)
  exact ⟨by rw [e4]; exact h.c4, by rw [e9]; exact h.c9, by rw [e5]; exact h.t0, by rw [e5, e10]; exact h.t5, by rw [e10]; exact h.tt, by rw [e10, e5]; exact h.k10, by rw [e11, e5]; exact h.k11, by rw [e10]; exact fun _ => h10, h.bx, h.na, h.nb, h.kw, h.cx, h.cw⟩
theorem Two.op4 (h : Two w c xb xc tx va vb xs ys f u l W g1 g2 x5 x6) (ty : TypeId) : Two w c xb xc tx va vb xs ys f u (l.setIfInBounds 4 true) (W.alloc (.cells #[iv f] ty)) W.heap.size g2 x5 x6 := by
  have e9 := getD_set_ne (l := l) (show (9 : Nat) ≠ 4 by decide)
  have e5 := getD_set_ne (l := l) (show (5 : Nat) ≠ 4 by decide)
  have e10 := getD_set_ne (l := l) (show (10 : Nat) ≠ 4 by decide)
  have e11 := getD_set_ne (l := l) (show (11 : Nat) ≠ 4 by decide)
  have e12 := getD_set_ne (l := l) (show (12 : Nat) ≠ 4 by decide)
  have hb := h.bx.lt
  refine ⟨fun _ => ⟨(Blk.new W #[iv f] ty).cell (i := 0) rfl, ne_of_lt h.na (by omega), ne_of_lt h.nb (by omega)⟩, ?_, ?_, ?_, ?_, by rw [e10, e5]; exact h.k10, by rw [e11, e5]; exact h.k11, by rw [e12, e10]; exact h.k12, h.bx.alloc _, h.na, h.nb, kept_new h.kw _, h.cx, h.cw⟩
  · rw [e9]
    intro q
    obtain ⟨d0, d1, d2⟩ := h.c9 q
    exact ⟨cell_grown (grownBy_alloc (row := none) (World.grownBy.refl _ _) _) d0 (by simp), d1, d2⟩
  · rw [e5]; exact fun q => (h.t0 q).alloc _
  · rw [e5, e10]; exact fun q r => (h.t5 q r).alloc _
  · rw [e10]; exact fun q => (h.tt q).alloc _
theorem Two.op9 (h : Two w c xb xc tx va vb xs ys f u l W g1 g2 x5 x6) (ty : TypeId) : Two w c xb xc tx va vb xs ys f u (l.setIfInBounds 9 true) (W.alloc (.cells #[iv u] ty)) g1 W.heap.size x5 x6 := by
  have e4 := getD_set_ne (l := l) (show (4 : Nat) ≠ 9 by decide)
  have e5 := getD_set_ne (l := l) (show (5 : Nat) ≠ 9 by decide)
  have e10 := getD_set_ne (l := l) (show (10 : Nat) ≠ 9 by decide)
  have e11 := getD_set_ne (l := l) (show (11 : Nat) ≠ 9 by decide)
  have e12 := getD_set_ne (l := l) (show (12 : Nat) ≠ 9 by decide)
  have hb := h.bx.lt
  refine ⟨?_, fun _ => ⟨(Blk.new W #[iv u] ty).cell (i := 0) rfl, ne_of_lt h.na (by omega), ne_of_lt h.nb (by omega)⟩, ?_, ?_, ?_, by rw [e10, e5]; exact h.k10, by rw [e11, e5]; exact h.k11, by rw [e12, e10]; exact h.k12, h.bx.alloc _, h.na, h.nb, kept_new h.kw _, h.cx, h.cw⟩
  · rw [e4]
    intro q
    obtain ⟨d0, d1, d2⟩ := h.c4 q
    exact ⟨cell_grown (grownBy_alloc (row := none) (World.grownBy.refl _ _) _) d0 (by simp), d1, d2⟩
  · rw [e5]; exact fun q => (h.t0 q).alloc _
  · rw [e5, e10]; exact fun q r => (h.t5 q r).alloc _
  · rw [e10]; exact fun q => (h.tt q).alloc _
theorem Two.op5 (h : Two w c xb xc tx va vb xs ys f u l W g1 g2 x5 x6) (h5 : l.getD 5 true = false) {v' : Value} {W' : World} (hown : W'.ownsRow (c + 1) 3 1 v' (xs.length + 1) (xs.map (Value.int .i64) ++ [iv f])) (hg : W.grownBy W' va.ownBlock) (hat : v'.ownBlock = va.ownBlock ∨ v'.ownBlock = some W.heap.size) :
    Two w c xb xc tx va vb xs ys f u (l.setIfInBounds 5 true) W' g1 g2 v' x6 := by
  have e4 := getD_set_ne (l := l) (show (4 : Nat) ≠ 5 by decide)
  have e9 := getD_set_ne (l := l) (show (9 : Nat) ≠ 5 by decide)
  have e5 := getD_set_eq (l := l) (i := 5)
  have e10 := getD_set_ne (l := l) (show (10 : Nat) ≠ 5 by decide)
  have e11 := getD_set_ne (l := l) (show (11 : Nat) ≠ 5 by decide)
  have e12 := getD_set_ne (l := l) (show (12 : Nat) ≠ 5 by decide)
  have hcw := h.cw
  refine ⟨?_, ?_, ?_, ?_, ?_, ?_, ?_, by rw [e12, e10]; exact h.k12, blk_grown hg h.bx (ne_of_lt h.na (Nat.le_refl _)), h.na, h.nb, kept_over h.kw (kept_row (lo := w.heap.size) (hi := W.heap.size) hg (fun g q => ⟨by have := ((h.t0 h5).oa.lt g q).1; omega, ((h.t0 h5).oa.lt g q).2⟩)) (Nat.le_refl _), h.cx, h.cw⟩
  · rw [e4]; intro q; obtain ⟨d0, d1, d2⟩ := h.c4 q; exact ⟨cell_grown hg d0 d1, d1, d2⟩
  · rw [e9]; intro q; obtain ⟨d0, d1, d2⟩ := h.c9 q; exact ⟨cell_grown hg d0 d1, d1, d2⟩
  · rw [e5]; intro q; cases q
  · intro _ _; exact (h.t0 h5).pushA hown hg hat
  · rw [e10]; intro q; have := h.k10 q; rw [h5] at this; cases this
  · intro _; exact e5
  · intro _; exact e5
theorem Two.op10 (h : Two w c xb xc tx va vb xs ys f u l W g1 g2 x5 x6) (h5 : l.getD 5 true = true) (h10 : l.getD 10 true = false) {v' : Value} {W' : World} (hown : W'.ownsRow (c + 1) 3 1 v' (ys.length + 1) (ys.map (Value.int .i64) ++ [iv u])) (hg : W.grownBy W' vb.ownBlock) (hat : v'.ownBlock = vb.ownBlock ∨ v'.ownBlock = some W.heap.size) :
    Two w c xb xc tx va vb xs ys f u (l.setIfInBounds 10 true) W' g1 g2 x5 v' := by
  have e4 := getD_set_ne (l := l) (show (4 : Nat) ≠ 10 by decide)
  have e9 := getD_set_ne (l := l) (show (9 : Nat) ≠ 10 by decide)
  have e5 := getD_set_ne (l := l) (show (5 : Nat) ≠ 10 by decide)
  have e10 := getD_set_eq (l := l) (i := 10)
  have e11 := getD_set_ne (l := l) (show (11 : Nat) ≠ 10 by decide)
  have hcw := h.cw
  refine ⟨?_, ?_, ?_, ?_, ?_, ?_, by rw [e11, e5]; exact h.k11, ?_, blk_grown hg h.bx (ne_of_lt h.nb (Nat.le_refl _)), h.na, h.nb, kept_over h.kw (kept_row (lo := w.heap.size) (hi := W.heap.size) hg (fun g q => ⟨by have := ((h.t5 h5 h10).ob.lt g q).1; omega, ((h.t5 h5 h10).ob.lt g q).2⟩)) (Nat.le_refl _), h.cx, h.cw⟩
  · rw [e4]; intro q; obtain ⟨d0, d1, d2⟩ := h.c4 q; exact ⟨cell_grown hg d0 d2, d1, d2⟩
  · rw [e9]; intro q; obtain ⟨d0, d1, d2⟩ := h.c9 q; exact ⟨cell_grown hg d0 d2, d1, d2⟩
  · rw [e5]; intro q; rw [h5] at q; cases q
  · rw [e10]; intro _ q; cases q
  · intro _; exact (h.t5 h5 h10).pushB hown hg hat
  · rw [e5]; intro _; exact h5
  · intro _; exact e10
end Go.Proofs.YtnkapmchfneolaaGreat

namespace Go.Proofs.YtnkapmchfneolaaGreat
open Go.RowKit
set_option linter.unusedVariables false

theorem l1Size_no (s : Int) (w : World) (h1 : ¬ s = 1) (h2 : ¬ s = 2) : Calls Tryz.prog 49 #[iv s] w fun e w' => e = .returned (.bool false) ∧ w' = w := by
  have k1 : (s == 1) = false := by simpa using h1
  have k2 : (s == 2) = false := by simpa using h2
  go_enter Tryz.func49, Tryz.ntmps49
  go_wp2
  go_ret
  exact ⟨rfl, rfl⟩

theorem l1Size1 (w : World) : Calls Tryz.prog 49 #[iv 1] w fun e w' => e = .returned (.bool true) ∧ w' = w := by
  go_enter Tryz.func49, Tryz.ntmps49
  go_wp2
  go_ret
  exact ⟨rfl, rfl⟩

theorem l1Size2 (w : World) : Calls Tryz.prog 49 #[iv 2] w fun e w' => e = .returned (.bool true) ∧ w' = w := by
  go_enter Tryz.func49, Tryz.ntmps49
  go_wp2
  go_ret
  exact ⟨rfl, rfl⟩
theorem specSize (z : Int) (w : World) : Calls Tryz.prog 49 #[iv z] w fun e w' => e = .returned (.bool (decide (z = 1) || decide (z = 2))) ∧ w' = w := by
  by_cases h1 : z = 1
  · subst h1; exact l1Size1 w
  · by_cases h2 : z = 2
    · subst h2; exact l1Size2 w
    · rw [show (decide (z = 1) || decide (z = 2)) = false from by simp [h1, h2]]; exact l1Size_no z w h1 h2
end Go.Proofs.YtnkapmchfneolaaGreat

namespace Go.Proofs.YtnkapmchfneolaaGreat
open Go.RowKit
set_option linter.unusedVariables false
theorem specWord (n : Int) (w : World) : Calls Tryz.prog 105 #[iv n] w fun e w' => e = .returned (.bool (Pl.wordOk n)) ∧ w' = w := by
  go_enter Tryz.func105, Tryz.ntmps105
  go_wp2_with (go_at_call 27; refine (l1In _ _ _ _).mono ?_; rintro e w' ⟨rfl, hw⟩; have hw2 := hw.symm; clear hw; subst hw2)
  go_ret
  exact ⟨rfl, rfl⟩
theorem specExtM (n : Int) (w : World) : Calls Tryz.prog 88 #[iv n] w fun e w' => e = .returned (.bool (Pl.extM n)) ∧ w' = w := by
  go_enter Tryz.func88, Tryz.ntmps88
  go_wp2
  go_ret
  exact ⟨rfl, rfl⟩
set_option maxHeartbeats 4000000 in
theorem specGoodOperand (w : World) (m k e : Int) :
    Calls Tryz.prog 83 #[.agg #[iv m, iv k, iv e]] w fun r w' => r = .returned (.bool (Pl.opOk m k e)) ∧ Kept 0 0 w w' := by
  have HK := hide (kept_alloc w (.cells #[iv m, iv k, iv e] 85))
  have G : Hid (Pl.opOk m k e = (Pl.modeOk m && (Pl.within k 0 3 && ((decide (m < 6) || (k == 0)) && (Pl.wordOk e && (Pl.extM m || (e == 0))))))) := hide rfl
  cases h1 : Pl.modeOk m
  · go_enter Tryz.func83, Tryz.ntmps83
    go_wp2_with (first | (go_at_call 27; refine (l1In _ _ _ _).mono ?_; rintro e w' ⟨rfl, hw⟩; have hw2 := hw.symm; clear hw; subst hw2; rw [show (decide (0 ≤ m) && decide (m ≤ 7)) = Pl.modeOk m from rfl, h1]; have Z1 : True := trivial))
    go_ret
    exact ⟨rB (by rw [G.out, h1]; simp), HK.out⟩
  · cases h2 : Pl.within k 0 3
    · go_enter Tryz.func83, Tryz.ntmps83
      go_wp2_with (first | (go_at_call 27; have z := Z1; refine (l1In _ _ _ _).mono ?_; rintro e w' ⟨rfl, hw⟩; have hw2 := hw.symm; clear hw; subst hw2; rw [show (decide (0 ≤ k) && decide (k ≤ 3)) = Pl.within k 0 3 from rfl, h2]) | (go_at_call 27; refine (l1In _ _ _ _).mono ?_; rintro e w' ⟨rfl, hw⟩; have hw2 := hw.symm; clear hw; subst hw2; rw [show (decide (0 ≤ m) && decide (m ≤ 7)) = Pl.modeOk m from rfl, h1]; have Z1 : True := trivial))
      go_ret
      exact ⟨rB (by rw [G.out, h1, h2]; simp), HK.out⟩
    · cases h3 : decide (6 ≤ m)
      · have q3 : decide (m < 6) = true := by simp at h3 ⊢; omega
        cases h4 : Pl.wordOk e
        · go_enter Tryz.func83, Tryz.ntmps83
          go_wp2_with (first | (go_at_call 27; have z := Z1; refine (l1In _ _ _ _).mono ?_; rintro e w' ⟨rfl, hw⟩; have hw2 := hw.symm; clear hw; subst hw2; rw [show (decide (0 ≤ k) && decide (k ≤ 3)) = Pl.within k 0 3 from rfl, h2]) | (go_at_call 27; refine (l1In _ _ _ _).mono ?_; rintro e w' ⟨rfl, hw⟩; have hw2 := hw.symm; clear hw; subst hw2; rw [show (decide (0 ≤ m) && decide (m ≤ 7)) = Pl.modeOk m from rfl, h1]; have Z1 : True := trivial) | (go_at_call 105; refine (specWord _ _).mono ?_; rintro e w' ⟨rfl, hw⟩; have hw2 := hw.symm; clear hw; subst hw2; rw [h4]))
          go_ret
          exact ⟨rB (by rw [G.out, h1, h2, q3, h4]; simp), HK.out⟩
        · cases h5 : Pl.extM m
          · cases h6 : (e == 0)
            all_goals
              go_enter Tryz.func83, Tryz.ntmps83
              go_wp2_with (first | (go_at_call 27; have z := Z1; refine (l1In _ _ _ _).mono ?_; rintro e w' ⟨rfl, hw⟩; have hw2 := hw.symm; clear hw; subst hw2; rw [show (decide (0 ≤ k) && decide (k ≤ 3)) = Pl.within k 0 3 from rfl, h2]) | (go_at_call 27; refine (l1In _ _ _ _).mono ?_; rintro e w' ⟨rfl, hw⟩; have hw2 := hw.symm; clear hw; subst hw2; rw [show (decide (0 ≤ m) && decide (m ≤ 7)) = Pl.modeOk m from rfl, h1]; have Z1 : True := trivial) | (go_at_call 105; refine (specWord _ _).mono ?_; rintro e w' ⟨rfl, hw⟩; have hw2 := hw.symm; clear hw; subst hw2; rw [h4]) | (go_at_call 88; refine (specExtM _ _).mono ?_; rintro e w' ⟨rfl, hw⟩; have hw2 := hw.symm; clear hw; subst hw2; rw [h5]))
              go_ret
              exact ⟨rB (by rw [G.out, h1, h2, q3, h4, h5, h6]; simp), HK.out⟩
          · go_enter Tryz.func83, Tryz.ntmps83
            go_wp2_with (first | (go_at_call 27; have z := Z1; refine (l1In _ _ _ _).mono ?_; rintro e w' ⟨rfl, hw⟩; have hw2 := hw.symm; clear hw; subst hw2; rw [show (decide (0 ≤ k) && decide (k ≤ 3)) = Pl.within k 0 3 from rfl, h2]) | (go_at_call 27; refine (l1In _ _ _ _).mono ?_; rintro e w' ⟨rfl, hw⟩; have hw2 := hw.symm; clear hw; subst hw2; rw [show (decide (0 ≤ m) && decide (m ≤ 7)) = Pl.modeOk m from rfl, h1]; have Z1 : True := trivial) | (go_at_call 105; refine (specWord _ _).mono ?_; rintro e w' ⟨rfl, hw⟩; have hw2 := hw.symm; clear hw; subst hw2; rw [h4]) | (go_at_call 88; refine (specExtM _ _).mono ?_; rintro e w' ⟨rfl, hw⟩; have hw2 := hw.symm; clear hw; subst hw2; rw [h5]))
            go_ret
            exact ⟨rB (by rw [G.out, h1, h2, q3, h4, h5]; simp), HK.out⟩
      · have q3 : decide (m < 6) = false := by simp at h3 ⊢; omega
        cases h7 : (k != 0)
        · have q7 : (k == 0) = true := by simpa using h7
          cases h4 : Pl.wordOk e
          · go_enter Tryz.func83, Tryz.ntmps83
            go_wp2_with (first | (go_at_call 27; have z := Z1; refine (l1In _ _ _ _).mono ?_; rintro e w' ⟨rfl, hw⟩; have hw2 := hw.symm; clear hw; subst hw2; rw [show (decide (0 ≤ k) && decide (k ≤ 3)) = Pl.within k 0 3 from rfl, h2]) | (go_at_call 27; refine (l1In _ _ _ _).mono ?_; rintro e w' ⟨rfl, hw⟩; have hw2 := hw.symm; clear hw; subst hw2; rw [show (decide (0 ≤ m) && decide (m ≤ 7)) = Pl.modeOk m from rfl, h1]; have Z1 : True := trivial) | (go_at_call 105; refine (specWord _ _).mono ?_; rintro e w' ⟨rfl, hw⟩; have hw2 := hw.symm; clear hw; subst hw2; rw [h4]))
            go_ret
            exact ⟨rB (by rw [G.out, h1, h2, q3, q7, h4]; simp), HK.out⟩
          · cases h5 : Pl.extM m
            · cases h6 : (e == 0)
              all_goals
                go_enter Tryz.func83, Tryz.ntmps83
                go_wp2_with (first | (go_at_call 27; have z := Z1; refine (l1In _ _ _ _).mono ?_; rintro e w' ⟨rfl, hw⟩; have hw2 := hw.symm; clear hw; subst hw2; rw [show (decide (0 ≤ k) && decide (k ≤ 3)) = Pl.within k 0 3 from rfl, h2]) | (go_at_call 27; refine (l1In _ _ _ _).mono ?_; rintro e w' ⟨rfl, hw⟩; have hw2 := hw.symm; clear hw; subst hw2; rw [show (decide (0 ≤ m) && decide (m ≤ 7)) = Pl.modeOk m from rfl, h1]; have Z1 : True := trivial) | (go_at_call 105; refine (specWord _ _).mono ?_; rintro e w' ⟨rfl, hw⟩; have hw2 := hw.symm; clear hw; subst hw2; rw [h4]) | (go_at_call 88; refine (specExtM _ _).mono ?_; rintro e w' ⟨rfl, hw⟩; have hw2 := hw.symm; clear hw; subst hw2; rw [h5]))
                go_ret
                exact ⟨rB (by rw [G.out, h1, h2, q3, q7, h4, h5, h6]; simp), HK.out⟩
            · go_enter Tryz.func83, Tryz.ntmps83
              go_wp2_with (first | (go_at_call 27; have z := Z1; refine (l1In _ _ _ _).mono ?_; rintro e w' ⟨rfl, hw⟩; have hw2 := hw.symm; clear hw; subst hw2; rw [show (decide (0 ≤ k) && decide (k ≤ 3)) = Pl.within k 0 3 from rfl, h2]) | (go_at_call 27; refine (l1In _ _ _ _).mono ?_; rintro e w' ⟨rfl, hw⟩; have hw2 := hw.symm; clear hw; subst hw2; rw [show (decide (0 ≤ m) && decide (m ≤ 7)) = Pl.modeOk m from rfl, h1]; have Z1 : True := trivial) | (go_at_call 105; refine (specWord _ _).mono ?_; rintro e w' ⟨rfl, hw⟩; have hw2 := hw.symm; clear hw; subst hw2; rw [h4]) | (go_at_call 88; refine (specExtM _ _).mono ?_; rintro e w' ⟨rfl, hw⟩; have hw2 := hw.symm; clear hw; subst hw2; rw [h5]))
              go_ret
              exact ⟨rB (by rw [G.out, h1, h2, q3, q7, h4, h5]; simp), HK.out⟩
        · have q7 : (k == 0) = false := by simpa using h7
          go_enter Tryz.func83, Tryz.ntmps83
          go_wp2_with (first | (go_at_call 27; have z := Z1; refine (l1In _ _ _ _).mono ?_; rintro e w' ⟨rfl, hw⟩; have hw2 := hw.symm; clear hw; subst hw2; rw [show (decide (0 ≤ k) && decide (k ≤ 3)) = Pl.within k 0 3 from rfl, h2]) | (go_at_call 27; refine (l1In _ _ _ _).mono ?_; rintro e w' ⟨rfl, hw⟩; have hw2 := hw.symm; clear hw; subst hw2; rw [show (decide (0 ≤ m) && decide (m ≤ 7)) = Pl.modeOk m from rfl, h1]; have Z1 : True := trivial))
          go_ret
          exact ⟨rB (by rw [G.out, h1, h2, q3, q7]; simp), HK.out⟩
end Go.Proofs.YtnkapmchfneolaaGreat

namespace Go.Proofs.YtnkapmchfneolaaGreat
open Go.RowKit
set_option linter.unusedVariables false
theorem specMem (m : Int) (w : World) : Calls Tryz.prog 84 #[iv m] w fun e w' => e = .returned (.bool (Pl.memM m)) ∧ w' = w := by
  go_enter Tryz.func84, Tryz.ntmps84
  go_wp2_with (go_at_call 27; refine (l1In _ _ _ _).mono ?_; rintro e w' ⟨rfl, hw⟩; have hw2 := hw.symm; clear hw; subst hw2)
  go_ret
  exact ⟨rfl, rfl⟩
theorem specPlain (m : Int) (w : World) : Calls Tryz.prog 85 #[iv m] w fun e w' => e = .returned (.bool (Pl.plainM m)) ∧ w' = w := by
  cases h1 : (m == 2) <;> cases h2 : (m == 5) <;> cases h3 : (m == 6)
  all_goals
    go_enter Tryz.func85, Tryz.ntmps85
    go_wp2
    go_ret
    exact ⟨rB (by simp only [Pl.plainM, h1, h2, h3]; rfl), rfl⟩
theorem specZero (m k e : Int) (w : World) : Calls Tryz.prog 87 #[.agg #[iv m, iv k, iv e]] w fun r w' => r = .returned (.bool (Pl.zeroO m k e)) ∧ Kept 0 0 w w' := by
  have K0 := hide (kept_alloc w (.cells #[iv m, iv k, iv e] 85))
  cases h1 : (m == 0) <;> cases h2 : (k == 0) <;> cases h3 : (e == 0)
  all_goals
    go_enter Tryz.func87, Tryz.ntmps87
    go_wp2
    go_ret
    exact ⟨rB (by simp only [Pl.zeroO, h1, h2, h3]; rfl), K0.out⟩
theorem specNow (m k e : Int) (w : World) : Calls Tryz.prog 86 #[.agg #[iv m, iv k, iv e]] w fun r w' => r = .returned (.bool (Pl.nowO m e)) ∧ Kept 0 0 w w' := by
  have K0 := hide (kept_alloc w (.cells #[iv m, iv k, iv e] 85))
  cases h1 : (m == 7) <;> cases h2 : decide (e ≤ 1023)
  all_goals
    go_enter Tryz.func86, Tryz.ntmps86
    go_wp2
    go_ret
    exact ⟨rB (by simp only [Pl.nowO, h1, h2]; rfl), K0.out⟩
theorem opsAll (op : Int) : op = 1 ∨ op = 2 ∨ op = 3 ∨ op = 4 ∨ op = 5 ∨ op = 6 ∨ op = 7 ∨ op = 8 ∨ op = 9 ∨ op = 10 ∨ op = 11 ∨ op = 12 ∨ op = 13 ∨ op = 14 ∨ op = 15 ∨ op = 16 ∨ op = 17 ∨ op = 18 ∨ op = 19 ∨ (¬ op = 1 ∧ ¬ op = 2 ∧ ¬ op = 3 ∧ ¬ op = 4 ∧ ¬ op = 5 ∧ ¬ op = 6 ∧ ¬ op = 7 ∧ ¬ op = 8 ∧ ¬ op = 9 ∧ ¬ op = 10 ∧ ¬ op = 11 ∧ ¬ op = 12 ∧ ¬ op = 13 ∧ ¬ op = 14 ∧ ¬ op = 15 ∧ ¬ op = 16 ∧ ¬ op = 17 ∧ ¬ op = 18 ∧ ¬ op = 19) := by omega
end Go.Proofs.YtnkapmchfneolaaGreat

namespace Go.Proofs.YtnkapmchfneolaaGreat
open Go.RowKit
set_option linter.unusedVariables false
set_option linter.unusedSimpArgs false
set_option maxRecDepth 100000 in
set_option maxHeartbeats 16000000 in
theorem goodInsA1 (w : World) (op r m k e s : Int) (h2 : Pl.within r 0 3 = true) (h3 : Pl.opOk m k e = true) (h4 : Pl.within s 0 7 = true) (h6 : (m == 7) = false) :
    Calls Tryz.prog 58 #[.agg (inA op 1 r m k e s)] w fun r' w' => r' = .returned (.bool (Pl.inOk ⟨op, 1, r, m, k, e, s⟩)) ∧ Kept 0 0 w w' := by
  have K0 := hide (kept_alloc w (.cells (inA op 1 r m k e s) 87))
  have B0 := hide (Blk.new w (inA op 1 r m k e s) 87)
  have G : Hid (Pl.inOk ⟨op, 1, r, m, k, e, s⟩ = Pl.inKind ⟨op, 1, r, m, k, e, s⟩) := hide (by simp only [Pl.inOk, Pl.inBase, Pl.byteNow, h2, h3, h4, h6]; rfl)
  have hN : Pl.nowO m e = false := by simp only [Pl.nowO, h6]; rfl
  go_enter Tryz.func58, Tryz.ntmps58
  go_upto_region 5 with (first | (go_at_call 27; have z9 := B2; refine (l1In _ _ _ _).mono ?_; rintro e9 w' ⟨rfl, hw⟩; have hw2 := hw.symm; clear hw; subst hw2; rw [show (decide (0 ≤ s) && decide (s ≤ 7)) = Pl.within s 0 7 from rfl, h4]) | (go_at_call 49; refine (l1Size1 _).mono ?_; rintro e9 w' ⟨rfl, hw⟩; have hw2 := hw.symm; clear hw; subst hw2) | (go_at_call 27; refine (l1In _ _ _ _).mono ?_; rintro e9 w' ⟨rfl, hw⟩; have hw2 := hw.symm; clear hw; subst hw2; rw [show (decide (0 ≤ r) && decide (r ≤ 3)) = Pl.within r 0 3 from rfl, h2]) | (go_at_call 83; refine (specGoodOperand _ m k e).mono ?_; rintro e9 w2 ⟨rfl, k2⟩; rw [h3]; have B2 := hide (B0.out.kept0 k2); have K2 := hide (K0.out.trans k2); have c0 := B2.out.cell (i := 0) rfl; have c1 := B2.out.cell (i := 1) rfl; have c2 := B2.out.cell (i := 2) rfl; have c3 := B2.out.cell (i := 3) rfl; have c4 := B2.out.cell (i := 4) rfl; have c5 := B2.out.cell (i := 5) rfl; have c6 := B2.out.cell (i := 6) rfl; clear k2))
  rcases opsAll op with rfl | rfl | rfl | rfl | rfl | rfl | rfl | rfl | rfl | rfl | rfl | rfl | rfl | rfl | rfl | rfl | rfl | rfl | rfl | hno
  · have KND : Hid (Pl.inKind ⟨1, 1, r, m, k, e, s⟩ = ((s == 0) && (((1 : Int) == 2) || !(m == 1)))) := hide rfl
    cases a1 : (s == 0)
    all_goals
      go_wp2_with fail
      go_ret
      exact ⟨rB (by rw [G.out, KND.out] <;> first | rfl | (simp only [a1, hN, h6]; done) | (simp only [a1, hN, h6]; rfl) | simp [a1, hN, h6]), by first | exact K4.out | exact K3.out | exact K2.out⟩
  · have KND : Hid (Pl.inKind ⟨2, 1, r, m, k, e, s⟩ = ((s == 0) && ((m == 0) || Pl.memM m))) := hide rfl
    cases a1 : (s == 0) <;> cases b1 : (m == 0)
    all_goals
      go_wp2_with (first | (go_at_call 84; refine (specMem _ _).mono ?_; rintro e9 w' ⟨rfl, hw⟩; have hw2 := hw.symm; clear hw; subst hw2))
      go_ret
      exact ⟨rB (by rw [G.out, KND.out] <;> first | rfl | (simp only [a1, b1, hN, h6]; done) | (simp only [a1, b1, hN, h6]; rfl) | simp [a1, b1, hN, h6]), by first | exact K4.out | exact K3.out | exact K2.out⟩
  · have KND : Hid (Pl.inKind ⟨3, 1, r, m, k, e, s⟩ = ((s == 0) && (((1 : Int) == 2) || !(m == 1)))) := hide rfl
    cases a1 : (s == 0)
    all_goals
      go_wp2_with fail
      go_ret
      exact ⟨rB (by rw [G.out, KND.out] <;> first | rfl | (simp only [a1, hN, h6]; done) | (simp only [a1, hN, h6]; rfl) | simp [a1, hN, h6]), by first | exact K4.out | exact K3.out | exact K2.out⟩
  · have KND : Hid (Pl.inKind ⟨4, 1, r, m, k, e, s⟩ = ((s == 0) && (((1 : Int) == 2) || !(m == 1)))) := hide rfl
    cases a1 : (s == 0)
    all_goals
      go_wp2_with fail
      go_ret
      exact ⟨rB (by rw [G.out, KND.out] <;> first | rfl | (simp only [a1, hN, h6]; done) | (simp only [a1, hN, h6]; rfl) | simp [a1, hN, h6]), by first | exact K4.out | exact K3.out | exact K2.out⟩
  · have KND : Hid (Pl.inKind ⟨5, 1, r, m, k, e, s⟩ = ((s == 0) && (((1 : Int) == 2) || !(m == 1)))) := hide rfl
    cases a1 : (s == 0)
    all_goals
      go_wp2_with fail
      go_ret
      exact ⟨rB (by rw [G.out, KND.out] <;> first | rfl | (simp only [a1, hN, h6]; done) | (simp only [a1, hN, h6]; rfl) | simp [a1, hN, h6]), by first | exact K4.out | exact K3.out | exact K2.out⟩
  · have KND : Hid (Pl.inKind ⟨6, 1, r, m, k, e, s⟩ = ((s == 0) && (((1 : Int) == 2) || !(m == 1)))) := hide rfl
    cases a1 : (s == 0)
    all_goals
      go_wp2_with fail
      go_ret
      exact ⟨rB (by rw [G.out, KND.out] <;> first | rfl | (simp only [a1, hN, h6]; done) | (simp only [a1, hN, h6]; rfl) | simp [a1, hN, h6]), by first | exact K4.out | exact K3.out | exact K2.out⟩
  · have KND : Hid (Pl.inKind ⟨7, 1, r, m, k, e, s⟩ = ((s == 0) && (((1 : Int) == 2) || !(m == 1)))) := hide rfl
    cases a1 : (s == 0)
    all_goals
      go_wp2_with fail
      go_ret
      exact ⟨rB (by rw [G.out, KND.out] <;> first | rfl | (simp only [a1, hN, h6]; done) | (simp only [a1, hN, h6]; rfl) | simp [a1, hN, h6]), by first | exact K4.out | exact K3.out | exact K2.out⟩
  · have KND : Hid (Pl.inKind ⟨8, 1, r, m, k, e, s⟩ = ((s == 0) && (((1 : Int) == 2) || !(m == 1)))) := hide rfl
    cases a1 : (s == 0)
    all_goals
      go_wp2_with fail
      go_ret
      exact ⟨rB (by rw [G.out, KND.out] <;> first | rfl | (simp only [a1, hN, h6]; done) | (simp only [a1, hN, h6]; rfl) | simp [a1, hN, h6]), by first | exact K4.out | exact K3.out | exact K2.out⟩
  · have KND : Hid (Pl.inKind ⟨9, 1, r, m, k, e, s⟩ = (((1 : Int) == 2) && (s == 0))) := hide rfl
    go_wp2_with fail
    go_ret
    exact ⟨rB (by rw [G.out, KND.out] <;> first | rfl | (simp only [hN, h6]; done) | (simp only [hN, h6]; rfl) | simp [hN, h6]), by first | exact K4.out | exact K3.out | exact K2.out⟩
  · have KND : Hid (Pl.inKind ⟨10, 1, r, m, k, e, s⟩ = ((((1 : Int) == 2) && (s == 0)) && Pl.plainM m)) := hide rfl
    go_wp2_with (first | (go_at_call 85; refine (specPlain _ _).mono ?_; rintro e9 w' ⟨rfl, hw⟩; have hw2 := hw.symm; clear hw; subst hw2))
    go_ret
    exact ⟨rB (by rw [G.out, KND.out] <;> first | rfl | (simp only [hN, h6]; done) | (simp only [hN, h6]; rfl) | simp [hN, h6]), by first | exact K4.out | exact K3.out | exact K2.out⟩
  · have KND : Hid (Pl.inKind ⟨11, 1, r, m, k, e, s⟩ = (((r == 0) && decide (s ≤ 3)) && ((m == 0) || Pl.memM m))) := hide rfl
    cases a1 : (r == 0) <;> cases a2 : decide (s ≤ 3) <;> cases b1 : (m == 0)
    all_goals
      go_wp2_with (first | (go_at_call 84; refine (specMem _ _).mono ?_; rintro e9 w' ⟨rfl, hw⟩; have hw2 := hw.symm; clear hw; subst hw2))
      go_ret
      exact ⟨rB (by rw [G.out, KND.out] <;> first | rfl | (simp only [a1, a2, b1, hN, h6]; done) | (simp only [a1, a2, b1, hN, h6]; rfl) | simp [a1, a2, b1, hN, h6]), by first | exact K4.out | exact K3.out | exact K2.out⟩
  · have KND : Hid (Pl.inKind ⟨12, 1, r, m, k, e, s⟩ = ((m == 0))) := hide rfl
    go_wp2_with fail
    go_ret
    exact ⟨rB (by rw [G.out, KND.out] <;> first | rfl | (simp only [hN, h6]; done) | (simp only [hN, h6]; rfl) | simp [hN, h6]), by first | exact K4.out | exact K3.out | exact K2.out⟩
  · have KND : Hid (Pl.inKind ⟨13, 1, r, m, k, e, s⟩ = ((((1 : Int) == 2) && decide (r ≤ 1)) && (m == 7))) := hide rfl
    go_wp2_with fail
    go_ret
    exact ⟨rB (by rw [G.out, KND.out] <;> first | rfl | (simp only [hN, h6]; done) | (simp only [hN, h6]; rfl) | simp [hN, h6]), by first | exact K4.out | exact K3.out | exact K2.out⟩
  · have KND : Hid (Pl.inKind ⟨14, 1, r, m, k, e, s⟩ = (((((1 : Int) == 2) && (r == 0)) && decide (s ≤ 1)) && Pl.plainM m)) := hide rfl
    go_wp2_with (first | (go_at_call 85; refine (specPlain _ _).mono ?_; rintro e9 w' ⟨rfl, hw⟩; have hw2 := hw.symm; clear hw; subst hw2))
    go_ret
    exact ⟨rB (by rw [G.out, KND.out] <;> first | rfl | (simp only [hN, h6]; done) | (simp only [hN, h6]; rfl) | simp [hN, h6]), by first | exact K4.out | exact K3.out | exact K2.out⟩
  · have KND : Hid (Pl.inKind ⟨15, 1, r, m, k, e, s⟩ = (bif s == 3 then (((1 : Int) == 2) && (r == 0)) && Pl.nowO m e else ((((1 : Int) == 2) && decide (s ≤ 6)) && Pl.zeroO m k e) && (decide (3 < s) || (r == 0)))) := hide rfl
    cases a0 : (s == 3)
    all_goals
      go_wp2_with (first | (go_at_call 86; refine (specNow m k e _).mono ?_; rintro e9 w3 ⟨rfl, k3⟩; rw [hN]; have B3 := hide (B2.out.kept0 k3); have K3 := hide (K2.out.trans k3); have d0 := B3.out.cell (i := 0) rfl; have d1 := B3.out.cell (i := 1) rfl; have d2 := B3.out.cell (i := 2) rfl; have d3 := B3.out.cell (i := 3) rfl; have d4 := B3.out.cell (i := 4) rfl; have d5 := B3.out.cell (i := 5) rfl; have d6 := B3.out.cell (i := 6) rfl; clear k3) | (go_at_call 87; have z9 := B3; refine (specZero m k e _).mono ?_; rintro e9 w4 ⟨rfl, k4⟩; rw [a3]; have B4 := hide (B3.out.kept0 k4); have K4 := hide (K3.out.trans k4); have f0 := B4.out.cell (i := 0) rfl; have f1 := B4.out.cell (i := 1) rfl; have f2 := B4.out.cell (i := 2) rfl; have f3 := B4.out.cell (i := 3) rfl; have f4 := B4.out.cell (i := 4) rfl; have f5 := B4.out.cell (i := 5) rfl; have f6 := B4.out.cell (i := 6) rfl; clear k4) | (go_at_call 87; refine (specZero m k e _).mono ?_; rintro e9 w4 ⟨rfl, k4⟩; rw [a3]; have B4 := hide (B2.out.kept0 k4); have K4 := hide (K2.out.trans k4); have f0 := B4.out.cell (i := 0) rfl; have f1 := B4.out.cell (i := 1) rfl; have f2 := B4.out.cell (i := 2) rfl; have f3 := B4.out.cell (i := 3) rfl; have f4 := B4.out.cell (i := 4) rfl; have f5 := B4.out.cell (i := 5) rfl; have f6 := B4.out.cell (i := 6) rfl; clear k4))
      go_ret
      exact ⟨rB (by rw [G.out, KND.out] <;> first | rfl | (simp only [a0, hN, h6]; done) | (simp only [a0, hN, h6]; rfl) | simp [a0, hN, h6]), by first | exact K4.out | exact K3.out | exact K2.out⟩
  · have KND : Hid (Pl.inKind ⟨16, 1, r, m, k, e, s⟩ = ((((1 : Int) == 2) && (s == 0)) && !(m == 1))) := hide rfl
    go_wp2_with fail
    go_ret
    exact ⟨rB (by rw [G.out, KND.out] <;> first | rfl | (simp only [hN, h6]; done) | (simp only [hN, h6]; rfl) | simp [hN, h6]), by first | exact K4.out | exact K3.out | exact K2.out⟩
  · have KND : Hid (Pl.inKind ⟨17, 1, r, m, k, e, s⟩ = ((((1 : Int) == 2) && (s == 0)) && !(m == 1))) := hide rfl
    go_wp2_with fail
    go_ret
    exact ⟨rB (by rw [G.out, KND.out] <;> first | rfl | (simp only [hN, h6]; done) | (simp only [hN, h6]; rfl) | simp [hN, h6]), by first | exact K4.out | exact K3.out | exact K2.out⟩
  · have KND : Hid (Pl.inKind ⟨18, 1, r, m, k, e, s⟩ = (((!((1 : Int) == 2)) && decide (s ≤ 1)) && (m == 0))) := hide rfl
    cases a1 : decide (s ≤ 1)
    all_goals
      go_wp2_with fail
      go_ret
      exact ⟨rB (by rw [G.out, KND.out] <;> first | rfl | (simp only [a1, hN, h6]; done) | (simp only [a1, hN, h6]; rfl) | simp [a1, hN, h6]), by first | exact K4.out | exact K3.out | exact K2.out⟩
  · have KND : Hid (Pl.inKind ⟨19, 1, r, m, k, e, s⟩ = (((1 : Int) == 2) && ((((s == 0) && (r == 0)) && Pl.nowO m e) || ((s == 1) && Pl.zeroO m k e)))) := hide rfl
    go_wp2_with (first | (go_at_call 86; refine (specNow m k e _).mono ?_; rintro e9 w3 ⟨rfl, k3⟩; rw [hN]; have B3 := hide (B2.out.kept0 k3); have K3 := hide (K2.out.trans k3); have d0 := B3.out.cell (i := 0) rfl; have d1 := B3.out.cell (i := 1) rfl; have d2 := B3.out.cell (i := 2) rfl; have d3 := B3.out.cell (i := 3) rfl; have d4 := B3.out.cell (i := 4) rfl; have d5 := B3.out.cell (i := 5) rfl; have d6 := B3.out.cell (i := 6) rfl; clear k3) | (go_at_call 87; have z9 := B3; refine (specZero m k e _).mono ?_; rintro e9 w4 ⟨rfl, k4⟩; have B4 := hide (B3.out.kept0 k4); have K4 := hide (K3.out.trans k4); have f0 := B4.out.cell (i := 0) rfl; have f1 := B4.out.cell (i := 1) rfl; have f2 := B4.out.cell (i := 2) rfl; have f3 := B4.out.cell (i := 3) rfl; have f4 := B4.out.cell (i := 4) rfl; have f5 := B4.out.cell (i := 5) rfl; have f6 := B4.out.cell (i := 6) rfl; clear k4) | (go_at_call 87; refine (specZero m k e _).mono ?_; rintro e9 w4 ⟨rfl, k4⟩; have B4 := hide (B2.out.kept0 k4); have K4 := hide (K2.out.trans k4); have f0 := B4.out.cell (i := 0) rfl; have f1 := B4.out.cell (i := 1) rfl; have f2 := B4.out.cell (i := 2) rfl; have f3 := B4.out.cell (i := 3) rfl; have f4 := B4.out.cell (i := 4) rfl; have f5 := B4.out.cell (i := 5) rfl; have f6 := B4.out.cell (i := 6) rfl; clear k4))
    go_ret
    exact ⟨rB (by rw [G.out, KND.out] <;> first | rfl | (simp only [hN, h6]; done) | (simp only [hN, h6]; rfl) | simp [hN, h6]), by first | exact K4.out | exact K3.out | exact K2.out⟩
  · obtain ⟨q1, q2, q3, q4, q5, q6, q7, q8, q9, q10, q11, q12, q13, q14, q15, q16, q17, q18, q19⟩ := hno
    have KND : Hid (Pl.inKind ⟨op, 1, r, m, k, e, s⟩ = false) := hide (by simp [Pl.inKind, q1, q2, q3, q4, q5, q6, q7, q8, q9, q10, q11, q12, q13, q14, q15, q16, q17, q18, q19])
    go_wp2_with fail
    go_ret
    exact ⟨rB (by rw [G.out, KND.out]), K2.out⟩
end Go.Proofs.YtnkapmchfneolaaGreat

