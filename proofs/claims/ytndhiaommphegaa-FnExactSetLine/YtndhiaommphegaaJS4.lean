/- What the model's NewIrq, SetLine and PendingOf answer. A region that draws its order, by what holds whatever has come up so far: every order at once. A frame of which some slots alone are written: for a drawn region walked by what holds, the frame a variable. A drawn region by what holds, with what its order forbids: an operation is not done where one that it waits for is not. What the program's small functions of chapter 4 answer: addresses, parts, accesses; none writes. What the program's tests of bytes answer; none changes the world. What the program's GoodBus answers, for every bus. What the program's functions over the bytes of a bus as one array answer. What the program does to the bytes of a processor that is worked on. What the program's functions of an access answer: its code; a value laid into the bytes. What the program's functions over a board answer: a bus opened onto it and shut again. What the program's bank answers for registers, status. -/
import Derived.Test.YtndhiaommphegaaJS3
import Derived.Test.YtndhiaommphegaaJS1
import Derived.RegionTactic
import Derived.Test.YtndhiaommphegaaJS2
import Derived.Laws.CopyOwn
import Derived.Deep.WholeRow
import Derived.Deep.RegionLawGrows
import Derived.Deep.RegionHeld3
import Derived.Deep.MidRow
import Derived.Deep.QuietTactic
import Derived.BigQuiet
namespace Go.Proofs.Ytndhiaommphegaa
open Go.RowKit
set_option linter.unusedVariables false
def Pl.slOk (x : Pl.Iq) (v : Int) : Bool := Pl.iqOk x && (decide (0 ≤ v) && decide (v ≤ 7))
def Pl.slX (x : Pl.Iq) (v : Int) : Pl.Iq := bif Pl.slOk x v then Pl.iqSet x v else Pl.iqNo
set_option maxRecDepth 100000 in
set_option maxHeartbeats 4000000 in
theorem specSetLine (w : World) (x : Pl.Iq) (v : Int) (a b e q : Option Addr) (ca cb ce cq : Nat) (ha : IRow w a x.c.r.xs) (hb : IRow w b x.c.r.ys) (he : IRow w e x.c.bx) (hq : IRow w q x.c.bl) (lx : x.c.r.xs.length ≤ 2000000) (ly : x.c.r.ys.length ≤ 2000000) (lb : x.c.bx.length ≤ 2000000) (ll : x.c.bl.length = 5 * x.c.bm) (lm : x.c.bm ≤ 2000000) :
    Calls Try.prog 20 #[.agg (irA x a b e q ca cb ce cq), iv v] w fun r w' => ∃ (a' b' e' q' : Option Addr) (ca' cb' ce' cq' : Nat), r = .returned (.tuple #[.agg (irA (Pl.slX x v) a' b' e' q' ca' cb' ce' cq'), .bool (Pl.slOk x v)]) ∧ CpuIn w' w.heap.size (Pl.slX x v).c a' b' e' q' ∧ Kept 0 0 w w' := by
  have K0 := hide (kept_new (kept_alloc w (.cells (irA x a b e q ca cb ce cq) 38)) (.cells iqZ 38))
  have BA := hide ((Blk.new w (irA x a b e q ca cb ce cq) 38).alloc (.cells iqZ 38))
  have R0 := Blk.new (w.alloc (.cells (irA x a b e q ca cb ce cq) 38)) iqZ 38
  simp only [World.size_alloc] at R0
  replace R0 := hide R0
  obtain ⟨X, hX⟩ : ∃ X : World, (w.alloc (.cells (irA x a b e q ca cb ce cq) 38)).alloc (.cells iqZ 38) = X := ⟨_, rfl⟩
  rw [hX] at K0 BA R0
  have sX : w.heap.size + 1 < X.heap.size := R0.out.lt
  have HA := hide (ha.keptS K0.out)
  have HB := hide (hb.keptS K0.out)
  have HE := hide (he.keptS K0.out)
  have HQ := hide (hq.keptS K0.out)
  clear ha hb he hq
  have p := BA.out.all
  cases hs : Pl.slOk x v
  · have E : Hid (Pl.slX x v = Pl.iqNo ∧ Pl.slOk x v = false) := hide (by unfold Pl.slX; rw [hs]; exact ⟨rfl, rfl⟩)
    rcases (show Pl.iqOk x = false ∨ (Pl.iqOk x = true ∧ (decide (0 ≤ v) && decide (v ≤ 7)) = false) from by unfold Pl.slOk at hs; cases h1 : Pl.iqOk x; exact .inl rfl; rw [h1, Bool.true_and] at hs; exact .inr ⟨rfl, hs⟩) with h1 | ⟨h1, h2⟩
    all_goals
      first | (have H2 := hide h2; clear h2) | skip
      clear hs
      go_enter Try.func20, Try.ntmps20
      go_wp2_with (first | (go_at_call 17; refine (specGoodIrq _ x a b e q ca cb ce cq HA.out HB.out HE.out HQ.out lx ly lb ll lm).mono ?_; rintro e9 W1 ⟨rfl, k9⟩; rw [h1]; have K1 := hide k9; have p1 := (BA.out.kept0 k9).all; have r1 := (R0.out.kept0 k9).all; have rf1 := (R0.out.kept0 k9).fz; clear k9 p) | (go_at_call 38; refine st (l1In _ _ _ _) ?_; rw [H2.out]))
      have s1 := K1.out.size
      refine bodyPost_ret (v := .tuple #[.agg iqZ, .bool false]) ?_ rfl ⟨none, none, none, none, 0, 0, 0, 0, by rw [E.out.1]; rfl, by rw [E.out.1]; exact cpuIn_no _ _, kept_over (K0.out.trans K1.out) kept14i (by omega)⟩
      rw [results_ct rfl]; go_simp
  · have E : Hid (Pl.slX x v = Pl.iqSet x v) := hide (by unfold Pl.slX; rw [hs]; rfl)
    have h3 : Pl.iqOk x = true ∧ (decide (0 ≤ v) && decide (v ≤ 7)) = true := by unfold Pl.slOk at hs; exact Bool.and_eq_true_iff.1 hs
    have h1 := h3.1
    have H2 := hide h3.2
    have HC := hide (Pl.iq_ok h1).1
    have ES : Hid ((Pl.iqSet x v).c = x.c) := hide rfl
    clear hs h3
    go_enter Try.func20, Try.ntmps20
    go_wp2_with (first | (go_at_call 17; refine (specGoodIrq _ x a b e q ca cb ce cq HA.out HB.out HE.out HQ.out lx ly lb ll lm).mono ?_; rintro e9 W1 ⟨rfl, k9⟩; rw [h1]; have K1 := hide k9; have p1 := (BA.out.kept0 k9).all; have r1 := (R0.out.kept0 k9).all; have rf1 := (R0.out.kept0 k9).fz; clear k9 p) | (go_at_call 38; refine st (l1In _ _ _ _) ?_; rw [H2.out]) | (go_at_call 41; refine (mOwnQ _ x a b e q ca cb ce cq (HA.out.keptS K1.out) (HB.out.keptS K1.out) (HE.out.keptS K1.out) (HQ.out.keptS K1.out) HC.out ll).mono ?_; rintro e9 W2 ⟨gd, cd, ga, cA, g1, c1, g2, c2, mid, rfl, hc9, k9⟩; have C2 := hide hc9; have K2 := hide (K1.out.trans k9); have z1 := K1.out.size; clear hc9 k9 r1 rf1) | (go_at_call 40; refine (mSet _ x v _ _ _ _ _ _ _ _).mono ?_; rintro e9 W3 ⟨rfl, k9⟩; have C3 := hide (C2.out.any k9); have K3 := hide (K2.out.trans k9); have r3 := (R0.out.kept0 K3.out).all; have rf3 := (R0.out.kept0 K3.out).fz; clear k9))
    refine bodyPost_ret (v := .tuple #[.agg (irA (Pl.iqSet x v) (some ⟨gd, 0, none⟩) (some ⟨ga, 0, none⟩) (some ⟨g1, 0, none⟩) (some ⟨g2, 0, none⟩) cd cA c1 c2), .bool true]) ?_ rfl ⟨_, _, _, _, cd, cA, c1, c2, by rw [E.out], by rw [E.out, ES.out]; exact (C3.out.pstQ (lo := w.heap.size) kept14i (by omega) (by omega)).cpuIn, kept_over (K0.out.trans K3.out) kept14i (by omega)⟩
    rw [results_ct rfl]; go_simp
end Go.Proofs.Ytndhiaommphegaa

namespace Go.Proofs.Ytndhiaommphegaa
open Go.RowKit
set_option linter.unusedVariables false

/-- operation k of the region waits for operation j -/
def waitsB (md : Region.Mode) (ops : Array Oper) (i k : Nat) : Bool := ((ops[i]?).map fun o => o.after.any fun e => Region.binds md e && e.on == k).getD false
theorem ready_new {md : Region.Mode} {ops : Array Oper} {l : Array Bool} {i : Nat} (h : i ∈ Region.ready md ops l) : i < ops.size ∧ l.getD i true = false := by
  unfold Region.ready at h
  rw [List.mem_filter, Bool.and_eq_true] at h
  refine ⟨List.mem_range.1 h.1, ?_⟩
  have := h.2.1
  revert this
  cases l.getD i true <;> simp
theorem getD_true {l : Array Bool} {k : Nat} (h : l.getD k false = true) : l.getD k true = true := by
  unfold Array.getD at *
  split
  · rename_i hk; simpa [hk] using h
  · rfl
theorem ready_dep {md : Region.Mode} {ops : Array Oper} {l : Array Bool} {i : Nat} (h : i ∈ Region.ready md ops l) (k : Nat) (hk : waitsB md ops i k = true) : l.getD k true = true := by
  unfold Region.ready at h
  rw [List.mem_filter, Bool.and_eq_true] at h
  have h2 := h.2.2
  unfold waitsB at hk
  cases ho : ops[i]? with
  | none => rw [ho] at hk; simp at hk
  | some o =>
    rw [ho] at hk h2
    simp only [Option.map_some, Option.getD_some] at hk h2
    rw [Array.any_eq_true'] at hk
    obtain ⟨e, he, hb⟩ := hk
    rw [Array.all_eq_true'] at h2
    have h3 := h2 e he
    rw [Bool.and_eq_true] at hb
    rw [hb.1] at h3
    have h4 : e.on = k := by simpa using hb.2
    rw [h4] at h3
    exact getD_true (by simpa using h3)
theorem filter_lt {xs : List Nat} {p q : Nat → Bool} (hpq : ∀ x, q x = true → p x = true) {i : Nat} (hi : i ∈ xs) (hp : p i = true) (hq : q i = false) : (xs.filter q).length < (xs.filter p).length := by
  induction xs with
  | nil => cases hi
  | cons x t ih =>
    have hle : (t.filter q).length ≤ (t.filter p).length := by
      clear ih hi
      induction t with
      | nil => simp
      | cons y t ih =>
        cases h1 : q y
        · cases h2 : p y <;> simp [h1, h2] <;> omega
        · simp [h1, hpq y h1]; exact ih
    rcases List.mem_cons.1 hi with rfl | hi
    · simp [hp, hq]; omega
    · have := ih hi
      cases h1 : q x
      · cases h2 : p x <;> simp [h1, h2] <;> omega
      · simp [h1, hpq x h1]; exact this
theorem getD_set_ne {l : Array Bool} {i j : Nat} (h : j ≠ i) : (l.setIfInBounds i true).getD j true = l.getD j true := by
  simp only [Array.getD_eq_getD_getElem?]
  rw [Array.getElem?_setIfInBounds_ne (Ne.symm h)]
theorem getD_set_eq {l : Array Bool} {i : Nat} : (l.setIfInBounds i true).getD i true = true := by
  simp only [Array.getD_eq_getD_getElem?, Array.getElem?_setIfInBounds]
  split
  · split <;> rfl
  · rename_i h; exact absurd trivial h

theorem getD_mono {l : Array Bool} {i j : Nat} (h : l.getD j true = true) : (l.setIfInBounds i true).getD j true = true := by
  by_cases e : j = i
  · subst e; exact getD_set_eq
  · rw [getD_set_ne e]; exact h

theorem wpAny_inv {P : Program} {md : Region.Mode} {ops : Array Oper} {Q : Exit → Act → World → Prop} {I : Array Bool → Act → World → Prop}
    (hfin : ∀ l a w, l.size = ops.size → I l a w → Region.ready md ops l = [] → Q .normal a w)
    (hstep : ∀ l a w i, I l a w → i ∈ Region.ready md ops l → wpOp P ops Q i (I (l.setIfInBounds i true)) a w) :
    ∀ (fuel : Nat) (l : Array Bool) (a : Act) (w : World), l.size = ops.size → ((List.range ops.size).filter fun i => !l.getD i true).length ≤ fuel → I l a w → wpAny P md ops Q fuel l a w := by
  intro fuel
  induction fuel with
  | zero =>
    intro l a w hz hn hI
    have h0 : Region.ready md ops l = [] := by
      cases hr : Region.ready md ops l with
      | nil => rfl
      | cons i t =>
        exfalso
        have hi : i ∈ Region.ready md ops l := by rw [hr]; simp
        obtain ⟨h1, h2⟩ := ready_new hi
        have : i ∈ (List.range ops.size).filter fun i => !l.getD i true := List.mem_filter.2 ⟨List.mem_range.2 h1, by rw [h2]; rfl⟩
        have := List.length_pos_of_mem this
        omega
    exact ⟨h0, hfin l a w hz hI h0⟩
  | succ n ih =>
    intro l a w hz hn hI
    refine ⟨fun h0 => hfin l a w hz hI h0, fun i hi => ?_⟩
    refine wpOp_mono (fun a' w' h' => ih _ a' w' (by simp [hz]) ?_ h') (hstep l a w i hI hi)
    obtain ⟨h1, h2⟩ := ready_new hi
    have := filter_lt (xs := List.range ops.size) (p := fun j => !l.getD j true) (q := fun j => !(l.setIfInBounds i true).getD j true) (i := i) (by
      intro x hx
      by_cases e : x = i
      · subst e; rw [h2]; rfl
      · rw [getD_set_ne e] at hx; exact hx) (List.mem_range.2 h1) (by rw [h2]; rfl) (by rw [getD_set_eq]; rfl)
    omega

/-- an operation waits for earlier ones alone -/
def lowB (md : Region.Mode) (ops : Array Oper) : Bool := (List.range ops.size).all fun i => ((ops[i]?).map fun o => o.after.all fun e => !Region.binds md e || decide (e.on < i)).getD true
theorem ready_none {md : Region.Mode} {ops : Array Oper} {l : Array Bool} (hz : l.size = ops.size) (hB : lowB md ops = true) (h0 : Region.ready md ops l = []) : ∀ i, i < ops.size → l.getD i true = true := by
  intro i
  induction i using Nat.strongRecOn with
  | ind i ih =>
    intro hi
    cases hl : l.getD i true
    · exfalso
      have hm : i ∈ Region.ready md ops l := by
        unfold Region.ready
        rw [List.mem_filter, Bool.and_eq_true]
        refine ⟨List.mem_range.2 hi, by rw [hl]; rfl, ?_⟩
        have hb := List.all_eq_true.1 hB i (List.mem_range.2 hi)
        rw [Array.getElem?_eq_getElem hi] at hb ⊢
        simp only [Option.map_some, Option.getD_some] at hb ⊢
        rw [Array.all_eq_true'] at hb ⊢
        intro e he
        have h1 := hb e he
        rw [Bool.or_eq_true] at h1 ⊢
        rcases h1 with h1 | h1
        · exact .inl h1
        · have h2 : e.on < i := by simpa using h1
          have h3 := ih e.on h2 (by omega)
          refine .inr ?_
          unfold Array.getD at h3 ⊢
          split
          · rename_i hk; simpa [hk] using h3
          · rename_i hk; omega
      rw [h0] at hm
      cases hm
    · rfl
theorem wp_region_inv {P : Program} {ops : Array Oper} {Q : Exit → Act → World → Prop} {id : Nat} {a : Act} {w : World} (I : Array Bool → Act → World → Prop) (hm : P.follows .mixedOrders = true) (hB : lowB .any ops = true)
    (hstart : I (Array.replicate ops.size false) a w.drew)
    (hfin : ∀ l a w, I l a w → (∀ i, i < ops.size → l.getD i true = true) → Q .normal a w)
    (hstep : ∀ l a w i, I l a w → i ∈ Region.ready .any ops l → wpOp P ops Q i (I (l.setIfInBounds i true)) a w) :
    (Code.region id ops true).wp P Q a w := by
  refine wp_region_any hm (wpAny_inv (I := I) (fun l a w hz h h0 => hfin l a w h (ready_none hz hB h0)) hstep _ _ _ _ (by simp) ?_ hstart)
  exact Nat.le_trans (List.length_filter_le _ _) (by simp)

/-- what holds once operation i has come up -/
def Once (l : Array Bool) (i : Nat) (p : Prop) : Prop := l.getD i true = true → p
theorem Once.past {l : Array Bool} {i j : Nat} {p q : Prop} (h : Once l j p) (hn : j ≠ i) (hp : p → q) : Once (l.setIfInBounds i true) j q := fun e => hp (h (by rwa [getD_set_ne hn] at e))
theorem Once.now {l : Array Bool} {i j : Nat} {p : Prop} (h : p) : Once (l.setIfInBounds i true) j p := fun _ => h
theorem once_start {n i : Nat} {p : Prop} (hi : i < n) : Once (Array.replicate n false) i p := by
  intro e
  simp [Array.getD_eq_getD_getElem?, hi] at e
theorem start_at {n i : Nat} (hi : i < n) : (Array.replicate n false).getD i true = false := by
  simp [Array.getD_eq_getD_getElem?, hi]
end Go.Proofs.Ytndhiaommphegaa

namespace Go.Proofs.Ytndhiaommphegaa
open Go.RowKit
set_option linter.unusedVariables false

/-- the frame A is A0 but for these slots -/
structure FR (SL : List Nat) (A0 A : Act) : Prop where
  size : A.tmps.size = A0.tmps.size
  defers : A.defers = A0.defers
  out : ∀ k, k ∉ SL → A.tmps[k]? = A0.tmps[k]?
theorem FR.refl (SL : List Nat) (A : Act) : FR SL A A := ⟨rfl, rfl, fun _ _ => rfl⟩
theorem put_ne {A : Act} {j k : Nat} {v : Value} (h : k ≠ j) : (A.put (some j) v).tmps[k]? = A.tmps[k]? := by
  show (A.tmps.setIfInBounds j v)[k]? = _
  rw [Array.getElem?_setIfInBounds_ne (Ne.symm h)]
theorem put_eq {A : Act} {k : Nat} {v : Value} (h : k < A.tmps.size) : (A.put (some k) v).tmps[k]? = some v := by
  show (A.tmps.setIfInBounds k v)[k]? = _
  rw [Array.getElem?_setIfInBounds]
  simp [h]
theorem FR.put {SL : List Nat} {A0 A : Act} (h : FR SL A0 A) {k : Nat} (hk : k ∈ SL) (v : Value) : FR SL A0 (A.put (some k) v) := by
  refine ⟨?_, h.defers, fun j hj => ?_⟩
  · show (A.tmps.setIfInBounds k v).size = _
    rw [Array.size_setIfInBounds]; exact h.size
  · rw [put_ne (fun e => hj (by rw [e]; exact hk))]; exact h.out j hj
theorem act_ext {A B : Act} (hs : A.tmps.size = B.tmps.size) (hd : A.defers = B.defers) (h : ∀ k : Nat, A.tmps[k]? = B.tmps[k]?) : A = B := by
  cases A; cases B
  simp only at hs hd h
  subst hd
  congr 1
  exact Array.ext_getElem? h
theorem chain_of {A : Act} : ∀ (SL : List Nat) (B : Act), A.tmps.size = B.tmps.size → A.defers = B.defers → (∀ k, k ∉ SL → A.tmps[k]? = B.tmps[k]?) → A = SL.foldl (fun a k => a.put (some k) (A.tmps.getD k undef)) B
  | [], B, hs, hd, h => act_ext hs hd (fun k => h k (by simp))
  | k :: t, B, hs, hd, h => by
    refine chain_of t (B.put (some k) (A.tmps.getD k undef)) ?_ hd (fun j hj => ?_)
    · show _ = (B.tmps.setIfInBounds k _).size
      rw [Array.size_setIfInBounds]; exact hs
    · by_cases e : j = k
      · subst e
        by_cases hb : j < B.tmps.size
        · rw [put_eq hb]
          have : j < A.tmps.size := by omega
          rw [Array.getElem?_eq_getElem this]
          simp [Array.getD_eq_getD_getElem?, this]
        · show _ = (B.tmps.setIfInBounds j _)[j]?
          rw [Array.getElem?_eq_none (by omega), Array.getElem?_eq_none (by rw [Array.size_setIfInBounds]; omega)]
      · rw [put_ne e]
        exact h j (by simp [e, hj])
theorem FR.chain {SL : List Nat} {A0 A : Act} (h : FR SL A0 A) : A = SL.foldl (fun a k => a.put (some k) (A.tmps.getD k undef)) A0 := chain_of SL A0 h.size h.defers h.out
theorem getD_of {A : Act} {k : Nat} {v : Value} (h : A.tmps[k]? = some v) : A.tmps.getD k undef = v := by
  rw [Array.getD_eq_getD_getElem?, h]; rfl
end Go.Proofs.Ytndhiaommphegaa

namespace Go.Proofs.Ytndhiaommphegaa
open Go.RowKit
set_option linter.unusedVariables false
theorem wp_region_inv3 {P : Program} {ops : Array Oper} {Q : Exit → Act → World → Prop} {id : Nat} {a : Act} {w : World} (I : Act → Array Bool → Act → World → Prop) (hm : P.follows .mixedOrders = true) (hB : lowB .any ops = true)
    (hstart : I a (Array.replicate ops.size false) a w.drew)
    (hfin : ∀ l A w, I a l A w → (∀ i, i < ops.size → l.getD i true = true) → Q .normal A w)
    (hstep : ∀ l A w i, I a l A w → (∀ j k, j < ops.size → waitsB .any ops j k = true → l.getD k true = false → l.getD j true = false) → i ∈ Region.ready .any ops l → wpOp P ops Q i (I a (l.setIfInBounds i true)) A w) :
    (Code.region id ops true).wp P Q a w := by
  refine wp_region_inv (fun l A w => I a l A w ∧ ∀ j k, j < ops.size → waitsB .any ops j k = true → l.getD k true = false → l.getD j true = false) hm hB ⟨hstart, fun j k hj _ _ => start_at hj⟩ (fun l A w h hl => hfin l A w h.1 hl) ?_
  intro l A w i h hi
  refine wpOp_mono (fun a' w' h' => ⟨h', ?_⟩) (hstep l A w i h.1 h.2 hi)
  intro j k hj hw hk
  have hk0 : l.getD k true = false := by
    cases q : l.getD k true
    · rfl
    · rw [getD_mono q] at hk; cases hk
  by_cases e : j = i
  · subst e
    have := ready_dep hi k hw
    rw [hk0] at this; cases this
  · rw [getD_set_ne e]
    exact h.2 j k hj hw hk0
theorem Once.not {l : Array Bool} {i j : Nat} {p : Prop} (h : l.getD j true = false) (hn : j ≠ i) : Once (l.setIfInBounds i true) j p := fun e => by rw [getD_set_ne hn, h] at e; cases e
theorem wanted_of {P : Program} {o : Oper} {a : Act} {w : World} {K : Act → World → Prop} {Q : Exit → Act → World → Prop} {E : Prop} {b : Bool} (h : b = true) (g : Oper.wp P o a w K Q) : if b = true then Oper.wp P o a w K Q else E := by rw [if_pos h]; exact g
end Go.Proofs.Ytndhiaommphegaa

namespace Go.Proofs.Ytndhiaommphegaa
open Go.RowKit
set_option linter.unusedVariables false

theorem isAddress (a : Int) (w : World) : Calls Try.prog 94 #[iv a] w fun e w' => e = .returned (.bool (Pl.addr a)) ∧ w' = w := by
  by_cases h0 : 0 ≤ a
  all_goals
    by_cases h1 : a ≤ 65535
    all_goals
      go_enter Try.func94, Try.ntmps94
      go_wp2
      go_ret
      exact ⟨rB (by simp [Pl.addr, h0, h1] <;> omega), rfl⟩
theorem isAccessKind (a : Int) (w : World) : Calls Try.prog 93 #[iv a] w fun e w' => e = .returned (.bool (Pl.accKind a)) ∧ w' = w := by
  by_cases h0 : 1 ≤ a
  all_goals
    by_cases h1 : a ≤ 3
    all_goals
      go_enter Try.func93, Try.ntmps93
      go_wp2
      go_ret
      exact ⟨rB (by simp [Pl.accKind, h0, h1] <;> omega), rfl⟩
namespace Pl
def isAcc (k s a v c : Int) : Bool := okv s v && (accKind k && (addr a && (decide (0 ≤ c) && decide (c ≤ 3))))
theorem accOk_isAcc (k s a v c : Int) : accOk k s a v c = (isAcc k s a v c && !((k == 3) && (c == 0))) := by
  unfold accOk isAcc
  rw [Bool.eq_iff_iff]
  simp only [Bool.and_eq_true, Bool.or_eq_true, Bool.not_eq_true', decide_eq_true_eq, bne_iff_ne, ne_eq, Bool.and_eq_false_iff, beq_eq_false_iff_ne]
  constructor
  · rintro ⟨a1, a2, a3, a4, a5⟩; exact ⟨⟨a2, a1, a3, a4⟩, a5⟩
  · rintro ⟨⟨a2, a1, a3, a4⟩, a5⟩; exact ⟨a1, a2, a3, a4, a5⟩
end Pl
theorem isAccess (k s a v c : Int) (w : World) (lo : -9223372036854775808 ≤ v) (hi : v ≤ 9223372036854775807) : Calls Try.prog 85 #[.agg #[iv k, iv s, iv a, iv v, iv c]] w fun e w' => e = .returned (.bool (Pl.isAcc k s a v c)) ∧ ∃ o, w' = w.alloc o := by
  cases h1 : Pl.okv s v
  · go_enter Try.func85, Try.ntmps85
    go_wp2_with (first | (go_at_call 83; refine (signedOf _ _ _ lo hi).mono ?_; rintro e w' ⟨rfl, rfl⟩; rw [h1]) | (go_at_call 93; refine (isAccessKind _ _).mono ?_; rintro e w' ⟨rfl, rfl⟩) | (go_at_call 94; refine (isAddress _ _).mono ?_; rintro e w' ⟨rfl, rfl⟩))
    go_ret
    exact ⟨rB (by unfold Pl.isAcc; rw [h1]; rfl), _, rfl⟩
  · cases h2 : Pl.accKind k
    · go_enter Try.func85, Try.ntmps85
      go_wp2_with (first | (go_at_call 83; refine (signedOf _ _ _ lo hi).mono ?_; rintro e w' ⟨rfl, rfl⟩; rw [h1]) | (go_at_call 93; refine (isAccessKind _ _).mono ?_; rintro e w' ⟨rfl, rfl⟩; rw [h2]) | (go_at_call 94; refine (isAddress _ _).mono ?_; rintro e w' ⟨rfl, rfl⟩))
      go_ret
      exact ⟨rB (by unfold Pl.isAcc; rw [h1, h2]; rfl), _, rfl⟩
    · cases h3 : Pl.addr a
      · go_enter Try.func85, Try.ntmps85
        go_wp2_with (first | (go_at_call 83; refine (signedOf _ _ _ lo hi).mono ?_; rintro e w' ⟨rfl, rfl⟩; rw [h1]) | (go_at_call 93; refine (isAccessKind _ _).mono ?_; rintro e w' ⟨rfl, rfl⟩; rw [h2]) | (go_at_call 94; refine (isAddress _ _).mono ?_; rintro e w' ⟨rfl, rfl⟩; rw [h3]))
        go_ret
        exact ⟨rB (by unfold Pl.isAcc; rw [h1, h2, h3]; rfl), _, rfl⟩
      · cases h4 : decide (0 ≤ c)
        all_goals
          cases h5 : decide (c ≤ 3)
          all_goals
            go_enter Try.func85, Try.ntmps85
            go_wp2_with (first | (go_at_call 83; refine (signedOf _ _ _ lo hi).mono ?_; rintro e w' ⟨rfl, rfl⟩; rw [h1]) | (go_at_call 93; refine (isAccessKind _ _).mono ?_; rintro e w' ⟨rfl, rfl⟩; rw [h2]) | (go_at_call 94; refine (isAddress _ _).mono ?_; rintro e w' ⟨rfl, rfl⟩; rw [h3]))
            go_ret
            exact ⟨rB (by unfold Pl.isAcc; rw [h1, h2, h3, h4, h5]; rfl), _, rfl⟩
theorem isLogged (k s a v c : Int) (w : World) (lo : -9223372036854775808 ≤ v) (hi : v ≤ 9223372036854775807) : Calls Try.prog 73 #[.agg #[iv k, iv s, iv a, iv v, iv c]] w fun e w' => e = .returned (.bool (Pl.accOk k s a v c)) ∧ ∃ o p, w' = (w.alloc o).alloc p := by
  cases h1 : Pl.isAcc k s a v c
  · go_enter Try.func73, Try.ntmps73
    go_wp2_with (go_at_call 85; refine (isAccess _ _ _ _ _ _ lo hi).mono ?_; rintro e w' ⟨rfl, o, rfl⟩; rw [h1])
    go_ret
    exact ⟨rB (by rw [Pl.accOk_isAcc, h1]; rfl), _, _, rfl⟩
  · cases h2 : (k == 3)
    · go_enter Try.func73, Try.ntmps73
      go_wp2_with (go_at_call 85; refine (isAccess _ _ _ _ _ _ lo hi).mono ?_; rintro e w' ⟨rfl, o, rfl⟩; rw [h1])
      go_ret
      exact ⟨rB (by rw [Pl.accOk_isAcc, h1, h2]; rfl), _, _, rfl⟩
    · cases h3 : (c == 0)
      all_goals
        go_enter Try.func73, Try.ntmps73
        go_wp2_with (go_at_call 85; refine (isAccess _ _ _ _ _ _ lo hi).mono ?_; rintro e w' ⟨rfl, o, rfl⟩; rw [h1])
        go_ret
        exact ⟨rB (by rw [Pl.accOk_isAcc, h1, h2, h3]; rfl), _, _, rfl⟩
end Go.Proofs.Ytndhiaommphegaa

namespace Go.Proofs.Ytndhiaommphegaa
open Go.RowKit
set_option linter.unusedVariables false

theorem okv1 (v : Int) : Pl.okv 1 v = Pl.byteOk v := by
  unfold Pl.okv Pl.byteOk Pl.top
  rw [Bool.eq_iff_iff]; simp; omega
theorem isByte (v : Int) (w : World) (lo : -9223372036854775808 ≤ v) (hi : v ≤ 9223372036854775807) :
    Calls Try.prog 84 #[iv v] w fun e w' => e = .returned (.bool (Pl.byteOk v)) ∧ w' = w := by
  go_enter Try.func84, Try.ntmps84
  go_wp2_with (go_at_call 83; refine (signedOf _ _ _ lo hi).mono ?_; rintro e w' ⟨rfl, hw⟩; have hw2 := hw.symm; clear hw; subst hw2; rw [okv1])
  go_ret
  exact ⟨rfl, rfl⟩
theorem areBytes (w : World) (a : Option Addr) (ca : Nat) (xs : List Int) (ha : Came w a xs) (lx : xs.length ≤ 2000000) :
    Calls Try.prog 72 #[.slice a xs.length ca] w fun e w' => e = .returned (.bool (Pl.bytesOk xs)) ∧ w' = w := by
  have HA := hide ha
  clear ha
  go_enter Try.func72, Try.ntmps72
  go_wp2
  go_loop [4, 7] (fun _ j => ∃ k : Nat, k ≤ xs.length ∧ j = iv k ∧ ∀ i, i < k → Pl.byteOk (el xs i) = true) (fun _ j => xs.length - (intOf j).toNat)
  case atStart => exact ⟨0, Nat.zero_le _, rfl, fun i hi => absurd hi (Nat.not_lt_zero i)⟩
  case round =>
    obtain ⟨k, hk, rfl, heq⟩ := hrel
    have HE := hide heq
    clear heq
    by_cases hlt : k < xs.length
    · obtain ⟨g1, o1, rfl, hc1⟩ := HA.out.1 k hlt
      obtain ⟨lo, hi⟩ := HA.out.2 k hlt
      rw [show xs[k]?.getD 0 = el xs k from rfl] at hc1 lo hi
      cases hb : Pl.byteOk (el xs k)
      · go_wp2_with (go_at_call 84; refine (isByte _ _ lo hi).mono ?_; rintro e w' ⟨rfl, rfl⟩; rw [hb])
        go_ret
        exact ⟨rB (Pl.bytesOk_no hlt hb).symm, rfl⟩
      · go_wp2_with (go_at_call 84; refine (isByte _ _ lo hi).mono ?_; rintro e w' ⟨rfl, rfl⟩; rw [hb])
        go_round
        case rel => exact ⟨k + 1, by omega, by go_num, snoc_all HE.out hb⟩
        case measure => simp [intOf]; omega
    · go_wp2
      go_ret
      exact ⟨rB (Pl.bytesOk_of (fun i hi => HE.out i (by omega))).symm, rfl⟩
end Go.Proofs.Ytndhiaommphegaa

namespace Go.Proofs.Ytndhiaommphegaa
open Go.RowKit
set_option linter.unusedVariables false

theorem Wide.at5 {ys : List Int} (h : Wide ys) {m k : Nat} (hl : ys.length = 5 * m) (hk : k < m) : -9223372036854775808 ≤ el ys (k * 5 + 3) ∧ el ys (k * 5 + 3) ≤ 9223372036854775807 := h (k * 5 + 3) (by omega)

theorem goodBus (w : World) (a b : Option Addr) (ca cb m : Nat) (xs ys : List Int) (ha : Came w a xs) (hb : Came w b ys) (lx : xs.length ≤ 2000000) (ly : ys.length = 5 * m) (bm : m ≤ 2000000) :
    Calls Try.prog 54 #[.agg #[.slice a xs.length ca, .slice b m cb]] w fun e w' => e = .returned (.bool (Pl.goodBus xs ys m)) ∧ Kept 0 0 w w' := by
  have HA := hide ha
  have HB := hide hb
  have HY := hide ly
  have HK0 := hide (kept_alloc w (.cells #[.slice a xs.length ca, .slice b m cb] 34))
  clear ha hb ly
  cases h1 : ((xs.length : Int) != 512)
  · have hl5 : xs.length = 512 := by simp at h1; omega
    have G : Hid (Pl.goodBus xs ys m = (Pl.accsOk ys m && (Pl.bytesOk xs && decide (m ≤ 400)))) := hide (by
      unfold Pl.goodBus
      rw [show decide (xs.length = 512) = true from by simp [hl5], Bool.true_and])
    clear hl5
    cases h2 : Pl.bytesOk xs
    · go_enter Try.func54, Try.ntmps54
      go_wp2_with (go_at_call 72; refine (areBytes _ a ca xs (HA.out.keptS HK0.out) lx).mono ?_; rintro e w' ⟨rfl, rfl⟩; rw [h2])
      go_ret
      exact ⟨rB (by rw [G.out, h2, Bool.false_and, Bool.and_false]), HK0.out⟩
    · cases h3 : decide ((400 : Int) < (m : Int))
      · go_enter Try.func54, Try.ntmps54
        go_wp2_with (first | (go_at_call 72; refine (areBytes _ a ca xs (HA.out.keptS HK0.out) lx).mono ?_; rintro e w' ⟨rfl, rfl⟩; rw [h2]) | fail)
        obtain ⟨W, hW⟩ : ∃ W : World, W = w.alloc (.cells #[.slice a xs.length ca, .slice b m cb] 34) := ⟨_, rfl⟩
        rw [← hW] at HK0 ⊢
        clear hW
        go_loopw [4, 24] (fun _ j wr => ∃ k : Nat, k ≤ m ∧ j = iv k ∧ (∀ i, i < k → Pl.accAt ys i = true) ∧ Kept 0 0 W wr) (fun _ j _ => m - (intOf j).toNat)
        case atStart => exact ⟨0, Nat.zero_le _, rfl, fun i hi => absurd hi (Nat.not_lt_zero i), Kept.refl _ _ _⟩
        case round =>
          obtain ⟨k, hk, rfl, heq, hkept⟩ := hrel
          have HE := hide heq
          have HK := hide hkept
          clear heq hkept
          by_cases hlt : k < m
          · obtain ⟨lo, hi⟩ := HB.out.2.at5 HY.out hlt
            obtain ⟨g1, o1, rfl, p0, p1, p2, p3, p4⟩ := ((HB.out.keptS (HK0.out.trans HK.out)).1).five HY.out hlt
            cases hb : Pl.accAt ys k
            · have hb2 : Pl.accOk (el ys (k * 5)) (el ys (k * 5 + 1)) (el ys (k * 5 + 2)) (el ys (k * 5 + 3)) (el ys (k * 5 + 4)) = false := hb
              clear hb
              go_wp2_with (go_at_call 73; refine (isLogged _ _ _ _ _ _ lo hi).mono ?_; rintro e w' ⟨rfl, o, p, rfl⟩; rw [hb2])
              go_ret
              exact ⟨rB (by unfold Pl.goodBus; rw [Pl.accsOk_no hlt hb2]; rfl), HK0.out.trans (kept_new (kept_new (kept_new HK.out _) _) _)⟩
            · have hb2 : Pl.accOk (el ys (k * 5)) (el ys (k * 5 + 1)) (el ys (k * 5 + 2)) (el ys (k * 5 + 3)) (el ys (k * 5 + 4)) = true := hb
              clear hb
              go_wp2_with (go_at_call 73; refine (isLogged _ _ _ _ _ _ lo hi).mono ?_; rintro e w' ⟨rfl, o, p, rfl⟩; rw [hb2])
              go_roundw
              case rel => exact ⟨k + 1, by omega, by go_num, snoc_all HE.out hb2, kept_new (kept_new (kept_new HK.out _) _) _⟩
              case measure => simp [intOf]; omega
          · have HA1 : Hid (Pl.accsOk ys m = true) := hide (Pl.accsOk_of (fun i hi => HE.out i (by omega)))
            go_wp2_with fail
            go_ret
            refine ⟨rB ?_, HK0.out.trans HK.out⟩
            rw [G.out, HA1.out, h2]
            simp at h3
            simp; omega
      · go_enter Try.func54, Try.ntmps54
        go_wp2_with (go_at_call 72; refine (areBytes _ a ca xs (HA.out.keptS HK0.out) lx).mono ?_; rintro e w' ⟨rfl, rfl⟩; rw [h2])
        go_ret
        refine ⟨rB ?_, HK0.out⟩
        rw [G.out]
        simp at h3
        rw [show decide (m ≤ 400) = false from by simp; omega]
        simp
  · have hl5 : Hid (¬ xs.length = 512) := hide (by simp at h1; omega)
    go_enter Try.func54, Try.ntmps54
    go_wp2_with (go_at_call 72; fail)
    go_ret
    refine ⟨rB ?_, HK0.out⟩
    unfold Pl.goodBus
    rw [show decide (xs.length = 512) = false from by simp [hl5.out]]
    simp
end Go.Proofs.Ytndhiaommphegaa

namespace Go.Proofs.Ytndhiaommphegaa
open Go.RowKit
set_option linter.unusedVariables false

def zeros : List Int := List.replicate 512 0
theorem zeros_len : zeros.length = 512 := List.length_replicate ..
theorem Try.infoMem : (Try.prog.info? 89).map (fun i => (i.zero, i.size)) = some (some (.agg (cellsOf zeros)), 512) := by kernel_rfl
theorem Try.memZero : ∀ w, (zeroValue 89).run Try.prog w = .ok (.agg (cellsOf zeros)) w := (zero_of_info Try.infoMem).1
theorem Try.memSize : (Try.prog.info? 89).map (·.size) = some 512 := (zero_of_info Try.infoMem).2
set_option maxHeartbeats 4000000 in
theorem memoryOf (w : World) (a b : Option Addr) (ca cb m : Nat) (xs : List Int) (ha : IRow w a xs) (lx : xs.length = 512) :
    Calls Try.prog 86 #[.agg #[.slice a xs.length ca, .slice b m cb]] w fun e w' => e = .returned (.agg (cellsOf xs)) ∧ Kept 0 0 w w' := by
  obtain ⟨ga, oa, rfl, _⟩ := ha 0 (by omega)
  have HA := hide ha
  have HX := hide lx
  clear ha lx
  have mz := Try.memZero
  have HS : Hid ((Try.prog.info? 3).map (·.size) = some 1) := hide (by kernel_rfl)
  go_enter Try.func86, Try.ntmps86
  go_wp2_with fail
  have K := hide (kept_new (kept_new (kept_alloc w (.cells #[.slice (some ⟨ga, oa, none⟩) xs.length ca, .slice b m cb] 34)) (.cells (cellsOf zeros) 89)) (.cells (cellsOf zeros) 89))
  have B0 := (((Blk.new w #[.slice (some ⟨ga, oa, none⟩) xs.length ca, .slice b m cb] 34).alloc (.cells (cellsOf zeros) 89)).alloc (.cells (cellsOf zeros) 89))
  have B1 := ((Blk.new (w.alloc (.cells #[.slice (some ⟨ga, oa, none⟩) xs.length ca, .slice b m cb] 34)) (cellsOf zeros) 89).alloc (.cells (cellsOf zeros) 89))
  have B2 := Blk.new ((w.alloc (.cells #[.slice (some ⟨ga, oa, none⟩) xs.length ca, .slice b m cb] 34)).alloc (.cells (cellsOf zeros) 89)) (cellsOf zeros) 89
  simp only [World.size_alloc] at B1 B2
  obtain ⟨W, hW⟩ : ∃ W : World, W = (((w.alloc (.cells #[.slice (some ⟨ga, oa, none⟩) xs.length ca, .slice b m cb] 34)).alloc (.cells (cellsOf zeros) 89)).alloc (.cells (cellsOf zeros) 89)) := ⟨_, rfl⟩
  rw [← hW] at K B0 B1 B2 ⊢
  clear hW
  have p0 := B0.cell (i := 0) rfl
  have H1 := hide B1
  have H2 := hide B2
  clear B0 B1 B2
  have HZ : Hid ((Try.prog.info? 89).map (·.size) = some (cellsOf xs).size) := hide (by rw [cellsOf_size, HX.out]; exact Try.memSize)
  have HZ2 : Hid ((cellsOf zeros).size = (cellsOf xs).size) := hide (by rw [cellsOf_size, cellsOf_size, HX.out, zeros_len])
  have HN : Hid ((xs.map (Value.int .i64)).length = Nat.min xs.length 512) := hide (by rw [HX.out]; simp [HX.out])
  have HF : Hid (0 + (xs.map (Value.int .i64)).length ≤ (zeros.map (Value.int .i64)).length) := hide (by simp [HX.out, zeros_len])
  go_region_law (refine step_copy_splice rfl (.tmp 4) (.tmp 6) 22 22 rfl 3 Try.underlying22 HS.out _ _ _ _ _ _ rfl rfl (w.heap.size + 1 + 1) 0 (zeros.map (Value.int .i64)) 89 ?hg (xs.map (Value.int .i64)) HN.out ?hpos HF.out news_one (w.heap.size + 1 + 1) W ?hb (Nat.le_refl _) ?_
                 (case hg => exact H2.out)
                 (case hb => exact (Below.refl _ W).drew)
                 (case hpos => intro _; exact ⟨rfl, _, rfl, news_of (HA.out.keptS (kept_drew K.out))⟩)
                 intro w4 hg4 hb4)
  all_goals
    have D2 : Hid (Blk w4 (w.heap.size + 1 + 1) (cellsOf xs) 89) := hide (by
      have h := hg4.out
      rw [splice_all (by simp [HX.out, zeros_len])] at h
      exact h)
    have D1 : Hid (Blk w4 (w.heap.size + 1) (cellsOf zeros) 89) := hide ((hb4.block _ (by omega)).trans H1.out)
    have K4 : Hid (Kept 0 0 w w4) := hide (kept_lower K.out hb4 (by omega))
    clear hg4 hb4
    go_wp2_with (first | (refine wpList_load_row rfl 89 (.tmp 3) rfl (w.heap.size + 1 + 1) rfl 89 (cellsOf xs) (0, 0) _ D2.out Try.underlying89 rfl HZ.out ?_) | (refine wpList_store_row rfl 89 (.tmp 2) (.tmp 8) rfl (w.heap.size + 1) (cellsOf xs) rfl rfl 89 (cellsOf zeros) D1.out HZ.out HZ2.out (cellsOf_one xs) ?_))
    refine bodyPost_ret (v := .agg (cellsOf xs)) ?_ rfl ⟨rfl, kept_setRow K4.out _ _ (by omega)⟩
    exact results_cell_row rfl _ _ _ _ _ (0, 0) _ rfl D1.out.setRow Try.underlying89 rfl HZ.out

set_option maxHeartbeats 4000000 in
theorem memList (w : World) (xs : List Int) (lx : xs.length = 512) :
    Calls Try.prog 88 #[.agg (cellsOf xs)] w fun e w' => ∃ g : Nat, e = .returned (.slice (some ⟨g, 0, none⟩) 512 512) ∧ Blk w' g (cellsOf xs) 3 ∧ w.heap.size ≤ g ∧ Kept 0 0 w w' := by
  obtain ⟨i, hi, hz0, hz1, hz2⟩ := info_parts Try.info3
  have HS : Hid ((Try.prog.info? 3).map (·.size) = some 1) := hide (by kernel_rfl)
  have HX := hide lx
  clear lx
  go_enter Try.func88, Try.ntmps88
  go_wp2_with (first | (at_make; refine wpList_make_full _ rfl _ _ 22 rfl w.heap.size 3 i (iv 0) 1 Try.underlying22 hi hz0 hz1 _ _ _ _ 512 rfl rfl rfl rfl ?c1 ?c2 ?c3 ?_))
  case c1 => rw [hz2]; decide
  case c2 => unfold maxLen; decide
  case c3 => simp
  intro w1 hown hg
  have K1 := hide ((kept_alloc w (.cells (cellsOf xs) 89)).trans (kept_grown hg))
  have B0 := hide ((Blk.new w (cellsOf xs) 89).kept0 (kept_grown hg))
  have B1 : Hid (Blk w1 (w.heap.size + 1) (cellsOf zeros) 3) := hide (by
    have h := blk_of_row hown
    have e : (madeCells #[Value.int .i64 0] 512).toList = zeros.map (Value.int .i64) := by
      rw [toList_madeCells_one, zeros, List.map_replicate]
    rw [e] at h
    exact h)
  clear hown hg
  have HR : Hid (IRow w1 (some ⟨w.heap.size, 0, none⟩) xs) := hide (own_of_blk B0.out).row
  have hcopy : (Builtin.copy_ #[22, 22] 3 #[.slice (some ⟨w.heap.size + 1, 0, none⟩) 512 512, .slice (some ⟨w.heap.size, 0, none⟩) 512 512]).run Try.prog w1 = .ok (iv 512) (w1.setRow (w.heap.size + 1) (cellsOf xs)) := by
    have h := run_copy_row Try.prog w1 22 22 3 3 (w.heap.size + 1) 0 512 512 ⟨w.heap.size, 0, none⟩ 512 512 (cellsOf zeros) 3 (xs.map (Value.int .i64)) Try.underlying22 HS.out B1.out (by simp [HX.out]) (news_of HR.out) (by simp [HX.out, cellsOf_size, zeros_len]) news_one
    rw [h]
    have e : (List.take 0 (cellsOf zeros).toList ++ xs.map (Value.int .i64) ++ List.drop (0 + (xs.map (Value.int .i64)).length) (cellsOf zeros).toList) = xs.map (Value.int .i64) := by
      rw [List.drop_eq_nil_of_le (by simp [HX.out, cellsOf_size, zeros_len])]; simp
    rw [e, show (xs.map (Value.int .i64)).length = 512 by simp [HX.out]]
    rfl
  go_wp2_with fail
  have hl := B1.out.lt
  refine bodyPost_ret (results_tmp rfl _ _ _) rfl ⟨w.heap.size + 1, rfl, B1.out.setRow, by omega, kept_setRow K1.out _ _ (by omega)⟩

end Go.Proofs.Ytndhiaommphegaa

namespace Go.Proofs.Ytndhiaommphegaa
open Go.RowKit
set_option linter.unusedVariables false
theorem corS {w : World} {b : Nat} {r : Pl.Rg} {st : Bool} {ha : Hl} {xs : List Int} {u : Value} {ty : TypeId} (h : Blk w b (cor r xs u st ha) ty) (lx : xs.length = 512) : w.rangeAt b 14 (xs.map (Value.int .i64)) ∧ w.cell? ⟨b, 526, none⟩ = some u := by
  refine ⟨?_, h.cell (cor_log lx)⟩
  intro j v hv
  have hj : j < xs.length := by
    rcases Nat.lt_or_ge j xs.length with h' | h'
    · exact h'
    · rw [List.getElem?_eq_none (by simpa using h')] at hv; cases hv
  refine h.cell ?_
  rw [cor_at hj]
  simpa [el, hj] using hv
end Go.Proofs.Ytndhiaommphegaa

namespace Go.Proofs.Ytndhiaommphegaa
open Go.RowKit
set_option linter.unusedVariables false

/-- a board's cells: 512 bytes and the log -/
def brd (xs : List Int) (u : Value) : Array Value := (cellsOf xs).push u
theorem brd_at {xs : List Int} {u : Value} {i : Nat} (hi : i < xs.length) : (brd xs u)[i]? = some (iv (el xs i)) := by
  simp [brd, cellsOf, el, hi]
  rw [List.getElem?_append_left (by simpa using hi)]
  simp [hi]
theorem brd_log {xs : List Int} {u : Value} (hl : xs.length = 512) : (brd xs u)[512]? = some u := by
  simp [brd, cellsOf, hl]
end Go.Proofs.Ytndhiaommphegaa

namespace Go.Proofs.Ytndhiaommphegaa
open Go.RowKit
set_option linter.unusedVariables false

theorem fold_set (off : Nat) : ∀ (l : List Value) (k : Nat) (A : Array Value) (i : Nat), off + k + l.length ≤ A.size →
    ((l.zipIdx k).foldl (fun a (x : Value × Nat) => a.setIfInBounds (off + x.2) x.1) A)[i]? = if off + k ≤ i ∧ i < off + k + l.length then l[i - (off + k)]? else A[i]?
  | [], k, A, i, h => by
    simp only [List.zipIdx_nil, List.foldl_nil, List.length_nil]
    rw [if_neg (by omega)]
  | v :: r, k, A, i, h => by
    simp only [List.length_cons] at h
    simp only [List.zipIdx_cons, List.foldl_cons, List.length_cons]
    rw [fold_set off r (k + 1) _ i (by simp; omega)]
    by_cases h1 : off + (k + 1) ≤ i ∧ i < off + (k + 1) + r.length
    · rw [if_pos h1, if_pos (by omega), show i - (off + k) = (i - (off + (k + 1))) + 1 by omega, List.getElem?_cons_succ]
    · rw [if_neg h1, Array.getElem?_setIfInBounds]
      by_cases h2 : off + k = i
      · rw [if_pos h2, if_pos (by omega), if_pos (by omega), show i - (off + k) = 0 by omega]; rfl
      · rw [if_neg h2, if_neg (by omega)]
theorem Try.infoBoard : (Try.prog.info? 91).map (fun i => (i.zero, i.size)) = some (some (.agg (brd zeros (.slice none 0 0))), 513) := by kernel_rfl
theorem Try.boardZero : ∀ w, (zeroValue 91).run Try.prog w = .ok (.agg (brd zeros (.slice none 0 0))) w := (zero_of_info Try.infoBoard).1
theorem Try.boardSize : (Try.prog.info? 91).map (·.size) = some 513 := (zero_of_info Try.infoBoard).2
theorem brd_size (xs : List Int) (u : Value) : (brd xs u).size = xs.length + 1 := by simp [brd, cellsOf]
theorem fold_size (off : Nat) : ∀ (l : List (Value × Nat)) (A : Array Value), (l.foldl (fun a (x : Value × Nat) => a.setIfInBounds (off + x.2) x.1) A).size = A.size
  | [], A => rfl
  | v :: r, A => by rw [List.foldl_cons, fold_size off r]; simp
/-- what 'fill' lays, of a part that fits -/
def laid (off : Nat) (cs A : Array Value) : Array Value := cs.zipIdx.foldl (fun a (x : Value × Nat) => a.setIfInBounds (off + x.2) x.1) A
theorem laid_size (off : Nat) (cs A : Array Value) : (laid off cs A).size = A.size := by
  unfold laid
  rw [← Array.foldl_toList]
  exact fold_size off _ A
theorem laid_at (off : Nat) (cs A : Array Value) (h : off + cs.size ≤ A.size) (i : Nat) : (laid off cs A)[i]? = if off ≤ i ∧ i < off + cs.size then cs[i - off]? else A[i]? := by
  unfold laid
  rw [← Array.foldl_toList, Array.toList_zipIdx]
  have := fold_set off cs.toList 0 A i (by simpa using h)
  simpa using this
theorem fill_two (cs A : Array Value) (u : Value) (hu : u.cells = #[u]) (hc : cs.size = 512) (hA : A.size = 513) :
    Instr.fill (#[(0, 512), (512, 1)][·]?) A [(0, .agg cs), (1, u)] = some (laid 512 #[u] (laid 0 cs A)) := by
  have h1 : ((laid 0 cs A)).size = 513 := by rw [laid_size, hA]
  have e1 : cs.zipIdx.foldl (fun a (x : Value × Nat) => a.setIfInBounds (0 + x.2) x.1) A = laid 0 cs A := rfl
  unfold Instr.fill
  simp only [Value.cells, List.getElem?_toArray, List.getElem?_cons_zero]
  rw [if_neg (by simp [hc, hA])]
  rw [e1]
  unfold Instr.fill
  simp only [hu, List.getElem?_cons_succ, List.getElem?_cons_zero]
  rw [if_neg (by simp [h1])]
  unfold Instr.fill
  rfl
theorem brd_one (xs : List Int) (u : Value) (h : u.oneCell' = true) : (brd xs u).all (·.oneCell') = true := by
  rw [Array.all_eq_true_iff_forall_mem]
  intro v hv
  simp only [brd, Array.mem_push] at hv
  rcases hv with hv | rfl
  · exact Array.all_eq_true_iff_forall_mem.1 (cellsOf_one xs) v hv
  · exact h
theorem build_two {P : Program} {ops : Array Oper} {rest : List Oper} {o : Oper} {a : Act} {w : World} {Q : Exit → Act → World → Prop} (hg : o.guard = none) (t : TypeId) (x y : Operand) (ho : o.op = .build t #[(0, x), (1, y)])
    (v u : Value) (hx : a.eval x = v) (hy : a.eval y = u) (cells : Array Value) (hf : P.built t [(0, v), (1, u)] = some cells)
    (h : wpList P ops Q rest (a.put o.dst (.agg cells)) w) : wpList P ops Q (o :: rest) a w := by
  have e : P.built t (#[(0, x), (1, y)].map fun (p : Nat × Operand) => (p.1, a.eval p.2)).toList = some cells := by
    simp [hx, hy, hf]
  refine wpList_build hg t #[(0, x), (1, y)] ho (by rw [e]; rfl) ?_
  rw [e]
  exact h
theorem boardBuilt (xs : List Int) (b : Option Addr) (n c : Nat) (lx : xs.length = 512) :
    Try.prog.built 91 [(0, .agg (cellsOf xs)), (1, .slice b n c)] = some (brd xs (.slice b n c)) := by
  have hp : (match Try.prog.underlying 91 with | some (.struct fields) => fields.toList.mapM (fun f => (Try.prog.info? f.type).map fun i => (f.offset, i.size)) | _ => none) = some [(0, 512), (512, 1)] := by kernel_rfl
  have e : Try.prog.built 91 [(0, .agg (cellsOf xs)), (1, .slice b n c)] = Instr.fill (#[(0, 512), (512, 1)][·]?) (brd zeros (.slice none 0 0)) [(0, .agg (cellsOf xs)), (1, .slice b n c)] := by
    have hi := Try.infoBoard
    unfold Program.built
    cases h1 : Try.prog.info? 91 with
    | none => rw [h1] at hi; cases hi
    | some it =>
      rw [h1] at hi
      have hz : it.zero = some (.agg (brd zeros (.slice none 0 0))) := congrArg (fun o => (o.map Prod.fst).getD none) hi
      cases h2 : Try.prog.underlying 91 with
      | none => rw [h2] at hp; cases hp
      | some d =>
        rw [h2] at hp
        cases d
        case struct fields =>
          have hp' : fields.toList.mapM (fun f => (Try.prog.info? f.type).map fun i => (f.offset, i.size)) = some [(0, 512), (512, 1)] := hp
          simp only [hz, hp']
          rfl
        all_goals cases hp
  rw [e, fill_two (cellsOf xs) (brd zeros (.slice none 0 0)) (.slice b n c) rfl (by rw [cellsOf_size, lx]) (by rw [brd_size, zeros_len])]
  refine congrArg some ?_
  apply Array.ext_getElem?
  intro i
  rw [laid_at 512 #[.slice b n c] _ (by rw [laid_size, brd_size, zeros_len]; simp), laid_at 0 _ _ (by rw [brd_size, zeros_len, cellsOf_size, lx]; decide), cellsOf_size, lx]
  simp only [brd, Array.getElem?_push, cellsOf_size, lx]
  by_cases h : i < 512
  · rw [if_neg (by simp; omega), if_pos (by omega), if_neg (by omega)]
    rfl
  · by_cases h2 : i = 512
    · subst h2
      rfl
    · have h3 : ¬ i < 513 := by omega
      rw [if_neg (by simp; omega), if_neg (by omega)]
      simp only [zeros_len]
      rw [if_neg h2, if_neg h2]
      rw [Array.getElem?_eq_none (by rw [cellsOf_size, zeros_len]; omega), Array.getElem?_eq_none (by rw [cellsOf_size, lx]; omega)]

/-- a row of accesses copied into a block as long -/
theorem copy5_at (W : World) (g m sCap : Nat) (sp : Option Addr) (ys : List Int) (cur : List Value) (t : TypeId) (hB : Blk W g cur.toArray t) (hr : IRow W sp ys) (hl : ys.length = 5 * m) (hc : cur.length = 5 * m) :
    ∃ W', (Builtin.copy_ #[32, 32] 3 #[.slice (some ⟨g, 0, none⟩) m m, .slice sp m sCap]).run Try.prog W = .ok (iv m) W' ∧ Blk W' g (cellsOf ys) t ∧ Kept g (g + 1) W W' := by
  obtain ⟨i, hi, hz0, hz1, hz2⟩ := info_parts Try.infoAcc
  have hmin : Nat.min m m = m := Nat.min_self m
  by_cases h0 : m = 0
  · subst h0
    obtain rfl : ys = [] := List.eq_nil_of_length_eq_zero (by omega)
    obtain rfl : cur = [] := List.eq_nil_of_length_eq_zero (by omega)
    refine ⟨W, ?_, hB, Kept.refl _ _ _⟩
    have hl0 : ∀ (x : Addr), (loadCells x 0).run Try.prog W = .ok #[] W := fun x => by simpa using run_loadCells_list (P := Try.prog) W x [] (by simp)
    cases sp <;> simp [Builtin.copy_, run_underlying Try.underlying32, Builtin.lenOf, Builtin.firstCells, sizeOf, typeInfo, hi, storeCells, hl0] <;> rfl
  · obtain ⟨ga, oa, rfl, _⟩ := hr 0 (by omega)
    have hld := run_loadCells_list (P := Try.prog) W ⟨ga, oa, none⟩ (ys.map (Value.int .i64)) (news_of hr)
    have hst := run_storeCells_at Try.prog g 0 t (ys.map (Value.int .i64)) 0 cur.toArray W hB (by simp [hl, hc]) news_one
    have e5 : (ys.map (Value.int .i64)).length = m * 5 := by rw [List.length_map, hl]; omega
    rw [e5] at hld
    have e : (List.take (0 + 0) cur.toArray.toList ++ ys.map (Value.int .i64) ++ List.drop (0 + 0 + (ys.map (Value.int .i64)).length) cur.toArray.toList) = ys.map (Value.int .i64) := by
      rw [List.drop_eq_nil_of_le (by simp [hl, hc])]; simp
    rw [e] at hst
    refine ⟨W.setRow g (cellsOf ys), ?_, hB.setRow, ⟨rfl, rfl, rfl, by simp, fun k hk hn => setRow_other W g k _ (by omega)⟩⟩
    simp [Builtin.copy_, run_underlying Try.underlying32, Builtin.lenOf, Builtin.firstCells, sizeOf, typeInfo, hi, hz1, hmin, hld]
    have hst' : (storeCells ⟨g, 0, none⟩ (ys.map (Value.int .i64))).run Try.prog W = .ok () (W.setRow g (cellsOf ys)) := hst
    rw [hst']
    rfl
theorem own5_of_blk {w : World} {base g m : Nat} {ys : List Int} (h : Blk w g (cellsOf ys) 104) (hl : ys.length = 5 * m) (hb : base ≤ g) (bm : m ≤ 2000000) : w.ownsRow base 104 5 (.slice (some ⟨g, 0, none⟩) m m) m (ys.map (Value.int .i64)) := by
  refine ⟨by simp [hl]; omega, .inr ⟨g, m, cellsOf ys, rfl, hb, h, Nat.le_refl _, by unfold maxLen; omega, by rw [cellsOf_size, hl]; omega, ?_⟩⟩
  rw [List.take_of_length_le (by simp [cellsOf, hl]; omega)]
  simp [cellsOf]

set_option maxHeartbeats 4000000 in
theorem boardOf (w : World) (a b : Option Addr) (ca cb m : Nat) (xs ys : List Int) (ha : IRow w a xs) (hb : IRow w b ys) (lx : xs.length = 512) (ly : ys.length = 5 * m) (bm : m ≤ 400) :
    Calls Try.prog 75 #[.agg #[.slice a xs.length ca, .slice b m cb]] w fun e w' => ∃ g : Nat, e = .returned (.agg (brd xs (.slice (some ⟨g, 0, none⟩) m m))) ∧ Blk w' g (cellsOf ys) 104 ∧ w.heap.size ≤ g ∧ Kept 0 0 w w' := by
  obtain ⟨i, hi, hz0, hz1, hz2⟩ := info_parts Try.infoAcc
  have HA := hide ha
  have HB := hide hb
  have HX := hide lx
  have HY := hide ly
  have bz := Try.boardZero
  have hbuilt := hide (boardBuilt xs (some ⟨w.heap.size + 1 + 1, 0, none⟩) m m lx)
  have K0 := hide (kept_new (kept_alloc w (.cells #[.slice a xs.length ca, .slice b m cb] 34)) (.cells (brd zeros (.slice none 0 0)) 91))
  have B0 := hide ((Blk.new w #[.slice a xs.length ca, .slice b m cb] 34).alloc (.cells (brd zeros (.slice none 0 0)) 91))
  have B1 := Blk.new (w.alloc (.cells #[.slice a xs.length ca, .slice b m cb] 34)) (brd zeros (.slice none 0 0)) 91
  simp only [World.size_alloc] at B1
  replace B1 := hide B1
  clear ha hb lx ly
  go_enter Try.func75, Try.ntmps75
  go_wp2_with (at_make; refine wpList_make_full _ rfl _ _ 32 rfl w.heap.size 104 i (.agg #[iv 0, iv 0, iv 0, iv 0, iv 0]) 5 Try.underlying32 hi hz0 hz1 _ _ _ _ m rfl rfl rfl rfl ?c1 ?c2 ?c3 ?_)
  case c1 => rw [hz2]; omega
  case c2 => unfold maxLen; omega
  case c3 => simp; omega
  intro w1 hown hg
  have k1 := kept_grown hg
  have C0 := B0.out.kept0 k1
  have C1 := B1.out.kept0 k1
  have K1 := K0.out.trans k1
  obtain ⟨W2, hcopy, E2, k2⟩ := copy5_at w1 (w.heap.size + 1 + 1) m cb b ys _ _ (blk_of_row hown) (HB.out.keptS K1) HY.out (by rw [hown.1]; omega)
  have D0 := hide (C0.kept k2 (by omega))
  have D1 := hide (C1.kept k2 (by omega))
  have K2 := hide (kept_over K1 k2 (by omega))
  have H2 := hide E2
  have HZ : ∀ u, Hid ((Try.prog.info? 91).map (·.size) = some (brd xs u).size) := fun u => hide (by rw [brd_size, HX.out]; exact Try.boardSize)
  have HZ2 : ∀ u, Hid ((brd zeros (.slice none 0 0)).size = (brd xs u).size) := fun u => hide (by rw [brd_size, brd_size, HX.out, zeros_len])
  have p1 := C0.cell (i := 1) rfl
  have d0 := D0.out.cell (i := 0) rfl
  have d1 := D0.out.cell (i := 1) rfl
  clear hown hg k1 C0 C1 K1 E2 k2
  go_wp2_with (first
    | (go_at_call 86; refine (memoryOf _ a b ca cb m xs (HA.out.keptS K2.out) HX.out).mono ?_; rintro e w3 ⟨rfl, k3⟩; have D3 := hide (D1.out.kept0 k3); have H3 := hide (H2.out.kept0 k3); have K3 := hide (K2.out.trans k3); clear k3)
    | (refine build_two rfl 91 (.tmp 13) (.tmp 14) rfl (.agg (cellsOf xs)) (.slice (some ⟨w.heap.size + 1 + 1, 0, none⟩) m m) rfl rfl (brd xs (.slice (some ⟨w.heap.size + 1 + 1, 0, none⟩) m m)) hbuilt.out ?_)
    | (refine wpList_store_row rfl 91 (.tmp 2) (.tmp 15) rfl (w.heap.size + 1) (brd xs (.slice (some ⟨w.heap.size + 1 + 1, 0, none⟩) m m)) rfl rfl 91 (brd zeros (.slice none 0 0)) D3.out (HZ _).out (HZ2 _).out (brd_one _ _ rfl) ?_))
  refine bodyPost_ret (v := .agg (brd xs (.slice (some ⟨w.heap.size + 1 + 1, 0, none⟩) m m))) ?_ rfl ⟨w.heap.size + 1 + 1, rfl, H3.out.setRowOther (by omega), by omega, kept_setRow K3.out _ _ (by omega)⟩
  exact results_cell_row rfl _ _ _ _ _ (0, 0) _ rfl D3.out.setRow Try.underlying91 rfl (HZ _).out

end Go.Proofs.Ytndhiaommphegaa

namespace Go.Proofs.Ytndhiaommphegaa
open Go.RowKit
set_option linter.unusedVariables false
theorem listOf (x0 x1 x2 x3 : Int) (w : World) :
    Calls Try.prog 87 #[.agg #[iv x0, iv x1, iv x2, iv x3]] w fun e w' => ∃ g : Nat, e = .returned (.slice (some ⟨g, 0, none⟩) 4 4) ∧ w.heap.size ≤ g ∧ Blk w' g (cellsOf [x0, x1, x2, x3]) 3 ∧ Kept 0 0 w w' :=
  (listOf4 x0 x1 x2 x3 w).mono (fun e w' h => ⟨_, h.1, by omega, h.2⟩)
theorem bkS {w : World} {b : Nat} {r : Pl.Rg} {t : TypeId} (h : Blk w b (bkR r) t) : w.cell? ⟨b, 0, none⟩ = some (iv (el r.xs 0)) ∧ w.cell? ⟨b, 1, none⟩ = some (iv (el r.xs 1)) ∧ w.cell? ⟨b, 2, none⟩ = some (iv (el r.xs 2)) ∧ w.cell? ⟨b, 3, none⟩ = some (iv (el r.xs 3)) ∧ w.cell? ⟨b, 4, none⟩ = some (iv (el r.ys 0)) ∧ w.cell? ⟨b, 5, none⟩ = some (iv (el r.ys 1)) ∧ w.cell? ⟨b, 6, none⟩ = some (iv (el r.ys 2)) ∧ w.cell? ⟨b, 7, none⟩ = some (iv (el r.ys 3)) ∧ w.cell? ⟨b, 8, none⟩ = some (iv r.o) ∧ w.cell? ⟨b, 9, none⟩ = some (iv r.p) ∧ w.cell? ⟨b, 10, none⟩ = some (iv r.f) ∧ w.cell? ⟨b, 11, none⟩ = some (iv r.m) ∧ w.cell? ⟨b, 12, none⟩ = some (.bool r.s) ∧ w.cell? ⟨b, 13, none⟩ = some (.bool r.t) :=
  ⟨h.cell (i := 0) rfl, h.cell (i := 1) rfl, h.cell (i := 2) rfl, h.cell (i := 3) rfl, h.cell (i := 4) rfl, h.cell (i := 5) rfl, h.cell (i := 6) rfl, h.cell (i := 7) rfl, h.cell (i := 8) rfl, h.cell (i := 9) rfl, h.cell (i := 10) rfl, h.cell (i := 11) rfl, h.cell (i := 12) rfl, h.cell (i := 13) rfl⟩
theorem Bd {w : World} {b : Nat} {cs : Array Value} {t : TypeId} (h : Blk w b cs t) : Blk w.drew b cs t := h
set_option maxHeartbeats 4000000 in
theorem bankRegs (r : Pl.Rg) (w : World) (lx : r.xs.length = 4) (ly : r.ys.length = 4) :
    Calls Try.prog 76 #[.agg (bkR r)] w fun e w' => ∃ (a' b' : Option Addr) (ca' cb' : Nat), e = .returned (.agg #[.slice a' r.xs.length ca', .slice b' r.ys.length cb', iv r.o, iv r.p, iv r.f, iv r.m, .bool r.s, .bool r.t]) ∧ RegIn w' w.heap.size r a' b' ∧ Kept 0 0 w w' := by
  have LX := hide lx
  have LY := hide ly
  clear lx ly
  have B0 := hide ((Blk.new w (bkR r) 87).alloc (.cells #[.slice none 0 0, .slice none 0 0, iv 0, iv 0, iv 0, iv 0, .bool false, .bool false] 31))
  have R0 := Blk.new (w.alloc (.cells (bkR r) 87)) #[.slice none 0 0, .slice none 0 0, iv 0, iv 0, iv 0, iv 0, .bool false, .bool false] 31
  simp only [World.size_alloc] at R0
  replace R0 := hide R0
  have K0 := hide (kept_new (kept_alloc w (.cells (bkR r) 87)) (.cells #[.slice none 0 0, .slice none 0 0, iv 0, iv 0, iv 0, iv 0, .bool false, .bool false] 31))
  unfold bkR
  go_enter Try.func76, Try.ntmps76
  go_wp2_with fail
  obtain ⟨W, hW⟩ : ∃ W : World, W = (w.alloc (.cells (bkR r) 87)).alloc (.cells #[.slice none 0 0, .slice none 0 0, iv 0, iv 0, iv 0, iv 0, .bool false, .bool false] 31) := ⟨_, rfl⟩
  have hW2 : (w.alloc (.cells #[iv (el r.xs 0), iv (el r.xs 1), iv (el r.xs 2), iv (el r.xs 3), iv (el r.ys 0), iv (el r.ys 1), iv (el r.ys 2), iv (el r.ys 3), iv r.o, iv r.p, iv r.f, iv r.m, .bool r.s, .bool r.t] 87)).alloc (.cells #[.slice none 0 0, .slice none 0 0, iv 0, iv 0, iv 0, iv 0, .bool false, .bool false] 31) = W := hW.symm
  rw [← hW] at B0 R0 K0
  rw [hW2]
  clear hW hW2
  obtain ⟨c0, c1, c2, c3, c4, c5, c6, c7, c8, c9, c10, c11, c12, c13⟩ := bkS B0.out
  go_region_held3 (fun w' => w'.cell? ⟨w.heap.size, 0, none⟩ = some (iv (el r.xs 0)) ∧ w'.cell? ⟨w.heap.size, 1, none⟩ = some (iv (el r.xs 1)) ∧ w'.cell? ⟨w.heap.size, 2, none⟩ = some (iv (el r.xs 2)) ∧ w'.cell? ⟨w.heap.size, 3, none⟩ = some (iv (el r.xs 3)) ∧ w'.cell? ⟨w.heap.size, 4, none⟩ = some (iv (el r.ys 0)) ∧ w'.cell? ⟨w.heap.size, 5, none⟩ = some (iv (el r.ys 1)) ∧ w'.cell? ⟨w.heap.size, 6, none⟩ = some (iv (el r.ys 2)) ∧ w'.cell? ⟨w.heap.size, 7, none⟩ = some (iv (el r.ys 3)) ∧ w'.cell? ⟨w.heap.size, 8, none⟩ = some (iv r.o) ∧ w'.cell? ⟨w.heap.size, 9, none⟩ = some (iv r.p) ∧ w'.cell? ⟨w.heap.size, 10, none⟩ = some (iv r.f) ∧ w'.cell? ⟨w.heap.size, 11, none⟩ = some (iv r.m) ∧ w'.cell? ⟨w.heap.size, 12, none⟩ = some (.bool r.s) ∧ w'.cell? ⟨w.heap.size, 13, none⟩ = some (.bool r.t)) (first | with_reducible exact bkS B4.out | with_reducible exact bkS B3.out | with_reducible exact bkS (Bd B0.out) | exact bkS ((((((((B4.out.other _ _ _ (by omega)).other _ _ _ (by omega)).other _ _ _ (by omega)).other _ _ _ (by omega)).other _ _ _ (by omega)).other _ _ _ (by omega)).other _ _ _ (by omega)).other _ _ _ (by omega)))
    (first | (go_at_call 87; have B4 := B3; clear B4; refine (listOf _ _ _ _ _).mono ?_; rintro e w4 ⟨g', rfl, hg4, hb4, kd⟩; have B4 := hide (B3.out.kept0 kd); have R4 := hide (R3.out.kept0 kd); have q0 := R4.out.cell (i := 0) rfl; have fq0 := R4.out.frozen 0; have q1 := R4.out.cell (i := 1) rfl; have fq1 := R4.out.frozen 1; have q2 := R4.out.cell (i := 2) rfl; have fq2 := R4.out.frozen 2; have q3 := R4.out.cell (i := 3) rfl; have fq3 := R4.out.frozen 3; have q4 := R4.out.cell (i := 4) rfl; have fq4 := R4.out.frozen 4; have q5 := R4.out.cell (i := 5) rfl; have fq5 := R4.out.frozen 5; have q6 := R4.out.cell (i := 6) rfl; have fq6 := R4.out.frozen 6; have q7 := R4.out.cell (i := 7) rfl; have fq7 := R4.out.frozen 7; have G4 := hide (G3.out.kept0 kd); have H4 := hide hb4; have L4 := hide hg4; have K4 := hide (K3.out.trans kd); clear hg4 hb4 kd) | (go_at_call 87; refine (listOf _ _ _ _ _).mono ?_; rintro e w3 ⟨g, rfl, hg3, hb3, kd⟩; have k3 := undrewK kd; have B3 := hide (B0.out.kept0 k3); have R3 := hide (R0.out.kept0 k3); have G3 := hide hb3; have L3 : Hid (W.heap.size ≤ g) := hide hg3; have K3 := hide (K0.out.trans k3); clear hg3 hb3 kd k3))
  go_wp2_with fail
  have l0 := R0.out.lt
  have l3 := L3.out
  have l4 := L4.out
  have l5 := G3.out.lt
  have l6 := H4.out.lt
  have l7 := G4.out.lt
  have k0 := K0.out.size
  refine bodyPost_ret (v := .agg #[.slice (some ⟨g, 0, none⟩) 4 4, .slice (some ⟨g', 0, none⟩) 4 4, iv r.o, iv r.p, iv r.f, iv r.m, .bool r.s, .bool r.t]) ?_ rfl ⟨some ⟨g, 0, none⟩, some ⟨g', 0, none⟩, 4, 4, ?_, ⟨.inr ⟨g, rfl, by omega, ?_, ?_⟩, .inr ⟨g', rfl, by omega, ?_, ?_⟩, ?_⟩, ?_⟩
  · rw [results_one rfl]; go_simp
  · rw [LX.out, LY.out]
  · simpa using l7
  · rw [list4 LX.out]; exact own_of_blk ((((((((G4.out.other _ _ _ (by omega)).other _ _ _ (by omega)).other _ _ _ (by omega)).other _ _ _ (by omega)).other _ _ _ (by omega)).other _ _ _ (by omega)).other _ _ _ (by omega)).other _ _ _ (by omega))
  · simpa using l6
  · rw [list4 LY.out]; exact own_of_blk ((((((((H4.out.other _ _ _ (by omega)).other _ _ _ (by omega)).other _ _ _ (by omega)).other _ _ _ (by omega)).other _ _ _ (by omega)).other _ _ _ (by omega)).other _ _ _ (by omega)).other _ _ _ (by omega))
  · intro g2 h2 h3
    simp [blk] at h2 h3
    omega
  · exact (kept_set (kept_set (kept_set (kept_set (kept_set (kept_set (kept_set (kept_set K4.out _ _ _ (.inr (by omega))) _ _ _ (.inr (by omega))) _ _ _ (.inr (by omega))) _ _ _ (.inr (by omega))) _ _ _ (.inr (by omega))) _ _ _ (.inr (by omega))) _ _ _ (.inr (by omega))) _ _ _ (.inr (by omega)))
end Go.Proofs.Ytndhiaommphegaa

