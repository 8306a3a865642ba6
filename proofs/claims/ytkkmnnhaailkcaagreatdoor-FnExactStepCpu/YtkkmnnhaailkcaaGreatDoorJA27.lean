/- Part 27 of what the last text leans on. -/
import Derived.Test.YtkkmnnhaailkcaaGreatDoorJA26
import Derived.Test.YtkkmnnhaailkcaaGreatDoorJA23
import Derived.Test.YtkkmnnhaailkcaaGreatDoorJA19
set_option maxRecDepth 100000
set_option maxHeartbeats 16000000
namespace Go.Proofs.YtkkmnnhaailkcaaGreatDoor
open Go.RowKit Go.Shelf Go.Proofs.Tryz
attribute [local go_sem] Oper.semAt_some
set_option linter.unusedVariables false
set_option linter.unusedSimpArgs false
structure tK (w X:World) (b q r n:Int):Prop where
 bl:Below w.heap.size w X
 y:Boxed X w.heap.size 3 (iv b)
 q:Boxed X (w.heap.size+1) 3 (iv q)
 r:Boxed X (w.heap.size+2) 3 (iv r)
 n:Boxed X (w.heap.size+3) 3 (iv n)
theorem tK.Ri {w X:World} {b q r n:Int} (h:tK w X b q r n) (z:Int):tK w (X.setCell ⟨w.heap.size+1,0,none⟩ (iv z)) b z r n:=
 ⟨h.bl.setCell (p:=⟨w.heap.size+1,0,none⟩) (Nat.le_add_right _ _) _,h.y.other (by omega) _,h.q.set _,h.r.other (by omega) _,h.n.other (by omega) _⟩
theorem tK.dh {w X:World} {b q r n:Int} (h:tK w X b q r n) (z:Int):tK w (X.setCell ⟨w.heap.size+2,0,none⟩ (iv z)) b q z n:=
 ⟨h.bl.setCell (p:=⟨w.heap.size+2,0,none⟩) (Nat.le_add_right _ _) _,h.y.other (by omega) _,h.q.other (by omega) _,h.r.set _,h.n.other (by omega) _⟩
theorem tK.XG {w X:World} {b q r n:Int} (h:tK w X b q r n) (z:Int):tK w (X.setCell ⟨w.heap.size+3,0,none⟩ (iv z)) b q r z:=
 ⟨h.bl.setCell (p:=⟨w.heap.size+3,0,none⟩) (Nat.le_add_right _ _) _,h.y.other (by omega) _,h.q.other (by omega) _,h.r.other (by omega) _,h.n.set _⟩
theorem tK.below {w X Y:World} {b q r n:Int} {B:Nat} (h:tK w X b q r n) (k:Below B X Y) (hB:w.heap.size+4≤B):tK w Y b q r n:=
 ⟨h.bl.trans (k.mono (by omega)),jq h.y k (by omega),jq h.q k (by omega),jq h.r k (by omega),jq h.n k (by omega)⟩
theorem kU {B c i:Nat} {X Y:World} (h:Keep B c X Y) (h1:i<B) (h2:i≠c) (u:Value):Keep B c X (Y.setCell ⟨i,0,none⟩ u):=h.setCell (p:=⟨i,0,none⟩) h1 h2 u
theorem xX (w : World) (h l b : Int) (wfh : (Lit.int .i64 h).wf = true) (wfl : (Lit.int .i64 l).wf = true) (wfb : (Lit.int .i64 b).wf = true) : Calls prog 224 #[iv h, iv l, iv b] w fun e w' => e = .returned (.tuple #[iv (Pl.dvQ h l b), iv (Pl.dvR h l b), iv (Pl.dvN h l b), .bool (Pl.dOk h l b)]) ∧ Kept 0 0 w w' := by
  have no : Pl.dOk h l b = false → Hid (Pl.dvQ h l b = 0 ∧ Pl.dvR h l b = 0 ∧ Pl.dvN h l b = 0 ∧ Pl.dOk h l b = false) := fun q => by
    refine hide ⟨?_, ?_, ?_, q⟩ <;> simp [Pl.dvQ, Pl.dvR, Pl.dvN, q]
  cases hh : Pl.wOk h
  · have E := no (by simp [Pl.dOk, hh])
    clear no
    go_enter func224, ntmps224
    go_wp2_with (go_at_call 85; refine (jX _ _ (by assumption)).mono ?_; rintro e9 w9 ⟨rfl, hw⟩; have hw2 := hw.symm; clear hw; subst hw2; rw [hh])
    exact bodyPost_ret (v := .tuple #[iv 0, iv 0, iv 0, .bool false]) (by simp [results, Tryz.results224, go_sem]) rfl ⟨by rw [E.o.1, E.o.2.1, E.o.2.2.1, E.o.2.2.2], kept_alloc _ _⟩
  · cases hl : Pl.wOk l
    · have E := no (by simp [Pl.dOk, hl])
      clear no
      go_enter func224, ntmps224
      go_wp2_with (go_at_call 85; refine (jX _ _ (by assumption)).mono ?_; rintro e9 w9 ⟨rfl, hw⟩; have hw2 := hw.symm; clear hw; subst hw2; first | rw [hh] | rw [hl])
      exact bodyPost_ret (v := .tuple #[iv 0, iv 0, iv 0, .bool false]) (by simp [results, Tryz.results224, go_sem]) rfl ⟨by rw [E.o.1, E.o.2.1, E.o.2.2.1, E.o.2.2.2], kept_alloc _ _⟩
    · cases hb : Pl.wOk b
      · have E := no (by have : ¬ (1 ≤ b ∧ b ≤ 65535) := by intro q; simp [Pl.wOk] at hb; omega
                         simp [Pl.dOk]; omega)
        clear no
        go_enter func224, ntmps224
        go_wp2_with (go_at_call 85; refine (jX _ _ (by assumption)).mono ?_; rintro e9 w9 ⟨rfl, hw⟩; have hw2 := hw.symm; clear hw; subst hw2; first | rw [hh] | rw [hl] | rw [hb])
        exact bodyPost_ret (v := .tuple #[iv 0, iv 0, iv 0, .bool false]) (by simp [results, Tryz.results224, go_sem]) rfl ⟨by rw [E.o.1, E.o.2.1, E.o.2.2.1, E.o.2.2.2], kept_alloc _ _⟩
      · obtain ⟨h0, h1⟩ := Pl.oL hh
        obtain ⟨l0, l1⟩ := Pl.oL hl
        obtain ⟨b0, b1⟩ := Pl.oL hb
        by_cases hc : b ≤ h
        · have E := no (by simp [Pl.dOk]; omega)
          clear no
          go_enter func224, ntmps224
          go_wp2_with (go_at_call 85; refine (jX _ _ (by assumption)).mono ?_; rintro e9 w9 ⟨rfl, hw⟩; have hw2 := hw.symm; clear hw; subst hw2; first | rw [hh] | rw [hl] | rw [hb])
          exact bodyPost_ret (v := .tuple #[iv 0, iv 0, iv 0, .bool false]) (by simp [results, Tryz.results224, go_sem]) rfl ⟨by rw [E.o.1, E.o.2.1, E.o.2.2.1, E.o.2.2.2], kept_alloc _ _⟩
        · clear no
          have ok : Pl.dOk h l b = true := by simp [Pl.dOk, hh, hl]; omega
          have E : Hid (Pl.dvQ h l b = Pl.dQ h l b 16 ∧ Pl.dvR h l b = Pl.dR h l b 16 ∧ Pl.dvN h l b = Pl.dN h l b 16 ∧ Pl.dOk h l b = true) := by
            refine hide ⟨?_, ?_, ?_, ok⟩ <;> simp [Pl.dvQ, Pl.dvR, Pl.dvN, ok]
          clear ok
          refine (callsIn_wide (n := 9)).1 (callsIn_of_wp_marks func224 rfl trivial ?_ rfl)
          simp only [ntmps224, List.size_toArray, List.length_cons, List.length_nil, Nat.reduceAdd, Nat.reduceSub, Array.replicate_succ, Array.replicate_zero, List.push_toArray, List.append_toArray, List.nil_append, List.cons_append]
          gi_wp2_with (first | (refine ⟨trivial, ?_⟩; gi_at_call 85; refine (callsIn_wide.2 (jX _ _ (by assumption))).mono ?_; rintro e9 w9 ⟨rfl, hw⟩; have hw2 := hw.symm; clear hw; subst hw2; first | rw [hh] | rw [hl] | rw [hb]) | (refine ⟨trivial, ?_⟩; gi_at_call 245; refine (callsIn_wide.2 (LH l _)).mono ?_; rintro e9 w9 ⟨rfl, hw⟩; have hw2 := hw.symm; clear hw; subst hw2))
          have hY : Boxed (((((w.alloc (.cells #[iv b] 3)).alloc (.cells #[iv 0] 3)).alloc (.cells #[iv h] 3)).alloc (.cells #[iv 0] 3)).alloc (.cells #[iv l] 3)) (w.heap.size + 0) 3 (iv b) := by
            have := (((((Boxed.new w 3 (iv b)).alloc (.cells #[iv 0] 3)).alloc (.cells #[iv h] 3)).alloc (.cells #[iv 0] 3)).alloc (.cells #[iv l] 3))
            simpa using this
          have hQ : Boxed (((((w.alloc (.cells #[iv b] 3)).alloc (.cells #[iv 0] 3)).alloc (.cells #[iv h] 3)).alloc (.cells #[iv 0] 3)).alloc (.cells #[iv l] 3)) (w.heap.size + 1) 3 (iv 0) := by
            have := ((((Boxed.new (w.alloc (.cells #[iv b] 3)) 3 (iv 0)).alloc (.cells #[iv h] 3)).alloc (.cells #[iv 0] 3)).alloc (.cells #[iv l] 3))
            simpa using this
          have hR : Boxed (((((w.alloc (.cells #[iv b] 3)).alloc (.cells #[iv 0] 3)).alloc (.cells #[iv h] 3)).alloc (.cells #[iv 0] 3)).alloc (.cells #[iv l] 3)) (w.heap.size + 2) 3 (iv h) := by
            have := (((Boxed.new ((w.alloc (.cells #[iv b] 3)).alloc (.cells #[iv 0] 3)) 3 (iv h)).alloc (.cells #[iv 0] 3)).alloc (.cells #[iv l] 3))
            simpa using this
          have hN : Boxed (((((w.alloc (.cells #[iv b] 3)).alloc (.cells #[iv 0] 3)).alloc (.cells #[iv h] 3)).alloc (.cells #[iv 0] 3)).alloc (.cells #[iv l] 3)) (w.heap.size + 3) 3 (iv 0) := by
            have := ((Boxed.new (((w.alloc (.cells #[iv b] 3)).alloc (.cells #[iv 0] 3)).alloc (.cells #[iv h] 3)) 3 (iv 0)).alloc (.cells #[iv l] 3))
            simpa using this
          have hC : Boxed (((((w.alloc (.cells #[iv b] 3)).alloc (.cells #[iv 0] 3)).alloc (.cells #[iv h] 3)).alloc (.cells #[iv 0] 3)).alloc (.cells #[iv l] 3)) (w.heap.size + 4) 3 (iv l) := by
            have := (Boxed.new ((((w.alloc (.cells #[iv b] 3)).alloc (.cells #[iv 0] 3)).alloc (.cells #[iv h] 3)).alloc (.cells #[iv 0] 3)) 3 (iv l))
            simpa using this
          have hBW : Below w.heap.size w (((((w.alloc (.cells #[iv b] 3)).alloc (.cells #[iv 0] 3)).alloc (.cells #[iv h] 3)).alloc (.cells #[iv 0] 3)).alloc (.cells #[iv l] 3)) := (((((Below.refl _ w).alloc (Nat.le_refl _) _).alloc (by simp) _).alloc (by simp; omega) _).alloc (by simp; omega) _).alloc (by simp; omega) _
          have hSz : (((((w.alloc (.cells #[iv b] 3)).alloc (.cells #[iv 0] 3)).alloc (.cells #[iv h] 3)).alloc (.cells #[iv 0] 3)).alloc (.cells #[iv l] 3)).heap.size = w.heap.size + 5 := by simp
          revert hY hQ hR hN hC hBW hSz
          generalize (((((w.alloc (.cells #[iv b] 3)).alloc (.cells #[iv 0] 3)).alloc (.cells #[iv h] 3)).alloc (.cells #[iv 0] 3)).alloc (.cells #[iv l] 3)) = w0
          intro hY hQ hR hN hC hBW hSz
          have HI := hide (fun m hm => Pl.yA h0 (show h < b by omega) l0 m hm)
          refine yO (F6 hl (w.heap.size + 4)) rfl (enters_of func263 (by kernel_rfl) rfl) hC (fun _ => rfl)
            (fun k X => tK w X b (Pl.dQ h l b k) (Pl.dR h l b k) (Pl.dN h l b k))
            (fun k X Y hs hb => hs.below hb (by omega))
            ⟨hBW, hY, hQ, hR, hN⟩
            (fun k => { tmps := #[iv h, iv l, iv b, undef, undef, .pointer (some ⟨w.heap.size, 0, none⟩), iv 0, iv 0, iv 0, .bool false, .pointer (some ⟨w.heap.size + 1, 0, none⟩), .pointer (some ⟨w.heap.size + 2, 0, none⟩), .pointer (some ⟨w.heap.size + 3, 0, none⟩), iv (Pl.iQ l (15 - k)), iv h, .bool true, .bool false, .bool false, iv l, .bool true, .bool false, .bool false, .bool false, iv b, .bool true, .bool false, .bool false, .bool false, iv h, iv b, .bool (decide (b ≤ h)), .bool (decide (b ≤ h)), iv h, iv l, .func (.func 263) #[] #[.pointer (some ⟨w.heap.size + 4, 0, none⟩)], iv (Pl.iQ l (15 - k)), undef, undef, undef, undef, undef, undef, undef, undef, undef, undef, undef, undef, undef, undef, undef, undef, undef, undef, undef], defers := [] }) ?assign ?body ?done
          case assign =>
            intro l' k X K hK
            gi_wp2
            exact hK
          case body =>
            intro l' k X hk hD hs
            rw [hSz] at hs ⊢
            have hcY := hD.y.cell
            have hcQ := hD.q.cell
            have hcR := hD.r.cell
            have hcN := hD.n.cell
            have hfQ := hD.q.frozen
            have hfR := hD.r.frozen
            have hfN := hD.n.frozen
            obtain ⟨⟨r0, r1⟩, _, q0, q1⟩ := HI.o k (by omega)
            have q2 := Pl.Ii (show k ≤ 16 by omega)
            replace q1 : Pl.dQ h l b k ≤ 65536 := by omega
            clear q2
            obtain ⟨n0, n1⟩ := VV h l b k
            replace n1 : Pl.dN h l b k ≤ 16 := by omega
            have t1 : 0 ≤ Pl.iQ l (15 - k) ∧ Pl.iQ l (15 - k) ≤ 1 := by have := Pl.ut l (15 - k); omega
            have EQ : Hid (Pl.dQ h l b (k + 1) = 2 * Pl.dQ h l b k + (if b ≤ 2 * Pl.dR h l b k + Pl.iQ l (15 - k) then 1 else 0)) := hide rfl
            have ER : Hid (Pl.dR h l b (k + 1) = if b ≤ 2 * Pl.dR h l b k + Pl.iQ l (15 - k) then 2 * Pl.dR h l b k + Pl.iQ l (15 - k) - b else 2 * Pl.dR h l b k + Pl.iQ l (15 - k)) := hide rfl
            have EN : Hid (Pl.dN h l b (k + 1) = Pl.dN h l b k + (if b ≤ 2 * Pl.dR h l b k + Pl.iQ l (15 - k) then 1 else 0)) := hide rfl
            revert EQ ER EN
            generalize Pl.dQ h l b (k + 1) = q'
            generalize Pl.dR h l b (k + 1) = r'
            generalize Pl.dN h l b (k + 1) = n'
            revert hD hcQ hcR hcN r0 r1 q0 q1 n0 n1 t1
            generalize Pl.dQ h l b k = q
            generalize Pl.dR h l b k = r
            generalize Pl.dN h l b k = n
            generalize Pl.iQ l (15 - k) = t
            intro hD hcQ hcR hcN r0 r1 q0 q1 n0 n1 t1 EQ ER EN
            clear HI E
            by_cases hcmp : b ≤ r * 2 + t
            · have e1 : q' = q * 2 + 1 := by have := EQ.o; rw [if_pos (by omega)] at this; omega
              have e2 : r' = r * 2 + t - b := by have := ER.o; rw [if_pos (by omega)] at this; omega
              have e3 : n' = n + 1 := by have := EN.o; rw [if_pos (by omega)] at this; omega
              subst e1 e2 e3
              clear EQ ER EN
              gi_wp2
              exact ⟨((((hD.Ri _).dh _).dh _).Ri _).XG _, kU (kU (kU (kU (kU (Keep.refl _ _ _) (by omega) (by omega) _) (by omega) (by omega) _) (by omega) (by omega) _) (by omega) (by omega) _) (by omega) (by omega) _⟩
            · have e1 : q' = q * 2 := by have := EQ.o; rw [if_neg (by omega)] at this; omega
              have e2 : r' = r * 2 + t := by have := ER.o; rw [if_neg (by omega)] at this; omega
              have e3 : n' = n := by have := EN.o; rw [if_neg (by omega)] at this; omega
              subst e1 e2 e3
              clear EQ ER EN
              gi_wp2
              exact ⟨(hD.Ri _).dh _, kU (kU (Keep.refl _ _ _) (by omega) (by omega) _) (by omega) (by omega) _⟩
          case done =>
            rintro X ⟨hB, hY, hQ, hR, hN⟩ hK
            have hcQ := hQ.cell
            have hcR := hR.cell
            have hcN := hN.cell
            gi_wp2
            gi_region
            all_goals gi_wp2
            all_goals
              refine ⟨by simp, .inl ⟨_, _, rfl, run_takeDeferred hK, ?_⟩⟩
              refine ⟨.tuple #[iv (Pl.dQ h l b 16), iv (Pl.dR h l b 16), iv (Pl.dN h l b 16), .bool true], by simp [results, Tryz.results224, go_sem], by rw [E.o.1, E.o.2.1, E.o.2.2.1, E.o.2.2.2], nN (hB.drew.trans (ny (by omega) _))⟩
open Go.RowKit Go.Proofs.Tryz
namespace Pl
def cbM (op q v:Int):Int:=bif op==5 then bits .and .i64 q v else bif op==6 then bits .or .i64 q v else bif op==7 then bits .xor .i64 q v else bif op==16 then xM q v else bif op==17 then dvQ 0 q v else v
def cbU (op q v:Int):Int:=bif op==16 then EJ q v else 0
def cbV (op z q v:Int):Int:=bif op==3 then qP z 0 q v else bif op==4 then kQ z 0 q v else bif op==8 then q else cbM op q v
def cbF (op z f q v:Int):Int:=bif op==3 then ji z 0 q v else bif op==4 then gz z 0 q v else bif op==8 then oG z f q v else bits .or .i64 (aQ z f (cbM op q v)) (fl (cbU op q v != 0) 2)
end Pl
theorem Pg (w:World) (op z r m k e s f q v:Int) (hop:op=1∨op=3∨op=4∨op=5∨op=6∨op=7∨op=8∨op=16∨op=17) (q0:0≤q) (q1:q≤65535) (v0:0≤v) (v1:v≤65535) (M0:0≤Pl.cbM op q v) (M1:Pl.cbM op q v≤65535) :
  Calls prog 193 #[.agg (inA op z r m k e s),iv f,iv q,iv v] w fun e' w'=>e'=.returned (.tuple #[iv (Pl.cbV op z q v),iv (Pl.cbF op z f q v)])∧Kept 0 0 w w':=by
 have wq:(Lit.int .i64 q).wf=true:=qU (by omega) (by omega)
 have wv:(Lit.int .i64 v).wf=true:=qU (by omega) (by omega)
 have b0:=hide M0
 have b1:=hide M1
 clear M0 M1
 rcases hop with rfl|rfl|rfl|rfl|rfl|rfl|rfl|rfl|rfl
 ·have K0:=hide (kept_alloc w (.cells (inA 1 z r m k e s) 109))
  have A0:=hide (Blk.new w (inA 1 z r m k e s) 109)
  obtain ⟨X,hX⟩:∃X:World,w.alloc (.cells (inA 1 z r m k e s) 109)=X:=⟨_,rfl⟩
  rw [hX] at K0 A0
  have p:=A0.o.all
  go_enter func193,ntmps193
  go_wp2_with (first|(go_at_call 133;refine st (gy _ _ _) ?_)|(go_at_call 225;refine st (jg _ _ _ _ (by have:=b0.o;first|omega|(simp only [Pl.cbM] at this;exact Int.le_trans (by decide) this)) (by have:=b1.o;first|omega|(simp only [Pl.cbM] at this;exact Int.le_trans this (by decide)))) ?_))
  go_ret2
  exact ⟨rfl,K0.o⟩
 ·have K0:=hide (kept_alloc w (.cells (inA 3 z r m k e s) 109))
  have A0:=hide (Blk.new w (inA 3 z r m k e s) 109)
  obtain ⟨X,hX⟩:∃X:World,w.alloc (.cells (inA 3 z r m k e s) 109)=X:=⟨_,rfl⟩
  rw [hX] at K0 A0
  have p:=A0.o.all
  go_enter func193,ntmps193
  go_wp2_with (first|(go_at_call 220;refine st (LW _ _ _ _ _ (by omega) (by omega) (by omega) (by omega)) ?_))
  go_ret2
  exact ⟨rfl,K0.o⟩
 ·have K0:=hide (kept_alloc w (.cells (inA 4 z r m k e s) 109))
  have A0:=hide (Blk.new w (inA 4 z r m k e s) 109)
  obtain ⟨X,hX⟩:∃X:World,w.alloc (.cells (inA 4 z r m k e s) 109)=X:=⟨_,rfl⟩
  rw [hX] at K0 A0
  have p:=A0.o.all
  go_enter func193,ntmps193
  go_wp2_with (first|(go_at_call 221;refine st (oQ _ _ _ _ _ (by omega) (by omega) (by omega) (by omega)) ?_))
  go_ret2
  exact ⟨rfl,K0.o⟩
 ·have K0:=hide (kept_alloc w (.cells (inA 5 z r m k e s) 109))
  have A0:=hide (Blk.new w (inA 5 z r m k e s) 109)
  obtain ⟨X,hX⟩:∃X:World,w.alloc (.cells (inA 5 z r m k e s) 109)=X:=⟨_,rfl⟩
  rw [hX] at K0 A0
  have p:=A0.o.all
  go_enter func193,ntmps193
  go_wp2_with (first|(go_at_call 133;refine st (gy _ _ _) ?_)|(go_at_call 225;refine st (jg _ _ _ _ (by have:=b0.o;first|omega|(simp only [Pl.cbM] at this;exact Int.le_trans (by decide) this)) (by have:=b1.o;first|omega|(simp only [Pl.cbM] at this;exact Int.le_trans this (by decide)))) ?_))
  go_ret2
  exact ⟨rfl,K0.o⟩
 ·have K0:=hide (kept_alloc w (.cells (inA 6 z r m k e s) 109))
  have A0:=hide (Blk.new w (inA 6 z r m k e s) 109)
  obtain ⟨X,hX⟩:∃X:World,w.alloc (.cells (inA 6 z r m k e s) 109)=X:=⟨_,rfl⟩
  rw [hX] at K0 A0
  have p:=A0.o.all
  go_enter func193,ntmps193
  go_wp2_with (first|(go_at_call 133;refine st (gy _ _ _) ?_)|(go_at_call 225;refine st (jg _ _ _ _ (by have:=b0.o;first|omega|(simp only [Pl.cbM] at this;exact Int.le_trans (by decide) this)) (by have:=b1.o;first|omega|(simp only [Pl.cbM] at this;exact Int.le_trans this (by decide)))) ?_))
  go_ret2
  exact ⟨rfl,K0.o⟩
 ·have K0:=hide (kept_alloc w (.cells (inA 7 z r m k e s) 109))
  have A0:=hide (Blk.new w (inA 7 z r m k e s) 109)
  obtain ⟨X,hX⟩:∃X:World,w.alloc (.cells (inA 7 z r m k e s) 109)=X:=⟨_,rfl⟩
  rw [hX] at K0 A0
  have p:=A0.o.all
  go_enter func193,ntmps193
  go_wp2_with (first|(go_at_call 133;refine st (gy _ _ _) ?_)|(go_at_call 225;refine st (jg _ _ _ _ (by have:=b0.o;first|omega|(simp only [Pl.cbM] at this;exact Int.le_trans (by decide) this)) (by have:=b1.o;first|omega|(simp only [Pl.cbM] at this;exact Int.le_trans this (by decide)))) ?_))
  go_ret2
  exact ⟨rfl,K0.o⟩
 ·have K0:=hide (kept_alloc w (.cells (inA 8 z r m k e s) 109))
  have A0:=hide (Blk.new w (inA 8 z r m k e s) 109)
  obtain ⟨X,hX⟩:∃X:World,w.alloc (.cells (inA 8 z r m k e s) 109)=X:=⟨_,rfl⟩
  rw [hX] at K0 A0
  have p:=A0.o.all
  go_enter func193,ntmps193
  go_wp2_with (first|(go_at_call 222;refine st (Le _ _ _ _ _ (by omega) (by omega) (by omega) (by omega)) ?_))
  go_ret2
  exact ⟨rfl,K0.o⟩
 ·have K0:=hide (kept_alloc w (.cells (inA 16 z r m k e s) 109))
  have A0:=hide (Blk.new w (inA 16 z r m k e s) 109)
  obtain ⟨X,hX⟩:∃X:World,w.alloc (.cells (inA 16 z r m k e s) 109)=X:=⟨_,rfl⟩
  rw [hX] at K0 A0
  have p:=A0.o.all
  go_enter func193,ntmps193
  go_wp2_with (first|(go_at_call 133;refine st (gy _ _ _) ?_)|(go_at_call 225;refine st (jg _ _ _ _ (by have:=b0.o;first|omega|(simp only [Pl.cbM] at this;exact Int.le_trans (by decide) this)) (by have:=b1.o;first|omega|(simp only [Pl.cbM] at this;exact Int.le_trans this (by decide)))) ?_)|(go_at_call 223;refine (xW _ q v wq wv).mono ?_;rintro e9 W1 ⟨rfl,k1⟩;have K1:=hide (K0.o.trans k1);have p1:=(A0.o.af k1).all;clear k1))
  go_ret2
  exact ⟨rfl,K1.o⟩
 ·have K0:=hide (kept_alloc w (.cells (inA 17 z r m k e s) 109))
  have A0:=hide (Blk.new w (inA 17 z r m k e s) 109)
  obtain ⟨X,hX⟩:∃X:World,w.alloc (.cells (inA 17 z r m k e s) 109)=X:=⟨_,rfl⟩
  rw [hX] at K0 A0
  have p:=A0.o.all
  go_enter func193,ntmps193
  go_wp2_with (first|(go_at_call 133;refine st (gy _ _ _) ?_)|(go_at_call 225;refine st (jg _ _ _ _ (by have:=b0.o;first|omega|(simp only [Pl.cbM] at this;exact Int.le_trans (by decide) this)) (by have:=b1.o;first|omega|(simp only [Pl.cbM] at this;exact Int.le_trans this (by decide)))) ?_)|(go_at_call 224;refine (xX _ 0 q v (by decide) wq wv).mono ?_;rintro e9 W1 ⟨rfl,k1⟩;have K1:=hide (K0.o.trans k1);have p1:=(A0.o.af k1).all;clear k1))
  go_ret2
  exact ⟨rfl,K1.o⟩
namespace Pl
theorem VZ {op z q v:Int} (hz:z=1∨z=2) (hq:okv z q=true) (hv:okv z v=true) (h2:op=16∨op=17→z=2) (h0:op=17→v≠0):okv z (cbM op q v)=true∧okv z (cbV op z q v)=true:=by
 obtain ⟨o1,o2,o3⟩:=mQ hq hv
 have tq:=aP hq
 have tv:=aP hv
 have hM:okv z (cbM op q v)=true:=by
  unfold cbM
  cases e5:op==5
  ·cases e6:op==6
   ·cases e7:op==7
    ·cases e16:op==16
     ·cases e17:op==17
      ·exact hv
      ·have ho:op=17:=by simpa using e17
       have ez:=h2 (.inr ho)
       subst ez
       have hv0:=h0 ho
       show okv 2 (dvQ 0 q v)=true
       have e:dvQ 0 q v=q/v:=by
        have hk:dOk 0 q v=true:=by simp [dOk,wOk];omega
        unfold dvQ
        rw [if_pos hk]
        exact (yT (by omega) (by omega) (by omega)).1
       rw [e]
       have h1:0≤q/v:=Int.ediv_nonneg (by omega) (by omega)
       have h3:q/v≤q:=Int.ediv_le_self _ (by omega)
       simp [okv,top];omega
     ·have ho:op=16:=by simpa using e16
      have ez:=h2 (.inl ho)
      subst ez
      show okv 2 (xM q v)=true
      unfold xM
      simp only [okv,top]
      split
      ·simp;omega
      ·rfl
    ·exact o3
   ·exact o2
  ·exact o1
 refine ⟨hM,?_⟩
 unfold cbV
 cases op==3
 ·cases op==4
  ·cases op==8
   ·exact hM
   ·exact hq
  ·exact mP hz
 ·exact vk hq
theorem qW {c D:Mc} {z m k e:Int} (hf:c.f=aH) (hD:D=c.read z m k e) (h:(D.f.v != 0)=false):D.f=aH:=by
 subst hD
 unfold Mc.read at *
 cases hi:Mc.gI m
 ·rw [hi] at h
  have ee:((c.plc z m k e).acc 1 z (bZ c.r z m k e) 0).f=Mc.fA aH 1 z (bZ c.r z m k e):=by show Mc.fA c.f _ _ _=_;rw [hf]
  show ((c.plc z m k e).acc 1 z (bZ c.r z m k e) 0).f=aH
  rw [ee]
  exact (nU (by rw [←ee];exact h)).2
 ·exact hf
def Mc.tk' (d:Mc) (op z r v:Int):Mc:=bif op==9 then d.fM r.toNat v else bif (op==17)&&(v==0) then {d with f:=⟨5,0,0,0,false⟩} else ((d.put z r (cbV op z (d.low z r) v)).aB (cbF op z d.r.f (d.low z r) v))
def Mc.tk (c:Mc) (x:In):Mc:=bif (c.read x.z x.m x.k x.e).fine then (c.read x.z x.m x.k x.e).tk' x.op x.z x.r (c.aY x.z x.m x.k x.e) else c.read x.z x.m x.k x.e
end Pl
theorem and7 {a b c d e f g h:Prop} (x:a∧b∧c∧d∧e∧f∧g) (y:h):a∧b∧c∧d∧e∧f∧g∧h:=⟨x.1,x.2.1,x.2.2.1,x.2.2.2.1,x.2.2.2.2.1,x.2.2.2.2.2.1,x.2.2.2.2.2.2,y⟩
theorem QK (w:World) (lo b g:Nat) (c:Pl.Mc) (h:Bool) (op z r m k e s:Int) (hC:CAt w lo b g c h) (G:Pl.GM c) (hf:c.f=Pl.aH) (B:Pl.InB ⟨op,z,r,m,k,e,s⟩) (hop:op=9∨op=1∨op=3∨op=4∨op=5∨op=6∨op=7∨op=8∨op=16∨op=17) (h1:m=1→z=2) (h2:op=16∨op=17→z=2) :
  Calls prog 163 #[.pointer (some ⟨b,0,none⟩),.agg (inA op z r m k e s)] w fun e' w'=>∃g',e'=.returned (.agg (ftC (c.tk ⟨op,z,r,m,k,e,s⟩).f))∧CAt w' lo b g' (c.tk ⟨op,z,r,m,k,e,s⟩) h∧Since w b (b+1) g w' g':=by
 have HB:=hide B
 clear B
 obtain ⟨l0,l1,l2,l3,l4⟩:=hC.lt
 have HG:=hide G
 obtain ⟨X,hX,K0,C0,A0,R0,sX⟩:=hC.jh op z r m k e s
 have p:=A0.o.all
 clear hC G
 obtain ⟨D,hD⟩:∃D,D=c.read z m k e:=⟨_,rfl⟩
 obtain ⟨V,hV⟩:∃V,V=c.aY z m k e:=⟨_,rfl⟩
 obtain ⟨F,hF⟩:∃F,F=D.f:=⟨_,rfl⟩
 have GD:Hid (Pl.GM D):=hide (by rw [hD];exact HG.o.read HB.o.z HB.o.k0 HB.o.k1 HB.o.e0 HB.o.e1)
 have OV:Hid (Pl.okv z V=true):=hide (by rw [hV];exact Pl.di HG.o HB.o.z HB.o.k0 HB.o.k1 HB.o.e0 HB.o.e1 h1 HB.o.n7)
 have ET:Hid (c.tk ⟨op,z,r,m,k,e,s⟩=bif !(F.v != 0) then D.tk' op z r V else D):=hide (by
  show (bif (c.read z m k e).fine then (c.read z m k e).tk' op z r (c.aY z m k e) else c.read z m k e)=_
  rw [←hD,←hV,hF];unfold Pl.Mc.fine;simp [bne])
 have HD:=hide hD
 have HV:=hide hV
 have HF:=hide hF
 have H2:=hide h2
 have HO:=hide hop
 clear hD hV hF h1 h2 hop
 go_enter func163,ntmps163
 go_wp2_with (first|(go_at_call 192;have z9:=C1;refine (yG _ lo b g c h z m k e C1.o HG.o hf HB.o.z HB.o.m0 HB.o.m1 HB.o.k0 HB.o.k1 HB.o.e0 HB.o.e1).mono ?_;rintro e9 W2 ⟨g',rfl,hc,hs⟩;rw [←HD.o] at hc ⊢;rw [←HV.o,←HF.o];unfold ftC;have C2:=hide (hc.alloc (.cells (ftA F) 49));have A2:=hide ((hs.blk A1.o (by omega) (by omega)).alloc (.cells (ftA F) 49));have R2:=hide ((hs.blk R1.o (by omega) (by omega)).alloc (.cells (ftA F) 49));have S2:=hide ((S1.o.trans hs).alloc (.cells (ftA F) 49));have L2:=hide (Blk.new W2 (ftA F) 49);have z2:=hs.size;have n2:=hs.ne (b:=w.heap.size+1) R1.o.lt (by omega);have m2:=hs.ne (b:=w.heap.size) A1.o.lt (by omega);clear hc hs)|(go_at_call 166;refine (rQ _ lo b g c h ⟨op,z,r,m,k,e,s⟩ C0.o HG.o HB.o).mono ?_;rintro e9 W1 ⟨rfl,hc,hk⟩;have C1:=hide hc;have A1:=hide (A0.o.kept hk (by omega));have R1:=hide (R0.o.kept hk (by omega));have S1:=hide (((Since.refl w b (b+1) g).any K0.o).ai hk (Nat.le_refl _) (Nat.le_refl _));have p1:=A1.o.all;clear hc hk))
 refine (gu F _).mono ?_
 rintro e9 W4 ⟨rfl,kf⟩
 have C4:=hide (C2.o.any kf)
 have A4:=hide (A2.o.af kf)
 have R4:=hide (R2.o.af kf)
 have L4:=hide (L2.o.af kf)
 have S4:=hide (S2.o.any kf)
 have p4:=A4.o.all
 have q4:=L4.o.all
 have r4:=R4.o.all
 have rf4:=R4.o.fz
 clear kf
 clear hX p p1
 cases hv:(F.v != 0)
 ·have E1:Hid (c.tk ⟨op,z,r,m,k,e,s⟩=D.tk' op z r V):=hide (by rw [ET.o,hv];rfl)
  have DF:Hid (D.f=Pl.aH):=hide (Pl.qW hf HD.o (by rw [←HF.o];exact hv))
  cases h9:(op==9)
  ·cases h17:(op==17)<;>cases hV0:(V==0)
   case true.true=>
    have E2:Hid (D.tk' op z r V={D with f:=⟨5,0,0,0,false⟩}):=hide (by unfold Pl.Mc.tk';rw [h9,h17,hV0];rfl)
    go_wp2_with fail
    have KR:=(((((ak W4 (w.heap.size+1) 0 (iv 5)).one 1 (iv 0)).one 2 (iv 0)).one 3 (iv 0)).one 4 (.bool false))
    refine bodyPost_ret (v:=.agg #[iv 5,iv 0,iv 0,iv 0,.bool false]) ?_ rfl ⟨g',?_,?_,(S4.o).mine KR (by omega)⟩
    ·rw [aj rfl];go_simp
    ·rw [E1.o,E2.o];rfl
    ·rw [E1.o,E2.o];exact ((C4.o).kept KR (by omega) (by omega)).fx rfl rfl rfl rfl rfl
   all_goals
    have E2:Hid (D.tk' op z r V=(D.put z r (Pl.cbV op z (D.low z r) V)).aB (Pl.cbF op z D.r.f (D.low z r) V)):=hide (by unfold Pl.Mc.tk';rw [h9,h17,hV0];rfl)
    have hop2:op=1∨op=3∨op=4∨op=5∨op=6∨op=7∨op=8∨op=16∨op=17:=by rcases HO.o with h|h;exact absurd h (by simpa using h9);exact h
    have CB:Hid (Pl.okv z (Pl.cbM op (D.low z r) V)=true∧Pl.okv z (Pl.cbV op z (D.low z r) V)=true):=hide (Pl.VZ HB.o.z (Pl.fJ GD.o HB.o.z HB.o.r0 HB.o.r1) OV.o H2.o (by intro ho hv;first|(simp [ho] at h17;done)|(simp [hv] at hV0)))
    have OQ:=hide (Pl.fJ GD.o HB.o.z HB.o.r0 HB.o.r1)
    obtain ⟨Q,hQ⟩:∃Q,Q=D.low z r:=⟨_,rfl⟩
    rw [←hQ] at E2 CB OQ
    have HQ:=hide hQ
    have HP:=hide hop2
    clear hQ hop2
    go_wp2_with fail
    clear p4 q4 r4 rf4
    obtain ⟨u0,u1,u2,u3,u4,u5,u6⟩:=A4.o.c7
    have u10:=C4.o.cF
    go_region_held3 (fun w'=>w'.cell? ⟨w.heap.size,0,none⟩=some (iv op)∧w'.cell? ⟨w.heap.size,1,none⟩=some (iv z)∧w'.cell? ⟨w.heap.size,2,none⟩=some (iv r)∧w'.cell? ⟨w.heap.size,3,none⟩=some (iv m)∧w'.cell? ⟨w.heap.size,4,none⟩=some (iv k)∧w'.cell? ⟨w.heap.size,5,none⟩=some (iv e)∧w'.cell? ⟨w.heap.size,6,none⟩=some (iv s)∧w'.cell? ⟨b,10,none⟩=some (iv D.r.f)) (first|with_reducible exact and7 A6.o.c7 C6.o.cF|with_reducible exact and7 A5.o.c7 C5.o.cF|exact and7 (show Blk _ _ _ _ from A4.o).c7 C4.o.drew.cF)
     (first|(go_at_call 193;have z9:=A5;refine (Pg _ op z r m k e s D.r.f Q V HP.o (by have:=Pl.aP OQ.o;omega) (by have:=Pl.aP OQ.o;omega) (by have:=Pl.aP OV.o;omega) (by have:=Pl.aP OV.o;omega) (by have:=Pl.aP CB.o.1;omega) (by have:=Pl.aP CB.o.1;omega)).mono ?_;rintro e9 W6 ⟨rfl,k6⟩;have C6:=hide (C5.o.any k6);have A6:=hide (A5.o.af k6);have R6:=hide (R5.o.af k6);have S6:=hide (S5.o.any k6);clear k6)|(go_at_call 194;refine (nT _ lo b g' D h z r C4.o.drew HB.o.z HB.o.r0 HB.o.r1).mono ?_;rintro e9 W5 ⟨rfl,kd⟩;rw [←HQ.o];have k5:=bW kd;have C5:=hide (C4.o.any k5);have A5:=hide (A4.o.af k5);have R5:=hide (R4.o.af k5);have S5:=hide (S4.o.any k5);clear kd k5))
    clear u0 u1 u2 u3 u4 u5 u6 u10
    obtain ⟨MV,hMV⟩:∃M,M=Pl.cbV op z Q V:=⟨_,rfl⟩
    obtain ⟨MF,hMF⟩:∃M,M=Pl.cbF op z D.r.f Q V:=⟨_,rfl⟩
    rw [←hMV,←hMF] at E2 ⊢
    rw [←hMV] at CB
    clear hMV hMF
    go_wp2_with fail
    have u1:=A6.o.cell (i:=1) rfl
    have u2:=A6.o.cell (i:=2) rfl
    go_region_held3 (fun w'=>w'.cell? ⟨w.heap.size,1,none⟩=some (iv z)∧w'.cell? ⟨w.heap.size,2,none⟩=some (iv r)) (first|with_reducible exact ⟨A7.o.cell (i:=1) rfl,A7.o.cell (i:=2) rfl⟩|exact ⟨(show Blk _ _ _ _ from A6.o).cell (i:=1) rfl,(show Blk _ _ _ _ from A6.o).cell (i:=2) rfl⟩)
     (first|(go_at_call 195;refine (Lp _ lo b g' D h z r MV C6.o.drew GD.o.g HB.o.r0 HB.o.r1 HB.o.z CB.o.2).mono ?_;rintro e9 W7 ⟨rfl,hc7,kd⟩;have k7:=bW kd;have C7:=hide hc7;have A7:=hide (A6.o.kept k7 (by omega));have R7:=hide (R6.o.kept k7 (by omega));have S7:=hide (S6.o.ai k7 (Nat.le_refl _) (Nat.le_refl _));clear hc7 kd k7))
    have cf:=C7.o.cF
    have cz:=C7.o.fz
    have rr:=(R7.o.other b 10 (iv MF) (by omega)).all
    have rz:=(R7.o.other b 10 (iv MF) (by omega)).fz
    go_wp2_with fail
    have KR:=(((((ak (W7.setCell ⟨b,10,none⟩ (iv MF)) (w.heap.size+1) 0 (iv 0)).one 1 (iv 0)).one 2 (iv 0)).one 3 (iv 0)).one 4 (.bool false))
    refine bodyPost_ret (v:=.agg ftZ) ?_ rfl ⟨g',?_,?_,(S7.o.set b 10 (iv MF) (.inl (by omega))).mine KR (by omega)⟩
    ·rw [aj rfl];go_simp
    ·rw [E1.o,E2.o,show ((D.put z r MV).aB MF).f=Pl.aH from DF.o];rfl
    ·rw [E1.o,E2.o];exact ((C7.o.aB MF).kept KR (by omega) (by omega))
  ·have E2:Hid (D.tk' op z r V=D.fM r.toNat V):=hide (by unfold Pl.Mc.tk';rw [h9];rfl)
   obtain ⟨n,rfl⟩:∃n:Nat,r=(n:Int):=⟨r.toNat,by have:0≤r:=HB.o.r0;omega⟩
   have hn:n<4:=by have:(n:Int)≤3:=HB.o.r1;omega
   have i0:(0:Int)≤(n:Int):=by omega
   have i1:(n:Int)<4:=by omega
   go_wp2_with fail
   have cy:=C4.o.cY hn
   have cz:=C4.o.fz
   go_region
   have rr:=(R4.o.other b (4+n) (iv V) (by omega)).all
   have rz:=(R4.o.other b (4+n) (iv V) (by omega)).fz
   go_wp2_with fail
   have KR:=(ae (((((ak (W4.setCell ⟨b,4+n,none⟩ (iv V)) (w.heap.size+1) 0 (iv 0)).one 1 (iv 0)).one 2 (iv 0)).one 3 (iv 0)).one 4 (.bool false)))
   refine bodyPost_ret (v:=.agg ftZ) ?_ rfl ⟨g',?_,?_,(S4.o.set b (4+n) (iv V) (.inl (by omega))).mine KR (by omega)⟩
   ·rw [aj rfl];go_simp
   ·rw [E1.o,E2.o,show (D.fM (n:Int).toNat V).f=Pl.aH from DF.o];rfl
   ·rw [E1.o,E2.o];exact ((C4.o.uV GD.o.g.a4 hn V).kept KR (by omega) (by omega))
 ·have E1:Hid (c.tk ⟨op,z,r,m,k,e,s⟩=D):=hide (by rw [ET.o,hv];rfl)
  go_wp2_with fail
  have KR:=(((((ak W4 (w.heap.size+1) 0 (iv F.v)).one 1 (iv F.pc)).one 2 (iv F.ad)).one 3 (iv F.wo)).one 4 (.bool F.wr))
  refine bodyPost_ret (v:=.agg (ftA F)) ?_ rfl ⟨g',?_,?_,(S4.o).mine KR (by omega)⟩
  ·rw [aj rfl];go_simp
  ·rw [E1.o,←HF.o];rfl
  ·rw [E1.o];exact ((C4.o).kept KR (by omega) (by omega))
namespace Pl
def Mc.gv (c:Mc) (x:In):Mc:=((c.aB (aQ x.z c.r.f (c.low x.z x.r))).slot x.z x.m x.k x.e).write x.z x.m x.k (c.readA x.z x.m x.k x.e) (c.low x.z x.r)
def chV (s z v:Int):Int:=bif s==1 then kQ z 0 0 v else bif s==2 then top z-1-v else v
def chF (s z f v:Int):Int:=bif s==1 then gz z 0 0 v else aQ z f (chV s z v)
def Mc.ch' (d:Mc) (z m k a s v:Int):Mc:=bif s==3 then d.aB (chF s z d.r.f v) else (d.aB (chF s z d.r.f v)).write z m k a (chV s z v)
def Mc.ch (c:Mc) (x:In):Mc:=bif x.s==0 then (c.slot x.z x.m x.k x.e).ch' x.z x.m x.k (c.readA x.z x.m x.k x.e) 0 0 else bif (c.read x.z x.m x.k x.e).fine then (c.read x.z x.m x.k x.e).ch' x.z x.m x.k (c.readA x.z x.m x.k x.e) x.s (c.aY x.z x.m x.k x.e) else c.read x.z x.m x.k x.e
theorem tX (n x:Nat) (h:x<2^n):x ^^^ (2^n-1)=2^n-(x+1):=by
 apply Nat.eq_of_testBit_eq
 intro i
 rw [Nat.testBit_xor,Nat.testBit_two_pow_sub_one,Nat.testBit_two_pow_sub_succ h]
 by_cases hi:i<n
 ·simp [hi]
 ·have:x.testBit i=false:=Nat.testBit_lt_two_pow (Nat.lt_of_lt_of_le h (Nat.pow_le_pow_right (by decide) (by omega)))
  simp [hi,this]
theorem MK {z v:Int} (hz:z=1∨z=2) (hv:okv z v=true):bits .xor .i64 v (top z-1)=top z-1-v:=by
 have tv:=aP hv
 rcases hz with rfl|rfl
 ·obtain ⟨n,rfl⟩:∃n:Nat,v=(n:Int):=⟨v.toNat,by omega⟩
  have e:=(bits_nat n 255 (by omega) (by decide)).2.2
  show bits .xor .i64 (n:Int) ((255:Nat):Int)=_
  rw [e,tX 8 n (by omega)]
  show ((256-(n+1):Nat):Int)=256-1-(n:Int)
  omega
 ·obtain ⟨n,rfl⟩:∃n:Nat,v=(n:Int):=⟨v.toNat,by omega⟩
  have e:=(bits_nat n 65535 (by omega) (by decide)).2.2
  show bits .xor .i64 (n:Int) ((65535:Nat):Int)=_
  rw [e,tX 16 n (by omega)]
  show ((65536-(n+1):Nat):Int)=65536-1-(n:Int)
  omega
theorem NR {z v:Int} (hz:z=1∨z=2) (hv:okv z v=true):okv z (top z-1-v)=true:=by
 have tv:=aP hv
 rcases hz with rfl|rfl
 ·simp [okv,top] at *;omega
 ·simp [okv,top] at *;omega
theorem DV {s z v:Int} (hz:z=1∨z=2) (hv:okv z v=true):okv z (chV s z v)=true:=by
 unfold chV
 cases s==1
 ·cases s==2
  ·exact hv
  ·exact NR hz hv
 ·exact mP hz
theorem Cc {s z f v:Int} (hz:z=1∨z=2) (hv:okv z v=true) (hf:flags f=true):0≤chF s z f v∧chF s z f v≤31:=by
 unfold chF
 cases s==1
 ·exact dX z f _ (DV hz hv) hf
 ·have h0:okv z 0=true:=by rcases hz with rfl|rfl<;>rfl
  exact lw z 0 0 v
theorem GM.slot {c:Mc} (h:GM c) {z m k e:Int} (k0:0≤k) (k1:k≤3):GM (c.slot z m k e):=by
 unfold Mc.slot
 cases Mc.gI m
 ·exact h.plc k0 k1
 ·exact h
end Pl
theorem V7 (w:World) (lo b g:Nat) (c:Pl.Mc) (h:Bool) (op z r m k e s:Int) (hC:CAt w lo b g c h) (G:Pl.GM c) (hf:c.f=Pl.aH) (B:Pl.InB ⟨op,z,r,m,k,e,s⟩) (hm:m=0∨(2≤m∧m≤6)) :
  Calls prog 164 #[.pointer (some ⟨b,0,none⟩),.agg (inA op z r m k e s)] w fun e' w'=>∃g',e'=.returned (.agg (ftC (c.gv ⟨op,z,r,m,k,e,s⟩).f))∧CAt w' lo b g' (c.gv ⟨op,z,r,m,k,e,s⟩) h∧Since w b (b+1) g w' g':=by
 have HB:=hide B
 clear B
 obtain ⟨l0,l1,l2,l3,l4⟩:=hC.lt
 have HG:=hide G
 obtain ⟨X,hX,K0,C0,A0,R0,sX⟩:=hC.jh op z r m k e s
 have p:=A0.o.all
 clear hC G
 have OQ:Hid (Pl.okv z (c.low z r)=true):=hide (Pl.fJ HG.o HB.o.z HB.o.r0 HB.o.r1)
 obtain ⟨Q,hQ⟩:∃Q,Q=c.low z r:=⟨_,rfl⟩
 obtain ⟨d,hd⟩:∃d,d=c.aB (Pl.aQ z c.r.f Q):=⟨_,rfl⟩
 have GD:Hid (Pl.GM d):=hide (by rw [hd,hQ];have q:=Pl.dX z c.r.f _ OQ.o (Pl.bG HG.o);exact HG.o.aB q.1 q.2)
 have qb:0≤Q∧Q≤65535:=by rw [hQ];have:=Pl.aP OQ.o;omega
 obtain ⟨qb0,qb1⟩:=qb
 have ab:=Pl.mO GD.o (z:=z) (m:=m) (k:=k) (e:=e) HB.o.k0 HB.o.k1 HB.o.e0 HB.o.e1
 obtain ⟨a,ha⟩:∃a,a=d.readA z m k e:=⟨_,rfl⟩
 rw [←ha] at ab
 obtain ⟨ab0,ab1⟩:=ab
 obtain ⟨N,hN⟩:∃N,N=(d.slot z m k e).write z m k a Q:=⟨_,rfl⟩
 have ET:Hid (c.gv ⟨op,z,r,m,k,e,s⟩=N):=hide (by rw [hN,ha,hd,hQ];rfl)
 have GS:Hid (Pl.GM (d.slot z m k e)):=hide (GD.o.slot HB.o.k0 HB.o.k1)
 have FS:Hid ((d.slot z m k e).f=Pl.aH):=hide (by rw [hd];unfold Pl.Mc.slot;cases Pl.Mc.gI m<;>exact hf)
 rw [ET.o]
 rw [←hQ] at OQ
 obtain ⟨F,hF⟩:∃F,F=N.f:=⟨_,rfl⟩
 rw [←hF]
 have HN:=hide hN
 have HQ:=hide hQ
 have HD:=hide hd
 have HA:=hide ha
 have HF:=hide hF
 have HM:=hide hm
 clear hQ hd ha hN hF hm
 go_enter func164,ntmps164
 go_wp2_with (first|(go_at_call 197;have z9:=C3;refine (uI _ lo b g (d.slot z m k e) h z m k e a Q C3.o GS.o FS.o HB.o.z HM.o HB.o.k0 HB.o.k1 ab0 ab1 OQ.o).mono ?_;rintro e9 W4 ⟨g',rfl,hc,hs⟩;rw [←HN.o] at hc ⊢;rw [←HF.o];unfold ftC;have C4:=hide hc;have R4:=hide (hs.blk R3.o (by omega) (by omega));have n4:=hs.ne (b:=w.heap.size+1) R3.o.lt (by omega);have S4:=hide (S3.o.trans hs);have r4:=R4.o.all;have rf4:=R4.o.fz;clear hc hs)|(go_at_call 166;have z9:=C2;refine (rQ _ lo b g d h ⟨op,z,r,m,k,e,s⟩ C2.o GD.o HB.o).mono ?_;rintro e9 W3 ⟨rfl,hc,hk⟩;rw [←HA.o];have C3:=hide hc;have R3:=hide (R2.o.kept hk (by omega));have S3:=hide (S2.o.ai hk (Nat.le_refl _) (Nat.le_refl _));clear hc hk)|(go_at_call 196;have z9:=C1;refine (tH _ lo b g c h z Q C1.o qb0 qb1).mono ?_;rintro e9 W2 ⟨rfl,hc,hk⟩;rw [←HD.o] at hc;have C2:=hide hc;have A2:=hide (A1.o.kept hk (by omega));have R2:=hide (R1.o.kept hk (by omega));have S2:=hide (((Since.refl w b (b+1) g).any K1.o).ai hk (Nat.le_refl _) (Nat.le_refl _));have p2:=A2.o.all;clear hc hk)|(go_at_call 194;refine (nT _ lo b g c h z r C0.o HB.o.z HB.o.r0 HB.o.r1).mono ?_;rintro e9 W1 ⟨rfl,k1⟩;rw [←HQ.o];have C1:=hide (C0.o.any k1);have A1:=hide (A0.o.af k1);have R1:=hide (R0.o.af k1);have K1:=hide (K0.o.trans k1);have p1:=A1.o.all;clear k1))
 have KR:=(((((ak W4 (w.heap.size+1) 0 (iv F.v)).one 1 (iv F.pc)).one 2 (iv F.ad)).one 3 (iv F.wo)).one 4 (.bool F.wr))
 refine bodyPost_ret (v:=.agg (ftA F)) ?_ rfl ⟨g',?_,?_,(S4.o).mine KR (by omega)⟩
 ·rw [aj rfl];go_simp
 ·rfl
 ·exact ((C4.o).kept KR (by omega) (by omega))
theorem LC (w:World) (lo b g:Nat) (c:Pl.Mc) (h:Bool) (op z r m k e:Int) (hC:CAt w lo b g c h) (G:Pl.GM c) (hf:c.f=Pl.aH) (B:Pl.InB ⟨op,z,r,m,k,e,0⟩) (hm:m=0∨(2≤m∧m≤6)) :
  Calls prog 165 #[.pointer (some ⟨b,0,none⟩),.agg (inA op z r m k e 0)] w fun e' w'=>∃g',e'=.returned (.agg (ftC (c.ch ⟨op,z,r,m,k,e,0⟩).f))∧CAt w' lo b g' (c.ch ⟨op,z,r,m,k,e,0⟩) h∧Since w b (b+1) g w' g':=by
 have HB:=hide B
 clear B
 obtain ⟨l0,l1,l2,l3,l4⟩:=hC.lt
 have HG:=hide G
 obtain ⟨X,hX,K0,C0,A0,R0,sX⟩:=hC.jh op z r m k e 0
 have p:=A0.o.all
 clear hC G
 have ab:=Pl.mO HG.o (z:=z) (m:=m) (k:=k) (e:=e) HB.o.k0 HB.o.k1 HB.o.e0 HB.o.e1
 obtain ⟨a,ha⟩:∃a,a=c.readA z m k e:=⟨_,rfl⟩
 rw [←ha] at ab
 obtain ⟨ab0,ab1⟩:=ab
 have HA:=hide ha
 obtain ⟨T,U,hW⟩:=kZ m k e
 have HW:=hide hW
 have HM:=hide hm
 clear ha hW hm
 obtain ⟨D,hD⟩:∃D,D=c.slot z m k e:=⟨_,rfl⟩
 obtain ⟨E,hE⟩:∃E,E=D.aB (Pl.aQ z D.r.f 0):=⟨_,rfl⟩
 have O0:Pl.okv z 0=true:=by rcases HB.o.z with h|h<;>(have h':z=_:=h;subst h';rfl)
 have OV2:=hide O0
 have GD:Pl.GM D:=by rw [hD];exact HG.o.slot HB.o.k0 HB.o.k1
 have GE:Hid (Pl.GM E):=hide (by rw [hE];have q:=Pl.dX z D.r.f 0 O0 (Pl.bG GD);exact GD.aB q.1 q.2)
 have FE:Hid (E.f=Pl.aH):=hide (by rw [hE,hD];unfold Pl.Mc.slot;cases Pl.Mc.gI m<;>exact hf)
 obtain ⟨N,hN⟩:∃N,N=E.write z m k a 0:=⟨_,rfl⟩
 have ET:Hid (c.ch ⟨op,z,r,m,k,e,0⟩=N):=hide (by rw [hN,hE,hD,HA.o];rfl)
 rw [ET.o]
 obtain ⟨F,hF⟩:∃F,F=N.f:=⟨_,rfl⟩
 rw [←hF]
 have HD:=hide hD
 have HE:=hide hE
 have HN:=hide hN
 have HF2:=hide hF
 clear hD hE hN hF GD O0
 go_enter func165,ntmps165
 go_wp2_with (first|(go_at_call 197;have z9:=C2;rw [←HW.o];refine (uI _ lo b g E h z m k e a 0 C2.o GE.o FE.o HB.o.z HM.o HB.o.k0 HB.o.k1 ab0 ab1 OV2.o).mono ?_;rintro e9 W3 ⟨g',rfl,hc,hs⟩;rw [←HN.o] at hc ⊢;rw [←HF2.o];try rw [HW.o];unfold ftC;have C3:=hide hc;have R3:=hide (hs.blk R2.o (by omega) (by omega));have n3:=hs.ne (b:=w.heap.size+1) R2.o.lt (by omega);have S3:=hide (S2.o.trans hs);have r3:=R3.o.all;have rf3:=R3.o.fz;clear hc hs)|(go_at_call 196;have z9:=C1;refine (tH _ lo b g D h z 0 C1.o (by decide) (by decide)).mono ?_;rintro e9 W2 ⟨rfl,hc,hk⟩;rw [←HE.o] at hc;have C2:=hide hc;have A2:=hide (A1.o.kept hk (by omega));have R2:=hide (R1.o.kept hk (by omega));have J2:=hide (J1.o.kept hk (by omega));have S2:=hide (S1.o.ai hk (Nat.le_refl _) (Nat.le_refl _));have p2:=A2.o.all;have j2:=J2.o.all;have r2:=R2.o.all;have rf2:=R2.o.fz;clear hc hk)|(go_at_call 166;refine (rQ _ lo b g c h ⟨op,z,r,m,k,e,0⟩ C0.o HG.o HB.o).mono ?_;rintro e9 W1 ⟨rfl,hc,hk⟩;rw [←HA.o,HW.o];rw [←HD.o] at hc;have C1:=hide (hc.alloc (.cells #[.iface T U,iv z,iv a] 176));have A1:=hide ((A0.o.kept hk (by omega)).alloc (.cells #[.iface T U,iv z,iv a] 176));have R1:=hide ((R0.o.kept hk (by omega)).alloc (.cells #[.iface T U,iv z,iv a] 176));have S1:=hide ((((Since.refl w b (b+1) g).any K0.o).ai hk (Nat.le_refl _) (Nat.le_refl _)).alloc (.cells #[.iface T U,iv z,iv a] 176));have J1:=hide (Blk.new W1 #[.iface T U,iv z,iv a] 176);have s1:=hk.size;have p1:=A1.o.all;have j1:=J1.o.all;clear hc hk))
 have KR:=(((((ak W3 (w.heap.size+1) 0 (iv F.v)).one 1 (iv F.pc)).one 2 (iv F.ad)).one 3 (iv F.wo)).one 4 (.bool F.wr))
 refine bodyPost_ret (v:=.agg (ftA F)) ?_ rfl ⟨g',?_,?_,(S3.o).mine KR (by omega)⟩
 ·rw [aj rfl];go_simp
 ·rfl
 ·exact ((C3.o).kept KR (by omega) (by omega))
theorem Lu (w:World) (lo b g:Nat) (c:Pl.Mc) (h:Bool) (op z r m k e:Int) (hC:CAt w lo b g c h) (G:Pl.GM c) (hf:c.f=Pl.aH) (B:Pl.InB ⟨op,z,r,m,k,e,1⟩) (hm:m=0∨(2≤m∧m≤6)) :
  Calls prog 165 #[.pointer (some ⟨b,0,none⟩),.agg (inA op z r m k e 1)] w fun e' w'=>∃g',e'=.returned (.agg (ftC (c.ch ⟨op,z,r,m,k,e,1⟩).f))∧CAt w' lo b g' (c.ch ⟨op,z,r,m,k,e,1⟩) h∧Since w b (b+1) g w' g':=by
 have HB:=hide B
 clear B
 obtain ⟨l0,l1,l2,l3,l4⟩:=hC.lt
 have HG:=hide G
 obtain ⟨X,hX,K0,C0,A0,R0,sX⟩:=hC.jh op z r m k e 1
 have p:=A0.o.all
 clear hC G
 have ab:=Pl.mO HG.o (z:=z) (m:=m) (k:=k) (e:=e) HB.o.k0 HB.o.k1 HB.o.e0 HB.o.e1
 obtain ⟨a,ha⟩:∃a,a=c.readA z m k e:=⟨_,rfl⟩
 rw [←ha] at ab
 obtain ⟨ab0,ab1⟩:=ab
 have HA:=hide ha
 obtain ⟨T,U,hW⟩:=kZ m k e
 have HW:=hide hW
 have HM:=hide hm
 clear ha hW hm
 obtain ⟨D,hD⟩:∃D,D=c.read z m k e:=⟨_,rfl⟩
 obtain ⟨V,hV⟩:∃V,V=c.aY z m k e:=⟨_,rfl⟩
 obtain ⟨F,hF⟩:∃F,F=D.f:=⟨_,rfl⟩
 have GD:Hid (Pl.GM D):=hide (by rw [hD];exact HG.o.read HB.o.z HB.o.k0 HB.o.k1 HB.o.e0 HB.o.e1)
 have OV:Hid (Pl.okv z V=true):=hide (by rw [hV];exact Pl.di HG.o HB.o.z HB.o.k0 HB.o.k1 HB.o.e0 HB.o.e1 (fun q=>by have:=HM.o;omega) HB.o.n7)
 have ET:Hid (c.ch ⟨op,z,r,m,k,e,1⟩=bif !(F.v != 0) then D.ch' z m k a 1 V else D):=hide (by
  show (bif (c.read z m k e).fine then (c.read z m k e).ch' z m k (c.readA z m k e) 1 (c.aY z m k e) else c.read z m k e)=_
  rw [←hD,←hV,hF,←HA.o];unfold Pl.Mc.fine;simp [bne])
 have HD:=hide hD
 have HV:=hide hV
 have HF:=hide hF
 clear hD hV hF
 go_enter func165,ntmps165
 go_wp2_with (first|(go_at_call 192;have z9:=C1;have hr:=yG _ lo b g c h z m k e C1.o HG.o hf HB.o.z HB.o.m0 HB.o.m1 HB.o.k0 HB.o.k1 HB.o.e0 HB.o.e1;rw [HW.o,←HA.o] at hr;refine hr.mono ?_;clear hr;rintro e9 W2 ⟨g',rfl,hc,hs⟩;rw [←HD.o] at hc ⊢;rw [←HV.o,←HF.o];unfold ftC;have C2:=hide (hc.alloc (.cells (ftA F) 49));have A2:=hide ((hs.blk A1.o (by omega) (by omega)).alloc (.cells (ftA F) 49));have R2:=hide ((hs.blk R1.o (by omega) (by omega)).alloc (.cells (ftA F) 49));have J2:=hide ((hs.blk J1.o (by omega) (by have:=J1.o.lt;omega)).alloc (.cells (ftA F) 49));have S2:=hide ((S1.o.trans hs).alloc (.cells (ftA F) 49));have L2:=hide (Blk.new W2 (ftA F) 49);have z2:=hs.size;have n2:=hs.ne (b:=w.heap.size+1) R1.o.lt (by omega);have m2:=hs.ne (b:=w.heap.size) A1.o.lt (by omega);have o2:=hs.ne (b:=W1.heap.size) J1.o.lt (by omega);clear hc hs)|(go_at_call 166;refine (rQ _ lo b g c h ⟨op,z,r,m,k,e,1⟩ C0.o HG.o HB.o).mono ?_;rintro e9 W1 ⟨rfl,hc,hk⟩;rw [←HA.o];rw [HW.o];have C1:=hide (hc.alloc (.cells #[.iface T U,iv z,iv a] 176));have A1:=hide ((A0.o.kept hk (by omega)).alloc (.cells #[.iface T U,iv z,iv a] 176));have R1:=hide ((R0.o.kept hk (by omega)).alloc (.cells #[.iface T U,iv z,iv a] 176));have S1:=hide ((((Since.refl w b (b+1) g).any K0.o).ai hk (Nat.le_refl _) (Nat.le_refl _)).alloc (.cells #[.iface T U,iv z,iv a] 176));have J1:=hide (Blk.new W1 #[.iface T U,iv z,iv a] 176);have s1:=hk.size;have p1:=A1.o.all;have j1:=J1.o.all;clear hc hk))
 refine (gu F _).mono ?_
 rintro e9 W4 ⟨rfl,kf⟩
 have C4:=hide (C2.o.any kf)
 have A4:=hide (A2.o.af kf)
 have R4:=hide (R2.o.af kf)
 have L4:=hide (L2.o.af kf)
 have S4:=hide (S2.o.any kf)
 have p4:=A4.o.all
 have q4:=L4.o.all
 have r4:=R4.o.all
 have rf4:=R4.o.fz
 have J4:=hide (J2.o.af kf)
 have j4:=J4.o.all
 clear kf
 clear hX p p1 j1
 have b4:=C4.o.cF
 have bz4:=C4.o.fz
 have tv:=Pl.aP OV.o
 obtain ⟨tv0,tv1⟩:0≤V∧V≤65535:=by omega
 cases hv:(F.v != 0)
 ·have E1:Hid (c.ch ⟨op,z,r,m,k,e,1⟩=D.ch' z m k a 1 V):=hide (by rw [ET.o,hv];rfl)
  have DF:Hid (D.f=Pl.aH):=hide (Pl.qW hf HD.o (by rw [←HF.o];exact hv))
  obtain ⟨V2,hV2⟩:∃v,v=Pl.chV 1 z V:=⟨_,rfl⟩
  have OV2:Hid (Pl.okv z V2=true):=hide (by rw [hV2];exact Pl.DV HB.o.z OV.o)
  have tw:=Pl.aP OV2.o
  obtain ⟨tw0,tw1⟩:0≤V2∧V2≤65535:=by omega
  obtain ⟨FL,hFL⟩:∃v,v=Pl.chF 1 z D.r.f V:=⟨_,rfl⟩
  have fl:0≤FL∧FL≤31:=by rw [hFL];exact Pl.Cc HB.o.z OV.o (Pl.bG GD.o)
  obtain ⟨E,hE⟩:∃E,E=D.aB FL:=⟨_,rfl⟩
  have GE:Hid (Pl.GM E):=hide (by rw [hE];exact GD.o.aB fl.1 fl.2)
  have FE:Hid (E.f=Pl.aH):=hide (by rw [hE];exact DF.o)
  obtain ⟨N,hN⟩:∃N,N=E.write z m k a V2:=⟨_,rfl⟩
  have E2:Hid (D.ch' z m k a 1 V=N):=hide (by rw [hN,hE,hFL,hV2];rfl)
  obtain ⟨F2,hF2⟩:∃F,F=N.f:=⟨_,rfl⟩
  have HN:=hide hN
  have HF2:=hide hF2
  have HE:=hide hE
  have e1:Pl.kQ z 0 0 V=V2:=hV2.symm
  have e2:Pl.gz z 0 0 V=FL:=hFL.symm
  clear hE hFL hV2 hN hF2 fl tw tv
  have C5:Hid (CAt (W4.setCell ⟨b,10,none⟩ (iv FL)) lo b g' E h):=hide (by rw [HE.o];exact C4.o.aB FL)
  have R5:=hide (R4.o.other b 10 (iv FL) (by omega))
  have S5:=hide (S4.o.set b 10 (iv FL) (.inl (by omega)))
  have p5:=(A4.o.other b 10 (iv FL) (by omega)).all
  have j5:=(J4.o.other b 10 (iv FL) (by omega)).all
  go_wp2_with (first|(go_at_call 197;have z9:=C5;rw [←HW.o];refine (uI _ lo b g' E h z m k e a V2 C5.o GE.o FE.o HB.o.z HM.o HB.o.k0 HB.o.k1 ab0 ab1 OV2.o).mono ?_;rintro e9 W6 ⟨g6,rfl,hc,hs⟩;rw [←HN.o] at hc ⊢;rw [←HF2.o];try rw [HW.o];unfold ftC;have C6:=hide hc;have R6:=hide (hs.blk R5.o (by omega) (by omega));have n6:=hs.ne (b:=w.heap.size+1) R5.o.lt (by omega);have S6:=hide (S5.o.trans hs);have r6:=R6.o.all;have rf6:=R6.o.fz;clear hc hs)|(go_at_call 198;refine st (IE _ _ _ (by omega) (by omega)) ?_;rw [e1,e2]))
  have KR:=(((((ak W6 (w.heap.size+1) 0 (iv F2.v)).one 1 (iv F2.pc)).one 2 (iv F2.ad)).one 3 (iv F2.wo)).one 4 (.bool F2.wr))
  refine bodyPost_ret (v:=.agg (ftA F2)) ?_ rfl ⟨g6,?_,?_,(S6.o).mine KR (by omega)⟩
  ·rw [aj rfl];go_simp
  ·rw [E1.o,E2.o,←HF2.o];rfl
  ·rw [E1.o,E2.o];exact ((C6.o).kept KR (by omega) (by omega))
 ·have E1:Hid (c.ch ⟨op,z,r,m,k,e,1⟩=D):=hide (by rw [ET.o,hv];rfl)
  go_wp2_with fail
  have KR:=(((((ak W4 (w.heap.size+1) 0 (iv F.v)).one 1 (iv F.pc)).one 2 (iv F.ad)).one 3 (iv F.wo)).one 4 (.bool F.wr))
  refine bodyPost_ret (v:=.agg (ftA F)) ?_ rfl ⟨g',?_,?_,(S4.o).mine KR (by omega)⟩
  ·rw [aj rfl];go_simp
  ·rw [E1.o,←HF.o];rfl
  ·rw [E1.o];exact ((C4.o).kept KR (by omega) (by omega))
theorem Lt (w:World) (lo b g:Nat) (c:Pl.Mc) (h:Bool) (op z r m k e:Int) (hC:CAt w lo b g c h) (G:Pl.GM c) (hf:c.f=Pl.aH) (B:Pl.InB ⟨op,z,r,m,k,e,2⟩) (hm:m=0∨(2≤m∧m≤6)) :
  Calls prog 165 #[.pointer (some ⟨b,0,none⟩),.agg (inA op z r m k e 2)] w fun e' w'=>∃g',e'=.returned (.agg (ftC (c.ch ⟨op,z,r,m,k,e,2⟩).f))∧CAt w' lo b g' (c.ch ⟨op,z,r,m,k,e,2⟩) h∧Since w b (b+1) g w' g':=by
 have HB:=hide B
 clear B
 obtain ⟨l0,l1,l2,l3,l4⟩:=hC.lt
 have HG:=hide G
 obtain ⟨X,hX,K0,C0,A0,R0,sX⟩:=hC.jh op z r m k e 2
 have p:=A0.o.all
 clear hC G
 have ab:=Pl.mO HG.o (z:=z) (m:=m) (k:=k) (e:=e) HB.o.k0 HB.o.k1 HB.o.e0 HB.o.e1
 obtain ⟨a,ha⟩:∃a,a=c.readA z m k e:=⟨_,rfl⟩
 rw [←ha] at ab
 obtain ⟨ab0,ab1⟩:=ab
 have HA:=hide ha
 obtain ⟨T,U,hW⟩:=kZ m k e
 have HW:=hide hW
 have HM:=hide hm
 clear ha hW hm
 obtain ⟨D,hD⟩:∃D,D=c.read z m k e:=⟨_,rfl⟩
 obtain ⟨V,hV⟩:∃V,V=c.aY z m k e:=⟨_,rfl⟩
 obtain ⟨F,hF⟩:∃F,F=D.f:=⟨_,rfl⟩
 have GD:Hid (Pl.GM D):=hide (by rw [hD];exact HG.o.read HB.o.z HB.o.k0 HB.o.k1 HB.o.e0 HB.o.e1)
 have OV:Hid (Pl.okv z V=true):=hide (by rw [hV];exact Pl.di HG.o HB.o.z HB.o.k0 HB.o.k1 HB.o.e0 HB.o.e1 (fun q=>by have:=HM.o;omega) HB.o.n7)
 have ET:Hid (c.ch ⟨op,z,r,m,k,e,2⟩=bif !(F.v != 0) then D.ch' z m k a 2 V else D):=hide (by
  show (bif (c.read z m k e).fine then (c.read z m k e).ch' z m k (c.readA z m k e) 2 (c.aY z m k e) else c.read z m k e)=_
  rw [←hD,←hV,hF,←HA.o];unfold Pl.Mc.fine;simp [bne])
 have HD:=hide hD
 have HV:=hide hV
 have HF:=hide hF
 clear hD hV hF
 go_enter func165,ntmps165
 go_wp2_with (first|(go_at_call 192;have z9:=C1;have hr:=yG _ lo b g c h z m k e C1.o HG.o hf HB.o.z HB.o.m0 HB.o.m1 HB.o.k0 HB.o.k1 HB.o.e0 HB.o.e1;rw [HW.o,←HA.o] at hr;refine hr.mono ?_;clear hr;rintro e9 W2 ⟨g',rfl,hc,hs⟩;rw [←HD.o] at hc ⊢;rw [←HV.o,←HF.o];unfold ftC;have C2:=hide (hc.alloc (.cells (ftA F) 49));have A2:=hide ((hs.blk A1.o (by omega) (by omega)).alloc (.cells (ftA F) 49));have R2:=hide ((hs.blk R1.o (by omega) (by omega)).alloc (.cells (ftA F) 49));have J2:=hide ((hs.blk J1.o (by omega) (by have:=J1.o.lt;omega)).alloc (.cells (ftA F) 49));have S2:=hide ((S1.o.trans hs).alloc (.cells (ftA F) 49));have L2:=hide (Blk.new W2 (ftA F) 49);have z2:=hs.size;have n2:=hs.ne (b:=w.heap.size+1) R1.o.lt (by omega);have m2:=hs.ne (b:=w.heap.size) A1.o.lt (by omega);have o2:=hs.ne (b:=W1.heap.size) J1.o.lt (by omega);clear hc hs)|(go_at_call 166;refine (rQ _ lo b g c h ⟨op,z,r,m,k,e,2⟩ C0.o HG.o HB.o).mono ?_;rintro e9 W1 ⟨rfl,hc,hk⟩;rw [←HA.o];rw [HW.o];have C1:=hide (hc.alloc (.cells #[.iface T U,iv z,iv a] 176));have A1:=hide ((A0.o.kept hk (by omega)).alloc (.cells #[.iface T U,iv z,iv a] 176));have R1:=hide ((R0.o.kept hk (by omega)).alloc (.cells #[.iface T U,iv z,iv a] 176));have S1:=hide ((((Since.refl w b (b+1) g).any K0.o).ai hk (Nat.le_refl _) (Nat.le_refl _)).alloc (.cells #[.iface T U,iv z,iv a] 176));have J1:=hide (Blk.new W1 #[.iface T U,iv z,iv a] 176);have s1:=hk.size;have p1:=A1.o.all;have j1:=J1.o.all;clear hc hk))
 refine (gu F _).mono ?_
 rintro e9 W4 ⟨rfl,kf⟩
 have C4:=hide (C2.o.any kf)
 have A4:=hide (A2.o.af kf)
 have R4:=hide (R2.o.af kf)
 have L4:=hide (L2.o.af kf)
 have S4:=hide (S2.o.any kf)
 have p4:=A4.o.all
 have q4:=L4.o.all
 have r4:=R4.o.all
 have rf4:=R4.o.fz
 have J4:=hide (J2.o.af kf)
 have j4:=J4.o.all
 clear kf
 clear hX p p1 j1
 have b4:=C4.o.cF
 have bz4:=C4.o.fz
 have tv:=Pl.aP OV.o
 obtain ⟨tv0,tv1⟩:0≤V∧V≤65535:=by omega
 cases hv:(F.v != 0)
 ·have E1:Hid (c.ch ⟨op,z,r,m,k,e,2⟩=D.ch' z m k a 2 V):=hide (by rw [ET.o,hv];rfl)
  have DF:Hid (D.f=Pl.aH):=hide (Pl.qW hf HD.o (by rw [←HF.o];exact hv))
  obtain ⟨V2,hV2⟩:∃v,v=Pl.chV 2 z V:=⟨_,rfl⟩
  have OV2:Hid (Pl.okv z V2=true):=hide (by rw [hV2];exact Pl.DV HB.o.z OV.o)
  have tw:=Pl.aP OV2.o
  obtain ⟨tw0,tw1⟩:0≤V2∧V2≤65535:=by omega
  obtain ⟨FL,hFL⟩:∃v,v=Pl.chF 2 z D.r.f V:=⟨_,rfl⟩
  have fl:0≤FL∧FL≤31:=by rw [hFL];exact Pl.Cc HB.o.z OV.o (Pl.bG GD.o)
  obtain ⟨E,hE⟩:∃E,E=D.aB FL:=⟨_,rfl⟩
  have GE:Hid (Pl.GM E):=hide (by rw [hE];exact GD.o.aB fl.1 fl.2)
  have FE:Hid (E.f=Pl.aH):=hide (by rw [hE];exact DF.o)
  obtain ⟨N,hN⟩:∃N,N=E.write z m k a V2:=⟨_,rfl⟩
  have E2:Hid (D.ch' z m k a 2 V=N):=hide (by rw [hN,hE,hFL,hV2];rfl)
  obtain ⟨F2,hF2⟩:∃F,F=N.f:=⟨_,rfl⟩
  have HN:=hide hN
  have HF2:=hide hF2
  have HE:Hid (E=D.aB (Pl.aQ z D.r.f V2)):=hide (by rw [hE,hFL,hV2];rfl)
  have ex:bits .xor .i64 V (Pl.top z-1)=V2:=by rw [hV2];exact Pl.MK HB.o.z OV.o
  clear hE hFL hV2 hN hF2 fl tw tv
  go_wp2_with (first|(go_at_call 197;have z9:=C5;rw [←HW.o];refine (uI _ lo b g' E h z m k e a V2 C5.o GE.o FE.o HB.o.z HM.o HB.o.k0 HB.o.k1 ab0 ab1 OV2.o).mono ?_;rintro e9 W6 ⟨g6,rfl,hc,hs⟩;rw [←HN.o] at hc ⊢;rw [←HF2.o];try rw [HW.o];unfold ftC;have C6:=hide hc;have R6:=hide (hs.blk R5.o (by omega) (by omega));have n6:=hs.ne (b:=w.heap.size+1) R5.o.lt (by omega);have S6:=hide (S5.o.trans hs);have r6:=R6.o.all;have rf6:=R6.o.fz;clear hc hs)|(go_at_call 196;refine (tH _ lo b g' D h z V2 C4.o tw0 tw1).mono ?_;rintro e9 W5 ⟨rfl,hc,hk⟩;rw [←HE.o] at hc;have C5:=hide hc;have A5:=hide (A4.o.kept hk (by omega));have R5:=hide (R4.o.kept hk (by omega));have J5:=hide (J4.o.kept hk (by omega));have S5:=hide (S4.o.ai hk (Nat.le_refl _) (Nat.le_refl _));have p5:=A5.o.all;have j5:=J5.o.all;have r5:=R5.o.all;have rf5:=R5.o.fz;clear hc hk)|(go_at_call 199;refine st (Iz _ _ HB.o.z) ?_))
  have KR:=(((((ak W6 (w.heap.size+1) 0 (iv F2.v)).one 1 (iv F2.pc)).one 2 (iv F2.ad)).one 3 (iv F2.wo)).one 4 (.bool F2.wr))
  refine bodyPost_ret (v:=.agg (ftA F2)) ?_ rfl ⟨g6,?_,?_,(S6.o).mine KR (by omega)⟩
  ·rw [aj rfl];go_simp
  ·rw [E1.o,E2.o,←HF2.o];rfl
  ·rw [E1.o,E2.o];exact ((C6.o).kept KR (by omega) (by omega))
 ·have E1:Hid (c.ch ⟨op,z,r,m,k,e,2⟩=D):=hide (by rw [ET.o,hv];rfl)
  go_wp2_with fail
  have KR:=(((((ak W4 (w.heap.size+1) 0 (iv F.v)).one 1 (iv F.pc)).one 2 (iv F.ad)).one 3 (iv F.wo)).one 4 (.bool F.wr))
  refine bodyPost_ret (v:=.agg (ftA F)) ?_ rfl ⟨g',?_,?_,(S4.o).mine KR (by omega)⟩
  ·rw [aj rfl];go_simp
  ·rw [E1.o,←HF.o];rfl
  ·rw [E1.o];exact ((C4.o).kept KR (by omega) (by omega))
theorem Ls (w:World) (lo b g:Nat) (c:Pl.Mc) (h:Bool) (op z r m k e:Int) (hC:CAt w lo b g c h) (G:Pl.GM c) (hf:c.f=Pl.aH) (B:Pl.InB ⟨op,z,r,m,k,e,3⟩) (hm:m=0∨(2≤m∧m≤6)) :
  Calls prog 165 #[.pointer (some ⟨b,0,none⟩),.agg (inA op z r m k e 3)] w fun e' w'=>∃g',e'=.returned (.agg (ftC (c.ch ⟨op,z,r,m,k,e,3⟩).f))∧CAt w' lo b g' (c.ch ⟨op,z,r,m,k,e,3⟩) h∧Since w b (b+1) g w' g':=by
 have HB:=hide B
 clear B
 obtain ⟨l0,l1,l2,l3,l4⟩:=hC.lt
 have HG:=hide G
 obtain ⟨X,hX,K0,C0,A0,R0,sX⟩:=hC.jh op z r m k e 3
 have p:=A0.o.all
 clear hC G
 have ab:=Pl.mO HG.o (z:=z) (m:=m) (k:=k) (e:=e) HB.o.k0 HB.o.k1 HB.o.e0 HB.o.e1
 obtain ⟨a,ha⟩:∃a,a=c.readA z m k e:=⟨_,rfl⟩
 rw [←ha] at ab
 obtain ⟨ab0,ab1⟩:=ab
 have HA:=hide ha
 obtain ⟨T,U,hW⟩:=kZ m k e
 have HW:=hide hW
 have HM:=hide hm
 clear ha hW hm
 obtain ⟨D,hD⟩:∃D,D=c.read z m k e:=⟨_,rfl⟩
 obtain ⟨V,hV⟩:∃V,V=c.aY z m k e:=⟨_,rfl⟩
 obtain ⟨F,hF⟩:∃F,F=D.f:=⟨_,rfl⟩
 have GD:Hid (Pl.GM D):=hide (by rw [hD];exact HG.o.read HB.o.z HB.o.k0 HB.o.k1 HB.o.e0 HB.o.e1)
 have OV:Hid (Pl.okv z V=true):=hide (by rw [hV];exact Pl.di HG.o HB.o.z HB.o.k0 HB.o.k1 HB.o.e0 HB.o.e1 (fun q=>by have:=HM.o;omega) HB.o.n7)
 have ET:Hid (c.ch ⟨op,z,r,m,k,e,3⟩=bif !(F.v != 0) then D.ch' z m k a 3 V else D):=hide (by
  show (bif (c.read z m k e).fine then (c.read z m k e).ch' z m k (c.readA z m k e) 3 (c.aY z m k e) else c.read z m k e)=_
  rw [←hD,←hV,hF,←HA.o];unfold Pl.Mc.fine;simp [bne])
 have HD:=hide hD
 have HV:=hide hV
 have HF:=hide hF
 clear hD hV hF
 go_enter func165,ntmps165
 go_wp2_with (first|(go_at_call 192;have z9:=C1;have hr:=yG _ lo b g c h z m k e C1.o HG.o hf HB.o.z HB.o.m0 HB.o.m1 HB.o.k0 HB.o.k1 HB.o.e0 HB.o.e1;rw [HW.o,←HA.o] at hr;refine hr.mono ?_;clear hr;rintro e9 W2 ⟨g',rfl,hc,hs⟩;rw [←HD.o] at hc ⊢;rw [←HV.o,←HF.o];unfold ftC;have C2:=hide (hc.alloc (.cells (ftA F) 49));have A2:=hide ((hs.blk A1.o (by omega) (by omega)).alloc (.cells (ftA F) 49));have R2:=hide ((hs.blk R1.o (by omega) (by omega)).alloc (.cells (ftA F) 49));have J2:=hide ((hs.blk J1.o (by omega) (by have:=J1.o.lt;omega)).alloc (.cells (ftA F) 49));have S2:=hide ((S1.o.trans hs).alloc (.cells (ftA F) 49));have L2:=hide (Blk.new W2 (ftA F) 49);have z2:=hs.size;have n2:=hs.ne (b:=w.heap.size+1) R1.o.lt (by omega);have m2:=hs.ne (b:=w.heap.size) A1.o.lt (by omega);have o2:=hs.ne (b:=W1.heap.size) J1.o.lt (by omega);clear hc hs)|(go_at_call 166;refine (rQ _ lo b g c h ⟨op,z,r,m,k,e,3⟩ C0.o HG.o HB.o).mono ?_;rintro e9 W1 ⟨rfl,hc,hk⟩;rw [←HA.o];rw [HW.o];have C1:=hide (hc.alloc (.cells #[.iface T U,iv z,iv a] 176));have A1:=hide ((A0.o.kept hk (by omega)).alloc (.cells #[.iface T U,iv z,iv a] 176));have R1:=hide ((R0.o.kept hk (by omega)).alloc (.cells #[.iface T U,iv z,iv a] 176));have S1:=hide ((((Since.refl w b (b+1) g).any K0.o).ai hk (Nat.le_refl _) (Nat.le_refl _)).alloc (.cells #[.iface T U,iv z,iv a] 176));have J1:=hide (Blk.new W1 #[.iface T U,iv z,iv a] 176);have s1:=hk.size;have p1:=A1.o.all;have j1:=J1.o.all;clear hc hk))
 refine (gu F _).mono ?_
 rintro e9 W4 ⟨rfl,kf⟩
 have C4:=hide (C2.o.any kf)
 have A4:=hide (A2.o.af kf)
 have R4:=hide (R2.o.af kf)
 have L4:=hide (L2.o.af kf)
 have S4:=hide (S2.o.any kf)
 have p4:=A4.o.all
 have q4:=L4.o.all
 have r4:=R4.o.all
 have rf4:=R4.o.fz
 have J4:=hide (J2.o.af kf)
 have j4:=J4.o.all
 clear kf
 clear hX p p1 j1
 have b4:=C4.o.cF
 have bz4:=C4.o.fz
 have tv:=Pl.aP OV.o
 obtain ⟨tv0,tv1⟩:0≤V∧V≤65535:=by omega
 cases hv:(F.v != 0)
 ·have E1:Hid (c.ch ⟨op,z,r,m,k,e,3⟩=D.ch' z m k a 3 V):=hide (by rw [ET.o,hv];rfl)
  have DF:Hid (D.f=Pl.aH):=hide (Pl.qW hf HD.o (by rw [←HF.o];exact hv))
  obtain ⟨V2,hV2⟩:∃v,v=Pl.chV 3 z V:=⟨_,rfl⟩
  have OV2:Hid (Pl.okv z V2=true):=hide (by rw [hV2];exact Pl.DV HB.o.z OV.o)
  have tw:=Pl.aP OV2.o
  obtain ⟨tw0,tw1⟩:0≤V2∧V2≤65535:=by omega
  obtain ⟨FL,hFL⟩:∃v,v=Pl.chF 3 z D.r.f V:=⟨_,rfl⟩
  have fl:0≤FL∧FL≤31:=by rw [hFL];exact Pl.Cc HB.o.z OV.o (Pl.bG GD.o)
  obtain ⟨E,hE⟩:∃E,E=D.aB FL:=⟨_,rfl⟩
  have GE:Hid (Pl.GM E):=hide (by rw [hE];exact GD.o.aB fl.1 fl.2)
  have FE:Hid (E.f=Pl.aH):=hide (by rw [hE];exact DF.o)
  have E2:Hid (D.ch' z m k a 3 V=E):=hide (by rw [hE,hFL];rfl)
  have HE:Hid (E=D.aB (Pl.aQ z D.r.f V)):=hide (by rw [hE,hFL];rfl)
  clear hE hFL hV2 fl tw tv
  go_wp2_with (first|(go_at_call 196;refine (tH _ lo b g' D h z V C4.o tv0 tv1).mono ?_;rintro e9 W5 ⟨rfl,hc,hk⟩;rw [←HE.o] at hc;have C5:=hide hc;have A5:=hide (A4.o.kept hk (by omega));have R5:=hide (R4.o.kept hk (by omega));have J5:=hide (J4.o.kept hk (by omega));have S5:=hide (S4.o.ai hk (Nat.le_refl _) (Nat.le_refl _));have p5:=A5.o.all;have j5:=J5.o.all;have r5:=R5.o.all;have rf5:=R5.o.fz;clear hc hk))
  have KR:=(((((ak W5 (w.heap.size+1) 0 (iv 0)).one 1 (iv 0)).one 2 (iv 0)).one 3 (iv 0)).one 4 (.bool false))
  refine bodyPost_ret (v:=.agg ftZ) ?_ rfl ⟨g',?_,?_,(S5.o).mine KR (by omega)⟩
  ·rw [aj rfl];go_simp
  ·rw [E1.o,E2.o,FE.o];rfl
  ·rw [E1.o,E2.o];exact ((C5.o).kept KR (by omega) (by omega))
 ·have E1:Hid (c.ch ⟨op,z,r,m,k,e,3⟩=D):=hide (by rw [ET.o,hv];rfl)
  go_wp2_with fail
  have KR:=(((((ak W4 (w.heap.size+1) 0 (iv F.v)).one 1 (iv F.pc)).one 2 (iv F.ad)).one 3 (iv F.wo)).one 4 (.bool F.wr))
  refine bodyPost_ret (v:=.agg (ftA F)) ?_ rfl ⟨g',?_,?_,(S4.o).mine KR (by omega)⟩
  ·rw [aj rfl];go_simp
  ·rw [E1.o,←HF.o];rfl
  ·rw [E1.o];exact ((C4.o).kept KR (by omega) (by omega))
end Go.Proofs.YtkkmnnhaailkcaaGreatDoor
