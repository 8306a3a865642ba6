/- Part 4 of what the last text leans on. -/
import Derived.Test.YtkkmnnhaailkcaaGreatDoorJA1
import Derived.Maps.AppendAt
import Derived.Laws.AppendOwnNone
import Derived.Deep.RegionLawGrows
set_option maxRecDepth 100000
set_option maxHeartbeats 16000000
namespace Go.Proofs.YtkkmnnhaailkcaaGreatDoor
open Go.RowKit Go.Proofs.Tryz
set_option linter.unusedVariables false
theorem FN (w : World) (ga oa gb ob : Nat) (ca cb m : Nat) (xs ys : List Int) (ha : aI w (some ⟨ga, oa, none⟩) xs) (hb : aI w (some ⟨gb, ob, none⟩) ys) (lx : xs.length ≤ 2000000) (ly : ys.length = 5 * m) (bm : m ≤ 2000000) (x0 : 0 < xs.length) (m0 : 0 < m) :
    Calls prog 65 #[.agg #[.slice (some ⟨ga, oa, none⟩) xs.length ca, .slice (some ⟨gb, ob, none⟩) m cb]] w fun e w' => ∃ (g1 c1 g2 c2 : Nat), e = .returned (.agg #[.slice (some ⟨g1, 0, none⟩) xs.length c1, .slice (some ⟨g2, 0, none⟩) m c2]) ∧ w'.ownsRow w.heap.size 3 1 (.slice (some ⟨g1, 0, none⟩) xs.length c1) xs.length (xs.map (Value.int .i64)) ∧ w'.ownsRow w.heap.size 119 5 (.slice (some ⟨g2, 0, none⟩) m c2) m (ys.map (Value.int .i64)) ∧ g1 < g2 ∧ Kept 0 0 w w' := by
  obtain ⟨i, hi, hz0, hz1, hz2⟩ := info_parts Tryz.info3
  obtain ⟨j, hj, hy0, hy1, hy2⟩ := info_parts Tryz.jY
  have HY := hide ly
  have HA := hide ha
  have HB := hide hb
  have K0 := hide (ah (kept_alloc w (.cells #[.slice (some ⟨ga, oa, none⟩) xs.length ca, .slice (some ⟨gb, ob, none⟩) m cb] 34)) (.cells #[.slice none 0 0, .slice none 0 0] 34))
  have B0 := hide ((Blk.new w #[.slice (some ⟨ga, oa, none⟩) xs.length ca, .slice (some ⟨gb, ob, none⟩) m cb] 34).alloc (.cells #[.slice none 0 0, .slice none 0 0] 34))
  have B1 := Blk.new (w.alloc (.cells #[.slice (some ⟨ga, oa, none⟩) xs.length ca, .slice (some ⟨gb, ob, none⟩) m cb] 34)) #[.slice none 0 0, .slice none 0 0] 34
  simp only [World.size_alloc] at B1
  replace B1 := hide B1
  have hn5 : (ys.map (Value.int .i64)).length = m * 5 := by rw [List.length_map, ly]; omega
  have hmx : 0 + m ≤ maxLen := by unfold maxLen; omega
  have hby : (0 + m) * 40 ≤ 140737488355328 := by omega
  have HX1 : Hid ((xs.map (Value.int .i64)).length = xs.length * 1) := hide (by simp)
  have HXM : Hid (0 + xs.length ≤ maxLen) := hide (by unfold maxLen; omega)
  have HXB : Hid ((0 + xs.length) * 8 ≤ 140737488355328) := hide (by omega)
  have H5 : Hid (0 < 5) := hide (by decide)
  have HN5 := hide hn5
  have HMX := hide hmx
  have HBY := hide hby
  clear ly ha hb hn5 hmx hby
  go_enter func65, ntmps65
  go_wp2_with fail
  go_region_law (first
    | (refine step_append_grows rfl (.tmp 3) (.tmp 5) 22 rfl 3 i (iv 0) 1 8 underlying22 hi hz0 hz1 hz2 rfl Nat.one_pos _ 0 0 [] rfl ?n1 rfl ?n2 ⟨ga, oa, none⟩ xs.length ca (xs.map (Value.int .i64)) rfl HX1.o ?news iH ?n3 HXM.o HXB.o ?_
       (case n1 => intro h; cases h)
       (case n2 => intro b _ j u h; simp at h)
       (case n3 => omega)
       (case news => first | exact iO (HA.o.ai (ae (ah K0.o _))) | exact iO (HA.o.ai (ae (ah (ah K0.o _) _))))
       intro v1 w1 own1 gr1
       obtain ⟨g1, c1, rfl, b1, l1⟩ := rC own1 (by omega)
       have k1 := bW (bP gr1)
       have O1 := hide (own_base (base' := w.heap.size) own1 (by simp <;> omega))
       have B01 : Hid (Blk w1 w.heap.size #[.slice (some ⟨ga, oa, none⟩) xs.length ca, .slice (some ⟨gb, ob, none⟩) m cb] 34) := by first | exact hide (((B0.o.alloc _).af k1)) | exact hide ((((B0.o.alloc _).alloc _).af k1))
       have B11 : Hid (Blk w1 (w.heap.size + 1) #[.slice none 0 0, .slice none 0 0] 34) := by first | exact hide (((B1.o.alloc _).af k1)) | exact hide ((((B1.o.alloc _).alloc _).af k1))
       have K1 : Hid (Kept 0 0 w w1) := by first | exact hide ((ah K0.o _).trans k1) | exact hide ((ah (ah K0.o _) _).trans k1)
       have q1 := B01.o.cell (i := 1) rfl
       have q2 : ∀ o, (w1.alloc o).cell? ⟨w.heap.size, 1, none⟩ = some (.slice (some ⟨gb, ob, none⟩) m cb) := fun o => (B01.o.alloc o).cell (i := 1) rfl
       simp at b1
       clear own1 gr1 k1)
    | (refine step_append_grows rfl (.tmp 7) (.tmp 9) 32 rfl 119 j (.agg #[iv 0, iv 0, iv 0, iv 0, iv 0]) 5 40 underlying32 hj hy0 hy1 hy2 rfl H5.o _ 0 0 [] rfl ?n1 rfl ?n2 ⟨gb, ob, none⟩ m cb (ys.map (Value.int .i64)) rfl HN5.o ?news iH ?n3 HMX.o HBY.o ?_
       (case n1 => intro h; cases h)
       (case n2 => intro b _ j u h; simp at h)
       (case n3 => omega)
       (case news => first | exact iO (HB.o.ai K1.o) | exact iO (HB.o.ai (ah K1.o _)))
       intro v2 w2 own2 gr2
       obtain ⟨g2, c2, rfl, b2, l2⟩ := rC own2 (by omega)
       have k2 := bP gr2
       have O2 := hide (own_base (base' := w.heap.size) own2 (by have := K1.o.size; simp <;> omega))
       have B12 : Hid (Blk w2 (w.heap.size + 1) #[.slice none 0 0, .slice none 0 0] 34) := by first | exact hide (B11.o.af k2) | exact hide ((B11.o.alloc _).af k2)
       have K2 : Hid (Kept 0 0 w w2) := by first | exact hide (K1.o.trans k2) | exact hide ((ah K1.o _).trans k2)
       have O12 : Hid (w2.ownsRow w.heap.size 3 1 (.slice (some ⟨g1, 0, none⟩) (0 + xs.length) c1) (0 + xs.length) ([] ++ xs.map (Value.int .i64))) := by first | exact hide (O1.o.kept gr2 (.inr (fun h => by cases h))) | exact hide ((O1.o.alloc _).kept gr2 (.inr (fun h => by cases h)))
       have r0 := B12.o.cell (i := 0) rfl
       have r1 := B12.o.cell (i := 1) rfl
       have f0 := B12.o.frozen 0
       have f1 := B12.o.frozen 1
       clear own2 gr2 k2))
  all_goals
    try simp only [World.size_alloc] at b2
    go_wp2_with fail
    refine bodyPost_ret (v := .agg #[.slice (some ⟨g1, 0, none⟩) xs.length c1, .slice (some ⟨g2, 0, none⟩) m c2]) ?_ rfl ⟨g1, c1, g2, c2, rfl, ?_, ?_, by omega, ?_⟩
    · rw [aj rfl]; go_simp
    · have h := O12.o
      simp only [Nat.zero_add, List.nil_append] at h
      exact ((h.kept (grownBy_set _ _ _ _) (.inr (fun e => by have h2 : g1 = w.heap.size + 1 := Option.some.inj e; omega))).kept (grownBy_set _ _ _ _) (.inr (fun e => by have h2 : g1 = w.heap.size + 1 := Option.some.inj e; omega)))
    · have h := O2.o
      simp only [Nat.zero_add, List.nil_append] at h
      exact ((h.kept (grownBy_set _ _ _ _) (.inr (fun e => by have h2 : g2 = w.heap.size + 1 := Option.some.inj e; omega))).kept (grownBy_set _ _ _ _) (.inr (fun e => by have h2 : g2 = w.heap.size + 1 := Option.some.inj e; omega)))
    · exact ag (ag K2.o _ _ _ (.inr (by omega))) _ _ _ (.inr (by omega))
structure FrP (P:Nat→Prop) (w w':World):Prop where
 os:w'.os=w.os
 tape:w'.tape=w.tape
 output:w'.output=w.output
 size:w.heap.size≤w'.heap.size
 block:∀k,k<w.heap.size→¬P k→w'.heap[k]? = w.heap[k]?
theorem FrP.refl (P:Nat→Prop) (w:World):FrP P w w:=⟨rfl,rfl,rfl,Nat.le_refl _,fun _ _ _=>rfl⟩
theorem FrP.trans {P:Nat→Prop} {a b c:World} (h:FrP P a b) (k:FrP P b c):FrP P a c:=
 ⟨k.os.trans h.os,k.tape.trans h.tape,k.output.trans h.output,Nat.le_trans h.size k.size,fun i hi hn=>(k.block i (Nat.lt_of_lt_of_le hi h.size) hn).trans (h.block i hi hn)⟩
theorem FrP.wide {P Q:Nat→Prop} {a b:World} (h:FrP P a b) (hq:∀k,k<a.heap.size→P k→Q k):FrP Q a b:=
 ⟨h.os,h.tape,h.output,h.size,fun k hk hn=>h.block k hk (fun hp=>hn (hq k hk hp))⟩
theorem jZ {P:Nat→Prop} {lo hi:Nat} {w w':World} (h:Kept lo hi w w') (hp:∀k,lo≤k→k<hi→P k):FrP P w w':=
 ⟨h.os,h.tape,h.output,h.size,fun k hk hn=>h.block k hk (fun q=>hn (hp k q.1 q.2))⟩
theorem FrP.alloc {P:Nat→Prop} {a w:World} (h:FrP P a w) (o:Obj):FrP P a (w.alloc o):=h.trans (jZ (kept_alloc w o) (by omega))
theorem FrP.drew {P:Nat→Prop} {a w:World} (h:FrP P a w):FrP P a w.drew:=⟨h.os,h.tape,h.output,h.size,h.block⟩
theorem FrP.grown {P:Nat→Prop} {a w w':World} {row:Option Nat} (h:FrP P a w) (hg:w.grownBy w' row) (hr:∀g,row=some g→P g):FrP P a w':=
 h.trans ⟨hg.os,hg.tape,hg.output,hg.size,fun k hk hn=>hg.block k hk (fun e=>hn (hr k e.symm))⟩
theorem FrP.set {P:Nat→Prop} {a w:World} (h:FrP P a w) (b i:Nat) (v:Value) (hb:P b∨a.heap.size≤b):FrP P a (w.setCell ⟨b,i,none⟩ v):=
 ⟨h.os,h.tape,h.output,Nat.le_trans h.size (by simp),fun k hk hn=>(Below.heap_setCell w ⟨b,i,none⟩ v k (fun e=>by
  have e2:k=b:=e
  subst e2
  rcases hb with hb|hb
  ·exact hn hb
  ·omega)).trans (h.block k hk hn)⟩
theorem FrP.blk {P:Nat→Prop} {w w':World} (h:FrP P w w') {b:Nat} {cs:Array Value} {ty:TypeId} (hB:Blk w b cs ty) (hn:¬P b):Blk w' b cs ty:=(h.block b hB.lt hn).trans hB
theorem FrP.own {P:Nat→Prop} {w w':World} (h:FrP P w w') {b:Nat} {xs:List Int} (hB:Own w b xs) (hn:¬P b):Own w' b xs:=by
 intro i hi
 obtain ⟨hc,hf⟩:=hB i hi
 have e:=h.block b (World.block_lt_of_cell? _ _ hc) hn
 exact ⟨by rw [World.cell?_of_block (w:=w) e];exact hc,by rw [World.frozen?_of_block (w:=w) e];exact hf⟩
def own (lo hi g k:Nat):Prop:=(lo≤k∧k<hi)∨k=g
def Since (w:World) (lo hi g:Nat) (w':World) (g':Nat):Prop:=(g'=g∨w.heap.size≤g')∧FrP (own lo hi g) w w'
theorem Since.refl (w:World) (lo hi g:Nat):Since w lo hi g w g:=⟨.inl rfl,FrP.refl _ _⟩
theorem Since.size {w w':World} {lo hi g g':Nat} (h:Since w lo hi g w' g'):w.heap.size≤w'.heap.size:=h.2.size
theorem Since.trans {w a b:World} {lo hi g ga gb:Nat} (h:Since w lo hi g a ga) (k:Since a lo hi ga b gb):Since w lo hi g b gb:=by
 refine ⟨?_,?_⟩
 ·have:=h.2.size
  rcases k.1 with e|e
  ·rcases h.1 with e2|e2
   ·exact .inl (e.trans e2)
   ·exact .inr (by omega)
  ·exact .inr (by omega)
 ·refine ⟨k.2.os.trans h.2.os,k.2.tape.trans h.2.tape,k.2.output.trans h.2.output,Nat.le_trans h.2.size k.2.size,fun i hi hn=>(k.2.block i (Nat.lt_of_lt_of_le hi h.2.size) (fun q=>hn ?_)).trans (h.2.block i hi hn)⟩
  rcases q with q|q
  ·exact .inl q
  ·rcases h.1 with e|e
   ·exact .inr (by omega)
   ·omega
theorem Since.alloc {w a:World} {lo hi g g':Nat} (h:Since w lo hi g a g') (o:Obj):Since w lo hi g (a.alloc o) g':=⟨h.1,h.2.alloc o⟩
theorem Since.drew {w a:World} {lo hi g g':Nat} (h:Since w lo hi g a g'):Since w lo hi g a.drew g':=⟨h.1,h.2.drew⟩
theorem Since.set {w a:World} {lo hi g g':Nat} (h:Since w lo hi g a g') (b i:Nat) (v:Value) (hb:(lo≤b∧b<hi)∨w.heap.size≤b):Since w lo hi g (a.setCell ⟨b,i,none⟩ v) g':=
 ⟨h.1,h.2.set b i v (by rcases hb with q|q;exact .inl (.inl q);exact .inr q)⟩
theorem Since.ai {w a b:World} {lo hi x y g g':Nat} (h:Since w lo hi g a g') (k:Kept x y a b) (hx:lo≤x) (hy:y≤hi):Since w lo hi g b g':=⟨h.1,h.2.trans (jZ k (fun i h1 h2=>.inl (by omega)))⟩
theorem Since.any {w a b:World} {lo hi g g':Nat} (h:Since w lo hi g a g') (k:Kept 0 0 a b):Since w lo hi g b g':=⟨h.1,h.2.trans (jZ k (by omega))⟩
theorem Since.blk {w w':World} {lo hi g g':Nat} (h:Since w lo hi g w' g') {b:Nat} {cs:Array Value} {ty:TypeId} (hB:Blk w b cs ty) (hb:hi≤b) (hn:b≠g):Blk w' b cs ty:=h.2.blk hB (by unfold own;omega)
theorem Since.ne {w w':World} {lo hi g g':Nat} (h:Since w lo hi g w' g') {b:Nat} (hb:b<w.heap.size) (hn:b≠g):b≠g':=by rcases h.1 with e|e<;>omega
end Go.Proofs.YtkkmnnhaailkcaaGreatDoor
