/- Part 3 of what the last text leans on. -/
import Derived.Test.YtkkmnnhaailkcaaGreatDoorJB1
import Derived.Maps.AppendAt
import Derived.Laws.AppendOwnNone
import Derived.Deep.RegionLawGrows
import Derived.Deep.AppendLies
import Derived.Deep.DeepCutAuto
import Derived.Test.YtkkmnnhaailkcaaGreatDoorJB2
set_option maxRecDepth 100000
set_option maxHeartbeats 16000000
namespace Go.Proofs.YtkkmnnhaailkcaaGreatDoor
open Go.RowKit Go.Proofs.Tryz
set_option linter.unusedVariables false
theorem F6 (w : World) (ga oa gb ob : Nat) (ca cb m : Nat) (xs ys : List Int) (ha : aJ w (some ⟨ga, oa, none⟩) xs) (hb : aJ w (some ⟨gb, ob, none⟩) ys) (lx : xs.length ≤ 2000000) (ly : ys.length = 5 * m) (bm : m ≤ 2000000) (x0 : 0 < xs.length) (m0 : 0 < m) :
    Calls prog 65 #[.agg #[.slice (some ⟨ga, oa, none⟩) xs.length ca, .slice (some ⟨gb, ob, none⟩) m cb]] w fun e w' => ∃ (g1 c1 g2 c2 : Nat), e = .returned (.agg #[.slice (some ⟨g1, 0, none⟩) xs.length c1, .slice (some ⟨g2, 0, none⟩) m c2]) ∧ w'.ownsRow w.heap.size 3 1 (.slice (some ⟨g1, 0, none⟩) xs.length c1) xs.length (xs.map (Value.int .i64)) ∧ w'.ownsRow w.heap.size 119 5 (.slice (some ⟨g2, 0, none⟩) m c2) m (ys.map (Value.int .i64)) ∧ g1 < g2 ∧ Kept 0 0 w w' := by
  obtain ⟨i, hi, hz0, hz1, hz2⟩ := info_parts Tryz.info3
  obtain ⟨j, hj, hy0, hy1, hy2⟩ := info_parts Tryz.kz
  have HY := hide ly
  have HA := hide ha
  have HB := hide hb
  have K0 := hide (ah (kept_alloc w (.cells #[.slice (some ⟨ga, oa, none⟩) xs.length ca, .slice (some ⟨gb, ob, none⟩) m cb] 34)) (.cells #[.slice none 0 0, .slice none 0 0] 34))
  have B0 := hide ((Blk.new w #[.slice (some ⟨ga, oa, none⟩) xs.length ca, .slice (some ⟨gb, ob, none⟩) m cb] 34).alloc (.cells #[.slice none 0 0, .slice none 0 0] 34))
  have B1 := Blk.new (w.alloc (.cells #[.slice (some ⟨ga, oa, none⟩) xs.length ca, .slice (some ⟨gb, ob, none⟩) m cb] 34)) #[.slice none 0 0, .slice none 0 0] 34
  simp only [World.size_alloc] at B1
  replace B1 := hide B1
  have hn5 : (ys.map (Value.int .i64)).length = m * 5 := by rw [List.length_map, ly]; omega
  have hmx : 0 + m ≤ maxLen := by unfold maxLen; omega
  have hby : (0 + m) * 40 ≤ 140737488355328 := by omega
  have HX1 : Hid ((xs.map (Value.int .i64)).length = xs.length * 1) := hide (by simp)
  have HXM : Hid (0 + xs.length ≤ maxLen) := hide (by unfold maxLen; omega)
  have HXB : Hid ((0 + xs.length) * 8 ≤ 140737488355328) := hide (by omega)
  have H5 : Hid (0 < 5) := hide (by decide)
  have HN5 := hide hn5
  have HMX := hide hmx
  have HBY := hide hby
  clear ly ha hb hn5 hmx hby
  go_enter func65, ntmps65
  go_wp2_with fail
  go_region_law (first
    | (refine step_append_grows rfl (.tmp 3) (.tmp 5) 22 rfl 3 i (iv 0) 1 8 underlying22 hi hz0 hz1 hz2 rfl Nat.one_pos _ 0 0 [] rfl ?n1 rfl ?n2 ⟨ga, oa, none⟩ xs.length ca (xs.map (Value.int .i64)) rfl HX1.o ?news iL ?n3 HXM.o HXB.o ?_
       (case n1 => intro h; cases h)
       (case n2 => intro b _ j u h; simp at h)
       (case n3 => omega)
       (case news => first | exact iU (HA.o.ai (ae (ah K0.o _))) | exact iU (HA.o.ai (ae (ah (ah K0.o _) _))))
       intro v1 w1 own1 gr1
       obtain ⟨g1, c1, rfl, b1, l1⟩ := rJ own1 (by omega)
       have k1 := cZ (bU gr1)
       have O1 := hide (own_base (base' := w.heap.size) own1 (by simp <;> omega))
       have B01 : Hid (Blk w1 w.heap.size #[.slice (some ⟨ga, oa, none⟩) xs.length ca, .slice (some ⟨gb, ob, none⟩) m cb] 34) := by first | exact hide (((B0.o.alloc _).af k1)) | exact hide ((((B0.o.alloc _).alloc _).af k1))
       have B11 : Hid (Blk w1 (w.heap.size + 1) #[.slice none 0 0, .slice none 0 0] 34) := by first | exact hide (((B1.o.alloc _).af k1)) | exact hide ((((B1.o.alloc _).alloc _).af k1))
       have K1 : Hid (Kept 0 0 w w1) := by first | exact hide ((ah K0.o _).trans k1) | exact hide ((ah (ah K0.o _) _).trans k1)
       have q1 := B01.o.cell (i := 1) rfl
       have q2 : ∀ o, (w1.alloc o).cell? ⟨w.heap.size, 1, none⟩ = some (.slice (some ⟨gb, ob, none⟩) m cb) := fun o => (B01.o.alloc o).cell (i := 1) rfl
       simp at b1
       clear own1 gr1 k1)
    | (refine step_append_grows rfl (.tmp 7) (.tmp 9) 32 rfl 119 j (.agg #[iv 0, iv 0, iv 0, iv 0, iv 0]) 5 40 underlying32 hj hy0 hy1 hy2 rfl H5.o _ 0 0 [] rfl ?n1 rfl ?n2 ⟨gb, ob, none⟩ m cb (ys.map (Value.int .i64)) rfl HN5.o ?news iL ?n3 HMX.o HBY.o ?_
       (case n1 => intro h; cases h)
       (case n2 => intro b _ j u h; simp at h)
       (case n3 => omega)
       (case news => first | exact iU (HB.o.ai K1.o) | exact iU (HB.o.ai (ah K1.o _)))
       intro v2 w2 own2 gr2
       obtain ⟨g2, c2, rfl, b2, l2⟩ := rJ own2 (by omega)
       have k2 := bU gr2
       have O2 := hide (own_base (base' := w.heap.size) own2 (by have := K1.o.size; simp <;> omega))
       have B12 : Hid (Blk w2 (w.heap.size + 1) #[.slice none 0 0, .slice none 0 0] 34) := by first | exact hide (B11.o.af k2) | exact hide ((B11.o.alloc _).af k2)
       have K2 : Hid (Kept 0 0 w w2) := by first | exact hide (K1.o.trans k2) | exact hide ((ah K1.o _).trans k2)
       have O12 : Hid (w2.ownsRow w.heap.size 3 1 (.slice (some ⟨g1, 0, none⟩) (0 + xs.length) c1) (0 + xs.length) ([] ++ xs.map (Value.int .i64))) := by first | exact hide (O1.o.kept gr2 (.inr (fun h => by cases h))) | exact hide ((O1.o.alloc _).kept gr2 (.inr (fun h => by cases h)))
       have r0 := B12.o.cell (i := 0) rfl
       have r1 := B12.o.cell (i := 1) rfl
       have f0 := B12.o.frozen 0
       have f1 := B12.o.frozen 1
       clear own2 gr2 k2))
  all_goals
    try simp only [World.size_alloc] at b2
    go_wp2_with fail
    refine bodyPost_ret (v := .agg #[.slice (some ⟨g1, 0, none⟩) xs.length c1, .slice (some ⟨g2, 0, none⟩) m c2]) ?_ rfl ⟨g1, c1, g2, c2, rfl, ?_, ?_, by omega, ?_⟩
    · rw [aj rfl]; go_simp
    · have h := O12.o
      simp only [Nat.zero_add, List.nil_append] at h
      exact ((h.kept (grownBy_set _ _ _ _) (.inr (fun e => by have h2 : g1 = w.heap.size + 1 := Option.some.inj e; omega))).kept (grownBy_set _ _ _ _) (.inr (fun e => by have h2 : g1 = w.heap.size + 1 := Option.some.inj e; omega)))
    · have h := O2.o
      simp only [Nat.zero_add, List.nil_append] at h
      exact ((h.kept (grownBy_set _ _ _ _) (.inr (fun e => by have h2 : g2 = w.heap.size + 1 := Option.some.inj e; omega))).kept (grownBy_set _ _ _ _) (.inr (fun e => by have h2 : g2 = w.heap.size + 1 := Option.some.inj e; omega)))
    · exact ag (ag K2.o _ _ _ (.inr (by omega))) _ _ _ (.inr (by omega))
structure FrP (P:Nat→Prop) (w w':World):Prop where
 os:w'.os=w.os
 tape:w'.tape=w.tape
 output:w'.output=w.output
 size:w.heap.size≤w'.heap.size
 block:∀k,k<w.heap.size→¬P k→w'.heap[k]? = w.heap[k]?
theorem FrP.refl (P:Nat→Prop) (w:World):FrP P w w:=⟨rfl,rfl,rfl,Nat.le_refl _,fun _ _ _=>rfl⟩
theorem FrP.trans {P:Nat→Prop} {a b c:World} (h:FrP P a b) (k:FrP P b c):FrP P a c:=
 ⟨k.os.trans h.os,k.tape.trans h.tape,k.output.trans h.output,Nat.le_trans h.size k.size,fun i hi hn=>(k.block i (Nat.lt_of_lt_of_le hi h.size) hn).trans (h.block i hi hn)⟩
theorem FrP.wide {P Q:Nat→Prop} {a b:World} (h:FrP P a b) (hq:∀k,k<a.heap.size→P k→Q k):FrP Q a b:=
 ⟨h.os,h.tape,h.output,h.size,fun k hk hn=>h.block k hk (fun hp=>hn (hq k hk hp))⟩
theorem kC {P:Nat→Prop} {lo hi:Nat} {w w':World} (h:Kept lo hi w w') (hp:∀k,lo≤k→k<hi→P k):FrP P w w':=
 ⟨h.os,h.tape,h.output,h.size,fun k hk hn=>h.block k hk (fun q=>hn (hp k q.1 q.2))⟩
theorem FrP.alloc {P:Nat→Prop} {a w:World} (h:FrP P a w) (o:Obj):FrP P a (w.alloc o):=h.trans (kC (kept_alloc w o) (by omega))
theorem FrP.drew {P:Nat→Prop} {a w:World} (h:FrP P a w):FrP P a w.drew:=⟨h.os,h.tape,h.output,h.size,h.block⟩
theorem FrP.grown {P:Nat→Prop} {a w w':World} {row:Option Nat} (h:FrP P a w) (hg:w.grownBy w' row) (hr:∀g,row=some g→P g):FrP P a w':=
 h.trans ⟨hg.os,hg.tape,hg.output,hg.size,fun k hk hn=>hg.block k hk (fun e=>hn (hr k e.symm))⟩
theorem FrP.set {P:Nat→Prop} {a w:World} (h:FrP P a w) (b i:Nat) (v:Value) (hb:P b∨a.heap.size≤b):FrP P a (w.setCell ⟨b,i,none⟩ v):=
 ⟨h.os,h.tape,h.output,Nat.le_trans h.size (by simp),fun k hk hn=>(Below.heap_setCell w ⟨b,i,none⟩ v k (fun e=>by
  have e2:k=b:=e
  subst e2
  rcases hb with hb|hb
  ·exact hn hb
  ·omega)).trans (h.block k hk hn)⟩
theorem FrP.blk {P:Nat→Prop} {w w':World} (h:FrP P w w') {b:Nat} {cs:Array Value} {ty:TypeId} (hB:Blk w b cs ty) (hn:¬P b):Blk w' b cs ty:=(h.block b hB.lt hn).trans hB
theorem FrP.own {P:Nat→Prop} {w w':World} (h:FrP P w w') {b:Nat} {xs:List Int} (hB:Own w b xs) (hn:¬P b):Own w' b xs:=by
 intro i hi
 obtain ⟨hc,hf⟩:=hB i hi
 have e:=h.block b (World.block_lt_of_cell? _ _ hc) hn
 exact ⟨by rw [World.cell?_of_block (w:=w) e];exact hc,by rw [World.frozen?_of_block (w:=w) e];exact hf⟩
def own (lo hi g k:Nat):Prop:=(lo≤k∧k<hi)∨k=g
def Since (w:World) (lo hi g:Nat) (w':World) (g':Nat):Prop:=(g'=g∨w.heap.size≤g')∧FrP (own lo hi g) w w'
theorem Since.refl (w:World) (lo hi g:Nat):Since w lo hi g w g:=⟨.inl rfl,FrP.refl _ _⟩
theorem Since.size {w w':World} {lo hi g g':Nat} (h:Since w lo hi g w' g'):w.heap.size≤w'.heap.size:=h.2.size
theorem Since.trans {w a b:World} {lo hi g ga gb:Nat} (h:Since w lo hi g a ga) (k:Since a lo hi ga b gb):Since w lo hi g b gb:=by
 refine ⟨?_,?_⟩
 ·have:=h.2.size
  rcases k.1 with e|e
  ·rcases h.1 with e2|e2
   ·exact .inl (e.trans e2)
   ·exact .inr (by omega)
  ·exact .inr (by omega)
 ·refine ⟨k.2.os.trans h.2.os,k.2.tape.trans h.2.tape,k.2.output.trans h.2.output,Nat.le_trans h.2.size k.2.size,fun i hi hn=>(k.2.block i (Nat.lt_of_lt_of_le hi h.2.size) (fun q=>hn ?_)).trans (h.2.block i hi hn)⟩
  rcases q with q|q
  ·exact .inl q
  ·rcases h.1 with e|e
   ·exact .inr (by omega)
   ·omega
theorem Since.alloc {w a:World} {lo hi g g':Nat} (h:Since w lo hi g a g') (o:Obj):Since w lo hi g (a.alloc o) g':=⟨h.1,h.2.alloc o⟩
theorem Since.drew {w a:World} {lo hi g g':Nat} (h:Since w lo hi g a g'):Since w lo hi g a.drew g':=⟨h.1,h.2.drew⟩
theorem Since.set {w a:World} {lo hi g g':Nat} (h:Since w lo hi g a g') (b i:Nat) (v:Value) (hb:(lo≤b∧b<hi)∨w.heap.size≤b):Since w lo hi g (a.setCell ⟨b,i,none⟩ v) g':=
 ⟨h.1,h.2.set b i v (by rcases hb with q|q;exact .inl (.inl q);exact .inr q)⟩
theorem Since.ai {w a b:World} {lo hi x y g g':Nat} (h:Since w lo hi g a g') (k:Kept x y a b) (hx:lo≤x) (hy:y≤hi):Since w lo hi g b g':=⟨h.1,h.2.trans (kC k (fun i h1 h2=>.inl (by omega)))⟩
theorem Since.any {w a b:World} {lo hi g g':Nat} (h:Since w lo hi g a g') (k:Kept 0 0 a b):Since w lo hi g b g':=⟨h.1,h.2.trans (kC k (by omega))⟩
theorem Since.blk {w w':World} {lo hi g g':Nat} (h:Since w lo hi g w' g') {b:Nat} {cs:Array Value} {ty:TypeId} (hB:Blk w b cs ty) (hb:hi≤b) (hn:b≠g):Blk w' b cs ty:=h.2.blk hB (by unfold own;omega)
theorem Since.ne {w w':World} {lo hi g g':Nat} (h:Since w lo hi g w' g') {b:Nat} (hb:b<w.heap.size) (hn:b≠g):b≠g':=by rcases h.1 with e|e<;>omega
theorem Pl.iG {m:Nat} {k s a C:Int} (hC:C=Pl.code k s a) {b1 b2 b3:Bool} (h1:decide ((m:Int)<400)=b1) (h2:(k != 3)=b2) (h3:(C != 0)=b3):Pl.logs m k s a=(b1&&(b2||b3)):=by
 have e:decide (m<400)=decide ((m:Int)<400):=by rw [Bool.eq_iff_iff];simp;omega
 unfold Pl.logs
 rw [←hC,h2,h3,e,h1]
theorem OI (w:World) (p base g1 g2:Nat) (d0 d1 d2 d3 d4 d5 d6 d7 d10 d11 d12 d13 d14 d15:Value) (xs ys:List Int) (c1 m c2:Nat) (k s a C:Int) (hP:Blk w p #[d0,d1,d2,d3,d4,d5,d6,d7,.slice (some ⟨g1,0,none⟩) 512 c1,.slice (some ⟨g2,0,none⟩) m c2,d10,d11,d12,d13,d14,d15] 105) (h1:Own w g1 xs) (lx:xs.length=512) (hby:Pl.bJ xs=true)
  (hO:w.ownsRow base 119 5 (.slice (some ⟨g2,0,none⟩) m c2) m (ys.map (Value.int .i64))) (hp:base≤p) (hg:base≤g1) (n1:p≠g1) (n2:p≠g2) (n3:g1≠g2) (bm:m≤400) (HC:Hid (C=Pl.code k s a)) (hc:(C==0)=false) (hs1:1≤s) (hs2:s≤2) (a0:0≤a) (a1:a≤65535) (hk:(k != 2)=true) :
  Calls prog 127 #[.pointer (some ⟨p,8,none⟩),iv k,iv s,iv a,iv 0] w fun e w'=>∃g3 c3:Nat,e=.returned (.tuple #[iv (Pl.lv xs k s a 0),iv (Pl.code k s a)])∧
   Blk w' p #[d0,d1,d2,d3,d4,d5,d6,d7,.slice (some ⟨g1,0,none⟩) 512 c1,.slice (some ⟨g3,0,none⟩) (Pl.nm m k s a) c3,d10,d11,d12,d13,d14,d15] 105∧Own w' g1 (Pl.nb xs k s a 0)∧w'.ownsRow base 119 5 (.slice (some ⟨g3,0,none⟩) (Pl.nm m k s a) c3) (Pl.nm m k s a) ((Pl.nl xs ys m k s a 0).map (Value.int .i64))∧(g3=g2∨w.heap.size≤g3)∧FrP (fun k=>k=p∨k=g1∨k=g2) w w':=by
 obtain ⟨i,hi0,hz0,hz1,hz2⟩:=info_parts Tryz.kz
 have hcode:¬Pl.code k s a=0:=by rw [←HC.o];simpa using hc
 have E1:Hid (xs=Pl.nb xs k s a 0):=hide (by unfold Pl.nb;rw [if_neg (fun h=>hcode h.1)])
 have E2:Hid (0=Pl.lv xs k s a 0):=hide (by unfold Pl.lv;rw [if_neg (fun h=>hcode h.1)])
 clear hcode
 have PX:=hide hP
 have EX:=hide h1
 have OX:=hide hO
 have KX:=hide (FrP.refl (fun k=>k=p∨k=g1∨k=g2) w)
 have wW:=lx
 have t0:=hP.cell (i:=8) rfl
 have t1:=hP.cell (i:=9) rfl
 clear hP h1 hO lx hby
 have g4:(C != 0)=true:=by simpa using hc
 cases gm:decide ((m:Int)<400)
 ·cases g3:(k != 3)
  ·have HL:Hid (Pl.logs m k s a=false):=hide (Pl.iG HC.o gm g3 g4)
   have hnm:Hid (Pl.nm m k s a=m):=hide (by unfold Pl.nm;rw [HL.o];rfl)
   have hnl:Hid (Pl.nl xs ys m k s a 0=ys):=hide (by unfold Pl.nl;rw [HL.o];rfl)
   go_enter func127,ntmps127
   go_wp2_with (go_at_call 173;refine st (nP k s a _ hs1 hs2 a0 a1) ?_;rw [←HC.o])
   go_ret2
   exact ⟨g2,c2,rII E2.o HC.o,by rw [hnm.o];exact PX.o,by rw [←E1.o];exact EX.o,by rw [hnm.o,hnl.o];exact OX.o,.inl rfl,KX.o⟩
  ·have HL:Hid (Pl.logs m k s a=false):=hide (Pl.iG HC.o gm g3 g4)
   have hnm:Hid (Pl.nm m k s a=m):=hide (by unfold Pl.nm;rw [HL.o];rfl)
   have hnl:Hid (Pl.nl xs ys m k s a 0=ys):=hide (by unfold Pl.nl;rw [HL.o];rfl)
   go_enter func127,ntmps127
   go_wp2_with (go_at_call 173;refine st (nP k s a _ hs1 hs2 a0 a1) ?_;rw [←HC.o])
   go_ret2
   exact ⟨g2,c2,rII E2.o HC.o,by rw [hnm.o];exact PX.o,by rw [←E1.o];exact EX.o,by rw [hnm.o,hnl.o];exact OX.o,.inl rfl,KX.o⟩
 ·cases g3:(k != 3)
  ·have HL:Hid (Pl.logs m k s a=true):=hide (Pl.iG HC.o gm g3 g4)
   have H63:Hid (m+1≤maxLen):=hide (by unfold maxLen;simp at gm;omega)
   have HBT:Hid ((m+1)*40≤140737488355328):=hide (by simp at gm;omega)
   have hnm:Hid (Pl.nm m k s a=m+1):=hide (by unfold Pl.nm;rw [HL.o];rfl)
   have hnl:Hid (Pl.nl xs ys m k s a 0=ys++([k,s,(a:Int),0,C]:List Int)):=hide (by unfold Pl.nl;rw [HL.o,←HC.o,←E2.o];rfl)
   go_enter func127,ntmps127
   go_wp2_with (first|(go_at_call 173;refine st (nP k s a _ hs1 hs2 a0 a1) ?_;rw [←HC.o])|(at_builtin;refine wpList_append_lies _ rfl _ _ _ rfl base 119 i _ 5 40 underlying32 hi0 hz0 hz1 hz2 rfl (by omega) (.slice (some ⟨g2,0,none⟩) m c2) m (ys.map (Value.int .i64)) rfl (OX.o.alloc _) ⟨w.heap.size,0,none⟩ 1 1 [iv k,iv s,iv a,iv 0,iv C] rfl rfl (World.news_of_block (cs:=#[iv k,iv s,iv a,iv 0,iv C]) (t:=119) (fr:=(0,0)) (heap_alloc_new w _)) (by simp [Value.oneCell']) (by omega) H63.o HBT.o (by have:=PX.o.lt;simp;omega) (w.heap.size+1) (by simp) ?_))
   intro g3 c3 w1 hown1 hgrow hat hlt
   have lp:=PX.o.lt
   have lg:=EX.o.lt (by rw [wW];decide)
   obtain ⟨lg2,lg3⟩:=OX.o.lt g2 rfl
   have P1:Hid (Blk w1 p #[d0,d1,d2,d3,d4,d5,d6,d7,.slice (some ⟨g1,0,none⟩) 512 c1,.slice (some ⟨g2,0,none⟩) m c2,d10,d11,d12,d13,d14,d15] 105):=hide ((hgrow.block p (by simp;omega) (by simp [Value.ownBlock];omega)).trans (PX.o.alloc _))
   have G1:Hid (Own w1 g1 xs):=hide ((EX.o.ai (kept_alloc _ _) (by omega)).kept hgrow (by simp [Value.ownBlock];omega))
   have y0:=P1.o.cell (i:=8) rfl
   have y1:=P1.o.cell (i:=9) rfl
   have f1:=P1.o.frozen 9
   have O1:=hide hown1
   have K1:Hid (FrP (fun k=>k=p∨k=g1∨k=g2) w w1):=hide ((KX.o.alloc _).grown hgrow (by intro g hg;have h2:g2=g:=Option.some.inj hg;exact .inr (.inr h2.symm)))
   have hsz:=KX.o.size
   have hat2:g2=g3∨g3=w.heap.size+1:=by
    rcases hat with h|h
    ·exact .inl (Option.some.inj h)
    ·exact .inr h
   clear hown1 hgrow hat
   go_wp2_with fail
   go_ret2
   refine ⟨g3,c3,rII E2.o HC.o,by rw [hnm.o];exact P1.o.set 9 _,by rw [←E1.o];exact G1.o.setOther _ _ _ (by omega),?_,by omega,K1.o.set _ _ _ (.inl (.inl rfl))⟩
   rw [hnl.o,hnm.o,List.map_append]
   exact O1.o.kept (grownBy_set _ _ _ _) (.inr (fun e=>by have h3:g3=p:=Option.some.inj e;omega))
  ·have HL:Hid (Pl.logs m k s a=true):=hide (Pl.iG HC.o gm g3 g4)
   have H63:Hid (m+1≤maxLen):=hide (by unfold maxLen;simp at gm;omega)
   have HBT:Hid ((m+1)*40≤140737488355328):=hide (by simp at gm;omega)
   have hnm:Hid (Pl.nm m k s a=m+1):=hide (by unfold Pl.nm;rw [HL.o];rfl)
   have hnl:Hid (Pl.nl xs ys m k s a 0=ys++([k,s,(a:Int),0,C]:List Int)):=hide (by unfold Pl.nl;rw [HL.o,←HC.o,←E2.o];rfl)
   go_enter func127,ntmps127
   go_wp2_with (first|(go_at_call 173;refine st (nP k s a _ hs1 hs2 a0 a1) ?_;rw [←HC.o])|(at_builtin;refine wpList_append_lies _ rfl _ _ _ rfl base 119 i _ 5 40 underlying32 hi0 hz0 hz1 hz2 rfl (by omega) (.slice (some ⟨g2,0,none⟩) m c2) m (ys.map (Value.int .i64)) rfl (OX.o.alloc _) ⟨w.heap.size,0,none⟩ 1 1 [iv k,iv s,iv a,iv 0,iv C] rfl rfl (World.news_of_block (cs:=#[iv k,iv s,iv a,iv 0,iv C]) (t:=119) (fr:=(0,0)) (heap_alloc_new w _)) (by simp [Value.oneCell']) (by omega) H63.o HBT.o (by have:=PX.o.lt;simp;omega) (w.heap.size+1) (by simp) ?_))
   intro g3 c3 w1 hown1 hgrow hat hlt
   have lp:=PX.o.lt
   have lg:=EX.o.lt (by rw [wW];decide)
   obtain ⟨lg2,lg3⟩:=OX.o.lt g2 rfl
   have P1:Hid (Blk w1 p #[d0,d1,d2,d3,d4,d5,d6,d7,.slice (some ⟨g1,0,none⟩) 512 c1,.slice (some ⟨g2,0,none⟩) m c2,d10,d11,d12,d13,d14,d15] 105):=hide ((hgrow.block p (by simp;omega) (by simp [Value.ownBlock];omega)).trans (PX.o.alloc _))
   have G1:Hid (Own w1 g1 xs):=hide ((EX.o.ai (kept_alloc _ _) (by omega)).kept hgrow (by simp [Value.ownBlock];omega))
   have y0:=P1.o.cell (i:=8) rfl
   have y1:=P1.o.cell (i:=9) rfl
   have f1:=P1.o.frozen 9
   have O1:=hide hown1
   have K1:Hid (FrP (fun k=>k=p∨k=g1∨k=g2) w w1):=hide ((KX.o.alloc _).grown hgrow (by intro g hg;have h2:g2=g:=Option.some.inj hg;exact .inr (.inr h2.symm)))
   have hsz:=KX.o.size
   have hat2:g2=g3∨g3=w.heap.size+1:=by
    rcases hat with h|h
    ·exact .inl (Option.some.inj h)
    ·exact .inr h
   clear hown1 hgrow hat
   go_wp2_with fail
   go_ret2
   refine ⟨g3,c3,rII E2.o HC.o,by rw [hnm.o];exact P1.o.set 9 _,by rw [←E1.o];exact G1.o.setOther _ _ _ (by omega),?_,by omega,K1.o.set _ _ _ (.inl (.inl rfl))⟩
   rw [hnl.o,hnm.o,List.map_append]
   exact O1.o.kept (grownBy_set _ _ _ _) (.inr (fun e=>by have h3:g3=p:=Option.some.inj e;omega))
theorem OH (w:World) (p base g1 g2:Nat) (d0 d1 d2 d3 d4 d5 d6 d7 d10 d11 d12 d13 d14 d15:Value) (xs ys:List Int) (c1 m c2:Nat) (s a v C:Int) (hP:Blk w p #[d0,d1,d2,d3,d4,d5,d6,d7,.slice (some ⟨g1,0,none⟩) 512 c1,.slice (some ⟨g2,0,none⟩) m c2,d10,d11,d12,d13,d14,d15] 105) (h1:Own w g1 xs) (lx:xs.length=512) (hby:Pl.bJ xs=true)
  (hO:w.ownsRow base 119 5 (.slice (some ⟨g2,0,none⟩) m c2) m (ys.map (Value.int .i64))) (hp:base≤p) (hg:base≤g1) (n1:p≠g1) (n2:p≠g2) (n3:g1≠g2) (bm:m≤400) (HC:Hid (C=Pl.code 2 s a)) (hc:(C==0)=false) (hs1:1≤s) (hs2:s≤2) (a0:0≤a) (a1:a≤65535) :
  Calls prog 127 #[.pointer (some ⟨p,8,none⟩),iv 2,iv s,iv a,iv v] w fun e w'=>∃g3 c3:Nat,e=.returned (.tuple #[iv (Pl.lv xs 2 s a v),iv (Pl.code 2 s a)])∧
   Blk w' p #[d0,d1,d2,d3,d4,d5,d6,d7,.slice (some ⟨g1,0,none⟩) 512 c1,.slice (some ⟨g3,0,none⟩) (Pl.nm m 2 s a) c3,d10,d11,d12,d13,d14,d15] 105∧Own w' g1 (Pl.nb xs 2 s a v)∧w'.ownsRow base 119 5 (.slice (some ⟨g3,0,none⟩) (Pl.nm m 2 s a) c3) (Pl.nm m 2 s a) ((Pl.nl xs ys m 2 s a v).map (Value.int .i64))∧(g3=g2∨w.heap.size≤g3)∧FrP (fun k=>k=p∨k=g1∨k=g2) w w':=by
 obtain ⟨i,hi0,hz0,hz1,hz2⟩:=info_parts Tryz.kz
 have hcode:¬Pl.code 2 s a=0:=by rw [←HC.o];simpa using hc
 have E1:Hid (xs=Pl.nb xs 2 s a v):=hide (by unfold Pl.nb;rw [if_neg (fun h=>hcode h.1)])
 have E2:Hid (v=Pl.lv xs 2 s a v):=hide (by unfold Pl.lv;rw [if_neg (fun h=>hcode h.1)])
 clear hcode
 have PX:=hide hP
 have EX:=hide h1
 have OX:=hide hO
 have KX:=hide (FrP.refl (fun k=>k=p∨k=g1∨k=g2) w)
 have wW:=lx
 have t0:=hP.cell (i:=8) rfl
 have t1:=hP.cell (i:=9) rfl
 clear hP h1 hO lx hby
 have g4:(C != 0)=true:=by simpa using hc
 cases gm:decide ((m:Int)<400)
 ·have HL:Hid (Pl.logs m 2 s a=false):=hide (Pl.iG HC.o gm rfl g4)
  have hnm:Hid (Pl.nm m 2 s a=m):=hide (by unfold Pl.nm;rw [HL.o];rfl)
  have hnl:Hid (Pl.nl xs ys m 2 s a v=ys):=hide (by unfold Pl.nl;rw [HL.o];rfl)
  go_enter func127,ntmps127
  go_wp2_with (go_at_call 173;refine st (nP 2 s a _ hs1 hs2 a0 a1) ?_;rw [←HC.o])
  go_ret2
  exact ⟨g2,c2,rII E2.o HC.o,by rw [hnm.o];exact PX.o,by rw [←E1.o];exact EX.o,by rw [hnm.o,hnl.o];exact OX.o,.inl rfl,KX.o⟩
 ·have HL:Hid (Pl.logs m 2 s a=true):=hide (Pl.iG HC.o gm rfl g4)
  have H63:Hid (m+1≤maxLen):=hide (by unfold maxLen;simp at gm;omega)
  have HBT:Hid ((m+1)*40≤140737488355328):=hide (by simp at gm;omega)
  have hnm:Hid (Pl.nm m 2 s a=m+1):=hide (by unfold Pl.nm;rw [HL.o];rfl)
  have hnl:Hid (Pl.nl xs ys m 2 s a v=ys++([2,s,(a:Int),v,C]:List Int)):=hide (by unfold Pl.nl;rw [HL.o,←HC.o,←E2.o];rfl)
  go_enter func127,ntmps127
  go_wp2_with (first|(go_at_call 173;refine st (nP 2 s a _ hs1 hs2 a0 a1) ?_;rw [←HC.o])|(at_builtin;refine wpList_append_lies _ rfl _ _ _ rfl base 119 i _ 5 40 underlying32 hi0 hz0 hz1 hz2 rfl (by omega) (.slice (some ⟨g2,0,none⟩) m c2) m (ys.map (Value.int .i64)) rfl (OX.o.alloc _) ⟨w.heap.size,0,none⟩ 1 1 [iv 2,iv s,iv a,iv v,iv C] rfl rfl (World.news_of_block (cs:=#[iv 2,iv s,iv a,iv v,iv C]) (t:=119) (fr:=(0,0)) (heap_alloc_new w _)) (by simp [Value.oneCell']) (by omega) H63.o HBT.o (by have:=PX.o.lt;simp;omega) (w.heap.size+1) (by simp) ?_))
  intro g3 c3 w1 hown1 hgrow hat hlt
  have lp:=PX.o.lt
  have lg:=EX.o.lt (by rw [wW];decide)
  obtain ⟨lg2,lg3⟩:=OX.o.lt g2 rfl
  have P1:Hid (Blk w1 p #[d0,d1,d2,d3,d4,d5,d6,d7,.slice (some ⟨g1,0,none⟩) 512 c1,.slice (some ⟨g2,0,none⟩) m c2,d10,d11,d12,d13,d14,d15] 105):=hide ((hgrow.block p (by simp;omega) (by simp [Value.ownBlock];omega)).trans (PX.o.alloc _))
  have G1:Hid (Own w1 g1 xs):=hide ((EX.o.ai (kept_alloc _ _) (by omega)).kept hgrow (by simp [Value.ownBlock];omega))
  have y0:=P1.o.cell (i:=8) rfl
  have y1:=P1.o.cell (i:=9) rfl
  have f1:=P1.o.frozen 9
  have O1:=hide hown1
  have K1:Hid (FrP (fun k=>k=p∨k=g1∨k=g2) w w1):=hide ((KX.o.alloc _).grown hgrow (by intro g hg;have h2:g2=g:=Option.some.inj hg;exact .inr (.inr h2.symm)))
  have hsz:=KX.o.size
  have hat2:g2=g3∨g3=w.heap.size+1:=by
   rcases hat with h|h
   ·exact .inl (Option.some.inj h)
   ·exact .inr h
  clear hown1 hgrow hat
  go_wp2_with fail
  go_ret2
  refine ⟨g3,c3,rII E2.o HC.o,by rw [hnm.o];exact P1.o.set 9 _,by rw [←E1.o];exact G1.o.setOther _ _ _ (by omega),?_,by omega,K1.o.set _ _ _ (.inl (.inl rfl))⟩
  rw [hnl.o,hnm.o,List.map_append]
  exact O1.o.kept (grownBy_set _ _ _ _) (.inr (fun e=>by have h3:g3=p:=Option.some.inj e;omega))
theorem OG (w:World) (p base g1 g2:Nat) (d0 d1 d2 d3 d4 d5 d6 d7 d10 d11 d12 d13 d14 d15:Value) (xs ys:List Int) (c1 m c2:Nat) (n:Nat) (v:Int) (hP:Blk w p #[d0,d1,d2,d3,d4,d5,d6,d7,.slice (some ⟨g1,0,none⟩) 512 c1,.slice (some ⟨g2,0,none⟩) m c2,d10,d11,d12,d13,d14,d15] 105) (h1:Own w g1 xs) (lx:xs.length=512) (hby:Pl.bJ xs=true)
  (hO:w.ownsRow base 119 5 (.slice (some ⟨g2,0,none⟩) m c2) m (ys.map (Value.int .i64))) (hp:base≤p) (hg:base≤g1) (n1:p≠g1) (n2:p≠g2) (n3:g1≠g2) (bm:m≤400) (HC:Hid (0=Pl.code 2 1 n)) (hn:n+1≤512) (v0:0≤v) (v1:v≤255) :
  Calls prog 127 #[.pointer (some ⟨p,8,none⟩),iv 2,iv 1,iv n,iv v] w fun e w'=>∃g3 c3:Nat,e=.returned (.tuple #[iv (Pl.lv xs 2 1 n v),iv (Pl.code 2 1 n)])∧
   Blk w' p #[d0,d1,d2,d3,d4,d5,d6,d7,.slice (some ⟨g1,0,none⟩) 512 c1,.slice (some ⟨g3,0,none⟩) (Pl.nm m 2 1 n) c3,d10,d11,d12,d13,d14,d15] 105∧Own w' g1 (Pl.nb xs 2 1 n v)∧w'.ownsRow base 119 5 (.slice (some ⟨g3,0,none⟩) (Pl.nm m 2 1 n) c3) (Pl.nm m 2 1 n) ((Pl.nl xs ys m 2 1 n v).map (Value.int .i64))∧(g3=g2∨w.heap.size≤g3)∧FrP (fun k=>k=p∨k=g1∨k=g2) w w':=by
 obtain ⟨i,hi0,hz0,hz1,hz2⟩:=info_parts Tryz.kz
 have E1:Hid (xs.set n v=Pl.nb xs 2 1 n v):=hide (by unfold Pl.nb;rw [if_pos ⟨HC.o.symm,rfl⟩];rfl)
 have E2:Hid (v=Pl.lv xs 2 1 n v):=hide (by unfold Pl.lv;rw [if_neg (by simp)])
 have t0:=hP.cell (i:=8) rfl
 have t1:=hP.cell (i:=9) rfl
 have i0:(0:Int)≤(n:Int):=by omega
 have i1:(n:Int)<512:=by omega
 have e255:bits .and .i64 v 255=v:=by rw [Pl.dP];omega
 obtain ⟨c0,f0⟩:=h1 n (by omega)
 go_enter func127,ntmps127
 go_wp2_with (go_at_call 173;refine st (nP 2 1 n _ (by omega) (by omega) (by omega) (by omega)) ?_;rw [←HC.o])
 go_loopw [13,14] (fun x j wr=>x=iv v∧((j=iv 0∧wr=w)∨(j=iv 1∧Blk wr p #[d0,d1,d2,d3,d4,d5,d6,d7,.slice (some ⟨g1,0,none⟩) 512 c1,.slice (some ⟨g2,0,none⟩) m c2,d10,d11,d12,d13,d14,d15] 105∧Own wr g1 (xs.set n v)∧wr.ownsRow base 119 5 (.slice (some ⟨g2,0,none⟩) m c2) m (ys.map (Value.int .i64))∧Kept g1 (g1+1) w wr))) (fun _ j _=>(3-intOf j).toNat)
 case atStart=>exact ⟨rfl,.inl ⟨rfl,rfl⟩⟩
 case round=>
  obtain ⟨rfl,hrel⟩:=hrel
  rcases hrel with ⟨rfl,hw⟩|⟨rfl,hp1,ho1,hr1,hk1⟩
  ·have hw2:=hw.symm
   clear hw
   subst hw2
   go_wp2
   go_roundw
   case rel=>exact ⟨rfl,.inr ⟨by go_num,hP.other _ _ _ n1,h1.vw _,hO.kept (grownBy_set _ _ _ _) (.inr (fun e=>by have h3:g2=g1:=Option.some.inj e;omega)),ag (Kept.refl _ _ _) _ _ _ (.inl (by omega))⟩⟩
   case measure=>simp [intOf]
  ·clear t0 t1 c0 f0
   have PX:=hide hp1
   have EX:=hide ho1
   have OX:=hide hr1
   have lg:=h1.lt (by rw [lx];decide)
   have KX:Hid (FrP (fun k=>k=p∨k=g1∨k=g2) w wr):=hide (kC hk1 (fun i h1 h2=>.inr (.inl (by omega))))
   have wW:(xs.set n v).length=512:=by simp [lx]
   have t0:=hp1.cell (i:=8) rfl
   have t1:=hp1.cell (i:=9) rfl
   clear hp1 ho1 hr1 hk1 hP h1 hO lg
   cases gm:decide ((m:Int)<400)
   ·have HL:Hid (Pl.logs m 2 1 n=false):=hide (Pl.iG HC.o gm rfl rfl)
    have hnm:Hid (Pl.nm m 2 1 n=m):=hide (by unfold Pl.nm;rw [HL.o];rfl)
    have hnl:Hid (Pl.nl xs ys m 2 1 n v=ys):=hide (by unfold Pl.nl;rw [HL.o];rfl)
    skip
    go_wp2_with fail
    go_ret2
    exact ⟨g2,c2,rII E2.o HC.o,by rw [hnm.o];exact PX.o,by rw [←E1.o];exact EX.o,by rw [hnm.o,hnl.o];exact OX.o,.inl rfl,KX.o⟩
   ·have HL:Hid (Pl.logs m 2 1 n=true):=hide (Pl.iG HC.o gm rfl rfl)
    have H63:Hid (m+1≤maxLen):=hide (by unfold maxLen;simp at gm;omega)
    have HBT:Hid ((m+1)*40≤140737488355328):=hide (by simp at gm;omega)
    have hnm:Hid (Pl.nm m 2 1 n=m+1):=hide (by unfold Pl.nm;rw [HL.o];rfl)
    have hnl:Hid (Pl.nl xs ys m 2 1 n v=ys++([2,1,(n:Int),v,0]:List Int)):=hide (by unfold Pl.nl;rw [HL.o,←HC.o,←E2.o];rfl)
    skip
    go_wp2_with (first|(at_builtin;refine wpList_append_lies _ rfl _ _ _ rfl base 119 i _ 5 40 underlying32 hi0 hz0 hz1 hz2 rfl (by omega) (.slice (some ⟨g2,0,none⟩) m c2) m (ys.map (Value.int .i64)) rfl (OX.o.alloc _) ⟨wr.heap.size,0,none⟩ 1 1 [iv 2,iv 1,iv n,iv v,iv 0] rfl rfl (World.news_of_block (cs:=#[iv 2,iv 1,iv n,iv v,iv 0]) (t:=119) (fr:=(0,0)) (heap_alloc_new wr _)) (by simp [Value.oneCell']) (by omega) H63.o HBT.o (by have:=PX.o.lt;simp;omega) (wr.heap.size+1) (by simp) ?_))
    intro g3 c3 w1 hown1 hgrow hat hlt
    have lp:=PX.o.lt
    have lg:=EX.o.lt (by rw [wW];decide)
    obtain ⟨lg2,lg3⟩:=OX.o.lt g2 rfl
    have P1:Hid (Blk w1 p #[d0,d1,d2,d3,d4,d5,d6,d7,.slice (some ⟨g1,0,none⟩) 512 c1,.slice (some ⟨g2,0,none⟩) m c2,d10,d11,d12,d13,d14,d15] 105):=hide ((hgrow.block p (by simp;omega) (by simp [Value.ownBlock];omega)).trans (PX.o.alloc _))
    have G1:Hid (Own w1 g1 (xs.set n v)):=hide ((EX.o.ai (kept_alloc _ _) (by omega)).kept hgrow (by simp [Value.ownBlock];omega))
    have y0:=P1.o.cell (i:=8) rfl
    have y1:=P1.o.cell (i:=9) rfl
    have f1:=P1.o.frozen 9
    have O1:=hide hown1
    have K1:Hid (FrP (fun k=>k=p∨k=g1∨k=g2) w w1):=hide ((KX.o.alloc _).grown hgrow (by intro g hg;have h2:g2=g:=Option.some.inj hg;exact .inr (.inr h2.symm)))
    have hsz:=KX.o.size
    have hat2:g2=g3∨g3=wr.heap.size+1:=by
     rcases hat with h|h
     ·exact .inl (Option.some.inj h)
     ·exact .inr h
    clear hown1 hgrow hat
    go_wp2_with fail
    go_ret2
    refine ⟨g3,c3,rII E2.o HC.o,by rw [hnm.o];exact P1.o.set 9 _,by rw [←E1.o];exact G1.o.setOther _ _ _ (by omega),?_,by omega,K1.o.set _ _ _ (.inl (.inl rfl))⟩
    rw [hnl.o,hnm.o,List.map_append]
    exact O1.o.kept (grownBy_set _ _ _ _) (.inr (fun e=>by have h3:g3=p:=Option.some.inj e;omega))
theorem OE (w:World) (p base g1 g2:Nat) (d0 d1 d2 d3 d4 d5 d6 d7 d10 d11 d12 d13 d14 d15:Value) (xs ys:List Int) (c1 m c2:Nat) (n:Nat) (v:Int) (hP:Blk w p #[d0,d1,d2,d3,d4,d5,d6,d7,.slice (some ⟨g1,0,none⟩) 512 c1,.slice (some ⟨g2,0,none⟩) m c2,d10,d11,d12,d13,d14,d15] 105) (h1:Own w g1 xs) (lx:xs.length=512) (hby:Pl.bJ xs=true)
  (hO:w.ownsRow base 119 5 (.slice (some ⟨g2,0,none⟩) m c2) m (ys.map (Value.int .i64))) (hp:base≤p) (hg:base≤g1) (n1:p≠g1) (n2:p≠g2) (n3:g1≠g2) (bm:m≤400) (HC:Hid (0=Pl.code 2 2 n)) (hn:n+2≤512) (v0:0≤v) (v1:v≤65535) :
  Calls prog 127 #[.pointer (some ⟨p,8,none⟩),iv 2,iv 2,iv n,iv v] w fun e w'=>∃g3 c3:Nat,e=.returned (.tuple #[iv (Pl.lv xs 2 2 n v),iv (Pl.code 2 2 n)])∧
   Blk w' p #[d0,d1,d2,d3,d4,d5,d6,d7,.slice (some ⟨g1,0,none⟩) 512 c1,.slice (some ⟨g3,0,none⟩) (Pl.nm m 2 2 n) c3,d10,d11,d12,d13,d14,d15] 105∧Own w' g1 (Pl.nb xs 2 2 n v)∧w'.ownsRow base 119 5 (.slice (some ⟨g3,0,none⟩) (Pl.nm m 2 2 n) c3) (Pl.nm m 2 2 n) ((Pl.nl xs ys m 2 2 n v).map (Value.int .i64))∧(g3=g2∨w.heap.size≤g3)∧FrP (fun k=>k=p∨k=g1∨k=g2) w w':=by
 obtain ⟨i,hi0,hz0,hz1,hz2⟩:=info_parts Tryz.kz
 have E1:Hid ((xs.set n (v/256)).set (n+1) (v%256)=Pl.nb xs 2 2 n v):=hide (by unfold Pl.nb;rw [if_pos ⟨HC.o.symm,rfl⟩];rfl)
 have E2:Hid (v=Pl.lv xs 2 2 n v):=hide (by unfold Pl.lv;rw [if_neg (by simp)])
 have t0:=hP.cell (i:=8) rfl
 have t1:=hP.cell (i:=9) rfl
 have i0:(0:Int)≤(n:Int):=by omega
 have i1:(n:Int)<512:=by omega
 have e255:=Pl.dP v
 have e256:bits .and .i64 (v/256) 255=v/256:=by rw [Pl.dP];omega
 have i2:(0:Int)≤(n:Int)+1:=by omega
 have i3:(n:Int)+1<512:=by omega
 obtain ⟨c0,f0⟩:=h1 n (by omega)
 go_enter func127,ntmps127
 go_wp2_with (go_at_call 173;refine st (nP 2 2 n _ (by omega) (by omega) (by omega) (by omega)) ?_;rw [←HC.o])
 go_loopw [13,14] (fun x j wr=>x=iv v∧((j=iv 0∧wr=w)∨(j=iv 1∧Blk wr p #[d0,d1,d2,d3,d4,d5,d6,d7,.slice (some ⟨g1,0,none⟩) 512 c1,.slice (some ⟨g2,0,none⟩) m c2,d10,d11,d12,d13,d14,d15] 105∧Own wr g1 (xs.set n (v/256))∧wr.ownsRow base 119 5 (.slice (some ⟨g2,0,none⟩) m c2) m (ys.map (Value.int .i64))∧Kept g1 (g1+1) w wr)∨(j=iv 2∧Blk wr p #[d0,d1,d2,d3,d4,d5,d6,d7,.slice (some ⟨g1,0,none⟩) 512 c1,.slice (some ⟨g2,0,none⟩) m c2,d10,d11,d12,d13,d14,d15] 105∧Own wr g1 ((xs.set n (v/256)).set (n+1) (v%256))∧wr.ownsRow base 119 5 (.slice (some ⟨g2,0,none⟩) m c2) m (ys.map (Value.int .i64))∧Kept g1 (g1+1) w wr))) (fun _ j _=>(3-intOf j).toNat)
 case atStart=>exact ⟨rfl,.inl ⟨rfl,rfl⟩⟩
 case round=>
  obtain ⟨rfl,hrel⟩:=hrel
  rcases hrel with ⟨rfl,hw⟩|⟨rfl,hp1,ho1,hr1,hk1⟩|⟨rfl,hp1,ho1,hr1,hk1⟩
  ·have hw2:=hw.symm
   clear hw
   subst hw2
   go_wp2
   go_roundw
   case rel=>exact ⟨rfl,.inr (.inl ⟨by go_num,hP.other _ _ _ n1,h1.vw _,hO.kept (grownBy_set _ _ _ _) (.inr (fun e=>by have h3:g2=g1:=Option.some.inj e;omega)),ag (Kept.refl _ _ _) _ _ _ (.inl (by omega))⟩)⟩
   case measure=>simp [intOf]
  ·obtain ⟨c1',f1'⟩:=ho1 (n+1) (by rw [List.length_set];omega)
   have P1:=hide hp1
   have O1:=hide ho1
   have R1:=hide hr1
   have K1:=hide hk1
   have s0:=hp1.cell (i:=8) rfl
   have s1:=hp1.cell (i:=9) rfl
   clear hp1 ho1 hr1 hk1 c0 f0 t0 t1
   go_wp2
   go_roundw
   case rel=>exact ⟨rfl,.inr (.inr ⟨by go_num,P1.o.other _ _ _ n1,O1.o.vw _,R1.o.kept (grownBy_set _ _ _ _) (.inr (fun e=>by have h3:g2=g1:=Option.some.inj e;omega)),ag K1.o _ _ _ (.inl (by omega))⟩)⟩
   case measure=>simp [intOf]
  ·clear t0 t1 c0 f0
   have PX:=hide hp1
   have EX:=hide ho1
   have OX:=hide hr1
   have lg:=h1.lt (by rw [lx];decide)
   have KX:Hid (FrP (fun k=>k=p∨k=g1∨k=g2) w wr):=hide (kC hk1 (fun i h1 h2=>.inr (.inl (by omega))))
   have wW:((xs.set n (v/256)).set (n+1) (v%256)).length=512:=by simp [lx]
   have t0:=hp1.cell (i:=8) rfl
   have t1:=hp1.cell (i:=9) rfl
   clear hp1 ho1 hr1 hk1 hP h1 hO lg
   cases gm:decide ((m:Int)<400)
   ·have HL:Hid (Pl.logs m 2 2 n=false):=hide (Pl.iG HC.o gm rfl rfl)
    have hnm:Hid (Pl.nm m 2 2 n=m):=hide (by unfold Pl.nm;rw [HL.o];rfl)
    have hnl:Hid (Pl.nl xs ys m 2 2 n v=ys):=hide (by unfold Pl.nl;rw [HL.o];rfl)
    skip
    go_wp2_with fail
    go_ret2
    exact ⟨g2,c2,rII E2.o HC.o,by rw [hnm.o];exact PX.o,by rw [←E1.o];exact EX.o,by rw [hnm.o,hnl.o];exact OX.o,.inl rfl,KX.o⟩
   ·have HL:Hid (Pl.logs m 2 2 n=true):=hide (Pl.iG HC.o gm rfl rfl)
    have H63:Hid (m+1≤maxLen):=hide (by unfold maxLen;simp at gm;omega)
    have HBT:Hid ((m+1)*40≤140737488355328):=hide (by simp at gm;omega)
    have hnm:Hid (Pl.nm m 2 2 n=m+1):=hide (by unfold Pl.nm;rw [HL.o];rfl)
    have hnl:Hid (Pl.nl xs ys m 2 2 n v=ys++([2,2,(n:Int),v,0]:List Int)):=hide (by unfold Pl.nl;rw [HL.o,←HC.o,←E2.o];rfl)
    skip
    go_wp2_with (first|(at_builtin;refine wpList_append_lies _ rfl _ _ _ rfl base 119 i _ 5 40 underlying32 hi0 hz0 hz1 hz2 rfl (by omega) (.slice (some ⟨g2,0,none⟩) m c2) m (ys.map (Value.int .i64)) rfl (OX.o.alloc _) ⟨wr.heap.size,0,none⟩ 1 1 [iv 2,iv 2,iv n,iv v,iv 0] rfl rfl (World.news_of_block (cs:=#[iv 2,iv 2,iv n,iv v,iv 0]) (t:=119) (fr:=(0,0)) (heap_alloc_new wr _)) (by simp [Value.oneCell']) (by omega) H63.o HBT.o (by have:=PX.o.lt;simp;omega) (wr.heap.size+1) (by simp) ?_))
    intro g3 c3 w1 hown1 hgrow hat hlt
    have lp:=PX.o.lt
    have lg:=EX.o.lt (by rw [wW];decide)
    obtain ⟨lg2,lg3⟩:=OX.o.lt g2 rfl
    have P1:Hid (Blk w1 p #[d0,d1,d2,d3,d4,d5,d6,d7,.slice (some ⟨g1,0,none⟩) 512 c1,.slice (some ⟨g2,0,none⟩) m c2,d10,d11,d12,d13,d14,d15] 105):=hide ((hgrow.block p (by simp;omega) (by simp [Value.ownBlock];omega)).trans (PX.o.alloc _))
    have G1:Hid (Own w1 g1 ((xs.set n (v/256)).set (n+1) (v%256))):=hide ((EX.o.ai (kept_alloc _ _) (by omega)).kept hgrow (by simp [Value.ownBlock];omega))
    have y0:=P1.o.cell (i:=8) rfl
    have y1:=P1.o.cell (i:=9) rfl
    have f1:=P1.o.frozen 9
    have O1:=hide hown1
    have K1:Hid (FrP (fun k=>k=p∨k=g1∨k=g2) w w1):=hide ((KX.o.alloc _).grown hgrow (by intro g hg;have h2:g2=g:=Option.some.inj hg;exact .inr (.inr h2.symm)))
    have hsz:=KX.o.size
    have hat2:g2=g3∨g3=wr.heap.size+1:=by
     rcases hat with h|h
     ·exact .inl (Option.some.inj h)
     ·exact .inr h
    clear hown1 hgrow hat
    go_wp2_with fail
    go_ret2
    refine ⟨g3,c3,rII E2.o HC.o,by rw [hnm.o];exact P1.o.set 9 _,by rw [←E1.o];exact G1.o.setOther _ _ _ (by omega),?_,by omega,K1.o.set _ _ _ (.inl (.inl rfl))⟩
    rw [hnl.o,hnm.o,List.map_append]
    exact O1.o.kept (grownBy_set _ _ _ _) (.inr (fun e=>by have h3:g3=p:=Option.some.inj e;omega))
theorem Tn (w:World) (p base g1 g2:Nat) (d0 d1 d2 d3 d4 d5 d6 d7 d10 d11 d12 d13 d14 d15:Value) (xs ys:List Int) (c1 m c2:Nat) (k:Int) (s n:Nat) (hP:Blk w p #[d0,d1,d2,d3,d4,d5,d6,d7,.slice (some ⟨g1,0,none⟩) 512 c1,.slice (some ⟨g2,0,none⟩) m c2,d10,d11,d12,d13,d14,d15] 105) (h1:Own w g1 xs) (lx:xs.length=512) (hby:Pl.bJ xs=true)
  (hO:w.ownsRow base 119 5 (.slice (some ⟨g2,0,none⟩) m c2) m (ys.map (Value.int .i64))) (hp:base≤p) (hg:base≤g1) (n1:p≠g1) (n2:p≠g2) (n3:g1≠g2) (bm:m≤400) (HC:Hid (0=Pl.code k s n)) (hk:(k != 2)=true) (hs1:1≤s) (hs2:s≤2) (hn:n+s≤512) :
  Calls prog 127 #[.pointer (some ⟨p,8,none⟩),iv k,iv s,iv n,iv 0] w fun e w'=>∃g3 c3:Nat,e=.returned (.tuple #[iv (Pl.lv xs k s n 0),iv (Pl.code k s n)])∧
   Blk w' p #[d0,d1,d2,d3,d4,d5,d6,d7,.slice (some ⟨g1,0,none⟩) 512 c1,.slice (some ⟨g3,0,none⟩) (Pl.nm m k s n) c3,d10,d11,d12,d13,d14,d15] 105∧Own w' g1 (Pl.nb xs k s n 0)∧w'.ownsRow base 119 5 (.slice (some ⟨g3,0,none⟩) (Pl.nm m k s n) c3) (Pl.nm m k s n) ((Pl.nl xs ys m k s n 0).map (Value.int .i64))∧(g3=g2∨w.heap.size≤g3)∧FrP (fun k=>k=p∨k=g1∨k=g2) w w':=by
 obtain ⟨i,hi0,hz0,hz1,hz2⟩:=info_parts Tryz.kz
 have hk2:¬k=2:=by simpa using hk
 have E1:Hid (xs=Pl.nb xs k s n 0):=hide (by unfold Pl.nb;rw [if_neg (fun h=>hk2 h.2)])
 have E2:Hid (Pl.rd xs s n=Pl.lv xs k s n 0):=hide (by unfold Pl.lv;rw [if_pos ⟨HC.o.symm,hk2⟩];rfl)
 have hkeq:(k==2)=false:=by simpa using hk2
 have PX:=hide hP
 have EX:=hide h1
 have OX:=hide hO
 have KX:=hide (FrP.refl (fun k=>k=p∨k=g1∨k=g2) w)
 have wW:=lx
 have HBY:=hide hby
 have t0:=hP.cell (i:=8) rfl
 have t1:=hP.cell (i:=9) rfl
 clear hP h1 hO hby hk2
 go_enter func127,ntmps127
 go_wp2_with (go_at_call 173;refine st (nP k s n _ (by omega) (by omega) (by omega) (by omega)) ?_;rw [←HC.o])
 go_loopw [13,14] (fun x j wr=>∃q:Nat,q≤s∧j=iv q∧x=iv (Pl.rdK xs n q)∧wr=w) (fun _ j _=>s-(intOf j).toNat)
 case atStart=>exact ⟨0,Nat.zero_le _,rfl,rfl,rfl⟩
 case round=>
  obtain ⟨q,hq,rfl,rfl,hw⟩:=hrel
  have hw2:=hw.symm
  clear hw
  subst hw2
  by_cases hlt:q<s
  ·obtain ⟨hc,_⟩:=EX.o (n+q) (by omega)
   have b0:=Pl.dW HBY.o n (by omega)
   have b1:=Pl.dW HBY.o (n+q) (by omega)
   rw [show xs[n+q]?.getD 0=el xs (n+q) from rfl] at hc
   obtain ⟨b00,b01⟩:=b0
   obtain ⟨b10,b11⟩:=b1
   have i0:(0:Int)≤(n:Int)+(q:Int):=by omega
   have i1:(n:Int)+(q:Int)<512:=by omega
   have i2:((n:Int)+(q:Int)).toNat=n+q:=by omega
   by_cases hk0:q=0
   ·subst hk0
    have hor:=Pl.uB (h:=0) (by decide) (by decide) b10 b11
    rw [Int.zero_mul,Int.zero_add] at hor
    rw [Nat.add_zero] at hc hor b10 b11
    rw [show Pl.rdK xs n 0=0 from rfl]
    go_wp2
    go_roundw
    case rel=>exact ⟨1,by omega,rfl,rfl,trivial⟩
    case measure=>simp [intOf];omega
   ·obtain rfl:q=1:=by omega
    have hor:=Pl.uB b00 b01 b10 b11
    rw [show Pl.rdK xs n 1=el xs n from rfl]
    go_wp2
    go_roundw
    case rel=>exact ⟨2,by omega,rfl,rfl,trivial⟩
    case measure=>simp [intOf];omega
  ·have E:Hid (Pl.rdK xs n q=Pl.rd xs s n):=hide (by
    have:q=1∨q=2:=by omega
    unfold Pl.rdK Pl.rd
    rcases this with rfl|rfl
    ·rw [if_neg (by decide),if_pos rfl,if_pos (by omega)]
    ·rw [if_neg (by decide),if_neg (by decide),if_neg (by omega)])
   rw [E.o]
   clear E
   cases gm:decide ((m:Int)<400)
   ·cases g3:(k != 3)
    ·have HL:Hid (Pl.logs m k s n=false):=hide (Pl.iG HC.o gm g3 rfl)
     have hnm:Hid (Pl.nm m k s n=m):=hide (by unfold Pl.nm;rw [HL.o];rfl)
     have hnl:Hid (Pl.nl xs ys m k s n 0=ys):=hide (by unfold Pl.nl;rw [HL.o];rfl)
     skip
     go_wp2_with fail
     go_ret2
     exact ⟨g2,c2,rII E2.o HC.o,by rw [hnm.o];exact PX.o,by rw [←E1.o];exact EX.o,by rw [hnm.o,hnl.o];exact OX.o,.inl rfl,KX.o⟩
    ·have HL:Hid (Pl.logs m k s n=false):=hide (Pl.iG HC.o gm g3 rfl)
     have hnm:Hid (Pl.nm m k s n=m):=hide (by unfold Pl.nm;rw [HL.o];rfl)
     have hnl:Hid (Pl.nl xs ys m k s n 0=ys):=hide (by unfold Pl.nl;rw [HL.o];rfl)
     skip
     go_wp2_with fail
     go_ret2
     exact ⟨g2,c2,rII E2.o HC.o,by rw [hnm.o];exact PX.o,by rw [←E1.o];exact EX.o,by rw [hnm.o,hnl.o];exact OX.o,.inl rfl,KX.o⟩
   ·cases g3:(k != 3)
    ·have HL:Hid (Pl.logs m k s n=false):=hide (Pl.iG HC.o gm g3 rfl)
     have hnm:Hid (Pl.nm m k s n=m):=hide (by unfold Pl.nm;rw [HL.o];rfl)
     have hnl:Hid (Pl.nl xs ys m k s n 0=ys):=hide (by unfold Pl.nl;rw [HL.o];rfl)
     skip
     go_wp2_with fail
     go_ret2
     exact ⟨g2,c2,rII E2.o HC.o,by rw [hnm.o];exact PX.o,by rw [←E1.o];exact EX.o,by rw [hnm.o,hnl.o];exact OX.o,.inl rfl,KX.o⟩
    ·have HL:Hid (Pl.logs m k s n=true):=hide (Pl.iG HC.o gm g3 rfl)
     have H63:Hid (m+1≤maxLen):=hide (by unfold maxLen;simp at gm;omega)
     have HBT:Hid ((m+1)*40≤140737488355328):=hide (by simp at gm;omega)
     have hnm:Hid (Pl.nm m k s n=m+1):=hide (by unfold Pl.nm;rw [HL.o];rfl)
     have hnl:Hid (Pl.nl xs ys m k s n 0=ys++([k,s,(n:Int),(Pl.rd xs s n),0]:List Int)):=hide (by unfold Pl.nl;rw [HL.o,←HC.o,←E2.o];rfl)
     skip
     go_wp2_with (first|(at_builtin;refine wpList_append_lies _ rfl _ _ _ rfl base 119 i _ 5 40 underlying32 hi0 hz0 hz1 hz2 rfl (by omega) (.slice (some ⟨g2,0,none⟩) m c2) m (ys.map (Value.int .i64)) rfl (OX.o.alloc _) ⟨w.heap.size,0,none⟩ 1 1 [iv k,iv s,iv n,iv (Pl.rd xs s n),iv 0] rfl rfl (World.news_of_block (cs:=#[iv k,iv s,iv n,iv (Pl.rd xs s n),iv 0]) (t:=119) (fr:=(0,0)) (heap_alloc_new w _)) (by simp [Value.oneCell']) (by omega) H63.o HBT.o (by have:=PX.o.lt;simp;omega) (w.heap.size+1) (by simp) ?_))
     intro g3 c3 w1 hown1 hgrow hat hlt
     have lp:=PX.o.lt
     have lg:=EX.o.lt (by rw [wW];decide)
     obtain ⟨lg2,lg3⟩:=OX.o.lt g2 rfl
     have P1:Hid (Blk w1 p #[d0,d1,d2,d3,d4,d5,d6,d7,.slice (some ⟨g1,0,none⟩) 512 c1,.slice (some ⟨g2,0,none⟩) m c2,d10,d11,d12,d13,d14,d15] 105):=hide ((hgrow.block p (by simp;omega) (by simp [Value.ownBlock];omega)).trans (PX.o.alloc _))
     have G1:Hid (Own w1 g1 (xs)):=hide ((EX.o.ai (kept_alloc _ _) (by omega)).kept hgrow (by simp [Value.ownBlock];omega))
     have y0:=P1.o.cell (i:=8) rfl
     have y1:=P1.o.cell (i:=9) rfl
     have f1:=P1.o.frozen 9
     have O1:=hide hown1
     have K1:Hid (FrP (fun k=>k=p∨k=g1∨k=g2) w w1):=hide ((KX.o.alloc _).grown hgrow (by intro g hg;have h2:g2=g:=Option.some.inj hg;exact .inr (.inr h2.symm)))
     have hsz:=KX.o.size
     have hat2:g2=g3∨g3=w.heap.size+1:=by
      rcases hat with h|h
      ·exact .inl (Option.some.inj h)
      ·exact .inr h
     clear hown1 hgrow hat
     go_wp2_with fail
     go_ret2
     refine ⟨g3,c3,rII E2.o HC.o,by rw [hnm.o];exact P1.o.set 9 _,by rw [←E1.o];exact G1.o.setOther _ _ _ (by omega),?_,by omega,K1.o.set _ _ _ (.inl (.inl rfl))⟩
     rw [hnl.o,hnm.o,List.map_append]
     exact O1.o.kept (grownBy_set _ _ _ _) (.inr (fun e=>by have h3:g3=p:=Option.some.inj e;omega))
theorem Yr (w:World) (p base g1 g2:Nat) (d0 d1 d2 d3 d4 d5 d6 d7 d10 d11 d12 d13 d14 d15:Value) (xs ys:List Int) (c1 m c2:Nat) (k s a v:Int) (hP:Blk w p #[d0,d1,d2,d3,d4,d5,d6,d7,.slice (some ⟨g1,0,none⟩) 512 c1,.slice (some ⟨g2,0,none⟩) m c2,d10,d11,d12,d13,d14,d15] 105) (h1:Own w g1 xs) (lx:xs.length=512) (hby:Pl.bJ xs=true)
  (hO:w.ownsRow base 119 5 (.slice (some ⟨g2,0,none⟩) m c2) m (ys.map (Value.int .i64))) (hp:base≤p) (hg:base≤g1) (n1:p≠g1) (n2:p≠g2) (n3:g1≠g2) (bm:m≤400) (hask:Pl.gq k s a v=true) :
  Calls prog 127 #[.pointer (some ⟨p,8,none⟩),iv k,iv s,iv a,iv v] w fun e w'=>∃g3 c3:Nat,e=.returned (.tuple #[iv (Pl.lv xs k s a v),iv (Pl.code k s a)])∧
   Blk w' p #[d0,d1,d2,d3,d4,d5,d6,d7,.slice (some ⟨g1,0,none⟩) 512 c1,.slice (some ⟨g3,0,none⟩) (Pl.nm m k s a) c3,d10,d11,d12,d13,d14,d15] 105∧Own w' g1 (Pl.nb xs k s a v)∧w'.ownsRow base 119 5 (.slice (some ⟨g3,0,none⟩) (Pl.nm m k s a) c3) (Pl.nm m k s a) ((Pl.nl xs ys m k s a v).map (Value.int .i64))∧(g3=g2∨w.heap.size≤g3)∧FrP (fun k=>k=p∨k=g1∨k=g2) w w':=by
 obtain ⟨hk13,hs,v0,⟨a0,a1⟩,hkv⟩:=Pl.qW hask
 by_cases hc:Pl.code k s a=0
 ·have hlow:=Pl.rX hc a0
  obtain ⟨n,rfl⟩:∃n:Nat,a=(n:Int):=⟨a.toNat,by omega⟩
  by_cases h2:k=2
  ·subst h2
   rcases hs with ⟨rfl,hv⟩|⟨rfl,hv⟩
   ·exact OG w p base g1 g2 d0 d1 d2 d3 d4 d5 d6 d7 d10 d11 d12 d13 d14 d15 xs ys c1 m c2 n v hP h1 lx hby hO hp hg n1 n2 n3 bm (hide hc.symm) (by omega) v0 hv
   ·exact OE w p base g1 g2 d0 d1 d2 d3 d4 d5 d6 d7 d10 d11 d12 d13 d14 d15 xs ys c1 m c2 n v hP h1 lx hby hO hp hg n1 n2 n3 bm (hide hc.symm) (by omega) v0 hv
  ·obtain rfl:v=0:=by omega
   obtain ⟨t,rfl⟩:∃t:Nat,s=(t:Int):=⟨s.toNat,by omega⟩
   exact Tn w p base g1 g2 d0 d1 d2 d3 d4 d5 d6 d7 d10 d11 d12 d13 d14 d15 xs ys c1 m c2 k t n hP h1 lx hby hO hp hg n1 n2 n3 bm (hide hc.symm) (by simpa using h2) (by omega) (by omega) (by omega)
 ·by_cases h2:k=2
  ·subst h2
   exact OH w p base g1 g2 d0 d1 d2 d3 d4 d5 d6 d7 d10 d11 d12 d13 d14 d15 xs ys c1 m c2 s a v _ hP h1 lx hby hO hp hg n1 n2 n3 bm (hide rfl) (by simpa using hc) (by omega) (by omega) a0 a1
  ·obtain rfl:v=0:=by omega
   exact OI w p base g1 g2 d0 d1 d2 d3 d4 d5 d6 d7 d10 d11 d12 d13 d14 d15 xs ys c1 m c2 k s a _ hP h1 lx hby hO hp hg n1 n2 n3 bm (hide rfl) (by simpa using hc) (by omega) (by omega) a0 a1 (by simpa using h2)
end Go.Proofs.YtkkmnnhaailkcaaGreatDoor
namespace Go.Proofs.YtkkmnnhaailkcaaGreatDoor.Pl
set_option linter.unusedVariables false
structure GM (c:Mc):Prop where
 g:Good c.r
 p0:0≤c.r.p
 p1:c.r.p≤65535
 bx:c.bx.length=512
 ok:bJ c.bx=true
 bl:c.bl.length=5*c.bm
 bm:c.bm≤400
 ac:jH c.bl c.bm=true
theorem vX {xs:List Int} {k i:Nat} {v:Int} (h:k<xs.length):el (xs.set k v) i=if k=i then v else el xs i:=by
 unfold el
 by_cases e:k=i
 ·subst e;rw [if_pos rfl];simp [h]
 ·rw [if_neg e,List.getElem?_set_ne e]
theorem ql {xs:List Int} {i:Nat} {v:Int} (h:bJ xs=true) (v0:0≤v) (v1:v≤255):bJ (xs.set i v)=true:=by
 apply qR
 intro j hj
 rw [List.length_set] at hj
 by_cases hi:i<xs.length
 ·rw [vX hi]
  split
  ·simp [jF];omega
  ·have:=dW h j hj;simp [jF];omega
 ·rw [List.set_eq_of_length_le (by omega)]
  have:=dW h j hj;simp [jF];omega
theorem UX {xs:List Int} {s:Int} {i:Nat} {v:Int} (h:bJ xs=true) (hv:okv s v=true):bJ (wr xs s i v)=true:=by
 have:=aQ hv
 unfold wr
 split
 ·exact ql h (by omega) (by omega)
 ·exact ql (ql h (by omega) (by omega)) (by omega) (by omega)
theorem PG (k s a:Int):0≤code k s a∧code k s a≤3:=by
 unfold code
 repeat' split
 all_goals omega
theorem VE {xs:List Int} {s:Int} {i:Nat} (h:bJ xs=true) (hs:s=1∨s=2) (hi:i+s.toNat≤xs.length):okv s (rd xs s i)=true:=by
 rcases hs with rfl|rfl
 ·have:=dW h i (by omega)
  simp [okv,rd,top];omega
 ·have:=dW h i (by omega)
  have:=dW h (i+1) (by omega)
  simp [okv,rd,top];omega
theorem QN {xs:List Int} {k s a v:Int} (h:bJ xs=true) (hl:xs.length=512) (ha:gq k s a v=true):okv s (lv xs k s a v)=true:=by
 obtain ⟨hk,hs,v0,⟨a0,a1⟩,_⟩:=qW ha
 unfold lv
 split
 ·rename_i q
  obtain ⟨q1,q2⟩:=rX q.1 a0
  refine VE h (by omega) ?_
  rw [hl];rcases hs with ⟨rfl,_⟩|⟨rfl,_⟩<;>omega
 ·simp only [gq,Bool.and_eq_true] at ha
  exact ha.2.1
theorem vY {xs ys:List Int} {i:Nat} (h:i<xs.length):el (xs++ys) i=el xs i:=by unfold el;rw [List.getElem?_append_left h]
theorem rV {xs ys:List Int} {i:Nat} (h:xs.length≤i):el (xs++ys) i=el ys (i-xs.length):=by unfold el;rw [List.getElem?_append_right h]
theorem GN {ys:List Int} {m:Nat} {k s a v c:Int} (hl:ys.length=5*m) (h:jH ys m=true) (ho:gy k s a v c=true):jH (ys++[k,s,a,v,c]) (m+1)=true:=by
 unfold jH at *
 rw [List.all_eq_true] at *
 intro i hi
 rw [List.mem_range] at hi
 by_cases e:i<m
 ·have:=h i (List.mem_range.2 e)
  unfold sD at *
  rw [vY (by omega),vY (by omega),vY (by omega),vY (by omega),vY (by omega)]
  exact this
 ·have e2:i=m:=by omega
  subst e2
  unfold sD
  rw [rV (by omega),rV (by omega),rV (by omega),rV (by omega),rV (by omega),show i*5-ys.length=0 by omega,show i*5+1-ys.length=1 by omega,show i*5+2-ys.length=2 by omega,show i*5+3-ys.length=3 by omega,show i*5+4-ys.length=4 by omega]
  exact ho
theorem GM.jI {c:Mc} (h:GM c) {k s a v:Int} (ha:gq k s a v=true):okv s (c.jI k s a v)=true:=QN h.ok h.bx ha
theorem GM.acc {c:Mc} (h:GM c) {k s a v:Int} (ha:gq k s a v=true):GM (c.acc k s a v):=by
 have hv:=QN h.ok h.bx ha
 have ha2:=ha
 simp only [gq,Bool.and_eq_true] at ha2
 refine ⟨h.g,h.p0,h.p1,by rw [←h.bx];exact IX _ _ _ _ _,?_,SK _ _ _ _ h.bl,VO _ _ _ h.bm,?_⟩
 ·show bJ (nb c.bx k s a v)=true
  unfold nb
  split
  ·exact UX h.ok ha2.2.1
  ·exact h.ok
 ·show jH (nl c.bx c.bl c.bm k s a v) (nm c.bm k s a)=true
  unfold nl nm
  split
  ·rename_i hl
   refine GN h.bl h.ac ?_
   have hc:=PG k s a
   simp only [logs,Bool.and_eq_true] at hl
   simp only [gy,Bool.and_eq_true,decide_eq_true_eq]
   exact ⟨ha2.1,hv,ha2.2.2.1,hc,hl.2⟩
  ·exact h.ac
theorem Good.fU {r:Rg} (h:Good r) (k:Nat) {v:Int} (v0:0≤v) (v1:v≤65535):Good {r with ys:=r.ys.set k v}:=by
 refine ⟨h.d4,by simp [h.a4],h.dw,fun i hi => ?_,h.o0,h.o1,h.f0,h.f1,h.m0,h.m1⟩
 show 0≤el (r.ys.set k v) i∧el (r.ys.set k v) i≤65535
 by_cases hk:k<r.ys.length
 ·rw [vX hk];split
  ·exact ⟨v0,v1⟩
  ·exact h.aw i hi
 ·rw [List.set_eq_of_length_le (by omega)];exact h.aw i hi
theorem Good.NL {r:Rg} (h:Good r) (k:Nat) {v:Int} (v0:0≤v) (v1:v≤65535):Good {r with xs:=r.xs.set k v}:=by
 refine ⟨by simp [h.d4],h.a4,fun i hi => ?_,h.aw,h.o0,h.o1,h.f0,h.f1,h.m0,h.m1⟩
 show 0≤el (r.xs.set k v) i∧el (r.xs.set k v) i≤65535
 by_cases hk:k<r.xs.length
 ·rw [vX hk];split
  ·exact ⟨v0,v1⟩
  ·exact h.dw i hi
 ·rw [List.set_eq_of_length_le (by omega)];exact h.dw i hi
theorem Good.put {r:Rg} (h:Good r) {z k v:Int} (k0:0≤k) (k1:k≤3) (hv:okv z v=true):Good (jy r z k v):=by
 have ht:=aQ hv
 have hd:=h.dw k.toNat (by omega)
 exact h.NL k.toNat (by split<;>omega) (by split<;>omega)
theorem Good.place {r:Rg} (h:Good r) {z m k e:Int} (k0:0≤k) (k1:k≤3):Good (dA r z m k e):=by
 unfold dA
 split
 ·exact h.fU _ (by omega) (by omega)
 ·split
  ·exact h.fU _ (by omega) (by omega)
  ·exact h
theorem iT {r:Rg} (h:Good r) {z m k e:Int} (k0:0≤k) (k1:k≤3) (e0:0≤e) (e1:e≤65535):0≤dm r z m k e∧dm r z m k e≤65535:=by
 have ha:=h.aw k.toNat (by omega)
 unfold dm
 repeat' split
 all_goals omega
theorem Good.with {r:Rg} (h:Good r) (n:Int):Good (bQ r n):=by
 unfold bQ
 split
 ·exact ⟨h.d4,h.a4,h.dw,h.aw,h.o0,h.o1,by show 0≤n%32;omega,by show n%32≤31;omega,by show 0≤n/32%8;omega,by show n/32%8≤7;omega⟩
 ·have q:=h.fU 3 h.o0 h.o1
  have a3:=h.aw 3 (by omega)
  exact ⟨h.d4,q.a4,h.dw,q.aw,a3.1,a3.2,by show 0≤n%32;omega,by show n%32≤31;omega,by show 0≤n/32%8;omega,by show n/32%8≤7;omega⟩
theorem xg {r:Rg} (h:Good r):0≤status r∧status r≤1023:=by
 have:=h.f0;have:=h.f1;have:=h.m0;have:=h.m1
 unfold status fl1
 cases r.s<;>cases r.t<;>simp<;>omega
theorem GM.dB {c:Mc} (h:GM c) {r:Rg} (g:Good r) (hp:0≤r.p∧r.p≤65535):GM (c.dB r):=⟨g,hp.1,hp.2,h.bx,h.ok,h.bl,h.bm,h.ac⟩
theorem GM.aK {c:Mc} (h:GM c) {v:Int} (v0:0≤v) (v1:v≤65535):GM (c.aK v):=⟨⟨h.g.d4,h.g.a4,h.g.dw,h.g.aw,h.g.o0,h.g.o1,h.g.f0,h.g.f1,h.g.m0,h.g.m1⟩,v0,v1,h.bx,h.ok,h.bl,h.bm,h.ac⟩
theorem GM.aF {c:Mc} (h:GM c) {v:Int} (v0:0≤v) (v1:v≤31):GM (c.aF v):=⟨⟨h.g.d4,h.g.a4,h.g.dw,h.g.aw,h.g.o0,h.g.o1,v0,v1,h.g.m0,h.g.m1⟩,h.p0,h.p1,h.bx,h.ok,h.bl,h.bm,h.ac⟩
theorem GM.fU {c:Mc} (h:GM c) (k:Nat) {v:Int} (v0:0≤v) (v1:v≤65535):GM (c.fU k v):=⟨h.g.fU k v0 v1,h.p0,h.p1,h.bx,h.ok,h.bl,h.bm,h.ac⟩
theorem GM.put {c:Mc} (h:GM c) {z k v:Int} (k0:0≤k) (k1:k≤3) (hv:okv z v=true):GM (c.put z k v):=h.dB (h.g.put k0 k1 hv) ⟨h.p0,h.p1⟩
theorem GM.ft {c:Mc} (h:GM c) (f:Ft):GM {c with f:=f}:=⟨h.g,h.p0,h.p1,h.bx,h.ok,h.bl,h.bm,h.ac⟩
theorem rF (r:Rg) (z m k e:Int):(dA r z m k e).p=r.p:=by
 unfold dA;split
 ·rfl
 ·split<;>rfl
theorem Nk (r:Rg) (n:Int):(bQ r n).p=r.p:=by unfold bQ;split<;>rfl
theorem GM.plc {c:Mc} (h:GM c) {z m k e:Int} (k0:0≤k) (k1:k≤3):GM (c.plc z m k e):=h.dB (h.g.place k0 k1) (by rw [rF];exact ⟨h.p0,h.p1⟩)
theorem GM.with {c:Mc} (h:GM c) (n:Int):GM (c.dB (bQ c.r n)):=h.dB (h.g.with n) (by rw [Nk];exact ⟨h.p0,h.p1⟩)
theorem bI {c:Mc} (h:GM c):flags c.r.f=true:=by have:=h.g.f0;have:=h.g.f1;simp [flags];omega
theorem eG (s f v:Int) (h:okv s v=true) (hf:flags f=true):0≤aS s f v∧aS s f v≤31:=by
 obtain ⟨f0,f1⟩:=rU hf
 obtain ⟨j,hj,rfl⟩:=lZ (n:=32) f0 (by omega)
 unfold aS
 rw [if_pos (by rw [h,hf];rfl)]
 have q:∀j:Nat,j<32→∀a b:Bool,0≤bits .or .i64 (bits .and .i64 (j:Int) 16) (bits .or .i64 (fl a 4) (fl b 8))∧bits .or .i64 (bits .and .i64 (j:Int) 16) (bits .or .i64 (fl a 4) (fl b 8))≤31:=by decide +kernel
 exact q j hj _ _
theorem GM.data {c:Mc} (h:GM c) {z k v:Int} (k0:0≤k) (k1:k≤3) (hv:okv z v=true):GM (c.data z k v):=by
 have q:=eG z c.r.f v hv (bI h)
 exact (h.aF q.1 q.2).put k0 k1 hv
theorem fP {c:Mc} (h:GM c) {z k:Int} (hz:z=1∨z=2) (k0:0≤k) (k1:k≤3):okv z (c.low z k)=true:=by
 have hd:=h.g.dw k.toNat (by omega)
 unfold Mc.low
 rcases hz with rfl|rfl
 ·simp [okv,top];omega
 ·simp [okv,top];omega
theorem GM.of {c:Cp} (h:ik c=true) (hl:c.bl.length=5*c.bm) (b:Bool):GM ⟨c.r,c.bx,c.bl,c.bm,b,aI⟩:=by
 simp only [ik,Bool.and_eq_true] at h
 obtain ⟨h1,h2,_⟩:=h
 obtain ⟨q1,q2,q3,q4⟩:=Cf h2
 have hp:0≤c.r.p∧c.r.p≤65535:=by
  simp only [sW,Bool.and_eq_true,aT,within,decide_eq_true_eq] at h1
  exact h1.2.2.2.1
 exact ⟨Pe h1,hp.1,hp.2,q1,q2,hl,q3,q4⟩
end Go.Proofs.YtkkmnnhaailkcaaGreatDoor.Pl
namespace Go.Proofs.YtkkmnnhaailkcaaGreatDoor
open Go.RowKit Go.Proofs.Tryz
set_option linter.unusedVariables false
theorem dL {w w':World} {base g n cap size lo hi:Nat} {e:TypeId} {xs:List Value} (h:w.ownsRow base e size (.slice (some ⟨g,0,none⟩) n cap) n xs) (k:Kept lo hi w w') (hn:¬(lo≤g∧g<hi)):w'.ownsRow base e size (.slice (some ⟨g,0,none⟩) n cap) n xs:=by
 have hlt:=h.lt g rfl
 rcases h with ⟨hl,⟨e1,e0⟩|⟨g',cap',cur,e1,hb,hgg,rest⟩⟩
 ·cases e1
 ·cases e1
  exact ⟨hl,.inr ⟨g,cap,cur,rfl,hb,(k.block g hlt.2 hn).trans hgg,rest⟩⟩
theorem qH {lo a b:Nat} {w w':World} (h:Kept a b w w') (hl:lo≤a) (hs:lo≤w.heap.size):Below lo w w':=⟨h.os,h.tape,h.output,h.size,fun k hk=>h.block k (by omega) (by omega)⟩
def jR (c:Pl.Mc) (gd cd ga ca g1 c1 g2 c2:Nat):Array Value:=#[.slice (some ⟨gd,0,none⟩) 4 cd,.slice (some ⟨ga,0,none⟩) 4 ca,iv c.r.o,iv c.r.p,iv c.r.f,iv c.r.m,.bool c.r.s,.bool c.r.t,.slice (some ⟨g1,0,none⟩) 512 c1,.slice (some ⟨g2,0,none⟩) c.bm c2,.bool c.st,iv c.f.v,iv c.f.pc,iv c.f.ad,iv c.f.wo,.bool c.f.wr]
structure MO (w:World) (lo mid hi p gd ga g1 g2 c2:Nat) (xs ys bx bl:List Int) (bm:Nat):Prop where
 d:Own w gd xs
 a:Own w ga ys
 b:Own w g1 bx
 l:w.ownsRow mid 119 5 (.slice (some ⟨g2,0,none⟩) bm c2) bm (bl.map (Value.int .i64))
 d0:lo≤gd
 d1:gd<mid
 a0:lo≤ga
 a1:ga<mid
 da:gd≠ga
 p0:mid≤p
 b0:mid≤g1
 pb:p≠g1
 pl:p≠g2
 p1:p<hi
 b1:g1<hi
 bl':g1≠g2
 hh:hi≤w.heap.size
def MB (w:World) (p gd cd ga ca g1 c1 g2 c2:Nat) (c:Pl.Mc):Prop:=Blk w p (jR c gd cd ga ca g1 c1 g2 c2) 105
def MAt (w:World) (lo mid hi p g2:Nat) (c:Pl.Mc):Prop:=∃gd cd ga ca g1 c1 c2:Nat,MB w p gd cd ga ca g1 c1 g2 c2 c∧MO w lo mid hi p gd ga g1 g2 c2 c.r.xs c.r.ys c.bx c.bl c.bm
theorem MO.kept {w w':World} {lo mid hi p gd ga g1 g2 c2 x y:Nat} {xs ys bx bl:List Int} {bm:Nat} (h:MO w lo mid hi p gd ga g1 g2 c2 xs ys bx bl bm) (k:Kept x y w w') (hd:¬(x≤gd∧gd<y)) (ha:¬(x≤ga∧ga<y)) (h1:¬(x≤g1∧g1<y)) (h2:¬(x≤g2∧g2<y)):MO w' lo mid hi p gd ga g1 g2 c2 xs ys bx bl bm:=
 ⟨h.d.ai k hd,h.a.ai k ha,h.b.ai k h1,dL h.l k h2,h.d0,h.d1,h.a0,h.a1,h.da,h.p0,h.b0,h.pb,h.pl,h.p1,h.b1,h.bl',Nat.le_trans h.hh k.size⟩
theorem MO.g2 {w:World} {lo mid hi p gd ga g1 g2 c2:Nat} {xs ys bx bl:List Int} {bm:Nat} (h:MO w lo mid hi p gd ga g1 g2 c2 xs ys bx bl bm):mid≤g2∧g2<w.heap.size:=h.l.lt g2 rfl
theorem MO.own {w w':World} {lo mid hi p gd ga g1 g2 c2:Nat} {xs ys bx bl:List Int} {bm:Nat} (h:MO w lo mid hi p gd ga g1 g2 c2 xs ys bx bl bm) (k:Kept p (p+1) w w'):MO w' lo mid hi p gd ga g1 g2 c2 xs ys bx bl bm:=by
 have:=h.d1;have:=h.a1;have:=h.p0;have:=h.pb;have:=h.pl
 exact h.kept k (by omega) (by omega) (by omega) (by omega)
theorem MO.any {w w':World} {lo mid hi p gd ga g1 g2 c2:Nat} {xs ys bx bl:List Int} {bm:Nat} (h:MO w lo mid hi p gd ga g1 g2 c2 xs ys bx bl bm) (k:Kept 0 0 w w'):MO w' lo mid hi p gd ga g1 g2 c2 xs ys bx bl bm:=h.kept k (by omega) (by omega) (by omega) (by omega)
theorem MO.NL {w:World} {lo mid hi p gd ga g1 g2 c2:Nat} {xs ys bx bl:List Int} {bm:Nat} (h:MO w lo mid hi p gd ga g1 g2 c2 xs ys bx bl bm) (k:Nat) (v:Int):MO (w.setCell ⟨gd,k,none⟩ (iv v)) lo mid hi p gd ga g1 g2 c2 (xs.set k v) ys bx bl bm:=by
 have:=h.d1;have:=h.a1;have:=h.p0;have:=h.pb;have:=h.pl;have:=h.g2;have:=h.b0;have:=h.da
 exact ⟨h.d.vw v,h.a.setOther _ _ _ (by omega),h.b.setOther _ _ _ (by omega),h.l.kept (grownBy_set _ _ _ _) (.inr (fun e=>by have h3:g2=gd:=Option.some.inj e;omega)),h.d0,h.d1,h.a0,h.a1,h.da,h.p0,h.b0,h.pb,h.pl,h.p1,h.b1,h.bl',by simpa using h.hh⟩
theorem MO.fU {w:World} {lo mid hi p gd ga g1 g2 c2:Nat} {xs ys bx bl:List Int} {bm:Nat} (h:MO w lo mid hi p gd ga g1 g2 c2 xs ys bx bl bm) (k:Nat) (v:Int):MO (w.setCell ⟨ga,k,none⟩ (iv v)) lo mid hi p gd ga g1 g2 c2 xs (ys.set k v) bx bl bm:=by
 have:=h.d1;have:=h.a1;have:=h.p0;have:=h.pb;have:=h.pl;have:=h.g2;have:=h.b0;have:=h.da
 exact ⟨h.d.setOther _ _ _ (by omega),h.a.vw v,h.b.setOther _ _ _ (by omega),h.l.kept (grownBy_set _ _ _ _) (.inr (fun e=>by have h3:g2=ga:=Option.some.inj e;omega)),h.d0,h.d1,h.a0,h.a1,h.da,h.p0,h.b0,h.pb,h.pl,h.p1,h.b1,h.bl',by simpa using h.hh⟩
theorem MO.reg {w:World} {lo mid hi p gd ga g1 g2 c2:Nat} {r:Pl.Rg} {bx bl:List Int} {bm:Nat} (h:MO w lo mid hi p gd ga g1 g2 c2 r.xs r.ys bx bl bm):gz w lo mid r (some ⟨gd,0,none⟩) (some ⟨ga,0,none⟩):=
 ⟨.inr ⟨gd,rfl,h.d0,h.d1,h.d⟩,.inr ⟨ga,rfl,h.a0,h.a1,h.a⟩,fun g e q=>h.da (by have e1:gd=g:=Option.some.inj e;have e2:ga=g:=Option.some.inj q;omega)⟩
theorem ve {w:World} {lo hi g:Nat} {xs:List Int} (h:bg w lo hi (some ⟨g,0,none⟩) xs):Own w g xs:=by
 rcases h with ⟨e,_⟩|⟨g',e,_,_,ho⟩
 ·cases e
 ·cases e;exact ho
theorem MO.regs {w w':World} {lo mid hi p gd ga g1 g2 c2:Nat} {xs ys bx bl:List Int} {bm:Nat} {r:Pl.Rg} (h:MO w lo mid hi p gd ga g1 g2 c2 xs ys bx bl bm) (hr:gz w' lo mid r (some ⟨gd,0,none⟩) (some ⟨ga,0,none⟩)) (k:Kept lo mid w w'):MO w' lo mid hi p gd ga g1 g2 c2 r.xs r.ys bx bl bm:=by
 have:=h.p0;have:=h.g2;have:=h.b0
 exact ⟨ve hr.1,ve hr.2.1,h.b.ai k (by omega),dL h.l k (by omega),h.d0,h.d1,h.a0,h.a1,h.da,h.p0,h.b0,h.pb,h.pl,h.p1,h.b1,h.bl',Nat.le_trans h.hh k.size⟩
theorem MB.regs {w w':World} {lo mid p gd cd ga ca g1 c1 g2 c2:Nat} {c:Pl.Mc} (h:MB w p gd cd ga ca g1 c1 g2 c2 c) (k:Kept lo mid w w') (hp:mid≤p):MB w' p gd cd ga ca g1 c1 g2 c2 c:=Blk.kept h k (by omega)
theorem MB.any {w w':World} {p gd cd ga ca g1 c1 g2 c2:Nat} {c:Pl.Mc} (h:MB w p gd cd ga ca g1 c1 g2 c2 c) (k:Kept 0 0 w w'):MB w' p gd cd ga ca g1 c1 g2 c2 c:=Blk.af h k
theorem MB.cells {w:World} {p gd cd ga ca g1 c1 g2 c2:Nat} {c:Pl.Mc} (h:MB w p gd cd ga ca g1 c1 g2 c2 c) :
  w.cell? ⟨p,0,none⟩=some (.slice (some ⟨gd,0,none⟩) 4 cd)∧w.cell? ⟨p,1,none⟩=some (.slice (some ⟨ga,0,none⟩) 4 ca)∧w.cell? ⟨p,2,none⟩=some (iv c.r.o)∧w.cell? ⟨p,3,none⟩=some (iv c.r.p)∧w.cell? ⟨p,4,none⟩=some (iv c.r.f)∧w.cell? ⟨p,5,none⟩=some (iv c.r.m)∧w.cell? ⟨p,6,none⟩=some (.bool c.r.s)∧w.cell? ⟨p,7,none⟩=some (.bool c.r.t)∧
  w.cell? ⟨p,8,none⟩=some (.slice (some ⟨g1,0,none⟩) 512 c1)∧w.cell? ⟨p,9,none⟩=some (.slice (some ⟨g2,0,none⟩) c.bm c2)∧w.cell? ⟨p,10,none⟩=some (.bool c.st)∧w.cell? ⟨p,11,none⟩=some (iv c.f.v)∧w.cell? ⟨p,12,none⟩=some (iv c.f.pc)∧w.cell? ⟨p,13,none⟩=some (iv c.f.ad)∧w.cell? ⟨p,14,none⟩=some (iv c.f.wo)∧w.cell? ⟨p,15,none⟩=some (.bool c.f.wr):=
 ⟨Blk.cell (i:=0) h rfl,Blk.cell (i:=1) h rfl,Blk.cell (i:=2) h rfl,Blk.cell (i:=3) h rfl,Blk.cell (i:=4) h rfl,Blk.cell (i:=5) h rfl,Blk.cell (i:=6) h rfl,Blk.cell (i:=7) h rfl,Blk.cell (i:=8) h rfl,Blk.cell (i:=9) h rfl,Blk.cell (i:=10) h rfl,Blk.cell (i:=11) h rfl,Blk.cell (i:=12) h rfl,Blk.cell (i:=13) h rfl,Blk.cell (i:=14) h rfl,Blk.cell (i:=15) h rfl⟩
theorem MB.frozen {w:World} {p gd cd ga ca g1 c1 g2 c2:Nat} {c:Pl.Mc} (h:MB w p gd cd ga ca g1 c1 g2 c2 c) (i:Nat):w.frozen? ⟨p,i,none⟩=false:=Blk.frozen h i
theorem MB.lt {w:World} {p gd cd ga ca g1 c1 g2 c2:Nat} {c:Pl.Mc} (h:MB w p gd cd ga ca g1 c1 g2 c2 c):p<w.heap.size:=Blk.lt h
theorem QJ (a0 a1 a2 a3 a4 a5 a6 a7 a8 a9 a10 a11 a12 a13 a14 a15 v:Value):(#[a0,a1,a2,a3,a4,a5,a6,a7,a8,a9,a10,a11,a12,a13,a14,a15]:Array Value).setIfInBounds 0 v=#[v,a1,a2,a3,a4,a5,a6,a7,a8,a9,a10,a11,a12,a13,a14,a15]:=rfl
theorem QI (a0 a1 a2 a3 a4 a5 a6 a7 a8 a9 a10 a11 a12 a13 a14 a15 v:Value):(#[a0,a1,a2,a3,a4,a5,a6,a7,a8,a9,a10,a11,a12,a13,a14,a15]:Array Value).setIfInBounds 1 v=#[a0,v,a2,a3,a4,a5,a6,a7,a8,a9,a10,a11,a12,a13,a14,a15]:=rfl
theorem QH (a0 a1 a2 a3 a4 a5 a6 a7 a8 a9 a10 a11 a12 a13 a14 a15 v:Value):(#[a0,a1,a2,a3,a4,a5,a6,a7,a8,a9,a10,a11,a12,a13,a14,a15]:Array Value).setIfInBounds 2 v=#[a0,a1,v,a3,a4,a5,a6,a7,a8,a9,a10,a11,a12,a13,a14,a15]:=rfl
theorem Iq (a0 a1 a2 a3 a4 a5 a6 a7 a8 a9 a10 a11 a12 a13 a14 a15 v:Value):(#[a0,a1,a2,a3,a4,a5,a6,a7,a8,a9,a10,a11,a12,a13,a14,a15]:Array Value).setIfInBounds 3 v=#[a0,a1,a2,v,a4,a5,a6,a7,a8,a9,a10,a11,a12,a13,a14,a15]:=rfl
theorem Ip (a0 a1 a2 a3 a4 a5 a6 a7 a8 a9 a10 a11 a12 a13 a14 a15 v:Value):(#[a0,a1,a2,a3,a4,a5,a6,a7,a8,a9,a10,a11,a12,a13,a14,a15]:Array Value).setIfInBounds 4 v=#[a0,a1,a2,a3,v,a5,a6,a7,a8,a9,a10,a11,a12,a13,a14,a15]:=rfl
theorem QG (a0 a1 a2 a3 a4 a5 a6 a7 a8 a9 a10 a11 a12 a13 a14 a15 v:Value):(#[a0,a1,a2,a3,a4,a5,a6,a7,a8,a9,a10,a11,a12,a13,a14,a15]:Array Value).setIfInBounds 5 v=#[a0,a1,a2,a3,a4,v,a6,a7,a8,a9,a10,a11,a12,a13,a14,a15]:=rfl
theorem QF (a0 a1 a2 a3 a4 a5 a6 a7 a8 a9 a10 a11 a12 a13 a14 a15 v:Value):(#[a0,a1,a2,a3,a4,a5,a6,a7,a8,a9,a10,a11,a12,a13,a14,a15]:Array Value).setIfInBounds 6 v=#[a0,a1,a2,a3,a4,a5,v,a7,a8,a9,a10,a11,a12,a13,a14,a15]:=rfl
theorem QE (a0 a1 a2 a3 a4 a5 a6 a7 a8 a9 a10 a11 a12 a13 a14 a15 v:Value):(#[a0,a1,a2,a3,a4,a5,a6,a7,a8,a9,a10,a11,a12,a13,a14,a15]:Array Value).setIfInBounds 7 v=#[a0,a1,a2,a3,a4,a5,a6,v,a8,a9,a10,a11,a12,a13,a14,a15]:=rfl
theorem Sm (a0 a1 a2 a3 a4 a5 a6 a7 a8 a9 a10 a11 a12 a13 a14 a15 v:Value):(#[a0,a1,a2,a3,a4,a5,a6,a7,a8,a9,a10,a11,a12,a13,a14,a15]:Array Value).setIfInBounds 10 v=#[a0,a1,a2,a3,a4,a5,a6,a7,a8,a9,v,a11,a12,a13,a14,a15]:=rfl
theorem Sl (a0 a1 a2 a3 a4 a5 a6 a7 a8 a9 a10 a11 a12 a13 a14 a15 v:Value):(#[a0,a1,a2,a3,a4,a5,a6,a7,a8,a9,a10,a11,a12,a13,a14,a15]:Array Value).setIfInBounds 11 v=#[a0,a1,a2,a3,a4,a5,a6,a7,a8,a9,a10,v,a12,a13,a14,a15]:=rfl
theorem Sj (a0 a1 a2 a3 a4 a5 a6 a7 a8 a9 a10 a11 a12 a13 a14 a15 v:Value):(#[a0,a1,a2,a3,a4,a5,a6,a7,a8,a9,a10,a11,a12,a13,a14,a15]:Array Value).setIfInBounds 12 v=#[a0,a1,a2,a3,a4,a5,a6,a7,a8,a9,a10,a11,v,a13,a14,a15]:=rfl
theorem Si (a0 a1 a2 a3 a4 a5 a6 a7 a8 a9 a10 a11 a12 a13 a14 a15 v:Value):(#[a0,a1,a2,a3,a4,a5,a6,a7,a8,a9,a10,a11,a12,a13,a14,a15]:Array Value).setIfInBounds 13 v=#[a0,a1,a2,a3,a4,a5,a6,a7,a8,a9,a10,a11,a12,v,a14,a15]:=rfl
theorem RZ (a0 a1 a2 a3 a4 a5 a6 a7 a8 a9 a10 a11 a12 a13 a14 a15 v:Value):(#[a0,a1,a2,a3,a4,a5,a6,a7,a8,a9,a10,a11,a12,a13,a14,a15]:Array Value).setIfInBounds 14 v=#[a0,a1,a2,a3,a4,a5,a6,a7,a8,a9,a10,a11,a12,a13,v,a15]:=rfl
theorem RY (a0 a1 a2 a3 a4 a5 a6 a7 a8 a9 a10 a11 a12 a13 a14 a15 v:Value):(#[a0,a1,a2,a3,a4,a5,a6,a7,a8,a9,a10,a11,a12,a13,a14,a15]:Array Value).setIfInBounds 15 v=#[a0,a1,a2,a3,a4,a5,a6,a7,a8,a9,a10,a11,a12,a13,a14,v]:=rfl
theorem MB.laid {w:World} {p gd cd ga ca g1 c1 g2 c2:Nat} {c:Pl.Mc} (h:MB w p gd cd ga ca g1 c1 g2 c2 c) (r:Pl.Rg):MB ((((((((w.setCell ⟨p,0,none⟩ (.slice (some ⟨gd,0,none⟩) 4 cd)).setCell ⟨p,1,none⟩ (.slice (some ⟨ga,0,none⟩) 4 ca)).setCell ⟨p,2,none⟩ (iv r.o)).setCell ⟨p,3,none⟩ (iv r.p)).setCell ⟨p,4,none⟩ (iv r.f)).setCell ⟨p,5,none⟩ (iv r.m)).setCell ⟨p,6,none⟩ (.bool r.s)).setCell ⟨p,7,none⟩ (.bool r.t)) p gd cd ga ca g1 c1 g2 c2 (c.dB r):=
 by
 have q:=(((((((Blk.set h 0 (.slice (some ⟨gd,0,none⟩) 4 cd)).set 1 (.slice (some ⟨ga,0,none⟩) 4 ca)).set 2 (iv r.o)).set 3 (iv r.p)).set 4 (iv r.f)).set 5 (iv r.m)).set 6 (.bool r.s)).set 7 (.bool r.t)
 unfold jR at q
 rw [QJ,QI,QH,Iq,Ip,QG,QF,QE] at q
 exact q
theorem MB.jf {w:World} {p:Nat} (v0 v1 v2 v3 v4 v5 v6 v7:Value):Kept p (p+1) w ((((((((w.setCell ⟨p,0,none⟩ v0).setCell ⟨p,1,none⟩ v1).setCell ⟨p,2,none⟩ v2).setCell ⟨p,3,none⟩ v3).setCell ⟨p,4,none⟩ v4).setCell ⟨p,5,none⟩ v5).setCell ⟨p,6,none⟩ v6).setCell ⟨p,7,none⟩ v7):=
 ag (ag (ag (ag (ag (ag (ag (ag (Kept.refl _ _ _) _ _ _ (.inl (by omega))) _ _ _ (.inl (by omega))) _ _ _ (.inl (by omega))) _ _ _ (.inl (by omega))) _ _ _ (.inl (by omega))) _ _ _ (.inl (by omega))) _ _ _ (.inl (by omega))) _ _ _ (.inl (by omega))
theorem MB.cP {w:World} {p gd cd ga ca g1 c1 g2 c2:Nat} {c:Pl.Mc} (h:MB w p gd cd ga ca g1 c1 g2 c2 c) (v:Int):MB (w.setCell ⟨p,3,none⟩ (iv v)) p gd cd ga ca g1 c1 g2 c2 (c.aK v):=by
 have q:=Blk.set h 3 (iv v)
 unfold jR at q
 rw [Iq] at q
 exact q
theorem MB.cF {w:World} {p gd cd ga ca g1 c1 g2 c2:Nat} {c:Pl.Mc} (h:MB w p gd cd ga ca g1 c1 g2 c2 c) (v:Int):MB (w.setCell ⟨p,4,none⟩ (iv v)) p gd cd ga ca g1 c1 g2 c2 (c.aF v):=by
 have q:=Blk.set h 4 (iv v)
 unfold jR at q
 rw [Ip] at q
 exact q
theorem MB.cSt {w:World} {p gd cd ga ca g1 c1 g2 c2:Nat} {c:Pl.Mc} (h:MB w p gd cd ga ca g1 c1 g2 c2 c) (v:Bool):MB (w.setCell ⟨p,10,none⟩ (.bool v)) p gd cd ga ca g1 c1 g2 c2 ({c with st:=v}):=by
 have q:=Blk.set h 10 (.bool v)
 unfold jR at q
 rw [Sm] at q
 exact q
theorem MB.cV {w:World} {p gd cd ga ca g1 c1 g2 c2:Nat} {c:Pl.Mc} (h:MB w p gd cd ga ca g1 c1 g2 c2 c) (v:Int):MB (w.setCell ⟨p,11,none⟩ (iv v)) p gd cd ga ca g1 c1 g2 c2 ({c with f:={c.f with v:=v}}):=by
 have q:=Blk.set h 11 (iv v)
 unfold jR at q
 rw [Sl] at q
 exact q
theorem MB.cPc {w:World} {p gd cd ga ca g1 c1 g2 c2:Nat} {c:Pl.Mc} (h:MB w p gd cd ga ca g1 c1 g2 c2 c) (v:Int):MB (w.setCell ⟨p,12,none⟩ (iv v)) p gd cd ga ca g1 c1 g2 c2 ({c with f:={c.f with pc:=v}}):=by
 have q:=Blk.set h 12 (iv v)
 unfold jR at q
 rw [Sj] at q
 exact q
theorem MB.cAd {w:World} {p gd cd ga ca g1 c1 g2 c2:Nat} {c:Pl.Mc} (h:MB w p gd cd ga ca g1 c1 g2 c2 c) (v:Int):MB (w.setCell ⟨p,13,none⟩ (iv v)) p gd cd ga ca g1 c1 g2 c2 ({c with f:={c.f with ad:=v}}):=by
 have q:=Blk.set h 13 (iv v)
 unfold jR at q
 rw [Si] at q
 exact q
theorem MB.cWo {w:World} {p gd cd ga ca g1 c1 g2 c2:Nat} {c:Pl.Mc} (h:MB w p gd cd ga ca g1 c1 g2 c2 c) (v:Int):MB (w.setCell ⟨p,14,none⟩ (iv v)) p gd cd ga ca g1 c1 g2 c2 ({c with f:={c.f with wo:=v}}):=by
 have q:=Blk.set h 14 (iv v)
 unfold jR at q
 rw [RZ] at q
 exact q
theorem MB.cWr {w:World} {p gd cd ga ca g1 c1 g2 c2:Nat} {c:Pl.Mc} (h:MB w p gd cd ga ca g1 c1 g2 c2 c) (v:Bool):MB (w.setCell ⟨p,15,none⟩ (.bool v)) p gd cd ga ca g1 c1 g2 c2 ({c with f:={c.f with wr:=v}}):=by
 have q:=Blk.set h 15 (.bool v)
 unfold jR at q
 rw [RY] at q
 exact q
theorem MB.tu {w:World} {p gd cd ga ca g1 c1 g2 c2:Nat} {c:Pl.Mc} (h:MB w p gd cd ga ca g1 c1 g2 c2 c) (b i:Nat) (v:Value) (hn:p≠b):MB (w.setCell ⟨b,i,none⟩ v) p gd cd ga ca g1 c1 g2 c2 c:=Blk.other h b i v hn
theorem ak (w:World) (p i:Nat) (v:Value):Kept p (p+1) w (w.setCell ⟨p,i,none⟩ v):=ag (Kept.refl _ _ _) _ _ _ (.inl (by omega))
theorem Kept.one {w w':World} {p:Nat} (h:Kept p (p+1) w w') (i:Nat) (v:Value):Kept p (p+1) w (w'.setCell ⟨p,i,none⟩ v):=ag h _ _ _ (.inl (by omega))
theorem MAt.any {w w':World} {lo mid hi p g2:Nat} {c:Pl.Mc} (h:MAt w lo mid hi p g2 c) (k:Kept 0 0 w w'):MAt w' lo mid hi p g2 c:=by
 obtain ⟨gd,cd,ga,ca,g1,c1,c2,hB,hO⟩:=h
 exact ⟨gd,cd,ga,ca,g1,c1,c2,hB.any k,hO.any k⟩
theorem MAt.drew {w:World} {lo mid hi p g2:Nat} {c:Pl.Mc} (h:MAt w lo mid hi p g2 c):MAt w.drew lo mid hi p g2 c:=h.any (ae (Kept.refl _ _ _))
theorem MAt.lo {w:World} {lo mid hi p g2:Nat} {c:Pl.Mc} (h:MAt w lo mid hi p g2 c):lo≤mid∧mid≤w.heap.size∧mid≤p∧p<hi∧p<w.heap.size∧g2<w.heap.size∧hi≤w.heap.size:=by
 obtain ⟨gd,cd,ga,ca,g1,c1,c2,hB,hO⟩:=h
 have:=hO.d0;have:=hO.d1;have:=hO.p0;have:=hB.lt;have:=hO.p1;have:=hO.g2;have:=hO.hh
 omega
theorem MAt.laid {W:World} {lo mid hi p gd cd ga ca g1 c1 g2 c2:Nat} {c:Pl.Mc} {r:Pl.Rg} (hB:MB W p gd cd ga ca g1 c1 g2 c2 c) (hO:MO W lo mid hi p gd ga g1 g2 c2 r.xs r.ys c.bx c.bl c.bm):MAt ((((((((W.setCell ⟨p,0,none⟩ (.slice (some ⟨gd,0,none⟩) 4 cd)).setCell ⟨p,1,none⟩ (.slice (some ⟨ga,0,none⟩) 4 ca)).setCell ⟨p,2,none⟩ (iv r.o)).setCell ⟨p,3,none⟩ (iv r.p)).setCell ⟨p,4,none⟩ (iv r.f)).setCell ⟨p,5,none⟩ (iv r.m)).setCell ⟨p,6,none⟩ (.bool r.s)).setCell ⟨p,7,none⟩ (.bool r.t)) lo mid hi p g2 (c.dB r):=
 ⟨gd,cd,ga,ca,g1,c1,c2,hB.laid r,hO.own (MB.jf _ _ _ _ _ _ _ _)⟩
theorem fM {lo hi p g g':Nat} {w W:World} (h:Since w lo hi g W g') (hp:(lo≤p∧p<hi)∨w.heap.size≤p) (v0 v1 v2 v3 v4 v5 v6 v7:Value):Since w lo hi g ((((((((W.setCell ⟨p,0,none⟩ v0).setCell ⟨p,1,none⟩ v1).setCell ⟨p,2,none⟩ v2).setCell ⟨p,3,none⟩ v3).setCell ⟨p,4,none⟩ v4).setCell ⟨p,5,none⟩ v5).setCell ⟨p,6,none⟩ v6).setCell ⟨p,7,none⟩ v7) g':=
 (((((((h.set p 0 _ hp).set p 1 _ hp).set p 2 _ hp).set p 3 _ hp).set p 4 _ hp).set p 5 _ hp).set p 6 _ hp).set p 7 _ hp
theorem MB.past {w w':World} {p q gd cd ga ca g1 c1 g2 c2:Nat} {c:Pl.Mc} (h:MB w p gd cd ga ca g1 c1 g2 c2 c) (k:Kept q (q+1) w w') (hn:p<q):MB w' p gd cd ga ca g1 c1 g2 c2 c:=Blk.kept h k (by omega)
theorem MO.past {w w':World} {lo mid hi p q gd ga g1 g2 c2:Nat} {xs ys bx bl:List Int} {bm:Nat} (h:MO w lo mid hi p gd ga g1 g2 c2 xs ys bx bl bm) (k:Kept q (q+1) w w') (h0:mid≤q) (h1:g1<q) (h2:g2<q):MO w' lo mid hi p gd ga g1 g2 c2 xs ys bx bl bm:=by
 have:=h.d1;have:=h.a1
 exact h.kept k (by omega) (by omega) (by omega) (by omega)
def iQ (r:Pl.Rg) (gd cd ga ca:Nat):Value:=.agg #[.slice (some ⟨gd,0,none⟩) 4 cd,.slice (some ⟨ga,0,none⟩) 4 ca,iv r.o,iv r.p,iv r.f,iv r.m,.bool r.s,.bool r.t]
theorem qK (w:World) (lo mid gd cd ga ca:Nat) (r:Pl.Rg) (z k v:Int) (hr:gz w lo mid r (some ⟨gd,0,none⟩) (some ⟨ga,0,none⟩)) (hh:mid≤w.heap.size) (hg:Pl.Good r) (k0:0≤k) (k1:k≤3) (hv:Pl.okv z v=true) :
  Calls prog 110 #[iQ r gd cd ga ca,iv z,iv k,iv v] w fun e w'=>e=.returned (iQ (Pl.jy r z k v) gd cd ga ca)∧gz w' lo mid (Pl.jy r z k v) (some ⟨gd,0,none⟩) (some ⟨ga,0,none⟩)∧Kept lo mid w w':=by
 have h:=NH w lo mid r _ _ cd ca z k v hr hh hg (by have:=Pl.aQ hv;omega) k0 k1 hv
 rw [hg.d4,hg.a4,(hg.put k0 k1 hv).d4,(hg.put k0 k1 hv).a4] at h
 exact h
theorem G6 (w:World) (lo mid gd cd ga ca:Nat) (r:Pl.Rg) (n:Int) (hr:gz w lo mid r (some ⟨gd,0,none⟩) (some ⟨ga,0,none⟩)) (hh:mid≤w.heap.size) (hg:Pl.Good r) (h0:0≤n) (h1:n≤1023) :
  Calls prog 80 #[iQ r gd cd ga ca,iv n] w fun e w'=>e=.returned (iQ (Pl.bQ r n) gd cd ga ca)∧gz w' lo mid (Pl.bQ r n) (some ⟨gd,0,none⟩) (some ⟨ga,0,none⟩)∧Kept lo mid w w':=by
 have h:=Hu w lo mid r _ _ cd ca n hr hh hg h0 h1
 rw [hg.d4,hg.a4,(hg.with n).d4,(hg.with n).a4] at h
 exact h
theorem Iy (w:World) (lo mid gd cd ga ca:Nat) (r:Pl.Rg) (z m k e:Int) (hr:gz w lo mid r (some ⟨gd,0,none⟩) (some ⟨ga,0,none⟩)) (hh:mid≤w.heap.size) (hg:Pl.Good r) (k0:0≤k) (k1:k≤3) (e0:0≤e) (e1:e≤65535) (hm:m=2∨m=3∨m=4∨m=5∨m=6) :
  Calls prog 142 #[iQ r gd cd ga ca,iv z,.agg #[iv m,iv k,iv e]] w fun e' w'=>e'=.returned (.tuple #[iQ (Pl.dA r z m k e) gd cd ga ca,iv (Pl.dm r z m k e)])∧gz w' lo mid (Pl.dA r z m k e) (some ⟨gd,0,none⟩) (some ⟨ga,0,none⟩)∧Kept lo mid w w':=by
 have h:=EP w lo mid r _ _ cd ca z m k e hr hh hg k0 k1 e0 e1 hm
 rw [hg.d4,hg.a4,(hg.place k0 k1).d4,(hg.place k0 k1).a4] at h
 exact h
theorem uG (w:World) (lo mid hi p gd cd ga ca g1 c1 g2 c2:Nat) (c:Pl.Mc) (k s a v:Int) (hB:MB w p gd cd ga ca g1 c1 g2 c2 c) (hO:MO w lo mid hi p gd ga g1 g2 c2 c.r.xs c.r.ys c.bx c.bl c.bm) (G:Pl.GM c) (hask:Pl.gq k s a v=true) :
  Calls prog 127 #[.pointer (some ⟨p,8,none⟩),iv k,iv s,iv a,iv v] w fun e w'=>∃g3 c3:Nat,e=.returned (.tuple #[iv (c.jI k s a v),iv (Pl.code k s a)])∧
   MB w' p gd cd ga ca g1 c1 g3 c3 {c.acc k s a v with f:=c.f}∧MO w' lo mid hi p gd ga g1 g3 c3 c.r.xs c.r.ys (c.acc k s a v).bx (c.acc k s a v).bl (c.acc k s a v).bm∧Since w lo hi g2 w' g3:=by
 refine (Yr w p mid g1 g2 _ _ _ _ _ _ _ _ _ _ _ _ _ _ c.bx c.bl c1 c.bm c2 k s a v hB hO.b G.bx G.ok hO.l hO.p0 hO.b0 hO.pb hO.pl hO.bl' G.bm hask).mono ?_
 rintro e w' ⟨g3,c3,rfl,hB2,hb2,hl2,n1,kk⟩
 have q1:=hO.d1
 have q2:=hO.a1
 have q3:=hO.d0
 have q4:=hB.lt
 have q5:=hO.p0
 have q6:=hO.p1
 have q7:=hO.b1
 have q8:=hO.b0
 have q9:=hO.g2
 have qa:=hO.pb
 have qb:=hO.pl
 have qc:=hO.bl'
 have qd:=hO.b.lt (by rw [G.bx];decide)
 exact ⟨g3,c3,rfl,hB2,⟨kk.own hO.d (by omega),kk.own hO.a (by omega),hb2,hl2,hO.d0,hO.d1,hO.a0,hO.a1,hO.da,hO.p0,hO.b0,hO.pb,by omega,hO.p1,hO.b1,by omega,Nat.le_trans hO.hh kk.size⟩,n1,kk.wide (fun i _ h=>by unfold own;omega)⟩
def mi (x:Pl.In):Array Value:=(inX x)
theorem aG {W:World} {b:Nat} {x:Pl.In} {ty:TypeId} (h:Blk W b (mi x) ty):W.cell? ⟨b,0,none⟩=some (iv x.op)∧W.cell? ⟨b,1,none⟩=some (iv x.z)∧W.cell? ⟨b,2,none⟩=some (iv x.r)∧W.cell? ⟨b,3,none⟩=some (iv x.m)∧W.cell? ⟨b,4,none⟩=some (iv x.k)∧W.cell? ⟨b,5,none⟩=some (iv x.e)∧W.cell? ⟨b,6,none⟩=some (iv x.s):=
 ⟨h.cell (i:=0) rfl,h.cell (i:=1) rfl,h.cell (i:=2) rfl,h.cell (i:=3) rfl,h.cell (i:=4) rfl,h.cell (i:=5) rfl,h.cell (i:=6) rfl⟩
theorem xu (w:World) (b:Nat) (v0 v1 v2 v3 v4 v5 v6:Value):Kept b (b+1) w (((((((w.setCell ⟨b,0,none⟩ v0).setCell ⟨b,1,none⟩ v1).setCell ⟨b,2,none⟩ v2).setCell ⟨b,3,none⟩ v3).setCell ⟨b,4,none⟩ v4).setCell ⟨b,5,none⟩ v5).setCell ⟨b,6,none⟩ v6):=
 ((((((ak w b 0 v0).one 1 v1).one 2 v2).one 3 v3).one 4 v4).one 5 v5).one 6 v6
theorem sU {lo hi b g g':Nat} {w W:World} (h:Since w lo hi g W g') (hp:w.heap.size≤b) (v0 v1 v2 v3 v4 v5 v6:Value):Since w lo hi g (((((((W.setCell ⟨b,0,none⟩ v0).setCell ⟨b,1,none⟩ v1).setCell ⟨b,2,none⟩ v2).setCell ⟨b,3,none⟩ v3).setCell ⟨b,4,none⟩ v4).setCell ⟨b,5,none⟩ v5).setCell ⟨b,6,none⟩ v6) g':=
 ((((((h.set b 0 _ (.inr hp)).set b 1 _ (.inr hp)).set b 2 _ (.inr hp)).set b 3 _ (.inr hp)).set b 4 _ (.inr hp)).set b 5 _ (.inr hp)).set b 6 _ (.inr hp)
theorem MAt.past {w w':World} {lo mid hi p g2 b:Nat} {c:Pl.Mc} (h:MAt w lo mid hi p g2 c) (k:Kept b (b+1) w w') (hb:hi≤b) (hn:b≠g2):MAt w' lo mid hi p g2 c:=by
 obtain ⟨gd,cd,ga,ca,g1,c1,c2,hB,hO⟩:=h
 have:=hO.d1;have:=hO.a1;have:=hO.p0;have:=hO.p1;have:=hO.b1
 exact ⟨gd,cd,ga,ca,g1,c1,c2,Blk.kept hB k (by omega),hO.kept k (by omega) (by omega) (by omega) (by omega)⟩
theorem MAt.cell {w w':World} {lo mid hi p g2:Nat} {c c':Pl.Mc} (h:MAt w lo mid hi p g2 c) (k:Kept p (p+1) w w') (hB:∀gd cd ga ca g1 c1 c2:Nat,MB w p gd cd ga ca g1 c1 g2 c2 c→MB w' p gd cd ga ca g1 c1 g2 c2 c') (e1:c'.r.xs=c.r.xs) (e2:c'.r.ys=c.r.ys) (e3:c'.bx=c.bx) (e4:c'.bl=c.bl) (e5:c'.bm=c.bm):MAt w' lo mid hi p g2 c':=by
 obtain ⟨gd,cd,ga,ca,g1,c1,c2,hB0,hO⟩:=h
 refine ⟨gd,cd,ga,ca,g1,c1,c2,hB _ _ _ _ _ _ _ hB0,?_⟩
 rw [e1,e2,e3,e4,e5]
 exact hO.own k
theorem MAt.cP {w:World} {lo mid hi p g2:Nat} {c:Pl.Mc} (h:MAt w lo mid hi p g2 c) (v:Int):MAt (w.setCell ⟨p,3,none⟩ (iv v)) lo mid hi p g2 (c.aK v):=h.cell (ak _ _ _ _) (fun _ _ _ _ _ _ _ q=>q.cP v) rfl rfl rfl rfl rfl
theorem MAt.cF {w:World} {lo mid hi p g2:Nat} {c:Pl.Mc} (h:MAt w lo mid hi p g2 c) (v:Int):MAt (w.setCell ⟨p,4,none⟩ (iv v)) lo mid hi p g2 (c.aF v):=h.cell (ak _ _ _ _) (fun _ _ _ _ _ _ _ q=>q.cF v) rfl rfl rfl rfl rfl
theorem MAt.cSt {w:World} {lo mid hi p g2:Nat} {c:Pl.Mc} (h:MAt w lo mid hi p g2 c) (v:Bool):MAt (w.setCell ⟨p,10,none⟩ (.bool v)) lo mid hi p g2 ({c with st:=v}):=h.cell (ak _ _ _ _) (fun _ _ _ _ _ _ _ q=>q.cSt v) rfl rfl rfl rfl rfl
theorem MAt.cV {w:World} {lo mid hi p g2:Nat} {c:Pl.Mc} (h:MAt w lo mid hi p g2 c) (v:Int):MAt (w.setCell ⟨p,11,none⟩ (iv v)) lo mid hi p g2 ({c with f:={c.f with v:=v}}):=h.cell (ak _ _ _ _) (fun _ _ _ _ _ _ _ q=>q.cV v) rfl rfl rfl rfl rfl
theorem MAt.cPc {w:World} {lo mid hi p g2:Nat} {c:Pl.Mc} (h:MAt w lo mid hi p g2 c) (v:Int):MAt (w.setCell ⟨p,12,none⟩ (iv v)) lo mid hi p g2 ({c with f:={c.f with pc:=v}}):=h.cell (ak _ _ _ _) (fun _ _ _ _ _ _ _ q=>q.cPc v) rfl rfl rfl rfl rfl
theorem MAt.cWo {w:World} {lo mid hi p g2:Nat} {c:Pl.Mc} (h:MAt w lo mid hi p g2 c) (v:Int):MAt (w.setCell ⟨p,14,none⟩ (iv v)) lo mid hi p g2 ({c with f:={c.f with wo:=v}}):=h.cell (ak _ _ _ _) (fun _ _ _ _ _ _ _ q=>q.cWo v) rfl rfl rfl rfl rfl
section
variable {w:World} {p gd cd ga ca g1 c1 g2 c2:Nat} {c:Pl.Mc}
theorem MB.k0 (h:MB w p gd cd ga ca g1 c1 g2 c2 c):w.cell? ⟨p,0,none⟩=some (.slice (some ⟨gd,0,none⟩) 4 cd):=Blk.cell h rfl
theorem MB.k1 (h:MB w p gd cd ga ca g1 c1 g2 c2 c):w.cell? ⟨p,1,none⟩=some (.slice (some ⟨ga,0,none⟩) 4 ca):=Blk.cell h rfl
theorem MB.k2 (h:MB w p gd cd ga ca g1 c1 g2 c2 c):w.cell? ⟨p,2,none⟩=some (iv c.r.o):=Blk.cell h rfl
theorem MB.k3 (h:MB w p gd cd ga ca g1 c1 g2 c2 c):w.cell? ⟨p,3,none⟩=some (iv c.r.p):=Blk.cell h rfl
theorem MB.k4 (h:MB w p gd cd ga ca g1 c1 g2 c2 c):w.cell? ⟨p,4,none⟩=some (iv c.r.f):=Blk.cell h rfl
theorem MB.k5 (h:MB w p gd cd ga ca g1 c1 g2 c2 c):w.cell? ⟨p,5,none⟩=some (iv c.r.m):=Blk.cell h rfl
theorem MB.k6 (h:MB w p gd cd ga ca g1 c1 g2 c2 c):w.cell? ⟨p,6,none⟩=some (.bool c.r.s):=Blk.cell h rfl
theorem MB.k7 (h:MB w p gd cd ga ca g1 c1 g2 c2 c):w.cell? ⟨p,7,none⟩=some (.bool c.r.t):=Blk.cell h rfl
theorem MB.k11 (h:MB w p gd cd ga ca g1 c1 g2 c2 c):w.cell? ⟨p,11,none⟩=some (iv c.f.v):=Blk.cell h rfl
theorem MB.k12 (h:MB w p gd cd ga ca g1 c1 g2 c2 c):w.cell? ⟨p,12,none⟩=some (iv c.f.pc):=Blk.cell h rfl
theorem MB.c8 (h:MB w p gd cd ga ca g1 c1 g2 c2 c):w.cell? ⟨p,0,none⟩=some (.slice (some ⟨gd,0,none⟩) 4 cd)∧w.cell? ⟨p,1,none⟩=some (.slice (some ⟨ga,0,none⟩) 4 ca)∧w.cell? ⟨p,2,none⟩=some (iv c.r.o)∧w.cell? ⟨p,3,none⟩=some (iv c.r.p)∧w.cell? ⟨p,4,none⟩=some (iv c.r.f)∧w.cell? ⟨p,5,none⟩=some (iv c.r.m)∧w.cell? ⟨p,6,none⟩=some (.bool c.r.s)∧w.cell? ⟨p,7,none⟩=some (.bool c.r.t):=⟨h.k0,h.k1,h.k2,h.k3,h.k4,h.k5,h.k6,h.k7⟩
end
theorem MAt.op {w:World} {lo mid hi p g2:Nat} {c:Pl.Mc} (h:MAt w lo mid hi p g2 c):∃gd cd ga ca g1 c1 c2:Nat,Hid (MB w p gd cd ga ca g1 c1 g2 c2 c)∧Hid (MO w lo mid hi p gd ga g1 g2 c2 c.r.xs c.r.ys c.bx c.bl c.bm):=by
 obtain ⟨gd,cd,ga,ca,g1,c1,c2,hB,hO⟩:=h
 exact ⟨gd,cd,ga,ca,g1,c1,c2,hide hB,hide hO⟩
theorem MAt.dS {w:World} {lo mid hi p g2:Nat} {c:Pl.Mc} (h:MAt w lo mid hi p g2 c) (x:Pl.In):∃X:World,w.alloc (.cells (inX x) 109)=X∧Hid (Kept 0 0 w X)∧Hid (Blk X w.heap.size (mi x) 109)∧w.heap.size<X.heap.size∧Hid (hi≤w.heap.size)∧Hid (w.heap.size≠g2)∧Hid ((lo≤p∧p<hi)∨w.heap.size≤p)∧Hid (p<w.heap.size)∧Hid (mid≤hi)∧Hid (Since w lo hi g2 X g2)∧Hid (MAt X lo mid hi p g2 c):=by
 have hl:=h.lo
 have KA:=kept_alloc w (.cells (mi x) 109)
 exact ⟨_,rfl,hide KA,hide (Blk.new w (mi x) _),by simp,hide (by omega),hide (by omega),hide (by omega),hide (by omega),hide (by omega),hide ((Since.refl w lo hi g2).any KA),hide (h.any KA)⟩
theorem Since.nx {w X W:World} {lo hi g0 g g' b:Nat} {cs:Array Value} {ty:TypeId} (h:Since X lo hi g W g') (HX:Hid (Blk X b cs ty)) (HH:Hid (hi≤b)) (HG:Hid (b≠g)) (HS:Hid (Since w lo hi g0 X g)):Hid (Blk W b cs ty)∧Hid (b≠g')∧Hid (Since w lo hi g0 W g'):=
 ⟨hide (h.blk HX.o HH.o HG.o),hide (h.ne HX.o.lt HG.o),hide (HS.o.trans h)⟩
theorem bT (w:World) (lo mid hi p g2:Nat) (c:Pl.Mc) (h:MAt w lo mid hi p g2 c) :
  Calls prog 68 #[.pointer (some ⟨p,0,none⟩)] w fun e w'=>e=.returned (.bool c.fine)∧w'=w:=by
 obtain ⟨gd,cd,ga,ca,g1,c1,c2,hB,hO⟩:=h
 obtain ⟨t0,t1,t2,t3,t4,t5,t6,t7,t8,t9,t10,t11,t12,t13,t14,t15⟩:=hB.cells
 clear hB hO
 go_enter func68,ntmps68
 go_wp2
 go_ret
 exact ⟨rfl,rfl⟩
theorem MB.acc {w:World} {p gd cd ga ca g1 c1 g3 c3:Nat} {c:Pl.Mc} {k s a v:Int} (h:MB w p gd cd ga ca g1 c1 g3 c3 {c.acc k s a v with f:=c.f}) (e:Pl.Mc.fE c.f k s a=c.f):MB w p gd cd ga ca g1 c1 g3 c3 (c.acc k s a v):=by
 have q:c.acc k s a v={c.acc k s a v with f:=c.f}:=by
  unfold Pl.Mc.acc;rw [e]
 rw [q];exact h
theorem ig (w:World) (lo mid hi p g2:Nat) (c:Pl.Mc) (k s a v:Int) (h:MAt w lo mid hi p g2 c) (G:Pl.GM c) (hask:Pl.gq k s a v=true) :
  Calls prog 82 #[.pointer (some ⟨p,0,none⟩),iv k,iv s,iv a,iv v] w fun e w'=>e=.returned (iv (c.jI k s a v))∧∃g3,MAt w' lo mid hi p g3 (c.acc k s a v)∧Since w lo hi g2 w' g3:=by
 obtain ⟨gd,cd,ga,ca,g1,c1,c2,hB,hO⟩:=h
 have HB:=hide hB
 have HO:=hide hO
 have HG:=hide G
 clear hB hO G
 cases hc:(Pl.code k s a != 0)
 ·have HF:Hid (Pl.Mc.fE c.f k s a=c.f):=hide (by unfold Pl.Mc.fE;rw [hc];rfl)
  go_enter func82,ntmps82
  go_wp2_with (go_at_call 127;refine (uG _ lo mid hi p gd cd ga ca g1 c1 g2 c2 c k s a v HB.o HO.o HG.o hask).mono ?_;rintro e9 W ⟨g3,c3,rfl,hB2,hO2,hb2⟩;have HB2:=hide hB2;have HO2:=hide hO2;have HL2:=hide hb2;clear hB2 hO2 hb2)
  go_ret
  exact ⟨rfl,g3,⟨gd,cd,ga,ca,g1,c1,c3,HB2.o.acc HF.o,HO2.o⟩,HL2.o⟩
 ·cases hv:(c.f.v==0)
  ·have HF:Hid (Pl.Mc.fE c.f k s a=c.f):=hide (by unfold Pl.Mc.fE;rw [hc,hv];rfl)
   go_enter func82,ntmps82
   go_wp2_with (go_at_call 127;refine (uG _ lo mid hi p gd cd ga ca g1 c1 g2 c2 c k s a v HB.o HO.o HG.o hask).mono ?_;rintro e9 W ⟨g3,c3,rfl,hB2,hO2,hb2⟩;have HB2:=hide hB2;have HO2:=hide hO2;have HL2:=hide hb2;obtain ⟨t0,t1,t2,t3,t4,t5,t6,t7,t8,t9,t10,t11,t12,t13,t14,t15⟩:=hB2.cells;simp only at t11;clear hB2 hO2 hb2 t0 t1 t2 t3 t4 t5 t6 t7 t8 t9 t10 t12 t13 t14 t15)
   go_ret
   exact ⟨rfl,g3,⟨gd,cd,ga,ca,g1,c1,c3,HB2.o.acc HF.o,HO2.o⟩,HL2.o⟩
  ·cases h2:(Pl.code k s a==2)
   ·have HF:Hid (Pl.Mc.fE c.f k s a={c.f with v:=2,ad:=a,wr:=k==2}):=hide (by unfold Pl.Mc.fE;rw [hc,hv,h2];rfl)
    go_enter func82,ntmps82
    go_wp2_with (go_at_call 127;refine (uG _ lo mid hi p gd cd ga ca g1 c1 g2 c2 c k s a v HB.o HO.o HG.o hask).mono ?_;rintro e9 W ⟨g3,c3,rfl,hB2,hO2,hb2⟩;have HB2:=hide hB2;have HO2:=hide hO2;have HL2:=hide hb2;obtain ⟨t0,t1,t2,t3,t4,t5,t6,t7,t8,t9,t10,t11,t12,t13,t14,t15⟩:=hB2.cells;simp only at t11;have f11:=hB2.frozen 11;have f13:=hB2.frozen 13;have f15:=hB2.frozen 15;clear hB2 hO2 hb2 t0 t1 t2 t3 t4 t5 t6 t7 t8 t9 t10 t12 t14)
    go_ret
    have hq:(lo≤p∧p<hi)∨w.heap.size≤p:=by have:=HO2.o.p0;have:=HO2.o.d0;have:=HO2.o.d1;have:=HO2.o.p1;omega
    have KK:=((ak W p 11 (iv 2)).one 13 (iv a)).one 15 (.bool (k==2))
    refine ⟨rfl,g3,⟨gd,cd,ga,ca,g1,c1,c3,?_,HO2.o.own KK⟩,((HL2.o.set p 11 _ hq).set p 13 _ hq).set p 15 _ hq⟩
    have q:=((HB2.o.cV 2).cAd a).cWr (k==2)
    unfold Pl.Mc.acc
    rw [HF.o]
    exact q
   ·have HF:Hid (Pl.Mc.fE c.f k s a={c.f with v:=3,ad:=a,wr:=k==2}):=hide (by unfold Pl.Mc.fE;rw [hc,hv,h2];rfl)
    go_enter func82,ntmps82
    go_wp2_with (go_at_call 127;refine (uG _ lo mid hi p gd cd ga ca g1 c1 g2 c2 c k s a v HB.o HO.o HG.o hask).mono ?_;rintro e9 W ⟨g3,c3,rfl,hB2,hO2,hb2⟩;have HB2:=hide hB2;have HO2:=hide hO2;have HL2:=hide hb2;obtain ⟨t0,t1,t2,t3,t4,t5,t6,t7,t8,t9,t10,t11,t12,t13,t14,t15⟩:=hB2.cells;simp only at t11;have f11:=hB2.frozen 11;have f13:=hB2.frozen 13;have f15:=hB2.frozen 15;clear hB2 hO2 hb2 t0 t1 t2 t3 t4 t5 t6 t7 t8 t9 t10 t12 t14)
    go_ret
    have hq:(lo≤p∧p<hi)∨w.heap.size≤p:=by have:=HO2.o.p0;have:=HO2.o.d0;have:=HO2.o.d1;have:=HO2.o.p1;omega
    have KK:=(((ak W p 11 (iv 2)).one 11 (iv 3)).one 13 (iv a)).one 15 (.bool (k==2))
    refine ⟨rfl,g3,⟨gd,cd,ga,ca,g1,c1,c3,?_,HO2.o.own KK⟩,(((HL2.o.set p 11 _ hq).set p 11 _ hq).set p 13 _ hq).set p 15 _ hq⟩
    have q:=(((HB2.o.cV 2).cV 3).cAd a).cWr (k==2)
    unfold Pl.Mc.acc
    rw [HF.o]
    exact q
theorem jL {w:World} {g:Nat} {xs:List Int} (h:Own w g xs) (k:Nat) (hk:k<xs.length):w.cell? ⟨g,k,none⟩=some (iv (el xs k))∧w.frozen? ⟨g,k,none⟩=false:=h k hk
theorem mg (n:Int):bits .and .i64 n 65535=n%65536:=Pl.gu n
theorem Pl.wG {c:Pl.Mc} {v:Int} (h0:0≤v) (h1:v≤65535):Pl.gq 2 2 c.spA v=true:=by
 have q:0≤c.spA∧c.spA≤65535:=by unfold Pl.Mc.spA;omega
 generalize c.spA=a at q
 simp [Pl.gq,Pl.eP,Pl.okv,Pl.top,Pl.addr];omega
theorem Pl.iO {k a:Int} (hk:k=1∨k=3) (h0:0≤a) (h1:a≤65535):Pl.gq k 2 a 0=true:=by
 rcases hk with rfl|rfl<;>simp [Pl.gq,Pl.eP,Pl.okv,Pl.top,Pl.addr]<;>omega
theorem QL (w:World) (lo mid hi p g2:Nat) (c:Pl.Mc) (v:Int) (h:MAt w lo mid hi p g2 c) (G:Pl.GM c) (v0:0≤v) (v1:v≤65535) :
  Calls prog 81 #[.pointer (some ⟨p,0,none⟩),iv v] w fun e w'=>e=.returned (.tuple #[])∧∃g3,MAt w' lo mid hi p g3 (c.push v)∧Since w lo hi g2 w' g3:=by
 have a3:=G.g.aw 3 (by omega)
 have HA:=hide (Pl.wG (c:=c) v0 v1)
 have HG:=hide G
 have h4:=hide G.g.a4
 obtain ⟨a30,a31⟩:=a3
 have hm:=mg (el c.r.ys 3-2)
 have HM:=hide h
 obtain ⟨gd,cd,ga,ca,g1,c1,c2,HB,HO⟩:=h.op
 have t1:=HB.o.k1
 obtain ⟨hc3,_⟩:=jL HO.o.a 3 (by rw [h4.o];decide)
 clear G
 cases hf:(c.acc 2 2 c.spA v).fine
 ·have E:Hid (c.push v=c.acc 2 2 c.spA v):=hide (by unfold Pl.Mc.push;rw [hf];rfl)
  go_enter func81,ntmps81
  go_wp2_with (first|(go_at_call 82;refine (ig _ lo mid hi p g2 c 2 2 c.spA v HM.o HG.o HA.o).mono ?_;rintro e9 W_1 ⟨rfl,aW,hm9,hb9⟩;have Df:=hide hb9;clear hb9;have aY:=hide hm9;obtain ⟨bV,bY,bW,bZ,eX,fA,eY,aZ,bG⟩:=hm9.op)|(go_at_call 68;refine st (bT _ lo mid hi p aW _ aY.o) ?_;rw [hf]))
  go_end0
  exact ⟨rfl,aW,by rw [E.o];exact aY.o,Df.o⟩
 ·have E:Hid (c.push v=(c.acc 2 2 c.spA v).fU 3 c.spA):=hide (by unfold Pl.Mc.push;rw [hf];rfl)
  go_enter func81,ntmps81
  go_wp2_with (first|(go_at_call 82;refine (ig _ lo mid hi p g2 c 2 2 c.spA v HM.o HG.o HA.o).mono ?_;rintro e9 W_1 ⟨rfl,aW,hm9,hb9⟩;have Df:=hide hb9;clear hb9;have aY:=hide hm9;obtain ⟨bV,bY,bW,bZ,eX,fA,eY,aZ,bG⟩:=hm9.op;have lD:=aZ.o.k1;obtain ⟨hd3,hf3⟩:=jL bG.o.a 3 (by have:=h4.o;show 3<c.r.ys.length;omega))|(go_at_call 68;refine st (bT _ lo mid hi p aW _ aY.o) ?_;rw [hf]))
  go_end0
  have q0:=bG.o.a0
  have q1:=bG.o.a1
  have q2:=bG.o.p0
  have q3:=bG.o.p1
  refine ⟨rfl,aW,?_,Df.o.set _ _ _ (.inl (by omega))⟩
  rw [E.o]
  exact ⟨bV,bY,bW,bZ,eX,fA,eY,aZ.o.tu _ _ _ (by omega),bG.o.fU 3 _⟩
theorem Fp (w:World) (lo mid hi p g2:Nat) (c:Pl.Mc) (h:MAt w lo mid hi p g2 c) (G:Pl.GM c) :
  Calls prog 149 #[.pointer (some ⟨p,0,none⟩)] w fun e w'=>e=.returned (iv c.eu)∧∃g3,MAt w' lo mid hi p g3 c.pop∧Since w lo hi g2 w' g3:=by
 have a3:=G.g.aw 3 (by omega)
 obtain ⟨a30,a31⟩:=a3
 have HA:=hide (Pl.iO (.inl rfl) a30 a31)
 have HG:=hide G
 have h4:=hide G.g.a4
 have hm:=mg (el c.r.ys 3+2)
 have HM:=hide h
 obtain ⟨gd,cd,ga,ca,g1,c1,c2,HB,HO⟩:=h.op
 have t1:=HB.o.k1
 obtain ⟨hc3,_⟩:=jL HO.o.a 3 (by rw [h4.o];decide)
 clear G
 cases hf:(c.acc 1 2 (el c.r.ys 3) 0).fine
 ·have E:Hid (c.pop=c.acc 1 2 (el c.r.ys 3) 0):=hide (by unfold Pl.Mc.pop;rw [hf];rfl)
  go_enter func149,ntmps149
  go_wp2_with (first|(go_at_call 82;refine (ig _ lo mid hi p g2 c 1 2 (el c.r.ys 3) 0 HM.o HG.o HA.o).mono ?_;rintro e9 W_1 ⟨rfl,aW,hm9,hb9⟩;have Df:=hide hb9;clear hb9;have aY:=hide hm9;obtain ⟨bV,bY,bW,bZ,eX,fA,eY,aZ,bG⟩:=hm9.op)|(go_at_call 68;refine st (bT _ lo mid hi p aW _ aY.o) ?_;rw [hf]))
  go_ret
  exact ⟨rfl,aW,by rw [E.o];exact aY.o,Df.o⟩
 ·have E:Hid (c.pop=(c.acc 1 2 (el c.r.ys 3) 0).fU 3 ((el c.r.ys 3+2)%65536)):=hide (by unfold Pl.Mc.pop;rw [hf];rfl)
  go_enter func149,ntmps149
  go_wp2_with (first|(go_at_call 82;refine (ig _ lo mid hi p g2 c 1 2 (el c.r.ys 3) 0 HM.o HG.o HA.o).mono ?_;rintro e9 W_1 ⟨rfl,aW,hm9,hb9⟩;have Df:=hide hb9;clear hb9;have aY:=hide hm9;obtain ⟨bV,bY,bW,bZ,eX,fA,eY,aZ,bG⟩:=hm9.op;have lD:=aZ.o.k1;obtain ⟨hd3,hf3⟩:=jL bG.o.a 3 (by have:=h4.o;show 3<c.r.ys.length;omega);rw [show (Pl.Mc.acc c 1 2 (el c.r.ys 3) 0).r=c.r from rfl] at hd3)|(go_at_call 68;refine st (bT _ lo mid hi p aW _ aY.o) ?_;rw [hf]))
  go_region
  go_wp2_with fail
  go_ret
  have q0:=bG.o.a0
  have q1:=bG.o.a1
  have q2:=bG.o.p0
  have q3:=bG.o.p1
  refine ⟨rfl,aW,MAt.drew ?_,(Df.o.set _ _ _ (.inl (by omega))).drew⟩
  rw [E.o]
  exact ⟨bV,bY,bW,bZ,eX,fA,eY,aZ.o.tu _ _ _ (by omega),bG.o.fU 3 _⟩
theorem dF (b:Bool) (f:Int) (w:World) :
  Calls prog 146 #[.bool b,iv f] w fun e w'=>e=.returned (iv (Pl.fl b f))∧w'=w:=by
 cases b
 all_goals
  go_enter func146,ntmps146
  go_wp2
  go_ret
  exact ⟨rfl,rfl⟩
theorem ou (v:Int) (w:World) :
  Calls prog 144 #[iv 1,iv v] w fun e w'=>e=.returned (iv (bits .or .i64 (Pl.fl (v==0) 4) (Pl.fl (decide (128≤v)) 8)))∧w'=w:=by
 go_enter func144,ntmps144
 go_wp2_with fail
 refine (dF _ _ _).mono ?_
 rintro e w' ⟨rfl,rfl⟩
 go_wp2_with fail
 refine (ja _).mono ?_
 rintro e w' ⟨rfl,rfl⟩
 go_wp2_with fail
 refine (dF _ _ _).mono ?_
 rintro e w' ⟨rfl,rfl⟩
 go_wp2_with fail
 go_ret
 exact ⟨rfl,rfl⟩
theorem oh (v:Int) (w:World) :
  Calls prog 144 #[iv 2,iv v] w fun e w'=>e=.returned (iv (bits .or .i64 (Pl.fl (v==0) 4) (Pl.fl (decide (32768≤v)) 8)))∧w'=w:=by
 go_enter func144,ntmps144
 go_wp2_with fail
 refine (dF _ _ _).mono ?_
 rintro e w' ⟨rfl,rfl⟩
 go_wp2_with fail
 refine (iZ _).mono ?_
 rintro e w' ⟨rfl,rfl⟩
 go_wp2_with fail
 refine (dF _ _ _).mono ?_
 rintro e w' ⟨rfl,rfl⟩
 go_wp2_with fail
 go_ret
 exact ⟨rfl,rfl⟩
theorem xh (v:Int) (w:World) (lo : -9223372036854775808≤v) (hi:v≤9223372036854775807) :
  Calls prog 174 #[iv v] w fun e w'=>e=.returned (.tuple #[iv (Pl.pI 1 v),.bool (Pl.okv 1 v)])∧w'=w:=by
 by_cases h:0≤v∧v<256
 ·obtain ⟨h0,h1⟩:=h
  have hs:IntKind.u8.signed=false:=rfl
  have hm:IntKind.u8.max=255:=by decide
  have hb:bits .xor .u8 255 0=255:=by decide
  by_cases h:127<v
  all_goals
   go_enter func174,ntmps174
   go_wp2
   go_ret2
   exact ⟨rIB (by simp [Pl.pI,Pl.okv,Pl.sg,Pl.top,h0,h1];omega) (by simp [Pl.okv,Pl.top,h0,h1]),rfl⟩
 ·go_enter func174,ntmps174
  go_wp2
  go_ret2
  have k:Pl.okv 1 v=false:=by
   cases c:Pl.okv 1 v
   ·rfl
   ·have:=Pl.aQ c;omega
  exact ⟨rIB (by simp [Pl.pI,k]) k.symm,rfl⟩
theorem vk (v:Int) (w:World) (lo : -9223372036854775808≤v) (hi:v≤9223372036854775807) :
  Calls prog 175 #[iv v] w fun e w'=>e=.returned (.tuple #[iv (Pl.pI 2 v),.bool (Pl.okv 2 v)])∧w'=w:=by
 by_cases h:0≤v∧v<65536
 ·obtain ⟨h0,h1⟩:=h
  have hs:IntKind.u16.signed=false:=rfl
  have hm:IntKind.u16.max=65535:=by decide
  have hb:bits .xor .u16 65535 0=65535:=by decide
  by_cases h:32767<v
  all_goals
   go_enter func175,ntmps175
   go_wp2
   go_ret2
   exact ⟨rIB (by simp [Pl.pI,Pl.okv,Pl.sg,Pl.top,h0,h1];omega) (by simp [Pl.okv,Pl.top,h0,h1]),rfl⟩
 ·have hw:IntKind.u16.wrap v=v%65536:=IntKind.wrap_u16 v
  go_enter func175,ntmps175
  go_wp2
  go_ret2
  have k:Pl.okv 2 v=false:=by
   cases c:Pl.okv 2 v
   ·rfl
   ·have:=Pl.aQ c;omega
  exact ⟨rIB (by simp [Pl.pI,k]) k.symm,rfl⟩
theorem dG (s v:Int) (w:World) (lo : -9223372036854775808≤v) (hi:v≤9223372036854775807) :
  Calls prog 128 #[iv s,iv v] w fun e w'=>e=.returned (.tuple #[iv (Pl.pI s v),.bool (Pl.okv s v)])∧w'=w:=by
 by_cases h1:s=1
 ·subst h1
  go_enter func128,ntmps128
  go_wp2_with fail
  refine (xh v _ lo hi).mono ?_
  rintro e w' ⟨rfl,rfl⟩
  go_wp2_with fail
  go_ret2
  exact ⟨rfl,rfl⟩
 ·by_cases h2:s=2
  ·subst h2
   go_enter func128,ntmps128
   go_wp2_with fail
   refine (vk v _ lo hi).mono ?_
   rintro e w' ⟨rfl,rfl⟩
   go_wp2_with fail
   go_ret2
   exact ⟨rfl,rfl⟩
  ·have k:Pl.okv s v=false:=by simp [Pl.okv,h1,h2]
   have k1:(s==1)=false:=by simpa using h1
   have k2:(s==2)=false:=by simpa using h2
   go_enter func128,ntmps128
   go_wp2_with fail
   go_ret2
   exact ⟨rIB (by simp [Pl.pI,k]) k.symm,rfl⟩
theorem gI (b:Bool) (f:Int) (w:World) :
  Calls prog 133 #[.bool b,iv f] w fun e w'=>e=.returned (iv (Pl.fl b f))∧w'=w:=by
 cases b
 all_goals
  go_enter func133,ntmps133
  go_wp2
  go_ret
  exact ⟨rfl,rfl⟩
theorem DW (x:Int) (w:World) :
  Calls prog 234 #[iv x] w fun e w'=>e=.returned (.bool (Pl.bit x))∧w'=w:=by
 by_cases h0:x=0
 ·subst h0
  go_enter func234,ntmps234
  go_wp2
  go_ret
  exact ⟨rfl,rfl⟩
 ·by_cases h1:x=1
  ·subst h1
   go_enter func234,ntmps234
   go_wp2
   go_ret
   exact ⟨rfl,rfl⟩
  ·have k0:(x==0)=false:=by simpa using h0
   have k1:(x==1)=false:=by simpa using h1
   go_enter func234,ntmps234
   go_wp2
   go_ret
   exact ⟨rB (by simp [Pl.bit];omega),rfl⟩
theorem uP (x:Int) (w:World) :
  Calls prog 86 #[iv x] w fun e w'=>e=.returned (.bool (Pl.flags x))∧w'=w:=by
 by_cases h0:0≤x
 all_goals
  by_cases h1:x≤31
  all_goals
   go_enter func86,ntmps86
   go_wp2
   go_ret
   exact ⟨rB (by simp [Pl.flags];omega),rfl⟩
theorem iK (s a b:Int) (w:World) (la : -9223372036854775808≤a) (ha:a≤9223372036854775807) (lb : -9223372036854775808≤b) (hb:b≤9223372036854775807) :
  Calls prog 240 #[iv s,iv a,iv b] w fun e w'=>e=.returned (.tuple #[iv (Pl.pI s a),iv (Pl.pI s b),.bool (Pl.okv s a&&Pl.okv s b)])∧w'=w:=by
 cases ka:Pl.okv s a
 all_goals
  cases kb:Pl.okv s b
  all_goals
   go_enter func240,ntmps240
   go_wp2_with fail
   refine (dG s a _ la ha).mono ?_
   rintro e w' ⟨rfl,rfl⟩
   go_wp2_with fail
   refine (dG s b _ lb hb).mono ?_
   rintro e w' ⟨rfl,rfl⟩
   go_wp2_with fail
   go_ret3
   exact ⟨lX rfl rfl rfl,rfl⟩
theorem GY (p q:Int) (w:World) :
  Calls prog 260 #[iv p,iv q] w fun e w'=>e=.returned (.tuple #[iv (p%256),iv (Pl.iM 1 p q)])∧w'=w:=by
 go_enter func260,ntmps260
 go_wp2_with fail
 refine (xh _ _ (by omega) (by omega)).mono ?_
 rintro e w' ⟨rfl,rfl⟩
 go_wp2_with fail
 refine (gI _ _ _).mono ?_
 rintro e w' ⟨rfl,rfl⟩
 go_wp2_with fail
 refine (gI _ _ _).mono ?_
 rintro e w' ⟨rfl,rfl⟩
 go_wp2_with fail
 refine (gI _ _ _).mono ?_
 rintro e w' ⟨rfl,rfl⟩
 go_wp2_with fail
 refine (gI _ _ _).mono ?_
 rintro e w' ⟨rfl,rfl⟩
 go_wp2_with fail
 go_ret2
 exact ⟨rII rfl (Pl.Wj p q),rfl⟩
theorem ED (p q:Int) (w:World) :
  Calls prog 261 #[iv p,iv q] w fun e w'=>e=.returned (.tuple #[iv (p%65536),iv (Pl.iM 2 p q)])∧w'=w:=by
 have hw:IntKind.u16.wrap p=p%65536:=IntKind.wrap_u16 p
 go_enter func261,ntmps261
 go_wp2_with fail
 refine (vk _ _ (by omega) (by omega)).mono ?_
 rintro e w' ⟨rfl,rfl⟩
 go_wp2_with fail
 refine (gI _ _ _).mono ?_
 rintro e w' ⟨rfl,rfl⟩
 go_wp2_with fail
 refine (gI _ _ _).mono ?_
 rintro e w' ⟨rfl,rfl⟩
 go_wp2_with fail
 refine (gI _ _ _).mono ?_
 rintro e w' ⟨rfl,rfl⟩
 go_wp2_with fail
 refine (gI _ _ _).mono ?_
 rintro e w' ⟨rfl,rfl⟩
 go_wp2_with fail
 go_ret2
 exact ⟨rII rfl (Pl.kept2 p q),rfl⟩
theorem sH (s p q:Int) (w:World) (hs:s=1∨s=2) :
  Calls prog 241 #[iv s,iv p,iv q] w fun e w'=>e=.returned (.tuple #[iv (p%Pl.top s),iv (Pl.iM s p q)])∧w'=w:=by
 rcases hs with rfl|rfl
 ·go_enter func241,ntmps241
  go_wp2_with fail
  refine (GY _ _ _).mono ?_
  rintro e w' ⟨rfl,rfl⟩
  go_wp2_with fail
  go_ret2
  exact ⟨rII rfl rfl,rfl⟩
 ·go_enter func241,ntmps241
  go_wp2_with fail
  refine (ED _ _ _).mono ?_
  rintro e w' ⟨rfl,rfl⟩
  go_wp2_with fail
  go_ret2
  exact ⟨rII rfl rfl,rfl⟩
theorem MM (s x a b:Int) (w:World) (la : -9223372036854775808≤a) (ha:a≤9223372036854775807) (lb : -9223372036854775808≤b) (hb:b≤9223372036854775807) :
  Calls prog 220 #[iv s,iv x,iv a,iv b] w fun e w'=>e=.returned (.tuple #[iv (Pl.qY s x a b),iv (Pl.jm s x a b),.bool (Pl.two s x a b)])∧w'=w:=by
 cases k:Pl.two s x a b
 ·have HV:Hid (Pl.qY s x a b=0):=hide (by simp [Pl.qY,k])
  have HF:Hid (Pl.jm s x a b=0):=hide (by simp [Pl.jm,k])
  have k':Pl.okv s a=false∨Pl.okv s b=false∨(Pl.okv s a=true∧Pl.okv s b=true∧Pl.bit x=false):=by
   revert k
   unfold Pl.two
   cases Pl.okv s a<;>cases Pl.okv s b<;>cases Pl.bit x<;>simp
  clear k
  rcases k' with ka|kb|⟨ka,kb,kx⟩
  ·go_enter func220,ntmps220
   go_wp2_with fail
   refine (iK s a b _ la ha lb hb).mono ?_
   rintro e w' ⟨rfl,rfl⟩
   go_wp2_with fail
   go_ret3
   exact ⟨lX HV.o.symm HF.o.symm rfl,rfl⟩
  ·have kab:(Pl.okv s a&&Pl.okv s b)=false:=by rw [kb];simp
   go_enter func220,ntmps220
   go_wp2_with fail
   refine (iK s a b _ la ha lb hb).mono ?_
   rintro e w' ⟨rfl,rfl⟩
   go_wp2_with fail
   go_ret3
   exact ⟨lX HV.o.symm HF.o.symm rfl,rfl⟩
  ·go_enter func220,ntmps220
   go_wp2_with fail
   refine (iK s a b _ la ha lb hb).mono ?_
   rintro e w' ⟨rfl,rfl⟩
   go_wp2_with fail
   refine (DW x _).mono ?_
   rintro e w' ⟨rfl,rfl⟩
   go_wp2_with fail
   go_ret3
   exact ⟨lX HV.o.symm HF.o.symm rfl,rfl⟩
 ·have HV:Hid (Pl.qY s x a b=(a+b+x)%Pl.top s):=hide (by simp [Pl.qY,k])
  have HF:Hid (Pl.jm s x a b=Pl.iM s (a+b+x) (Pl.sg s a+Pl.sg s b+x)):=hide (by simp [Pl.jm,k])
  obtain ⟨ka,kb,kx⟩:=Pl.AV k
  have ea:=Pl.lM ka
  have eb:=Pl.lM kb
  obtain ⟨hs,a0,a1⟩:=Pl.aQ ka
  obtain ⟨_,b0,b1⟩:=Pl.aQ kb
  obtain ⟨x0,x1⟩:=Pl.ui kx
  have sa : -32768≤Pl.sg s a∧Pl.sg s a≤32767:=by
   rcases hs with ⟨rfl,_⟩|⟨rfl,_⟩
   ·have:=Pl.pK a0 a1;omega
   ·exact Pl.pJ a0 a1
  have sb : -32768≤Pl.sg s b∧Pl.sg s b≤32767:=by
   rcases hs with ⟨rfl,_⟩|⟨rfl,_⟩
   ·have:=Pl.pK b0 b1;omega
   ·exact Pl.pJ b0 b1
  obtain ⟨sa0,sa1⟩:=sa
  obtain ⟨sb0,sb1⟩:=sb
  have a2:a<65536:=by omega
  have b2:b<65536:=by omega
  have hs2:s=1∨s=2:=by omega
  clear k hs a1 b1
  go_enter func220,ntmps220
  go_wp2_with fail
  refine (iK s a b _ la ha lb hb).mono ?_
  rintro e w' ⟨rfl,rfl⟩
  go_wp2_with fail
  refine (DW x _).mono ?_
  rintro e w' ⟨rfl,rfl⟩
  go_wp2_with fail
  refine (sH s _ _ _ hs2).mono ?_
  rintro e w' ⟨rfl,rfl⟩
  go_wp2_with fail
  go_ret3
  exact ⟨lX HV.o.symm HF.o.symm rfl,rfl⟩
theorem oW (s x a b:Int) (w:World) (la : -9223372036854775808≤a) (ha:a≤9223372036854775807) (lb : -9223372036854775808≤b) (hb:b≤9223372036854775807) :
  Calls prog 221 #[iv s,iv x,iv a,iv b] w fun e w'=>e=.returned (.tuple #[iv (Pl.kV s x a b),iv (Pl.gJ s x a b),.bool (Pl.two s x a b)])∧w'=w:=by
 cases k:Pl.two s x a b
 ·have HV:Hid (Pl.kV s x a b=0):=hide (by simp [Pl.kV,k])
  have HF:Hid (Pl.gJ s x a b=0):=hide (by simp [Pl.gJ,k])
  have k':Pl.okv s a=false∨Pl.okv s b=false∨(Pl.okv s a=true∧Pl.okv s b=true∧Pl.bit x=false):=by
   revert k
   unfold Pl.two
   cases Pl.okv s a<;>cases Pl.okv s b<;>cases Pl.bit x<;>simp
  clear k
  rcases k' with ka|kb|⟨ka,kb,kx⟩
  ·go_enter func221,ntmps221
   go_wp2_with fail
   refine (iK s a b _ la ha lb hb).mono ?_
   rintro e w' ⟨rfl,rfl⟩
   go_wp2_with fail
   go_ret3
   exact ⟨lX HV.o.symm HF.o.symm rfl,rfl⟩
  ·have kab:(Pl.okv s a&&Pl.okv s b)=false:=by rw [kb];simp
   go_enter func221,ntmps221
   go_wp2_with fail
   refine (iK s a b _ la ha lb hb).mono ?_
   rintro e w' ⟨rfl,rfl⟩
   go_wp2_with fail
   go_ret3
   exact ⟨lX HV.o.symm HF.o.symm rfl,rfl⟩
  ·go_enter func221,ntmps221
   go_wp2_with fail
   refine (iK s a b _ la ha lb hb).mono ?_
   rintro e w' ⟨rfl,rfl⟩
   go_wp2_with fail
   refine (DW x _).mono ?_
   rintro e w' ⟨rfl,rfl⟩
   go_wp2_with fail
   go_ret3
   exact ⟨lX HV.o.symm HF.o.symm rfl,rfl⟩
 ·have HV:Hid (Pl.kV s x a b=(a-b-x)%Pl.top s):=hide (by simp [Pl.kV,k])
  have HF:Hid (Pl.gJ s x a b=Pl.iM s (a-b-x) (Pl.sg s a-Pl.sg s b-x)):=hide (by simp [Pl.gJ,k])
  obtain ⟨ka,kb,kx⟩:=Pl.AV k
  have ea:=Pl.lM ka
  have eb:=Pl.lM kb
  obtain ⟨hs,a0,a1⟩:=Pl.aQ ka
  obtain ⟨_,b0,b1⟩:=Pl.aQ kb
  obtain ⟨x0,x1⟩:=Pl.ui kx
  have sa : -32768≤Pl.sg s a∧Pl.sg s a≤32767:=by
   rcases hs with ⟨rfl,_⟩|⟨rfl,_⟩
   ·have:=Pl.pK a0 a1;omega
   ·exact Pl.pJ a0 a1
  have sb : -32768≤Pl.sg s b∧Pl.sg s b≤32767:=by
   rcases hs with ⟨rfl,_⟩|⟨rfl,_⟩
   ·have:=Pl.pK b0 b1;omega
   ·exact Pl.pJ b0 b1
  obtain ⟨sa0,sa1⟩:=sa
  obtain ⟨sb0,sb1⟩:=sb
  have a2:a<65536:=by omega
  have b2:b<65536:=by omega
  have hs2:s=1∨s=2:=by omega
  clear k hs a1 b1
  go_enter func221,ntmps221
  go_wp2_with fail
  refine (iK s a b _ la ha lb hb).mono ?_
  rintro e w' ⟨rfl,rfl⟩
  go_wp2_with fail
  refine (DW x _).mono ?_
  rintro e w' ⟨rfl,rfl⟩
  go_wp2_with fail
  refine (sH s _ _ _ hs2).mono ?_
  rintro e w' ⟨rfl,rfl⟩
  go_wp2_with fail
  go_ret3
  exact ⟨lX HV.o.symm HF.o.symm rfl,rfl⟩
theorem IW (s a:Int) (w:World) (la : -9223372036854775808≤a) (ha:a≤9223372036854775807) :
  Calls prog 198 #[iv s,iv a] w fun e w'=>e=.returned (.tuple #[iv (Pl.kV s 0 0 a),iv (Pl.gJ s 0 0 a),.bool (Pl.two s 0 0 a)])∧w'=w:=by
 go_enter func198,ntmps198
 go_wp2_with fail
 refine (oW s 0 0 a _ (by omega) (by omega) la ha).mono ?_
 rintro e w' ⟨rfl,rfl⟩
 go_wp2_with fail
 go_ret3
 exact ⟨rfl,rfl⟩
theorem jU (v:Int) (w:World) (h0:0≤v) (h1:v<256) :
  Calls prog 182 #[iv 1,iv v] w fun e w'=>e=.returned (iv (Pl.sg 1 v))∧w'=w:=by
 by_cases h:128≤v
 ·go_enter func182,ntmps182
  go_wp2_with fail
  refine (ja _).mono ?_
  rintro e w' ⟨rfl,rfl⟩
  go_wp2_with fail
  refine (ja _).mono ?_
  rintro e w' ⟨rfl,rfl⟩
  go_wp2_with fail
  go_ret
  exact ⟨rI (by simp [Pl.sg,Pl.top];omega),rfl⟩
 ·go_enter func182,ntmps182
  go_wp2_with fail
  refine (ja _).mono ?_
  rintro e w' ⟨rfl,rfl⟩
  go_wp2_with fail
  go_ret
  exact ⟨rI (by simp [Pl.sg,Pl.top];omega),rfl⟩
theorem jT (v:Int) (w:World) (h0:0≤v) (h1:v<65536) :
  Calls prog 182 #[iv 2,iv v] w fun e w'=>e=.returned (iv (Pl.sg 2 v))∧w'=w:=by
 by_cases h:32768≤v
 ·go_enter func182,ntmps182
  go_wp2_with fail
  refine (iZ _).mono ?_
  rintro e w' ⟨rfl,rfl⟩
  go_wp2_with fail
  refine (iZ _).mono ?_
  rintro e w' ⟨rfl,rfl⟩
  go_wp2_with fail
  go_ret
  exact ⟨rI (by simp [Pl.sg,Pl.top];omega),rfl⟩
 ·go_enter func182,ntmps182
  go_wp2_with fail
  refine (iZ _).mono ?_
  rintro e w' ⟨rfl,rfl⟩
  go_wp2_with fail
  go_ret
  exact ⟨rI (by simp [Pl.sg,Pl.top];omega),rfl⟩
theorem Ce (s v:Int) (w:World) (h:Pl.okv s v=true) :
  Calls prog 182 #[iv s,iv v] w fun e w'=>e=.returned (iv (Pl.sg s v))∧w'=w:=by
 obtain ⟨hs,h0,h1⟩:=Pl.aQ h
 rcases hs with ⟨rfl,_⟩|⟨rfl,_⟩
 ·exact jU v w h0 h1
 ·exact jT v w h0 h1
theorem TE (x a b:Int) (w:World) (a0:0≤a) (a1:a<256) (b0:0≤b) (b1:b<256) (x0:0≤x) (x1:x≤1) :
  Calls prog 157 #[iv 1,iv x,iv a,iv b] w fun e w'=>e=.returned (.tuple #[iv ((a+b+x)%256),iv (Pl.iM 1 (a+b+x) (Pl.sg 1 a+Pl.sg 1 b+x))])∧w'=w:=by
 have em:=Pl.dP (a+b+x)
 obtain ⟨sa0,sa1⟩:=Pl.pK a0 a1
 obtain ⟨sb0,sb1⟩:=Pl.pK b0 b1
 go_enter func157,ntmps157
 go_wp2_with fail
 refine (ja _).mono ?_
 rintro e w' ⟨rfl,rfl⟩
 go_wp2_with fail
 refine (jU a _ a0 a1).mono ?_
 rintro e w' ⟨rfl,rfl⟩
 go_wp2_with fail
 refine (jU b _ b0 b1).mono ?_
 rintro e w' ⟨rfl,rfl⟩
 go_wp2_with fail
 refine (dF _ _ _).mono ?_
 rintro e w' ⟨rfl,rfl⟩
 go_wp2_with fail
 refine (jU ((a+b+x)%256) _ (by omega) (by omega)).mono ?_
 rintro e w' ⟨rfl,rfl⟩
 go_wp2_with fail
 refine (dF _ _ _).mono ?_
 rintro e w' ⟨rfl,rfl⟩
 go_wp2_with fail
 refine (ou _ _).mono ?_
 rintro e w' ⟨rfl,rfl⟩
 go_wp2_with fail
 go_ret2
 exact ⟨rII rfl (Pl.H8 _ _),rfl⟩
theorem TD (x a b:Int) (w:World) (a0:0≤a) (a1:a<65536) (b0:0≤b) (b1:b<65536) (x0:0≤x) (x1:x≤1) :
  Calls prog 157 #[iv 2,iv x,iv a,iv b] w fun e w'=>e=.returned (.tuple #[iv ((a+b+x)%65536),iv (Pl.iM 2 (a+b+x) (Pl.sg 2 a+Pl.sg 2 b+x))])∧w'=w:=by
 have em:=Pl.gu (a+b+x)
 obtain ⟨sa0,sa1⟩:=Pl.pJ a0 a1
 obtain ⟨sb0,sb1⟩:=Pl.pJ b0 b1
 go_enter func157,ntmps157
 go_wp2_with fail
 refine (iZ _).mono ?_
 rintro e w' ⟨rfl,rfl⟩
 go_wp2_with fail
 refine (jT a _ a0 a1).mono ?_
 rintro e w' ⟨rfl,rfl⟩
 go_wp2_with fail
 refine (jT b _ b0 b1).mono ?_
 rintro e w' ⟨rfl,rfl⟩
 go_wp2_with fail
 refine (dF _ _ _).mono ?_
 rintro e w' ⟨rfl,rfl⟩
 go_wp2_with fail
 refine (jT ((a+b+x)%65536) _ (by omega) (by omega)).mono ?_
 rintro e w' ⟨rfl,rfl⟩
 go_wp2_with fail
 refine (dF _ _ _).mono ?_
 rintro e w' ⟨rfl,rfl⟩
 go_wp2_with fail
 refine (oh _ _).mono ?_
 rintro e w' ⟨rfl,rfl⟩
 go_wp2_with fail
 go_ret2
 exact ⟨rII rfl (Pl.H7 _ _),rfl⟩
theorem Tz (x a b:Int) (w:World) (a0:0≤a) (a1:a<256) (b0:0≤b) (b1:b<256) (x0:0≤x) (x1:x≤1) :
  Calls prog 145 #[iv 1,iv x,iv a,iv b] w fun e w'=>e=.returned (.tuple #[iv ((a-b-x)%256),iv (Pl.iM 1 (a-b-x) (Pl.sg 1 a-Pl.sg 1 b-x))])∧w'=w:=by
 have em:=Pl.dP (a-b-x)
 obtain ⟨sa0,sa1⟩:=Pl.pK a0 a1
 obtain ⟨sb0,sb1⟩:=Pl.pK b0 b1
 go_enter func145,ntmps145
 go_wp2_with fail
 refine (ja _).mono ?_
 rintro e w' ⟨rfl,rfl⟩
 go_wp2_with fail
 refine (jU a _ a0 a1).mono ?_
 rintro e w' ⟨rfl,rfl⟩
 go_wp2_with fail
 refine (jU b _ b0 b1).mono ?_
 rintro e w' ⟨rfl,rfl⟩
 go_wp2_with fail
 refine (dF _ _ _).mono ?_
 rintro e w' ⟨rfl,rfl⟩
 go_wp2_with fail
 refine (jU ((a-b-x)%256) _ (by omega) (by omega)).mono ?_
 rintro e w' ⟨rfl,rfl⟩
 go_wp2_with fail
 refine (dF _ _ _).mono ?_
 rintro e w' ⟨rfl,rfl⟩
 go_wp2_with fail
 refine (ou _ _).mono ?_
 rintro e w' ⟨rfl,rfl⟩
 go_wp2_with fail
 go_ret2
 exact ⟨rII rfl (Pl.NP _ _ (by omega)),rfl⟩
theorem Tv (x a b:Int) (w:World) (a0:0≤a) (a1:a<65536) (b0:0≤b) (b1:b<65536) (x0:0≤x) (x1:x≤1) :
  Calls prog 145 #[iv 2,iv x,iv a,iv b] w fun e w'=>e=.returned (.tuple #[iv ((a-b-x)%65536),iv (Pl.iM 2 (a-b-x) (Pl.sg 2 a-Pl.sg 2 b-x))])∧w'=w:=by
 have em:=Pl.gu (a-b-x)
 obtain ⟨sa0,sa1⟩:=Pl.pJ a0 a1
 obtain ⟨sb0,sb1⟩:=Pl.pJ b0 b1
 go_enter func145,ntmps145
 go_wp2_with fail
 refine (iZ _).mono ?_
 rintro e w' ⟨rfl,rfl⟩
 go_wp2_with fail
 refine (jT a _ a0 a1).mono ?_
 rintro e w' ⟨rfl,rfl⟩
 go_wp2_with fail
 refine (jT b _ b0 b1).mono ?_
 rintro e w' ⟨rfl,rfl⟩
 go_wp2_with fail
 refine (dF _ _ _).mono ?_
 rintro e w' ⟨rfl,rfl⟩
 go_wp2_with fail
 refine (jT ((a-b-x)%65536) _ (by omega) (by omega)).mono ?_
 rintro e w' ⟨rfl,rfl⟩
 go_wp2_with fail
 refine (dF _ _ _).mono ?_
 rintro e w' ⟨rfl,rfl⟩
 go_wp2_with fail
 refine (oh _ _).mono ?_
 rintro e w' ⟨rfl,rfl⟩
 go_wp2_with fail
 go_ret2
 exact ⟨rII rfl (Pl.NM _ _ (by omega)),rfl⟩
end Go.Proofs.YtkkmnnhaailkcaaGreatDoor
