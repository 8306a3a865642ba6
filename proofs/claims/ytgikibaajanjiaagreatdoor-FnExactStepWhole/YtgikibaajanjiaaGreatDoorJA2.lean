/- Part 2 of what the last text leans on. -/
import Derived.Test.YtgikibaajanjiaaGreatDoorJA1
import Derived.Maps.AppendAt
import Derived.Laws.AppendOwnNone
import Derived.Deep.RegionLawGrows
import Derived.Deep.AppendLies
import Derived.Deep.DeepCutAuto
set_option maxRecDepth 100000
set_option maxHeartbeats 16000000
namespace Go.Proofs.YtgikibaajanjiaaGreatDoor
open Pl
open Go.RowKit Go.Proofs.Tryz
set_option linter.unusedVariables false
theorem Ff (w : World) (ga oa gb ob : Nat) (ca cb m : Nat) (xs ys : List Int) (ha : aG w (some ⟨ga, oa, none⟩) xs) (hb : aG w (some ⟨gb, ob, none⟩) ys) (lx : xs.length <= 2000000) (ly : ys.length = 5 * m) (bm : m <= 2000000) (x0 : 0 < xs.length) (m0 : 0 < m) :
    Calls prog 130 #[.agg #[.slice (some ⟨ga, oa, none⟩) xs.length ca, .slice (some ⟨gb, ob, none⟩) m cb]] w fun e w' => ∃ (g1 c1 g2 c2 : Nat), e = .returned (.agg #[.slice (some ⟨g1, 0, none⟩) xs.length c1, .slice (some ⟨g2, 0, none⟩) m c2]) ∧ w'.ownsRow w.heap.size 3 1 (.slice (some ⟨g1, 0, none⟩) xs.length c1) xs.length (xs.map (Value.int .i64)) ∧ w'.ownsRow w.heap.size 179 5 (.slice (some ⟨g2, 0, none⟩) m c2) m (ys.map (Value.int .i64)) ∧ g1 < g2 ∧ Kept 0 0 w w' := by
  obtain ⟨i, hi, hz0, hz1, hz2⟩ := info_parts Tryz.info3;obtain ⟨j, hj, hy0, hy1, hy2⟩ := info_parts Tryz.jM;have HY := Zr ly;have HA := Zr ha;have HB := Zr hb;have K0 := Zr (ag (kept_alloc w (.cells #[.slice (some ⟨ga, oa, none⟩) xs.length ca, .slice (some ⟨gb, ob, none⟩) m cb] 38)) (.cells #[.slice none 0 0, .slice none 0 0] 38));have B0 := Zr ((Blk.new w #[.slice (some ⟨ga, oa, none⟩) xs.length ca, .slice (some ⟨gb, ob, none⟩) m cb] 38).alloc (.cells #[.slice none 0 0, .slice none 0 0] 38));have B1 := Blk.new (w.alloc (.cells #[.slice (some ⟨ga, oa, none⟩) xs.length ca, .slice (some ⟨gb, ob, none⟩) m cb] 38)) #[.slice none 0 0, .slice none 0 0] 38;simp only [World.size_alloc] at B1;replace B1 := Zr B1;have hn5 : (ys.map (Value.int .i64)).length = m * 5 := by rw [List.length_map, ly]; omega
  have hmx : 0 + m <= maxLen := by unfold maxLen; omega
  have hby : (0 + m) * 40 <= 140737488355328 := by omega
  have HX1 : Hid ((xs.map (Value.int .i64)).length = xs.length * 1) := Zr (by simp);have HXM : Hid (0 + xs.length <= maxLen) := Zr (by unfold maxLen; omega);have HXB : Hid ((0 + xs.length) * 8 <= 140737488355328) := Zr (by omega);have H5 : Hid (0 < 5) := Zr (by decide);have HN5 := Zr hn5;have HMX := Zr hmx;have HBY := Zr hby
  clear ly ha hb hn5 hmx hby
  go_enter func130, ntmps130;go_wp2_with fail
  go_region_law (first
    | (refine step_append_grows rfl (.tmp 3) (.tmp 5) 22 rfl 3 i (iv 0) 1 8 underlying22 hi hz0 hz1 hz2 rfl Nat.one_pos _ 0 0 [] rfl ?n1 rfl ?n2 ⟨ga, oa, none⟩ xs.length ca (xs.map (Value.int .i64)) rfl HX1.o ?news iq ?n3 HXM.o HXB.o ?_
       (case n1 => intro h; cases h)
       (case n2 => intro b _ j u h; simp at h)
       (case n3 => omega)
       (case news => first | exact iF (HA.o.ai (ah (ag K0.o _))) | exact iF (HA.o.ai (ah (ag (ag K0.o _) _))))
       intro v1 w1 own1 gr1;obtain ⟨g1, c1, rfl, b1, l1⟩ := qH own1 (by omega);have k1 := aK (aX gr1);have O1 := Zr (own_base (base' := w.heap.size) own1 (by simp <;> omega));have B01 : Hid (Blk w1 w.heap.size #[.slice (some ⟨ga, oa, none⟩) xs.length ca, .slice (some ⟨gb, ob, none⟩) m cb] 38) := by first | exact Zr (((B0.o.alloc _).ae k1)) | exact Zr ((((B0.o.alloc _).alloc _).ae k1))
       have B11 : Hid (Blk w1 (w.heap.size + 1) #[.slice none 0 0, .slice none 0 0] 38) := by first | exact Zr (((B1.o.alloc _).ae k1)) | exact Zr ((((B1.o.alloc _).alloc _).ae k1))
       have K1 : Hid (Kept 0 0 w w1) := by first | exact Zr ((ag K0.o _).trans k1) | exact Zr ((ag (ag K0.o _) _).trans k1)
       have q1 := B01.o.cell (i := 1) rfl;have q2 : ∀ o, (w1.alloc o).cell? ⟨w.heap.size, 1, none⟩ = some (.slice (some ⟨gb, ob, none⟩) m cb) := fun o => (B01.o.alloc o).cell (i := 1) rfl;simp at b1
       clear own1 gr1 k1)
    | (refine step_append_grows rfl (.tmp 7) (.tmp 9) 36 rfl 179 j (.agg #[iv 0, iv 0, iv 0, iv 0, iv 0]) 5 40 underlying36 hj hy0 hy1 hy2 rfl H5.o _ 0 0 [] rfl ?n1 rfl ?n2 ⟨gb, ob, none⟩ m cb (ys.map (Value.int .i64)) rfl HN5.o ?news iq ?n3 HMX.o HBY.o ?_
       (case n1 => intro h; cases h)
       (case n2 => intro b _ j u h; simp at h)
       (case n3 => omega)
       (case news => first | exact iF (HB.o.ai K1.o) | exact iF (HB.o.ai (ag K1.o _)))
       intro v2 w2 ED gr2;obtain ⟨g2, c2, rfl, b2, l2⟩ := qH ED (by omega);have k2 := aX gr2;have O2 := Zr (own_base (base' := w.heap.size) ED (by have := K1.o.size; simp <;> omega));have B12 : Hid (Blk w2 (w.heap.size + 1) #[.slice none 0 0, .slice none 0 0] 38) := by first | exact Zr (B11.o.ae k2) | exact Zr ((B11.o.alloc _).ae k2)
       have K2 : Hid (Kept 0 0 w w2) := by first | exact Zr (K1.o.trans k2) | exact Zr ((ag K1.o _).trans k2)
       have O12 : Hid (w2.ownsRow w.heap.size 3 1 (.slice (some ⟨g1, 0, none⟩) (0 + xs.length) c1) (0 + xs.length) ([] ++ xs.map (Value.int .i64))) := by first | exact Zr (O1.o.kept gr2 (.inr (fun h => by cases h))) | exact Zr ((O1.o.alloc _).kept gr2 (.inr (fun h => by cases h)))
       have r0 := B12.o.cell (i := 0) rfl;have r1 := B12.o.cell (i := 1) rfl;have f0 := B12.o.frozen 0;have f1 := B12.o.frozen 1
       clear ED gr2 k2))
  all_goals
    try simp only [World.size_alloc] at b2
    go_wp2_with fail;refine bodyPost_ret (v := .agg #[.slice (some ⟨g1, 0, none⟩) xs.length c1, .slice (some ⟨g2, 0, none⟩) m c2]) ?_ rfl ⟨g1, c1, g2, c2, rfl, ?_, ?_, by omega, ?_⟩
    · rw [aj rfl]; go_simp
    · have h := O12.o
      simp only [Nat.zero_add, List.nil_append] at h;exact ((h.kept (grownBy_set _ _ _ _) (.inr (fun e => by have h2 : g1 = w.heap.size + 1 := Option.some.inj e; omega))).kept (grownBy_set _ _ _ _) (.inr (fun e => by have h2 : g1 = w.heap.size + 1 := Option.some.inj e; omega)))
    · have h := O2.o
      simp only [Nat.zero_add, List.nil_append] at h;exact ((h.kept (grownBy_set _ _ _ _) (.inr (fun e => by have h2 : g2 = w.heap.size + 1 := Option.some.inj e; omega))).kept (grownBy_set _ _ _ _) (.inr (fun e => by have h2 : g2 = w.heap.size + 1 := Option.some.inj e; omega)))
    · exact af (af K2.o _ _ _ (.inr (by omega))) _ _ _ (.inr (by omega))
end Go.Proofs.YtgikibaajanjiaaGreatDoor
namespace Go.Proofs.YtgikibaajanjiaaGreatDoor.Pl
set_option linter.unusedVariables false
def rd (xs:List Int) (s:Int) (i:Nat):Int:=if s=1 then el xs i else el xs i*256+el xs (i+1)
def rdK (xs:List Int) (i k:Nat):Int:=if k=0 then 0 else if k=1 then el xs i else el xs i*256+el xs (i+1)
def dX (k s a v:Int):Bool:=dI k&&(okv s v&&(addr a&&((k==2)||(v==0))))
def lv (xs:List Int) (k s a v:Int):Int:=if code k s a=0∧¬k=2 then rd xs s a.toNat else v
def wr (xs:List Int) (s:Int) (i:Nat) (v:Int):List Int:=if s=1 then xs.set i v else (xs.set i (v/256)).set (i+1) (v%256)
def nb (xs:List Int) (k s a v:Int):List Int:=if code k s a=0∧k=2 then wr xs s a.toNat v else xs
def logs (m:Nat) (k s a:Int):Bool:=decide (m<400)&&((k != 3)||(code k s a != 0))
def nl (xs ys:List Int) (m:Nat) (k s a v:Int):List Int:=if logs m k s a=true then ys++[k,s,a,lv xs k s a v,code k s a] else ys
def nm (m:Nat) (k s a:Int):Nat:=if logs m k s a=true then m+1 else m
theorem QW (xs:List Int) (s:Int) (i:Nat) (v:Int):(wr xs s i v).length=xs.length:=by unfold wr;split<;>simp
theorem IJ (xs:List Int) (k s a v:Int):(nb xs k s a v).length=xs.length:=by unfold nb;split<;>simp [QW]
theorem RX {xs ys:List Int} {m:Nat} (k s a v:Int) (h:ys.length=5*m):(nl xs ys m k s a v).length=5*nm m k s a:=by
 unfold nl nm;split
 ·simp [h];omega
 ·exact h
theorem VC {m:Nat} (k s a:Int) (h:m<=400):nm m k s a<=400:=by
 unfold nm logs;split
 ·rename_i h1;simp at h1;omega
 ·exact h
theorem qp {k s a v:Int} (h:dX k s a v=true):(1<=k∧k<=3)∧((s=1∧v<=255)∨(s=2∧v<=65535))∧0<=v∧(0<=a∧a<=65535)∧(k=2∨v=0):=by
 simp only [dX,dI,addr,Bool.and_eq_true,Bool.or_eq_true,decide_eq_true_eq,beq_iff_eq] at h;obtain ⟨h1,h2,h3,h4⟩:=h;have:=aO h2;refine ⟨h1,?_,?_,h3,h4⟩
 ·omega
 ·omega
theorem Fg {a:Int} (h:¬a%2=1):kind (a+2-1)=kind a:=by
 unfold kind;by_cases h1:512<=a∨(448<=a∧a<=495)
 ·rw [if_pos h1,if_pos (by omega)]
 ·rw [if_neg h1,if_neg (by omega)];by_cases h2:384<=a∧a<=447
  ·rw [if_pos h2,if_pos (by omega)]
  ·rw [if_neg h2,if_neg (by omega)]
theorem FN {k s a:Int} (hs:s=1∨s=2):code k s a=if s=2∧a%2=1 then 2 else if kind a=3∧¬k=2 then 0 else kind a:=by
 have kv:kind a=0∨kind a=1∨kind a=3:=by
  unfold kind;split
  ·exact .inr (.inl rfl)
  ·split
   ·exact .inr (.inr rfl)
   ·exact .inl rfl
 unfold code;by_cases h:s=2∧a%2=1
 ·rw [if_pos h,if_pos h]
 ·rw [if_neg h,if_neg h]
  have e:kind (a+s-1)=kind a:=by
   rcases hs with rfl|rfl
   ·rw [show a+1-1=a by omega]
   ·exact Fg (fun q=>h ⟨rfl,q⟩)
  rw [e];rcases kv with q|q|q<;>rw [q]<;>by_cases hk:k=2<;>simp [hk]
end Go.Proofs.YtgikibaajanjiaaGreatDoor.Pl
namespace Go.Proofs.YtgikibaajanjiaaGreatDoor
open Pl
open Go.RowKit Go.Proofs.Tryz
set_option linter.unusedVariables false
structure FrP (P:Nat->Prop) (w w':World):Prop where
 os:w'.os=w.os
 tape:w'.tape=w.tape
 output:w'.output=w.output
 size:w.heap.size<=w'.heap.size
 block:∀k,k<w.heap.size->¬P k->w'.heap[k]? = w.heap[k]?
theorem FrP.refl (P:Nat->Prop) (w:World):FrP P w w:=⟨rfl,rfl,rfl,Nat.le_refl _,fun _ _ _=>rfl⟩
theorem FrP.trans {P:Nat->Prop} {a b c:World} (h:FrP P a b) (k:FrP P b c):FrP P a c:=
 ⟨k.os.trans h.os,k.tape.trans h.tape,k.output.trans h.output,Nat.le_trans h.size k.size,fun i hi hn=>(k.block i (Nat.lt_of_lt_of_le hi h.size) hn).trans (h.block i hi hn)⟩
theorem FrP.wide {P Q:Nat->Prop} {a b:World} (h:FrP P a b) (hq:∀k,k<a.heap.size->P k->Q k):FrP Q a b:=
 ⟨h.os,h.tape,h.output,h.size,fun k hk hn=>h.block k hk (fun hp=>hn (hq k hk hp))⟩
theorem jQ {P:Nat->Prop} {lo hi:Nat} {w w':World} (h:Kept lo hi w w') (hp:∀k,lo<=k->k<hi->P k):FrP P w w':=
 ⟨h.os,h.tape,h.output,h.size,fun k hk hn=>h.block k hk (fun q=>hn (hp k q.1 q.2))⟩
theorem FrP.alloc {P:Nat->Prop} {a w:World} (h:FrP P a w) (o:Obj):FrP P a (w.alloc o):=h.trans (jQ (kept_alloc w o) (by omega))
theorem FrP.drew {P:Nat->Prop} {a w:World} (h:FrP P a w):FrP P a w.drew:=⟨h.os,h.tape,h.output,h.size,h.block⟩
theorem FrP.grown {P:Nat->Prop} {a w w':World} {row:Option Nat} (h:FrP P a w) (hg:w.grownBy w' row) (hr:∀g,row=some g->P g):FrP P a w':=
 h.trans ⟨hg.os,hg.tape,hg.output,hg.size,fun k hk hn=>hg.block k hk (fun e=>hn (hr k e.symm))⟩
theorem FrP.set {P:Nat->Prop} {a w:World} (h:FrP P a w) (b i:Nat) (v:Value) (hb:P b∨a.heap.size<=b):FrP P a (w.setCell ⟨b,i,none⟩ v):=
 ⟨h.os,h.tape,h.output,Nat.le_trans h.size (by simp),fun k hk hn=>(Below.heap_setCell w ⟨b,i,none⟩ v k (fun e=>by
  have e2:k=b:=e;subst e2;rcases hb with hb|hb
  ·exact hn hb
  ·omega)).trans (h.block k hk hn)⟩
theorem FrP.blk {P:Nat->Prop} {w w':World} (h:FrP P w w') {b:Nat} {cs:Array Value} {ty:TypeId} (hB:Blk w b cs ty) (hn:¬P b):Blk w' b cs ty:=(h.block b hB.lt hn).trans hB
theorem FrP.own {P:Nat->Prop} {w w':World} (h:FrP P w w') {b:Nat} {xs:List Int} (hB:Own w b xs) (hn:¬P b):Own w' b xs:=by
 intro i hi;obtain ⟨hc,hf⟩:=hB i hi;have e:=h.block b (World.block_lt_of_cell? _ _ hc) hn;exact ⟨by rw [World.cell?_of_block (w:=w) e];exact hc,by rw [World.frozen?_of_block (w:=w) e];exact hf⟩
def own (lo hi g k:Nat):Prop:=(lo<=k∧k<hi)∨k=g
def Since (w:World) (lo hi g:Nat) (w':World) (g':Nat):Prop:=(g'=g∨w.heap.size<=g')∧FrP (own lo hi g) w w'
theorem Since.refl (w:World) (lo hi g:Nat):Since w lo hi g w g:=⟨.inl rfl,FrP.refl _ _⟩
theorem Since.size {w w':World} {lo hi g g':Nat} (h:Since w lo hi g w' g'):w.heap.size<=w'.heap.size:=h.2.size
theorem Since.trans {w a b:World} {lo hi g ga gb:Nat} (h:Since w lo hi g a ga) (k:Since a lo hi ga b gb):Since w lo hi g b gb:=by
 refine ⟨?_,?_⟩
 ·have:=h.2.size
  rcases k.1 with e|e
  ·rcases h.1 with e2|e2
   ·exact .inl (e.trans e2)
   ·exact .inr (by omega)
  ·exact .inr (by omega)
 ·refine ⟨k.2.os.trans h.2.os,k.2.tape.trans h.2.tape,k.2.output.trans h.2.output,Nat.le_trans h.2.size k.2.size,fun i hi hn=>(k.2.block i (Nat.lt_of_lt_of_le hi h.2.size) (fun q=>hn ?_)).trans (h.2.block i hi hn)⟩;rcases q with q|q
  ·exact .inl q
  ·rcases h.1 with e|e
   ·exact .inr (by omega)
   ·omega
theorem Since.alloc {w a:World} {lo hi g g':Nat} (h:Since w lo hi g a g') (o:Obj):Since w lo hi g (a.alloc o) g':=⟨h.1,h.2.alloc o⟩
theorem Since.drew {w a:World} {lo hi g g':Nat} (h:Since w lo hi g a g'):Since w lo hi g a.drew g':=⟨h.1,h.2.drew⟩
theorem Since.set {w a:World} {lo hi g g':Nat} (h:Since w lo hi g a g') (b i:Nat) (v:Value) (hb:(lo<=b∧b<hi)∨w.heap.size<=b):Since w lo hi g (a.setCell ⟨b,i,none⟩ v) g':=
 ⟨h.1,h.2.set b i v (by rcases hb with q|q;exact .inl (.inl q);exact .inr q)⟩
theorem Since.ai {w a b:World} {lo hi x y g g':Nat} (h:Since w lo hi g a g') (k:Kept x y a b) (hx:lo<=x) (hy:y<=hi):Since w lo hi g b g':=⟨h.1,h.2.trans (jQ k (fun i h1 h2=>.inl (by omega)))⟩
theorem Since.any {w a b:World} {lo hi g g':Nat} (h:Since w lo hi g a g') (k:Kept 0 0 a b):Since w lo hi g b g':=⟨h.1,h.2.trans (jQ k (by omega))⟩
theorem Since.blk {w w':World} {lo hi g g':Nat} (h:Since w lo hi g w' g') {b:Nat} {cs:Array Value} {ty:TypeId} (hB:Blk w b cs ty) (hb:hi<=b) (hn:b≠g):Blk w' b cs ty:=h.2.blk hB (by unfold own;omega)
theorem Since.ne {w w':World} {lo hi g g':Nat} (h:Since w lo hi g w' g') {b:Nat} (hb:b<w.heap.size) (hn:b≠g):b≠g':=by rcases h.1 with e|e<;>omega
theorem Pl.gX {m:Nat} {k s a C:Int} (hC:C=Pl.code k s a) {b1 b2 b3:Bool} (h1:decide ((m:Int)<400)=b1) (h2:(k != 3)=b2) (h3:(C != 0)=b3):Pl.logs m k s a=(b1&&(b2||b3)):=by
 have e:decide (m<400)=decide ((m:Int)<400):=by rw [Bool.eq_iff_iff];simp;omega
 unfold Pl.logs;rw [<-hC,h2,h3,e,h1]
theorem Ot (w:World) (p base g1 g2:Nat) (d0 d1 d2 d3 d4 d5 d6 d7 d10 d11 d12 d13 d14 d15:Value) (xs ys:List Int) (c1 m c2:Nat) (k s a C:Int) (hP:Blk w p #[d0,d1,d2,d3,d4,d5,d6,d7,.slice (some (Zt g1 0)) 512 c1,.slice (some (Zt g2 0)) m c2,d10,d11,d12,d13,d14,d15] 143) (h1:Own w g1 xs) (lx:xs.length=512) (hby:aW xs=true)
  (hO:w.ownsRow base 179 5 (.slice (some (Zt g2 0)) m c2) m (ys.map (Value.int .i64))) (hp:base<=p) (hg:base<=g1) (n1:p≠g1) (n2:p≠g2) (n3:g1≠g2) (bm:m<=400) (HC:Hid (C=Pl.code k s a)) (hc:(C==0)=false) (hs1:1<=s) (hs2:s<=2) (a0:0<=a) (a1:a<=65535) (hk:(k != 2)=true) :
  Calls prog 235 #[.pointer (some (Zt p 8)),iv k,iv s,iv a,iv 0] w fun e w'=>∃g3 c3:Nat,e=.returned (.tuple #[iv (Pl.lv xs k s a 0),iv (Pl.code k s a)])∧
   Blk w' p #[d0,d1,d2,d3,d4,d5,d6,d7,.slice (some (Zt g1 0)) 512 c1,.slice (some (Zt g3 0)) (nm m k s a) c3,d10,d11,d12,d13,d14,d15] 143∧Own w' g1 (Pl.nb xs k s a 0)∧w'.ownsRow base 179 5 (.slice (some (Zt g3 0)) (nm m k s a) c3) (nm m k s a) ((nl xs ys m k s a 0).map (Value.int .i64))∧(g3=g2∨w.heap.size<=g3)∧FrP (fun k=>k=p∨k=g1∨k=g2) w w':=by
 obtain ⟨i,hi0,hz0,hz1,hz2⟩:=info_parts Tryz.jM;have hcode:¬Pl.code k s a=0:=by rw [<-HC.o];simpa using hc
 have E1:Hid (xs=Pl.nb xs k s a 0):=Zr (by unfold Pl.nb;rw [if_neg (fun h=>hcode h.1)]);have E2:Hid (0=Pl.lv xs k s a 0):=Zr (by unfold Pl.lv;rw [if_neg (fun h=>hcode h.1)]);clear hcode;have PX:=Zr hP;have EX:=Zr h1;have OX:=Zr hO;have KX:=Zr (FrP.refl (fun k=>k=p∨k=g1∨k=g2) w);have vX:=lx;have t0:=hP.cell (i:=8) rfl;have t1:=hP.cell (i:=9) rfl;clear hP h1 hO lx hby
 have g4:(C != 0)=true:=by simpa using hc
 cases gm:decide ((m:Int)<400)
 ·cases g3:(k != 3)
  ·have HL:Hid (Pl.logs m k s a=false):=Zr (gX HC.o gm g3 g4);have hnm:Hid (nm m k s a=m):=Zr (by unfold nm;rw [HL.o];rfl);have hnl:Hid (nl xs ys m k s a 0=ys):=Zr (by unfold nl;rw [HL.o];rfl);go_enter func235,ntmps235;go_wp2_with (go_at_call 266;refine st (mG k s a _ hs1 hs2 a0 a1) ?_;rw [<-HC.o]);go_ret2;exact ⟨g2,c2,rII E2.o HC.o,by rw [hnm.o];exact PX.o,by rw [<-E1.o];exact EX.o,by rw [hnm.o,hnl.o];exact OX.o,.inl rfl,KX.o⟩
  ·have HL:Hid (Pl.logs m k s a=false):=Zr (gX HC.o gm g3 g4);have hnm:Hid (nm m k s a=m):=Zr (by unfold nm;rw [HL.o];rfl);have hnl:Hid (nl xs ys m k s a 0=ys):=Zr (by unfold nl;rw [HL.o];rfl);go_enter func235,ntmps235;go_wp2_with (go_at_call 266;refine st (mG k s a _ hs1 hs2 a0 a1) ?_;rw [<-HC.o]);go_ret2;exact ⟨g2,c2,rII E2.o HC.o,by rw [hnm.o];exact PX.o,by rw [<-E1.o];exact EX.o,by rw [hnm.o,hnl.o];exact OX.o,.inl rfl,KX.o⟩
 ·cases g3:(k != 3)
  ·have HL:Hid (Pl.logs m k s a=true):=Zr (gX HC.o gm g3 g4);have H63:Hid (m+1<=maxLen):=Zr (by unfold maxLen;simp at gm;omega);have HBT:Hid ((m+1)*40<=140737488355328):=Zr (by simp at gm;omega);have hnm:Hid (nm m k s a=m+1):=Zr (by unfold nm;rw [HL.o];rfl);have hnl:Hid (nl xs ys m k s a 0=ys++([k,s,(a:Int),0,C]:List Int)):=Zr (by unfold nl;rw [HL.o,<-HC.o,<-E2.o];rfl);go_enter func235,ntmps235;go_wp2_with (first|(go_at_call 266;refine st (mG k s a _ hs1 hs2 a0 a1) ?_;rw [<-HC.o])|(at_builtin;refine wpList_append_lies _ rfl _ _ _ rfl base 179 i _ 5 40 underlying36 hi0 hz0 hz1 hz2 rfl (by omega) (.slice (some (Zt g2 0)) m c2) m (ys.map (Value.int .i64)) rfl (OX.o.alloc _) (Zt w.heap.size 0) 1 1 [iv k,iv s,iv a,iv 0,iv C] rfl rfl (World.news_of_block (cs:=#[iv k,iv s,iv a,iv 0,iv C]) (t:=179) (fr:=(0,0)) (heap_alloc_new w _)) (by simp [Value.oneCell']) (by omega) H63.o HBT.o (by have:=PX.o.lt;simp;omega) (w.heap.size+1) (by simp) ?_));intro g3 c3 w1 hown1 hgrow hat hlt;have lp:=PX.o.lt;have lg:=EX.o.lt (by rw [vX];decide);obtain ⟨lg2,lg3⟩:=OX.o.lt g2 rfl;have P1:Hid (Blk w1 p #[d0,d1,d2,d3,d4,d5,d6,d7,.slice (some (Zt g1 0)) 512 c1,.slice (some (Zt g2 0)) m c2,d10,d11,d12,d13,d14,d15] 143):=Zr ((hgrow.block p (by simp;omega) (by simp [Value.ownBlock];omega)).trans (PX.o.alloc _));have G1:Hid (Own w1 g1 xs):=Zr ((EX.o.ai (kept_alloc _ _) (by omega)).kept hgrow (by simp [Value.ownBlock];omega));have y0:=P1.o.cell (i:=8) rfl;have y1:=P1.o.cell (i:=9) rfl;have f1:=P1.o.frozen 9;have O1:=Zr hown1;have K1:Hid (FrP (fun k=>k=p∨k=g1∨k=g2) w w1):=Zr ((KX.o.alloc _).grown hgrow (by intro g hg;have h2:g2=g:=Option.some.inj hg;exact .inr (.inr h2.symm)));have hsz:=KX.o.size
   have hat2:g2=g3∨g3=w.heap.size+1:=by
    rcases hat with h|h
    ·exact .inl (Option.some.inj h)
    ·exact .inr h
   clear hown1 hgrow hat;go_wp2_with fail;go_ret2;refine ⟨g3,c3,rII E2.o HC.o,by rw [hnm.o];exact P1.o.set 9 _,by rw [<-E1.o];exact G1.o.setOther _ _ _ (by omega),?_,by omega,K1.o.set _ _ _ (.inl (.inl rfl))⟩;rw [hnl.o,hnm.o,List.map_append];exact O1.o.kept (grownBy_set _ _ _ _) (.inr (fun e=>by have h3:g3=p:=Option.some.inj e;omega))
  ·have HL:Hid (Pl.logs m k s a=true):=Zr (gX HC.o gm g3 g4);have H63:Hid (m+1<=maxLen):=Zr (by unfold maxLen;simp at gm;omega);have HBT:Hid ((m+1)*40<=140737488355328):=Zr (by simp at gm;omega);have hnm:Hid (nm m k s a=m+1):=Zr (by unfold nm;rw [HL.o];rfl);have hnl:Hid (nl xs ys m k s a 0=ys++([k,s,(a:Int),0,C]:List Int)):=Zr (by unfold nl;rw [HL.o,<-HC.o,<-E2.o];rfl);go_enter func235,ntmps235;go_wp2_with (first|(go_at_call 266;refine st (mG k s a _ hs1 hs2 a0 a1) ?_;rw [<-HC.o])|(at_builtin;refine wpList_append_lies _ rfl _ _ _ rfl base 179 i _ 5 40 underlying36 hi0 hz0 hz1 hz2 rfl (by omega) (.slice (some (Zt g2 0)) m c2) m (ys.map (Value.int .i64)) rfl (OX.o.alloc _) (Zt w.heap.size 0) 1 1 [iv k,iv s,iv a,iv 0,iv C] rfl rfl (World.news_of_block (cs:=#[iv k,iv s,iv a,iv 0,iv C]) (t:=179) (fr:=(0,0)) (heap_alloc_new w _)) (by simp [Value.oneCell']) (by omega) H63.o HBT.o (by have:=PX.o.lt;simp;omega) (w.heap.size+1) (by simp) ?_));intro g3 c3 w1 hown1 hgrow hat hlt;have lp:=PX.o.lt;have lg:=EX.o.lt (by rw [vX];decide);obtain ⟨lg2,lg3⟩:=OX.o.lt g2 rfl;have P1:Hid (Blk w1 p #[d0,d1,d2,d3,d4,d5,d6,d7,.slice (some (Zt g1 0)) 512 c1,.slice (some (Zt g2 0)) m c2,d10,d11,d12,d13,d14,d15] 143):=Zr ((hgrow.block p (by simp;omega) (by simp [Value.ownBlock];omega)).trans (PX.o.alloc _));have G1:Hid (Own w1 g1 xs):=Zr ((EX.o.ai (kept_alloc _ _) (by omega)).kept hgrow (by simp [Value.ownBlock];omega));have y0:=P1.o.cell (i:=8) rfl;have y1:=P1.o.cell (i:=9) rfl;have f1:=P1.o.frozen 9;have O1:=Zr hown1;have K1:Hid (FrP (fun k=>k=p∨k=g1∨k=g2) w w1):=Zr ((KX.o.alloc _).grown hgrow (by intro g hg;have h2:g2=g:=Option.some.inj hg;exact .inr (.inr h2.symm)));have hsz:=KX.o.size
   have hat2:g2=g3∨g3=w.heap.size+1:=by
    rcases hat with h|h
    ·exact .inl (Option.some.inj h)
    ·exact .inr h
   clear hown1 hgrow hat;go_wp2_with fail;go_ret2;refine ⟨g3,c3,rII E2.o HC.o,by rw [hnm.o];exact P1.o.set 9 _,by rw [<-E1.o];exact G1.o.setOther _ _ _ (by omega),?_,by omega,K1.o.set _ _ _ (.inl (.inl rfl))⟩;rw [hnl.o,hnm.o,List.map_append];exact O1.o.kept (grownBy_set _ _ _ _) (.inr (fun e=>by have h3:g3=p:=Option.some.inj e;omega))
theorem Oq (w:World) (p base g1 g2:Nat) (d0 d1 d2 d3 d4 d5 d6 d7 d10 d11 d12 d13 d14 d15:Value) (xs ys:List Int) (c1 m c2:Nat) (s a v C:Int) (hP:Blk w p #[d0,d1,d2,d3,d4,d5,d6,d7,.slice (some (Zt g1 0)) 512 c1,.slice (some (Zt g2 0)) m c2,d10,d11,d12,d13,d14,d15] 143) (h1:Own w g1 xs) (lx:xs.length=512) (hby:aW xs=true)
  (hO:w.ownsRow base 179 5 (.slice (some (Zt g2 0)) m c2) m (ys.map (Value.int .i64))) (hp:base<=p) (hg:base<=g1) (n1:p≠g1) (n2:p≠g2) (n3:g1≠g2) (bm:m<=400) (HC:Hid (C=Pl.code 2 s a)) (hc:(C==0)=false) (hs1:1<=s) (hs2:s<=2) (a0:0<=a) (a1:a<=65535) :
  Calls prog 235 #[.pointer (some (Zt p 8)),iv 2,iv s,iv a,iv v] w fun e w'=>∃g3 c3:Nat,e=.returned (.tuple #[iv (Pl.lv xs 2 s a v),iv (Pl.code 2 s a)])∧
   Blk w' p #[d0,d1,d2,d3,d4,d5,d6,d7,.slice (some (Zt g1 0)) 512 c1,.slice (some (Zt g3 0)) (nm m 2 s a) c3,d10,d11,d12,d13,d14,d15] 143∧Own w' g1 (Pl.nb xs 2 s a v)∧w'.ownsRow base 179 5 (.slice (some (Zt g3 0)) (nm m 2 s a) c3) (nm m 2 s a) ((nl xs ys m 2 s a v).map (Value.int .i64))∧(g3=g2∨w.heap.size<=g3)∧FrP (fun k=>k=p∨k=g1∨k=g2) w w':=by
 obtain ⟨i,hi0,hz0,hz1,hz2⟩:=info_parts Tryz.jM;have hcode:¬Pl.code 2 s a=0:=by rw [<-HC.o];simpa using hc
 have E1:Hid (xs=Pl.nb xs 2 s a v):=Zr (by unfold Pl.nb;rw [if_neg (fun h=>hcode h.1)]);have E2:Hid (v=Pl.lv xs 2 s a v):=Zr (by unfold Pl.lv;rw [if_neg (fun h=>hcode h.1)]);clear hcode;have PX:=Zr hP;have EX:=Zr h1;have OX:=Zr hO;have KX:=Zr (FrP.refl (fun k=>k=p∨k=g1∨k=g2) w);have vX:=lx;have t0:=hP.cell (i:=8) rfl;have t1:=hP.cell (i:=9) rfl;clear hP h1 hO lx hby
 have g4:(C != 0)=true:=by simpa using hc
 cases gm:decide ((m:Int)<400)
 ·have HL:Hid (Pl.logs m 2 s a=false):=Zr (gX HC.o gm rfl g4);have hnm:Hid (nm m 2 s a=m):=Zr (by unfold nm;rw [HL.o];rfl);have hnl:Hid (nl xs ys m 2 s a v=ys):=Zr (by unfold nl;rw [HL.o];rfl);go_enter func235,ntmps235;go_wp2_with (go_at_call 266;refine st (mG 2 s a _ hs1 hs2 a0 a1) ?_;rw [<-HC.o]);go_ret2;exact ⟨g2,c2,rII E2.o HC.o,by rw [hnm.o];exact PX.o,by rw [<-E1.o];exact EX.o,by rw [hnm.o,hnl.o];exact OX.o,.inl rfl,KX.o⟩
 ·have HL:Hid (Pl.logs m 2 s a=true):=Zr (gX HC.o gm rfl g4);have H63:Hid (m+1<=maxLen):=Zr (by unfold maxLen;simp at gm;omega);have HBT:Hid ((m+1)*40<=140737488355328):=Zr (by simp at gm;omega);have hnm:Hid (nm m 2 s a=m+1):=Zr (by unfold nm;rw [HL.o];rfl);have hnl:Hid (nl xs ys m 2 s a v=ys++([2,s,(a:Int),v,C]:List Int)):=Zr (by unfold nl;rw [HL.o,<-HC.o,<-E2.o];rfl);go_enter func235,ntmps235;go_wp2_with (first|(go_at_call 266;refine st (mG 2 s a _ hs1 hs2 a0 a1) ?_;rw [<-HC.o])|(at_builtin;refine wpList_append_lies _ rfl _ _ _ rfl base 179 i _ 5 40 underlying36 hi0 hz0 hz1 hz2 rfl (by omega) (.slice (some (Zt g2 0)) m c2) m (ys.map (Value.int .i64)) rfl (OX.o.alloc _) (Zt w.heap.size 0) 1 1 [iv 2,iv s,iv a,iv v,iv C] rfl rfl (World.news_of_block (cs:=#[iv 2,iv s,iv a,iv v,iv C]) (t:=179) (fr:=(0,0)) (heap_alloc_new w _)) (by simp [Value.oneCell']) (by omega) H63.o HBT.o (by have:=PX.o.lt;simp;omega) (w.heap.size+1) (by simp) ?_));intro g3 c3 w1 hown1 hgrow hat hlt;have lp:=PX.o.lt;have lg:=EX.o.lt (by rw [vX];decide);obtain ⟨lg2,lg3⟩:=OX.o.lt g2 rfl;have P1:Hid (Blk w1 p #[d0,d1,d2,d3,d4,d5,d6,d7,.slice (some (Zt g1 0)) 512 c1,.slice (some (Zt g2 0)) m c2,d10,d11,d12,d13,d14,d15] 143):=Zr ((hgrow.block p (by simp;omega) (by simp [Value.ownBlock];omega)).trans (PX.o.alloc _));have G1:Hid (Own w1 g1 xs):=Zr ((EX.o.ai (kept_alloc _ _) (by omega)).kept hgrow (by simp [Value.ownBlock];omega));have y0:=P1.o.cell (i:=8) rfl;have y1:=P1.o.cell (i:=9) rfl;have f1:=P1.o.frozen 9;have O1:=Zr hown1;have K1:Hid (FrP (fun k=>k=p∨k=g1∨k=g2) w w1):=Zr ((KX.o.alloc _).grown hgrow (by intro g hg;have h2:g2=g:=Option.some.inj hg;exact .inr (.inr h2.symm)));have hsz:=KX.o.size
  have hat2:g2=g3∨g3=w.heap.size+1:=by
   rcases hat with h|h
   ·exact .inl (Option.some.inj h)
   ·exact .inr h
  clear hown1 hgrow hat;go_wp2_with fail;go_ret2;refine ⟨g3,c3,rII E2.o HC.o,by rw [hnm.o];exact P1.o.set 9 _,by rw [<-E1.o];exact G1.o.setOther _ _ _ (by omega),?_,by omega,K1.o.set _ _ _ (.inl (.inl rfl))⟩;rw [hnl.o,hnm.o,List.map_append];exact O1.o.kept (grownBy_set _ _ _ _) (.inr (fun e=>by have h3:g3=p:=Option.some.inj e;omega))
theorem Oo (w:World) (p base g1 g2:Nat) (d0 d1 d2 d3 d4 d5 d6 d7 d10 d11 d12 d13 d14 d15:Value) (xs ys:List Int) (c1 m c2:Nat) (n:Nat) (v:Int) (hP:Blk w p #[d0,d1,d2,d3,d4,d5,d6,d7,.slice (some (Zt g1 0)) 512 c1,.slice (some (Zt g2 0)) m c2,d10,d11,d12,d13,d14,d15] 143) (h1:Own w g1 xs) (lx:xs.length=512) (hby:aW xs=true)
  (hO:w.ownsRow base 179 5 (.slice (some (Zt g2 0)) m c2) m (ys.map (Value.int .i64))) (hp:base<=p) (hg:base<=g1) (n1:p≠g1) (n2:p≠g2) (n3:g1≠g2) (bm:m<=400) (HC:Hid (0=Pl.code 2 1 n)) (hn:n+1<=512) (v0:0<=v) (v1:v<=255) :
  Calls prog 235 #[.pointer (some (Zt p 8)),iv 2,iv 1,iv n,iv v] w fun e w'=>∃g3 c3:Nat,e=.returned (.tuple #[iv (Pl.lv xs 2 1 n v),iv (Pl.code 2 1 n)])∧
   Blk w' p #[d0,d1,d2,d3,d4,d5,d6,d7,.slice (some (Zt g1 0)) 512 c1,.slice (some (Zt g3 0)) (nm m 2 1 n) c3,d10,d11,d12,d13,d14,d15] 143∧Own w' g1 (Pl.nb xs 2 1 n v)∧w'.ownsRow base 179 5 (.slice (some (Zt g3 0)) (nm m 2 1 n) c3) (nm m 2 1 n) ((nl xs ys m 2 1 n v).map (Value.int .i64))∧(g3=g2∨w.heap.size<=g3)∧FrP (fun k=>k=p∨k=g1∨k=g2) w w':=by
 obtain ⟨i,hi0,hz0,hz1,hz2⟩:=info_parts Tryz.jM;have E1:Hid (xs.set n v=Pl.nb xs 2 1 n v):=Zr (by unfold Pl.nb;rw [if_pos ⟨HC.o.symm,rfl⟩];rfl);have E2:Hid (v=Pl.lv xs 2 1 n v):=Zr (by unfold Pl.lv;rw [if_neg (by simp)]);have t0:=hP.cell (i:=8) rfl;have t1:=hP.cell (i:=9) rfl;have i0:(0:Int)<=(n:Int):=by omega
 have i1:(n:Int)<512:=by omega
 have e255:bits .and .i64 v 255=v:=by rw [gK];omega
 obtain ⟨c0,f0⟩:=h1 n (by omega);go_enter func235,ntmps235;go_wp2_with (go_at_call 266;refine st (mG 2 1 n _ (by omega) (by omega) (by omega) (by omega)) ?_;rw [<-HC.o]);go_loopw [13,14] (fun x j wr=>x=iv v∧((j=iv 0∧wr=w)∨(j=iv 1∧Blk wr p #[d0,d1,d2,d3,d4,d5,d6,d7,.slice (some (Zt g1 0)) 512 c1,.slice (some (Zt g2 0)) m c2,d10,d11,d12,d13,d14,d15] 143∧Own wr g1 (xs.set n v)∧wr.ownsRow base 179 5 (.slice (some (Zt g2 0)) m c2) m (ys.map (Value.int .i64))∧Kept g1 (g1+1) w wr))) (fun _ j _=>(3-intOf j).toNat)
 case atStart=>exact ⟨rfl,.inl ⟨rfl,rfl⟩⟩
 case round=>
  obtain ⟨rfl,hrel⟩:=hrel;rcases hrel with ⟨rfl,hw⟩|⟨rfl,hp1,ho1,hr1,hk1⟩
  ·have hw2:=hw.symm;clear hw;subst hw2;go_wp2;go_roundw
   case rel=>exact ⟨rfl,.inr ⟨by go_num,hP.other _ _ _ n1,h1.uB _,hO.kept (grownBy_set _ _ _ _) (.inr (fun e=>by have h3:g2=g1:=Option.some.inj e;omega)),af (Kept.refl _ _ _) _ _ _ (.inl (by omega))⟩⟩
   case measure=>simp [intOf]
  ·clear t0 t1 c0 f0;have PX:=Zr hp1;have EX:=Zr ho1;have OX:=Zr hr1;have lg:=h1.lt (by rw [lx];decide);have KX:Hid (FrP (fun k=>k=p∨k=g1∨k=g2) w wr):=Zr (jQ hk1 (fun i h1 h2=>.inr (.inl (by omega))));have vX:(xs.set n v).length=512:=by simp [lx]
   have t0:=hp1.cell (i:=8) rfl;have t1:=hp1.cell (i:=9) rfl;clear hp1 ho1 hr1 hk1 hP h1 hO lg;cases gm:decide ((m:Int)<400)
   ·have HL:Hid (Pl.logs m 2 1 n=false):=Zr (gX HC.o gm rfl rfl);have hnm:Hid (nm m 2 1 n=m):=Zr (by unfold nm;rw [HL.o];rfl);have hnl:Hid (nl xs ys m 2 1 n v=ys):=Zr (by unfold nl;rw [HL.o];rfl);skip;go_wp2_with fail;go_ret2;exact ⟨g2,c2,rII E2.o HC.o,by rw [hnm.o];exact PX.o,by rw [<-E1.o];exact EX.o,by rw [hnm.o,hnl.o];exact OX.o,.inl rfl,KX.o⟩
   ·have HL:Hid (Pl.logs m 2 1 n=true):=Zr (gX HC.o gm rfl rfl);have H63:Hid (m+1<=maxLen):=Zr (by unfold maxLen;simp at gm;omega);have HBT:Hid ((m+1)*40<=140737488355328):=Zr (by simp at gm;omega);have hnm:Hid (nm m 2 1 n=m+1):=Zr (by unfold nm;rw [HL.o];rfl);have hnl:Hid (nl xs ys m 2 1 n v=ys++([2,1,(n:Int),v,0]:List Int)):=Zr (by unfold nl;rw [HL.o,<-HC.o,<-E2.o];rfl);skip;go_wp2_with (first|(at_builtin;refine wpList_append_lies _ rfl _ _ _ rfl base 179 i _ 5 40 underlying36 hi0 hz0 hz1 hz2 rfl (by omega) (.slice (some (Zt g2 0)) m c2) m (ys.map (Value.int .i64)) rfl (OX.o.alloc _) (Zt wr.heap.size 0) 1 1 [iv 2,iv 1,iv n,iv v,iv 0] rfl rfl (World.news_of_block (cs:=#[iv 2,iv 1,iv n,iv v,iv 0]) (t:=179) (fr:=(0,0)) (heap_alloc_new wr _)) (by simp [Value.oneCell']) (by omega) H63.o HBT.o (by have:=PX.o.lt;simp;omega) (wr.heap.size+1) (by simp) ?_));intro g3 c3 w1 hown1 hgrow hat hlt;have lp:=PX.o.lt;have lg:=EX.o.lt (by rw [vX];decide);obtain ⟨lg2,lg3⟩:=OX.o.lt g2 rfl;have P1:Hid (Blk w1 p #[d0,d1,d2,d3,d4,d5,d6,d7,.slice (some (Zt g1 0)) 512 c1,.slice (some (Zt g2 0)) m c2,d10,d11,d12,d13,d14,d15] 143):=Zr ((hgrow.block p (by simp;omega) (by simp [Value.ownBlock];omega)).trans (PX.o.alloc _));have G1:Hid (Own w1 g1 (xs.set n v)):=Zr ((EX.o.ai (kept_alloc _ _) (by omega)).kept hgrow (by simp [Value.ownBlock];omega));have y0:=P1.o.cell (i:=8) rfl;have y1:=P1.o.cell (i:=9) rfl;have f1:=P1.o.frozen 9;have O1:=Zr hown1;have K1:Hid (FrP (fun k=>k=p∨k=g1∨k=g2) w w1):=Zr ((KX.o.alloc _).grown hgrow (by intro g hg;have h2:g2=g:=Option.some.inj hg;exact .inr (.inr h2.symm)));have hsz:=KX.o.size
    have hat2:g2=g3∨g3=wr.heap.size+1:=by
     rcases hat with h|h
     ·exact .inl (Option.some.inj h)
     ·exact .inr h
    clear hown1 hgrow hat;go_wp2_with fail;go_ret2;refine ⟨g3,c3,rII E2.o HC.o,by rw [hnm.o];exact P1.o.set 9 _,by rw [<-E1.o];exact G1.o.setOther _ _ _ (by omega),?_,by omega,K1.o.set _ _ _ (.inl (.inl rfl))⟩;rw [hnl.o,hnm.o,List.map_append];exact O1.o.kept (grownBy_set _ _ _ _) (.inr (fun e=>by have h3:g3=p:=Option.some.inj e;omega))
theorem Om (w:World) (p base g1 g2:Nat) (d0 d1 d2 d3 d4 d5 d6 d7 d10 d11 d12 d13 d14 d15:Value) (xs ys:List Int) (c1 m c2:Nat) (n:Nat) (v:Int) (hP:Blk w p #[d0,d1,d2,d3,d4,d5,d6,d7,.slice (some (Zt g1 0)) 512 c1,.slice (some (Zt g2 0)) m c2,d10,d11,d12,d13,d14,d15] 143) (h1:Own w g1 xs) (lx:xs.length=512) (hby:aW xs=true)
  (hO:w.ownsRow base 179 5 (.slice (some (Zt g2 0)) m c2) m (ys.map (Value.int .i64))) (hp:base<=p) (hg:base<=g1) (n1:p≠g1) (n2:p≠g2) (n3:g1≠g2) (bm:m<=400) (HC:Hid (0=Pl.code 2 2 n)) (hn:n+2<=512) (v0:0<=v) (v1:v<=65535) :
  Calls prog 235 #[.pointer (some (Zt p 8)),iv 2,iv 2,iv n,iv v] w fun e w'=>∃g3 c3:Nat,e=.returned (.tuple #[iv (Pl.lv xs 2 2 n v),iv (Pl.code 2 2 n)])∧
   Blk w' p #[d0,d1,d2,d3,d4,d5,d6,d7,.slice (some (Zt g1 0)) 512 c1,.slice (some (Zt g3 0)) (nm m 2 2 n) c3,d10,d11,d12,d13,d14,d15] 143∧Own w' g1 (Pl.nb xs 2 2 n v)∧w'.ownsRow base 179 5 (.slice (some (Zt g3 0)) (nm m 2 2 n) c3) (nm m 2 2 n) ((nl xs ys m 2 2 n v).map (Value.int .i64))∧(g3=g2∨w.heap.size<=g3)∧FrP (fun k=>k=p∨k=g1∨k=g2) w w':=by
 obtain ⟨i,hi0,hz0,hz1,hz2⟩:=info_parts Tryz.jM;have E1:Hid ((xs.set n (v/256)).set (n+1) (v%256)=Pl.nb xs 2 2 n v):=Zr (by unfold Pl.nb;rw [if_pos ⟨HC.o.symm,rfl⟩];rfl);have E2:Hid (v=Pl.lv xs 2 2 n v):=Zr (by unfold Pl.lv;rw [if_neg (by simp)]);have t0:=hP.cell (i:=8) rfl;have t1:=hP.cell (i:=9) rfl;have i0:(0:Int)<=(n:Int):=by omega
 have i1:(n:Int)<512:=by omega
 have e255:=gK v;have e256:bits .and .i64 (v/256) 255=v/256:=by rw [gK];omega
 have i2:(0:Int)<=(n:Int)+1:=by omega
 have i3:(n:Int)+1<512:=by omega
 obtain ⟨c0,f0⟩:=h1 n (by omega);go_enter func235,ntmps235;go_wp2_with (go_at_call 266;refine st (mG 2 2 n _ (by omega) (by omega) (by omega) (by omega)) ?_;rw [<-HC.o]);go_loopw [13,14] (fun x j wr=>x=iv v∧((j=iv 0∧wr=w)∨(j=iv 1∧Blk wr p #[d0,d1,d2,d3,d4,d5,d6,d7,.slice (some (Zt g1 0)) 512 c1,.slice (some (Zt g2 0)) m c2,d10,d11,d12,d13,d14,d15] 143∧Own wr g1 (xs.set n (v/256))∧wr.ownsRow base 179 5 (.slice (some (Zt g2 0)) m c2) m (ys.map (Value.int .i64))∧Kept g1 (g1+1) w wr)∨(j=iv 2∧Blk wr p #[d0,d1,d2,d3,d4,d5,d6,d7,.slice (some (Zt g1 0)) 512 c1,.slice (some (Zt g2 0)) m c2,d10,d11,d12,d13,d14,d15] 143∧Own wr g1 ((xs.set n (v/256)).set (n+1) (v%256))∧wr.ownsRow base 179 5 (.slice (some (Zt g2 0)) m c2) m (ys.map (Value.int .i64))∧Kept g1 (g1+1) w wr))) (fun _ j _=>(3-intOf j).toNat)
 case atStart=>exact ⟨rfl,.inl ⟨rfl,rfl⟩⟩
 case round=>
  obtain ⟨rfl,hrel⟩:=hrel;rcases hrel with ⟨rfl,hw⟩|⟨rfl,hp1,ho1,hr1,hk1⟩|⟨rfl,hp1,ho1,hr1,hk1⟩
  ·have hw2:=hw.symm;clear hw;subst hw2;go_wp2;go_roundw
   case rel=>exact ⟨rfl,.inr (.inl ⟨by go_num,hP.other _ _ _ n1,h1.uB _,hO.kept (grownBy_set _ _ _ _) (.inr (fun e=>by have h3:g2=g1:=Option.some.inj e;omega)),af (Kept.refl _ _ _) _ _ _ (.inl (by omega))⟩)⟩
   case measure=>simp [intOf]
  ·obtain ⟨c1',f1'⟩:=ho1 (n+1) (by rw [List.length_set];omega);have P1:=Zr hp1;have O1:=Zr ho1;have R1:=Zr hr1;have K1:=Zr hk1;have s0:=hp1.cell (i:=8) rfl;have s1:=hp1.cell (i:=9) rfl;clear hp1 ho1 hr1 hk1 c0 f0 t0 t1;go_wp2;go_roundw
   case rel=>exact ⟨rfl,.inr (.inr ⟨by go_num,P1.o.other _ _ _ n1,O1.o.uB _,R1.o.kept (grownBy_set _ _ _ _) (.inr (fun e=>by have h3:g2=g1:=Option.some.inj e;omega)),af K1.o _ _ _ (.inl (by omega))⟩)⟩
   case measure=>simp [intOf]
  ·clear t0 t1 c0 f0;have PX:=Zr hp1;have EX:=Zr ho1;have OX:=Zr hr1;have lg:=h1.lt (by rw [lx];decide);have KX:Hid (FrP (fun k=>k=p∨k=g1∨k=g2) w wr):=Zr (jQ hk1 (fun i h1 h2=>.inr (.inl (by omega))));have vX:((xs.set n (v/256)).set (n+1) (v%256)).length=512:=by simp [lx]
   have t0:=hp1.cell (i:=8) rfl;have t1:=hp1.cell (i:=9) rfl;clear hp1 ho1 hr1 hk1 hP h1 hO lg;cases gm:decide ((m:Int)<400)
   ·have HL:Hid (Pl.logs m 2 2 n=false):=Zr (gX HC.o gm rfl rfl);have hnm:Hid (nm m 2 2 n=m):=Zr (by unfold nm;rw [HL.o];rfl);have hnl:Hid (nl xs ys m 2 2 n v=ys):=Zr (by unfold nl;rw [HL.o];rfl);skip;go_wp2_with fail;go_ret2;exact ⟨g2,c2,rII E2.o HC.o,by rw [hnm.o];exact PX.o,by rw [<-E1.o];exact EX.o,by rw [hnm.o,hnl.o];exact OX.o,.inl rfl,KX.o⟩
   ·have HL:Hid (Pl.logs m 2 2 n=true):=Zr (gX HC.o gm rfl rfl);have H63:Hid (m+1<=maxLen):=Zr (by unfold maxLen;simp at gm;omega);have HBT:Hid ((m+1)*40<=140737488355328):=Zr (by simp at gm;omega);have hnm:Hid (nm m 2 2 n=m+1):=Zr (by unfold nm;rw [HL.o];rfl);have hnl:Hid (nl xs ys m 2 2 n v=ys++([2,2,(n:Int),v,0]:List Int)):=Zr (by unfold nl;rw [HL.o,<-HC.o,<-E2.o];rfl);skip;go_wp2_with (first|(at_builtin;refine wpList_append_lies _ rfl _ _ _ rfl base 179 i _ 5 40 underlying36 hi0 hz0 hz1 hz2 rfl (by omega) (.slice (some (Zt g2 0)) m c2) m (ys.map (Value.int .i64)) rfl (OX.o.alloc _) (Zt wr.heap.size 0) 1 1 [iv 2,iv 2,iv n,iv v,iv 0] rfl rfl (World.news_of_block (cs:=#[iv 2,iv 2,iv n,iv v,iv 0]) (t:=179) (fr:=(0,0)) (heap_alloc_new wr _)) (by simp [Value.oneCell']) (by omega) H63.o HBT.o (by have:=PX.o.lt;simp;omega) (wr.heap.size+1) (by simp) ?_));intro g3 c3 w1 hown1 hgrow hat hlt;have lp:=PX.o.lt;have lg:=EX.o.lt (by rw [vX];decide);obtain ⟨lg2,lg3⟩:=OX.o.lt g2 rfl;have P1:Hid (Blk w1 p #[d0,d1,d2,d3,d4,d5,d6,d7,.slice (some (Zt g1 0)) 512 c1,.slice (some (Zt g2 0)) m c2,d10,d11,d12,d13,d14,d15] 143):=Zr ((hgrow.block p (by simp;omega) (by simp [Value.ownBlock];omega)).trans (PX.o.alloc _));have G1:Hid (Own w1 g1 ((xs.set n (v/256)).set (n+1) (v%256))):=Zr ((EX.o.ai (kept_alloc _ _) (by omega)).kept hgrow (by simp [Value.ownBlock];omega));have y0:=P1.o.cell (i:=8) rfl;have y1:=P1.o.cell (i:=9) rfl;have f1:=P1.o.frozen 9;have O1:=Zr hown1;have K1:Hid (FrP (fun k=>k=p∨k=g1∨k=g2) w w1):=Zr ((KX.o.alloc _).grown hgrow (by intro g hg;have h2:g2=g:=Option.some.inj hg;exact .inr (.inr h2.symm)));have hsz:=KX.o.size
    have hat2:g2=g3∨g3=wr.heap.size+1:=by
     rcases hat with h|h
     ·exact .inl (Option.some.inj h)
     ·exact .inr h
    clear hown1 hgrow hat;go_wp2_with fail;go_ret2;refine ⟨g3,c3,rII E2.o HC.o,by rw [hnm.o];exact P1.o.set 9 _,by rw [<-E1.o];exact G1.o.setOther _ _ _ (by omega),?_,by omega,K1.o.set _ _ _ (.inl (.inl rfl))⟩;rw [hnl.o,hnm.o,List.map_append];exact O1.o.kept (grownBy_set _ _ _ _) (.inr (fun e=>by have h3:g3=p:=Option.some.inj e;omega))
theorem SG (w:World) (p base g1 g2:Nat) (d0 d1 d2 d3 d4 d5 d6 d7 d10 d11 d12 d13 d14 d15:Value) (xs ys:List Int) (c1 m c2:Nat) (k:Int) (s n:Nat) (hP:Blk w p #[d0,d1,d2,d3,d4,d5,d6,d7,.slice (some (Zt g1 0)) 512 c1,.slice (some (Zt g2 0)) m c2,d10,d11,d12,d13,d14,d15] 143) (h1:Own w g1 xs) (lx:xs.length=512) (hby:aW xs=true)
  (hO:w.ownsRow base 179 5 (.slice (some (Zt g2 0)) m c2) m (ys.map (Value.int .i64))) (hp:base<=p) (hg:base<=g1) (n1:p≠g1) (n2:p≠g2) (n3:g1≠g2) (bm:m<=400) (HC:Hid (0=Pl.code k s n)) (hk:(k != 2)=true) (hs1:1<=s) (hs2:s<=2) (hn:n+s<=512) :
  Calls prog 235 #[.pointer (some (Zt p 8)),iv k,iv s,iv n,iv 0] w fun e w'=>∃g3 c3:Nat,e=.returned (.tuple #[iv (Pl.lv xs k s n 0),iv (Pl.code k s n)])∧
   Blk w' p #[d0,d1,d2,d3,d4,d5,d6,d7,.slice (some (Zt g1 0)) 512 c1,.slice (some (Zt g3 0)) (nm m k s n) c3,d10,d11,d12,d13,d14,d15] 143∧Own w' g1 (Pl.nb xs k s n 0)∧w'.ownsRow base 179 5 (.slice (some (Zt g3 0)) (nm m k s n) c3) (nm m k s n) ((nl xs ys m k s n 0).map (Value.int .i64))∧(g3=g2∨w.heap.size<=g3)∧FrP (fun k=>k=p∨k=g1∨k=g2) w w':=by
 obtain ⟨i,hi0,hz0,hz1,hz2⟩:=info_parts Tryz.jM;have hk2:¬k=2:=by simpa using hk
 have E1:Hid (xs=Pl.nb xs k s n 0):=Zr (by unfold Pl.nb;rw [if_neg (fun h=>hk2 h.2)]);have E2:Hid (Pl.rd xs s n=Pl.lv xs k s n 0):=Zr (by unfold Pl.lv;rw [if_pos ⟨HC.o.symm,hk2⟩];rfl);have hkeq:(k==2)=false:=by simpa using hk2
 have PX:=Zr hP;have EX:=Zr h1;have OX:=Zr hO;have KX:=Zr (FrP.refl (fun k=>k=p∨k=g1∨k=g2) w);have vX:=lx;have HBY:=Zr hby
 have t0:=hP.cell (i:=8) rfl;have t1:=hP.cell (i:=9) rfl;clear hP h1 hO hby hk2;go_enter func235,ntmps235;go_wp2_with (go_at_call 266;refine st (mG k s n _ (by omega) (by omega) (by omega) (by omega)) ?_;rw [<-HC.o]);go_loopw [13,14] (fun x j wr=>∃q:Nat,q<=s∧j=iv q∧x=iv (rdK xs n q)∧wr=w) (fun _ j _=>s-(intOf j).toNat)
 case atStart=>exact ⟨0,Nat.zero_le _,rfl,rfl,rfl⟩
 case round=>
  obtain ⟨q,hq,rfl,rfl,hw⟩:=hrel;have hw2:=hw.symm;clear hw;subst hw2;by_cases hlt:q<s
  ·obtain ⟨hc,_⟩:=EX.o (n+q) (by omega);have b0:=dA HBY.o n (by omega);have b1:=dA HBY.o (n+q) (by omega);rw [show xs[n+q]?.getD 0=el xs (n+q) from rfl] at hc;obtain ⟨b00,b01⟩:=b0;obtain ⟨b10,b11⟩:=b1;have i0:(0:Int)<=(n:Int)+(q:Int):=by omega
   have i1:(n:Int)+(q:Int)<512:=by omega
   have i2:((n:Int)+(q:Int)).toNat=n+q:=by omega
   by_cases hk0:q=0
   ·subst hk0;have hor:=tu (h:=0) (by decide) (by decide) b10 b11;rw [Int.zero_mul,Int.zero_add] at hor;rw [Nat.add_zero] at hc hor b10 b11;rw [show rdK xs n 0=0 from rfl];go_wp2;go_roundw
    case rel=>exact ⟨1,by omega,rfl,rfl,trivial⟩
    case measure=>simp [intOf];omega
   ·obtain rfl:q=1:=by omega
    have hor:=tu b00 b01 b10 b11;rw [show rdK xs n 1=el xs n from rfl];go_wp2;go_roundw
    case rel=>exact ⟨2,by omega,rfl,rfl,trivial⟩
    case measure=>simp [intOf];omega
  ·have E:Hid (rdK xs n q=Pl.rd xs s n):=Zr (by
    have:q=1∨q=2:=by omega
    unfold rdK Pl.rd;rcases this with rfl|rfl
    ·rw [if_neg (by decide),if_pos rfl,if_pos (by omega)]
    ·rw [if_neg (by decide),if_neg (by decide),if_neg (by omega)])
   rw [E.o];clear E;cases gm:decide ((m:Int)<400)
   ·cases g3:(k != 3)
    ·have HL:Hid (Pl.logs m k s n=false):=Zr (gX HC.o gm g3 rfl);have hnm:Hid (nm m k s n=m):=Zr (by unfold nm;rw [HL.o];rfl);have hnl:Hid (nl xs ys m k s n 0=ys):=Zr (by unfold nl;rw [HL.o];rfl);skip;go_wp2_with fail;go_ret2;exact ⟨g2,c2,rII E2.o HC.o,by rw [hnm.o];exact PX.o,by rw [<-E1.o];exact EX.o,by rw [hnm.o,hnl.o];exact OX.o,.inl rfl,KX.o⟩
    ·have HL:Hid (Pl.logs m k s n=false):=Zr (gX HC.o gm g3 rfl);have hnm:Hid (nm m k s n=m):=Zr (by unfold nm;rw [HL.o];rfl);have hnl:Hid (nl xs ys m k s n 0=ys):=Zr (by unfold nl;rw [HL.o];rfl);skip;go_wp2_with fail;go_ret2;exact ⟨g2,c2,rII E2.o HC.o,by rw [hnm.o];exact PX.o,by rw [<-E1.o];exact EX.o,by rw [hnm.o,hnl.o];exact OX.o,.inl rfl,KX.o⟩
   ·cases g3:(k != 3)
    ·have HL:Hid (Pl.logs m k s n=false):=Zr (gX HC.o gm g3 rfl);have hnm:Hid (nm m k s n=m):=Zr (by unfold nm;rw [HL.o];rfl);have hnl:Hid (nl xs ys m k s n 0=ys):=Zr (by unfold nl;rw [HL.o];rfl);skip;go_wp2_with fail;go_ret2;exact ⟨g2,c2,rII E2.o HC.o,by rw [hnm.o];exact PX.o,by rw [<-E1.o];exact EX.o,by rw [hnm.o,hnl.o];exact OX.o,.inl rfl,KX.o⟩
    ·have HL:Hid (Pl.logs m k s n=true):=Zr (gX HC.o gm g3 rfl);have H63:Hid (m+1<=maxLen):=Zr (by unfold maxLen;simp at gm;omega);have HBT:Hid ((m+1)*40<=140737488355328):=Zr (by simp at gm;omega);have hnm:Hid (nm m k s n=m+1):=Zr (by unfold nm;rw [HL.o];rfl);have hnl:Hid (nl xs ys m k s n 0=ys++([k,s,(n:Int),(Pl.rd xs s n),0]:List Int)):=Zr (by unfold nl;rw [HL.o,<-HC.o,<-E2.o];rfl);skip;go_wp2_with (first|(at_builtin;refine wpList_append_lies _ rfl _ _ _ rfl base 179 i _ 5 40 underlying36 hi0 hz0 hz1 hz2 rfl (by omega) (.slice (some (Zt g2 0)) m c2) m (ys.map (Value.int .i64)) rfl (OX.o.alloc _) (Zt w.heap.size 0) 1 1 [iv k,iv s,iv n,iv (Pl.rd xs s n),iv 0] rfl rfl (World.news_of_block (cs:=#[iv k,iv s,iv n,iv (Pl.rd xs s n),iv 0]) (t:=179) (fr:=(0,0)) (heap_alloc_new w _)) (by simp [Value.oneCell']) (by omega) H63.o HBT.o (by have:=PX.o.lt;simp;omega) (w.heap.size+1) (by simp) ?_));intro g3 c3 w1 hown1 hgrow hat hlt;have lp:=PX.o.lt;have lg:=EX.o.lt (by rw [vX];decide);obtain ⟨lg2,lg3⟩:=OX.o.lt g2 rfl;have P1:Hid (Blk w1 p #[d0,d1,d2,d3,d4,d5,d6,d7,.slice (some (Zt g1 0)) 512 c1,.slice (some (Zt g2 0)) m c2,d10,d11,d12,d13,d14,d15] 143):=Zr ((hgrow.block p (by simp;omega) (by simp [Value.ownBlock];omega)).trans (PX.o.alloc _));have G1:Hid (Own w1 g1 (xs)):=Zr ((EX.o.ai (kept_alloc _ _) (by omega)).kept hgrow (by simp [Value.ownBlock];omega));have y0:=P1.o.cell (i:=8) rfl;have y1:=P1.o.cell (i:=9) rfl;have f1:=P1.o.frozen 9;have O1:=Zr hown1;have K1:Hid (FrP (fun k=>k=p∨k=g1∨k=g2) w w1):=Zr ((KX.o.alloc _).grown hgrow (by intro g hg;have h2:g2=g:=Option.some.inj hg;exact .inr (.inr h2.symm)));have hsz:=KX.o.size
     have hat2:g2=g3∨g3=w.heap.size+1:=by
      rcases hat with h|h
      ·exact .inl (Option.some.inj h)
      ·exact .inr h
     clear hown1 hgrow hat;go_wp2_with fail;go_ret2;refine ⟨g3,c3,rII E2.o HC.o,by rw [hnm.o];exact P1.o.set 9 _,by rw [<-E1.o];exact G1.o.setOther _ _ _ (by omega),?_,by omega,K1.o.set _ _ _ (.inl (.inl rfl))⟩;rw [hnl.o,hnm.o,List.map_append];exact O1.o.kept (grownBy_set _ _ _ _) (.inr (fun e=>by have h3:g3=p:=Option.some.inj e;omega))
theorem Yp (w:World) (p base g1 g2:Nat) (d0 d1 d2 d3 d4 d5 d6 d7 d10 d11 d12 d13 d14 d15:Value) (xs ys:List Int) (c1 m c2:Nat) (k s a v:Int) (hP:Blk w p #[d0,d1,d2,d3,d4,d5,d6,d7,.slice (some (Zt g1 0)) 512 c1,.slice (some (Zt g2 0)) m c2,d10,d11,d12,d13,d14,d15] 143) (h1:Own w g1 xs) (lx:xs.length=512) (hby:aW xs=true)
  (hO:w.ownsRow base 179 5 (.slice (some (Zt g2 0)) m c2) m (ys.map (Value.int .i64))) (hp:base<=p) (hg:base<=g1) (n1:p≠g1) (n2:p≠g2) (n3:g1≠g2) (bm:m<=400) (hask:dX k s a v=true) :
  Calls prog 235 #[.pointer (some (Zt p 8)),iv k,iv s,iv a,iv v] w fun e w'=>∃g3 c3:Nat,e=.returned (.tuple #[iv (Pl.lv xs k s a v),iv (Pl.code k s a)])∧
   Blk w' p #[d0,d1,d2,d3,d4,d5,d6,d7,.slice (some (Zt g1 0)) 512 c1,.slice (some (Zt g3 0)) (nm m k s a) c3,d10,d11,d12,d13,d14,d15] 143∧Own w' g1 (Pl.nb xs k s a v)∧w'.ownsRow base 179 5 (.slice (some (Zt g3 0)) (nm m k s a) c3) (nm m k s a) ((nl xs ys m k s a v).map (Value.int .i64))∧(g3=g2∨w.heap.size<=g3)∧FrP (fun k=>k=p∨k=g1∨k=g2) w w':=by
 obtain ⟨hk13,hs,v0,⟨a0,a1⟩,hkv⟩:=qp hask;by_cases hc:Pl.code k s a=0
 ·have hlow:=qQ hc a0;obtain ⟨n,rfl⟩:∃n:Nat,a=(n:Int):=⟨a.toNat,by omega⟩
  by_cases h2:k=2
  ·subst h2;rcases hs with ⟨rfl,hv⟩|⟨rfl,hv⟩
   ·exact Oo w p base g1 g2 d0 d1 d2 d3 d4 d5 d6 d7 d10 d11 d12 d13 d14 d15 xs ys c1 m c2 n v hP h1 lx hby hO hp hg n1 n2 n3 bm (Zr hc.symm) (by omega) v0 hv
   ·exact Om w p base g1 g2 d0 d1 d2 d3 d4 d5 d6 d7 d10 d11 d12 d13 d14 d15 xs ys c1 m c2 n v hP h1 lx hby hO hp hg n1 n2 n3 bm (Zr hc.symm) (by omega) v0 hv
  ·obtain rfl:v=0:=by omega
   obtain ⟨t,rfl⟩:∃t:Nat,s=(t:Int):=⟨s.toNat,by omega⟩
   exact SG w p base g1 g2 d0 d1 d2 d3 d4 d5 d6 d7 d10 d11 d12 d13 d14 d15 xs ys c1 m c2 k t n hP h1 lx hby hO hp hg n1 n2 n3 bm (Zr hc.symm) (by simpa using h2) (by omega) (by omega) (by omega)
 ·by_cases h2:k=2
  ·subst h2;exact Oq w p base g1 g2 d0 d1 d2 d3 d4 d5 d6 d7 d10 d11 d12 d13 d14 d15 xs ys c1 m c2 s a v _ hP h1 lx hby hO hp hg n1 n2 n3 bm (Zr rfl) (by simpa using hc) (by omega) (by omega) a0 a1
  ·obtain rfl:v=0:=by omega
   exact Ot w p base g1 g2 d0 d1 d2 d3 d4 d5 d6 d7 d10 d11 d12 d13 d14 d15 xs ys c1 m c2 k s a _ hP h1 lx hby hO hp hg n1 n2 n3 bm (Zr rfl) (by simpa using hc) (by omega) (by omega) a0 a1 (by simpa using h2)
end Go.Proofs.YtgikibaajanjiaaGreatDoor
namespace Go.Proofs.YtgikibaajanjiaaGreatDoor.Pl
set_option linter.unusedVariables false
structure In where
 op:Int
 z:Int
 r:Int
 m:Int
 k:Int
 e:Int
 s:Int
def uU:In:=⟨0,0,0,0,0,0,0⟩
def jU (m:Int):Bool:=within m 2 6
def eX (m:Int):Bool:=(m==2)||((m==5)||(m==6))
def gW (m k e:Int):Bool:=(m==0)&&((k==0)&&(e==0))
def jd (m e:Int):Bool:=(m==7)&&decide (e<=1023)
def lh (x:In):Bool:=((x.m==7)&&(x.z==1))&&decide (255<x.e)
def inBase (x:In):Bool:=(decide (x.z=1)||decide (x.z=2))&&(within x.r 0 3&&(iH x.m x.k x.e&&(within x.s 0 7 && !lh x)))
def ax (x:In):Bool:=
 bif (x.op==1)||((x.op==3)||((x.op==4)||((x.op==5)||((x.op==6)||((x.op==7)||(x.op==8)))))) then (x.s==0)&&((x.z==2) || !(x.m==1))
 else bif x.op==2 then (x.s==0)&&((x.m==0)||jU x.m)
 else bif x.op==9 then (x.z==2)&&(x.s==0)
 else bif x.op==10 then ((x.z==2)&&(x.s==0))&&eX x.m
 else bif x.op==11 then ((x.r==0)&&decide (x.s<=3))&&((x.m==0)||jU x.m)
 else bif x.op==12 then (x.m==0)
 else bif x.op==13 then ((x.z==2)&&decide (x.r<=1))&&(x.m==7)
 else bif x.op==14 then (((x.z==2)&&(x.r==0))&&decide (x.s<=1))&&eX x.m
 else bif (x.op==16)||(x.op==17) then ((x.z==2)&&(x.s==0)) && !(x.m==1)
 else bif x.op==18 then ((!(x.z==2))&&decide (x.s<=1))&&(x.m==0)
 else bif x.op==19 then (x.z==2)&&((((x.s==0)&&(x.r==0))&&jd x.m x.e)||((x.s==1)&&gW x.m x.k x.e))
 else bif x.op==15 then (bif x.s==3 then ((x.z==2)&&(x.r==0))&&jd x.m x.e else (((x.z==2)&&decide (x.s<=6))&&gW x.m x.k x.e)&&(decide (3<x.s)||(x.r==0)))
 else false
def bI (x:In):Bool:=inBase x&&ax x
def nH (x:In):Int:=x.op*2048+(x.z-1)*1024+x.r*256+x.m*32+x.k*8+x.s
def dO (w:Int):Int:=if jH (w/32%8)=true then 2 else 1
def decode (w v:Int):In:=⟨w/2048,w/1024%2+1,w/256%4,w/32%8,w/8%4,if dO w=2 then v else 0,w%8⟩
def jc (x:In):Bool:=((x.op==15)&&((x.s==1)||(x.s==3)))||((x.op==19)&&(x.s==0))
theorem QC {x:In} (h:bI x=true):1<=x.op∧x.op<=19∧(x.z=1∨x.z=2)∧0<=x.r∧x.r<=3∧0<=x.m∧x.m<=7∧0<=x.k∧x.k<=3∧0<=x.e∧x.e<=65535∧0<=x.s∧x.s<=7∧(jH x.m=false->x.e=0):=by
 obtain ⟨op,z,r,m,k,e,s⟩:=x;unfold bI at h;rw [Bool.and_eq_true] at h;obtain ⟨h1,h2⟩:=h
 have hop:1<=op∧op<=19:=by
  have:op=1∨op=2∨op=3∨op=4∨op=5∨op=6∨op=7∨op=8∨op=9∨op=10∨op=11∨op=12∨op=13∨op=14∨op=15∨op=16∨op=17∨op=18∨op=19:=by
   by_cases q1:op=1;· simp [q1]
   by_cases q2:op=2;· simp [q2]
   by_cases q3:op=3;· simp [q3]
   by_cases q4:op=4;· simp [q4]
   by_cases q5:op=5;· simp [q5]
   by_cases q6:op=6;· simp [q6]
   by_cases q7:op=7;· simp [q7]
   by_cases q8:op=8;· simp [q8]
   by_cases q9:op=9;· simp [q9]
   by_cases q10:op=10;· simp [q10]
   by_cases q11:op=11;· simp [q11]
   by_cases q12:op=12;· simp [q12]
   by_cases q13:op=13;· simp [q13]
   by_cases q14:op=14;· simp [q14]
   by_cases q15:op=15;· simp [q15]
   by_cases q16:op=16;· simp [q16]
   by_cases q17:op=17;· simp [q17]
   by_cases q18:op=18;· simp [q18]
   by_cases q19:op=19;· simp [q19]
   simp [ax,q1,q2,q3,q4,q5,q6,q7,q8,q9,q10,q11,q12,q13,q14,q15,q16,q17,q18,q19] at h2
  omega
 simp [inBase,iH,bH,within,aJ] at h1;obtain ⟨hz,hr,⟨hm,hk,_,he,hx⟩,hs,_⟩:=h1;refine ⟨hop.1,hop.2,hz,hr.1,hr.2,hm.1,hm.2,hk.1,hk.2,he.1,he.2,hs.1,hs.2,fun q => ?_⟩;rcases hx with hx|hx
 ·rw [q] at hx;cases hx
 ·exact hx
end Go.Proofs.YtgikibaajanjiaaGreatDoor.Pl
namespace Go.Proofs.YtgikibaajanjiaaGreatDoor
open Pl
abbrev inX (x:Pl.In):Array Value:=#[iv x.op,iv x.z,iv x.r,iv x.m,iv x.k,iv x.e,iv x.s]
end Go.Proofs.YtgikibaajanjiaaGreatDoor
namespace Go.Proofs.YtgikibaajanjiaaGreatDoor.Pl
set_option linter.unusedVariables false
def cF (f:Int):Bool:=f%2==1
def vF (f:Int):Bool:=f/2%2==1
def zF (f:Int):Bool:=f/4%2==1
def nF (f:Int):Bool:=f/8%2==1
def ev (c f:Int):Bool:=
 bif c==2 then !cF f && !zF f else bif c==4 then !cF f else bif c==6 then !zF f else bif c==8 then !vF f
 else bif c==10 then !nF f else bif c==12 then nF f==vF f else bif c==14 then (nF f==vF f) && !zF f else true
def tst (k f:Int):Bool:=ev (k-k%2) f==(k%2==0)
def need (k:Int):Int:=
 bif k-k%2==2 then 5 else bif k-k%2==4 then 1 else bif k-k%2==6 then 4 else bif k-k%2==8 then 2
 else bif k-k%2==10 then 8 else bif k-k%2==12 then 10 else bif k-k%2==14 then 14 else 0
theorem oG {k:Int} {n:Nat} (h0:0<=k) (h1:k<n):∃j:Nat,j<n∧k=(j:Int):=⟨k.toNat,by omega,by omega⟩
theorem WO:∀f:Nat,f<32->(bits .and .i64 (f:Int) 1==0) = !cF f:=by decide +kernel
theorem WM:∀f:Nat,f<32->(bits .and .i64 (f:Int) 2==0) = !vF f:=by decide +kernel
theorem WL:∀f:Nat,f<32->(bits .and .i64 (f:Int) 4==0) = !zF f:=by decide +kernel
theorem WN:∀f:Nat,f<32->(bits .and .i64 (f:Int) 8==0) = !nF f:=by decide +kernel
theorem Uy:∀f:Nat,f<32->(bits .and .i64 (f:Int) 5==0)=(!cF f && !zF f):=by decide +kernel
theorem Ls:∀k:Nat,k<16->bits .andNot .i64 (k:Int) 1=(k:Int)-(k:Int)%2:=by decide +kernel
def hi (s v:Int):Int:=if top s/2<=v then 1 else 0
def fell (k s v:Int):Int:=if k%2=0 then hi s v else v%2
def inn (k s x v:Int):Int:=if k=1 then hi s v else if k=4∨k=5 then fell k s v else if 6<=k then x else 0
def nv (k s x v:Int):Int:=if k%2=0 then v*2%top s+inn k s x v else v/2+inn k s x v*(top s/2)
def nx (k s x v:Int):Int:=if k=4∨k=5 then x else fell k s v
def vfl (k s x v:Int):Bool:=decide (k=0)&&(hi s v != hi s (nv k s x v))
def zn (s v:Int):Int:=fl (v==0) 4+fl (decide (top s/2<=v)) 8
def onF (k s x v:Int):Int:=fell k s v+fl (vfl k s x v) 2+zn s (nv k s x v)+16*nx k s x v
def stp (k s:Int) (p:Int × Int):Int × Int:=(nv k s p.2 p.1,nx k s p.2 p.1)
def st (k s:Int) (p:Int × Int):Nat->Int × Int
 | 0=>p
 | n+1=>stp k s (st k s p n)
def ov (k s:Int) (p:Int × Int):Nat->Bool
 | 0=>false
 | n+1=>ov k s p n||vfl k s (st k s p n).2 (st k s p n).1
def byF (k s:Int) (p:Int × Int):Nat->Int
 | 0=>fl (decide (p.2≠0)&&decide (6<=k)) 1+zn s p.1+16*p.2
 | n+1=>fell k s (st k s p n).1+fl (ov k s p (n+1)) 2+zn s (st k s p (n+1)).1+16*(st k s p (n+1)).2
def Fit (s:Int) (p:Int × Int):Prop:=(s=1∨s=2)∧0<=p.1∧p.1<top s∧0<=p.2∧p.2<=1
theorem dC (s v:Int):0<=hi s v∧hi s v<=1:=by unfold hi;split<;>omega
theorem mQ (k s v:Int):0<=fell k s v∧fell k s v<=1:=by
 have:=dC s v
 unfold fell;split<;>omega
theorem Tq (k s x v:Int) (x0:0<=x) (x1:x<=1):0<=inn k s x v∧inn k s x v<=1:=by
 have:=dC s v
 have:=mQ k s v
 unfold inn;repeat' split
 all_goals omega
theorem CU (k s x v:Int) (x0:0<=x) (x1:x<=1):0<=nx k s x v∧nx k s x v<=1:=by
 have:=mQ k s v
 unfold nx;split<;>omega
theorem mX {s:Int} (h:s=1∨s=2):(s=1∧top s=256)∨(s=2∧top s=65536):=by
 rcases h with rfl|rfl
 ·exact .inl ⟨rfl,rfl⟩
 ·exact .inr ⟨rfl,rfl⟩
theorem Nk {k s:Int} {p:Int × Int} (h:Fit s p):Fit s (stp k s p):=by
 obtain ⟨hs,v0,v1,x0,x1⟩:=h;have i:=Tq k s p.2 p.1 x0 x1;have n:=CU k s p.2 p.1 x0 x1;refine ⟨hs,?_,?_,n.1,n.2⟩
 all_goals
  unfold stp nv;rcases mX hs with ⟨_,e⟩|⟨_,e⟩
  all_goals
   simp only [e] at v1 ⊢;generalize inn k s p.2 p.1=q at i;split
   ·omega
   ·have:q=0∨q=1:=by omega
    rcases this with rfl|rfl<;>omega
theorem nP {k s:Int} {p:Int × Int} (h:Fit s p) (n:Nat):Fit s (st k s p n):=by
 induction n with
 | zero=>exact h
 | succ n ih=>exact Nk ih
theorem Qq (s v:Int):0<=zn s v∧zn s v<=12:=by
 unfold zn;cases (v==0)<;>cases decide (top s/2<=v)<;>simp [fl]
theorem QM (b:Bool) (n:Int) (h:0<=n):0<=fl b n∧fl b n<=n:=by cases b<;>simp [fl,h]
theorem F5 {k s:Int} {p:Int × Int} (h:Fit s p) (n:Nat):∃c o:Int,byF k s p n=c+o+zn s (st k s p n).1+16*(st k s p n).2∧0<=c∧c<=1∧(o=0∨o=2):=by
 cases n with
 | zero=>
  have:=QM (decide (p.2≠0)&&decide (6<=k)) 1 (by decide)
  exact ⟨_,0,by show _=_;simp only [byF,st];omega,this.1,this.2,.inl rfl⟩
 | succ n=>
  have:=mQ k s (st k s p n).1
  refine ⟨_,fl (ov k s p (n+1)) 2,rfl,this.1,this.2,?_⟩;cases ov k s p (n+1)<;>simp [fl]
theorem Lp {k s:Int} {p:Int × Int} (h:Fit s p) (n:Nat):0<=byF k s p n∧byF k s p n<=31∧byF k s p n/16=(st k s p n).2:=by
 obtain ⟨c,o,e,c0,c1,ho⟩:=F5 (k:=k) h n;have z:=Qq s (st k s p n).1;obtain ⟨_,_,_,x0,x1⟩:=nP (k:=k) h n;omega
theorem RV {k s:Int} {p:Int × Int} (h:Fit s p):0<=onF k s p.2 p.1∧onF k s p.2 p.1<=31∧onF k s p.2 p.1/16=nx k s p.2 p.1:=by
 have f:=mQ k s p.1;have v:=QM (vfl k s p.2 p.1) 2 (by decide);have z:=Qq s (nv k s p.2 p.1);obtain ⟨_,_,_,x0,x1⟩:=h;have x:=CU k s p.2 p.1 x0 x1;have v2:fl (vfl k s p.2 p.1) 2=0∨fl (vfl k s p.2 p.1) 2=2:=by cases vfl k s p.2 p.1<;>simp [fl]
 unfold onF;omega
def oL (k s f v:Int):Bool:=(decide (0<=k)&&decide (k<=7))&&(okv s v&&flags f)
def cnt (n:Int):Bool:=decide (0<=n)&&decide (n<=63)
def pX (k s f v n:Int):Bool:=oL k s f v&&cnt n
def iM (k s f v n:Int):Int:=if pX k s f v n=true then (st k s (v,f/16) n.toNat).1 else 0
def nC (k s f v n:Int):Int:=if pX k s f v n=true then byF k s (v,f/16) n.toNat else 0
def kin (k:Int):Bool:=decide (0<=k)&&decide (k<=7)
def left (k:Int):Bool:=kin k&&decide (k%2=0)
theorem IG {s v:Int} (h:okv s v=true):s=1∨s=2:=by
 simp [okv] at h;exact h.1
theorem oK {k s f v:Int} (h:oL k s f v=true):0<=k∧k<=7∧okv s v=true∧0<=f∧f<=31∧Fit s (v,f/16):=by
 simp only [oL,Bool.and_eq_true,decide_eq_true_eq] at h;obtain ⟨⟨k0,k1⟩,ho,hf⟩:=h;obtain ⟨f0,f1⟩:=qM hf;have ht:=aO ho;exact ⟨k0,k1,ho,f0,f1,IG ho,ht.2.1,ht.2.2,by show 0<=f/16;omega,by show f/16<=1;omega⟩
theorem Qa {k s f v n:Int} (h:oL k s f v=true) (n0:0<=n) (n1:n<=63):pX k s f v n=true:=by simp [pX,cnt,h,n0,n1]
theorem LH (a:Int):bits .and .i64 a 15=a%16:=by
 show IntKind.i64.wrap ((BitVec.ofInt 64 a &&& BitVec.ofInt 64 15).toNat:Int)=_
 rw [BitVec.toNat_and,BitVec.toNat_ofInt,show (BitVec.ofInt 64 15).toNat=2^4-1 from by decide,Nat.and_two_pow_sub_one_eq_mod,IntKind.wrap_i64];omega
theorem RQ (n:Int) (h0:0<=n) (h1:n<=99):bits .or .i64 (n/10*16) (n%10)=n/10*16+n%10:=
 bits_join .i64 62 (by decide) gU 4 (n/10*16) (n%10) (by omega) (by omega) (by omega) (by omega) (by omega) (by omega)
def bcd (v:Int):Bool:=(decide (0<=v)&&decide (v<=255))&&(decide (v/16<=9)&&decide (v%16<=9))
def num (v:Int):Int:=v/16*10+v%16
def ofN (n:Int):Int:=n/10*16+n%10
def dY (x a b:Int):Bool:=bit x&&(bcd a&&bcd b)
def Bz (x a b:Int):Int:=if num a-num b-x<0 then num a-num b-x+100 else num a-num b-x
def Kr (x a b:Int):Int:=if num a-num b-x<0 then 1 else 0
def aV (x a b:Int):Int:=if dY x a b=true then ofN ((num a+num b+x)%100) else 0
def aC (x a b:Int):Int:=if dY x a b=true then (num a+num b+x)/100 else 0
def sV (x a b:Int):Int:=if dY x a b=true then ofN (Bz x a b) else 0
def sC (x a b:Int):Int:=if dY x a b=true then Kr x a b else 0
def rQ (v:Int):Int:=if bcd v=true then ofN (99-num v) else 0
theorem oP {v:Int} (h:bcd v=true):0<=v∧v<=255∧v/16<=9∧v%16<=9:=by
 simp [bcd] at h;omega
theorem UA {v:Int} (h0:0<=v) (h1:v<=255) (h2:v/16<=9) (h3:v%16<=9):bcd v=true:=by
 simp [bcd,h0,h1,h2,h3]
theorem lF {v:Int} (h:bcd v=true):0<=num v∧num v<=99:=by have:=oP h;unfold num;omega
theorem xm {n:Int} (h0:0<=n) (h1:n<=99):bcd (ofN n)=true:=by
 unfold ofN;exact UA (by omega) (by omega) (by omega) (by omega)
theorem NV {n:Int} (h0:0<=n) (h1:n<=99):num (ofN n)=n:=by unfold num ofN;omega
theorem tH {x a b:Int} (h:dY x a b=true):0<=x∧x<=1∧bcd a=true∧bcd b=true:=by
 simp only [dY,Bool.and_eq_true] at h;have:=rV h.1;exact ⟨this.1,this.2,h.2.1,h.2.2⟩
theorem qA {x a b:Int} (h0:0<=x) (h1:x<=1) (ha:bcd a=true) (hb:bcd b=true):dY x a b=true:=by
 simp [dY,bit,h0,h1,ha,hb]
theorem DD {x a b:Int} (h:dY x a b=true):0<=Bz x a b∧Bz x a b<=99:=by
 obtain ⟨x0,x1,ha,hb⟩:=tH h;have:=lF ha;have:=lF hb;unfold Bz;split<;>omega
theorem DT {x a b:Int} (h:dY x a b=true):aV x a b=ofN ((num a+num b+x)%100):=by simp [aV,h]
theorem DU {x a b:Int} (h:dY x a b=true):aC x a b=(num a+num b+x)/100:=by simp [aC,h]
theorem H6 {x a b:Int} (h:dY x a b=true):sV x a b=ofN (Bz x a b):=by simp [sV,h]
theorem Qv {x a b:Int} (h:dY x a b=true):sC x a b=Kr x a b:=by simp [sC,h]
theorem DV (x a b:Int):0<=aC x a b∧aC x a b<=1:=by
 by_cases h:dY x a b=true
 ·obtain ⟨x0,x1,ha,hb⟩:=tH h;have:=lF ha;have:=lF hb;rw [DU h];omega
 ·simp [aC,h]
theorem H8 (x a b:Int):0<=sC x a b∧sC x a b<=1:=by
 unfold sC Kr;split
 ·split<;>omega
 ·omega
theorem BM {x a b:Int} (h:dY x a b=true):bcd (aV x a b)=true:=by rw [DT h];exact xm (by omega) (by omega)
theorem AB {x a b:Int} (h:dY x a b=true):bcd (sV x a b)=true:=by rw [H6 h];exact xm (DD h).1 (DD h).2
structure Cp where
 r:Rg
 bx:List Int
 bl:List Int
 bm:Nat
 st:Bool
 ha:Bool
structure Ft where
 v:Int
 pc:Int
 ad:Int
 wo:Int
 wr:Bool
structure Mc where
 r:Rg
 bx:List Int
 bl:List Int
 bm:Nat
 st:Bool
 f:Ft
def aF:Ft:=⟨0,0,0,0,false⟩
def Ku:Cp:=⟨Yf,[],[],0,false,false⟩
def eY (c:Cp):Bool:=rE c.r&&(dV c.bx c.bl c.bm && !(c.st&&c.ha))
namespace Mc
def fine (c:Mc):Bool:=c.f.v==0
def ofC (c:Cp):Mc:=⟨c.r,c.bx,c.bl,c.bm,c.st,aF⟩
def cpu (c:Mc) (h:Bool):Cp:=⟨c.r,c.bx,c.bl,c.bm,c.st,h⟩
def cZ (f:Ft) (k s a:Int):Ft:=bif (code k s a != 0)&&(f.v==0) then {f with v:=bif code k s a==2 then 3 else 2,ad:=a,wr:=k==2} else f
def acc (c:Mc) (k s a v:Int):Mc:={c with bx:=nb c.bx k s a v,bl:=nl c.bx c.bl c.bm k s a v,bm:=nm c.bm k s a,f:=cZ c.f k s a}
def fZ (c:Mc) (k s a v:Int):Int:=lv c.bx k s a v
def eG (c:Mc) (k:Nat) (v:Int):Mc:={c with r:={c.r with ys:=c.r.ys.set k v}}
def aB (c:Mc) (v:Int):Mc:={c with r:={c.r with p:=v}}
def aH (c:Mc) (v:Int):Mc:={c with r:={c.r with f:=v}}
def bg (c:Mc) (r:Rg):Mc:={c with r:=r}
def spA (c:Mc):Int:=(el c.r.ys 3-2)%65536
def push (c:Mc) (v:Int):Mc:=bif (c.acc 2 2 c.spA v).fine then (c.acc 2 2 c.spA v).eG 3 c.spA else c.acc 2 2 c.spA v
def pop (c:Mc):Mc:=bif (c.acc 1 2 (el c.r.ys 3) 0).fine then (c.acc 1 2 (el c.r.ys 3) 0).eG 3 ((el c.r.ys 3+2)%65536) else c.acc 1 2 (el c.r.ys 3) 0
def dE (c:Mc):Int:=c.fZ 1 2 (el c.r.ys 3) 0
def fe0 (c:Mc):Mc:={c with f:={c.f with pc:=c.r.p}}
def fe1 (c:Mc):Mc:=c.fe0.acc 3 2 c.r.p 0
def feW (c:Mc):Int:=c.fe0.fZ 3 2 c.r.p 0
def fe2 (c:Mc):Mc:={c.fe1 with f:={c.fe1.f with wo:=c.feW}}
def feA (c:Mc):Int:=(c.r.p+2)%65536
def fe3 (c:Mc):Mc:=bif dO c.feW==2 then c.fe2.acc 3 2 c.feA 0 else c.fe2
def feN (c:Mc):Int:=bif dO c.feW==2 then c.fe2.fZ 3 2 c.feA 0 else 0
def feX (c:Mc):In:=decode c.feW c.feN
def fe4 (c:Mc):Mc:={c.fe3 with f:={c.fe3.f with v:=4}}
def fetch (c:Mc):Mc:=bif !c.fe1.fine then c.fe1 else bif !c.fe3.fine then c.fe3 else bif !bI c.feX then c.fe4 else c.fe3
def aA (c:Mc):In:=bif c.fe1.fine&&(c.fe3.fine&&bI c.feX) then c.feX else uU
def bW (c:Mc):Int:=bif c.fe1.fine&&(c.fe3.fine&&bI c.feX) then dO c.feW else 0
def low (c:Mc) (z k:Int):Int:=el c.r.xs k.toNat%top z
def gu (m:Int):Bool:=(m==0)||((m==1)||(m==7))
def plc (c:Mc) (z m k e:Int):Mc:=c.bg (bi c.r z m k e)
def read (c:Mc) (z m k e:Int):Mc:=bif gu m then c else (c.plc z m k e).acc 1 z (bf c.r z m k e) 0
def bu (c:Mc) (z m k e:Int):Int:=bif m==0 then c.low z k else bif m==1 then el c.r.ys k.toNat else bif m==7 then e else (c.plc z m k e).fZ 1 z (bf c.r z m k e) 0
def readA (c:Mc) (z m k e:Int):Int:=bif gu m then 0 else bf c.r z m k e
def write (c:Mc) (z m k a v:Int):Mc:=bif m==0 then c.bg (kQ c.r z k v) else c.acc 2 z a v
def place (c:Mc) (z m k e:Int):Mc:=bif m==0 then c else c.plc z m k e
def iE (c:Mc) (z m k e:Int):Int:=bif m==0 then 0 else bf c.r z m k e
def put (c:Mc) (z k v:Int):Mc:=c.bg (kQ c.r z k v)
def data (c:Mc) (z k v:Int):Mc:=(c.aH (dh z c.r.f v)).put z k v
def raise (c:Mc) (v:Int):Mc:={c with f:={c.f with v:=v,pc:=c.r.p}}
def vec (c:Mc) (v:Int):Mc:={c with f:={c.f with v:=v}}
def two' (d:Mc) (x:In) (q v:Int):Mc:=
 bif x.op==8 then d.aH (nz x.z d.r.f q v)
 else bif x.op==3 then (d.aH (qW x.z 0 q v)).put x.z x.r (rY x.z 0 q v)
 else bif x.op==4 then (d.aH (jW x.z 0 q v)).put x.z x.r (lC x.z 0 q v)
 else bif x.op==5 then d.data x.z x.r (bits .and .i64 q v)
 else bif x.op==6 then d.data x.z x.r (bits .or .i64 q v)
 else bif x.op==7 then d.data x.z x.r (bits .xor .i64 q v)
 else d.data x.z x.r v
def two (c:Mc) (x:In):Mc:=bif (c.read x.z x.m x.k x.e).fine then (c.read x.z x.m x.k x.e).two' x ((c.read x.z x.m x.k x.e).low x.z x.r) (c.bu x.z x.m x.k x.e) else c.read x.z x.m x.k x.e
def IC (c:Mc) (x:In):Mc:=(((c.place x.z x.m x.k x.e).write x.z x.m x.k (c.iE x.z x.m x.k x.e) 0)).aH (dh x.z c.r.f 0)
def one' (c d:Mc) (x:In) (a v:Int):Mc:=
 bif x.s==1 then (d.write x.z x.m x.k a (lC x.z 0 0 v)).aH (jW x.z 0 0 v)
 else bif x.s==2 then (d.write x.z x.m x.k a (top x.z-1-v)).aH (dh x.z c.r.f (top x.z-1-v))
 else d.aH (dh x.z c.r.f v)
def one (c:Mc) (x:In):Mc:=
 bif x.s==0 then c.IC x
 else bif (c.read x.z x.m x.k x.e).fine then c.one' (c.read x.z x.m x.k x.e) x (c.readA x.z x.m x.k x.e) (c.bu x.z x.m x.k x.e) else c.read x.z x.m x.k x.e
def jr (c:Mc) (x:In):Mc:=
 bif x.s==0 then c.pop.aB c.dE
 else bif x.s==1 then (bif !c.pop.fine then c.pop else bif !c.pop.pop.fine then c.pop.pop else (c.pop.pop.aB c.pop.dE).bg (aT (c.pop.pop.aB c.pop.dE).r (c.dE%1024)))
 else bif x.s==3 then {c.bg (aT c.r x.e) with st:=true}
 else bif x.s==4 then c.raise (18+x.r)
 else bif x.s==5 then c.data 2 x.r (lw (el c.r.xs x.r.toNat))
 else bif x.s==6 then c.data 2 x.r (lS (el c.r.xs x.r.toNat%256))
 else c
def IK (c:Mc) (x:In) (p:Int):Mc:=(c.data 2 x.r (p%65536)).aH (bits .or .i64 (c.data 2 x.r (p%65536)).r.f (fl (decide (65535<p)) 2))
def iV (d:Mc) (x:In) (v:Int):Mc:=
 bif x.op==16 then d.IK x (el d.r.xs x.r.toNat*v)
 else bif v==0 then d.raise 5 else d.data 2 x.r (el d.r.xs x.r.toNat/v)
def product (c:Mc) (x:In):Mc:=bif (c.read 2 x.m x.k x.e).fine then (c.read 2 x.m x.k x.e).iV x (c.bu 2 x.m x.k x.e) else c.read 2 x.m x.k x.e
def xOf (c:Mc):Int:=c.r.f/16%2
def ng (c:Mc) (s a b:Int):Int:=bif s==1 then sV c.xOf a b else aV c.xOf a b
def qh (c:Mc) (s a b:Int):Int:=bif s==1 then sC c.xOf a b else aC c.xOf a b
def rX (c:Mc) (s a b:Int):Int:=fl ((c.ng s a b==0)&&(c.r.f/4%2==1)) 4+c.qh s a b*17
def yh (c:Mc) (x:In) (a b:Int):Mc:=bif bcd a&&bcd b then (c.aH (c.rX x.s a b)).put 1 x.r (c.ng x.s a b) else c.vec 4
def sU (c:Mc) (x:In):Mc:=c.yh x (el c.r.xs x.r.toNat%256) (el c.r.xs x.k.toNat%256)
def jump (c:Mc) (x:In) (at_:Int):Mc:=
 bif x.op==13 then (bif tst (x.s+8*x.r) c.r.f then c.aB ((at_+2+x.e)%65536) else c)
 else bif x.s==1 then (bif ((c.place 2 x.m x.k x.e).push c.r.p).fine then ((c.place 2 x.m x.k x.e).push c.r.p).aB (c.iE 2 x.m x.k x.e) else (c.place 2 x.m x.k x.e).push c.r.p)
 else (c.place 2 x.m x.k x.e).aB (c.iE 2 x.m x.k x.e)
def from' (c:Mc) (x:In):Mc:=((c.place x.z x.m x.k x.e).write x.z x.m x.k (c.iE x.z x.m x.k x.e) (c.low x.z x.r)).aH (dh x.z c.r.f (c.low x.z x.r))
def stat (c:Mc) (x:In):Mc:=bif x.s==0 then c.bg (aT c.r x.e) else c.bg {c.r with xs:=c.r.xs.set x.r.toNat (status c.r)}
def doI (c:Mc) (x:In) (at_:Int):Mc:=
 bif x.op==9 then (bif (c.read 2 x.m x.k x.e).fine then (c.read 2 x.m x.k x.e).eG x.r.toNat (c.bu 2 x.m x.k x.e) else c.read 2 x.m x.k x.e)
 else bif x.op==10 then (c.place 2 x.m x.k x.e).eG x.r.toNat (c.iE 2 x.m x.k x.e)
 else bif x.op==2 then c.from' x
 else bif x.op==11 then c.one x
 else bif x.op==12 then (c.aH (nC x.s x.z c.r.f (c.low x.z x.r) (x.k+1))).put x.z x.r (iM x.s x.z c.r.f (c.low x.z x.r) (x.k+1))
 else bif (x.op==13)||(x.op==14) then c.jump x at_
 else bif x.op==15 then c.jr x
 else bif (x.op==16)||(x.op==17) then c.product x
 else bif x.op==18 then c.sU x
 else bif x.op==19 then c.stat x
 else c.two x
def s1 (c:Mc):Mc:=bif c.fetch.fine&&(jc c.aA && !c.fetch.r.s) then c.fetch.vec 8 else c.fetch
def s2 (c:Mc):Mc:=bif c.s1.fine then (c.s1.aB ((c.r.p+2*c.bW)%65536)).doI c.aA c.r.p else c.s1
end Mc
def stepM (c:Cp):Mc:=(Mc.ofC c).s2
def di (c:Cp):Cp:=bif (stepM c).fine then (stepM c).cpu false else ⟨c.r,(stepM c).bx,(stepM c).bl,(stepM c).bm,c.st,false⟩
def eU (c:Cp):Ft:=bif (stepM c).fine then aF else (stepM c).f
end Go.Proofs.YtgikibaajanjiaaGreatDoor.Pl
namespace Go.Proofs.YtgikibaajanjiaaGreatDoor
open Pl
abbrev cpA (c:Cp) (a b e q:Option Addr) (ca cb ce cq:Nat):Array Value:=#[.slice a c.r.xs.length ca,.slice b c.r.ys.length cb,iv c.r.o,iv c.r.p,iv c.r.f,iv c.r.m,.bool c.r.s,.bool c.r.t,.slice e c.bx.length ce,.slice q c.bm cq,.bool c.st,.bool c.ha]
abbrev ftA (f:Ft):Array Value:=#[iv f.v,iv f.pc,iv f.ad,iv f.wo,.bool f.wr]
end Go.Proofs.YtgikibaajanjiaaGreatDoor
namespace Go.Proofs.YtgikibaajanjiaaGreatDoor.Pl
set_option linter.unusedVariables false
structure GM (c:Mc):Prop where
 g:Good c.r
 p0:0<=c.r.p
 p1:c.r.p<=65535
 bx:c.bx.length=512
 ok:aW c.bx=true
 bl:c.bl.length=5*c.bm
 bm:c.bm<=400
 ac:jl c.bl c.bm=true
theorem ve {xs:List Int} {k i:Nat} {v:Int} (h:k<xs.length):el (xs.set k v) i=if k=i then v else el xs i:=by
 unfold el;by_cases e:k=i
 ·subst e;rw [if_pos rfl];simp [h]
 ·rw [if_neg e,List.getElem?_set_ne e]
theorem oO {xs:List Int} {i:Nat} {v:Int} (h:aW xs=true) (v0:0<=v) (v1:v<=255):aW (xs.set i v)=true:=by
 apply qo;intro j hj;rw [List.length_set] at hj;by_cases hi:i<xs.length
 ·rw [ve hi];split
  ·simp [ji];omega
  ·have:=dA h j hj;simp [ji];omega
 ·rw [List.set_eq_of_length_le (by omega)];have:=dA h j hj;simp [ji];omega
theorem UI {xs:List Int} {s:Int} {i:Nat} {v:Int} (h:aW xs=true) (hv:okv s v=true):aW (wr xs s i v)=true:=by
 have:=aO hv
 unfold wr;split
 ·exact oO h (by omega) (by omega)
 ·exact oO (oO h (by omega) (by omega)) (by omega) (by omega)
theorem PD (k s a:Int):0<=code k s a∧code k s a<=3:=by
 unfold code;repeat' split
 all_goals omega
theorem Vr {xs:List Int} {s:Int} {i:Nat} (h:aW xs=true) (hs:s=1∨s=2) (hi:i+s.toNat<=xs.length):okv s (rd xs s i)=true:=by
 rcases hs with rfl|rfl
 ·have:=dA h i (by omega)
  simp [okv,rd,top];omega
 ·have:=dA h i (by omega)
  have:=dA h (i+1) (by omega)
  simp [okv,rd,top];omega
theorem QF {xs:List Int} {k s a v:Int} (h:aW xs=true) (hl:xs.length=512) (ha:dX k s a v=true):okv s (lv xs k s a v)=true:=by
 obtain ⟨hk,hs,v0,⟨a0,a1⟩,_⟩:=qp ha;unfold lv;split
 ·rename_i q;obtain ⟨q1,q2⟩:=qQ q.1 a0;refine Vr h (by omega) ?_;rw [hl];rcases hs with ⟨rfl,_⟩|⟨rfl,_⟩<;>omega
 ·simp only [dX,Bool.and_eq_true] at ha;exact ha.2.1
theorem vg {xs ys:List Int} {i:Nat} (h:i<xs.length):el (xs++ys) i=el xs i:=by unfold el;rw [List.getElem?_append_left h]
theorem qN {xs ys:List Int} {i:Nat} (h:xs.length<=i):el (xs++ys) i=el ys (i-xs.length):=by unfold el;rw [List.getElem?_append_right h]
theorem Gg {ys:List Int} {m:Nat} {k s a v c:Int} (hl:ys.length=5*m) (h:jl ys m=true) (ho:fF k s a v c=true):jl (ys++[k,s,a,v,c]) (m+1)=true:=by
 unfold jl at *;rw [List.all_eq_true] at *;intro i hi;rw [List.mem_range] at hi;by_cases e:i<m
 ·have:=h i (List.mem_range.2 e)
  unfold qY at *;rw [vg (by omega),vg (by omega),vg (by omega),vg (by omega),vg (by omega)];exact this
 ·have e2:i=m:=by omega
  subst e2;unfold qY;rw [qN (by omega),qN (by omega),qN (by omega),qN (by omega),qN (by omega),show i*5-ys.length=0 by omega,show i*5+1-ys.length=1 by omega,show i*5+2-ys.length=2 by omega,show i*5+3-ys.length=3 by omega,show i*5+4-ys.length=4 by omega];exact ho
theorem GM.fZ {c:Mc} (h:GM c) {k s a v:Int} (ha:dX k s a v=true):okv s (c.fZ k s a v)=true:=QF h.ok h.bx ha
theorem GM.acc {c:Mc} (h:GM c) {k s a v:Int} (ha:dX k s a v=true):GM (c.acc k s a v):=by
 have hv:=QF h.ok h.bx ha;have ha2:=ha;simp only [dX,Bool.and_eq_true] at ha2;refine ⟨h.g,h.p0,h.p1,by rw [<-h.bx];exact IJ _ _ _ _ _,?_,RX _ _ _ _ h.bl,VC _ _ _ h.bm,?_⟩
 ·show aW (nb c.bx k s a v)=true
  unfold nb;split
  ·exact UI h.ok ha2.2.1
  ·exact h.ok
 ·show jl (nl c.bx c.bl c.bm k s a v) (nm c.bm k s a)=true
  unfold nl nm;split
  ·rename_i hl;refine Gg h.bl h.ac ?_;have hc:=PD k s a;simp only [logs,Bool.and_eq_true] at hl;simp only [fF,Bool.and_eq_true,decide_eq_true_eq];exact ⟨ha2.1,hv,ha2.2.2.1,hc,hl.2⟩
  ·exact h.ac
theorem Good.eG {r:Rg} (h:Good r) (k:Nat) {v:Int} (v0:0<=v) (v1:v<=65535):Good {r with ys:=r.ys.set k v}:=by
 refine ⟨h.d4,by simp [h.a4],h.dw,fun i hi => ?_,h.o0,h.o1,h.f0,h.f1,h.m0,h.m1⟩;show 0<=el (r.ys.set k v) i∧el (r.ys.set k v) i<=65535;by_cases hk:k<r.ys.length
 ·rw [ve hk];split
  ·exact ⟨v0,v1⟩
  ·exact h.aw i hi
 ·rw [List.set_eq_of_length_le (by omega)];exact h.aw i hi
theorem Good.Nu {r:Rg} (h:Good r) (k:Nat) {v:Int} (v0:0<=v) (v1:v<=65535):Good {r with xs:=r.xs.set k v}:=by
 refine ⟨by simp [h.d4],h.a4,fun i hi => ?_,h.aw,h.o0,h.o1,h.f0,h.f1,h.m0,h.m1⟩;show 0<=el (r.xs.set k v) i∧el (r.xs.set k v) i<=65535;by_cases hk:k<r.xs.length
 ·rw [ve hk];split
  ·exact ⟨v0,v1⟩
  ·exact h.dw i hi
 ·rw [List.set_eq_of_length_le (by omega)];exact h.dw i hi
theorem Good.put {r:Rg} (h:Good r) {z k v:Int} (k0:0<=k) (k1:k<=3) (hv:okv z v=true):Good (kQ r z k v):=by
 have ht:=aO hv;have hd:=h.dw k.toNat (by omega);exact h.Nu k.toNat (by split<;>omega) (by split<;>omega)
theorem Good.place {r:Rg} (h:Good r) {z m k e:Int} (k0:0<=k) (k1:k<=3):Good (bi r z m k e):=by
 unfold bi;split
 ·exact h.eG _ (by omega) (by omega)
 ·split
  ·exact h.eG _ (by omega) (by omega)
  ·exact h
theorem iW {r:Rg} (h:Good r) {z m k e:Int} (k0:0<=k) (k1:k<=3) (e0:0<=e) (e1:e<=65535):0<=bf r z m k e∧bf r z m k e<=65535:=by
 have ha:=h.aw k.toNat (by omega);unfold bf;repeat' split
 all_goals omega
theorem Good.with {r:Rg} (h:Good r) (n:Int):Good (aT r n):=by
 unfold aT;split
 ·exact ⟨h.d4,h.a4,h.dw,h.aw,h.o0,h.o1,by show 0<=n%32;omega,by show n%32<=31;omega,by show 0<=n/32%8;omega,by show n/32%8<=7;omega⟩
 ·have q:=h.eG 3 h.o0 h.o1;have a3:=h.aw 3 (by omega);exact ⟨h.d4,q.a4,h.dw,q.aw,a3.1,a3.2,by show 0<=n%32;omega,by show n%32<=31;omega,by show 0<=n/32%8;omega,by show n/32%8<=7;omega⟩
theorem oW {r:Rg} (h:Good r):0<=status r∧status r<=1023:=by
 have:=h.f0;have:=h.f1;have:=h.m0;have:=h.m1
 unfold status fl1;cases r.s<;>cases r.t<;>simp<;>omega
theorem GM.bg {c:Mc} (h:GM c) {r:Rg} (g:Good r) (hp:0<=r.p∧r.p<=65535):GM (c.bg r):=⟨g,hp.1,hp.2,h.bx,h.ok,h.bl,h.bm,h.ac⟩
theorem GM.aB {c:Mc} (h:GM c) {v:Int} (v0:0<=v) (v1:v<=65535):GM (c.aB v):=⟨⟨h.g.d4,h.g.a4,h.g.dw,h.g.aw,h.g.o0,h.g.o1,h.g.f0,h.g.f1,h.g.m0,h.g.m1⟩,v0,v1,h.bx,h.ok,h.bl,h.bm,h.ac⟩
theorem GM.aH {c:Mc} (h:GM c) {v:Int} (v0:0<=v) (v1:v<=31):GM (c.aH v):=⟨⟨h.g.d4,h.g.a4,h.g.dw,h.g.aw,h.g.o0,h.g.o1,v0,v1,h.g.m0,h.g.m1⟩,h.p0,h.p1,h.bx,h.ok,h.bl,h.bm,h.ac⟩
theorem GM.eG {c:Mc} (h:GM c) (k:Nat) {v:Int} (v0:0<=v) (v1:v<=65535):GM (c.eG k v):=⟨h.g.eG k v0 v1,h.p0,h.p1,h.bx,h.ok,h.bl,h.bm,h.ac⟩
theorem GM.put {c:Mc} (h:GM c) {z k v:Int} (k0:0<=k) (k1:k<=3) (hv:okv z v=true):GM (c.put z k v):=h.bg (h.g.put k0 k1 hv) ⟨h.p0,h.p1⟩
theorem GM.ft {c:Mc} (h:GM c) (f:Ft):GM {c with f:=f}:=⟨h.g,h.p0,h.p1,h.bx,h.ok,h.bl,h.bm,h.ac⟩
theorem qE (r:Rg) (z m k e:Int):(bi r z m k e).p=r.p:=by
 unfold bi;split
 ·rfl
 ·split<;>rfl
theorem MG (r:Rg) (n:Int):(aT r n).p=r.p:=by unfold aT;split<;>rfl
theorem GM.plc {c:Mc} (h:GM c) {z m k e:Int} (k0:0<=k) (k1:k<=3):GM (c.plc z m k e):=h.bg (h.g.place k0 k1) (by rw [qE];exact ⟨h.p0,h.p1⟩)
theorem GM.with {c:Mc} (h:GM c) (n:Int):GM (c.bg (aT c.r n)):=h.bg (h.g.with n) (by rw [MG];exact ⟨h.p0,h.p1⟩)
theorem bZ {c:Mc} (h:GM c):flags c.r.f=true:=by have:=h.g.f0;have:=h.g.f1;simp [flags];omega
theorem fM (s f v:Int) (h:okv s v=true) (hf:flags f=true):0<=dh s f v∧dh s f v<=31:=by
 obtain ⟨f0,f1⟩:=qM hf;obtain ⟨j,hj,rfl⟩:=oG (n:=32) f0 (by omega);unfold dh;rw [if_pos (by rw [h,hf];rfl)];have q:∀j:Nat,j<32->∀a b:Bool,0<=bits .or .i64 (bits .and .i64 (j:Int) 16) (bits .or .i64 (fl a 4) (fl b 8))∧bits .or .i64 (bits .and .i64 (j:Int) 16) (bits .or .i64 (fl a 4) (fl b 8))<=31:=by decide +kernel
 exact q j hj _ _
theorem GM.data {c:Mc} (h:GM c) {z k v:Int} (k0:0<=k) (k1:k<=3) (hv:okv z v=true):GM (c.data z k v):=by
 have q:=fM z c.r.f v hv (bZ h);exact (h.aH q.1 q.2).put k0 k1 hv
theorem iw {c:Mc} (h:GM c) {z k:Int} (hz:z=1∨z=2) (k0:0<=k) (k1:k<=3):okv z (c.low z k)=true:=by
 have hd:=h.g.dw k.toNat (by omega);unfold Mc.low;rcases hz with rfl|rfl
 ·simp [okv,top];omega
 ·simp [okv,top];omega
theorem GM.of {c:Cp} (h:eY c=true) (hl:c.bl.length=5*c.bm) (b:Bool):GM ⟨c.r,c.bx,c.bl,c.bm,b,aF⟩:=by
 simp only [eY,Bool.and_eq_true] at h;obtain ⟨h1,h2,_⟩:=h;obtain ⟨q1,q2,q3,q4⟩:=Bh h2
 have hp:0<=c.r.p∧c.r.p<=65535:=by
  simp only [rE,Bool.and_eq_true,aJ,within,decide_eq_true_eq] at h1;exact h1.2.2.2.1
 exact ⟨OJ h1,hp.1,hp.2,q1,q2,hl,q3,q4⟩
end Go.Proofs.YtgikibaajanjiaaGreatDoor.Pl
namespace Go.Proofs.YtgikibaajanjiaaGreatDoor
open Pl
open Go.RowKit Go.Proofs.Tryz
set_option linter.unusedVariables false
theorem bG {w w':World} {base g n cap size lo hi:Nat} {e:TypeId} {xs:List Value} (h:w.ownsRow base e size (.slice (some (Zt g 0)) n cap) n xs) (k:Kept lo hi w w') (hn:¬(lo<=g∧g<hi)):w'.ownsRow base e size (.slice (some (Zt g 0)) n cap) n xs:=by
 have hlt:=h.lt g rfl;rcases h with ⟨hl,⟨e1,e0⟩|⟨g',cap',cur,e1,hb,hgg,rest⟩⟩
 ·cases e1
 ·cases e1;exact ⟨hl,.inr ⟨g,cap,cur,rfl,hb,(k.block g hlt.2 hn).trans hgg,rest⟩⟩
theorem rW {lo a b:Nat} {w w':World} (h:Kept a b w w') (hl:lo<=a) (hs:lo<=w.heap.size):Below lo w w':=⟨h.os,h.tape,h.output,h.size,fun k hk=>h.block k (by omega) (by omega)⟩
def jD (c:Mc) (gd cd ga ca g1 c1 g2 c2:Nat):Array Value:=#[.slice (some (Zt gd 0)) 4 cd,.slice (some (Zt ga 0)) 4 ca,iv c.r.o,iv c.r.p,iv c.r.f,iv c.r.m,.bool c.r.s,.bool c.r.t,.slice (some (Zt g1 0)) 512 c1,.slice (some (Zt g2 0)) c.bm c2,.bool c.st,iv c.f.v,iv c.f.pc,iv c.f.ad,iv c.f.wo,.bool c.f.wr]
structure MO (w:World) (lo mid hi p gd ga g1 g2 c2:Nat) (xs ys bx bl:List Int) (bm:Nat):Prop where
 d:Own w gd xs
 a:Own w ga ys
 b:Own w g1 bx
 l:w.ownsRow mid 179 5 (.slice (some (Zt g2 0)) bm c2) bm (bl.map (Value.int .i64))
 d0:lo<=gd
 d1:gd<mid
 a0:lo<=ga
 a1:ga<mid
 da:gd≠ga
 p0:mid<=p
 b0:mid<=g1
 pb:p≠g1
 pl:p≠g2
 p1:p<hi
 b1:g1<hi
 bl':g1≠g2
 hh:hi<=w.heap.size
def MB (w:World) (p gd cd ga ca g1 c1 g2 c2:Nat) (c:Mc):Prop:=Blk w p (jD c gd cd ga ca g1 c1 g2 c2) 143
def MAt (w:World) (lo mid hi p g2:Nat) (c:Mc):Prop:=∃gd cd ga ca g1 c1 c2:Nat,MB w p gd cd ga ca g1 c1 g2 c2 c∧MO w lo mid hi p gd ga g1 g2 c2 c.r.xs c.r.ys c.bx c.bl c.bm
theorem MO.kept {w w':World} {lo mid hi p gd ga g1 g2 c2 x y:Nat} {xs ys bx bl:List Int} {bm:Nat} (h:MO w lo mid hi p gd ga g1 g2 c2 xs ys bx bl bm) (k:Kept x y w w') (hd:¬(x<=gd∧gd<y)) (ha:¬(x<=ga∧ga<y)) (h1:¬(x<=g1∧g1<y)) (h2:¬(x<=g2∧g2<y)):MO w' lo mid hi p gd ga g1 g2 c2 xs ys bx bl bm:=
 ⟨h.d.ai k hd,h.a.ai k ha,h.b.ai k h1,bG h.l k h2,h.d0,h.d1,h.a0,h.a1,h.da,h.p0,h.b0,h.pb,h.pl,h.p1,h.b1,h.bl',Nat.le_trans h.hh k.size⟩
theorem MO.g2 {w:World} {lo mid hi p gd ga g1 g2 c2:Nat} {xs ys bx bl:List Int} {bm:Nat} (h:MO w lo mid hi p gd ga g1 g2 c2 xs ys bx bl bm):mid<=g2∧g2<w.heap.size:=h.l.lt g2 rfl
theorem MO.own {w w':World} {lo mid hi p gd ga g1 g2 c2:Nat} {xs ys bx bl:List Int} {bm:Nat} (h:MO w lo mid hi p gd ga g1 g2 c2 xs ys bx bl bm) (k:Kept p (p+1) w w'):MO w' lo mid hi p gd ga g1 g2 c2 xs ys bx bl bm:=by
 have:=h.d1;have:=h.a1;have:=h.p0;have:=h.pb;have:=h.pl
 exact h.kept k (by omega) (by omega) (by omega) (by omega)
theorem MO.any {w w':World} {lo mid hi p gd ga g1 g2 c2:Nat} {xs ys bx bl:List Int} {bm:Nat} (h:MO w lo mid hi p gd ga g1 g2 c2 xs ys bx bl bm) (k:Kept 0 0 w w'):MO w' lo mid hi p gd ga g1 g2 c2 xs ys bx bl bm:=h.kept k (by omega) (by omega) (by omega) (by omega)
theorem MO.Nu {w:World} {lo mid hi p gd ga g1 g2 c2:Nat} {xs ys bx bl:List Int} {bm:Nat} (h:MO w lo mid hi p gd ga g1 g2 c2 xs ys bx bl bm) (k:Nat) (v:Int):MO (w.setCell ⟨gd,k,none⟩ (iv v)) lo mid hi p gd ga g1 g2 c2 (xs.set k v) ys bx bl bm:=by
 have:=h.d1;have:=h.a1;have:=h.p0;have:=h.pb;have:=h.pl;have:=h.g2;have:=h.b0;have:=h.da
 exact ⟨h.d.uB v,h.a.setOther _ _ _ (by omega),h.b.setOther _ _ _ (by omega),h.l.kept (grownBy_set _ _ _ _) (.inr (fun e=>by have h3:g2=gd:=Option.some.inj e;omega)),h.d0,h.d1,h.a0,h.a1,h.da,h.p0,h.b0,h.pb,h.pl,h.p1,h.b1,h.bl',by simpa using h.hh⟩
theorem MO.eG {w:World} {lo mid hi p gd ga g1 g2 c2:Nat} {xs ys bx bl:List Int} {bm:Nat} (h:MO w lo mid hi p gd ga g1 g2 c2 xs ys bx bl bm) (k:Nat) (v:Int):MO (w.setCell ⟨ga,k,none⟩ (iv v)) lo mid hi p gd ga g1 g2 c2 xs (ys.set k v) bx bl bm:=by
 have:=h.d1;have:=h.a1;have:=h.p0;have:=h.pb;have:=h.pl;have:=h.g2;have:=h.b0;have:=h.da
 exact ⟨h.d.setOther _ _ _ (by omega),h.a.uB v,h.b.setOther _ _ _ (by omega),h.l.kept (grownBy_set _ _ _ _) (.inr (fun e=>by have h3:g2=ga:=Option.some.inj e;omega)),h.d0,h.d1,h.a0,h.a1,h.da,h.p0,h.b0,h.pb,h.pl,h.p1,h.b1,h.bl',by simpa using h.hh⟩
theorem MO.reg {w:World} {lo mid hi p gd ga g1 g2 c2:Nat} {r:Rg} {bx bl:List Int} {bm:Nat} (h:MO w lo mid hi p gd ga g1 g2 c2 r.xs r.ys bx bl bm):fG w lo mid r (some (Zt gd 0)) (some (Zt ga 0)):=
 ⟨.inr ⟨gd,rfl,h.d0,h.d1,h.d⟩,.inr ⟨ga,rfl,h.a0,h.a1,h.a⟩,fun g e q=>h.da (by have e1:gd=g:=Option.some.inj e;have e2:ga=g:=Option.some.inj q;omega)⟩
theorem uy {w:World} {lo hi g:Nat} {xs:List Int} (h:aP w lo hi (some (Zt g 0)) xs):Own w g xs:=by
 rcases h with ⟨e,_⟩|⟨g',e,_,_,ho⟩
 ·cases e
 ·cases e;exact ho
theorem MO.regs {w w':World} {lo mid hi p gd ga g1 g2 c2:Nat} {xs ys bx bl:List Int} {bm:Nat} {r:Rg} (h:MO w lo mid hi p gd ga g1 g2 c2 xs ys bx bl bm) (hr:fG w' lo mid r (some (Zt gd 0)) (some (Zt ga 0))) (k:Kept lo mid w w'):MO w' lo mid hi p gd ga g1 g2 c2 r.xs r.ys bx bl bm:=by
 have:=h.p0;have:=h.g2;have:=h.b0
 exact ⟨uy hr.1,uy hr.2.1,h.b.ai k (by omega),bG h.l k (by omega),h.d0,h.d1,h.a0,h.a1,h.da,h.p0,h.b0,h.pb,h.pl,h.p1,h.b1,h.bl',Nat.le_trans h.hh k.size⟩
theorem MB.regs {w w':World} {lo mid p gd cd ga ca g1 c1 g2 c2:Nat} {c:Mc} (h:MB w p gd cd ga ca g1 c1 g2 c2 c) (k:Kept lo mid w w') (hp:mid<=p):MB w' p gd cd ga ca g1 c1 g2 c2 c:=Blk.kept h k (by omega)
theorem MB.any {w w':World} {p gd cd ga ca g1 c1 g2 c2:Nat} {c:Mc} (h:MB w p gd cd ga ca g1 c1 g2 c2 c) (k:Kept 0 0 w w'):MB w' p gd cd ga ca g1 c1 g2 c2 c:=Blk.ae h k
theorem MB.cells {w:World} {p gd cd ga ca g1 c1 g2 c2:Nat} {c:Mc} (h:MB w p gd cd ga ca g1 c1 g2 c2 c) :
  w.cell? (Zt p 0)=some (.slice (some (Zt gd 0)) 4 cd)∧w.cell? (Zt p 1)=some (.slice (some (Zt ga 0)) 4 ca)∧w.cell? (Zt p 2)=some (iv c.r.o)∧w.cell? (Zt p 3)=some (iv c.r.p)∧w.cell? (Zt p 4)=some (iv c.r.f)∧w.cell? (Zt p 5)=some (iv c.r.m)∧w.cell? (Zt p 6)=some (.bool c.r.s)∧w.cell? (Zt p 7)=some (.bool c.r.t)∧
  w.cell? (Zt p 8)=some (.slice (some (Zt g1 0)) 512 c1)∧w.cell? (Zt p 9)=some (.slice (some (Zt g2 0)) c.bm c2)∧w.cell? (Zt p 10)=some (.bool c.st)∧w.cell? (Zt p 11)=some (iv c.f.v)∧w.cell? (Zt p 12)=some (iv c.f.pc)∧w.cell? (Zt p 13)=some (iv c.f.ad)∧w.cell? (Zt p 14)=some (iv c.f.wo)∧w.cell? (Zt p 15)=some (.bool c.f.wr):=
 ⟨Blk.cell (i:=0) h rfl,Blk.cell (i:=1) h rfl,Blk.cell (i:=2) h rfl,Blk.cell (i:=3) h rfl,Blk.cell (i:=4) h rfl,Blk.cell (i:=5) h rfl,Blk.cell (i:=6) h rfl,Blk.cell (i:=7) h rfl,Blk.cell (i:=8) h rfl,Blk.cell (i:=9) h rfl,Blk.cell (i:=10) h rfl,Blk.cell (i:=11) h rfl,Blk.cell (i:=12) h rfl,Blk.cell (i:=13) h rfl,Blk.cell (i:=14) h rfl,Blk.cell (i:=15) h rfl⟩
theorem MB.frozen {w:World} {p gd cd ga ca g1 c1 g2 c2:Nat} {c:Mc} (h:MB w p gd cd ga ca g1 c1 g2 c2 c) (i:Nat):w.frozen? ⟨p,i,none⟩=false:=Blk.frozen h i
theorem MB.lt {w:World} {p gd cd ga ca g1 c1 g2 c2:Nat} {c:Mc} (h:MB w p gd cd ga ca g1 c1 g2 c2 c):p<w.heap.size:=Blk.lt h
theorem QB (a0 a1 a2 a3 a4 a5 a6 a7 a8 a9 a10 a11 a12 a13 a14 a15 v:Value):(#[a0,a1,a2,a3,a4,a5,a6,a7,a8,a9,a10,a11,a12,a13,a14,a15]:Array Value).setIfInBounds 0 v=#[v,a1,a2,a3,a4,a5,a6,a7,a8,a9,a10,a11,a12,a13,a14,a15]:=rfl
theorem QA (a0 a1 a2 a3 a4 a5 a6 a7 a8 a9 a10 a11 a12 a13 a14 a15 v:Value):(#[a0,a1,a2,a3,a4,a5,a6,a7,a8,a9,a10,a11,a12,a13,a14,a15]:Array Value).setIfInBounds 1 v=#[a0,v,a2,a3,a4,a5,a6,a7,a8,a9,a10,a11,a12,a13,a14,a15]:=rfl
theorem Qz (a0 a1 a2 a3 a4 a5 a6 a7 a8 a9 a10 a11 a12 a13 a14 a15 v:Value):(#[a0,a1,a2,a3,a4,a5,a6,a7,a8,a9,a10,a11,a12,a13,a14,a15]:Array Value).setIfInBounds 2 v=#[a0,a1,v,a3,a4,a5,a6,a7,a8,a9,a10,a11,a12,a13,a14,a15]:=rfl
theorem Ia (a0 a1 a2 a3 a4 a5 a6 a7 a8 a9 a10 a11 a12 a13 a14 a15 v:Value):(#[a0,a1,a2,a3,a4,a5,a6,a7,a8,a9,a10,a11,a12,a13,a14,a15]:Array Value).setIfInBounds 3 v=#[a0,a1,a2,v,a4,a5,a6,a7,a8,a9,a10,a11,a12,a13,a14,a15]:=rfl
theorem H9 (a0 a1 a2 a3 a4 a5 a6 a7 a8 a9 a10 a11 a12 a13 a14 a15 v:Value):(#[a0,a1,a2,a3,a4,a5,a6,a7,a8,a9,a10,a11,a12,a13,a14,a15]:Array Value).setIfInBounds 4 v=#[a0,a1,a2,a3,v,a5,a6,a7,a8,a9,a10,a11,a12,a13,a14,a15]:=rfl
theorem Qy (a0 a1 a2 a3 a4 a5 a6 a7 a8 a9 a10 a11 a12 a13 a14 a15 v:Value):(#[a0,a1,a2,a3,a4,a5,a6,a7,a8,a9,a10,a11,a12,a13,a14,a15]:Array Value).setIfInBounds 5 v=#[a0,a1,a2,a3,a4,v,a6,a7,a8,a9,a10,a11,a12,a13,a14,a15]:=rfl
theorem Qx (a0 a1 a2 a3 a4 a5 a6 a7 a8 a9 a10 a11 a12 a13 a14 a15 v:Value):(#[a0,a1,a2,a3,a4,a5,a6,a7,a8,a9,a10,a11,a12,a13,a14,a15]:Array Value).setIfInBounds 6 v=#[a0,a1,a2,a3,a4,a5,v,a7,a8,a9,a10,a11,a12,a13,a14,a15]:=rfl
theorem Qw (a0 a1 a2 a3 a4 a5 a6 a7 a8 a9 a10 a11 a12 a13 a14 a15 v:Value):(#[a0,a1,a2,a3,a4,a5,a6,a7,a8,a9,a10,a11,a12,a13,a14,a15]:Array Value).setIfInBounds 7 v=#[a0,a1,a2,a3,a4,a5,a6,v,a8,a9,a10,a11,a12,a13,a14,a15]:=rfl
theorem RG (a0 a1 a2 a3 a4 a5 a6 a7 a8 a9 a10 a11 a12 a13 a14 a15 v:Value):(#[a0,a1,a2,a3,a4,a5,a6,a7,a8,a9,a10,a11,a12,a13,a14,a15]:Array Value).setIfInBounds 10 v=#[a0,a1,a2,a3,a4,a5,a6,a7,a8,a9,v,a11,a12,a13,a14,a15]:=rfl
theorem RF (a0 a1 a2 a3 a4 a5 a6 a7 a8 a9 a10 a11 a12 a13 a14 a15 v:Value):(#[a0,a1,a2,a3,a4,a5,a6,a7,a8,a9,a10,a11,a12,a13,a14,a15]:Array Value).setIfInBounds 11 v=#[a0,a1,a2,a3,a4,a5,a6,a7,a8,a9,a10,v,a12,a13,a14,a15]:=rfl
theorem Rz (a0 a1 a2 a3 a4 a5 a6 a7 a8 a9 a10 a11 a12 a13 a14 a15 v:Value):(#[a0,a1,a2,a3,a4,a5,a6,a7,a8,a9,a10,a11,a12,a13,a14,a15]:Array Value).setIfInBounds 12 v=#[a0,a1,a2,a3,a4,a5,a6,a7,a8,a9,a10,a11,v,a13,a14,a15]:=rfl
theorem Ry (a0 a1 a2 a3 a4 a5 a6 a7 a8 a9 a10 a11 a12 a13 a14 a15 v:Value):(#[a0,a1,a2,a3,a4,a5,a6,a7,a8,a9,a10,a11,a12,a13,a14,a15]:Array Value).setIfInBounds 13 v=#[a0,a1,a2,a3,a4,a5,a6,a7,a8,a9,a10,a11,a12,v,a14,a15]:=rfl
theorem Rx (a0 a1 a2 a3 a4 a5 a6 a7 a8 a9 a10 a11 a12 a13 a14 a15 v:Value):(#[a0,a1,a2,a3,a4,a5,a6,a7,a8,a9,a10,a11,a12,a13,a14,a15]:Array Value).setIfInBounds 14 v=#[a0,a1,a2,a3,a4,a5,a6,a7,a8,a9,a10,a11,a12,a13,v,a15]:=rfl
theorem Rw (a0 a1 a2 a3 a4 a5 a6 a7 a8 a9 a10 a11 a12 a13 a14 a15 v:Value):(#[a0,a1,a2,a3,a4,a5,a6,a7,a8,a9,a10,a11,a12,a13,a14,a15]:Array Value).setIfInBounds 15 v=#[a0,a1,a2,a3,a4,a5,a6,a7,a8,a9,a10,a11,a12,a13,a14,v]:=rfl
theorem MB.laid {w:World} {p gd cd ga ca g1 c1 g2 c2:Nat} {c:Mc} (h:MB w p gd cd ga ca g1 c1 g2 c2 c) (r:Rg):MB ((((((((w.setCell (Zt p 0) (.slice (some (Zt gd 0)) 4 cd)).setCell (Zt p 1) (.slice (some (Zt ga 0)) 4 ca)).setCell (Zt p 2) (iv r.o)).setCell (Zt p 3) (iv r.p)).setCell (Zt p 4) (iv r.f)).setCell (Zt p 5) (iv r.m)).setCell (Zt p 6) (.bool r.s)).setCell (Zt p 7) (.bool r.t)) p gd cd ga ca g1 c1 g2 c2 (c.bg r):=
 by
 have q:=(((((((Blk.set h 0 (.slice (some (Zt gd 0)) 4 cd)).set 1 (.slice (some (Zt ga 0)) 4 ca)).set 2 (iv r.o)).set 3 (iv r.p)).set 4 (iv r.f)).set 5 (iv r.m)).set 6 (.bool r.s)).set 7 (.bool r.t);unfold jD at q;rw [QB,QA,Qz,Ia,H9,Qy,Qx,Qw] at q;exact q
theorem MB.kZ {w:World} {p:Nat} (v0 v1 v2 v3 v4 v5 v6 v7:Value):Kept p (p+1) w ((((((((w.setCell (Zt p 0) v0).setCell (Zt p 1) v1).setCell (Zt p 2) v2).setCell (Zt p 3) v3).setCell (Zt p 4) v4).setCell (Zt p 5) v5).setCell (Zt p 6) v6).setCell (Zt p 7) v7):=
 af (af (af (af (af (af (af (af (Kept.refl _ _ _) _ _ _ (.inl (by omega))) _ _ _ (.inl (by omega))) _ _ _ (.inl (by omega))) _ _ _ (.inl (by omega))) _ _ _ (.inl (by omega))) _ _ _ (.inl (by omega))) _ _ _ (.inl (by omega))) _ _ _ (.inl (by omega))
theorem MB.cP {w:World} {p gd cd ga ca g1 c1 g2 c2:Nat} {c:Mc} (h:MB w p gd cd ga ca g1 c1 g2 c2 c) (v:Int):MB (w.setCell (Zt p 3) (iv v)) p gd cd ga ca g1 c1 g2 c2 (c.aB v):=by
 have q:=Blk.set h 3 (iv v);unfold jD at q;rw [Ia] at q;exact q
theorem MB.cF {w:World} {p gd cd ga ca g1 c1 g2 c2:Nat} {c:Mc} (h:MB w p gd cd ga ca g1 c1 g2 c2 c) (v:Int):MB (w.setCell (Zt p 4) (iv v)) p gd cd ga ca g1 c1 g2 c2 (c.aH v):=by
 have q:=Blk.set h 4 (iv v);unfold jD at q;rw [H9] at q;exact q
theorem MB.cSt {w:World} {p gd cd ga ca g1 c1 g2 c2:Nat} {c:Mc} (h:MB w p gd cd ga ca g1 c1 g2 c2 c) (v:Bool):MB (w.setCell (Zt p 10) (.bool v)) p gd cd ga ca g1 c1 g2 c2 ({c with st:=v}):=by
 have q:=Blk.set h 10 (.bool v);unfold jD at q;rw [RG] at q;exact q
theorem MB.cV {w:World} {p gd cd ga ca g1 c1 g2 c2:Nat} {c:Mc} (h:MB w p gd cd ga ca g1 c1 g2 c2 c) (v:Int):MB (w.setCell (Zt p 11) (iv v)) p gd cd ga ca g1 c1 g2 c2 ({c with f:={c.f with v:=v}}):=by
 have q:=Blk.set h 11 (iv v);unfold jD at q;rw [RF] at q;exact q
theorem MB.cPc {w:World} {p gd cd ga ca g1 c1 g2 c2:Nat} {c:Mc} (h:MB w p gd cd ga ca g1 c1 g2 c2 c) (v:Int):MB (w.setCell (Zt p 12) (iv v)) p gd cd ga ca g1 c1 g2 c2 ({c with f:={c.f with pc:=v}}):=by
 have q:=Blk.set h 12 (iv v);unfold jD at q;rw [Rz] at q;exact q
theorem MB.cAd {w:World} {p gd cd ga ca g1 c1 g2 c2:Nat} {c:Mc} (h:MB w p gd cd ga ca g1 c1 g2 c2 c) (v:Int):MB (w.setCell (Zt p 13) (iv v)) p gd cd ga ca g1 c1 g2 c2 ({c with f:={c.f with ad:=v}}):=by
 have q:=Blk.set h 13 (iv v);unfold jD at q;rw [Ry] at q;exact q
theorem MB.cWo {w:World} {p gd cd ga ca g1 c1 g2 c2:Nat} {c:Mc} (h:MB w p gd cd ga ca g1 c1 g2 c2 c) (v:Int):MB (w.setCell (Zt p 14) (iv v)) p gd cd ga ca g1 c1 g2 c2 ({c with f:={c.f with wo:=v}}):=by
 have q:=Blk.set h 14 (iv v);unfold jD at q;rw [Rx] at q;exact q
theorem MB.cWr {w:World} {p gd cd ga ca g1 c1 g2 c2:Nat} {c:Mc} (h:MB w p gd cd ga ca g1 c1 g2 c2 c) (v:Bool):MB (w.setCell (Zt p 15) (.bool v)) p gd cd ga ca g1 c1 g2 c2 ({c with f:={c.f with wr:=v}}):=by
 have q:=Blk.set h 15 (.bool v);unfold jD at q;rw [Rw] at q;exact q
theorem MB.rG {w:World} {p gd cd ga ca g1 c1 g2 c2:Nat} {c:Mc} (h:MB w p gd cd ga ca g1 c1 g2 c2 c) (b i:Nat) (v:Value) (hn:p≠b):MB (w.setCell ⟨b,i,none⟩ v) p gd cd ga ca g1 c1 g2 c2 c:=Blk.other h b i v hn
theorem ak (w:World) (p i:Nat) (v:Value):Kept p (p+1) w (w.setCell ⟨p,i,none⟩ v):=af (Kept.refl _ _ _) _ _ _ (.inl (by omega))
theorem Kept.one {w w':World} {p:Nat} (h:Kept p (p+1) w w') (i:Nat) (v:Value):Kept p (p+1) w (w'.setCell ⟨p,i,none⟩ v):=af h _ _ _ (.inl (by omega))
theorem MAt.any {w w':World} {lo mid hi p g2:Nat} {c:Mc} (h:MAt w lo mid hi p g2 c) (k:Kept 0 0 w w'):MAt w' lo mid hi p g2 c:=by
 obtain ⟨gd,cd,ga,ca,g1,c1,c2,hB,hO⟩:=h;exact ⟨gd,cd,ga,ca,g1,c1,c2,hB.any k,hO.any k⟩
theorem MAt.drew {w:World} {lo mid hi p g2:Nat} {c:Mc} (h:MAt w lo mid hi p g2 c):MAt w.drew lo mid hi p g2 c:=h.any (ah (Kept.refl _ _ _))
theorem MAt.lo {w:World} {lo mid hi p g2:Nat} {c:Mc} (h:MAt w lo mid hi p g2 c):lo<=mid∧mid<=w.heap.size∧mid<=p∧p<hi∧p<w.heap.size∧g2<w.heap.size∧hi<=w.heap.size:=by
 obtain ⟨gd,cd,ga,ca,g1,c1,c2,hB,hO⟩:=h;have:=hO.d0;have:=hO.d1;have:=hO.p0;have:=hB.lt;have:=hO.p1;have:=hO.g2;have:=hO.hh;omega
theorem MAt.laid {W:World} {lo mid hi p gd cd ga ca g1 c1 g2 c2:Nat} {c:Mc} {r:Rg} (hB:MB W p gd cd ga ca g1 c1 g2 c2 c) (hO:MO W lo mid hi p gd ga g1 g2 c2 r.xs r.ys c.bx c.bl c.bm):MAt ((((((((W.setCell (Zt p 0) (.slice (some (Zt gd 0)) 4 cd)).setCell (Zt p 1) (.slice (some (Zt ga 0)) 4 ca)).setCell (Zt p 2) (iv r.o)).setCell (Zt p 3) (iv r.p)).setCell (Zt p 4) (iv r.f)).setCell (Zt p 5) (iv r.m)).setCell (Zt p 6) (.bool r.s)).setCell (Zt p 7) (.bool r.t)) lo mid hi p g2 (c.bg r):=
 ⟨gd,cd,ga,ca,g1,c1,c2,hB.laid r,hO.own (MB.kZ _ _ _ _ _ _ _ _)⟩
theorem jf {lo hi p g g':Nat} {w W:World} (h:Since w lo hi g W g') (hp:(lo<=p∧p<hi)∨w.heap.size<=p) (v0 v1 v2 v3 v4 v5 v6 v7:Value):Since w lo hi g ((((((((W.setCell (Zt p 0) v0).setCell (Zt p 1) v1).setCell (Zt p 2) v2).setCell (Zt p 3) v3).setCell (Zt p 4) v4).setCell (Zt p 5) v5).setCell (Zt p 6) v6).setCell (Zt p 7) v7) g':=
 (((((((h.set p 0 _ hp).set p 1 _ hp).set p 2 _ hp).set p 3 _ hp).set p 4 _ hp).set p 5 _ hp).set p 6 _ hp).set p 7 _ hp
theorem MB.past {w w':World} {p q gd cd ga ca g1 c1 g2 c2:Nat} {c:Mc} (h:MB w p gd cd ga ca g1 c1 g2 c2 c) (k:Kept q (q+1) w w') (hn:p<q):MB w' p gd cd ga ca g1 c1 g2 c2 c:=Blk.kept h k (by omega)
theorem MO.past {w w':World} {lo mid hi p q gd ga g1 g2 c2:Nat} {xs ys bx bl:List Int} {bm:Nat} (h:MO w lo mid hi p gd ga g1 g2 c2 xs ys bx bl bm) (k:Kept q (q+1) w w') (h0:mid<=q) (h1:g1<q) (h2:g2<q):MO w' lo mid hi p gd ga g1 g2 c2 xs ys bx bl bm:=by
 have:=h.d1;have:=h.a1
 exact h.kept k (by omega) (by omega) (by omega) (by omega)
def jA (r:Rg) (gd cd ga ca:Nat):Value:=.agg #[.slice (some (Zt gd 0)) 4 cd,.slice (some (Zt ga 0)) 4 ca,iv r.o,iv r.p,iv r.f,iv r.m,.bool r.s,.bool r.t]
theorem yI (w:World) (lo mid gd cd ga ca:Nat) (r:Rg) (z k v:Int) (hr:fG w lo mid r (some (Zt gd 0)) (some (Zt ga 0))) (hh:mid<=w.heap.size) (hg:Pl.Good r) (k0:0<=k) (k1:k<=3) (hv:okv z v=true) :
  Calls prog 157 #[jA r gd cd ga ca,iv z,iv k,iv v] w fun e w'=>e=.returned (jA (kQ r z k v) gd cd ga ca)∧fG w' lo mid (kQ r z k v) (some (Zt gd 0)) (some (Zt ga 0))∧Kept lo mid w w':=by
 have h:=Nq w lo mid r _ _ cd ca z k v hr hh hg (by have:=aO hv;omega) k0 k1 hv;rw [hg.d4,hg.a4,(hg.put k0 k1 hv).d4,(hg.put k0 k1 hv).a4] at h;exact h
theorem BU (w:World) (lo mid gd cd ga ca:Nat) (r:Rg) (n:Int) (hr:fG w lo mid r (some (Zt gd 0)) (some (Zt ga 0))) (hh:mid<=w.heap.size) (hg:Pl.Good r) (h0:0<=n) (h1:n<=1023) :
  Calls prog 162 #[jA r gd cd ga ca,iv n] w fun e w'=>e=.returned (jA (aT r n) gd cd ga ca)∧fG w' lo mid (aT r n) (some (Zt gd 0)) (some (Zt ga 0))∧Kept lo mid w w':=by
 have h:=G5 w lo mid r _ _ cd ca n hr hh hg h0 h1;rw [hg.d4,hg.a4,(hg.with n).d4,(hg.with n).a4] at h;exact h
theorem Ii (w:World) (lo mid gd cd ga ca:Nat) (r:Rg) (z m k e:Int) (hr:fG w lo mid r (some (Zt gd 0)) (some (Zt ga 0))) (hh:mid<=w.heap.size) (hg:Pl.Good r) (k0:0<=k) (k1:k<=3) (e0:0<=e) (e1:e<=65535) (hm:m=2∨m=3∨m=4∨m=5∨m=6) :
  Calls prog 204 #[jA r gd cd ga ca,iv z,.agg #[iv m,iv k,iv e]] w fun e' w'=>e'=.returned (.tuple #[jA (bi r z m k e) gd cd ga ca,iv (bf r z m k e)])∧fG w' lo mid (bi r z m k e) (some (Zt gd 0)) (some (Zt ga 0))∧Kept lo mid w w':=by
 have h:=En w lo mid r _ _ cd ca z m k e hr hh hg k0 k1 e0 e1 hm;rw [hg.d4,hg.a4,(hg.place k0 k1).d4,(hg.place k0 k1).a4] at h;exact h
theorem tJ (w:World) (lo mid hi p gd cd ga ca g1 c1 g2 c2:Nat) (c:Mc) (k s a v:Int) (hB:MB w p gd cd ga ca g1 c1 g2 c2 c) (hO:MO w lo mid hi p gd ga g1 g2 c2 c.r.xs c.r.ys c.bx c.bl c.bm) (G:GM c) (hask:dX k s a v=true) :
  Calls prog 235 #[.pointer (some (Zt p 8)),iv k,iv s,iv a,iv v] w fun e w'=>∃g3 c3:Nat,e=.returned (.tuple #[iv (c.fZ k s a v),iv (Pl.code k s a)])∧
   MB w' p gd cd ga ca g1 c1 g3 c3 {c.acc k s a v with f:=c.f}∧MO w' lo mid hi p gd ga g1 g3 c3 c.r.xs c.r.ys (c.acc k s a v).bx (c.acc k s a v).bl (c.acc k s a v).bm∧Since w lo hi g2 w' g3:=by
 refine (Yp w p mid g1 g2 _ _ _ _ _ _ _ _ _ _ _ _ _ _ c.bx c.bl c1 c.bm c2 k s a v hB hO.b G.bx G.ok hO.l hO.p0 hO.b0 hO.pb hO.pl hO.bl' G.bm hask).mono ?_;rintro e w' ⟨g3,c3,rfl,hB2,hb2,hl2,n1,kk⟩;have q1:=hO.d1;have q2:=hO.a1;have q3:=hO.d0;have q4:=hB.lt;have q5:=hO.p0;have q6:=hO.p1;have q7:=hO.b1;have q8:=hO.b0;have q9:=hO.g2;have qa:=hO.pb;have qb:=hO.pl;have qc:=hO.bl';have qd:=hO.b.lt (by rw [G.bx];decide);exact ⟨g3,c3,rfl,hB2,⟨kk.own hO.d (by omega),kk.own hO.a (by omega),hb2,hl2,hO.d0,hO.d1,hO.a0,hO.a1,hO.da,hO.p0,hO.b0,hO.pb,by omega,hO.p1,hO.b1,by omega,Nat.le_trans hO.hh kk.size⟩,n1,kk.wide (fun i _ h=>by unfold own;omega)⟩
def mM (x:Pl.In):Array Value:=(inX x)
theorem aU {W:World} {b:Nat} {x:Pl.In} {ty:TypeId} (h:Blk W b (mM x) ty):W.cell? (Zt b 0)=some (iv x.op)∧W.cell? (Zt b 1)=some (iv x.z)∧W.cell? (Zt b 2)=some (iv x.r)∧W.cell? (Zt b 3)=some (iv x.m)∧W.cell? (Zt b 4)=some (iv x.k)∧W.cell? (Zt b 5)=some (iv x.e)∧W.cell? (Zt b 6)=some (iv x.s):=
 ⟨h.cell (i:=0) rfl,h.cell (i:=1) rfl,h.cell (i:=2) rfl,h.cell (i:=3) rfl,h.cell (i:=4) rfl,h.cell (i:=5) rfl,h.cell (i:=6) rfl⟩
theorem wH (w:World) (b:Nat) (v0 v1 v2 v3 v4 v5 v6:Value):Kept b (b+1) w (((((((w.setCell (Zt b 0) v0).setCell (Zt b 1) v1).setCell (Zt b 2) v2).setCell (Zt b 3) v3).setCell (Zt b 4) v4).setCell (Zt b 5) v5).setCell (Zt b 6) v6):=
 ((((((ak w b 0 v0).one 1 v1).one 2 v2).one 3 v3).one 4 v4).one 5 v5).one 6 v6
theorem rD {lo hi b g g':Nat} {w W:World} (h:Since w lo hi g W g') (hp:w.heap.size<=b) (v0 v1 v2 v3 v4 v5 v6:Value):Since w lo hi g (((((((W.setCell (Zt b 0) v0).setCell (Zt b 1) v1).setCell (Zt b 2) v2).setCell (Zt b 3) v3).setCell (Zt b 4) v4).setCell (Zt b 5) v5).setCell (Zt b 6) v6) g':=
 ((((((h.set b 0 _ (.inr hp)).set b 1 _ (.inr hp)).set b 2 _ (.inr hp)).set b 3 _ (.inr hp)).set b 4 _ (.inr hp)).set b 5 _ (.inr hp)).set b 6 _ (.inr hp)
theorem MAt.past {w w':World} {lo mid hi p g2 b:Nat} {c:Mc} (h:MAt w lo mid hi p g2 c) (k:Kept b (b+1) w w') (hb:hi<=b) (hn:b≠g2):MAt w' lo mid hi p g2 c:=by
 obtain ⟨gd,cd,ga,ca,g1,c1,c2,hB,hO⟩:=h;have:=hO.d1;have:=hO.a1;have:=hO.p0;have:=hO.p1;have:=hO.b1;exact ⟨gd,cd,ga,ca,g1,c1,c2,Blk.kept hB k (by omega),hO.kept k (by omega) (by omega) (by omega) (by omega)⟩
theorem MAt.cell {w w':World} {lo mid hi p g2:Nat} {c c':Mc} (h:MAt w lo mid hi p g2 c) (k:Kept p (p+1) w w') (hB:∀gd cd ga ca g1 c1 c2:Nat,MB w p gd cd ga ca g1 c1 g2 c2 c->MB w' p gd cd ga ca g1 c1 g2 c2 c') (e1:c'.r.xs=c.r.xs) (e2:c'.r.ys=c.r.ys) (e3:c'.bx=c.bx) (e4:c'.bl=c.bl) (e5:c'.bm=c.bm):MAt w' lo mid hi p g2 c':=by
 obtain ⟨gd,cd,ga,ca,g1,c1,c2,hB0,hO⟩:=h;refine ⟨gd,cd,ga,ca,g1,c1,c2,hB _ _ _ _ _ _ _ hB0,?_⟩;rw [e1,e2,e3,e4,e5];exact hO.own k
theorem MAt.cP {w:World} {lo mid hi p g2:Nat} {c:Mc} (h:MAt w lo mid hi p g2 c) (v:Int):MAt (w.setCell (Zt p 3) (iv v)) lo mid hi p g2 (c.aB v):=h.cell (ak _ _ _ _) (fun _ _ _ _ _ _ _ q=>q.cP v) rfl rfl rfl rfl rfl
theorem MAt.cF {w:World} {lo mid hi p g2:Nat} {c:Mc} (h:MAt w lo mid hi p g2 c) (v:Int):MAt (w.setCell (Zt p 4) (iv v)) lo mid hi p g2 (c.aH v):=h.cell (ak _ _ _ _) (fun _ _ _ _ _ _ _ q=>q.cF v) rfl rfl rfl rfl rfl
theorem MAt.cSt {w:World} {lo mid hi p g2:Nat} {c:Mc} (h:MAt w lo mid hi p g2 c) (v:Bool):MAt (w.setCell (Zt p 10) (.bool v)) lo mid hi p g2 ({c with st:=v}):=h.cell (ak _ _ _ _) (fun _ _ _ _ _ _ _ q=>q.cSt v) rfl rfl rfl rfl rfl
theorem MAt.cV {w:World} {lo mid hi p g2:Nat} {c:Mc} (h:MAt w lo mid hi p g2 c) (v:Int):MAt (w.setCell (Zt p 11) (iv v)) lo mid hi p g2 ({c with f:={c.f with v:=v}}):=h.cell (ak _ _ _ _) (fun _ _ _ _ _ _ _ q=>q.cV v) rfl rfl rfl rfl rfl
theorem MAt.cPc {w:World} {lo mid hi p g2:Nat} {c:Mc} (h:MAt w lo mid hi p g2 c) (v:Int):MAt (w.setCell (Zt p 12) (iv v)) lo mid hi p g2 ({c with f:={c.f with pc:=v}}):=h.cell (ak _ _ _ _) (fun _ _ _ _ _ _ _ q=>q.cPc v) rfl rfl rfl rfl rfl
theorem MAt.cWo {w:World} {lo mid hi p g2:Nat} {c:Mc} (h:MAt w lo mid hi p g2 c) (v:Int):MAt (w.setCell (Zt p 14) (iv v)) lo mid hi p g2 ({c with f:={c.f with wo:=v}}):=h.cell (ak _ _ _ _) (fun _ _ _ _ _ _ _ q=>q.cWo v) rfl rfl rfl rfl rfl
section
variable {w:World} {p gd cd ga ca g1 c1 g2 c2:Nat} {c:Mc}
theorem MB.k0 (h:MB w p gd cd ga ca g1 c1 g2 c2 c):w.cell? (Zt p 0)=some (.slice (some (Zt gd 0)) 4 cd):=Blk.cell h rfl
theorem MB.k1 (h:MB w p gd cd ga ca g1 c1 g2 c2 c):w.cell? (Zt p 1)=some (.slice (some (Zt ga 0)) 4 ca):=Blk.cell h rfl
theorem MB.k2 (h:MB w p gd cd ga ca g1 c1 g2 c2 c):w.cell? (Zt p 2)=some (iv c.r.o):=Blk.cell h rfl
theorem MB.k3 (h:MB w p gd cd ga ca g1 c1 g2 c2 c):w.cell? (Zt p 3)=some (iv c.r.p):=Blk.cell h rfl
theorem MB.k4 (h:MB w p gd cd ga ca g1 c1 g2 c2 c):w.cell? (Zt p 4)=some (iv c.r.f):=Blk.cell h rfl
theorem MB.k5 (h:MB w p gd cd ga ca g1 c1 g2 c2 c):w.cell? (Zt p 5)=some (iv c.r.m):=Blk.cell h rfl
theorem MB.k6 (h:MB w p gd cd ga ca g1 c1 g2 c2 c):w.cell? (Zt p 6)=some (.bool c.r.s):=Blk.cell h rfl
theorem MB.k7 (h:MB w p gd cd ga ca g1 c1 g2 c2 c):w.cell? (Zt p 7)=some (.bool c.r.t):=Blk.cell h rfl
theorem MB.k10 (h:MB w p gd cd ga ca g1 c1 g2 c2 c):w.cell? (Zt p 10)=some (.bool c.st):=Blk.cell h rfl
theorem MB.k11 (h:MB w p gd cd ga ca g1 c1 g2 c2 c):w.cell? (Zt p 11)=some (iv c.f.v):=Blk.cell h rfl
theorem MB.k12 (h:MB w p gd cd ga ca g1 c1 g2 c2 c):w.cell? (Zt p 12)=some (iv c.f.pc):=Blk.cell h rfl
theorem MB.c8 (h:MB w p gd cd ga ca g1 c1 g2 c2 c):w.cell? (Zt p 0)=some (.slice (some (Zt gd 0)) 4 cd)∧w.cell? (Zt p 1)=some (.slice (some (Zt ga 0)) 4 ca)∧w.cell? (Zt p 2)=some (iv c.r.o)∧w.cell? (Zt p 3)=some (iv c.r.p)∧w.cell? (Zt p 4)=some (iv c.r.f)∧w.cell? (Zt p 5)=some (iv c.r.m)∧w.cell? (Zt p 6)=some (.bool c.r.s)∧w.cell? (Zt p 7)=some (.bool c.r.t):=⟨h.k0,h.k1,h.k2,h.k3,h.k4,h.k5,h.k6,h.k7⟩
end
theorem MAt.op {w:World} {lo mid hi p g2:Nat} {c:Mc} (h:MAt w lo mid hi p g2 c):∃gd cd ga ca g1 c1 c2:Nat,Hid (MB w p gd cd ga ca g1 c1 g2 c2 c)∧Hid (MO w lo mid hi p gd ga g1 g2 c2 c.r.xs c.r.ys c.bx c.bl c.bm):=by
 obtain ⟨gd,cd,ga,ca,g1,c1,c2,hB,hO⟩:=h;exact ⟨gd,cd,ga,ca,g1,c1,c2,Zr hB,Zr hO⟩
theorem MAt.lI {w:World} {lo mid hi p g2:Nat} {c:Mc} (h:MAt w lo mid hi p g2 c) (x:Pl.In):∃X:World,w.alloc (.cells (inX x) 48)=X∧Hid (Kept 0 0 w X)∧Hid (Blk X w.heap.size (mM x) 48)∧w.heap.size<X.heap.size∧Hid (hi<=w.heap.size)∧Hid (w.heap.size≠g2)∧Hid ((lo<=p∧p<hi)∨w.heap.size<=p)∧Hid (p<w.heap.size)∧Hid (mid<=hi)∧Hid (Since w lo hi g2 X g2)∧Hid (MAt X lo mid hi p g2 c):=by
 have hl:=h.lo;have KA:=kept_alloc w (.cells (mM x) 48);exact ⟨_,rfl,Zr KA,Zr (Blk.new w (mM x) _),by simp,Zr (by omega),Zr (by omega),Zr (by omega),Zr (by omega),Zr (by omega),Zr ((Since.refl w lo hi g2).any KA),Zr (h.any KA)⟩
theorem Since.nx {w X W:World} {lo hi g0 g g' b:Nat} {cs:Array Value} {ty:TypeId} (h:Since X lo hi g W g') (HX:Hid (Blk X b cs ty)) (HH:Hid (hi<=b)) (HG:Hid (b≠g)) (HS:Hid (Since w lo hi g0 X g)):Hid (Blk W b cs ty)∧Hid (b≠g')∧Hid (Since w lo hi g0 W g'):=
 ⟨Zr (h.blk HX.o HH.o HG.o),Zr (h.ne HX.o.lt HG.o),Zr (HS.o.trans h)⟩
theorem bT (w:World) (lo mid hi p g2:Nat) (c:Mc) (h:MAt w lo mid hi p g2 c) :
  Calls prog 112 #[.pointer (some (Zt p 0))] w fun e w'=>e=.returned (.bool c.fine)∧w'=w:=by
 obtain ⟨gd,cd,ga,ca,g1,c1,c2,hB,hO⟩:=h;obtain ⟨t0,t1,t2,t3,t4,t5,t6,t7,t8,t9,t10,t11,t12,t13,t14,t15⟩:=hB.cells;clear hB hO;go_enter func112,ntmps112;go_wp2;go_ret;exact ⟨rfl,rfl⟩
theorem MB.acc {w:World} {p gd cd ga ca g1 c1 g3 c3:Nat} {c:Mc} {k s a v:Int} (h:MB w p gd cd ga ca g1 c1 g3 c3 {c.acc k s a v with f:=c.f}) (e:Mc.cZ c.f k s a=c.f):MB w p gd cd ga ca g1 c1 g3 c3 (c.acc k s a v):=by
 have q:c.acc k s a v={c.acc k s a v with f:=c.f}:=by
  unfold Mc.acc;rw [e]
 rw [q];exact h
theorem fK (w:World) (lo mid hi p g2:Nat) (c:Mc) (k s a v:Int) (h:MAt w lo mid hi p g2 c) (G:GM c) (hask:dX k s a v=true) :
  Calls prog 184 #[.pointer (some (Zt p 0)),iv k,iv s,iv a,iv v] w fun e w'=>e=.returned (iv (c.fZ k s a v))∧∃g3,MAt w' lo mid hi p g3 (c.acc k s a v)∧Since w lo hi g2 w' g3:=by
 obtain ⟨gd,cd,ga,ca,g1,c1,c2,hB,hO⟩:=h;have HB:=Zr hB;have HO:=Zr hO;have HG:=Zr G;clear hB hO G;cases hc:(Pl.code k s a != 0)
 ·have HF:Hid (Mc.cZ c.f k s a=c.f):=Zr (by unfold Mc.cZ;rw [hc];rfl);go_enter func184,ntmps184;go_wp2_with (go_at_call 235;refine (tJ _ lo mid hi p gd cd ga ca g1 c1 g2 c2 c k s a v HB.o HO.o HG.o hask).mono ?_;rintro e9 W ⟨g3,c3,rfl,hB2,hO2,hb2⟩;have HB2:=Zr hB2;have HO2:=Zr hO2;have HL2:=Zr hb2;clear hB2 hO2 hb2);go_ret;exact ⟨rfl,g3,⟨gd,cd,ga,ca,g1,c1,c3,HB2.o.acc HF.o,HO2.o⟩,HL2.o⟩
 ·cases hv:(c.f.v==0)
  ·have HF:Hid (Mc.cZ c.f k s a=c.f):=Zr (by unfold Mc.cZ;rw [hc,hv];rfl);go_enter func184,ntmps184;go_wp2_with (go_at_call 235;refine (tJ _ lo mid hi p gd cd ga ca g1 c1 g2 c2 c k s a v HB.o HO.o HG.o hask).mono ?_;rintro e9 W ⟨g3,c3,rfl,hB2,hO2,hb2⟩;have HB2:=Zr hB2;have HO2:=Zr hO2;have HL2:=Zr hb2;obtain ⟨t0,t1,t2,t3,t4,t5,t6,t7,t8,t9,t10,t11,t12,t13,t14,t15⟩:=hB2.cells;simp only at t11;clear hB2 hO2 hb2 t0 t1 t2 t3 t4 t5 t6 t7 t8 t9 t10 t12 t13 t14 t15);go_ret;exact ⟨rfl,g3,⟨gd,cd,ga,ca,g1,c1,c3,HB2.o.acc HF.o,HO2.o⟩,HL2.o⟩
  ·cases h2:(Pl.code k s a==2)
   ·have HF:Hid (Mc.cZ c.f k s a={c.f with v:=2,ad:=a,wr:=k==2}):=Zr (by unfold Mc.cZ;rw [hc,hv,h2];rfl);go_enter func184,ntmps184;go_wp2_with (go_at_call 235;refine (tJ _ lo mid hi p gd cd ga ca g1 c1 g2 c2 c k s a v HB.o HO.o HG.o hask).mono ?_;rintro e9 W ⟨g3,c3,rfl,hB2,hO2,hb2⟩;have HB2:=Zr hB2;have HO2:=Zr hO2;have HL2:=Zr hb2;obtain ⟨t0,t1,t2,t3,t4,t5,t6,t7,t8,t9,t10,t11,t12,t13,t14,t15⟩:=hB2.cells;simp only at t11;have f11:=hB2.frozen 11;have f13:=hB2.frozen 13;have f15:=hB2.frozen 15;clear hB2 hO2 hb2 t0 t1 t2 t3 t4 t5 t6 t7 t8 t9 t10 t12 t14);go_ret;have hq:(lo<=p∧p<hi)∨w.heap.size<=p:=by have:=HO2.o.p0;have:=HO2.o.d0;have:=HO2.o.d1;have:=HO2.o.p1;omega
    have KK:=((ak W p 11 (iv 2)).one 13 (iv a)).one 15 (.bool (k==2));refine ⟨rfl,g3,⟨gd,cd,ga,ca,g1,c1,c3,?_,HO2.o.own KK⟩,((HL2.o.set p 11 _ hq).set p 13 _ hq).set p 15 _ hq⟩;have q:=((HB2.o.cV 2).cAd a).cWr (k==2);unfold Mc.acc;rw [HF.o];exact q
   ·have HF:Hid (Mc.cZ c.f k s a={c.f with v:=3,ad:=a,wr:=k==2}):=Zr (by unfold Mc.cZ;rw [hc,hv,h2];rfl);go_enter func184,ntmps184;go_wp2_with (go_at_call 235;refine (tJ _ lo mid hi p gd cd ga ca g1 c1 g2 c2 c k s a v HB.o HO.o HG.o hask).mono ?_;rintro e9 W ⟨g3,c3,rfl,hB2,hO2,hb2⟩;have HB2:=Zr hB2;have HO2:=Zr hO2;have HL2:=Zr hb2;obtain ⟨t0,t1,t2,t3,t4,t5,t6,t7,t8,t9,t10,t11,t12,t13,t14,t15⟩:=hB2.cells;simp only at t11;have f11:=hB2.frozen 11;have f13:=hB2.frozen 13;have f15:=hB2.frozen 15;clear hB2 hO2 hb2 t0 t1 t2 t3 t4 t5 t6 t7 t8 t9 t10 t12 t14);go_ret;have hq:(lo<=p∧p<hi)∨w.heap.size<=p:=by have:=HO2.o.p0;have:=HO2.o.d0;have:=HO2.o.d1;have:=HO2.o.p1;omega
    have KK:=(((ak W p 11 (iv 2)).one 11 (iv 3)).one 13 (iv a)).one 15 (.bool (k==2));refine ⟨rfl,g3,⟨gd,cd,ga,ca,g1,c1,c3,?_,HO2.o.own KK⟩,(((HL2.o.set p 11 _ hq).set p 11 _ hq).set p 13 _ hq).set p 15 _ hq⟩;have q:=(((HB2.o.cV 2).cV 3).cAd a).cWr (k==2);unfold Mc.acc;rw [HF.o];exact q
theorem qO {w:World} {g:Nat} {xs:List Int} (h:Own w g xs) (k:Nat) (hk:k<xs.length):w.cell? ⟨g,k,none⟩=some (iv (el xs k))∧w.frozen? ⟨g,k,none⟩=false:=h k hk
theorem ql (n:Int):bits .and .i64 n 65535=n%65536:=fE n
theorem Pl.qU {c:Mc} {v:Int} (h0:0<=v) (h1:v<=65535):dX 2 2 c.spA v=true:=by
 have q:0<=c.spA∧c.spA<=65535:=by unfold Mc.spA;omega
 generalize c.spA=a at q;simp [dX,dI,okv,Pl.top,Pl.addr];omega
theorem Pl.dP {k a:Int} (hk:k=1∨k=3) (h0:0<=a) (h1:a<=65535):dX k 2 a 0=true:=by
 rcases hk with rfl|rfl<;>simp [dX,dI,okv,Pl.top,Pl.addr]<;>omega
theorem QD (w:World) (lo mid hi p g2:Nat) (c:Mc) (v:Int) (h:MAt w lo mid hi p g2 c) (G:GM c) (v0:0<=v) (v1:v<=65535) :
  Calls prog 195 #[.pointer (some (Zt p 0)),iv v] w fun e w'=>e=.returned (.tuple #[])∧∃g3,MAt w' lo mid hi p g3 (c.push v)∧Since w lo hi g2 w' g3:=by
 have a3:=G.g.aw 3 (by omega);have HA:=Zr (qU (c:=c) v0 v1);have HG:=Zr G;have h4:=Zr G.g.a4;obtain ⟨a30,a31⟩:=a3;have hm:=ql (el c.r.ys 3-2);have HM:=Zr h;obtain ⟨gd,cd,ga,ca,g1,c1,c2,HB,HO⟩:=h.op;have t1:=HB.o.k1;obtain ⟨hc3,_⟩:=qO HO.o.a 3 (by rw [h4.o];decide);clear G;cases hf:(c.acc 2 2 c.spA v).fine
 ·have E:Hid (c.push v=c.acc 2 2 c.spA v):=Zr (by unfold Mc.push;rw [hf];rfl);go_enter func195,ntmps195;go_wp2_with (first|(go_at_call 184;refine (fK _ lo mid hi p g2 c 2 2 c.spA v HM.o HG.o HA.o).mono ?_;rintro e9 W_1 ⟨rfl,bJ,hm9,hb9⟩;have BN:=Zr hb9;clear hb9;have bU:=Zr hm9;obtain ⟨gB,gI,gG,gJ,jq,jw,jv,dm,dB⟩:=hm9.op)|(go_at_call 112;refine st (bT _ lo mid hi p bJ _ bU.o) ?_;rw [hf]));go_end0;exact ⟨rfl,bJ,by rw [E.o];exact bU.o,BN.o⟩
 ·have E:Hid (c.push v=(c.acc 2 2 c.spA v).eG 3 c.spA):=Zr (by unfold Mc.push;rw [hf];rfl);go_enter func195,ntmps195;go_wp2_with (first|(go_at_call 184;refine (fK _ lo mid hi p g2 c 2 2 c.spA v HM.o HG.o HA.o).mono ?_;rintro e9 W_1 ⟨rfl,bJ,hm9,hb9⟩;have BN:=Zr hb9;clear hb9;have bU:=Zr hm9;obtain ⟨gB,gI,gG,gJ,jq,jw,jv,dm,dB⟩:=hm9.op;have vS:=dm.o.k1;obtain ⟨hd3,hf3⟩:=qO dB.o.a 3 (by have:=h4.o;show 3<c.r.ys.length;omega))|(go_at_call 112;refine st (bT _ lo mid hi p bJ _ bU.o) ?_;rw [hf]));go_end0;have q0:=dB.o.a0;have q1:=dB.o.a1;have q2:=dB.o.p0;have q3:=dB.o.p1;refine ⟨rfl,bJ,?_,BN.o.set _ _ _ (.inl (by omega))⟩;rw [E.o];exact ⟨gB,gI,gG,gJ,jq,jw,jv,dm.o.rG _ _ _ (by omega),dB.o.eG 3 _⟩
theorem EP (w:World) (lo mid hi p g2:Nat) (c:Mc) (h:MAt w lo mid hi p g2 c) (G:GM c) :
  Calls prog 211 #[.pointer (some (Zt p 0))] w fun e w'=>e=.returned (iv c.dE)∧∃g3,MAt w' lo mid hi p g3 c.pop∧Since w lo hi g2 w' g3:=by
 have a3:=G.g.aw 3 (by omega);obtain ⟨a30,a31⟩:=a3;have HA:=Zr (dP (.inl rfl) a30 a31);have HG:=Zr G;have h4:=Zr G.g.a4;have hm:=ql (el c.r.ys 3+2);have HM:=Zr h;obtain ⟨gd,cd,ga,ca,g1,c1,c2,HB,HO⟩:=h.op;have t1:=HB.o.k1;obtain ⟨hc3,_⟩:=qO HO.o.a 3 (by rw [h4.o];decide);clear G;cases hf:(c.acc 1 2 (el c.r.ys 3) 0).fine
 ·have E:Hid (c.pop=c.acc 1 2 (el c.r.ys 3) 0):=Zr (by unfold Mc.pop;rw [hf];rfl);go_enter func211,ntmps211;go_wp2_with (first|(go_at_call 184;refine (fK _ lo mid hi p g2 c 1 2 (el c.r.ys 3) 0 HM.o HG.o HA.o).mono ?_;rintro e9 W_1 ⟨rfl,bJ,hm9,hb9⟩;have BN:=Zr hb9;clear hb9;have bU:=Zr hm9;obtain ⟨gB,gI,gG,gJ,jq,jw,jv,dm,dB⟩:=hm9.op)|(go_at_call 112;refine st (bT _ lo mid hi p bJ _ bU.o) ?_;rw [hf]));go_ret;exact ⟨rfl,bJ,by rw [E.o];exact bU.o,BN.o⟩
 ·have E:Hid (c.pop=(c.acc 1 2 (el c.r.ys 3) 0).eG 3 ((el c.r.ys 3+2)%65536)):=Zr (by unfold Mc.pop;rw [hf];rfl);go_enter func211,ntmps211;go_wp2_with (first|(go_at_call 184;refine (fK _ lo mid hi p g2 c 1 2 (el c.r.ys 3) 0 HM.o HG.o HA.o).mono ?_;rintro e9 W_1 ⟨rfl,bJ,hm9,hb9⟩;have BN:=Zr hb9;clear hb9;have bU:=Zr hm9;obtain ⟨gB,gI,gG,gJ,jq,jw,jv,dm,dB⟩:=hm9.op;have vS:=dm.o.k1;obtain ⟨hd3,hf3⟩:=qO dB.o.a 3 (by have:=h4.o;show 3<c.r.ys.length;omega);rw [show (Mc.acc c 1 2 (el c.r.ys 3) 0).r=c.r from rfl] at hd3)|(go_at_call 112;refine st (bT _ lo mid hi p bJ _ bU.o) ?_;rw [hf]));go_region;go_wp2_with fail;go_ret;have q0:=dB.o.a0;have q1:=dB.o.a1;have q2:=dB.o.p0;have q3:=dB.o.p1;refine ⟨rfl,bJ,MAt.drew ?_,(BN.o.set _ _ _ (.inl (by omega))).drew⟩;rw [E.o];exact ⟨gB,gI,gG,gJ,jq,jw,jv,dm.o.rG _ _ _ (by omega),dB.o.eG 3 _⟩
end Go.Proofs.YtgikibaajanjiaaGreatDoor
namespace Go.Proofs.YtgikibaajanjiaaGreatDoor.Pl
set_option linter.unusedVariables false
def oM (v:Int):Bool:=v==2||v==3
def gV (s:Bool) (f:Ft):Int:=fl1 f.wr 1+fl1 s 2
def iC (r:Rg) (f:Ft):List Int:=if oM f.v then [f.pc,status r,f.wo,f.ad,gV r.s f] else [f.pc,status r]
namespace Mc
def ps (c:Mc) (v:Int):Mc:=bif c.fine then c.push v else c
def pushes (c:Mc) (xs:List Int):Mc:=xs.foldl ps c
def pW (d:Mc) (v:Int):Mc:=bif d.fine then (bif (d.acc 1 2 (2*v) 0).fine then (d.acc 1 2 (2*v) 0).aB (d.fZ 1 2 (2*v) 0) else d.acc 1 2 (2*v) 0) else d
def lH (c:Mc) (n:Int):Mc:={c.bg (aT c.r n) with st:=false}
def ent (c:Mc) (n:Int) (xs:List Int) (v:Int):Mc:=((c.lH n).pushes xs).pW v
end Mc
def qm (r:Rg):Int:=r.f+32*r.m+256
theorem yK (c:Mc) (xs:List Int) (v:Int):c.pushes (xs++[v])=(c.pushes xs).ps v:=by simp [Mc.pushes]
theorem jP (c:Mc) (xs:List Int) {k:Nat} (h:k<xs.length):c.pushes (xs.take (k+1))=(c.pushes (xs.take k)).ps (el xs k):=by
 rw [List.take_succ_eq_append_getElem h,yK];simp [el,h]
theorem yJ {c:Mc} (h:c.fine=false) (xs:List Int):c.pushes xs=c:=by
 induction xs with
 | nil=>rfl
 | cons v xs ih=>show Mc.pushes (c.ps v) xs=c;rw [show c.ps v=c from by unfold Mc.ps;rw [h];rfl];exact ih
theorem xe (c:Mc) (xs:List Int) (k:Nat):c.pushes xs=(c.pushes (xs.take k)).pushes (xs.drop k):=by
 unfold Mc.pushes;rw [<-List.foldl_append,List.take_append_drop]
theorem AO {c:Mc} {xs:List Int} {k:Nat} (h:(c.pushes (xs.take k)).fine=false):c.pushes xs=c.pushes (xs.take k):=by
 rw [xe c xs k,yJ h]
def wR (xs:List Int):Prop:=∀i,i<xs.length->0<=el xs i∧el xs i<=65535
theorem GM.psh {c:Mc} (h:GM c) {v:Int} (v0:0<=v) (v1:v<=65535):GM (c.push v):=by
 have q:=h.acc (qU (c:=c) v0 v1);unfold Mc.push;cases (c.acc 2 2 c.spA v).fine
 ·exact q
 ·exact q.eG 3 (by unfold Mc.spA;omega) (by unfold Mc.spA;omega)
theorem GM.ps {c:Mc} (h:GM c) {v:Int} (v0:0<=v) (v1:v<=65535):GM (c.ps v):=by
 unfold Mc.ps;cases c.fine
 ·exact h
 ·exact h.psh v0 v1
theorem GM.pushes {c:Mc} (h:GM c) {xs:List Int} (hx:wR xs) (k:Nat) (hk:k<=xs.length):GM (c.pushes (xs.take k)):=by
 induction k with
 | zero=>exact h
 | succ k ih=>rw [jP c xs hk];exact (ih (by omega)).ps (hx k hk).1 (hx k hk).2
theorem Qn {f:Ft} {k s a:Int} (h:f=aF) (hf:(Mc.cZ f k s a).v=0):Mc.cZ f k s a=aF:=by
 subst h;unfold Mc.cZ at hf ⊢;cases hc:(code k s a != 0)
 ·rfl
 ·rw [hc] at hf;simp only [Bool.true_and] at hf;exfalso;revert hf;cases (code k s a==2)<;>simp [aF]
theorem NP {c:Mc} {v:Int} (h:c.f=aF) (hf:(c.push v).fine=true):(c.push v).f=aF:=by
 have e:(c.push v).f=Mc.cZ c.f 2 2 c.spA:=by unfold Mc.push;cases (c.acc 2 2 c.spA v).fine<;>rfl
 unfold Mc.fine at hf;rw [e] at hf ⊢;exact Qn h (by simpa using hf)
theorem Ic {c:Mc} (h:c.f=aF) {xs:List Int} {k:Nat} (hk:k<=xs.length) (hf:(c.pushes (xs.take k)).fine=true):(c.pushes (xs.take k)).f=aF:=by
 induction k with
 | zero=>exact h
 | succ k ih=>
  rw [jP c xs hk] at hf ⊢;cases hb:(c.pushes (xs.take k)).fine
  ·unfold Mc.ps at hf;rw [hb] at hf;simp only [cond_false] at hf;rw [hb] at hf;cases hf
  ·have e:(c.pushes (xs.take k)).ps (el xs k)=(c.pushes (xs.take k)).push (el xs k):=by unfold Mc.ps;rw [hb];rfl
   rw [e] at hf ⊢;exact NP (ih (by omega) hb) hf
theorem GM.lH {c:Mc} (h:GM c) (n:Int):GM (c.lH n):=by
 have q:=h.with n;exact ⟨q.g,q.p0,q.p1,q.bx,q.ok,q.bl,q.bm,q.ac⟩
structure FtW (f:Ft):Prop where
 v0:0<=f.v
 v1:f.v<=21
 p:0<=f.pc∧f.pc<=65535
 a:0<=f.ad∧f.ad<=65535
 w:0<=f.wo∧f.wo<=65535
theorem uY {r:Rg} {f:Ft} (h:Good r) (hf:FtW f):wR (iC r f):=by
 have h2:=hf.p;have h3:=hf.a;have h4:=hf.w;obtain ⟨s0,s1⟩:=oW h;have hi:0<=gV r.s f∧gV r.s f<=3:=by unfold gV fl1;cases f.wr<;>cases r.s<;>decide
 intro i hi';unfold iC at hi' ⊢;cases hl:oM f.v<;>rw [hl] at hi'<;>simp only [Bool.false_eq_true,if_false,if_true] at hi' ⊢
 ·rcases i with _|_|i
  ·exact h2
  ·exact ⟨s0,by show status r<=_;omega⟩
  ·simp at hi';omega
 ·rcases i with _|_|_|_|_|i
  ·exact h2
  ·exact ⟨s0,by show status r<=_;omega⟩
  ·exact h4
  ·exact h3
  ·exact ⟨hi.1,by show gV r.s f<=_;omega⟩
  ·simp at hi';omega
theorem GM.ent {c:Mc} (h:GM c) {n v:Int} {xs:List Int} (hx:wR xs) (v0:0<=v) (v1:v<=21):GM (c.ent n xs v):=by
 have q:GM ((c.lH n).pushes xs):=by have:=(h.lH n).pushes hx xs.length (Nat.le_refl _);rwa [List.take_length] at this
 have ha:dX 1 2 (2*v) 0=true:=dP (k:=1) (.inl rfl) (by omega) (by omega);have hv:=q.fZ ha;unfold Mc.ent Mc.pW;cases ((c.lH n).pushes xs).fine
 ·exact q
 ·cases (((c.lH n).pushes xs).acc 1 2 (2*v) 0).fine
  ·exact q.acc ha
  ·have hw:0<=((c.lH n).pushes xs).fZ 1 2 (2*v) 0∧((c.lH n).pushes xs).fZ 1 2 (2*v) 0<=65535:=by
    have h9:0<=((c.lH n).pushes xs).fZ 1 2 (2*v) 0∧((c.lH n).pushes xs).fZ 1 2 (2*v) 0<65536:=by simpa [okv,within,top] using hv
    omega
   exact (q.acc ha).aB hw.1 hw.2
end Go.Proofs.YtgikibaajanjiaaGreatDoor.Pl
namespace Go.Proofs.YtgikibaajanjiaaGreatDoor
open Pl
open Go.RowKit Go.Proofs.Tryz
set_option linter.unusedVariables false
theorem bK (b:Bool) (f:Int) (w:World) :
  Calls prog 208 #[.bool b,iv f] w fun e w'=>e=.returned (iv (Pl.fl b f))∧w'=w:=by
 cases b
 all_goals
  go_enter func208,ntmps208;go_wp2;go_ret;exact ⟨rfl,rfl⟩
theorem mZ (v:Int) (w:World) :
  Calls prog 206 #[iv 1,iv v] w fun e w'=>e=.returned (iv (bits .or .i64 (Pl.fl (v==0) 4) (Pl.fl (decide (128<=v)) 8)))∧w'=w:=by
 go_enter func206,ntmps206;go_wp2_with fail;refine (bK _ _ _).mono ?_;rintro e w' ⟨rfl,rfl⟩;go_wp2_with fail;refine (iJ _).mono ?_;rintro e w' ⟨rfl,rfl⟩;go_wp2_with fail;refine (bK _ _ _).mono ?_;rintro e w' ⟨rfl,rfl⟩;go_wp2_with fail;go_ret;exact ⟨rfl,rfl⟩
theorem mY (v:Int) (w:World) :
  Calls prog 206 #[iv 2,iv v] w fun e w'=>e=.returned (iv (bits .or .i64 (Pl.fl (v==0) 4) (Pl.fl (decide (32768<=v)) 8)))∧w'=w:=by
 go_enter func206,ntmps206;go_wp2_with fail;refine (bK _ _ _).mono ?_;rintro e w' ⟨rfl,rfl⟩;go_wp2_with fail;refine (iI _).mono ?_;rintro e w' ⟨rfl,rfl⟩;go_wp2_with fail;refine (bK _ _ _).mono ?_;rintro e w' ⟨rfl,rfl⟩;go_wp2_with fail;go_ret;exact ⟨rfl,rfl⟩
end Go.Proofs.YtgikibaajanjiaaGreatDoor
