/- Part 13 of what the last text leans on. -/
import Derived.Test.YtkkmnnhaailkcaaGreatDoorJB12
import Derived.Test.YtkkmnnhaailkcaaGreatDoorJB3
import Derived.Test.YtkkmnnhaailkcaaGreatDoorJB2
import Derived.Laws.CopyOwn
import Derived.Laws.Rows
import Derived.Laws.Tables
import Derived.Test.YtkkmnnhaailkcaaGreatDoorJB1
import Derived.Deep.WholeRow
import Derived.Deep.RegionLawGrows
import Derived.Deep.RegionHeld3
import Derived.Deep.MidRow
import Derived.Deep.AppendLies
import Derived.Deep.QuietTactic
import Derived.BigQuiet
import Derived.Test.YtkkmnnhaailkcaaGreatDoorJB11
import Derived.Below
import Derived.Laws.ResultCell
import Derived.Test.YtkkmnnhaailkcaaGreatDoorJB9
import Derived.RegionTactic
import Derived.ChangeAlike
import Derived.BigRegion
import Derived.Deep.RegionWith
set_option maxRecDepth 100000
set_option maxHeartbeats 16000000
namespace Go.Proofs.YtkkmnnhaailkcaaGreatDoor
open Go.RowKit Go.Proofs.Tryz
set_option linter.unusedVariables false
theorem rP (k:Int) (w:World):Calls prog 86 #[iv k] w fun e w'=>e=.returned (.bool (Pl.within k 0 31))∧w'=w:=by
 by_cases h0:0≤k
 ·by_cases h1:k≤31
  ·go_enter func86,ntmps86
   go_wp2
   go_ret
   exact ⟨rB (by simp [Pl.within,h0,h1]),rfl⟩
  ·go_enter func86,ntmps86
   go_wp2
   go_ret
   exact ⟨rB (by simp [Pl.within,h0];omega),rfl⟩
 ·go_enter func86,ntmps86
  go_wp2
  go_ret
  exact ⟨rB (by simp [Pl.within];omega),rfl⟩
theorem fD (w:World) (a:Option Addr) (ca:Nat) (xs:List Int) (ha:Came w a xs) (lx:xs.length≤2000000) :
  Calls prog 84 #[.slice a xs.length ca] w fun e w'=>e=.returned (.bool (xs.all Pl.aT))∧w'=w:=by
 have HA:=hide ha
 clear ha
 go_enter func84,ntmps84
 go_wp2
 go_loop [4,7] (fun _ j=>∃k:Nat,k≤xs.length∧j=iv k∧∀i,i<k→Pl.aT (el xs i)=true) (fun _ j=>xs.length-(intOf j).toNat)
 case atStart=>exact ⟨0,Nat.zero_le _,rfl,fun i hi=>absurd hi (Nat.not_lt_zero i)⟩
 case round=>
  obtain ⟨k,hk,rfl,heq⟩:=hrel
  have HE:=hide heq
  clear heq
  by_cases hlt:k<xs.length
  ·obtain ⟨g1,o1,rfl,hc1⟩:=HA.o.1 k hlt
   obtain ⟨lo,hi⟩:=HA.o.2 k hlt
   rw [show xs[k]?.getD 0=el xs k from rfl] at hc1 lo hi
   cases hb:Pl.aT (el xs k)
   ·go_wp2_with (go_at_call 85;refine st (isWord _ _ lo hi) ?_;rw [hb])
    go_ret
    refine ⟨rB ?_,rfl⟩
    have hm:xs[k]'hlt∈xs:=List.getElem_mem hlt
    have he:el xs k=xs[k]'hlt:=by simp [el,List.getElem?_eq_getElem hlt]
    rw [he] at hb
    cases hq:xs.all Pl.aT
    ·rfl
    ·have:=List.all_eq_true.1 hq _ hm
     rw [hb] at this;cases this
   ·go_wp2_with (go_at_call 85;refine st (isWord _ _ lo hi) ?_;rw [hb])
    go_round
    case rel=>exact ⟨k+1,by omega,by go_num,kX HE.o hb⟩
    case measure=>simp [intOf];omega
  ·go_wp2
   go_ret
   refine ⟨rB ?_,rfl⟩
   symm
   rw [List.all_eq_true]
   intro x hx
   obtain ⟨i,hi,rfl⟩:=List.getElem_of_mem hx
   have:=HE.o i (by omega)
   simpa [el,List.getElem?_eq_getElem hi] using this
theorem zg (z k:Int) (w:World) (hz:z=1∨z=2):Calls prog 227 #[iv z,iv k] w fun e w'=>e=.returned (iv (Pl.byN z k))∧w'=w:=by
 by_cases h:k=3
 ·subst h
  go_enter func227,ntmps227
  go_wp2
  go_ret
  exact ⟨rI (by simp [Pl.byN]),rfl⟩
 ·go_enter func227,ntmps227
  go_wp2
  go_ret
  exact ⟨rI (by rcases hz with rfl|rfl<;>simp [Pl.byN,h]),rfl⟩
theorem Ko (b:Bool) (f:Int) (w:World):Calls prog 133 #[.bool b,iv f] w fun e w'=>e=.returned (iv (Pl.fl1 b f))∧w'=w:=by
 cases b
 all_goals
  go_enter func133,ntmps133
  go_wp2
  go_ret
  exact ⟨rfl,rfl⟩
theorem nU (w:World) (d:Pl.Rg) (a b:Option Addr) (ca cb:Nat) (ha:Came w a d.xs) (hb:Came w b d.ys) (lx:d.xs.length≤2000000) (ly:d.ys.length≤2000000) (wfd:Pl.WfR d) :
  Calls prog 53 #[.agg #[.slice a d.xs.length ca,.slice b d.ys.length cb,iv d.o,iv d.p,iv d.f,iv d.m,.bool d.s,.bool d.t]] w fun e w'=>e=.returned (.bool (Pl.sW d))∧Kept 0 0 w w':=by
 have HA:=hide ha
 have HB:=hide hb
 have HK:=hide (kept_alloc w (.cells #[.slice a d.xs.length ca,.slice b d.ys.length cb,iv d.o,iv d.p,iv d.f,iv d.m,.bool d.s,.bool d.t] 31))
 clear ha hb
 have G:Hid (Pl.sW d=((d.xs.all Pl.aT&&decide ((d.xs.length:Int)=4))&&((d.ys.all Pl.aT&&decide ((d.ys.length:Int)=4))&&(Pl.aT d.o&&(Pl.aT d.p&&(Pl.within d.f 0 31&&(decide (0≤d.m)&&decide (d.m≤7)))))))):=hide rfl
 cases l1:((d.xs.length:Int)==4)
 ·have q1:decide ((d.xs.length:Int)=4)=false:=by simpa using l1
  go_enter func53,ntmps53
  go_wp2
  go_ret
  exact ⟨rB (by rw [G.o,q1];simp),HK.o⟩
 ·have q1:decide ((d.xs.length:Int)=4)=true:=by simpa using l1
  cases h2:d.xs.all Pl.aT
  ·have qh2:True:=trivial
   go_enter func53,ntmps53
   go_wp2_with (first|(go_at_call 84;refine st (fD _ a ca d.xs (HA.o.ai HK.o) lx) ?_;rw [h2];have Z1:True:=trivial))
   go_ret
   exact ⟨rB (by rw [G.o,q1,h2];simp),HK.o⟩
  ·have qh2:True:=trivial
   cases l3:((d.ys.length:Int)==4)
   ·have q3:decide ((d.ys.length:Int)=4)=false:=by simpa using l3
    go_enter func53,ntmps53
    go_wp2_with (first|(go_at_call 84;refine st (fD _ a ca d.xs (HA.o.ai HK.o) lx) ?_;rw [h2];have Z1:True:=trivial))
    go_ret
    exact ⟨rB (by rw [G.o,q1,h2,q3];simp),HK.o⟩
   ·have q3:decide ((d.ys.length:Int)=4)=true:=by simpa using l3
    cases h4:d.ys.all Pl.aT
    ·have qh4:True:=trivial
     go_enter func53,ntmps53
     go_wp2_with (first|(go_at_call 84;have z:=Z1;refine st (fD _ b cb d.ys (HB.o.ai HK.o) ly) ?_;rw [h4])|(go_at_call 84;refine st (fD _ a ca d.xs (HA.o.ai HK.o) lx) ?_;rw [h2];have Z1:True:=trivial))
     go_ret
     exact ⟨rB (by rw [G.o,q1,h2,q3,h4];simp),HK.o⟩
    ·have qh4:True:=trivial
     cases h5:Pl.aT d.o
     ·have qh5:True:=trivial
      go_enter func53,ntmps53
      go_wp2_with (first|(go_at_call 84;have z:=Z1;refine st (fD _ b cb d.ys (HB.o.ai HK.o) ly) ?_;rw [h4])|(go_at_call 84;refine st (fD _ a ca d.xs (HA.o.ai HK.o) lx) ?_;rw [h2];have Z1:True:=trivial)|(go_at_call 85;refine st (isWord d.o _ (wfB wfd.o).1 (wfB wfd.o).2) ?_;rw [h5];have Z3:True:=trivial))
      go_ret
      exact ⟨rB (by rw [G.o,q1,h2,q3,h4,h5];simp),HK.o⟩
     ·have qh5:True:=trivial
      cases h6:Pl.aT d.p
      ·have qh6:True:=trivial
       go_enter func53,ntmps53
       go_wp2_with (first|(go_at_call 84;have z:=Z1;refine st (fD _ b cb d.ys (HB.o.ai HK.o) ly) ?_;rw [h4])|(go_at_call 84;refine st (fD _ a ca d.xs (HA.o.ai HK.o) lx) ?_;rw [h2];have Z1:True:=trivial)|(go_at_call 85;have z:=Z3;refine st (isWord d.p _ (wfB wfd.p).1 (wfB wfd.p).2) ?_;rw [h6])|(go_at_call 85;refine st (isWord d.o _ (wfB wfd.o).1 (wfB wfd.o).2) ?_;rw [h5];have Z3:True:=trivial))
       go_ret
       exact ⟨rB (by rw [G.o,q1,h2,q3,h4,h5,h6];simp),HK.o⟩
      ·have qh6:True:=trivial
       cases h7:Pl.within d.f 0 31
       ·have qh7:True:=trivial
        go_enter func53,ntmps53
        go_wp2_with (first|(go_at_call 84;have z:=Z1;refine st (fD _ b cb d.ys (HB.o.ai HK.o) ly) ?_;rw [h4])|(go_at_call 84;refine st (fD _ a ca d.xs (HA.o.ai HK.o) lx) ?_;rw [h2];have Z1:True:=trivial)|(go_at_call 85;have z:=Z3;refine st (isWord d.p _ (wfB wfd.p).1 (wfB wfd.p).2) ?_;rw [h6])|(go_at_call 85;refine st (isWord d.o _ (wfB wfd.o).1 (wfB wfd.o).2) ?_;rw [h5];have Z3:True:=trivial)|(go_at_call 86;refine st (rP d.f _) ?_;rw [h7]))
        go_ret
        exact ⟨rB (by rw [G.o,q1,h2,q3,h4,h5,h6,h7];simp),HK.o⟩
       ·have qh7:True:=trivial
        cases h8:decide (0≤d.m)
        ·have qh8:True:=trivial
         go_enter func53,ntmps53
         go_wp2_with (first|(go_at_call 84;have z:=Z1;refine st (fD _ b cb d.ys (HB.o.ai HK.o) ly) ?_;rw [h4])|(go_at_call 84;refine st (fD _ a ca d.xs (HA.o.ai HK.o) lx) ?_;rw [h2];have Z1:True:=trivial)|(go_at_call 85;have z:=Z3;refine st (isWord d.p _ (wfB wfd.p).1 (wfB wfd.p).2) ?_;rw [h6])|(go_at_call 85;refine st (isWord d.o _ (wfB wfd.o).1 (wfB wfd.o).2) ?_;rw [h5];have Z3:True:=trivial)|(go_at_call 86;refine st (rP d.f _) ?_;rw [h7]))
         go_ret
         exact ⟨rB (by rw [G.o,q1,h2,q3,h4,h5,h6,h7,h8];simp),HK.o⟩
        ·have qh8:True:=trivial
         cases h9:decide (d.m≤7)
         ·have qh9:True:=trivial
          go_enter func53,ntmps53
          go_wp2_with (first|(go_at_call 84;have z:=Z1;refine st (fD _ b cb d.ys (HB.o.ai HK.o) ly) ?_;rw [h4])|(go_at_call 84;refine st (fD _ a ca d.xs (HA.o.ai HK.o) lx) ?_;rw [h2];have Z1:True:=trivial)|(go_at_call 85;have z:=Z3;refine st (isWord d.p _ (wfB wfd.p).1 (wfB wfd.p).2) ?_;rw [h6])|(go_at_call 85;refine st (isWord d.o _ (wfB wfd.o).1 (wfB wfd.o).2) ?_;rw [h5];have Z3:True:=trivial)|(go_at_call 86;refine st (rP d.f _) ?_;rw [h7]))
          go_ret
          exact ⟨rB (by rw [G.o,q1,h2,q3,h4,h5,h6,h7,h8,h9];simp),HK.o⟩
         ·have qh9:True:=trivial
          go_enter func53,ntmps53
          go_wp2_with (first|(go_at_call 84;have z:=Z1;refine st (fD _ b cb d.ys (HB.o.ai HK.o) ly) ?_;rw [h4])|(go_at_call 84;refine st (fD _ a ca d.xs (HA.o.ai HK.o) lx) ?_;rw [h2];have Z1:True:=trivial)|(go_at_call 85;have z:=Z3;refine st (isWord d.p _ (wfB wfd.p).1 (wfB wfd.p).2) ?_;rw [h6])|(go_at_call 85;refine st (isWord d.o _ (wfB wfd.o).1 (wfB wfd.o).2) ?_;rw [h5];have Z3:True:=trivial)|(go_at_call 86;refine st (rP d.f _) ?_;rw [h7]))
          go_ret
          exact ⟨rB (by rw [G.o,q1,h2,q3,h4,h5,h6,h7,h8,h9];simp),HK.o⟩
def bkR (r:Pl.Rg):Array Value:=#[iv (el r.xs 0),iv (el r.xs 1),iv (el r.xs 2),iv (el r.xs 3),iv (el r.ys 0),iv (el r.ys 1),iv (el r.ys 2),iv (el r.ys 3),iv r.o,iv r.p,iv r.f,iv r.m,.bool r.s,.bool r.t]
theorem Qo (r:Pl.Rg):(bkR r).all (·.oneCell')=true:=by simp [bkR,Value.oneCell']
theorem wF (r:Pl.Rg):(prog.info? 85).map (·.size)=some (bkR r).size:=by
 have:(prog.info? 85).map (·.size)=some 14:=by kernel_rfl
 exact this
theorem list4 {xs:List Int} (h:xs.length=4):xs=[el xs 0,el xs 1,el xs 2,el xs 3]:=by
 match xs,h with
 | [a,b,c,d],_=>rfl
theorem mk4 (w:World):(Instr.makeSlice 22 (iv 4) (iv 4)).run prog w=.ok (.slice (some ⟨w.heap.size,0,none⟩) 4 4) (w.alloc (.cells #[iv 0,iv 0,iv 0,iv 0] 3)):=by kernel_rfl
theorem OB (x0 x1 x2 x3:Int) (w:World) :
  Calls prog 97 #[.agg #[iv x0,iv x1,iv x2,iv x3]] w fun e w'=>e=.returned (.slice (some ⟨w.heap.size+1,0,none⟩) 4 4)∧Blk w' (w.heap.size+1) (cellsOf [x0,x1,x2,x3]) 3∧Kept 0 0 w w':=by
 have B0:Blk ((w.alloc (.cells #[iv x0,iv x1,iv x2,iv x3] 83)).alloc (.cells #[iv 0,iv 0,iv 0,iv 0] 3)) w.heap.size (cellsOf [x0,x1,x2,x3]) 83:=(Blk.new w #[iv x0,iv x1,iv x2,iv x3] 83).alloc _
 have B1:=Blk.new (w.alloc (.cells #[iv x0,iv x1,iv x2,iv x3] 83)) #[iv 0,iv 0,iv 0,iv 0] 3
 simp only [World.size_alloc] at B1
 obtain ⟨W1,hcopy,C1,k1⟩:=yM _ (w.heap.size+1) 0 4 4 4 (some ⟨w.heap.size,0,none⟩) [x0,x1,x2,x3] [iv 0,iv 0,iv 0,iv 0] 3 B1 (jQ B0).row (by simp) (by simp)
 have hc:(Builtin.copy_ #[22,22] 3 #[.slice (some ⟨w.heap.size+1,0,none⟩) 4 4,.slice (some ⟨w.heap.size,0,none⟩) 4 4]).run prog ((w.alloc (.cells #[iv x0,iv x1,iv x2,iv x3] 83)).alloc (.cells #[iv 0,iv 0,iv 0,iv 0] 3))=.ok (iv 4) W1:=hcopy
 have C:=hide (show Blk W1 (w.heap.size+1) (cellsOf [x0,x1,x2,x3]) 3 from C1)
 have K:=hide (bP (ah (kept_alloc w _) _) k1 (by omega))
 clear B0 B1 hcopy C1 k1
 have mk:=mk4
 go_enter func97,ntmps97
 go_wp2
 go_ret
 exact ⟨rfl,C.o,K.o⟩
theorem UK (w:World) (d:Pl.Rg) (a b:Option Addr) (ca cb:Nat) (ha:aJ w a d.xs) (hb:aJ w b d.ys) (lx:d.xs.length=4) (ly:d.ys.length=4) :
  Calls prog 55 #[.agg #[.slice a d.xs.length ca,.slice b d.ys.length cb,iv d.o,iv d.p,iv d.f,iv d.m,.bool d.s,.bool d.t]] w fun e w'=>e=.returned (.agg (bkR d))∧Kept 0 0 w w':=by
 rw [lx,ly]
 obtain ⟨W0,h0⟩:∃W:World,W=((w.alloc (.cells #[.slice a 4 ca,.slice b 4 cb,iv d.o,iv d.p,iv d.f,iv d.m,.bool d.s,.bool d.t] 31)).alloc (.cells #[iv 0,iv 0,iv 0,iv 0,iv 0,iv 0,iv 0,iv 0,iv 0,iv 0,iv 0,iv 0,.bool false,.bool false] 85)).alloc (.cells #[iv 0,iv 0,iv 0,iv 0,iv 0,iv 0,iv 0,iv 0,iv d.o,iv d.p,iv d.f,iv d.m,.bool d.s,.bool d.t] 85):=⟨_,rfl⟩
 have R0:Blk W0 w.heap.size #[.slice a 4 ca,.slice b 4 cb,iv d.o,iv d.p,iv d.f,iv d.m,.bool d.s,.bool d.t] 31:=by rw [h0];exact ((Blk.new w _ _).alloc _).alloc _
 have Z0:Blk W0 (w.heap.size+1) #[iv 0,iv 0,iv 0,iv 0,iv 0,iv 0,iv 0,iv 0,iv 0,iv 0,iv 0,iv 0,.bool false,.bool false] 85:=by
  rw [h0]
  have:=Blk.new (w.alloc (.cells #[.slice a 4 ca,.slice b 4 cb,iv d.o,iv d.p,iv d.f,iv d.m,.bool d.s,.bool d.t] 31)) #[iv 0,iv 0,iv 0,iv 0,iv 0,iv 0,iv 0,iv 0,iv 0,iv 0,iv 0,iv 0,.bool false,.bool false] 85
  simp only [World.size_alloc] at this
  exact this.alloc _
 have B0:Blk W0.drew (w.heap.size+1+1) #[iv 0,iv 0,iv 0,iv 0,iv 0,iv 0,iv 0,iv 0,iv d.o,iv d.p,iv d.f,iv d.m,.bool d.s,.bool d.t] 85:=by
  rw [h0]
  have:=Blk.new ((w.alloc (.cells #[.slice a 4 ca,.slice b 4 cb,iv d.o,iv d.p,iv d.f,iv d.m,.bool d.s,.bool d.t] 31)).alloc (.cells #[iv 0,iv 0,iv 0,iv 0,iv 0,iv 0,iv 0,iv 0,iv 0,iv 0,iv 0,iv 0,.bool false,.bool false] 85)) #[iv 0,iv 0,iv 0,iv 0,iv 0,iv 0,iv 0,iv 0,iv d.o,iv d.p,iv d.f,iv d.m,.bool d.s,.bool d.t] 85
  simp only [World.size_alloc] at this
  exact this
 have K0:Kept 0 0 w W0.drew:=by rw [h0];exact ae (ah (ah (kept_alloc w _) _) _)
 have r00:=R0.cell (i:=0) rfl
 have r01:=R0.cell (i:=1) rfl
 obtain ⟨W1,hc1,B1,k1⟩:=yM W0.drew (w.heap.size+1+1) 0 4 4 ca a d.xs _ _ B0 (ha.ai K0) (by omega) (by rw [lx];simp)
 have K1:Kept 0 0 w W1.drew:=ae (bP K0 k1 (by omega))
 have R1:Blk W1 w.heap.size #[.slice a 4 ca,.slice b 4 cb,iv d.o,iv d.p,iv d.f,iv d.m,.bool d.s,.bool d.t] 31:=Blk.kept (show Blk W0.drew _ _ _ from R0) k1 (by omega)
 have r11:=R1.cell (i:=1) rfl
 obtain ⟨W2,hc2,B2,k2⟩:=yM W1.drew (w.heap.size+1+1) 4 4 4 cb b d.ys _ _ (show Blk W1.drew _ _ _ from B1) (hb.ai K1) (by omega) (by rw [ly,length_splice _ _ _ (by simp [lx])];simp)
 have Z1:=Blk.kept (show Blk W0.drew _ _ _ from Z0) k1 (by omega)
 have Z2:=hide (Blk.kept (show Blk W1.drew _ _ _ from Z1) k2 (by omega))
 have K2:=hide (bP K1 k2 (by omega))
 rw [lx] at hc1
 rw [ly] at hc2
 have D2:Hid (Blk W2 (w.heap.size+1+1) (bkR d) 85):=hide (by
  rw [list4 lx,list4 ly] at B2
  exact B2)
 clear B0 B1 B2 k1 k2 K0 K1 R0 Z0 R1 Z1
 go_enter func55,ntmps55
 go_wp2_with fail
 rw [←h0]
 clear h0
 go_region
 go_wp2_with fail
 go_region
 go_wp2_with (first|(refine wpList_load_row rfl 85 (.tmp 3) rfl (w.heap.size+1+1) rfl 85 (bkR d) (0,0) _ D2.o underlying85 rfl (wF d) ?_)|(refine wpList_store_row rfl 85 (.tmp 2) (.tmp 27) rfl (w.heap.size+1) (bkR d) rfl rfl 85 _ Z2.o (wF d) rfl (Qo d) ?_))
 refine bodyPost_ret (v:=.agg (bkR d)) ?_ rfl ⟨rfl,lN K2.o _ _ (by omega)⟩
 exact results_cell_row rfl _ _ _ _ _ (0,0) _ rfl Z2.o.setRow underlying85 rfl (wF d)
theorem bkX {r:Pl.Rg} (h:r.xs.length=4) {k:Nat} (hk:k<4) (z:Int):bkR {r with xs:=r.xs.set k z}=(bkR r).setIfInBounds k (iv z):=by
 obtain ⟨xs,ys,o,p,f,m,s,t⟩:=r
 match xs,h with
 | [a,b,c,d],_=>
  have:k=0∨k=1∨k=2∨k=3:=by omega
  rcases this with rfl|rfl|rfl|rfl<;>rfl
theorem bkY {r:Pl.Rg} (h:r.ys.length=4) {k:Nat} (hk:k<4) (z:Int):bkR {r with ys:=r.ys.set k z}=(bkR r).setIfInBounds (4+k) (iv z):=by
 obtain ⟨xs,ys,o,p,f,m,s,t⟩:=r
 match ys,h with
 | [a,b,c,d],_=>
  have:k=0∨k=1∨k=2∨k=3:=by omega
  rcases this with rfl|rfl|rfl|rfl<;>rfl
theorem Qr (x:Nat):x &&& 18446744073709551360=x/256%72057594037927936*256:=by
 apply Nat.eq_of_testBit_eq
 intro i
 rw [Nat.testBit_and,show (18446744073709551360:Nat)=(2^56-1)*2^8 from by decide,Nat.testBit_mul_two_pow,Nat.testBit_two_pow_sub_one,show x/256%72057594037927936*256=x/2^8%2^56*2^8 from rfl,Nat.testBit_mul_two_pow,Nat.testBit_mod_two_pow,Nat.testBit_div_two_pow]
 by_cases h:8≤i
 ·have e:i-8+8=i:=by omega
  simp [h,e,Bool.and_comm]
 ·simp [h]
theorem GL {x:Int} (h0:0≤x) (h1:x≤65535):bits .andNot .i64 x 255=x/256*256:=by
 show IntKind.i64.wrap ((BitVec.ofInt 64 x &&& ~~~ BitVec.ofInt 64 255).toNat:Int)=_
 rw [BitVec.toNat_and,BitVec.toNat_ofInt,show (~~~ BitVec.ofInt 64 255).toNat=18446744073709551360 from by decide,Qr,IntKind.wrap_i64]
 omega
theorem SG (x y:Int):bits .or .i64 x y=bits .or .i64 y x:=by
 show IntKind.i64.wrap ((BitVec.ofInt 64 x ||| BitVec.ofInt 64 y).toNat:Int)=IntKind.i64.wrap ((BitVec.ofInt 64 y ||| BitVec.ofInt 64 x).toNat:Int)
 rw [BitVec.or_comm]
theorem Aj {x v:Int} (h0:0≤x) (h1:x≤65535) (v0:0≤v) (v1:v≤255):bits .or .i64 v (bits .andNot .i64 x 255)=x/256*256+v:=by
 rw [GL h0 h1,SG]
 exact bits_join .i64 62 (by decide) Pl.iC 8 (x/256*256) v (by omega) (by omega) (by omega) (by omega) (by omega) (by omega)
def cor (r:Pl.Rg) (xs:List Int) (u:Value) (st ha:Bool):Array Value:=bkR r++(cellsOf xs++#[u,.bool st,.bool ha])
theorem set_left {A B:Array Value} {i:Nat} (h:i<A.size) (v:Value):(A++B).setIfInBounds i v=A.setIfInBounds i v++B:=by
 apply Array.ext_getElem?
 intro j
 simp only [Array.getElem?_setIfInBounds,Array.getElem?_append,Array.size_append,Array.size_setIfInBounds]
 by_cases e:i=j
 ·subst e;simp [h];omega
 ·simp [e]
theorem set_right {A B:Array Value} (i:Nat) (v:Value):(A++B).setIfInBounds (A.size+i) v=A++B.setIfInBounds i v:=by
 apply Array.ext_getElem?
 intro j
 simp only [Array.getElem?_setIfInBounds,Array.getElem?_append,Array.size_append]
 by_cases e:A.size+i=j
 ·subst e;simp;omega
 ·by_cases h:j<A.size
  ·simp [e,h]
  ·simp [e,h,show ¬i=j-A.size by omega]
theorem Since.mine {w a b:World} {lo hi x y g g':Nat} (h:Since w lo hi g a g') (k:Kept x y a b) (hx:w.heap.size≤x):Since w lo hi g b g':=
 ⟨h.1,⟨k.os.trans h.2.os,k.tape.trans h.2.tape,k.output.trans h.2.output,Nat.le_trans h.2.size k.size,fun i hi' hn=>(k.block i (Nat.lt_of_lt_of_le hi' h.2.size) (by omega)).trans (h.2.block i hi' hn)⟩⟩
section
variable {r:Pl.Rg} {xs:List Int} {u:Value} {st ha:Bool}
theorem Af (hl:xs.length=512):(cor r xs u st ha).size=529:=by
 have:(bkR r).size=14:=rfl
 simp [cor,this,cellsOf_size,hl]
theorem yL {i:Nat} (h:i<14):(cor r xs u st ha)[i]? = (bkR r)[i]? := Array.getElem?_append_left h
theorem Lu (i:Nat):(cor r xs u st ha)[14+i]? = (cellsOf xs++#[u,.bool st,.bool ha])[i]? := by
 have:=Array.getElem?_append_right (xs:=bkR r) (ys:=cellsOf xs++#[u,.bool st,.bool ha]) (i:=14+i) (Nat.le_add_right 14 i)
 rw [show 14+i-(bkR r).size=i from Nat.add_sub_cancel_left 14 i] at this
 exact this
theorem ww {i:Nat} (hi:i<xs.length):(cor r xs u st ha)[14+i]? = some (iv (el xs i)):=by
 rw [Lu,Array.getElem?_append_left (by rw [cellsOf_size];exact hi)]
 simp [cellsOf,el,hi]
theorem CJ (hl:xs.length=512) (i:Nat):(cor r xs u st ha)[14+(512+i)]? = (#[u,.bool st,.bool ha]:Array Value)[i]? := by
 rw [Lu,Array.getElem?_append_right (by rw [cellsOf_size,hl];omega),cellsOf_size,hl,Nat.add_sub_cancel_left]
theorem kQ (hl:xs.length=512):(cor r xs u st ha)[526]? = some u:=CJ hl 0
theorem Ll (hl:xs.length=512):(cor r xs u st ha)[527]? = some (.bool st):=CJ hl 1
theorem LC (hl:xs.length=512):(cor r xs u st ha)[528]? = some (.bool ha):=CJ hl 2
theorem Gt {i:Nat} (v:Int):(cellsOf xs).setIfInBounds i (iv v)=cellsOf (xs.set i v):=by
 simp [cellsOf,List.map_set]
theorem Ls {i:Nat} {z:Int} (hi:i<xs.length):(cor r xs u st ha).setIfInBounds (14+i) (iv z)=cor r (xs.set i z) u st ha:=by
 show (bkR r++_).setIfInBounds ((bkR r).size+i) _=_
 rw [set_right,set_left (by rw [cellsOf_size];exact hi),Gt]
 rfl
theorem Lm (hl:xs.length=512) (u':Value):(cor r xs u st ha).setIfInBounds 526 u'=cor r xs u' st ha:=by
 show (bkR r++_).setIfInBounds ((bkR r).size+512) _=_
 have e:=set_right (A:=cellsOf xs) (B:=#[u,.bool st,.bool ha]) 0 u'
 rw [cellsOf_size,hl] at e
 rw [set_right,show (512:Nat)=512+0 from rfl,e]
 rfl
theorem Lp (hl:xs.length=512) (s':Bool):(cor r xs u st ha).setIfInBounds 527 (.bool s')=cor r xs u s' ha:=by
 show (bkR r++_).setIfInBounds ((bkR r).size+513) _=_
 have e:=set_right (A:=cellsOf xs) (B:=#[u,.bool st,.bool ha]) 1 (.bool s')
 rw [cellsOf_size,hl] at e
 rw [set_right,show (513:Nat)=512+1 from rfl,e]
 rfl
theorem Lr {r':Pl.Rg} {i:Nat} {v:Value} (hi:i<14) (h:bkR r'=(bkR r).setIfInBounds i v):(cor r xs u st ha).setIfInBounds i v=cor r' xs u st ha:=by
 show (bkR r++_).setIfInBounds i v=_
 rw [set_left hi,←h]
 rfl
end
theorem Q9 {r:Pl.Rg} {k:Nat} (hk:k<4):(bkR r)[k]? = some (iv (el r.xs k))∧(bkR r)[4+k]? = some (iv (el r.ys k)):=by
 have:k=0∨k=1∨k=2∨k=3:=by omega
 rcases this with rfl|rfl|rfl|rfl<;>exact ⟨rfl,rfl⟩
def CBk (w:World) (b g cu:Nat) (c:Pl.Mc) (h:Bool):Prop:=Blk w b (cor c.r c.bx (.slice (some ⟨g,0,none⟩) c.bm cu) c.st h) 93
structure CLg (w:World) (lo b g cu:Nat) (bl:List Int) (bm:Nat):Prop where
 l:w.ownsRow lo 119 5 (.slice (some ⟨g,0,none⟩) bm cu) bm (bl.map (Value.int .i64))
 lo':lo≤b
 ne:b≠g
def CAt (w:World) (lo b g:Nat) (c:Pl.Mc) (h:Bool):Prop:=∃cu:Nat,CBk w b g cu c h∧CLg w lo b g cu c.bl c.bm
section
variable {w w':World} {lo b g cu:Nat} {c:Pl.Mc} {h:Bool} {bl:List Int} {bm:Nat}
theorem CLg.own (o:CLg w lo b g cu bl bm) (k:Kept b (b+1) w w'):CLg w' lo b g cu bl bm:=⟨dL o.l k (by have:=o.ne;omega),o.lo',o.ne⟩
theorem CLg.any (o:CLg w lo b g cu bl bm) (k:Kept 0 0 w w'):CLg w' lo b g cu bl bm:=⟨dL o.l k (by omega),o.lo',o.ne⟩
theorem CLg.lt (o:CLg w lo b g cu bl bm):lo≤g∧g<w.heap.size:=o.l.lt g rfl
theorem CAt.lt (a:CAt w lo b g c h):lo≤b∧b<w.heap.size∧lo≤g∧g<w.heap.size∧b≠g:=by
 obtain ⟨cu,hB,hO⟩:=a
 have:=hO.lt
 exact ⟨hO.lo',Blk.lt hB,this.1,this.2,hO.ne⟩
theorem CAt.any (a:CAt w lo b g c h) (k:Kept 0 0 w w'):CAt w' lo b g c h:=by
 obtain ⟨cu,hB,hO⟩:=a
 exact ⟨cu,Blk.af hB k,hO.any k⟩
theorem CAt.alloc (a:CAt w lo b g c h) (o:Obj):CAt (w.alloc o) lo b g c h:=a.any (kept_alloc w o)
theorem CAt.drew (a:CAt w lo b g c h):CAt w.drew lo b g c h:=a.any (ae (Kept.refl _ _ _))
theorem CAt.other (a:CAt w lo b g c h) (q i:Nat) (v:Value) (h1:q≠b) (h2:q≠g):CAt (w.setCell ⟨q,i,none⟩ v) lo b g c h:=by
 obtain ⟨cu,hB,hO⟩:=a
 have k:=ag (Kept.refl q (q+1) w) q i v (.inl (by omega))
 exact ⟨cu,Blk.kept hB k (by omega),⟨dL hO.l k (by omega),hO.lo',hO.ne⟩⟩
theorem CAt.kept {x y:Nat} (a:CAt w lo b g c h) (k:Kept x y w w') (h1:¬(x≤b∧b<y)) (h2:¬(x≤g∧g<y)):CAt w' lo b g c h:=by
 obtain ⟨cu,hB,hO⟩:=a
 exact ⟨cu,Blk.kept hB k h1,⟨dL hO.l k h2,hO.lo',hO.ne⟩⟩
theorem CAt.reg {r':Pl.Rg} (a:CAt w lo b g c h) {i:Nat} {v:Value} (hi:i<14) (e:bkR r'=(bkR c.r).setIfInBounds i v):CAt (w.setCell ⟨b,i,none⟩ v) lo b g (c.dB r') h:=by
 obtain ⟨cu,hB,hO⟩:=a
 refine ⟨cu,?_,hO.own (ak w b i v)⟩
 have:=Blk.set hB i v
 rw [Lr hi e] at this
 exact this
theorem CAt.zk (a:CAt w lo b g c h) (l4:c.r.xs.length=4) {k:Nat} (hk:k<4) (v:Int):CAt (w.setCell ⟨b,k,none⟩ (iv v)) lo b g (c.dB {c.r with xs:=c.r.xs.set k v}) h:=a.reg (by omega) (bkX l4 hk v)
theorem CAt.vz (a:CAt w lo b g c h) (l4:c.r.ys.length=4) {k:Nat} (hk:k<4) (v:Int):CAt (w.setCell ⟨b,4+k,none⟩ (iv v)) lo b g (c.fU k v) h:=a.reg (r':={c.r with ys:=c.r.ys.set k v}) (by omega) (bkY l4 hk v)
theorem CAt.aK (a:CAt w lo b g c h) (v:Int):CAt (w.setCell ⟨b,9,none⟩ (iv v)) lo b g (c.aK v) h:=a.reg (r':={c.r with p:=v}) (by omega) rfl
theorem CAt.aF (a:CAt w lo b g c h) (v:Int):CAt (w.setCell ⟨b,10,none⟩ (iv v)) lo b g (c.aF v) h:=a.reg (r':={c.r with f:=v}) (by omega) rfl
theorem CAt.Yf (a:CAt w lo b g c h) (l:c.bx.length=512) (v:Bool):CAt (w.setCell ⟨b,527,none⟩ (.bool v)) lo b g {c with st:=v} h:=by
 obtain ⟨cu,hB,hO⟩:=a
 refine ⟨cu,?_,hO.own (ak w b 527 (.bool v))⟩
 have:=Blk.set hB 527 (.bool v)
 rw [Lp l] at this
 exact this
theorem CAt.cX (a:CAt w lo b g c h) {k:Nat} (hk:k<4):w.cell? ⟨b,k,none⟩=some (iv (el c.r.xs k)):=by
 obtain ⟨cu,hB,hO⟩:=a
 exact Blk.cell hB ((yL (by omega)).trans (Q9 hk).1)
theorem CAt.cY (a:CAt w lo b g c h) {k:Nat} (hk:k<4):w.cell? ⟨b,4+k,none⟩=some (iv (el c.r.ys k)):=by
 obtain ⟨cu,hB,hO⟩:=a
 exact Blk.cell hB ((yL (by omega)).trans (Q9 hk).2)
theorem CAt.cR (a:CAt w lo b g c h) {i:Nat} {v:Value} (hi:i<14) (e:(bkR c.r)[i]? = some v):w.cell? ⟨b,i,none⟩=some v:=by
 obtain ⟨cu,hB,hO⟩:=a
 exact Blk.cell hB ((yL hi).trans e)
theorem CAt.cO (a:CAt w lo b g c h):w.cell? ⟨b,8,none⟩=some (iv c.r.o):=a.cR (by omega) rfl
theorem CAt.cP (a:CAt w lo b g c h):w.cell? ⟨b,9,none⟩=some (iv c.r.p):=a.cR (by omega) rfl
theorem CAt.cF (a:CAt w lo b g c h):w.cell? ⟨b,10,none⟩=some (iv c.r.f):=a.cR (by omega) rfl
theorem CAt.cM (a:CAt w lo b g c h):w.cell? ⟨b,11,none⟩=some (iv c.r.m):=a.cR (by omega) rfl
theorem CAt.cS (a:CAt w lo b g c h):w.cell? ⟨b,12,none⟩=some (.bool c.r.s):=a.cR (by omega) rfl
theorem CAt.cT (a:CAt w lo b g c h):w.cell? ⟨b,13,none⟩=some (.bool c.r.t):=a.cR (by omega) rfl
theorem CAt.cSt (a:CAt w lo b g c h) (l:c.bx.length=512):w.cell? ⟨b,527,none⟩=some (.bool c.st):=by
 obtain ⟨cu,hB,hO⟩:=a
 exact Blk.cell hB (Ll l)
theorem CAt.cH (a:CAt w lo b g c h) (l:c.bx.length=512):w.cell? ⟨b,528,none⟩=some (.bool h):=by
 obtain ⟨cu,hB,hO⟩:=a
 exact Blk.cell hB (LC l)
theorem CAt.fz (a:CAt w lo b g c h) (i:Nat):w.frozen? ⟨b,i,none⟩=false:=by
 obtain ⟨cu,hB,hO⟩:=a
 exact Blk.frozen hB i
end
theorem CAt.jl {w:World} {lo b g:Nat} {c:Pl.Mc} {h:Bool} (hC:CAt w lo b g c h) (op z r m k e s:Int):∃X:World,(w.alloc (.cells (inA op z r m k e s) 109)).alloc (.cells ftZ 49)=X∧Hid (Kept 0 0 w X)∧Hid (CAt X lo b g c h)∧Hid (Blk X w.heap.size (inA op z r m k e s) 109)∧Hid (Blk X (w.heap.size+1) ftZ 49)∧w.heap.size+1<X.heap.size:=by
 have R:=Blk.new (w.alloc (.cells (inA op z r m k e s) 109)) ftZ 49
 rw [World.size_alloc] at R
 exact ⟨_,rfl,hide ((kept_alloc w _).trans (kept_alloc _ _)),hide ((hC.alloc _).alloc _),hide ((Blk.new w (inA op z r m k e s) _).alloc _),hide R,R.lt⟩
theorem LQ (w:World) (lo b g:Nat) (c:Pl.Mc) (h:Bool) (z k v:Int) (hC:CAt w lo b g c h) (hg:Pl.Good c.r) (k0:0≤k) (k3:k≤3) (hz:z=1∨z=2) (hv:Pl.okv z v=true) :
  Calls prog 195 #[.pointer (some ⟨b,0,none⟩),iv z,iv k,iv v] w fun e w'=>e=.returned (.tuple #[])∧CAt w' lo b g (c.put z k v) h∧Kept b (b+1) w w':=by
 obtain ⟨n,rfl⟩:∃n:Nat,k=(n:Int):=⟨k.toNat,by omega⟩
 have hn:n<4:=by omega
 have ht:=Pl.aQ hv
 have HC:=hide hC
 have L4:=hide hg.d4
 have q0:=hC.cX hn
 have f0:=hC.fz n
 obtain ⟨x0,x1⟩:=hg.dw n hn
 have hk:=ak w b n
 have HK:=hide hk
 clear hC hg hk
 rcases hz with rfl|rfl
 ·have hb:=Aj x0 x1 (v:=v) (by omega) (by omega)
  clear hv ht
  go_enter func195,ntmps195
  go_wp2_with fail
  go_end0
  exact ⟨rfl,HC.o.zk L4.o hn _,HK.o _⟩
 ·clear hv ht
  go_enter func195,ntmps195
  go_wp2_with fail
  go_end0
  exact ⟨rfl,HC.o.zk L4.o hn _,HK.o _⟩
theorem Em (w:World) (lo b g:Nat) (c:Pl.Mc) (h:Bool) (n:Int) (hC:CAt w lo b g c h) (hg:Pl.Good c.r) (h0:0≤n) (h1:n≤1023) :
  Calls prog 92 #[.pointer (some ⟨b,0,none⟩),iv n] w fun e w'=>e=.returned (.tuple #[])∧CAt w' lo b g (c.dB (Pl.bQ c.r n)) h∧Kept b (b+1) w w':=by
 have e1:=QC h0 h1
 have e2:=QB h0 h1
 have e3:=Vr h0 h1
 have e4:=st7 h0 h1
 have HC:=hide hC
 have h4:=hide hg.a4
 have c7:w.cell? ⟨b,7,none⟩=some (iv (el c.r.ys 3)):=hC.cY (k:=3) (by omega)
 have c8:=hC.cO
 have c10:=hC.cF
 have c11:=hC.cM
 have c12:=hC.cS
 have c13:=hC.cT
 have fz:=hC.fz
 clear hC hg
 by_cases hs:Pl.dK n=c.r.s
 ·have q1:(Pl.dK n==c.r.s)=true:=by simp [hs]
  have E:Hid (Pl.bQ c.r n={c.r with s:=Pl.dK n,t:=Pl.fG n,m:=n/32%8,f:=n%32}):=hide (by unfold Pl.bQ;rw [if_pos hs])
  clear hs c7 c8
  go_enter func92,ntmps92
  go_wp2_with fail
  go_end0
  refine ⟨rfl,?_,(((ak _ _ _ _).one _ _).one _ _).one _ _⟩
  rw [E.o]
  exact (((HC.o.reg (r':={c.r with s:=Pl.dK n}) (i:=12) (v:=.bool (Pl.dK n)) (by omega) rfl).reg (r':={c.r with s:=Pl.dK n,t:=Pl.fG n}) (i:=13) (v:=.bool (Pl.fG n)) (by omega) rfl).reg (r':={c.r with s:=Pl.dK n,t:=Pl.fG n,m:=n/32%8}) (i:=11) (v:=iv (n/32%8)) (by omega) rfl).aF (n%32)
 ·have q1:(Pl.dK n==c.r.s)=false:=by simpa using hs
  have E:Hid (Pl.bQ c.r n={c.r with ys:=c.r.ys.set 3 c.r.o,o:=el c.r.ys 3,s:=Pl.dK n,t:=Pl.fG n,m:=n/32%8,f:=n%32}):=hide (by unfold Pl.bQ;rw [if_neg hs])
  clear hs
  go_enter func92,ntmps92
  go_wp2_with fail
  go_region
  go_wp2_with fail
  go_end0
  refine ⟨rfl,?_,ae ((((((ak _ _ _ _).one _ _).one _ _).one _ _).one _ _).one _ _)⟩
  obtain ⟨Y,hY⟩:∃Y,Y=c.r.ys.set 3 c.r.o:=⟨_,rfl⟩
  have a1:CAt (w.setCell ⟨b,7,none⟩ (iv c.r.o)) lo b g (c.dB {c.r with ys:=Y}) h:=by rw [hY];exact HC.o.vz h4.o (k:=3) (by omega) c.r.o
  rw [E.o,←hY]
  clear hY
  have a2:=a1.reg (r':={c.r with ys:=Y,o:=el c.r.ys 3}) (i:=8) (v:=iv (el c.r.ys 3)) (by omega) rfl
  have a3:=a2.reg (r':={c.r with ys:=Y,o:=el c.r.ys 3,s:=Pl.dK n}) (i:=12) (v:=.bool (Pl.dK n)) (by omega) rfl
  have a4:=a3.reg (r':={c.r with ys:=Y,o:=el c.r.ys 3,s:=Pl.dK n,t:=Pl.fG n}) (i:=13) (v:=.bool (Pl.fG n)) (by omega) rfl
  have a5:=a4.reg (r':={c.r with ys:=Y,o:=el c.r.ys 3,s:=Pl.dK n,t:=Pl.fG n,m:=n/32%8}) (i:=11) (v:=iv (n/32%8)) (by omega) rfl
  have a6:=a5.reg (r':={c.r with ys:=Y,o:=el c.r.ys 3,s:=Pl.dK n,t:=Pl.fG n,m:=n/32%8,f:=n%32}) (i:=10) (v:=iv (n%32)) (by omega) rfl
  exact a6.drew
theorem qF (a:Int) (w:World):Calls prog 177 #[iv a] w fun e w'=>e=.returned (.bool (Pl.addr a))∧w'=w:=by
 by_cases h0:0≤a
 all_goals
  by_cases h1:a≤65535
  all_goals
   go_enter func177,ntmps177
   go_wp2
   go_ret
   exact ⟨rB (by simp [Pl.addr,h0,h1]<;>omega),rfl⟩
theorem kP (a:Int) (w:World):Calls prog 176 #[iv a] w fun e w'=>e=.returned (.bool (Pl.eP a))∧w'=w:=by
 by_cases h0:1≤a
 all_goals
  by_cases h1:a≤3
  all_goals
   go_enter func176,ntmps176
   go_wp2
   go_ret
   exact ⟨rB (by simp [Pl.eP,h0,h1]<;>omega),rfl⟩
theorem zT (a:Int) (w:World) (h0:0≤a) (h1:a≤65535):Calls prog 210 #[iv a] w fun e w'=>e=.returned (.bool (decide (a%2=1)))∧w'=w:=by
 go_enter func210,ntmps210
 go_wp2
 go_ret
 refine ⟨rB ?_,rfl⟩
 rw [Bool.eq_iff_iff]
 simp
 omega
theorem partOf (a:Int) (w:World):Calls prog 211 #[iv a] w fun e w'=>e=.returned (iv (Pl.kind a))∧w'=w:=by
 by_cases h1:512≤a
 ·have E:Hid (Pl.kind a=1):=hide (by simp [Pl.kind,h1])
  go_enter func211,ntmps211
  go_wp2
  go_ret
  exact ⟨rI E.o.symm,rfl⟩
 ·by_cases h2:496≤a
  ·have E:Hid (Pl.kind a=0):=hide (by unfold Pl.kind;rw [if_neg (by omega),if_neg (by omega)])
   go_enter func211,ntmps211
   go_wp2
   go_ret
   exact ⟨rI E.o.symm,rfl⟩
  ·by_cases h3:448≤a
   ·have E:Hid (Pl.kind a=1):=hide (by unfold Pl.kind;rw [if_pos (by omega)])
    go_enter func211,ntmps211
    go_wp2
    go_ret
    exact ⟨rI E.o.symm,rfl⟩
   ·by_cases h4:384≤a
    ·have E:Hid (Pl.kind a=3):=hide (by unfold Pl.kind;rw [if_neg (by omega),if_pos (by omega)])
     go_enter func211,ntmps211
     go_wp2
     go_ret
     exact ⟨rI E.o.symm,rfl⟩
    ·have E:Hid (Pl.kind a=0):=hide (by unfold Pl.kind;rw [if_neg (by omega),if_neg (by omega)])
     go_enter func211,ntmps211
     go_wp2
     go_ret
     exact ⟨rI E.o.symm,rfl⟩
namespace Pl
def uo (k s a v c:Int):Bool:=okv s v&&(eP k&&(addr a&&(decide (0≤c)&&decide (c≤3))))
theorem qo (k s a v c:Int):gy k s a v c=(uo k s a v c && !((k==3)&&(c==0))):=by
 unfold gy uo
 rw [Bool.eq_iff_iff]
 simp only [Bool.and_eq_true,Bool.or_eq_true,Bool.not_eq_true',decide_eq_true_eq,bne_iff_ne,ne_eq,Bool.and_eq_false_iff,beq_eq_false_iff_ne]
 constructor
 ·rintro ⟨a1,a2,a3,a4,a5⟩;exact ⟨⟨a2,a1,a3,a4⟩,a5⟩
 ·rintro ⟨⟨a2,a1,a3,a4⟩,a5⟩;exact ⟨a1,a2,a3,a4,a5⟩
end Pl
theorem vO (k s a v c:Int) (w:World) (lo : -9223372036854775808≤v) (hi:v≤9223372036854775807):Calls prog 130 #[.agg #[iv k,iv s,iv a,iv v,iv c]] w fun e w'=>e=.returned (.bool (Pl.uo k s a v c))∧∃o,w'=w.alloc o:=by
 cases h1:Pl.okv s v
 ·go_enter func130,ntmps130
  go_wp2_with (first|(go_at_call 128;refine st (dG _ _ _ lo hi) ?_;rw [h1])|(go_at_call 176;refine st (kP _ _) ?_)|(go_at_call 177;refine st (qF _ _) ?_))
  go_ret
  exact ⟨rB (by unfold Pl.uo;rw [h1];rfl),_,rfl⟩
 ·cases h2:Pl.eP k
  ·go_enter func130,ntmps130
   go_wp2_with (first|(go_at_call 128;refine st (dG _ _ _ lo hi) ?_;rw [h1])|(go_at_call 176;refine st (kP _ _) ?_;rw [h2])|(go_at_call 177;refine st (qF _ _) ?_))
   go_ret
   exact ⟨rB (by unfold Pl.uo;rw [h1,h2];rfl),_,rfl⟩
  ·cases h3:Pl.addr a
   ·go_enter func130,ntmps130
    go_wp2_with (first|(go_at_call 128;refine st (dG _ _ _ lo hi) ?_;rw [h1])|(go_at_call 176;refine st (kP _ _) ?_;rw [h2])|(go_at_call 177;refine st (qF _ _) ?_;rw [h3]))
    go_ret
    exact ⟨rB (by unfold Pl.uo;rw [h1,h2,h3];rfl),_,rfl⟩
   ·cases h4:decide (0≤c)
    all_goals
     cases h5:decide (c≤3)
     all_goals
      go_enter func130,ntmps130
      go_wp2_with (first|(go_at_call 128;refine st (dG _ _ _ lo hi) ?_;rw [h1])|(go_at_call 176;refine st (kP _ _) ?_;rw [h2])|(go_at_call 177;refine st (qF _ _) ?_;rw [h3]))
      go_ret
      exact ⟨rB (by unfold Pl.uo;rw [h1,h2,h3,h4,h5];rfl),_,rfl⟩
theorem rM (k s a v c:Int) (w:World) (lo : -9223372036854775808≤v) (hi:v≤9223372036854775807):Calls prog 88 #[.agg #[iv k,iv s,iv a,iv v,iv c]] w fun e w'=>e=.returned (.bool (Pl.gy k s a v c))∧∃o p,w'=(w.alloc o).alloc p:=by
 cases h1:Pl.uo k s a v c
 ·go_enter func88,ntmps88
  go_wp2_with (go_at_call 130;refine (vO _ _ _ _ _ _ lo hi).mono ?_;rintro e w' ⟨rfl,o,rfl⟩;rw [h1])
  go_ret
  exact ⟨rB (by rw [Pl.qo,h1];rfl),_,_,rfl⟩
 ·cases h2:(k==3)
  ·go_enter func88,ntmps88
   go_wp2_with (go_at_call 130;refine (vO _ _ _ _ _ _ lo hi).mono ?_;rintro e w' ⟨rfl,o,rfl⟩;rw [h1])
   go_ret
   exact ⟨rB (by rw [Pl.qo,h1,h2];rfl),_,_,rfl⟩
  ·cases h3:(c==0)
   all_goals
    go_enter func88,ntmps88
    go_wp2_with (go_at_call 130;refine (vO _ _ _ _ _ _ lo hi).mono ?_;rintro e w' ⟨rfl,o,rfl⟩;rw [h1])
    go_ret
    exact ⟨rB (by rw [Pl.qo,h1,h2,h3];rfl),_,_,rfl⟩
theorem Yn (v:Int):Pl.okv 1 v=Pl.jF v:=by
 unfold Pl.okv Pl.jF Pl.top
 rw [Bool.eq_iff_iff];simp;omega
theorem isByte (v:Int) (w:World) (lo : -9223372036854775808≤v) (hi:v≤9223372036854775807) :
  Calls prog 129 #[iv v] w fun e w'=>e=.returned (.bool (Pl.jF v))∧w'=w:=by
 go_enter func129,ntmps129
 go_wp2_with (go_at_call 128;refine st (dG _ _ _ lo hi) ?_;rw [Yn])
 go_ret
 exact ⟨rfl,rfl⟩
theorem wI (w:World) (a:Option Addr) (ca:Nat) (xs:List Int) (ha:Came w a xs) (lx:xs.length≤2000000) :
  Calls prog 87 #[.slice a xs.length ca] w fun e w'=>e=.returned (.bool (Pl.bJ xs))∧w'=w:=by
 have HA:=hide ha
 clear ha
 go_enter func87,ntmps87
 go_wp2
 go_loop [4,7] (fun _ j=>∃k:Nat,k≤xs.length∧j=iv k∧∀i,i<k→Pl.jF (el xs i)=true) (fun _ j=>xs.length-(intOf j).toNat)
 case atStart=>exact ⟨0,Nat.zero_le _,rfl,fun i hi=>absurd hi (Nat.not_lt_zero i)⟩
 case round=>
  obtain ⟨k,hk,rfl,heq⟩:=hrel
  have HE:=hide heq
  clear heq
  by_cases hlt:k<xs.length
  ·obtain ⟨g1,o1,rfl,hc1⟩:=HA.o.1 k hlt
   obtain ⟨lo,hi⟩:=HA.o.2 k hlt
   rw [show xs[k]?.getD 0=el xs k from rfl] at hc1 lo hi
   cases hb:Pl.jF (el xs k)
   ·go_wp2_with (go_at_call 129;refine st (isByte _ _ lo hi) ?_;rw [hb])
    go_ret
    exact ⟨rB (Pl.wC hlt hb).symm,rfl⟩
   ·go_wp2_with (go_at_call 129;refine st (isByte _ _ lo hi) ?_;rw [hb])
    go_round
    case rel=>exact ⟨k+1,by omega,by go_num,kX HE.o hb⟩
    case measure=>simp [intOf];omega
  ·go_wp2
   go_ret
   exact ⟨rB (Pl.qR (fun i hi=>HE.o i (by omega))).symm,rfl⟩
theorem UQ.at5 {ys:List Int} (h:UQ ys) {m k:Nat} (hl:ys.length=5*m) (hk:k<m) : -9223372036854775808≤el ys (k*5+3)∧el ys (k*5+3)≤9223372036854775807:=h (k*5+3) (by omega)
theorem fK (w:World) (a b:Option Addr) (ca cb m:Nat) (xs ys:List Int) (ha:Came w a xs) (hb:Came w b ys) (lx:xs.length≤2000000) (ly:ys.length=5*m) (bm:m≤2000000) :
  Calls prog 54 #[.agg #[.slice a xs.length ca,.slice b m cb]] w fun e w'=>e=.returned (.bool (Pl.fK xs ys m))∧Kept 0 0 w w':=by
 have HA:=hide ha
 have HB:=hide hb
 have HY:=hide ly
 have HK0:=hide (kept_alloc w (.cells #[.slice a xs.length ca,.slice b m cb] 34))
 clear ha hb ly
 cases h1:((xs.length:Int) != 512)
 ·have hl5:xs.length=512:=by simp at h1;omega
  have G:Hid (Pl.fK xs ys m=(Pl.jH ys m&&(Pl.bJ xs&&decide (m≤400)))):=hide (by
   unfold Pl.fK
   rw [show decide (xs.length=512)=true from by simp [hl5],Bool.true_and])
  clear hl5
  cases h2:Pl.bJ xs
  ·go_enter func54,ntmps54
   go_wp2_with (go_at_call 87;refine st (wI _ a ca xs (HA.o.ai HK0.o) lx) ?_;rw [h2])
   go_ret
   exact ⟨rB (by rw [G.o,h2,Bool.false_and,Bool.and_false]),HK0.o⟩
  ·cases h3:decide ((400:Int)<(m:Int))
   ·go_enter func54,ntmps54
    go_wp2_with (first|(go_at_call 87;refine st (wI _ a ca xs (HA.o.ai HK0.o) lx) ?_;rw [h2])|fail)
    obtain ⟨W,hW⟩:∃W:World,W=w.alloc (.cells #[.slice a xs.length ca,.slice b m cb] 34):=⟨_,rfl⟩
    rw [←hW] at HK0 ⊢
    clear hW
    go_loopw [4,24] (fun _ j wr=>∃k:Nat,k≤m∧j=iv k∧(∀i,i<k→Pl.sD ys i=true)∧Kept 0 0 W wr) (fun _ j _=>m-(intOf j).toNat)
    case atStart=>exact ⟨0,Nat.zero_le _,rfl,fun i hi=>absurd hi (Nat.not_lt_zero i),Kept.refl _ _ _⟩
    case round=>
     obtain ⟨k,hk,rfl,heq,hkept⟩:=hrel
     have HE:=hide heq
     have HK:=hide hkept
     clear heq hkept
     by_cases hlt:k<m
     ·obtain ⟨lo,hi⟩:=HB.o.2.at5 HY.o hlt
      obtain ⟨g1,o1,rfl,p0,p1,p2,p3,p4⟩:=((HB.o.ai (HK0.o.trans HK.o)).1).five HY.o hlt
      cases hb:Pl.sD ys k
      ·have hb2:Pl.gy (el ys (k*5)) (el ys (k*5+1)) (el ys (k*5+2)) (el ys (k*5+3)) (el ys (k*5+4))=false:=hb
       clear hb
       go_wp2_with (go_at_call 88;refine (rM _ _ _ _ _ _ lo hi).mono ?_;rintro e w' ⟨rfl,o,p,rfl⟩;rw [hb2])
       go_ret
       exact ⟨rB (by unfold Pl.fK;rw [Pl.xC hlt hb2];rfl),HK0.o.trans (ah (ah (ah HK.o _) _) _)⟩
      ·have hb2:Pl.gy (el ys (k*5)) (el ys (k*5+1)) (el ys (k*5+2)) (el ys (k*5+3)) (el ys (k*5+4))=true:=hb
       clear hb
       go_wp2_with (go_at_call 88;refine (rM _ _ _ _ _ _ lo hi).mono ?_;rintro e w' ⟨rfl,o,p,rfl⟩;rw [hb2])
       go_roundw
       case rel=>exact ⟨k+1,by omega,by go_num,kX HE.o hb2,ah (ah (ah HK.o _) _) _⟩
       case measure=>simp [intOf];omega
     ·have HA1:Hid (Pl.jH ys m=true):=hide (Pl.xB (fun i hi=>HE.o i (by omega)))
      go_wp2_with fail
      go_ret
      refine ⟨rB ?_,HK0.o.trans HK.o⟩
      rw [G.o,HA1.o,h2]
      simp at h3
      simp;omega
   ·go_enter func54,ntmps54
    go_wp2_with (go_at_call 87;refine st (wI _ a ca xs (HA.o.ai HK0.o) lx) ?_;rw [h2])
    go_ret
    refine ⟨rB ?_,HK0.o⟩
    rw [G.o]
    simp at h3
    rw [show decide (m≤400)=false from by simp;omega]
    simp
 ·have hl5:Hid (¬xs.length=512):=hide (by simp at h1;omega)
  go_enter func54,ntmps54
  go_wp2_with (go_at_call 87;fail)
  go_ret
  refine ⟨rB ?_,HK0.o⟩
  unfold Pl.fK
  rw [show decide (xs.length=512)=false from by simp [hl5.o]]
  simp
def zeros:List Int:=List.replicate 512 0
theorem fQ:zeros.length=512:=List.length_replicate ..
theorem Tryz.DX:(prog.info? 88).map (fun i=>(i.zero,i.size))=some (some (.agg (cellsOf zeros)),512):=by kernel_rfl
theorem Tryz.Oi:∀w,(zeroValue 88).run prog w=.ok (.agg (cellsOf zeros)) w:=(zero_of_info Tryz.DX).1
theorem Tryz.yc:(prog.info? 88).map (·.size)=some 512:=(zero_of_info Tryz.DX).2
theorem Ja (w : World) (a b : Option Addr) (ca cb m : Nat) (xs : List Int) (ha : aJ w a xs) (lx : xs.length = 512) :
    Calls prog 89 #[.agg #[.slice a xs.length ca, .slice b m cb]] w fun e w' => e = .returned (.agg (cellsOf xs)) ∧ Kept 0 0 w w' := by
  obtain ⟨ga, oa, rfl, _⟩ := ha 0 (by omega)
  have HA := hide ha
  have HX := hide lx
  clear ha lx
  have mz := Tryz.Oi
  have HS : Hid ((prog.info? 3).map (·.size) = some 1) := hide (by kernel_rfl)
  go_enter func89, ntmps89
  go_wp2_with fail
  have K := hide (ah (ah (kept_alloc w (.cells #[.slice (some ⟨ga, oa, none⟩) xs.length ca, .slice b m cb] 34)) (.cells (cellsOf zeros) 88)) (.cells (cellsOf zeros) 88))
  have B0 := (((Blk.new w #[.slice (some ⟨ga, oa, none⟩) xs.length ca, .slice b m cb] 34).alloc (.cells (cellsOf zeros) 88)).alloc (.cells (cellsOf zeros) 88))
  have B1 := ((Blk.new (w.alloc (.cells #[.slice (some ⟨ga, oa, none⟩) xs.length ca, .slice b m cb] 34)) (cellsOf zeros) 88).alloc (.cells (cellsOf zeros) 88))
  have B2 := Blk.new ((w.alloc (.cells #[.slice (some ⟨ga, oa, none⟩) xs.length ca, .slice b m cb] 34)).alloc (.cells (cellsOf zeros) 88)) (cellsOf zeros) 88
  simp only [World.size_alloc] at B1 B2
  obtain ⟨W, hW⟩ : ∃ W : World, W = (((w.alloc (.cells #[.slice (some ⟨ga, oa, none⟩) xs.length ca, .slice b m cb] 34)).alloc (.cells (cellsOf zeros) 88)).alloc (.cells (cellsOf zeros) 88)) := ⟨_, rfl⟩
  rw [← hW] at K B0 B1 B2 ⊢
  clear hW
  have p0 := B0.cell (i := 0) rfl
  have H1 := hide B1
  have H2 := hide B2
  clear B0 B1 B2
  have HZ : Hid ((prog.info? 88).map (·.size) = some (cellsOf xs).size) := hide (by rw [cellsOf_size, HX.o]; exact Tryz.yc)
  have HZ2 : Hid ((cellsOf zeros).size = (cellsOf xs).size) := hide (by rw [cellsOf_size, cellsOf_size, HX.o, fQ])
  have HN : Hid ((xs.map (Value.int .i64)).length = Nat.min xs.length 512) := hide (by rw [HX.o]; simp [HX.o])
  have HF : Hid (0 + (xs.map (Value.int .i64)).length ≤ (zeros.map (Value.int .i64)).length) := hide (by simp [HX.o, fQ])
  go_region_law (refine step_copy_splice rfl (.tmp 4) (.tmp 6) 22 22 rfl 3 underlying22 HS.o _ _ _ _ _ _ rfl rfl (w.heap.size + 1 + 1) 0 (zeros.map (Value.int .i64)) 88 ?hg (xs.map (Value.int .i64)) HN.o ?hpos HF.o iL (w.heap.size + 1 + 1) W ?hb (Nat.le_refl _) ?_
                 (case hg => exact H2.o)
                 (case hb => exact (Below.refl _ W).drew)
                 (case hpos => intro _; exact ⟨rfl, _, rfl, iU (HA.o.ai (ae K.o))⟩)
                 intro w4 hg4 hb4)
  all_goals
    have D2 : Hid (Blk w4 (w.heap.size + 1 + 1) (cellsOf xs) 88) := hide (by
      have h := hg4.o
      rw [AZ (by simp [HX.o, fQ])] at h
      exact h)
    have D1 : Hid (Blk w4 (w.heap.size + 1) (cellsOf zeros) 88) := hide ((hb4.block _ (by omega)).trans H1.o)
    have K4 : Hid (Kept 0 0 w w4) := hide (dJ K.o hb4 (by omega))
    clear hg4 hb4
    go_wp2_with (first | (refine wpList_load_row rfl 88 (.tmp 3) rfl (w.heap.size + 1 + 1) rfl 88 (cellsOf xs) (0, 0) _ D2.o underlying88 rfl HZ.o ?_) | (refine wpList_store_row rfl 88 (.tmp 2) (.tmp 8) rfl (w.heap.size + 1) (cellsOf xs) rfl rfl 88 (cellsOf zeros) D1.o HZ.o HZ2.o (uu xs) ?_))
    refine bodyPost_ret (v := .agg (cellsOf xs)) ?_ rfl ⟨rfl, lN K4.o _ _ (by omega)⟩
    exact results_cell_row rfl _ _ _ _ _ (0, 0) _ rfl D1.o.setRow underlying88 rfl HZ.o
theorem Ol (w:World) (xs:List Int) (lx:xs.length=512) :
  Calls prog 98 #[.agg (cellsOf xs)] w fun e w'=>∃g:Nat,e=.returned (.slice (some ⟨g,0,none⟩) 512 512)∧Blk w' g (cellsOf xs) 3∧w.heap.size≤g∧Kept 0 0 w w':=by
 obtain ⟨i,hi,hz0,hz1,hz2⟩:=info_parts Tryz.info3
 have HS:Hid ((prog.info? 3).map (·.size)=some 1):=hide (by kernel_rfl)
 have HX:=hide lx
 clear lx
 go_enter func98,ntmps98
 go_wp2_with (first|(at_make;refine wpList_make_full _ rfl _ _ 22 rfl w.heap.size 3 i (iv 0) 1 underlying22 hi hz0 hz1 _ _ _ _ 512 rfl rfl rfl rfl ?c1 ?c2 ?c3 ?_))
 case c1=>rw [hz2];decide
 case c2=>unfold maxLen;decide
 case c3=>simp
 intro w1 hown hg
 have K1:=hide ((kept_alloc w (.cells (cellsOf xs) 88)).trans (bU hg))
 have B0:=hide ((Blk.new w (cellsOf xs) 88).af (bU hg))
 have B1:Hid (Blk w1 (w.heap.size+1) (cellsOf zeros) 3):=hide (by
  have h:=wE hown
  have e:(madeCells #[Value.int .i64 0] 512).toList=zeros.map (Value.int .i64):=by
   rw [toList_madeCells_one,zeros,List.map_replicate]
  rw [e] at h
  exact h)
 clear hown hg
 have HR:Hid (aJ w1 (some ⟨w.heap.size,0,none⟩) xs):=hide (jQ B0.o).row
 have hcopy:(Builtin.copy_ #[22,22] 3 #[.slice (some ⟨w.heap.size+1,0,none⟩) 512 512,.slice (some ⟨w.heap.size,0,none⟩) 512 512]).run prog w1=.ok (iv 512) (w1.setRow (w.heap.size+1) (cellsOf xs)):=by
  have h:=run_copy_row prog w1 22 22 3 3 (w.heap.size+1) 0 512 512 ⟨w.heap.size,0,none⟩ 512 512 (cellsOf zeros) 3 (xs.map (Value.int .i64)) underlying22 HS.o B1.o (by simp [HX.o]) (iU HR.o) (by simp [HX.o,cellsOf_size,fQ]) iL
  rw [h]
  have e:(List.take 0 (cellsOf zeros).toList++xs.map (Value.int .i64)++List.drop (0+(xs.map (Value.int .i64)).length) (cellsOf zeros).toList)=xs.map (Value.int .i64):=by
   rw [List.drop_eq_nil_of_le (by simp [HX.o,cellsOf_size,fQ])];simp
  rw [e,show (xs.map (Value.int .i64)).length=512 by simp [HX.o]]
  rfl
 go_wp2_with fail
 have hl:=B1.o.lt
 refine bodyPost_ret (results_tmp rfl _ _ _) rfl ⟨w.heap.size+1,rfl,B1.o.setRow,by omega,lN K1.o _ _ (by omega)⟩
theorem DI (w:World) (xs:List Int) (s n:Nat) (lx:xs.length=512) (hb:Pl.bJ xs=true) (s0:1≤s) (s1:s≤2) (hn:n+s≤512) :
  Calls prog 213 #[.agg (cellsOf xs),iv s,iv n] w fun e w'=>e=.returned (iv (Pl.rd xs s n))∧Kept 0 0 w w':=by
 have HX:=hide lx
 have HO:=hide (jQ (Blk.new w (cellsOf xs) 88))
 have HK:=hide (kept_alloc w (.cells (cellsOf xs) 88))
 have HB:=hide hb
 have HS0:=hide s0
 have HN:Hid (n+s≤512):=hide hn
 clear lx hb
 have hsl:∀W:World,(Instr.sliceAt 88 (.pointer (some ⟨w.heap.size,0,none⟩)) (some (iv (n:Int))) (some (iv ((n:Int)+(s:Int)))) none).run prog W=.ok (.slice (some ⟨w.heap.size,n,none⟩) s (512-n)) W:=by
  intro W
  have hlen:prog.arrayLen 88=512:=by kernel_rfl
  have hel:prog.elem 88=3:=by kernel_rfl
  have ht:prog.underlying 88=some (.array (prog.arrayLen 88) (prog.elem 88)):=by kernel_rfl
  obtain ⟨i,hi,hz0,hz1,hz2⟩:=info_parts Tryz.info3
  rw [run_sliceAt_array_lh W 88 _ ht .i64 .i64 n ((n:Int)+(s:Int)) (by omega) (by omega) (by rw [hlen];omega),hlen,hel]
  have e1:((n:Int)).toNat=n:=by omega
  have e2:((n:Int)+(s:Int)).toNat-n=s:=by omega
  have q1:¬512=n:=by omega
  simp only [sizeOf,typeInfo,Sem.run_bind,Sem.run_pure,slicedAt,e1,e2,q1,if_false]
  simp [hi,hz1,Addr.add]
  intro h0;exact h0.symm
 go_enter func213,ntmps213
 go_wp2_with fail
 go_loop [7,9,16] (fun v _ j=>∃k:Nat,k≤s∧j=iv k∧v=iv (Pl.rdK xs n k)) (fun _ _ j=>s-(intOf j).toNat)
 case atStart=>exact ⟨0,Nat.zero_le _,rfl,rfl⟩
 case round=>
  obtain ⟨k,hk,rfl,rfl⟩:=hrel
  by_cases hlt:k<s
  ·obtain ⟨hc,_⟩:=HO.o (n+k) (by rw [HX.o];omega)
   have b0:=Pl.dW HB.o n (by rw [HX.o];omega)
   have b1:=Pl.dW HB.o (n+k) (by rw [HX.o];omega)
   rw [show xs[n+k]?.getD 0=el xs (n+k) from rfl] at hc
   obtain ⟨b00,b01⟩:=b0
   obtain ⟨b10,b11⟩:=b1
   by_cases hk0:k=0
   ·subst hk0
    have hor:=Pl.uB (h:=0) (by decide) (by decide) b10 b11
    rw [Int.zero_mul,Int.zero_add] at hor
    rw [Nat.add_zero] at hc hor b10 b11
    rw [show Pl.rdK xs n 0=0 from rfl]
    go_wp2
    go_round
    case rel=>exact ⟨1,by omega,rfl,rfl⟩
    case measure=>simp [intOf];omega
   ·obtain rfl:k=1:=by omega
    have hor:=Pl.uB b00 b01 b10 b11
    rw [show Pl.rdK xs n 1=el xs n from rfl]
    go_wp2
    go_round
    case rel=>exact ⟨2,by omega,rfl,rfl⟩
    case measure=>simp [intOf];omega
  ·have E:Hid (Pl.rdK xs n k=Pl.rd xs s n):=hide (by
    have:k=1∨k=2:=by omega
    unfold Pl.rdK Pl.rd
    rcases this with rfl|rfl
    ·rw [if_neg (by decide),if_pos rfl,if_pos (by omega)]
    ·rw [if_neg (by decide),if_neg (by decide),if_neg (by omega)])
   go_wp2
   go_ret
   exact ⟨rI E.o,HK.o⟩
theorem codeOf (k s a v c:Int) (w:World) (hs:s=1∨s=2) (a0:0≤a) (a1:a≤65535) :
  Calls prog 178 #[.agg #[iv k,iv s,iv a,iv v,iv c]] w fun e w'=>e=.returned (iv (Pl.code k s a))∧∃o,w'=w.alloc o:=by
 have G:Hid (Pl.code k s a=if ((s==2)&&decide (a%2=1)) then 2 else if ((Pl.kind a==3)&&(k != 2)) then 0 else Pl.kind a):=hide (by
  rw [Pl.Gs hs]
  simp only [Bool.and_eq_true,beq_iff_eq,decide_eq_true_eq,bne_iff_ne,ne_eq])
 cases h1:(s==2)
 ·cases h3:(Pl.kind a==3)
  ·rw [h1,h3] at G
   go_enter func178,ntmps178
   go_wp2_with (first|(go_at_call 210;refine st (zT _ _ a0 a1) ?_)|(go_at_call 211;refine st (partOf _ _) ?_))
   go_ret
   exact ⟨rI (by rw [G.o];simp),_,rfl⟩
  ·cases h4:(k != 2)
   all_goals
    rw [h1,h3,h4] at G
    go_enter func178,ntmps178
    go_wp2_with (first|(go_at_call 210;refine st (zT _ _ a0 a1) ?_)|(go_at_call 211;refine st (partOf _ _) ?_))
    go_ret
    exact ⟨rI (by rw [G.o];simp),_,rfl⟩
 ·cases h2:decide (a%2=1)
  ·cases h3:(Pl.kind a==3)
   ·rw [h1,h2,h3] at G
    go_enter func178,ntmps178
    go_wp2_with (first|(go_at_call 210;refine st (zT _ _ a0 a1) ?_;rw [h2])|(go_at_call 211;refine st (partOf _ _) ?_))
    go_ret
    exact ⟨rI (by rw [G.o];simp),_,rfl⟩
   ·cases h4:(k != 2)
    all_goals
     rw [h1,h2,h3,h4] at G
     go_enter func178,ntmps178
     go_wp2_with (first|(go_at_call 210;refine st (zT _ _ a0 a1) ?_;rw [h2])|(go_at_call 211;refine st (partOf _ _) ?_))
     go_ret
     exact ⟨rI (by rw [G.o];simp),_,rfl⟩
  ·rw [h1,h2] at G
   go_enter func178,ntmps178
   go_wp2_with (first|(go_at_call 210;refine st (zT _ _ a0 a1) ?_;rw [h2])|(go_at_call 211;refine st (partOf _ _) ?_))
   go_ret
   exact ⟨rI (by rw [G.o];simp),_,rfl⟩
theorem Jb (w:World) (xs:List Int) (s:Int) (n:Nat) (lx:xs.length=512) (hb:Pl.bJ xs=true) (hs:s=1∨s=2) (hn:(n:Int)+s≤512) :
  Calls prog 213 #[.agg (cellsOf xs),iv s,iv n] w fun e w'=>e=.returned (iv (Pl.rd xs s n))∧Kept 0 0 w w':=by
 rcases hs with rfl|rfl
 ·exact DI w xs 1 n lx hb (by decide) (by decide) (by omega)
 ·exact DI w xs 2 n lx hb (by decide) (by decide) (by omega)
theorem YA {w:World} {q:Nat} {k s a v c:Int} {ty:TypeId} (h:Blk w q #[iv k,iv s,iv a,iv v,iv c] ty):w.cell? ⟨q,1,none⟩=some (iv s)∧w.cell? ⟨q,2,none⟩=some (iv a)∧w.cell? ⟨q,3,none⟩=some (iv v):=
 ⟨h.cell (i:=1) rfl,h.cell (i:=2) rfl,h.cell (i:=3) rfl⟩
theorem WX {w:World} {q:Nat} {k s a v c:Int} {ty:TypeId} (h:Blk w q #[iv k,iv s,iv a,iv v,iv c] ty):w.cell? ⟨q,1,none⟩=some (iv s)∧w.cell? ⟨q,2,none⟩=some (iv a):=
 ⟨h.cell (i:=1) rfl,h.cell (i:=2) rfl⟩
namespace Pl
theorem VF {xs:List Int} {s:Int} {i:Nat} (hb:bJ xs=true) (hs:s=1∨s=2) (hi:(i:Int)+s≤xs.length):0≤rd xs s i∧rd xs s i≤(if s=1 then 255 else 65535):=by
 unfold rd
 rcases hs with rfl|rfl
 ·rw [if_pos rfl,if_pos rfl];exact dW hb i (by omega)
 ·rw [if_neg (by decide),if_neg (by decide)]
  have:=dW hb i (by omega)
  have:=dW hb (i+1) (by omega)
  omega
theorem PH (k s a:Int):0≤code k s a∧code k s a≤3:=by
 unfold code
 repeat' split
 all_goals omega
theorem QO {xs:List Int} {k s a v:Int} (hl:xs.length=512) (hb:bJ xs=true) (h:gq k s a v=true):0≤lv xs k s a v∧lv xs k s a v≤(if s=1 then 255 else 65535):=by
 obtain ⟨_,hs,v0,⟨a0,a1⟩,_⟩:=qW h
 unfold lv
 split
 ·rename_i hc
  have:=rX hc.1 a0
  exact VF hb (by omega) (by omega)
 ·rcases hs with ⟨rfl,h1⟩|⟨rfl,h1⟩
  ·rw [if_pos rfl];omega
  ·rw [if_neg (by decide)];omega
theorem MN {xs:List Int} {k s a v:Int} (hl:xs.length=512) (hb:bJ xs=true) (h:gq k s a v=true):gy k s a (lv xs k s a v) (code k s a)=((k != 3)||(code k s a != 0)):=by
 have hv:=QO hl hb h
 have hc:=PH k s a
 obtain ⟨hk,hs,_,⟨a0,a1⟩,_⟩:=qW h
 have e1:eP k=true:=by simp [eP];omega
 have e2:okv s (lv xs k s a v)=true:=by
  unfold okv top
  rcases hs with ⟨rfl,_⟩|⟨rfl,_⟩
  ·rw [if_pos rfl] at hv;simp;omega
  ·rw [if_neg (by decide)] at hv;simp;omega
 have e3:addr a=true:=by simp [addr];omega
 have e4:(decide (0≤code k s a)&&decide (code k s a≤3))=true:=by simp;omega
 unfold gy
 rw [e1,e2,e3,e4]
 rfl
end Pl
theorem Blk.Ia {w:World} {b:Nat} {r:Pl.Rg} {st ha:Bool} {xs:List Int} {u:Value} {ty:TypeId} (h:Blk w b (cor r xs u st ha) ty) {i:Nat} (hi:i<xs.length) (z:Int):Blk (w.setCell ⟨b,14+i,none⟩ (iv z)) b (cor r (xs.set i z) u st ha) ty:=by
 have:=h.set (14+i) (iv z)
 rwa [Ls hi] at this
theorem Blk.Vs {w:World} {b:Nat} {r:Pl.Rg} {st ha:Bool} {xs:List Int} {u:Value} {ty:TypeId} (h:Blk w b (cor r xs u st ha) ty) (hl:xs.length=512) (u':Value):Blk (w.setCell ⟨b,526,none⟩ u') b (cor r xs u' st ha) ty:=by
 have:=h.set 526 u'
 rwa [Lm hl] at this
theorem Gp {w:World} {b:Nat} {r:Pl.Rg} {st ha:Bool} {xs:List Int} {u:Value} {ty:TypeId} (h:Blk w b (cor r xs u st ha) ty) (lx:xs.length=512):w.rangeAt b 14 (xs.map (Value.int .i64))∧w.cell? ⟨b,526,none⟩=some u:=by
 refine ⟨?_,h.cell (kQ lx)⟩
 intro j v hv
 have hj:j<xs.length:=by
  rcases Nat.lt_or_ge j xs.length with h'|h'
  ·exact h'
  ·rw [List.getElem?_eq_none (by simpa using h')] at hv;cases hv
 refine h.cell ?_
 rw [ww hj]
 simpa [el,hj] using hv
theorem CU (w:World) {R:Pl.Rg} {ST HA:Bool} (b:Nat) (u:Value) (ty:TypeId) (xs:List Int) (n:Nat) (v:Int) (hB:Blk w b (cor R xs u ST HA) ty) (lx:xs.length=512) (hn:n+1≤512) (v0:0≤v) (v1:v≤255) :
  Calls prog 212 #[.pointer (some ⟨b,14,none⟩),iv 1,iv n,iv v] w fun e w'=>e=.returned (.tuple #[])∧Blk w' b (cor R (xs.set n v) u ST HA) ty∧Kept b (b+1) w w':=by
 have HB:=hide hB
 have LX:=hide lx
 have c0:=hB.cell (ww (r:=R) (u:=u) (st:=ST) (ha:=HA) (i:=n) (by omega))
 have f0:=hB.frozen (14+n)
 have e255:=Pl.dP v
 have e0:v%256=v:=by omega
 rw [e0] at e255
 have i0:(0:Int)≤(n:Int):=by omega
 have i1:(n:Int)<512:=by omega
 clear hB lx e0
 go_enter func212,ntmps212
 go_wp2_with fail
 go_loopw [3,8] (fun x i wr=>(i=iv n∧x=iv v∧wr=w)∨(i=iv ((n:Int)-1)∧Blk wr b (cor R (xs.set n v) u ST HA) ty∧Kept b (b+1) w wr)) (fun _ i _=>(intOf i-n+1).toNat)
 case atStart=>exact .inl ⟨by go_num,rfl,rfl⟩
 case round=>
  rcases hrel with ⟨rfl,rfl,rfl⟩|⟨rfl,hb,hk⟩
  ·go_wp2
   go_roundw
   case rel=>exact .inr ⟨rfl,HB.o.Ia (by rw [LX.o];omega) v,ag (Kept.refl _ _ _) _ _ _ (.inl (by omega))⟩
   case measure=>simp [intOf];omega
  ·have HB2:=hide hb
   have HK2:=hide hk
   clear hb hk
   have hd:decide ((n:Int)≤(n:Int)-1)=false:=by simp;omega
   go_wp2
   go_end0
   exact ⟨rfl,HB2.o,HK2.o⟩
theorem CS (w:World) {R:Pl.Rg} {ST HA:Bool} (b:Nat) (u:Value) (ty:TypeId) (xs:List Int) (n:Nat) (v:Int) (hB:Blk w b (cor R xs u ST HA) ty) (lx:xs.length=512) (hn:n+2≤512) (v0:0≤v) (v1:v≤65535) :
  Calls prog 212 #[.pointer (some ⟨b,14,none⟩),iv 2,iv n,iv v] w fun e w'=>e=.returned (.tuple #[])∧Blk w' b (cor R ((xs.set n (v/256)).set (n+1) (v%256)) u ST HA) ty∧Kept b (b+1) w w':=by
 have HB:=hide hB
 have LX:=hide lx
 have c1:=hB.cell (ww (r:=R) (u:=u) (st:=ST) (ha:=HA) (i:=n+1) (by omega))
 have f1:=hB.frozen (14+(n+1))
 have e255:=Pl.dP v
 have e256:=Pl.dP (v/256)
 have e0:v/256%256=v/256:=by omega
 rw [e0] at e256
 have i0:(0:Int)≤(n:Int):=by omega
 have i1:(n:Int)+1<512:=by omega
 have i2:(0:Int)≤(n:Int)+1:=by omega
 have i3:(n:Int)<512:=by omega
 clear hB lx e0
 go_enter func212,ntmps212
 go_wp2_with fail
 go_loopw [3,8] (fun x i wr=>(i=iv ((n:Int)+1)∧x=iv v∧wr=w)∨(i=iv n∧x=iv (v/256)∧Blk wr b (cor R (xs.set (n+1) (v%256)) u ST HA) ty∧Kept b (b+1) w wr)∨(i=iv ((n:Int)-1)∧Blk wr b (cor R ((xs.set (n+1) (v%256)).set n (v/256)) u ST HA) ty∧Kept b (b+1) w wr)) (fun _ i _=>(intOf i-n+1).toNat)
 case atStart=>exact .inl ⟨by go_num,rfl,rfl⟩
 case round=>
  rcases hrel with ⟨rfl,rfl,rfl⟩|⟨rfl,rfl,hb,hk⟩|⟨rfl,hb,hk⟩
  ·go_wp2
   go_roundw
   case rel=>exact .inr (.inl ⟨by go_num,by go_num,HB.o.Ia (by rw [LX.o];omega) _,ag (Kept.refl _ _ _) _ _ _ (.inl (by omega))⟩)
   case measure=>simp [intOf];omega
  ·have HB2:=hide hb
   have HK2:=hide hk
   have c0:=hb.cell (ww (r:=R) (u:=u) (st:=ST) (ha:=HA) (i:=n) (by rw [List.length_set,LX.o];omega))
   have f0:=hb.frozen (14+n)
   clear hb hk c1 f1
   go_wp2
   go_roundw
   case rel=>exact .inr (.inr ⟨rfl,HB2.o.Ia (by rw [List.length_set,LX.o];omega) _,ag HK2.o _ _ _ (.inl (by omega))⟩)
   case measure=>simp [intOf];omega
  ·have HB2:=hide hb
   have HK2:=hide hk
   clear hb hk
   have hd:decide ((n:Int)≤(n:Int)-1)=false:=by simp;omega
   go_wp2
   go_end0
   refine ⟨rfl,?_,HK2.o⟩
   have h:=HB2.o
   rw [List.set_comm _ _ (by omega)] at h
   exact h
theorem Gy (w:World) {R:Pl.Rg} {ST HA:Bool} (b:Nat) (u:Value) (ty:TypeId) (xs:List Int) (s:Int) (n:Nat) (v:Int) (hB:Blk w b (cor R xs u ST HA) ty) (lx:xs.length=512) (hs:(s=1∧v≤255)∨(s=2∧v≤65535)) (hn:(n:Int)+s≤512) (v0:0≤v) :
  Calls prog 212 #[.pointer (some ⟨b,14,none⟩),iv s,iv n,iv v] w fun e w'=>e=.returned (.tuple #[])∧Blk w' b (cor R (Pl.wr xs s n v) u ST HA) ty∧Kept b (b+1) w w':=by
 rcases hs with ⟨rfl,hv⟩|⟨rfl,hv⟩
 ·exact CU w b u ty xs n v hB lx (by omega) v0 hv
 ·exact CS w b u ty xs n v hB lx (by omega) v0 hv
theorem Ah (w:World) {R:Pl.Rg} {ST HA:Bool} (b q:Nat) (u:Value) (xs:List Int) (s:Int) (n:Nat) (v c:Int) (hB:Blk w b (cor R xs u ST HA) 93) (hQ:Blk w q #[iv 2,iv s,iv n,iv v,iv c] 119) (lx:xs.length=512) (hs:(s=1∧v≤255)∨(s=2∧v≤65535)) (hn:(n:Int)+s≤512) (v0:0≤v) (hne:q≠b) :
  Calls prog 179 #[.pointer (some ⟨b,14,none⟩),.pointer (some ⟨q,0,none⟩)] w fun e w'=>e=.returned (.tuple #[])∧Blk w' b (cor R (Pl.wr xs s n v) u ST HA) 93∧Kept b (b+1) w w':=by
 have HB:=hide hB
 have HX:=hide lx
 have HS:=hide hs
 have HN:=hide hn
 have HQ:=hide hQ
 have q0:=hQ.all
 clear hB hQ lx hs hn
 go_enter func179,ntmps179
 go_wp2_with fail
 go_region_held3 (fun w'=>w'.cell? ⟨q,1,none⟩=some (iv s)∧w'.cell? ⟨q,2,none⟩=some (iv n)∧w'.cell? ⟨q,3,none⟩=some (iv v)) (first|exact YA Q3.o|go_keep)
  (first|(go_at_call 212;refine (Gy _ b u 93 xs s n v (HB.o.af (ae (Kept.refl _ _ _))) HX.o HS.o HN.o v0).mono ?_;rintro e w3 ⟨rfl,hb3,kd⟩;have B3:=hide hb3;have K3:=hide (cZ kd);have Q3:=hide (HQ.o.kept (cZ kd) (by omega));clear hb3 kd))
 go_wp2_with fail
 refine bodyPost_ret (results_none rfl _ _ _) rfl ⟨rfl,B3.o,K3.o⟩
theorem Ai (w:World) {R:Pl.Rg} {ST HA:Bool} (b q:Nat) (u:Value) (xs:List Int) (k s:Int) (n:Nat) (v c:Int) (hB:Blk w b (cor R xs u ST HA) 93) (hQ:Blk w q #[iv k,iv s,iv n,iv v,iv c] 119) (lx:xs.length=512) (hby:Pl.bJ xs=true) (hk:¬k=2) (hs:s=1∨s=2) (hn:(n:Int)+s≤512) (hne:q≠b) :
  Calls prog 179 #[.pointer (some ⟨b,14,none⟩),.pointer (some ⟨q,0,none⟩)] w fun e w'=>e=.returned (.tuple #[])∧Blk w' q #[iv k,iv s,iv n,iv (Pl.rd xs s n),iv c] 119∧Kept q (q+1) w w':=by
 have HB:=hide hB
 have HX:=hide lx
 have HS:=hide hs
 have HN:=hide hn
 have HQ:=hide hQ
 have HBY:=hide hby
 have hu:=underlying88
 have hcs:(xs.map (Value.int .i64)).length=512:=by rw [List.length_map,lx]
 have hi:(prog.info? 88).map (·.size)=some (xs.map (Value.int .i64)).length:=by rw [hcs];exact Tryz.yc
 have h1:∀v∈xs.map (Value.int .i64),v.oneCell'=true:=iL
 have q0:=hQ.all
 have r1:=(Gp hB lx).1
 have k2:(k==2)=false:=by simpa using hk
 clear hB hQ lx hs hn hk hby
 go_enter func179,ntmps179
 go_wp2_with fail
 go_region_held3 (fun w'=>w'.rangeAt b 14 (xs.map (Value.int .i64))∧w'.cell? ⟨q,1,none⟩=some (iv s)∧w'.cell? ⟨q,2,none⟩=some (iv n)) (first|exact ⟨(Gp B3.o HX.o).1,WX Q3.o⟩|exact ⟨(Gp (B3.o.other _ _ _ (fun e=>hne e.symm)) HX.o).1,WX (Q3.o.set 3 _)⟩|go_keep_ranges|go_keep)
  (first|(go_at_call 213;refine (Jb _ xs s n HX.o HBY.o HS.o HN.o).mono ?_;rintro e w3 ⟨rfl,kd⟩;have K3:=hide (cZ kd);have B3:=hide (HB.o.af (cZ kd));have Q3:=hide (HQ.o.af (cZ kd));have c3:=Q3.o.cell (i:=3) rfl;have f3:=Q3.o.frozen 3;clear kd))
 go_wp2_with fail
 go_end0
 refine ⟨rfl,Q3.o.set 3 _,?_⟩
 exact ag K3.o.any _ _ _ (.inl (by omega))
theorem EU {w X w3:World} {b q g:Nat} (k:Kept 0 0 w X) (h:FrP (fun i=>i=b∨i=q) X w3) (hq:w.heap.size≤q):Since w b (b+1) g w3 g:=
 ⟨.inl rfl,⟨h.os.trans k.os,h.tape.trans k.tape,h.output.trans k.output,Nat.le_trans k.size h.size,fun i hi hn=>(h.block i (Nat.lt_of_lt_of_le hi k.size) (by unfold own at hn;omega)).trans (k.block i hi (by omega))⟩⟩
theorem Gx (w:World) {R:Pl.Rg} {ST HA:Bool} (b:Nat) (xs:List Int) (d:Option Addr) (m cu:Nat) (k s a v c:Int) (hB:Blk w b (cor R xs (.slice d m cu) ST HA) 93) (lx:xs.length=512) (bm:m≤400) (lo : -9223372036854775808≤v) (hi:v≤9223372036854775807) (hno:(decide (m<400)&&Pl.gy k s a v c)=false) :
  Calls prog 180 #[.pointer (some ⟨b,14,none⟩),.agg #[iv k,iv s,iv a,iv v,iv c]] w fun e w'=>e=.returned (.tuple #[])∧Kept 0 0 w w':=by
 have HB:=hide hB
 have l0:=hB.cell (kQ lx)
 have K0:=hide (kept_alloc w (.cells #[iv k,iv s,iv a,iv v,iv c] 119))
 have l1:=(hB.alloc (.cells #[iv k,iv s,iv a,iv v,iv c] 119)).cell (kQ lx)
 clear hB
 cases h1:decide ((m:Int)<400)
 ·go_enter func180,ntmps180
  go_wp2_with (go_at_call 88;fail)
  go_end0
  exact ⟨rfl,K0.o⟩
 ·have h2:Pl.gy k s a v c=false:=by
   rw [show decide (m<400)=true from by simp at h1;simp;omega,Bool.true_and] at hno
   exact hno
  clear hno
  go_enter func180,ntmps180
  go_wp2_with (go_at_call 88;refine (rM _ _ _ _ _ _ lo hi).mono ?_;rintro e w' ⟨rfl,o,p,rfl⟩;rw [h2])
  go_end0
  exact ⟨rfl,ah (ah K0.o _) _⟩
theorem Gw (w:World) {R:Pl.Rg} {ST HA:Bool} (b base g2:Nat) (xs ys:List Int) (m cu:Nat) (k s a v c:Int) (hB:Blk w b (cor R xs (.slice (some ⟨g2,0,none⟩) m cu) ST HA) 93) (lx:xs.length=512) (hO:w.ownsRow base 119 5 (.slice (some ⟨g2,0,none⟩) m cu) m (ys.map (Value.int .i64))) (hb:base≤b) (hbs:base≤w.heap.size) (hne:b≠g2) (bm:m<400) (lo : -9223372036854775808≤v) (hi:v≤9223372036854775807) (hyes:Pl.gy k s a v c=true) :
  Calls prog 180 #[.pointer (some ⟨b,14,none⟩),.agg #[iv k,iv s,iv a,iv v,iv c]] w fun e w'=>∃g3 c3:Nat,e=.returned (.tuple #[])∧Blk w' b (cor R xs (.slice (some ⟨g3,0,none⟩) (m+1) c3) ST HA) 93∧w'.ownsRow base 119 5 (.slice (some ⟨g3,0,none⟩) (m+1) c3) (m+1) ((ys++[k,s,a,v,c]).map (Value.int .i64))∧b≠g3∧Since w b (b+1) g2 w' g3:=by
 obtain ⟨i,hi0,hz0,hz1,hz2⟩:=info_parts Tryz.kz
 have HB:=hide hB
 have HO:=hide hO
 have HX:=hide lx
 have l0:=hB.cell (kQ lx)
 have K0:=hide (kept_alloc w (.cells #[iv k,iv s,iv a,iv v,iv c] 119))
 have l1:=(hB.alloc (.cells #[iv k,iv s,iv a,iv v,iv c] 119)).cell (kQ lx)
 have h1:decide ((m:Int)<400)=true:=by simp;omega
 clear hB hO
 go_enter func180,ntmps180
 go_wp2_with (go_at_call 88;refine (rM _ _ _ _ _ _ lo hi).mono ?_;rintro e w' ⟨rfl,o,p,rfl⟩;rw [hyes])
 have BW:=hide ((((HB.o.alloc (.cells #[iv k,iv s,iv a,iv v,iv c] 119)).alloc o)).alloc p)
 have AW:=hide (((Blk.new w #[iv k,iv s,iv a,iv v,iv c] 119).alloc o).alloc p)
 have KW:=hide (ah (ah K0.o o) p)
 have OW:=hide (((HO.o.alloc (.cells #[iv k,iv s,iv a,iv v,iv c] 119)).alloc o).alloc p)
 obtain ⟨W,hW⟩:∃W:World,W=((w.alloc (.cells #[iv k,iv s,iv a,iv v,iv c] 119)).alloc o).alloc p:=⟨_,rfl⟩
 rw [←hW] at BW AW KW OW ⊢
 have hsz:w.heap.size<W.heap.size:=AW.o.lt
 clear hW l0 l1
 have z0:=BW.o.cell (kQ HX.o)
 have a0:=AW.o.all
 have y0:∀o,(W.alloc o).cell? ⟨b,526,none⟩=some (.slice (some ⟨g2,0,none⟩) m cu):=fun o=>(BW.o.alloc o).cell (kQ HX.o)
 have H63:Hid (m+1≤maxLen):=hide (by unfold maxLen;omega)
 have HBY:Hid ((m+1)*40≤140737488355328):=hide (by omega)
 go_region_law ((refine step_append_lies _ (by rfl) _ _ _ (by rfl) base 119 i _ 5 40 underlying32 hi0 hz0 hz1 hz2 rfl (by omega) (.slice (some ⟨g2,0,none⟩) m cu) m (ys.map (Value.int .i64)) (by rfl) ((OW.o.alloc _).drew) ⟨W.heap.size,0,none⟩ 1 1 [iv k,iv s,iv a,iv v,iv c] (by rfl) (by rfl) (World.news_of_block (cs:=#[iv k,iv s,iv a,iv v,iv c]) (t:=119) (fr:=(0,0)) (heap_alloc_new W _)) (by simp [Value.oneCell']) (by omega) H63.o HBY.o (by simp;omega) (W.heap.size+1) (by simp) ?_;intro g3 c3 w1 hown1 hgrow hat hlt;have B1:Hid (Blk w1 b (cor R xs (.slice (some ⟨g2,0,none⟩) m cu) ST HA) 93):=hide ((hgrow.block b (by have:=BW.o.lt;simp;omega) (by simp [Value.ownBlock];omega)).trans (BW.o.alloc _));have e0:=B1.o.cell (kQ HX.o);have e1:=B1.o.frozen 526;have G1:=hide hgrow;have O1:=hide hown1;clear hgrow hown1))
 all_goals
  go_end0
  have lb:=HB.o.lt
  have lB:=BW.o.lt
  obtain ⟨l1,l2⟩:=HO.o.lt g2 rfl
  have hat':g2=g3∨g3=W.heap.size+1:=by
   rcases hat with h|h
   ·exact .inl (Option.some.inj h)
   ·exact .inr h
  have hb3:b≠g3:=by omega
  refine ⟨g3,c3,rfl,B1.o.Vs HX.o _,?_,hb3,?_⟩
  ·have h:=O1.o.kept (grownBy_set w1 b 526 (.slice (some ⟨g3,0,none⟩) (m+1) c3)) (.inr (fun e=>by have h2:g3=b:=Option.some.inj e;omega))
   rw [List.map_append]
   exact h
  ·have k1:Kept 0 0 w (W.alloc (.cells #[iv k,iv s,iv a,iv v,iv c] 119)).drew:=ae (ah KW.o _)
   exact ⟨by omega,((kC k1 (by omega)).grown G1.o (fun x hx=>.inr (Option.some.inj hx).symm)).set b 526 _ (.inl (.inl (by omega)))⟩
theorem Gz (w:World) {R:Pl.Rg} {ST HA:Bool} (b q base g2:Nat) (xs ys:List Int) (m cu:Nat) (k s a v c:Int) (hB:Blk w b (cor R xs (.slice (some ⟨g2,0,none⟩) m cu) ST HA) 93) (hQ:Blk w q #[iv k,iv s,iv a,iv v,iv c] 119) (lx:xs.length=512) (hby:Pl.bJ xs=true)
  (hO:w.ownsRow base 119 5 (.slice (some ⟨g2,0,none⟩) m cu) m (ys.map (Value.int .i64))) (hb:base≤b) (hq:base≤q) (n1:q≠b) (n2:b≠g2) (n3:q≠g2) (hask:Pl.gq k s a v=true) (hc:Pl.code k s a=0) :
  Calls prog 179 #[.pointer (some ⟨b,14,none⟩),.pointer (some ⟨q,0,none⟩)] w fun e w'=>e=.returned (.tuple #[])∧Blk w' b (cor R (Pl.nb xs k s a v) (.slice (some ⟨g2,0,none⟩) m cu) ST HA) 93∧Blk w' q #[iv k,iv s,iv a,iv (Pl.lv xs k s a v),iv c] 119∧
   w'.ownsRow base 119 5 (.slice (some ⟨g2,0,none⟩) m cu) m (ys.map (Value.int .i64))∧FrP (fun i=>i=b∨i=q) w w':=by
 obtain ⟨hk,hs,v0,⟨a0,a1⟩,hkv⟩:=Pl.qW hask
 have hlow:=Pl.rX hc a0
 obtain ⟨n,rfl⟩:∃n:Nat,a=(n:Int):=⟨a.toNat,by omega⟩
 by_cases h2:k=2
 ·subst h2
  have e1:Pl.nb xs 2 s n v=Pl.wr xs s n v:=by unfold Pl.nb;rw [if_pos ⟨hc,rfl⟩];rfl
  have e2:Pl.lv xs 2 s n v=v:=by unfold Pl.lv;rw [if_neg (by simp)]
  refine (Ah w b q _ xs s n v c hB hQ lx hs (by omega) v0 n1).mono ?_
  rintro e w' ⟨rfl,hb',hk'⟩
  have lb:=hB.lt
  refine ⟨rfl,by rw [e1];exact hb',by rw [e2];exact hQ.kept hk' (by omega),hO.kept (yj hk') (.inr (fun e=>by have h3:g2=b:=Option.some.inj e;omega)),kC hk' (by omega)⟩
 ·have e1:Pl.nb xs k s n v=xs:=by unfold Pl.nb;rw [if_neg (fun h=>h2 h.2)]
  have e2:Pl.lv xs k s n v=Pl.rd xs s n:=by unfold Pl.lv;rw [if_pos ⟨hc,h2⟩];rfl
  refine (Ai w b q _ xs k s n v c hB hQ lx hby h2 (by omega) (by omega) n1).mono ?_
  rintro e w' ⟨rfl,hq',hk'⟩
  have lq:=hQ.lt
  refine ⟨rfl,by rw [e1];exact hB.kept hk' (by omega),by rw [e2];exact hq',hO.kept (yj hk') (.inr (fun e=>by have h3:g2=q:=Option.some.inj e;omega)),kC hk' (by omega)⟩
theorem Q8 (w:World) {R:Pl.Rg} {ST HA:Bool} (b base g2:Nat) (xs ys:List Int) (m cu:Nat) (k s a v c:Int) (hB:Blk w b (cor R xs (.slice (some ⟨g2,0,none⟩) m cu) ST HA) 93) (lx:xs.length=512) (hO:w.ownsRow base 119 5 (.slice (some ⟨g2,0,none⟩) m cu) m (ys.map (Value.int .i64))) (hb:base≤b) (hne:b≠g2) (bm:m≤400) (lo : -9223372036854775808≤v) (hi:v≤9223372036854775807)
  (m':Nat) (ys':List Int) (hm:m'=if (decide (m<400)&&Pl.gy k s a v c)=true then m+1 else m) (hy:ys'=if (decide (m<400)&&Pl.gy k s a v c)=true then ys++[k,s,a,v,c] else ys) :
  Calls prog 180 #[.pointer (some ⟨b,14,none⟩),.agg #[iv k,iv s,iv a,iv v,iv c]] w fun e w'=>∃g3 c3:Nat,e=.returned (.tuple #[])∧Blk w' b (cor R xs (.slice (some ⟨g3,0,none⟩) m' c3) ST HA) 93∧w'.ownsRow base 119 5 (.slice (some ⟨g3,0,none⟩) m' c3) m' (ys'.map (Value.int .i64))∧b≠g3∧Since w b (b+1) g2 w' g3:=by
 cases h:(decide (m<400)&&Pl.gy k s a v c)
 ·rw [hm,hy,h]
  refine (Gx w b xs _ m cu k s a v c hB lx bm lo hi h).mono ?_
  rintro e w' ⟨rfl,k'⟩
  exact ⟨g2,cu,rfl,hB.af k',hO.kept k'.grown (.inr (fun e=>by cases e)),hne,(Since.refl _ _ _ _).any k'⟩
 ·rw [hm,hy,h]
  simp only [Bool.and_eq_true,decide_eq_true_eq] at h
  have lb:=hB.lt
  show Calls _ _ _ _ _
  exact Gw w b base g2 xs ys m cu k s a v c hB lx hO hb (by omega) hne h.1 lo hi h.2
theorem Uc (w:World) {R:Pl.Rg} {ST HA:Bool} (b base g2:Nat) (xs ys:List Int) (m cu:Nat) (k s a v:Int) (hB:Blk w b (cor R xs (.slice (some ⟨g2,0,none⟩) m cu) ST HA) 93) (lx:xs.length=512) (hby:Pl.bJ xs=true)
  (hO:w.ownsRow base 119 5 (.slice (some ⟨g2,0,none⟩) m cu) m (ys.map (Value.int .i64))) (hb:base≤b) (n2:b≠g2) (bm:m≤400) (hask:Pl.gq k s a v=true) (T:Int) (HT:Hid (T=if k=2 then 0 else Pl.lv xs k s a v)) :
  Calls prog 134 #[.pointer (some ⟨b,14,none⟩),.agg #[iv k,iv s,iv a,iv v,iv 0]] w fun e w'=>∃g3 c3:Nat,e=.returned (.tuple #[iv T,iv (Pl.code k s a)])∧
   Blk w' b (cor R (Pl.nb xs k s a v) (.slice (some ⟨g3,0,none⟩) (Pl.nm m k s a) c3) ST HA) 93∧w'.ownsRow base 119 5 (.slice (some ⟨g3,0,none⟩) (Pl.nm m k s a) c3) (Pl.nm m k s a) ((Pl.nl xs ys m k s a v).map (Value.int .i64))∧b≠g3∧Since w b (b+1) g2 w' g3:=by
 obtain ⟨_,hs,v0,⟨a0,a1⟩,hkv⟩:=Pl.qW hask
 have hs':s=1∨s=2:=by omega
 have hlog:=Pl.MN lx hby hask
 have hvb:=Pl.QO lx hby hask
 have hv1:Pl.lv xs k s a v≤65535:=by split at hvb<;>omega
 obtain ⟨hg0,hg1⟩:=hO.lt g2 rfl
 have lb:=hB.lt
 have Qx:=hide hlog
 have HV:=hide (And.intro hvb.1 hv1)
 have HX:=hide lx
 have HBY:=hide hby
 have Qy:=hide hask
 have HB0:=hide hB
 have HO0:=hide hO
 clear hB hO lx hby hask hlog hvb hs hkv
 go_enter func134,ntmps134
 go_wp2_with fail
 refine (codeOf k s a v 0 _ hs' a0 a1).mono ?_
 rintro e w1 ⟨rfl,o,rfl⟩
 obtain ⟨C,hC⟩:∃C,C=Pl.code k s a:=⟨_,rfl⟩
 rw [←hC]
 have HC:=hide hC
 clear hC
 have BX:=hide ((HB0.o.alloc (.cells #[iv k,iv s,iv a,iv v,iv C] 119)).alloc o)
 have OX:=hide ((HO0.o.alloc (.cells #[iv k,iv s,iv a,iv v,iv C] 119)).alloc o)
 have QX:=hide ((Blk.new w #[iv k,iv s,iv a,iv v,iv C] 119).alloc o)
 have KX:=hide (ah (kept_alloc w (.cells #[iv k,iv s,iv a,iv v,iv C] 119)) o)
 obtain ⟨X,hX⟩:∃X:World,X=(w.alloc (.cells #[iv k,iv s,iv a,iv v,iv C] 119)).alloc o:=⟨_,rfl⟩
 rw [←hX] at BX OX QX KX
 cases hc:(C==0)
 ·have hc':¬Pl.code k s a=0:=by rw [←HC.o];simpa using hc
  have e1:Pl.nb xs k s a v=xs:=by unfold Pl.nb;rw [if_neg (fun h=>hc' h.1)]
  have e2:Pl.lv xs k s a v=v:=by unfold Pl.lv;rw [if_neg (fun h=>hc' h.1)]
  have E1:=hide e1
  have E2:=hide e2
  have HM:Hid (Pl.nm m k s a=if (decide (m<400)&&Pl.gy k s a v C)=true then m+1 else m):=hide (by
   have h:=Qx.o;rw [e2] at h;rw [HC.o,h];rfl)
  have HY:Hid (Pl.nl xs ys m k s a v=if (decide (m<400)&&Pl.gy k s a v C)=true then ys++[k,s,a,v,C] else ys):=hide (by
   have h:=Qx.o;rw [e2] at h;rw [HC.o,h];unfold Pl.nl;rw [e2];rfl)
  clear hc' e1 e2
  go_wp2_with fail
  rw [←hX]
  clear hX
  refine (Q8 X b base g2 xs ys m cu k s a v C BX.o HX.o OX.o hb n2 bm (by omega) (by have:=HV.o;rw [E2.o] at this;omega) _ _ HM.o HY.o).mono ?_
  rintro e w4 ⟨g3,c3,rfl,hb4,ho4,hn4,hk4⟩
  have Q4:=hk4.blk QX.o (by omega) (by omega)
  have B4:=hide hb4
  have O4:=hide ho4
  have K4:=hide (((Since.refl w b (b+1) g2).any KX.o).trans hk4)
  have y0:=Q4.all
  clear hb4 ho4 hk4 Q4
  cases hk2:(k==2)
  ·have E3:Hid (v=T):=hide (by rw [HT.o,if_neg (by simpa using hk2),E2.o])
   go_wp2_with fail
   go_quiet (fail)
   go_wp2_with fail
   go_ret2
   exact ⟨g3,c3,rII E3.o HC.o,by rw [E1.o];exact B4.o,O4.o,hn4,K4.o.any (ax (Kept.refl 0 0 _) _)⟩
  ·have E3:Hid (0=T):=hide (by rw [HT.o,if_pos (by simpa using hk2)])
   go_wp2_with fail
   go_quiet (fail)
   go_wp2_with fail
   go_ret2
   exact ⟨g3,c3,rII E3.o HC.o,by rw [E1.o];exact B4.o,O4.o,hn4,K4.o.any (ax (Kept.refl 0 0 _) _)⟩
 ·have hc':Pl.code k s a=0:=by rw [←HC.o];simpa using hc
  have HC0:=hide hc'
  have HNL:Hid ((Pl.nb xs k s a v).length=512):=hide (by rw [Pl.IX];exact HX.o)
  have HM:Hid (Pl.nm m k s a=if (decide (m<400)&&Pl.gy k s a (Pl.lv xs k s a v) C)=true then m+1 else m):=hide (by
   have h:=Qx.o;rw [HC.o,h];rfl)
  have HY:Hid (Pl.nl xs ys m k s a v=if (decide (m<400)&&Pl.gy k s a (Pl.lv xs k s a v) C)=true then ys++[k,s,a,Pl.lv xs k s a v,C] else ys):=hide (by
   have h:=Qx.o;rw [HC.o,h];unfold Pl.nl;rfl)
  clear hc'
  go_wp2_with fail
  rw [←hX]
  clear hX
  refine (Gz X b w.heap.size base g2 xs ys m cu k s a v C BX.o QX.o HX.o HBY.o OX.o hb (by omega) (by omega) n2 (by omega) Qy.o HC0.o).mono ?_
  rintro e w3 ⟨rfl,hb3,hq3,ho3,hk3⟩
  have B3:=hide hb3
  have O3:=hide ho3
  have K3:=hide (EU (g:=g2) KX.o hk3 (Nat.le_refl _))
  have Q3:=hide hq3
  have z0:=hq3.all
  clear hb3 ho3 hk3 hq3
  go_wp2_with fail
  clear z0
  refine (Q8 w3 b base g2 (Pl.nb xs k s a v) ys m cu k s a (Pl.lv xs k s a v) C B3.o HNL.o O3.o hb n2 bm (by have:=HV.o;omega) (by have:=HV.o;omega) _ _ HM.o HY.o).mono ?_
  rintro e w4 ⟨g3,c3,rfl,hb4,ho4,hn4,hk4⟩
  have Q4:=hk4.blk Q3.o (by omega) (by omega)
  have B4:=hide hb4
  have O4:=hide ho4
  have K4:=hide (K3.o.trans hk4)
  have y0:=Q4.all
  clear hb4 ho4 hk4 Q4
  cases hk2:(k==2)
  ·have E3:Hid (Pl.lv xs k s a v=T):=hide (by rw [HT.o,if_neg (by simpa using hk2)])
   go_wp2_with fail
   go_quiet (fail)
   go_wp2_with fail
   go_ret2
   exact ⟨g3,c3,rII E3.o HC.o,B4.o,O4.o,hn4,K4.o.any (ax (Kept.refl 0 0 _) _)⟩
  ·have E3:Hid (0=T):=hide (by rw [HT.o,if_pos (by simpa using hk2)])
   go_wp2_with fail
   go_quiet (fail)
   go_wp2_with fail
   go_ret2
   exact ⟨g3,c3,rII E3.o HC.o,B4.o,O4.o,hn4,K4.o.any (ax (Kept.refl 0 0 _) _)⟩
theorem PM (w:World) (lo b g:Nat) (c:Pl.Mc) (h:Bool) (k s a v T:Int) (hC:CAt w lo b g c h) (G:Pl.GM c) (hask:Pl.gq k s a v=true) (HT:Hid (T=if k=2 then 0 else Pl.lv c.bx k s a v)) :
  Calls prog 134 #[.pointer (some ⟨b,14,none⟩),.agg #[iv k,iv s,iv a,iv v,iv 0]] w fun e w'=>∃g',e=.returned (.tuple #[iv T,iv (Pl.code k s a)])∧CAt w' lo b g' (c.acc k s a v) h∧Since w b (b+1) g w' g':=by
 obtain ⟨cu,hB,hO⟩:=hC
 refine (Uc w b lo g c.bx c.bl c.bm cu k s a v hB G.bx G.ok hO.l hO.lo' hO.ne G.bm hask T HT).mono ?_
 rintro e w' ⟨g3,c3,he,hb,ho,hn,hk⟩
 exact ⟨g3,he,⟨c3,hb,⟨ho,hO.lo',hn⟩⟩,hk⟩
theorem fV (f:Pl.Ft) (w:World):Calls prog 45 #[.agg (ftA f)] w fun e w'=>e=.returned (.bool (f.v != 0))∧Kept 0 0 w w':=by
 go_enter func45,ntmps45
 go_wp2
 go_ret
 exact ⟨rfl,kept_alloc _ _⟩
theorem Qw {w:World} {q:Nat} {k s a v c:Int} {ty:TypeId} (h:Blk w q #[iv k,iv s,iv a,iv v,iv c] ty):w.cell? ⟨q,0,none⟩=some (iv k)∧w.cell? ⟨q,1,none⟩=some (iv s)∧w.cell? ⟨q,2,none⟩=some (iv a)∧w.cell? ⟨q,3,none⟩=some (iv v)∧w.cell? ⟨q,4,none⟩=some (iv c):=
 ⟨h.cell (i:=0) rfl,h.cell (i:=1) rfl,h.cell (i:=2) rfl,h.cell (i:=3) rfl,h.cell (i:=4) rfl⟩
theorem lS (w:World) (lo b g:Nat) (c:Pl.Mc) (h:Bool) (k s a v:Int) (hC:CAt w lo b g c h) (G:Pl.GM c) (hask:Pl.gq k s a v=true) (V:Int) (HV:Hid (V=if k=2 then 0 else Pl.lv c.bx k s a v)) (F:Pl.Ft) (HF:Hid (F=Pl.Mc.fE Pl.aI k s a)) :
  Calls prog 96 #[.pointer (some ⟨b,0,none⟩),.agg #[iv k,iv s,iv a,iv v,iv 0]] w fun e w'=>∃g',e=.returned (.tuple #[iv V,.agg (ftC F)])∧CAt w' lo b g' (c.acc k s a v) h∧Since w b (b+1) g w' g':=by
 obtain ⟨l0,l1,l2,l3,l4⟩:=hC.lt
 have HC:=hide ((hC.alloc (.cells #[iv k,iv s,iv a,iv v,iv 0] 119)).alloc (.cells (ftC Pl.aI) 49))
 have A0:=hide ((Blk.new w #[iv k,iv s,iv a,iv v,iv 0] 119).alloc (.cells (ftC Pl.aI) 49))
 have F0:=Blk.new (w.alloc (.cells #[iv k,iv s,iv a,iv v,iv 0] 119)) (ftC Pl.aI) 49
 simp only [World.size_alloc] at F0
 replace F0:=hide F0
 have K0:=hide (ah (kept_alloc w (.cells #[iv k,iv s,iv a,iv v,iv 0] 119)) (.cells (ftC Pl.aI) 49))
 have HG:=hide G
 have Qy:=hide hask
 clear hC G hask
 obtain ⟨X,hX⟩:∃X:World,(w.alloc (.cells #[iv k,iv s,iv a,iv v,iv 0] 119)).alloc (.cells (ftC Pl.aI) 49)=X:=⟨_,rfl⟩
 rw [hX] at HC A0 F0 K0
 obtain ⟨a0,a1,a2,a3,a4⟩:=Qw A0.o
 have hX':(w.alloc (.cells #[iv k,iv s,iv a,iv v,iv 0] 119)).alloc (.cells ftZ 49)=X:=hX
 clear hX
 go_enter func96,ntmps96
 go_wp2_with fail
 clear hX'
 go_region_held3 (fun w'=>w'.cell? ⟨w.heap.size,0,none⟩=some (iv k)∧w'.cell? ⟨w.heap.size,1,none⟩=some (iv s)∧w'.cell? ⟨w.heap.size,2,none⟩=some (iv a)∧w'.cell? ⟨w.heap.size,3,none⟩=some (iv v)∧w'.cell? ⟨w.heap.size,4,none⟩=some (iv 0)) (first|exact Qw A3.o|exact Qw (show Blk _ _ _ _ from A0.o)|go_keep)
  (first|(go_at_call 134;refine (PM _ lo b g c h k s a v V HC.o.drew HG.o Qy.o HV).mono ?_;rintro e w3 ⟨g',rfl,hc3,hs3⟩;have C3:=hide hc3;have S3:=hide (((Since.refl w b (b+1) g).any (ae K0.o)).trans hs3);have A3:=hide (hs3.blk (show Blk X.drew _ _ _ from A0.o) (by omega) (by omega));have F3:=hide (hs3.blk (show Blk X.drew _ _ _ from F0.o) (by omega) (by omega));have n3:=hs3.ne (b:=w.heap.size+1) F0.o.lt (by omega);clear hc3 hs3))
 clear a0 a1 a2 a3 a4
 obtain ⟨a0,a1,a2,a3,a4⟩:=Qw A3.o
 have p:=(show Blk w3 (w.heap.size+1) ftZ 49 from F3.o).all
 have z:=F3.o.fz
 obtain ⟨C,hCd⟩:∃C,C=Pl.code k s a:=⟨_,rfl⟩
 rw [←hCd]
 unfold Pl.Mc.fE at HF
 rw [←hCd] at HF
 have V0:Hid (¬C=0→V=0):=hide (by
  intro hn
  rw [HV.o]
  split
  ·rfl
  ·rename_i h2
   obtain ⟨_,_,_,_,h5⟩:=Pl.qW Qy.o
   rw [show v=0 by omega]
   unfold Pl.lv
   rw [if_neg (by rw [←hCd];exact fun q=>hn q.1)])
 clear hCd HV
 cases h0:(C==0)
 ·have EV:=hide (V0.o (by simpa using h0))
  have e1:(C != 0)=true:=by simpa using h0
  rw [e1] at HF
  cases h2:(C==2)
  ·rw [h2] at HF
   have q:F=⟨2,0,a,0,k==2⟩:=HF.o
   subst q
   clear HF e1
   go_wp2_with fail
   go_region
   go_wp2_with fail
   have K5:=ae (((((ak w3 (w.heap.size+1) 0 (iv 2)).one 1 (iv 0)).one 2 (iv a)).one 3 (iv 0)).one 4 (.bool (k==2)))
   refine bodyPost_ret (v:=.tuple #[iv 0,.agg #[iv 2,iv 0,iv a,iv 0,.bool (k==2)]]) ?_ rfl ⟨g',by rw [EV.o];rfl,C3.o.kept K5 (by omega) (by omega),S3.o.mine K5 (by omega)⟩
   rw [gZ rfl];go_simp
  ·rw [h2] at HF
   have q:F=⟨3,0,a,0,k==2⟩:=HF.o
   subst q
   clear HF e1
   go_wp2_with fail
   go_region
   go_wp2_with fail
   have K5:=ae (((((ak w3 (w.heap.size+1) 0 (iv 3)).one 1 (iv 0)).one 2 (iv a)).one 3 (iv 0)).one 4 (.bool (k==2)))
   refine bodyPost_ret (v:=.tuple #[iv 0,.agg #[iv 3,iv 0,iv a,iv 0,.bool (k==2)]]) ?_ rfl ⟨g',by rw [EV.o];rfl,C3.o.kept K5 (by omega) (by omega),S3.o.mine K5 (by omega)⟩
   rw [gZ rfl];go_simp
 ·have e1:(C != 0)=false:=by simpa using h0
  rw [e1] at HF
  have q:F=Pl.aI:=HF.o
  subst q
  clear HF e1
  go_wp2_with fail
  have K5:=((((ak w3 (w.heap.size+1) 0 (iv 0)).one 1 (iv 0)).one 2 (iv 0)).one 3 (iv 0)).one 4 (.bool false)
  refine bodyPost_ret (v:=.tuple #[iv V,.agg ftZ]) ?_ rfl ⟨g',rfl,C3.o.kept K5 (by omega) (by omega),S3.o.mine K5 (by omega)⟩
  rw [gZ rfl];go_simp
theorem AU (k e:Int) (w:World):Calls prog 200 #[.agg #[iv 0,iv k,iv e]] w fun r w'=>r=.returned (.iface 202 (.agg #[iv k]))∧Kept 0 0 w w':=by
 go_enter func200,ntmps200
 go_wp2
 go_ret
 exact ⟨rfl,kept_alloc w _⟩
theorem AQ (k e:Int) (w:World):Calls prog 200 #[.agg #[iv 1,iv k,iv e]] w fun r w'=>r=.returned (.iface 203 (.agg #[iv k]))∧Kept 0 0 w w':=by
 go_enter func200,ntmps200
 go_wp2
 go_ret
 exact ⟨rfl,kept_alloc w _⟩
theorem AP (k e:Int) (w:World):Calls prog 200 #[.agg #[iv 2,iv k,iv e]] w fun r w'=>r=.returned (.iface 212 (.agg #[iv k]))∧Kept 0 0 w w':=by
 go_enter func200,ntmps200
 go_wp2
 go_ret
 exact ⟨rfl,kept_alloc w _⟩
theorem AO (k e:Int) (w:World):Calls prog 200 #[.agg #[iv 3,iv k,iv e]] w fun r w'=>r=.returned (.iface 213 (.agg #[iv k]))∧Kept 0 0 w w':=by
 go_enter func200,ntmps200
 go_wp2
 go_ret
 exact ⟨rfl,kept_alloc w _⟩
theorem AL (k e:Int) (w:World):Calls prog 200 #[.agg #[iv 4,iv k,iv e]] w fun r w'=>r=.returned (.iface 214 (.agg #[iv k]))∧Kept 0 0 w w':=by
 go_enter func200,ntmps200
 go_wp2
 go_ret
 exact ⟨rfl,kept_alloc w _⟩
theorem AC (k e:Int) (w:World):Calls prog 200 #[.agg #[iv 5,iv k,iv e]] w fun r w'=>r=.returned (.iface 216 (.agg #[iv k,iv e]))∧Kept 0 0 w w':=by
 go_enter func200,ntmps200
 go_wp2
 go_ret
 exact ⟨rfl,kept_alloc w _⟩
theorem AB (k e:Int) (w:World):Calls prog 200 #[.agg #[iv 6,iv k,iv e]] w fun r w'=>r=.returned (.iface 217 (.agg #[iv e]))∧Kept 0 0 w w':=by
 go_enter func200,ntmps200
 go_wp2
 go_ret
 exact ⟨rfl,kept_alloc w _⟩
theorem AA (k e:Int) (w:World):Calls prog 200 #[.agg #[iv 7,iv k,iv e]] w fun r w'=>r=.returned (.iface 205 (.agg #[iv e]))∧Kept 0 0 w w':=by
 go_enter func200,ntmps200
 go_wp2
 go_ret
 exact ⟨rfl,kept_alloc w _⟩
theorem Di (m k e:Int) (w:World) (h:Pl.dE m=false):Calls prog 200 #[.agg #[iv m,iv k,iv e]] w fun r w'=>r=.returned .nilIface∧Kept 0 0 w w':=by
 obtain ⟨n0,n1,n2,n3,n4,n5,n6,n7⟩:¬m=0∧¬m=1∧¬m=2∧¬m=3∧¬m=4∧¬m=5∧¬m=6∧¬m=7:=by
  simp [Pl.dE,Pl.within] at h
  omega
 go_enter func200,ntmps200
 go_wp2
 go_ret
 exact ⟨rfl,kept_alloc w _⟩
theorem IM (k e:Int) (w:World):Calls prog 283 #[.agg #[iv k]] w fun r w'=>r=.returned (.agg #[iv 0,iv k,iv 0])∧Kept 0 0 w w':=by
 go_enter func283,ntmps283
 go_wp2
 refine bodyPost_ret (v:=.agg #[iv 0,iv k,iv 0]) ?_ rfl ⟨rfl,ah (kept_alloc w _) _⟩
 rw [aj rfl];go_simp
theorem IL (k e:Int) (w:World):Calls prog 284 #[.agg #[iv k]] w fun r w'=>r=.returned (.agg #[iv 1,iv k,iv 0])∧Kept 0 0 w w':=by
 go_enter func284,ntmps284
 go_wp2
 refine bodyPost_ret (v:=.agg #[iv 1,iv k,iv 0]) ?_ rfl ⟨rfl,ah (kept_alloc w _) _⟩
 rw [aj rfl];go_simp
theorem IK (k e:Int) (w:World):Calls prog 286 #[.agg #[iv k]] w fun r w'=>r=.returned (.agg #[iv 2,iv k,iv 0])∧Kept 0 0 w w':=by
 go_enter func286,ntmps286
 go_wp2
 refine bodyPost_ret (v:=.agg #[iv 2,iv k,iv 0]) ?_ rfl ⟨rfl,ah (kept_alloc w _) _⟩
 rw [aj rfl];go_simp
theorem IJ (k e:Int) (w:World):Calls prog 287 #[.agg #[iv k]] w fun r w'=>r=.returned (.agg #[iv 3,iv k,iv 0])∧Kept 0 0 w w':=by
 go_enter func287,ntmps287
 go_wp2
 refine bodyPost_ret (v:=.agg #[iv 3,iv k,iv 0]) ?_ rfl ⟨rfl,ah (kept_alloc w _) _⟩
 rw [aj rfl];go_simp
theorem II (k e:Int) (w:World):Calls prog 288 #[.agg #[iv k]] w fun r w'=>r=.returned (.agg #[iv 4,iv k,iv 0])∧Kept 0 0 w w':=by
 go_enter func288,ntmps288
 go_wp2
 refine bodyPost_ret (v:=.agg #[iv 4,iv k,iv 0]) ?_ rfl ⟨rfl,ah (kept_alloc w _) _⟩
 rw [aj rfl];go_simp
theorem IG (k e:Int) (w:World):Calls prog 289 #[.agg #[iv k,iv e]] w fun r w'=>r=.returned (.agg #[iv 5,iv k,iv e])∧Kept 0 0 w w':=by
 go_enter func289,ntmps289
 go_wp2
 refine bodyPost_ret (v:=.agg #[iv 5,iv k,iv e]) ?_ rfl ⟨rfl,ah (kept_alloc w _) _⟩
 rw [aj rfl];go_simp
theorem IE (k e:Int) (w:World):Calls prog 290 #[.agg #[iv e]] w fun r w'=>r=.returned (.agg #[iv 6,iv 0,iv e])∧Kept 0 0 w w':=by
 go_enter func290,ntmps290
 go_wp2
 refine bodyPost_ret (v:=.agg #[iv 6,iv 0,iv e]) ?_ rfl ⟨rfl,ah (kept_alloc w _) _⟩
 rw [aj rfl];go_simp
theorem IC (k e:Int) (w:World):Calls prog 285 #[.agg #[iv e]] w fun r w'=>r=.returned (.agg #[iv 7,iv 0,iv e])∧Kept 0 0 w w':=by
 go_enter func285,ntmps285
 go_wp2
 refine bodyPost_ret (v:=.agg #[iv 7,iv 0,iv e]) ?_ rfl ⟨rfl,ah (kept_alloc w _) _⟩
 rw [aj rfl];go_simp
theorem fn0 (a:Array Value) (w:World):(callFunc 283 a).run prog w=.ok (.enter 283 a) w:=by kernel_rfl
theorem VY (v:Value) (w:World):(method 358 202 v "loop.example/g00389/impl.operand").run prog w=.ok (283,v) w:=by kernel_rfl
theorem fn1 (a:Array Value) (w:World):(callFunc 284 a).run prog w=.ok (.enter 284 a) w:=by kernel_rfl
theorem VX (v:Value) (w:World):(method 358 203 v "loop.example/g00389/impl.operand").run prog w=.ok (284,v) w:=by kernel_rfl
theorem fn2 (a:Array Value) (w:World):(callFunc 286 a).run prog w=.ok (.enter 286 a) w:=by kernel_rfl
theorem VW (v:Value) (w:World):(method 358 212 v "loop.example/g00389/impl.operand").run prog w=.ok (286,v) w:=by kernel_rfl
theorem fn3 (a:Array Value) (w:World):(callFunc 287 a).run prog w=.ok (.enter 287 a) w:=by kernel_rfl
theorem VV (v:Value) (w:World):(method 358 213 v "loop.example/g00389/impl.operand").run prog w=.ok (287,v) w:=by kernel_rfl
theorem fn4 (a:Array Value) (w:World):(callFunc 288 a).run prog w=.ok (.enter 288 a) w:=by kernel_rfl
theorem VU (v:Value) (w:World):(method 358 214 v "loop.example/g00389/impl.operand").run prog w=.ok (288,v) w:=by kernel_rfl
theorem fn5 (a:Array Value) (w:World):(callFunc 289 a).run prog w=.ok (.enter 289 a) w:=by kernel_rfl
theorem VT (v:Value) (w:World):(method 358 216 v "loop.example/g00389/impl.operand").run prog w=.ok (289,v) w:=by kernel_rfl
theorem fn6 (a:Array Value) (w:World):(callFunc 290 a).run prog w=.ok (.enter 290 a) w:=by kernel_rfl
theorem VS (v:Value) (w:World):(method 358 217 v "loop.example/g00389/impl.operand").run prog w=.ok (290,v) w:=by kernel_rfl
theorem fn7 (a:Array Value) (w:World):(callFunc 285 a).run prog w=.ok (.enter 285 a) w:=by kernel_rfl
theorem VR (v:Value) (w:World):(method 358 205 v "loop.example/g00389/impl.operand").run prog w=.ok (285,v) w:=by kernel_rfl
theorem Ye (v:Value) (w:World):(Instr.typeAssert (.iface 202 v) 174 212 true).run prog w=.ok (.tuple #[.agg #[iv 0],.bool false]) w:=by kernel_rfl
theorem Yd (v:Value) (w:World):(Instr.typeAssert (.iface 202 v) 174 213 true).run prog w=.ok (.tuple #[.agg #[iv 0],.bool false]) w:=by kernel_rfl
theorem Yc (v:Value) (w:World):(Instr.typeAssert (.iface 202 v) 174 214 true).run prog w=.ok (.tuple #[.agg #[iv 0],.bool false]) w:=by kernel_rfl
theorem Vo (v:Value) (w:World):(Instr.typeAssert (.iface 202 v) 174 216 true).run prog w=.ok (.tuple #[.agg #[iv 0,iv 0],.bool false]) w:=by kernel_rfl
theorem Vm (v:Value) (w:World):(Instr.typeAssert (.iface 202 v) 174 217 true).run prog w=.ok (.tuple #[.agg #[iv 0],.bool false]) w:=by kernel_rfl
theorem Yb (v:Value) (w:World):(Instr.typeAssert (.iface 202 v) 174 205 true).run prog w=.ok (.tuple #[.agg #[iv 0],.bool false]) w:=by kernel_rfl
theorem Ya (v:Value) (w:World):(Instr.typeAssert (.iface 203 v) 174 212 true).run prog w=.ok (.tuple #[.agg #[iv 0],.bool false]) w:=by kernel_rfl
theorem X9 (v:Value) (w:World):(Instr.typeAssert (.iface 203 v) 174 213 true).run prog w=.ok (.tuple #[.agg #[iv 0],.bool false]) w:=by kernel_rfl
theorem X8 (v:Value) (w:World):(Instr.typeAssert (.iface 203 v) 174 214 true).run prog w=.ok (.tuple #[.agg #[iv 0],.bool false]) w:=by kernel_rfl
theorem Vl (v:Value) (w:World):(Instr.typeAssert (.iface 203 v) 174 216 true).run prog w=.ok (.tuple #[.agg #[iv 0,iv 0],.bool false]) w:=by kernel_rfl
theorem Vk (v:Value) (w:World):(Instr.typeAssert (.iface 203 v) 174 217 true).run prog w=.ok (.tuple #[.agg #[iv 0],.bool false]) w:=by kernel_rfl
theorem X7 (v:Value) (w:World):(Instr.typeAssert (.iface 203 v) 174 205 true).run prog w=.ok (.tuple #[.agg #[iv 0],.bool false]) w:=by kernel_rfl
theorem X6 (v:Value) (w:World):(Instr.typeAssert (.iface 212 v) 174 212 true).run prog w=.ok (.tuple #[v,.bool true]) w:=by kernel_rfl
theorem XZ (v:Value) (w:World):(Instr.typeAssert (.iface 212 v) 174 213 true).run prog w=.ok (.tuple #[.agg #[iv 0],.bool false]) w:=by kernel_rfl
theorem XY (v:Value) (w:World):(Instr.typeAssert (.iface 212 v) 174 214 true).run prog w=.ok (.tuple #[.agg #[iv 0],.bool false]) w:=by kernel_rfl
theorem Vj (v:Value) (w:World):(Instr.typeAssert (.iface 212 v) 174 216 true).run prog w=.ok (.tuple #[.agg #[iv 0,iv 0],.bool false]) w:=by kernel_rfl
theorem Vh (v:Value) (w:World):(Instr.typeAssert (.iface 212 v) 174 217 true).run prog w=.ok (.tuple #[.agg #[iv 0],.bool false]) w:=by kernel_rfl
theorem XX (v:Value) (w:World):(Instr.typeAssert (.iface 212 v) 174 205 true).run prog w=.ok (.tuple #[.agg #[iv 0],.bool false]) w:=by kernel_rfl
theorem XW (v:Value) (w:World):(Instr.typeAssert (.iface 213 v) 174 212 true).run prog w=.ok (.tuple #[.agg #[iv 0],.bool false]) w:=by kernel_rfl
theorem XV (v:Value) (w:World):(Instr.typeAssert (.iface 213 v) 174 213 true).run prog w=.ok (.tuple #[v,.bool true]) w:=by kernel_rfl
theorem XU (v:Value) (w:World):(Instr.typeAssert (.iface 213 v) 174 214 true).run prog w=.ok (.tuple #[.agg #[iv 0],.bool false]) w:=by kernel_rfl
theorem Vg (v:Value) (w:World):(Instr.typeAssert (.iface 213 v) 174 216 true).run prog w=.ok (.tuple #[.agg #[iv 0,iv 0],.bool false]) w:=by kernel_rfl
theorem Vf (v:Value) (w:World):(Instr.typeAssert (.iface 213 v) 174 217 true).run prog w=.ok (.tuple #[.agg #[iv 0],.bool false]) w:=by kernel_rfl
theorem XT (v:Value) (w:World):(Instr.typeAssert (.iface 213 v) 174 205 true).run prog w=.ok (.tuple #[.agg #[iv 0],.bool false]) w:=by kernel_rfl
theorem XR (v:Value) (w:World):(Instr.typeAssert (.iface 214 v) 174 212 true).run prog w=.ok (.tuple #[.agg #[iv 0],.bool false]) w:=by kernel_rfl
theorem XQ (v:Value) (w:World):(Instr.typeAssert (.iface 214 v) 174 213 true).run prog w=.ok (.tuple #[.agg #[iv 0],.bool false]) w:=by kernel_rfl
theorem XP (v:Value) (w:World):(Instr.typeAssert (.iface 214 v) 174 214 true).run prog w=.ok (.tuple #[v,.bool true]) w:=by kernel_rfl
theorem Ve (v:Value) (w:World):(Instr.typeAssert (.iface 214 v) 174 216 true).run prog w=.ok (.tuple #[.agg #[iv 0,iv 0],.bool false]) w:=by kernel_rfl
theorem Vd (v:Value) (w:World):(Instr.typeAssert (.iface 214 v) 174 217 true).run prog w=.ok (.tuple #[.agg #[iv 0],.bool false]) w:=by kernel_rfl
theorem XN (v:Value) (w:World):(Instr.typeAssert (.iface 214 v) 174 205 true).run prog w=.ok (.tuple #[.agg #[iv 0],.bool false]) w:=by kernel_rfl
theorem XM (v:Value) (w:World):(Instr.typeAssert (.iface 216 v) 174 212 true).run prog w=.ok (.tuple #[.agg #[iv 0],.bool false]) w:=by kernel_rfl
theorem XL (v:Value) (w:World):(Instr.typeAssert (.iface 216 v) 174 213 true).run prog w=.ok (.tuple #[.agg #[iv 0],.bool false]) w:=by kernel_rfl
theorem XJ (v:Value) (w:World):(Instr.typeAssert (.iface 216 v) 174 214 true).run prog w=.ok (.tuple #[.agg #[iv 0],.bool false]) w:=by kernel_rfl
theorem Vb (v:Value) (w:World):(Instr.typeAssert (.iface 216 v) 174 216 true).run prog w=.ok (.tuple #[v,.bool true]) w:=by kernel_rfl
theorem Va (v:Value) (w:World):(Instr.typeAssert (.iface 216 v) 174 217 true).run prog w=.ok (.tuple #[.agg #[iv 0],.bool false]) w:=by kernel_rfl
theorem XI (v:Value) (w:World):(Instr.typeAssert (.iface 216 v) 174 205 true).run prog w=.ok (.tuple #[.agg #[iv 0],.bool false]) w:=by kernel_rfl
theorem XH (v:Value) (w:World):(Instr.typeAssert (.iface 217 v) 174 212 true).run prog w=.ok (.tuple #[.agg #[iv 0],.bool false]) w:=by kernel_rfl
theorem XG (v:Value) (w:World):(Instr.typeAssert (.iface 217 v) 174 213 true).run prog w=.ok (.tuple #[.agg #[iv 0],.bool false]) w:=by kernel_rfl
theorem XF (v:Value) (w:World):(Instr.typeAssert (.iface 217 v) 174 214 true).run prog w=.ok (.tuple #[.agg #[iv 0],.bool false]) w:=by kernel_rfl
theorem U9 (v:Value) (w:World):(Instr.typeAssert (.iface 217 v) 174 216 true).run prog w=.ok (.tuple #[.agg #[iv 0,iv 0],.bool false]) w:=by kernel_rfl
theorem U8 (v:Value) (w:World):(Instr.typeAssert (.iface 217 v) 174 217 true).run prog w=.ok (.tuple #[v,.bool true]) w:=by kernel_rfl
theorem XE (v:Value) (w:World):(Instr.typeAssert (.iface 217 v) 174 205 true).run prog w=.ok (.tuple #[.agg #[iv 0],.bool false]) w:=by kernel_rfl
theorem XD (v:Value) (w:World):(Instr.typeAssert (.iface 205 v) 174 212 true).run prog w=.ok (.tuple #[.agg #[iv 0],.bool false]) w:=by kernel_rfl
theorem XC (v:Value) (w:World):(Instr.typeAssert (.iface 205 v) 174 213 true).run prog w=.ok (.tuple #[.agg #[iv 0],.bool false]) w:=by kernel_rfl
theorem XB (v:Value) (w:World):(Instr.typeAssert (.iface 205 v) 174 214 true).run prog w=.ok (.tuple #[.agg #[iv 0],.bool false]) w:=by kernel_rfl
theorem U7 (v:Value) (w:World):(Instr.typeAssert (.iface 205 v) 174 216 true).run prog w=.ok (.tuple #[.agg #[iv 0,iv 0],.bool false]) w:=by kernel_rfl
theorem U6 (v:Value) (w:World):(Instr.typeAssert (.iface 205 v) 174 217 true).run prog w=.ok (.tuple #[.agg #[iv 0],.bool false]) w:=by kernel_rfl
theorem XA (v:Value) (w:World):(Instr.typeAssert (.iface 205 v) 174 205 true).run prog w=.ok (.tuple #[v,.bool true]) w:=by kernel_rfl
theorem O9 (v:Value) (w:World):Calls prog 219 #[.iface 202 v] w fun r w'=>r=.returned (.bool false)∧w'=w:=by
 have t5:=Vo
 have t6:=Vm
 have t7:=Yb
 go_enter func219,ntmps219
 go_wp2
 go_ret
 exact ⟨rfl,rfl⟩
theorem O8 (v:Value) (w:World):Calls prog 219 #[.iface 203 v] w fun r w'=>r=.returned (.bool false)∧w'=w:=by
 have t5:=Vl
 have t6:=Vk
 have t7:=X7
 go_enter func219,ntmps219
 go_wp2
 go_ret
 exact ⟨rfl,rfl⟩
theorem O7 (v:Value) (w:World):Calls prog 219 #[.iface 212 v] w fun r w'=>r=.returned (.bool false)∧w'=w:=by
 have t5:=Vj
 have t6:=Vh
 have t7:=XX
 go_enter func219,ntmps219
 go_wp2
 go_ret
 exact ⟨rfl,rfl⟩
theorem O6 (v:Value) (w:World):Calls prog 219 #[.iface 213 v] w fun r w'=>r=.returned (.bool false)∧w'=w:=by
 have t5:=Vg
 have t6:=Vf
 have t7:=XT
 go_enter func219,ntmps219
 go_wp2
 go_ret
 exact ⟨rfl,rfl⟩
theorem OZ (v:Value) (w:World):Calls prog 219 #[.iface 214 v] w fun r w'=>r=.returned (.bool false)∧w'=w:=by
 have t5:=Ve
 have t6:=Vd
 have t7:=XN
 go_enter func219,ntmps219
 go_wp2
 go_ret
 exact ⟨rfl,rfl⟩
theorem OY (v:Value) (w:World):Calls prog 219 #[.iface 216 v] w fun r w'=>r=.returned (.bool true)∧w'=w:=by
 have t5:=Vb
 have t6:=Va
 have t7:=XI
 go_enter func219,ntmps219
 go_wp2
 go_ret
 exact ⟨rfl,rfl⟩
theorem OU (v:Value) (w:World):Calls prog 219 #[.iface 217 v] w fun r w'=>r=.returned (.bool true)∧w'=w:=by
 have t5:=U9
 have t6:=U8
 have t7:=XE
 go_enter func219,ntmps219
 go_wp2
 go_ret
 exact ⟨rfl,rfl⟩
theorem OT (v:Value) (w:World):Calls prog 219 #[.iface 205 v] w fun r w'=>r=.returned (.bool true)∧w'=w:=by
 have t5:=U7
 have t6:=U6
 have t7:=XA
 go_enter func219,ntmps219
 go_wp2
 go_ret
 exact ⟨rfl,rfl⟩
def W64 (n:Int):Prop := -9223372036854775808≤n∧n≤9223372036854775807
set_option linter.unusedSimpArgs false
theorem iJ (a:Addr) (fn:Fn) (m:Mode) (w:World):(store a (.func fn #[] #[]) m).run prog w=stored prog w a (.func fn #[] #[]) m:=run_store prog w a _ m rfl
theorem oP {B:Nat} {w wt:World} (h:Below B w.drew wt):Below B w wt:=⟨h.os,h.tape,h.output,h.size,h.block⟩
def Box (w:World) (b:Nat) (v s x f:Int) (t:Bool):Prop:=w.heap[b]? = some (.cells #[iv v,iv s,iv x,iv f,.bool t] 219)
theorem Box.later {w wt:World} {b:Nat} {v s x f:Int} {t:Bool} (h:Box w b v s x f t) (hb:Below w.heap.size w wt):Box wt b v s x f t:=by
 have lt:b<w.heap.size:=by
  unfold Box at h
  rcases Nat.lt_or_ge b w.heap.size with h'|h'
  ·exact h'
  ·rw [Array.getElem?_eq_none h'] at h;cases h
 exact (hb.block b lt).trans h
theorem Box.cells {w:World} {b:Nat} {v s x f:Int} {t:Bool} (h:Box w b v s x f t) :
  w.cell? ⟨b,0,none⟩=some (iv v)∧w.cell? ⟨b,1,none⟩=some (iv s)∧w.cell? ⟨b,2,none⟩=some (iv x)∧w.cell? ⟨b,3,none⟩=some (iv f)∧w.cell? ⟨b,4,none⟩=some (.bool t)∧
  w.frozen? ⟨b,0,none⟩=false∧w.frozen? ⟨b,1,none⟩=false∧w.frozen? ⟨b,2,none⟩=false∧w.frozen? ⟨b,3,none⟩=false∧w.frozen? ⟨b,4,none⟩=false:=by
 unfold Box at h
 refine ⟨?_,?_,?_,?_,?_,?_,?_,?_,?_,?_⟩<;>simp [World.cell?,World.frozen?,h]
theorem gW {fn:Func} {p:Tmp} (h:fn.results=#[.cell p 219]) (tmps:Array Value) {w:World} {b:Nat} {v s x f:Int} {t:Bool} (hp:tmps.getD p undef=.pointer (some ⟨b,0,none⟩)) (hB:Box w b v s x f t) :
  (results fn tmps).run prog w=.ok (.agg #[iv v,iv s,iv x,iv f,.bool t]) w:=
 results_cell_row h tmps w b _ _ _ _ hp hB (underlying219) rfl (by kernel_rfl)
theorem Box.set {w:World} {b:Nat} {v s x f v' s' x' f':Int} {t t':Bool} (h:Box w b v s x f t) :
  Box (((((w.setCell ⟨b,0,none⟩ (iv v')).setCell ⟨b,1,none⟩ (iv s')).setCell ⟨b,2,none⟩ (iv x')).setCell ⟨b,3,none⟩ (iv f')).setCell ⟨b,4,none⟩ (.bool t')) b v' s' x' f' t':=by
 unfold Box at h ⊢
 simp [World.setCell,Array.getElem?_modify,h]
theorem Box.Yo (w:World) (v s x f:Int) (t:Bool):Box (w.alloc (.cells #[iv v,iv s,iv x,iv f,.bool t] 219)) w.heap.size v s x f t:=heap_alloc_new w _
theorem Box.two {w:World} {b:Nat} {v s x f:Int} {t:Bool} (h:Box w b v s x f t) (o1 o2:Obj):Box ((w.alloc o1).alloc o2) b v s x f t:=
 h.later (((Below.refl _ w).alloc (Nat.le_refl _) o1).alloc (by simp) o2)
theorem Box.Yh {w:World} {b:Nat} {v s x f:Int} {t t':Bool} (h:Box w b v s x f t):Box (w.setCell ⟨b,4,none⟩ (.bool t')) b v s x f t':=by
 unfold Box at h ⊢
 simp [World.setCell,Array.getElem?_modify,h]
theorem Below.oJ {B:Nat} {a w:World} (h:Below B a w) {b:Nat} (hb:B≤b) (v0 v1 v2 v3 v4:Value) :
  Below B a (((((w.setCell ⟨b,0,none⟩ v0).setCell ⟨b,1,none⟩ v1).setCell ⟨b,2,none⟩ v2).setCell ⟨b,3,none⟩ v3).setCell ⟨b,4,none⟩ v4):=
 ((((h.setCell hb _).setCell hb _).setCell hb _).setCell hb _).setCell hb _
theorem Box.zC (w:World) (v s x f:Int) (t:Bool) (o1:Obj) (o2:Obj):Box (((w.alloc (.cells #[iv v,iv s,iv x,iv f,.bool t] 219)).alloc o1).alloc o2) w.heap.size v s x f t:=by
 unfold Box
 rw [Below.heap_alloc _ _ _ (by simp<;>omega),Below.heap_alloc _ _ _ (by simp)]
 exact heap_alloc_new w _
theorem Box.zB (w:World) (v s x f:Int) (t:Bool) (o1:Obj) (o2:Obj):Box (((w.alloc o1).alloc (.cells #[iv v,iv s,iv x,iv f,.bool t] 219)).alloc o2) (w.heap.size+1) v s x f t:=by
 unfold Box
 rw [Below.heap_alloc _ _ _ (by simp)]
 exact heap_alloc2_new w _ _
theorem rA {a b c d a' b' c' d':Int} {t t':Bool} (ha:a=a') (hb:b=b') (hc:c=c') (hd:d=d') (ht:t=t'):Ending.returned (.agg #[iv a,iv b,iv c,iv d,.bool t])=.returned (.agg #[iv a',iv b',iv c',iv d',.bool t']):=by rw [ha,hb,hc,hd,ht]
theorem aX {fn:Func} {p:Tmp} {ty:TypeId} (h:fn.results=#[.cell p ty]) (tmps:Array Value) (P:Program) (w:World) :
  (results fn tmps).run P w=((asAddr (tmps.getD p undef)).run P w).andThen fun a w₁=>(loadVar ty a).run P w₁:=by
 simp only [results,h]
 simp [Sem.run_bind,Result.andThen]
theorem Pl.Dw {a q:Int} (h0:0≤a) (h1:a<131072) (h2:a%2=0) (q0:0≤q) (q1:q≤1):bits .or .i64 a q=a+q:=
 bits_join .i64 62 (by decide) iC 1 a q (by omega) (by omega) (by omega) (by omega) (by omega) (by omega)
theorem lowest (v s x f:Int) (t:Bool) (w:World) :
  Calls prog 267 #[.agg #[iv v,iv s,iv x,iv f,.bool t]] w fun e w'=>e=.returned (iv (v%2))∧∃o,w'=w.alloc o:=by
 have hA:=Pl.and1 v
 go_enter func267,ntmps267
 go_wp2
 go_ret
 exact ⟨rfl,_,rfl⟩
theorem bi (v s x f:Int) (t:Bool) (w:World) :
  Calls prog 265 #[.agg #[iv v,iv s,iv x,iv f,.bool t]] w fun e w'=>e=.returned (.agg #[iv v,iv s,iv f,iv f,.bool t])∧∃o1 o2,w'=(w.alloc o1).alloc o2:=by
 go_enter func265,ntmps265
 go_wp2
 refine bodyPost_ret (v:=.agg #[iv v,iv s,iv f,iv f,.bool t]) ?_ rfl ⟨rfl,_,_,rfl⟩
 rw [aX rfl];go_simp
theorem gp (v x f:Int) (t:Bool) (w:World) (h0:0≤v) (h1:v<256) :
  Calls prog 255 #[.agg #[iv v,iv 8,iv x,iv f,.bool t]] w fun e w'=>e=.returned (iv (Pl.hi 1 v))∧∃o,w'=w.alloc o:=by
 have E:Hid (v/128=Pl.hi 1 v):=hide (by simp [Pl.hi,Pl.top];omega)
 go_enter func255,ntmps255
 go_wp2
 go_ret
 exact ⟨rI E.o,_,rfl⟩
theorem qB (v x f i:Int) (t:Bool) (w:World) (h0:0≤v) (h1:v<256) (i0:0≤i) (i1:i≤1) :
  Calls prog 264 #[.agg #[iv v,iv 8,iv x,iv f,.bool t],iv i] w fun e w'=>e=.returned (.agg #[iv (v*2%256+i),iv 8,iv x,iv (Pl.hi 1 v),.bool t])∧∃o1 o2 o3,w'=(((w.alloc o1).alloc o2).alloc o3).drew:=by
 have hO:=Pl.Dw (a:=v*2) (q:=i) (by omega) (by omega) (by omega) i0 i1
 have hA:=Pl.dP (v*2+i)
 have hE:(v*2+i)%256=v*2%256+i:=by omega
 go_enter func264,ntmps264
 go_wp2_with fail
 refine (gp v x f t _ h0 h1).mono ?_
 rintro e w' ⟨rfl,o,rfl⟩
 go_wp2_with fail
 go_region
 go_wp2_with fail
 refine bodyPost_ret (v:=.agg #[iv (v*2%256+i),iv 8,iv x,iv (Pl.hi 1 v),.bool t]) ?_ rfl ⟨rfl,_,_,_,rfl⟩
 rw [aX rfl];go_simp
theorem kU (v x f i:Int) (t:Bool) (w:World) (h0:0≤v) (h1:v<256) (i0:0≤i) (i1:i≤1) :
  Calls prog 266 #[.agg #[iv v,iv 8,iv x,iv f,.bool t],iv i] w fun e w'=>e=.returned (.agg #[iv (v/2+i*128),iv 8,iv x,iv (v%2),.bool t])∧∃o1 o2 o3,w'=(((w.alloc o1).alloc o2).alloc o3).drew:=by
 have hO:=Pl.pV (a:=v/2) (q:=i) (by omega) (by omega) i0 i1
 go_enter func266,ntmps266
 go_wp2_with fail
 refine (lowest v 8 x f t _).mono ?_
 rintro e w' ⟨rfl,o,rfl⟩
 go_wp2_with fail
 go_region
 go_wp2_with fail
 refine bodyPost_ret (v:=.agg #[iv (v/2+i*128),iv 8,iv x,iv (v%2),.bool t]) ?_ rfl ⟨rfl,_,_,_,rfl⟩
 rw [aX rfl];go_simp
theorem fZ (v x f:Int) (t:Bool) (w:World) (h0:0≤v) (h1:v<65536) :
  Calls prog 255 #[.agg #[iv v,iv 16,iv x,iv f,.bool t]] w fun e w'=>e=.returned (iv (Pl.hi 2 v))∧∃o,w'=w.alloc o:=by
 have E:Hid (v/32768=Pl.hi 2 v):=hide (by simp [Pl.hi,Pl.top];omega)
 go_enter func255,ntmps255
 go_wp2
 go_ret
 exact ⟨rI E.o,_,rfl⟩
theorem qA (v x f i:Int) (t:Bool) (w:World) (h0:0≤v) (h1:v<65536) (i0:0≤i) (i1:i≤1) :
  Calls prog 264 #[.agg #[iv v,iv 16,iv x,iv f,.bool t],iv i] w fun e w'=>e=.returned (.agg #[iv (v*2%65536+i),iv 16,iv x,iv (Pl.hi 2 v),.bool t])∧∃o1 o2 o3,w'=(((w.alloc o1).alloc o2).alloc o3).drew:=by
 have hO:=Pl.Dw (a:=v*2) (q:=i) (by omega) (by omega) (by omega) i0 i1
 have hA:=Pl.gu (v*2+i)
 have hE:(v*2+i)%65536=v*2%65536+i:=by omega
 go_enter func264,ntmps264
 go_wp2_with fail
 refine (fZ v x f t _ h0 h1).mono ?_
 rintro e w' ⟨rfl,o,rfl⟩
 go_wp2_with fail
 go_region
 go_wp2_with fail
 refine bodyPost_ret (v:=.agg #[iv (v*2%65536+i),iv 16,iv x,iv (Pl.hi 2 v),.bool t]) ?_ rfl ⟨rfl,_,_,_,rfl⟩
 rw [aX rfl];go_simp
theorem kT (v x f i:Int) (t:Bool) (w:World) (h0:0≤v) (h1:v<65536) (i0:0≤i) (i1:i≤1) :
  Calls prog 266 #[.agg #[iv v,iv 16,iv x,iv f,.bool t],iv i] w fun e w'=>e=.returned (.agg #[iv (v/2+i*32768),iv 16,iv x,iv (v%2),.bool t])∧∃o1 o2 o3,w'=(((w.alloc o1).alloc o2).alloc o3).drew:=by
 have hO:=Pl.pU (a:=v/2) (q:=i) (by omega) (by omega) i0 i1
 go_enter func266,ntmps266
 go_wp2_with fail
 refine (lowest v 16 x f t _).mono ?_
 rintro e w' ⟨rfl,o,rfl⟩
 go_wp2_with fail
 go_region
 go_wp2_with fail
 refine bodyPost_ret (v:=.agg #[iv (v/2+i*32768),iv 16,iv x,iv (v%2),.bool t]) ?_ rfl ⟨rfl,_,_,_,rfl⟩
 rw [aX rfl];go_simp
end Go.Proofs.YtkkmnnhaailkcaaGreatDoor
