/- Part 15 of what the last text leans on. -/
import Derived.Test.YtgikibaajanjiaaGreatDoorJD14
import Derived.StillTailTactics
set_option maxRecDepth 100000
set_option maxHeartbeats 16000000
namespace Go.Proofs.YtgikibaajanjiaaGreatDoor
open Pl
open Go.RowKit Go.Proofs.Tryz
set_option linter.unusedVariables false
def Bl (m k e:Int):Value:=if m=0 then .iface 228 (.agg #[iv k]) else if m=1 then .iface 229 (.agg #[iv k]) else if m=2 then .iface 230 (.agg #[iv k]) else if m=3 then .iface 231 (.agg #[iv k]) else if m=4 then .iface 232 (.agg #[iv k]) else if m=5 then .iface 234 (.agg #[iv k,iv e]) else if m=6 then .iface 236 (.agg #[iv e]) else .iface 237 (.agg #[iv e])
theorem Ws (v:Value) (w:World):(Instr.typeAssert (.iface 228 v) 196 228 true).run prog w=.ok (.tuple #[v,.bool true]) w:=by kernel_rfl
theorem Y8 (v:Value) (w:World):(Instr.typeAssert (.iface 229 v) 196 228 true).run prog w=.ok (.tuple #[.agg #[iv 0],.bool false]) w:=by kernel_rfl
theorem Y7 (v:Value) (w:World):(Instr.typeAssert (.iface 229 v) 196 229 true).run prog w=.ok (.tuple #[v,.bool true]) w:=by kernel_rfl
theorem Wq (v:Value) (w:World):(Instr.typeAssert (.iface 230 v) 196 228 true).run prog w=.ok (.tuple #[.agg #[iv 0],.bool false]) w:=by kernel_rfl
theorem Y6 (v:Value) (w:World):(Instr.typeAssert (.iface 230 v) 196 229 true).run prog w=.ok (.tuple #[.agg #[iv 0],.bool false]) w:=by kernel_rfl
theorem Y5 (v:Value) (w:World):(Instr.typeAssert (.iface 230 v) 196 237 true).run prog w=.ok (.tuple #[.agg #[iv 0],.bool false]) w:=by kernel_rfl
theorem Wp (v:Value) (w:World):(Instr.typeAssert (.iface 231 v) 196 228 true).run prog w=.ok (.tuple #[.agg #[iv 0],.bool false]) w:=by kernel_rfl
theorem Y4 (v:Value) (w:World):(Instr.typeAssert (.iface 231 v) 196 229 true).run prog w=.ok (.tuple #[.agg #[iv 0],.bool false]) w:=by kernel_rfl
theorem Y3 (v:Value) (w:World):(Instr.typeAssert (.iface 231 v) 196 237 true).run prog w=.ok (.tuple #[.agg #[iv 0],.bool false]) w:=by kernel_rfl
theorem Wn (v:Value) (w:World):(Instr.typeAssert (.iface 232 v) 196 228 true).run prog w=.ok (.tuple #[.agg #[iv 0],.bool false]) w:=by kernel_rfl
theorem Y2 (v:Value) (w:World):(Instr.typeAssert (.iface 232 v) 196 229 true).run prog w=.ok (.tuple #[.agg #[iv 0],.bool false]) w:=by kernel_rfl
theorem Y1 (v:Value) (w:World):(Instr.typeAssert (.iface 232 v) 196 237 true).run prog w=.ok (.tuple #[.agg #[iv 0],.bool false]) w:=by kernel_rfl
theorem Wl (v:Value) (w:World):(Instr.typeAssert (.iface 234 v) 196 228 true).run prog w=.ok (.tuple #[.agg #[iv 0],.bool false]) w:=by kernel_rfl
theorem Y0 (v:Value) (w:World):(Instr.typeAssert (.iface 234 v) 196 229 true).run prog w=.ok (.tuple #[.agg #[iv 0],.bool false]) w:=by kernel_rfl
theorem YZ (v:Value) (w:World):(Instr.typeAssert (.iface 234 v) 196 237 true).run prog w=.ok (.tuple #[.agg #[iv 0],.bool false]) w:=by kernel_rfl
theorem Wj (v:Value) (w:World):(Instr.typeAssert (.iface 236 v) 196 228 true).run prog w=.ok (.tuple #[.agg #[iv 0],.bool false]) w:=by kernel_rfl
theorem YY (v:Value) (w:World):(Instr.typeAssert (.iface 236 v) 196 229 true).run prog w=.ok (.tuple #[.agg #[iv 0],.bool false]) w:=by kernel_rfl
theorem YX (v:Value) (w:World):(Instr.typeAssert (.iface 236 v) 196 237 true).run prog w=.ok (.tuple #[.agg #[iv 0],.bool false]) w:=by kernel_rfl
theorem YW (v:Value) (w:World):(Instr.typeAssert (.iface 237 v) 196 228 true).run prog w=.ok (.tuple #[.agg #[iv 0],.bool false]) w:=by kernel_rfl
theorem YV (v:Value) (w:World):(Instr.typeAssert (.iface 237 v) 196 229 true).run prog w=.ok (.tuple #[.agg #[iv 0],.bool false]) w:=by kernel_rfl
theorem YU (v:Value) (w:World):(Instr.typeAssert (.iface 237 v) 196 237 true).run prog w=.ok (.tuple #[v,.bool true]) w:=by kernel_rfl
theorem JG (z:Int) (w:World) (hz:z=1\/z=2):Calls prog 256 #[iv z] w fun e w'=>e=.returned (iv (Pl.top z-1))/\w'=w:=by
 rcases hz with rfl|rfl
 all_goals
  go_enter func256,ntmps256;go_wp2_with (go_at_call 278;refine st (xP _ _ (by decide) (by decide)) ?_);go_ret;exact⟨rfl,rfl⟩
theorem RY {z x:Int} (hz:z=1\/z=2):bits .and .i64 x (Pl.top z-1)=x%Pl.top z:=by
 rcases hz with rfl|rfl
 ·exact gY x
 ·exact fO x
variable (w:World) (lo b g:Nat) (c:Mc) (h:Hl)
theorem Yw (z k:Int) (hC:CAt w lo b g c h) (hz:z=1\/z=2) (k0:0<=k) (k3:k<=3) :
  Calls prog 251 #[.pointer (some (abb b 0)),iv z,iv k] w fun e w'=>e=.returned (iv (c.low z k))/\∃n,w'=w.drewN n:=by
 obtain⟨n,rfl⟩:∃n:Nat,k=(n:Int):=⟨k.toNat,by omega⟩
 have hn:n<4:=by omega
 have q0:=hC.cX hn;have ha:=RY (x:=el c.r.xs n) hz;clear hC;go_enter func251,ntmps251;go_wp2_with fail;go_quiet (first|(go_at_call 256;exact Calls.quiet_of_same (JG _ _ hz))|fail);go_wp2_with fail;go_ret;exact⟨rfl,_,rfl⟩
theorem tJ (z v:Int) (hC:CAt w lo b g c h) (v0:0<=v) (v1:v<=65535) :
  Calls prog 253 #[.pointer (some (abb b 0)),iv z,iv v] w fun e w'=>e=.returned (.tuple #[])/\CAt w' lo b g (c.aJ (dB z c.r.f v)) h/\Kept b (b+1) w w':=by
 have HC:=aba hC;have q:=hC.cF;have qf:=hC.fz;clear hC;go_enter func253,ntmps253;go_wp2_with (go_at_call 277;refine st (jb _ _ _ _ (by omega) (by omega)) ?_);go_end0;exact⟨rfl,HC.o.aJ _,ak _ _ _ _⟩
theorem TP (m k e:Int) (w:World) (m0:0<=m) (m7:m<=7):Calls prog 168 #[.agg #[iv m,iv k,iv e]] w fun r w'=>r=.returned (Bl m k e)/\Kept 0 0 w w':=by
 have:m=0\/m=1\/m=2\/m=3\/m=4\/m=5\/m=6\/m=7:=by omega
 rcases this with rfl|rfl|rfl|rfl|rfl|rfl|rfl|rfl
 ·exact BI k e w
 ·exact BG k e w
 ·exact BD k e w
 ·exact BC k e w
 ·exact Bz k e w
 ·exact Bv k e w
 ·exact Bq k e w
 ·exact Bo k e w
theorem Rt (z k e:Int) (hC:CAt w lo b g c h) (hg:Pl.Good c.r) (hz:z=1\/z=2) (k0:0<=k) (k3:k<=3) (x0:0<=e) (x1:e<=65535) :
  Calls prog 257 #[.pointer (some (abb b 0)),iv z,.iface 230 (.agg #[iv k])] w fun e' w'=>e'=.returned (.tuple #[iv (bu c.r z 2 k e),.bool true])/\CAt w' lo b g (c.plc z 2 k e) h/\Kept b (b+1) w w':=by
 have t2:=Zy;have t3:=Zx;have t4:=Zw;have t5:=WP;have t6:=WO;obtain⟨n,rfl⟩:∃n:Nat,k=(n:Int):=⟨k.toNat,by omega⟩
 have hn:n<4:=by omega
 obtain⟨y0,y1⟩:=hg.aw n hn;have h4:=aba hg.a4;have l9:=hC.lt;have HC:=aba hC;have EV:Hid (el c.r.ys n=bu c.r z 2 (n:Int) e):=aba (by simp[bu]);have ER:Hid (c.plc z 2 (n:Int) e=c):=aba (by unfold Mc.plc bG;rw[if_neg (by decide),if_neg (by decide)];rfl);have HN:=aba (Blk.new w #[iv (n:Int)] 230);have C1:=aba (hC.alloc (.cells #[iv (n:Int)] 230));have HK:=aba (kept_alloc w (.cells #[iv (n:Int)] 230));clear hg hC;obtain⟨X,hX⟩:∃X:World,w.alloc (.cells #[iv (n:Int)] 230)=X:=⟨_,rfl⟩
 rw[hX]at HN C1 HK;have i0:(0:Int)<=(n:Int):=by omega
 have i1:(n:Int)<4:=by omega
 have n0:=HN.o.cell (i:=0) rfl;go_enter func257,ntmps257;go_wp2_with fail;clear hX t2 t3 t4 t5 t6;have q0:=C1.o.cY hn;go_region;go_wp2_with fail;go_ret2;exact⟨rIB EV.o rfl,by rw[ER.o];exact C1.o.drew,ai HK.o.any⟩
theorem Rn (z k e:Int) (hC:CAt w lo b g c h) (hg:Pl.Good c.r) (hz:z=1\/z=2) (k0:0<=k) (k3:k<=3) (x0:0<=e) (x1:e<=65535) :
  Calls prog 257 #[.pointer (some (abb b 0)),iv z,.iface 234 (.agg #[iv k,iv e])] w fun e' w'=>e'=.returned (.tuple #[iv (bu c.r z 5 k e),.bool true])/\CAt w' lo b g (c.plc z 5 k e) h/\Kept b (b+1) w w':=by
 have t2:=Zl;have t3:=Zk;have t4:=Zj;have t5:=WI;have t6:=WH;obtain⟨n,rfl⟩:∃n:Nat,k=(n:Int):=⟨k.toNat,by omega⟩
 have hn:n<4:=by omega
 obtain⟨y0,y1⟩:=hg.aw n hn;have h4:=aba hg.a4;have l9:=hC.lt;have HC:=aba hC;have EV:Hid ((el c.r.ys n+e)%65536=bu c.r z 5 (n:Int) e):=aba (by simp[bu]);have ER:Hid (c.plc z 5 (n:Int) e=c):=aba (by unfold Mc.plc bG;rw[if_neg (by decide),if_neg (by decide)];rfl);have HN:=aba (Blk.new w #[iv (n:Int),iv e] 234);have C1:=aba (hC.alloc (.cells #[iv (n:Int),iv e] 234));have HK:=aba (kept_alloc w (.cells #[iv (n:Int),iv e] 234));clear hg hC;obtain⟨X,hX⟩:∃X:World,w.alloc (.cells #[iv (n:Int),iv e] 234)=X:=⟨_,rfl⟩
 rw[hX]at HN C1 HK;have i0:(0:Int)<=(n:Int):=by omega
 have i1:(n:Int)<4:=by omega
 have n0:=HN.o.cell (i:=0) rfl;go_enter func257,ntmps257;go_wp2_with fail;clear hX t2 t3 t4 t5 t6;have q0:=C1.o.cY hn;have n1:=HN.o.cell (i:=1) rfl;go_quiet (first|(go_at_call 178;exact Calls.quiet_of_same (gZ _ _))|fail);go_wp2_with fail;go_ret2;exact⟨rIB EV.o rfl,by rw[ER.o];exact C1.o.any (ax (Kept.refl _ _ _) _),ax HK.o.any _⟩
theorem Rl (z k e:Int) (hC:CAt w lo b g c h) (hg:Pl.Good c.r) (hz:z=1\/z=2) (k0:0<=k) (k3:k<=3) (x0:0<=e) (x1:e<=65535) :
  Calls prog 257 #[.pointer (some (abb b 0)),iv z,.iface 236 (.agg #[iv e])] w fun e' w'=>e'=.returned (.tuple #[iv (bu c.r z 6 k e),.bool true])/\CAt w' lo b g (c.plc z 6 k e) h/\Kept b (b+1) w w':=by
 have t2:=Zh;have t3:=Zg;have t4:=Zf;have t5:=WG;have t6:=WF;obtain⟨n,rfl⟩:∃n:Nat,k=(n:Int):=⟨k.toNat,by omega⟩
 have hn:n<4:=by omega
 obtain⟨y0,y1⟩:=hg.aw n hn;have h4:=aba hg.a4;have l9:=hC.lt;have HC:=aba hC;have EV:Hid (e=bu c.r z 6 (n:Int) e):=aba (by simp[bu]);have ER:Hid (c.plc z 6 (n:Int) e=c):=aba (by unfold Mc.plc bG;rw[if_neg (by decide),if_neg (by decide)];rfl);have HN:=aba (Blk.new w #[iv e] 236);have C1:=aba (hC.alloc (.cells #[iv e] 236));have HK:=aba (kept_alloc w (.cells #[iv e] 236));clear hg hC;obtain⟨X,hX⟩:∃X:World,w.alloc (.cells #[iv e] 236)=X:=⟨_,rfl⟩
 rw[hX]at HN C1 HK;have i0:(0:Int)<=(n:Int):=by omega
 have i1:(n:Int)<4:=by omega
 have n0:=HN.o.cell (i:=0) rfl;go_enter func257,ntmps257;go_wp2_with fail;clear hX t2 t3 t4 t5 t6;go_ret2;exact⟨rIB EV.o rfl,by rw[ER.o];exact C1.o,HK.o.any⟩
theorem Rq (z k e:Int) (hC:CAt w lo b g c h) (hg:Pl.Good c.r) (hz:z=1\/z=2) (k0:0<=k) (k3:k<=3) (x0:0<=e) (x1:e<=65535) :
  Calls prog 257 #[.pointer (some (abb b 0)),iv z,.iface 231 (.agg #[iv k])] w fun e' w'=>e'=.returned (.tuple #[iv (bu c.r z 3 k e),.bool true])/\CAt w' lo b g (c.plc z 3 k e) h/\Kept b (b+1) w w':=by
 have t2:=Zu;have t3:=Zt;have t4:=Zr;have t5:=WN;have t6:=WM;obtain⟨n,rfl⟩:∃n:Nat,k=(n:Int):=⟨k.toNat,by omega⟩
 have hn:n<4:=by omega
 obtain⟨y0,y1⟩:=hg.aw n hn;have h4:=aba hg.a4;have l9:=hC.lt;have HC:=aba hC;have EV:Hid (el c.r.ys n=bu c.r z 3 (n:Int) e):=aba (by simp[bu]);obtain⟨nb0,nb1⟩:1<=byN z (n:Int)/\byN z (n:Int)<=2:=by unfold byN;split<;>omega
 have ew:IntKind.i64.wrap (el c.r.ys n+byN z (n:Int))=el c.r.ys n+byN z (n:Int):=by rw[IntKind.wrap_i64];omega
 have ER:Hid (c.plc z 3 (n:Int) e=c.fC n ((el c.r.ys n+byN z (n:Int))%65536)):=aba (by simp[Mc.plc,bG,Mc.fC,Mc.bC]);have HN:=aba (Blk.new w #[iv (n:Int)] 231);have C1:=aba (hC.alloc (.cells #[iv (n:Int)] 231));have HK:=aba (kept_alloc w (.cells #[iv (n:Int)] 231));clear hg hC;obtain⟨X,hX⟩:∃X:World,w.alloc (.cells #[iv (n:Int)] 231)=X:=⟨_,rfl⟩
 rw[hX]at HN C1 HK;have i0:(0:Int)<=(n:Int):=by omega
 have i1:(n:Int)<4:=by omega
 have n0:=HN.o.cell (i:=0) rfl;go_enter func257,ntmps257;go_wp2_with fail;clear hX t2 t3 t4 t5 t6;have q0:=C1.o.cY hn;go_region;go_wp2_with fail;clear q0 n0;refine wp_region_still_tail 12 (by kernel_rfl) (by kernel_rfl) ?_;simp only[List.take_succ_cons,List.take_zero,List.drop_succ_cons,List.drop_zero];obtain⟨Y,hY⟩:∃Y:World,Y={X.drew with drawn:=(X.drew).drawn+1}:=⟨_,rfl⟩
 rw[<-hY];have CY:Hid (CAt Y lo b g c h):=aba (by rw[hY];exact C1.o.any (ai (ai (Kept.refl _ _ _))));have NY:Hid (Blk Y w.heap.size #[iv (n:Int)] 231):=aba (by rw[hY];exact HN.o);have KY:Hid (Kept 0 0 w Y):=aba (by rw[hY];exact ai (ai HK.o));clear hY;have q1:=CY.o.cY hn;have qf:=CY.o.fz (4+n);have n1:=NY.o.cell (i:=0) rfl
 iterate 7 still_step
 still_call (zo _ _ _ hz)
 iterate 1 still_step
 still_call (gZ _ _)
 iterate 2 still_step
 refine wpStill_nil ?_;go_wp2_with fail;go_ret2;exact⟨rIB EV.o rfl,by rw[ER.o];exact CY.o.vz h4.o hn _,af KY.o.any _ _ _ (.inl ⟨by omega,by omega⟩)⟩
theorem Ro (z k e:Int) (hC:CAt w lo b g c h) (hg:Pl.Good c.r) (hz:z=1\/z=2) (k0:0<=k) (k3:k<=3) (x0:0<=e) (x1:e<=65535) :
  Calls prog 257 #[.pointer (some (abb b 0)),iv z,.iface 232 (.agg #[iv k])] w fun e' w'=>e'=.returned (.tuple #[iv (bu c.r z 4 k e),.bool true])/\CAt w' lo b g (c.plc z 4 k e) h/\Kept b (b+1) w w':=by
 have t2:=Zp;have t3:=Zo;have t4:=Zn;have t5:=WL;have t6:=WJ;obtain⟨n,rfl⟩:∃n:Nat,k=(n:Int):=⟨k.toNat,by omega⟩
 have hn:n<4:=by omega
 obtain⟨y0,y1⟩:=hg.aw n hn;have h4:=aba hg.a4;have l9:=hC.lt;have HC:=aba hC;have EV:Hid ((el c.r.ys n-byN z (n:Int))%65536=bu c.r z 4 (n:Int) e):=aba (by simp[bu]);obtain⟨nb0,nb1⟩:1<=byN z (n:Int)/\byN z (n:Int)<=2:=by unfold byN;split<;>omega
 have ew:IntKind.i64.wrap (el c.r.ys n-byN z (n:Int))=el c.r.ys n-byN z (n:Int):=by rw[IntKind.wrap_i64];omega
 have ER:Hid (c.plc z 4 (n:Int) e=c.fC n ((el c.r.ys n-byN z (n:Int))%65536)):=aba (by simp[Mc.plc,bG,Mc.fC,Mc.bC]);have HN:=aba (Blk.new w #[iv (n:Int)] 232);have C1:=aba (hC.alloc (.cells #[iv (n:Int)] 232));have HK:=aba (kept_alloc w (.cells #[iv (n:Int)] 232));clear hg hC;obtain⟨X,hX⟩:∃X:World,w.alloc (.cells #[iv (n:Int)] 232)=X:=⟨_,rfl⟩
 rw[hX]at HN C1 HK;have i0:(0:Int)<=(n:Int):=by omega
 have i1:(n:Int)<4:=by omega
 have n0:=HN.o.cell (i:=0) rfl;go_enter func257,ntmps257;go_wp2_with fail;clear hX t2 t3 t4 t5 t6;clear n0;refine wp_region_still_tail 18 (by kernel_rfl) (by kernel_rfl) ?_;simp only[List.take_succ_cons,List.take_zero,List.drop_succ_cons,List.drop_zero];obtain⟨Y,hY⟩:∃Y:World,Y={X with drawn:=(X).drawn+1}:=⟨_,rfl⟩
 rw[<-hY];have CY:Hid (CAt Y lo b g c h):=aba (by rw[hY];exact C1.o.any (ai (Kept.refl _ _ _)));have NY:Hid (Blk Y w.heap.size #[iv (n:Int)] 232):=aba (by rw[hY];exact HN.o);have KY:Hid (Kept 0 0 w Y):=aba (by rw[hY];exact ai HK.o);clear hY;have q1:=CY.o.cY hn;have qf:=CY.o.fz (4+n);have n1:=NY.o.cell (i:=0) rfl
 iterate 13 still_step
 still_call (zo _ _ _ hz)
 iterate 1 still_step
 still_call (gZ _ _)
 iterate 2 still_step
 refine wpStill_nil ?_;go_wp2_with fail;go_region;go_wp2_with fail;go_ret2;exact⟨rIB EV.o rfl,by rw[ER.o];exact(CY.o.vz h4.o hn _).drew,ai (af KY.o.any _ _ _ (.inl ⟨by omega,by omega⟩))⟩
theorem Rw (w:World) (b:Nat) (z:Int) (v:Value) :
  Calls prog 257 #[.pointer (some (abb b 0)),iv z,.iface 228 v] w fun e' w'=>e'=.returned (.tuple #[iv 0,.bool false])/\w'=w:=by
 have t2:=ZH;have t3:=ZG;have t4:=ZF;have t5:=WU;have t6:=WT;go_enter func257,ntmps257;go_wp2_with fail;go_ret2;exact⟨rfl,rfl⟩
theorem Ru (w:World) (b:Nat) (z:Int) (v:Value) :
  Calls prog 257 #[.pointer (some (abb b 0)),iv z,.iface 229 v] w fun e' w'=>e'=.returned (.tuple #[iv 0,.bool false])/\w'=w:=by
 have t2:=ZC;have t3:=ZB;have t4:=ZA;have t5:=WR;have t6:=WQ;go_enter func257,ntmps257;go_wp2_with fail;go_ret2;exact⟨rfl,rfl⟩
theorem Rk (w:World) (b:Nat) (z:Int) (v:Value) :
  Calls prog 257 #[.pointer (some (abb b 0)),iv z,.iface 237 v] w fun e' w'=>e'=.returned (.tuple #[iv 0,.bool false])/\w'=w:=by
 have t2:=Zd;have t3:=Zc;have t4:=Zb;have t5:=WE;have t6:=WB;go_enter func257,ntmps257;go_wp2_with fail;go_ret2;exact⟨rfl,rfl⟩
def Pl.Mc.slot (c:Mc) (z m k e:Int):Mc:=bif Mc.gK m then c else c.plc z m k e
theorem Rj (z m k e:Int) (hC:CAt w lo b g c h) (hg:Pl.Good c.r) (hz:z=1\/z=2) (m0:0<=m) (m7:m<=7) (k0:0<=k) (k3:k<=3) (x0:0<=e) (x1:e<=65535) :
  Calls prog 257 #[.pointer (some (abb b 0)),iv z,Bl m k e] w fun e' w'=>e'=.returned (.tuple #[iv (c.readA z m k e),.bool (!Mc.gK m)])/\CAt w' lo b g (c.slot z m k e) h/\Kept b (b+1) w w':=by
 have:m=0\/m=1\/m=2\/m=3\/m=4\/m=5\/m=6\/m=7:=by omega
 rcases this with rfl|rfl|rfl|rfl|rfl|rfl|rfl|rfl
 ·refine(Rw w b z (.agg #[iv k])).mono ?_;rintro e9 w9⟨rfl,rfl⟩;exact⟨rfl,hC,Kept.refl _ _ _⟩
 ·refine(Ru w b z (.agg #[iv k])).mono ?_;rintro e9 w9⟨rfl,rfl⟩;exact⟨rfl,hC,Kept.refl _ _ _⟩
 ·exact Rt w lo b g c h z k e hC hg hz k0 k3 x0 x1
 ·exact Rq w lo b g c h z k e hC hg hz k0 k3 x0 x1
 ·exact Ro w lo b g c h z k e hC hg hz k0 k3 x0 x1
 ·exact Rn w lo b g c h z k e hC hg hz k0 k3 x0 x1
 ·exact Rl w lo b g c h z k e hC hg hz k0 k3 x0 x1
 ·refine(Rk w b z (.agg #[iv e])).mono ?_;rintro e9 w9⟨rfl,rfl⟩;exact⟨rfl,hC,Kept.refl _ _ _⟩
theorem nM (z k:Int) (hC:CAt w lo b g c h) (hz:z=1\/z=2) (k0:0<=k) (k3:k<=3) :
  Calls prog 251 #[.pointer (some (abb b 0)),iv z,iv k] w fun e w'=>e=.returned (iv (c.low z k))/\Kept 0 0 w w':=by
 refine(Yw w lo b g c h z k hC hz k0 k3).mono ?_;rintro e w'⟨rfl,n,rfl⟩;exact⟨rfl,ax (Kept.refl _ _ _) _⟩
theorem Tt {w W W':World} {lo hi l h:Nat} (k:Kept lo hi w W) (m:Kept l h W W') (hg:w.heap.size<=l):Kept lo hi w W':=
 ⟨m.os.trans k.os,m.tape.trans k.tape,m.output.trans k.output,Nat.le_trans k.size m.size,fun i hi hn=>(m.block i (Nat.lt_of_lt_of_le hi k.size) (by omega)).trans (k.block i hi hn)⟩
theorem qh (m k e:Int):∃(T:TypeId) (U:Value),Bl m k e=.iface T U:=by
 unfold Bl;repeat' split
 all_goals exact⟨_,_,rfl⟩
theorem wH (x:Pl.In) (hC:CAt w lo b g c h) (G:GM c) (B:InB x) :
  Calls prog 227 #[.pointer (some (abb b 0)),.agg (inX x)] w fun e w'=>e=.returned (.agg #[Bl x.m x.k x.e,iv x.z,iv (c.readA x.z x.m x.k x.e)])/\CAt w' lo b g (c.slot x.z x.m x.k x.e) h/\Kept b (b+1) w w':=by
 obtain⟨l0,l1,l2,l3,l4⟩:=hC.lt;have HB:=aba B;have HG:=aba G.g;have K0:=aba (ah (kept_alloc w (.cells (inX x) 48)) (.cells #[.nilIface,iv 0,iv 0] 239));have C0:=aba ((hC.alloc (.cells (inX x) 48)).alloc (.cells #[.nilIface,iv 0,iv 0] 239));have I0:=aba ((Blk.new w (inX x) 48).alloc (.cells #[.nilIface,iv 0,iv 0] 239));have R0:=Blk.new (w.alloc (.cells (inX x) 48)) #[.nilIface,iv 0,iv 0] 239;simp only[World.size_alloc]at R0;replace R0:=aba R0;obtain⟨X,hX⟩:∃X:World,(w.alloc (.cells (inX x) 48)).alloc (.cells #[.nilIface,iv 0,iv 0] 239)=X:=⟨_,rfl⟩
 rw[hX]at K0 C0 I0 R0;obtain⟨T,U,hV⟩:=qh x.m x.k x.e;have HV:=aba hV;obtain⟨A,hA⟩:∃A,A=c.readA x.z x.m x.k x.e:=⟨_,rfl⟩
 have HA:=aba hA;rw[hV,<-hA];clear hC G B hV hA;have p:=I0.o.all;go_enter func227,ntmps227;go_wp2_with (go_at_call 168;refine(TP x.m x.k x.e _ HB.o.m0 HB.o.m1).mono ?_;rintro e9 W1⟨rfl,k1⟩;rw[HV.o];have C1:=aba (C0.o.any k1);have I1:=aba (I0.o.ae k1);have R1:=aba (R0.o.ae k1);have K1:=aba (K0.o.trans k1);clear k1);clear hX p;have p:=I1.o.cell (i:=1) rfl
 go_region_held3 (fun w'=>w'.cell? (abb w.heap.size 1)=some (iv x.z)) (first|with_reducible exact I2.o.cell (i:=1) rfl|with_reducible exact I1.o.cell (i:=1) rfl|exact(show Blk _ _ _ _ from I1.o).cell (i:=1) rfl)
  (first|(go_at_call 257;rw[<-HV.o];refine(Rj _ lo b g c h x.z x.m x.k x.e C1.o.drew HG.o HB.o.z HB.o.m0 HB.o.m1 HB.o.k0 HB.o.k1 HB.o.e0 HB.o.e1).mono ?_;rintro e9 W2⟨rfl,hc2,kd⟩;rw[<-HA.o];try rw[HV.o];have k2:=aN kd;have C2:=aba hc2;have I2:=aba (I1.o.kept k2 (by omega));have R2:=aba (R1.o.kept k2 (by omega));have K2:=aba (K1.o.any.trans k2);clear kd k2 hc2))
 clear p;have p2:=I2.o.all;have r2:=R2.o.all;have rf2:=R2.o.fz;go_wp2_with fail;have K3:=((ak W2 (w.heap.size+1) 0 (.iface T U)).one 1 (iv x.z)).one 2 (iv A);refine bodyPost_ret (v:=.agg #[.iface T U,iv x.z,iv A]) ?_ rfl ⟨rfl,C2.o.kept K3 (by omega) (by omega),Tt K2.o K3 (by omega)⟩;rw[aj rfl];go_simp
theorem Vz (z a k:Int) (hC:CAt w lo b g c h) (hz:z=1\/z=2) (k0:0<=k) (k3:k<=3) :
  Calls prog 249 #[.pointer (some (abb b 0)),.agg #[.iface 228 (.agg #[iv k]),iv z,iv a]] w fun e w'=>e=.returned (.tuple #[iv (c.low z k),.agg ftZ])/\CAt w' lo b g c h/\Kept 0 0 w w':=by
 have t0:=Ws;obtain⟨l0,l1,l2,l3,l4⟩:=hC.lt;have K0:=aba (ah (kept_alloc w (.cells #[.iface 228 (.agg #[iv k]),iv z,iv a] 239)) (.cells ftZ 42));have C0:=aba ((hC.alloc (.cells #[.iface 228 (.agg #[iv k]),iv z,iv a] 239)).alloc (.cells ftZ 42));have I0:=aba ((Blk.new w #[.iface 228 (.agg #[iv k]),iv z,iv a] 239).alloc (.cells ftZ 42));have R0:=Blk.new (w.alloc (.cells #[.iface 228 (.agg #[iv k]),iv z,iv a] 239)) ftZ 42;simp only[World.size_alloc]at R0;replace R0:=aba R0;obtain⟨X,hX⟩:∃X:World,(w.alloc (.cells #[.iface 228 (.agg #[iv k]),iv z,iv a] 239)).alloc (.cells ftZ 42)=X:=⟨_,rfl⟩
 rw[hX]at K0 C0 I0 R0;have p:=I0.o.all;have r:=R0.o.all;have rf:=R0.o.fz;have sX:w.heap.size+1<X.heap.size:=R0.o.lt;have K1:=aba (ah K0.o (.cells #[iv k] 228));have C1:=aba (C0.o.alloc (.cells #[iv k] 228));have R1:=aba (R0.o.alloc (.cells #[iv k] 228));have I1:=aba (I0.o.alloc (.cells #[iv k] 228));have N1:=aba (Blk.new X #[iv k] 228);obtain⟨W1,hW⟩:∃W:World,X.alloc (.cells #[iv k] 228)=W:=⟨_,rfl⟩
 rw[hW]at K1 C1 R1 I1 N1;have p1:=I1.o.all;have r1:=R1.o.all;have rf1:=R1.o.fz;have n1:=N1.o.all;have nf1:=N1.o.fz;have s1:X.heap.size<W1.heap.size:=N1.o.lt;clear hC;go_enter func249,ntmps249;go_wp2_with (go_at_call 251;refine(nM _ lo b g c h z k C1.o hz k0 k3).mono ?_;rintro e9 W2⟨rfl,k1⟩;have C2:=aba (C1.o.any k1);have R2:=aba (R1.o.ae k1);have K2:=aba (K1.o.trans k1);have r2:=R2.o.all;have rf2:=R2.o.fz;clear k1);have K3:=(((((ak W2 (w.heap.size+1) 0 (iv 0)).one 1 (iv 0)).one 2 (iv 0)).one 3 (iv 0)).one 4 (.bool false))
 refine bodyPost_ret (v:=.tuple #[iv (c.low z k),.agg ftZ]) ?_ rfl ⟨rfl,C2.o.kept K3 (by omega) (by omega),aB K2.o K3 (by omega)⟩;rw[gQ rfl];go_simp
theorem Vy (z a k:Int) (hC:CAt w lo b g c h) (k0:0<=k) (k3:k<=3) :
  Calls prog 249 #[.pointer (some (abb b 0)),.agg #[.iface 229 (.agg #[iv k]),iv z,iv a]] w fun e w'=>e=.returned (.tuple #[iv (el c.r.ys k.toNat),.agg ftZ])/\CAt w' lo b g c h/\Kept 0 0 w w':=by
 obtain⟨n,rfl⟩:∃n:Nat,k=(n:Int):=⟨k.toNat,by omega⟩
 have hn:n<4:=by omega
 have t0:=Y8;have t1:=Y7;obtain⟨l0,l1,l2,l3,l4⟩:=hC.lt;have K0:=aba (ah (kept_alloc w (.cells #[.iface 229 (.agg #[iv (n:Int)]),iv z,iv a] 239)) (.cells ftZ 42));have C0:=aba ((hC.alloc (.cells #[.iface 229 (.agg #[iv (n:Int)]),iv z,iv a] 239)).alloc (.cells ftZ 42));have I0:=aba ((Blk.new w #[.iface 229 (.agg #[iv (n:Int)]),iv z,iv a] 239).alloc (.cells ftZ 42));have R0:=Blk.new (w.alloc (.cells #[.iface 229 (.agg #[iv (n:Int)]),iv z,iv a] 239)) ftZ 42;simp only[World.size_alloc]at R0;replace R0:=aba R0;obtain⟨X,hX⟩:∃X:World,(w.alloc (.cells #[.iface 229 (.agg #[iv (n:Int)]),iv z,iv a] 239)).alloc (.cells ftZ 42)=X:=⟨_,rfl⟩
 rw[hX]at K0 C0 I0 R0;have p:=I0.o.all;have r:=R0.o.all;have rf:=R0.o.fz;have sX:w.heap.size+1<X.heap.size:=R0.o.lt;have K1:=aba (ah K0.o (.cells #[iv (n:Int)] 229));have C1:=aba (C0.o.alloc (.cells #[iv (n:Int)] 229));have R1:=aba (R0.o.alloc (.cells #[iv (n:Int)] 229));have I1:=aba (I0.o.alloc (.cells #[iv (n:Int)] 229));have N1:=aba (Blk.new X #[iv (n:Int)] 229);obtain⟨W1,hW⟩:∃W:World,X.alloc (.cells #[iv (n:Int)] 229)=W:=⟨_,rfl⟩
 rw[hW]at K1 C1 R1 I1 N1;have p1:=I1.o.all;have r1:=R1.o.all;have rf1:=R1.o.fz;have n1:=N1.o.all;have nf1:=N1.o.fz;have s1:X.heap.size<W1.heap.size:=N1.o.lt;clear hC;have i0:(0:Int)<=(n:Int):=by omega
 have i1:(n:Int)<4:=by omega
 go_enter func249,ntmps249;go_wp2_with fail;clear hW hX p r rf;have q:=C1.o.cY hn;go_region;go_wp2_with fail;have K2:=ai (((((ak W1 (w.heap.size+1) 0 (iv 0)).one 1 (iv 0)).one 2 (iv 0)).one 3 (iv 0)).one 4 (.bool false));refine bodyPost_ret (v:=.tuple #[iv (el c.r.ys n),.agg ftZ]) ?_ rfl ⟨rfl,C1.o.kept K2 (by omega) (by omega),aB K1.o K2 (by omega)⟩;rw[gQ rfl];go_simp
theorem Vx (z a e:Int) (hC:CAt w lo b g c h) :
  Calls prog 249 #[.pointer (some (abb b 0)),.agg #[.iface 237 (.agg #[iv e]),iv z,iv a]] w fun e' w'=>e'=.returned (.tuple #[iv e,.agg ftZ])/\CAt w' lo b g c h/\Kept 0 0 w w':=by
 have t0:=YW;have t1:=YV;have t7:=YU;obtain⟨l0,l1,l2,l3,l4⟩:=hC.lt;have K0:=aba (ah (kept_alloc w (.cells #[.iface 237 (.agg #[iv e]),iv z,iv a] 239)) (.cells ftZ 42));have C0:=aba ((hC.alloc (.cells #[.iface 237 (.agg #[iv e]),iv z,iv a] 239)).alloc (.cells ftZ 42));have I0:=aba ((Blk.new w #[.iface 237 (.agg #[iv e]),iv z,iv a] 239).alloc (.cells ftZ 42));have R0:=Blk.new (w.alloc (.cells #[.iface 237 (.agg #[iv e]),iv z,iv a] 239)) ftZ 42;simp only[World.size_alloc]at R0;replace R0:=aba R0;obtain⟨X,hX⟩:∃X:World,(w.alloc (.cells #[.iface 237 (.agg #[iv e]),iv z,iv a] 239)).alloc (.cells ftZ 42)=X:=⟨_,rfl⟩
 rw[hX]at K0 C0 I0 R0;have p:=I0.o.all;have r:=R0.o.all;have rf:=R0.o.fz;have sX:w.heap.size+1<X.heap.size:=R0.o.lt;have K1:=aba (ah K0.o (.cells #[iv e] 237));have C1:=aba (C0.o.alloc (.cells #[iv e] 237));have R1:=aba (R0.o.alloc (.cells #[iv e] 237));have I1:=aba (I0.o.alloc (.cells #[iv e] 237));have N1:=aba (Blk.new X #[iv e] 237);obtain⟨W1,hW⟩:∃W:World,X.alloc (.cells #[iv e] 237)=W:=⟨_,rfl⟩
 rw[hW]at K1 C1 R1 I1 N1;have p1:=I1.o.all;have r1:=R1.o.all;have rf1:=R1.o.fz;have n1:=N1.o.all;have nf1:=N1.o.fz;have s1:X.heap.size<W1.heap.size:=N1.o.lt;clear hC;go_enter func249,ntmps249;go_wp2_with fail;have K2:=(((((ak W1 (w.heap.size+1) 0 (iv 0)).one 1 (iv 0)).one 2 (iv 0)).one 3 (iv 0)).one 4 (.bool false))
 refine bodyPost_ret (v:=.tuple #[iv e,.agg ftZ]) ?_ rfl ⟨rfl,C1.o.kept K2 (by omega) (by omega),aB K1.o K2 (by omega)⟩;rw[gQ rfl];go_simp
theorem wI (z a:Int) (T:TypeId) (U:Value) (t0:∀w,(Instr.typeAssert (.iface T U) 196 228 true).run prog w=.ok (.tuple #[.agg #[iv 0],.bool false]) w) (t1:∀w,(Instr.typeAssert (.iface T U) 196 229 true).run prog w=.ok (.tuple #[.agg #[iv 0],.bool false]) w) (t7:∀w,(Instr.typeAssert (.iface T U) 196 237 true).run prog w=.ok (.tuple #[.agg #[iv 0],.bool false]) w) (hC:CAt w lo b g c h) (G:GM c) (hf:c.f=aI) (hz:z=1\/z=2) (a0:0<=a) (a1:a<=65535) :
  Calls prog 249 #[.pointer (some (abb b 0)),.agg #[.iface T U,iv z,iv a]] w fun e w'=>∃g',e=.returned (.tuple #[iv (c.gI 1 z a 0),.agg (ftC (c.acc 1 z a 0).f)])/\CAt w' lo b g' (c.acc 1 z a 0) h/\Since w b (b+1) g w' g':=by
 have HA:=aba (yY hz a0 a1);have HG:=aba G;obtain⟨F,hF⟩:∃F,F=Mc.dA aI 1 z a:=⟨_,rfl⟩
 have HF:=aba hF;rw[show(c.acc 1 z a 0).f=F by show Mc.dA c.f 1 z a=F;rw[hf,hF]];obtain⟨V,hV⟩:∃V,V=c.gI 1 z a 0:=⟨_,rfl⟩
 have HV:Hid (V=if (1:Int)=2 then 0 else Pl.lv c.bx 1 z a 0):=aba hV;rw[<-hV];obtain⟨l0,l1,l2,l3,l4⟩:=hC.lt;have K0:=aba (ah (kept_alloc w (.cells #[.iface T U,iv z,iv a] 239)) (.cells ftZ 42));have C0:=aba ((hC.alloc (.cells #[.iface T U,iv z,iv a] 239)).alloc (.cells ftZ 42));have I0:=aba ((Blk.new w #[.iface T U,iv z,iv a] 239).alloc (.cells ftZ 42));have R0:=Blk.new (w.alloc (.cells #[.iface T U,iv z,iv a] 239)) ftZ 42;simp only[World.size_alloc]at R0;replace R0:=aba R0;obtain⟨X,hX⟩:∃X:World,(w.alloc (.cells #[.iface T U,iv z,iv a] 239)).alloc (.cells ftZ 42)=X:=⟨_,rfl⟩
 rw[hX]at K0 C0 I0 R0;have p:=I0.o.all;have r:=R0.o.all;have rf:=R0.o.fz;have sX:w.heap.size+1<X.heap.size:=R0.o.lt;clear hC G hF hV;go_enter func249,ntmps249;go_wp2_with (go_at_call 187;refine(jX _ lo b g c h 1 z a 0 C0.o HG.o HA.o V HV F HF).mono ?_;rintro e9 W1⟨g',rfl,hc1,hs1⟩;unfold ftC;have S1:=aba (((Since.refl w b (b+1) g).any K0.o).trans hs1);have C1:=aba hc1;have R1:=aba (hs1.blk R0.o (by omega) (by omega));have n1:=hs1.ne (b:=w.heap.size+1) R0.o.lt (by omega);have r1:=R1.o.all;have rf1:=R1.o.fz;clear hc1 hs1);have K2:=(((((ak W1 (w.heap.size+1) 0 (iv F.v)).one 1 (iv F.pc)).one 2 (iv F.ad)).one 3 (iv F.wo)).one 4 (.bool F.wr))
 refine bodyPost_ret (v:=.tuple #[iv V,.agg (ftA F)]) ?_ rfl ⟨g',rfl,C1.o.kept K2 (by omega) (by omega),S1.o.mine K2 (by omega)⟩;rw[gQ rfl];go_simp
theorem Rh (z a k v:Int) (hC:CAt w lo b g c h) (hg:Pl.Good c.r) (hz:z=1\/z=2) (k0:0<=k) (k3:k<=3) (hv:okv z v=true) :
  Calls prog 254 #[.pointer (some (abb b 0)),.agg #[.iface 228 (.agg #[iv k]),iv z,iv a],iv v] w fun e w'=>e=.returned (.agg ftZ)/\CAt w' lo b g (c.put z k v) h/\Kept b (b+1) w w':=by
 have t0:=Ws;have HGd:=aba hg;have HV:=aba hv;obtain⟨l0,l1,l2,l3,l4⟩:=hC.lt;have K0:=aba (ah (kept_alloc w (.cells #[.iface 228 (.agg #[iv k]),iv z,iv a] 239)) (.cells ftZ 42));have C0:=aba ((hC.alloc (.cells #[.iface 228 (.agg #[iv k]),iv z,iv a] 239)).alloc (.cells ftZ 42));have I0:=aba ((Blk.new w #[.iface 228 (.agg #[iv k]),iv z,iv a] 239).alloc (.cells ftZ 42));have R0:=Blk.new (w.alloc (.cells #[.iface 228 (.agg #[iv k]),iv z,iv a] 239)) ftZ 42;simp only[World.size_alloc]at R0;replace R0:=aba R0;obtain⟨X,hX⟩:∃X:World,(w.alloc (.cells #[.iface 228 (.agg #[iv k]),iv z,iv a] 239)).alloc (.cells ftZ 42)=X:=⟨_,rfl⟩
 rw[hX]at K0 C0 I0 R0;have p:=I0.o.all;have r:=R0.o.all;have rf:=R0.o.fz;have sX:w.heap.size+1<X.heap.size:=R0.o.lt;have K1:=aba (ah K0.o (.cells #[iv k] 228));have C1:=aba (C0.o.alloc (.cells #[iv k] 228));have R1:=aba (R0.o.alloc (.cells #[iv k] 228));have I1:=aba (I0.o.alloc (.cells #[iv k] 228));have N1:=aba (Blk.new X #[iv k] 228);obtain⟨W1,hW⟩:∃W:World,X.alloc (.cells #[iv k] 228)=W:=⟨_,rfl⟩
 rw[hW]at K1 C1 R1 I1 N1;have p1:=I1.o.all;have r1:=R1.o.all;have rf1:=R1.o.fz;have n1:=N1.o.all;have nf1:=N1.o.fz;have s1:X.heap.size<W1.heap.size:=N1.o.lt;clear hC hg hv;go_enter func254,ntmps254;go_wp2_with fail;clear hW hX p r rf p1 r1 rf1 n1;have n1:=N1.o.cell (i:=0) rfl;have i1:=I1.o.cell (i:=1) rfl
 go_region_held3 (fun w'=>w'.cell? (abb X.heap.size 0)=some (iv k)/\w'.cell? (abb w.heap.size 1)=some (iv z)) (first|with_reducible exact⟨N2.o.cell (i:=0) rfl,I2.o.cell (i:=1) rfl⟩|exact⟨(show Blk _ _ _ _ from N1.o).cell (i:=0) rfl,(show Blk _ _ _ _ from I1.o).cell (i:=1) rfl⟩)
  (first|(go_at_call 252;refine(ND _ lo b g c h z k v C1.o.drew HGd.o k0 k3 hz HV.o).mono ?_;rintro e9 W2⟨rfl,hc2,kd⟩;have k2:=aN kd;have C2:=aba hc2;have N2:=aba (N1.o.kept k2 (by omega));have I2:=aba (I1.o.kept k2 (by omega));have R2:=aba (R1.o.kept k2 (by omega));have K2:=aba (K1.o.any.trans k2);clear hc2 kd k2))
 have r2:=R2.o.all;have rf2:=R2.o.fz;go_wp2_with fail;have K3:=(((((ak W2 (w.heap.size+1) 0 (iv 0)).one 1 (iv 0)).one 2 (iv 0)).one 3 (iv 0)).one 4 (.bool false))
 refine bodyPost_ret (v:=.agg ftZ) ?_ rfl ⟨rfl,C2.o.kept K3 (by omega) (by omega),Tt K2.o K3 (by omega)⟩;rw[aj rfl];go_simp
theorem rY (z a v:Int) (T:TypeId) (U:Value) (t0:∀w,(Instr.typeAssert (.iface T U) 196 228 true).run prog w=.ok (.tuple #[.agg #[iv 0],.bool false]) w) (hC:CAt w lo b g c h) (G:GM c) (hf:c.f=aI) (ha:eU 2 z a v=true) :
  Calls prog 254 #[.pointer (some (abb b 0)),.agg #[.iface T U,iv z,iv a],iv v] w fun e w'=>∃g',e=.returned (.agg (ftC (c.acc 2 z a v).f))/\CAt w' lo b g' (c.acc 2 z a v) h/\Since w b (b+1) g w' g':=by
 have HA:=aba ha;have HG:=aba G;obtain⟨F,hF⟩:∃F,F=Mc.dA aI 2 z a:=⟨_,rfl⟩
 have HF:=aba hF;rw[show(c.acc 2 z a v).f=F by show Mc.dA c.f 2 z a=F;rw[hf,hF]];obtain⟨l0,l1,l2,l3,l4⟩:=hC.lt;have K0:=aba (ah (kept_alloc w (.cells #[.iface T U,iv z,iv a] 239)) (.cells ftZ 42));have C0:=aba ((hC.alloc (.cells #[.iface T U,iv z,iv a] 239)).alloc (.cells ftZ 42));have I0:=aba ((Blk.new w #[.iface T U,iv z,iv a] 239).alloc (.cells ftZ 42));have R0:=Blk.new (w.alloc (.cells #[.iface T U,iv z,iv a] 239)) ftZ 42;simp only[World.size_alloc]at R0;replace R0:=aba R0;obtain⟨X,hX⟩:∃X:World,(w.alloc (.cells #[.iface T U,iv z,iv a] 239)).alloc (.cells ftZ 42)=X:=⟨_,rfl⟩
 rw[hX]at K0 C0 I0 R0;have p:=I0.o.all;have r:=R0.o.all;have rf:=R0.o.fz;have sX:w.heap.size+1<X.heap.size:=R0.o.lt;have K1:=aba (ah K0.o (.cells #[iv 0] 228));have C1:=aba (C0.o.alloc (.cells #[iv 0] 228));have R1:=aba (R0.o.alloc (.cells #[iv 0] 228));have I1:=aba (I0.o.alloc (.cells #[iv 0] 228));have N1:=aba (Blk.new X #[iv 0] 228);obtain⟨W1,hW⟩:∃W:World,X.alloc (.cells #[iv 0] 228)=W:=⟨_,rfl⟩
 rw[hW]at K1 C1 R1 I1 N1;have p1:=I1.o.all;have r1:=R1.o.all;have rf1:=R1.o.fz;have n1:=N1.o.all;have nf1:=N1.o.fz;have s1:X.heap.size<W1.heap.size:=N1.o.lt;have C1b:=aba (C1.o.other X.heap.size 0 (iv 0) (by omega) (by omega));have K1b:=aba (aB K1.o (ak W1 X.heap.size 0 (iv 0)) (by omega));have R1b:=aba (R1.o.other X.heap.size 0 (iv 0) (by omega));clear hC G hF ha;go_enter func254,ntmps254;go_wp2_with (go_at_call 187;refine(jX _ lo b g c h 2 z a v C1b.o HG.o HA.o 0 (aba rfl) F HF).mono ?_;rintro e9 W2⟨g',rfl,hc2,hs2⟩;unfold ftC;have S2:=aba ((((Since.refl w b (b+1) g).any K1b.o).trans hs2).alloc (.cells (ftA F) 42));have C2:=aba (hc2.alloc (.cells (ftA F) 42));have R2:=aba ((hs2.blk R1b.o (by omega) (by omega)).alloc (.cells (ftA F) 42));have n2:=hs2.ne (b:=w.heap.size+1) R1b.o.lt (by omega);have r2:=R2.o.all;have rf2:=R2.o.fz;clear hc2 hs2);have K3:=(((((ak (W2.alloc (.cells (ftA F) 42)) (w.heap.size+1) 0 (iv F.v)).one 1 (iv F.pc)).one 2 (iv F.ad)).one 3 (iv F.wo)).one 4 (.bool F.wr))
 refine bodyPost_ret (v:=.agg (ftA F)) ?_ rfl ⟨g',rfl,C2.o.kept K3 (by omega) (by omega),S2.o.mine K3 (by omega)⟩;rw[aj rfl];go_simp
theorem NC (z m k e:Int) (hC:CAt w lo b g (c.slot z m k e) h) (G:GM c) (hf:c.f=aI) (hz:z=1\/z=2) (m0:0<=m) (m7:m<=7) (k0:0<=k) (k3:k<=3) (x0:0<=e) (x1:e<=65535) :
  Calls prog 249 #[.pointer (some (abb b 0)),.agg #[Bl m k e,iv z,iv (c.readA z m k e)]] w fun r w'=>∃g',r=.returned (.tuple #[iv (c.bH z m k e),.agg (ftC (c.read z m k e).f)])/\CAt w' lo b g' (c.read z m k e) h/\Since w b (b+1) g w' g':=by
 have hm:m=0\/m=1\/m=2\/m=3\/m=4\/m=5\/m=6\/m=7:=by omega
 have q:=ji G.g (z:=z) (m:=m) k0 k3 x0 x1;rcases hm with rfl|rfl|rfl|rfl|rfl|rfl|rfl|rfl
 ·refine(Vz w lo b g c h z _ k hC hz k0 k3).mono ?_;rintro e9 w9⟨rfl,hc,hk⟩;exact⟨g,by rw[show(c.read z 0 k e).f=aI from hf];rfl,hc,(Since.refl _ _ _ _).any hk⟩
 ·refine(Vy w lo b g c h z _ k hC k0 k3).mono ?_;rintro e9 w9⟨rfl,hc,hk⟩;exact⟨g,by rw[show(c.read z 1 k e).f=aI from hf];rfl,hc,(Since.refl _ _ _ _).any hk⟩
 ·exact wI w lo b g (c.plc z 2 k e) h z _ _ _ (Wq _) (Y6 _) (Y5 _) hC (G.plc k0 k3) hf hz q.1 q.2
 ·exact wI w lo b g (c.plc z 3 k e) h z _ _ _ (Wp _) (Y4 _) (Y3 _) hC (G.plc k0 k3) hf hz q.1 q.2
 ·exact wI w lo b g (c.plc z 4 k e) h z _ _ _ (Wn _) (Y2 _) (Y1 _) hC (G.plc k0 k3) hf hz q.1 q.2
 ·exact wI w lo b g (c.plc z 5 k e) h z _ _ _ (Wl _) (Y0 _) (YZ _) hC (G.plc k0 k3) hf hz q.1 q.2
 ·exact wI w lo b g (c.plc z 6 k e) h z _ _ _ (Wj _) (YY _) (YX _) hC (G.plc k0 k3) hf hz q.1 q.2
 ·refine(Vx w lo b g c h z _ e hC).mono ?_;rintro e9 w9⟨rfl,hc,hk⟩;exact⟨g,by rw[show(c.read z 7 k e).f=aI from hf];rfl,hc,(Since.refl _ _ _ _).any hk⟩
theorem uO (z m k e a v:Int) (hC:CAt w lo b g c h) (G:GM c) (hf:c.f=aI) (hz:z=1\/z=2) (hm:m=0\/(2<=m/\m<=6)) (k0:0<=k) (k3:k<=3) (a0:0<=a) (a1:a<=65535) (hv:okv z v=true) :
  Calls prog 254 #[.pointer (some (abb b 0)),.agg #[Bl m k e,iv z,iv a],iv v] w fun r w'=>∃g',r=.returned (.agg (ftC (c.write z m k a v).f))/\CAt w' lo b g' (c.write z m k a v) h/\Since w b (b+1) g w' g':=by
 have ha:eU 2 z a v=true:=by
  have h1:Pl.addr a=true:=by simp[Pl.addr];omega
  unfold eU;rw[hv,h1];rfl
 have hm:m=0\/m=2\/m=3\/m=4\/m=5\/m=6:=by omega
 rcases hm with rfl|rfl|rfl|rfl|rfl|rfl
 ·refine(Rh w lo b g c h z a k v hC G.g hz k0 k3 hv).mono ?_;rintro e9 w9⟨rfl,hc,hk⟩;exact⟨g,by rw[show(c.write z 0 k a v).f=aI from hf];rfl,hc,(Since.refl _ _ _ _).ag hk (Nat.le_refl _) (Nat.le_refl _)⟩
 ·exact rY w lo b g c h z a v _ _ (Wq _) hC G hf ha
 ·exact rY w lo b g c h z a v _ _ (Wp _) hC G hf ha
 ·exact rY w lo b g c h z a v _ _ (Wn _) hC G hf ha
 ·exact rY w lo b g c h z a v _ _ (Wl _) hC G hf ha
 ·exact rY w lo b g c h z a v _ _ (Wj _) hC G hf ha
theorem NE (v:Int) (hC:CAt w lo b g c h) (G:GM c) (hf:c.f=aI) (v0:0<=v) (v1:v<=65535) :
  Calls prog 201 #[.pointer (some (abb b 0)),iv v] w fun e w'=>∃g',e=.returned (.agg (ftC (c.push v).f))/\CAt w' lo b g' (c.push v) h/\Since w b (b+1) g w' g':=by
 have HA:=aba (rZ (c:=c) v0 v1);obtain⟨F,hF⟩:∃F,F=Mc.dA aI 2 2 c.spA:=⟨_,rfl⟩
 have HF:=aba hF;have EF:Hid ((c.acc 2 2 c.spA v).f=F):=aba (by show Mc.dA c.f 2 2 c.spA=F;rw[hf,hF]);obtain⟨A,hA⟩:∃A,A=c.spA:=⟨_,rfl⟩
 rw[<-hA]at HA HF EF;have eA:(el c.r.ys 3-2)%65536=A:=hA.symm;have HPA:Hid (c.spA=A):=aba hA.symm;clear hA hF;obtain⟨l0,l1,l2,l3,l4⟩:=hC.lt;obtain⟨a30,a31⟩:=G.g.aw 3 (by omega);have h4:=aba G.g.a4;have HG:=aba G;have C0:=aba (hC.alloc (.cells ftZ 42));have R0:=aba (Blk.new w ftZ 42);have K0:=aba (kept_alloc w (.cells ftZ 42));obtain⟨X,hX⟩:∃X:World,w.alloc (.cells ftZ 42)=X:=⟨_,rfl⟩
 rw[hX]at C0 R0 K0;have x7:X.cell? (abb b 7)=some (iv (el c.r.ys 3)):=C0.o.cY (k:=3) (by omega);clear hC G;cases hv:(F.v != 0)
 ·have E:Hid (c.push v=(c.acc 2 2 A v).fC 3 A):=aba (by
   unfold Mc.push;rw[HPA.o]
   rw[show(c.acc 2 2 A v).fine=true by unfold Mc.fine;rw[EF.o];simpa using hv];rfl)
  go_enter func201,ntmps201;go_wp2_with (first|(go_at_call 178;refine st (gZ _ _) ?_;rw[eA])|(go_at_call 187;refine(jX _ lo b g c h 2 2 A v C0.o HG.o HA.o 0 (aba rfl) F HF).mono ?_;rintro e w3⟨g',rfl,hc3,hs3⟩;unfold ftC;have S3:=aba (((Since.refl w b (b+1) g).any K0.o).trans hs3);have R3:=aba ((hs3.blk R0.o (by omega) (by omega)).alloc (.cells (ftA F) 42));have C3:=aba (hc3.alloc (.cells (ftA F) 42));have L3:=aba (Blk.new w3 (ftA F) 42);have z3:=hs3.size;have n3:=hs3.ne (b:=w.heap.size) R0.o.lt (by omega);clear hc3 hs3)|(go_at_call 79;refine(bV F _).mono ?_;rintro e w4⟨rfl,k4⟩;have S4:=aba (S3.o.any ((kept_alloc w3 (.cells (ftA F) 42)).trans k4));have R4:=aba (R3.o.ae k4);have C4:=aba (C3.o.any k4);have L4:=aba (L3.o.ae k4);have y7:w4.cell? (abb b 7)=some (iv (el c.r.ys 3)):=C4.o.cY (k:=3) (by omega);have yf:=C4.o.fz;have q:=L4.o.all;have r:=(show Blk w4 w.heap.size ftZ 42 from R4.o).all;have rf:=R4.o.fz;clear k4;rw[hv]));have K5:=(((((ak w4 w.heap.size 0 (iv F.v)).one 1 (iv F.pc)).one 2 (iv F.ad)).one 3 (iv F.wo)).one 4 (.bool F.wr))
  have C5:=C4.o.vz h4.o (k:=3) (by omega) A;have S5:=S4.o.set b 7 (iv A) (.inl (by omega));have K5:=(((((ak (w4.setCell (abb b 7) (iv A)) w.heap.size 0 (iv F.v)).one 1 (iv F.pc)).one 2 (iv F.ad)).one 3 (iv F.wo)).one 4 (.bool F.wr))
  refine bodyPost_ret (v:=.agg (ftA F)) ?_ rfl ⟨g',?_,?_,S5.mine K5 (by omega)⟩
  ·rw[aj rfl];go_simp
  ·rw[E.o,show((c.acc 2 2 A v).fC 3 A).f=F from EF.o];rfl
  ·rw[E.o];exact C5.kept K5 (by omega) (by omega)
 ·have E:Hid (c.push v=c.acc 2 2 A v):=aba (by
   unfold Mc.push;rw[HPA.o]
   rw[show(c.acc 2 2 A v).fine=false by unfold Mc.fine;rw[EF.o];simpa using hv];rfl)
  go_enter func201,ntmps201;go_wp2_with (first|(go_at_call 178;refine st (gZ _ _) ?_;rw[eA])|(go_at_call 187;refine(jX _ lo b g c h 2 2 A v C0.o HG.o HA.o 0 (aba rfl) F HF).mono ?_;rintro e w3⟨g',rfl,hc3,hs3⟩;unfold ftC;have S3:=aba (((Since.refl w b (b+1) g).any K0.o).trans hs3);have R3:=aba ((hs3.blk R0.o (by omega) (by omega)).alloc (.cells (ftA F) 42));have C3:=aba (hc3.alloc (.cells (ftA F) 42));have L3:=aba (Blk.new w3 (ftA F) 42);have z3:=hs3.size;have n3:=hs3.ne (b:=w.heap.size) R0.o.lt (by omega);clear hc3 hs3)|(go_at_call 79;refine(bV F _).mono ?_;rintro e w4⟨rfl,k4⟩;have S4:=aba (S3.o.any ((kept_alloc w3 (.cells (ftA F) 42)).trans k4));have R4:=aba (R3.o.ae k4);have C4:=aba (C3.o.any k4);have L4:=aba (L3.o.ae k4);have y7:w4.cell? (abb b 7)=some (iv (el c.r.ys 3)):=C4.o.cY (k:=3) (by omega);have yf:=C4.o.fz;have q:=L4.o.all;have r:=(show Blk w4 w.heap.size ftZ 42 from R4.o).all;have rf:=R4.o.fz;clear k4;rw[hv]));have K5:=(((((ak w4 w.heap.size 0 (iv F.v)).one 1 (iv F.pc)).one 2 (iv F.ad)).one 3 (iv F.wo)).one 4 (.bool F.wr))
  refine bodyPost_ret (v:=.agg (ftA F)) ?_ rfl ⟨g',?_,?_,S4.o.mine K5 (by omega)⟩
  ·rw[aj rfl];go_simp
  ·rw[E.o,EF.o];rfl
  ·rw[E.o];exact C4.o.kept K5 (by omega) (by omega)
theorem VB (hC:CAt w lo b g c h) (G:GM c) (hf:c.f=aI) :
  Calls prog 285 #[.pointer (some (abb b 0))] w fun e w'=>∃g',e=.returned (.tuple #[iv c.dK,.agg (ftC c.pop.f)])/\CAt w' lo b g' (c.pop) h/\Since w b (b+1) g w' g':=by
 obtain⟨l0,l1,l2,l3,l4⟩:=hC.lt;obtain⟨a30,a31⟩:=G.g.aw 3 (by omega);have h4:=aba G.g.a4;have HG:=aba G;have C0:=aba (hC.alloc (.cells ftZ 42));have R0:=aba (Blk.new w ftZ 42);have K0:=aba (kept_alloc w (.cells ftZ 42));obtain⟨X,hX⟩:∃X:World,w.alloc (.cells ftZ 42)=X:=⟨_,rfl⟩
 rw[hX]at C0 R0 K0;have x7:X.cell? (abb b 7)=some (iv (el c.r.ys 3)):=C0.o.cY (k:=3) (by omega);clear hC G;have HA:=aba (dZ (k:=1) (.inl rfl) a30 a31);obtain⟨F,hF⟩:∃F,F=Mc.dA aI 1 2 (el c.r.ys 3):=⟨_,rfl⟩
 have HF:=aba hF;have EF:Hid ((c.acc 1 2 (el c.r.ys 3) 0).f=F):=aba (by show Mc.dA c.f 1 2 _=F;rw[hf,hF]);obtain⟨V,hV⟩:∃V,V=c.dK:=⟨_,rfl⟩
 have HV:Hid (V=if (1:Int)=2 then 0 else Pl.lv c.bx 1 2 (el c.r.ys 3) 0):=aba hV;rw[<-hV];clear hF hV;cases hv:(F.v != 0)
 ·have E:Hid (c.pop=(c.acc 1 2 (el c.r.ys 3) 0).fC 3 ((el c.r.ys 3+2)%65536)):=aba (by
   unfold Mc.pop
   rw[show(c.acc 1 2 (el c.r.ys 3) 0).fine=true by unfold Mc.fine;rw[EF.o];simpa using hv];rfl)
  go_enter func285,ntmps285;go_wp2_with (first|(go_at_call 187;refine(jX _ lo b g c h 1 2 (el c.r.ys 3) 0 C0.o HG.o HA.o V HV F HF).mono ?_;rintro e w3⟨g',rfl,hc3,hs3⟩;unfold ftC;have S3:=aba (((Since.refl w b (b+1) g).any K0.o).trans hs3);have R3:=aba ((hs3.blk R0.o (by omega) (by omega)).alloc (.cells (ftA F) 42));have C3:=aba (hc3.alloc (.cells (ftA F) 42));have L3:=aba (Blk.new w3 (ftA F) 42);have z3:=hs3.size;have n3:=hs3.ne (b:=w.heap.size) R0.o.lt (by omega);clear hc3 hs3)|(go_at_call 79;refine(bV F _).mono ?_;rintro e w4⟨rfl,k4⟩;have S4:=aba (S3.o.any ((kept_alloc w3 (.cells (ftA F) 42)).trans k4));have R4:=aba (R3.o.ae k4);have C4:=aba (C3.o.any k4);have L4:=aba (L3.o.ae k4);have y7:w4.cell? (abb b 7)=some (iv (el c.r.ys 3)):=C4.o.cY (k:=3) (by omega);have yf:=C4.o.fz;have q:=L4.o.all;have r:=(show Blk w4 w.heap.size ftZ 42 from R4.o).all;have rf:=R4.o.fz;clear k4;rw[hv]));go_region_with (first|(go_at_call 178;refine st (gZ _ _) ?_));go_wp2_with fail;go_region;go_wp2_with fail;have C5:=C4.o.vz h4.o (k:=3) (by omega) ((el c.r.ys 3+2)%65536);have S5:=S4.o.set b 7 (iv ((el c.r.ys 3+2)%65536)) (.inl (by omega));have K5:=ai (ai ((((((ak (w4.setCell (abb b 7) (iv ((el c.r.ys 3+2)%65536))) w.heap.size 0 (iv F.v)).one 1 (iv F.pc)).one 2 (iv F.ad)).one 3 (iv F.wo)).one 4 (.bool F.wr))));refine bodyPost_ret (v:=.tuple #[iv V,.agg (ftA F)]) ?_ rfl ⟨g',?_,?_,S5.mine K5 (by omega)⟩
  ·rw[gQ rfl];go_simp
  ·rw[E.o,show((c.acc 1 2 (el c.r.ys 3) 0).fC 3 ((el c.r.ys 3+2)%65536)).f=F from EF.o];rfl
  ·rw[E.o];exact C5.kept K5 (by omega) (by omega)
 ·have E:Hid (c.pop=c.acc 1 2 (el c.r.ys 3) 0):=aba (by
   unfold Mc.pop
   rw[show(c.acc 1 2 (el c.r.ys 3) 0).fine=false by unfold Mc.fine;rw[EF.o];simpa using hv];rfl)
  go_enter func285,ntmps285;go_wp2_with (first|(go_at_call 187;refine(jX _ lo b g c h 1 2 (el c.r.ys 3) 0 C0.o HG.o HA.o V HV F HF).mono ?_;rintro e w3⟨g',rfl,hc3,hs3⟩;unfold ftC;have S3:=aba (((Since.refl w b (b+1) g).any K0.o).trans hs3);have R3:=aba ((hs3.blk R0.o (by omega) (by omega)).alloc (.cells (ftA F) 42));have C3:=aba (hc3.alloc (.cells (ftA F) 42));have L3:=aba (Blk.new w3 (ftA F) 42);have z3:=hs3.size;have n3:=hs3.ne (b:=w.heap.size) R0.o.lt (by omega);clear hc3 hs3)|(go_at_call 79;refine(bV F _).mono ?_;rintro e w4⟨rfl,k4⟩;have S4:=aba (S3.o.any ((kept_alloc w3 (.cells (ftA F) 42)).trans k4));have R4:=aba (R3.o.ae k4);have C4:=aba (C3.o.any k4);have L4:=aba (L3.o.ae k4);have y7:w4.cell? (abb b 7)=some (iv (el c.r.ys 3)):=C4.o.cY (k:=3) (by omega);have yf:=C4.o.fz;have q:=L4.o.all;have r:=(show Blk w4 w.heap.size ftZ 42 from R4.o).all;have rf:=R4.o.fz;clear k4;rw[hv]));go_region;go_wp2_with fail;have K5:=ai ((((((ak w4 w.heap.size 0 (iv F.v)).one 1 (iv F.pc)).one 2 (iv F.ad)).one 3 (iv F.wo)).one 4 (.bool F.wr)));refine bodyPost_ret (v:=.tuple #[iv V,.agg (ftA F)]) ?_ rfl ⟨g',?_,?_,S4.o.mine K5 (by omega)⟩
  ·rw[gQ rfl];go_simp
  ·rw[E.o,EF.o];rfl
  ·rw[E.o];exact C4.o.kept K5 (by omega) (by omega)
end Go.Proofs.YtgikibaajanjiaaGreatDoor
namespace Go.Proofs.YtgikibaajanjiaaGreatDoor.Pl
set_option linter.unusedVariables false
def vC (a b:In):Bool:=(a.op==b.op)&&((a.z==b.z)&&((a.r==b.r)&&((a.m==b.m)&&((a.k==b.k)&&((a.e==b.e)&&(a.s==b.s))))))
def fits (x:In):Bool:=vC (decode (oC x%65536) x.e) x
def LW (x:In):Bool := !(x.m==7)||(!(x.z==1)||within x.e 0 255)
theorem wF (w v:Int):(decode w v).e=bif jQ (w/32%8) then v else 0:=by
 show(if dX w=2 then v else 0)=_
 unfold dX;cases jQ (w/32%8)<;>simp
theorem wB (x:In):fits x=true↔(0<=x.op/\x.op<=31)/\(1<=x.z/\x.z<=2)/\(0<=x.r/\x.r<=3)/\(0<=x.m/\x.m<=7)/\(0<=x.k/\x.k<=3)/\(0<=x.s/\x.s<=7)/\(jQ x.m=false->x.e=0):=by
 obtain⟨op,z,r,m,k,e,s⟩:=x;unfold fits;have hW:oC ⟨op,z,r,m,k,e,s⟩%65536=(op*2048+(z-1)*1024+r*256+m*32+k*8+s)%65536:=rfl;generalize oC ⟨op,z,r,m,k,e,s⟩%65536=W at hW;unfold vC;rw[wF];simp only[decode,Bool.and_eq_true,beq_iff_eq];constructor
 ·rintro⟨h1,h2,h3,h4,h5,h6,h7⟩;refine⟨⟨by omega,by omega⟩,⟨by omega,by omega⟩,⟨by omega,by omega⟩,⟨by omega,by omega⟩,⟨by omega,by omega⟩,⟨by omega,by omega⟩,fun q => ?_⟩;rw[h4,q]at h6;simpa using h6.symm
 ·rintro⟨⟨a1,a2⟩,⟨b1,b2⟩,⟨c1,c2⟩,⟨d1,d2⟩,⟨e1,e2⟩,⟨f1,f2⟩,g⟩;have hm:W/32%8=m:=by omega
  refine⟨by omega,by omega,by omega,hm,by omega,?_,by omega⟩;rw[hm];cases q:jQ m
  ·rw[g q];rfl
  ·rfl
theorem ok_of_fits (x:In):bP x=(fits x&&(iP x.m x.k x.e&&(LW x&&az x))):=by
 cases hf:fits x
 ·cases hq:bP x
  ·rfl
  ·exfalso
   have h:=Tf hq;have:fits x=true:=(wB x).2 ⟨by omega,by omega,by omega,by omega,by omega,by omega,h.2.2.2.2.2.2.2.2.2.2.2.2.2⟩;rw[hf]at this;cases this
 ·obtain⟨a,b,c,d,e,f,g⟩:=(wB x).1 hf;obtain⟨op,z,r,m,k,e',s⟩:=x;simp only at a b c d e f g;unfold bP inBase LW lS;simp only;have w1:within r 0 3=true:=by simp[within];omega
  have w2:within s 0 7=true:=by simp[within];omega
  have w3:(decide (z=1)||decide (z=2))=true:=by simp;omega
  rw[w1,w2,w3];cases ho:iP m k e'
  ·simp
  ·have:0<=e':=by simp[iP,aP,within]at ho;omega
   have w4:(!((m==7)&&(z==1)&&decide (255<e')))=(!(m==7)||(!(z==1)||within e' 0 255)):=by
    rw[Bool.eq_iff_iff];simp[within];omega
   rw[w4];simp
end Go.Proofs.YtgikibaajanjiaaGreatDoor.Pl
namespace Go.Proofs.YtgikibaajanjiaaGreatDoor
open Pl
open Go.RowKit Go.Proofs.Tryz
set_option linter.unusedVariables false
def xQ (md:Region.Mode) (ops:Array Oper) (i k:Nat):Bool:=((ops[i]?).map fun o=>o.after.any fun e=>Region.binds md e&&e.on==k).getD false
theorem jg {md:Region.Mode} {ops:Array Oper} {l:Array Bool} {i:Nat} (h:i∈Region.ready md ops l):i<ops.size/\l.getD i true=false:=by
 unfold Region.ready at h;rw[List.mem_filter,Bool.and_eq_true]at h;refine⟨List.mem_range.1 h.1,?_⟩;have:=h.2.1;revert this;cases l.getD i true<;>simp
theorem GX {l:Array Bool} {k:Nat} (h:l.getD k false=true):l.getD k true=true:=by
 unfold Array.getD at *;split
 ·rename_i hk;simpa[hk] using h
 ·rfl
theorem ay {md:Region.Mode} {ops:Array Oper} {l:Array Bool} {i:Nat} (h:i∈Region.ready md ops l) (k:Nat) (hk:xQ md ops i k=true):l.getD k true=true:=by
 unfold Region.ready at h;rw[List.mem_filter,Bool.and_eq_true]at h;have h2:=h.2.2;unfold xQ at hk;cases ho:ops[i]? with
 | none=>rw[ho]at hk;simp at hk
 | some o=>
  rw[ho]at hk h2;simp only[Option.map_some,Option.getD_some]at hk h2;rw[Array.any_eq_true']at hk;obtain⟨e,he,hb⟩:=hk;rw[Array.all_eq_true']at h2;have h3:=h2 e he;rw[Bool.and_eq_true]at hb;rw[hb.1]at h3;have h4:e.on=k:=by simpa using hb.2
  rw[h4]at h3;exact GX (by simpa using h3)
theorem filter_lt {xs:List Nat} {p q:Nat->Bool} (hpq:∀x,q x=true->p x=true) {i:Nat} (hi:i∈xs) (hp:p i=true) (hq:q i=false):(xs.filter q).length<(xs.filter p).length:=by
 induction xs with
 | nil=>cases hi
 | cons x t ih=>
  have hle:(t.filter q).length<=(t.filter p).length:=by
   clear ih hi;induction t with
   | nil=>simp
   | cons y t ih=>
    cases h1:q y
    ·cases h2:p y<;>simp[h1,h2]<;>omega
    ·simp[h1,hpq y h1];exact ih
  rcases List.mem_cons.1 hi with rfl|hi
  ·simp[hp,hq];omega
  ·have:=ih hi
   cases h1:q x
   ·cases h2:p x<;>simp[h1,h2]<;>omega
   ·simp[h1,hpq x h1];exact this
theorem getD_set_ne {l:Array Bool} {i j:Nat} (h:j≠i):(l.setIfInBounds i true).getD j true=l.getD j true:=by
 simp only[Array.getD_eq_getD_getElem?];rw[Array.getElem?_setIfInBounds_ne (Ne.symm h)]
theorem fM {l:Array Bool} {i:Nat}:(l.setIfInBounds i true).getD i true=true:=by
 simp only[Array.getD_eq_getD_getElem?,Array.getElem?_setIfInBounds];split
 ·split<;>rfl
 ·rename_i h;exact absurd trivial h
theorem GZ {l:Array Bool} {i j:Nat} (h:l.getD j true=true):(l.setIfInBounds i true).getD j true=true:=by
 by_cases e:j=i
 ·subst e;exact fM
 ·rw[getD_set_ne e];exact h
theorem Fz {P:Program} {md:Region.Mode} {ops:Array Oper} {Q:Exit->Act->World->Prop} {I:Array Bool->Act->World->Prop}
  (hfin:∀l a w,l.size=ops.size->I l a w->Region.ready md ops l=[]->Q .normal a w)
  (hstep:∀l a w i,I l a w->i∈Region.ready md ops l->wpOp P ops Q i (I (l.setIfInBounds i true)) a w) :
  ∀(fuel:Nat) (l:Array Bool) (a:Act) (w:World),l.size=ops.size->((List.range ops.size).filter fun i => !l.getD i true).length<=fuel->I l a w->wpAny P md ops Q fuel l a w:=by
 intro fuel;induction fuel with
 | zero=>
  intro l a w hz hn hI
  have h0:Region.ready md ops l=[]:=by
   cases hr:Region.ready md ops l with
   | nil=>rfl
   | cons i t=>
    exfalso
    have hi:i∈Region.ready md ops l:=by rw[hr];simp
    obtain⟨h1,h2⟩:=jg hi;have:i∈(List.range ops.size).filter fun i => !l.getD i true:=List.mem_filter.2 ⟨List.mem_range.2 h1,by rw[h2];rfl⟩;have:=List.length_pos_of_mem this;omega
  exact⟨h0,hfin l a w hz hI h0⟩
 | succ n ih=>
  intro l a w hz hn hI;refine⟨fun h0=>hfin l a w hz hI h0,fun i hi => ?_⟩;refine wpOp_mono (fun a' w' h'=>ih _ a' w' (by simp[hz]) ?_ h') (hstep l a w i hI hi);obtain⟨h1,h2⟩:=jg hi
  have:=filter_lt (xs:=List.range ops.size) (p:=fun j => !l.getD j true) (q:=fun j => !(l.setIfInBounds i true).getD j true) (i:=i) (by
   intro x hx;by_cases e:x=i
   ·subst e;rw[h2];rfl
   ·rw[getD_set_ne e]at hx;exact hx) (List.mem_range.2 h1) (by rw[h2];rfl) (by rw[fM];rfl)
  omega
def PV (md:Region.Mode) (ops:Array Oper):Bool:=(List.range ops.size).all fun i=>((ops[i]?).map fun o=>o.after.all fun e => !Region.binds md e||decide (e.on<i)).getD true
theorem Cc {md:Region.Mode} {ops:Array Oper} {l:Array Bool} (hz:l.size=ops.size) (hB:PV md ops=true) (h0:Region.ready md ops l=[]):∀i,i<ops.size->l.getD i true=true:=by
 intro i;induction i using Nat.strongRecOn with
 | ind i ih=>
  intro hi;cases hl:l.getD i true
  ·exfalso
   have hm:i∈Region.ready md ops l:=by
    unfold Region.ready;rw[List.mem_filter,Bool.and_eq_true];refine⟨List.mem_range.2 hi,by rw[hl];rfl,?_⟩;have hb:=List.all_eq_true.1 hB i (List.mem_range.2 hi);rw[Array.getElem?_eq_getElem hi]at hb ⊢;simp only[Option.map_some,Option.getD_some]at hb ⊢;rw[Array.all_eq_true']at hb ⊢;intro e he;have h1:=hb e he;rw[Bool.or_eq_true]at h1 ⊢;rcases h1 with h1|h1
    ·exact .inl h1
    ·have h2:e.on<i:=by simpa using h1
     have h3:=ih e.on h2 (by omega);refine .inr ?_;unfold Array.getD at h3 ⊢;split
     ·rename_i hk;simpa[hk] using h3
     ·rename_i hk;omega
   rw[h0]at hm;cases hm
  ·rfl
theorem qF {P:Program} {ops:Array Oper} {Q:Exit->Act->World->Prop} {id:Nat} {a:Act} {w:World} (I:Array Bool->Act->World->Prop) (hm:P.follows .mixedOrders=true) (hB:PV .any ops=true)
  (hstart:I (Array.replicate ops.size false) a w.drew)
  (hfin:∀l a w,I l a w->(∀i,i<ops.size->l.getD i true=true)->Q .normal a w)
  (hstep:∀l a w i,I l a w->i∈Region.ready .any ops l->wpOp P ops Q i (I (l.setIfInBounds i true)) a w) :
  (Code.region id ops true).wp P Q a w:=by
 refine wp_region_any hm (Fz (I:=I) (fun l a w hz h h0=>hfin l a w h (Cc hz hB h0)) hstep _ _ _ _ (by simp) ?_ hstart);exact Nat.le_trans (List.length_filter_le _ _) (by simp)
def Once (l:Array Bool) (i:Nat) (p:Prop):Prop:=l.getD i true=true->p
theorem Once.past {l:Array Bool} {i j:Nat} {p q:Prop} (h:Once l j p) (hn:j≠i) (hp:p->q):Once (l.setIfInBounds i true) j q:=fun e=>hp (h (by rwa [getD_set_ne hn]at e))
theorem Once.now {l:Array Bool} {i j:Nat} {p:Prop} (h:p):Once (l.setIfInBounds i true) j p:=fun _=>h
theorem au {n i:Nat} {p:Prop} (hi:i<n):Once (Array.replicate n false) i p:=by
 intro e;simp[Array.getD_eq_getD_getElem?,hi]at e
theorem kU {n i:Nat} (hi:i<n):(Array.replicate n false).getD i true=false:=by
 simp[Array.getD_eq_getD_getElem?,hi]
structure FR (SL:List Nat) (A0 A:Act):Prop where
 size:A.tmps.size=A0.tmps.size
 defers:A.defers=A0.defers
 o:∀k,k∉SL->A.tmps[k]? = A0.tmps[k]?
theorem FR.refl (SL:List Nat) (A:Act):FR SL A A:=⟨rfl,rfl,fun _ _=>rfl⟩
theorem aA {A:Act} {j k:Nat} {v:Value} (h:k≠j):(A.put (some j) v).tmps[k]? = A.tmps[k]? := by
 show(A.tmps.setIfInBounds j v)[k]? = _
 rw[Array.getElem?_setIfInBounds_ne (Ne.symm h)]
theorem put_eq {A:Act} {k:Nat} {v:Value} (h:k<A.tmps.size):(A.put (some k) v).tmps[k]? = some v:=by
 show(A.tmps.setIfInBounds k v)[k]? = _
 rw[Array.getElem?_setIfInBounds];simp[h]
theorem FR.put {SL:List Nat} {A0 A:Act} (h:FR SL A0 A) {k:Nat} (hk:k∈SL) (v:Value):FR SL A0 (A.put (some k) v):=by
 refine⟨?_,h.defers,fun j hj => ?_⟩
 ·show(A.tmps.setIfInBounds k v).size=_
  rw[Array.size_setIfInBounds];exact h.size
 ·rw[aA (fun e=>hj (by rw[e];exact hk))];exact h.o j hj
theorem Sj {A B:Act} (hs:A.tmps.size=B.tmps.size) (hd:A.defers=B.defers) (h:∀k:Nat,A.tmps[k]? = B.tmps[k]?):A=B:=by
 cases A;cases B;simp only at hs hd h;subst hd;congr 1;exact Array.ext_getElem? h
theorem AO {A:Act}:∀(SL:List Nat) (B:Act),A.tmps.size=B.tmps.size->A.defers=B.defers->(∀k,k∉SL->A.tmps[k]? = B.tmps[k]?)->A=SL.foldl (fun a k=>a.put (some k) (A.tmps.getD k undef)) B
 | [],B,hs,hd,h=>Sj hs hd (fun k=>h k (by simp))
 | k :: t,B,hs,hd,h=>by
  refine AO t (B.put (some k) (A.tmps.getD k undef)) ?_ hd (fun j hj => ?_)
  ·show _=(B.tmps.setIfInBounds k _).size
   rw[Array.size_setIfInBounds];exact hs
  ·by_cases e:j=k
   ·subst e;by_cases hb:j<B.tmps.size
    ·rw[put_eq hb];have:j<A.tmps.size:=by omega
     rw[Array.getElem?_eq_getElem this];simp[Array.getD_eq_getD_getElem?,this]
    ·show _=(B.tmps.setIfInBounds j _)[j]?
     rw[Array.getElem?_eq_none (by omega),Array.getElem?_eq_none (by rw[Array.size_setIfInBounds];omega)]
   ·rw[aA e];exact h j (by simp[e,hj])
theorem FR.chain {SL:List Nat} {A0 A:Act} (h:FR SL A0 A):A=SL.foldl (fun a k=>a.put (some k) (A.tmps.getD k undef)) A0:=AO SL A0 h.size h.defers h.o
theorem iW {A:Act} {k:Nat} {v:Value} (h:A.tmps[k]? = some v):A.tmps.getD k undef=v:=by
 rw[Array.getD_eq_getD_getElem?,h];rfl
theorem iC {P:Program} {ops:Array Oper} {Q:Exit->Act->World->Prop} {id:Nat} {a:Act} {w:World} (I:Act->Array Bool->Act->World->Prop) (hm:P.follows .mixedOrders=true) (hB:PV .any ops=true)
  (hstart:I a (Array.replicate ops.size false) a w.drew)
  (hfin:∀l A w,I a l A w->(∀i,i<ops.size->l.getD i true=true)->Q .normal A w)
  (hstep:∀l A w i,I a l A w->i∈Region.ready .any ops l->wpOp P ops Q i (I a (l.setIfInBounds i true)) A w) :
  (Code.region id ops true).wp P Q a w:=qF (I a) hm hB hstart hfin hstep
theorem Once.n {l:Array Bool} {i j:Nat} {p:Prop} (h:Once l j p) (h1:j≠i:=by decide):Once (l.setIfInBounds i true) j p:=h.past h1 id
theorem Once.q {l:Array Bool} {i j k d:Nat} {A:Act} {u:Value} {v:Option Value} (h:Once l j (A.tmps[k]? = v)) (h1:j≠i:=by decide) (h2:k≠d:=by decide):Once (l.setIfInBounds i true) j ((A.put (some d) u).tmps[k]? = v):=h.past h1 (fun e=>(aA h2).trans e)
theorem bfe (b:Bool):b=false\/b=true:=by cases b<;>simp
theorem jR {P:Program} {ops:Array Oper} {Q:Exit->Act->World->Prop} {i:Nat} {o:Oper} {K:Act->World->Prop} {a:Act} {w:World} (ho:ops[i]? = some o) {j s:Nat} {b:Bool} (hg:o.guard=some (j,b)) (hd:(ops[j]?).bind (·.dst)=some s) (hv:a.tmps[s]? = some (.bool b))
  (h:∀K':Act->World->Prop,(∀a w,K a w->K' a w)->Oper.wp P o a w K' Q):wpOp P ops Q i K a w:=by
 refine wpOp_step ho (fun K' hK => ?_);rw[if_pos]
 ·exact h K' hK
 ·unfold Region.wanted yielded;rw[hg];simp only[hd,Option.bind_some,hv];simp
theorem mi {P:Program} {ops:Array Oper} {Q:Exit->Act->World->Prop} {i:Nat} {o:Oper} {K:Act->World->Prop} {a:Act} {w:World} (ho:ops[i]? = some o) {j s:Nat} {b c:Bool} (hg:o.guard=some (j,b)) (hd:(ops[j]?).bind (·.dst)=some s) (hv:a.tmps[s]? = some (.bool c)) (hn:c≠b)
  (h:K (a.put o.dst undef) w):wpOp P ops Q i K a w:=by
 refine wpOp_step ho (fun K' hK => ?_);rw[if_neg]
 ·exact hK _ _ h
 ·unfold Region.wanted yielded;rw[hg];simp only[hd,Option.bind_some,hv];simpa using hn
theorem pM (m k e:Int) (w:World) (T N:Nat) (v:Value) (R:Array Value) (E:Bool) (lo : -9223372036854775808<=e) (hi:e<=9223372036854775807)
  (hw:∀w:World,Calls prog 168 #[.agg #[iv m,iv k,iv e]] w fun r w'=>r=.returned (.iface T v)/\Kept 0 0 w w')
  (hme:∀w:World,(method 412 T v "loop.example/g00389/impl.operand").run prog w=.ok (N,v) w)
  (hc:∀w:World,Calls prog N #[v] w fun r w'=>r=.returned (.agg R)/\Kept 0 0 w w')
  (hfn:∀(a:Array Value) (w:World),(callFunc N a).run prog w=.ok (.enter N a) w)
  (he:∀w:World,(binOp .eql 46 (.agg R) (.agg #[iv m,iv k,iv e])).run prog w=.ok (.bool E) w) :
  Calls prog 117 #[.agg #[iv m,iv k,iv e]] w fun r w'=>r=.returned (.bool (E&&(within k 0 3&&aP e)))/\Kept 0 0 w w':=by
 have B0:=aba (Blk.new w #[iv m,iv k,iv e] 46);have K0:=aba (kept_alloc w (.cells #[iv m,iv k,iv e] 46));obtain⟨B,hBB⟩:∃B,within k 0 3=B:=⟨_,rfl⟩
 obtain⟨C,hCC⟩:∃C,aP e=C:=⟨_,rfl⟩
 go_enter func117,ntmps117;go_wp2_with fail;refine(hw _).mono ?_;rintro r w1⟨rfl,k1⟩;have B1:=aba (B0.o.ae k1);have K1:=aba (K0.o.trans k1);clear k1 hw;go_wp2_with fail;refine iC (fun A0 l A W=>FR [6,7,8,9,10,11,12,13,14,15,16,17,18,19,20,21,22,23,2] A0 A/\Once l 0 (A.tmps[6]? = some (.iface T v))/\Once l 1 (A.tmps[7]? = some (.bool true))/\Once l 2 (A.tmps[8]? = some (.bool true))/\Once l 3 (A.tmps[9]? = some (.iface T v))/\Once l 4 (A.tmps[10]? = some (.agg R))/\Once l 5 (A.tmps[11]? = some (.agg #[iv m,iv k,iv e]))/\Once l 6 (A.tmps[12]? = some (.bool E))/\Once l 7 (A.tmps[13]? = some (.bool E))/\Once l 8 (A.tmps[14]? = some (.bool E))/\Once l 9 (A.tmps[15]? = some (bif E then .pointer (some (abb w.heap.size 1)) else undef))/\Once l 10 (A.tmps[16]? = some (bif E then iv k else undef))/\Once l 11 (A.tmps[17]? = some (bif E then .bool B else undef))/\Once l 12 (A.tmps[18]? = some (.bool (E&&B)))/\Once l 13 (A.tmps[19]? = some (.bool (E&&B)))/\Once l 14 (A.tmps[20]? = some (bif (E&&B) then .pointer (some (abb w.heap.size 2)) else undef))/\Once l 15 (A.tmps[21]? = some (bif (E&&B) then iv e else undef))/\Once l 16 (A.tmps[22]? = some (bif (E&&B) then .bool C else undef))/\Once l 17 (A.tmps[23]? = some (.bool ((E&&B)&&C)))/\Once l 18 (A.tmps[2]? = some (.bool ((E&&B)&&C)))/\Kept 0 0 w1 W) (by kernel_rfl) (by kernel_rfl) ?start ?fin ?step
 case start=>exact⟨FR.refl _ _,au (by decide),au (by decide),au (by decide),au (by decide),au (by decide),au (by decide),au (by decide),au (by decide),au (by decide),au (by decide),au (by decide),au (by decide),au (by decide),au (by decide),au (by decide),au (by decide),au (by decide),au (by decide),au (by decide),ai (Kept.refl _ _ _)⟩
 case fin=>
  intro l A W h hl;obtain⟨hFR,o0,o1,o2,o3,o4,o5,o6,o7,o8,o9,o10,o11,o12,o13,o14,o15,o16,o17,o18,hK⟩:=h;have g:=o18 (hl 18 (by decide));have QQ:=aba (K1.o.trans hK);have hc9:=hFR.chain;simp only[List.foldl]at hc9;rw[iW g]at hc9;clear hl hK hFR g o0 o1 o2 o3 o4 o5 o6 o7 o8 o9 o10 o11 o12 o13 o14 o15 o16 o17 o18;generalize A.tmps.getD 6 undef=s6 at hc9;generalize A.tmps.getD 7 undef=s7 at hc9;generalize A.tmps.getD 8 undef=s8 at hc9;generalize A.tmps.getD 9 undef=s9 at hc9;generalize A.tmps.getD 10 undef=s10 at hc9;generalize A.tmps.getD 11 undef=s11 at hc9;generalize A.tmps.getD 12 undef=s12 at hc9;generalize A.tmps.getD 13 undef=s13 at hc9;generalize A.tmps.getD 14 undef=s14 at hc9;generalize A.tmps.getD 15 undef=s15 at hc9;generalize A.tmps.getD 16 undef=s16 at hc9;generalize A.tmps.getD 17 undef=s17 at hc9;generalize A.tmps.getD 18 undef=s18 at hc9;generalize A.tmps.getD 19 undef=s19 at hc9;generalize A.tmps.getD 20 undef=s20 at hc9;generalize A.tmps.getD 21 undef=s21 at hc9;generalize A.tmps.getD 22 undef=s22 at hc9;generalize A.tmps.getD 23 undef=s23 at hc9;subst hc9;go_simp;go_wp2_with fail;go_ret;exact⟨rB (by rw[<-hBB,<-hCC,Bool.and_assoc]),QQ.o⟩
 case step=>
  intro l A W i hI hm;obtain⟨hFR,o0,o1,o2,o3,o4,o5,o6,o7,o8,o9,o10,o11,o12,o13,o14,o15,o16,o17,o18,hK⟩:=hI;obtain⟨hi1,hi2⟩:=jg hm;have hsz:Hid (23<A.tmps.size):=aba (by rw[hFR.size];simp);have m1:A.tmps[1]? = some (.pointer (some (abb w.heap.size 0))):=(hFR.o 1 (by decide)).trans rfl;have m3:A.tmps[3]? = some (.iface T v):=(hFR.o 3 (by decide)).trans rfl;rcases i with _|_|_|_|_|_|_|_|_|_|_|_|_|_|_|_|_|_|_|i
  ·refine wpOp_step rfl (fun KK hK2 => ?_);go_simp;exact hK2 (A.put (some 6) (.iface T v)) _ ⟨hFR.put (by decide) _,.now (put_eq (by have hz:=hsz.o;omega)),o1.q,o2.q,o3.q,o4.q,o5.q,o6.q,o7.q,o8.q,o9.q,o10.q,o11.q,o12.q,o13.q,o14.q,o15.q,o16.q,o17.q,o18.q,hK⟩
  ·have e1:=o0 (ay hm 0 (by kernel_rfl));refine wpOp_step rfl (fun KK hK2 => ?_);go_simp;exact hK2 (A.put (some 7) (.bool true)) _ ⟨hFR.put (by decide) _,o0.q,.now (put_eq (by have hz:=hsz.o;omega)),o2.q,o3.q,o4.q,o5.q,o6.q,o7.q,o8.q,o9.q,o10.q,o11.q,o12.q,o13.q,o14.q,o15.q,o16.q,o17.q,o18.q,hK⟩
  ·have e1:=o1 (ay hm 1 (by kernel_rfl));refine wpOp_step rfl (fun KK hK2 => ?_);go_simp;exact hK2 (A.put (some 8) (.bool true)) _ ⟨hFR.put (by decide) _,o0.q,o1.q,.now (put_eq (by have hz:=hsz.o;omega)),o3.q,o4.q,o5.q,o6.q,o7.q,o8.q,o9.q,o10.q,o11.q,o12.q,o13.q,o14.q,o15.q,o16.q,o17.q,o18.q,hK⟩
  ·have g:=o2 (ay hm 2 (by kernel_rfl));refine jR (b:=true) rfl rfl rfl g (fun KK hK2 => ?_);go_simp;exact hK2 (A.put (some 9) (.iface T v)) _ ⟨hFR.put (by decide) _,o0.q,o1.q,o2.q,.now (put_eq (by have hz:=hsz.o;omega)),o4.q,o5.q,o6.q,o7.q,o8.q,o9.q,o10.q,o11.q,o12.q,o13.q,o14.q,o15.q,o16.q,o17.q,o18.q,hK⟩
  ·have g:=o2 (ay hm 2 (by kernel_rfl));have e1:=o3 (ay hm 3 (by kernel_rfl));refine jR (b:=true) rfl rfl rfl g (fun KK hK2 => ?_);go_simp;refine(hc W).mono ?_;rintro r y⟨rfl,kd⟩;go_simp;exact hK2 (A.put (some 10) (.agg R)) _ ⟨hFR.put (by decide) _,o0.q,o1.q,o2.q,o3.q,.now (put_eq (by have hz:=hsz.o;omega)),o5.q,o6.q,o7.q,o8.q,o9.q,o10.q,o11.q,o12.q,o13.q,o14.q,o15.q,o16.q,o17.q,o18.q,(hK.trans kd)⟩
  ·have g:=o2 (ay hm 2 (by kernel_rfl));have BL:=B1.o.ae hK;have x0:=BL.all;clear BL;refine jR (b:=true) rfl rfl rfl g (fun KK hK2 => ?_);go_simp;exact hK2 (A.put (some 11) (.agg #[iv m,iv k,iv e])) _ ⟨hFR.put (by decide) _,o0.q,o1.q,o2.q,o3.q,o4.q,.now (put_eq (by have hz:=hsz.o;omega)),o6.q,o7.q,o8.q,o9.q,o10.q,o11.q,o12.q,o13.q,o14.q,o15.q,o16.q,o17.q,o18.q,hK⟩
  ·have g:=o2 (ay hm 2 (by kernel_rfl));have e1:=o4 (ay hm 4 (by kernel_rfl));have e2:=o5 (ay hm 5 (by kernel_rfl));refine jR (b:=true) rfl rfl rfl g (fun KK hK2 => ?_);go_simp;exact hK2 (A.put (some 12) (.bool E)) _ ⟨hFR.put (by decide) _,o0.q,o1.q,o2.q,o3.q,o4.q,o5.q,.now (put_eq (by have hz:=hsz.o;omega)),o7.q,o8.q,o9.q,o10.q,o11.q,o12.q,o13.q,o14.q,o15.q,o16.q,o17.q,o18.q,hK⟩
  ·have e1:=o2 (ay hm 2 (by kernel_rfl));have e2:=o6 (ay hm 6 (by kernel_rfl));refine wpOp_step rfl (fun KK hK2 => ?_);go_simp;exact hK2 (A.put (some 13) (.bool E)) _ ⟨hFR.put (by decide) _,o0.q,o1.q,o2.q,o3.q,o4.q,o5.q,o6.q,.now (put_eq (by have hz:=hsz.o;omega)),o8.q,o9.q,o10.q,o11.q,o12.q,o13.q,o14.q,o15.q,o16.q,o17.q,o18.q,hK⟩
  ·have e1:=o7 (ay hm 7 (by kernel_rfl));refine wpOp_step rfl (fun KK hK2 => ?_);go_simp;exact hK2 (A.put (some 14) (.bool E)) _ ⟨hFR.put (by decide) _,o0.q,o1.q,o2.q,o3.q,o4.q,o5.q,o6.q,o7.q,.now (put_eq (by have hz:=hsz.o;omega)),o9.q,o10.q,o11.q,o12.q,o13.q,o14.q,o15.q,o16.q,o17.q,o18.q,hK⟩
  ·have g:=o8 (ay hm 8 (by kernel_rfl));rcases bfe E with hE|hE
   ·rw[hE]at g;refine mi (b:=true) (c:=false) rfl rfl rfl g (by decide) ?_;exact⟨hFR.put (by decide) _,o0.q,o1.q,o2.q,o3.q,o4.q,o5.q,o6.q,o7.q,o8.q,.now (by rw[hE];exact put_eq (by have hz:=hsz.o;omega)),o10.q,o11.q,o12.q,o13.q,o14.q,o15.q,o16.q,o17.q,o18.q,hK⟩
   ·rw[hE]at g;refine jR (b:=true) rfl rfl rfl g (fun KK hK2 => ?_);go_simp;exact hK2 (A.put (some 15) (.pointer (some (abb w.heap.size 1)))) _ ⟨hFR.put (by decide) _,o0.q,o1.q,o2.q,o3.q,o4.q,o5.q,o6.q,o7.q,o8.q,.now (by rw[hE];exact put_eq (by have hz:=hsz.o;omega)),o10.q,o11.q,o12.q,o13.q,o14.q,o15.q,o16.q,o17.q,o18.q,hK⟩
  ·have g:=o8 (ay hm 8 (by kernel_rfl));have e1:=o9 (ay hm 9 (by kernel_rfl));rcases bfe E with hE|hE
   ·rw[hE]at g;refine mi (b:=true) (c:=false) rfl rfl rfl g (by decide) ?_;exact⟨hFR.put (by decide) _,o0.q,o1.q,o2.q,o3.q,o4.q,o5.q,o6.q,o7.q,o8.q,o9.q,.now (by rw[hE];exact put_eq (by have hz:=hsz.o;omega)),o11.q,o12.q,o13.q,o14.q,o15.q,o16.q,o17.q,o18.q,hK⟩
   ·rw[hE]at g e1;simp only[cond_true]at e1;have BL:=B1.o.ae hK;have x0:=BL.all;clear BL;refine jR (b:=true) rfl rfl rfl g (fun KK hK2 => ?_);go_simp;exact hK2 (A.put (some 16) (iv k)) _ ⟨hFR.put (by decide) _,o0.q,o1.q,o2.q,o3.q,o4.q,o5.q,o6.q,o7.q,o8.q,o9.q,.now (by rw[hE];exact put_eq (by have hz:=hsz.o;omega)),o11.q,o12.q,o13.q,o14.q,o15.q,o16.q,o17.q,o18.q,hK⟩
  ·have g:=o8 (ay hm 8 (by kernel_rfl));have e1:=o10 (ay hm 10 (by kernel_rfl));rcases bfe E with hE|hE
   ·rw[hE]at g;refine mi (b:=true) (c:=false) rfl rfl rfl g (by decide) ?_;exact⟨hFR.put (by decide) _,o0.q,o1.q,o2.q,o3.q,o4.q,o5.q,o6.q,o7.q,o8.q,o9.q,o10.q,.now (by rw[hE];exact put_eq (by have hz:=hsz.o;omega)),o12.q,o13.q,o14.q,o15.q,o16.q,o17.q,o18.q,hK⟩
   ·rw[hE]at g e1;simp only[cond_true]at e1;refine jR (b:=true) rfl rfl rfl g (fun KK hK2 => ?_);go_simp;refine st (Yd k _) ?_;rw[hBB];go_simp;exact hK2 (A.put (some 17) (.bool B)) _ ⟨hFR.put (by decide) _,o0.q,o1.q,o2.q,o3.q,o4.q,o5.q,o6.q,o7.q,o8.q,o9.q,o10.q,.now (by rw[hE];exact put_eq (by have hz:=hsz.o;omega)),o12.q,o13.q,o14.q,o15.q,o16.q,o17.q,o18.q,hK⟩
  ·have e1:=o8 (ay hm 8 (by kernel_rfl));have e2:=o11 (ay hm 11 (by kernel_rfl));rcases bfe E with hE|hE
   ·rw[hE]at e1 e2;simp only[cond_false]at e2;refine wpOp_step rfl (fun KK hK2 => ?_);go_simp;exact hK2 (A.put (some 18) (.bool false)) _ ⟨hFR.put (by decide) _,o0.q,o1.q,o2.q,o3.q,o4.q,o5.q,o6.q,o7.q,o8.q,o9.q,o10.q,o11.q,.now (by rw[hE];exact put_eq (by have hz:=hsz.o;omega)),o13.q,o14.q,o15.q,o16.q,o17.q,o18.q,hK⟩
   ·rw[hE]at e1 e2;simp only[cond_true]at e2;refine wpOp_step rfl (fun KK hK2 => ?_);go_simp;exact hK2 (A.put (some 18) (.bool B)) _ ⟨hFR.put (by decide) _,o0.q,o1.q,o2.q,o3.q,o4.q,o5.q,o6.q,o7.q,o8.q,o9.q,o10.q,o11.q,.now (by rw[hE];exact put_eq (by have hz:=hsz.o;omega)),o13.q,o14.q,o15.q,o16.q,o17.q,o18.q,hK⟩
  ·have e1:=o12 (ay hm 12 (by kernel_rfl));refine wpOp_step rfl (fun KK hK2 => ?_);go_simp;exact hK2 (A.put (some 19) (.bool (E&&B))) _ ⟨hFR.put (by decide) _,o0.q,o1.q,o2.q,o3.q,o4.q,o5.q,o6.q,o7.q,o8.q,o9.q,o10.q,o11.q,o12.q,.now (put_eq (by have hz:=hsz.o;omega)),o14.q,o15.q,o16.q,o17.q,o18.q,hK⟩
  ·have g:=o13 (ay hm 13 (by kernel_rfl));rcases bfe (E&&B) with hE|hE
   ·rw[hE]at g;refine mi (b:=true) (c:=false) rfl rfl rfl g (by decide) ?_;exact⟨hFR.put (by decide) _,o0.q,o1.q,o2.q,o3.q,o4.q,o5.q,o6.q,o7.q,o8.q,o9.q,o10.q,o11.q,o12.q,o13.q,.now (by rw[hE];exact put_eq (by have hz:=hsz.o;omega)),o15.q,o16.q,o17.q,o18.q,hK⟩
   ·rw[hE]at g;refine jR (b:=true) rfl rfl rfl g (fun KK hK2 => ?_);go_simp;exact hK2 (A.put (some 20) (.pointer (some (abb w.heap.size 2)))) _ ⟨hFR.put (by decide) _,o0.q,o1.q,o2.q,o3.q,o4.q,o5.q,o6.q,o7.q,o8.q,o9.q,o10.q,o11.q,o12.q,o13.q,.now (by rw[hE];exact put_eq (by have hz:=hsz.o;omega)),o15.q,o16.q,o17.q,o18.q,hK⟩
  ·have g:=o13 (ay hm 13 (by kernel_rfl));have e1:=o14 (ay hm 14 (by kernel_rfl));rcases bfe (E&&B) with hE|hE
   ·rw[hE]at g;refine mi (b:=true) (c:=false) rfl rfl rfl g (by decide) ?_;exact⟨hFR.put (by decide) _,o0.q,o1.q,o2.q,o3.q,o4.q,o5.q,o6.q,o7.q,o8.q,o9.q,o10.q,o11.q,o12.q,o13.q,o14.q,.now (by rw[hE];exact put_eq (by have hz:=hsz.o;omega)),o16.q,o17.q,o18.q,hK⟩
   ·rw[hE]at g e1;simp only[cond_true]at e1;have BL:=B1.o.ae hK;have x0:=BL.all;clear BL;refine jR (b:=true) rfl rfl rfl g (fun KK hK2 => ?_);go_simp;exact hK2 (A.put (some 21) (iv e)) _ ⟨hFR.put (by decide) _,o0.q,o1.q,o2.q,o3.q,o4.q,o5.q,o6.q,o7.q,o8.q,o9.q,o10.q,o11.q,o12.q,o13.q,o14.q,.now (by rw[hE];exact put_eq (by have hz:=hsz.o;omega)),o16.q,o17.q,o18.q,hK⟩
  ·have g:=o13 (ay hm 13 (by kernel_rfl));have e1:=o15 (ay hm 15 (by kernel_rfl));rcases bfe (E&&B) with hE|hE
   ·rw[hE]at g;refine mi (b:=true) (c:=false) rfl rfl rfl g (by decide) ?_;exact⟨hFR.put (by decide) _,o0.q,o1.q,o2.q,o3.q,o4.q,o5.q,o6.q,o7.q,o8.q,o9.q,o10.q,o11.q,o12.q,o13.q,o14.q,o15.q,.now (by rw[hE];exact put_eq (by have hz:=hsz.o;omega)),o17.q,o18.q,hK⟩
   ·rw[hE]at g e1;simp only[cond_true]at e1;refine jR (b:=true) rfl rfl rfl g (fun KK hK2 => ?_);go_simp;refine st (isWord e _ lo hi) ?_;rw[hCC];go_simp;exact hK2 (A.put (some 22) (.bool C)) _ ⟨hFR.put (by decide) _,o0.q,o1.q,o2.q,o3.q,o4.q,o5.q,o6.q,o7.q,o8.q,o9.q,o10.q,o11.q,o12.q,o13.q,o14.q,o15.q,.now (by rw[hE];exact put_eq (by have hz:=hsz.o;omega)),o17.q,o18.q,hK⟩
  ·have e1:=o13 (ay hm 13 (by kernel_rfl));have e2:=o16 (ay hm 16 (by kernel_rfl));rcases bfe (E&&B) with hE|hE
   ·rw[hE]at e1 e2;simp only[cond_false]at e2;refine wpOp_step rfl (fun KK hK2 => ?_);go_simp;exact hK2 (A.put (some 23) (.bool false)) _ ⟨hFR.put (by decide) _,o0.q,o1.q,o2.q,o3.q,o4.q,o5.q,o6.q,o7.q,o8.q,o9.q,o10.q,o11.q,o12.q,o13.q,o14.q,o15.q,o16.q,.now (by rw[hE];exact put_eq (by have hz:=hsz.o;omega)),o18.q,hK⟩
   ·rw[hE]at e1 e2;simp only[cond_true]at e2;refine wpOp_step rfl (fun KK hK2 => ?_);go_simp;exact hK2 (A.put (some 23) (.bool C)) _ ⟨hFR.put (by decide) _,o0.q,o1.q,o2.q,o3.q,o4.q,o5.q,o6.q,o7.q,o8.q,o9.q,o10.q,o11.q,o12.q,o13.q,o14.q,o15.q,o16.q,.now (by rw[hE];exact put_eq (by have hz:=hsz.o;omega)),o18.q,hK⟩
  ·have e1:=o17 (ay hm 17 (by kernel_rfl));refine wpOp_step rfl (fun KK hK2 => ?_);go_simp;exact hK2 (A.put (some 2) (.bool ((E&&B)&&C))) _ ⟨hFR.put (by decide) _,o0.q,o1.q,o2.q,o3.q,o4.q,o5.q,o6.q,o7.q,o8.q,o9.q,o10.q,o11.q,o12.q,o13.q,o14.q,o15.q,o16.q,o17.q,.now (put_eq (by have hz:=hsz.o;omega)),hK⟩
  ·simp at hi1
   omega
theorem modes {m:Int} (h:bJ m=true):m=0\/m=1\/m=2\/m=3\/m=4\/m=5\/m=6\/m=7:=by
 simp[bJ,within]at h;omega
theorem Az (m k e k' e':Int) (w:World):(binOp .eql 46 (.agg #[iv m,iv k',iv e']) (.agg #[iv m,iv k,iv e])).run prog w=.ok (.bool ((k'==k)&&(e'==e))) w:=by
 go_simp;by_cases h1:k'=k<;>by_cases h2:e'=e<;>simp[h1,h2]
theorem kJ (w:World) (m k e:Int) (wfm:(Lit.int .i64 m).wf=true) (wfk:(Lit.int .i64 k).wf=true) (wfe:(Lit.int .i64 e).wf=true) :
  Calls prog 117 #[.agg #[iv m,iv k,iv e]] w fun r w'=>r=.returned (.bool (iP m k e))/\Kept 0 0 w w':=by
 obtain⟨lo,hi⟩:=wfB wfe;cases h:bJ m
 ·have G:Hid (iP m k e=false):=aba (by unfold iP;rw[h];rfl);have K0:=aba (kept_alloc w (.cells #[iv m,iv k,iv e] 46));go_enter func117,ntmps117;go_wp2_with fail;refine(DJ m k e _ h).mono ?_;rintro r w1⟨rfl,k1⟩;have K1:=aba (K0.o.trans k1);clear k1;go_wp2_with fail;go_quiet (fail);go_wp2_with fail;go_ret;exact⟨rB (by rw[G.o]),ax K1.o _⟩
 ·rcases modes h with rfl|rfl|rfl|rfl|rfl|rfl|rfl|rfl
  ·have q:=pM 0 k e w 228 339 (.agg #[iv k]) _ _ lo hi (fun w=>BI k e w) (fun w=>XG _ w) (fun w=>JE k e w) fn0 (fun w=>Az 0 k e k 0 w)
   have G:(((k:Int)==k)&&((0:Int)==e)&&(within k 0 3&&aP e))=iP 0 k e:=by
    unfold iP;rw[show bJ 0=true from by decide,show decide ((0:Int)<6)=true from by decide,show jQ 0=false from by decide,Bool.eq_iff_iff];simp;grind
   rw[G]at q;exact q
  ·have q:=pM 1 k e w 229 340 (.agg #[iv k]) _ _ lo hi (fun w=>BG k e w) (fun w=>XF _ w) (fun w=>JD k e w) fn1 (fun w=>Az 1 k e k 0 w)
   have G:(((k:Int)==k)&&((0:Int)==e)&&(within k 0 3&&aP e))=iP 1 k e:=by
    unfold iP;rw[show bJ 1=true from by decide,show decide ((1:Int)<6)=true from by decide,show jQ 1=false from by decide,Bool.eq_iff_iff];simp;grind
   rw[G]at q;exact q
  ·have q:=pM 2 k e w 230 341 (.agg #[iv k]) _ _ lo hi (fun w=>BD k e w) (fun w=>XE _ w) (fun w=>JC k e w) fn2 (fun w=>Az 2 k e k 0 w)
   have G:(((k:Int)==k)&&((0:Int)==e)&&(within k 0 3&&aP e))=iP 2 k e:=by
    unfold iP;rw[show bJ 2=true from by decide,show decide ((2:Int)<6)=true from by decide,show jQ 2=false from by decide,Bool.eq_iff_iff];simp;grind
   rw[G]at q;exact q
  ·have q:=pM 3 k e w 231 342 (.agg #[iv k]) _ _ lo hi (fun w=>BC k e w) (fun w=>XD _ w) (fun w=>JB k e w) fn3 (fun w=>Az 3 k e k 0 w)
   have G:(((k:Int)==k)&&((0:Int)==e)&&(within k 0 3&&aP e))=iP 3 k e:=by
    unfold iP;rw[show bJ 3=true from by decide,show decide ((3:Int)<6)=true from by decide,show jQ 3=false from by decide,Bool.eq_iff_iff];simp;grind
   rw[G]at q;exact q
  ·have q:=pM 4 k e w 232 343 (.agg #[iv k]) _ _ lo hi (fun w=>Bz k e w) (fun w=>XC _ w) (fun w=>JA k e w) fn4 (fun w=>Az 4 k e k 0 w)
   have G:(((k:Int)==k)&&((0:Int)==e)&&(within k 0 3&&aP e))=iP 4 k e:=by
    unfold iP;rw[show bJ 4=true from by decide,show decide ((4:Int)<6)=true from by decide,show jQ 4=false from by decide,Bool.eq_iff_iff];simp;grind
   rw[G]at q;exact q
  ·have q:=pM 5 k e w 234 344 (.agg #[iv k,iv e]) _ _ lo hi (fun w=>Bv k e w) (fun w=>XB _ w) (fun w=>Jz k e w) fn5 (fun w=>Az 5 k e k e w)
   have G:(((k:Int)==k)&&((e:Int)==e)&&(within k 0 3&&aP e))=iP 5 k e:=by
    unfold iP;rw[show bJ 5=true from by decide,show decide ((5:Int)<6)=true from by decide,show jQ 5=true from by decide,Bool.eq_iff_iff];simp;skip
   rw[G]at q;exact q
  ·have q:=pM 6 k e w 236 345 (.agg #[iv e]) _ _ lo hi (fun w=>Bq k e w) (fun w=>XA _ w) (fun w=>Jy k e w) fn6 (fun w=>Az 6 k e 0 e w)
   have G:(((0:Int)==k)&&((e:Int)==e)&&(within k 0 3&&aP e))=iP 6 k e:=by
    unfold iP;rw[show bJ 6=true from by decide,show decide ((6:Int)<6)=false from by decide,show jQ 6=true from by decide,Bool.eq_iff_iff];simp;grind
   rw[G]at q;exact q
  ·have q:=pM 7 k e w 237 346 (.agg #[iv e]) _ _ lo hi (fun w=>Bo k e w) (fun w=>Xz _ w) (fun w=>Jw k e w) fn7 (fun w=>Az 7 k e 0 e w)
   have G:(((0:Int)==k)&&((e:Int)==e)&&(within k 0 3&&aP e))=iP 7 k e:=by
    unfold iP;rw[show bJ 7=true from by decide,show decide ((7:Int)<6)=false from by decide,show jQ 7=true from by decide,Bool.eq_iff_iff];simp;grind
   rw[G]at q;exact q
theorem yG (w:World) (m:Int) (wfm:(Lit.int .i64 m).wf=true) :
  Calls prog 183 #[iv m] w fun r w'=>r=.returned (.tuple #[.bool (bJ m&&jQ m),.bool (bJ m)])/\Kept 0 0 w w':=by
 cases h:bJ m
 ·go_enter func183,ntmps183;go_wp2_with (first|(go_at_call 168;refine(DJ m 0 0 _ h).mono ?_;rintro r w1⟨rfl,k1⟩));go_quiet (fail);go_wp2_with fail;go_ret2;exact⟨by simp,ax k1 _⟩
 ·rcases modes h with rfl|rfl|rfl|rfl|rfl|rfl|rfl|rfl
  ·go_enter func183,ntmps183;go_wp2_with (first|(go_at_call 168;refine(BI 0 0 _).mono ?_;rintro r w1⟨rfl,k1⟩));go_quiet (first|(go_at_call 234;exact Calls.quiet_of_same (Qr _ _))|fail);go_wp2_with fail;go_ret2;exact⟨rfl,ax k1 _⟩
  ·go_enter func183,ntmps183;go_wp2_with (first|(go_at_call 168;refine(BG 0 0 _).mono ?_;rintro r w1⟨rfl,k1⟩));go_quiet (first|(go_at_call 234;exact Calls.quiet_of_same (Qq _ _))|fail);go_wp2_with fail;go_ret2;exact⟨rfl,ax k1 _⟩
  ·go_enter func183,ntmps183;go_wp2_with (first|(go_at_call 168;refine(BD 0 0 _).mono ?_;rintro r w1⟨rfl,k1⟩));go_quiet (first|(go_at_call 234;exact Calls.quiet_of_same (Qp _ _))|fail);go_wp2_with fail;go_ret2;exact⟨rfl,ax k1 _⟩
  ·go_enter func183,ntmps183;go_wp2_with (first|(go_at_call 168;refine(BC 0 0 _).mono ?_;rintro r w1⟨rfl,k1⟩));go_quiet (first|(go_at_call 234;exact Calls.quiet_of_same (Qo _ _))|fail);go_wp2_with fail;go_ret2;exact⟨rfl,ax k1 _⟩
  ·go_enter func183,ntmps183;go_wp2_with (first|(go_at_call 168;refine(Bz 0 0 _).mono ?_;rintro r w1⟨rfl,k1⟩));go_quiet (first|(go_at_call 234;exact Calls.quiet_of_same (Qn _ _))|fail);go_wp2_with fail;go_ret2;exact⟨rfl,ax k1 _⟩
  ·go_enter func183,ntmps183;go_wp2_with (first|(go_at_call 168;refine(Bv 0 0 _).mono ?_;rintro r w1⟨rfl,k1⟩));go_quiet (first|(go_at_call 234;exact Calls.quiet_of_same (Qm _ _))|fail);go_wp2_with fail;go_ret2;exact⟨rfl,ax k1 _⟩
  ·go_enter func183,ntmps183;go_wp2_with (first|(go_at_call 168;refine(Bq 0 0 _).mono ?_;rintro r w1⟨rfl,k1⟩));go_quiet (first|(go_at_call 234;exact Calls.quiet_of_same (Ql _ _))|fail);go_wp2_with fail;go_ret2;exact⟨rfl,ax k1 _⟩
  ·go_enter func183,ntmps183;go_wp2_with (first|(go_at_call 168;refine(Bo 0 0 _).mono ?_;rintro r w1⟨rfl,k1⟩));go_quiet (first|(go_at_call 234;exact Calls.quiet_of_same (Qk _ _))|fail);go_wp2_with fail;go_ret2;exact⟨rfl,ax k1 _⟩
theorem Ye (m:Int) (w:World):Calls prog 221 #[iv m] w fun e w'=>e=.returned (.bool (kH m))/\w'=w:=by
 by_cases h0:2<=m
 ·by_cases h1:m<=6
  ·go_enter func221,ntmps221;go_wp2;go_ret;exact⟨rB (by simp[kH,within,h0,h1]),rfl⟩
  ·go_enter func221,ntmps221;go_wp2;go_ret;exact⟨rB (by simp[kH,within,h0];omega),rfl⟩
 ·go_enter func221,ntmps221;go_wp2;go_ret;exact⟨rB (by simp[kH,within];omega),rfl⟩
theorem E5 (m:Int) (w:World):Calls prog 171 #[iv m] w fun e w'=>e=.returned (.bool ((m==0)||kH m))/\w'=w:=by
 cases h0:(m==0)
 ·go_enter func171,ntmps171;go_wp2_with (go_at_call 221;refine st (Ye _ _) ?_);go_ret;exact⟨rB (by simp),rfl⟩
 ·go_enter func171,ntmps171;go_wp2;go_ret;exact⟨rB (by simp),rfl⟩
theorem Ew (m:Int) (w:World):Calls prog 172 #[iv m] w fun e w'=>e=.returned (.bool (fF m))/\w'=w:=by
 unfold fF
 cases h0:(m==2)<;>cases h1:(m==5)<;>cases h2:(m==6)<;>(
  go_enter func172,ntmps172;go_wp2;go_ret
  exact⟨rB (by simp),rfl⟩)
theorem Xu (v:Int):okv 1 v=within v 0 255:=by
 unfold okv within Pl.top;rw[Bool.eq_iff_iff];simp;omega
theorem Qg (v:Int) (w:World) (lo : -9223372036854775808<=v) (hi:v<=9223372036854775807) :
  Calls prog 170 #[iv v] w fun e w'=>e=.returned (.bool (within v 0 255))/\w'=w:=by
 go_enter func170,ntmps170;go_wp2_with (go_at_call 120;refine st (bW _ _ _ lo hi) ?_;rw[Xu]);go_ret;exact⟨rfl,rfl⟩
def Pl.lng (m:Int):Bool:=bJ m&&jQ m
theorem yF (w:World) (op z r m k e s:Int) (wfm:(Lit.int .i64 m).wf=true):Calls prog 133 #[.agg (inA op z r m k e s)] w fun r' w'=>r'=.returned (.bool (lng m))/\Kept 0 0 w w':=by
 have K0:=aba (kept_alloc w (.cells (inA op z r m k e s) 48));go_enter func133,ntmps133;go_wp2_with (go_at_call 183;refine(yG _ m wfm).mono ?_;rintro e' w2⟨rfl,k2⟩);go_ret;exact⟨rfl,K0.o.trans k2⟩
theorem lengthOf (w:World) (op z r m k e s:Int) (wfm:(Lit.int .i64 m).wf=true):Calls prog 80 #[.agg (inA op z r m k e s)] w fun r' w'=>r'=.returned (iv (if lng m=true then 2 else 1))/\Kept 0 0 w w':=by
 have K0:=aba (kept_alloc w (.cells (inA op z r m k e s) 48));cases h:lng m
 ·go_enter func80,ntmps80;go_wp2_with (go_at_call 133;refine(yF _ op z r m k e s wfm).mono ?_;rintro e' w2⟨rfl,k2⟩;rw[h]);go_ret;exact⟨rfl,K0.o.trans k2⟩
 ·go_enter func80,ntmps80;go_wp2_with (go_at_call 133;refine(yF _ op z r m k e s wfm).mono ?_;rintro e' w2⟨rfl,k2⟩;rw[h]);go_ret;exact⟨rfl,K0.o.trans k2⟩
theorem uk (w:World) (op z r m k e s:Int):Calls prog 222 #[.agg (inA op z r m k e s)] w fun r' w'=>r'=.returned (.bool ((r==0)&&jq m e))/\Kept 0 0 w w':=by
 have K0:=aba (kept_alloc w (.cells (inA op z r m k e s) 48));unfold jq
 cases h0:(r==0)<;>cases h1:(m==7)<;>cases h2:decide (e<=1023)<;>(
  go_enter func222,ntmps222;go_wp2;go_ret
  exact⟨rB (by simp),K0.o⟩)
theorem Aq (w:World) (op z r m k e s:Int) (wfe:(Lit.int .i64 e).wf=true):Calls prog 118 #[.agg (inA op z r m k e s)] w fun r' w'=>r'=.returned (.bool (LW ⟨op,z,r,m,k,e,s⟩))/\Kept 0 0 w w':=by
 have K0:=aba (kept_alloc w (.cells (inA op z r m k e s) 48));obtain⟨lo,hi⟩:=wfB wfe;unfold LW;simp only
 cases h0:(m != 7)<;>cases h1:(z != 1)<;>cases h2:within e 0 255<;>(
  go_enter func118,ntmps118;go_wp2_with (go_at_call 170;refine st (Qg _ _ lo hi) ?_;rw[h2]);go_ret
  exact⟨rB (by simp at h0 h1;simp[h0,h1]),K0.o⟩)
theorem oz (a:Int):∃q:Int,wrap64 a=a+18446744073709551616*q:=by
 refine⟨-((a+9223372036854775808)/18446744073709551616),?_⟩;unfold wrap64;omega
theorem firstWord (w:World) (op z r m k e s:Int):Calls prog 167 #[.agg (inA op z r m k e s)] w fun r' w'=>r'=.returned (iv (oC ⟨op,z,r,m,k,e,s⟩%65536))/\Kept 0 0 w w':=by
 have K0:=aba (kept_alloc w (.cells (inA op z r m k e s) 48));go_enter func167,ntmps167;go_wp2_with (go_at_call 178;refine(gZ _ _).mono ?_;rintro e' w2⟨rfl,hw⟩;have hw2:=hw.symm;clear hw;subst hw2);go_ret;refine⟨rI ?_,K0.o⟩;unfold oC;simp only;obtain⟨q1,e1⟩:=oz (op*2048);obtain⟨q2,e2⟩:=oz (z-1);obtain⟨q3,e3⟩:=oz (wrap64 (z-1)*1024);obtain⟨q4,e4⟩:=oz (wrap64 (op*2048)+wrap64 (wrap64 (z-1)*1024));obtain⟨q5,e5⟩:=oz (r*256);obtain⟨q6,e6⟩:=oz (wrap64 (wrap64 (op*2048)+wrap64 (wrap64 (z-1)*1024))+wrap64 (r*256));obtain⟨q7,e7⟩:=oz (m*32);obtain⟨q8,e8⟩:=oz (wrap64 (wrap64 (wrap64 (op*2048)+wrap64 (wrap64 (z-1)*1024))+wrap64 (r*256))+wrap64 (m*32));obtain⟨q9,e9⟩:=oz (k*8);obtain⟨qa,ea⟩:=oz (wrap64 (wrap64 (wrap64 (wrap64 (op*2048)+wrap64 (wrap64 (z-1)*1024))+wrap64 (r*256))+wrap64 (m*32))+wrap64 (k*8));obtain⟨qb,eb⟩:=oz (wrap64 (wrap64 (wrap64 (wrap64 (wrap64 (op*2048)+wrap64 (wrap64 (z-1)*1024))+wrap64 (r*256))+wrap64 (m*32))+wrap64 (k*8))+s);omega
theorem ru {n:Int} (h0 : -1<=n) (h1:n<=65536):(Lit.int .i64 n).wf=true:=by
 have e1:IntKind.i64.min = -9223372036854775808:=rfl;have e2:IntKind.i64.max=9223372036854775807:=rfl;simp[Lit.wf];omega
theorem Blk.c7 {w:World} {b:Nat} {v0 v1 v2 v3 v4 v5 v6:Value} {t:TypeId} (h:Blk w b #[v0,v1,v2,v3,v4,v5,v6] t):w.cell? (abb b 0)=some v0/\w.cell? (abb b 1)=some v1/\w.cell? (abb b 2)=some v2/\w.cell? (abb b 3)=some v3/\w.cell? (abb b 4)=some v4/\w.cell? (abb b 5)=some v5/\w.cell? (abb b 6)=some v6:=
 ⟨h.cell (i:=0) rfl,h.cell (i:=1) rfl,h.cell (i:=2) rfl,h.cell (i:=3) rfl,h.cell (i:=4) rfl,h.cell (i:=5) rfl,h.cell (i:=6) rfl⟩
theorem insOf (w:World) (n v:Int) (h0:0<=n) (h1:n<=65535):Calls prog 166 #[iv n,iv v] w fun r' w'=>r'=.returned (.agg #[iv (Pl.decode n v).op,iv (Pl.decode n v).z,iv (Pl.decode n v).r,iv (Pl.decode n v).m,iv (Pl.decode n v).k,iv (Pl.decode n v).e,iv (Pl.decode n v).s])/\Kept 0 0 w w':=by
 rw[wF];simp only[Pl.decode];have t1:n.tdiv 2048=n/2048:=Int.tdiv_eq_ediv_of_nonneg h0;have t2:n.tdiv 1024=n/1024:=Int.tdiv_eq_ediv_of_nonneg h0;have t3:n.tdiv 256=n/256:=Int.tdiv_eq_ediv_of_nonneg h0;have t4:n.tdiv 32=n/32:=Int.tdiv_eq_ediv_of_nonneg h0;have t5:n.tdiv 8=n/8:=Int.tdiv_eq_ediv_of_nonneg h0;have t6:n.tmod 8=n%8:=Int.tmod_eq_emod_of_nonneg h0;have wfm:(Lit.int .i64 (n/32%8)).wf=true:=ru (by omega) (by omega)
 have hM:lng (n/32%8)=jQ (n/32%8):=by
  unfold lng;rw[show bJ (n/32%8)=true from by simp[bJ,within];omega];rfl
 have HM:=aba hM;have KA:=aba (ah (kept_alloc w (.cells (inA 0 0 0 0 0 0 0) 48)) (.cells (inA (n/2048) (n/1024%2+1) (n/256%4) (n/32%8) (n/8%4) 0 (n%8)) 48));have B1:=aba ((Blk.new w (inA 0 0 0 0 0 0 0) 48).alloc (.cells (inA (n/2048) (n/1024%2+1) (n/256%4) (n/32%8) (n/8%4) 0 (n%8)) 48));have b2:=Blk.new (w.alloc (.cells (inA 0 0 0 0 0 0 0) 48)) (inA (n/2048) (n/1024%2+1) (n/256%4) (n/32%8) (n/8%4) 0 (n%8)) 48;simp only[World.size_alloc]at b2;have B2:=aba b2;clear b2 hM;cases hx:jQ (n/32%8)
 ·go_enter func166,ntmps166;go_wp2_with fail;refine(yF _ _ _ _ _ _ _ _ wfm).mono ?_;rintro r2 w2⟨rfl,k2⟩;rw[HM.o,hx];have K2:=aba (KA.o.trans k2);have C2:=aba (B2.o.ae k2);have C1:=aba (B1.o.ae k2);obtain⟨p0,p1,p2,p3,p4,p5,p6⟩:=C2.o.c7;obtain⟨q0,q1,q2,q3,q4,q5,q6⟩:=C1.o.c7;have fq0:=C1.o.frozen 0;have fq1:=C1.o.frozen 1;have fq2:=C1.o.frozen 2;have fq3:=C1.o.frozen 3;have fq4:=C1.o.frozen 4;have fq5:=C1.o.frozen 5;have fq6:=C1.o.frozen 6;have fp5:=C2.o.frozen 5;clear k2 t1 t2 t3 t4 t5 t6;go_wp2_with fail;refine bodyPost_ret (v:=.agg (inA (n/2048) (n/1024%2+1) (n/256%4) (n/32%8) (n/8%4) 0 (n%8))) ?_ rfl ⟨rfl,?_⟩
  ·rw[aj rfl];go_simp
  ·exact(af (af (af (af (af (af (af K2.o _ _ _ (.inr (by omega))) _ _ _ (.inr (by omega))) _ _ _ (.inr (by omega))) _ _ _ (.inr (by omega))) _ _ _ (.inr (by omega))) _ _ _ (.inr (by omega))) _ _ _ (.inr (by omega)))
 ·go_enter func166,ntmps166;go_wp2_with fail;refine(yF _ _ _ _ _ _ _ _ wfm).mono ?_;rintro r2 w2⟨rfl,k2⟩;rw[HM.o,hx];have K2:=aba (KA.o.trans k2);have C2:=aba (B2.o.ae k2);have C1:=aba (B1.o.ae k2);obtain⟨p0,p1,p2,p3,p4,p5,p6⟩:=C2.o.c7;obtain⟨q0,q1,q2,q3,q4,q5,q6⟩:=C1.o.c7;have fq0:=C1.o.frozen 0;have fq1:=C1.o.frozen 1;have fq2:=C1.o.frozen 2;have fq3:=C1.o.frozen 3;have fq4:=C1.o.frozen 4;have fq5:=C1.o.frozen 5;have fq6:=C1.o.frozen 6;have fp5:=C2.o.frozen 5;clear k2 t1 t2 t3 t4 t5 t6;go_wp2_with fail;refine bodyPost_ret (v:=.agg (inA (n/2048) (n/1024%2+1) (n/256%4) (n/32%8) (n/8%4) v (n%8))) ?_ rfl ⟨rfl,?_⟩
  ·rw[aj rfl];go_simp
  ·exact(af (af (af (af (af (af (af (af K2.o _ _ _ (.inr (by omega))) _ _ _ (.inr (by omega))) _ _ _ (.inr (by omega))) _ _ _ (.inr (by omega))) _ _ _ (.inr (by omega))) _ _ _ (.inr (by omega))) _ _ _ (.inr (by omega))) _ _ _ (.inr (by omega)))
theorem aay (a b:Pl.In) (w:World):(binOp .eql 48 (.agg #[iv a.op,iv a.z,iv a.r,iv a.m,iv a.k,iv a.e,iv a.s]) (.agg #[iv b.op,iv b.z,iv b.r,iv b.m,iv b.k,iv b.e,iv b.s])).run prog w=.ok (.bool (vC a b)) w:=by
 obtain⟨a1,a2,a3,a4,a5,a6,a7⟩:=a;obtain⟨b1,b2,b3,b4,b5,b6,b7⟩:=b;unfold vC;go_simp;by_cases h1:a1=b1
 ·by_cases h2:a2=b2
  ·by_cases h3:a3=b3
   ·by_cases h4:a4=b4
    ·by_cases h5:a5=b5
     ·by_cases h6:a6=b6
      ·by_cases h7:a7=b7
       ·simp[h1,h2,h3,h4,h5,h6,h7]
       ·simp[h1,h2,h3,h4,h5,h6,h7]
      ·simp[h1,h2,h3,h4,h5,h6]
     ·simp[h1,h2,h3,h4,h5]
    ·simp[h1,h2,h3,h4]
   ·simp[h1,h2,h3]
  ·simp[h1,h2]
 ·simp[h1]
theorem eqO (m k e:Int) (w:World):(binOp .eql 46 (.agg #[iv m,iv k,iv e]) (.agg #[iv 0,iv 0,iv 0])).run prog w=.ok (.bool (iw m k e)) w:=by
 unfold iw;go_simp;by_cases h1:m=0<;>by_cases h2:k=0<;>by_cases h3:e=0<;>simp[h1,h2,h3]
theorem qx (w:World) (op z r m k e s:Int):Calls prog 116 #[.agg #[iv op,iv z,iv r,iv m,iv k,iv e,iv s]] w fun r' w'=>r'=.returned (.bool (Pl.fits ⟨op,z,r,m,k,e,s⟩))/\Kept 0 0 w w':=by
 have K0:=aba (kept_alloc w (.cells #[iv op,iv z,iv r,iv m,iv k,iv e,iv s] 48));have B0:=aba (Blk.new w #[iv op,iv z,iv r,iv m,iv k,iv e,iv s] 48);obtain⟨N,hN⟩:∃N,oC ⟨op,z,r,m,k,e,s⟩%65536=N:=⟨_,rfl⟩
 have n0:Hid (0<=N):=aba (by omega);have n1:Hid (N<=65535):=aba (by omega);obtain⟨D,hD⟩:∃D,Pl.decode N e=D:=⟨_,rfl⟩
 obtain⟨F,hF⟩:∃F,vC D ⟨op,z,r,m,k,e,s⟩=F:=⟨_,rfl⟩
 have EF:Hid (Pl.fits ⟨op,z,r,m,k,e,s⟩=F):=aba (by unfold Pl.fits;rw[hN,hD,hF]);have HN:=aba hN;have HD:=aba hD;obtain⟨RD,hR⟩:∃RD:Array Value,RD=#[iv D.op,iv D.z,iv D.r,iv D.m,iv D.k,iv D.e,iv D.s]:=⟨_,rfl⟩
 have HE:Hid (∀w:World,(binOp .eql 48 (.agg RD) (.agg #[iv op,iv z,iv r,iv m,iv k,iv e,iv s])).run prog w=.ok (.bool F) w):=aba (fun w=>by rw[<-hF,hR];exact aay D ⟨op,z,r,m,k,e,s⟩ w);have HR:=aba hR;clear hN hD hF hR;rw[EF.o];go_enter func116,ntmps116;go_wp2_with fail;refine iC (fun A0 l A W=>FR [3,4,5,6,7,8,9,10,2] A0 A/\Once l 0 (A.tmps[3]? = some (.agg #[iv op,iv z,iv r,iv m,iv k,iv e,iv s]))/\Once l 1 (A.tmps[4]? = some (iv N))/\Once l 2 (A.tmps[5]? = some (.pointer (some (abb w.heap.size 3))))/\Once l 3 (A.tmps[6]? = some (.pointer (some (abb w.heap.size 5))))/\Once l 4 (A.tmps[7]? = some (iv e))/\Once l 5 (A.tmps[8]? = some (.agg RD))/\Once l 6 (A.tmps[9]? = some (.agg #[iv op,iv z,iv r,iv m,iv k,iv e,iv s]))/\Once l 7 (A.tmps[10]? = some (.bool F))/\Once l 8 (A.tmps[2]? = some (.bool F))/\Kept 0 0 (w.alloc (.cells #[iv op,iv z,iv r,iv m,iv k,iv e,iv s] 48)) W) (by kernel_rfl) (by kernel_rfl) ?start ?fin ?step
 case start=>exact⟨FR.refl _ _,au (by decide),au (by decide),au (by decide),au (by decide),au (by decide),au (by decide),au (by decide),au (by decide),au (by decide),ai (Kept.refl _ _ _)⟩
 case fin=>
  intro l A W h hl;obtain⟨hFR,o0,o1,o2,o3,o4,o5,o6,o7,o8,hK⟩:=h;have g8:=o8 (hl 8 (by decide));have QQ:=aba hK;have hc9:=hFR.chain;simp only[List.foldl]at hc9;rw[iW g8]at hc9;clear hl hK hFR g8 o0 o1 o2 o3 o4 o5 o6 o7 o8;generalize A.tmps.getD 3 undef=s3 at hc9;generalize A.tmps.getD 4 undef=s4 at hc9;generalize A.tmps.getD 5 undef=s5 at hc9;generalize A.tmps.getD 6 undef=s6 at hc9;generalize A.tmps.getD 7 undef=s7 at hc9;generalize A.tmps.getD 8 undef=s8 at hc9;generalize A.tmps.getD 9 undef=s9 at hc9;generalize A.tmps.getD 10 undef=s10 at hc9;subst hc9;go_simp;go_wp2_with fail;go_ret;exact⟨rfl,K0.o.trans QQ.o⟩
 case step=>
  intro l A W i hI hm;obtain⟨hFR,o0,o1,o2,o3,o4,o5,o6,o7,o8,hK⟩:=hI;obtain⟨hi1,hi2⟩:=jg hm;have hsz:Hid (10<A.tmps.size):=aba (by rw[hFR.size];simp);have m1:A.tmps[1]? = some (.pointer (some (abb w.heap.size 0))):=(hFR.o 1 (by decide)).trans rfl;rcases i with _|_|_|_|_|_|_|_|_|i
  ·have BL:=aba (B0.o.ae hK);obtain⟨x0,x1,x2,x3,x4,x5,x6⟩:=BL.o.c7;refine wpOp_step rfl (fun KK hK2 => ?_);go_simp;exact hK2 (A.put (some 3) (.agg #[iv op,iv z,iv r,iv m,iv k,iv e,iv s])) _ ⟨hFR.put (by decide) _,.now (put_eq (by have hz:=hsz.o;omega)),o1.q,o2.q,o3.q,o4.q,o5.q,o6.q,o7.q,o8.q,hK⟩
  ·have e0:=o0 (ay hm 0 (by kernel_rfl));refine wpOp_step rfl (fun KK hK2 => ?_);go_simp;refine(firstWord W op z r m k e s).mono ?_;rw[HN.o];rintro r9 y⟨rfl,kd⟩;go_simp;exact hK2 (A.put (some 4) (iv N)) _ ⟨hFR.put (by decide) _,o0.q,.now (put_eq (by have hz:=hsz.o;omega)),o2.q,o3.q,o4.q,o5.q,o6.q,o7.q,o8.q,(hK.trans kd)⟩
  ·refine wpOp_step rfl (fun KK hK2 => ?_);go_simp;exact hK2 (A.put (some 5) (.pointer (some (abb w.heap.size 3)))) _ ⟨hFR.put (by decide) _,o0.q,o1.q,.now (put_eq (by have hz:=hsz.o;omega)),o3.q,o4.q,o5.q,o6.q,o7.q,o8.q,hK⟩
  ·have e2:=o2 (ay hm 2 (by kernel_rfl));refine wpOp_step rfl (fun KK hK2 => ?_);go_simp;exact hK2 (A.put (some 6) (.pointer (some (abb w.heap.size 5)))) _ ⟨hFR.put (by decide) _,o0.q,o1.q,o2.q,.now (put_eq (by have hz:=hsz.o;omega)),o4.q,o5.q,o6.q,o7.q,o8.q,hK⟩
  ·have e3:=o3 (ay hm 3 (by kernel_rfl));have BL:=aba (B0.o.ae hK);obtain⟨x0,x1,x2,x3,x4,x5,x6⟩:=BL.o.c7;refine wpOp_step rfl (fun KK hK2 => ?_);go_simp;exact hK2 (A.put (some 7) (iv e)) _ ⟨hFR.put (by decide) _,o0.q,o1.q,o2.q,o3.q,.now (put_eq (by have hz:=hsz.o;omega)),o5.q,o6.q,o7.q,o8.q,hK⟩
  ·have e1:=o1 (ay hm 1 (by kernel_rfl));have e4:=o4 (ay hm 4 (by kernel_rfl));refine wpOp_step rfl (fun KK hK2 => ?_);go_simp;refine(insOf W N e n0.o n1.o).mono ?_;rw[HD.o,<-HR.o];rintro r9 y⟨rfl,kd⟩;go_simp;exact hK2 (A.put (some 8) (.agg RD)) _ ⟨hFR.put (by decide) _,o0.q,o1.q,o2.q,o3.q,o4.q,.now (put_eq (by have hz:=hsz.o;omega)),o6.q,o7.q,o8.q,(hK.trans kd)⟩
  ·have BL:=aba (B0.o.ae hK);obtain⟨x0,x1,x2,x3,x4,x5,x6⟩:=BL.o.c7;refine wpOp_step rfl (fun KK hK2 => ?_);go_simp;exact hK2 (A.put (some 9) (.agg #[iv op,iv z,iv r,iv m,iv k,iv e,iv s])) _ ⟨hFR.put (by decide) _,o0.q,o1.q,o2.q,o3.q,o4.q,o5.q,.now (put_eq (by have hz:=hsz.o;omega)),o7.q,o8.q,hK⟩
  ·have e5:=o5 (ay hm 5 (by kernel_rfl));have e6:=o6 (ay hm 6 (by kernel_rfl));have hc:=HE.o;refine wpOp_step rfl (fun KK hK2 => ?_);go_simp;exact hK2 (A.put (some 10) (.bool F)) _ ⟨hFR.put (by decide) _,o0.q,o1.q,o2.q,o3.q,o4.q,o5.q,o6.q,.now (put_eq (by have hz:=hsz.o;omega)),o8.q,hK⟩
  ·have e7:=o7 (ay hm 7 (by kernel_rfl));refine wpOp_step rfl (fun KK hK2 => ?_);go_simp;exact hK2 (A.put (some 2) (.bool F)) _ ⟨hFR.put (by decide) _,o0.q,o1.q,o2.q,o3.q,o4.q,o5.q,o6.q,o7.q,.now (put_eq (by have hz:=hsz.o;omega)),hK⟩
  ·simp at hi1
   omega
theorem Dc (w:World) (op z r m k e s:Int):Calls prog 174 #[.agg #[iv op,iv z,iv r,iv m,iv k,iv e,iv s]] w fun r' w'=>r'=.returned (.bool (((s==0)&&((r==0)&&jq m e))||((s==1)&&iw m k e)))/\Kept 0 0 w w':=by
 have K0:=aba (kept_alloc w (.cells #[iv op,iv z,iv r,iv m,iv k,iv e,iv s] 48));have hq:=eqO m k e;by_cases h0:s=0
 ·subst h0;go_enter func174,ntmps174;go_wp2_with (go_at_call 222;refine(uk _ op z r m k e 0).mono ?_;rintro e9 w2⟨rfl,k2⟩);go_ret;exact⟨rB (by simp),K0.o.trans k2⟩
 ·by_cases h1:s=1
  ·subst h1;go_enter func174,ntmps174;go_wp2_with fail;go_ret;exact⟨rB (by simp),K0.o⟩
  ·go_enter func174,ntmps174;go_wp2_with fail;go_ret;exact⟨rB (by simp[h0,h1]),K0.o⟩
theorem LV (w : World) (op z r m k e s : Int) (h0 : 0 <= s) : Calls prog 173 #[.agg #[iv op, iv z, iv r, iv m, iv k, iv e, iv s]] w fun r' w' => r' = .returned (.bool (bif s == 3 then (r == 0) && jq m e else (decide (s <= 6) && iw m k e) && (decide (3 < s) || (r == 0)))) /\ Kept 0 0 w w' := by
  have K0 := aba (kept_alloc w (.cells #[iv op, iv z, iv r, iv m, iv k, iv e, iv s] 48));have hq := eqO m k e;by_cases h7 : 7 <= s
  · go_enter func173, ntmps173
    go_wp2_with fail;go_ret
    exact ⟨rB (by have a1 : (s == 3) = false := by simp; omega
                  have a2 : decide (s <= 6) = false := by simp; omega
                  rw[a1, a2]; rfl), K0.o⟩
  · have hs : s = 0 \/ s = 1 \/ s = 2 \/ s = 3 \/ s = 4 \/ s = 5 \/ s = 6 := by omega
    rcases hs with rfl | rfl | rfl | rfl | rfl | rfl | rfl
    · cases hr : (r == 0) <;> (
        go_enter func173, ntmps173;go_wp2_with fail;go_ret
        exact⟨rB (by simp), K0.o⟩)
    · cases hr : (r == 0) <;> (
        go_enter func173, ntmps173;go_wp2_with fail;go_ret
        exact⟨rB (by simp), K0.o⟩)
    · cases hr : (r == 0) <;> (
        go_enter func173, ntmps173;go_wp2_with fail;go_ret
        exact⟨rB (by simp), K0.o⟩)
    · go_enter func173, ntmps173
      go_wp2_with (go_at_call 222; refine(uk _ op z r m k e 3).mono ?_; rintro e9 w2⟨rfl, k2⟩);go_ret;exact⟨rB (by simp), K0.o.trans k2⟩
    · go_enter func173, ntmps173
      go_wp2_with fail;go_ret;exact⟨rB (by simp), K0.o⟩
    · go_enter func173, ntmps173
      go_wp2_with fail;go_ret;exact⟨rB (by simp), K0.o⟩
    · go_enter func173, ntmps173
      go_wp2_with fail;go_ret;exact⟨rB (by simp), K0.o⟩
end Go.Proofs.YtgikibaajanjiaaGreatDoor
