/- StepWhole answers as its model, at every argument, on the condition that the tables impl.digitSums and impl.ninesLess hold what their initialisers lay. -/
import Derived.Test.YtgikibaajanjiaaGreatDoorRows
import Derived.Test.YtgikibaajanjiaaGreatDoorTie
import Derived.Test.YtgikibaajanjiaaGreatDoorCards
import Derived.Test.YtgikibaajanjiaaGreatDoorJA22
import Derived.OpenVars
import Derived.LaidMore
import Derived.Stop.Joined
import Derived.SevenTiedAt
import Derived.WalkKit
import Derived.ProofKit
import Derived.OpenShut
import Derived.ShutString
import Derived.ChangeOld
import Derived.Below
set_option maxRecDepth 100000
set_option maxHeartbeats 16000000
namespace Go.Proofs.YtgikibaajanjiaaGreatDoor.fnExactStepWhole
open Go.ChangeShapes Go.WideShapes Go.ChangeAt Go.RowKit
set_option linter.unusedVariables false
theorem own:ownKnob Tryz.prog.godebug=none:=by kernel_rfl
theorem laidOut:laidOutB Tryz.prog=true:=by kernel_rfl
theorem walk (LW:Option Addr) (P9:Nat) (DY:List Int) (LV:Option Addr) (P8:Nat) (DX:List Int) (Gv:Int) (Gu:Int) (Gt:Int) (Gs:Int) (MK:Bool) (MJ:Bool) (LU:Option Addr) (P7:Nat) (DW:List Int) (LQ:Option Addr) (Fa PZ:Nat) (Gj:List Int) (Cc:Bool) (Cb:Bool) (w:World) (tS:nD w) (tN:qZ w) (Tz:Came w LW DY) (Tn:DY.length≤maxLen) (Tv:Came w LV DX) (Tm:DX.length≤maxLen) (Q8:(Lit.int .i64 Gv).wf=true) (Q7:(Lit.int .i64 Gu).wf=true) (Q5:(Lit.int .i64 Gt).wf=true) (QZ:(Lit.int .i64 Gs).wf=true) (Tu:Came w LU DW) (Tj:DW.length≤maxLen) (Tt:Came w LQ Gj) (QV:Gj.length=5*Fa) (Ti:Fa≤maxLen) :
  Calls Tryz.prog 7 #[.agg #[.slice LW DY.length P9,.slice LV DX.length P8,.int .i64 Gv,.int .i64 Gu,.int .i64 Gt,.int .i64 Gs,.bool MK,.bool MJ,.slice LU DW.length P7,.slice LQ Fa PZ,.bool Cc,.bool Cb]] w fun e w'=>e=.returned (.bool true)∧Below w.heap.size w w':=by
 exact xx ⟨⟨DY,DX,Gv,Gu,Gt,Gs,MK,MJ⟩,DW,Gj,Fa,Cc,Cb⟩ LW LV LU LQ P9 P8 P7 PZ w tS tN Tz Tv Tu Tt (by unfold maxLen at Tn;omega) (by unfold maxLen at Tm;omega) (by unfold maxLen at Tj;omega) (by unfold maxLen at Ti;omega) QV ⟨Q8,Q7,Q5,QZ⟩
theorem door_met (os:Os) (args:Array Value):laidMetH Tryz.prog Rows.fnExactStepWholeRow.laid ((World.doorLaid Tryz.prog 19 os).forCall (fun _ _=>0) ⟨#[],args,[]⟩).memory:=
 laidMetH_of_parts3 (fuel:=8) (laidMet_of_run' 8 (by kernel_rfl) (by kernel_rfl)) (by kernel_rfl) (by kernel_rfl)
theorem lifted (os:Os) (started:os.Started) (H:Type) (enc:TypeId × Value→H) :
  ReturnsInHanded {} Tryz.checked os 7 .any (fun w args=>(Rows.fnExactStepWholeSpec.pre enc Tryz.prog Tryz.f7 [] false w args∧laidMetH Tryz.prog Rows.fnExactStepWholeRow.laid w)∧sizedMet enc Tryz.prog Tryz.f7 (OpenSpec.ofChange Rows.fnExactStepWholeSpec) false w args)
   (Rows.fnExactStepWholeSpec.post enc Tryz.prog Tryz.f7 false true false false):=by
 refine returnsInHanded_of_change_and (C:=Tryz.checked) (X:=fun w _=>laidMetH Tryz.prog Rows.fnExactStepWholeRow.laid w) (fun _ _ _ hh h=>h.of_heap hh) own started (by kernel_rfl) Tryz.func7
  (ChangeSpec.witness_shaped (enc:=enc) (C:=Tryz.checked) (os:=os) (X:=fun w _=>laidMetH Tryz.prog Rows.fnExactStepWholeRow.laid w) false (World.doorLaid Tryz.prog 19 os) #[.agg #[.slice none 0 0,.slice none 0 0,.int .i64 0,.int .i64 0,.int .i64 0,.int .i64 0,.bool false,.bool false,.slice none 0 0,.slice none 0 0,.bool false,.bool false]] 8 rfl (World.shaped_of_RefB (by kernel_rfl) (by kernel_rfl)) (by kernel_rfl) (by kernel_rfl) (by kernel_rfl) (door_met os _)) ?_
 intro W base args ds gs before hval0 hW _ _ hL _
 have hval:∀(j:Nat) t v,Tryz.f7.params[j]? = some t→args[j]? = some v→Value.okWide Tryz.prog W .any base t v:=hval0
 have hW':=hW
 obtain ⟨p,q,hA0,hV,rfl,hfz,hnd⟩:=hW
 have hA:DataW.TrodAll enc Tryz.prog W 0 (fun _=>true) true Tryz.f7.params.toList args.toList ds p:=hA0
 rw [Tryz.params7] at hA hval
 obtain ⟨u0,vs0,d0,ds0,p0,q0,hargs,rfl,rfl,h0,r0⟩:=trodAll_cons hA
 obtain ⟨rfl,rfl,rfl⟩:=trodAll_nil r0
 obtain rfl:args=#[u0]:=by cases args;simp_all
 obtain ⟨_,_,_,_,g0,_,_,_,_,_,g1,_,hgs,_⟩:=trodVars_two hV
 subst hgs
 have tabs:=MQ hL
 have k0:=h0
 have lt0:∀x∈p0,x.block<W.heap.size:=by obtain ⟨m,hm⟩:=k0;exact DataW.trod_lt m _ _ _ hm
 obtain ⟨LW,P9,DY,LV,P8,DX,Gv,Gu,Gt,Gs,MK,MJ,LU,P7,DW,LQ,Fa,PZ,Gj,Cc,Cb,rfl,⟨Tz,Tn⟩,⟨Tv,Tm⟩,Q8,Q7,Q5,QZ,⟨Tu,Tj⟩,⟨Tt,QV,Ti⟩⟩:=IA (hval 0 29 u0 rfl rfl) h0
 clear hA0 hval0
 refine (walk LW P9 DY LV P8 DX Gv Gu Gt Gs MK MJ LU P7 DW LQ Fa PZ Gj Cc Cb W tabs.1 tabs.2 Tz Tn Tv Tm Q8 Q7 Q5 QZ Tu Tj Tt QV Ti).mono fun e W' ⟨he,bel⟩ => ?_
 subst he
 exact ⟨_,rfl,_,_,_,[],_,_,hW',trodAll_mk1 (shut_bool Tryz.underlying4 _),(trodAll_cons_mk (Below.trod laidOut (by kernel_rfl) (of_decide_eq_true (by kernel_rfl)) k0 bel lt0) trodAll_mk0),bel.trodVars laidOut (by kernel_rfl) hV,bel.frame _,fun h=>by cases h⟩
theorem ov1:Tryz.pinned.checked.prog.funcNamed Rows.fnExactStepWholeRow.func=some 7:=by kernel_rfl
theorem iR {a b:Bool} (h:a=true) (k:b=true):(a&&b)=true:=by rw [h,k];rfl
theorem jf0:(fun (P:Program) (f:FuncId) (fn:Func) (s:ChangeSpec) (c:OpenClaim)=>((c.wf (OpenSpec.ofChange s):Bool))) Tryz.pinned.checked.prog 7 Tryz.f7 Rows.fnExactStepWholeSpec Rows.fnExactStepWholeRow=true:=by kernel_rfl
theorem jf1:(fun (P:Program) (f:FuncId) (fn:Func) (s:ChangeSpec) (c:OpenClaim)=>((laidOutB P:Bool))) Tryz.pinned.checked.prog 7 Tryz.f7 Rows.fnExactStepWholeSpec Rows.fnExactStepWholeRow=true:=by kernel_rfl
theorem jf2:(fun (P:Program) (f:FuncId) (fn:Func) (s:ChangeSpec) (c:OpenClaim)=>((mapsRowed P:Bool))) Tryz.pinned.checked.prog 7 Tryz.f7 Rows.fnExactStepWholeSpec Rows.fnExactStepWholeRow=true:=by kernel_rfl
theorem jf3:(fun (P:Program) (f:FuncId) (fn:Func) (s:ChangeSpec) (c:OpenClaim)=>((fn.params.all (P.readableRec ·):Bool))) Tryz.pinned.checked.prog 7 Tryz.f7 Rows.fnExactStepWholeSpec Rows.fnExactStepWholeRow=true:=by kernel_rfl
theorem jf4:(fun (P:Program) (f:FuncId) (fn:Func) (s:ChangeSpec) (c:OpenClaim)=>((namedTie P c.named s.vars:Bool))) Tryz.pinned.checked.prog 7 Tryz.f7 Rows.fnExactStepWholeSpec Rows.fnExactStepWholeRow=true:=by kernel_rfl
theorem jf5:(fun (P:Program) (f:FuncId) (fn:Func) (s:ChangeSpec) (c:OpenClaim)=>(((c.stops==[]):Bool))) Tryz.pinned.checked.prog 7 Tryz.f7 Rows.fnExactStepWholeSpec Rows.fnExactStepWholeRow=true:=by kernel_rfl
theorem jf6:(fun (P:Program) (f:FuncId) (fn:Func) (s:ChangeSpec) (c:OpenClaim)=>(((P.stops==[]):Bool))) Tryz.pinned.checked.prog 7 Tryz.f7 Rows.fnExactStepWholeSpec Rows.fnExactStepWholeRow=true:=by kernel_rfl
theorem jf7:(fun (P:Program) (f:FuncId) (fn:Func) (s:ChangeSpec) (c:OpenClaim)=>(((c.knobs==[]):Bool))) Tryz.pinned.checked.prog 7 Tryz.f7 Rows.fnExactStepWholeSpec Rows.fnExactStepWholeRow=true:=by kernel_rfl
theorem jf8:(fun (P:Program) (f:FuncId) (fn:Func) (s:ChangeSpec) (c:OpenClaim)=>(((P.stopKnobs==[]):Bool))) Tryz.pinned.checked.prog 7 Tryz.f7 Rows.fnExactStepWholeSpec Rows.fnExactStepWholeRow=true:=by kernel_rfl
theorem jf9:(fun (P:Program) (f:FuncId) (fn:Func) (s:ChangeSpec) (c:OpenClaim)=>(((c.inPlace==P.inPlace f):Bool))) Tryz.pinned.checked.prog 7 Tryz.f7 Rows.fnExactStepWholeSpec Rows.fnExactStepWholeRow=true:=by kernel_rfl
theorem YN:(fun (P:Program) (f:FuncId) (fn:Func) (s:ChangeSpec) (c:OpenClaim)=>(((c.unfollowed==P.unfollowed f):Bool))) Tryz.pinned.checked.prog 7 Tryz.f7 Rows.fnExactStepWholeSpec Rows.fnExactStepWholeRow=true:=by kernel_rfl
theorem YM:(fun (P:Program) (f:FuncId) (fn:Func) (s:ChangeSpec) (c:OpenClaim)=>(((c.recurses==P.recurses f):Bool))) Tryz.pinned.checked.prog 7 Tryz.f7 Rows.fnExactStepWholeSpec Rows.fnExactStepWholeRow=true:=by kernel_rfl
theorem YL:(fun (P:Program) (f:FuncId) (fn:Func) (s:ChangeSpec) (c:OpenClaim)=>(((c.named==P.varsNamed f):Bool))) Tryz.pinned.checked.prog 7 Tryz.f7 Rows.fnExactStepWholeSpec Rows.fnExactStepWholeRow=true:=by kernel_rfl
theorem YK:(fun (P:Program) (f:FuncId) (fn:Func) (s:ChangeSpec) (c:OpenClaim)=>(((c.maps==(fn.params.toList++s.plain.varTypes P).any (P.mapsRec ·)):Bool))) Tryz.pinned.checked.prog 7 Tryz.f7 Rows.fnExactStepWholeSpec Rows.fnExactStepWholeRow=true:=by kernel_rfl
theorem YJ:(fun (P:Program) (f:FuncId) (fn:Func) (s:ChangeSpec) (c:OpenClaim)=>(((c.ifaces==(fn.params.toList++s.plain.varTypes P).any (P.ifacesRec ·)):Bool))) Tryz.pinned.checked.prog 7 Tryz.f7 Rows.fnExactStepWholeSpec Rows.fnExactStepWholeRow=true:=by kernel_rfl
theorem YI:(fun (P:Program) (f:FuncId) (fn:Func) (s:ChangeSpec) (c:OpenClaim)=>(((c.mapsOut==P.mapsAmong fn.resultTypes.toList):Bool))) Tryz.pinned.checked.prog 7 Tryz.f7 Rows.fnExactStepWholeSpec Rows.fnExactStepWholeRow=true:=by kernel_rfl
theorem YH:(fun (P:Program) (f:FuncId) (fn:Func) (s:ChangeSpec) (c:OpenClaim)=>(((c.loops==(fn.params.toList++s.plain.varTypes P).any (P.loopsFrom ·)):Bool))) Tryz.pinned.checked.prog 7 Tryz.f7 Rows.fnExactStepWholeSpec Rows.fnExactStepWholeRow=true:=by kernel_rfl
theorem YG:(fun (P:Program) (f:FuncId) (fn:Func) (s:ChangeSpec) (c:OpenClaim)=>(((c.wideKeys==(fn.params.toList++s.plain.varTypes P++fn.resultTypes.toList).any (P.wideKeysFrom ·)):Bool))) Tryz.pinned.checked.prog 7 Tryz.f7 Rows.fnExactStepWholeSpec Rows.fnExactStepWholeRow=true:=by kernel_rfl
theorem YF:(fun (P:Program) (f:FuncId) (fn:Func) (s:ChangeSpec) (c:OpenClaim)=>((s.vars.all (P.varReadable ·):Bool))) Tryz.pinned.checked.prog 7 Tryz.f7 Rows.fnExactStepWholeSpec Rows.fnExactStepWholeRow=true:=by kernel_rfl
theorem YE:(fun (P:Program) (f:FuncId) (fn:Func) (s:ChangeSpec) (c:OpenClaim)=>((fn.resultTypes.all (fun t=>P.readableRec t&&decide (t<P.types.size)):Bool))) Tryz.pinned.checked.prog 7 Tryz.f7 Rows.fnExactStepWholeSpec Rows.fnExactStepWholeRow=true:=by kernel_rfl
theorem YD:(fun (P:Program) (f:FuncId) (fn:Func) (s:ChangeSpec) (c:OpenClaim)=>(((c.ifacesOut==fn.resultTypes.toList.any (P.ifacesRec ·)):Bool))) Tryz.pinned.checked.prog 7 Tryz.f7 Rows.fnExactStepWholeSpec Rows.fnExactStepWholeRow=true:=by kernel_rfl
theorem YC:(fun (P:Program) (f:FuncId) (fn:Func) (s:ChangeSpec) (c:OpenClaim)=>(((c.loopsOut==fn.resultTypes.toList.any (P.loopsFrom ·)):Bool))) Tryz.pinned.checked.prog 7 Tryz.f7 Rows.fnExactStepWholeSpec Rows.fnExactStepWholeRow=true:=by kernel_rfl
theorem YB:(fun (P:Program) (f:FuncId) (fn:Func) (s:ChangeSpec) (c:OpenClaim)=>(((c.plainKeys==P.plainKeys):Bool))) Tryz.pinned.checked.prog 7 Tryz.f7 Rows.fnExactStepWholeSpec Rows.fnExactStepWholeRow=true:=by kernel_rfl
theorem YA:(fun (P:Program) (f:FuncId) (fn:Func) (s:ChangeSpec) (c:OpenClaim)=>((c.shortTexts.isNone:Bool))) Tryz.pinned.checked.prog 7 Tryz.f7 Rows.fnExactStepWholeSpec Rows.fnExactStepWholeRow=true:=by kernel_rfl
theorem Yz:(fun (P:Program) (f:FuncId) (fn:Func) (s:ChangeSpec) (c:OpenClaim)=>((P.stopsHeard:Bool))) Tryz.pinned.checked.prog 7 Tryz.f7 Rows.fnExactStepWholeSpec Rows.fnExactStepWholeRow=true:=by kernel_rfl
theorem Yy:(fun (P:Program) (f:FuncId) (fn:Func) (s:ChangeSpec) (c:OpenClaim)=>((P.mayEnter:Bool))) Tryz.pinned.checked.prog 7 Tryz.f7 Rows.fnExactStepWholeSpec Rows.fnExactStepWholeRow=true:=by kernel_rfl
theorem Yx:(fun (P:Program) (f:FuncId) (fn:Func) (s:ChangeSpec) (c:OpenClaim)=>(((c.lifted==P.liftsFinal):Bool))) Tryz.pinned.checked.prog 7 Tryz.f7 Rows.fnExactStepWholeSpec Rows.fnExactStepWholeRow=true:=by kernel_rfl
theorem Yw:(fun (P:Program) (f:FuncId) (fn:Func) (s:ChangeSpec) (c:OpenClaim)=>(((P.make==some c.make):Bool))) Tryz.pinned.checked.prog 7 Tryz.f7 Rows.fnExactStepWholeSpec Rows.fnExactStepWholeRow=true:=by kernel_rfl
theorem Yv:(fun (P:Program) (f:FuncId) (fn:Func) (s:ChangeSpec) (c:OpenClaim)=>(((c.kinds==(if c.domain.isEmpty then [] else fn.params.toList.map fun t=>match P.underlying t with|some (.int k)=>some k|_=>none)):Bool))) Tryz.pinned.checked.prog 7 Tryz.f7 Rows.fnExactStepWholeSpec Rows.fnExactStepWholeRow=true:=by kernel_rfl
theorem Yu:(fun (P:Program) (f:FuncId) (fn:Func) (s:ChangeSpec) (c:OpenClaim)=>(((c.pinned==c.pinnedBy):Bool))) Tryz.pinned.checked.prog 7 Tryz.f7 Rows.fnExactStepWholeSpec Rows.fnExactStepWholeRow=true:=by kernel_rfl
theorem Yt:(fun (P:Program) (f:FuncId) (fn:Func) (s:ChangeSpec) (c:OpenClaim)=>(((c.veiled==(fn.params.toList++s.plain.varTypes P++fn.resultTypes.toList).any (P.veiledRec ·)):Bool))) Tryz.pinned.checked.prog 7 Tryz.f7 Rows.fnExactStepWholeSpec Rows.fnExactStepWholeRow=true:=by kernel_rfl
theorem Yr:(fun (P:Program) (f:FuncId) (fn:Func) (s:ChangeSpec) (c:OpenClaim)=>((c.veiledFits P fn.params.toList (fn.params.toList++s.plain.varTypes P++fn.resultTypes.toList):Bool))) Tryz.pinned.checked.prog 7 Tryz.f7 Rows.fnExactStepWholeSpec Rows.fnExactStepWholeRow=true:=by kernel_rfl
theorem ov2:joinedFacts Tryz.pinned.checked.prog 7 Tryz.f7 Rows.fnExactStepWholeSpec Rows.fnExactStepWholeRow=true:=by unfold joinedFacts;exact (iR (iR (iR (iR (iR (iR (iR (iR (iR (iR (iR (iR (iR (iR (iR (iR (iR (iR (iR (iR (iR (iR (iR (iR (iR (iR (iR (iR (iR (iR (iR jf0 jf1) jf2) jf3) jf4) jf5) jf6) jf7) jf8) jf9) YN) YM) YL) YK) YJ) YI) YH) YG) YF) YE) YD) YC) YB) YA) Yz) Yy) Yx) Yw) Yv) Yu) Yt) Yr)
theorem ov3:Tryz.f7.isInstance Tryz.pinned.checked.prog Rows.fnExactStepWholeRow.origin Rows.fnExactStepWholeRow.targs:=of_decide_eq_true (by kernel_rfl)
theorem ov4:Tryz.f7.isWrapper Tryz.pinned.checked.prog Rows.fnExactStepWholeRow.wrapper Rows.fnExactStepWholeRow.mainSum:=(by unfold Func.isWrapper;first|(rw [if_pos (by decide +kernel)];kernel_rfl)|(rw [if_neg (by decide +kernel)];exact ⟨rfl,rfl⟩))
theorem over:Rows.fnExactStepWholeRow.holds Tryz.pinned (OpenSpec.ofChange Rows.fnExactStepWholeSpec):=
 OpenClaim.holds_of_wide 7 Tryz.f7 rfl rfl rfl rfl rfl rfl rfl ⟨rfl,rfl,rfl,rfl,rfl⟩ rfl rfl rfl rfl rfl ov1 Tryz.func7 ov2
  ov3 ov4
  (fun os started H enc _=>lifted os started H enc)
theorem pr1:Rows.fnExactStepWholeRow.wfByText (OpenSpec.ofChange Rows.fnExactStepWholeSpec)=true:=by kernel_rfl
theorem pr2:Tryz.pinned.checked.prog.mainIs=some (true,("94a10f11d31a9bc13cb7071dd8103d5c5b516ff51488b53718a89f376e377342" : String).toList):=by kernel_rfl
theorem pr3:Tryz.prog.funcNamed "loop.example/g00389/laws.FnExactStepWhole" = some 7:=by kernel_rfl
theorem pr4:true=Tryz.pinned.checked.prog.looks []:=by kernel_rfl
theorem pr5:([29].all fun u => !Tryz.prog.wantsStandIn u)=true:=by kernel_rfl
theorem pr6:false=Rows.fnExactStepWholeRow.goesBy Tryz.pinned.checked.prog:=by kernel_rfl
theorem proved:Rows.FnExactStepWholeCardSaid:=
 Claim7.holds_tied_plain_at .later [] [.data,.data] true (true,"94a10f11d31a9bc13cb7071dd8103d5c5b516ff51488b53718a89f376e377342") true
  over (fun _ h=>by cases h) pr1 (fun _ h=>by cases h) fnExactStepWhole_row_tie rfl ⟨rfl,rfl⟩ pr2 rfl
  (fun f fn hf hfn=>by
   obtain rfl:f=7:=Option.some.inj (pr3.symm.trans hf) |>.symm
   obtain rfl:fn=Tryz.f7:=(Option.some.inj (Tryz.func7.symm.trans hfn)).symm
   exact ⟨pr4,fun j t ht=>by
    rw [Tryz.params7] at ht
    have hm:t∈[29]:=by simpa using Array.mem_of_getElem? ht
    have hall:=pr5
    exact (show Tryz.prog.wantsStandIn t=false by simpa using List.all_eq_true.1 hall t hm)⟩)
  pr6
end Go.Proofs.YtgikibaajanjiaaGreatDoor.fnExactStepWhole
namespace Go.Proofs.YtgikibaajanjiaaGreatDoor
theorem FnExactStepWhole_holds:Rows.FnExactStepWholeCardSaid:=fnExactStepWhole.proved
end Go.Proofs.YtgikibaajanjiaaGreatDoor
