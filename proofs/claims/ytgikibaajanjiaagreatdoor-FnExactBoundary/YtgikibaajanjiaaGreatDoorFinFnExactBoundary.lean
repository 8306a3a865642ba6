/- Boundary answers as its model, at every argument, on the condition that the tables impl.digitSums and impl.ninesLess hold what their initialisers lay. -/
import Derived.Test.YtgikibaajanjiaaGreatDoorRows
import Derived.Test.YtgikibaajanjiaaGreatDoorTie
import Derived.Test.YtgikibaajanjiaaGreatDoorCards
import Derived.Test.YtgikibaajanjiaaGreatDoorJB25
import Derived.OpenVars
import Derived.LaidMore
import Derived.Stop.Joined
import Derived.SevenTiedAt
import Derived.WalkKit
import Derived.ProofKit
import Derived.OpenShut
import Derived.ShutString
import Derived.ChangeOld
import Derived.Below
set_option maxRecDepth 100000
set_option maxHeartbeats 16000000
namespace Go.Proofs.YtgikibaajanjiaaGreatDoor.fnExactBoundary
open Go.ChangeShapes Go.WideShapes Go.ChangeAt Go.RowKit
set_option linter.unusedVariables false
theorem own:ownKnob Tryz.prog.godebug=none:=by kernel_rfl
theorem laidOut:laidOutB Tryz.prog=true:=by kernel_rfl
theorem walk (Nw:Option Addr) (QV:Nat) (EJ:List Int) (Nv:Option Addr) (QU:Nat) (EG:List Int) (Ht:Int) (Hr:Int) (Hq:Int) (Ho:Int) (NJ:Bool) (NI:Bool) (Nu:Option Addr) (QT:Nat) (EE:List Int) (Ns:Option Addr) (F6 QS:Nat) (G9:List Int) (Dp:Bool) (Dn:Bool) (yR:Int) (Dl:Bool) (w:World) (tS:nV w) (tN:rQ w) (UD:Came w Nw EJ) (Ux:EJ.length≤maxLen) (UC:Came w Nv EG) (Uw:EG.length≤maxLen) (SX:(Lit.int .i64 Ht).wf=true) (SV:(Lit.int .i64 Hr).wf=true) (SQ:(Lit.int .i64 Hq).wf=true) (SN:(Lit.int .i64 Ho).wf=true) (UB:Came w Nu EE) (Uu:EE.length≤maxLen) (UA:Came w Ns G9) (SG:G9.length=5*F6) (Ut:F6≤maxLen) (Hm:(Lit.int .i64 yR).wf=true) :
  Calls Tryz.prog 9 #[.agg #[.slice Nw EJ.length QV,.slice Nv EG.length QU,.int .i64 Ht,.int .i64 Hr,.int .i64 Hq,.int .i64 Ho,.bool NJ,.bool NI,.slice Nu EE.length QT,.slice Ns F6 QS,.bool Dp,.bool Dn,.int .i64 yR,.bool Dl]] w fun e w'=>e=.returned (.bool true)∧Below w.heap.size w w':=by
 exact zI ⟨⟨⟨EJ,EG,Ht,Hr,Hq,Ho,NJ,NI⟩,EE,G9,F6,Dp,Dn⟩,yR,Dl⟩ Nw Nv Nu Ns QV QU QT QS w tS tN UD UC UB UA (by unfold maxLen at Ux;omega) (by unfold maxLen at Uw;omega) (by unfold maxLen at Uu;omega) (by unfold maxLen at Ut;omega) SG ⟨SX,SV,SQ,SN⟩ Hm
theorem door_met (os:Os) (args:Array Value):laidMetH Tryz.prog Rows.fnExactBoundaryRow.laid ((World.doorLaid Tryz.prog 19 os).forCall (fun _ _=>0) ⟨#[],args,[]⟩).memory:=
 laidMetH_of_parts3 (fuel:=8) (laidMet_of_run' 8 (by kernel_rfl) (by kernel_rfl)) (by kernel_rfl) (by kernel_rfl)
theorem lifted (os:Os) (started:os.Started) (H:Type) (enc:TypeId × Value→H) :
  ReturnsInHanded {} Tryz.checked os 9 .any (fun w args=>(Rows.fnExactBoundarySpec.pre enc Tryz.prog Tryz.f9 [] false w args∧laidMetH Tryz.prog Rows.fnExactBoundaryRow.laid w)∧sizedMet enc Tryz.prog Tryz.f9 (OpenSpec.ofChange Rows.fnExactBoundarySpec) false w args)
   (Rows.fnExactBoundarySpec.post enc Tryz.prog Tryz.f9 false true false false):=by
 refine returnsInHanded_of_change_and (C:=Tryz.checked) (X:=fun w _=>laidMetH Tryz.prog Rows.fnExactBoundaryRow.laid w) (fun _ _ _ hh h=>h.of_heap hh) own started (by kernel_rfl) Tryz.func9
  (ChangeSpec.witness_shaped (enc:=enc) (C:=Tryz.checked) (os:=os) (X:=fun w _=>laidMetH Tryz.prog Rows.fnExactBoundaryRow.laid w) false (World.doorLaid Tryz.prog 19 os) #[.agg #[.slice none 0 0,.slice none 0 0,.int .i64 0,.int .i64 0,.int .i64 0,.int .i64 0,.bool false,.bool false,.slice none 0 0,.slice none 0 0,.bool false,.bool false,.int .i64 0,.bool false]] 8 rfl (World.shaped_of_RefB (by kernel_rfl) (by kernel_rfl)) (by kernel_rfl) (by kernel_rfl) (by kernel_rfl) (door_met os _)) ?_
 intro W base args ds gs before hval0 hW _ _ hL _
 have hval:∀(j:Nat) t v,Tryz.f9.params[j]? = some t→args[j]? = some v→Value.okWide Tryz.prog W .any base t v:=hval0
 have hW':=hW
 obtain ⟨p,q,hA0,hV,rfl,hfz,hnd⟩:=hW
 have hA:DataW.TrodAll enc Tryz.prog W 0 (fun _=>true) true Tryz.f9.params.toList args.toList ds p:=hA0
 rw [Tryz.params9] at hA hval
 obtain ⟨u0,vs0,d0,ds0,p0,q0,hargs,rfl,rfl,h0,r0⟩:=trodAll_cons hA
 obtain ⟨rfl,rfl,rfl⟩:=trodAll_nil r0
 obtain rfl:args=#[u0]:=by cases args;simp_all
 obtain ⟨_,_,_,_,g0,_,_,_,_,_,g1,_,hgs,_⟩:=trodVars_two hV
 subst hgs
 have tabs:=NP hL
 have k0:=h0
 have lt0:∀x∈p0,x.block<W.heap.size:=by obtain ⟨m,hm⟩:=k0;exact DataW.trod_lt m _ _ _ hm
 obtain ⟨Nw,QV,EJ,Nv,QU,EG,Ht,Hr,Hq,Ho,NJ,NI,Nu,QT,EE,Ns,F6,QS,G9,Dp,Dn,yR,Dl,rfl,⟨UD,Ux⟩,⟨UC,Uw⟩,SX,SV,SQ,SN,⟨UB,Uu⟩,⟨UA,SG,Ut⟩,Hm⟩:=Ji (hval 0 78 u0 rfl rfl) h0
 clear hA0 hval0
 refine (walk Nw QV EJ Nv QU EG Ht Hr Hq Ho NJ NI Nu QT EE Ns F6 QS G9 Dp Dn yR Dl W tabs.1 tabs.2 UD Ux UC Uw SX SV SQ SN UB Uu UA SG Ut Hm).mono fun e W' ⟨he,bel⟩ => ?_
 subst he
 exact ⟨_,rfl,_,_,_,[],_,_,hW',trodAll_mk1 (shut_bool Tryz.underlying4 _),(trodAll_cons_mk (Below.trod laidOut (by kernel_rfl) (of_decide_eq_true (by kernel_rfl)) k0 bel lt0) trodAll_mk0),bel.trodVars laidOut (by kernel_rfl) hV,bel.frame _,fun h=>by cases h⟩
theorem ov1:Tryz.pinned.checked.prog.funcNamed Rows.fnExactBoundaryRow.func=some 9:=by kernel_rfl
theorem ja {a b:Bool} (h:a=true) (k:b=true):(a&&b)=true:=by rw [h,k];rfl
theorem jf0:(fun (P:Program) (f:FuncId) (fn:Func) (s:ChangeSpec) (c:OpenClaim)=>((c.wf (OpenSpec.ofChange s):Bool))) Tryz.pinned.checked.prog 9 Tryz.f9 Rows.fnExactBoundarySpec Rows.fnExactBoundaryRow=true:=by kernel_rfl
theorem jf1:(fun (P:Program) (f:FuncId) (fn:Func) (s:ChangeSpec) (c:OpenClaim)=>((laidOutB P:Bool))) Tryz.pinned.checked.prog 9 Tryz.f9 Rows.fnExactBoundarySpec Rows.fnExactBoundaryRow=true:=by kernel_rfl
theorem jf2:(fun (P:Program) (f:FuncId) (fn:Func) (s:ChangeSpec) (c:OpenClaim)=>((mapsRowed P:Bool))) Tryz.pinned.checked.prog 9 Tryz.f9 Rows.fnExactBoundarySpec Rows.fnExactBoundaryRow=true:=by kernel_rfl
theorem jf3:(fun (P:Program) (f:FuncId) (fn:Func) (s:ChangeSpec) (c:OpenClaim)=>((fn.params.all (P.readableRec ·):Bool))) Tryz.pinned.checked.prog 9 Tryz.f9 Rows.fnExactBoundarySpec Rows.fnExactBoundaryRow=true:=by kernel_rfl
theorem jf4:(fun (P:Program) (f:FuncId) (fn:Func) (s:ChangeSpec) (c:OpenClaim)=>((namedTie P c.named s.vars:Bool))) Tryz.pinned.checked.prog 9 Tryz.f9 Rows.fnExactBoundarySpec Rows.fnExactBoundaryRow=true:=by kernel_rfl
theorem jf5:(fun (P:Program) (f:FuncId) (fn:Func) (s:ChangeSpec) (c:OpenClaim)=>(((c.stops==[]):Bool))) Tryz.pinned.checked.prog 9 Tryz.f9 Rows.fnExactBoundarySpec Rows.fnExactBoundaryRow=true:=by kernel_rfl
theorem jf6:(fun (P:Program) (f:FuncId) (fn:Func) (s:ChangeSpec) (c:OpenClaim)=>(((P.stops==[]):Bool))) Tryz.pinned.checked.prog 9 Tryz.f9 Rows.fnExactBoundarySpec Rows.fnExactBoundaryRow=true:=by kernel_rfl
theorem jf7:(fun (P:Program) (f:FuncId) (fn:Func) (s:ChangeSpec) (c:OpenClaim)=>(((c.knobs==[]):Bool))) Tryz.pinned.checked.prog 9 Tryz.f9 Rows.fnExactBoundarySpec Rows.fnExactBoundaryRow=true:=by kernel_rfl
theorem jf8:(fun (P:Program) (f:FuncId) (fn:Func) (s:ChangeSpec) (c:OpenClaim)=>(((P.stopKnobs==[]):Bool))) Tryz.pinned.checked.prog 9 Tryz.f9 Rows.fnExactBoundarySpec Rows.fnExactBoundaryRow=true:=by kernel_rfl
theorem jf9:(fun (P:Program) (f:FuncId) (fn:Func) (s:ChangeSpec) (c:OpenClaim)=>(((c.inPlace==P.inPlace f):Bool))) Tryz.pinned.checked.prog 9 Tryz.f9 Rows.fnExactBoundarySpec Rows.fnExactBoundaryRow=true:=by kernel_rfl
theorem ZO:(fun (P:Program) (f:FuncId) (fn:Func) (s:ChangeSpec) (c:OpenClaim)=>(((c.unfollowed==P.unfollowed f):Bool))) Tryz.pinned.checked.prog 9 Tryz.f9 Rows.fnExactBoundarySpec Rows.fnExactBoundaryRow=true:=by kernel_rfl
theorem ZN:(fun (P:Program) (f:FuncId) (fn:Func) (s:ChangeSpec) (c:OpenClaim)=>(((c.recurses==P.recurses f):Bool))) Tryz.pinned.checked.prog 9 Tryz.f9 Rows.fnExactBoundarySpec Rows.fnExactBoundaryRow=true:=by kernel_rfl
theorem ZM:(fun (P:Program) (f:FuncId) (fn:Func) (s:ChangeSpec) (c:OpenClaim)=>(((c.named==P.varsNamed f):Bool))) Tryz.pinned.checked.prog 9 Tryz.f9 Rows.fnExactBoundarySpec Rows.fnExactBoundaryRow=true:=by kernel_rfl
theorem ZL:(fun (P:Program) (f:FuncId) (fn:Func) (s:ChangeSpec) (c:OpenClaim)=>(((c.maps==(fn.params.toList++s.plain.varTypes P).any (P.mapsRec ·)):Bool))) Tryz.pinned.checked.prog 9 Tryz.f9 Rows.fnExactBoundarySpec Rows.fnExactBoundaryRow=true:=by kernel_rfl
theorem ZK:(fun (P:Program) (f:FuncId) (fn:Func) (s:ChangeSpec) (c:OpenClaim)=>(((c.ifaces==(fn.params.toList++s.plain.varTypes P).any (P.ifacesRec ·)):Bool))) Tryz.pinned.checked.prog 9 Tryz.f9 Rows.fnExactBoundarySpec Rows.fnExactBoundaryRow=true:=by kernel_rfl
theorem ZJ:(fun (P:Program) (f:FuncId) (fn:Func) (s:ChangeSpec) (c:OpenClaim)=>(((c.mapsOut==P.mapsAmong fn.resultTypes.toList):Bool))) Tryz.pinned.checked.prog 9 Tryz.f9 Rows.fnExactBoundarySpec Rows.fnExactBoundaryRow=true:=by kernel_rfl
theorem ZI:(fun (P:Program) (f:FuncId) (fn:Func) (s:ChangeSpec) (c:OpenClaim)=>(((c.loops==(fn.params.toList++s.plain.varTypes P).any (P.loopsFrom ·)):Bool))) Tryz.pinned.checked.prog 9 Tryz.f9 Rows.fnExactBoundarySpec Rows.fnExactBoundaryRow=true:=by kernel_rfl
theorem ZH:(fun (P:Program) (f:FuncId) (fn:Func) (s:ChangeSpec) (c:OpenClaim)=>(((c.wideKeys==(fn.params.toList++s.plain.varTypes P++fn.resultTypes.toList).any (P.wideKeysFrom ·)):Bool))) Tryz.pinned.checked.prog 9 Tryz.f9 Rows.fnExactBoundarySpec Rows.fnExactBoundaryRow=true:=by kernel_rfl
theorem ZG:(fun (P:Program) (f:FuncId) (fn:Func) (s:ChangeSpec) (c:OpenClaim)=>((s.vars.all (P.varReadable ·):Bool))) Tryz.pinned.checked.prog 9 Tryz.f9 Rows.fnExactBoundarySpec Rows.fnExactBoundaryRow=true:=by kernel_rfl
theorem ZF:(fun (P:Program) (f:FuncId) (fn:Func) (s:ChangeSpec) (c:OpenClaim)=>((fn.resultTypes.all (fun t=>P.readableRec t&&decide (t<P.types.size)):Bool))) Tryz.pinned.checked.prog 9 Tryz.f9 Rows.fnExactBoundarySpec Rows.fnExactBoundaryRow=true:=by kernel_rfl
theorem ZE:(fun (P:Program) (f:FuncId) (fn:Func) (s:ChangeSpec) (c:OpenClaim)=>(((c.ifacesOut==fn.resultTypes.toList.any (P.ifacesRec ·)):Bool))) Tryz.pinned.checked.prog 9 Tryz.f9 Rows.fnExactBoundarySpec Rows.fnExactBoundaryRow=true:=by kernel_rfl
theorem ZC:(fun (P:Program) (f:FuncId) (fn:Func) (s:ChangeSpec) (c:OpenClaim)=>(((c.loopsOut==fn.resultTypes.toList.any (P.loopsFrom ·)):Bool))) Tryz.pinned.checked.prog 9 Tryz.f9 Rows.fnExactBoundarySpec Rows.fnExactBoundaryRow=true:=by kernel_rfl
theorem ZB:(fun (P:Program) (f:FuncId) (fn:Func) (s:ChangeSpec) (c:OpenClaim)=>(((c.plainKeys==P.plainKeys):Bool))) Tryz.pinned.checked.prog 9 Tryz.f9 Rows.fnExactBoundarySpec Rows.fnExactBoundaryRow=true:=by kernel_rfl
theorem ZA:(fun (P:Program) (f:FuncId) (fn:Func) (s:ChangeSpec) (c:OpenClaim)=>((c.shortTexts.isNone:Bool))) Tryz.pinned.checked.prog 9 Tryz.f9 Rows.fnExactBoundarySpec Rows.fnExactBoundaryRow=true:=by kernel_rfl
theorem Zz:(fun (P:Program) (f:FuncId) (fn:Func) (s:ChangeSpec) (c:OpenClaim)=>((P.stopsHeard:Bool))) Tryz.pinned.checked.prog 9 Tryz.f9 Rows.fnExactBoundarySpec Rows.fnExactBoundaryRow=true:=by kernel_rfl
theorem Zy:(fun (P:Program) (f:FuncId) (fn:Func) (s:ChangeSpec) (c:OpenClaim)=>((P.mayEnter:Bool))) Tryz.pinned.checked.prog 9 Tryz.f9 Rows.fnExactBoundarySpec Rows.fnExactBoundaryRow=true:=by kernel_rfl
theorem Zx:(fun (P:Program) (f:FuncId) (fn:Func) (s:ChangeSpec) (c:OpenClaim)=>(((c.lifted==P.liftsFinal):Bool))) Tryz.pinned.checked.prog 9 Tryz.f9 Rows.fnExactBoundarySpec Rows.fnExactBoundaryRow=true:=by kernel_rfl
theorem Zw:(fun (P:Program) (f:FuncId) (fn:Func) (s:ChangeSpec) (c:OpenClaim)=>(((P.make==some c.make):Bool))) Tryz.pinned.checked.prog 9 Tryz.f9 Rows.fnExactBoundarySpec Rows.fnExactBoundaryRow=true:=by kernel_rfl
theorem Zv:(fun (P:Program) (f:FuncId) (fn:Func) (s:ChangeSpec) (c:OpenClaim)=>(((c.kinds==(if c.domain.isEmpty then [] else fn.params.toList.map fun t=>match P.underlying t with|some (.int k)=>some k|_=>none)):Bool))) Tryz.pinned.checked.prog 9 Tryz.f9 Rows.fnExactBoundarySpec Rows.fnExactBoundaryRow=true:=by kernel_rfl
theorem Zu:(fun (P:Program) (f:FuncId) (fn:Func) (s:ChangeSpec) (c:OpenClaim)=>(((c.pinned==c.pinnedBy):Bool))) Tryz.pinned.checked.prog 9 Tryz.f9 Rows.fnExactBoundarySpec Rows.fnExactBoundaryRow=true:=by kernel_rfl
theorem Zt:(fun (P:Program) (f:FuncId) (fn:Func) (s:ChangeSpec) (c:OpenClaim)=>(((c.veiled==(fn.params.toList++s.plain.varTypes P++fn.resultTypes.toList).any (P.veiledRec ·)):Bool))) Tryz.pinned.checked.prog 9 Tryz.f9 Rows.fnExactBoundarySpec Rows.fnExactBoundaryRow=true:=by kernel_rfl
theorem Zr:(fun (P:Program) (f:FuncId) (fn:Func) (s:ChangeSpec) (c:OpenClaim)=>((c.veiledFits P fn.params.toList (fn.params.toList++s.plain.varTypes P++fn.resultTypes.toList):Bool))) Tryz.pinned.checked.prog 9 Tryz.f9 Rows.fnExactBoundarySpec Rows.fnExactBoundaryRow=true:=by kernel_rfl
theorem ov2:joinedFacts Tryz.pinned.checked.prog 9 Tryz.f9 Rows.fnExactBoundarySpec Rows.fnExactBoundaryRow=true:=by unfold joinedFacts;exact (ja (ja (ja (ja (ja (ja (ja (ja (ja (ja (ja (ja (ja (ja (ja (ja (ja (ja (ja (ja (ja (ja (ja (ja (ja (ja (ja (ja (ja (ja (ja jf0 jf1) jf2) jf3) jf4) jf5) jf6) jf7) jf8) jf9) ZO) ZN) ZM) ZL) ZK) ZJ) ZI) ZH) ZG) ZF) ZE) ZC) ZB) ZA) Zz) Zy) Zx) Zw) Zv) Zu) Zt) Zr)
theorem ov3:Tryz.f9.isInstance Tryz.pinned.checked.prog Rows.fnExactBoundaryRow.origin Rows.fnExactBoundaryRow.targs:=of_decide_eq_true (by kernel_rfl)
theorem ov4:Tryz.f9.isWrapper Tryz.pinned.checked.prog Rows.fnExactBoundaryRow.wrapper Rows.fnExactBoundaryRow.mainSum:=(by unfold Func.isWrapper;first|(rw [if_pos (by decide +kernel)];kernel_rfl)|(rw [if_neg (by decide +kernel)];exact ⟨rfl,rfl⟩))
theorem over:Rows.fnExactBoundaryRow.holds Tryz.pinned (OpenSpec.ofChange Rows.fnExactBoundarySpec):=
 OpenClaim.holds_of_wide 9 Tryz.f9 rfl rfl rfl rfl rfl rfl rfl ⟨rfl,rfl,rfl,rfl,rfl⟩ rfl rfl rfl rfl rfl ov1 Tryz.func9 ov2
  ov3 ov4
  (fun os started H enc _=>lifted os started H enc)
theorem pr1:Rows.fnExactBoundaryRow.wfByText (OpenSpec.ofChange Rows.fnExactBoundarySpec)=true:=by kernel_rfl
theorem pr2:Tryz.pinned.checked.prog.mainIs=some (true,("94a10f11d31a9bc13cb7071dd8103d5c5b516ff51488b53718a89f376e377342" : String).toList):=by kernel_rfl
theorem pr3:Tryz.prog.funcNamed "loop.example/g00389/laws.FnExactBoundary" = some 9:=by kernel_rfl
theorem pr4:true=Tryz.pinned.checked.prog.looks []:=by kernel_rfl
theorem pr5:([78].all fun u => !Tryz.prog.wantsStandIn u)=true:=by kernel_rfl
theorem pr6:false=Rows.fnExactBoundaryRow.goesBy Tryz.pinned.checked.prog:=by kernel_rfl
theorem proved:Rows.FnExactBoundaryCardSaid:=
 Claim7.holds_tied_plain_at .later [] [.data,.data] true (true,"94a10f11d31a9bc13cb7071dd8103d5c5b516ff51488b53718a89f376e377342") true
  over (fun _ h=>by cases h) pr1 (fun _ h=>by cases h) fnExactBoundary_row_tie rfl ⟨rfl,rfl⟩ pr2 rfl
  (fun f fn hf hfn=>by
   obtain rfl:f=9:=Option.some.inj (pr3.symm.trans hf) |>.symm
   obtain rfl:fn=Tryz.f9:=(Option.some.inj (Tryz.func9.symm.trans hfn)).symm
   exact ⟨pr4,fun j t ht=>by
    rw [Tryz.params9] at ht
    have hm:t∈[78]:=by simpa using Array.mem_of_getElem? ht
    have hall:=pr5
    exact (show Tryz.prog.wantsStandIn t=false by simpa using List.all_eq_true.1 hall t hm)⟩)
  pr6
end Go.Proofs.YtgikibaajanjiaaGreatDoor.fnExactBoundary
namespace Go.Proofs.YtgikibaajanjiaaGreatDoor
theorem FnExactBoundary_holds:Rows.FnExactBoundaryCardSaid:=fnExactBoundary.proved
end Go.Proofs.YtgikibaajanjiaaGreatDoor
