/- StepCpu answers as its model, at every argument, on the condition that the tables impl.digitSums and impl.ninesLess hold what their initialisers lay. -/
import Derived.Test.YtkkmnnhaailkcaaGreatDoorRows
import Derived.Test.YtkkmnnhaailkcaaGreatDoorTie
import Derived.Test.YtkkmnnhaailkcaaGreatDoorCards
import Derived.Test.YtkkmnnhaailkcaaGreatDoorJA35
import Derived.OpenVars
import Derived.LaidMore
import Derived.Stop.Joined
import Derived.SevenTiedAt
import Derived.WalkKit
import Derived.ProofKit
import Derived.OpenShut
import Derived.ShutString
import Derived.ChangeOld
import Derived.Below
set_option maxRecDepth 100000
set_option maxHeartbeats 16000000
namespace Go.Proofs.YtkkmnnhaailkcaaGreatDoor.fnExactStepCpu
open Go.ChangeShapes Go.WideShapes Go.ChangeAt Go.RowKit
set_option linter.unusedVariables false
theorem own:ownKnob Tryz.prog.godebug=none:=by kernel_rfl
theorem laidOut:laidOutB Tryz.prog=true:=by kernel_rfl
theorem walk (MG:Option Addr) (PW:Nat) (Eh:List Int) (MC:Option Addr) (PV:Nat) (Eg:List Int) (GU:Int) (GN:Int) (GL:Int) (GK:Int) (MS:Bool) (MR:Bool) (Me:Option Addr) (PU:Nat) (Ef:List Int) (Md:Option Addr) (FI PT:Nat) (Gw:List Int) (CS:Bool) (CQ:Bool) (w:World) (tS:oI w) (tN:rV w) (SX:Came w MG Eh) (SK:Eh.length≤maxLen) (SV:Came w MC Eg) (SI:Eg.length≤maxLen) (QW:(Lit.int .i64 GU).wf=true) (QV:(Lit.int .i64 GN).wf=true) (QU:(Lit.int .i64 GL).wf=true) (QT:(Lit.int .i64 GK).wf=true) (SS:Came w Me Ef) (SH:Ef.length≤maxLen) (SQ:Came w Md Gw) (QO:Gw.length=5*FI) (SG:FI≤maxLen) :
  Calls Tryz.prog 5 #[.agg #[.slice MG Eh.length PW,.slice MC Eg.length PV,.int .i64 GU,.int .i64 GN,.int .i64 GL,.int .i64 GK,.bool MS,.bool MR,.slice Me Ef.length PU,.slice Md FI PT,.bool CS,.bool CQ]] w fun e w'=>e=.returned (.bool true)∧Below w.heap.size w w':=by
 exact BD ⟨⟨Eh,Eg,GU,GN,GL,GK,MS,MR⟩,Ef,Gw,FI,CS,CQ⟩ MG MC Me Md PW PV PU PT w tS tN SX SV SS SQ (by unfold maxLen at SK;omega) (by unfold maxLen at SI;omega) (by unfold maxLen at SH;omega) (by unfold maxLen at SG;omega) QO ⟨QW,QV,QU,QT⟩
theorem door_met (os:Os) (args:Array Value):laidMetH Tryz.prog Rows.fnExactStepCpuRow.laid ((World.doorLaid Tryz.prog 19 os).forCall (fun _ _=>0) ⟨#[],args,[]⟩).memory:=
 laidMetH_of_parts3 (fuel:=8) (laidMet_of_run' 8 (by kernel_rfl) (by kernel_rfl)) (by kernel_rfl) (by kernel_rfl)
theorem lifted (os:Os) (started:os.Started) (H:Type) (enc:TypeId × Value→H) :
  ReturnsInHanded {} Tryz.checked os 5 .any (fun w args=>(Rows.fnExactStepCpuSpec.pre enc Tryz.prog Tryz.f5 [] false w args∧laidMetH Tryz.prog Rows.fnExactStepCpuRow.laid w)∧sizedMet enc Tryz.prog Tryz.f5 (OpenSpec.ofChange Rows.fnExactStepCpuSpec) false w args)
   (Rows.fnExactStepCpuSpec.post enc Tryz.prog Tryz.f5 false true false false):=by
 refine returnsInHanded_of_change_and (C:=Tryz.checked) (X:=fun w _=>laidMetH Tryz.prog Rows.fnExactStepCpuRow.laid w) (fun _ _ _ hh h=>h.of_heap hh) own started (by kernel_rfl) Tryz.func5
  (ChangeSpec.witness_shaped (enc:=enc) (C:=Tryz.checked) (os:=os) (X:=fun w _=>laidMetH Tryz.prog Rows.fnExactStepCpuRow.laid w) false (World.doorLaid Tryz.prog 19 os) #[.agg #[.slice none 0 0,.slice none 0 0,.int .i64 0,.int .i64 0,.int .i64 0,.int .i64 0,.bool false,.bool false,.slice none 0 0,.slice none 0 0,.bool false,.bool false]] 8 rfl (World.shaped_of_RefB (by kernel_rfl) (by kernel_rfl)) (by kernel_rfl) (by kernel_rfl) (by kernel_rfl) (door_met os _)) ?_
 intro W base args ds gs before hval0 hW _ _ hL _
 have hval:∀(j:Nat) t v,Tryz.f5.params[j]? = some t→args[j]? = some v→Value.okWide Tryz.prog W .any base t v:=hval0
 have hW':=hW
 obtain ⟨p,q,hA0,hV,rfl,hfz,hnd⟩:=hW
 have hA:DataW.TrodAll enc Tryz.prog W 0 (fun _=>true) true Tryz.f5.params.toList args.toList ds p:=hA0
 rw [Tryz.params5] at hA hval
 obtain ⟨u0,vs0,d0,ds0,p0,q0,hargs,rfl,rfl,h0,r0⟩:=trodAll_cons hA
 obtain ⟨rfl,rfl,rfl⟩:=trodAll_nil r0
 obtain rfl:args=#[u0]:=by cases args;simp_all
 obtain ⟨_,_,_,_,g0,_,_,_,_,_,g1,_,hgs,_⟩:=trodVars_two hV
 subst hgs
 have tabs:=Na hL
 have k0:=h0
 have lt0:∀x∈p0,x.block<W.heap.size:=by obtain ⟨m,hm⟩:=k0;exact DataW.trod_lt m _ _ _ hm
 obtain ⟨MG,PW,Eh,MC,PV,Eg,GU,GN,GL,GK,MS,MR,Me,PU,Ef,Md,FI,PT,Gw,CS,CQ,rfl,⟨SX,SK⟩,⟨SV,SI⟩,QW,QV,QU,QT,⟨SS,SH⟩,⟨SQ,QO,SG⟩⟩:=Iy (hval 0 29 u0 rfl rfl) h0
 clear hA0 hval0
 refine (walk MG PW Eh MC PV Eg GU GN GL GK MS MR Me PU Ef Md FI PT Gw CS CQ W tabs.1 tabs.2 SX SK SV SI QW QV QU QT SS SH SQ QO SG).mono fun e W' ⟨he,bel⟩ => ?_
 subst he
 exact ⟨_,rfl,_,_,_,[],_,_,hW',trodAll_mk1 (shut_bool Tryz.underlying4 _),(trodAll_cons_mk (Below.trod laidOut (by kernel_rfl) (of_decide_eq_true (by kernel_rfl)) k0 bel lt0) trodAll_mk0),bel.trodVars laidOut (by kernel_rfl) hV,bel.frame _,fun h=>by cases h⟩
theorem over:Rows.fnExactStepCpuRow.holds Tryz.pinned (OpenSpec.ofChange Rows.fnExactStepCpuSpec):=
 OpenClaim.holds_of_wide 5 Tryz.f5 rfl rfl rfl rfl rfl rfl rfl ⟨rfl,rfl,rfl,rfl,rfl⟩ rfl rfl rfl rfl rfl (by kernel_rfl) Tryz.func5 (by kernel_rfl)
  (of_decide_eq_true (by kernel_rfl)) (by unfold Func.isWrapper;first|(rw [if_pos (by decide +kernel)];kernel_rfl)|(rw [if_neg (by decide +kernel)];exact ⟨rfl,rfl⟩))
  (fun os started H enc _=>lifted os started H enc)
theorem proved:Rows.FnExactStepCpuCardSaid:=
 Claim7.holds_tied_plain_at .later [] [.data,.data] true (true,"86b083da04bf92a3c99a73d2a1a0e2f35d1cfbae7c6706a3d895a1ba3f9f3f51") true
  over (fun _ h=>by cases h) (by kernel_rfl) (fun _ h=>by cases h) fnExactStepCpu_row_tie rfl ⟨rfl,rfl⟩ (by kernel_rfl) rfl
  (fun f fn hf hfn=>by
   obtain rfl:f=5:=Option.some.inj ((show Tryz.prog.funcNamed "loop.example/g00389/laws.FnExactStepCpu" = some 5 by kernel_rfl).symm.trans hf) |>.symm
   obtain rfl:fn=Tryz.f5:=(Option.some.inj (Tryz.func5.symm.trans hfn)).symm
   exact ⟨by kernel_rfl,fun j t ht=>by
    rw [Tryz.params5] at ht
    have hm:t∈[29]:=by simpa using Array.mem_of_getElem? ht
    have hall:([29].all fun u => !Tryz.prog.wantsStandIn u)=true:=by kernel_rfl
    exact (show Tryz.prog.wantsStandIn t=false by simpa using List.all_eq_true.1 hall t hm)⟩)
  (by kernel_rfl)
end Go.Proofs.YtkkmnnhaailkcaaGreatDoor.fnExactStepCpu
namespace Go.Proofs.YtkkmnnhaailkcaaGreatDoor
theorem FnExactStepCpu_holds:Rows.FnExactStepCpuCardSaid:=fnExactStepCpu.proved
end Go.Proofs.YtkkmnnhaailkcaaGreatDoor
