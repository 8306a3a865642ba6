/- StepsCpu answers as its model, at every argument, on the condition that the tables impl.digitSums and impl.ninesLess hold what their initialisers lay. -/
import Derived.Test.YtkkmnnhaailkcaaGreatDoorRows
import Derived.Test.YtkkmnnhaailkcaaGreatDoorTie
import Derived.Test.YtkkmnnhaailkcaaGreatDoorCards
import Derived.Test.YtkkmnnhaailkcaaGreatDoorJB20
import Derived.OpenVars
import Derived.LaidMore
import Derived.Stop.Joined
import Derived.SevenTiedAt
import Derived.WalkKit
import Derived.ProofKit
import Derived.OpenShut
import Derived.ShutString
import Derived.ChangeOld
import Derived.Below
set_option maxRecDepth 100000
set_option maxHeartbeats 16000000
namespace Go.Proofs.YtkkmnnhaailkcaaGreatDoor.fnExactStepsCpu
open Go.ChangeShapes Go.WideShapes Go.ChangeAt Go.RowKit
set_option linter.unusedVariables false
theorem own:ownKnob Tryz.prog.godebug=none:=by kernel_rfl
theorem laidOut:laidOutB Tryz.prog=true:=by kernel_rfl
theorem walk (MW:Option Addr) (Qi:Nat) (Ez:List Int) (MS:Option Addr) (Qh:Nat) (Ey:List Int) (Hf:Int) (He:Int) (Ha:Int) (G9:Int) (Nr:Bool) (Nq:Bool) (MR:Option Addr) (Qg:Nat) (Ew:List Int) (MQ:Option Addr) (FY Qe:Nat) (GV:List Int) (Dk:Bool) (Dj:Bool) (v1:Int) (w:World) (tS:nH w) (tN:qN w) (TP:Came w MW Ez) (TJ:Ez.length≤maxLen) (TN:Came w MS Ey) (TI:Ey.length≤maxLen) (RH:(Lit.int .i64 Hf).wf=true) (RG:(Lit.int .i64 He).wf=true) (RF:(Lit.int .i64 Ha).wf=true) (Rz:(Lit.int .i64 G9).wf=true) (TM:Came w MR Ew) (TG:Ew.length≤maxLen) (TL:Came w MQ GV) (Rw:GV.length=5*FY) (TF:FY≤maxLen) (w1:(Lit.int .i64 v1).wf=true) :
  Calls Tryz.prog 6 #[.agg #[.slice MW Ez.length Qi,.slice MS Ey.length Qh,.int .i64 Hf,.int .i64 He,.int .i64 Ha,.int .i64 G9,.bool Nr,.bool Nq,.slice MR Ew.length Qg,.slice MQ FY Qe,.bool Dk,.bool Dj],.int .i64 v1] w fun e w'=>e=.returned (.bool true)∧Below w.heap.size w w':=by
 exact zL ⟨⟨Ez,Ey,Hf,He,Ha,G9,Nr,Nq⟩,Ew,GV,FY,Dk,Dj⟩ MW MS MR MQ Qi Qh Qg Qe v1 w tS tN TP TN TM TL (by unfold maxLen at TJ;omega) (by unfold maxLen at TI;omega) (by unfold maxLen at TG;omega) (by unfold maxLen at TF;omega) Rw ⟨RH,RG,RF,Rz⟩ w1
theorem door_met (os:Os) (args:Array Value):laidMetH Tryz.prog Rows.fnExactStepsCpuRow.laid ((World.doorLaid Tryz.prog 19 os).forCall (fun _ _=>0) ⟨#[],args,[]⟩).memory:=
 laidMetH_of_parts3 (fuel:=8) (laidMet_of_run' 8 (by kernel_rfl) (by kernel_rfl)) (by kernel_rfl) (by kernel_rfl)
theorem lifted (os:Os) (started:os.Started) (H:Type) (enc:TypeId × Value→H) :
  ReturnsInHanded {} Tryz.checked os 6 .any (fun w args=>(Rows.fnExactStepsCpuSpec.pre enc Tryz.prog Tryz.f6 [] false w args∧laidMetH Tryz.prog Rows.fnExactStepsCpuRow.laid w)∧sizedMet enc Tryz.prog Tryz.f6 (OpenSpec.ofChange Rows.fnExactStepsCpuSpec) false w args)
   (Rows.fnExactStepsCpuSpec.post enc Tryz.prog Tryz.f6 false true false false):=by
 refine returnsInHanded_of_change_and (C:=Tryz.checked) (X:=fun w _=>laidMetH Tryz.prog Rows.fnExactStepsCpuRow.laid w) (fun _ _ _ hh h=>h.of_heap hh) own started (by kernel_rfl) Tryz.func6
  (ChangeSpec.witness_shaped (enc:=enc) (C:=Tryz.checked) (os:=os) (X:=fun w _=>laidMetH Tryz.prog Rows.fnExactStepsCpuRow.laid w) false (World.doorLaid Tryz.prog 19 os) #[.agg #[.slice none 0 0,.slice none 0 0,.int .i64 0,.int .i64 0,.int .i64 0,.int .i64 0,.bool false,.bool false,.slice none 0 0,.slice none 0 0,.bool false,.bool false],.int .i64 0] 8 rfl (World.shaped_of_RefB (by kernel_rfl) (by kernel_rfl)) (by kernel_rfl) (by kernel_rfl) (by kernel_rfl) (door_met os _)) ?_
 intro W base args ds gs before hval0 hW _ _ hL _
 have hval:∀(j:Nat) t v,Tryz.f6.params[j]? = some t→args[j]? = some v→Value.okWide Tryz.prog W .any base t v:=hval0
 have hW':=hW
 obtain ⟨p,q,hA0,hV,rfl,hfz,hnd⟩:=hW
 have hA:DataW.TrodAll enc Tryz.prog W 0 (fun _=>true) true Tryz.f6.params.toList args.toList ds p:=hA0
 rw [Tryz.params6] at hA hval
 obtain ⟨u0,vs0,d0,ds0,p0,q0,hargs,rfl,rfl,h0,r0⟩:=trodAll_cons hA
 obtain ⟨u1,vs1,d1,ds1,p1,q1,rfl,rfl,rfl,h1,r1⟩:=trodAll_cons r0
 obtain ⟨rfl,rfl,rfl⟩:=trodAll_nil r1
 obtain rfl:args=#[u0,u1]:=by cases args;simp_all
 obtain ⟨_,_,_,_,g0,_,_,_,_,_,g1,_,hgs,_⟩:=trodVars_two hV
 subst hgs
 have tabs:=Nw hL
 have k0:=h0
 have lt0:∀x∈p0,x.block<W.heap.size:=by obtain ⟨m,hm⟩:=k0;exact DataW.trod_lt m _ _ _ hm
 obtain ⟨MW,Qi,Ez,MS,Qh,Ey,Hf,He,Ha,G9,Nr,Nq,MR,Qg,Ew,MQ,FY,Qe,GV,Dk,Dj,rfl,⟨TP,TJ⟩,⟨TN,TI⟩,RH,RG,RF,Rz,⟨TM,TG⟩,⟨TL,Rw,TF⟩⟩:=IP (hval 0 29 u0 rfl rfl) h0
 obtain ⟨v1,rfl,rfl,rfl,w1⟩:=open_int Tryz.underlying3 (hval 1 3 u1 rfl rfl) h1
 clear hA0 hval0
 refine (walk MW Qi Ez MS Qh Ey Hf He Ha G9 Nr Nq MR Qg Ew MQ FY Qe GV Dk Dj v1 W tabs.1 tabs.2 TP TJ TN TI RH RG RF Rz TM TG TL Rw TF w1).mono fun e W' ⟨he,bel⟩ => ?_
 subst he
 exact ⟨_,rfl,_,_,_,[],_,_,hW',trodAll_mk1 (shut_bool Tryz.underlying4 _),(trodAll_cons_mk (Below.trod laidOut (by kernel_rfl) (of_decide_eq_true (by kernel_rfl)) k0 bel lt0) (trodAll_cons_mk (shut_int Tryz.underlying3 w1) trodAll_mk0)),bel.trodVars laidOut (by kernel_rfl) hV,bel.frame _,fun h=>by cases h⟩
theorem over:Rows.fnExactStepsCpuRow.holds Tryz.pinned (OpenSpec.ofChange Rows.fnExactStepsCpuSpec):=
 OpenClaim.holds_of_wide 6 Tryz.f6 rfl rfl rfl rfl rfl rfl rfl ⟨rfl,rfl,rfl,rfl,rfl⟩ rfl rfl rfl rfl rfl (by kernel_rfl) Tryz.func6 (by kernel_rfl)
  (of_decide_eq_true (by kernel_rfl)) (by unfold Func.isWrapper;first|(rw [if_pos (by decide +kernel)];kernel_rfl)|(rw [if_neg (by decide +kernel)];exact ⟨rfl,rfl⟩))
  (fun os started H enc _=>lifted os started H enc)
theorem proved:Rows.FnExactStepsCpuCardSaid:=
 Claim7.holds_tied_plain_at .later [] [.data,.data] true (true,"86b083da04bf92a3c99a73d2a1a0e2f35d1cfbae7c6706a3d895a1ba3f9f3f51") true
  over (fun _ h=>by cases h) (by kernel_rfl) (fun _ h=>by cases h) fnExactStepsCpu_row_tie rfl ⟨rfl,rfl⟩ (by kernel_rfl) rfl
  (fun f fn hf hfn=>by
   obtain rfl:f=6:=Option.some.inj ((show Tryz.prog.funcNamed "loop.example/g00389/laws.FnExactStepsCpu" = some 6 by kernel_rfl).symm.trans hf) |>.symm
   obtain rfl:fn=Tryz.f6:=(Option.some.inj (Tryz.func6.symm.trans hfn)).symm
   exact ⟨by kernel_rfl,fun j t ht=>by
    rw [Tryz.params6] at ht
    have hm:t∈[29,3]:=by simpa using Array.mem_of_getElem? ht
    have hall:([29,3].all fun u => !Tryz.prog.wantsStandIn u)=true:=by kernel_rfl
    exact (show Tryz.prog.wantsStandIn t=false by simpa using List.all_eq_true.1 hall t hm)⟩)
  (by kernel_rfl)
end Go.Proofs.YtkkmnnhaailkcaaGreatDoor.fnExactStepsCpu
namespace Go.Proofs.YtkkmnnhaailkcaaGreatDoor
theorem FnExactStepsCpu_holds:Rows.FnExactStepsCpuCardSaid:=fnExactStepsCpu.proved
end Go.Proofs.YtkkmnnhaailkcaaGreatDoor
