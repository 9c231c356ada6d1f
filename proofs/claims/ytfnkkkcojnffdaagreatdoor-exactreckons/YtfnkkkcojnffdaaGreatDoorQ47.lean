/- What is proved: the given card on the law ExactReckons: called with any arguments of its types, in whatever memory in which the library's tables (of trailing zeros in math bits, of powers of ten in strconv) read as the program's text lays them (the card ties them), it returns true; each argument reads behind the call as it read before, and all other memory that was there is as it was. No further condition. This text: the row's frame and the card round the walk of the texts before it. -/
import Derived.Test.YtfnkkkcojnffdaaGreatDoorQ1
import Derived.Test.YtfnkkkcojnffdaaGreatDoorQ8
import Derived.Test.YtfnkkkcojnffdaaGreatDoorCards
import Derived.Test.YtfnkkkcojnffdaaGreatDoorTie
import Derived.Test.YtfnkkkcojnffdaaGreatDoorQ46
import Derived.Test.YtfnkkkcojnffdaaGreatDoorQ7
import Derived.WalkKit
import Derived.ProofKit
import Derived.OpenShut
import Derived.WalkLawsBesides
import Derived.Deep.DeepHandedRow
import Derived.Lib.LaidTab
namespace Go.Proofs.YtfnkkkcojnffdaaGreatDoor.exactReckons
open Go.ChangeShapes Go.WideShapes Go.ChangeAt Go.RowKit
theorem own:ownKnob Tryz.prog.godebug=none:=by kernel_rfl
theorem gTab:Tryz.prog.globalNamed "math/bits.deBruijn64tab" =some 1:=by kernel_rfl
theorem q02:(Tryz.prog.globals[1]?).map (·.type)=some 205:=by kernel_rfl
theorem rI:Tryz.prog.cellsOf 205=64:=by kernel_rfl
theorem cellsByte:Tryz.prog.cellsOf 5=1:=by kernel_rfl
theorem kn {P:Program} {W:World} {x:String×DataW Unit} {r:List (String×DataW Unit)} (h:laidMet P (x::r) W):laidMet P r W:=by
 obtain⟨F,h1,D,B⟩:=h;obtain⟨n,d⟩:=x;obtain⟨g,t,cs,A,p,q,_,_,_,_,E,rfl⟩:=h1;exact⟨q,E,(List.nodup_append.1 D).2.1,fun b off C=>B b off (List.mem_append_right _ C)⟩
theorem table {W:World} (h:laidMetH Tryz.prog Rows.exactReckonsRow.laid W):Lib.TabIs Tryz.prog W "math/bits.deBruijn64tab" .u8 (FT.tab.map Int.ofNat):=
 Lib.tabIs_of_head (rest:=[_]) gTab q02 Tryz.underlying205 Tryz.underlying5 cellsByte rI (kn (show laidMet Tryz.prog Rows.exactReckonsRow.laid W from h))
theorem q3y {W:World} (h:laidMetH Tryz.prog Rows.exactReckonsRow.laid W):Tab W:=by
 have E:=table h;have A:∀ i,i<64→W.cell? ⟨1,i,none⟩=some (.int .u8 (FT.tab.getD i 0:Nat)):=by
  intro i hi;have:=E.cell gTab i (by rw[cg];exact hi);rw[this];have C:i<FT.tab.length:=hi;simp [List.getD,C]
 refine⟨?_,A⟩;have B:=A 0 eK;by_cases D:1<W.heap.size
 ·exact D
 ·have:W.heap[1]? =none:=Array.getElem?_eq_none eK;simp [World.cell?,this] at B
theorem q00:(Tryz.prog.globals[4]?).map (·.type)=some 219:=by kernel_rfl
theorem rH:Tryz.prog.cellsOf 219=20:=by kernel_rfl
theorem qC:Tryz.prog.cellsOf 78=1:=by kernel_rfl
theorem q0y:Lib.pow10Tab=[1,10,100,1000,10000,100000,1000000,10000000,100000000,1000000000,10000000000,100000000000,1000000000000,10000000000000,100000000000000,1000000000000000,10000000000000000,100000000000000000,1000000000000000000,10000000000000000000]:=by decide
theorem q34 {W:World} (h:laidMetH Tryz.prog Rows.exactReckonsRow.laid W):EN.P10 W:=by
 have A:Lib.TabIs Tryz.prog W "internal/strconv.uint64pow10" .u64 Lib.pow10Tab:=by
  rw[q0y];exact Lib.tabIs_of_head (rest:=[]) EN.p10_at q00 Tryz.underlying219 Tryz.underlying78 qC rH (kn (kn (show laidMet Tryz.prog Rows.exactReckonsRow.laid W from h)))
 refine⟨?_,A⟩;have B:=A.cell EN.p10_at 0 (by rw[Lib.pow10Tab_length];omega);by_cases C:4<W.heap.size
 ·exact C
 ·have:W.heap[4]? =none:=Array.getElem?_eq_none eK;simp [World.cell?,this] at B
set_option maxRecDepth 100000 in
theorem contract (H:Type) (enc:TypeId×Value→H) (W:World) (B:Nat) (args:Array Value) (O gs:List (DataW H)) (before:List MemPlace)
  (A:∀ (j:Nat) t v,Tryz.f3.params[j]? =some t→args[j]? =some v→Value.okWide Tryz.prog W .any B t v)
  (U:DataW.Whole enc Tryz.prog Tryz.f3.params.toList Rows.exactReckonsSpec.vars false W args.toList O gs before) (S:laidMetH Tryz.prog Rows.exactReckonsRow.laid W):
  Calls Tryz.prog 3 args W fun e N=>∃ v,e= .returned v∧Rows.exactReckonsSpec.post enc Tryz.prog Tryz.f3 false true false false W args v N:=by
 have D:=U;obtain⟨p,q,C,hV,rfl,bl,bn⟩:=U;have R:DataW.TrodAll enc Tryz.prog W 0 (fun _=>true) true Tryz.f3.params.toList args.toList O p:=C;rw[Tryz.params3] at R A;obtain⟨v0,bq,d0,al,p0,q0,F,rfl,rfl,h0,r0⟩:=trodAll_cons R;obtain⟨X,bs,d1,am,p1,q1,rfl,rfl,rfl,h1,r1⟩:=trodAll_cons r0;obtain⟨v2,bu,d2,an,p2,q2,rfl,rfl,rfl,h2,r2⟩:=trodAll_cons r1;obtain⟨v3,bv,d3,ao,p3,q3,rfl,rfl,rfl,h3,r3⟩:=trodAll_cons r2;obtain⟨v4,bz,d4,ap,p4,q4,rfl,rfl,rfl,h4,r4⟩:=trodAll_cons r3;obtain⟨v5,ca,d5,bi,p5,q5,rfl,rfl,rfl,h5,r5⟩:=trodAll_cons r4;obtain⟨rfl,rfl,rfl⟩:=trodAll_nil r5;obtain rfl:args=#[v0,X,v2,v3,v4,v5]:=by cases args;simp_all
 obtain⟨rfl,rfl⟩:=trodVars_none hV;obtain⟨I,rfl,rfl,rfl,w0⟩:=open_int Tryz.underlying3 (A 0 3 v0 rfl rfl) h0;have m: -9223372036854775808≤I∧I≤9223372036854775807:=by simpa [Lit.wf,IntKind.min,IntKind.max,IntKind.bits,IntKind.signed] using w0
 obtain⟨J,rfl,rfl,rfl,Y⟩:=open_int Tryz.underlying3 (A 1 3 X rfl rfl) h1;have o: -9223372036854775808≤J∧J≤9223372036854775807:=by simpa [Lit.wf,IntKind.min,IntKind.max,IntKind.bits,IntKind.signed] using Y
 obtain⟨K,rfl,rfl,rfl,Z⟩:=open_int Tryz.underlying3 (A 2 3 v2 rfl rfl) h2;have s: -9223372036854775808≤K∧K≤9223372036854775807:=by simpa [Lit.wf,IntKind.min,IntKind.max,IntKind.bits,IntKind.signed] using Z
 obtain⟨L,rfl,rfl,rfl,c⟩:=open_int Tryz.underlying3 (A 3 3 v3 rfl rfl) h3;have y: -9223372036854775808≤L∧L≤9223372036854775807:=by simpa [Lit.wf,IntKind.min,IntKind.max,IntKind.bits,IntKind.signed] using c
 obtain⟨k,rfl,rfl,rfl,d⟩:=open_float Tryz.underlying22 (A 4 22 v4 rfl rfl) h4;have b4:k<2^64:=by simpa [Lit.wf] using d
 obtain⟨M,rfl,rfl,rfl,i⟩:=open_int Tryz.underlying3 (A 5 3 v5 rfl rfl) h5;have b5: -9223372036854775808≤M∧M≤9223372036854775807:=by simpa [Lit.wf,IntKind.min,IntKind.max,IntKind.bits,IntKind.signed] using i
 clear C;simp only[List.append_nil] at D;have hT:=q3y S;have hP:=q34 S;refine(EN.reckons_c W I J K L k M m.1 eK o.1 eK s.1 eK y.1 eK b5.1 eK b4 hT hP).mono fun e N ⟨he,E⟩=> ?_;subst he;exact⟨_,rfl,_,_,_,[],[],[],D,trodAll_mk1 (shut_bool Tryz.underlying4 _),trodAll_cons_mk (shut_int Tryz.underlying3 w0) (trodAll_cons_mk (shut_int Tryz.underlying3 Y) (trodAll_cons_mk (shut_int Tryz.underlying3 Z) (trodAll_cons_mk (shut_int Tryz.underlying3 c) (trodAll_cons_mk (shut_float Tryz.underlying22 d) (trodAll_cons_mk (shut_int Tryz.underlying3 i) (trodAll_mk0)))))),rfl,Below.frame E _,fun h=>by cases h⟩
theorem q0f (os:Os):laidMet Tryz.prog Rows.exactReckonsRow.laid ((({World.holding Tryz.prog os ⟨#[],#[],[]⟩ with heap:=(((World.holding Tryz.prog os ⟨#[],#[],[]⟩).heap.modify 8 fun| .cells _ t frozen=> .cells #[.int .u8 0,.int .u8 1,.int .u8 28,.int .u8 2,.int .u8 29,.int .u8 14,.int .u8 24,.int .u8 3,.int .u8 30,.int .u8 22,.int .u8 20,.int .u8 15,.int .u8 25,.int .u8 17,.int .u8 4,.int .u8 8,.int .u8 31,.int .u8 27,.int .u8 13,.int .u8 23,.int .u8 21,.int .u8 19,.int .u8 16,.int .u8 7,.int .u8 26,.int .u8 12,.int .u8 18,.int .u8 6,.int .u8 11,.int .u8 5,.int .u8 10,.int .u8 9] t frozen|o=>o).modify 1 fun| .cells _ t frozen=> .cells #[.int .u8 0,.int .u8 1,.int .u8 56,.int .u8 2,.int .u8 57,.int .u8 49,.int .u8 28,.int .u8 3,.int .u8 61,.int .u8 58,.int .u8 42,.int .u8 50,.int .u8 38,.int .u8 29,.int .u8 17,.int .u8 4,.int .u8 62,.int .u8 47,.int .u8 59,.int .u8 36,.int .u8 45,.int .u8 43,.int .u8 51,.int .u8 22,.int .u8 53,.int .u8 39,.int .u8 33,.int .u8 30,.int .u8 24,.int .u8 18,.int .u8 12,.int .u8 5,.int .u8 63,.int .u8 55,.int .u8 48,.int .u8 27,.int .u8 60,.int .u8 41,.int .u8 37,.int .u8 16,.int .u8 46,.int .u8 35,.int .u8 44,.int .u8 21,.int .u8 52,.int .u8 32,.int .u8 23,.int .u8 11,.int .u8 54,.int .u8 26,.int .u8 40,.int .u8 15,.int .u8 34,.int .u8 20,.int .u8 31,.int .u8 10,.int .u8 25,.int .u8 14,.int .u8 19,.int .u8 9,.int .u8 13,.int .u8 8,.int .u8 7,.int .u8 6] t frozen|o=>o).modify 4 fun| .cells _ t frozen=> .cells #[.int .u64 1,.int .u64 10,.int .u64 100,.int .u64 1000,.int .u64 10000,.int .u64 100000,.int .u64 1000000,.int .u64 10000000,.int .u64 100000000,.int .u64 1000000000,.int .u64 10000000000,.int .u64 100000000000,.int .u64 1000000000000,.int .u64 10000000000000,.int .u64 100000000000000,.int .u64 1000000000000000,.int .u64 10000000000000000,.int .u64 100000000000000000,.int .u64 1000000000000000000,.int .u64 10000000000000000000] t frozen|o=>o}:World)).forCall (fun _ _=>0) ⟨#[],#[.int .i64 0,.int .i64 0,.int .i64 0,.int .i64 0,.float .f64 0,.int .i64 0],[]⟩).memory:=
 laidMet_of_run' 8 eM eM
theorem reads (os:Os) {H:Type} (enc:TypeId×Value→H):∃ places,DataW.whole enc Tryz.prog ((({World.holding Tryz.prog os ⟨#[],#[],[]⟩ with heap:=(((World.holding Tryz.prog os ⟨#[],#[],[]⟩).heap.modify 8 fun| .cells _ t frozen=> .cells #[.int .u8 0,.int .u8 1,.int .u8 28,.int .u8 2,.int .u8 29,.int .u8 14,.int .u8 24,.int .u8 3,.int .u8 30,.int .u8 22,.int .u8 20,.int .u8 15,.int .u8 25,.int .u8 17,.int .u8 4,.int .u8 8,.int .u8 31,.int .u8 27,.int .u8 13,.int .u8 23,.int .u8 21,.int .u8 19,.int .u8 16,.int .u8 7,.int .u8 26,.int .u8 12,.int .u8 18,.int .u8 6,.int .u8 11,.int .u8 5,.int .u8 10,.int .u8 9] t frozen|o=>o).modify 1 fun| .cells _ t frozen=> .cells #[.int .u8 0,.int .u8 1,.int .u8 56,.int .u8 2,.int .u8 57,.int .u8 49,.int .u8 28,.int .u8 3,.int .u8 61,.int .u8 58,.int .u8 42,.int .u8 50,.int .u8 38,.int .u8 29,.int .u8 17,.int .u8 4,.int .u8 62,.int .u8 47,.int .u8 59,.int .u8 36,.int .u8 45,.int .u8 43,.int .u8 51,.int .u8 22,.int .u8 53,.int .u8 39,.int .u8 33,.int .u8 30,.int .u8 24,.int .u8 18,.int .u8 12,.int .u8 5,.int .u8 63,.int .u8 55,.int .u8 48,.int .u8 27,.int .u8 60,.int .u8 41,.int .u8 37,.int .u8 16,.int .u8 46,.int .u8 35,.int .u8 44,.int .u8 21,.int .u8 52,.int .u8 32,.int .u8 23,.int .u8 11,.int .u8 54,.int .u8 26,.int .u8 40,.int .u8 15,.int .u8 34,.int .u8 20,.int .u8 31,.int .u8 10,.int .u8 25,.int .u8 14,.int .u8 19,.int .u8 9,.int .u8 13,.int .u8 8,.int .u8 7,.int .u8 6] t frozen|o=>o).modify 4 fun| .cells _ t frozen=> .cells #[.int .u64 1,.int .u64 10,.int .u64 100,.int .u64 1000,.int .u64 10000,.int .u64 100000,.int .u64 1000000,.int .u64 10000000,.int .u64 100000000,.int .u64 1000000000,.int .u64 10000000000,.int .u64 100000000000,.int .u64 1000000000000,.int .u64 10000000000000,.int .u64 100000000000000,.int .u64 1000000000000000,.int .u64 10000000000000000,.int .u64 100000000000000000,.int .u64 1000000000000000000,.int .u64 10000000000000000000] t frozen|o=>o}:World)).forCall (fun _ _=>0) ⟨#[],#[.int .i64 0,.int .i64 0,.int .i64 0,.int .i64 0,.float .f64 0,.int .i64 0],[]⟩).memory Tryz.f3.params.toList Rows.exactReckonsSpec.vars false (#[.int .i64 0,.int .i64 0,.int .i64 0,.int .i64 0,.float .f64 0,.int .i64 0]:Array Value).toList 8=some ([.lit (.int .i64 0),.lit (.int .i64 0),.lit (.int .i64 0),.lit (.int .i64 0),.lit (.float .f64 0),.lit (.int .i64 0)],[],places):=
 ⟨[],by kernel_rfl⟩
set_option maxRecDepth 100000 in
theorem lifted (os:Os) (started:os.Started) (H:Type) (enc:TypeId×Value→H) (F:Stop.Interp):
  ReturnsInHanded {} Tryz.checked os 3 .any ((OpenSpec.ofChange Rows.exactReckonsSpec).preRow enc Tryz.prog Tryz.f3 Rows.exactReckonsRow.domain false Rows.exactReckonsRow.laid) (((OpenSpec.ofChange Rows.exactReckonsSpec).at F).post enc Tryz.prog Tryz.f3 false true false false):=by
 obtain⟨places,K⟩:=reads os enc;refine returnsInHanded_of_row (C:=Tryz.checked) (s:=OpenSpec.ofChange Rows.exactReckonsSpec) own started eM Tryz.func3
  (witness_row_at (enc:=enc) (C:=Tryz.checked) false ({World.holding Tryz.prog os ⟨#[],#[],[]⟩ with heap:=(((World.holding Tryz.prog os ⟨#[],#[],[]⟩).heap.modify 8 fun| .cells _ t frozen=> .cells #[.int .u8 0,.int .u8 1,.int .u8 28,.int .u8 2,.int .u8 29,.int .u8 14,.int .u8 24,.int .u8 3,.int .u8 30,.int .u8 22,.int .u8 20,.int .u8 15,.int .u8 25,.int .u8 17,.int .u8 4,.int .u8 8,.int .u8 31,.int .u8 27,.int .u8 13,.int .u8 23,.int .u8 21,.int .u8 19,.int .u8 16,.int .u8 7,.int .u8 26,.int .u8 12,.int .u8 18,.int .u8 6,.int .u8 11,.int .u8 5,.int .u8 10,.int .u8 9] t frozen|o=>o).modify 1 fun| .cells _ t frozen=> .cells #[.int .u8 0,.int .u8 1,.int .u8 56,.int .u8 2,.int .u8 57,.int .u8 49,.int .u8 28,.int .u8 3,.int .u8 61,.int .u8 58,.int .u8 42,.int .u8 50,.int .u8 38,.int .u8 29,.int .u8 17,.int .u8 4,.int .u8 62,.int .u8 47,.int .u8 59,.int .u8 36,.int .u8 45,.int .u8 43,.int .u8 51,.int .u8 22,.int .u8 53,.int .u8 39,.int .u8 33,.int .u8 30,.int .u8 24,.int .u8 18,.int .u8 12,.int .u8 5,.int .u8 63,.int .u8 55,.int .u8 48,.int .u8 27,.int .u8 60,.int .u8 41,.int .u8 37,.int .u8 16,.int .u8 46,.int .u8 35,.int .u8 44,.int .u8 21,.int .u8 52,.int .u8 32,.int .u8 23,.int .u8 11,.int .u8 54,.int .u8 26,.int .u8 40,.int .u8 15,.int .u8 34,.int .u8 20,.int .u8 31,.int .u8 10,.int .u8 25,.int .u8 14,.int .u8 19,.int .u8 9,.int .u8 13,.int .u8 8,.int .u8 7,.int .u8 6] t frozen|o=>o).modify 4 fun| .cells _ t frozen=> .cells #[.int .u64 1,.int .u64 10,.int .u64 100,.int .u64 1000,.int .u64 10000,.int .u64 100000,.int .u64 1000000,.int .u64 10000000,.int .u64 100000000,.int .u64 1000000000,.int .u64 10000000000,.int .u64 100000000000,.int .u64 1000000000000,.int .u64 10000000000000,.int .u64 100000000000000,.int .u64 1000000000000000,.int .u64 10000000000000000,.int .u64 100000000000000000,.int .u64 1000000000000000000,.int .u64 10000000000000000000] t frozen|o=>o}:World) #[.int .i64 0,.int .i64 0,.int .i64 0,.int .i64 0,.float .f64 0,.int .i64 0] rfl eM eM eM
   (OpenSpec.preRow_of_cond 8 K eM (fun k J=>by cases J) eM (q0f os))) ?_
 intro W A args D gs before B I _ _ _ E _ _;exact contract H enc W A args D gs before B I E
theorem said:Rows.ExactReckonsSaid:=by
 first
 |exact OpenClaim.holds_of_cond 3 Tryz.f3 rfl rfl rfl rfl rfl rfl rfl ⟨rfl,rfl,rfl,rfl,rfl⟩ rfl rfl rfl rfl rfl eM Tryz.func3 eM
   (of_decide_eq_true eM) (by unfold Func.isWrapper;first|(rw[if_pos (by decide+kernel)];kernel_rfl)|(rw[if_neg (by decide+kernel)];exact⟨rfl,rfl⟩))
   (fun os started H enc _ F=>by rw[OpenClaim.pre_eq_preRow];exact lifted os started H enc F)
 |exact lW rfl rfl rfl rfl (OpenClaim.holds_of_cond (c:={Rows.exactReckonsRow with leaving:=false}) 3 Tryz.f3 rfl rfl rfl rfl rfl rfl rfl ⟨rfl,rfl,rfl,rfl,rfl⟩ rfl rfl rfl rfl rfl eM Tryz.func3 eM
   (of_decide_eq_true eM) (by unfold Func.isWrapper;first|(rw[if_pos (by decide+kernel)];kernel_rfl)|(rw[if_neg (by decide+kernel)];exact⟨rfl,rfl⟩))
   (fun os started H enc _ F=>by rw[OpenClaim.pre_eq_preRow];exact lifted os started H enc F))
theorem plain (f:FuncId) (fn:Func) (D:Tryz.pinned.checked.prog.funcNamed "enclosure/enclosurelaw.ExactReckons" =some f) (A:Tryz.pinned.checked.prog.funcs[f]? =some fn):
  true=Tryz.pinned.checked.prog.looks []∧∀ (j:Nat) t,fn.params[j]? =some t→Tryz.pinned.checked.prog.wantsStandIn t=false:=by
 obtain rfl:f=3:=bO ((show Tryz.prog.funcNamed "enclosure/enclosurelaw.ExactReckons" =some 3 by kernel_rfl).symm.trans D) |>.symm;obtain rfl:fn=Tryz.f3:=(bO (Tryz.func3.symm.trans A)).symm;refine⟨by kernel_rfl,fun j t C=> ?_⟩;rw[Tryz.params3] at C;have B:t=3∨t=3∨t=3∨t=3∨t=22∨t=3:=by simpa using Array.mem_of_getElem? C
 rcases B with rfl|rfl|rfl|rfl|rfl|rfl
 ·exact(show Tryz.prog.wantsStandIn 3=false by kernel_rfl)
 ·exact(show Tryz.prog.wantsStandIn 3=false by kernel_rfl)
 ·exact(show Tryz.prog.wantsStandIn 3=false by kernel_rfl)
 ·exact(show Tryz.prog.wantsStandIn 3=false by kernel_rfl)
 ·exact(show Tryz.prog.wantsStandIn 22=false by kernel_rfl)
 ·exact(show Tryz.prog.wantsStandIn 3=false by kernel_rfl)
/-- THE CARD. -/
theorem card:Rows.ExactReckonsCardSaid:=by
 first
 |exact Claim7.holds_tied_plain_at .later [] _ _ _ _ said (fun _ h=>by cases h) eM (fun _ h=>by cases h) exactReckons_row_tie rfl ⟨rfl,rfl⟩ eM rfl plain eM
 |exact qB .later _ _ _ _ said eM exactReckons_row_tie rfl ⟨rfl,rfl⟩ eM rfl plain eM
end Go.Proofs.YtfnkkkcojnffdaaGreatDoor.exactReckons
