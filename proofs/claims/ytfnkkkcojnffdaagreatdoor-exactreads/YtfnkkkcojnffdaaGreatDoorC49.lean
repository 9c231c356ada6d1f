/- What is proved: the given card on the law ExactReads: called with any arguments of its types, in whatever memory in which the library's tables (of trailing zeros in math bits, of powers of ten in strconv) and the two errors of strconv read as the program's text lays them (the card ties them), it returns true; each argument reads behind the call as it read before, and all other memory that was there is as it was. No further condition. This text: the row's frame and the card round the walk of the texts before it. -/
import Derived.Test.YtfnkkkcojnffdaaGreatDoorC1
import Derived.Test.YtfnkkkcojnffdaaGreatDoorC8
import Derived.Test.YtfnkkkcojnffdaaGreatDoorCards
import Derived.Test.YtfnkkkcojnffdaaGreatDoorTie
import Derived.Test.YtfnkkkcojnffdaaGreatDoorC48
import Derived.Test.YtfnkkkcojnffdaaGreatDoorC7
import Derived.WalkKit
import Derived.ProofKit
import Derived.OpenShut
import Derived.WalkLawsBesides
import Derived.Deep.DeepHandedRow
import Derived.Lib.LaidTab
import Derived.ChangeMaps5
namespace Go.Proofs.YtfnkkkcojnffdaaGreatDoor.exactReads
open Go.ChangeShapes Go.WideShapes Go.ChangeAt Go.RowKit
theorem own:ownKnob Tryz.prog.godebug=none:=by kernel_rfl
theorem gTab:Tryz.prog.globalNamed "math/bits.deBruijn64tab" =some 1:=by kernel_rfl
theorem pP:(Tryz.prog.globals[1]?).map (·.type)=some 205:=by kernel_rfl
theorem pq:Tryz.prog.cellsOf 205=64:=by kernel_rfl
theorem cellsByte:Tryz.prog.cellsOf 5=1:=by kernel_rfl
theorem iJ {P:Program} {W:World} {x:String×DataW Unit} {r:List (String×DataW Unit)} (h:laidMet P (x::r) W):laidMet P r W:=by
 obtain⟨F,h1,D,B⟩:=h;obtain⟨n,d⟩:=x;obtain⟨g,t,cs,A,p,q,_,_,_,_,E,rfl⟩:=h1;exact⟨q,E,(List.nodup_append.1 D).2.1,fun b off C=>B b off (cY _ C)⟩
theorem table {W:World} (h:laidMetH Tryz.prog Rows.exactReadsRow.laid W):Lib.TabIs Tryz.prog W "math/bits.deBruijn64tab" .u8 (FT.tab.map Int.ofNat):=
 Lib.tabIs_of_head (rest:=[_,_,_]) gTab pP Tryz.underlying205 Tryz.underlying5 cellsByte pq (iJ (show laidMet Tryz.prog Rows.exactReadsRow.laid W from h))
theorem q1T {W:World} (h:laidMetH Tryz.prog Rows.exactReadsRow.laid W):Tab W:=by
 have E:=table h;have A:∀ i,i<64→W.cell? ⟨1,i,none⟩=some (.int .u8 (FT.tab.getD i 0:Nat)):=by
  intro i hi;have:=E.cell gTab i (by rw[cu];exact hi);rw[this];have C:i<FT.tab.length:=hi;simp [List.getD,C]
 refine⟨?_,A⟩;have B:=A 0 dT;by_cases D:1<W.heap.size
 ·exact D
 ·have:W.heap[1]? =none:=Array.getElem?_eq_none dT;simp [World.cell?,this] at B
theorem pO:(Tryz.prog.globals[4]?).map (·.type)=some 219:=by kernel_rfl
theorem pk:Tryz.prog.cellsOf 219=20:=by kernel_rfl
theorem oe:Tryz.prog.cellsOf 78=1:=by kernel_rfl
theorem qn:Lib.pow10Tab=[1,10,100,1000,10000,100000,1000000,10000000,100000000,1000000000,10000000000,100000000000,1000000000000,10000000000000,100000000000000,1000000000000000,10000000000000000,100000000000000000,1000000000000000000,10000000000000000000]:=by decide
theorem q1G {W:World} (h:laidMetH Tryz.prog Rows.exactReadsRow.laid W):EN.P10 W:=by
 have A:Lib.TabIs Tryz.prog W "internal/strconv.uint64pow10" .u64 Lib.pow10Tab:=by
  rw[qn];exact Lib.tabIs_of_head (rest:=[_,_]) EN.p10_at pO Tryz.underlying219 Tryz.underlying78 oe pk (iJ (iJ (show laidMet Tryz.prog Rows.exactReadsRow.laid W from h)))
 refine⟨?_,A⟩;have B:=A.cell EN.p10_at 0 (by rw[Lib.pow10Tab_length];omega);by_cases C:4<W.heap.size
 ·exact C
 ·have:W.heap[4]? =none:=Array.getElem?_eq_none dT;simp [World.cell?,this] at B
set_option maxRecDepth 100000 in
theorem contract (H:Type) (enc:TypeId×Value→H) (W:World) (B:Nat) (args:Array Value) (J gs:List (DataW H)) (before:List MemPlace)
  (A:∀ (j:Nat) t v,Tryz.f4.params[j]? =some t→args[j]? =some v→Value.okWide Tryz.prog W .any B t v)
  (M:DataW.Whole enc Tryz.prog Tryz.f4.params.toList Rows.exactReadsSpec.vars false W args.toList J gs before) (L:laidMetH Tryz.prog Rows.exactReadsRow.laid W):
  Calls Tryz.prog 4 args W fun e I=>∃ v,e= .returned v∧Rows.exactReadsSpec.post enc Tryz.prog Tryz.f4 false true false false W args v I:=by
 have D:=M;obtain⟨p,q,C,U,rfl,Y,Z⟩:=M;have K:DataW.TrodAll enc Tryz.prog W 0 (fun _=>true) true Tryz.f4.params.toList args.toList J p:=C;rw[Tryz.params4] at K A;obtain⟨v0,d,d0,N,k,m,F,rfl,rfl,O,c⟩:=trodAll_cons K;obtain⟨rfl,rfl,rfl⟩:=trodAll_nil c;obtain rfl:args=#[v0]:=by cases args;simp_all
 obtain⟨rfl,rfl⟩:=trodVars_none U;obtain⟨i,rfl,rfl,rfl,w0⟩:=Go.ChangeMaps.open_string Tryz.underlying9 (A 0 9 v0 rfl rfl) O;clear C;simp only[bZ] at D;have S:=q1T L;have R:=q1G L;refine(EN.reads_c W i S R).mono fun e I ⟨X,E⟩=> ?_;subst X;exact⟨_,rfl,_,_,_,[],[],[],D,trodAll_mk1 (shut_bool Tryz.underlying4 _),trodAll_cons_mk (Go.ChangeMaps.shut_string Tryz.underlying9 w0) (trodAll_mk0),rfl,Below.frame E _,fun h=>by cases h⟩
theorem pX (os:Os):laidMet Tryz.prog Rows.exactReadsRow.laid ((({World.holding Tryz.prog os ⟨#[.cells #[.string ⟨#[118,97,108,117,101,32,111,117,116,32,111,102,32,114,97,110,103,101]⟩] 243,.cells #[.string ⟨#[105,110,118,97,108,105,100,32,115,121,110,116,97,120]⟩] 243],#[],[]⟩ with heap:=(((((World.holding Tryz.prog os ⟨#[.cells #[.string ⟨#[118,97,108,117,101,32,111,117,116,32,111,102,32,114,97,110,103,101]⟩] 243,.cells #[.string ⟨#[105,110,118,97,108,105,100,32,115,121,110,116,97,120]⟩] 243],#[],[]⟩).heap.modify 8 fun| .cells _ t frozen=> .cells #[.int .u8 0,.int .u8 1,.int .u8 28,.int .u8 2,.int .u8 29,.int .u8 14,.int .u8 24,.int .u8 3,.int .u8 30,.int .u8 22,.int .u8 20,.int .u8 15,.int .u8 25,.int .u8 17,.int .u8 4,.int .u8 8,.int .u8 31,.int .u8 27,.int .u8 13,.int .u8 23,.int .u8 21,.int .u8 19,.int .u8 16,.int .u8 7,.int .u8 26,.int .u8 12,.int .u8 18,.int .u8 6,.int .u8 11,.int .u8 5,.int .u8 10,.int .u8 9] t frozen|o=>o).modify 1 fun| .cells _ t frozen=> .cells #[.int .u8 0,.int .u8 1,.int .u8 56,.int .u8 2,.int .u8 57,.int .u8 49,.int .u8 28,.int .u8 3,.int .u8 61,.int .u8 58,.int .u8 42,.int .u8 50,.int .u8 38,.int .u8 29,.int .u8 17,.int .u8 4,.int .u8 62,.int .u8 47,.int .u8 59,.int .u8 36,.int .u8 45,.int .u8 43,.int .u8 51,.int .u8 22,.int .u8 53,.int .u8 39,.int .u8 33,.int .u8 30,.int .u8 24,.int .u8 18,.int .u8 12,.int .u8 5,.int .u8 63,.int .u8 55,.int .u8 48,.int .u8 27,.int .u8 60,.int .u8 41,.int .u8 37,.int .u8 16,.int .u8 46,.int .u8 35,.int .u8 44,.int .u8 21,.int .u8 52,.int .u8 32,.int .u8 23,.int .u8 11,.int .u8 54,.int .u8 26,.int .u8 40,.int .u8 15,.int .u8 34,.int .u8 20,.int .u8 31,.int .u8 10,.int .u8 25,.int .u8 14,.int .u8 19,.int .u8 9,.int .u8 13,.int .u8 8,.int .u8 7,.int .u8 6] t frozen|o=>o).modify 4 fun| .cells _ t frozen=> .cells #[.int .u64 1,.int .u64 10,.int .u64 100,.int .u64 1000,.int .u64 10000,.int .u64 100000,.int .u64 1000000,.int .u64 10000000,.int .u64 100000000,.int .u64 1000000000,.int .u64 10000000000,.int .u64 100000000000,.int .u64 1000000000000,.int .u64 10000000000000,.int .u64 100000000000000,.int .u64 1000000000000000,.int .u64 10000000000000000,.int .u64 100000000000000000,.int .u64 1000000000000000000,.int .u64 10000000000000000000] t frozen|o=>o).modify 7 fun| .cells _ t frozen=> .cells #[.iface 241 (.pointer (some ⟨(World.holding Tryz.prog os ⟨#[],#[],[]⟩).heap.size+0,0,none⟩))] t frozen|o=>o).modify 6 fun| .cells _ t frozen=> .cells #[.iface 241 (.pointer (some ⟨(World.holding Tryz.prog os ⟨#[],#[],[]⟩).heap.size+1,0,none⟩))] t frozen|o=>o}:World)).forCall (fun _ _=>0) ⟨#[],#[.string ByteArray.empty],[]⟩).memory:=
 laidMet_of_run' 8 dV dV
theorem reads (os:Os) {H:Type} (enc:TypeId×Value→H):∃ places,DataW.whole enc Tryz.prog ((({World.holding Tryz.prog os ⟨#[.cells #[.string ⟨#[118,97,108,117,101,32,111,117,116,32,111,102,32,114,97,110,103,101]⟩] 243,.cells #[.string ⟨#[105,110,118,97,108,105,100,32,115,121,110,116,97,120]⟩] 243],#[],[]⟩ with heap:=(((((World.holding Tryz.prog os ⟨#[.cells #[.string ⟨#[118,97,108,117,101,32,111,117,116,32,111,102,32,114,97,110,103,101]⟩] 243,.cells #[.string ⟨#[105,110,118,97,108,105,100,32,115,121,110,116,97,120]⟩] 243],#[],[]⟩).heap.modify 8 fun| .cells _ t frozen=> .cells #[.int .u8 0,.int .u8 1,.int .u8 28,.int .u8 2,.int .u8 29,.int .u8 14,.int .u8 24,.int .u8 3,.int .u8 30,.int .u8 22,.int .u8 20,.int .u8 15,.int .u8 25,.int .u8 17,.int .u8 4,.int .u8 8,.int .u8 31,.int .u8 27,.int .u8 13,.int .u8 23,.int .u8 21,.int .u8 19,.int .u8 16,.int .u8 7,.int .u8 26,.int .u8 12,.int .u8 18,.int .u8 6,.int .u8 11,.int .u8 5,.int .u8 10,.int .u8 9] t frozen|o=>o).modify 1 fun| .cells _ t frozen=> .cells #[.int .u8 0,.int .u8 1,.int .u8 56,.int .u8 2,.int .u8 57,.int .u8 49,.int .u8 28,.int .u8 3,.int .u8 61,.int .u8 58,.int .u8 42,.int .u8 50,.int .u8 38,.int .u8 29,.int .u8 17,.int .u8 4,.int .u8 62,.int .u8 47,.int .u8 59,.int .u8 36,.int .u8 45,.int .u8 43,.int .u8 51,.int .u8 22,.int .u8 53,.int .u8 39,.int .u8 33,.int .u8 30,.int .u8 24,.int .u8 18,.int .u8 12,.int .u8 5,.int .u8 63,.int .u8 55,.int .u8 48,.int .u8 27,.int .u8 60,.int .u8 41,.int .u8 37,.int .u8 16,.int .u8 46,.int .u8 35,.int .u8 44,.int .u8 21,.int .u8 52,.int .u8 32,.int .u8 23,.int .u8 11,.int .u8 54,.int .u8 26,.int .u8 40,.int .u8 15,.int .u8 34,.int .u8 20,.int .u8 31,.int .u8 10,.int .u8 25,.int .u8 14,.int .u8 19,.int .u8 9,.int .u8 13,.int .u8 8,.int .u8 7,.int .u8 6] t frozen|o=>o).modify 4 fun| .cells _ t frozen=> .cells #[.int .u64 1,.int .u64 10,.int .u64 100,.int .u64 1000,.int .u64 10000,.int .u64 100000,.int .u64 1000000,.int .u64 10000000,.int .u64 100000000,.int .u64 1000000000,.int .u64 10000000000,.int .u64 100000000000,.int .u64 1000000000000,.int .u64 10000000000000,.int .u64 100000000000000,.int .u64 1000000000000000,.int .u64 10000000000000000,.int .u64 100000000000000000,.int .u64 1000000000000000000,.int .u64 10000000000000000000] t frozen|o=>o).modify 7 fun| .cells _ t frozen=> .cells #[.iface 241 (.pointer (some ⟨(World.holding Tryz.prog os ⟨#[],#[],[]⟩).heap.size+0,0,none⟩))] t frozen|o=>o).modify 6 fun| .cells _ t frozen=> .cells #[.iface 241 (.pointer (some ⟨(World.holding Tryz.prog os ⟨#[],#[],[]⟩).heap.size+1,0,none⟩))] t frozen|o=>o}:World)).forCall (fun _ _=>0) ⟨#[],#[.string ByteArray.empty],[]⟩).memory Tryz.f4.params.toList Rows.exactReadsSpec.vars false (#[.string ByteArray.empty]:Array Value).toList 8=some ([.lit (.string [])],[],places):=
 ⟨[],by kernel_rfl⟩
set_option maxRecDepth 100000 in
theorem lifted (os:Os) (started:os.Started) (H:Type) (enc:TypeId×Value→H) (F:Stop.Interp):
  ReturnsInHanded {} Tryz.checked os 4 .any ((OpenSpec.ofChange Rows.exactReadsSpec).preRow enc Tryz.prog Tryz.f4 Rows.exactReadsRow.domain false Rows.exactReadsRow.laid) (((OpenSpec.ofChange Rows.exactReadsSpec).at F).post enc Tryz.prog Tryz.f4 false true false false):=by
 obtain⟨places,K⟩:=reads os enc;refine returnsInHanded_of_row (C:=Tryz.checked) (s:=OpenSpec.ofChange Rows.exactReadsSpec) own started dV Tryz.func4
  (witness_row_at (enc:=enc) (C:=Tryz.checked) false ({World.holding Tryz.prog os ⟨#[.cells #[.string ⟨#[118,97,108,117,101,32,111,117,116,32,111,102,32,114,97,110,103,101]⟩] 243,.cells #[.string ⟨#[105,110,118,97,108,105,100,32,115,121,110,116,97,120]⟩] 243],#[],[]⟩ with heap:=(((((World.holding Tryz.prog os ⟨#[.cells #[.string ⟨#[118,97,108,117,101,32,111,117,116,32,111,102,32,114,97,110,103,101]⟩] 243,.cells #[.string ⟨#[105,110,118,97,108,105,100,32,115,121,110,116,97,120]⟩] 243],#[],[]⟩).heap.modify 8 fun| .cells _ t frozen=> .cells #[.int .u8 0,.int .u8 1,.int .u8 28,.int .u8 2,.int .u8 29,.int .u8 14,.int .u8 24,.int .u8 3,.int .u8 30,.int .u8 22,.int .u8 20,.int .u8 15,.int .u8 25,.int .u8 17,.int .u8 4,.int .u8 8,.int .u8 31,.int .u8 27,.int .u8 13,.int .u8 23,.int .u8 21,.int .u8 19,.int .u8 16,.int .u8 7,.int .u8 26,.int .u8 12,.int .u8 18,.int .u8 6,.int .u8 11,.int .u8 5,.int .u8 10,.int .u8 9] t frozen|o=>o).modify 1 fun| .cells _ t frozen=> .cells #[.int .u8 0,.int .u8 1,.int .u8 56,.int .u8 2,.int .u8 57,.int .u8 49,.int .u8 28,.int .u8 3,.int .u8 61,.int .u8 58,.int .u8 42,.int .u8 50,.int .u8 38,.int .u8 29,.int .u8 17,.int .u8 4,.int .u8 62,.int .u8 47,.int .u8 59,.int .u8 36,.int .u8 45,.int .u8 43,.int .u8 51,.int .u8 22,.int .u8 53,.int .u8 39,.int .u8 33,.int .u8 30,.int .u8 24,.int .u8 18,.int .u8 12,.int .u8 5,.int .u8 63,.int .u8 55,.int .u8 48,.int .u8 27,.int .u8 60,.int .u8 41,.int .u8 37,.int .u8 16,.int .u8 46,.int .u8 35,.int .u8 44,.int .u8 21,.int .u8 52,.int .u8 32,.int .u8 23,.int .u8 11,.int .u8 54,.int .u8 26,.int .u8 40,.int .u8 15,.int .u8 34,.int .u8 20,.int .u8 31,.int .u8 10,.int .u8 25,.int .u8 14,.int .u8 19,.int .u8 9,.int .u8 13,.int .u8 8,.int .u8 7,.int .u8 6] t frozen|o=>o).modify 4 fun| .cells _ t frozen=> .cells #[.int .u64 1,.int .u64 10,.int .u64 100,.int .u64 1000,.int .u64 10000,.int .u64 100000,.int .u64 1000000,.int .u64 10000000,.int .u64 100000000,.int .u64 1000000000,.int .u64 10000000000,.int .u64 100000000000,.int .u64 1000000000000,.int .u64 10000000000000,.int .u64 100000000000000,.int .u64 1000000000000000,.int .u64 10000000000000000,.int .u64 100000000000000000,.int .u64 1000000000000000000,.int .u64 10000000000000000000] t frozen|o=>o).modify 7 fun| .cells _ t frozen=> .cells #[.iface 241 (.pointer (some ⟨(World.holding Tryz.prog os ⟨#[],#[],[]⟩).heap.size+0,0,none⟩))] t frozen|o=>o).modify 6 fun| .cells _ t frozen=> .cells #[.iface 241 (.pointer (some ⟨(World.holding Tryz.prog os ⟨#[],#[],[]⟩).heap.size+1,0,none⟩))] t frozen|o=>o}:World) #[.string ByteArray.empty] rfl dV dV dV
   (OpenSpec.preRow_of_cond 8 K dV (fun k J=>by cases J) dV (pX os))) ?_
 intro W A args D gs before B I _ _ _ E _ _;exact contract H enc W A args D gs before B I E
theorem said:Rows.ExactReadsSaid:=by
 first
 |exact OpenClaim.holds_of_cond 4 Tryz.f4 rfl rfl rfl rfl rfl rfl rfl ⟨rfl,rfl,rfl,rfl,rfl⟩ rfl rfl rfl rfl rfl dV Tryz.func4 dV
   (of_decide_eq_true dV) (by unfold Func.isWrapper;first|(rw[if_pos (by decide+kernel)];kernel_rfl)|(rw[if_neg (by decide+kernel)];exact⟨rfl,rfl⟩))
   (fun os started H enc _ F=>by rw[OpenClaim.pre_eq_preRow];exact lifted os started H enc F)
 |exact jR rfl rfl rfl rfl (OpenClaim.holds_of_cond (c:={Rows.exactReadsRow with leaving:=false}) 4 Tryz.f4 rfl rfl rfl rfl rfl rfl rfl ⟨rfl,rfl,rfl,rfl,rfl⟩ rfl rfl rfl rfl rfl dV Tryz.func4 dV
   (of_decide_eq_true dV) (by unfold Func.isWrapper;first|(rw[if_pos (by decide+kernel)];kernel_rfl)|(rw[if_neg (by decide+kernel)];exact⟨rfl,rfl⟩))
   (fun os started H enc _ F=>by rw[OpenClaim.pre_eq_preRow];exact lifted os started H enc F))
theorem plain (f:FuncId) (fn:Func) (D:Tryz.pinned.checked.prog.funcNamed "enclosure/enclosurelaw.ExactReads" =some f) (A:Tryz.pinned.checked.prog.funcs[f]? =some fn):
  true=Tryz.pinned.checked.prog.looks []∧∀ (j:Nat) t,fn.params[j]? =some t→Tryz.pinned.checked.prog.wantsStandIn t=false:=by
 obtain rfl:f=4:=bp ((show Tryz.prog.funcNamed "enclosure/enclosurelaw.ExactReads" =some 4 by kernel_rfl).symm.trans D) |>.symm;obtain rfl:fn=Tryz.f4:=(bp (Tryz.func4.symm.trans A)).symm;refine⟨by kernel_rfl,fun j t C=> ?_⟩;rw[Tryz.params4] at C;have B:t=9:=by simpa using Array.mem_of_getElem? C
 subst B;exact(show Tryz.prog.wantsStandIn 9=false by kernel_rfl)
/-- THE CARD. -/
theorem card:Rows.ExactReadsCardSaid:=by
 first
 |exact Claim7.holds_tied_plain_at .later [] _ _ _ _ said (fun _ h=>by cases h) dV (fun _ h=>by cases h) exactReads_row_tie rfl ⟨rfl,rfl⟩ dV rfl plain dV
 |exact od .later _ _ _ _ said dV exactReads_row_tie rfl ⟨rfl,rfl⟩ dV rfl plain dV
end Go.Proofs.YtfnkkkcojnffdaaGreatDoor.exactReads
