/- What is proved: the given card on the law SpanReckons: called with any arguments of its types, in whatever memory in which the library's table of the trailing zeros (math bits) reads as the program's text lays it (the card ties it), it returns true; each argument reads behind the call as it read before, and all other memory that was there is as it was. No further condition. This text: the row's frame and the card round the walk of the texts before it. -/
import Derived.Test.YtohcneeihdkfgaaGreatDoorQ1
import Derived.Test.YtohcneeihdkfgaaGreatDoorQ10
import Derived.Test.YtohcneeihdkfgaaGreatDoorCards
import Derived.Test.YtohcneeihdkfgaaGreatDoorTie
import Derived.Test.YtohcneeihdkfgaaGreatDoorQ48
import Derived.Test.YtohcneeihdkfgaaGreatDoorQ47
import Derived.Test.YtohcneeihdkfgaaGreatDoorQ7
import Derived.WalkKit
import Derived.ProofKit
import Derived.OpenShut
import Derived.WalkLawsBesides
import Derived.Deep.DeepHandedRow
import Derived.Lib.LaidTab
namespace Go.Proofs.YtohcneeihdkfgaaGreatDoor.spanReckons
open Go.ChangeShapes Go.WideShapes Go.ChangeAt Go.RowKit
theorem own:ownKnob Tryz.prog.godebug=none:=by kernel_rfl
theorem gTab:Tryz.prog.globalNamed "math/bits.deBruijn64tab" =some 1:=by kernel_rfl
theorem q2F:(Tryz.prog.globals[1]?).map (·.type)=some 249:=by kernel_rfl
theorem q2k:Tryz.prog.cellsOf 249=64:=by kernel_rfl
theorem cellsByte:Tryz.prog.cellsOf 5=1:=by kernel_rfl
theorem table {W:World} (h:laidMetH Tryz.prog Rows.spanReckonsRow.laid W):Lib.TabIs Tryz.prog W "math/bits.deBruijn64tab" .u8 (FT.tab.map Int.ofNat):=
 Lib.tabIs_of_head (rest:=[]) gTab q2F Tryz.underlying249 Tryz.underlying5 cellsByte q2k h
theorem q6E {W:World} (h:laidMetH Tryz.prog Rows.spanReckonsRow.laid W):Tab W:=by
 have E:=table h;have A:∀ i,i<64→W.cell? ⟨1,i,none⟩=some (.int .u8 (FT.tab.getD i 0:Nat)):=by
  intro i hi;have:=E.cell gTab i (by rw[dx];exact hi);rw[this];have C:i<FT.tab.length:=hi;simp [List.getD,C]
 refine⟨?_,A⟩;have B:=A 0 eX;by_cases D:1<W.heap.size
 ·exact D
 ·have:W.heap[1]? =none:=Array.getElem?_eq_none eX;simp [World.cell?,this] at B
set_option maxRecDepth 100000 in
theorem contract (H:Type) (enc:TypeId×Value→H) (W:World) (B:Nat) (args:Array Value) (K gs:List (DataW H)) (before:List MemPlace)
  (A:∀ (j:Nat) t v,Tryz.f5.params[j]? =some t→args[j]? =some v→Value.okWide Tryz.prog W .any B t v)
  (M:DataW.Whole enc Tryz.prog Tryz.f5.params.toList Rows.spanReckonsSpec.vars false W args.toList K gs before) (m:laidMetH Tryz.prog Rows.spanReckonsRow.laid W):
  Calls Tryz.prog 5 args W fun e J=>∃ v,e= .returned v∧Rows.spanReckonsSpec.post enc Tryz.prog Tryz.f5 false true false false W args v J:=by
 have D:=M;obtain⟨p,q,C,s,rfl,af,ag⟩:=M;have L:DataW.TrodAll enc Tryz.prog W 0 (fun _=>true) true Tryz.f5.params.toList args.toList K p:=C;rw[Tryz.params5] at L A;obtain⟨v0,ai,d0,c,p0,q0,F,rfl,rfl,k,r0⟩:=trodAll_cons L;obtain⟨N,al,d1,d,p1,q1,rfl,rfl,rfl,h1,r1⟩:=trodAll_cons r0;obtain⟨v2,am,d2,i,p2,q2,rfl,rfl,rfl,h2,r2⟩:=trodAll_cons r1;obtain⟨rfl,rfl,rfl⟩:=trodAll_nil r2;obtain rfl:args=#[v0,N,v2]:=by cases args;simp_all
 obtain⟨rfl,rfl⟩:=trodVars_none s;obtain⟨S,y0,rfl,rfl,rfl,w0,u0⟩:=EN.open_span (A 0 72 v0 rfl rfl) k;have X:S<2^64:=by simpa [Lit.wf] using w0
 have Z:y0<2^64:=by simpa [Lit.wf] using u0
 obtain⟨U,y1,rfl,rfl,rfl,O,u1⟩:=EN.open_span (A 1 72 N rfl rfl) h1;have Y:U<2^64:=by simpa [Lit.wf] using O
 have c1:y1<2^64:=by simpa [Lit.wf] using u1
 obtain⟨I,rfl,rfl,rfl,R⟩:=open_int Tryz.underlying3 (A 2 3 v2 rfl rfl) h2;have b2: -9223372036854775808≤I∧I≤9223372036854775807:=by simpa [Lit.wf,IntKind.min,IntKind.max,IntKind.bits,IntKind.signed] using R
 clear C;simp only[List.append_nil] at D;have o:=q6E m;refine(EN.spanReckons_c W S y0 U y1 I o X Z Y c1).mono fun e J ⟨y,E⟩=> ?_;subst y;exact⟨_,rfl,_,_,_,[],[],[],D,trodAll_mk1 (shut_bool Tryz.underlying4 _),trodAll_cons_mk (EN.shut_span w0 u0) (trodAll_cons_mk (EN.shut_span O u1) (trodAll_cons_mk (shut_int Tryz.underlying3 R) (trodAll_mk0))),rfl,Below.frame E _,fun h=>by cases h⟩
theorem q2O (os:Os):laidMet Tryz.prog Rows.spanReckonsRow.laid ((({World.holding Tryz.prog os ⟨#[],#[],[]⟩ with heap:=(World.holding Tryz.prog os ⟨#[],#[],[]⟩).heap.modify 1 fun| .cells _ t frozen=> .cells #[.int .u8 0,.int .u8 1,.int .u8 56,.int .u8 2,.int .u8 57,.int .u8 49,.int .u8 28,.int .u8 3,.int .u8 61,.int .u8 58,.int .u8 42,.int .u8 50,.int .u8 38,.int .u8 29,.int .u8 17,.int .u8 4,.int .u8 62,.int .u8 47,.int .u8 59,.int .u8 36,.int .u8 45,.int .u8 43,.int .u8 51,.int .u8 22,.int .u8 53,.int .u8 39,.int .u8 33,.int .u8 30,.int .u8 24,.int .u8 18,.int .u8 12,.int .u8 5,.int .u8 63,.int .u8 55,.int .u8 48,.int .u8 27,.int .u8 60,.int .u8 41,.int .u8 37,.int .u8 16,.int .u8 46,.int .u8 35,.int .u8 44,.int .u8 21,.int .u8 52,.int .u8 32,.int .u8 23,.int .u8 11,.int .u8 54,.int .u8 26,.int .u8 40,.int .u8 15,.int .u8 34,.int .u8 20,.int .u8 31,.int .u8 10,.int .u8 25,.int .u8 14,.int .u8 19,.int .u8 9,.int .u8 13,.int .u8 8,.int .u8 7,.int .u8 6] t frozen|o=>o}:World)).forCall (fun _ _=>0) ⟨#[],#[.agg #[.float .f64 0,.float .f64 0],.agg #[.float .f64 0,.float .f64 0],.int .i64 0],[]⟩).memory:=
 laidMet_of_run' 8 eZ eZ
theorem reads (os:Os) {H:Type} (enc:TypeId×Value→H):∃ places,DataW.whole enc Tryz.prog ((({World.holding Tryz.prog os ⟨#[],#[],[]⟩ with heap:=(World.holding Tryz.prog os ⟨#[],#[],[]⟩).heap.modify 1 fun| .cells _ t frozen=> .cells #[.int .u8 0,.int .u8 1,.int .u8 56,.int .u8 2,.int .u8 57,.int .u8 49,.int .u8 28,.int .u8 3,.int .u8 61,.int .u8 58,.int .u8 42,.int .u8 50,.int .u8 38,.int .u8 29,.int .u8 17,.int .u8 4,.int .u8 62,.int .u8 47,.int .u8 59,.int .u8 36,.int .u8 45,.int .u8 43,.int .u8 51,.int .u8 22,.int .u8 53,.int .u8 39,.int .u8 33,.int .u8 30,.int .u8 24,.int .u8 18,.int .u8 12,.int .u8 5,.int .u8 63,.int .u8 55,.int .u8 48,.int .u8 27,.int .u8 60,.int .u8 41,.int .u8 37,.int .u8 16,.int .u8 46,.int .u8 35,.int .u8 44,.int .u8 21,.int .u8 52,.int .u8 32,.int .u8 23,.int .u8 11,.int .u8 54,.int .u8 26,.int .u8 40,.int .u8 15,.int .u8 34,.int .u8 20,.int .u8 31,.int .u8 10,.int .u8 25,.int .u8 14,.int .u8 19,.int .u8 9,.int .u8 13,.int .u8 8,.int .u8 7,.int .u8 6] t frozen|o=>o}:World)).forCall (fun _ _=>0) ⟨#[],#[.agg #[.float .f64 0,.float .f64 0],.agg #[.float .f64 0,.float .f64 0],.int .i64 0],[]⟩).memory Tryz.f5.params.toList Rows.spanReckonsSpec.vars false (#[.agg #[.float .f64 0,.float .f64 0],.agg #[.float .f64 0,.float .f64 0],.int .i64 0]:Array Value).toList 8=some ([.agg [.lit (.float .f64 0),.lit (.float .f64 0)],.agg [.lit (.float .f64 0),.lit (.float .f64 0)],.lit (.int .i64 0)],[],places):=
 ⟨[],by kernel_rfl⟩
set_option maxRecDepth 100000 in
theorem lifted (os:Os) (started:os.Started) (H:Type) (enc:TypeId×Value→H) (F:Stop.Interp):
  ReturnsInHanded {} Tryz.checked os 5 .any ((OpenSpec.ofChange Rows.spanReckonsSpec).preRow enc Tryz.prog Tryz.f5 Rows.spanReckonsRow.domain false Rows.spanReckonsRow.laid) (((OpenSpec.ofChange Rows.spanReckonsSpec).at F).post enc Tryz.prog Tryz.f5 false true false false):=by
 obtain⟨places,K⟩:=reads os enc;refine returnsInHanded_of_row (C:=Tryz.checked) (s:=OpenSpec.ofChange Rows.spanReckonsSpec) own started eZ Tryz.func5
  (witness_row_at (enc:=enc) (C:=Tryz.checked) false ({World.holding Tryz.prog os ⟨#[],#[],[]⟩ with heap:=(World.holding Tryz.prog os ⟨#[],#[],[]⟩).heap.modify 1 fun| .cells _ t frozen=> .cells #[.int .u8 0,.int .u8 1,.int .u8 56,.int .u8 2,.int .u8 57,.int .u8 49,.int .u8 28,.int .u8 3,.int .u8 61,.int .u8 58,.int .u8 42,.int .u8 50,.int .u8 38,.int .u8 29,.int .u8 17,.int .u8 4,.int .u8 62,.int .u8 47,.int .u8 59,.int .u8 36,.int .u8 45,.int .u8 43,.int .u8 51,.int .u8 22,.int .u8 53,.int .u8 39,.int .u8 33,.int .u8 30,.int .u8 24,.int .u8 18,.int .u8 12,.int .u8 5,.int .u8 63,.int .u8 55,.int .u8 48,.int .u8 27,.int .u8 60,.int .u8 41,.int .u8 37,.int .u8 16,.int .u8 46,.int .u8 35,.int .u8 44,.int .u8 21,.int .u8 52,.int .u8 32,.int .u8 23,.int .u8 11,.int .u8 54,.int .u8 26,.int .u8 40,.int .u8 15,.int .u8 34,.int .u8 20,.int .u8 31,.int .u8 10,.int .u8 25,.int .u8 14,.int .u8 19,.int .u8 9,.int .u8 13,.int .u8 8,.int .u8 7,.int .u8 6] t frozen|o=>o}:World) #[.agg #[.float .f64 0,.float .f64 0],.agg #[.float .f64 0,.float .f64 0],.int .i64 0] rfl eZ eZ eZ
   (OpenSpec.preRow_of_cond 8 K eZ (fun k J=>by cases J) eZ (q2O os))) ?_
 intro W A args D gs before B I _ _ _ E _ _;exact contract H enc W A args D gs before B I E
theorem said:Rows.SpanReckonsSaid:=by
 first
 |exact OpenClaim.holds_of_cond 5 Tryz.f5 rfl rfl rfl rfl rfl rfl rfl ⟨rfl,rfl,rfl,rfl,rfl⟩ rfl rfl rfl rfl rfl eZ Tryz.func5 eZ
   (of_decide_eq_true eZ) (by unfold Func.isWrapper;first|(rw[if_pos (by decide+kernel)];kernel_rfl)|(rw[if_neg (by decide+kernel)];exact⟨rfl,rfl⟩))
   (fun os started H enc _ F=>by rw[OpenClaim.pre_eq_preRow];exact lifted os started H enc F)
 |exact o6 rfl rfl rfl rfl (OpenClaim.holds_of_cond (c:={Rows.spanReckonsRow with leaving:=false}) 5 Tryz.f5 rfl rfl rfl rfl rfl rfl rfl ⟨rfl,rfl,rfl,rfl,rfl⟩ rfl rfl rfl rfl rfl eZ Tryz.func5 eZ
   (of_decide_eq_true eZ) (by unfold Func.isWrapper;first|(rw[if_pos (by decide+kernel)];kernel_rfl)|(rw[if_neg (by decide+kernel)];exact⟨rfl,rfl⟩))
   (fun os started H enc _ F=>by rw[OpenClaim.pre_eq_preRow];exact lifted os started H enc F))
theorem plain (f:FuncId) (fn:Func) (D:Tryz.pinned.checked.prog.funcNamed "enclosure/enclosurelaw.SpanReckons" =some f) (A:Tryz.pinned.checked.prog.funcs[f]? =some fn):
  true=Tryz.pinned.checked.prog.looks []∧∀ (j:Nat) t,fn.params[j]? =some t→Tryz.pinned.checked.prog.wantsStandIn t=false:=by
 obtain rfl:f=5:=ct ((show Tryz.prog.funcNamed "enclosure/enclosurelaw.SpanReckons" =some 5 by kernel_rfl).symm.trans D) |>.symm;obtain rfl:fn=Tryz.f5:=(ct (Tryz.func5.symm.trans A)).symm;refine⟨by kernel_rfl,fun j t C=> ?_⟩;rw[Tryz.params5] at C;have B:t=72∨t=72∨t=3:=by simpa using Array.mem_of_getElem? C
 rcases B with rfl|rfl|rfl
 ·exact(show Tryz.prog.wantsStandIn 72=false by kernel_rfl)
 ·exact(show Tryz.prog.wantsStandIn 72=false by kernel_rfl)
 ·exact(show Tryz.prog.wantsStandIn 3=false by kernel_rfl)
/-- THE CARD. -/
theorem card:Rows.SpanReckonsCardSaid:=by
 first
 |exact Claim7.holds_tied_plain_at .later [] _ _ _ _ said (fun _ h=>by cases h) eZ (fun _ h=>by cases h) spanReckons_row_tie rfl ⟨rfl,rfl⟩ eZ rfl plain eZ
 |exact q1c .later _ _ _ _ said eZ spanReckons_row_tie rfl ⟨rfl,rfl⟩ eZ rfl plain eZ
end Go.Proofs.YtohcneeihdkfgaaGreatDoor.spanReckons
