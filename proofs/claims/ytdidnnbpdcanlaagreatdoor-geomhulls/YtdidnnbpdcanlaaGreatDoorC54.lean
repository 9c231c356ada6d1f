/- What is proved: the given card on the law GeomHulls: called with any arguments of its types, in whatever memory in which the library's table of the trailing zeros (math bits) and the law's own mark (noPoint) read as the program's text lays them (the card ties them), it returns true; each argument reads behind the call as it read before, and all other memory that was there is as it was. No further condition. This text: the row's frame and the card round the walk of the texts before it. -/
import Derived.Test.YtdidnnbpdcanlaaGreatDoorCards
import Derived.Test.YtdidnnbpdcanlaaGreatDoorTie
import Derived.Test.YtdidnnbpdcanlaaGreatDoorC53
import Derived.Test.YtdidnnbpdcanlaaGreatDoorC50
import Derived.Test.YtdidnnbpdcanlaaGreatDoorC7
import Derived.WalkKit
import Derived.ProofKit
import Derived.OpenShut
import Derived.WalkLawsBesides
import Derived.Deep.DeepHandedRow
import Derived.Lib.LaidTab
import Derived.Carry
namespace Go.Proofs.YtdidnnbpdcanlaaGreatDoor.geomHulls
open Go.ChangeShapes Go.WideShapes Go.ChangeAt Go.RowKit
theorem own:ownKnob Tryz.prog.godebug=none:=by kernel_rfl
theorem gTab:Tryz.prog.globalNamed "math/bits.deBruijn64tab" =some 2:=by kernel_rfl
theorem q9u:(Tryz.prog.globals[2]?).map (·.type)=some 255:=by kernel_rfl
theorem q8N:Tryz.prog.cellsOf 255=64:=by kernel_rfl
theorem cellsByte:Tryz.prog.cellsOf 5=1:=by kernel_rfl
theorem q7C {P:Program} {W:World} {x:String×DataW Unit} {r:List (String×DataW Unit)} (h:laidMet P (x::r) W):laidMet P r W:=by
 obtain⟨ps,h1,hn,hc⟩:=h
 obtain⟨n,d⟩:=x
 obtain⟨g,t,cs,fuel,p,q,_,_,_,_,hq,rfl⟩:=h1
 exact⟨q,hq,(List.nodup_append.1 hn).2.1,fun b off hm=>hc b off (List.mem_append_right _ hm)⟩
theorem gNo:Tryz.prog.globalNamed "enclosure/enclosurelaw.noPoint" =some 0:=by kernel_rfl
theorem gNoType:(Tryz.prog.globals[0]?).map (·.type)=some 32:=by kernel_rfl
set_option maxRecDepth 100000 in
theorem qaw {W:World} (h:laidMetH Tryz.prog Rows.geomHullsRow.laid W):EN.NoPt W:=by
 obtain⟨ps,⟨g,t,cs,fuel,p,q,hg,ht,hvar,hd,-,-⟩,-⟩:=q7C (show laidMet Tryz.prog Rows.geomHullsRow.laid W from h)
 obtain rfl:=Option.some.inj (gNo.symm.trans hg)
 obtain rfl:=Option.some.inj (gNoType.symm.trans ht)
 obtain⟨y0,y1,n,hx,hl,h0,h1⟩:=trod_struct2 Tryz.underlying32 hd
 rw[EN.cellsPoint] at hl
 obtain⟨c0,c1,rfl⟩:∃ c0 c1,cs=#[c0,c1]:=by
  rcases cs with ⟨l⟩
  match l,hl with
  |[c0,c1],_=>exact⟨c0,c1,rfl⟩
 have h0:DataW.trod (fun _=>()) Tryz.prog W 0 (fun _=>true) false n 30 [c0]=some y0:=h0
 have h1:DataW.trod (fun _=>()) Tryz.prog W 0 (fun _=>true) false n 30 [c1]=some y1:=h1
 obtain⟨x,rfl,rfl,-⟩:=EN.float_at h0
 obtain⟨y,rfl,rfl,-⟩:=EN.float_at h1
 have e:(DataW.agg [.lit (.float .f64 13845050416955392000),.lit (.float .f64 13845050416955392000)]:DataW Unit)= .agg [.lit (.float .f64 x),.lit (.float .f64 y)]:=congrArg Prod.fst hx
 injection e with e
 injection e with e1 e2
 injection e2 with e2 e3
 injection e1 with e1
 injection e1 with _ e1
 injection e2 with e2
 injection e2 with _ e2
 subst e1 e2
 have k0:=World.var?_cell gNo hvar 0
 have k1:=World.var?_cell gNo hvar 1
 refine⟨?_,k0,k1⟩
 by_cases hs:0<W.heap.size
 ·exact hs
 ·have:W.heap[0]? =none:=Array.getElem?_eq_none (by omega)
  simp [World.cell?,this] at k0
theorem table {W:World} (h:laidMetH Tryz.prog Rows.geomHullsRow.laid W):Lib.TabIs Tryz.prog W "math/bits.deBruijn64tab" .u8 (FT.tab.map Int.ofNat):=
 Lib.tabIs_of_head (rest:=[_]) gTab q9u Tryz.underlying255 Tryz.underlying5 cellsByte q8N h
theorem qbd {W:World} (h:laidMetH Tryz.prog Rows.geomHullsRow.laid W):Tab W:=by
 have ht:=table h
 have hc:∀ i,i<64→W.cell? ⟨2,i,none⟩=some (.int .u8 (FT.tab.getD i 0:Nat)):=by
  intro i hi
  have:=ht.cell gTab i (by rw[List.length_map];exact hi)
  rw[this]
  have hl:i<FT.tab.length:=hi
  simp [List.getD,hl]
 refine⟨?_,hc⟩
 have h0:=hc 0 (by omega)
 by_cases hs:2<W.heap.size
 ·exact hs
 ·have:W.heap[2]? =none:=Array.getElem?_eq_none (by omega)
  simp [World.cell?,this] at h0
theorem laidOut:laidOutB Tryz.prog=true:=by kernel_rfl
set_option maxRecDepth 100000 in
theorem contract (H:Type) (enc:TypeId×Value→H) (W:World) (base:Nat) (args:Array Value) (ds gs:List (DataW H)) (before:List MemPlace)
  (hval:∀ (j:Nat) t v,Tryz.f3.params[j]? =some t→args[j]? =some v→Value.okWide Tryz.prog W .any base t v)
  (hW:DataW.Whole enc Tryz.prog Tryz.f3.params.toList Rows.geomHullsSpec.vars false W args.toList ds gs before) (hL:laidMetH Tryz.prog Rows.geomHullsRow.laid W):
  Calls Tryz.prog 3 args W fun e W'=>∃ v,e= .returned v∧Rows.geomHullsSpec.post enc Tryz.prog Tryz.f3 false true false false W args v W':=by
 have hW':=hW
 obtain⟨p,q,je,hV,rfl,hfz,hnd⟩:=hW
 have hA:DataW.TrodAll enc Tryz.prog W 0 (fun _=>true) true Tryz.f3.params.toList args.toList ds p:=je
 rw[Tryz.params3] at hA hval
 obtain⟨v0,Tw,d0,ds0,p0,q0,hargs,rfl,rfl,h0,r0⟩:=trodAll_cons hA
 obtain⟨rfl,rfl,rfl⟩:=trodAll_nil r0
 obtain rfl:args=#[v0]:=by cases args;simp_all
 obtain⟨rfl,rfl⟩:=trodVars_none hV
 have k0:=h0
 obtain⟨s0,n0,c0,rfl⟩:=okWide_slice Tryz.underlying22 (hval 0 22 v0 rfl rfl)
 obtain⟨x0,f0,w0⟩:=EN.psl_open rfl h0
 clear je
 simp only[List.append_nil] at hW'
 have hT:=qbd hL
 have hN:=qaw hL
 refine(EN.geomHulls_c W _ x0 hT hN f0 w0).mono fun e W' ⟨he,bel⟩=> ?_
 subst he
 exact⟨_,rfl,_,_,_,[],_,[],hW',trodAll_mk1 (shut_bool Tryz.underlying4 _),trodAll_cons_mk (Below.trod laidOut (by kernel_rfl) (of_decide_eq_true (by kernel_rfl)) k0 bel (fun x hx=>hW'.lt x (by simp [hx]))) (trodAll_mk0),rfl,Below.frame bel _,fun h=>by cases h⟩
theorem q9l (os:Os):laidMet Tryz.prog Rows.geomHullsRow.laid ((({World.holding Tryz.prog os ⟨#[],#[],[]⟩ with heap:=((World.holding Tryz.prog os ⟨#[],#[],[]⟩).heap.modify 2 fun| .cells _ t frozen=> .cells #[.int .u8 0,.int .u8 1,.int .u8 56,.int .u8 2,.int .u8 57,.int .u8 49,.int .u8 28,.int .u8 3,.int .u8 61,.int .u8 58,.int .u8 42,.int .u8 50,.int .u8 38,.int .u8 29,.int .u8 17,.int .u8 4,.int .u8 62,.int .u8 47,.int .u8 59,.int .u8 36,.int .u8 45,.int .u8 43,.int .u8 51,.int .u8 22,.int .u8 53,.int .u8 39,.int .u8 33,.int .u8 30,.int .u8 24,.int .u8 18,.int .u8 12,.int .u8 5,.int .u8 63,.int .u8 55,.int .u8 48,.int .u8 27,.int .u8 60,.int .u8 41,.int .u8 37,.int .u8 16,.int .u8 46,.int .u8 35,.int .u8 44,.int .u8 21,.int .u8 52,.int .u8 32,.int .u8 23,.int .u8 11,.int .u8 54,.int .u8 26,.int .u8 40,.int .u8 15,.int .u8 34,.int .u8 20,.int .u8 31,.int .u8 10,.int .u8 25,.int .u8 14,.int .u8 19,.int .u8 9,.int .u8 13,.int .u8 8,.int .u8 7,.int .u8 6] t frozen|o=>o).modify 0 fun| .cells _ t frozen=> .cells #[.float .f64 13845050416955392000,.float .f64 13845050416955392000] t frozen|o=>o}:World)).forCall (fun _ _=>0) ⟨#[],#[.slice none 0 0],[]⟩).memory:=
 laidMet_of_run' 8 (by kernel_rfl) (by kernel_rfl)
theorem reads (os:Os) {H:Type} (enc:TypeId×Value→H):∃ places,DataW.whole enc Tryz.prog ((({World.holding Tryz.prog os ⟨#[],#[],[]⟩ with heap:=((World.holding Tryz.prog os ⟨#[],#[],[]⟩).heap.modify 2 fun| .cells _ t frozen=> .cells #[.int .u8 0,.int .u8 1,.int .u8 56,.int .u8 2,.int .u8 57,.int .u8 49,.int .u8 28,.int .u8 3,.int .u8 61,.int .u8 58,.int .u8 42,.int .u8 50,.int .u8 38,.int .u8 29,.int .u8 17,.int .u8 4,.int .u8 62,.int .u8 47,.int .u8 59,.int .u8 36,.int .u8 45,.int .u8 43,.int .u8 51,.int .u8 22,.int .u8 53,.int .u8 39,.int .u8 33,.int .u8 30,.int .u8 24,.int .u8 18,.int .u8 12,.int .u8 5,.int .u8 63,.int .u8 55,.int .u8 48,.int .u8 27,.int .u8 60,.int .u8 41,.int .u8 37,.int .u8 16,.int .u8 46,.int .u8 35,.int .u8 44,.int .u8 21,.int .u8 52,.int .u8 32,.int .u8 23,.int .u8 11,.int .u8 54,.int .u8 26,.int .u8 40,.int .u8 15,.int .u8 34,.int .u8 20,.int .u8 31,.int .u8 10,.int .u8 25,.int .u8 14,.int .u8 19,.int .u8 9,.int .u8 13,.int .u8 8,.int .u8 7,.int .u8 6] t frozen|o=>o).modify 0 fun| .cells _ t frozen=> .cells #[.float .f64 13845050416955392000,.float .f64 13845050416955392000] t frozen|o=>o}:World)).forCall (fun _ _=>0) ⟨#[],#[.slice none 0 0],[]⟩).memory Tryz.f3.params.toList Rows.geomHullsSpec.vars false (#[.slice none 0 0]:Array Value).toList 8=some ([.nil],[],places):=
 ⟨[],by kernel_rfl⟩
set_option maxRecDepth 100000 in
theorem lifted (os:Os) (started:os.Started) (H:Type) (enc:TypeId×Value→H) (F:Stop.Interp):
  ReturnsInHanded {} Tryz.checked os 3 .any ((OpenSpec.ofChange Rows.geomHullsSpec).preRow enc Tryz.prog Tryz.f3 Rows.geomHullsRow.domain false Rows.geomHullsRow.laid) (((OpenSpec.ofChange Rows.geomHullsSpec).at F).post enc Tryz.prog Tryz.f3 false true false false):=by
 obtain⟨places,hx⟩:=reads os enc
 refine returnsInHanded_of_row (C:=Tryz.checked) (s:=OpenSpec.ofChange Rows.geomHullsSpec) own started (by kernel_rfl) Tryz.func3
  (witness_row_at (enc:=enc) (C:=Tryz.checked) false ({World.holding Tryz.prog os ⟨#[],#[],[]⟩ with heap:=((World.holding Tryz.prog os ⟨#[],#[],[]⟩).heap.modify 2 fun| .cells _ t frozen=> .cells #[.int .u8 0,.int .u8 1,.int .u8 56,.int .u8 2,.int .u8 57,.int .u8 49,.int .u8 28,.int .u8 3,.int .u8 61,.int .u8 58,.int .u8 42,.int .u8 50,.int .u8 38,.int .u8 29,.int .u8 17,.int .u8 4,.int .u8 62,.int .u8 47,.int .u8 59,.int .u8 36,.int .u8 45,.int .u8 43,.int .u8 51,.int .u8 22,.int .u8 53,.int .u8 39,.int .u8 33,.int .u8 30,.int .u8 24,.int .u8 18,.int .u8 12,.int .u8 5,.int .u8 63,.int .u8 55,.int .u8 48,.int .u8 27,.int .u8 60,.int .u8 41,.int .u8 37,.int .u8 16,.int .u8 46,.int .u8 35,.int .u8 44,.int .u8 21,.int .u8 52,.int .u8 32,.int .u8 23,.int .u8 11,.int .u8 54,.int .u8 26,.int .u8 40,.int .u8 15,.int .u8 34,.int .u8 20,.int .u8 31,.int .u8 10,.int .u8 25,.int .u8 14,.int .u8 19,.int .u8 9,.int .u8 13,.int .u8 8,.int .u8 7,.int .u8 6] t frozen|o=>o).modify 0 fun| .cells _ t frozen=> .cells #[.float .f64 13845050416955392000,.float .f64 13845050416955392000] t frozen|o=>o}:World) #[.slice none 0 0] rfl (by kernel_rfl) (by kernel_rfl) (by kernel_rfl)
   (OpenSpec.preRow_of_cond 8 hx (by kernel_rfl) (fun k hk=>by cases hk) (by kernel_rfl) (q9l os))) ?_
 intro W base args ds gs before hval hW _ _ _ hL _ _
 exact contract H enc W base args ds gs before hval hW hL
theorem said:Rows.GeomHullsSaid:=by
 first
 |exact OpenClaim.holds_of_cond 3 Tryz.f3 rfl rfl rfl rfl rfl rfl rfl ⟨rfl,rfl,rfl,rfl,rfl⟩ rfl rfl rfl rfl rfl (by kernel_rfl) Tryz.func3 (by kernel_rfl)
   (of_decide_eq_true (by kernel_rfl)) (by unfold Func.isWrapper;first|(rw[if_pos (by decide+kernel)];kernel_rfl)|(rw[if_neg (by decide+kernel)];exact⟨rfl,rfl⟩))
   (fun os started H enc _ F=>by rw[OpenClaim.pre_eq_preRow];exact lifted os started H enc F)
 |exact q3L rfl rfl rfl rfl (OpenClaim.holds_of_cond (c:={Rows.geomHullsRow with leaving:=false}) 3 Tryz.f3 rfl rfl rfl rfl rfl rfl rfl ⟨rfl,rfl,rfl,rfl,rfl⟩ rfl rfl rfl rfl rfl (by kernel_rfl) Tryz.func3 (by kernel_rfl)
   (of_decide_eq_true (by kernel_rfl)) (by unfold Func.isWrapper;first|(rw[if_pos (by decide+kernel)];kernel_rfl)|(rw[if_neg (by decide+kernel)];exact⟨rfl,rfl⟩))
   (fun os started H enc _ F=>by rw[OpenClaim.pre_eq_preRow];exact lifted os started H enc F))
theorem plain (f:FuncId) (fn:Func) (hf:Tryz.pinned.checked.prog.funcNamed "enclosure/enclosurelaw.GeomHulls" =some f) (hfn:Tryz.pinned.checked.prog.funcs[f]? =some fn):
  false=Tryz.pinned.checked.prog.looks []∧∀ (j:Nat) t,fn.params[j]? =some t→Tryz.pinned.checked.prog.wantsStandIn t=false:=by
 obtain rfl:f=3:=Option.some.inj ((show Tryz.prog.funcNamed "enclosure/enclosurelaw.GeomHulls" =some 3 by kernel_rfl).symm.trans hf) |>.symm
 obtain rfl:fn=Tryz.f3:=(Option.some.inj (Tryz.func3.symm.trans hfn)).symm
 refine⟨by kernel_rfl,fun j t ht=> ?_⟩
 rw[Tryz.params3] at ht
 have ht2:t=22:=by simpa using Array.mem_of_getElem? ht
 subst ht2
 exact(show Tryz.prog.wantsStandIn 22=false by kernel_rfl)
/-- THE CARD. -/
theorem card:Rows.GeomHullsCardSaid:=by
 first
 |exact Claim7.holds_tied_plain_at .later [] _ _ _ _ said (fun _ h=>by cases h) (by kernel_rfl) (fun _ h=>by cases h) geomHulls_row_tie rfl ⟨rfl,rfl⟩ (by kernel_rfl) rfl plain (by kernel_rfl)
 |exact q8p .later _ _ _ _ said (by kernel_rfl) geomHulls_row_tie rfl ⟨rfl,rfl⟩ (by kernel_rfl) rfl plain (by kernel_rfl)
end Go.Proofs.YtdidnnbpdcanlaaGreatDoor.geomHulls
