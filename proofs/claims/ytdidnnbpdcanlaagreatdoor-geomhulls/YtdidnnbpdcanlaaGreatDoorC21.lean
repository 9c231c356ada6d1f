/- What is proved here: slices.Values, AppendSeq and Collect of points, over this seat's translation. -/
import Derived.RangeFuncNested
import Derived.RangeFuncBound
import Derived.RangeFuncCalls
import Derived.RangeFuncLeaves
import Derived.Shelf.Abstract
import Derived.Shelf.RegionOpen
import Derived.WalkKit
import Derived.OwnWalkIn
import Derived.TacticsInMore
import Derived.LoopNIn
import Derived.LoopIn
import Derived.Test.YtdidnnbpdcanlaaGreatDoorC20
namespace Go.Proofs.YtdidnnbpdcanlaaGreatDoor.EN
open Go.ChangeShapes Go.WideShapes Go.ChangeAt Go.RowKit Go.Shelf
attribute [local go_sem] Oper.semAt_some
/-- A store of a float. -/
theorem q4w (P:Program) (w:World) (a:Addr) (m:Mode) (k:FloatKind) (n:Nat):(store a (.float k n) m).run P w=stored P w a (.float k n) m:=run_store P w a _ m rfl
attribute [local go_sem] q4w
/-- A slice of points in blocks below n₀. -/
def PSlB (n₀:Nat) (w:World) (v:Value) (l:List (Nat×Nat)):Prop:=
 ∃ a c,v= .slice a l.length c∧l.length≤c∧∀ i,i<l.length→∃ b o,a=some ⟨b,o,none⟩∧b<n₀∧w.cell? ⟨b,o+i*2,none⟩=some (.float .f64 (l.getD i (0,0)).1)∧w.cell? ⟨b,o+i*2+1,none⟩=some (.float .f64 (l.getD i (0,0)).2)
theorem PSlB.below {n₀:Nat} {A B:World} {v:Value} {l:List (Nat×Nat)} (h:PSlB n₀ A v l) (g:Below n₀ A B):PSlB n₀ B v l:=by
 obtain⟨a,c,e,hc,h⟩:=h
 refine⟨a,c,e,hc,fun i hi=> ?_⟩
 obtain⟨b,o,e1,h1,h2,h3⟩:=h i hi
 exact⟨b,o,e1,h1,(g.cell (p:=⟨b,o+i*2,none⟩) h1).trans h2,(g.cell (p:=⟨b,o+i*2+1,none⟩) h1).trans h3⟩
set_option maxRecDepth 100000 in
set_option maxHeartbeats 2000000 in
theorem q6d (F:Fence) (n:Nat) (h7:F.fn 83) (hro:F.round=none) (hn:1≤n) (l Bs n₀:Nat) (sv:Value) (zs:List (Nat×Nat)) (hlen:zs.length≤1000000) (J Jx:List (Nat×Nat)→World→Prop) (W:World) (hJ:AbidesFrom W.heap.size J) (hn0:n₀≤W.heap.size)
  (hY:∀ pre x W,J pre W→pre.length<zs.length→YieldAt F (n-1) Tryz.prog l #[.agg #[.float .f64 x.1,.float .f64 x.2]] W fun e W'=>
   (e= .returned (.bool true)∧J (pre++[x]) W'∧Below n₀ W W')∨(e= .returned (.bool false)∧Jx (pre++[x]) W'))
  (oL:W.cell? ⟨Bs,0,none⟩=some sv) (hc:PSlB n₀ W sv zs) (h0:J [] W):
  CallsIn F n Tryz.prog 83 #[.func (.yield l) #[] #[],.pointer (some ⟨Bs,0,none⟩)] W fun e W'=>(∃ v,e= .returned v)∧
   ((∃ ys,ys=zs∧J ys W')∨(∃ pre,pre<+:zs∧Jx pre W')):=by
 obtain⟨pa,ca,rfl,-,-⟩:=id hc
 have HC:Hid (PSlB n₀ W (.slice pa zs.length ca) zs):=hc
 clear hc
 obtain⟨m,hm⟩:∃ m,m=zs.length:=⟨_,rfl⟩
 have HM:Hid _:=hm
 rw[← hm] at oL hlen
 clear hm
 refine callsIn_of_wp Tryz.func83 rfl h7 ?_ hro
 simp only[Tryz.ntmps83,List.size_toArray,List.length_cons,List.length_nil,Nat.reduceAdd,Nat.reduceSub,Array.replicate_succ,Array.replicate_zero,List.push_toArray,List.append_toArray,List.nil_append,List.cons_append]
 gi_wp2
 gi_loopw [7] (fun i wr=>∃ k:Nat,k≤m∧i= .int .i64 k∧J (zs.take k) wr∧Below n₀ W wr) (fun i _=>m-(intOf i).toNat)
 case atStart=>exact⟨0,Nat.zero_le _,rfl,h0,Below.refl _ _⟩
 case round=>
  obtain⟨k,hk,rfl,hJs,hnx⟩:=hrel
  by_cases hlt:k<m
  ·have hkz:k<zs.length:=by rw[← HM.out];exact hlt
   obtain⟨a',c',e',-,hrow⟩:=HC.out.below hnx
   rw[← HM.out] at e'
   injection e' with e1 e2 e3
   subst e1 e3
   obtain⟨b1,o1,rfl,hB1,hx,hy0⟩:=hrow k hkz
   obtain⟨x,ex⟩:∃ x,x=(zs.getD k (0,0)).1:=⟨_,rfl⟩
   obtain⟨y,ey⟩:∃ y,y=(zs.getD k (0,0)).2:=⟨_,rfl⟩
   rw[← ex] at hx
   rw[← ey] at hy0
   have NZ:J (zs.take k) (wr.alloc (.cells #[.float .f64 x,.float .f64 y] 32)):=hJ _ _ _ none hJs (World.grownBy_alloc wr _ none) (fun r e=>by cases e)
   have htk:zs.take (k+1)=zs.take k++[(x,y)]:=by
    rw[List.take_succ_eq_append_getElem hkz]
    congr 2
    rw[List.getD_eq_getElem?_getD,List.getElem?_eq_getElem hkz] at ex ey
    rw[ex,ey]
    rfl
   obtain⟨fn,tmps,assign,body,hy,hR⟩:=hY (zs.take k) (x,y) _ NZ (by rw[List.length_take];omega)
   rw[← htk] at hR
   have kY:Hid (Rec (wr.alloc (.cells #[.float .f64 x,.float .f64 y] 32)) wr.heap.size [.float .f64 x,.float .f64 y]):=Rec.new2 wr _ _ _
   have Ey:Hid (Below n₀ wr (wr.alloc (.cells #[.float .f64 x,.float .f64 y] 32))):=(Below.refl n₀ wr).alloc (Nat.le_trans hn0 hnx.size) _
   dsimp only at hy
   clear hrow hJs NZ ex ey htk hkz hB1
   have um:Hid (zs.take (k+1)<+:zs):=List.take_prefix _ _
   gi_wp2
   refine hR.mono ?_
   rintro e W3 (⟨rfl,hJ3,hk3⟩|⟨rfl,hJx3⟩)
   ·gi_wp2
    go_roundw
    case rel=>exact⟨k+1,by omega,by simp,hJ3,hnx.trans (Ey.out.trans hk3)⟩
    case measure=>simp [intOf];omega
   ·gi_wp2
    refine bodyPost_ret (results_none rfl _ _ _) rfl ?_
    exact⟨⟨_,rfl⟩,.inr ⟨_,um.out,hJx3⟩⟩
  ·obtain rfl:k=m:=by omega
   rw[HM.out,List.take_length] at hJs
   clear hlt oL
   gi_wp2
   go_end0
   exact⟨⟨_,rfl⟩,.inl ⟨_,rfl,hJs⟩⟩
/-- slices.Values hands back a value that gives the points in their order. -/
theorem values_stops (F:Fence) (n:Nat) (h7:F.fn 83) (hro:F.round=none) (hn:1≤n) (Bs n₀:Nat) (sv:Value) (zs:List (Nat×Nat)) (hlen:zs.length≤1000000) (w:World) (oL:Bs<w.heap.size) (hn₀:n₀≤w.heap.size)
  (hc:w.cell? ⟨Bs,0,none⟩=some sv) (hI:PSlB n₀ w sv zs):
  SeqStopsK F n Tryz.prog 83 #[.pointer (some ⟨Bs,0,none⟩)] (fun x:Nat×Nat=>#[Value.agg #[.float .f64 x.1,.float .f64 x.2]]) (Below n₀) (fun ys=>ys=zs) (fun pre=>pre<+:zs) zs.length w:=fun l J Jx W hW hJ _ hY h0=>
 q6d F n h7 hro hn l Bs n₀ sv zs hlen J Jx W hJ (Nat.le_trans hn₀ hW.size) hY ((hW.cell (p:=⟨Bs,0,none⟩) oL).trans hc) (hI.below (hW.mono hn₀)) h0
/-- What abides: a slice of points of our own. -/
theorem POwn.kept {W W':World} {base:Nat} {v:Value} {l:List (Nat×Nat)} {row:Option Nat} (h:POwn W base v l) (hg:W.grownBy W' row) (hr:∀ r,row=some r→∃ o:Obj,W.heap[r]? =some o∧o.isCells=false):POwn W' base v l:=by
 rcases h with h|⟨g,cap,cur,rfl,h1,h2,h3⟩
 ·exact Or.inl h
 ·refine Or.inr ⟨g,cap,cur,rfl,h1,(hg.block g (q1l h2) (fun e=> ?_)).trans h2,h3⟩
  obtain⟨o,ho,hc⟩:=hr g e.symm
  rw[h2] at ho
  cases ho
  cases hc
/-- An append whose run is known, within a fence. -/
theorem q4f {F:Fence} {n:Nat} {P:Program} (w:World) {ops:Array Oper} {rest:List Oper} {o:Oper} {a:Act} {Q:Exit→Act→World→Prop} (hgd:o.guard=none) (s x:Operand) (t:TypeId)
  (ho:o.op= .call {callee:= .builtin .append,args:=#[s,x],argTypes:=#[t,t]}) (v sl:Value) (hs:a.eval s=v) (hx:a.eval x=sl) {v':Value} {w':World}
  (hr:(Builtin.append_ #[t,t] o.type #[v,sl]).run P w= .ok v' w') (h:wpListIn F n P ops Q rest (a.put o.dst v') w'):wpListIn F n P ops Q (o::rest) a w:=
 wpListIn_plain hgd fun _ hK=>by
  unfold Oper.wpIn
  refine⟨?_,?_⟩
  ·simp [Oper.about,ho,resolve,Target.leads,Sem.run_pure]
  ·rw[Oper.semAt_plain F _ _ (by rw[ho];intro c hc';cases hc')]
   simp [execOp,ho,resolve,invoke,builtin,hs,hx,hr,Result.andThen]
   exact hK _ _ h
theorem q0E {w:World} {a:Addr} {x:Value} {k:Nat} (h:k≠a.block):(w.setCell a x).heap[k]? =w.heap[k]? :=by
 simp only[World.setCell,Array.getElem?_modify,if_neg (Ne.symm h)]
theorem qce (B base:Nat) (t:TypeId):Go.Own (fun (pre:List (Nat×Nat)) W=>∃ v,Boxed W B t v∧POwn W base v pre):=fun pre X Y row hs hg hr=>by
 obtain⟨v,hb,ho⟩:=hs
 exact⟨v,hb.kept hg (fun e=>by
  obtain⟨o,h1,h2⟩:=hr B e.symm
  rw[show X.heap[B]? =_ from hb] at h1
  cases h1;cases h2),ho.kept hg hr⟩
theorem q6U (B:Nat) (L:Array Value) (t:TypeId) (p:Prop):Go.Own (fun (_:Unit) W=>W.heap[B]? =some (.cells L t (0,0))∧p):=fun _ X Y row hs hg hr=>
 ⟨(hg.block B (q1l hs.1) (fun e=>by
  obtain⟨o,h1,h2⟩:=hr B e.symm
  rw[hs.1] at h1
  cases h1;cases h2)).trans hs.1,hs.2⟩
set_option maxRecDepth 100000 in
set_option maxHeartbeats 2000000 in
theorem appendSeq_in (F:Fence) (n:Nat) (h1:F.fn 143) (h7:F.fn 83) (hro:F.round=none) (hn:3≤n) (Bs n₀:Nat) (sv:Value) (zs:List (Nat×Nat)) (hlen:zs.length≤1000000) (w:World) (oL:Bs<w.heap.size) (hn0:n₀≤w.heap.size)
  (hc:w.cell? ⟨Bs,0,none⟩=some sv) (hI:PSlB n₀ w sv zs):
  CallsIn F n Tryz.prog 143 #[.slice none 0 0,.func (.func 83) #[] #[.pointer (some ⟨Bs,0,none⟩)]] w fun e W'=>∃ v,e= .returned v∧POwn W' (w.heap.size+1) v zs∧Below w.heap.size w W':=by
 have hn1:1≤n:=by omega
 refine callsIn_of_wp_marks Tryz.func143 rfl h1 ?_ hro
 simp only[Tryz.ntmps143,List.size_toArray,List.length_cons,List.length_nil,Nat.reduceAdd,Nat.reduceSub,Array.replicate_succ,Array.replicate_zero,List.push_toArray,List.append_toArray,List.nil_append,List.cons_append]
 gi_wp2
 have bO:=Boxed.new w 22 (.slice none 0 0)
 have hB0:Below w.heap.size w (w.alloc (.cells #[.slice none 0 0] 22)):=(Below.refl _ w).alloc (Nat.le_refl _) _
 have hsz:(w.alloc (.cells #[.slice none 0 0] 22)).heap.size=w.heap.size+1:=by simp
 have hc0:=(hB0.cell (p:=⟨Bs,0,none⟩) oL).trans hc
 have hI0:=hI.below (hB0.mono hn0)
 obtain⟨W0,hW0⟩:∃ W0,w.alloc (.cells #[.slice none 0 0] 22)=W0:=⟨_,rfl⟩
 rw[hW0] at bO hB0 hsz hc0 hI0 ⊢
 clear hW0
 refine wpIn_rangeFunc_ownH hro hn1 (gf:=83) (lb:=#[.pointer (some ⟨Bs,0,none⟩)]) rfl h7 (enters_of Tryz.func83 (by kernel_rfl) rfl)
  (values_stops F (n-1) h7 hro (by omega) Bs n₀ sv zs hlen W0 (by omega) (by omega) hc0 hI0) belowK_t (belowK_b (by omega)) (Below.refl _ _) (fun _=>rfl)
  (fun pre W=>(∃ v,Boxed W w.heap.size 22 v∧POwn W (w.heap.size+1) v pre)∧Below w.heap.size w W)
  (fun _ _ _=>False)
  (OwnFrom.and (Own.from (qce w.heap.size (w.heap.size+1) 22) _) (ownFrom_below (Nat.le_refl _) (by omega)))
  (fun _ _ _ _ _ hs _ _=>hs)
  ⟨⟨_,bO,q2m _ _⟩,hB0⟩
  (fun x a' W=>∃ Bx,w.heap.size<Bx∧W.heap[Bx]? =some (.cells #[.float .f64 x.1,.float .f64 x.2] 32 (0,0))∧a'={tmps:=#[.slice none 0 0,.func (.func 83) #[] #[.pointer (some ⟨Bs,0,none⟩)],.pointer (some ⟨w.heap.size,0,none⟩),undef,.slice none 0 0,.pointer (some ⟨Bx,0,none⟩),.func (.func 83) #[] #[.pointer (some ⟨Bs,0,none⟩)],.agg #[.float .f64 x.1,.float .f64 x.2],undef,undef,undef,undef,undef],defers:=[]})
  (fun x a'=>Go.Own.from (fun _ X Y row hs hg hr=>by
   obtain⟨Bx,h1,h2,h3⟩:=hs
   exact⟨Bx,h1,(q6U Bx _ _ True () X Y row ⟨h2,trivial⟩ hg hr).1,h3⟩) _)
  ?assign ?body ?done ?stop
 case assign=>
  rintro l pre x W K ⟨⟨v,hv,hw⟩,hB⟩ hK
  have hs1:=hB.size
  have hlt:=hv.lt
  gi_wp2
  have hb:∀ m:Nat,m≤W.heap.size→Below m W (W.alloc (.cells #[.float .f64 x.1,.float .f64 x.2] 32)):=fun m hm=>(Below.refl m W).alloc hm _
  exact hK _ _ ((KeepsOthers.alloc _ _).from _) (hb _ (by omega)) ⟨⟨v,hv.alloc _,hw.G ((G.refl W).alloc _)⟩,hB.trans (hb _ (by omega))⟩ ⟨W.heap.size,hlt,World.alloc_heap_new W _,rfl⟩
 case body=>
  rintro l pre x a' W hl hr ⟨⟨v,hv,hw⟩,hB⟩ ⟨Bx,hBx,hX,rfl⟩ hlt
  obtain⟨x1,x2⟩:=x
  dsimp only at hX ⊢
  have hs1:=hB.size
  have hvl:=hv.lt
  have hc:=hv.cell
  have hx1:W.cell? ⟨Bx,0,none⟩=some (.float .f64 x1):=by simp [World.cell?,hX]
  have hx2:W.cell? ⟨Bx,1,none⟩=some (.float .f64 x2):=by simp [World.cell?,hX]
  have hN:=Rec.new2 W (.float .f64 x1) (.float .f64 x2) 32
  obtain⟨n0,n1,-⟩:=hN.f2
  have hO:=hw.G ((G.refl W).alloc (.cells #[.float .f64 x1,.float .f64 x2] 32))
  have hva:=hv.alloc (.cells #[.float .f64 x1,.float .f64 x2] 32)
  have BA:Below n₀ W (W.alloc (.cells #[.float .f64 x1,.float .f64 x2] 32)):=(Below.refl n₀ W).alloc (by omega) _
  have O0:Below w.heap.size W (W.alloc (.cells #[.float .f64 x1,.float .f64 x2] 32)):=(Below.refl _ W).alloc (by omega) _
  have Bq:KeepsFrom W0.heap.size W (W.alloc (.cells #[.float .f64 x1,.float .f64 x2] 32)):=(KeepsOthers.alloc _ _).from _
  have hszA:(W.alloc (.cells #[.float .f64 x1,.float .f64 x2] 32)).heap.size=W.heap.size+1:=by simp
  obtain⟨v',w',hrun,BB,lg⟩:=q1f _ (w.heap.size+1) v pre [(x1,x2)] hO (by omega) ⟨W.heap.size,0,none⟩ 1 1 rfl (fun j u hu=>by
   rcases j with _|_|j
   ·cases hu;exact n0
   ·cases hu;exact n1
   ·simp [pl] at hu) (by simp;omega) (by simp)
  obtain⟨a',c',rfl⟩:=BB.len
  have hv':Boxed w' w.heap.size 22 v:=(lg.h _ (by omega) (hO.own (Or.inl (by omega)))).trans hva
  have hc':=hv'.cell
  have hf':=hv'.frozen
  have hHB:Hid (Below n₀ W w'∧Below w.heap.size W w'):=⟨BA.trans (lg.below hO (by omega) (by omega)),O0.trans (lg.below hO (by omega) (by omega))⟩
  have SY:Hid (KeepsFrom W0.heap.size W w'):=Bq.trans ⟨lg.s,fun k o hk h0 ho=>by
   have hlt:=q1l h0
   refine(lg.h k hlt (fun e=> ?_)).trans h0
   rcases hO with ⟨rfl,-⟩|⟨g,cap,cur,rfl,-,h2,-⟩
   ·cases e
   ·have e:=Option.some.inj (e:some g=some k)
    subst e
    rw[h2] at h0
    cases h0;cases ho⟩
  have T9:Hid (POwn w' (w.heap.size+1) (.slice a' (pre++[(x1,x2)]).length c') (pre++[(x1,x2)])):=BB
  have Ta:Hid (Boxed w' w.heap.size 22 v):=hv'
  have Ua:Hid (w.heap.size<w'.heap.size):=hv'.lt
  clear hN hO hva BA O0 Bq hszA BB lg hv' hX n0 n1
  obtain⟨p0,p1,rfl⟩:=hw.len
  gi_wp2_with (gi_at_builtin;refine q4f _ rfl _ _ _ rfl _ _ rfl rfl hrun ?_)
  have hO2:=T9.out
  rw[show (pre++[(x1,x2)]).length=pre.length+1 from by simp] at hO2
  refine⟨SY.out.trans ((KeepsOthers.setCell _ _ _).from _),hHB.out.1.trans ((Below.refl n₀ w').setCell (p:=⟨w.heap.size,0,none⟩) hn0 _),⟨_,?_,hO2.oth (b:=w.heap.size) (hO2.own (Or.inl (by omega))) (fun k hk=>q0E hk)⟩,(hB.trans hHB.out.2).setCell (p:=⟨w.heap.size,0,none⟩) (Nat.le_refl _) _⟩
  simp only[Boxed,World.setCell,Array.getElem?_modify,if_true,show w'.heap[w.heap.size]? =_ from Ta.out,Option.map_some]
  rfl
 case done=>
  rintro D ys W hD rfl ⟨⟨v,hv,hw⟩,hB⟩ hK
  have hc:=hv.cell
  obtain⟨p0,p1,rfl⟩:=hw.len
  gi_wp2
  refine⟨by simp,.inl ⟨_,_,rfl,run_takeDeferred hK,?_⟩⟩
  exact⟨_,results_tmp rfl _ _ _,_,rfl,hw.kept (grownBy_putObj' W D _) (fun r e=>by cases e;exact⟨_,hK,rfl⟩),hB.trans (belowK_b (w:=w) (Nat.le_refl _) W D _ _ (by omega) hK rfl rfl)⟩
 case stop=>
  rintro D c pre W _ _ h _
  exact h.elim
theorem q56 (Bs n₀:Nat) (sv:Value) (zs:List (Nat×Nat)) (hlen:zs.length≤1000000) (w:World) (oL:Bs<w.heap.size) (hn0:n₀≤w.heap.size)
  (hc:w.cell? ⟨Bs,0,none⟩=some sv) (hI:PSlB n₀ w sv zs):
  Calls Tryz.prog 143 #[.slice none 0 0,.func (.func 83) #[] #[.pointer (some ⟨Bs,0,none⟩)]] w fun e W'=>∃ v,e= .returned v∧POwn W' w.heap.size v zs∧G w W':=
 (callsIn_wide.1 (appendSeq_in Fence.wide 3 trivial trivial rfl (Nat.le_refl _) Bs n₀ sv zs hlen w oL hn0 hc hI)).mono fun _ _ ⟨v,e,h,hb⟩=>⟨v,e,h.base (Nat.le_succ _),hb⟩
theorem q4S (Bs n₀:Nat) (sv:Value) (zs:List (Nat×Nat)) (hlen:zs.length≤1000000) (w:World) (oL:Bs<w.heap.size) (hn0:n₀≤w.heap.size)
  (hc:w.cell? ⟨Bs,0,none⟩=some sv) (hI:PSlB n₀ w sv zs):
  Calls Tryz.prog 81 #[.func (.func 83) #[] #[.pointer (some ⟨Bs,0,none⟩)]] w fun e W'=>∃ v,e= .returned v∧POwn W' w.heap.size v zs∧G w W':=by
 have H:=q56 Bs n₀ sv zs hlen w oL hn0 hc hI
 clear hc hI hlen
 go_enter Tryz.func81,Tryz.ntmps81
 go_wp2_with fail
 refine Calls.mono (P:=Tryz.prog) H ?_
 rintro e w1 ⟨v,rfl,h1,h2⟩
 go_wp2_with fail
 go_ret
 exact⟨_,rfl,h1,h2⟩
theorem q3U (w:World) (a:Option Addr) (n c:Nat):Calls Tryz.prog 41 #[.slice a n c] w fun e w'=>e= .returned (.func (.func 83) #[] #[.pointer (some ⟨w.heap.size,0,none⟩)])∧w'=w.alloc (.cells #[.slice a n c] 22):=by
 go_enter Tryz.func41,Tryz.ntmps41
 go_wp2
 go_ret
 exact⟨rfl,rfl⟩
end Go.Proofs.YtdidnnbpdcanlaaGreatDoor.EN
