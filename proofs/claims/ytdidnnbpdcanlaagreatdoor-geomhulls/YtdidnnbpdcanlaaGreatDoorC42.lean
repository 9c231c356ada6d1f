/- What is proved here: contracts of the law's helpers over lists of points: Lend, Still, Spoil, samePoint, over this seat's translation.
What is proved here: contracts of the law's helpers over lists of points: Still, Spoil, samePoint, over this seat's translation. -/
import Derived.Test.YtdidnnbpdcanlaaGreatDoorC36
import Derived.Test.YtdidnnbpdcanlaaGreatDoorC37
import Derived.Test.YtdidnnbpdcanlaaGreatDoorC41
import Derived.Laws.CopyRow
import Derived.Test.YtdidnnbpdcanlaaGreatDoorC34
import Derived.Test.YtdidnnbpdcanlaaGreatDoorC18
namespace Go.Proofs.YtdidnnbpdcanlaaGreatDoor.EN
open Go.ChangeShapes Go.WideShapes Go.ChangeAt Go.RowKit
attribute [local go_sem] q0d
/-- A list of points that was lent: its own block, three marks behind it. -/
def LentP (w:World) (base:Nat) (v:Value) (l:List (Nat×Nat)) (m:Nat×Nat):Prop:=∃ g cap,v= .slice (some ⟨g,0,none⟩) l.length cap∧POwn w base (.slice (some ⟨g,0,none⟩) (l.length+3) cap) (l++[m,m,m])
theorem LentP.G {w w':World} {base:Nat} {m:Nat×Nat} {v:Value} {l:List (Nat×Nat)} (h:LentP w base v l m) (g:G w w'):LentP w' base v l m:=by
 obtain⟨b,cap,e,h⟩:=h
 exact⟨b,cap,e,POwn.G h g⟩
theorem LentP.psl {w:World} {base:Nat} {m:Nat×Nat} {v:Value} {l:List (Nat×Nat)} (h:LentP w base v l m):PSl w v l:=by
 obtain⟨g,cap,rfl,h⟩:=h
 have h2:=h.cut (k:=l.length) (by simp)
 rw[List.take_left' rfl] at h2
 exact h2.psl
theorem q6S (n m:Nat) (hm:m≤n) (hn:n≤1048576) (w:World):(Instr.makeSlice 22 (.int .i64 (m:Int)) (.int .i64 (n:Int))).run Tryz.prog w= .ok (.slice (some ⟨w.heap.size,0,none⟩) m n) (w.alloc (.cells (madeCells #[.float .f64 0,.float .f64 0] (n*2)) 32)):=by
 obtain⟨i,hi,hz,hs,hb⟩:=q7x
 have h:=run_make (P:=Tryz.prog) w 22 32 i _ Tryz.underlying22 hi hz .i64 .i64 (m:Int) (n:Int) (by omega) (by omega) (by rw[hb];omega) (by omega)
 rw[hs] at h
 exact h
theorem q6s {n:Nat} {x:Value} (h:x∈(madeCells #[.float .f64 0,.float .f64 0] n).toList):x= .float .f64 0:=by
 unfold madeCells at h
 simp only[Array.toList_map,List.mem_map] at h
 obtain⟨k,-,rfl⟩:=h
 have hk:k%(#[.float .f64 0,.float .f64 0]:Array Value).size<2:=Nat.mod_lt _ (by decide)
 generalize k%(#[.float .f64 0,.float .f64 0]:Array Value).size=k' at hk
 rcases k' with _|_|k'
 ·rfl
 ·rfl
 ·omega
theorem q93 (w:World) (base:Nat) (v src:Value) (l m:List (Nat×Nat)) (h:POwn w base v l) (hb:base≤w.heap.size) (hsrc:PSl w src m) (hlen:l.length+m.length≤1000000):
  ∃ v' w',(Builtin.append_ #[22,22] 22 #[v,src]).run Tryz.prog w= .ok v' w'∧POwn w' base v' (l++m)∧OntoP base v w w':=by
 obtain⟨a,c,rfl,-,hr⟩:=hsrc
 by_cases hm:m=[]
 ·subst hm
  obtain⟨i,hi,-⟩:=q7x
  have hS:Src Tryz.prog i.size 22 (.slice a 0 c) 0 [] w:=by
   cases a with
   |none=>exact Src.ofNil w Tryz.underlying22 c
   |some a=>exact Src.ofSlice w Tryz.underlying22 a 0 c [] (by simp) (fun j u hu=>by simp at hu) (fun u hu=>by cases hu)
  have hl:∃ ao n cap,v= .slice ao n cap∧n≤cap:=by
   rcases h with ⟨rfl,-⟩|⟨g,cap,cur,rfl,-,-,h3,-⟩
   ·exact⟨_,_,_,rfl,Nat.le_refl _⟩
   ·exact⟨_,_,_,rfl,h3⟩
  obtain⟨ao,n,cap,rfl,hle⟩:=hl
  refine⟨_,w,run_append_nothing (P:=Tryz.prog) w 22 22 22 32 i Tryz.underlying22 hi ao n cap hle _ hS,by rw[List.append_nil];exact h,q1o (G.refl w)⟩
 ·have hpos:0<m.length:=List.length_pos_iff.2 hm
  obtain⟨b,o,rfl,-,-⟩:=hr 0 hpos
  refine q1f w base v l m h hb ⟨b,o,none⟩ m.length c rfl (fun j u hu=> ?_) hlen hpos
  have hj:j<m.length*2:=by rw[← q1L m];exact(List.getElem?_eq_some_iff.1 hu).1
  obtain⟨b2,o2,e2,-,h2,h3⟩:=hr (j/2) (by omega)
  injection e2 with e2
  injection e2 with e4 e5
  subst e4;subst e5
  rw[qaW _ hj] at hu
  rw[addr_add]
  rcases Nat.mod_two_eq_zero_or_one j with e|e
  ·rw[e] at hu
   have e3:o+j=o+j/2*2:=by omega
   rw[e3,h2]
   exact hu
  ·rw[e] at hu
   have e3:o+j=o+j/2*2+1:=by omega
   rw[e3,h3]
   exact hu
theorem qaI {w:World} {b:Nat} {l:List (Nat×Nat)} (h:Rec w b (pl l)):∀ j u,(pl l)[j]? =some u→w.cell? ((⟨b,0,none⟩:Addr).add j)=some u:=by
 intro j u hu
 rw[addr_add,Nat.zero_add,h.cell]
 exact hu
set_option maxRecDepth 20000 in
set_option maxHeartbeats 1000000 in
theorem q6Z (w:World) (v:Value) (l:List (Nat×Nat)) (mx my:Nat) (h:PSl w v l) (hn:l.length≤1000):
  Calls Tryz.prog 8 #[v,.agg #[.float .f64 mx,.float .f64 my]] w fun e w'=>∃ u,e= .returned u∧G w w'∧LentP w' w.heap.size u l (mx,my):=by
 have HV:Hid (PSl w v l):=h
 obtain⟨pa,ca,rfl,-,-⟩:=h
 obtain⟨n,hn'⟩:∃ n,n=l.length:=⟨_,rfl⟩
 rw[← hn'] at hn HV ⊢
 have HN:Hid (n=l.length):=hn'
 clear hn'
 go_enter Tryz.func8,Tryz.ntmps8
 go_wp2_with fail
 obtain⟨w0,aL,g0,hz0,R0⟩:=q0B w [.float .f64 mx,.float .f64 my] 32
 rw[aL]
 clear aL
 have HM:Hid (∀ W:World,(Instr.makeSlice 22 (.int .i64 0) (.int .i64 ((n:Int)+3))).run Tryz.prog W=_):=fun W=>q6S (n+3) 0 (by omega) (by omega) W
 have BL:Hid (∀ W:World,G w0 W→POwn (W.alloc (.cells (madeCells #[.float .f64 0,.float .f64 0] ((n+3)*2)) 32)) w0.heap.size (.slice (some ⟨W.heap.size,0,none⟩) 0 (n+3)) []):=fun W hW=>
  Or.inr ⟨W.heap.size,n+3,_,rfl,hW.size,heap_alloc_new W _,Nat.zero_le _,by show n+3≤9223372036854775807;omega,by simp [size_madeCells],by simp [pl],fun x hx=>⟨0,q6s hx⟩⟩
 have HA1:Hid (∀ (W:World) (u:Value),G w0 W→POwn W w0.heap.size u []→_):=fun W u hW hu=>q93 W w0.heap.size u (.slice pa n ca) [] l hu hW.size (HV.out.G (G.trans g0 hW)) (by have:=HN.out;simp;omega)
 have HA2:Hid (∀ (W:World) (u:Value) (b:Nat),G w0 W→POwn W w0.heap.size u l→Rec W b [.float .f64 mx,.float .f64 my,.float .f64 mx,.float .f64 my,.float .f64 mx,.float .f64 my]→_):=fun W u b hW hu hb=>q1f W w0.heap.size u l [(mx,my),(mx,my),(mx,my)] hu hW.size ⟨b,0,none⟩ 3 3 rfl (qaI (l:=[(mx,my),(mx,my),(mx,my)]) hb) (by have:=HN.out;simp;omega) (by simp)
 obtain⟨a0,a1,-⟩:=R0.out.f2
 have hb0:=R0.out.lt
 have hwn:IntKind.i64.wrap ((n:Int)+3)=(n:Int)+3:=by rw[IntKind.wrap_i64];omega
 clear HV
 refine q0G 10 (G w0) (by kernel_rfl) (by first|exact(G.refl _).drew|exact G.drew (by assumption)) ?_
 intro bG
 refine q02 0 (v:= ?_) rfl (by kernel_rfl) (fun _ _ _ h=>h) rfl ?_ ‹_› ?_
 rotate_left
 ·intro wq hwq
  first|(go_simp;done)|(go_simp;with_reducible rfl)
 try simp only[aput,List.set]
 refine q02 1 (v:= ?_) rfl (by kernel_rfl) (fun _ _ _ h=>h) rfl ?_ ‹_› ?_
 rotate_left
 ·intro wq hwq
  first|(go_simp;done)|(go_simp;with_reducible rfl)
 try simp only[aput,List.set]
 refine q02 2 (v:= ?_) rfl (by kernel_rfl) (fun _ _ _ h=>h) rfl ?_ ‹_› ?_
 rotate_left
 ·intro wq hwq
  first|(go_simp;done)|(go_simp;with_reducible rfl)
 try simp only[aput,List.set]
 refine q02 4 (v:= ?_) rfl (by kernel_rfl) (fun _ _ _ h=>h) rfl ?_ ‹_› ?_
 rotate_left
 ·intro wq hwq
  first|(go_simp;done)|(go_simp;with_reducible rfl)
 try simp only[aput,List.set]
 refine q02 6 (v:= ?_) rfl (by kernel_rfl) (fun _ _ _ h=>h) rfl ?_ ‹_› ?_
 rotate_left
 ·intro wq hwq
  have hq1:=G.cell (p:=⟨w.heap.size,0,none⟩) (v:= .float .f64 mx) hwq (by first|assumption|(simp;done)|(simp;omega)|omega) (by assumption)
  have hq2:=G.cell (p:=⟨w.heap.size,1,none⟩) (v:= .float .f64 my) hwq (by first|assumption|(simp;done)|(simp;omega)|omega) (by assumption)
  first|(go_simp;done)|(go_simp;with_reducible rfl)
 try simp only[aput,List.set]
 refine q02 7 (v:= ?_) rfl (by kernel_rfl) (fun _ _ _ h=>h) rfl ?_ ‹_› ?_
 rotate_left
 ·intro wq hwq
  have hq3:=G.cell (p:=⟨w.heap.size,0,none⟩) (v:= .float .f64 mx) hwq (by first|assumption|(simp;done)|(simp;omega)|omega) (by assumption)
  have hq4:=G.cell (p:=⟨w.heap.size,1,none⟩) (v:= .float .f64 my) hwq (by first|assumption|(simp;done)|(simp;omega)|omega) (by assumption)
  first|(go_simp;done)|(go_simp;with_reducible rfl)
 try simp only[aput,List.set]
 refine q02 8 (v:= ?_) rfl (by kernel_rfl) (fun _ _ _ h=>h) rfl ?_ ‹_› ?_
 rotate_left
 ·intro wq hwq
  have kC:=G.cell (p:=⟨w.heap.size,0,none⟩) (v:= .float .f64 mx) hwq (by first|assumption|(simp;done)|(simp;omega)|omega) (by assumption)
  have kG:=G.cell (p:=⟨w.heap.size,1,none⟩) (v:= .float .f64 my) hwq (by first|assumption|(simp;done)|(simp;omega)|omega) (by assumption)
  first|(go_simp;done)|(go_simp;with_reducible rfl)
 try simp only[aput,List.set]
 clear a0 a1
 generalize w0.drew=wd at *
 refine q08 (i:=3) (j:=9) (by kernel_rfl) rfl rfl ?_ ?_
 ·intro K hK
  have hmk:=HM.out wd
  have HO:=BL.out wd bG
  have ga:G w0 (wd.alloc (.cells (madeCells #[.float .f64 0,.float .f64 0] ((n+3)*2)) 32)):=bG.alloc _
  go_simp
  refine hK.out _ _ (Or.inr ga) ?_
  clear hK K hmk
  have HO:Hid (POwn (wd.alloc (.cells (madeCells #[.float .f64 0,.float .f64 0] ((n+3)*2)) 32)) w0.heap.size (.slice (some ⟨wd.heap.size,0,none⟩) 0 (n+3)) []):=HO
  generalize wd.alloc (.cells (madeCells #[.float .f64 0,.float .f64 0] ((n+3)*2)) 32)=wa at *
  generalize wd.heap.size=gb at *
  refine q08 (i:=5) (j:=9) (by kernel_rfl) rfl rfl ?_ ?_
  ·intro K hK
   rw[if_pos (by rfl)]
   obtain⟨u4,wb,hrun,hown,honto⟩:=HA1.out wa _ ga HO.out
   have M5:G w0 wb:=honto.g w0 (Nat.le_refl _) ga
   refine q1w wa (.tmp 9) (.tmp 10) 22 rfl _ _ rfl rfl hrun ?_
   refine hK.out _ _ (Or.inr M5) ?_
   clear hK K hrun
   simp only[Act.put,List.setIfInBounds_toArray,List.set_cons_zero,List.set_cons_succ]
   rw[List.nil_append] at hown
   have kD:Hid (POwn wb w0.heap.size u4 l):=hown
   clear hown honto
   refine q03 (i:=9) (by kernel_rfl) rfl ?_
   intro K hK
   go_simp
   have hg4:G w0 (wb.alloc (.cells #[.float .f64 mx,.float .f64 my,.float .f64 mx,.float .f64 my,.float .f64 mx,.float .f64 my] 32)):=M5.alloc _
   refine hK.out _ _ (Or.inr hg4) ?_
   clear hK K
   have wu:Hid (POwn _ w0.heap.size u4 l):=kD.out.G ((G.refl wb).alloc (.cells #[.float .f64 mx,.float .f64 my,.float .f64 mx,.float .f64 my,.float .f64 mx,.float .f64 my] 32))
   have iy:Hid (Rec _ wb.heap.size _):=Rec.new wb [.float .f64 mx,.float .f64 my,.float .f64 mx,.float .f64 my,.float .f64 mx,.float .f64 my] 32
   generalize wb.heap.size=b4 at *
   generalize wb.alloc (.cells #[.float .f64 mx,.float .f64 my,.float .f64 mx,.float .f64 my,.float .f64 mx,.float .f64 my] 32)=w4 at *
   clear HM BL HA1
   obtain⟨v5,w5,j6,hown5,fI⟩:=HA2.out w4 u4 b4 hg4 wu.out iy.out
   have hg5:G w0 w5:=fI.g w0 (Nat.le_refl _) hg4
   have hlen:(l++[(mx,my),(mx,my),(mx,my)]).length=n+3:=by rw[List.length_append,← HN.out];rfl
   have fF:Hid (POwn w5 w0.heap.size v5 (l++[(mx,my),(mx,my),(mx,my)])):=hown5
   have hv5:∃ g cap,v5= .slice (some ⟨g,0,none⟩) (n+3) cap∧n+3≤cap:=by
    rcases hown5 with ⟨-,h⟩|⟨g,cap,cur,rfl,-,-,h3,-⟩
    ·rw[h] at hlen;simp at hlen
    ·rw[hlen] at h3 ⊢
     exact⟨g,cap,rfl,h3⟩
   obtain⟨g,cap,rfl,h3⟩:=hv5
   have hcap:n≤cap:=by omega
   clear hown5 fI HA2 wu iy hg4 hlen
   refine q03 (i:=10) (by kernel_rfl) rfl ?_
   intro K hK
   rw[if_pos (by rfl)]
   refine q1w w4 (.tmp 11) (.tmp 15) 22 rfl _ _ rfl rfl j6 ?_
   refine hK.out _ _ (Or.inl (by decide)) ?_
   clear hK K j6
   simp only[Act.put,List.setIfInBounds_toArray,List.set_cons_zero,List.set_cons_succ]
   refine q03 (i:=11) (by kernel_rfl) rfl ?_
   intro K hK
   go_simp
   refine hK.out _ _ (Or.inl (by decide)) ?_
   clear hK K
   refine q0f (by kernel_rfl) ?_ _
   go_wp2_with fail
   go_ret
   exact⟨_,rfl,G.trans g0 hg5,g,cap,by rw[← HN.out];rfl,by rw[← HN.out];exact fF.out.base (by omega)⟩
  ·intro K hK
   have hg4:G w0 (wa.alloc (.cells #[.float .f64 mx,.float .f64 my,.float .f64 mx,.float .f64 my,.float .f64 mx,.float .f64 my] 32)):=ga.alloc _
   go_simp
   refine hK.out _ _ (Or.inr hg4) ?_
   clear hK K
   have dL:Hid (POwn _ w0.heap.size (.slice (some ⟨gb,0,none⟩) 0 (n+3)) []):=HO.out.G ((G.refl wa).alloc (.cells #[.float .f64 mx,.float .f64 my,.float .f64 mx,.float .f64 my,.float .f64 mx,.float .f64 my] 32))
   have iy:Hid (Rec _ wa.heap.size _):=Rec.new wa [.float .f64 mx,.float .f64 my,.float .f64 mx,.float .f64 my,.float .f64 mx,.float .f64 my] 32
   have BM:Hid (Value.ownBlock (.slice (some ⟨gb,0,none⟩) 0 (n+3))≠some wa.heap.size):=HO.out.own (Or.inr (Nat.le_refl _))
   clear HO ga
   generalize wa.heap.size=b4 at *
   generalize wa.alloc (.cells #[.float .f64 mx,.float .f64 my,.float .f64 mx,.float .f64 my,.float .f64 mx,.float .f64 my] 32)=wb at *
   refine q03 (i:=5) (by kernel_rfl) rfl ?_
   intro K hK
   rw[if_pos (by rfl)]
   obtain⟨u4,w4,hrun,hown,honto⟩:=HA1.out wb _ hg4 dL.out
   have hg5:G w0 w4:=honto.g w0 (Nat.le_refl _) hg4
   refine q1w wb (.tmp 9) (.tmp 10) 22 rfl _ _ rfl rfl hrun ?_
   refine hK.out _ _ (Or.inr hg5) ?_
   clear hK K hrun
   simp only[Act.put,List.setIfInBounds_toArray,List.set_cons_zero,List.set_cons_succ]
   rw[List.nil_append] at hown
   have wu:Hid (POwn w4 w0.heap.size u4 l):=hown
   replace iy:Hid (Rec w4 b4 [.float .f64 mx,.float .f64 my,.float .f64 mx,.float .f64 my,.float .f64 mx,.float .f64 my]):=honto.r iy.out BM.out
   clear hown honto dL BM hg4
   have hg4:=hg5
   clear hg5
   clear HM BL HA1
   obtain⟨v5,w5,j6,hown5,fI⟩:=HA2.out w4 u4 b4 hg4 wu.out iy.out
   have hg5:G w0 w5:=fI.g w0 (Nat.le_refl _) hg4
   have hlen:(l++[(mx,my),(mx,my),(mx,my)]).length=n+3:=by rw[List.length_append,← HN.out];rfl
   have fF:Hid (POwn w5 w0.heap.size v5 (l++[(mx,my),(mx,my),(mx,my)])):=hown5
   have hv5:∃ g cap,v5= .slice (some ⟨g,0,none⟩) (n+3) cap∧n+3≤cap:=by
    rcases hown5 with ⟨-,h⟩|⟨g,cap,cur,rfl,-,-,h3,-⟩
    ·rw[h] at hlen;simp at hlen
    ·rw[hlen] at h3 ⊢
     exact⟨g,cap,rfl,h3⟩
   obtain⟨g,cap,rfl,h3⟩:=hv5
   have hcap:n≤cap:=by omega
   clear hown5 fI HA2 wu iy hg4 hlen
   refine q03 (i:=10) (by kernel_rfl) rfl ?_
   intro K hK
   rw[if_pos (by rfl)]
   refine q1w w4 (.tmp 11) (.tmp 15) 22 rfl _ _ rfl rfl j6 ?_
   refine hK.out _ _ (Or.inl (by decide)) ?_
   clear hK K j6
   simp only[Act.put,List.setIfInBounds_toArray,List.set_cons_zero,List.set_cons_succ]
   refine q03 (i:=11) (by kernel_rfl) rfl ?_
   intro K hK
   go_simp
   refine hK.out _ _ (Or.inl (by decide)) ?_
   clear hK K
   refine q0f (by kernel_rfl) ?_ _
   go_wp2_with fail
   go_ret
   exact⟨_,rfl,G.trans g0 hg5,g,cap,by rw[← HN.out];rfl,by rw[← HN.out];exact fF.out.base (by omega)⟩
 ·intro K hK
  have hg4:G w0 (wd.alloc (.cells #[.float .f64 mx,.float .f64 my,.float .f64 mx,.float .f64 my,.float .f64 mx,.float .f64 my] 32)):=bG.alloc _
  go_simp
  refine hK.out _ _ (Or.inr hg4) ?_
  clear hK K
  have iy:Hid (Rec _ wd.heap.size _):=Rec.new wd [.float .f64 mx,.float .f64 my,.float .f64 mx,.float .f64 my,.float .f64 mx,.float .f64 my] 32
  have hlt:=iy.out.lt
  generalize wd.heap.size=b4 at *
  generalize wd.alloc (.cells #[.float .f64 mx,.float .f64 my,.float .f64 mx,.float .f64 my,.float .f64 mx,.float .f64 my] 32)=we at *
  refine q03 (i:=3) (by kernel_rfl) rfl ?_
  intro K hK
  have hmk:=HM.out we
  have dL:=BL.out we hg4
  have ga:G w0 (we.alloc (.cells (madeCells #[.float .f64 0,.float .f64 0] ((n+3)*2)) 32)):=hg4.alloc _
  go_simp
  refine hK.out _ _ (Or.inr ga) ?_
  clear hK K hmk
  have dL:Hid (POwn (we.alloc (.cells (madeCells #[.float .f64 0,.float .f64 0] ((n+3)*2)) 32)) w0.heap.size (.slice (some ⟨we.heap.size,0,none⟩) 0 (n+3)) []):=dL
  replace iy:Hid (Rec (we.alloc (.cells (madeCells #[.float .f64 0,.float .f64 0] ((n+3)*2)) 32)) b4 _):=Rec.G iy.out ((G.refl we).alloc _)
  have BM:Hid (Value.ownBlock (.slice (some ⟨we.heap.size,0,none⟩) 0 (n+3))≠some b4):=by
   intro e
   have e:we.heap.size=b4:=Option.some.inj e
   omega
  clear hg4 hlt bG
  have hg4:=ga
  generalize we.alloc (.cells (madeCells #[.float .f64 0,.float .f64 0] ((n+3)*2)) 32)=wb at *
  generalize we.heap.size=gb at *
  refine q03 (i:=5) (by kernel_rfl) rfl ?_
  intro K hK
  rw[if_pos (by rfl)]
  obtain⟨u4,w4,hrun,hown,honto⟩:=HA1.out wb _ hg4 dL.out
  have hg5:G w0 w4:=honto.g w0 (Nat.le_refl _) hg4
  refine q1w wb (.tmp 9) (.tmp 10) 22 rfl _ _ rfl rfl hrun ?_
  refine hK.out _ _ (Or.inr hg5) ?_
  clear hK K hrun
  simp only[Act.put,List.setIfInBounds_toArray,List.set_cons_zero,List.set_cons_succ]
  rw[List.nil_append] at hown
  have wu:Hid (POwn w4 w0.heap.size u4 l):=hown
  replace iy:Hid (Rec w4 b4 [.float .f64 mx,.float .f64 my,.float .f64 mx,.float .f64 my,.float .f64 mx,.float .f64 my]):=honto.r iy.out BM.out
  clear hown honto dL BM hg4
  have hg4:=hg5
  clear hg5
  clear HM BL HA1
  obtain⟨v5,w5,j6,hown5,fI⟩:=HA2.out w4 u4 b4 hg4 wu.out iy.out
  have hg5:G w0 w5:=fI.g w0 (Nat.le_refl _) hg4
  have hlen:(l++[(mx,my),(mx,my),(mx,my)]).length=n+3:=by rw[List.length_append,← HN.out];rfl
  have fF:Hid (POwn w5 w0.heap.size v5 (l++[(mx,my),(mx,my),(mx,my)])):=hown5
  have hv5:∃ g cap,v5= .slice (some ⟨g,0,none⟩) (n+3) cap∧n+3≤cap:=by
   rcases hown5 with ⟨-,h⟩|⟨g,cap,cur,rfl,-,-,h3,-⟩
   ·rw[h] at hlen;simp at hlen
   ·rw[hlen] at h3 ⊢
    exact⟨g,cap,rfl,h3⟩
  obtain⟨g,cap,rfl,h3⟩:=hv5
  have hcap:n≤cap:=by omega
  clear hown5 fI HA2 wu iy hg4 hlen
  refine q03 (i:=10) (by kernel_rfl) rfl ?_
  intro K hK
  rw[if_pos (by rfl)]
  refine q1w w4 (.tmp 11) (.tmp 15) 22 rfl _ _ rfl rfl j6 ?_
  refine hK.out _ _ (Or.inl (by decide)) ?_
  clear hK K j6
  simp only[Act.put,List.setIfInBounds_toArray,List.set_cons_zero,List.set_cons_succ]
  refine q03 (i:=11) (by kernel_rfl) rfl ?_
  intro K hK
  go_simp
  refine hK.out _ _ (Or.inl (by decide)) ?_
  clear hK K
  refine q0f (by kernel_rfl) ?_ _
  go_wp2_with fail
  go_ret
  exact⟨_,rfl,G.trans g0 hg5,g,cap,by rw[← HN.out];rfl,by rw[← HN.out];exact fF.out.base (by omega)⟩
end Go.Proofs.YtdidnnbpdcanlaaGreatDoor.EN
namespace Go.Proofs.YtdidnnbpdcanlaaGreatDoor.EN
open Go.ChangeShapes Go.WideShapes Go.ChangeAt Go.RowKit
attribute [local go_sem] q0d
theorem q3h (w:World) (px py:Nat):Calls Tryz.prog 13 #[.agg #[.float .f64 px,.float .f64 py],.agg #[.float .f64 px,.float .f64 py]] w fun e w'=>e= .returned (.bool true)∧G w w':=by
 go_enter Tryz.func13,Tryz.ntmps13
 go_wp2_with fail
 obtain⟨w0,aL,g0,hz0,R0,R1⟩:=q2s w [.float .f64 px,.float .f64 py] [.float .f64 px,.float .f64 py] 32 32
 rw[aL]
 clear aL
 have dn:=Rec.f2 (Rec.G R0.out (G.refl _))
 have jD:=dn.1
 have jE:=dn.2.1
 have jF:=dn.2.2.1
 have jG:=dn.2.2.2
 clear dn
 have cB:=Rec.f2 (Rec.G R1.out (G.refl _))
 have eO:=cB.1
 have eT:=cB.2.1
 have gL:=cB.2.2.1
 have gM:=cB.2.2.2
 clear cB
 go_wp2_with fail
 refine Calls.mono (P:=Tryz.prog) (q3F w0 px) ?_
 rintro e w1 ⟨rfl,g1⟩
 clear jD jE jF jG eO eT gL gM
 have dn:=Rec.f2 (Rec.G R0.out (g1))
 have jD:=dn.1
 have jE:=dn.2.1
 have jF:=dn.2.2.1
 have jG:=dn.2.2.2
 clear dn
 have cB:=Rec.f2 (Rec.G R1.out (g1))
 have eO:=cB.1
 have eT:=cB.2.1
 have gL:=cB.2.2.1
 have gM:=cB.2.2.2
 clear cB
 go_wp2_with fail
 refine Calls.mono (P:=Tryz.prog) (q3F w1 py) ?_
 rintro e w2 ⟨rfl,g2⟩
 go_wp2_with fail
 go_ret
 exact⟨rfl,G.trans g0 (G.trans g1 g2)⟩
theorem q8r (l:List (Nat×Nat)) (m:Nat×Nat) (i:Nat) (h:i<l.length):(l++[m,m,m]).getD i (0,0)=l.getD i (0,0):=by
 rw[List.getD_eq_getElem?_getD,List.getD_eq_getElem?_getD,List.getElem?_append_left h]
theorem q8l (l:List (Nat×Nat)) (m:Nat×Nat) (i:Nat) (h:l.length≤i) (h2:i<l.length+3):(l++[m,m,m]).getD i (0,0)=m:=by
 rw[List.getD_eq_getElem?_getD,List.getElem?_append_right h]
 have:i-l.length=0∨i-l.length=1∨i-l.length=2:=by omega
 rcases this with e|e|e<;>rw[e]<;>rfl
set_option maxRecDepth 10000 in
theorem q5I (w:World) (base:Nat) (v u:Value) (l:List (Nat×Nat)) (mx my:Nat) (hv:LentP w base v l (mx,my)) (hu:PSl w u l) (hn:l.length≤1000):
  Calls Tryz.prog 12 #[v,u,.agg #[.float .f64 mx,.float .f64 my],.func (.func 13) #[] #[]] w fun e w'=>e= .returned (.bool true)∧G w w':=by
 obtain⟨g,cap,rfl,hown⟩:=hv
 obtain⟨pb,cb,rfl,-,hr2⟩:=hu
 have hcap:l.length+3≤cap:=by
  rcases hown with ⟨h,-⟩|⟨g',cap',cur,h,-,-,h3,-⟩
  ·cases h
  ·injection h with _ _ h
   subst h
   simp at h3
   exact h3
 have HO:Hid (POwn w base (.slice (some ⟨g,0,none⟩) (l.length+3) cap) (l++[(mx,my),(mx,my),(mx,my)])):=hown
 have H2:Hid _:=hr2
 clear hr2 hown
 have hcf:∀ args w,(callFunc 13 args).run Tryz.prog w= .ok (.enter 13 args) w:=fun _ _=>by kernel_rfl
 obtain⟨n,hn'⟩:∃ n,n=l.length:=⟨_,rfl⟩
 rw[← hn'] at hn hcap HO ⊢
 have HN:Hid (n=l.length):=hn'
 clear hn'
 go_enter Tryz.func12,Tryz.ntmps12
 go_wp2_with fail
 obtain⟨w0,aL,g0,hz0,R0⟩:=q0B w [.float .f64 mx,.float .f64 my] 32
 rw[aL]
 clear aL
 go_loopw [19] (fun vk wr=>∃ k:Nat,k≤n+3∧vk= .int .i64 k∧G w0 wr) (fun vk _=>n+3-(intOf vk).toNat)
 case atStart=>exact⟨0,Nat.zero_le _,rfl,G.refl _⟩
 case round=>
  obtain⟨k,hk,rfl,hG⟩:=hrel
  have HW:Hid (POwn wr base (.slice (some ⟨g,0,none⟩) (n+3) cap) (l++[(mx,my),(mx,my),(mx,my)])):=HO.out.G (G.trans g0 hG)
  have hw0:=(G.trans g0 hG).size
  by_cases hkn:k<n
  ·obtain⟨⟨hx1,hy1⟩,-,-,hgl,-⟩:=HW.out.at (i:=k) (by rw[List.length_append,← HN.out];omega)
   obtain⟨b2,o2,rfl,hB2,mJ,mK⟩:=H2.out k (by rw[← HN.out];exact hkn)
   rw[q8r l (mx,my) k (by rw[← HN.out];exact hkn)] at hx1 hy1
   have hx2:=(G.trans g0 hG).cell (p:=⟨b2,o2+k*2,none⟩) hB2 mJ
   have hy2:=(G.trans g0 hG).cell (p:=⟨b2,o2+k*2+1,none⟩) hB2 mK
   generalize l.getD k (0,0)=p at *
   obtain⟨px,py⟩:=p
   dsimp only at hx1 hy1 hx2 hy2
   clear mJ mK
   have hge:decide (n≤k)=false:=decide_eq_false (by omega)
   have hlt:decide (k<n)=true:=decide_eq_true (by omega)
   have BI:Hid (Rec (wr.alloc (.cells #[.float .f64 px,.float .f64 py] 32)) wr.heap.size [.float .f64 px,.float .f64 py]):=Rec.new2 wr _ _ _
   have xG:G wr (wr.alloc (.cells #[.float .f64 px,.float .f64 py] 32)):=(G.refl wr).alloc _
   have hb2:b2<wr.heap.size:=by omega
   go_wp2_with fail
   have hx3:=xG.cell (p:=⟨b2,o2+k*2,none⟩) hb2 hx2
   have hy3:=xG.cell (p:=⟨b2,o2+k*2+1,none⟩) hb2 hy2
   obtain⟨n0,n1,-⟩:=BI.out.f2
   have hlp:=BI.out.lt
   have BJ:=xG.size
   have hb3:b2<(wr.alloc (.cells #[.float .f64 px,.float .f64 py] 32)).heap.size:=by omega
   clear hx1 hy1 hx2 hy2
   generalize wr.alloc (.cells #[.float .f64 px,.float .f64 py] 32)=wq at *
   generalize wr.heap.size=bq at *
   refine q07 (by kernel_rfl) (by kernel_rfl) ?_
   intro W hW
   have hq1:=q04 (w:=W) (a:=⟨bq,0,none⟩) (x:= .float .f64 px) (by rw[hW];first|(simp;done)|(simp;omega)|omega) (by rw[hW];first|assumption|(simp [go_sem];done)|(simp [*,go_sem];done))
   have hq2:=q04 (w:=W) (a:=⟨bq,1,none⟩) (x:= .float .f64 py) (by rw[hW];first|(simp;done)|(simp;omega)|omega) (by rw[hW];first|assumption|(simp [go_sem];done)|(simp [*,go_sem];done))
   have hq3:=q04 (w:=W) (a:=⟨b2,o2+k*2,none⟩) (x:= .float .f64 px) (by rw[hW];first|(simp;done)|(simp;omega)|omega) (by rw[hW];first|assumption|(simp [go_sem];done)|(simp [*,go_sem];done))
   have hq4:=q04 (w:=W) (a:=⟨b2,o2+k*2+1,none⟩) (x:= .float .f64 py) (by rw[hW];first|(simp;done)|(simp;omega)|omega) (by rw[hW];first|assumption|(simp [go_sem];done)|(simp [*,go_sem];done))
   clear hW
   repeat (go_big_quiet_step (exact q1g (q3h _ px py)))
   refine wpQuiet_nil ?_
   clear hq1 hq2 hq3 hq4
   intro w5 gF
   have gK:=G.trans hG (G.trans xG gF)
   clear gF n0 n1 hx3 hy3
   go_wp2_with fail
   go_roundw
   case rel=>exact⟨k+1,by omega,by go_num,gK⟩
   case measure=>simp only[intOf];omega
  ·by_cases hk3:k<n+3
   ·obtain⟨⟨hx1,hy1⟩,-,-,hgl,-⟩:=HW.out.at (i:=k) (by rw[List.length_append,← HN.out];exact hk3)
    rw[q8l l (mx,my) k (by rw[← HN.out];omega) (by rw[← HN.out];exact hk3)] at hx1 hy1
    dsimp only at hx1 hy1
    have hge:decide (n≤k)=true:=decide_eq_true (by omega)
    have hlt:decide (k<n)=false:=decide_eq_false (by omega)
    have hge':decide ((n:Int)≤(k:Int))=true:=decide_eq_true (by omega)
    have hlt':decide ((k:Int)<(n:Int))=false:=decide_eq_false (by omega)
    have BI:Hid (Rec (wr.alloc (.cells #[.float .f64 mx,.float .f64 my] 32)) wr.heap.size [.float .f64 mx,.float .f64 my]):=Rec.new2 wr _ _ _
    have xG:G wr (wr.alloc (.cells #[.float .f64 mx,.float .f64 my] 32)):=(G.refl wr).alloc _
    have M4:Hid (Rec (wr.alloc (.cells #[.float .f64 mx,.float .f64 my] 32)) w.heap.size [.float .f64 mx,.float .f64 my]):=Rec.G R0.out (G.trans hG xG)
    go_wp2_with fail
    obtain⟨n0,n1,-⟩:=BI.out.f2
    obtain⟨n2,n3,-⟩:=M4.out.f2
    have hlp:=BI.out.lt
    have hlm:=M4.out.lt
    clear hx1 hy1
    generalize wr.alloc (.cells #[.float .f64 mx,.float .f64 my] 32)=wq at *
    generalize wr.heap.size=bq at *
    refine q07 (by kernel_rfl) (by kernel_rfl) ?_
    intro W hW
    have kC:=q04 (w:=W) (a:=⟨bq,0,none⟩) (x:= .float .f64 mx) (by rw[hW];first|(simp;done)|(simp;omega)|omega) (by rw[hW];first|assumption|(simp [go_sem];done)|(simp [*,go_sem];done))
    have kG:=q04 (w:=W) (a:=⟨bq,1,none⟩) (x:= .float .f64 my) (by rw[hW];first|(simp;done)|(simp;omega)|omega) (by rw[hW];first|assumption|(simp [go_sem];done)|(simp [*,go_sem];done))
    have kS:=q04 (w:=W) (a:=⟨w.heap.size,0,none⟩) (x:= .float .f64 mx) (by rw[hW];first|(simp;done)|(simp;omega)|omega) (by rw[hW];first|assumption|(simp [go_sem];done)|(simp [*,go_sem];done))
    have hq8:=q04 (w:=W) (a:=⟨w.heap.size,1,none⟩) (x:= .float .f64 my) (by rw[hW];first|(simp;done)|(simp;omega)|omega) (by rw[hW];first|assumption|(simp [go_sem];done)|(simp [*,go_sem];done))
    clear hW
    repeat (go_big_quiet_step (exact q1g (q3h _ mx my)))
    refine wpQuiet_nil ?_
    clear kC kG kS hq8
    intro w5 gF
    have gK:=G.trans hG (G.trans xG gF)
    clear gF n0 n1 n2 n3
    go_wp2_with fail
    go_roundw
    case rel=>exact⟨k+1,by omega,by go_num,gK⟩
    case measure=>simp only[intOf];omega
   ·obtain rfl:k=n+3:=by omega
    go_wp2_with fail
    go_ret
    exact⟨rfl,G.trans g0 hG⟩
/-- What was answered is spoilt: nothing else is. -/
theorem q3o (w:World) (ty:TypeId) (base g n cap:Nat) (l:List (Nat×Nat)) (h:POwn w base (.slice (some ⟨g,0,none⟩) n cap) l):
  ∃ w',(Builtin.clear_ #[22] ty #[.slice (some ⟨g,0,none⟩) cap cap]).run Tryz.prog w= .ok (.tuple #[]) w'∧(w'=w∨∃ row,w'=w.setRow g row):=by
 obtain⟨i,hi,hz,-,-⟩:=q7x
 rcases h with ⟨e,-⟩|⟨b',cap',cur,e,h1,h2,h3,h4,h5,h6,h7⟩
 ·cases e
 injection e with e1 e2 e3
 injection e1 with e1
 injection e1 with e1
 subst e1;subst e3
 cases cap with
 |zero=>
  refine⟨w,?_,Or.inl rfl⟩
  simp [Builtin.clear_,run_underlying Tryz.underlying22]
 |succ m=>
  have hone:∀ v∈(Builtin.zeroCells (Value.agg #[.float .f64 0,.float .f64 0]).cells (m+1)).toList,v.oneCell'=true:=by
   intro v hv
   have hz1:(Value.agg #[.float .f64 0,.float .f64 0]).cells=#[Value.float .f64 0,.float .f64 0]:=rfl
   rw[hz1] at hv
   simp only[Builtin.zeroCells,Array.toList_map,List.mem_map] at hv
   obtain⟨j,-,rfl⟩:=hv
   have hj:j%(#[.float .f64 0,.float .f64 0]:Array Value).size<2:=Nat.mod_lt _ (by decide)
   generalize j%(#[.float .f64 0,.float .f64 0]:Array Value).size=k' at hj
   rcases k' with _|_|k'
   ·rfl
   ·rfl
   ·omega
  have hlen:(Builtin.zeroCells (Value.agg #[.float .f64 0,.float .f64 0]).cells (m+1)).toList.length=(m+1)*2:=by
   rw[Array.length_toList,size_zeroCells]
   rfl
  obtain⟨row,hst⟩:∃ row,(storeCells ⟨g,0,none⟩ (Builtin.zeroCells (Value.agg #[.float .f64 0,.float .f64 0]).cells (m+1)).toList).run Tryz.prog w= .ok () (w.setRow g row):=
   ⟨_,run_storeCells_at Tryz.prog g 0 32 (Builtin.zeroCells (Value.agg #[.float .f64 0,.float .f64 0]).cells (m+1)).toList 0 cur w h2 (by rw[hlen,h5];omega) hone⟩
  have hzv:(zeroValue 32).run Tryz.prog w= .ok (.agg #[.float .f64 0,.float .f64 0]) w:=by
   simp [zeroValue,typeInfo,hi,hz]
  refine⟨w.setRow g row,?_,Or.inr ⟨row,rfl⟩⟩
  simp [Builtin.clear_,run_underlying Tryz.underlying22,hzv,hst]
/-- What is left standing where a list of points is spoilt. -/
structure SpoiltP (base:Nat) (v:Value) (w w':World):Prop where
 g:∀ w0:World,w0.heap.size≤base→G w0 w→G w0 w'
 oth:∀ k,v.ownBlock≠some k→w'.heap[k]? =w.heap[k]?
theorem q5Y (w:World) (base:Nat) (v:Value) (l:List (Nat×Nat)) (h:POwn w base v l):
  Calls Tryz.prog 14 #[v] w fun e w'=>e= .returned (.tuple #[])∧SpoiltP base v w w':=by
 have HW:Hid (POwn w base v l):=h
 rcases h with ⟨rfl,-⟩|⟨g,cap,cur,rfl,h1,h2,h3,h4,h5,h6,h7⟩
 ·have hrun:(Builtin.clear_ #[22] 0 #[.slice none 0 0]).run Tryz.prog w= .ok (.tuple #[]) w:=by
   simp [Builtin.clear_,run_underlying Tryz.underlying22]
  go_enter Tryz.func14,Tryz.ntmps14
  go_wp2_with fail
  clear hrun
  refine bodyPost_end (v:= .tuple #[]) (by simp [results,Tryz.results14,go_sem]) rfl ?_
  exact⟨rfl,fun w0 _ hg=>hg,fun _ _=>rfl⟩
 ·obtain⟨w',hrun,hw'⟩:=q3o w 0 base g l.length cap l HW.out
  have HX:Hid (w'=w∨∃ row,w'=w.setRow g row):=hw'
  clear hw' h2 h4 h5 h6 h7
  go_enter Tryz.func14,Tryz.ntmps14
  go_wp2_with fail
  clear hrun
  refine bodyPost_end (v:= .tuple #[]) (by simp [results,Tryz.results14,go_sem]) rfl ?_
  refine⟨rfl,fun w0 h0 hg=> ?_,fun k hk=> ?_⟩
  ·rcases HX.out with rfl|⟨row,rfl⟩
   ·exact hg
   ·obtain⟨g1,g2,g3,g4,g5⟩:=hg
    refine⟨g1,g2,g3,by simpa using g4,fun k hk=> ?_⟩
    rw[setRow_other w g k _ (by omega)]
    exact g5 k hk
  ·rcases HX.out with rfl|⟨row,rfl⟩
   ·rfl
   ·exact setRow_other w g k _ (fun e=>hk (by rw[e];rfl))
end Go.Proofs.YtdidnnbpdcanlaaGreatDoor.EN
