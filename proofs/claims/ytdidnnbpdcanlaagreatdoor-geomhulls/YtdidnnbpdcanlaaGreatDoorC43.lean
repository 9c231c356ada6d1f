/- What is proved here: the reference's sort of points, sort.Slice, over this seat's translation. -/
import Derived.Test.YtdidnnbpdcanlaaGreatDoorC37
import Derived.Test.YtdidnnbpdcanlaaGreatDoorC8
import Derived.Shelf.SlSortFuncK.WholeK
import Derived.Shelf.GgSortFunc.Tiny
namespace Go.Proofs.YtdidnnbpdcanlaaGreatDoor.EN
open Go.ChangeShapes Go.WideShapes Go.ChangeAt Go.RowKit Go.Sort
theorem q6Y {x y:Nat} (hx:fex x<2047) (hy:fex y<2047):(FloatKind.f64.format.order x y==some .lt)=decide (fz x<fz y):=by
 rw[q37 hx hy]
 rcases Int.lt_trichotomy (fz x) (fz y) with h|h|h
 ·rw[Int.compare_eq_lt.2 h,decide_eq_true h];rfl
 ·rw[Int.compare_eq_eq.2 h,decide_eq_false (by omega)];rfl
 ·rw[Int.compare_eq_gt.2 h,decide_eq_false (by omega)];rfl
theorem qaF {x y:Nat} (hx:fex x<2047) (hy:fex y<2047):(FloatKind.f64.format.order x y==some .eq)=decide (fz x=fz y):=by
 rw[q37 hx hy]
 rcases Int.lt_trichotomy (fz x) (fz y) with h|h|h
 ·rw[Int.compare_eq_lt.2 h,decide_eq_false (by omega)];rfl
 ·rw[Int.compare_eq_eq.2 h,decide_eq_true h];rfl
 ·rw[Int.compare_eq_gt.2 h,decide_eq_false (by omega)];rfl
set_option maxRecDepth 10000 in
/-- HullOf's own order. -/
theorem q9P (g c Bs n:Nat) (W:World) (px py qx qy:Nat) (i j:Nat) (hi:i<n) (hj:j<n) (hs:W.cell? ⟨Bs,0,none⟩=some (.slice (some ⟨g,0,none⟩) n c))
  (h1:W.cell? ⟨g,i*2,none⟩=some (.float .f64 px)) (h2:W.cell? ⟨g,i*2+1,none⟩=some (.float .f64 py)) (h3:W.cell? ⟨g,j*2,none⟩=some (.float .f64 qx)) (h4:W.cell? ⟨g,j*2+1,none⟩=some (.float .f64 qy))
  (hp:FinP (px,py)) (hq:FinP (qx,qy)):
  Calls Tryz.prog 29 #[.int .i64 i,.int .i64 j,.pointer (some ⟨Bs,0,none⟩)] W fun e w'=>e= .returned (.bool (decide (ordZ (px,py) (qx,qy)<0)))∧∃ q,w'=W.drewN q:=by
 have hr:Hid (decide (ordZ (px,py) (qx,qy)<0)=((FloatKind.f64.format.order px qx==some .lt)||((FloatKind.f64.format.order px qx==some .eq)&&(FloatKind.f64.format.order py qy==some .lt)))):=by
  show _=_
  have h:decide (ordZ (px,py) (qx,qy)<0)=decide (fz px<fz qx∨(fz px=fz qx∧fz py<fz qy)):=decide_eq_decide.2 q42
  rw[q6Y hp.1 hq.1,qaF hp.1 hq.1,q6Y hp.2 hq.2,h,Bool.decide_or,Bool.decide_and]
 rw[hr.out]
 clear hr hp hq
 cases hx:(FloatKind.f64.format.order px qx==some .lt) with
 |true=>
  go_enter Tryz.func29,Tryz.ntmps29
  go_wp2
  go_quiet (fail)
  go_wp2
  go_ret
  exact⟨rfl,nq,rfl⟩
 |false=>
  cases he:(FloatKind.f64.format.order px qx==some .eq) with
  |false=>
   go_enter Tryz.func29,Tryz.ntmps29
   go_wp2
   go_quiet (fail)
   go_wp2
   go_ret
   exact⟨rfl,nq,rfl⟩
  |true=>
   go_enter Tryz.func29,Tryz.ntmps29
   go_wp2
   go_quiet (fail)
   go_wp2
   go_ret
   exact⟨rfl,nq,rfl⟩
theorem qbf:∃ i,Tryz.prog.info? 22=some i∧i.desc= .slice 32:=by
 have h:(Tryz.prog.info? 22).map (fun i=>i.desc)=some (.slice 32):=by kernel_rfl
 obtain⟨i,hi,hz⟩:=Option.map_eq_some_iff.1 h
 exact⟨i,hi,hz⟩
theorem qbe:∃ i,Tryz.prog.info? 32=some i∧i.size=2∧i.bytes=16∧i.hasPointers=false:=by
 have h:(Tryz.prog.info? 32).map (fun i=>(i.size,i.bytes,i.hasPointers))=some (2,16,false):=by kernel_rfl
 obtain⟨i,hi,hz⟩:=Option.map_eq_some_iff.1 h
 simp only[Prod.mk.injEq] at hz
 exact⟨i,hi,hz.1,hz.2.1,hz.2.2⟩
theorem qbY {ie:TypeInfo} {n ke:Nat} (h2:2≤n) (hb:ie.bytes=16) (hp:ie.hasPointers=false):Lib.swapperK n ie ke=9:=by
 unfold Lib.swapperK
 rw[hp,hb,if_neg (by simp;omega),if_neg (by simp;omega)]
 rfl
theorem qc7 {ie:TypeInfo} {ke:Nat}:Lib.swapperK 0 ie ke=1:=rfl
theorem qbV {ie:TypeInfo} {ke:Nat}:Lib.swapperK 1 ie ke=2:=rfl
theorem q57 (w:World) (base Bs:Nat) (v:Value) (l:List (Nat×Nat)) (ho:POwn w base v l) (hB:w.cell? ⟨Bs,0,none⟩=some v) (oL:Bs<base) (hbw:base≤w.heap.size) (hf:∀ p∈l,FinP p) (hn:l.length≤1000000):
  Calls Tryz.prog 28 #[.iface 22 v,.func (.func 29) #[] #[.pointer (some ⟨Bs,0,none⟩)]] w fun e w'=>e= .returned (.tuple #[])∧∃ l',POwn w' base v l'∧l'.Perm l∧q0y l'∧OntoP base v w w':=by
 obtain⟨i,hi,hd⟩:=qbf
 obtain⟨ie,hie,hs2,Lp,rE⟩:=qbe
 by_cases h1:l.length≤1
 ·obtain⟨pa,ca,rfl⟩:=ho.len
  have hT:∀ f,Tryz.prog.funcs.findIdx? (·.name== "internal/reflectlite" ++ ".Swapper$" ++toString (Lib.swapperK l.length ie 25))=some f→Calls Tryz.prog 28 #[.iface 22 (.slice pa l.length ca),.func (.func 29) #[] #[.pointer (some ⟨Bs,0,none⟩)]] w fun e w'=>e= .returned (.tuple #[])∧∃ os,w'=grow w os:=fun f Lr=>
   Any.sort_Slice_tiny Tryz.laysGg6 22 32 i ie hi hd (by kernel_rfl) hie 25 (fun _=>by kernel_rfl) pa l.length ca h1 f Lr (.func 29) #[] #[.pointer (some ⟨Bs,0,none⟩)] w
  obtain⟨f,Lr⟩:∃ f,Tryz.prog.funcs.findIdx? (·.name== "internal/reflectlite" ++ ".Swapper$" ++toString (Lib.swapperK l.length ie 25))=some f:=by
   rcases Nat.lt_or_ge l.length 1 with h|h
   ·rw[show l.length=0 from by omega,qc7]
    exact⟨116,by kernel_rfl⟩
   ·rw[show l.length=1 from by omega,qbV]
    exact⟨117,by kernel_rfl⟩
  refine Calls.mono (hT f Lr) ?_
  rintro e w' ⟨rfl,os,rfl⟩
  have hg:G w (grow w os):=by
   have h:=gw_G w {w with heap:=os}
   have e:gw w {w with heap:=os}=grow w os:=rfl
   rw[← e];exact h
  refine⟨rfl,l,ho.G hg,List.Perm.refl _,fun i j hij hj=>by omega,q1o hg⟩
 ·obtain⟨d,hdl⟩:=q63 hf
  have hne:l≠[]:=by rintro rfl;simp at h1
  rw[← hdl] at ho hn hne h1 ⊢
  have hv:∃ g cap,v= .slice (some ⟨g,0,none⟩) d.size cap:=by
   rcases ho with ⟨-,e⟩|⟨g,cap,cur,e,-⟩
   ·exact absurd e hne
   ·exact⟨g,cap,by rw[e];simp⟩
  obtain⟨g,cap,rfl⟩:=hv
  obtain⟨hH,hg,-,hbg⟩:=q2D _ ho
  have h2:2≤d.size:=by simp at h1;omega
  have hnd:d.size≤1000000:=by simpa using hn
  have hless:LessReadsK Tryz.prog 29 #[.pointer (some ⟨Bs,0,none⟩)] (fun x:Pt=>encP x.1) 2 (ltOf fun x y:Pt=>ordZ x.1 y.1) g 0 d.size w:=by
   intro m os dk hs i j hi hj
   have e:sortWorldK (fun x:Pt=>encP x.1) 2 w g 0 m dk os=putRowK (fun x:Pt=>encP x.1) 2 (grow (Sort.ahead w m) os) g 0 dk:=by
    unfold sortWorldK;rw[putRowK_grow _ _ (Sort.ahead w m) _ g 0 _ hg]
   have Tp:HoldsK (fun x:Pt=>encP x.1) 2 (grow (Sort.ahead w m) os) g 0 d:=holdsK_grow _ _ _ _ g 0 d hg (holdsK_ahead _ _ _ _ _ _ _ hH)
   have Tq:=holdsK_putRowK _ _ _ g 0 d dk Tp hs
   rw[e]
   have hc:∀ t,t<d.size→∀ c,c<2→_:=fun t ht c hc=>(Tq.cell (i:=t) (c:=c) (by omega) (by exact hc)).1
   have F5:=hc i hi 0 (by omega)
   have F6:=hc i hi 1 (by omega)
   have F7:=hc j hj 0 (by omega)
   have F8:=hc j hj 1 (by omega)
   rw[Nat.zero_add] at F5 F6 F7 F8
   refine q9P g cap Bs d.size _ dk[i]!.1.1 dk[i]!.1.2 dk[j]!.1.1 dk[j]!.1.2 i j hi hj ?_ F5 F6 F7 F8 dk[i]!.2 dk[j]!.2
   rw[cell?_putRowK_other _ _ _ g 0 dk _ (by show Bs≠g;omega),cell?_grow _ _ _ (by show Bs<w.heap.size;omega)];exact hB
  have hc:=Any.sort_Slice_cells_sorted Tryz.laysGg6 22 32 i ie hi hd (by kernel_rfl) hie 25 (fun _=>by kernel_rfl) (fun x:Pt=>encP x.1) 2 (fun _=>rfl) hs2 (fun _=>by kernel_rfl)
   (fun x u hu=>by
    simp only[encP,List.mem_cons,List.not_mem_nil,or_false] at hu
    rcases hu with rfl|rfl<;>rfl) (ltOf fun x y:Pt=>ordZ x.1 y.1) swoP 29 _
   (enters_of Tryz.func29 (by kernel_rfl) rfl) g 0 cap d h2 (by omega) 124 (by rw[qbY h2 Lp rE];kernel_rfl) false
   (fun args W=>run_callFunc_extern Tryz.func124 (by kernel_rfl) (by kernel_rfl) (by kernel_rfl) (e:=Extern.ReflectliteSwapper.swap false) (by kernel_rfl) args W) w hless hH hg
  refine Calls.mono hc ?_
  rintro e w' ⟨rfl,d',n,os,hp,hs,rfl⟩
  obtain⟨k1,k2⟩:=q49 (fun x:Pt=>x.1) (m:=n) (os:=os) ho hp.1
  refine⟨rfl,(d'.toList.map (fun x:Pt=>x.1):List (Nat×Nat)),k1,?_,?_,k2⟩
  ·have:=hp.2.2
   rw[← hp.1,Array.extract_size,hp.1,Array.extract_size] at this
   exact this.map _
  ·intro i j hij hj
   simp only[List.length_map,Array.length_toList] at hj
   have:=hs i j (Nat.zero_le _) hij (by rw[← hp.1];exact hj)
   unfold ltOf at this
   rw[decide_eq_false_iff_not] at this
   have e:∀ k,k<d'.size→(d'.toList.map (fun x=>x.1)).getD k (0,0)=(d'[k]!).1:=by
    intro k hk
    rw[List.getD_eq_getElem?_getD,List.getElem?_eq_getElem (by simpa using hk),getElem!_pos d' k hk]
    simp
   rw[e j hj,e i (by omega)]
   exact this
end Go.Proofs.YtdidnnbpdcanlaaGreatDoor.EN
