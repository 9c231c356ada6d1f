/- What is proved here: package geom's Hull of no points, over this seat's translation. -/
import Derived.Test.YtdidnnbpdcanlaaGreatDoorC38
import Derived.Shelf.SlSortCmp.NoneTotal
namespace Go.Proofs.YtdidnnbpdcanlaaGreatDoor.EN
open Go.ChangeShapes Go.WideShapes Go.ChangeAt Go.RowKit Go.Sort
attribute [local go_sem] q0d
theorem POwn.none {w:World} {base:Nat} {v:Value} (h:POwn w base v []):∃ p cap,v= .slice p 0 cap:=by
 rcases h with ⟨rfl,-⟩|⟨g,cap,cur,rfl,-⟩
 ·exact⟨_,_,rfl⟩
 ·exact⟨_,_,rfl⟩
theorem q46 (w:World) (p:Option Addr) (cap:Nat):Calls Tryz.prog 82 #[.slice p 0 cap,.func (.func 42) #[] #[]] w fun e w'=>e= .returned (.tuple #[])∧w'=w:=
 AnyF.slices_SortFunc_none Tryz.sortP p cap (.func (.func 42) #[] #[]) w
theorem q3c (Bs:Nat) (sv:Value) (w:World) (n₀:Nat) (oL:Bs<w.heap.size) (hn0:n₀≤w.heap.size)
  (hc:w.cell? ⟨Bs,0,none⟩=some sv) (hI:PSlB n₀ w sv []):
  Calls Tryz.prog 40 #[.func (.func 83) #[] #[.pointer (some ⟨Bs,0,none⟩)],.func (.func 42) #[] #[]] w fun e w'=>∃ v,e= .returned v∧POwn w' w.heap.size v []∧G w w':=by
 have HC:Hid _:=q4S Bs n₀ sv [] (by simp) w oL hn0 hc hI
 clear hc hI
 go_enter Tryz.func40,Tryz.ntmps40
 go_wp2_with fail
 refine Calls.mono (P:=Tryz.prog) HC.out ?_
 rintro e w1 ⟨v,rfl,h1,h2⟩
 have HO:Hid (POwn w1 w.heap.size v []):=h1
 obtain⟨pa,pc,rfl⟩:=h1.none
 clear h1
 go_wp2_with fail
 refine Calls.mono (P:=Tryz.prog) (q46 w1 pa pc) ?_
 rintro e w2 ⟨rfl,hw2⟩
 subst hw2
 go_wp2_with fail
 go_ret
 exact⟨_,rfl,HO.out,h2⟩
set_option maxRecDepth 20000 in
theorem q9m (w:World) (v:Value) (h:PSl w v []):Calls Tryz.prog 9 #[v] w fun e w'=>∃ u,e= .returned (.tuple #[u,.agg #[.int .i64 0,.int .i64 0]])∧G w w'∧POwn w' w.heap.size u []:=by
 obtain⟨pa,ca,rfl,dB,hrow⟩:=id h
 have HP:Hid (PSl w (.slice pa 0 ca) []):=h
 have HU:Hid (∀ w1,G w w1→_):=fun w1 g=>q2x w1 _ [] (h.G g) (fun i hi=>nomatch hi) (by simp)
 clear h dB hrow
 go_enter Tryz.func9,Tryz.ntmps9
 go_wp2_with fail
 obtain⟨w0,aL,g0,hz0,R0⟩:=q0B w [.int .i64 0,.int .i64 0] 26
 rw[aL]
 clear aL
 refine Calls.mono (P:=Tryz.prog) (HU.out _ g0) ?_
 intro e1 w1 hs
 obtain⟨c,a,rfl,g1,hv⟩:=hs
 obtain⟨rfl,rfl⟩:c=0∧a=0:=by
  rcases hv with ⟨h1,h2,-⟩|⟨i,-,-,h3,h4,-⟩
  ·exact⟨h1,h2⟩
  ·exact absurd h3 (Nat.not_lt_zero _)
 clear hv HU
 have S0:Hid (Rec _ _ _):=Rec.G R0.out (g1)
 have mI:=G.trans g0 g1
 clear R0 g0 hz0 g1
 go_wp2_with fail
 refine Calls.mono (P:=Tryz.prog) (q3U _ pa 0 ca) ?_
 rintro e w3 ⟨rfl,hw3⟩
 have hg3:G w w3:=by rw[hw3];exact(mI.alloc _).alloc _
 have hs3:w1.heap.size+2≤w3.heap.size:=by rw[hw3];simp
 have hB3:w3.cell? ⟨w1.heap.size+1,0,none⟩=some (.slice pa 0 ca):=by
  have h:=(Rec.new1 (w1.alloc (.cells #[.int .i64 0,.int .i64 0] 26)) (.slice pa 0 ca) 22).cell 0
  rw[World.size_alloc] at h
  rw[hw3];exact h
 have S3:Hid (Rec w3 w.heap.size [.int .i64 0,.int .i64 0]):=by
  show Rec _ _ _
  rw[hw3]
  exact Rec.G S0.out (((G.refl w1).alloc _).alloc _)
 have hbs:w.heap.size<w1.heap.size:=S0.out.lt
 rw[World.size_alloc]
 have rW:Hid _:=q3c (w1.heap.size+1) (.slice pa 0 ca) w3 w.heap.size (by omega) hg3.size hB3 (PSlB.below HP.out hg3)
 have nI:Hid (G w w3):=hg3
 clear hg3 hB3 hw3 S0 mI
 go_wp2_with fail
 refine Calls.mono (P:=Tryz.prog) rW.out ?_
 rintro e w4 ⟨v4,rfl,hO4,hg4⟩
 have kD:Hid (POwn w4 w3.heap.size v4 []):=hO4
 have jd:Hid (G w w4):=G.trans nI.out hg4
 have S4:Hid (Rec w4 w.heap.size [.int .i64 0,.int .i64 0]):=Rec.G S3.out hg4
 have xh:Hid _:=q3j w4 w3.heap.size v4 [] hO4 (by simp)
 clear hO4 hg4 rW S3 nI
 go_wp2_with fail
 refine Calls.mono (P:=Tryz.prog) xh.out ?_
 rintro e w5 ⟨v5,rfl,ic,oO,vF⟩
 have ic:POwn w5 w3.heap.size v5 []:=ic
 have fF:Hid (POwn w5 w3.heap.size v5 []):=ic
 have ui:Hid (G w w5):=oO.g w (by omega) jd.out
 have hne:v4.ownBlock≠some w.heap.size:=kD.out.own (Or.inl (by omega))
 have S5:Hid (Rec w5 w.heap.size [.int .i64 0,.int .i64 0]):=oO.r S4.out hne
 obtain⟨p5,c5,rfl⟩:=ic.none
 clear oO ic xh kD jd S4 vF hne
 have iT:Hid (POwn (World.setCell (World.setCell w5 ⟨w.heap.size,0,none⟩ (.int .i64 0)) ⟨w.heap.size,1,none⟩ (.int .i64 0)) w.heap.size (.slice p5 0 c5) []):=by
  have h1:POwn w5 (w.heap.size+1) (.slice p5 0 c5) []:=fF.out.base (by omega)
  have h2:=h1.oth (w':=World.setCell w5 ⟨w.heap.size,0,none⟩ (.int .i64 0)) (b:=w.heap.size) (h1.own (Or.inl (by omega))) (fun k hk=>q0E hk)
  have h3:=h2.oth (w':=World.setCell (World.setCell w5 ⟨w.heap.size,0,none⟩ (.int .i64 0)) ⟨w.heap.size,1,none⟩ (.int .i64 0)) (b:=w.heap.size) (h2.own (Or.inl (by omega))) (fun k hk=>q0E hk)
  exact h3.base (Nat.le_succ _)
 have ku:=Rec.f2 (Rec.G S5.out (G.refl _))
 have zW:=ku.1
 have zX:=ku.2.1
 have zY:=ku.2.2.1
 have zZ:=ku.2.2.2
 clear ku
 go_wp2_with fail
 have hT:Hid (Rec (World.setCell (World.setCell w5 ⟨w.heap.size,0,none⟩ (.int .i64 0)) ⟨w.heap.size,1,none⟩ (.int .i64 0)) (w.heap.size) [.int .i64 0,.int .i64 0]):=Rec.set2 (Rec.G S5.out (G.refl _))
 have g11:=Rec.g2 (b:=w.heap.size) (u:= .int .i64 0) (v:= .int .i64 0) (ui.out) (by omega)
 generalize (World.setCell (World.setCell w5 ⟨w.heap.size,0,none⟩ (.int .i64 0)) ⟨w.heap.size,1,none⟩ (.int .i64 0))=dE at *
 have hF:=Rec.f2 (Rec.G hT.out ((G.refl _)))
 have bR:=hF.1
 have bU:=hF.2.1
 have bV:=hF.2.2.1
 have bW:=hF.2.2.2
 clear hF
 have iG:=Rec.lt hT.out
 refine bodyPost_ret (v:= .tuple #[.slice p5 0 c5,.agg #[.int .i64 0,.int .i64 0]]) (by simp [results,Tryz.results9,go_sem, *]) rfl ?_
 exact⟨_,rfl,g11,iT.out⟩
end Go.Proofs.YtdidnnbpdcanlaaGreatDoor.EN
