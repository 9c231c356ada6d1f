/- What is proved here: the reference's ratios told by core's fractions: a float's, sums, differences, products, over this seat's translation.
What is proved here: the reference's ratios told by core's fractions, new ones too: products, Cmp, over this seat's translation.
What is proved here: contracts of the reference: F, CheckList, over this seat's translation.
What is proved here: contracts of the reference: CheckPoints, over this seat's translation.
What is proved here: unfit, CheckPoints of more than 60 points, over this seat's translation. -/
import Derived.Test.YtdidnnbpdcanlaaGreatDoorC34
import Derived.Test.YtdidnnbpdcanlaaGreatDoorC34
import Derived.Test.YtdidnnbpdcanlaaGreatDoorC32
import Derived.Test.YtdidnnbpdcanlaaGreatDoorC32
import Derived.Test.YtdidnnbpdcanlaaGreatDoorC39
import Derived.Test.YtdidnnbpdcanlaaGreatDoorC33
import Derived.Test.YtdidnnbpdcanlaaGreatDoorC20
import Derived.Test.YtdidnnbpdcanlaaGreatDoorC2
namespace Go.Proofs.YtdidnnbpdcanlaaGreatDoor.EN
open Go.ChangeShapes Go.WideShapes Go.ChangeAt Go.RowKit
/-- At block p lies the reference's ratio of a fraction. -/
def RIs (w:World) (p:Nat) (q:Rat):Prop:=RatIs w p q.num (q.den:Int)
theorem RIs.G {w w':World} {p:Nat} {q:Rat} (h:RIs w p q) (hp:p<w.heap.size) (g:G w w'):RIs w' p q:=RatIs.G h hp g
/-- A call hands back a new ratio. -/
def RetRat (w:World) (q:Rat) (e:Ending) (w':World):Prop:=∃ p,e= .returned (.pointer (some ⟨p,0,none⟩))∧G w w'∧w.heap.size≤p∧p<w'.heap.size∧RIs w' p q
/-- A call sets a ratio. -/
def SetRat (w:World) (b:Nat) (q:Rat) (e:Ending) (w':World):Prop:=e= .returned (.pointer (some ⟨b,0,none⟩))∧GX b w w'∧RIs w' b q
theorem SetRat.ret {w0 w:World} {b:Nat} {q:Rat} {e:Ending} {w':World} (g:G w0 w) (hb:w0.heap.size≤b) (hs:b<w.heap.size) (h:SetRat w b q e w'):RetRat w0 q e w':=
 ⟨b,h.1,GX.fresh g h.2.1 hb,hb,Nat.lt_of_lt_of_le hs h.2.1.size,h.2.2⟩
theorem qbF (w:World) (b:Nat) (h:b<2^64) (hf:fex b<2047):Calls Tryz.prog 33 #[.float .f64 b] w (RetRat w (Uz (fz b))):=by
 have hq:FQ b=Uz (fz b):=q9Z h hf
 obtain⟨e1,e2⟩:=q2l (q7s (fex b)) (q:=FQ b) rfl
 refine(qbs w b (fex b) (b%2^52) (fmag b) h rfl rfl hf rfl).mono ?_
 rintro e w' ⟨p,rfl,g,k1,k2,k3⟩
 refine⟨p,rfl,g,k1,k2,?_⟩
 rw[← hq]
 unfold RIs
 rw[e1,e2]
 exact k3
theorem qb32 {q:Rat} {K:Nat} (h:QB q K):q.num.natAbs<2^(32*(2*K))∧q.den<2^(32*(2*K)):=by
 have e:32*(2*K)=64*K:=by omega
 rw[e]
 exact h
theorem qb4 (w:World) (bz bx b2:Nat) (s1 s2:Int) (x y:Rat) (K:Nat) (hK:K≤40000) (qx:QB x K) (qy:QB y K)
  (hbz:bz<w.heap.size) (hbx:bx<w.heap.size) (hby:b2<w.heap.size) (hz:RatIs w bz s1 s2) (hx:RIs w bx x) (hy:RIs w b2 y):
  Calls Tryz.prog 73 #[.pointer (some ⟨bz,0,none⟩),.pointer (some ⟨bx,0,none⟩),.pointer (some ⟨b2,0,none⟩)] w (SetRat w bz (x-y)):=by
 obtain⟨e1,e2⟩:=q2l (Nat.mul_pos x.den_pos y.den_pos) (q:=x-y) (Rat.sub_def' x y)
 refine(qbC w bz bx b2 s1 s2 x.num y.num x.den y.den (2*K) (by omega) (qb32 qx).1 (qb32 qy).1 (qb32 qx).2 (qb32 qy).2 x.den_pos y.den_pos hbz hbx hby hz hx hy).mono ?_
 rintro e w' ⟨k1,k2,k3⟩
 refine⟨k1,k2,?_⟩
 unfold RIs
 rw[e1,e2]
 exact k3
/-- The same, or a new ratio, which stands for 0. -/
def RV (w:World) (p:Nat) (q:Rat):Prop:=RIs w p q∨(q=0∧RatIs w p 0 0)
theorem RV.G {w w':World} {p:Nat} {q:Rat} (h:RV w p q) (hp:p<w.heap.size) (g:G w w'):RV w' p q:=by
 rcases h with h|⟨h1,h⟩
 ·exact Or.inl (h.G hp g)
 ·exact Or.inr ⟨h1,RatIs.G h hp g⟩
theorem RV.v {w:World} {p:Nat} {q:Rat} (h:RV w p q):RatV w p q.num q.den:=by
 rcases h with h|⟨rfl,h⟩
 ·exact Or.inl h
 ·exact Or.inr ⟨rfl,rfl,h⟩
theorem qbQ (w:World) (bz bx b2:Nat) (s1 s2:Int) (x y:Rat) (K:Nat) (hK:K≤40000) (qx:QB x K) (qy:QB y K)
  (hbz:bz<w.heap.size) (hbx:bx<w.heap.size) (hby:b2<w.heap.size) (hz:RatIs w bz s1 s2) (hx:RV w bx x) (hy:RV w b2 y):
  Calls Tryz.prog 58 #[.pointer (some ⟨bz,0,none⟩),.pointer (some ⟨bx,0,none⟩),.pointer (some ⟨b2,0,none⟩)] w (SetRat w bz (x+y)):=by
 obtain⟨e1,e2⟩:=q2l (Nat.mul_pos x.den_pos y.den_pos) (q:=x+y) (Rat.add_def' x y)
 refine(qb7 w bz bx b2 s1 s2 x.num y.num x.den y.den (2*K) (by omega) (qb32 qx).1 (qb32 qy).1 (qb32 qx).2 (qb32 qy).2 x.den_pos y.den_pos hbz hbx hby hz hx.v hy.v).mono ?_
 rintro e w' ⟨k1,k2,k3⟩
 refine⟨k1,k2,?_⟩
 unfold RIs
 rw[e1,e2]
 exact k3
theorem qbG (w:World) (bz bx b2:Nat) (s1 s2:Int) (x y:Rat) (K:Nat) (hK:K≤40000) (qx:QB x K) (qy:QB y K)
  (hbz:bz<w.heap.size) (hbx:bx<w.heap.size) (hby:b2<w.heap.size) (hz:RatIs w bz s1 s2) (hx:RIs w bx x) (hy:RIs w b2 y):
  Calls Tryz.prog 58 #[.pointer (some ⟨bz,0,none⟩),.pointer (some ⟨bx,0,none⟩),.pointer (some ⟨b2,0,none⟩)] w (SetRat w bz (x+y)):=
 qbQ w bz bx b2 s1 s2 x y K hK qx qy hbz hbx hby hz (Or.inl hx) (Or.inl hy)
theorem qbg (w:World) (bz bx b2:Nat) (s1 s2:Int) (x y:Rat) (K:Nat) (hK:K≤40000) (qx:QB x K) (qy:QB y K)
  (hbz:bz<w.heap.size) (hbx:bx<w.heap.size) (hby:b2<w.heap.size) (hz:RatIs w bz s1 s2) (hx:RV w bx x) (hy:RV w b2 y):
  Calls Tryz.prog 75 #[.pointer (some ⟨bz,0,none⟩),.pointer (some ⟨bx,0,none⟩),.pointer (some ⟨b2,0,none⟩)] w (SetRat w bz (x*y)):=by
 obtain⟨e1,e2⟩:=q2l (Nat.mul_pos x.den_pos y.den_pos) (q:=x*y) (Rat.mul_def' x y)
 refine(qbi w bz bx b2 s1 s2 x.num y.num x.den y.den (2*K) (by omega) (qb32 qx).1 (qb32 qy).1 (qb32 qx).2 (qb32 qy).2 x.den_pos y.den_pos hbz hbx hby hz hx.v hy.v).mono ?_
 rintro e w' ⟨k1,k2,k3⟩
 refine⟨k1,k2,?_⟩
 unfold RIs
 rw[e1,e2]
 exact k3
theorem qbJ (w:World) (bz bx b2:Nat) (s1 s2:Int) (x y:Rat) (K:Nat) (hK:K≤40000) (qx:QB x K) (qy:QB y K)
  (hbz:bz<w.heap.size) (hbx:bx<w.heap.size) (hby:b2<w.heap.size) (hz:RatIs w bz s1 s2) (hx:RIs w bx x) (hy:RIs w b2 y):
  Calls Tryz.prog 75 #[.pointer (some ⟨bz,0,none⟩),.pointer (some ⟨bx,0,none⟩),.pointer (some ⟨b2,0,none⟩)] w (SetRat w bz (x*y)):=
 qbg w bz bx b2 s1 s2 x y K hK qx qy hbz hbx hby hz (Or.inl hx) (Or.inl hy)
theorem qbA (w:World) (bx b2:Nat) (x y:Rat) (K:Nat) (hK:K≤40000) (qx:QB x K) (qy:QB y K)
  (hbx:bx<w.heap.size) (hby:b2<w.heap.size) (hx:RV w bx x) (hy:RV w b2 y):
  Calls Tryz.prog 36 #[.pointer (some ⟨bx,0,none⟩),.pointer (some ⟨b2,0,none⟩)] w fun e w'=>e= .returned (.int .i64 (x.num*y.den-y.num*x.den).sign)∧G w w':=by
 have hfin:∀ (e:Ending) (w':World),(e= .returned (.int .i64 (cmpI (x.num*(y.den:Int)) (y.num*(x.den:Int))))∧G w w')→(e= .returned (.int .i64 (x.num*y.den-y.num*x.den).sign)∧G w w'):=by
  rintro e w' ⟨rfl,g⟩
  exact⟨by rw[q50],g⟩
 exact Calls.mono (P:=Tryz.prog) (qbt w bx b2 x.num y.num x.den y.den (2*K) (by omega) (qb32 qx).1 (qb32 qy).1 (qb32 qx).2 (qb32 qy).2 x.den_pos y.den_pos hbx hby hx.v hy.v) hfin
theorem q3f (w:World) (b:Nat) (h:b<2^64):Calls Tryz.prog 15 #[.float .f64 b] w fun e w'=>e= .returned (.bool (decide (fex b<2047)))∧G w w':=by
 have e:decide (fex b<2047)=decide (FT.rung b<FT.infR):=by
  have:=q2X b
  exact decide_eq_decide.2 this
 rw[e]
 exact q9d b w h
theorem q72 (w:World) (c a:Int):Calls Tryz.prog 16 #[.int .i64 c,.int .i64 a] w fun e w'=>e= .returned (.agg #[.int .i64 c,.int .i64 a])∧G w w':=by
 go_enter Tryz.func16,Tryz.ntmps16
 go_wp2_with fail
 have R0:Hid (Rec (w.alloc (.cells #[.int .i64 c,.int .i64 a] 26)) w.heap.size [.int .i64 c,.int .i64 a]):=Rec.new2 w _ _ _
 have g0:G w (w.alloc (.cells #[.int .i64 c,.int .i64 a] 26)):=(G.refl w).alloc _
 generalize w.alloc (.cells #[.int .i64 c,.int .i64 a] 26)=w0 at *
 have dn:=Rec.f2 (Rec.G R0.out (G.refl _))
 have jD:=dn.1
 have jE:=dn.2.1
 have jF:=dn.2.2.1
 have jG:=dn.2.2.2
 clear dn
 refine bodyPost_ret (v:= .agg #[.int .i64 c,.int .i64 a]) (by simp [results,Tryz.results16,go_sem, *]) rfl ?_
 exact⟨rfl,g0⟩
attribute [local go_sem] q0d
theorem q4a (w:World) (v:Value) (l:List (Nat×Nat)) (h:PSl w v l) (hl:∀ i,i<l.length→(l.getD i (0,0)).1<2^64∧(l.getD i (0,0)).2<2^64) (hn:l.length≤60):
  Calls Tryz.prog 6 #[v] w (q5B w l):=by
 obtain⟨pa,ca,rfl,-,hrow⟩:=h
 have HR:Hid _:=hrow
 have HL:Hid _:=hl
 obtain⟨n,hn'⟩:∃ n,n=l.length:=⟨_,rfl⟩
 rw[← hn'] at hn ⊢
 have HN:Hid (n=l.length):=hn'
 have hlim:decide ((60:Int)<n)=false:=decide_eq_false (by omega)
 clear hrow hl hn'
 go_enter Tryz.func6,Tryz.ntmps6
 go_wp2_with fail
 obtain⟨w0,aL,g0,hz0,R0⟩:=q0B w [.int .i64 0,.int .i64 0] 26
 rw[aL]
 clear aL
 go_loopw [11] (fun vk wr=>∃ k:Nat,k≤n∧vk= .int .i64 k∧(∀ j,j<k→FinP (l.getD j (0,0)))∧G w0 wr) (fun vk _=>n-(intOf vk).toNat)
 case atStart=>exact⟨0,Nat.zero_le _,rfl,fun j hj=>by omega,G.refl _⟩
 case round=>
  obtain⟨k,hk,rfl,hf,hG⟩:=hrel
  have HF:Hid _:=hf
  have RF:Hid (Rec wr w.heap.size [.int .i64 0,.int .i64 0]):=Rec.G R0.out hG
  clear hf
  by_cases hkn:k<n
  ·obtain⟨b1,o1,rfl,hB1,hx',hy'⟩:=HR.out k (by rw[← HN.out];exact hkn)
   have hgw:=G.trans g0 hG
   have hx:=hgw.cell (p:=⟨b1,o1+k*2,none⟩) hB1 hx'
   have hy:=hgw.cell (p:=⟨b1,o1+k*2+1,none⟩) hB1 hy'
   obtain⟨oC,oD⟩:=HL.out k (by rw[← HN.out];exact hkn)
   obtain⟨x,ex⟩:∃ x,x=(l.getD k (0,0)).1:=⟨_,rfl⟩
   obtain⟨y,ey⟩:∃ y,y=(l.getD k (0,0)).2:=⟨_,rfl⟩
   rw[← ex] at hx oC
   rw[← ey] at hy oD
   have HE:Hid (FinP (l.getD k (0,0))↔(fex x<2047∧fex y<2047)):=by show _↔_;rw[ex,ey];exact Iff.rfl
   have HX:Hid (∀ w1,_):=fun w1=>q3f w1 x oC
   have HY:Hid (∀ w1,_):=fun w1=>q3f w1 y oD
   clear hx' hy' oC oD ex ey hB1
   have lI:Hid (¬ fex x<2047→¬ FinP (l.getD k (0,0))):=fun h1 h2=>h1 (HE.out.1 h2).1
   have kJ:Hid (¬ fex y<2047→¬ FinP (l.getD k (0,0))):=fun h1 h2=>h1 (HE.out.1 h2).2
   have qg:Hid (fex x<2047→fex y<2047→FinP (l.getD k (0,0))):=fun h1 h2=>HE.out.2 ⟨h1,h2⟩
   clear HE
   by_cases hfx:fex x<2047
   ·rw[decide_eq_true hfx] at HX
    have qg:Hid (fex y<2047→FinP (l.getD k (0,0))):=fun h2=>qg.out hfx h2
    clear hfx lI
    have kY:Hid (Rec (wr.alloc (.cells #[.float .f64 x,.float .f64 y] 32)) wr.heap.size [.float .f64 x,.float .f64 y]):=Rec.new2 wr _ _ _
    have l6:Hid (G wr (wr.alloc (.cells #[.float .f64 x,.float .f64 y] 32))):=(G.refl wr).alloc _
    go_wp2_with fail
    refine Calls.mono (P:=Tryz.prog) (HX.out _) ?_
    rintro e1 w1 ⟨rfl,g1⟩
    have R1:Hid (Rec w1 wr.heap.size [.float .f64 x,.float .f64 y]):=Rec.G kY.out g1
    have oF:=G.trans l6.out g1
    clear kY l6 g1 HX
    have cB:=Rec.f2 (Rec.G R1.out (G.refl _))
    have eO:=cB.1
    have eT:=cB.2.1
    have gL:=cB.2.2.1
    have gM:=cB.2.2.2
    clear cB
    have hlt1:=R1.out.lt
    go_wp2_with fail
    refine Calls.mono (P:=Tryz.prog) (HY.out _) ?_
    rintro e2 w2 ⟨rfl,g2⟩
    by_cases nu:fex y<2047
    ·have HP:Hid (FinP (l.getD k (0,0))):=qg.out nu
     rw[decide_eq_true nu]
     clear nu qg kJ HY
     go_wp2_with fail
     refine⟨⟨k+1,hkn,rfl,fun j hj=> ?_,G.trans hG (G.trans oF g2)⟩,?_⟩
     ·by_cases hjk:j<k
      ·exact HF.out j hjk
      ·have:j=k:=by omega
       subst this
       exact HP.out
     ·show n-((k:Int)+1).toNat<n-(k:Int).toNat
      omega
    ·have yK:Hid (¬ FinP (l.getD k (0,0))):=kJ.out nu
     rw[decide_eq_false nu]
     clear nu qg kJ HY
     go_wp2_with fail
     refine Calls.mono (P:=Tryz.prog) (q72 w2 4 k) ?_
     rintro e3 w3 ⟨rfl,g3⟩
     have g13:=G.trans oF (G.trans g2 g3)
     clear oF g2 g3
     have bX:=Rec.f2 (Rec.G RF.out (g13))
     have gV:=bX.1
     have gW:=bX.2.1
     have gX:=bX.2.2.1
     have gY:=bX.2.2.2
     clear bX
     go_wp2_with fail
     clear eO eT gL gM
     go_wp2_with fail
     have hT:Hid (Rec (World.setCell (World.setCell w3 ⟨w.heap.size,0,none⟩ (.int .i64 4)) ⟨w.heap.size,1,none⟩ (.int .i64 k)) (w.heap.size) [.int .i64 4,.int .i64 k]):=Rec.set2 (Rec.G RF.out (g13))
     have g9:=Rec.g2 (b:=w.heap.size) (u:= .int .i64 4) (v:= .int .i64 k) (G.trans (G.trans g0 hG) g13) (by omega)
     generalize (World.setCell (World.setCell w3 ⟨w.heap.size,0,none⟩ (.int .i64 4)) ⟨w.heap.size,1,none⟩ (.int .i64 k))=w9 at *
     have hF:=Rec.f2 (Rec.G hT.out ((G.refl _)))
     have bR:=hF.1
     have bU:=hF.2.1
     have bV:=hF.2.2.1
     have bW:=hF.2.2.2
     clear hF
     have iG:=Rec.lt hT.out
     refine bodyPost_ret (v:= .agg #[.int .i64 4,.int .i64 k]) (by simp [results,Tryz.results6,go_sem, *]) rfl ?_
     exact⟨4,k,rfl,g9,.inr ⟨k,rfl,rfl,by rw[← HN.out];exact hkn,yK.out,HF.out⟩⟩
   ·have yK:Hid (¬ FinP (l.getD k (0,0))):=lI.out hfx
    rw[decide_eq_false hfx] at HX
    clear hfx qg lI kJ HY
    have kY:Hid (Rec (wr.alloc (.cells #[.float .f64 x,.float .f64 y] 32)) wr.heap.size [.float .f64 x,.float .f64 y]):=Rec.new2 wr _ _ _
    have l6:Hid (G wr (wr.alloc (.cells #[.float .f64 x,.float .f64 y] 32))):=(G.refl wr).alloc _
    go_wp2_with fail
    refine Calls.mono (P:=Tryz.prog) (HX.out _) ?_
    rintro e1 w1 ⟨rfl,g1⟩
    have oF:=G.trans l6.out g1
    clear kY l6 g1 HX
    go_wp2_with fail
    refine Calls.mono (P:=Tryz.prog) (q72 w1 4 k) ?_
    rintro e3 w3 ⟨rfl,g3⟩
    have g13:=G.trans oF g3
    clear oF g3
    have bX:=Rec.f2 (Rec.G RF.out (g13))
    have gV:=bX.1
    have gW:=bX.2.1
    have gX:=bX.2.2.1
    have gY:=bX.2.2.2
    clear bX
    go_wp2_with fail
    go_wp2_with fail
    have hT:Hid (Rec (World.setCell (World.setCell w3 ⟨w.heap.size,0,none⟩ (.int .i64 4)) ⟨w.heap.size,1,none⟩ (.int .i64 k)) (w.heap.size) [.int .i64 4,.int .i64 k]):=Rec.set2 (Rec.G RF.out (g13))
    have g9:=Rec.g2 (b:=w.heap.size) (u:= .int .i64 4) (v:= .int .i64 k) (G.trans (G.trans g0 hG) g13) (by omega)
    generalize (World.setCell (World.setCell w3 ⟨w.heap.size,0,none⟩ (.int .i64 4)) ⟨w.heap.size,1,none⟩ (.int .i64 k))=w9 at *
    have hF:=Rec.f2 (Rec.G hT.out ((G.refl _)))
    have bR:=hF.1
    have bU:=hF.2.1
    have bV:=hF.2.2.1
    have bW:=hF.2.2.2
    clear hF
    have iG:=Rec.lt hT.out
    refine bodyPost_ret (v:= .agg #[.int .i64 4,.int .i64 k]) (by simp [results,Tryz.results6,go_sem, *]) rfl ?_
    exact⟨4,k,rfl,g9,.inr ⟨k,rfl,rfl,by rw[← HN.out];exact hkn,yK.out,HF.out⟩⟩
  ·have hkn:k=n:=by omega
   subst hkn
   have bX:=Rec.f2 (Rec.G RF.out (G.refl _))
   have gV:=bX.1
   have gW:=bX.2.1
   have gX:=bX.2.2.1
   have gY:=bX.2.2.2
   clear bX
   go_wp2_with fail
   clear gV gW gX gY
   go_wp2_with fail
   have hT:Hid (Rec (World.setCell (World.setCell wr ⟨w.heap.size,0,none⟩ (.int .i64 0)) ⟨w.heap.size,1,none⟩ (.int .i64 0)) (w.heap.size) [.int .i64 0,.int .i64 0]):=Rec.set2 (Rec.G RF.out (G.refl _))
   have g9:=Rec.g2 (b:=w.heap.size) (u:= .int .i64 0) (v:= .int .i64 0) (G.trans g0 hG) (by omega)
   generalize (World.setCell (World.setCell wr ⟨w.heap.size,0,none⟩ (.int .i64 0)) ⟨w.heap.size,1,none⟩ (.int .i64 0))=w9 at *
   have hF:=Rec.f2 (Rec.G hT.out ((G.refl _)))
   have bR:=hF.1
   have bU:=hF.2.1
   have bV:=hF.2.2.1
   have bW:=hF.2.2.2
   clear hF
   have iG:=Rec.lt hT.out
   refine bodyPost_ret (v:= .agg #[.int .i64 0,.int .i64 0]) (by simp [results,Tryz.results6,go_sem, *]) rfl ?_
   exact⟨0,0,rfl,g9,.inl ⟨rfl,rfl,fun i hi=>HF.out i (by rw[HN.out];exact hi)⟩⟩
end Go.Proofs.YtdidnnbpdcanlaaGreatDoor.EN
namespace Go.Proofs.YtdidnnbpdcanlaaGreatDoor.EN
open Go.ChangeShapes Go.WideShapes Go.ChangeAt Go.RowKit
attribute [local go_sem] q0d
theorem q6h (w:World) (a:Option Addr) (n c:Nat) (hn:60<n):Calls Tryz.prog 38 #[.slice a n c] w fun e w'=>e= .returned (.agg #[.int .i64 2,.int .i64 0])∧G w w':=by
 have hlim:decide ((60:Int)<n)=true:=decide_eq_true (by omega)
 go_enter Tryz.func38,Tryz.ntmps38
 go_wp2_with fail
 obtain⟨w0,aL,g0,hz0,R0⟩:=q0B w [.int .i64 2,.int .i64 0] 26
 rw[aL]
 clear aL
 have dn:=Rec.f2 (Rec.G R0.out (G.refl _))
 have jD:=dn.1
 have jE:=dn.2.1
 have jF:=dn.2.2.1
 have jG:=dn.2.2.2
 clear dn
 refine bodyPost_ret (v:= .agg #[.int .i64 2,.int .i64 0]) (by simp [results,Tryz.results38,go_sem, *]) rfl ?_
 exact⟨rfl,g0⟩
theorem q2P (w:World) (a:Option Addr) (n c:Nat) (hn:60<n):Calls Tryz.prog 6 #[.slice a n c] w fun e w'=>e= .returned (.agg #[.int .i64 2,.int .i64 0])∧G w w':=by
 have hlim:decide ((60:Int)<n)=true:=decide_eq_true (by omega)
 go_enter Tryz.func6,Tryz.ntmps6
 go_wp2_with fail
 obtain⟨w0,aL,g0,hz0,R0⟩:=q0B w [.int .i64 0,.int .i64 0] 26
 rw[aL]
 clear aL
 refine Calls.mono (P:=Tryz.prog) (q72 w0 2 0) ?_
 rintro e1 w1 ⟨rfl,g1⟩
 have dn:=Rec.f2 (Rec.G R0.out (g1))
 have jD:=dn.1
 have jE:=dn.2.1
 have jF:=dn.2.2.1
 have jG:=dn.2.2.2
 clear dn
 go_wp2_with fail
 have hT:Hid (Rec (World.setCell (World.setCell w1 ⟨w.heap.size,0,none⟩ (.int .i64 2)) ⟨w.heap.size,1,none⟩ (.int .i64 0)) (w.heap.size) [.int .i64 2,.int .i64 0]):=Rec.set2 (Rec.G R0.out (g1))
 have g9:=Rec.g2 (b:=w.heap.size) (u:= .int .i64 2) (v:= .int .i64 0) (G.trans g0 g1) (by omega)
 generalize (World.setCell (World.setCell w1 ⟨w.heap.size,0,none⟩ (.int .i64 2)) ⟨w.heap.size,1,none⟩ (.int .i64 0))=w9 at *
 have hF:=Rec.f2 (Rec.G hT.out ((G.refl _)))
 have bR:=hF.1
 have bU:=hF.2.1
 have bV:=hF.2.2.1
 have bW:=hF.2.2.2
 clear hF
 have iG:=Rec.lt hT.out
 refine bodyPost_ret (v:= .agg #[.int .i64 2,.int .i64 0]) (by simp [results,Tryz.results6,go_sem, *]) rfl ?_
 exact⟨rfl,g9⟩
/-- Hull of what isn't fit. -/
theorem q3u (w:World) (v:Value) (c a:Int) (hc:c≠0) (h:∀ w1,G w w1→Calls Tryz.prog 38 #[v] w1 fun e w'=>e= .returned (.agg #[.int .i64 c,.int .i64 a])∧G w1 w'):
  Calls Tryz.prog 9 #[v] w fun e w'=>e= .returned (.tuple #[.slice none 0 0,.agg #[.int .i64 c,.int .i64 a]])∧G w w':=by
 have HU:Hid (∀ w1,G w w1→_):=h
 clear h
 go_enter Tryz.func9,Tryz.ntmps9
 go_wp2_with fail
 obtain⟨w0,aL,g0,hz0,R0⟩:=q0B w [.int .i64 0,.int .i64 0] 26
 rw[aL]
 clear aL
 refine Calls.mono (P:=Tryz.prog) (HU.out w0 g0) ?_
 rintro e1 w1 ⟨rfl,g1⟩
 have R1:Hid (Rec w1 w.heap.size [.int .i64 0,.int .i64 0]):=Rec.G R0.out g1
 have mI:=G.trans g0 g1
 have hlt:=R1.out.lt
 clear R0 g0 hz0 g1 HU
 have hcf:(c==0)=false:=by simpa using hc
 have cB:=Rec.f2 (Rec.G R1.out (G.refl _))
 have eO:=cB.1
 have eT:=cB.2.1
 have gL:=cB.2.2.1
 have gM:=cB.2.2.2
 clear cB
 go_wp2_with fail
 go_region
 go_wp2_with fail
 have hT:Hid (Rec (World.setCell (World.setCell w1 ⟨w.heap.size,0,none⟩ (.int .i64 c)) ⟨w.heap.size,1,none⟩ (.int .i64 a)) (w.heap.size) [.int .i64 c,.int .i64 a]):=Rec.set2 (Rec.G R1.out (G.refl _))
 have g9:=Rec.g2 (b:=w.heap.size) (u:= .int .i64 c) (v:= .int .i64 a) (mI) (by omega)
 generalize (World.setCell (World.setCell w1 ⟨w.heap.size,0,none⟩ (.int .i64 c)) ⟨w.heap.size,1,none⟩ (.int .i64 a))=w9 at *
 have hF:=Rec.f2 (Rec.G hT.out ((G.refl _)))
 have bR:=hF.1
 have bU:=hF.2.1
 have bV:=hF.2.2.1
 have bW:=hF.2.2.2
 clear hF
 have iG:=Rec.lt hT.out
 refine bodyPost_ret (v:= .tuple #[.slice none 0 0,.agg #[.int .i64 c,.int .i64 a]]) (by simp [results,Tryz.results9,go_sem, *]) rfl ?_
 exact⟨rfl,(g9.alloc _).drew⟩
end Go.Proofs.YtdidnnbpdcanlaaGreatDoor.EN
