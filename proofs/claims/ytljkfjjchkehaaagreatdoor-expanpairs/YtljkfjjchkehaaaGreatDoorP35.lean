/- What is proved here: the reference's ratios told by core's fractions: a float's, sums, differences, products, over this seat's translation.
What is proved here: the reference's ratios told by core's fractions, new ones too: products, Cmp, over this seat's translation.
What is proved here: contracts of the reference: F, CheckList, over this seat's translation.
What is proved here: contracts of the reference: add, over this seat's translation. -/
import Derived.Test.YtljkfjjchkehaaaGreatDoorP32
import Derived.Test.YtljkfjjchkehaaaGreatDoorP33
import Derived.Test.YtljkfjjchkehaaaGreatDoorP30
import Derived.Test.YtljkfjjchkehaaaGreatDoorP30
import Derived.Test.YtljkfjjchkehaaaGreatDoorP34
import Derived.Test.YtljkfjjchkehaaaGreatDoorP31
import Derived.Test.YtljkfjjchkehaaaGreatDoorP2
namespace Go.Proofs.YtljkfjjchkehaaaGreatDoor.EN
open Go.ChangeShapes Go.WideShapes Go.ChangeAt Go.RowKit
/-- At block p lies the reference's ratio of a fraction. -/
def RIs (w:World) (p:Nat) (q:Rat):Prop:=RatIs w p q.num (q.den:Int)
theorem RIs.G {w w':World} {p:Nat} {q:Rat} (h:RIs w p q) (hp:p<w.heap.size) (g:G w w'):RIs w' p q:=RatIs.G h hp g
/-- A call hands back a new ratio. -/
def q64 (w:World) (q:Rat) (e:Ending) (w':World):Prop:=∃ p,e= .returned (.pointer (some ⟨p,0,none⟩))∧G w w'∧w.heap.size≤p∧p<w'.heap.size∧RIs w' p q
/-- A call sets a ratio. -/
def SetRat (w:World) (b:Nat) (q:Rat) (e:Ending) (w':World):Prop:=e= .returned (.pointer (some ⟨b,0,none⟩))∧GX b w w'∧RIs w' b q
theorem SetRat.ret {w0 w:World} {b:Nat} {q:Rat} {e:Ending} {w':World} (g:G w0 w) (hb:w0.heap.size≤b) (hs:b<w.heap.size) (h:SetRat w b q e w'):q64 w0 q e w':=
 ⟨b,h.1,GX.fresh g h.2.1 hb,hb,Nat.lt_of_lt_of_le hs h.2.1.size,h.2.2⟩
theorem q1Z (w:World) (b:Nat) (h:b<2^64) (hf:fex b<2047):Calls Tryz.prog 30 #[.float .f64 b] w (q64 w (Uz (fz b))):=by
 have hq:FQ b=Uz (fz b):=q4M h hf
 obtain⟨e1,e2⟩:=q26 (q5O (fex b)) (q:=FQ b) rfl
 refine(qbQ w b (fex b) (b%2^52) (fmag b) h rfl rfl hf rfl).mono ?_
 rintro e w' ⟨p,rfl,g,k1,k2,k3⟩
 refine⟨p,rfl,g,k1,k2,?_⟩
 rw[← hq]
 unfold RIs
 rw[e1,e2]
 exact k3
theorem qb32 {q:Rat} {K:Nat} (h:QB q K):q.num.natAbs<2^(32*(2*K))∧q.den<2^(32*(2*K)):=by
 have e:32*(2*K)=64*K:=by omega
 rw[e]
 exact h
theorem q8j (w:World) (bz bx b2:Nat) (s1 s2:Int) (x y:Rat) (K:Nat) (hK:K≤40000) (qx:QB x K) (qy:QB y K)
  (hbz:bz<w.heap.size) (hbx:bx<w.heap.size) (hby:b2<w.heap.size) (hz:RatIs w bz s1 s2) (hx:RIs w bx x) (hy:RIs w b2 y):
  Calls Tryz.prog 31 #[.pointer (some ⟨bz,0,none⟩),.pointer (some ⟨bx,0,none⟩),.pointer (some ⟨b2,0,none⟩)] w (SetRat w bz (x-y)):=by
 obtain⟨e1,e2⟩:=q26 (Nat.mul_pos x.den_pos y.den_pos) (q:=x-y) (Rat.sub_def' x y)
 refine(qbc w bz bx b2 s1 s2 x.num y.num x.den y.den (2*K) (by omega) (qb32 qx).1 (qb32 qy).1 (qb32 qx).2 (qb32 qy).2 x.den_pos y.den_pos hbz hbx hby hz hx hy).mono ?_
 rintro e w' ⟨k1,k2,k3⟩
 refine⟨k1,k2,?_⟩
 unfold RIs
 rw[e1,e2]
 exact k3
/-- The same, or a new ratio, which stands for 0. -/
def RV (w:World) (p:Nat) (q:Rat):Prop:=RIs w p q∨(q=0∧RatIs w p 0 0)
theorem RV.G {w w':World} {p:Nat} {q:Rat} (h:RV w p q) (hp:p<w.heap.size) (g:G w w'):RV w' p q:=by
 rcases h with h|⟨h1,h⟩
 ·exact Or.inl (h.G hp g)
 ·exact Or.inr ⟨h1,RatIs.G h hp g⟩
theorem RV.v {w:World} {p:Nat} {q:Rat} (h:RV w p q):RatV w p q.num q.den:=by
 rcases h with h|⟨rfl,h⟩
 ·exact Or.inl h
 ·exact Or.inr ⟨rfl,rfl,h⟩
theorem qch (w:World) (bz bx b2:Nat) (s1 s2:Int) (x y:Rat) (K:Nat) (hK:K≤40000) (qx:QB x K) (qy:QB y K)
  (hbz:bz<w.heap.size) (hbx:bx<w.heap.size) (hby:b2<w.heap.size) (hz:RatIs w bz s1 s2) (hx:RV w bx x) (hy:RV w b2 y):
  Calls Tryz.prog 29 #[.pointer (some ⟨bz,0,none⟩),.pointer (some ⟨bx,0,none⟩),.pointer (some ⟨b2,0,none⟩)] w (SetRat w bz (x+y)):=by
 obtain⟨e1,e2⟩:=q26 (Nat.mul_pos x.den_pos y.den_pos) (q:=x+y) (Rat.add_def' x y)
 refine(qc9 w bz bx b2 s1 s2 x.num y.num x.den y.den (2*K) (by omega) (qb32 qx).1 (qb32 qy).1 (qb32 qx).2 (qb32 qy).2 x.den_pos y.den_pos hbz hbx hby hz hx.v hy.v).mono ?_
 rintro e w' ⟨k1,k2,k3⟩
 refine⟨k1,k2,?_⟩
 unfold RIs
 rw[e1,e2]
 exact k3
theorem q3i (w:World) (bz bx b2:Nat) (s1 s2:Int) (x y:Rat) (K:Nat) (hK:K≤40000) (qx:QB x K) (qy:QB y K)
  (hbz:bz<w.heap.size) (hbx:bx<w.heap.size) (hby:b2<w.heap.size) (hz:RatIs w bz s1 s2) (hx:RIs w bx x) (hy:RIs w b2 y):
  Calls Tryz.prog 29 #[.pointer (some ⟨bz,0,none⟩),.pointer (some ⟨bx,0,none⟩),.pointer (some ⟨b2,0,none⟩)] w (SetRat w bz (x+y)):=
 qch w bz bx b2 s1 s2 x y K hK qx qy hbz hbx hby hz (Or.inl hx) (Or.inl hy)
theorem qbM (w:World) (bz bx b2:Nat) (s1 s2:Int) (x y:Rat) (K:Nat) (hK:K≤40000) (qx:QB x K) (qy:QB y K)
  (hbz:bz<w.heap.size) (hbx:bx<w.heap.size) (hby:b2<w.heap.size) (hz:RatIs w bz s1 s2) (hx:RV w bx x) (hy:RV w b2 y):
  Calls Tryz.prog 14 #[.pointer (some ⟨bz,0,none⟩),.pointer (some ⟨bx,0,none⟩),.pointer (some ⟨b2,0,none⟩)] w (SetRat w bz (x*y)):=by
 obtain⟨e1,e2⟩:=q26 (Nat.mul_pos x.den_pos y.den_pos) (q:=x*y) (Rat.mul_def' x y)
 refine(qbD w bz bx b2 s1 s2 x.num y.num x.den y.den (2*K) (by omega) (qb32 qx).1 (qb32 qy).1 (qb32 qx).2 (qb32 qy).2 x.den_pos y.den_pos hbz hbx hby hz hx.v hy.v).mono ?_
 rintro e w' ⟨k1,k2,k3⟩
 refine⟨k1,k2,?_⟩
 unfold RIs
 rw[e1,e2]
 exact k3
theorem q9M (w:World) (bz bx b2:Nat) (s1 s2:Int) (x y:Rat) (K:Nat) (hK:K≤40000) (qx:QB x K) (qy:QB y K)
  (hbz:bz<w.heap.size) (hbx:bx<w.heap.size) (hby:b2<w.heap.size) (hz:RatIs w bz s1 s2) (hx:RIs w bx x) (hy:RIs w b2 y):
  Calls Tryz.prog 14 #[.pointer (some ⟨bz,0,none⟩),.pointer (some ⟨bx,0,none⟩),.pointer (some ⟨b2,0,none⟩)] w (SetRat w bz (x*y)):=
 qbM w bz bx b2 s1 s2 x y K hK qx qy hbz hbx hby hz (Or.inl hx) (Or.inl hy)
theorem q1P (w:World) (b:Nat) (h:b<2^64):Calls Tryz.prog 44 #[.float .f64 b] w fun e w'=>e= .returned (.bool (decide (fex b<2047)))∧G w w':=by
 have e:decide (fex b<2047)=decide (FT.rung b<FT.infR):=by
  have:=q3Y b
  exact decide_eq_decide.2 this
 rw[e]
 exact q9e b w h
theorem q1V (w:World) (t:TypeId):Rec (w.alloc (.cells #[.bool false,.slice none 0 0,.bool false,.slice none 0 0] t)) w.heap.size [.bool false,.slice none 0 0,.bool false,.slice none 0 0]:=Rec.new w [.bool false,.slice none 0 0,.bool false,.slice none 0 0] t
theorem qb4 (x y:Rat):((x.num*y.den:Int):Rat)/((x.den*y.num:Int):Rat)=x/y:=by
 have h1:x=Rat.divInt x.num x.den:=(Rat.num_divInt_den x).symm
 have h2:y=Rat.divInt y.num y.den:=(Rat.num_divInt_den y).symm
 have h3:x/y=Rat.divInt x.num x.den*(Rat.divInt y.num y.den)⁻¹ :=by rw[← h1,← h2,Rat.div_def]
 rw[h3,Rat.inv_divInt,Rat.divInt_mul_divInt,Rat.divInt_eq_div]
/-- The reference's quotient of two ratios, to a new one. -/
theorem qbO (w:World) (bz bx b2:Nat) (x y:Rat) (K:Nat) (hK:K≤40000) (qx:QB x K) (qy:QB y K) (h0:y≠0)
  (_:bz<w.heap.size) (hbx:bx<w.heap.size) (hby:b2<w.heap.size) (hz:Rec w bz [.bool false,.slice none 0 0,.bool false,.slice none 0 0]) (hx:RIs w bx x) (hy:RIs w b2 y):
  Calls Tryz.prog 33 #[.pointer (some ⟨bz,0,none⟩),.pointer (some ⟨bx,0,none⟩),.pointer (some ⟨b2,0,none⟩)] w (SetRat w bz (x/y)):=by
 have hn:y.num≠0:=fun h=>h0 (Rat.num_eq_zero.1 h)
 have hq:=qb9 w bz bx b2 x.num y.num x.den y.den (2*K) (by omega) (qb32 qx).1 (qb32 qy).1 (qb32 qx).2 (qb32 qy).2 x.den_pos y.den_pos hn hbx hby hz hx hy
 rw[qb4] at hq
 refine Calls.mono (P:=Tryz.prog) hq ?_
 rintro e w' ⟨k1,k2,k3⟩
 exact⟨k1,k2,k3⟩
theorem q9c (w:World) (bx b2:Nat) (x y:Rat) (qx:QB x 80) (qy:QB y 80) (hbx:bx<w.heap.size) (hby:b2<w.heap.size) (hx:RIs w bx x) (hy:RIs w b2 y):
  Calls Tryz.prog 59 #[.pointer (some ⟨bx,0,none⟩),.pointer (some ⟨b2,0,none⟩)] w (q64 w (x+y)):=by
 have HS:Hid (∀ w1 p,G w w1→p<w1.heap.size→RatIs w1 p 0 0→_):=fun w1 p g hp hr=>q3i w1 p bx b2 0 0 x y 80 (by omega) qx qy hp (G.lt g hbx) (G.lt g hby) hr (hx.G hbx g) (hy.G hby g)
 generalize x+y=q at *
 clear qx qy hx hy
 go_enter Tryz.func59,Tryz.ntmps59
 go_wp2_with fail
 have hr0:=q0q w 40
 have hga:=(G.refl w).alloc (.cells #[.bool false,.slice none 0 0,.bool false,.slice none 0 0] 40)
 have hzs:w.heap.size<(w.alloc (.cells #[.bool false,.slice none 0 0,.bool false,.slice none 0 0] 40)).heap.size:=by simp
 have hz0:w.heap.size≤w.heap.size:=Nat.le_refl _
 generalize w.alloc (.cells #[.bool false,.slice none 0 0,.bool false,.slice none 0 0] 40)=w3 at *
 refine Calls.mono (P:=Tryz.prog) (HS.out w3 _ hga hzs hr0) ?_
 intro e w4 hs
 obtain⟨p,rfl,k1,k2,k3,k4⟩:=SetRat.ret hga hz0 hzs hs
 have CV:Hid (RIs w4 p q):=k4
 clear hs k4 HS
 go_wp2_with fail
 go_ret
 exact⟨p,rfl,k1,k2,k3,CV.out⟩
end Go.Proofs.YtljkfjjchkehaaaGreatDoor.EN
