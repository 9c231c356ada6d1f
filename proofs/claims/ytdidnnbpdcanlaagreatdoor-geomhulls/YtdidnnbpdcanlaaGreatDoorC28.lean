/- What is proved here: contracts of the reference's big numbers: Sign, BitLen, Cmp, Bit, QuoRem, Rsh of Int, over this seat's translation.
What is proved here: how two whole numbers compare (no program), over this seat's translation.
What is proved here: contracts of the reference's big numbers: QuoRem, Rsh, Uint64 of Int, what a writing method leaves standing, over this seat's translation.
What is proved here: contracts of the reference's big numbers: TrailingZeroBits of Int, new Ints step by step, over this seat's translation.
What is proved here: the reference's nearest number, its arithmetic (no program).
What is proved here: contracts of the reference's big numbers: Neg of Int, the smallest methods of Rat, over this seat's translation.
What is proved here: contracts of the reference's big numbers: Sub of Int, over this seat's translation. -/
import Derived.Test.YtdidnnbpdcanlaaGreatDoorC25
import Derived.Test.YtdidnnbpdcanlaaGreatDoorC27
import Derived.Test.YtdidnnbpdcanlaaGreatDoorC18
namespace Go.Proofs.YtdidnnbpdcanlaaGreatDoor
open Go.ChangeShapes Go.WideShapes Go.ChangeAt Go.RowKit
open BN
theorem q9O (w:World) (b o:Nat) (s:Int) (hz:IntIs w b o s):
  Calls Tryz.prog 97 #[.pointer (some ⟨b,o,none⟩)] w fun e w'=>e= .returned (.int .i64 s.sign)∧G w w':=by
 obtain⟨n,v,a,⟨c1,c2,-,-⟩,⟨l,hl,hc,hv⟩,h1,h2⟩:=hz
 obtain⟨p,c,rfl,-,-⟩:=q0o hl
 have h0:a=0↔l.length=0:=by rw[← hv,q14 hc,List.length_eq_zero_iff]
 generalize l.length=j at *
 have hss:s.sign=if j=0 then 0 else if n then -1 else 1:=by
  rw[← h1];unfold sg
  by_cases hj:j=0
  ·rw[if_pos hj,h0.2 hj];simp
  ·rw[if_neg hj]
   have ha:a≠0:=fun h=>hj (h0.1 h)
   cases n
   ·simp;omega
   ·simp;omega
 rw[hss]
 clear hss hl hc hv h1 h2 h0
 by_cases hj:j=0
 ·subst hj
  go_enter Tryz.func97,Tryz.ntmps97
  go_wp2_with fail
  go_ret
  exact⟨rfl,G.refl _⟩
 ·rw[if_neg hj]
  have t0:((j:Int)==0)=false:=by simp;omega
  cases n
  all_goals
   go_enter Tryz.func97,Tryz.ntmps97
   go_wp2_with fail
   go_ret
   exact⟨rfl,G.refl _⟩
theorem G.lt {w w':World} {b:Nat} (g:G w w') (h:b<w.heap.size):b<w'.heap.size:=Nat.lt_of_lt_of_le h g.size
def cmpI (x y:Int):Int:=if x<y then -1 else if x=y then 0 else 1
theorem q8L {n:Bool} {a b:Nat}:cmpI (sg n a) (sg n b)=if n then -(cmpV a b) else cmpV a b:=by
 unfold cmpI cmpV sg
 cases n
 ·simp only[Bool.false_eq_true,if_false]
  by_cases h1:a<b
  ·rw[if_pos (by omega),if_pos h1]
  ·rw[if_neg (by omega),if_neg h1]
   by_cases h2:a=b
   ·rw[if_pos (by omega),if_pos h2]
   ·rw[if_neg (by omega),if_neg h2]
 ·simp only[if_true]
  by_cases h1:a<b
  ·rw[if_neg (by omega),if_neg (by omega),if_pos h1];rfl
  ·rw[if_neg h1]
   by_cases h2:a=b
   ·rw[if_neg (by omega),if_pos (by omega),if_pos h2];rfl
   ·rw[if_pos (by omega),if_neg h2]
theorem q7T (w:World) (bx ox b2 oy:Nat) (sx sy:Int) (K:Nat) (hK:K≤1000000) (hx2:sx.natAbs<2^(32*K)) (hy2:sy.natAbs<2^(32*K)) (hbx:bx<w.heap.size) (hby:b2<w.heap.size)
  (hx:IntIs w bx ox sx) (hy:IntIs w b2 oy sy):
  Calls Tryz.prog 77 #[.pointer (some ⟨bx,ox,none⟩),.pointer (some ⟨b2,oy,none⟩)] w fun e w'=>e= .returned (.int .i64 (cmpI sx sy))∧G w w':=by
 obtain⟨n,v,a,⟨c1,c2,-,-⟩,hv,h1,h3⟩:=hx
 obtain⟨n',v',a',⟨c3,c4,-,-⟩,hv',h2,h4⟩:=hy
 have ha:=q1E h1
 have ha':=q1E h2
 have HW:Hid (∀ w1,G w w1→_):=fun w1 g=>q2R w1 v v' a a' K (by omega) (hv.G g) (hv'.G g) (by omega) (by omega)
 by_cases hn:n=n'
 ·subst hn
  have HS:Hid (cmpI sx sy=if n then -(cmpV a a') else cmpV a a'):=by show cmpI sx sy=_;rw[← h1,← h2];exact q8L
  have hb1: -1≤cmpV a a':=by unfold cmpV;split<;>(try split)<;>omega
  have hb2:cmpV a a'≤1:=by unfold cmpV;split<;>(try split)<;>omega
  have t0:(n==n)=true:=by simp
  generalize cmpV a a'=cv at *
  rw[HS.out]
  clear hx2 hy2 hv hv' h1 h2 ha ha' h3 h4 HS
  cases n
  all_goals
   go_enter Tryz.func77,Tryz.ntmps77
   go_wp2_with fail
   refine q07 (by kernel_rfl) (by kernel_rfl) ?_
   intro W hW
   have pK:=q04 (w:=W) (a:=⟨bx,ox,none⟩) (x:= .bool _) (by rw[hW];first|(simp;done)|(simp;omega)|omega) (by rw[hW];first|assumption|(simp [go_sem];done)|(simp [*,go_sem];done))
   have pM:=q04 (w:=W) (a:=⟨b2,oy,none⟩) (x:= .bool _) (by rw[hW];first|(simp;done)|(simp;omega)|omega) (by rw[hW];first|assumption|(simp [go_sem];done)|(simp [*,go_sem];done))
   clear hW
   repeat (go_big_quiet_step (fail))
   refine wpQuiet_nil ?_
   clear pK pM
   intro w1 hw1
   have hg1:=hw1
   have d1:=hw1.cell (p:=⟨bx,ox,none⟩) hbx c1
   have d2:=hw1.cell (p:=⟨bx,ox+1,none⟩) hbx c2
   have d3:=hw1.cell (p:=⟨b2,oy+1,none⟩) hby c4
   go_wp2_with fail
   clear c1 c2 c3 c4 hw1
   have JL:bx<w1.heap.size:=G.lt hg1 hbx
   have Sb:b2<w1.heap.size:=G.lt hg1 hby
   have HW1:Hid (∀ w2,G w1 w2→_):=fun w2 g=>HW.out w2 (G.trans hg1 g)
   refine q0G 9 (G w1) (by kernel_rfl) (by first|exact(G.refl _).drew|exact G.drew (by assumption)) ?_
   intro bG
   refine q02 0 (v:= ?_) rfl (by kernel_rfl) (fun _ _ _ h=>h) rfl ?_ ‹_› ?_
   rotate_left
   ·intro wq hwq
    have hq1:=G.cell (p:=⟨bx,ox+1,none⟩) (v:=v) hwq (by first|assumption|(simp;done)|(simp;omega)|omega) (by assumption)
    have hq2:=G.cell (p:=⟨b2,oy+1,none⟩) (v:=v') hwq (by first|assumption|(simp;done)|(simp;omega)|omega) (by assumption)
    first|(go_simp;done)|(go_simp;with_reducible rfl)
   try simp only[aput,List.set]
   refine q02 1 (v:= ?_) rfl (by kernel_rfl) (fun _ _ _ h=>h) rfl ?_ ‹_› ?_
   rotate_left
   ·intro wq hwq
    have hq3:=G.cell (p:=⟨bx,ox+1,none⟩) (v:=v) hwq (by first|assumption|(simp;done)|(simp;omega)|omega) (by assumption)
    have hq4:=G.cell (p:=⟨b2,oy+1,none⟩) (v:=v') hwq (by first|assumption|(simp;done)|(simp;omega)|omega) (by assumption)
    first|(go_simp;done)|(go_simp;with_reducible rfl)
   try simp only[aput,List.set]
   refine q02 2 (v:= ?_) rfl (by kernel_rfl) (fun _ _ _ h=>h) rfl ?_ ‹_› ?_
   rotate_left
   ·intro wq hwq
    have kC:=G.cell (p:=⟨bx,ox+1,none⟩) (v:=v) hwq (by first|assumption|(simp;done)|(simp;omega)|omega) (by assumption)
    have kG:=G.cell (p:=⟨b2,oy+1,none⟩) (v:=v') hwq (by first|assumption|(simp;done)|(simp;omega)|omega) (by assumption)
    first|(go_simp;done)|(go_simp;with_reducible rfl)
   try simp only[aput,List.set]
   refine q02 3 (v:= ?_) rfl (by kernel_rfl) (fun _ _ _ h=>h) rfl ?_ ‹_› ?_
   rotate_left
   ·intro wq hwq
    have kS:=G.cell (p:=⟨bx,ox+1,none⟩) (v:=v) hwq (by first|assumption|(simp;done)|(simp;omega)|omega) (by assumption)
    have hq8:=G.cell (p:=⟨b2,oy+1,none⟩) (v:=v') hwq (by first|assumption|(simp;done)|(simp;omega)|omega) (by assumption)
    first|(go_simp;done)|(go_simp;with_reducible rfl)
   try simp only[aput,List.set]
   refine q02 4 (v:= ?_) rfl (by kernel_rfl) (fun _ _ _ h=>h) rfl ?_ ‹_› ?_
   rotate_left
   ·intro wq hwq
    have qp:=G.cell (p:=⟨bx,ox+1,none⟩) (v:=v) hwq (by first|assumption|(simp;done)|(simp;omega)|omega) (by assumption)
    have jf:=G.cell (p:=⟨b2,oy+1,none⟩) (v:=v') hwq (by first|assumption|(simp;done)|(simp;omega)|omega) (by assumption)
    first|(go_simp;done)|(go_simp;with_reducible rfl)
   try simp only[aput,List.set]
   refine q02 5 (v:= ?_) rfl (by kernel_rfl) (fun _ _ _ h=>h) rfl ?_ ‹_› ?_
   rotate_left
   ·intro wq hwq
    have hq11:=G.cell (p:=⟨bx,ox+1,none⟩) (v:=v) hwq (by first|assumption|(simp;done)|(simp;omega)|omega) (by assumption)
    have hq12:=G.cell (p:=⟨b2,oy+1,none⟩) (v:=v') hwq (by first|assumption|(simp;done)|(simp;omega)|omega) (by assumption)
    first|(go_simp;done)|(go_simp;with_reducible rfl)
   try simp only[aput,List.set]
   refine q02 6 (v:= ?_) rfl (by kernel_rfl) (fun _ _ _ h=>h) rfl ?_ ‹_› ?_
   rotate_left
   ·intro wq hwq
    have nV:=G.cell (p:=⟨bx,ox+1,none⟩) (v:=v) hwq (by first|assumption|(simp;done)|(simp;omega)|omega) (by assumption)
    have nW:=G.cell (p:=⟨b2,oy+1,none⟩) (v:=v') hwq (by first|assumption|(simp;done)|(simp;omega)|omega) (by assumption)
    first|(go_simp;done)|(go_simp;with_reducible rfl)
   try simp only[aput,List.set]
   refine q02 7 (v:= ?_) rfl (by kernel_rfl) (fun _ _ _ h=>h) rfl ?_ ‹_› ?_
   rotate_left
   ·intro wq hwq
    have nX:=G.cell (p:=⟨bx,ox+1,none⟩) (v:=v) hwq (by first|assumption|(simp;done)|(simp;omega)|omega) (by assumption)
    have qH:=G.cell (p:=⟨b2,oy+1,none⟩) (v:=v') hwq (by first|assumption|(simp;done)|(simp;omega)|omega) (by assumption)
    first|(go_simp;done)|(go_simp;with_reducible rfl)
   try simp only[aput,List.set]
   refine q03 (i:=8) (by kernel_rfl) rfl ?_
   intro K hK
   go_simp
   go_wp2_with (go_at_call 140;refine Calls.mono (P:=Tryz.prog) (HW1.out _ bG) ?_;rintro e w2 ⟨rfl,hg2⟩)
   refine hK.out _ _ (Or.inr (G.trans bG hg2)) ?_
   clear hK K
   refine q03 (i:=9) (by kernel_rfl) rfl ?_
   intro K hK
   go_simp
   refine hK.out _ _ (Or.inl (by decide)) ?_
   clear hK K
   refine q0f (by kernel_rfl) ?_ _
   have e1:=(G.trans bG hg2).cell JL d1
   go_wp2_with fail
   go_ret
   exact⟨rfl,G.trans hg1 (G.trans bG hg2)⟩
 ·have t0:(n==n')=false:=by simp [hn]
  obtain rfl:n'= !n:=by cases n<;>cases n'<;>simp_all
  have HS:Hid (cmpI sx sy=if n then -1 else 1):=by
   show cmpI sx sy=_
   rw[← h1,← h2]
   unfold cmpI sg
   cases n
   ·have:=h4 rfl
    simp only[Bool.false_eq_true,if_false,Bool.not_false,if_true]
    rw[if_neg (by omega),if_neg (by omega)]
   ·have:=h3 rfl
    simp only[Bool.not_true,Bool.false_eq_true,if_false,if_true]
    rw[if_pos (by omega)]
  rw[HS.out]
  clear hx2 hy2 hv hv' h1 h2 ha ha' h3 h4 HS HW
  cases n
  all_goals
   go_enter Tryz.func77,Tryz.ntmps77
   go_wp2_with fail
   refine q07 (by kernel_rfl) (by kernel_rfl) ?_
   intro W hW
   have pO:=q04 (w:=W) (a:=⟨bx,ox,none⟩) (x:= .bool _) (by rw[hW];first|(simp;done)|(simp;omega)|omega) (by rw[hW];first|assumption|(simp [go_sem];done)|(simp [*,go_sem];done))
   have pQ:=q04 (w:=W) (a:=⟨b2,oy,none⟩) (x:= .bool _) (by rw[hW];first|(simp;done)|(simp;omega)|omega) (by rw[hW];first|assumption|(simp [go_sem];done)|(simp [*,go_sem];done))
   clear hW
   repeat (go_big_quiet_step (fail))
   refine wpQuiet_nil ?_
   clear pO pQ
   intro w1 hw1
   have d1:=hw1.cell (p:=⟨bx,ox,none⟩) hbx c1
   go_wp2_with fail
   go_ret
   exact⟨rfl,hw1⟩
end Go.Proofs.YtdidnnbpdcanlaaGreatDoor
namespace Go.Proofs.YtdidnnbpdcanlaaGreatDoor
theorem q50 {a b:Int}:cmpI a b=(a-b).sign:=by
 unfold cmpI
 split
 ·rw[Int.sign_eq_neg_one_of_neg (by omega)]
 ·split
  ·rw[show a-b=0 from by omega];rfl
  ·rw[Int.sign_eq_one_of_pos (by omega)]
theorem q9g {a b:Int} {k:Nat} (hk:0<k):cmpI (a*(k:Int)) (b*(k:Int))=cmpI a b:=by
 rw[q50,q50,← Int.sub_mul,Int.sign_mul,Int.sign_eq_one_of_pos (show (0:Int)<k by omega),Int.mul_one]
end Go.Proofs.YtdidnnbpdcanlaaGreatDoor
namespace Go.Proofs.YtdidnnbpdcanlaaGreatDoor
open Go.ChangeShapes Go.WideShapes Go.ChangeAt Go.RowKit
open BN
/-- What a writing method leaves of a cell that it doesn't write. -/
theorem SetTo.cell {w w':World} {b o:Nat} {s:Int} {e:Ending} (h:SetTo w b o s e w') {p:Addr} {v:Value} (hp:p.block<w.heap.size) (hs:p.spot=none) (hv:w.cell? p=some v) (hne:p.block≠b∨(p.off≠o∧p.off≠o+1)):w'.cell? p=some v:=by
 obtain⟨-,h1,h2,-⟩:=h
 by_cases hb:p.block=b
 ·obtain⟨pb,po,ps⟩:=p
  simp only at hb hs hne
  subst hb hs
  have NQ:po≠o∧po≠o+1:=by rcases hne with hne|hne;exact absurd rfl hne;exact hne
  rw[h2.1 po NQ.1 NQ.2];exact hv
 ·rw[← hv];exact World.cell?_of_block (h1.block p.block hp (fun e=>hb (Option.some.inj e)))
theorem SetTo.frozen {w w':World} {b o:Nat} {s:Int} {e:Ending} (h:SetTo w b o s e w') {p:Addr} {v:Bool} (hp:p.block<w.heap.size) (hs:p.spot=none) (hv:w.frozen? p=v):w'.frozen? p=v:=by
 obtain⟨-,h1,h2,-⟩:=h
 by_cases hb:p.block=b
 ·obtain⟨pb,po,ps⟩:=p
  simp only at hb hs
  subst hb hs
  rw[h2.2 po];exact hv
 ·rw[← hv];exact World.frozen?_of_block (h1.block p.block hp (fun e=>hb (Option.some.inj e)))
theorem SetTo.size {w w':World} {b o:Nat} {s:Int} {e:Ending} (h:SetTo w b o s e w'):w.heap.size≤w'.heap.size:=h.2.1.size
theorem SetTo.is {w w':World} {b o:Nat} {s:Int} {e:Ending} (h:SetTo w b o s e w'):IntIs w' b o s:=h.2.2.2
theorem SetTo.num {w w':World} {b o:Nat} {s0 s:Int} {e:Ending} (hz:IntIs w b o s0) (h:SetTo w b o s e w') {v:Value} {n:Nat} (hn:Num w v n):Num w' v n:=by
 obtain⟨n0,v0,a0,⟨c1,c2,-,-⟩,hv0,-,-⟩:=hz
 obtain⟨l,⟨h1,h2⟩,h3⟩:=hn
 refine⟨l,⟨h1,?_⟩,h3⟩
 rcases h2 with h2|⟨b1,o1,c,e1,hc,hb,hr⟩
 ·exact Or.inl h2
 ·refine Or.inr ⟨b1,o1,c,e1,hc,Nat.lt_of_lt_of_le hb h.size,fun i hi=> ?_⟩
  have hci:=hr i hi
  refine h.cell (p:=⟨b1,o1+i,none⟩) hb rfl hci ?_
  by_cases hbb:b1=b
  ·refine Or.inr ⟨fun e2=> ?_,fun e2=> ?_⟩
   ·simp only at e2;subst hbb;rw[e2,c1] at hci;cases hci
   ·simp only at e2;subst hbb;rw[e2,c2] at hci;exact q1C hv0 _ _ (Option.some.inj hci)
  ·exact Or.inl hbb
/-- Another Int stands still. -/
theorem SetTo.keep {w w':World} {b o b2 o2:Nat} {s0 s s2:Int} {e:Ending} (hz:IntIs w b o s0) (h:SetTo w b o s e w') (hx:IntIs w b2 o2 s2) (hb2:b2<w.heap.size) (hne:b2≠b∨o2+2≤o∨o+2≤o2):IntIs w' b2 o2 s2:=by
 obtain⟨n,v,a,⟨c1,c2,f1,f2⟩,hv,h1,h2⟩:=hx
 refine⟨n,v,a,⟨h.cell hb2 rfl c1 ?_,h.cell hb2 rfl c2 ?_,h.frozen hb2 rfl f1,h.frozen hb2 rfl f2⟩,h.num hz hv,h1,h2⟩
 ·rcases hne with h|h
  ·exact Or.inl h
  ·exact Or.inr ⟨by simp only;omega,by simp only;omega⟩
 ·rcases hne with h|h
  ·exact Or.inl h
  ·exact Or.inr ⟨by simp only;omega,by simp only;omega⟩
/-- Behind it, nothing of an elder world has turned, where the block is newer. -/
theorem SetTo.fresh {w0 w w':World} {b o:Nat} {s:Int} {e:Ending} (g:G w0 w) (h:SetTo w b o s e w') (hb:w0.heap.size≤b):G w0 w':=GX.fresh g h.2.1 hb
/-- What QuoRem leaves behind. -/
def QR (w:World) (b o b3 o3:Nat) (sq sr:Int) (e:Ending) (w':World):Prop:=
 e= .returned (.tuple #[.pointer (some ⟨b,o,none⟩),.pointer (some ⟨b3,o3,none⟩)])∧∃ w2 e1 e2,SetTo w b o sq e1 w2∧SetTo w2 b3 o3 sr e2 w'
theorem q2o {a k:Nat} (h0:a≠0) (h:a%2^k=0):2^k≤a:=Nat.le_of_dvd (by omega) (Nat.dvd_of_mod_eq_zero h)
/-- A new Int, since w0. -/
def NI (w0 w:World) (p:Nat) (s:Int):Prop:=w0.heap.size≤p∧p<w.heap.size∧IntIs w p 0 s
theorem NI.G {w0 w w':World} {p:Nat} {s:Int} (h:NI w0 w p s) (g:G w w'):NI w0 w' p s:=⟨h.1,Nat.lt_of_lt_of_le h.2.1 g.size,h.2.2.G h.2.1 g⟩
theorem NI.new {w0 w:World} (g:Go.Proofs.YtdidnnbpdcanlaaGreatDoor.G w0 w) (t:TypeId):NI w0 (w.alloc (.cells #[.bool false,.slice none 0 0] t)) w.heap.size 0:=⟨g.size,by simp,q7g w t⟩
/-- What a method that sets a new Int leaves behind. -/
def Step (w0 w:World) (p:Nat) (s:Int) (e:Ending) (w':World):Prop:=
 e= .returned (.pointer (some ⟨p,0,none⟩))∧G w0 w'∧NI w0 w' p s∧w.heap.size≤w'.heap.size∧∀ p2 s2,p2≠p→NI w0 w p2 s2→NI w0 w' p2 s2
theorem SetTo.step {w0 w:World} {p:Nat} {s0 s:Int} {e:Ending} {w':World} (g:G w0 w) (hz:NI w0 w p s0) (h:SetTo w p 0 s e w'):Step w0 w p s e w':=
 ⟨h.1,h.fresh g hz.1,⟨hz.1,Nat.lt_of_lt_of_le hz.2.1 h.size,h.is⟩,h.size,fun _ _ hne hx=>⟨hx.1,Nat.lt_of_lt_of_le hx.2.1 h.size,SetTo.keep hz.2.2 h hx.2.2 hx.2.1 (Or.inl hne)⟩⟩
theorem Step.to {w0 w:World} {p:Nat} {s:Int} {e:Ending} {w':World} (h:Step w0 w p s e w'):e= .returned (.pointer (some ⟨p,0,none⟩)):=h.1
end Go.Proofs.YtdidnnbpdcanlaaGreatDoor
namespace Go.Proofs.YtdidnnbpdcanlaaGreatDoor
open Go.RowKit
open BN
/-- A / B in units of 2^p. -/
def upP (A:Nat) (p:Int):Nat:=A*2^(-p).toNat
def loP (B:Nat) (p:Int):Nat:=B*2^p.toNat
end Go.Proofs.YtdidnnbpdcanlaaGreatDoor
namespace Go.Proofs.YtdidnnbpdcanlaaGreatDoor
open Go.ChangeShapes Go.WideShapes Go.ChangeAt Go.RowKit
open BN
theorem q9G {n:Bool} {a:Nat}:sg (!n) a= -sg n a:=by unfold sg;cases n<;>simp
theorem q73 (w:World) (b o bx ox:Nat) (s0 sx:Int) (K:Nat) (hK:K≤1000000) (hx2:sx.natAbs<2^(32*K)) (hb:b<w.heap.size) (hbx:bx<w.heap.size)
  (hz:IntIs w b o s0) (hx:IntIs w bx ox sx):
  Calls Tryz.prog 137 #[.pointer (some ⟨b,o,none⟩),.pointer (some ⟨bx,ox,none⟩)] w (SetTo w b o (-sx)):=by
 obtain⟨n,v,a,⟨c1,c2,-,-⟩,hv,h1,-⟩:=hx
 have ha:=q1E h1
 have HW:Hid (∀ w1,G w w1→_):=fun w1 g=>q7O w1 v a K hK (hv.G g) (by omega)
 have HZ:Hid _:=hz
 have HS:Hid (sg (!n) a= -sx):=by show sg (!n) a= -sx;rw[q9G,h1]
 clear hz hx2 hv h1 ha
 go_enter Tryz.func137,Tryz.ntmps137
 go_wp2_with fail
 refine q0G 11 (G w) (by kernel_rfl) (by first|exact(G.refl _).drew|exact G.drew (by assumption)) ?_
 intro bG
 refine q02 0 (v:= ?_) rfl (by kernel_rfl) (fun _ _ _ h=>h) rfl ?_ ‹_› ?_
 rotate_left
 ·intro wq hwq
  have hq1:=G.cell (p:=⟨bx,ox,none⟩) (v:= .bool n) hwq (by first|assumption|(simp;done)|(simp;omega)|omega) (by assumption)
  have hq2:=G.cell (p:=⟨bx,ox+1,none⟩) (v:=v) hwq (by first|assumption|(simp;done)|(simp;omega)|omega) (by assumption)
  first|(go_simp;done)|(go_simp;with_reducible rfl)
 try simp only[aput,List.set]
 refine q02 1 (v:= ?_) rfl (by kernel_rfl) (fun _ _ _ h=>h) rfl ?_ ‹_› ?_
 rotate_left
 ·intro wq hwq
  have hq3:=G.cell (p:=⟨bx,ox,none⟩) (v:= .bool n) hwq (by first|assumption|(simp;done)|(simp;omega)|omega) (by assumption)
  have hq4:=G.cell (p:=⟨bx,ox+1,none⟩) (v:=v) hwq (by first|assumption|(simp;done)|(simp;omega)|omega) (by assumption)
  first|(go_simp;done)|(go_simp;with_reducible rfl)
 try simp only[aput,List.set]
 refine q02 2 (v:= ?_) rfl (by kernel_rfl) (fun _ _ _ h=>h) rfl ?_ ‹_› ?_
 rotate_left
 ·intro wq hwq
  have kC:=G.cell (p:=⟨bx,ox,none⟩) (v:= .bool n) hwq (by first|assumption|(simp;done)|(simp;omega)|omega) (by assumption)
  have kG:=G.cell (p:=⟨bx,ox+1,none⟩) (v:=v) hwq (by first|assumption|(simp;done)|(simp;omega)|omega) (by assumption)
  first|(go_simp;done)|(go_simp;with_reducible rfl)
 try simp only[aput,List.set]
 refine q02 3 (v:= ?_) rfl (by kernel_rfl) (fun _ _ _ h=>h) rfl ?_ ‹_› ?_
 rotate_left
 ·intro wq hwq
  have kS:=G.cell (p:=⟨bx,ox,none⟩) (v:= .bool n) hwq (by first|assumption|(simp;done)|(simp;omega)|omega) (by assumption)
  have hq8:=G.cell (p:=⟨bx,ox+1,none⟩) (v:=v) hwq (by first|assumption|(simp;done)|(simp;omega)|omega) (by assumption)
  first|(go_simp;done)|(go_simp;with_reducible rfl)
 try simp only[aput,List.set]
 refine q02 4 (v:= ?_) rfl (by kernel_rfl) (fun _ _ _ h=>h) rfl ?_ ‹_› ?_
 rotate_left
 ·intro wq hwq
  have qp:=G.cell (p:=⟨bx,ox,none⟩) (v:= .bool n) hwq (by first|assumption|(simp;done)|(simp;omega)|omega) (by assumption)
  have jf:=G.cell (p:=⟨bx,ox+1,none⟩) (v:=v) hwq (by first|assumption|(simp;done)|(simp;omega)|omega) (by assumption)
  first|(go_simp;done)|(go_simp;with_reducible rfl)
 try simp only[aput,List.set]
 refine q02 5 (v:= ?_) rfl (by kernel_rfl) (fun _ _ _ h=>h) rfl ?_ ‹_› ?_
 rotate_left
 ·intro wq hwq
  have hq11:=G.cell (p:=⟨bx,ox,none⟩) (v:= .bool n) hwq (by first|assumption|(simp;done)|(simp;omega)|omega) (by assumption)
  have hq12:=G.cell (p:=⟨bx,ox+1,none⟩) (v:=v) hwq (by first|assumption|(simp;done)|(simp;omega)|omega) (by assumption)
  first|(go_simp;done)|(go_simp;with_reducible rfl)
 try simp only[aput,List.set]
 refine q02 6 (v:= ?_) rfl (by kernel_rfl) (fun _ _ _ h=>h) rfl ?_ ‹_› ?_
 rotate_left
 ·intro wq hwq
  have nV:=G.cell (p:=⟨bx,ox,none⟩) (v:= .bool n) hwq (by first|assumption|(simp;done)|(simp;omega)|omega) (by assumption)
  have nW:=G.cell (p:=⟨bx,ox+1,none⟩) (v:=v) hwq (by first|assumption|(simp;done)|(simp;omega)|omega) (by assumption)
  first|(go_simp;done)|(go_simp;with_reducible rfl)
 try simp only[aput,List.set]
 refine q02 7 (v:= ?_) rfl (by kernel_rfl) (fun _ _ _ h=>h) rfl ?_ ‹_› ?_
 rotate_left
 ·intro wq hwq
  have nX:=G.cell (p:=⟨bx,ox,none⟩) (v:= .bool n) hwq (by first|assumption|(simp;done)|(simp;omega)|omega) (by assumption)
  have qH:=G.cell (p:=⟨bx,ox+1,none⟩) (v:=v) hwq (by first|assumption|(simp;done)|(simp;omega)|omega) (by assumption)
  first|(go_simp;done)|(go_simp;with_reducible rfl)
 try simp only[aput,List.set]
 refine q02 8 (v:= ?_) rfl (by kernel_rfl) (fun _ _ _ h=>h) rfl ?_ ‹_› ?_
 rotate_left
 ·intro wq hwq
  have pK:=G.cell (p:=⟨bx,ox,none⟩) (v:= .bool n) hwq (by first|assumption|(simp;done)|(simp;omega)|omega) (by assumption)
  have pM:=G.cell (p:=⟨bx,ox+1,none⟩) (v:=v) hwq (by first|assumption|(simp;done)|(simp;omega)|omega) (by assumption)
  first|(go_simp;done)|(go_simp;with_reducible rfl)
 try simp only[aput,List.set]
 refine q02 9 (v:= ?_) rfl (by kernel_rfl) (fun _ _ _ h=>h) rfl ?_ ‹_› ?_
 rotate_left
 ·intro wq hwq
  have pO:=G.cell (p:=⟨bx,ox,none⟩) (v:= .bool n) hwq (by first|assumption|(simp;done)|(simp;omega)|omega) (by assumption)
  have pQ:=G.cell (p:=⟨bx,ox+1,none⟩) (v:=v) hwq (by first|assumption|(simp;done)|(simp;omega)|omega) (by assumption)
  first|(go_simp;done)|(go_simp;with_reducible rfl)
 try simp only[aput,List.set]
 refine q03 (i:=10) (by kernel_rfl) rfl ?_
 intro K hK
 go_simp
 go_wp2_with (go_at_call 156;refine Calls.mono (P:=Tryz.prog) (HW.out _ bG) ?_;rintro e w2 ⟨v1,rfl,hg2,hn2⟩)
 refine hK.out _ _ (Or.inr (G.trans bG hg2)) ?_
 clear hK K
 refine q03 (i:=11) (by kernel_rfl) rfl ?_
 intro K hK
 go_simp
 go_wp2_with (go_at_call 141;refine Calls.mono (P:=Tryz.prog) (q1e (w0:=w) hb (G.trans bG hg2) (q1A _ b o _ s0 _ _ (IntIs.G HZ.out hb (G.trans bG hg2)) hn2)) ?_;rintro e w3 ⟨rfl,hs3⟩)
 refine hK.out _ _ (Or.inl (by decide)) ?_
 clear hK K
 refine q03 (i:=12) (by kernel_rfl) rfl ?_
 intro K hK
 go_simp
 refine hK.out _ _ (Or.inl (by decide)) ?_
 clear hK K
 refine q0f (by kernel_rfl) ?_ _
 rw[HS.out] at hs3
 go_wp2_with fail
 go_ret
 exact hs3
/-- At block b lies a Rat: its two Ints (a lower one of 0 stands for 1). -/
def RatIs (w:World) (b:Nat) (sa sb:Int):Prop:=IntIs w b 0 sa∧IntIs w b 2 sb
theorem q3N (w:World) (t:TypeId):RatIs (w.alloc (.cells #[.bool false,.slice none 0 0,.bool false,.slice none 0 0] t)) w.heap.size 0 0:=by
 refine⟨⟨false,.slice none 0 0,0,⟨?_,?_,World.frozen?_alloc_at _ _ _ _ rfl,World.frozen?_alloc_at _ _ _ _ rfl⟩,q0X _ _ _,rfl,fun h=>by cases h⟩,
  ⟨false,.slice none 0 0,0,⟨?_,?_,World.frozen?_alloc_at _ _ _ _ rfl,World.frozen?_alloc_at _ _ _ _ rfl⟩,q0X _ _ _,rfl,fun h=>by cases h⟩⟩
 all_goals rw[World.cell?_alloc_at _ _ _ _ rfl];rfl
theorem RatIs.G {w w':World} {b:Nat} {sa sb:Int} (h:RatIs w b sa sb) (hb:b<w.heap.size) (g:G w w'):RatIs w' b sa sb:=⟨h.1.G hb g,h.2.G hb g⟩
theorem qaz (w:World) (b:Nat) (sa sb:Int) (h:RatIs w b sa sb):
  Calls Tryz.prog 54 #[.pointer (some ⟨b,0,none⟩)] w fun e w'=>e= .returned (.int .i64 sa.sign)∧G w w':=by
 have HS:Hid _:=q9O w b 0 sa h.1
 generalize sa.sign=s at *
 clear h
 go_enter Tryz.func54,Tryz.ntmps54
 go_wp2_with fail
 refine Calls.mono (P:=Tryz.prog) HS.out ?_
 rintro e w2 ⟨rfl,hg2⟩
 go_wp2_with fail
 go_ret
 exact⟨rfl,hg2⟩
/-- den: where the lower part is laid, it is handed back itself. -/
theorem q28 (w:World) (b:Nat) (sa sb:Int) (hsb:sb≠0) (h:RatIs w b sa sb):
  Calls Tryz.prog 76 #[.pointer (some ⟨b,0,none⟩)] w fun e w'=>e= .returned (.pointer (some ⟨b,2,none⟩))∧G w w':=by
 obtain⟨-,n,v,a,⟨c1,c2,-,-⟩,⟨l,hl,hcl,hlv⟩,h1,-⟩:=h
 have ha:=q1E h1
 obtain⟨p,c,rfl,-,-⟩:=q0o hl
 have hl0:l.length≠0:=by
  intro h0
  rw[List.eq_nil_of_length_eq_zero h0] at hlv
  have:a=0:=hlv.symm
  omega
 have t0:((l.length:Int)==0)=false:=by simp;intro h;exact hl0 (by rw[h];rfl)
 generalize l.length=j at *
 clear hl hcl hlv h1 ha hsb
 go_enter Tryz.func76,Tryz.ntmps76
 go_wp2_with fail
 go_ret
 exact⟨rfl,G.refl _⟩
theorem qaS (w:World) (b o bx ox b2 oy:Nat) (s0 sx sy:Int) (K:Nat) (hK:K≤1000000) (hx2:sx.natAbs<2^(32*K)) (hy2:sy.natAbs<2^(32*K)) (hb:b<w.heap.size) (hbx:bx<w.heap.size) (hby:b2<w.heap.size)
  (hz:IntIs w b o s0) (hx:IntIs w bx ox sx) (hy:IntIs w b2 oy sy):
  Calls Tryz.prog 135 #[.pointer (some ⟨b,o,none⟩),.pointer (some ⟨bx,ox,none⟩),.pointer (some ⟨b2,oy,none⟩)] w (SetTo w b o (sx-sy)):=by
 obtain⟨n,v,a,⟨c1,c2,-,-⟩,hv,h1,-⟩:=hx
 obtain⟨n',v',a',⟨c3,c4,-,-⟩,hv',h2,-⟩:=hy
 have ha:=q1E h1
 have ha':=q1E h2
 have HW:Hid (∀ w1,G w w1→_):=fun w1 g=>qaO w1 n (!n') v v' a a' K hK (hv.G g) (hv'.G g) (by omega) (by omega)
 have HZ:Hid _:=hz
 have HS:Hid (sg n a+sg (!n') a'=sx-sy):=by show sg n a+sg (!n') a'=sx-sy;rw[q9G,h1,h2];omega
 clear hz hx2 hy2 hv hv' h1 h2 ha ha'
 go_enter Tryz.func135,Tryz.ntmps135
 go_wp2_with fail
 refine q0G 21 (G w) (by kernel_rfl) (by first|exact(G.refl _).drew|exact G.drew (by assumption)) ?_
 intro bG
 refine q02 0 (v:= ?_) rfl (by kernel_rfl) (fun _ _ _ h=>h) rfl ?_ ‹_› ?_
 rotate_left
 ·intro wq hwq
  have hq1:=G.cell (p:=⟨bx,ox,none⟩) (v:= .bool n) hwq (by first|assumption|(simp;done)|(simp;omega)|omega) (by assumption)
  have hq2:=G.cell (p:=⟨bx,ox+1,none⟩) (v:=v) hwq (by first|assumption|(simp;done)|(simp;omega)|omega) (by assumption)
  have hq3:=G.cell (p:=⟨b2,oy,none⟩) (v:= .bool n') hwq (by first|assumption|(simp;done)|(simp;omega)|omega) (by assumption)
  have hq4:=G.cell (p:=⟨b2,oy+1,none⟩) (v:=v') hwq (by first|assumption|(simp;done)|(simp;omega)|omega) (by assumption)
  first|(go_simp;done)|(go_simp;with_reducible rfl)
 try simp only[aput,List.set]
 refine q02 1 (v:= ?_) rfl (by kernel_rfl) (fun _ _ _ h=>h) rfl ?_ ‹_› ?_
 rotate_left
 ·intro wq hwq
  have kC:=G.cell (p:=⟨bx,ox,none⟩) (v:= .bool n) hwq (by first|assumption|(simp;done)|(simp;omega)|omega) (by assumption)
  have kG:=G.cell (p:=⟨bx,ox+1,none⟩) (v:=v) hwq (by first|assumption|(simp;done)|(simp;omega)|omega) (by assumption)
  have kS:=G.cell (p:=⟨b2,oy,none⟩) (v:= .bool n') hwq (by first|assumption|(simp;done)|(simp;omega)|omega) (by assumption)
  have hq8:=G.cell (p:=⟨b2,oy+1,none⟩) (v:=v') hwq (by first|assumption|(simp;done)|(simp;omega)|omega) (by assumption)
  first|(go_simp;done)|(go_simp;with_reducible rfl)
 try simp only[aput,List.set]
 refine q02 2 (v:= ?_) rfl (by kernel_rfl) (fun _ _ _ h=>h) rfl ?_ ‹_› ?_
 rotate_left
 ·intro wq hwq
  have qp:=G.cell (p:=⟨bx,ox,none⟩) (v:= .bool n) hwq (by first|assumption|(simp;done)|(simp;omega)|omega) (by assumption)
  have jf:=G.cell (p:=⟨bx,ox+1,none⟩) (v:=v) hwq (by first|assumption|(simp;done)|(simp;omega)|omega) (by assumption)
  have hq11:=G.cell (p:=⟨b2,oy,none⟩) (v:= .bool n') hwq (by first|assumption|(simp;done)|(simp;omega)|omega) (by assumption)
  have hq12:=G.cell (p:=⟨b2,oy+1,none⟩) (v:=v') hwq (by first|assumption|(simp;done)|(simp;omega)|omega) (by assumption)
  first|(go_simp;done)|(go_simp;with_reducible rfl)
 try simp only[aput,List.set]
 refine q02 3 (v:= ?_) rfl (by kernel_rfl) (fun _ _ _ h=>h) rfl ?_ ‹_› ?_
 rotate_left
 ·intro wq hwq
  have nV:=G.cell (p:=⟨bx,ox,none⟩) (v:= .bool n) hwq (by first|assumption|(simp;done)|(simp;omega)|omega) (by assumption)
  have nW:=G.cell (p:=⟨bx,ox+1,none⟩) (v:=v) hwq (by first|assumption|(simp;done)|(simp;omega)|omega) (by assumption)
  have nX:=G.cell (p:=⟨b2,oy,none⟩) (v:= .bool n') hwq (by first|assumption|(simp;done)|(simp;omega)|omega) (by assumption)
  have qH:=G.cell (p:=⟨b2,oy+1,none⟩) (v:=v') hwq (by first|assumption|(simp;done)|(simp;omega)|omega) (by assumption)
  first|(go_simp;done)|(go_simp;with_reducible rfl)
 try simp only[aput,List.set]
 refine q02 4 (v:= ?_) rfl (by kernel_rfl) (fun _ _ _ h=>h) rfl ?_ ‹_› ?_
 rotate_left
 ·intro wq hwq
  have pK:=G.cell (p:=⟨bx,ox,none⟩) (v:= .bool n) hwq (by first|assumption|(simp;done)|(simp;omega)|omega) (by assumption)
  have pM:=G.cell (p:=⟨bx,ox+1,none⟩) (v:=v) hwq (by first|assumption|(simp;done)|(simp;omega)|omega) (by assumption)
  have pO:=G.cell (p:=⟨b2,oy,none⟩) (v:= .bool n') hwq (by first|assumption|(simp;done)|(simp;omega)|omega) (by assumption)
  have pQ:=G.cell (p:=⟨b2,oy+1,none⟩) (v:=v') hwq (by first|assumption|(simp;done)|(simp;omega)|omega) (by assumption)
  first|(go_simp;done)|(go_simp;with_reducible rfl)
 try simp only[aput,List.set]
 refine q02 5 (v:= ?_) rfl (by kernel_rfl) (fun _ _ _ h=>h) rfl ?_ ‹_› ?_
 rotate_left
 ·intro wq hwq
  have xI:=G.cell (p:=⟨bx,ox,none⟩) (v:= .bool n) hwq (by first|assumption|(simp;done)|(simp;omega)|omega) (by assumption)
  have xJ:=G.cell (p:=⟨bx,ox+1,none⟩) (v:=v) hwq (by first|assumption|(simp;done)|(simp;omega)|omega) (by assumption)
  have xK:=G.cell (p:=⟨b2,oy,none⟩) (v:= .bool n') hwq (by first|assumption|(simp;done)|(simp;omega)|omega) (by assumption)
  have xL:=G.cell (p:=⟨b2,oy+1,none⟩) (v:=v') hwq (by first|assumption|(simp;done)|(simp;omega)|omega) (by assumption)
  first|(go_simp;done)|(go_simp;with_reducible rfl)
 try simp only[aput,List.set]
 refine q02 6 (v:= ?_) rfl (by kernel_rfl) (fun _ _ _ h=>h) rfl ?_ ‹_› ?_
 rotate_left
 ·intro wq hwq
  have JM:=G.cell (p:=⟨bx,ox,none⟩) (v:= .bool n) hwq (by first|assumption|(simp;done)|(simp;omega)|omega) (by assumption)
  have JN:=G.cell (p:=⟨bx,ox+1,none⟩) (v:=v) hwq (by first|assumption|(simp;done)|(simp;omega)|omega) (by assumption)
  have JO:=G.cell (p:=⟨b2,oy,none⟩) (v:= .bool n') hwq (by first|assumption|(simp;done)|(simp;omega)|omega) (by assumption)
  have JP:=G.cell (p:=⟨b2,oy+1,none⟩) (v:=v') hwq (by first|assumption|(simp;done)|(simp;omega)|omega) (by assumption)
  first|(go_simp;done)|(go_simp;with_reducible rfl)
 try simp only[aput,List.set]
 refine q02 7 (v:= ?_) rfl (by kernel_rfl) (fun _ _ _ h=>h) rfl ?_ ‹_› ?_
 rotate_left
 ·intro wq hwq
  have JS:=G.cell (p:=⟨bx,ox,none⟩) (v:= .bool n) hwq (by first|assumption|(simp;done)|(simp;omega)|omega) (by assumption)
  have JU:=G.cell (p:=⟨bx,ox+1,none⟩) (v:=v) hwq (by first|assumption|(simp;done)|(simp;omega)|omega) (by assumption)
  have JV:=G.cell (p:=⟨b2,oy,none⟩) (v:= .bool n') hwq (by first|assumption|(simp;done)|(simp;omega)|omega) (by assumption)
  have JW:=G.cell (p:=⟨b2,oy+1,none⟩) (v:=v') hwq (by first|assumption|(simp;done)|(simp;omega)|omega) (by assumption)
  first|(go_simp;done)|(go_simp;with_reducible rfl)
 try simp only[aput,List.set]
 refine q02 8 (v:= ?_) rfl (by kernel_rfl) (fun _ _ _ h=>h) rfl ?_ ‹_› ?_
 rotate_left
 ·intro wq hwq
  have JX:=G.cell (p:=⟨bx,ox,none⟩) (v:= .bool n) hwq (by first|assumption|(simp;done)|(simp;omega)|omega) (by assumption)
  have JY:=G.cell (p:=⟨bx,ox+1,none⟩) (v:=v) hwq (by first|assumption|(simp;done)|(simp;omega)|omega) (by assumption)
  have JZ:=G.cell (p:=⟨b2,oy,none⟩) (v:= .bool n') hwq (by first|assumption|(simp;done)|(simp;omega)|omega) (by assumption)
  have K4:=G.cell (p:=⟨b2,oy+1,none⟩) (v:=v') hwq (by first|assumption|(simp;done)|(simp;omega)|omega) (by assumption)
  first|(go_simp;done)|(go_simp;with_reducible rfl)
 try simp only[aput,List.set]
 refine q02 9 (v:= ?_) rfl (by kernel_rfl) (fun _ _ _ h=>h) rfl ?_ ‹_› ?_
 rotate_left
 ·intro wq hwq
  have K5:=G.cell (p:=⟨bx,ox,none⟩) (v:= .bool n) hwq (by first|assumption|(simp;done)|(simp;omega)|omega) (by assumption)
  have K6:=G.cell (p:=⟨bx,ox+1,none⟩) (v:=v) hwq (by first|assumption|(simp;done)|(simp;omega)|omega) (by assumption)
  have K7:=G.cell (p:=⟨b2,oy,none⟩) (v:= .bool n') hwq (by first|assumption|(simp;done)|(simp;omega)|omega) (by assumption)
  have K8:=G.cell (p:=⟨b2,oy+1,none⟩) (v:=v') hwq (by first|assumption|(simp;done)|(simp;omega)|omega) (by assumption)
  first|(go_simp;done)|(go_simp;with_reducible rfl)
 try simp only[aput,List.set]
 refine q02 10 (v:= ?_) rfl (by kernel_rfl) (fun _ _ _ h=>h) rfl ?_ ‹_› ?_
 rotate_left
 ·intro wq hwq
  have K9:=G.cell (p:=⟨bx,ox,none⟩) (v:= .bool n) hwq (by first|assumption|(simp;done)|(simp;omega)|omega) (by assumption)
  have Ka:=G.cell (p:=⟨bx,ox+1,none⟩) (v:=v) hwq (by first|assumption|(simp;done)|(simp;omega)|omega) (by assumption)
  have Kb:=G.cell (p:=⟨b2,oy,none⟩) (v:= .bool n') hwq (by first|assumption|(simp;done)|(simp;omega)|omega) (by assumption)
  have Kc:=G.cell (p:=⟨b2,oy+1,none⟩) (v:=v') hwq (by first|assumption|(simp;done)|(simp;omega)|omega) (by assumption)
  first|(go_simp;done)|(go_simp;with_reducible rfl)
 try simp only[aput,List.set]
 refine q02 11 (v:= ?_) rfl (by kernel_rfl) (fun _ _ _ h=>h) rfl ?_ ‹_› ?_
 rotate_left
 ·intro wq hwq
  have Ke:=G.cell (p:=⟨bx,ox,none⟩) (v:= .bool n) hwq (by first|assumption|(simp;done)|(simp;omega)|omega) (by assumption)
  have Kg:=G.cell (p:=⟨bx,ox+1,none⟩) (v:=v) hwq (by first|assumption|(simp;done)|(simp;omega)|omega) (by assumption)
  have Kh:=G.cell (p:=⟨b2,oy,none⟩) (v:= .bool n') hwq (by first|assumption|(simp;done)|(simp;omega)|omega) (by assumption)
  have Ki:=G.cell (p:=⟨b2,oy+1,none⟩) (v:=v') hwq (by first|assumption|(simp;done)|(simp;omega)|omega) (by assumption)
  first|(go_simp;done)|(go_simp;with_reducible rfl)
 try simp only[aput,List.set]
 refine q02 12 (v:= ?_) rfl (by kernel_rfl) (fun _ _ _ h=>h) rfl ?_ ‹_› ?_
 rotate_left
 ·intro wq hwq
  have Kj:=G.cell (p:=⟨bx,ox,none⟩) (v:= .bool n) hwq (by first|assumption|(simp;done)|(simp;omega)|omega) (by assumption)
  have Kk:=G.cell (p:=⟨bx,ox+1,none⟩) (v:=v) hwq (by first|assumption|(simp;done)|(simp;omega)|omega) (by assumption)
  have Kl:=G.cell (p:=⟨b2,oy,none⟩) (v:= .bool n') hwq (by first|assumption|(simp;done)|(simp;omega)|omega) (by assumption)
  have Km:=G.cell (p:=⟨b2,oy+1,none⟩) (v:=v') hwq (by first|assumption|(simp;done)|(simp;omega)|omega) (by assumption)
  first|(go_simp;done)|(go_simp;with_reducible rfl)
 try simp only[aput,List.set]
 refine q02 13 (v:= ?_) rfl (by kernel_rfl) (fun _ _ _ h=>h) rfl ?_ ‹_› ?_
 rotate_left
 ·intro wq hwq
  have Kn:=G.cell (p:=⟨bx,ox,none⟩) (v:= .bool n) hwq (by first|assumption|(simp;done)|(simp;omega)|omega) (by assumption)
  have Ko:=G.cell (p:=⟨bx,ox+1,none⟩) (v:=v) hwq (by first|assumption|(simp;done)|(simp;omega)|omega) (by assumption)
  have Kq:=G.cell (p:=⟨b2,oy,none⟩) (v:= .bool n') hwq (by first|assumption|(simp;done)|(simp;omega)|omega) (by assumption)
  have Kr:=G.cell (p:=⟨b2,oy+1,none⟩) (v:=v') hwq (by first|assumption|(simp;done)|(simp;omega)|omega) (by assumption)
  first|(go_simp;done)|(go_simp;with_reducible rfl)
 try simp only[aput,List.set]
 refine q02 14 (v:= ?_) rfl (by kernel_rfl) (fun _ _ _ h=>h) rfl ?_ ‹_› ?_
 rotate_left
 ·intro wq hwq
  have Kt:=G.cell (p:=⟨bx,ox,none⟩) (v:= .bool n) hwq (by first|assumption|(simp;done)|(simp;omega)|omega) (by assumption)
  have Ku:=G.cell (p:=⟨bx,ox+1,none⟩) (v:=v) hwq (by first|assumption|(simp;done)|(simp;omega)|omega) (by assumption)
  have Kv:=G.cell (p:=⟨b2,oy,none⟩) (v:= .bool n') hwq (by first|assumption|(simp;done)|(simp;omega)|omega) (by assumption)
  have Kw:=G.cell (p:=⟨b2,oy+1,none⟩) (v:=v') hwq (by first|assumption|(simp;done)|(simp;omega)|omega) (by assumption)
  first|(go_simp;done)|(go_simp;with_reducible rfl)
 try simp only[aput,List.set]
 refine q02 15 (v:= ?_) rfl (by kernel_rfl) (fun _ _ _ h=>h) rfl ?_ ‹_› ?_
 rotate_left
 ·intro wq hwq
  have KA:=G.cell (p:=⟨bx,ox,none⟩) (v:= .bool n) hwq (by first|assumption|(simp;done)|(simp;omega)|omega) (by assumption)
  have KC:=G.cell (p:=⟨bx,ox+1,none⟩) (v:=v) hwq (by first|assumption|(simp;done)|(simp;omega)|omega) (by assumption)
  have KD:=G.cell (p:=⟨b2,oy,none⟩) (v:= .bool n') hwq (by first|assumption|(simp;done)|(simp;omega)|omega) (by assumption)
  have uF:=G.cell (p:=⟨b2,oy+1,none⟩) (v:=v') hwq (by first|assumption|(simp;done)|(simp;omega)|omega) (by assumption)
  first|(go_simp;done)|(go_simp;with_reducible rfl)
 try simp only[aput,List.set]
 refine q02 16 (v:= ?_) rfl (by kernel_rfl) (fun _ _ _ h=>h) rfl ?_ ‹_› ?_
 rotate_left
 ·intro wq hwq
  have KE:=G.cell (p:=⟨bx,ox,none⟩) (v:= .bool n) hwq (by first|assumption|(simp;done)|(simp;omega)|omega) (by assumption)
  have KF:=G.cell (p:=⟨bx,ox+1,none⟩) (v:=v) hwq (by first|assumption|(simp;done)|(simp;omega)|omega) (by assumption)
  have KG:=G.cell (p:=⟨b2,oy,none⟩) (v:= .bool n') hwq (by first|assumption|(simp;done)|(simp;omega)|omega) (by assumption)
  have KH:=G.cell (p:=⟨b2,oy+1,none⟩) (v:=v') hwq (by first|assumption|(simp;done)|(simp;omega)|omega) (by assumption)
  first|(go_simp;done)|(go_simp;with_reducible rfl)
 try simp only[aput,List.set]
 refine q02 17 (v:= ?_) rfl (by kernel_rfl) (fun _ _ _ h=>h) rfl ?_ ‹_› ?_
 rotate_left
 ·intro wq hwq
  have KI:=G.cell (p:=⟨bx,ox,none⟩) (v:= .bool n) hwq (by first|assumption|(simp;done)|(simp;omega)|omega) (by assumption)
  have KJ:=G.cell (p:=⟨bx,ox+1,none⟩) (v:=v) hwq (by first|assumption|(simp;done)|(simp;omega)|omega) (by assumption)
  have KL:=G.cell (p:=⟨b2,oy,none⟩) (v:= .bool n') hwq (by first|assumption|(simp;done)|(simp;omega)|omega) (by assumption)
  have KN:=G.cell (p:=⟨b2,oy+1,none⟩) (v:=v') hwq (by first|assumption|(simp;done)|(simp;omega)|omega) (by assumption)
  first|(go_simp;done)|(go_simp;with_reducible rfl)
 try simp only[aput,List.set]
 refine q03 (i:=18) (by kernel_rfl) rfl ?_
 intro K hK
 go_simp
 go_wp2_with (go_at_call 159;refine Calls.mono (P:=Tryz.prog) (HW.out _ bG) ?_;rintro e w2 ⟨rn,v1,ra,rfl,hg2,hn2,hs2⟩)
 refine hK.out _ _ (Or.inr (G.trans bG hg2)) ?_
 clear hK K
 refine q08 (i:=19) (j:=20) (by kernel_rfl) rfl rfl ?_ ?_
 ·intro K hK
  go_simp
  refine hK.out _ _ (Or.inr (G.trans bG hg2)) ?_
  clear hK K
  refine q03 (i:=20) (by kernel_rfl) rfl ?_
  intro K hK
  go_simp
  refine hK.out _ _ (Or.inr (G.trans bG hg2)) ?_
  clear hK K
  refine q03 (i:=21) (by kernel_rfl) rfl ?_
  intro K hK
  go_simp
  go_wp2_with (go_at_call 141;refine Calls.mono (P:=Tryz.prog) (q1e (w0:=w) hb (G.trans bG hg2) (q1A _ b o _ s0 _ _ (IntIs.G HZ.out hb (G.trans bG hg2)) hn2)) ?_;rintro e w3 ⟨rfl,hs3⟩)
  refine hK.out _ _ (Or.inl (by decide)) ?_
  clear hK K
  refine q03 (i:=22) (by kernel_rfl) rfl ?_
  intro K hK
  go_simp
  refine hK.out _ _ (Or.inl (by decide)) ?_
  clear hK K
  refine q0f (by kernel_rfl) ?_ _
  rw[hs2,HS.out] at hs3
  go_wp2_with fail
  go_ret
  exact hs3
 ·intro K hK
  go_simp
  refine hK.out _ _ (Or.inr (G.trans bG hg2)) ?_
  clear hK K
  refine q03 (i:=19) (by kernel_rfl) rfl ?_
  intro K hK
  go_simp
  refine hK.out _ _ (Or.inr (G.trans bG hg2)) ?_
  clear hK K
  refine q03 (i:=21) (by kernel_rfl) rfl ?_
  intro K hK
  go_simp
  go_wp2_with (go_at_call 141;refine Calls.mono (P:=Tryz.prog) (q1e (w0:=w) hb (G.trans bG hg2) (q1A _ b o _ s0 _ _ (IntIs.G HZ.out hb (G.trans bG hg2)) hn2)) ?_;rintro e w3 ⟨rfl,hs3⟩)
  refine hK.out _ _ (Or.inl (by decide)) ?_
  clear hK K
  refine q03 (i:=22) (by kernel_rfl) rfl ?_
  intro K hK
  go_simp
  refine hK.out _ _ (Or.inl (by decide)) ?_
  clear hK K
  refine q0f (by kernel_rfl) ?_ _
  rw[hs2,HS.out] at hs3
  go_wp2_with fail
  go_ret
  exact hs3
end Go.Proofs.YtdidnnbpdcanlaaGreatDoor
