/- What is proved here: contracts of the reference's big numbers: Sign, BitLen, Cmp, Bit, QuoRem, Rsh of Int, over this seat's translation.
What is proved here: how two whole numbers compare (no program), over this seat's translation.
What is proved here: contracts of the reference's big numbers: QuoRem, Rsh, Uint64 of Int, what a writing method leaves standing, over this seat's translation.
What is proved here: contracts of the reference's big numbers: TrailingZeroBits of Int, new Ints step by step, over this seat's translation.
What is proved here: the reference's nearest number, its arithmetic (no program).
What is proved here: contracts of the reference's big numbers: Neg of Int, the smallest methods of Rat, over this seat's translation.
What is proved here: contracts of the reference's big numbers: Sub of Int, over this seat's translation.
What is proved here: contracts of the reference's ratios: Cmp of Rat, over this seat's translation. -/
import Derived.Test.YtljkfjjchkehaaaGreatDoorC19
import Derived.Test.YtljkfjjchkehaaaGreatDoorC8
import Derived.Test.YtljkfjjchkehaaaGreatDoorC16
namespace Go.Proofs.YtljkfjjchkehaaaGreatDoor
open Go.ChangeShapes Go.WideShapes Go.ChangeAt Go.RowKit
open BN
theorem q93 (w:World) (b o:Nat) (s:Int) (hz:IntIs w b o s):
  Calls Tryz.prog 68 #[.pointer (some ⟨b,o,none⟩)] w fun e w'=>e= .returned (.int .i64 s.sign)∧G w w':=by
 obtain⟨n,v,a,⟨c1,c2,-,-⟩,⟨l,hl,hc,hv⟩,h1,h2⟩:=hz
 obtain⟨p,c,rfl,-,-⟩:=q0p hl
 have h0:a=0↔l.length=0:=by rw[← hv,q0V hc,List.length_eq_zero_iff]
 generalize l.length=j at *
 have hss:s.sign=if j=0 then 0 else if n then -1 else 1:=by
  rw[← h1];unfold sg
  by_cases hj:j=0
  ·rw[if_pos hj,h0.2 hj];simp
  ·rw[if_neg hj]
   have ha:a≠0:=fun h=>hj (h0.1 h)
   cases n
   ·simp;omega
   ·simp;omega
 rw[hss]
 clear hss hl hc hv h1 h2 h0
 by_cases hj:j=0
 ·subst hj
  go_enter Tryz.func68,Tryz.ntmps68
  go_wp2_with fail
  go_ret
  exact⟨rfl,G.refl _⟩
 ·rw[if_neg hj]
  have t0:((j:Int)==0)=false:=by simp;omega
  cases n
  all_goals
   go_enter Tryz.func68,Tryz.ntmps68
   go_wp2_with fail
   go_ret
   exact⟨rfl,G.refl _⟩
theorem G.lt {w w':World} {b:Nat} (g:G w w') (h:b<w.heap.size):b<w'.heap.size:=Nat.lt_of_lt_of_le h g.size
end Go.Proofs.YtljkfjjchkehaaaGreatDoor
namespace Go.Proofs.YtljkfjjchkehaaaGreatDoor
end Go.Proofs.YtljkfjjchkehaaaGreatDoor
namespace Go.Proofs.YtljkfjjchkehaaaGreatDoor
open Go.ChangeShapes Go.WideShapes Go.ChangeAt Go.RowKit
open BN
/-- What a writing method leaves of a cell that it doesn't write. -/
theorem SetTo.cell {w w':World} {b o:Nat} {s:Int} {e:Ending} (h:SetTo w b o s e w') {p:Addr} {v:Value} (hp:p.block<w.heap.size) (hs:p.spot=none) (hv:w.cell? p=some v) (hne:p.block≠b∨(p.off≠o∧p.off≠o+1)):w'.cell? p=some v:=by
 obtain⟨-,h1,h2,-⟩:=h
 by_cases hb:p.block=b
 ·obtain⟨pb,po,ps⟩:=p
  simp only at hb hs hne
  subst hb hs
  have ME:po≠o∧po≠o+1:=by rcases hne with hne|hne;exact absurd rfl hne;exact hne
  rw[h2.1 po ME.1 ME.2];exact hv
 ·rw[← hv];exact World.cell?_of_block (h1.block p.block hp (fun e=>hb (Option.some.inj e)))
theorem SetTo.frozen {w w':World} {b o:Nat} {s:Int} {e:Ending} (h:SetTo w b o s e w') {p:Addr} {v:Bool} (hp:p.block<w.heap.size) (hs:p.spot=none) (hv:w.frozen? p=v):w'.frozen? p=v:=by
 obtain⟨-,h1,h2,-⟩:=h
 by_cases hb:p.block=b
 ·obtain⟨pb,po,ps⟩:=p
  simp only at hb hs
  subst hb hs
  rw[h2.2 po];exact hv
 ·rw[← hv];exact World.frozen?_of_block (h1.block p.block hp (fun e=>hb (Option.some.inj e)))
theorem SetTo.size {w w':World} {b o:Nat} {s:Int} {e:Ending} (h:SetTo w b o s e w'):w.heap.size≤w'.heap.size:=h.2.1.size
theorem SetTo.is {w w':World} {b o:Nat} {s:Int} {e:Ending} (h:SetTo w b o s e w'):IntIs w' b o s:=h.2.2.2
theorem SetTo.num {w w':World} {b o:Nat} {s0 s:Int} {e:Ending} (hz:IntIs w b o s0) (h:SetTo w b o s e w') {v:Value} {n:Nat} (hn:Num w v n):Num w' v n:=by
 obtain⟨n0,v0,a0,⟨c1,c2,-,-⟩,hv0,-,-⟩:=hz
 obtain⟨l,⟨h1,h2⟩,h3⟩:=hn
 refine⟨l,⟨h1,?_⟩,h3⟩
 rcases h2 with h2|⟨b1,o1,c,e1,hc,hb,hr⟩
 ·exact Or.inl h2
 ·refine Or.inr ⟨b1,o1,c,e1,hc,Nat.lt_of_lt_of_le hb h.size,fun i hi=> ?_⟩
  have hci:=hr i hi
  refine h.cell (p:=⟨b1,o1+i,none⟩) hb rfl hci ?_
  by_cases hbb:b1=b
  ·refine Or.inr ⟨fun e2=> ?_,fun e2=> ?_⟩
   ·simp only at e2;subst hbb;rw[e2,c1] at hci;cases hci
   ·simp only at e2;subst hbb;rw[e2,c2] at hci;exact q1x hv0 _ _ (Option.some.inj hci)
  ·exact Or.inl hbb
/-- Another Int stands still. -/
theorem SetTo.keep {w w':World} {b o b2 o2:Nat} {s0 s s2:Int} {e:Ending} (hz:IntIs w b o s0) (h:SetTo w b o s e w') (hx:IntIs w b2 o2 s2) (hb2:b2<w.heap.size) (hne:b2≠b∨o2+2≤o∨o+2≤o2):IntIs w' b2 o2 s2:=by
 obtain⟨n,v,a,⟨c1,c2,f1,f2⟩,hv,h1,h2⟩:=hx
 refine⟨n,v,a,⟨h.cell hb2 rfl c1 ?_,h.cell hb2 rfl c2 ?_,h.frozen hb2 rfl f1,h.frozen hb2 rfl f2⟩,h.num hz hv,h1,h2⟩
 ·rcases hne with h|h
  ·exact Or.inl h
  ·exact Or.inr ⟨by simp only;omega,by simp only;omega⟩
 ·rcases hne with h|h
  ·exact Or.inl h
  ·exact Or.inr ⟨by simp only;omega,by simp only;omega⟩
/-- Behind it, nothing of an elder world has turned, where the block is newer. -/
theorem SetTo.fresh {w0 w w':World} {b o:Nat} {s:Int} {e:Ending} (g:G w0 w) (h:SetTo w b o s e w') (hb:w0.heap.size≤b):G w0 w':=GX.fresh g h.2.1 hb
/-- What QuoRem leaves behind. -/
def QR (w:World) (b o b3 o3:Nat) (sq sr:Int) (e:Ending) (w':World):Prop:=
 e= .returned (.tuple #[.pointer (some ⟨b,o,none⟩),.pointer (some ⟨b3,o3,none⟩)])∧∃ w2 e1 e2,SetTo w b o sq e1 w2∧SetTo w2 b3 o3 sr e2 w'
theorem q2f {a k:Nat} (h0:a≠0) (h:a%2^k=0):2^k≤a:=Nat.le_of_dvd (by omega) (Nat.dvd_of_mod_eq_zero h)
/-- A new Int, since w0. -/
def NI (w0 w:World) (p:Nat) (s:Int):Prop:=w0.heap.size≤p∧p<w.heap.size∧IntIs w p 0 s
theorem NI.G {w0 w w':World} {p:Nat} {s:Int} (h:NI w0 w p s) (g:G w w'):NI w0 w' p s:=⟨h.1,Nat.lt_of_lt_of_le h.2.1 g.size,h.2.2.G h.2.1 g⟩
theorem NI.new {w0 w:World} (g:Go.Proofs.YtljkfjjchkehaaaGreatDoor.G w0 w) (t:TypeId):NI w0 (w.alloc (.cells #[.bool false,.slice none 0 0] t)) w.heap.size 0:=⟨g.size,by simp,q74 w t⟩
/-- What a method that sets a new Int leaves behind. -/
def Step (w0 w:World) (p:Nat) (s:Int) (e:Ending) (w':World):Prop:=
 e= .returned (.pointer (some ⟨p,0,none⟩))∧G w0 w'∧NI w0 w' p s∧w.heap.size≤w'.heap.size∧∀ p2 s2,p2≠p→NI w0 w p2 s2→NI w0 w' p2 s2
theorem SetTo.step {w0 w:World} {p:Nat} {s0 s:Int} {e:Ending} {w':World} (g:G w0 w) (hz:NI w0 w p s0) (h:SetTo w p 0 s e w'):Step w0 w p s e w':=
 ⟨h.1,h.fresh g hz.1,⟨hz.1,Nat.lt_of_lt_of_le hz.2.1 h.size,h.is⟩,h.size,fun _ _ hne hx=>⟨hx.1,Nat.lt_of_lt_of_le hx.2.1 h.size,SetTo.keep hz.2.2 h hx.2.2 hx.2.1 (Or.inl hne)⟩⟩
theorem Step.to {w0 w:World} {p:Nat} {s:Int} {e:Ending} {w':World} (h:Step w0 w p s e w'):e= .returned (.pointer (some ⟨p,0,none⟩)):=h.1
end Go.Proofs.YtljkfjjchkehaaaGreatDoor
namespace Go.Proofs.YtljkfjjchkehaaaGreatDoor
open Go.RowKit
open BN
/-- N / D, rounded to the nearest whole number, of two as near to the even one. -/
def q0O (N D:Nat):Nat:=N/D+(if D<2*(N%D)∨(2*(N%D)=D∧N/D%2=1) then 1 else 0)
/-- A / B in units of 2^p. -/
def upP (A:Nat) (p:Int):Nat:=A*2^(-p).toNat
def loP (B:Nat) (p:Int):Nat:=B*2^p.toNat
def q8C (A B:Nat) (p:Int):Nat:=q0O (upP A p) (loP B p)
theorem q71 {N D T:Nat} (h:N<T*D):q0O N D≤T:=by
 unfold q0O
 have h1:N/D<T:=by
  rcases Nat.eq_zero_or_pos D with rfl|hD
  ·simp at h
  ·exact(Nat.div_lt_iff_lt_mul hD).2 h
 split<;>omega
end Go.Proofs.YtljkfjjchkehaaaGreatDoor
namespace Go.Proofs.YtljkfjjchkehaaaGreatDoor
open Go.ChangeShapes Go.WideShapes Go.ChangeAt Go.RowKit
open BN
theorem q8O {n:Bool} {a:Nat}:sg (!n) a= -sg n a:=by unfold sg;cases n<;>simp
theorem q6A (w:World) (b o bx ox:Nat) (s0 sx:Int) (K:Nat) (hK:K≤1000000) (hx2:sx.natAbs<2^(32*K)) (hb:b<w.heap.size) (hbx:bx<w.heap.size)
  (hz:IntIs w b o s0) (hx:IntIs w bx ox sx):
  Calls Tryz.prog 112 #[.pointer (some ⟨b,o,none⟩),.pointer (some ⟨bx,ox,none⟩)] w (SetTo w b o (-sx)):=by
 obtain⟨n,v,a,⟨c1,c2,-,-⟩,hv,h1,-⟩:=hx
 have ha:=q1J h1
 have HW:Hid (∀ w1,G w w1→_):=fun w1 g=>q6t w1 v a K hK (hv.G g) (by omega)
 have HZ:Hid _:=hz
 have HS:Hid (sg (!n) a= -sx):=by show sg (!n) a= -sx;rw[q8O,h1]
 clear hz hx2 hv h1 ha
 go_enter Tryz.func112,Tryz.ntmps112
 go_wp2_with fail
 refine q0P 11 (G w) (by kernel_rfl) (by first|exact(G.refl _).drew|exact G.drew (by assumption)) ?_
 intro bU
 refine q02 0 (v:= ?_) rfl (by kernel_rfl) (fun _ _ _ h=>h) rfl ?_ ‹_› ?_
 rotate_left
 ·intro wq hwq
  have hq1:=G.cell (p:=⟨bx,ox,none⟩) (v:= .bool n) hwq (by first|assumption|(simp;done)|(simp;omega)|omega) (by assumption)
  have hq2:=G.cell (p:=⟨bx,ox+1,none⟩) (v:=v) hwq (by first|assumption|(simp;done)|(simp;omega)|omega) (by assumption)
  first|(go_simp;done)|(go_simp;with_reducible rfl)
 try simp only[aput,List.set]
 refine q02 1 (v:= ?_) rfl (by kernel_rfl) (fun _ _ _ h=>h) rfl ?_ ‹_› ?_
 rotate_left
 ·intro wq hwq
  have hq3:=G.cell (p:=⟨bx,ox,none⟩) (v:= .bool n) hwq (by first|assumption|(simp;done)|(simp;omega)|omega) (by assumption)
  have hq4:=G.cell (p:=⟨bx,ox+1,none⟩) (v:=v) hwq (by first|assumption|(simp;done)|(simp;omega)|omega) (by assumption)
  first|(go_simp;done)|(go_simp;with_reducible rfl)
 try simp only[aput,List.set]
 refine q02 2 (v:= ?_) rfl (by kernel_rfl) (fun _ _ _ h=>h) rfl ?_ ‹_› ?_
 rotate_left
 ·intro wq hwq
  have lF:=G.cell (p:=⟨bx,ox,none⟩) (v:= .bool n) hwq (by first|assumption|(simp;done)|(simp;omega)|omega) (by assumption)
  have mK:=G.cell (p:=⟨bx,ox+1,none⟩) (v:=v) hwq (by first|assumption|(simp;done)|(simp;omega)|omega) (by assumption)
  first|(go_simp;done)|(go_simp;with_reducible rfl)
 try simp only[aput,List.set]
 refine q02 3 (v:= ?_) rfl (by kernel_rfl) (fun _ _ _ h=>h) rfl ?_ ‹_› ?_
 rotate_left
 ·intro wq hwq
  have mM:=G.cell (p:=⟨bx,ox,none⟩) (v:= .bool n) hwq (by first|assumption|(simp;done)|(simp;omega)|omega) (by assumption)
  have hq8:=G.cell (p:=⟨bx,ox+1,none⟩) (v:=v) hwq (by first|assumption|(simp;done)|(simp;omega)|omega) (by assumption)
  first|(go_simp;done)|(go_simp;with_reducible rfl)
 try simp only[aput,List.set]
 refine q02 4 (v:= ?_) rfl (by kernel_rfl) (fun _ _ _ h=>h) rfl ?_ ‹_› ?_
 rotate_left
 ·intro wq hwq
  have vv:=G.cell (p:=⟨bx,ox,none⟩) (v:= .bool n) hwq (by first|assumption|(simp;done)|(simp;omega)|omega) (by assumption)
  have lN:=G.cell (p:=⟨bx,ox+1,none⟩) (v:=v) hwq (by first|assumption|(simp;done)|(simp;omega)|omega) (by assumption)
  first|(go_simp;done)|(go_simp;with_reducible rfl)
 try simp only[aput,List.set]
 refine q02 5 (v:= ?_) rfl (by kernel_rfl) (fun _ _ _ h=>h) rfl ?_ ‹_› ?_
 rotate_left
 ·intro wq hwq
  have hq11:=G.cell (p:=⟨bx,ox,none⟩) (v:= .bool n) hwq (by first|assumption|(simp;done)|(simp;omega)|omega) (by assumption)
  have hq12:=G.cell (p:=⟨bx,ox+1,none⟩) (v:=v) hwq (by first|assumption|(simp;done)|(simp;omega)|omega) (by assumption)
  first|(go_simp;done)|(go_simp;with_reducible rfl)
 try simp only[aput,List.set]
 refine q02 6 (v:= ?_) rfl (by kernel_rfl) (fun _ _ _ h=>h) rfl ?_ ‹_› ?_
 rotate_left
 ·intro wq hwq
  have Av:=G.cell (p:=⟨bx,ox,none⟩) (v:= .bool n) hwq (by first|assumption|(simp;done)|(simp;omega)|omega) (by assumption)
  have Aw:=G.cell (p:=⟨bx,ox+1,none⟩) (v:=v) hwq (by first|assumption|(simp;done)|(simp;omega)|omega) (by assumption)
  first|(go_simp;done)|(go_simp;with_reducible rfl)
 try simp only[aput,List.set]
 refine q02 7 (v:= ?_) rfl (by kernel_rfl) (fun _ _ _ h=>h) rfl ?_ ‹_› ?_
 rotate_left
 ·intro wq hwq
  have AA:=G.cell (p:=⟨bx,ox,none⟩) (v:= .bool n) hwq (by first|assumption|(simp;done)|(simp;omega)|omega) (by assumption)
  have AB:=G.cell (p:=⟨bx,ox+1,none⟩) (v:=v) hwq (by first|assumption|(simp;done)|(simp;omega)|omega) (by assumption)
  first|(go_simp;done)|(go_simp;with_reducible rfl)
 try simp only[aput,List.set]
 refine q02 8 (v:= ?_) rfl (by kernel_rfl) (fun _ _ _ h=>h) rfl ?_ ‹_› ?_
 rotate_left
 ·intro wq hwq
  have AJ:=G.cell (p:=⟨bx,ox,none⟩) (v:= .bool n) hwq (by first|assumption|(simp;done)|(simp;omega)|omega) (by assumption)
  have AL:=G.cell (p:=⟨bx,ox+1,none⟩) (v:=v) hwq (by first|assumption|(simp;done)|(simp;omega)|omega) (by assumption)
  first|(go_simp;done)|(go_simp;with_reducible rfl)
 try simp only[aput,List.set]
 refine q02 9 (v:= ?_) rfl (by kernel_rfl) (fun _ _ _ h=>h) rfl ?_ ‹_› ?_
 rotate_left
 ·intro wq hwq
  have AO:=G.cell (p:=⟨bx,ox,none⟩) (v:= .bool n) hwq (by first|assumption|(simp;done)|(simp;omega)|omega) (by assumption)
  have AP:=G.cell (p:=⟨bx,ox+1,none⟩) (v:=v) hwq (by first|assumption|(simp;done)|(simp;omega)|omega) (by assumption)
  first|(go_simp;done)|(go_simp;with_reducible rfl)
 try simp only[aput,List.set]
 refine q03 (i:=10) (by kernel_rfl) rfl ?_
 intro K hK
 go_simp
 go_wp2_with (go_at_call 129;refine Calls.mono (P:=Tryz.prog) (HW.out _ bU) ?_;rintro e w2 ⟨v1,rfl,hg2,hn2⟩)
 refine hK.out _ _ (Or.inr (G.trans bU hg2)) ?_
 clear hK K
 refine q03 (i:=11) (by kernel_rfl) rfl ?_
 intro K hK
 go_simp
 go_wp2_with (go_at_call 91;refine Calls.mono (P:=Tryz.prog) (q1d (w0:=w) hb (G.trans bU hg2) (q1t _ b o _ s0 _ _ (IntIs.G HZ.out hb (G.trans bU hg2)) hn2)) ?_;rintro e w3 ⟨rfl,hs3⟩)
 refine hK.out _ _ (Or.inl (by decide)) ?_
 clear hK K
 refine q03 (i:=12) (by kernel_rfl) rfl ?_
 intro K hK
 go_simp
 refine hK.out _ _ (Or.inl (by decide)) ?_
 clear hK K
 refine q0n (by kernel_rfl) ?_ _
 rw[HS.out] at hs3
 go_wp2_with fail
 go_ret
 exact hs3
/-- At block b lies a Rat: its two Ints (a lower one of 0 stands for 1). -/
def RatIs (w:World) (b:Nat) (sa sb:Int):Prop:=IntIs w b 0 sa∧IntIs w b 2 sb
theorem q2t (w:World) (t:TypeId):RatIs (w.alloc (.cells #[.bool false,.slice none 0 0,.bool false,.slice none 0 0] t)) w.heap.size 0 0:=by
 refine⟨⟨false,.slice none 0 0,0,⟨?_,?_,World.frozen?_alloc_at _ _ _ _ rfl,World.frozen?_alloc_at _ _ _ _ rfl⟩,q0W _ _ _,rfl,fun h=>by cases h⟩,
  ⟨false,.slice none 0 0,0,⟨?_,?_,World.frozen?_alloc_at _ _ _ _ rfl,World.frozen?_alloc_at _ _ _ _ rfl⟩,q0W _ _ _,rfl,fun h=>by cases h⟩⟩
 all_goals rw[World.cell?_alloc_at _ _ _ _ rfl];rfl
theorem RatIs.G {w w':World} {b:Nat} {sa sb:Int} (h:RatIs w b sa sb) (hb:b<w.heap.size) (g:G w w'):RatIs w' b sa sb:=⟨h.1.G hb g,h.2.G hb g⟩
theorem q4T (w:World) (b:Nat) (sa sb:Int) (h:RatIs w b sa sb):
  Calls Tryz.prog 32 #[.pointer (some ⟨b,0,none⟩)] w fun e w'=>e= .returned (.int .i64 sa.sign)∧G w w':=by
 have HS:Hid _:=q93 w b 0 sa h.1
 generalize sa.sign=s at *
 clear h
 go_enter Tryz.func32,Tryz.ntmps32
 go_wp2_with fail
 refine Calls.mono (P:=Tryz.prog) HS.out ?_
 rintro e w2 ⟨rfl,hg2⟩
 go_wp2_with fail
 go_ret
 exact⟨rfl,hg2⟩
/-- den: where the lower part is laid, it is handed back itself. -/
theorem q23 (w:World) (b:Nat) (sa sb:Int) (hsb:sb≠0) (h:RatIs w b sa sb):
  Calls Tryz.prog 50 #[.pointer (some ⟨b,0,none⟩)] w fun e w'=>e= .returned (.pointer (some ⟨b,2,none⟩))∧G w w':=by
 obtain⟨-,n,v,a,⟨c1,c2,-,-⟩,⟨l,hl,hcl,hlv⟩,h1,-⟩:=h
 have ha:=q1J h1
 obtain⟨p,c,rfl,-,-⟩:=q0p hl
 have hl0:l.length≠0:=by
  intro h0
  rw[List.eq_nil_of_length_eq_zero h0] at hlv
  have:a=0:=hlv.symm
  omega
 have t0:((l.length:Int)==0)=false:=by simp;intro h;exact hl0 (by rw[h];rfl)
 generalize l.length=j at *
 clear hl hcl hlv h1 ha hsb
 go_enter Tryz.func50,Tryz.ntmps50
 go_wp2_with fail
 go_ret
 exact⟨rfl,G.refl _⟩
theorem qag (w:World) (b o bx ox b2 oy:Nat) (s0 sx sy:Int) (K:Nat) (hK:K≤1000000) (hx2:sx.natAbs<2^(32*K)) (hy2:sy.natAbs<2^(32*K)) (hb:b<w.heap.size) (hbx:bx<w.heap.size) (hby:b2<w.heap.size)
  (hz:IntIs w b o s0) (hx:IntIs w bx ox sx) (hy:IntIs w b2 oy sy):
  Calls Tryz.prog 67 #[.pointer (some ⟨b,o,none⟩),.pointer (some ⟨bx,ox,none⟩),.pointer (some ⟨b2,oy,none⟩)] w (SetTo w b o (sx-sy)):=by
 obtain⟨n,v,a,⟨c1,c2,-,-⟩,hv,h1,-⟩:=hx
 obtain⟨n',v',a',⟨c3,c4,-,-⟩,hv',h2,-⟩:=hy
 have ha:=q1J h1
 have ha':=q1J h2
 have HW:Hid (∀ w1,G w w1→_):=fun w1 g=>qa8 w1 n (!n') v v' a a' K hK (hv.G g) (hv'.G g) (by omega) (by omega)
 have HZ:Hid _:=hz
 have HS:Hid (sg n a+sg (!n') a'=sx-sy):=by show sg n a+sg (!n') a'=sx-sy;rw[q8O,h1,h2];omega
 clear hz hx2 hy2 hv hv' h1 h2 ha ha'
 go_enter Tryz.func67,Tryz.ntmps67
 go_wp2_with fail
 refine q0P 21 (G w) (by kernel_rfl) (by first|exact(G.refl _).drew|exact G.drew (by assumption)) ?_
 intro bU
 refine q02 0 (v:= ?_) rfl (by kernel_rfl) (fun _ _ _ h=>h) rfl ?_ ‹_› ?_
 rotate_left
 ·intro wq hwq
  have hq1:=G.cell (p:=⟨bx,ox,none⟩) (v:= .bool n) hwq (by first|assumption|(simp;done)|(simp;omega)|omega) (by assumption)
  have hq2:=G.cell (p:=⟨bx,ox+1,none⟩) (v:=v) hwq (by first|assumption|(simp;done)|(simp;omega)|omega) (by assumption)
  have hq3:=G.cell (p:=⟨b2,oy,none⟩) (v:= .bool n') hwq (by first|assumption|(simp;done)|(simp;omega)|omega) (by assumption)
  have hq4:=G.cell (p:=⟨b2,oy+1,none⟩) (v:=v') hwq (by first|assumption|(simp;done)|(simp;omega)|omega) (by assumption)
  first|(go_simp;done)|(go_simp;with_reducible rfl)
 try simp only[aput,List.set]
 refine q02 1 (v:= ?_) rfl (by kernel_rfl) (fun _ _ _ h=>h) rfl ?_ ‹_› ?_
 rotate_left
 ·intro wq hwq
  have lF:=G.cell (p:=⟨bx,ox,none⟩) (v:= .bool n) hwq (by first|assumption|(simp;done)|(simp;omega)|omega) (by assumption)
  have mK:=G.cell (p:=⟨bx,ox+1,none⟩) (v:=v) hwq (by first|assumption|(simp;done)|(simp;omega)|omega) (by assumption)
  have mM:=G.cell (p:=⟨b2,oy,none⟩) (v:= .bool n') hwq (by first|assumption|(simp;done)|(simp;omega)|omega) (by assumption)
  have hq8:=G.cell (p:=⟨b2,oy+1,none⟩) (v:=v') hwq (by first|assumption|(simp;done)|(simp;omega)|omega) (by assumption)
  first|(go_simp;done)|(go_simp;with_reducible rfl)
 try simp only[aput,List.set]
 refine q02 2 (v:= ?_) rfl (by kernel_rfl) (fun _ _ _ h=>h) rfl ?_ ‹_› ?_
 rotate_left
 ·intro wq hwq
  have vv:=G.cell (p:=⟨bx,ox,none⟩) (v:= .bool n) hwq (by first|assumption|(simp;done)|(simp;omega)|omega) (by assumption)
  have lN:=G.cell (p:=⟨bx,ox+1,none⟩) (v:=v) hwq (by first|assumption|(simp;done)|(simp;omega)|omega) (by assumption)
  have hq11:=G.cell (p:=⟨b2,oy,none⟩) (v:= .bool n') hwq (by first|assumption|(simp;done)|(simp;omega)|omega) (by assumption)
  have hq12:=G.cell (p:=⟨b2,oy+1,none⟩) (v:=v') hwq (by first|assumption|(simp;done)|(simp;omega)|omega) (by assumption)
  first|(go_simp;done)|(go_simp;with_reducible rfl)
 try simp only[aput,List.set]
 refine q02 3 (v:= ?_) rfl (by kernel_rfl) (fun _ _ _ h=>h) rfl ?_ ‹_› ?_
 rotate_left
 ·intro wq hwq
  have Av:=G.cell (p:=⟨bx,ox,none⟩) (v:= .bool n) hwq (by first|assumption|(simp;done)|(simp;omega)|omega) (by assumption)
  have Aw:=G.cell (p:=⟨bx,ox+1,none⟩) (v:=v) hwq (by first|assumption|(simp;done)|(simp;omega)|omega) (by assumption)
  have AA:=G.cell (p:=⟨b2,oy,none⟩) (v:= .bool n') hwq (by first|assumption|(simp;done)|(simp;omega)|omega) (by assumption)
  have AB:=G.cell (p:=⟨b2,oy+1,none⟩) (v:=v') hwq (by first|assumption|(simp;done)|(simp;omega)|omega) (by assumption)
  first|(go_simp;done)|(go_simp;with_reducible rfl)
 try simp only[aput,List.set]
 refine q02 4 (v:= ?_) rfl (by kernel_rfl) (fun _ _ _ h=>h) rfl ?_ ‹_› ?_
 rotate_left
 ·intro wq hwq
  have AJ:=G.cell (p:=⟨bx,ox,none⟩) (v:= .bool n) hwq (by first|assumption|(simp;done)|(simp;omega)|omega) (by assumption)
  have AL:=G.cell (p:=⟨bx,ox+1,none⟩) (v:=v) hwq (by first|assumption|(simp;done)|(simp;omega)|omega) (by assumption)
  have AO:=G.cell (p:=⟨b2,oy,none⟩) (v:= .bool n') hwq (by first|assumption|(simp;done)|(simp;omega)|omega) (by assumption)
  have AP:=G.cell (p:=⟨b2,oy+1,none⟩) (v:=v') hwq (by first|assumption|(simp;done)|(simp;omega)|omega) (by assumption)
  first|(go_simp;done)|(go_simp;with_reducible rfl)
 try simp only[aput,List.set]
 refine q02 5 (v:= ?_) rfl (by kernel_rfl) (fun _ _ _ h=>h) rfl ?_ ‹_› ?_
 rotate_left
 ·intro wq hwq
  have IJ:=G.cell (p:=⟨bx,ox,none⟩) (v:= .bool n) hwq (by first|assumption|(simp;done)|(simp;omega)|omega) (by assumption)
  have IK:=G.cell (p:=⟨bx,ox+1,none⟩) (v:=v) hwq (by first|assumption|(simp;done)|(simp;omega)|omega) (by assumption)
  have IL:=G.cell (p:=⟨b2,oy,none⟩) (v:= .bool n') hwq (by first|assumption|(simp;done)|(simp;omega)|omega) (by assumption)
  have IM:=G.cell (p:=⟨b2,oy+1,none⟩) (v:=v') hwq (by first|assumption|(simp;done)|(simp;omega)|omega) (by assumption)
  first|(go_simp;done)|(go_simp;with_reducible rfl)
 try simp only[aput,List.set]
 refine q02 6 (v:= ?_) rfl (by kernel_rfl) (fun _ _ _ h=>h) rfl ?_ ‹_› ?_
 rotate_left
 ·intro wq hwq
  have IU:=G.cell (p:=⟨bx,ox,none⟩) (v:= .bool n) hwq (by first|assumption|(simp;done)|(simp;omega)|omega) (by assumption)
  have IV:=G.cell (p:=⟨bx,ox+1,none⟩) (v:=v) hwq (by first|assumption|(simp;done)|(simp;omega)|omega) (by assumption)
  have IW:=G.cell (p:=⟨b2,oy,none⟩) (v:= .bool n') hwq (by first|assumption|(simp;done)|(simp;omega)|omega) (by assumption)
  have IX:=G.cell (p:=⟨b2,oy+1,none⟩) (v:=v') hwq (by first|assumption|(simp;done)|(simp;omega)|omega) (by assumption)
  first|(go_simp;done)|(go_simp;with_reducible rfl)
 try simp only[aput,List.set]
 refine q02 7 (v:= ?_) rfl (by kernel_rfl) (fun _ _ _ h=>h) rfl ?_ ‹_› ?_
 rotate_left
 ·intro wq hwq
  have IY:=G.cell (p:=⟨bx,ox,none⟩) (v:= .bool n) hwq (by first|assumption|(simp;done)|(simp;omega)|omega) (by assumption)
  have IZ:=G.cell (p:=⟨bx,ox+1,none⟩) (v:=v) hwq (by first|assumption|(simp;done)|(simp;omega)|omega) (by assumption)
  have J2:=G.cell (p:=⟨b2,oy,none⟩) (v:= .bool n') hwq (by first|assumption|(simp;done)|(simp;omega)|omega) (by assumption)
  have J3:=G.cell (p:=⟨b2,oy+1,none⟩) (v:=v') hwq (by first|assumption|(simp;done)|(simp;omega)|omega) (by assumption)
  first|(go_simp;done)|(go_simp;with_reducible rfl)
 try simp only[aput,List.set]
 refine q02 8 (v:= ?_) rfl (by kernel_rfl) (fun _ _ _ h=>h) rfl ?_ ‹_› ?_
 rotate_left
 ·intro wq hwq
  have J4:=G.cell (p:=⟨bx,ox,none⟩) (v:= .bool n) hwq (by first|assumption|(simp;done)|(simp;omega)|omega) (by assumption)
  have J5:=G.cell (p:=⟨bx,ox+1,none⟩) (v:=v) hwq (by first|assumption|(simp;done)|(simp;omega)|omega) (by assumption)
  have J6:=G.cell (p:=⟨b2,oy,none⟩) (v:= .bool n') hwq (by first|assumption|(simp;done)|(simp;omega)|omega) (by assumption)
  have J7:=G.cell (p:=⟨b2,oy+1,none⟩) (v:=v') hwq (by first|assumption|(simp;done)|(simp;omega)|omega) (by assumption)
  first|(go_simp;done)|(go_simp;with_reducible rfl)
 try simp only[aput,List.set]
 refine q02 9 (v:= ?_) rfl (by kernel_rfl) (fun _ _ _ h=>h) rfl ?_ ‹_› ?_
 rotate_left
 ·intro wq hwq
  have J8:=G.cell (p:=⟨bx,ox,none⟩) (v:= .bool n) hwq (by first|assumption|(simp;done)|(simp;omega)|omega) (by assumption)
  have J9:=G.cell (p:=⟨bx,ox+1,none⟩) (v:=v) hwq (by first|assumption|(simp;done)|(simp;omega)|omega) (by assumption)
  have Ja:=G.cell (p:=⟨b2,oy,none⟩) (v:= .bool n') hwq (by first|assumption|(simp;done)|(simp;omega)|omega) (by assumption)
  have Jb:=G.cell (p:=⟨b2,oy+1,none⟩) (v:=v') hwq (by first|assumption|(simp;done)|(simp;omega)|omega) (by assumption)
  first|(go_simp;done)|(go_simp;with_reducible rfl)
 try simp only[aput,List.set]
 refine q02 10 (v:= ?_) rfl (by kernel_rfl) (fun _ _ _ h=>h) rfl ?_ ‹_› ?_
 rotate_left
 ·intro wq hwq
  have Jc:=G.cell (p:=⟨bx,ox,none⟩) (v:= .bool n) hwq (by first|assumption|(simp;done)|(simp;omega)|omega) (by assumption)
  have Jd:=G.cell (p:=⟨bx,ox+1,none⟩) (v:=v) hwq (by first|assumption|(simp;done)|(simp;omega)|omega) (by assumption)
  have Je:=G.cell (p:=⟨b2,oy,none⟩) (v:= .bool n') hwq (by first|assumption|(simp;done)|(simp;omega)|omega) (by assumption)
  have Jf:=G.cell (p:=⟨b2,oy+1,none⟩) (v:=v') hwq (by first|assumption|(simp;done)|(simp;omega)|omega) (by assumption)
  first|(go_simp;done)|(go_simp;with_reducible rfl)
 try simp only[aput,List.set]
 refine q02 11 (v:= ?_) rfl (by kernel_rfl) (fun _ _ _ h=>h) rfl ?_ ‹_› ?_
 rotate_left
 ·intro wq hwq
  have Jg:=G.cell (p:=⟨bx,ox,none⟩) (v:= .bool n) hwq (by first|assumption|(simp;done)|(simp;omega)|omega) (by assumption)
  have Jh:=G.cell (p:=⟨bx,ox+1,none⟩) (v:=v) hwq (by first|assumption|(simp;done)|(simp;omega)|omega) (by assumption)
  have Ji:=G.cell (p:=⟨b2,oy,none⟩) (v:= .bool n') hwq (by first|assumption|(simp;done)|(simp;omega)|omega) (by assumption)
  have Jj:=G.cell (p:=⟨b2,oy+1,none⟩) (v:=v') hwq (by first|assumption|(simp;done)|(simp;omega)|omega) (by assumption)
  first|(go_simp;done)|(go_simp;with_reducible rfl)
 try simp only[aput,List.set]
 refine q02 12 (v:= ?_) rfl (by kernel_rfl) (fun _ _ _ h=>h) rfl ?_ ‹_› ?_
 rotate_left
 ·intro wq hwq
  have Jk:=G.cell (p:=⟨bx,ox,none⟩) (v:= .bool n) hwq (by first|assumption|(simp;done)|(simp;omega)|omega) (by assumption)
  have Jl:=G.cell (p:=⟨bx,ox+1,none⟩) (v:=v) hwq (by first|assumption|(simp;done)|(simp;omega)|omega) (by assumption)
  have Jm:=G.cell (p:=⟨b2,oy,none⟩) (v:= .bool n') hwq (by first|assumption|(simp;done)|(simp;omega)|omega) (by assumption)
  have Jn:=G.cell (p:=⟨b2,oy+1,none⟩) (v:=v') hwq (by first|assumption|(simp;done)|(simp;omega)|omega) (by assumption)
  first|(go_simp;done)|(go_simp;with_reducible rfl)
 try simp only[aput,List.set]
 refine q02 13 (v:= ?_) rfl (by kernel_rfl) (fun _ _ _ h=>h) rfl ?_ ‹_› ?_
 rotate_left
 ·intro wq hwq
  have Jo:=G.cell (p:=⟨bx,ox,none⟩) (v:= .bool n) hwq (by first|assumption|(simp;done)|(simp;omega)|omega) (by assumption)
  have Jp:=G.cell (p:=⟨bx,ox+1,none⟩) (v:=v) hwq (by first|assumption|(simp;done)|(simp;omega)|omega) (by assumption)
  have Jq:=G.cell (p:=⟨b2,oy,none⟩) (v:= .bool n') hwq (by first|assumption|(simp;done)|(simp;omega)|omega) (by assumption)
  have Jr:=G.cell (p:=⟨b2,oy+1,none⟩) (v:=v') hwq (by first|assumption|(simp;done)|(simp;omega)|omega) (by assumption)
  first|(go_simp;done)|(go_simp;with_reducible rfl)
 try simp only[aput,List.set]
 refine q02 14 (v:= ?_) rfl (by kernel_rfl) (fun _ _ _ h=>h) rfl ?_ ‹_› ?_
 rotate_left
 ·intro wq hwq
  have Js:=G.cell (p:=⟨bx,ox,none⟩) (v:= .bool n) hwq (by first|assumption|(simp;done)|(simp;omega)|omega) (by assumption)
  have Jt:=G.cell (p:=⟨bx,ox+1,none⟩) (v:=v) hwq (by first|assumption|(simp;done)|(simp;omega)|omega) (by assumption)
  have Ju:=G.cell (p:=⟨b2,oy,none⟩) (v:= .bool n') hwq (by first|assumption|(simp;done)|(simp;omega)|omega) (by assumption)
  have Jv:=G.cell (p:=⟨b2,oy+1,none⟩) (v:=v') hwq (by first|assumption|(simp;done)|(simp;omega)|omega) (by assumption)
  first|(go_simp;done)|(go_simp;with_reducible rfl)
 try simp only[aput,List.set]
 refine q02 15 (v:= ?_) rfl (by kernel_rfl) (fun _ _ _ h=>h) rfl ?_ ‹_› ?_
 rotate_left
 ·intro wq hwq
  have Jw:=G.cell (p:=⟨bx,ox,none⟩) (v:= .bool n) hwq (by first|assumption|(simp;done)|(simp;omega)|omega) (by assumption)
  have Jy:=G.cell (p:=⟨bx,ox+1,none⟩) (v:=v) hwq (by first|assumption|(simp;done)|(simp;omega)|omega) (by assumption)
  have Jz:=G.cell (p:=⟨b2,oy,none⟩) (v:= .bool n') hwq (by first|assumption|(simp;done)|(simp;omega)|omega) (by assumption)
  have rf:=G.cell (p:=⟨b2,oy+1,none⟩) (v:=v') hwq (by first|assumption|(simp;done)|(simp;omega)|omega) (by assumption)
  first|(go_simp;done)|(go_simp;with_reducible rfl)
 try simp only[aput,List.set]
 refine q02 16 (v:= ?_) rfl (by kernel_rfl) (fun _ _ _ h=>h) rfl ?_ ‹_› ?_
 rotate_left
 ·intro wq hwq
  have JA:=G.cell (p:=⟨bx,ox,none⟩) (v:= .bool n) hwq (by first|assumption|(simp;done)|(simp;omega)|omega) (by assumption)
  have JB:=G.cell (p:=⟨bx,ox+1,none⟩) (v:=v) hwq (by first|assumption|(simp;done)|(simp;omega)|omega) (by assumption)
  have JC:=G.cell (p:=⟨b2,oy,none⟩) (v:= .bool n') hwq (by first|assumption|(simp;done)|(simp;omega)|omega) (by assumption)
  have JD:=G.cell (p:=⟨b2,oy+1,none⟩) (v:=v') hwq (by first|assumption|(simp;done)|(simp;omega)|omega) (by assumption)
  first|(go_simp;done)|(go_simp;with_reducible rfl)
 try simp only[aput,List.set]
 refine q02 17 (v:= ?_) rfl (by kernel_rfl) (fun _ _ _ h=>h) rfl ?_ ‹_› ?_
 rotate_left
 ·intro wq hwq
  have JE:=G.cell (p:=⟨bx,ox,none⟩) (v:= .bool n) hwq (by first|assumption|(simp;done)|(simp;omega)|omega) (by assumption)
  have JF:=G.cell (p:=⟨bx,ox+1,none⟩) (v:=v) hwq (by first|assumption|(simp;done)|(simp;omega)|omega) (by assumption)
  have JG:=G.cell (p:=⟨b2,oy,none⟩) (v:= .bool n') hwq (by first|assumption|(simp;done)|(simp;omega)|omega) (by assumption)
  have JH:=G.cell (p:=⟨b2,oy+1,none⟩) (v:=v') hwq (by first|assumption|(simp;done)|(simp;omega)|omega) (by assumption)
  first|(go_simp;done)|(go_simp;with_reducible rfl)
 try simp only[aput,List.set]
 refine q03 (i:=18) (by kernel_rfl) rfl ?_
 intro K hK
 go_simp
 go_wp2_with (go_at_call 110;refine Calls.mono (P:=Tryz.prog) (HW.out _ bU) ?_;rintro e w2 ⟨rn,v1,ra,rfl,hg2,hn2,hs2⟩)
 refine hK.out _ _ (Or.inr (G.trans bU hg2)) ?_
 clear hK K
 refine q09 (i:=19) (j:=20) (by kernel_rfl) rfl rfl ?_ ?_
 ·intro K hK
  go_simp
  refine hK.out _ _ (Or.inr (G.trans bU hg2)) ?_
  clear hK K
  refine q03 (i:=20) (by kernel_rfl) rfl ?_
  intro K hK
  go_simp
  refine hK.out _ _ (Or.inr (G.trans bU hg2)) ?_
  clear hK K
  refine q03 (i:=21) (by kernel_rfl) rfl ?_
  intro K hK
  go_simp
  go_wp2_with (go_at_call 91;refine Calls.mono (P:=Tryz.prog) (q1d (w0:=w) hb (G.trans bU hg2) (q1t _ b o _ s0 _ _ (IntIs.G HZ.out hb (G.trans bU hg2)) hn2)) ?_;rintro e w3 ⟨rfl,hs3⟩)
  refine hK.out _ _ (Or.inl (by decide)) ?_
  clear hK K
  refine q03 (i:=22) (by kernel_rfl) rfl ?_
  intro K hK
  go_simp
  refine hK.out _ _ (Or.inl (by decide)) ?_
  clear hK K
  refine q0n (by kernel_rfl) ?_ _
  rw[hs2,HS.out] at hs3
  go_wp2_with fail
  go_ret
  exact hs3
 ·intro K hK
  go_simp
  refine hK.out _ _ (Or.inr (G.trans bU hg2)) ?_
  clear hK K
  refine q03 (i:=19) (by kernel_rfl) rfl ?_
  intro K hK
  go_simp
  refine hK.out _ _ (Or.inr (G.trans bU hg2)) ?_
  clear hK K
  refine q03 (i:=21) (by kernel_rfl) rfl ?_
  intro K hK
  go_simp
  go_wp2_with (go_at_call 91;refine Calls.mono (P:=Tryz.prog) (q1d (w0:=w) hb (G.trans bU hg2) (q1t _ b o _ s0 _ _ (IntIs.G HZ.out hb (G.trans bU hg2)) hn2)) ?_;rintro e w3 ⟨rfl,hs3⟩)
  refine hK.out _ _ (Or.inl (by decide)) ?_
  clear hK K
  refine q03 (i:=22) (by kernel_rfl) rfl ?_
  intro K hK
  go_simp
  refine hK.out _ _ (Or.inl (by decide)) ?_
  clear hK K
  refine q0n (by kernel_rfl) ?_ _
  rw[hs2,HS.out] at hs3
  go_wp2_with fail
  go_ret
  exact hs3
end Go.Proofs.YtljkfjjchkehaaaGreatDoor
