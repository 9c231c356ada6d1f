/- What is proved here: contracts of the reference's big numbers: Mul, Lsh, Abs, SetInt64 of Int, over this seat's translation. -/
import Derived.Test.YtljkfjjchkehaaaGreatDoorC18
import Derived.Test.YtljkfjjchkehaaaGreatDoorC16
namespace Go.Proofs.YtljkfjjchkehaaaGreatDoor
open Go.ChangeShapes Go.WideShapes Go.ChangeAt Go.RowKit
open BN
theorem qas (n n':Bool) (a a':Nat):sg (!(n==n')) (a*a')=sg n a*sg n' a':=by
 unfold sg
 cases n<;>cases n'<;>simp [Int.neg_mul,Int.mul_neg]
theorem q17 (w:World) (b o bx ox b2 oy:Nat) (s0 sx sy:Int) (K:Nat) (hK:K≤500000) (hx2:sx.natAbs<2^(32*K)) (hy2:sy.natAbs<2^(32*K)) (hb:b<w.heap.size) (hbx:bx<w.heap.size) (hby:b2<w.heap.size)
  (hz:IntIs w b o s0) (hx:IntIs w bx ox sx) (hy:IntIs w b2 oy sy):
  Calls Tryz.prog 49 #[.pointer (some ⟨b,o,none⟩),.pointer (some ⟨bx,ox,none⟩),.pointer (some ⟨b2,oy,none⟩)] w (SetTo w b o (sx*sy)):=by
 obtain⟨n,v,a,⟨c1,c2,-,-⟩,hv,h1,-⟩:=hx
 obtain⟨n',v',a',⟨c3,c4,-,-⟩,hv',h2,-⟩:=hy
 have ha:=q1J h1
 have ha':=q1J h2
 have HW:Hid (∀ w1,G w w1→_):=fun w1 g=>qb8 w1 v v' a a' K hK (hv.G g) (hv'.G g) (by omega) (by omega)
 have HZ:Hid _:=hz
 have HS:Hid (sg (!(n==n')) (a*a')=sx*sy):=by rw[qas,h1,h2];exact rfl
 clear hz hx2 hy2 hv hv' h1 h2 ha ha'
 go_enter Tryz.func49,Tryz.ntmps49
 go_wp2_with fail
 refine q0P 19 (G w) (by kernel_rfl) (by first|exact(G.refl _).drew|exact G.drew (by assumption)) ?_
 intro bU
 refine q02 0 (v:= ?_) rfl (by kernel_rfl) (fun _ _ _ h=>h) rfl ?_ ‹_› ?_
 rotate_left
 ·intro wq hwq
  have hq1:=G.cell (p:=⟨bx,ox,none⟩) (v:= .bool n) hwq (by first|assumption|(simp;done)|(simp;omega)|omega) (by assumption)
  have hq2:=G.cell (p:=⟨bx,ox+1,none⟩) (v:=v) hwq (by first|assumption|(simp;done)|(simp;omega)|omega) (by assumption)
  have hq3:=G.cell (p:=⟨b2,oy,none⟩) (v:= .bool n') hwq (by first|assumption|(simp;done)|(simp;omega)|omega) (by assumption)
  have hq4:=G.cell (p:=⟨b2,oy+1,none⟩) (v:=v') hwq (by first|assumption|(simp;done)|(simp;omega)|omega) (by assumption)
  first|(go_simp;done)|(go_simp;with_reducible rfl)
 try simp only[aput,List.set]
 refine q02 1 (v:= ?_) rfl (by kernel_rfl) (fun _ _ _ h=>h) rfl ?_ ‹_› ?_
 rotate_left
 ·intro wq hwq
  have lF:=G.cell (p:=⟨bx,ox,none⟩) (v:= .bool n) hwq (by first|assumption|(simp;done)|(simp;omega)|omega) (by assumption)
  have mK:=G.cell (p:=⟨bx,ox+1,none⟩) (v:=v) hwq (by first|assumption|(simp;done)|(simp;omega)|omega) (by assumption)
  have mM:=G.cell (p:=⟨b2,oy,none⟩) (v:= .bool n') hwq (by first|assumption|(simp;done)|(simp;omega)|omega) (by assumption)
  have hq8:=G.cell (p:=⟨b2,oy+1,none⟩) (v:=v') hwq (by first|assumption|(simp;done)|(simp;omega)|omega) (by assumption)
  first|(go_simp;done)|(go_simp;with_reducible rfl)
 try simp only[aput,List.set]
 refine q02 2 (v:= ?_) rfl (by kernel_rfl) (fun _ _ _ h=>h) rfl ?_ ‹_› ?_
 rotate_left
 ·intro wq hwq
  have vv:=G.cell (p:=⟨bx,ox,none⟩) (v:= .bool n) hwq (by first|assumption|(simp;done)|(simp;omega)|omega) (by assumption)
  have lN:=G.cell (p:=⟨bx,ox+1,none⟩) (v:=v) hwq (by first|assumption|(simp;done)|(simp;omega)|omega) (by assumption)
  have hq11:=G.cell (p:=⟨b2,oy,none⟩) (v:= .bool n') hwq (by first|assumption|(simp;done)|(simp;omega)|omega) (by assumption)
  have hq12:=G.cell (p:=⟨b2,oy+1,none⟩) (v:=v') hwq (by first|assumption|(simp;done)|(simp;omega)|omega) (by assumption)
  first|(go_simp;done)|(go_simp;with_reducible rfl)
 try simp only[aput,List.set]
 refine q02 3 (v:= ?_) rfl (by kernel_rfl) (fun _ _ _ h=>h) rfl ?_ ‹_› ?_
 rotate_left
 ·intro wq hwq
  have Av:=G.cell (p:=⟨bx,ox,none⟩) (v:= .bool n) hwq (by first|assumption|(simp;done)|(simp;omega)|omega) (by assumption)
  have Aw:=G.cell (p:=⟨bx,ox+1,none⟩) (v:=v) hwq (by first|assumption|(simp;done)|(simp;omega)|omega) (by assumption)
  have AA:=G.cell (p:=⟨b2,oy,none⟩) (v:= .bool n') hwq (by first|assumption|(simp;done)|(simp;omega)|omega) (by assumption)
  have AB:=G.cell (p:=⟨b2,oy+1,none⟩) (v:=v') hwq (by first|assumption|(simp;done)|(simp;omega)|omega) (by assumption)
  first|(go_simp;done)|(go_simp;with_reducible rfl)
 try simp only[aput,List.set]
 refine q02 4 (v:= ?_) rfl (by kernel_rfl) (fun _ _ _ h=>h) rfl ?_ ‹_› ?_
 rotate_left
 ·intro wq hwq
  have AJ:=G.cell (p:=⟨bx,ox,none⟩) (v:= .bool n) hwq (by first|assumption|(simp;done)|(simp;omega)|omega) (by assumption)
  have AL:=G.cell (p:=⟨bx,ox+1,none⟩) (v:=v) hwq (by first|assumption|(simp;done)|(simp;omega)|omega) (by assumption)
  have AO:=G.cell (p:=⟨b2,oy,none⟩) (v:= .bool n') hwq (by first|assumption|(simp;done)|(simp;omega)|omega) (by assumption)
  have AP:=G.cell (p:=⟨b2,oy+1,none⟩) (v:=v') hwq (by first|assumption|(simp;done)|(simp;omega)|omega) (by assumption)
  first|(go_simp;done)|(go_simp;with_reducible rfl)
 try simp only[aput,List.set]
 refine q02 5 (v:= ?_) rfl (by kernel_rfl) (fun _ _ _ h=>h) rfl ?_ ‹_› ?_
 rotate_left
 ·intro wq hwq
  have IJ:=G.cell (p:=⟨bx,ox,none⟩) (v:= .bool n) hwq (by first|assumption|(simp;done)|(simp;omega)|omega) (by assumption)
  have IK:=G.cell (p:=⟨bx,ox+1,none⟩) (v:=v) hwq (by first|assumption|(simp;done)|(simp;omega)|omega) (by assumption)
  have IL:=G.cell (p:=⟨b2,oy,none⟩) (v:= .bool n') hwq (by first|assumption|(simp;done)|(simp;omega)|omega) (by assumption)
  have IM:=G.cell (p:=⟨b2,oy+1,none⟩) (v:=v') hwq (by first|assumption|(simp;done)|(simp;omega)|omega) (by assumption)
  first|(go_simp;done)|(go_simp;with_reducible rfl)
 try simp only[aput,List.set]
 refine q02 6 (v:= ?_) rfl (by kernel_rfl) (fun _ _ _ h=>h) rfl ?_ ‹_› ?_
 rotate_left
 ·intro wq hwq
  have IU:=G.cell (p:=⟨bx,ox,none⟩) (v:= .bool n) hwq (by first|assumption|(simp;done)|(simp;omega)|omega) (by assumption)
  have IV:=G.cell (p:=⟨bx,ox+1,none⟩) (v:=v) hwq (by first|assumption|(simp;done)|(simp;omega)|omega) (by assumption)
  have IW:=G.cell (p:=⟨b2,oy,none⟩) (v:= .bool n') hwq (by first|assumption|(simp;done)|(simp;omega)|omega) (by assumption)
  have IX:=G.cell (p:=⟨b2,oy+1,none⟩) (v:=v') hwq (by first|assumption|(simp;done)|(simp;omega)|omega) (by assumption)
  first|(go_simp;done)|(go_simp;with_reducible rfl)
 try simp only[aput,List.set]
 refine q02 7 (v:= ?_) rfl (by kernel_rfl) (fun _ _ _ h=>h) rfl ?_ ‹_› ?_
 rotate_left
 ·intro wq hwq
  have IY:=G.cell (p:=⟨bx,ox,none⟩) (v:= .bool n) hwq (by first|assumption|(simp;done)|(simp;omega)|omega) (by assumption)
  have IZ:=G.cell (p:=⟨bx,ox+1,none⟩) (v:=v) hwq (by first|assumption|(simp;done)|(simp;omega)|omega) (by assumption)
  have J2:=G.cell (p:=⟨b2,oy,none⟩) (v:= .bool n') hwq (by first|assumption|(simp;done)|(simp;omega)|omega) (by assumption)
  have J3:=G.cell (p:=⟨b2,oy+1,none⟩) (v:=v') hwq (by first|assumption|(simp;done)|(simp;omega)|omega) (by assumption)
  first|(go_simp;done)|(go_simp;with_reducible rfl)
 try simp only[aput,List.set]
 refine q02 8 (v:= ?_) rfl (by kernel_rfl) (fun _ _ _ h=>h) rfl ?_ ‹_› ?_
 rotate_left
 ·intro wq hwq
  have J4:=G.cell (p:=⟨bx,ox,none⟩) (v:= .bool n) hwq (by first|assumption|(simp;done)|(simp;omega)|omega) (by assumption)
  have J5:=G.cell (p:=⟨bx,ox+1,none⟩) (v:=v) hwq (by first|assumption|(simp;done)|(simp;omega)|omega) (by assumption)
  have J6:=G.cell (p:=⟨b2,oy,none⟩) (v:= .bool n') hwq (by first|assumption|(simp;done)|(simp;omega)|omega) (by assumption)
  have J7:=G.cell (p:=⟨b2,oy+1,none⟩) (v:=v') hwq (by first|assumption|(simp;done)|(simp;omega)|omega) (by assumption)
  first|(go_simp;done)|(go_simp;with_reducible rfl)
 try simp only[aput,List.set]
 refine q02 9 (v:= ?_) rfl (by kernel_rfl) (fun _ _ _ h=>h) rfl ?_ ‹_› ?_
 rotate_left
 ·intro wq hwq
  have J8:=G.cell (p:=⟨bx,ox,none⟩) (v:= .bool n) hwq (by first|assumption|(simp;done)|(simp;omega)|omega) (by assumption)
  have J9:=G.cell (p:=⟨bx,ox+1,none⟩) (v:=v) hwq (by first|assumption|(simp;done)|(simp;omega)|omega) (by assumption)
  have Ja:=G.cell (p:=⟨b2,oy,none⟩) (v:= .bool n') hwq (by first|assumption|(simp;done)|(simp;omega)|omega) (by assumption)
  have Jb:=G.cell (p:=⟨b2,oy+1,none⟩) (v:=v') hwq (by first|assumption|(simp;done)|(simp;omega)|omega) (by assumption)
  first|(go_simp;done)|(go_simp;with_reducible rfl)
 try simp only[aput,List.set]
 refine q02 10 (v:= ?_) rfl (by kernel_rfl) (fun _ _ _ h=>h) rfl ?_ ‹_› ?_
 rotate_left
 ·intro wq hwq
  have Jc:=G.cell (p:=⟨bx,ox,none⟩) (v:= .bool n) hwq (by first|assumption|(simp;done)|(simp;omega)|omega) (by assumption)
  have Jd:=G.cell (p:=⟨bx,ox+1,none⟩) (v:=v) hwq (by first|assumption|(simp;done)|(simp;omega)|omega) (by assumption)
  have Je:=G.cell (p:=⟨b2,oy,none⟩) (v:= .bool n') hwq (by first|assumption|(simp;done)|(simp;omega)|omega) (by assumption)
  have Jf:=G.cell (p:=⟨b2,oy+1,none⟩) (v:=v') hwq (by first|assumption|(simp;done)|(simp;omega)|omega) (by assumption)
  first|(go_simp;done)|(go_simp;with_reducible rfl)
 try simp only[aput,List.set]
 refine q02 11 (v:= ?_) rfl (by kernel_rfl) (fun _ _ _ h=>h) rfl ?_ ‹_› ?_
 rotate_left
 ·intro wq hwq
  have Jg:=G.cell (p:=⟨bx,ox,none⟩) (v:= .bool n) hwq (by first|assumption|(simp;done)|(simp;omega)|omega) (by assumption)
  have Jh:=G.cell (p:=⟨bx,ox+1,none⟩) (v:=v) hwq (by first|assumption|(simp;done)|(simp;omega)|omega) (by assumption)
  have Ji:=G.cell (p:=⟨b2,oy,none⟩) (v:= .bool n') hwq (by first|assumption|(simp;done)|(simp;omega)|omega) (by assumption)
  have Jj:=G.cell (p:=⟨b2,oy+1,none⟩) (v:=v') hwq (by first|assumption|(simp;done)|(simp;omega)|omega) (by assumption)
  first|(go_simp;done)|(go_simp;with_reducible rfl)
 try simp only[aput,List.set]
 refine q02 12 (v:= ?_) rfl (by kernel_rfl) (fun _ _ _ h=>h) rfl ?_ ‹_› ?_
 rotate_left
 ·intro wq hwq
  have Jk:=G.cell (p:=⟨bx,ox,none⟩) (v:= .bool n) hwq (by first|assumption|(simp;done)|(simp;omega)|omega) (by assumption)
  have Jl:=G.cell (p:=⟨bx,ox+1,none⟩) (v:=v) hwq (by first|assumption|(simp;done)|(simp;omega)|omega) (by assumption)
  have Jm:=G.cell (p:=⟨b2,oy,none⟩) (v:= .bool n') hwq (by first|assumption|(simp;done)|(simp;omega)|omega) (by assumption)
  have Jn:=G.cell (p:=⟨b2,oy+1,none⟩) (v:=v') hwq (by first|assumption|(simp;done)|(simp;omega)|omega) (by assumption)
  first|(go_simp;done)|(go_simp;with_reducible rfl)
 try simp only[aput,List.set]
 refine q02 13 (v:= ?_) rfl (by kernel_rfl) (fun _ _ _ h=>h) rfl ?_ ‹_› ?_
 rotate_left
 ·intro wq hwq
  have Jo:=G.cell (p:=⟨bx,ox,none⟩) (v:= .bool n) hwq (by first|assumption|(simp;done)|(simp;omega)|omega) (by assumption)
  have Jp:=G.cell (p:=⟨bx,ox+1,none⟩) (v:=v) hwq (by first|assumption|(simp;done)|(simp;omega)|omega) (by assumption)
  have Jq:=G.cell (p:=⟨b2,oy,none⟩) (v:= .bool n') hwq (by first|assumption|(simp;done)|(simp;omega)|omega) (by assumption)
  have Jr:=G.cell (p:=⟨b2,oy+1,none⟩) (v:=v') hwq (by first|assumption|(simp;done)|(simp;omega)|omega) (by assumption)
  first|(go_simp;done)|(go_simp;with_reducible rfl)
 try simp only[aput,List.set]
 refine q02 14 (v:= ?_) rfl (by kernel_rfl) (fun _ _ _ h=>h) rfl ?_ ‹_› ?_
 rotate_left
 ·intro wq hwq
  have Js:=G.cell (p:=⟨bx,ox,none⟩) (v:= .bool n) hwq (by first|assumption|(simp;done)|(simp;omega)|omega) (by assumption)
  have Jt:=G.cell (p:=⟨bx,ox+1,none⟩) (v:=v) hwq (by first|assumption|(simp;done)|(simp;omega)|omega) (by assumption)
  have Ju:=G.cell (p:=⟨b2,oy,none⟩) (v:= .bool n') hwq (by first|assumption|(simp;done)|(simp;omega)|omega) (by assumption)
  have Jv:=G.cell (p:=⟨b2,oy+1,none⟩) (v:=v') hwq (by first|assumption|(simp;done)|(simp;omega)|omega) (by assumption)
  first|(go_simp;done)|(go_simp;with_reducible rfl)
 try simp only[aput,List.set]
 refine q02 15 (v:= ?_) rfl (by kernel_rfl) (fun _ _ _ h=>h) rfl ?_ ‹_› ?_
 rotate_left
 ·intro wq hwq
  have Jw:=G.cell (p:=⟨bx,ox,none⟩) (v:= .bool n) hwq (by first|assumption|(simp;done)|(simp;omega)|omega) (by assumption)
  have Jy:=G.cell (p:=⟨bx,ox+1,none⟩) (v:=v) hwq (by first|assumption|(simp;done)|(simp;omega)|omega) (by assumption)
  have Jz:=G.cell (p:=⟨b2,oy,none⟩) (v:= .bool n') hwq (by first|assumption|(simp;done)|(simp;omega)|omega) (by assumption)
  have rf:=G.cell (p:=⟨b2,oy+1,none⟩) (v:=v') hwq (by first|assumption|(simp;done)|(simp;omega)|omega) (by assumption)
  first|(go_simp;done)|(go_simp;with_reducible rfl)
 try simp only[aput,List.set]
 refine q02 16 (v:= ?_) rfl (by kernel_rfl) (fun _ _ _ h=>h) rfl ?_ ‹_› ?_
 rotate_left
 ·intro wq hwq
  have JA:=G.cell (p:=⟨bx,ox,none⟩) (v:= .bool n) hwq (by first|assumption|(simp;done)|(simp;omega)|omega) (by assumption)
  have JB:=G.cell (p:=⟨bx,ox+1,none⟩) (v:=v) hwq (by first|assumption|(simp;done)|(simp;omega)|omega) (by assumption)
  have JC:=G.cell (p:=⟨b2,oy,none⟩) (v:= .bool n') hwq (by first|assumption|(simp;done)|(simp;omega)|omega) (by assumption)
  have JD:=G.cell (p:=⟨b2,oy+1,none⟩) (v:=v') hwq (by first|assumption|(simp;done)|(simp;omega)|omega) (by assumption)
  first|(go_simp;done)|(go_simp;with_reducible rfl)
 try simp only[aput,List.set]
 refine q02 17 (v:= ?_) rfl (by kernel_rfl) (fun _ _ _ h=>h) rfl ?_ ‹_› ?_
 rotate_left
 ·intro wq hwq
  have JE:=G.cell (p:=⟨bx,ox,none⟩) (v:= .bool n) hwq (by first|assumption|(simp;done)|(simp;omega)|omega) (by assumption)
  have JF:=G.cell (p:=⟨bx,ox+1,none⟩) (v:=v) hwq (by first|assumption|(simp;done)|(simp;omega)|omega) (by assumption)
  have JG:=G.cell (p:=⟨b2,oy,none⟩) (v:= .bool n') hwq (by first|assumption|(simp;done)|(simp;omega)|omega) (by assumption)
  have JH:=G.cell (p:=⟨b2,oy+1,none⟩) (v:=v') hwq (by first|assumption|(simp;done)|(simp;omega)|omega) (by assumption)
  first|(go_simp;done)|(go_simp;with_reducible rfl)
 try simp only[aput,List.set]
 refine q03 (i:=18) (by kernel_rfl) rfl ?_
 intro K hK
 go_simp
 go_wp2_with (go_at_call 92;refine Calls.mono (P:=Tryz.prog) (HW.out _ bU) ?_;rintro e w2 ⟨v1,rfl,hg2,hn2⟩)
 refine hK.out _ _ (Or.inr (G.trans bU hg2)) ?_
 clear hK K
 refine q03 (i:=19) (by kernel_rfl) rfl ?_
 intro K hK
 go_simp
 go_wp2_with (go_at_call 91;refine Calls.mono (P:=Tryz.prog) (q1d (w0:=w) hb (G.trans bU hg2) (q1t _ b o _ s0 _ _ (IntIs.G HZ.out hb (G.trans bU hg2)) hn2)) ?_;rintro e w3 ⟨rfl,hs3⟩)
 refine hK.out _ _ (Or.inl (by decide)) ?_
 clear hK K
 refine q03 (i:=20) (by kernel_rfl) rfl ?_
 intro K hK
 go_simp
 refine hK.out _ _ (Or.inl (by decide)) ?_
 clear hK K
 refine q0n (by kernel_rfl) ?_ _
 rw[HS.out] at hs3
 go_wp2_with fail
 go_ret
 exact hs3
theorem q3n (w:World) (b o bx ox k:Nat) (s0 sx:Int) (K:Nat) (hK:K≤500000) (hk:k≤10000000) (hx2:sx.natAbs<2^(32*K)) (hb:b<w.heap.size) (hbx:bx<w.heap.size)
  (hz:IntIs w b o s0) (hx:IntIs w bx ox sx):
  Calls Tryz.prog 113 #[.pointer (some ⟨b,o,none⟩),.pointer (some ⟨bx,ox,none⟩),.int .u64 (k:Int)] w (SetTo w b o (sx*2^k)):=by
 obtain⟨n,v,a,⟨c1,c2,-,-⟩,hv,h1,-⟩:=hx
 have ha:=q1J h1
 have HW:Hid (∀ w1,G w w1→_):=fun w1 g=>q1W w1 v a k K hK hk (hv.G g) (by omega)
 have HZ:Hid _:=hz
 have HS:Hid (sg n (a*2^k)=sx*2^k):=by
  rw[← h1];show sg n (a*2^k)=sg n a*2^k
  unfold sg;cases n<;>simp [Int.neg_mul]
 clear hz hx2 hv h1 ha
 go_enter Tryz.func113,Tryz.ntmps113
 go_wp2_with fail
 refine q0P 11 (G w) (by kernel_rfl) (by first|exact(G.refl _).drew|exact G.drew (by assumption)) ?_
 intro bU
 refine q02 0 (v:= ?_) rfl (by kernel_rfl) (fun _ _ _ h=>h) rfl ?_ ‹_› ?_
 rotate_left
 ·intro wq hwq
  have Rx:=G.cell (p:=⟨bx,ox,none⟩) (v:= .bool n) hwq (by first|assumption|(simp;done)|(simp;omega)|omega) (by assumption)
  have Ry:=G.cell (p:=⟨bx,ox+1,none⟩) (v:=v) hwq (by first|assumption|(simp;done)|(simp;omega)|omega) (by assumption)
  first|(go_simp;done)|(go_simp;with_reducible rfl)
 try simp only[aput,List.set]
 refine q02 1 (v:= ?_) rfl (by kernel_rfl) (fun _ _ _ h=>h) rfl ?_ ‹_› ?_
 rotate_left
 ·intro wq hwq
  have Rz:=G.cell (p:=⟨bx,ox,none⟩) (v:= .bool n) hwq (by first|assumption|(simp;done)|(simp;omega)|omega) (by assumption)
  have RD:=G.cell (p:=⟨bx,ox+1,none⟩) (v:=v) hwq (by first|assumption|(simp;done)|(simp;omega)|omega) (by assumption)
  first|(go_simp;done)|(go_simp;with_reducible rfl)
 try simp only[aput,List.set]
 refine q02 2 (v:= ?_) rfl (by kernel_rfl) (fun _ _ _ h=>h) rfl ?_ ‹_› ?_
 rotate_left
 ·intro wq hwq
  have RI:=G.cell (p:=⟨bx,ox,none⟩) (v:= .bool n) hwq (by first|assumption|(simp;done)|(simp;omega)|omega) (by assumption)
  have RJ:=G.cell (p:=⟨bx,ox+1,none⟩) (v:=v) hwq (by first|assumption|(simp;done)|(simp;omega)|omega) (by assumption)
  first|(go_simp;done)|(go_simp;with_reducible rfl)
 try simp only[aput,List.set]
 refine q02 3 (v:= ?_) rfl (by kernel_rfl) (fun _ _ _ h=>h) rfl ?_ ‹_› ?_
 rotate_left
 ·intro wq hwq
  have RL:=G.cell (p:=⟨bx,ox,none⟩) (v:= .bool n) hwq (by first|assumption|(simp;done)|(simp;omega)|omega) (by assumption)
  have RO:=G.cell (p:=⟨bx,ox+1,none⟩) (v:=v) hwq (by first|assumption|(simp;done)|(simp;omega)|omega) (by assumption)
  first|(go_simp;done)|(go_simp;with_reducible rfl)
 try simp only[aput,List.set]
 refine q02 4 (v:= ?_) rfl (by kernel_rfl) (fun _ _ _ h=>h) rfl ?_ ‹_› ?_
 rotate_left
 ·intro wq hwq
  have RQ:=G.cell (p:=⟨bx,ox,none⟩) (v:= .bool n) hwq (by first|assumption|(simp;done)|(simp;omega)|omega) (by assumption)
  have RU:=G.cell (p:=⟨bx,ox+1,none⟩) (v:=v) hwq (by first|assumption|(simp;done)|(simp;omega)|omega) (by assumption)
  first|(go_simp;done)|(go_simp;with_reducible rfl)
 try simp only[aput,List.set]
 refine q02 5 (v:= ?_) rfl (by kernel_rfl) (fun _ _ _ h=>h) rfl ?_ ‹_› ?_
 rotate_left
 ·intro wq hwq
  have RX:=G.cell (p:=⟨bx,ox,none⟩) (v:= .bool n) hwq (by first|assumption|(simp;done)|(simp;omega)|omega) (by assumption)
  have RY:=G.cell (p:=⟨bx,ox+1,none⟩) (v:=v) hwq (by first|assumption|(simp;done)|(simp;omega)|omega) (by assumption)
  first|(go_simp;done)|(go_simp;with_reducible rfl)
 try simp only[aput,List.set]
 refine q02 6 (v:= ?_) rfl (by kernel_rfl) (fun _ _ _ h=>h) rfl ?_ ‹_› ?_
 rotate_left
 ·intro wq hwq
  have RZ:=G.cell (p:=⟨bx,ox,none⟩) (v:= .bool n) hwq (by first|assumption|(simp;done)|(simp;omega)|omega) (by assumption)
  have Sa:=G.cell (p:=⟨bx,ox+1,none⟩) (v:=v) hwq (by first|assumption|(simp;done)|(simp;omega)|omega) (by assumption)
  first|(go_simp;done)|(go_simp;with_reducible rfl)
 try simp only[aput,List.set]
 refine q02 7 (v:= ?_) rfl (by kernel_rfl) (fun _ _ _ h=>h) rfl ?_ ‹_› ?_
 rotate_left
 ·intro wq hwq
  have Sb:=G.cell (p:=⟨bx,ox,none⟩) (v:= .bool n) hwq (by first|assumption|(simp;done)|(simp;omega)|omega) (by assumption)
  have Sc:=G.cell (p:=⟨bx,ox+1,none⟩) (v:=v) hwq (by first|assumption|(simp;done)|(simp;omega)|omega) (by assumption)
  first|(go_simp;done)|(go_simp;with_reducible rfl)
 try simp only[aput,List.set]
 refine q02 8 (v:= ?_) rfl (by kernel_rfl) (fun _ _ _ h=>h) rfl ?_ ‹_› ?_
 rotate_left
 ·intro wq hwq
  have Sd:=G.cell (p:=⟨bx,ox,none⟩) (v:= .bool n) hwq (by first|assumption|(simp;done)|(simp;omega)|omega) (by assumption)
  have Sg:=G.cell (p:=⟨bx,ox+1,none⟩) (v:=v) hwq (by first|assumption|(simp;done)|(simp;omega)|omega) (by assumption)
  first|(go_simp;done)|(go_simp;with_reducible rfl)
 try simp only[aput,List.set]
 refine q02 9 (v:= ?_) rfl (by kernel_rfl) (fun _ _ _ h=>h) rfl ?_ ‹_› ?_
 rotate_left
 ·intro wq hwq
  have Si:=G.cell (p:=⟨bx,ox,none⟩) (v:= .bool n) hwq (by first|assumption|(simp;done)|(simp;omega)|omega) (by assumption)
  have Sj:=G.cell (p:=⟨bx,ox+1,none⟩) (v:=v) hwq (by first|assumption|(simp;done)|(simp;omega)|omega) (by assumption)
  first|(go_simp;done)|(go_simp;with_reducible rfl)
 try simp only[aput,List.set]
 refine q03 (i:=10) (by kernel_rfl) rfl ?_
 intro K hK
 go_simp
 go_wp2_with (go_at_call 155;refine Calls.mono (P:=Tryz.prog) (HW.out _ bU) ?_;rintro e w2 ⟨v1,rfl,hg2,hn2⟩)
 refine hK.out _ _ (Or.inr (G.trans bU hg2)) ?_
 clear hK K
 refine q03 (i:=11) (by kernel_rfl) rfl ?_
 intro K hK
 go_simp
 go_wp2_with (go_at_call 91;refine Calls.mono (P:=Tryz.prog) (q1d (w0:=w) hb (G.trans bU hg2) (q1t _ b o _ s0 _ _ (IntIs.G HZ.out hb (G.trans bU hg2)) hn2)) ?_;rintro e w3 ⟨rfl,hs3⟩)
 refine hK.out _ _ (Or.inl (by decide)) ?_
 clear hK K
 refine q03 (i:=12) (by kernel_rfl) rfl ?_
 intro K hK
 go_simp
 refine hK.out _ _ (Or.inl (by decide)) ?_
 clear hK K
 refine q0n (by kernel_rfl) ?_ _
 rw[HS.out] at hs3
 go_wp2_with fail
 go_ret
 exact hs3
theorem q8V (w:World) (b o:Nat) (x:Int) (s0:Int) (hx: -9223372036854775808≤x∧x≤9223372036854775807) (hb:b<w.heap.size) (hz:IntIs w b o s0):
  Calls Tryz.prog 132 #[.pointer (some ⟨b,o,none⟩),.int .i64 x] w (SetTo w b o x):=by
 obtain⟨hx1,hx2⟩:=hx
 have HW:Hid _:=q2u w x.natAbs (by omega)
 have HZ:Hid _:=hz
 clear hz
 by_cases hneg:x<0
 ·have hn0:decide (x<0)=true:=by simpa using hneg
  have hw1:IntKind.u64.wrap x=x+18446744073709551616:=by rw[IntKind.wrap_u64];omega
  have hw2:IntKind.u64.wrap (-(x+18446744073709551616))=(x.natAbs:Int):=by rw[IntKind.wrap_u64];omega
  have HS:Hid (sg true x.natAbs=x):=by show sg true x.natAbs=x;unfold sg;simp;omega
  generalize x.natAbs=a at *
  clear hneg
  go_enter Tryz.func132,Tryz.ntmps132
  go_wp2_with fail
  refine Calls.mono (P:=Tryz.prog) HW.out ?_
  rintro e w2 ⟨v1,rfl,hg2,hn2⟩
  go_wp2_with fail
  refine Calls.mono (P:=Tryz.prog) (q1d (w0:=w) hb hg2 (q1t _ b o _ s0 _ _ (IntIs.G HZ.out hb hg2) hn2)) ?_
  rintro e w3 ⟨rfl,hs3⟩
  rw[HS.out] at hs3
  go_wp2_with fail
  go_ret
  exact hs3
 ·have hn0:decide (x<0)=false:=by simpa using hneg
  have hw1:IntKind.u64.wrap x=(x.natAbs:Int):=by rw[IntKind.wrap_u64];omega
  have HS:Hid (sg false x.natAbs=x):=by show sg false x.natAbs=x;unfold sg;simp;omega
  generalize x.natAbs=a at *
  clear hneg
  go_enter Tryz.func132,Tryz.ntmps132
  go_wp2_with fail
  refine Calls.mono (P:=Tryz.prog) HW.out ?_
  rintro e w2 ⟨v1,rfl,hg2,hn2⟩
  go_wp2_with fail
  refine Calls.mono (P:=Tryz.prog) (q1d (w0:=w) hb hg2 (q1t _ b o _ s0 _ _ (IntIs.G HZ.out hb hg2) hn2)) ?_
  rintro e w3 ⟨rfl,hs3⟩
  rw[HS.out] at hs3
  go_wp2_with fail
  go_ret
  exact hs3
theorem q74 (w:World) (t:TypeId):IntIs (w.alloc (.cells #[.bool false,.slice none 0 0] t)) w.heap.size 0 0:=by
 refine⟨false,.slice none 0 0,0,⟨?_,?_,World.frozen?_alloc_at _ _ _ _ rfl,World.frozen?_alloc_at _ _ _ _ rfl⟩,q0W _ _ _,rfl,fun h=>by cases h⟩
 ·rw[World.cell?_alloc_at _ _ _ _ rfl];rfl
 ·rw[World.cell?_alloc_at _ _ _ _ rfl];rfl
/-- A call hands back a new Int that holds s; nothing that was there has turned. -/
def RetI (w:World) (s:Int) (e:Ending) (w':World):Prop:=∃ p,e= .returned (.pointer (some ⟨p,0,none⟩))∧G w w'∧w.heap.size≤p∧p<w'.heap.size∧IntIs w' p 0 s
/-- What a method leaves behind that sets a new Int. -/
theorem SetTo.ret {w0 w:World} {b:Nat} {s:Int} {e:Ending} {w':World} (g:G w0 w) (hb:w0.heap.size≤b) (hs:b<w.heap.size) (h:SetTo w b 0 s e w'):RetI w0 s e w':=by
 obtain⟨rfl,h2,-,h4⟩:=h
 exact⟨b,rfl,GX.fresh g h2 hb,hb,Nat.lt_of_lt_of_le hs h2.size,h4⟩
theorem q2a (w:World) (x:Int) (hx: -9223372036854775808≤x∧x≤9223372036854775807):Calls Tryz.prog 88 #[.int .i64 x] w (RetI w x):=by
 have HS:Hid (∀ w1 b,b<w1.heap.size→IntIs w1 b 0 0→_):=fun w1 b h1 h2=>q8V w1 b 0 x 0 hx h1 h2
 clear hx
 go_enter Tryz.func88,Tryz.ntmps88
 go_wp2_with fail
 refine Calls.mono (P:=Tryz.prog) (HS.out _ w.heap.size (by simp) (q74 w _)) ?_
 intro e w1 h
 have h2:=SetTo.ret ((G.refl w).alloc _) (Nat.le_refl _) (by simp) h
 obtain⟨p,rfl,h3⟩:=h2
 go_wp2_with fail
 go_ret
 exact⟨p,rfl,h3⟩
end Go.Proofs.YtljkfjjchkehaaaGreatDoor
