/- What is proved here: contracts of the reference's big numbers: Mul, Lsh, Abs, SetInt64 of Int, over this seat's translation. -/
import Derived.Test.YtbfjihniphldaaaGreatDoorC14
import Derived.Test.YtbfjihniphldaaaGreatDoorC23
import Derived.Test.YtbfjihniphldaaaGreatDoorC7
namespace Go.Proofs.YtbfjihniphldaaaGreatDoor
open Go.ChangeShapes Go.WideShapes Go.ChangeAt Go.RowKit
open BN
theorem qbt (n n':Bool) (a a':Nat):sg (!(n==n')) (a*a')=sg n a*sg n' a':=by
 unfold sg;cases n<;>cases n'<;>simp [Int.neg_mul,Int.mul_neg]
theorem q1p (w:World) (b o bx ox b2 oy:Nat) (s0 sx sy:Int) (K:Nat) (hK:K≤500000) (hx2:sx.natAbs<2^(32*K)) (hy2:sy.natAbs<2^(32*K)) (hb:b<w.heap.size) (hbx:bx<w.heap.size) (hby:b2<w.heap.size)
  (hz:IntIs w b o s0) (hx:IntIs w bx ox sx) (hy:IntIs w b2 oy sy):
  Calls Tryz.prog 50 #[.pointer (some ⟨b,o,none⟩),.pointer (some ⟨bx,ox,none⟩),.pointer (some ⟨b2,oy,none⟩)] w (SetTo w b o (sx*sy)):=by
 obtain⟨n,v,a,⟨c1,c2,-,-⟩,hv,h1,-⟩:=hx;obtain⟨n',v',a',⟨c3,c4,-,-⟩,hv',h2,-⟩:=hy;have ha:=q0R h1;have ha':=q0R h2;have HW:Hid (∀ w1,G w w1→_):=fun w1 g=>qco w1 v v' a a' K hK (hv.G g) (hv'.G g) (by omega) (by omega);have HZ:Hid _:=hz;have HS:Hid (sg (!(n==n')) (a*a')=sx*sy):=by rw[qbt,h1,h2];exact rfl
 clear hz hx2 hy2 hv hv' h1 h2 ha ha';go_enter Tryz.func50,Tryz.ntmps50;go_wp2_with fail;refine q0L 19 (G w) (by kernel_rfl) (by first|exact(G.refl _).drew|exact G.drew (by assumption)) ?_;intro bn;refine q02 0 (v:= ?_) rfl (by kernel_rfl) (fun _ _ _ h=>h) rfl ?_ ‹_› ?_;rotate_left
 ·intro wq hwq;have hq1:=G.cell (p:=⟨bx,ox,none⟩) (v:= .bool n) hwq (by first|assumption|(simp;done)|(simp;omega)|omega) (by assumption);have hq2:=G.cell (p:=⟨bx,ox+1,none⟩) (v:=v) hwq (by first|assumption|(simp;done)|(simp;omega)|omega) (by assumption);have hq3:=G.cell (p:=⟨b2,oy,none⟩) (v:= .bool n') hwq (by first|assumption|(simp;done)|(simp;omega)|omega) (by assumption);have hq4:=G.cell (p:=⟨b2,oy+1,none⟩) (v:=v') hwq (by first|assumption|(simp;done)|(simp;omega)|omega) (by assumption)
  first|(go_simp;done)|(go_simp;with_reducible rfl)
 try simp only[aput,List.set]
 refine q02 1 (v:= ?_) rfl (by kernel_rfl) (fun _ _ _ h=>h) rfl ?_ ‹_› ?_;rotate_left
 ·intro wq hwq;have pQ:=G.cell (p:=⟨bx,ox,none⟩) (v:= .bool n) hwq (by first|assumption|(simp;done)|(simp;omega)|omega) (by assumption);have qp:=G.cell (p:=⟨bx,ox+1,none⟩) (v:=v) hwq (by first|assumption|(simp;done)|(simp;omega)|omega) (by assumption);have qw:=G.cell (p:=⟨b2,oy,none⟩) (v:= .bool n') hwq (by first|assumption|(simp;done)|(simp;omega)|omega) (by assumption);have hq8:=G.cell (p:=⟨b2,oy+1,none⟩) (v:=v') hwq (by first|assumption|(simp;done)|(simp;omega)|omega) (by assumption)
  first|(go_simp;done)|(go_simp;with_reducible rfl)
 try simp only[aput,List.set]
 refine q02 2 (v:= ?_) rfl (by kernel_rfl) (fun _ _ _ h=>h) rfl ?_ ‹_› ?_;rotate_left
 ·intro wq hwq;have wy:=G.cell (p:=⟨bx,ox,none⟩) (v:= .bool n) hwq (by first|assumption|(simp;done)|(simp;omega)|omega) (by assumption);have mE:=G.cell (p:=⟨bx,ox+1,none⟩) (v:=v) hwq (by first|assumption|(simp;done)|(simp;omega)|omega) (by assumption);have hq11:=G.cell (p:=⟨b2,oy,none⟩) (v:= .bool n') hwq (by first|assumption|(simp;done)|(simp;omega)|omega) (by assumption);have hq12:=G.cell (p:=⟨b2,oy+1,none⟩) (v:=v') hwq (by first|assumption|(simp;done)|(simp;omega)|omega) (by assumption)
  first|(go_simp;done)|(go_simp;with_reducible rfl)
 try simp only[aput,List.set]
 refine q02 3 (v:= ?_) rfl (by kernel_rfl) (fun _ _ _ h=>h) rfl ?_ ‹_› ?_;rotate_left
 ·intro wq hwq;have yz:=G.cell (p:=⟨bx,ox,none⟩) (v:= .bool n) hwq (by first|assumption|(simp;done)|(simp;omega)|omega) (by assumption);have yA:=G.cell (p:=⟨bx,ox+1,none⟩) (v:=v) hwq (by first|assumption|(simp;done)|(simp;omega)|omega) (by assumption);have yB:=G.cell (p:=⟨b2,oy,none⟩) (v:= .bool n') hwq (by first|assumption|(simp;done)|(simp;omega)|omega) (by assumption);have yC:=G.cell (p:=⟨b2,oy+1,none⟩) (v:=v') hwq (by first|assumption|(simp;done)|(simp;omega)|omega) (by assumption)
  first|(go_simp;done)|(go_simp;with_reducible rfl)
 try simp only[aput,List.set]
 refine q02 4 (v:= ?_) rfl (by kernel_rfl) (fun _ _ _ h=>h) rfl ?_ ‹_› ?_;rotate_left
 ·intro wq hwq;have rP:=G.cell (p:=⟨bx,ox,none⟩) (v:= .bool n) hwq (by first|assumption|(simp;done)|(simp;omega)|omega) (by assumption);have rQ:=G.cell (p:=⟨bx,ox+1,none⟩) (v:=v) hwq (by first|assumption|(simp;done)|(simp;omega)|omega) (by assumption);have yD:=G.cell (p:=⟨b2,oy,none⟩) (v:= .bool n') hwq (by first|assumption|(simp;done)|(simp;omega)|omega) (by assumption);have yE:=G.cell (p:=⟨b2,oy+1,none⟩) (v:=v') hwq (by first|assumption|(simp;done)|(simp;omega)|omega) (by assumption)
  first|(go_simp;done)|(go_simp;with_reducible rfl)
 try simp only[aput,List.set]
 refine q02 5 (v:= ?_) rfl (by kernel_rfl) (fun _ _ _ h=>h) rfl ?_ ‹_› ?_;rotate_left
 ·intro wq hwq;have PS:=G.cell (p:=⟨bx,ox,none⟩) (v:= .bool n) hwq (by first|assumption|(simp;done)|(simp;omega)|omega) (by assumption);have PT:=G.cell (p:=⟨bx,ox+1,none⟩) (v:=v) hwq (by first|assumption|(simp;done)|(simp;omega)|omega) (by assumption);have PU:=G.cell (p:=⟨b2,oy,none⟩) (v:= .bool n') hwq (by first|assumption|(simp;done)|(simp;omega)|omega) (by assumption);have PV:=G.cell (p:=⟨b2,oy+1,none⟩) (v:=v') hwq (by first|assumption|(simp;done)|(simp;omega)|omega) (by assumption)
  first|(go_simp;done)|(go_simp;with_reducible rfl)
 try simp only[aput,List.set]
 refine q02 6 (v:= ?_) rfl (by kernel_rfl) (fun _ _ _ h=>h) rfl ?_ ‹_› ?_;rotate_left
 ·intro wq hwq;have PW:=G.cell (p:=⟨bx,ox,none⟩) (v:= .bool n) hwq (by first|assumption|(simp;done)|(simp;omega)|omega) (by assumption);have PX:=G.cell (p:=⟨bx,ox+1,none⟩) (v:=v) hwq (by first|assumption|(simp;done)|(simp;omega)|omega) (by assumption);have PY:=G.cell (p:=⟨b2,oy,none⟩) (v:= .bool n') hwq (by first|assumption|(simp;done)|(simp;omega)|omega) (by assumption);have PZ:=G.cell (p:=⟨b2,oy+1,none⟩) (v:=v') hwq (by first|assumption|(simp;done)|(simp;omega)|omega) (by assumption)
  first|(go_simp;done)|(go_simp;with_reducible rfl)
 try simp only[aput,List.set]
 refine q02 7 (v:= ?_) rfl (by kernel_rfl) (fun _ _ _ h=>h) rfl ?_ ‹_› ?_;rotate_left
 ·intro wq hwq;have Q4:=G.cell (p:=⟨bx,ox,none⟩) (v:= .bool n) hwq (by first|assumption|(simp;done)|(simp;omega)|omega) (by assumption);have Q5:=G.cell (p:=⟨bx,ox+1,none⟩) (v:=v) hwq (by first|assumption|(simp;done)|(simp;omega)|omega) (by assumption);have Q6:=G.cell (p:=⟨b2,oy,none⟩) (v:= .bool n') hwq (by first|assumption|(simp;done)|(simp;omega)|omega) (by assumption);have Q7:=G.cell (p:=⟨b2,oy+1,none⟩) (v:=v') hwq (by first|assumption|(simp;done)|(simp;omega)|omega) (by assumption)
  first|(go_simp;done)|(go_simp;with_reducible rfl)
 try simp only[aput,List.set]
 refine q02 8 (v:= ?_) rfl (by kernel_rfl) (fun _ _ _ h=>h) rfl ?_ ‹_› ?_;rotate_left
 ·intro wq hwq;have Q8:=G.cell (p:=⟨bx,ox,none⟩) (v:= .bool n) hwq (by first|assumption|(simp;done)|(simp;omega)|omega) (by assumption);have Q9:=G.cell (p:=⟨bx,ox+1,none⟩) (v:=v) hwq (by first|assumption|(simp;done)|(simp;omega)|omega) (by assumption);have Qa:=G.cell (p:=⟨b2,oy,none⟩) (v:= .bool n') hwq (by first|assumption|(simp;done)|(simp;omega)|omega) (by assumption);have Qb:=G.cell (p:=⟨b2,oy+1,none⟩) (v:=v') hwq (by first|assumption|(simp;done)|(simp;omega)|omega) (by assumption)
  first|(go_simp;done)|(go_simp;with_reducible rfl)
 try simp only[aput,List.set]
 refine q02 9 (v:= ?_) rfl (by kernel_rfl) (fun _ _ _ h=>h) rfl ?_ ‹_› ?_;rotate_left
 ·intro wq hwq;have Qc:=G.cell (p:=⟨bx,ox,none⟩) (v:= .bool n) hwq (by first|assumption|(simp;done)|(simp;omega)|omega) (by assumption);have Qd:=G.cell (p:=⟨bx,ox+1,none⟩) (v:=v) hwq (by first|assumption|(simp;done)|(simp;omega)|omega) (by assumption);have Qe:=G.cell (p:=⟨b2,oy,none⟩) (v:= .bool n') hwq (by first|assumption|(simp;done)|(simp;omega)|omega) (by assumption);have Qf:=G.cell (p:=⟨b2,oy+1,none⟩) (v:=v') hwq (by first|assumption|(simp;done)|(simp;omega)|omega) (by assumption)
  first|(go_simp;done)|(go_simp;with_reducible rfl)
 try simp only[aput,List.set]
 refine q02 10 (v:= ?_) rfl (by kernel_rfl) (fun _ _ _ h=>h) rfl ?_ ‹_› ?_;rotate_left
 ·intro wq hwq;have Qg:=G.cell (p:=⟨bx,ox,none⟩) (v:= .bool n) hwq (by first|assumption|(simp;done)|(simp;omega)|omega) (by assumption);have Qh:=G.cell (p:=⟨bx,ox+1,none⟩) (v:=v) hwq (by first|assumption|(simp;done)|(simp;omega)|omega) (by assumption);have Qi:=G.cell (p:=⟨b2,oy,none⟩) (v:= .bool n') hwq (by first|assumption|(simp;done)|(simp;omega)|omega) (by assumption);have Qj:=G.cell (p:=⟨b2,oy+1,none⟩) (v:=v') hwq (by first|assumption|(simp;done)|(simp;omega)|omega) (by assumption)
  first|(go_simp;done)|(go_simp;with_reducible rfl)
 try simp only[aput,List.set]
 refine q02 11 (v:= ?_) rfl (by kernel_rfl) (fun _ _ _ h=>h) rfl ?_ ‹_› ?_;rotate_left
 ·intro wq hwq;have Qk:=G.cell (p:=⟨bx,ox,none⟩) (v:= .bool n) hwq (by first|assumption|(simp;done)|(simp;omega)|omega) (by assumption);have Ql:=G.cell (p:=⟨bx,ox+1,none⟩) (v:=v) hwq (by first|assumption|(simp;done)|(simp;omega)|omega) (by assumption);have Qm:=G.cell (p:=⟨b2,oy,none⟩) (v:= .bool n') hwq (by first|assumption|(simp;done)|(simp;omega)|omega) (by assumption);have Qn:=G.cell (p:=⟨b2,oy+1,none⟩) (v:=v') hwq (by first|assumption|(simp;done)|(simp;omega)|omega) (by assumption)
  first|(go_simp;done)|(go_simp;with_reducible rfl)
 try simp only[aput,List.set]
 refine q02 12 (v:= ?_) rfl (by kernel_rfl) (fun _ _ _ h=>h) rfl ?_ ‹_› ?_;rotate_left
 ·intro wq hwq;have Qo:=G.cell (p:=⟨bx,ox,none⟩) (v:= .bool n) hwq (by first|assumption|(simp;done)|(simp;omega)|omega) (by assumption);have Qp:=G.cell (p:=⟨bx,ox+1,none⟩) (v:=v) hwq (by first|assumption|(simp;done)|(simp;omega)|omega) (by assumption);have Qq:=G.cell (p:=⟨b2,oy,none⟩) (v:= .bool n') hwq (by first|assumption|(simp;done)|(simp;omega)|omega) (by assumption);have Qr:=G.cell (p:=⟨b2,oy+1,none⟩) (v:=v') hwq (by first|assumption|(simp;done)|(simp;omega)|omega) (by assumption)
  first|(go_simp;done)|(go_simp;with_reducible rfl)
 try simp only[aput,List.set]
 refine q02 13 (v:= ?_) rfl (by kernel_rfl) (fun _ _ _ h=>h) rfl ?_ ‹_› ?_;rotate_left
 ·intro wq hwq;have Qs:=G.cell (p:=⟨bx,ox,none⟩) (v:= .bool n) hwq (by first|assumption|(simp;done)|(simp;omega)|omega) (by assumption);have Qt:=G.cell (p:=⟨bx,ox+1,none⟩) (v:=v) hwq (by first|assumption|(simp;done)|(simp;omega)|omega) (by assumption);have Qu:=G.cell (p:=⟨b2,oy,none⟩) (v:= .bool n') hwq (by first|assumption|(simp;done)|(simp;omega)|omega) (by assumption);have Qv:=G.cell (p:=⟨b2,oy+1,none⟩) (v:=v') hwq (by first|assumption|(simp;done)|(simp;omega)|omega) (by assumption)
  first|(go_simp;done)|(go_simp;with_reducible rfl)
 try simp only[aput,List.set]
 refine q02 14 (v:= ?_) rfl (by kernel_rfl) (fun _ _ _ h=>h) rfl ?_ ‹_› ?_;rotate_left
 ·intro wq hwq;have Qw:=G.cell (p:=⟨bx,ox,none⟩) (v:= .bool n) hwq (by first|assumption|(simp;done)|(simp;omega)|omega) (by assumption);have Qx:=G.cell (p:=⟨bx,ox+1,none⟩) (v:=v) hwq (by first|assumption|(simp;done)|(simp;omega)|omega) (by assumption);have Qy:=G.cell (p:=⟨b2,oy,none⟩) (v:= .bool n') hwq (by first|assumption|(simp;done)|(simp;omega)|omega) (by assumption);have Qz:=G.cell (p:=⟨b2,oy+1,none⟩) (v:=v') hwq (by first|assumption|(simp;done)|(simp;omega)|omega) (by assumption)
  first|(go_simp;done)|(go_simp;with_reducible rfl)
 try simp only[aput,List.set]
 refine q02 15 (v:= ?_) rfl (by kernel_rfl) (fun _ _ _ h=>h) rfl ?_ ‹_› ?_;rotate_left
 ·intro wq hwq;have QA:=G.cell (p:=⟨bx,ox,none⟩) (v:= .bool n) hwq (by first|assumption|(simp;done)|(simp;omega)|omega) (by assumption);have QC:=G.cell (p:=⟨bx,ox+1,none⟩) (v:=v) hwq (by first|assumption|(simp;done)|(simp;omega)|omega) (by assumption);have QD:=G.cell (p:=⟨b2,oy,none⟩) (v:= .bool n') hwq (by first|assumption|(simp;done)|(simp;omega)|omega) (by assumption);have zg:=G.cell (p:=⟨b2,oy+1,none⟩) (v:=v') hwq (by first|assumption|(simp;done)|(simp;omega)|omega) (by assumption)
  first|(go_simp;done)|(go_simp;with_reducible rfl)
 try simp only[aput,List.set]
 refine q02 16 (v:= ?_) rfl (by kernel_rfl) (fun _ _ _ h=>h) rfl ?_ ‹_› ?_;rotate_left
 ·intro wq hwq;have QE:=G.cell (p:=⟨bx,ox,none⟩) (v:= .bool n) hwq (by first|assumption|(simp;done)|(simp;omega)|omega) (by assumption);have QF:=G.cell (p:=⟨bx,ox+1,none⟩) (v:=v) hwq (by first|assumption|(simp;done)|(simp;omega)|omega) (by assumption);have QG:=G.cell (p:=⟨b2,oy,none⟩) (v:= .bool n') hwq (by first|assumption|(simp;done)|(simp;omega)|omega) (by assumption);have QH:=G.cell (p:=⟨b2,oy+1,none⟩) (v:=v') hwq (by first|assumption|(simp;done)|(simp;omega)|omega) (by assumption)
  first|(go_simp;done)|(go_simp;with_reducible rfl)
 try simp only[aput,List.set]
 refine q02 17 (v:= ?_) rfl (by kernel_rfl) (fun _ _ _ h=>h) rfl ?_ ‹_› ?_;rotate_left
 ·intro wq hwq;have QI:=G.cell (p:=⟨bx,ox,none⟩) (v:= .bool n) hwq (by first|assumption|(simp;done)|(simp;omega)|omega) (by assumption);have QJ:=G.cell (p:=⟨bx,ox+1,none⟩) (v:=v) hwq (by first|assumption|(simp;done)|(simp;omega)|omega) (by assumption);have QK:=G.cell (p:=⟨b2,oy,none⟩) (v:= .bool n') hwq (by first|assumption|(simp;done)|(simp;omega)|omega) (by assumption);have QL:=G.cell (p:=⟨b2,oy+1,none⟩) (v:=v') hwq (by first|assumption|(simp;done)|(simp;omega)|omega) (by assumption)
  first|(go_simp;done)|(go_simp;with_reducible rfl)
 try simp only[aput,List.set]
 refine q04 (i:=18) (by kernel_rfl) rfl ?_;intro K hK;go_simp;go_wp2_with (go_at_call 118;refine q00 (HW.out _ bn) ?_;rintro e w2 ⟨v1,rfl,hg2,hn2⟩);refine hK.out _ _ (Or.inr (G.trans bn hg2)) ?_;clear hK K;refine q04 (i:=19) (by kernel_rfl) rfl ?_;intro K hK;go_simp;go_wp2_with (go_at_call 117;refine q00 (q0T (w0:=w) hb (G.trans bn hg2) (q1g _ b o _ s0 _ _ (IntIs.G HZ.out hb (G.trans bn hg2)) hn2)) ?_;rintro e w3 ⟨rfl,hs3⟩);refine hK.out _ _ (Or.inl (by decide)) ?_;clear hK K;refine q04 (i:=20) (by kernel_rfl) rfl ?_;intro K hK;go_simp;refine hK.out _ _ (Or.inl (by decide)) ?_;clear hK K;refine q0m (by kernel_rfl) ?_ _;rw[HS.out] at hs3;go_wp2_with fail;go_ret;exact hs3
theorem q1L (w:World) (b o bx ox k:Nat) (s0 sx:Int) (K:Nat) (hK:K≤500000) (hk:k≤10000000) (hx2:sx.natAbs<2^(32*K)) (hb:b<w.heap.size) (hbx:bx<w.heap.size)
  (hz:IntIs w b o s0) (hx:IntIs w bx ox sx):
  Calls Tryz.prog 68 #[.pointer (some ⟨b,o,none⟩),.pointer (some ⟨bx,ox,none⟩),.int .u64 (k:Int)] w (SetTo w b o (sx*2^k)):=by
 obtain⟨n,v,a,⟨c1,c2,-,-⟩,hv,h1,-⟩:=hx;have ha:=q0R h1;have HW:Hid (∀ w1,G w w1→_):=fun w1 g=>q21 w1 v a k K hK hk (hv.G g) (by omega);have HZ:Hid _:=hz;have HS:Hid (sg n (a*2^k)=sx*2^k):=by
  rw[← h1];show sg n (a*2^k)=sg n a*2^k;unfold sg;cases n<;>simp [Int.neg_mul]
 clear hz hx2 hv h1 ha;go_enter Tryz.func68,Tryz.ntmps68;go_wp2_with fail;refine q0L 11 (G w) (by kernel_rfl) (by first|exact(G.refl _).drew|exact G.drew (by assumption)) ?_;intro bn;refine q02 0 (v:= ?_) rfl (by kernel_rfl) (fun _ _ _ h=>h) rfl ?_ ‹_› ?_;rotate_left
 ·intro wq hwq;have QM:=G.cell (p:=⟨bx,ox,none⟩) (v:= .bool n) hwq (by first|assumption|(simp;done)|(simp;omega)|omega) (by assumption);have QN:=G.cell (p:=⟨bx,ox+1,none⟩) (v:=v) hwq (by first|assumption|(simp;done)|(simp;omega)|omega) (by assumption)
  first|(go_simp;done)|(go_simp;with_reducible rfl)
 try simp only[aput,List.set]
 refine q02 1 (v:= ?_) rfl (by kernel_rfl) (fun _ _ _ h=>h) rfl ?_ ‹_› ?_;rotate_left
 ·intro wq hwq;have QO:=G.cell (p:=⟨bx,ox,none⟩) (v:= .bool n) hwq (by first|assumption|(simp;done)|(simp;omega)|omega) (by assumption);have QP:=G.cell (p:=⟨bx,ox+1,none⟩) (v:=v) hwq (by first|assumption|(simp;done)|(simp;omega)|omega) (by assumption)
  first|(go_simp;done)|(go_simp;with_reducible rfl)
 try simp only[aput,List.set]
 refine q02 2 (v:= ?_) rfl (by kernel_rfl) (fun _ _ _ h=>h) rfl ?_ ‹_› ?_;rotate_left
 ·intro wq hwq;have QS:=G.cell (p:=⟨bx,ox,none⟩) (v:= .bool n) hwq (by first|assumption|(simp;done)|(simp;omega)|omega) (by assumption);have QT:=G.cell (p:=⟨bx,ox+1,none⟩) (v:=v) hwq (by first|assumption|(simp;done)|(simp;omega)|omega) (by assumption)
  first|(go_simp;done)|(go_simp;with_reducible rfl)
 try simp only[aput,List.set]
 refine q02 3 (v:= ?_) rfl (by kernel_rfl) (fun _ _ _ h=>h) rfl ?_ ‹_› ?_;rotate_left
 ·intro wq hwq;have QU:=G.cell (p:=⟨bx,ox,none⟩) (v:= .bool n) hwq (by first|assumption|(simp;done)|(simp;omega)|omega) (by assumption);have uH:=G.cell (p:=⟨bx,ox+1,none⟩) (v:=v) hwq (by first|assumption|(simp;done)|(simp;omega)|omega) (by assumption)
  first|(go_simp;done)|(go_simp;with_reducible rfl)
 try simp only[aput,List.set]
 refine q02 4 (v:= ?_) rfl (by kernel_rfl) (fun _ _ _ h=>h) rfl ?_ ‹_› ?_;rotate_left
 ·intro wq hwq;have QV:=G.cell (p:=⟨bx,ox,none⟩) (v:= .bool n) hwq (by first|assumption|(simp;done)|(simp;omega)|omega) (by assumption);have QW:=G.cell (p:=⟨bx,ox+1,none⟩) (v:=v) hwq (by first|assumption|(simp;done)|(simp;omega)|omega) (by assumption)
  first|(go_simp;done)|(go_simp;with_reducible rfl)
 try simp only[aput,List.set]
 refine q02 5 (v:= ?_) rfl (by kernel_rfl) (fun _ _ _ h=>h) rfl ?_ ‹_› ?_;rotate_left
 ·intro wq hwq;have QX:=G.cell (p:=⟨bx,ox,none⟩) (v:= .bool n) hwq (by first|assumption|(simp;done)|(simp;omega)|omega) (by assumption);have QY:=G.cell (p:=⟨bx,ox+1,none⟩) (v:=v) hwq (by first|assumption|(simp;done)|(simp;omega)|omega) (by assumption)
  first|(go_simp;done)|(go_simp;with_reducible rfl)
 try simp only[aput,List.set]
 refine q02 6 (v:= ?_) rfl (by kernel_rfl) (fun _ _ _ h=>h) rfl ?_ ‹_› ?_;rotate_left
 ·intro wq hwq;have QZ:=G.cell (p:=⟨bx,ox,none⟩) (v:= .bool n) hwq (by first|assumption|(simp;done)|(simp;omega)|omega) (by assumption);have R3:=G.cell (p:=⟨bx,ox+1,none⟩) (v:=v) hwq (by first|assumption|(simp;done)|(simp;omega)|omega) (by assumption)
  first|(go_simp;done)|(go_simp;with_reducible rfl)
 try simp only[aput,List.set]
 refine q02 7 (v:= ?_) rfl (by kernel_rfl) (fun _ _ _ h=>h) rfl ?_ ‹_› ?_;rotate_left
 ·intro wq hwq;have R4:=G.cell (p:=⟨bx,ox,none⟩) (v:= .bool n) hwq (by first|assumption|(simp;done)|(simp;omega)|omega) (by assumption);have R5:=G.cell (p:=⟨bx,ox+1,none⟩) (v:=v) hwq (by first|assumption|(simp;done)|(simp;omega)|omega) (by assumption)
  first|(go_simp;done)|(go_simp;with_reducible rfl)
 try simp only[aput,List.set]
 refine q02 8 (v:= ?_) rfl (by kernel_rfl) (fun _ _ _ h=>h) rfl ?_ ‹_› ?_;rotate_left
 ·intro wq hwq;have R7:=G.cell (p:=⟨bx,ox,none⟩) (v:= .bool n) hwq (by first|assumption|(simp;done)|(simp;omega)|omega) (by assumption);have R8:=G.cell (p:=⟨bx,ox+1,none⟩) (v:=v) hwq (by first|assumption|(simp;done)|(simp;omega)|omega) (by assumption)
  first|(go_simp;done)|(go_simp;with_reducible rfl)
 try simp only[aput,List.set]
 refine q02 9 (v:= ?_) rfl (by kernel_rfl) (fun _ _ _ h=>h) rfl ?_ ‹_› ?_;rotate_left
 ·intro wq hwq;have R9:=G.cell (p:=⟨bx,ox,none⟩) (v:= .bool n) hwq (by first|assumption|(simp;done)|(simp;omega)|omega) (by assumption);have Ra:=G.cell (p:=⟨bx,ox+1,none⟩) (v:=v) hwq (by first|assumption|(simp;done)|(simp;omega)|omega) (by assumption)
  first|(go_simp;done)|(go_simp;with_reducible rfl)
 try simp only[aput,List.set]
 refine q04 (i:=10) (by kernel_rfl) rfl ?_;intro K hK;go_simp;go_wp2_with (go_at_call 143;refine q00 (HW.out _ bn) ?_;rintro e w2 ⟨v1,rfl,hg2,hn2⟩);refine hK.out _ _ (Or.inr (G.trans bn hg2)) ?_;clear hK K;refine q04 (i:=11) (by kernel_rfl) rfl ?_;intro K hK;go_simp;go_wp2_with (go_at_call 117;refine q00 (q0T (w0:=w) hb (G.trans bn hg2) (q1g _ b o _ s0 _ _ (IntIs.G HZ.out hb (G.trans bn hg2)) hn2)) ?_;rintro e w3 ⟨rfl,hs3⟩);refine hK.out _ _ (Or.inl (by decide)) ?_;clear hK K;refine q04 (i:=12) (by kernel_rfl) rfl ?_;intro K hK;go_simp;refine hK.out _ _ (Or.inl (by decide)) ?_;clear hK K;refine q0m (by kernel_rfl) ?_ _;rw[HS.out] at hs3;go_wp2_with fail;go_ret;exact hs3
theorem qcd (w:World) (b o bx ox:Nat) (s0 sx:Int) (K:Nat) (hK:K≤1000000) (hx2:sx.natAbs<2^(32*K)) (hb:b<w.heap.size)
  (hz:IntIs w b o s0) (hx:IntIs w bx ox sx):
  Calls Tryz.prog 139 #[.pointer (some ⟨b,o,none⟩),.pointer (some ⟨bx,ox,none⟩)] w (SetTo w b o sx.natAbs):=by
 obtain⟨n,v,a,⟨c1,c2,-,-⟩,hv,h1,-⟩:=hx;have ha:=q0R h1;rw[← ha] at hx2 ⊢;have HW:Hid (∀ w1,G w w1→_):=fun w1 g=>q67 w1 v a K hK (hv.G g) hx2;have HZ:Hid _:=hz;have HS:Hid (sg false a=a):=rfl;clear hz hx2 hv h1 ha;go_enter Tryz.func139,Tryz.ntmps139;go_wp2_with fail;refine q00 (HW.out _ (by repeat' (first|exact G.refl _|assumption|refine G.alloc ?_ _|refine G.drew ?_ |refine G.drewN ?_ _|(refine G.trans ?_ (by assumption))))) ?_;rintro e w2 ⟨v1,rfl,hg2,hn2⟩;have hG:=G.trans (a:=w) (by repeat' (first|exact G.refl _|assumption|refine G.alloc ?_ _|refine G.drew ?_ |refine G.drewN ?_ _|(refine G.trans ?_ (by assumption)))) hg2;go_wp2_with fail;refine q00 (q0T (w0:=w) hb hG (q1g _ b o _ s0 _ _ (IntIs.G HZ.out hb hG) hn2)) ?_;rintro e w3 ⟨rfl,hs3⟩;rw[HS.out] at hs3;go_wp2_with fail;go_ret;exact hs3
theorem q8k (w:World) (b o:Nat) (x:Int) (s0:Int) (hx: -9223372036854775808≤x∧x≤9223372036854775807) (hb:b<w.heap.size) (hz:IntIs w b o s0):
  Calls Tryz.prog 145 #[.pointer (some ⟨b,o,none⟩),.int .i64 x] w (SetTo w b o x):=by
 obtain⟨hx1,hx2⟩:=hx;have HW:Hid _:=q2T w x.natAbs (by omega);have HZ:Hid _:=hz;clear hz;by_cases hneg:x<0
 ·have hn0:decide (x<0)=true:=by simpa using hneg
  have hw1:IntKind.u64.wrap x=x+18446744073709551616:=by rw[IntKind.wrap_u64];omega
  have hw2:IntKind.u64.wrap (-(x+18446744073709551616))=(x.natAbs:Int):=by rw[IntKind.wrap_u64];omega
  have HS:Hid (sg true x.natAbs=x):=by show sg true x.natAbs=x;unfold sg;simp;omega
  generalize x.natAbs=a at *;clear hneg;go_enter Tryz.func145,Tryz.ntmps145;go_wp2_with fail;refine q00 HW.out ?_;rintro e w2 ⟨v1,rfl,hg2,hn2⟩;go_wp2_with fail;refine q00 (q0T (w0:=w) hb hg2 (q1g _ b o _ s0 _ _ (IntIs.G HZ.out hb hg2) hn2)) ?_;rintro e w3 ⟨rfl,hs3⟩;rw[HS.out] at hs3;go_wp2_with fail;go_ret;exact hs3
 ·have hn0:decide (x<0)=false:=by simpa using hneg
  have hw1:IntKind.u64.wrap x=(x.natAbs:Int):=by rw[IntKind.wrap_u64];omega
  have HS:Hid (sg false x.natAbs=x):=by show sg false x.natAbs=x;unfold sg;simp;omega
  generalize x.natAbs=a at *;clear hneg;go_enter Tryz.func145,Tryz.ntmps145;go_wp2_with fail;refine q00 HW.out ?_;rintro e w2 ⟨v1,rfl,hg2,hn2⟩;go_wp2_with fail;refine q00 (q0T (w0:=w) hb hg2 (q1g _ b o _ s0 _ _ (IntIs.G HZ.out hb hg2) hn2)) ?_;rintro e w3 ⟨rfl,hs3⟩;rw[HS.out] at hs3;go_wp2_with fail;go_ret;exact hs3
theorem q4k (w:World) (t:TypeId):IntIs (w.alloc (.cells #[.bool false,.slice none 0 0] t)) w.heap.size 0 0:=by
 refine⟨false,.slice none 0 0,0,⟨?_,?_,World.frozen?_alloc_at _ _ _ _ rfl,World.frozen?_alloc_at _ _ _ _ rfl⟩,num_nil _ _ _,rfl,fun h=>by cases h⟩
 ·rw[World.cell?_alloc_at _ _ _ _ rfl];rfl
 ·rw[World.cell?_alloc_at _ _ _ _ rfl];rfl
/-- A call hands back a new Int that holds s; nothing that was there has turned. -/
def RetI (w:World) (s:Int) (e:Ending) (w':World):Prop:=∃ p,e= .returned (.pointer (some ⟨p,0,none⟩))∧G w w'∧w.heap.size≤p∧p<w'.heap.size∧IntIs w' p 0 s
/-- What a method leaves behind that sets a new Int. -/
theorem SetTo.ret {w0 w:World} {b:Nat} {s:Int} {e:Ending} {w':World} (g:G w0 w) (hb:w0.heap.size≤b) (hs:b<w.heap.size) (h:SetTo w b 0 s e w'):RetI w0 s e w':=by
 obtain⟨rfl,h2,-,h4⟩:=h;exact⟨b,rfl,GX.fresh g h2 hb,hb,Nat.lt_of_lt_of_le hs h2.size,h4⟩
theorem q1q (w:World) (x:Int) (hx: -9223372036854775808≤x∧x≤9223372036854775807):Calls Tryz.prog 73 #[.int .i64 x] w (RetI w x):=by
 have HS:Hid (∀ w1 b,b<w1.heap.size→IntIs w1 b 0 0→_):=fun w1 b h1 h2=>q8k w1 b 0 x 0 hx h1 h2;clear hx;go_enter Tryz.func73,Tryz.ntmps73;go_wp2_with fail;refine q00 (HS.out _ w.heap.size (by simp) (q4k w _)) ?_;intro e w1 h;have h2:=SetTo.ret ((G.refl w).alloc _) (Nat.le_refl _) (by simp) h;obtain⟨p,rfl,h3⟩:=h2;go_wp2_with fail;go_ret;exact⟨p,rfl,h3⟩
end Go.Proofs.YtbfjihniphldaaaGreatDoor
