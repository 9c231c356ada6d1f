/- What is proved here: contracts of the reference's big numbers: Sign, BitLen, Cmp, Bit, QuoRem, Rsh of Int, over this seat's translation.
What is proved here: how two whole numbers compare (no program), over this seat's translation.
What is proved here: contracts of the reference's big numbers: QuoRem, Rsh, Uint64 of Int, what a writing method leaves standing, over this seat's translation.
What is proved here: contracts of the reference's big numbers: TrailingZeroBits of Int, new Ints step by step, over this seat's translation.
What is proved here: the reference's nearest number, its arithmetic (no program).
What is proved here: contracts of the reference's big numbers: Neg of Int, the smallest methods of Rat, over this seat's translation. -/
import Derived.Test.YtbfjihniphldaaaGreatDoorC24
import Derived.Test.YtbfjihniphldaaaGreatDoorC26
import Derived.Test.YtbfjihniphldaaaGreatDoorC14
namespace Go.Proofs.YtbfjihniphldaaaGreatDoor
open Go.ChangeShapes Go.WideShapes Go.ChangeAt Go.RowKit
open BN
theorem q7a (w:World) (b o:Nat) (s:Int) (hz:IntIs w b o s):
  Calls Tryz.prog 67 #[.pointer (some ⟨b,o,none⟩)] w fun e w'=>e= .returned (.int .i64 s.sign)∧G w w':=by
 obtain⟨n,v,a,⟨c1,c2,-,-⟩,⟨l,hl,hc,hv⟩,h1,h2⟩:=hz;obtain⟨p,c,rfl,-,-⟩:=q0n hl;have h0:a=0↔l.length=0:=by rw[← hv,q0V hc,List.length_eq_zero_iff]
 generalize l.length=j at *;have hss:s.sign=if j=0 then 0 else if n then -1 else 1:=by
  rw[← h1];unfold sg;by_cases hj:j=0
  ·rw[if_pos hj,h0.2 hj];simp
  ·rw[if_neg hj];have ha:a≠0:=fun h=>hj (h0.1 h);cases n
   ·simp;omega
   ·simp;omega
 rw[hss];clear hss hl hc hv h1 h2 h0;by_cases hj:j=0
 ·subst hj;go_enter Tryz.func67,Tryz.ntmps67;go_wp2_with fail;go_ret;exact⟨rfl,G.refl _⟩
 ·rw[if_neg hj];have t0:((j:Int)==0)=false:=by simp;omega
  cases n
  all_goals
   go_enter Tryz.func67,Tryz.ntmps67;go_wp2_with fail;go_ret;exact⟨rfl,G.refl _⟩
theorem q2G (w:World) (b o:Nat) (s:Int) (K:Nat) (hK:K≤1000000) (hs:s.natAbs<2^(32*K)) (hz:IntIs w b o s):
  Calls Tryz.prog 199 #[.pointer (some ⟨b,o,none⟩)] w fun e w'=>e= .returned (.int .i64 (blen s.natAbs))∧G w w':=by
 obtain⟨n,v,a,⟨c1,c2,-,-⟩,hv,h1,h2⟩:=hz;have ha:=q0R h1;rw[← ha] at hs ⊢;have HW:Hid _:=q45 w v a K hK hv hs;clear ha h1 h2 hv hs;go_enter Tryz.func199,Tryz.ntmps199;go_wp2_with fail;refine Calls.mono (P:=Tryz.prog) HW.out ?_;rintro e w2 ⟨rfl,hg2⟩;go_wp2_with fail;go_ret;exact⟨rfl,hg2⟩
theorem G.lt {w w':World} {b:Nat} (g:G w w') (h:b<w.heap.size):b<w'.heap.size:=Nat.lt_of_lt_of_le h g.size
def cmpI (x y:Int):Int:=if x<y then -1 else if x=y then 0 else 1
theorem q9d {n:Bool} {a b:Nat}:cmpI (sg n a) (sg n b)=if n then -(cmpV a b) else cmpV a b:=by
 unfold cmpI cmpV sg;cases n
 ·simp only[Bool.false_eq_true,if_false];by_cases h1:a<b
  ·rw[if_pos (by omega),if_pos h1]
  ·rw[if_neg (by omega),if_neg h1];by_cases h2:a=b
   ·rw[if_pos (by omega),if_pos h2]
   ·rw[if_neg (by omega),if_neg h2]
 ·simp only[if_true];by_cases h1:a<b
  ·rw[if_neg (by omega),if_neg (by omega),if_pos h1];rfl
  ·rw[if_neg h1];by_cases h2:a=b
   ·rw[if_neg (by omega),if_pos (by omega),if_pos h2];rfl
   ·rw[if_pos (by omega),if_neg h2]
theorem q4L (w:World) (bx ox b2 oy:Nat) (sx sy:Int) (K:Nat) (hK:K≤1000000) (hx2:sx.natAbs<2^(32*K)) (hy2:sy.natAbs<2^(32*K)) (hbx:bx<w.heap.size) (hby:b2<w.heap.size)
  (hx:IntIs w bx ox sx) (hy:IntIs w b2 oy sy):
  Calls Tryz.prog 142 #[.pointer (some ⟨bx,ox,none⟩),.pointer (some ⟨b2,oy,none⟩)] w fun e w'=>e= .returned (.int .i64 (cmpI sx sy))∧G w w':=by
 obtain⟨n,v,a,⟨c1,c2,-,-⟩,hv,h1,h3⟩:=hx;obtain⟨n',v',a',⟨c3,c4,-,-⟩,hv',h2,h4⟩:=hy;have ha:=q0R h1;have ha':=q0R h2;have HW:Hid (∀ w1,G w w1→_):=fun w1 g=>q2H w1 v v' a a' K (by omega) (hv.G g) (hv'.G g) (by omega) (by omega);by_cases hn:n=n'
 ·subst hn;have HS:Hid (cmpI sx sy=if n then -(cmpV a a') else cmpV a a'):=by show cmpI sx sy=_;rw[← h1,← h2];exact q9d
  have hb1: -1≤cmpV a a':=by unfold cmpV;split<;>(try split)<;>omega
  have hb2:cmpV a a'≤1:=by unfold cmpV;split<;>(try split)<;>omega
  have t0:(n==n)=true:=by simp
  generalize cmpV a a'=cv at *;rw[HS.out];clear hx2 hy2 hv hv' h1 h2 ha ha' h3 h4 HS;cases n
  all_goals
   go_enter Tryz.func142,Tryz.ntmps142;go_wp2_with fail;refine q0f (by kernel_rfl) (by kernel_rfl) ?_;intro W hW;have rP:=q08 (w:=W) (a:=⟨bx,ox,none⟩) (x:= .bool _) (by rw[hW];first|(simp;done)|(simp;omega)|omega) (by rw[hW];first|assumption|(simp [go_sem];done)|(simp [*,go_sem];done));have rQ:=q08 (w:=W) (a:=⟨b2,oy,none⟩) (x:= .bool _) (by rw[hW];first|(simp;done)|(simp;omega)|omega) (by rw[hW];first|assumption|(simp [go_sem];done)|(simp [*,go_sem];done));clear hW
   repeat (go_big_quiet_step (fail))
   refine wpQuiet_nil ?_;clear rP rQ;intro w1 hw1;have hg1:=hw1;have d1:=hw1.cell (p:=⟨bx,ox,none⟩) hbx c1;have d2:=hw1.cell (p:=⟨bx,ox+1,none⟩) hbx c2;have d3:=hw1.cell (p:=⟨b2,oy+1,none⟩) hby c4;go_wp2_with fail;clear c1 c2 c3 c4 hw1;have CX:bx<w1.heap.size:=G.lt hg1 hbx;have Jk:b2<w1.heap.size:=G.lt hg1 hby;have HW1:Hid (∀ w2,G w1 w2→_):=fun w2 g=>HW.out w2 (G.trans hg1 g);refine q0L 9 (G w1) (by kernel_rfl) (by first|exact(G.refl _).drew|exact G.drew (by assumption)) ?_;intro bn;refine q02 0 (v:= ?_) rfl (by kernel_rfl) (fun _ _ _ h=>h) rfl ?_ ‹_› ?_;rotate_left
   ·intro wq hwq;have hq1:=G.cell (p:=⟨bx,ox+1,none⟩) (v:=v) hwq (by first|assumption|(simp;done)|(simp;omega)|omega) (by assumption);have hq2:=G.cell (p:=⟨b2,oy+1,none⟩) (v:=v') hwq (by first|assumption|(simp;done)|(simp;omega)|omega) (by assumption)
    first|(go_simp;done)|(go_simp;with_reducible rfl)
   try simp only[aput,List.set]
   refine q02 1 (v:= ?_) rfl (by kernel_rfl) (fun _ _ _ h=>h) rfl ?_ ‹_› ?_;rotate_left
   ·intro wq hwq;have hq3:=G.cell (p:=⟨bx,ox+1,none⟩) (v:=v) hwq (by first|assumption|(simp;done)|(simp;omega)|omega) (by assumption);have hq4:=G.cell (p:=⟨b2,oy+1,none⟩) (v:=v') hwq (by first|assumption|(simp;done)|(simp;omega)|omega) (by assumption)
    first|(go_simp;done)|(go_simp;with_reducible rfl)
   try simp only[aput,List.set]
   refine q02 2 (v:= ?_) rfl (by kernel_rfl) (fun _ _ _ h=>h) rfl ?_ ‹_› ?_;rotate_left
   ·intro wq hwq;have pQ:=G.cell (p:=⟨bx,ox+1,none⟩) (v:=v) hwq (by first|assumption|(simp;done)|(simp;omega)|omega) (by assumption);have qp:=G.cell (p:=⟨b2,oy+1,none⟩) (v:=v') hwq (by first|assumption|(simp;done)|(simp;omega)|omega) (by assumption)
    first|(go_simp;done)|(go_simp;with_reducible rfl)
   try simp only[aput,List.set]
   refine q02 3 (v:= ?_) rfl (by kernel_rfl) (fun _ _ _ h=>h) rfl ?_ ‹_› ?_;rotate_left
   ·intro wq hwq;have qw:=G.cell (p:=⟨bx,ox+1,none⟩) (v:=v) hwq (by first|assumption|(simp;done)|(simp;omega)|omega) (by assumption);have hq8:=G.cell (p:=⟨b2,oy+1,none⟩) (v:=v') hwq (by first|assumption|(simp;done)|(simp;omega)|omega) (by assumption)
    first|(go_simp;done)|(go_simp;with_reducible rfl)
   try simp only[aput,List.set]
   refine q02 4 (v:= ?_) rfl (by kernel_rfl) (fun _ _ _ h=>h) rfl ?_ ‹_› ?_;rotate_left
   ·intro wq hwq;have wy:=G.cell (p:=⟨bx,ox+1,none⟩) (v:=v) hwq (by first|assumption|(simp;done)|(simp;omega)|omega) (by assumption);have mE:=G.cell (p:=⟨b2,oy+1,none⟩) (v:=v') hwq (by first|assumption|(simp;done)|(simp;omega)|omega) (by assumption)
    first|(go_simp;done)|(go_simp;with_reducible rfl)
   try simp only[aput,List.set]
   refine q02 5 (v:= ?_) rfl (by kernel_rfl) (fun _ _ _ h=>h) rfl ?_ ‹_› ?_;rotate_left
   ·intro wq hwq;have hq11:=G.cell (p:=⟨bx,ox+1,none⟩) (v:=v) hwq (by first|assumption|(simp;done)|(simp;omega)|omega) (by assumption);have hq12:=G.cell (p:=⟨b2,oy+1,none⟩) (v:=v') hwq (by first|assumption|(simp;done)|(simp;omega)|omega) (by assumption)
    first|(go_simp;done)|(go_simp;with_reducible rfl)
   try simp only[aput,List.set]
   refine q02 6 (v:= ?_) rfl (by kernel_rfl) (fun _ _ _ h=>h) rfl ?_ ‹_› ?_;rotate_left
   ·intro wq hwq;have yz:=G.cell (p:=⟨bx,ox+1,none⟩) (v:=v) hwq (by first|assumption|(simp;done)|(simp;omega)|omega) (by assumption);have yA:=G.cell (p:=⟨b2,oy+1,none⟩) (v:=v') hwq (by first|assumption|(simp;done)|(simp;omega)|omega) (by assumption)
    first|(go_simp;done)|(go_simp;with_reducible rfl)
   try simp only[aput,List.set]
   refine q02 7 (v:= ?_) rfl (by kernel_rfl) (fun _ _ _ h=>h) rfl ?_ ‹_› ?_;rotate_left
   ·intro wq hwq;have yB:=G.cell (p:=⟨bx,ox+1,none⟩) (v:=v) hwq (by first|assumption|(simp;done)|(simp;omega)|omega) (by assumption);have yC:=G.cell (p:=⟨b2,oy+1,none⟩) (v:=v') hwq (by first|assumption|(simp;done)|(simp;omega)|omega) (by assumption)
    first|(go_simp;done)|(go_simp;with_reducible rfl)
   try simp only[aput,List.set]
   refine q04 (i:=8) (by kernel_rfl) rfl ?_;intro K hK;go_simp;go_wp2_with (go_at_call 184;refine Calls.mono (P:=Tryz.prog) (HW1.out _ bn) ?_;rintro e w2 ⟨rfl,hg2⟩);refine hK.out _ _ (Or.inr (G.trans bn hg2)) ?_;clear hK K;refine q04 (i:=9) (by kernel_rfl) rfl ?_;intro K hK;go_simp;refine hK.out _ _ (Or.inl (by decide)) ?_;clear hK K;refine q0m (by kernel_rfl) ?_ _;have e1:=(G.trans bn hg2).cell CX d1;go_wp2_with fail;go_ret;exact⟨rfl,G.trans hg1 (G.trans bn hg2)⟩
 ·have t0:(n==n')=false:=by simp [hn]
  obtain rfl:n'= !n:=by cases n<;>cases n'<;>simp_all
  have HS:Hid (cmpI sx sy=if n then -1 else 1):=by
   show cmpI sx sy=_;rw[← h1,← h2];unfold cmpI sg;cases n
   ·have:=h4 rfl;simp only[Bool.false_eq_true,if_false,Bool.not_false,if_true];rw[if_neg (by omega),if_neg (by omega)]
   ·have:=h3 rfl;simp only[Bool.not_true,Bool.false_eq_true,if_false,if_true];rw[if_pos (by omega)]
  rw[HS.out];clear hx2 hy2 hv hv' h1 h2 ha ha' h3 h4 HS HW;cases n
  all_goals
   go_enter Tryz.func142,Tryz.ntmps142;go_wp2_with fail;refine q0f (by kernel_rfl) (by kernel_rfl) ?_;intro W hW;have yD:=q08 (w:=W) (a:=⟨bx,ox,none⟩) (x:= .bool _) (by rw[hW];first|(simp;done)|(simp;omega)|omega) (by rw[hW];first|assumption|(simp [go_sem];done)|(simp [*,go_sem];done));have yE:=q08 (w:=W) (a:=⟨b2,oy,none⟩) (x:= .bool _) (by rw[hW];first|(simp;done)|(simp;omega)|omega) (by rw[hW];first|assumption|(simp [go_sem];done)|(simp [*,go_sem];done));clear hW
   repeat (go_big_quiet_step (fail))
   refine wpQuiet_nil ?_;clear yD yE;intro w1 hw1;have d1:=hw1.cell (p:=⟨bx,ox,none⟩) hbx c1;go_wp2_with fail;go_ret;exact⟨rfl,hw1⟩
theorem qbE (w:World) (va:Value) (a i K:Nat) (hK:K≤1000000) (hi:i≤40000000) (ha:Num w va a) (ha2:a<2^(32*K)):
  Calls Tryz.prog 230 #[va,.int .i64 (i:Int)] w fun e w'=>e= .returned (.int .u64 ((a/2^i%2:Nat):Int))∧G w w':=by
 obtain⟨l,hl,hcl,rfl⟩:=ha;have hll:=q06 hcl ha2;have aN:=hl.1;obtain⟨pa,ca,rfl,dL,hra⟩:=q0n hl;have hd1:(i:Int)/32=((i/32:Nat):Int):=by omega
 have hd2:(i:Int)%32=((i%32:Nat):Int):=by omega
 have hii:i=32*(i/32)+i%32:=by omega
 have hvd:=q1m aN (i/32);have hr:val l/2^i%2=l.getD (i/32) 0/2^(i%32)%2:=by
  have e:val l/2^i=val (l.drop (i/32))/2^(i%32):=by
   rw[hvd,Nat.div_div_eq_div_mul,← Nat.pow_add,← hii]
  rw[e];by_cases h:i/32<l.length
  ·rw[q0h h];show (l.getD (i/32) 0+2^32*val (l.drop (i/32+1)))/2^(i%32)%2=_;have h2:2^32*val (l.drop (i/32+1))=2^(i%32)*(2*(2^(31-i%32)*val (l.drop (i/32+1)))):=by
    rw[← Nat.mul_assoc 2,← Nat.pow_succ',← Nat.mul_assoc,← Nat.pow_add,show i%32+(31-i%32+1)=32 from by omega]
   rw[h2,Nat.add_mul_div_left _ _ (Nat.two_pow_pos _),Nat.add_mul_mod_self_left]
  ·rw[List.drop_eq_nil_of_le (by omega),List.getD_eq_getElem?_getD,List.getElem?_eq_none (by omega)];simp [val]
 rw[hr];have hs:((i%32:Nat):Int)≤31:=by omega
 have hib:(i:Int)≤40000000:=by omega
 have P6:IntKind.u64.wrap (i:Int)=i:=by rw[IntKind.wrap_u64];omega
 have hx:=q05 aN (i/32);generalize hq:i/32=q at *;generalize hsn:i%32=s at *;have hand:=fun x (h:x<2^32)=>and_one x h;by_cases hqj:q<l.length
 ·obtain⟨b1,o1,rfl,hB1,hc1⟩:=hra q hqj;have h3:l.getD q 0/2^s<2^32:=Nat.lt_of_le_of_lt (Nat.div_le_self _ _) hx;have h4:=and_one _ h3;have hxi:((l.getD q 0:Nat):Int)≤4294967295:=by omega
  generalize hj:l.length=j at *;generalize l.getD q 0=x at *;have h5:(x:Int)/2^s=((x/2^s:Nat):Int):=by push_cast;rfl
  have h6:((x/2^s:Nat):Int)≤4294967295:=by omega
  generalize x/2^s=y at *;have h7:((y%2:Nat):Int)≤1:=by omega
  have h8:bits .and .u64 (y:Int) 1=((y%2:Nat):Int):=by
   have:=u64_and_nat y 1 (by omega) (by omega);rw[Nat.and_one_is_mod] at this;exact this
  generalize y%2=z at *;have t0:decide (j≤q)=false:=by simp;omega
  have t1:decide ((i:Int)<0)=false:=by simp
  have hjb:(j:Int)≤1000000:=by omega
  have uj:(q:Int)≤1250000:=by omega
  have PQ:(q:Int)<j:=by omega
  clear hr hvd hii hx h3 hcl hl aN hll ha2 hra hand hq hsn hj;go_enter Tryz.func230,Tryz.ntmps230;go_wp2_with fail;go_ret;exact⟨rfl,G.refl _⟩
 ·have hz:l.getD q 0=0:=by rw[List.getD_eq_getElem?_getD,List.getElem?_eq_none (by omega)];rfl
  rw[hz];generalize hj:l.length=j at *;have t0:decide (j≤q)=true:=by simp;omega
  have t1:decide ((i:Int)<0)=false:=by simp
  clear hr hvd hii hx hcl hl aN hll ha2 hra hand hq hsn hj hz hqj;go_enter Tryz.func230,Tryz.ntmps230;go_wp2_with fail;go_ret;exact⟨by simp,G.refl _⟩
theorem qc9 (w:World) (b o i:Nat) (s:Int) (K:Nat) (hK:K≤1000000) (hi:i≤40000000) (hs:s.natAbs<2^(32*K)) (h0:0≤s) (hz:IntIs w b o s):
  Calls Tryz.prog 200 #[.pointer (some ⟨b,o,none⟩),.int .i64 (i:Int)] w fun e w'=>e= .returned (.int .u64 ((s.natAbs/2^i%2:Nat):Int))∧G w w':=by
 obtain⟨n,v,a,⟨c1,c2,-,-⟩,hv,h1,h2⟩:=hz;have ha:=q0R h1;have hn:n=false:=by
  cases n
  ·rfl
  ·have:=h2 rfl;unfold sg at h1;simp at h1;omega
 subst hn;rw[← ha] at hs ⊢;have HW:Hid _:=qbE w v a i K hK hi hv hs;have t1:decide ((i:Int)<0)=false:=by simp
 generalize a/2^i%2=z at *;clear ha h1 h2 hv hs hi;go_enter Tryz.func200,Tryz.ntmps200;go_wp2_with fail;refine Calls.mono (P:=Tryz.prog) HW.out ?_;rintro e w2 ⟨rfl,hg2⟩;go_wp2_with fail;go_ret;exact⟨rfl,hg2⟩
end Go.Proofs.YtbfjihniphldaaaGreatDoor
namespace Go.Proofs.YtbfjihniphldaaaGreatDoor
theorem q5q {a b:Int}:cmpI a b=(a-b).sign:=by
 unfold cmpI;split
 ·rw[Int.sign_eq_neg_one_of_neg (by omega)]
 ·split
  ·rw[show a-b=0 from by omega];rfl
  ·rw[Int.sign_eq_one_of_pos (by omega)]
theorem q96 {a b:Int} {k:Nat} (hk:0<k):cmpI (a*(k:Int)) (b*(k:Int))=cmpI a b:=by
 rw[q5q,q5q,← Int.sub_mul,Int.sign_mul,Int.sign_eq_one_of_pos (show (0:Int)<k by omega),Int.mul_one]
end Go.Proofs.YtbfjihniphldaaaGreatDoor
namespace Go.Proofs.YtbfjihniphldaaaGreatDoor
open Go.ChangeShapes Go.WideShapes Go.ChangeAt Go.RowKit
open BN
/-- What a writing method leaves of a cell that it doesn't write. -/
theorem SetTo.cell {w w':World} {b o:Nat} {s:Int} {e:Ending} (h:SetTo w b o s e w') {p:Addr} {v:Value} (hp:p.block<w.heap.size) (hs:p.spot=none) (hv:w.cell? p=some v) (hne:p.block≠b∨(p.off≠o∧p.off≠o+1)):w'.cell? p=some v:=by
 obtain⟨-,h1,h2,-⟩:=h;by_cases hb:p.block=b
 ·obtain⟨pb,po,ps⟩:=p;simp only at hb hs hne;subst hb hs;have Nf:po≠o∧po≠o+1:=by rcases hne with hne|hne;exact absurd rfl hne;exact hne
  rw[h2.1 po Nf.1 Nf.2];exact hv
 ·rw[← hv];exact World.cell?_of_block (h1.block p.block hp (fun e=>hb (Option.some.inj e)))
theorem SetTo.frozen {w w':World} {b o:Nat} {s:Int} {e:Ending} (h:SetTo w b o s e w') {p:Addr} {v:Bool} (hp:p.block<w.heap.size) (hs:p.spot=none) (hv:w.frozen? p=v):w'.frozen? p=v:=by
 obtain⟨-,h1,h2,-⟩:=h;by_cases hb:p.block=b
 ·obtain⟨pb,po,ps⟩:=p;simp only at hb hs;subst hb hs;rw[h2.2 po];exact hv
 ·rw[← hv];exact World.frozen?_of_block (h1.block p.block hp (fun e=>hb (Option.some.inj e)))
theorem SetTo.size {w w':World} {b o:Nat} {s:Int} {e:Ending} (h:SetTo w b o s e w'):w.heap.size≤w'.heap.size:=h.2.1.size
theorem SetTo.is {w w':World} {b o:Nat} {s:Int} {e:Ending} (h:SetTo w b o s e w'):IntIs w' b o s:=h.2.2.2
theorem SetTo.num {w w':World} {b o:Nat} {s0 s:Int} {e:Ending} (hz:IntIs w b o s0) (h:SetTo w b o s e w') {v:Value} {n:Nat} (hn:Num w v n):Num w' v n:=by
 obtain⟨n0,v0,a0,⟨c1,c2,-,-⟩,hv0,-,-⟩:=hz;obtain⟨l,⟨h1,h2⟩,h3⟩:=hn;refine⟨l,⟨h1,?_⟩,h3⟩;rcases h2 with h2|⟨b1,o1,c,e1,hc,hb,hr⟩
 ·exact Or.inl h2
 ·refine Or.inr ⟨b1,o1,c,e1,hc,Nat.lt_of_lt_of_le hb h.size,fun i hi=> ?_⟩;have hci:=hr i hi;refine h.cell (p:=⟨b1,o1+i,none⟩) hb rfl hci ?_;by_cases hbb:b1=b
  ·refine Or.inr ⟨fun e2=> ?_,fun e2=> ?_⟩
   ·simp only at e2;subst hbb;rw[e2,c1] at hci;cases hci
   ·simp only at e2;subst hbb;rw[e2,c2] at hci;exact q1A hv0 _ _ (Option.some.inj hci)
  ·exact Or.inl hbb
/-- Another Int stands still. -/
theorem SetTo.keep {w w':World} {b o b2 o2:Nat} {s0 s s2:Int} {e:Ending} (hz:IntIs w b o s0) (h:SetTo w b o s e w') (hx:IntIs w b2 o2 s2) (hb2:b2<w.heap.size) (hne:b2≠b∨o2+2≤o∨o+2≤o2):IntIs w' b2 o2 s2:=by
 obtain⟨n,v,a,⟨c1,c2,f1,f2⟩,hv,h1,h2⟩:=hx;refine⟨n,v,a,⟨h.cell hb2 rfl c1 ?_,h.cell hb2 rfl c2 ?_,h.frozen hb2 rfl f1,h.frozen hb2 rfl f2⟩,h.num hz hv,h1,h2⟩
 ·rcases hne with h|h
  ·exact Or.inl h
  ·exact Or.inr ⟨by simp only;omega,by simp only;omega⟩
 ·rcases hne with h|h
  ·exact Or.inl h
  ·exact Or.inr ⟨by simp only;omega,by simp only;omega⟩
/-- Behind it, nothing of an elder world has turned, where the block is newer. -/
theorem SetTo.fresh {w0 w w':World} {b o:Nat} {s:Int} {e:Ending} (g:G w0 w) (h:SetTo w b o s e w') (hb:w0.heap.size≤b):G w0 w':=GX.fresh g h.2.1 hb
/-- What QuoRem leaves behind. -/
def QR (w:World) (b o b3 o3:Nat) (sq sr:Int) (e:Ending) (w':World):Prop:=
 e= .returned (.tuple #[.pointer (some ⟨b,o,none⟩),.pointer (some ⟨b3,o3,none⟩)])∧∃ w2 e1 e2,SetTo w b o sq e1 w2∧SetTo w2 b3 o3 sr e2 w'
theorem qbf (n n':Bool) (a a':Nat):sg (!(n==n')) (a/a')=Int.tdiv (sg n a) (sg n' a'):=by
 unfold sg;cases n<;>cases n'<;>simp [Int.tdiv_neg,Int.neg_tdiv]
theorem qce (n n':Bool) (a a':Nat):sg n (a%a')=Int.tmod (sg n a) (sg n' a'):=by
 unfold sg;cases n<;>cases n'<;>simp [Int.tmod_neg,Int.neg_tmod]<;>exact(Int.tmod_eq_emod_of_nonneg (by omega)).symm
theorem q6o (w:World) (b o bx ox b2 oy b3 o3:Nat) (s0 s3 sx sy:Int) (K:Nat) (hK:K≤300000) (hx2:sx.natAbs<2^(32*K)) (hy2:sy.natAbs<2^(32*K)) (hy0:sy≠0) (hb:b<w.heap.size) (hb3:b3<w.heap.size) (hbx:bx<w.heap.size) (hby:b2<w.heap.size)
  (hz:IntIs w b o s0) (hr:IntIs w b3 o3 s3) (hne:b3≠b∨o3+2≤o∨o+2≤o3) (hx:IntIs w bx ox sx) (hy:IntIs w b2 oy sy):
  Calls Tryz.prog 144 #[.pointer (some ⟨b,o,none⟩),.pointer (some ⟨bx,ox,none⟩),.pointer (some ⟨b2,oy,none⟩),.pointer (some ⟨b3,o3,none⟩)] w (QR w b o b3 o3 (Int.tdiv sx sy) (Int.tmod sx sy)):=by
 obtain⟨n,v,a,⟨c1,c2,-,-⟩,hv,h1,-⟩:=hx;obtain⟨n',v',a',⟨c3,c4,-,-⟩,hv',h2,-⟩:=hy;have ha:=q0R h1;have ha':=q0R h2;have HW:Hid (∀ w1,G w w1→_):=fun w1 g=>q6F w1 v v' a a' K hK (hv.G g) (hv'.G g) (by omega) (by omega) (by omega);have HZ:Hid _:=hz;have HR:Hid _:=hr;have HS:Hid (sg (!(n==n')) (a/a')=Int.tdiv sx sy):=by rw[qbf,h1,h2];exact rfl
 have HS2:Hid (sg n (a%a')=Int.tmod sx sy):=by rw[qce n n',h1,h2];exact rfl
 have gJ:Hid _:=hne;generalize a/a'=dq at *;generalize a%a'=dr at *;clear hz hr hx2 hy2 hv hv' h1 h2 ha ha' hy0 hne;go_enter Tryz.func144,Tryz.ntmps144;go_wp2_with fail;refine q0f (by kernel_rfl) (by kernel_rfl) ?_;intro W hW;have rP:=q08 (w:=W) (a:=⟨bx,ox,none⟩) (x:= .bool n) (by rw[hW];first|(simp;done)|(simp;omega)|omega) (by rw[hW];first|assumption|(simp [go_sem];done)|(simp [*,go_sem];done));have rQ:=q08 (w:=W) (a:=⟨b2,oy,none⟩) (x:= .bool n') (by rw[hW];first|(simp;done)|(simp;omega)|omega) (by rw[hW];first|assumption|(simp [go_sem];done)|(simp [*,go_sem];done));clear hW
 repeat (go_big_quiet_step (fail))
 refine wpQuiet_nil ?_;clear rP rQ;intro w1 hw1;have d2:=hw1.cell (p:=⟨bx,ox+1,none⟩) hbx c2;have d4:=hw1.cell (p:=⟨b2,oy+1,none⟩) hby c4;have CX:bx<w1.heap.size:=G.lt hw1 hbx;have Jk:b2<w1.heap.size:=G.lt hw1 hby;clear c1 c2 c3 c4;go_wp2_with fail;have HW1:Hid (∀ w2,G w1 w2→_):=fun w2 g=>HW.out w2 (G.trans hw1 g);refine q0L 13 (G w1) (by kernel_rfl) (by first|exact(G.refl _).drew|exact G.drew (by assumption)) ?_;intro bn;refine q02 0 (v:= ?_) rfl (by kernel_rfl) (fun _ _ _ h=>h) rfl ?_ ‹_› ?_;rotate_left
 ·intro wq hwq;have hq1:=G.cell (p:=⟨bx,ox+1,none⟩) (v:=v) hwq (by first|assumption|(simp;done)|(simp;omega)|omega) (by assumption);have hq2:=G.cell (p:=⟨b2,oy+1,none⟩) (v:=v') hwq (by first|assumption|(simp;done)|(simp;omega)|omega) (by assumption)
  first|(go_simp;done)|(go_simp;with_reducible rfl)
 try simp only[aput,List.set]
 refine q02 1 (v:= ?_) rfl (by kernel_rfl) (fun _ _ _ h=>h) rfl ?_ ‹_› ?_;rotate_left
 ·intro wq hwq;have hq3:=G.cell (p:=⟨bx,ox+1,none⟩) (v:=v) hwq (by first|assumption|(simp;done)|(simp;omega)|omega) (by assumption);have hq4:=G.cell (p:=⟨b2,oy+1,none⟩) (v:=v') hwq (by first|assumption|(simp;done)|(simp;omega)|omega) (by assumption)
  first|(go_simp;done)|(go_simp;with_reducible rfl)
 try simp only[aput,List.set]
 refine q02 2 (v:= ?_) rfl (by kernel_rfl) (fun _ _ _ h=>h) rfl ?_ ‹_› ?_;rotate_left
 ·intro wq hwq;have pQ:=G.cell (p:=⟨bx,ox+1,none⟩) (v:=v) hwq (by first|assumption|(simp;done)|(simp;omega)|omega) (by assumption);have qp:=G.cell (p:=⟨b2,oy+1,none⟩) (v:=v') hwq (by first|assumption|(simp;done)|(simp;omega)|omega) (by assumption)
  first|(go_simp;done)|(go_simp;with_reducible rfl)
 try simp only[aput,List.set]
 refine q02 3 (v:= ?_) rfl (by kernel_rfl) (fun _ _ _ h=>h) rfl ?_ ‹_› ?_;rotate_left
 ·intro wq hwq;have qw:=G.cell (p:=⟨bx,ox+1,none⟩) (v:=v) hwq (by first|assumption|(simp;done)|(simp;omega)|omega) (by assumption);have hq8:=G.cell (p:=⟨b2,oy+1,none⟩) (v:=v') hwq (by first|assumption|(simp;done)|(simp;omega)|omega) (by assumption)
  first|(go_simp;done)|(go_simp;with_reducible rfl)
 try simp only[aput,List.set]
 refine q02 4 (v:= ?_) rfl (by kernel_rfl) (fun _ _ _ h=>h) rfl ?_ ‹_› ?_;rotate_left
 ·intro wq hwq;have wy:=G.cell (p:=⟨bx,ox+1,none⟩) (v:=v) hwq (by first|assumption|(simp;done)|(simp;omega)|omega) (by assumption);have mE:=G.cell (p:=⟨b2,oy+1,none⟩) (v:=v') hwq (by first|assumption|(simp;done)|(simp;omega)|omega) (by assumption)
  first|(go_simp;done)|(go_simp;with_reducible rfl)
 try simp only[aput,List.set]
 refine q02 5 (v:= ?_) rfl (by kernel_rfl) (fun _ _ _ h=>h) rfl ?_ ‹_› ?_;rotate_left
 ·intro wq hwq;have hq11:=G.cell (p:=⟨bx,ox+1,none⟩) (v:=v) hwq (by first|assumption|(simp;done)|(simp;omega)|omega) (by assumption);have hq12:=G.cell (p:=⟨b2,oy+1,none⟩) (v:=v') hwq (by first|assumption|(simp;done)|(simp;omega)|omega) (by assumption)
  first|(go_simp;done)|(go_simp;with_reducible rfl)
 try simp only[aput,List.set]
 refine q02 6 (v:= ?_) rfl (by kernel_rfl) (fun _ _ _ h=>h) rfl ?_ ‹_› ?_;rotate_left
 ·intro wq hwq;have yz:=G.cell (p:=⟨bx,ox+1,none⟩) (v:=v) hwq (by first|assumption|(simp;done)|(simp;omega)|omega) (by assumption);have yA:=G.cell (p:=⟨b2,oy+1,none⟩) (v:=v') hwq (by first|assumption|(simp;done)|(simp;omega)|omega) (by assumption)
  first|(go_simp;done)|(go_simp;with_reducible rfl)
 try simp only[aput,List.set]
 refine q02 7 (v:= ?_) rfl (by kernel_rfl) (fun _ _ _ h=>h) rfl ?_ ‹_› ?_;rotate_left
 ·intro wq hwq;have yB:=G.cell (p:=⟨bx,ox+1,none⟩) (v:=v) hwq (by first|assumption|(simp;done)|(simp;omega)|omega) (by assumption);have yC:=G.cell (p:=⟨b2,oy+1,none⟩) (v:=v') hwq (by first|assumption|(simp;done)|(simp;omega)|omega) (by assumption)
  first|(go_simp;done)|(go_simp;with_reducible rfl)
 try simp only[aput,List.set]
 refine q04 (i:=8) (by kernel_rfl) rfl ?_;intro K hK;go_simp;go_wp2_with (go_at_call 175;refine q00 (HW1.out _ bn) ?_;rintro e w2 ⟨vq,vr,rfl,hg2,hn2,iF⟩);refine hK.out _ _ (Or.inr (G.trans bn hg2)) ?_;clear hK K;have CY:G w1 w2:=G.trans bn hg2;refine q02 9 (v:= ?_) rfl (by kernel_rfl) (fun _ _ _ h=>h) rfl ?_ ‹_› ?_;rotate_left
 ·intro wq hwq
  first|(go_simp;done)|(go_simp;with_reducible rfl)
 try simp only[aput,List.set]
 refine q02 10 (v:= ?_) rfl (by kernel_rfl) (fun _ _ _ h=>h) rfl ?_ ‹_› ?_;rotate_left
 ·intro wq hwq
  first|(go_simp;done)|(go_simp;with_reducible rfl)
 try simp only[aput,List.set]
 refine q02 11 (v:= ?_) rfl (by kernel_rfl) (fun _ _ _ h=>h) rfl ?_ ‹_› ?_;rotate_left
 ·intro wq hwq
  first|(go_simp;done)|(go_simp;with_reducible rfl)
 try simp only[aput,List.set]
 refine q02 12 (v:= ?_) rfl (by kernel_rfl) (fun _ _ _ h=>h) rfl ?_ ‹_› ?_;rotate_left
 ·intro wq hwq
  first|(go_simp;done)|(go_simp;with_reducible rfl)
 try simp only[aput,List.set]
 refine q04 (i:=13) (by kernel_rfl) rfl ?_;intro K hK;go_simp;refine hK.out _ _ (Or.inl (by decide)) ?_;clear hK K;refine q0m (by kernel_rfl) ?_ _;have hG2:G w w2:=G.trans hw1 CY;have bW:Hid _:=hn2;have fJ:Hid _:=iF;clear bn CY hg2 d2 d4 hn2 iF;have HZ2:=IntIs.G HZ.out hb hG2;have HR2:=IntIs.G HR.out hb3 hG2;have zf:Hid _:=HZ2;have Jl:Hid _:=HR2;clear HZ2 HR2;go_wp2_with fail;refine q00 (q1g w2 b o (!(n==n')) s0 _ _ zf.out bW.out) ?_;rintro e w3 ⟨rfl,k1,k2,k3⟩;have vD:SetTo w2 b o (sg (!(n==n')) dq) (.returned (.pointer (some ⟨b,o,none⟩))) w3:=⟨rfl,k1,k2,k3⟩;have Jm:Hid _:=SetTo.num zf.out vD fJ.out;have HR3:Hid _:=SetTo.keep zf.out vD Jl.out (G.lt hG2 hb3) gJ.out;have hs3:=SetTo.after hb hG2 vD;rw[HS.out] at hs3;have qD:Hid (SetTo w b o (Int.tdiv sx sy) (.returned (.pointer (some ⟨b,o,none⟩))) w3):=hs3;clear k1 k2 k3 vD hs3;go_wp2_with fail;refine q00 (q1g w3 b3 o3 n s3 _ _ HR3.out Jm.out) ?_;rintro e w4 ⟨rfl,k1,k2,k3⟩;have hs4:SetTo w3 b3 o3 (sg n dr) (.returned (.pointer (some ⟨b3,o3,none⟩))) w4:=⟨rfl,k1,k2,k3⟩;rw[HS2.out] at hs4;clear k1 k2 k3;go_wp2_with fail
 go_ret2
 exact⟨rfl,w3,_,_,qD.out,hs4⟩
theorem qbY (w:World) (b o bx ox k:Nat) (s0 sx:Int) (K:Nat) (hK:K≤500000) (hk:k≤10000000) (hx2:sx.natAbs<2^(32*K)) (h0:0≤sx) (hb:b<w.heap.size)
  (hz:IntIs w b o s0) (hx:IntIs w bx ox sx):
  Calls Tryz.prog 202 #[.pointer (some ⟨b,o,none⟩),.pointer (some ⟨bx,ox,none⟩),.int .u64 (k:Int)] w (SetTo w b o ((sx.natAbs/2^k:Nat):Int)):=by
 obtain⟨n,v,a,⟨c1,c2,-,-⟩,hv,h1,h2⟩:=hx;have ha:=q0R h1;have hn:n=false:=by
  cases n
  ·rfl
  ·have:=h2 rfl;unfold sg at h1;simp at h1;omega
 subst hn;rw[← ha] at hx2 ⊢;have HW:Hid (∀ w1,G w w1→_):=fun w1 g=>q1b w1 v a k K (by omega) (by omega) (hv.G g) hx2;have HZ:Hid _:=hz;have HS:Hid (sg false (a/2^k)=((a/2^k:Nat):Int)):=rfl;generalize a/2^k=r at *;clear hz hx2 hv h1 h2 ha h0 hk;go_enter Tryz.func202,Tryz.ntmps202;go_wp2_with fail;refine q00 (HW.out _ (by repeat' (first|exact G.refl _|assumption|refine G.alloc ?_ _|refine G.drew ?_ |refine G.drewN ?_ _|(refine G.trans ?_ (by assumption))))) ?_;rintro e w2 ⟨v1,rfl,hg2,hn2⟩;have hG:=G.trans (a:=w) (by repeat' (first|exact G.refl _|assumption|refine G.alloc ?_ _|refine G.drew ?_ |refine G.drewN ?_ _|(refine G.trans ?_ (by assumption)))) hg2;go_wp2_with fail;refine q00 (q0T (w0:=w) hb hG (q1g _ b o _ s0 _ _ (IntIs.G HZ.out hb hG) hn2)) ?_;rintro e w3 ⟨rfl,hs3⟩;rw[HS.out] at hs3;go_wp2_with fail;go_ret;exact hs3
theorem q85 (w:World) (b o:Nat) (s:Int) (hs:s.natAbs<2^64) (hz:IntIs w b o s):
  Calls Tryz.prog 141 #[.pointer (some ⟨b,o,none⟩)] w fun e w'=>e= .returned (.int .u64 (s.natAbs:Int))∧G w w':=by
 obtain⟨n,v,a,⟨c1,c2,-,-⟩,⟨l,hl,hcl,hv⟩,h1,h2⟩:=hz;have ha:=q0R h1;rw[← ha] at hs ⊢;subst hv;have hok:=hl.1;have hlen:=q06 hcl (k:=2) hs;clear ha h1 h2;rcases Sl.cases hl with ⟨rfl,p,c,rfl⟩|⟨hne,b1,o1,c,rfl,hc,hb,hr⟩
 ·cases p
  all_goals
   go_enter Tryz.func141,Tryz.ntmps141;go_wp2_with fail;go_ret;exact⟨rfl,G.refl _⟩
 ·have hr0:=hr 0 (List.length_pos_iff.2 hne);rw[Nat.add_zero] at hr0;have h0:=q05 hok 0;by_cases hl1:l.length=1
  ·have hv:val l=l.getD 0 0:=by
    match l,hl1 with
    |[d],_=>simp [val]
   rw[hv];rw[hl1] at c2 hc;generalize l.getD 0 0=d0 at *;have Jf:(d0:Int)≤4294967295:=by omega
   clear hr hv h0 hl hcl hok hne hlen hs;go_enter Tryz.func141,Tryz.ntmps141;go_wp2_with fail;go_ret;exact⟨rfl,G.refl _⟩
  ·have hl2:l.length=2:=by have:=List.length_pos_iff.2 hne;omega
   have hr1:=hr 1 (by omega);have h1:=q05 hok 1;have hv:val l=l.getD 0 0+l.getD 1 0*2^32:=by
    match l,hl2 with
    |[d,e],_=>simp only[val,List.getD_cons_zero,List.getD_cons_succ];omega
   rw[hv];rw[hl2] at c2 hc;generalize l.getD 0 0=d0 at *;generalize l.getD 1 0=d1 at *;have Jf:(d0:Int)≤4294967295:=by omega
   have Nc:(d1:Int)≤4294967295:=by omega
   have hor:bits .or .u64 (d0:Int) ((d1:Int)*4294967296)=((d0+d1*2^32:Nat):Int):=by
    have e1:(d1:Int)*4294967296=((d1*2^32:Nat):Int):=by omega
    rw[e1,u64_or_nat d0 (d1*2^32) (by omega) (by omega),Nat.or_comm,nat_join 32 (d1*2^32) d0 (by omega) h0,Nat.add_comm]
   generalize d0+d1*2^32=u at *;clear hr hv h0 h1 hl hcl hok hne hl1 hl2 hlen hs;go_enter Tryz.func141,Tryz.ntmps141;go_wp2_with fail;go_ret;exact⟨rfl,G.refl _⟩
def qbV (w:World) (a:Nat) (e:Ending) (w':World):Prop:=∃ k:Nat,e= .returned (.int .u64 k)∧q1Y a k∧G w w'
theorem q1c {a k:Nat} (h0:a≠0) (h:a%2^k=0):2^k≤a:=Nat.le_of_dvd (by omega) (Nat.dvd_of_mod_eq_zero h)
theorem qcl (w:World) (b o:Nat) (s:Int) (K:Nat) (hK:K≤1000000) (hs:s.natAbs<2^(32*K)) (h0:s.natAbs≠0) (hb:b<w.heap.size) (hz:IntIs w b o s):
  Calls Tryz.prog 201 #[.pointer (some ⟨b,o,none⟩)] w (qbV w s.natAbs):=by
 obtain⟨n,v,a,⟨c1,c2,-,-⟩,hv,h1,h2⟩:=hz;have ha:=q0R h1;rw[← ha] at hs h0 ⊢;have HW:Hid (∀ w1 (i:Nat),i≤40000000→G w w1→_):=fun w1 i hi g=>qbE w1 v a i K hK hi (hv.G g) hs;have hv':=hv;obtain⟨l,hl,hcl,hlv⟩:=hv';obtain⟨pa,ca,rfl,-,-⟩:=q0n hl;have hln:l.length≠0:=by
  intro h;have:=List.eq_nil_of_length_eq_zero h;rw[this] at hlv;exact h0 hlv.symm
 have t0:((l.length:Int)==0)=false:=by simp;intro h;exact hln (by rw[h];rfl)
 have hjn:decide (l.length=0)=false:=by simpa using hln
 generalize l.length=j at *;have HP:Hid (∀ k,a%2^k=0→k<32*K):=fun k h=>(Nat.pow_lt_pow_iff_right (by omega:1<2)).1 (Nat.lt_of_le_of_lt (q1c h0 h) hs);clear hl hcl hlv hv ha h1 h2 hs h0 hln;go_enter Tryz.func201,Tryz.ntmps201;go_wp2_with fail
 go_loopw [3] (fun vn wr=>∃ k:Nat,vn= .int .u64 k∧a%2^k=0∧G w wr) (fun vn _=>32*K+1-(intOf vn).toNat)
 case atStart=>exact⟨0,rfl,by simp [Nat.mod_one],G.refl _⟩
 case round=>
  obtain⟨k,rfl,hk,hG⟩:=hrel;have hkb:=HP.out k hk;have hki:(k:Int)≤32000000:=by omega
  have HK:Hid _:=hk;have d2:=hG.cell hb c2;have HW1:Hid _:=HW.out wr k (by omega) hG;have hwk:IntKind.i64.wrap (k:Int)=k:=by rw[IntKind.wrap_i64];omega
  clear hk;obtain⟨z,hz,hz1⟩:∃ z:Nat,a/2^k%2=z∧z≤1:=⟨_,rfl,by omega⟩;have HZ:Hid _:=hz;rw[hz] at HW1;clear hz;by_cases hz0:z=0
  ·subst hz0;have hk1:a%2^(k+1)=0:=by rw[Nat.pow_succ,Nat.mod_mul,HK.out,HZ.out,Nat.mul_zero]
   have oI:Hid _:=hk1;clear hk1;go_wp2_with fail;refine Calls.mono (P:=Tryz.prog) HW1.out ?_;rintro e w2 ⟨rfl,hg2⟩;go_wp2_with fail
   go_roundw
   case rel=>exact⟨k+1,by go_num,oI.out,G.trans hG hg2⟩
   case measure=>simp only[intOf];omega
  ·obtain rfl:z=1:=by omega
   go_wp2_with fail;refine Calls.mono (P:=Tryz.prog) HW1.out ?_;rintro e w2 ⟨rfl,hg2⟩;go_wp2_with fail;go_ret;exact⟨k,rfl,⟨HK.out,HZ.out⟩,G.trans hG hg2⟩
/-- A new Int, since w0. -/
def NI (w0 w:World) (p:Nat) (s:Int):Prop:=w0.heap.size≤p∧p<w.heap.size∧IntIs w p 0 s
theorem NI.G {w0 w w':World} {p:Nat} {s:Int} (h:NI w0 w p s) (g:G w w'):NI w0 w' p s:=⟨h.1,Nat.lt_of_lt_of_le h.2.1 g.size,h.2.2.G h.2.1 g⟩
theorem NI.new {w0 w:World} (g:Go.Proofs.YtbfjihniphldaaaGreatDoor.G w0 w) (t:TypeId):NI w0 (w.alloc (.cells #[.bool false,.slice none 0 0] t)) w.heap.size 0:=⟨g.size,by simp,q4k w t⟩
/-- What a method that sets a new Int leaves behind. -/
def Step (w0 w:World) (p:Nat) (s:Int) (e:Ending) (w':World):Prop:=
 e= .returned (.pointer (some ⟨p,0,none⟩))∧G w0 w'∧NI w0 w' p s∧w.heap.size≤w'.heap.size∧∀ p2 s2,p2≠p→NI w0 w p2 s2→NI w0 w' p2 s2
theorem SetTo.step {w0 w:World} {p:Nat} {s0 s:Int} {e:Ending} {w':World} (g:G w0 w) (hz:NI w0 w p s0) (h:SetTo w p 0 s e w'):Step w0 w p s e w':=
 ⟨h.1,h.fresh g hz.1,⟨hz.1,Nat.lt_of_lt_of_le hz.2.1 h.size,h.is⟩,h.size,fun _ _ hne hx=>⟨hx.1,Nat.lt_of_lt_of_le hx.2.1 h.size,SetTo.keep hz.2.2 h hx.2.2 hx.2.1 (Or.inl hne)⟩⟩
theorem Step.to {w0 w:World} {p:Nat} {s:Int} {e:Ending} {w':World} (h:Step w0 w p s e w'):e= .returned (.pointer (some ⟨p,0,none⟩)):=h.1
end Go.Proofs.YtbfjihniphldaaaGreatDoor
namespace Go.Proofs.YtbfjihniphldaaaGreatDoor
open Go.RowKit
open BN
/-- N / D, rounded to the nearest whole number, of two as near to the even one. -/
def q0w (N D:Nat):Nat:=N/D+(if D<2*(N%D)∨(2*(N%D)=D∧N/D%2=1) then 1 else 0)
/-- A / B in units of 2^p. -/
def upP (A:Nat) (p:Int):Nat:=A*2^(-p).toNat
def loP (B:Nat) (p:Int):Nat:=B*2^p.toNat
def q1C (A B:Nat) (p:Int):Nat:=q0w (upP A p) (loP B p)
def q5M (m q:Nat):Prop:=blen q≤m∨(blen q=m+1∧q%2^m=0)
def q1o (A B m:Nat) (low:Int):Int:=if (blen A:Int)-blen B-m<low then low else (blen A:Int)-blen B-m
def q5F (A B m:Nat) (p:Int) (v:Nat) (P:Int) (x:Bool):Prop:=
 ((blen (q1C A B p)≤m∧v=q1C A B p∧P=p)∨(blen (q1C A B p)=m+1∧q1C A B p%2^m=0∧v=q1C A B p/2∧P=p+1))∧x=decide (upP A p%loP B p=0)
def q2h (A B m:Nat) (p0 p:Int):Prop:=p=p0∨(p=p0+1∧¬ q5M m (q1C A B p0))
theorem blen_le_iff {a k:Nat}:blen a≤k↔a<2^k:=by
 rcases Nat.eq_zero_or_pos a with rfl|h0
 ·have:blen 0=0:=rfl;rw[this];exact⟨fun _=>Nat.two_pow_pos k,fun _=>Nat.zero_le _⟩
 ·obtain⟨h1,h2,h3⟩:=q29 (a:=a) (by omega);constructor
  ·intro h;exact Nat.lt_of_lt_of_le h3 (Nat.pow_le_pow_right (by omega) h)
  ·intro h;have h4:2^(blen a-1)<2^k:=Nat.lt_of_le_of_lt h2 h;have:=(Nat.pow_lt_pow_iff_right (by omega:1<2)).1 h4;omega
theorem q51 {N D T:Nat} (h:N<T*D):q0w N D≤T:=by
 unfold q0w;have h1:N/D<T:=by
  rcases Nat.eq_zero_or_pos D with rfl|hD
  ·simp at h
  ·exact(Nat.div_lt_iff_lt_mul hD).2 h
 split<;>omega
theorem q3u {m q:Nat} (h:q≤2^m):q5M m q:=by
 rcases Nat.lt_or_eq_of_le h with h|h
 ·exact Or.inl (blen_le_iff.2 h)
 ·refine Or.inr ⟨?_,by rw[h,Nat.mod_self]⟩;rw[h];exact q5S (Nat.pow_lt_pow_right (by omega) (by omega)) (Or.inr (by simp))
theorem q9Z {A B m:Nat} {low p:Int} (hA:A≠0) (hB:B≠0) (hp:q1o A B m low+1≤p):upP A p<2^m*loP B p:=by
 obtain⟨a1,a2,a3⟩:=q29 hA;obtain⟨b1,b2,b3⟩:=q29 hB;have h1:(blen A:Int)-blen B-m≤q1o A B m low:=by unfold q1o;split<;>omega
 unfold upP loP;have h2:A*2^(-p).toNat<2^(blen A+(-p).toNat):=by rw[Nat.pow_add];exact Nat.mul_lt_mul_of_pos_right a3 (Nat.two_pow_pos _)
 have h3:2^(m+(blen B-1+p.toNat))≤2^m*(B*2^p.toNat):=by
  rw[Nat.pow_add,Nat.pow_add];exact Nat.mul_le_mul_left _ (Nat.mul_le_mul_right _ b2)
 have h4:2^(blen A+(-p).toNat)≤2^(m+(blen B-1+p.toNat)):=Nat.pow_le_pow_right (by omega) (by omega);omega
/-- The second time at the latest it stops. -/
theorem q7i {A B m:Nat} {low p0 p:Int} (hA:A≠0) (hB:B≠0) (h0:p0=q1o A B m low) (hat:q2h A B m p0 p) (hs:¬ q5M m (q1C A B p)):p=p0∧q2h A B m p0 (p+1):=by
 rcases hat with h|⟨h,h'⟩
 ·exact⟨h,Or.inr ⟨by omega,by rw[← h];exact hs⟩⟩
 ·exact absurd (q3u (q51 (q9Z (low:=low) hA hB (by omega)))) hs
theorem qbQ {A:Nat} {p:Int} {K:Nat} (hA:A<2^(32*K)) (hp: -(32*(K:Int))≤p):upP A p<2^(32*(2*K)):=by
 unfold upP;have h:A*2^(-p).toNat<2^(32*K)*2^(-p).toNat:=Nat.mul_lt_mul_of_pos_right hA (Nat.two_pow_pos _);rw[← Nat.pow_add] at h;exact Nat.lt_of_lt_of_le h (Nat.pow_le_pow_right (by omega) (by omega))
theorem qbO {B:Nat} {p:Int} {K:Nat} (hB:B<2^(32*K)) (hp:p≤32*(K:Int)):loP B p<2^(32*(2*K)):=by
 unfold loP;have h:B*2^p.toNat<2^(32*K)*2^p.toNat:=Nat.mul_lt_mul_of_pos_right hB (Nat.two_pow_pos _);rw[← Nat.pow_add] at h;exact Nat.lt_of_lt_of_le h (Nat.pow_le_pow_right (by omega) (by omega))
theorem q2V {B:Nat} {p:Int} (hB:B≠0):0<loP B p:=Nat.mul_pos (by omega) (Nat.two_pow_pos _)
theorem q7A {N D:Nat}:q0w N D=N/D+(if 0<cmpI ((N%D*2:Nat):Int) (D:Int)∨(cmpI ((N%D*2:Nat):Int) (D:Int)=0∧N/D%2=1) then 1 else 0):=by
 unfold q0w cmpI
 congr 1
 by_cases h1:N%D*2<D
 ·have e1:((N%D*2:Nat):Int)<(D:Int):=by omega
  simp only[if_pos e1];rw[if_neg (by omega),if_neg (by omega)]
 ·have e1:¬ ((N%D*2:Nat):Int)<(D:Int):=by omega
  simp only[if_neg e1];by_cases h2:N%D*2=D
  ·have e2:((N%D*2:Nat):Int)=(D:Int):=by omega
   simp only[if_pos e2];by_cases h3:N/D%2=1
   ·rw[if_pos (by omega),if_pos (by simp [h3])]
   ·rw[if_neg (by omega),if_neg (by simp [h3])]
  ·have e2:¬ ((N%D*2:Nat):Int)=(D:Int):=by omega
   simp only[if_neg e2];rw[if_pos (by omega),if_pos (by omega)]
end Go.Proofs.YtbfjihniphldaaaGreatDoor
namespace Go.Proofs.YtbfjihniphldaaaGreatDoor
open Go.ChangeShapes Go.WideShapes Go.ChangeAt Go.RowKit
open BN
theorem qbC {n:Bool} {a:Nat}:sg (!n) a= -sg n a:=by unfold sg;cases n<;>simp
theorem q4M (w:World) (b o bx ox:Nat) (s0 sx:Int) (K:Nat) (hK:K≤1000000) (hx2:sx.natAbs<2^(32*K)) (hb:b<w.heap.size) (hbx:bx<w.heap.size)
  (hz:IntIs w b o s0) (hx:IntIs w bx ox sx):
  Calls Tryz.prog 120 #[.pointer (some ⟨b,o,none⟩),.pointer (some ⟨bx,ox,none⟩)] w (SetTo w b o (-sx)):=by
 obtain⟨n,v,a,⟨c1,c2,-,-⟩,hv,h1,-⟩:=hx;have ha:=q0R h1;have HW:Hid (∀ w1,G w w1→_):=fun w1 g=>q67 w1 v a K hK (hv.G g) (by omega);have HZ:Hid _:=hz;have HS:Hid (sg (!n) a= -sx):=by show sg (!n) a= -sx;rw[qbC,h1]
 clear hz hx2 hv h1 ha;go_enter Tryz.func120,Tryz.ntmps120;go_wp2_with fail;refine q0L 11 (G w) (by kernel_rfl) (by first|exact(G.refl _).drew|exact G.drew (by assumption)) ?_;intro bn;refine q02 0 (v:= ?_) rfl (by kernel_rfl) (fun _ _ _ h=>h) rfl ?_ ‹_› ?_;rotate_left
 ·intro wq hwq;have hq1:=G.cell (p:=⟨bx,ox,none⟩) (v:= .bool n) hwq (by first|assumption|(simp;done)|(simp;omega)|omega) (by assumption);have hq2:=G.cell (p:=⟨bx,ox+1,none⟩) (v:=v) hwq (by first|assumption|(simp;done)|(simp;omega)|omega) (by assumption)
  first|(go_simp;done)|(go_simp;with_reducible rfl)
 try simp only[aput,List.set]
 refine q02 1 (v:= ?_) rfl (by kernel_rfl) (fun _ _ _ h=>h) rfl ?_ ‹_› ?_;rotate_left
 ·intro wq hwq;have hq3:=G.cell (p:=⟨bx,ox,none⟩) (v:= .bool n) hwq (by first|assumption|(simp;done)|(simp;omega)|omega) (by assumption);have hq4:=G.cell (p:=⟨bx,ox+1,none⟩) (v:=v) hwq (by first|assumption|(simp;done)|(simp;omega)|omega) (by assumption)
  first|(go_simp;done)|(go_simp;with_reducible rfl)
 try simp only[aput,List.set]
 refine q02 2 (v:= ?_) rfl (by kernel_rfl) (fun _ _ _ h=>h) rfl ?_ ‹_› ?_;rotate_left
 ·intro wq hwq;have pQ:=G.cell (p:=⟨bx,ox,none⟩) (v:= .bool n) hwq (by first|assumption|(simp;done)|(simp;omega)|omega) (by assumption);have qp:=G.cell (p:=⟨bx,ox+1,none⟩) (v:=v) hwq (by first|assumption|(simp;done)|(simp;omega)|omega) (by assumption)
  first|(go_simp;done)|(go_simp;with_reducible rfl)
 try simp only[aput,List.set]
 refine q02 3 (v:= ?_) rfl (by kernel_rfl) (fun _ _ _ h=>h) rfl ?_ ‹_› ?_;rotate_left
 ·intro wq hwq;have qw:=G.cell (p:=⟨bx,ox,none⟩) (v:= .bool n) hwq (by first|assumption|(simp;done)|(simp;omega)|omega) (by assumption);have hq8:=G.cell (p:=⟨bx,ox+1,none⟩) (v:=v) hwq (by first|assumption|(simp;done)|(simp;omega)|omega) (by assumption)
  first|(go_simp;done)|(go_simp;with_reducible rfl)
 try simp only[aput,List.set]
 refine q02 4 (v:= ?_) rfl (by kernel_rfl) (fun _ _ _ h=>h) rfl ?_ ‹_› ?_;rotate_left
 ·intro wq hwq;have wy:=G.cell (p:=⟨bx,ox,none⟩) (v:= .bool n) hwq (by first|assumption|(simp;done)|(simp;omega)|omega) (by assumption);have mE:=G.cell (p:=⟨bx,ox+1,none⟩) (v:=v) hwq (by first|assumption|(simp;done)|(simp;omega)|omega) (by assumption)
  first|(go_simp;done)|(go_simp;with_reducible rfl)
 try simp only[aput,List.set]
 refine q02 5 (v:= ?_) rfl (by kernel_rfl) (fun _ _ _ h=>h) rfl ?_ ‹_› ?_;rotate_left
 ·intro wq hwq;have hq11:=G.cell (p:=⟨bx,ox,none⟩) (v:= .bool n) hwq (by first|assumption|(simp;done)|(simp;omega)|omega) (by assumption);have hq12:=G.cell (p:=⟨bx,ox+1,none⟩) (v:=v) hwq (by first|assumption|(simp;done)|(simp;omega)|omega) (by assumption)
  first|(go_simp;done)|(go_simp;with_reducible rfl)
 try simp only[aput,List.set]
 refine q02 6 (v:= ?_) rfl (by kernel_rfl) (fun _ _ _ h=>h) rfl ?_ ‹_› ?_;rotate_left
 ·intro wq hwq;have yz:=G.cell (p:=⟨bx,ox,none⟩) (v:= .bool n) hwq (by first|assumption|(simp;done)|(simp;omega)|omega) (by assumption);have yA:=G.cell (p:=⟨bx,ox+1,none⟩) (v:=v) hwq (by first|assumption|(simp;done)|(simp;omega)|omega) (by assumption)
  first|(go_simp;done)|(go_simp;with_reducible rfl)
 try simp only[aput,List.set]
 refine q02 7 (v:= ?_) rfl (by kernel_rfl) (fun _ _ _ h=>h) rfl ?_ ‹_› ?_;rotate_left
 ·intro wq hwq;have yB:=G.cell (p:=⟨bx,ox,none⟩) (v:= .bool n) hwq (by first|assumption|(simp;done)|(simp;omega)|omega) (by assumption);have yC:=G.cell (p:=⟨bx,ox+1,none⟩) (v:=v) hwq (by first|assumption|(simp;done)|(simp;omega)|omega) (by assumption)
  first|(go_simp;done)|(go_simp;with_reducible rfl)
 try simp only[aput,List.set]
 refine q02 8 (v:= ?_) rfl (by kernel_rfl) (fun _ _ _ h=>h) rfl ?_ ‹_› ?_;rotate_left
 ·intro wq hwq;have rP:=G.cell (p:=⟨bx,ox,none⟩) (v:= .bool n) hwq (by first|assumption|(simp;done)|(simp;omega)|omega) (by assumption);have rQ:=G.cell (p:=⟨bx,ox+1,none⟩) (v:=v) hwq (by first|assumption|(simp;done)|(simp;omega)|omega) (by assumption)
  first|(go_simp;done)|(go_simp;with_reducible rfl)
 try simp only[aput,List.set]
 refine q02 9 (v:= ?_) rfl (by kernel_rfl) (fun _ _ _ h=>h) rfl ?_ ‹_› ?_;rotate_left
 ·intro wq hwq;have yD:=G.cell (p:=⟨bx,ox,none⟩) (v:= .bool n) hwq (by first|assumption|(simp;done)|(simp;omega)|omega) (by assumption);have yE:=G.cell (p:=⟨bx,ox+1,none⟩) (v:=v) hwq (by first|assumption|(simp;done)|(simp;omega)|omega) (by assumption)
  first|(go_simp;done)|(go_simp;with_reducible rfl)
 try simp only[aput,List.set]
 refine q04 (i:=10) (by kernel_rfl) rfl ?_;intro K hK;go_simp;go_wp2_with (go_at_call 171;refine Calls.mono (P:=Tryz.prog) (HW.out _ bn) ?_;rintro e w2 ⟨v1,rfl,hg2,hn2⟩);refine hK.out _ _ (Or.inr (G.trans bn hg2)) ?_;clear hK K;refine q04 (i:=11) (by kernel_rfl) rfl ?_;intro K hK;go_simp;go_wp2_with (go_at_call 117;refine Calls.mono (P:=Tryz.prog) (q0T (w0:=w) hb (G.trans bn hg2) (q1g _ b o _ s0 _ _ (IntIs.G HZ.out hb (G.trans bn hg2)) hn2)) ?_;rintro e w3 ⟨rfl,hs3⟩);refine hK.out _ _ (Or.inl (by decide)) ?_;clear hK K;refine q04 (i:=12) (by kernel_rfl) rfl ?_;intro K hK;go_simp;refine hK.out _ _ (Or.inl (by decide)) ?_;clear hK K;refine q0m (by kernel_rfl) ?_ _;rw[HS.out] at hs3;go_wp2_with fail;go_ret;exact hs3
/-- At block b lies a Rat: its two Ints (a lower one of 0 stands for 1). -/
def RatIs (w:World) (b:Nat) (sa sb:Int):Prop:=IntIs w b 0 sa∧IntIs w b 2 sb
theorem q2S (w:World) (t:TypeId):RatIs (w.alloc (.cells #[.bool false,.slice none 0 0,.bool false,.slice none 0 0] t)) w.heap.size 0 0:=by
 refine⟨⟨false,.slice none 0 0,0,⟨?_,?_,World.frozen?_alloc_at _ _ _ _ rfl,World.frozen?_alloc_at _ _ _ _ rfl⟩,num_nil _ _ _,rfl,fun h=>by cases h⟩,
  ⟨false,.slice none 0 0,0,⟨?_,?_,World.frozen?_alloc_at _ _ _ _ rfl,World.frozen?_alloc_at _ _ _ _ rfl⟩,num_nil _ _ _,rfl,fun h=>by cases h⟩⟩
 all_goals rw[World.cell?_alloc_at _ _ _ _ rfl];rfl
theorem RatIs.G {w w':World} {b:Nat} {sa sb:Int} (h:RatIs w b sa sb) (hb:b<w.heap.size) (g:G w w'):RatIs w' b sa sb:=⟨h.1.G hb g,h.2.G hb g⟩
theorem q4i (w:World) (b:Nat) (sa sb:Int) (h:RatIs w b sa sb):
  Calls Tryz.prog 19 #[.pointer (some ⟨b,0,none⟩)] w fun e w'=>e= .returned (.int .i64 sa.sign)∧G w w':=by
 have HS:Hid _:=q7a w b 0 sa h.1;generalize sa.sign=s at *;clear h;go_enter Tryz.func19,Tryz.ntmps19;go_wp2_with fail;refine Calls.mono (P:=Tryz.prog) HS.out ?_;rintro e w2 ⟨rfl,hg2⟩;go_wp2_with fail;go_ret;exact⟨rfl,hg2⟩
/-- den: where the lower part is laid, it is handed back itself. -/
theorem q4q (w:World) (b:Nat) (sa sb:Int) (hsb:sb≠0) (h:RatIs w b sa sb):
  Calls Tryz.prog 51 #[.pointer (some ⟨b,0,none⟩)] w fun e w'=>e= .returned (.pointer (some ⟨b,2,none⟩))∧G w w':=by
 obtain⟨-,n,v,a,⟨c1,c2,-,-⟩,⟨l,hl,hcl,hlv⟩,h1,-⟩:=h;have ha:=q0R h1;obtain⟨p,c,rfl,-,-⟩:=q0n hl;have hl0:l.length≠0:=by
  intro h0;rw[List.eq_nil_of_length_eq_zero h0] at hlv;have:a=0:=hlv.symm;omega
 have t0:((l.length:Int)==0)=false:=by simp;intro h;exact hl0 (by rw[h];rfl)
 generalize l.length=j at *;clear hl hcl hlv h1 ha hsb;go_enter Tryz.func51,Tryz.ntmps51;go_wp2_with fail;go_ret;exact⟨rfl,G.refl _⟩
end Go.Proofs.YtbfjihniphldaaaGreatDoor
