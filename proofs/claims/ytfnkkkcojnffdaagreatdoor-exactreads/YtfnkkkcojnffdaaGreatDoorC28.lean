/- What is proved here: contracts of package exact: 'copy' into a row of our own, plus, over this seat's translation. -/
import Derived.Test.YtfnkkkcojnffdaaGreatDoorC1
import Derived.Test.YtfnkkkcojnffdaaGreatDoorC8
import Derived.Test.YtfnkkkcojnffdaaGreatDoorC3
import Derived.Test.YtfnkkkcojnffdaaGreatDoorC22
import Derived.Test.YtfnkkkcojnffdaaGreatDoorC18
import Derived.Laws.IdiomCopy
namespace Go.Proofs.YtfnkkkcojnffdaaGreatDoor.EN
open Go.ChangeShapes Go.WideShapes Go.ChangeAt Go.RowKit
/-- Words laid over a row of our own. -/
theorem Own.cells {w:World} {b:Nat}:∀ {m l:List Nat} {o:Nat},Own w b l→okw m→o+m.length≤l.length→
  Own (w.setCells b o (m.map fun d=> .int .u64 (d:Nat))) b (l.take o++(m++l.drop (o+m.length))):=by
 intro m
 induction m generalizing w with
 |nil=>intro l o h _ _;simpa [World.setCells] using h
 |cons d m E=>
  intro l o h D C;obtain⟨B,A⟩:=okw_cons.1 D;simp only[aK] at C;have h1:=Own.set h o d dT B;have h2:=E (l:=l.set o d) (o:=o+1) h1 A (by rw[av];omega);rw[dB];simp only[World.setCells];have e:(l.set o d).take (o+1)++(m++(l.set o d).drop (o+1+m.length))=l.take o++(d::m++l.drop (o+(m.length+1))):=by
   rw[fC (by rw[av];omega),eT,eh dT,bP dT];simp [Nat.add_comm,Nat.add_left_comm]
  rw[aK,← e];exact h2
theorem G.setCells {w0:World} {b:Nat} (hb:w0.heap.size≤b):∀ (cs:List Value) (w:World) (o:Nat),G w0 w→G w0 (w.setCells b o cs)
 |[],_,_,h=>h
 |v::cs,_,o,h=>G.setCells hb cs _ _ (Go.Proofs.YtfnkkkcojnffdaaGreatDoor.G.setCell h (p:=⟨b,o,none⟩) hb v)
theorem addr_add (b o j:Nat):((⟨b,o,none⟩:Addr).add j)=⟨b,o+j,none⟩:=Addr.add_lit ..
theorem gL {w:World} {b o:Nat} {l:List Nat} (h:Row w b o l):∀ j v,(l.map fun d=>Value.int .u64 (d:Nat))[j]? =some v→w.cell? ((⟨b,o,none⟩:Addr).add j)=some v:=by
 intro j u B;rw[db] at B;obtain⟨d,A,rfl⟩:=bI.1 B;have:=h j (aQ.1 A).1;rw[ab,A] at this;rw[addr_add];exact this
theorem gM (l:List Nat):∀ u∈(l.map fun d=>Value.int .u64 (d:Nat)),u.oneCell'=true:=by
 intro u hu;obtain⟨d,-,rfl⟩:=b6.1 hu;rfl
/-- 'copy' of a slice to the beginning of a row of our own that is newer than w0. -/
theorem kX {w0 w:World} {b n:Nat} {zs l:List Nat} {va:Value} (h:Own w b zs) (R:zs.length=n) (F:Sl w va l) (M:l.length≤n) (g:G w0 w) (hb:w0.heap.size≤b) (D:TypeId):
  ∃ E,(Builtin.copy_ #[25,25] D #[.slice (some ⟨b,0,none⟩) n n,va]).run Tryz.prog w= .ok (goInt l.length) E∧Own E b (l++zs.drop l.length)∧G w0 E:=by
 have B:=F.1;rcases Sl.cases F with ⟨rfl,a,c,rfl⟩|⟨N,J,O,c1,rfl,L,K,C⟩
 ·exact⟨w,run_copy_none w 25 25 D 78 _ _ _ _ _ _ Tryz.underlying25 dV eO,h,g⟩
 ·have I:=Own.cells (o:=0) h B dT;rw[List.take_zero,cK,az] at I;have A:=run_copy_cells (P:=Tryz.prog) w 25 25 D 78 b 0 n n ⟨J,O,none⟩ l.length c1 (l.map fun d=> .int .u64 (d:Nat)) Tryz.underlying25 dV
   (by rw[cu];exact(bE M).symm) (gL C)
   (fun i hi=>by rw[cu] at hi;rw[az,Own.cell h dT];rfl)
   (fun i hi=>by rw[cu] at hi;rw[az];exact Own.frozen h dT) (gM l)
  rw[cu] at A;exact⟨_,A,I,G.setCells hb _ _ _ g⟩
theorem kd (w:World) (va vb:Value) (l m:List Nat) (swap:Bool) (hl:Sl w va l) (hm:Sl w vb m) (M:m.length≤l.length) (an:l.length≤1040000) (W:swap=true→m.length<l.length):
  Calls Tryz.prog 72 (if swap then #[vb,va] else #[va,vb]) w (ef w (val l+val m)):=by
 have HL:=hi9 hl;have HM:=hi9 hm;obtain⟨pa,ca,rfl,al,-⟩:=ei hl;obtain⟨pb,cb,rfl,am,-⟩:=ei hm;clear hl hm;generalize hn:l.length=n at M an W al;generalize hj:m.length=j at M W am;have L:=hi9 hn;have HJ:=hi9 hj;have Y:Hid (Sl w (.slice pa n ca) l):=by rw[← hn];exact HL.out
 have O:Hid (Sl w (.slice pb j cb) m):=by rw[← hj];exact HM.out
 clear hn hj HL HM;have ao:=fc (n+1) dT;rw[show ((n+1:Nat):Int)=(n:Int)+1 from by omega] at ao;have Z:=hi9 (eA w (n+1) 78);have S:G w (w.alloc (.cells (madeCells #[.int .u64 0] (n+1)) 78)):=(af _).alloc _;obtain⟨w1,k,B,hG⟩:=kX (n:=n+1) (va:= .slice pa n ca) Z.out eO (Y.out.G S) (by rw[L.out];omega) S (ay _) 3;rw[L.out] at k B;have d:(List.replicate (n+1) 0).drop n=[0]:=by rw[List.drop_replicate,show n+1-n=1 from by omega];rfl
 rw[d] at B;have HO:=hi9 B;have HG:=hi9 hG;have J:(l++[0]).length=n+1:=by rw[ag,L.out];rfl
 have i:∀ y o2 n2 c2,Value.slice pb j cb= .slice (some ⟨y,o2,none⟩) n2 c2→m≠[]→y≠w.heap.size:=by
  intro y o2 n2 c2 e ap;rcases O.out.2 with ⟨h,-⟩|⟨b3,o3,c3,e3,-,h3,-⟩
  ·exact absurd h ap
  ·rw[e] at e3;injection e3 with e4;injection e4 with e5;injection e5 with e6;omega
 have X:Hid _:=mq w1 w.heap.size 0 (n+1) (.slice pb j cb) (l++[0]) m B.at dT (O.out.G hG) i (by rw[J,HJ.out];omega) dT;have hv:val (l++[0])=val l:=by rw[val_append,fi,bm,aP]
 rw[J,hv] at X;have D:Hid (∀ (o:World) (cs:List Nat) (q:Nat),cs.length=n+1→val cs+2^(64*(n+1))*q=val l+val m→val cs=val l+val m):=by
  intro o cs q h1 h2;have h3:=eo Y.out.1;have h4:=eo O.out.1;rw[L.out] at h3;rw[HJ.out] at h4;have h5:2^(64*j)≤2^(64*n):=ak dT dT;have h6:2^(64*(n+1))=2^(64*n)*2^64:=by rw[← ah];rfl
  have h7:q=0:=by
   apply Classical.byContradiction;intro s;have:2^(64*(n+1))*1≤2^(64*(n+1))*q:=au _ dT;omega
  rw[h7] at h2;omega
 clear i B hG d Z S hv J;cases swap
 ·show Calls Tryz.prog 72 #[_,_] w _;have t0:¬ (n:Int)<j:=by omega
  go_enter Tryz.func72,Tryz.ntmps72;go_wp2_with fail;refine dS X.out ?_;rintro e o ⟨cs,q,rfl,s,I,E,F,C⟩;have A:cs.length=n+1:=by rw[I,ag,L.out];rfl
  have K:=D.out o cs q A (by rw[ag,L.out] at C;exact C);have c:=hi9 (eC E.own A dT);rw[K] at c;have N:=hi9 (GB.fresh HG.out F (ay _));clear K C F E I s X HO D;go_wp2_with fail;refine dS c.out ?_;rintro e w3 ⟨v1,rfl,R,U⟩;go_wp2_with fail;go_ret;exact⟨v1,rfl,aa N.out R,U⟩
 ·show Calls Tryz.prog 72 #[_,_] w _;have t0:(j:Int)<n:=by have:=W rfl;omega
  go_enter Tryz.func72,Tryz.ntmps72;go_wp2_with fail;refine dS X.out ?_;rintro e o ⟨cs,q,rfl,s,I,E,F,C⟩;have A:cs.length=n+1:=by rw[I,ag,L.out];rfl
  have K:=D.out o cs q A (by rw[ag,L.out] at C;exact C);have c:=hi9 (eC E.own A dT);rw[K] at c;have N:=hi9 (GB.fresh HG.out F (ay _));clear K C F E I s X HO D;go_wp2_with fail;refine dS c.out ?_;rintro e w3 ⟨v1,rfl,R,U⟩;go_wp2_with fail;go_ret;exact⟨v1,rfl,aa N.out R,U⟩
theorem q1H (w:World) (va A:Value) (a b K:Nat) (N:K≤1040000) (J:Num w va a) (hb:Num w A b) (B:a<2^(64*K)) (C:b<2^(64*K)):
  Calls Tryz.prog 72 #[va,A] w (ef w (a+b)):=by
 obtain⟨l,F,D,rfl⟩:=J;obtain⟨m,I,E,rfl⟩:=hb;have L:=dX D B;have M:=dX E C;by_cases h:m.length≤l.length
 ·exact kd w va A l m false F I h dT eO
 ·rw[bt];exact kd w A va m l true I F dT dT (fun _=>by omega)
end Go.Proofs.YtfnkkkcojnffdaaGreatDoor.EN
