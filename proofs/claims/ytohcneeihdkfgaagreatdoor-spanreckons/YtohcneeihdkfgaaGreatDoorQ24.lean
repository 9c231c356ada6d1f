/- What is proved here: contracts of package exact: 'copy' into a row of our own, plus, over this seat's translation. -/
import Derived.Test.YtohcneeihdkfgaaGreatDoorQ1
import Derived.Test.YtohcneeihdkfgaaGreatDoorQ10
import Derived.Test.YtohcneeihdkfgaaGreatDoorQ3
import Derived.Test.YtohcneeihdkfgaaGreatDoorQ8
import Derived.Test.YtohcneeihdkfgaaGreatDoorQ23
import Derived.Laws.IdiomCopy
namespace Go.Proofs.YtohcneeihdkfgaaGreatDoor.EN
open Go.ChangeShapes Go.WideShapes Go.ChangeAt Go.RowKit
/-- Words laid over a row of our own. -/
theorem Own.cells {w:World} {b:Nat}:∀ {m l:List Nat} {o:Nat},Own w b l→okw m→o+m.length≤l.length→
  Own (w.setCells b o (m.map fun d=> .int .u64 (d:Nat))) b (l.take o++(m++l.drop (o+m.length))):=by
 intro m
 induction m generalizing w with
 |nil=>intro l o h _ _;simpa [World.setCells] using h
 |cons d m E=>
  intro l o h D C;obtain⟨B,A⟩:=okw_cons.1 D;simp only[cw] at C;have h1:=Own.set h o d eX B;have h2:=E (l:=l.set o d) (o:=o+1) h1 A (by rw[aF];omega);rw[du];simp only[World.setCells];have e:(l.set o d).take (o+1)++(m++(l.set o d).drop (o+1+m.length))=l.take o++(d::m++l.drop (o+(m.length+1))):=by
   rw[iH (by rw[aF];omega),gu,fB eX,cA eX];simp [Nat.add_comm,Nat.add_left_comm]
  rw[cw,← e];exact h2
theorem G.setCells {w0:World} {b:Nat} (hb:w0.heap.size≤b):∀ (cs:List Value) (w:World) (o:Nat),G w0 w→G w0 (w.setCells b o cs)
 |[],_,_,h=>h
 |v::cs,_,o,h=>G.setCells hb cs _ _ (Go.Proofs.YtohcneeihdkfgaaGreatDoor.G.setCell h (p:=⟨b,o,none⟩) hb v)
theorem addr_add (b o j:Nat):((⟨b,o,none⟩:Addr).add j)=⟨b,o+j,none⟩:=Addr.add_lit ..
theorem kR {w:World} {b o:Nat} {l:List Nat} (h:Row w b o l):∀ j v,(l.map fun d=>Value.int .u64 (d:Nat))[j]? =some v→w.cell? ((⟨b,o,none⟩:Addr).add j)=some v:=by
 intro j u B;rw[en] at B;obtain⟨d,A,rfl⟩:=cQ.1 B;have:=h j (bM.1 A).1;rw[ak,A] at this;rw[addr_add];exact this
theorem kV (l:List Nat):∀ u∈(l.map fun d=>Value.int .u64 (d:Nat)),u.oneCell'=true:=by
 intro u hu;obtain⟨d,-,rfl⟩:=List.mem_map.1 hu;rfl
/-- 'copy' of a slice to the beginning of a row of our own that is newer than w0. -/
theorem qB {w0 w:World} {b n:Nat} {zs l:List Nat} {va:Value} (h:Own w b zs) (R:zs.length=n) (F:Sl w va l) (M:l.length≤n) (g:G w0 w) (hb:w0.heap.size≤b) (D:TypeId):
  ∃ E,(Builtin.copy_ #[25,25] D #[.slice (some ⟨b,0,none⟩) n n,va]).run Tryz.prog w= .ok (goInt l.length) E∧Own E b (l++zs.drop l.length)∧G w0 E:=by
 have B:=F.1;rcases Sl.cases F with ⟨rfl,a,c,rfl⟩|⟨N,J,O,c1,rfl,L,K,C⟩
 ·exact⟨w,run_copy_none w 25 25 D 90 _ _ _ _ _ _ Tryz.underlying25 eZ fX,h,g⟩
 ·have I:=Own.cells (o:=0) h B eX;rw[List.take_zero,List.nil_append,aK] at I;have A:=run_copy_cells (P:=Tryz.prog) w 25 25 D 90 b 0 n n ⟨J,O,none⟩ l.length c1 (l.map fun d=> .int .u64 (d:Nat)) Tryz.underlying25 eZ
   (by rw[dx];exact(ck M).symm) (kR C)
   (fun i hi=>by rw[dx] at hi;rw[aK,Own.cell h eX];rfl)
   (fun i hi=>by rw[dx] at hi;rw[aK];exact Own.frozen h eX) (kV l)
  rw[dx] at A;exact⟨_,A,I,G.setCells hb _ _ _ g⟩
theorem oJ (w:World) (va vb:Value) (l m:List Nat) (swap:Bool) (hl:Sl w va l) (hm:Sl w vb m) (M:m.length≤l.length) (ai:l.length≤1040000) (W:swap=true→m.length<l.length):
  Calls Tryz.prog 90 (if swap then #[vb,va] else #[va,vb]) w (fo w (val l+val m)):=by
 have HL:=hi9 hl;have HM:=hi9 hm;obtain⟨pa,ca,rfl,af,-⟩:=fF hl;obtain⟨pb,cb,rfl,ag,-⟩:=fF hm;clear hl hm;generalize hn:l.length=n at M ai W af;generalize hj:m.length=j at M W ag;have L:=hi9 hn;have HJ:=hi9 hj;have Y:Hid (Sl w (.slice pa n ca) l):=by rw[← hn];exact HL.out
 have O:Hid (Sl w (.slice pb j cb) m):=by rw[← hj];exact HM.out
 clear hn hj HL HM;have al:=gV (n+1) eX;rw[show ((n+1:Nat):Int)=(n:Int)+1 from by omega] at al;have Z:=hi9 (gh w (n+1) 90);have S:G w (w.alloc (.cells (madeCells #[.int .u64 0] (n+1)) 90)):=(ad _).alloc _;obtain⟨w1,k,B,hG⟩:=qB (n:=n+1) (va:= .slice pa n ca) Z.out fX (Y.out.G S) (by rw[L.out];omega) S (aI _) 3;rw[L.out] at k B;have d:(List.replicate (n+1) 0).drop n=[0]:=by rw[eG,show n+1-n=1 from by omega];rfl
 rw[d] at B;have HO:=hi9 B;have HG:=hi9 hG;have J:(l++[0]).length=n+1:=by rw[br,L.out];rfl
 have i:∀ y o2 n2 c2,Value.slice pb j cb= .slice (some ⟨y,o2,none⟩) n2 c2→m≠[]→y≠w.heap.size:=by
  intro y o2 n2 c2 e am;rcases O.out.2 with ⟨h,-⟩|⟨b3,o3,c3,e3,-,h3,-⟩
  ·exact absurd h am
  ·rw[e] at e3;injection e3 with e4;injection e4 with e5;injection e5 with e6;omega
 have X:Hid _:=su w1 w.heap.size 0 (n+1) (.slice pb j cb) (l++[0]) m B.at eX (O.out.G hG) i (by rw[J,HJ.out];omega) eX;have hv:val (l++[0])=val l:=by rw[val_append,iE,bG,aP]
 rw[J,hv] at X;have D:Hid (∀ (o:World) (cs:List Nat) (q:Nat),cs.length=n+1→val cs+2^(64*(n+1))*q=val l+val m→val cs=val l+val m):=by
  intro o cs q h1 h2;have h3:=fO Y.out.1;have h4:=fO O.out.1;rw[L.out] at h3;rw[HJ.out] at h4;have h5:2^(64*j)≤2^(64*n):=ao eX eX;have h6:2^(64*(n+1))=2^(64*n)*2^64:=by rw[← ah];rfl
  have h7:q=0:=by
   apply Classical.byContradiction;intro s;have:2^(64*(n+1))*1≤2^(64*(n+1))*q:=aB _ eX;omega
  rw[h7] at h2;omega
 clear i B hG d Z S hv J;cases swap
 ·show Calls Tryz.prog 90 #[_,_] w _;have t0:¬ (n:Int)<j:=by omega
  go_enter Tryz.func90,Tryz.ntmps90;go_wp2_with fail;refine eW X.out ?_;rintro e o ⟨cs,q,rfl,s,I,E,F,C⟩;have A:cs.length=n+1:=by rw[I,br,L.out];rfl
  have K:=D.out o cs q A (by rw[br,L.out] at C;exact C);have c:=hi9 (gi E.own A eX);rw[K] at c;have N:=hi9 (GB.fresh HG.out F (aI _));clear K C F E I s X HO D;go_wp2_with fail;refine eW c.out ?_;rintro e w3 ⟨v1,rfl,R,U⟩;go_wp2_with fail;go_ret;exact⟨v1,rfl,ab N.out R,U⟩
 ·show Calls Tryz.prog 90 #[_,_] w _;have t0:(j:Int)<n:=by have:=W rfl;omega
  go_enter Tryz.func90,Tryz.ntmps90;go_wp2_with fail;refine eW X.out ?_;rintro e o ⟨cs,q,rfl,s,I,E,F,C⟩;have A:cs.length=n+1:=by rw[I,br,L.out];rfl
  have K:=D.out o cs q A (by rw[br,L.out] at C;exact C);have c:=hi9 (gi E.own A eX);rw[K] at c;have N:=hi9 (GB.fresh HG.out F (aI _));clear K C F E I s X HO D;go_wp2_with fail;refine eW c.out ?_;rintro e w3 ⟨v1,rfl,R,U⟩;go_wp2_with fail;go_ret;exact⟨v1,rfl,ab N.out R,U⟩
theorem q39 (w:World) (va vb:Value) (a b K:Nat) (M:K≤1040000) (I:Num w va a) (hb:Num w vb b) (A:a<2^(64*K)) (B:b<2^(64*K)):
  Calls Tryz.prog 90 #[va,vb] w (fo w (a+b)):=by
 obtain⟨l,E,C,rfl⟩:=I;obtain⟨m,F,D,rfl⟩:=hb;have J:=fg C A;have L:=fg D B;by_cases h:m.length≤l.length
 ·exact oJ w va vb l m false E F h eX fX
 ·rw[cR];exact oJ w vb va m l true F E eX eX (fun _=>by omega)
end Go.Proofs.YtohcneeihdkfgaaGreatDoor.EN
