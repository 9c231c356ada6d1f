/- What is proved here: contracts of package exact: 'copy' into a row of our own, plus, over this seat's translation. -/
import Derived.Test.YtbfjihniphldaaaGreatDoorC14
import Derived.Test.YtbfjihniphldaaaGreatDoorC12
import Derived.Laws.IdiomCopy
namespace Go.Proofs.YtbfjihniphldaaaGreatDoor.EN
open Go.ChangeShapes Go.WideShapes Go.ChangeAt Go.RowKit
/-- Words laid over a row of our own. -/
theorem Own.cells {w:World} {b:Nat}:∀ {m l:List Nat} {o:Nat},Own w b l→okw m→o+m.length≤l.length→
  Own (w.setCells b o (m.map fun d=> .int .u64 (d:Nat))) b (l.take o++(m++l.drop (o+m.length))):=by
 intro m
 induction m generalizing w with
 |nil=>intro l o h _ _;simpa [World.setCells] using h
 |cons d m ih=>
  intro l o h hm hl;obtain⟨hd,hm'⟩:=okw_cons.1 hm;simp only[List.length_cons] at hl;have h1:=Own.set h o d (by omega) hd;have h2:=ih (l:=l.set o d) (o:=o+1) h1 hm' (by rw[List.length_set];omega);rw[List.map_cons];simp only[World.setCells];have e:(l.set o d).take (o+1)++(m++(l.set o d).drop (o+1+m.length))=l.take o++(d::m++l.drop (o+(m.length+1))):=by
   rw[q1n (by rw[List.length_set];omega),q0H,q0g (by omega),List.drop_set_of_lt (by omega)];simp [Nat.add_comm,Nat.add_left_comm]
  rw[List.length_cons,← e];exact h2
theorem G.setCells {w0:World} {b:Nat} (hb:w0.heap.size≤b):∀ (cs:List Value) (w:World) (o:Nat),G w0 w→G w0 (w.setCells b o cs)
 |[],_,_,h=>h
 |v::cs,_,o,h=>G.setCells hb cs _ _ (Go.Proofs.YtbfjihniphldaaaGreatDoor.G.setCell h (p:=⟨b,o,none⟩) hb v)
theorem addr_add (b o j:Nat):((⟨b,o,none⟩:Addr).add j)=⟨b,o+j,none⟩:=Addr.add_lit ..
theorem q2B {w:World} {b o:Nat} {l:List Nat} (h:Row w b o l):∀ j v,(l.map fun d=>Value.int .u64 (d:Nat))[j]? =some v→w.cell? ((⟨b,o,none⟩:Addr).add j)=some v:=by
 intro j u hj;rw[List.getElem?_map] at hj;obtain⟨d,hd,rfl⟩:=Option.map_eq_some_iff.1 hj;have:=h j (List.getElem?_eq_some_iff.1 hd).1;rw[List.getD_eq_getElem?_getD,hd] at this;rw[addr_add];exact this
theorem q2J (l:List Nat):∀ u∈(l.map fun d=>Value.int .u64 (d:Nat)),u.oneCell'=true:=by
 intro u hu;obtain⟨d,-,rfl⟩:=List.mem_map.1 hu;rfl
/-- 'copy' of a slice to the beginning of a row of our own that is newer than w0. -/
theorem q6n {w0 w:World} {b n:Nat} {zs l:List Nat} {va:Value} (h:Own w b zs) (hz:zs.length=n) (ha:Sl w va l) (hl:l.length≤n) (g:G w0 w) (hb:w0.heap.size≤b) (ty:TypeId):
  ∃ w',(Builtin.copy_ #[26,26] ty #[.slice (some ⟨b,0,none⟩) n n,va]).run Tryz.prog w= .ok (goInt l.length) w'∧Own w' b (l++zs.drop l.length)∧G w0 w':=by
 have hok:=ha.1;rcases Sl.cases ha with ⟨rfl,a,c,rfl⟩|⟨hne,b1,o1,c1,rfl,hc1,hb1,hr1⟩
 ·exact⟨w,run_copy_none w 26 26 ty 85 _ _ _ _ _ _ Tryz.underlying26 (by kernel_rfl) (by simp),h,g⟩
 ·have hc:=Own.cells (o:=0) h hok (by omega);rw[List.take_zero,List.nil_append,Nat.zero_add] at hc;have hrun:=run_copy_cells (P:=Tryz.prog) w 26 26 ty 85 b 0 n n ⟨b1,o1,none⟩ l.length c1 (l.map fun d=> .int .u64 (d:Nat)) Tryz.underlying26 (by kernel_rfl)
   (by rw[List.length_map];exact(Nat.min_eq_left hl).symm) (q2B hr1)
   (fun i hi=>by rw[List.length_map] at hi;rw[Nat.zero_add,Own.cell h (by omega)];rfl)
   (fun i hi=>by rw[List.length_map] at hi;rw[Nat.zero_add];exact Own.frozen h (by omega)) (q2J l)
  rw[List.length_map] at hrun;exact⟨_,hrun,hc,G.setCells hb _ _ _ g⟩
theorem q4Z (w:World) (va vb:Value) (l m:List Nat) (swap:Bool) (hl:Sl w va l) (hm:Sl w vb m) (hlen:m.length≤l.length) (hll:l.length≤1040000) (hsw:swap=true→m.length<l.length):
  Calls Tryz.prog 122 (if swap then #[vb,va] else #[va,vb]) w (q0e w (val l+val m)):=by
 have HL:Hid _:=hl;have HM:Hid _:=hm;obtain⟨pa,ca,rfl,dL,-⟩:=q0n hl;obtain⟨pb,cb,rfl,hcb,-⟩:=q0n hm;clear hl hm;generalize hn:l.length=n at hlen hll hsw dL;generalize hj:m.length=j at hlen hsw hcb;have HN:Hid _:=hn;have HJ:Hid _:=hj;have HL2:Hid (Sl w (.slice pa n ca) l):=by rw[← hn];exact HL.out
 have qH:Hid (Sl w (.slice pb j cb) m):=by rw[← hj];exact HM.out
 clear hn hj HL HM;have hmk:=q1e (n+1) (by omega);rw[show ((n+1:Nat):Int)=(n:Int)+1 from by omega] at hmk;have wD:Hid _:=q0C w (n+1) 85;have hgm:G w (w.alloc (.cells (madeCells #[.int .u64 0] (n+1)) 85)):=(G.refl _).alloc _;obtain⟨w1,hrun,hown,hG⟩:=q6n (n:=n+1) (va:= .slice pa n ca) wD.out (by simp) (HL2.out.G hgm) (by rw[HN.out];omega) hgm (Nat.le_refl _) 3;rw[HN.out] at hrun hown;have hd1:(List.replicate (n+1) 0).drop n=[0]:=by rw[List.drop_replicate,show n+1-n=1 from by omega];rfl
 rw[hd1] at hown;have HO:Hid _:=hown;have HG:Hid _:=hG;have zU:(l++[0]).length=n+1:=by rw[List.length_append,HN.out];rfl
 have hmz:∀ b2 o2 n2 c2,Value.slice pb j cb= .slice (some ⟨b2,o2,none⟩) n2 c2→m≠[]→b2≠w.heap.size:=by
  intro b2 o2 n2 c2 e hne;rcases qH.out.2 with ⟨h,-⟩|⟨b3,o3,c3,e3,-,h3,-⟩
  ·exact absurd h hne
  ·rw[e] at e3;injection e3 with e4;injection e4 with e5;injection e5 with e6;omega
 have HK:Hid _:=q81 w1 w.heap.size 0 (n+1) (.slice pb j cb) (l++[0]) m hown.at (by omega) (qH.out.G hG) hmz (by rw[zU,HJ.out];omega) (by omega);have hv:val (l++[0])=val l:=by rw[val_append,q1h,Nat.mul_zero,Nat.add_zero]
 rw[zU,hv] at HK;have HFin:Hid (∀ (w2:World) (cs:List Nat) (q:Nat),cs.length=n+1→val cs+2^(64*(n+1))*q=val l+val m→val cs=val l+val m):=by
  intro w2 cs q h1 h2;have h3:=q0v HL2.out.1;have h4:=q0v qH.out.1;rw[HN.out] at h3;rw[HJ.out] at h4;have h5:2^(64*j)≤2^(64*n):=Nat.pow_le_pow_right (by omega) (by omega);have h6:2^(64*(n+1))=2^(64*n)*2^64:=by rw[← Nat.pow_add];rfl
  have h7:q=0:=by
   apply Classical.byContradiction;intro hq;have:2^(64*(n+1))*1≤2^(64*(n+1))*q:=Nat.mul_le_mul_left _ (by omega);omega
  rw[h7] at h2;omega
 clear hmz hown hG hd1 wD hgm hv zU;cases swap
 ·show Calls Tryz.prog 122 #[_,_] w _;have t0:¬ (n:Int)<j:=by omega
  go_enter Tryz.func122,Tryz.ntmps122;go_wp2_with fail;refine q00 HK.out ?_;rintro e w2 ⟨cs,q,rfl,hq,hcl,hAt,fD,hcv⟩;have iD:cs.length=n+1:=by rw[hcl,List.length_append,HN.out];rfl
  have hvs:=HFin.out w2 cs q iD (by rw[List.length_append,HN.out] at hcv;exact hcv);have hT:Hid _:=q0G hAt.own iD (by omega);rw[hvs] at hT;have zT:Hid _:=GB.fresh HG.out fD (Nat.le_refl _);clear hvs hcv fD hAt hcl hq HK HO HFin;go_wp2_with fail;refine q00 hT.out ?_;rintro e w3 ⟨v1,rfl,hb1,hn1⟩;go_wp2_with fail;go_ret;exact⟨v1,rfl,G.trans zT.out hb1,hn1⟩
 ·show Calls Tryz.prog 122 #[_,_] w _;have t0:(j:Int)<n:=by have:=hsw rfl;omega
  go_enter Tryz.func122,Tryz.ntmps122;go_wp2_with fail;refine q00 HK.out ?_;rintro e w2 ⟨cs,q,rfl,hq,hcl,hAt,fD,hcv⟩;have iD:cs.length=n+1:=by rw[hcl,List.length_append,HN.out];rfl
  have hvs:=HFin.out w2 cs q iD (by rw[List.length_append,HN.out] at hcv;exact hcv);have hT:Hid _:=q0G hAt.own iD (by omega);rw[hvs] at hT;have zT:Hid _:=GB.fresh HG.out fD (Nat.le_refl _);clear hvs hcv fD hAt hcl hq HK HO HFin;go_wp2_with fail;refine q00 hT.out ?_;rintro e w3 ⟨v1,rfl,hb1,hn1⟩;go_wp2_with fail;go_ret;exact⟨v1,rfl,G.trans zT.out hb1,hn1⟩
theorem q9q (w:World) (va vb:Value) (a b K:Nat) (hK:K≤1040000) (ha:Num w va a) (hb:Num w vb b) (ha2:a<2^(64*K)) (hb2:b<2^(64*K)):
  Calls Tryz.prog 122 #[va,vb] w (q0e w (a+b)):=by
 obtain⟨l,hl,hcl,rfl⟩:=ha;obtain⟨m,hm,hcm,rfl⟩:=hb;have hll:=q06 hcl ha2;have pR:=q06 hcm hb2;by_cases h:m.length≤l.length
 ·exact q4Z w va vb l m false hl hm h (by omega) (by simp)
 ·rw[Nat.add_comm];exact q4Z w vb va m l true hm hl (by omega) (by omega) (fun _=>by omega)
end Go.Proofs.YtbfjihniphldaaaGreatDoor.EN
