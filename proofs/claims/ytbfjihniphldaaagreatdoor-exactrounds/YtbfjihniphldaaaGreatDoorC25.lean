/- What is proved here: contracts of the reference's big numbers: div, word by word from above, over this seat's translation. -/
import Derived.Test.YtbfjihniphldaaaGreatDoorC14
import Derived.Test.YtbfjihniphldaaaGreatDoorC9
namespace Go.Proofs.YtbfjihniphldaaaGreatDoor
open Go.ChangeShapes Go.WideShapes Go.ChangeAt Go.RowKit
open BN
/-- A call hands back the canonical slices of two numbers. -/
def q2j (w:World) (x y:Nat) (e:Ending) (w':World):Prop:=∃ v u,e= .returned (.tuple #[v,u])∧G w w'∧Num w' v x∧Num w' u y
/-- A slice of n words whose number has its highest bit. -/
theorem qaz {w:World} {v:Value} {V n0:Nat} (h:Num w v V) (h1:2^(32*(n0+1)+31)≤V) (h2:V<2^(32*(n0+1+1))):
  ∃ (b o c:Nat) (l:List Nat),v= .slice (some ⟨b,o,none⟩) (n0+2:Nat) c∧n0+2≤c∧b<w.heap.size∧okw l∧l.length=n0+2∧val l=V∧Row w b o l∧2^31≤l.getD (n0+1) 0:=by
 obtain⟨l,hl,hc,rfl⟩:=h;have h3:=q06 hc h2;have h4:=q0v hc.1;have h5:2^(32*(n0+1))<2^(32*l.length):=Nat.lt_of_le_of_lt (Nat.le_trans (Nat.pow_le_pow_right (by omega) (by omega)) h1) h4;have h6:=(Nat.pow_lt_pow_iff_right (by omega:1<2)).1 h5;have h7:l.length=n0+2:=by omega
 rcases Sl.cases hl with ⟨rfl,-⟩|⟨-,b,o,c,rfl,hcc,hb,hr⟩
 ·simp at h7
 ·refine⟨b,o,c,l,by rw[h7],by omega,hb,hc.1,h7,rfl,hr,?_⟩;have h8:=q0t (l:=l) (k:=n0+1) (by omega);rw[List.drop_eq_nil_of_le (by omega)] at h8;simp only[val,Nat.mul_zero,Nat.add_zero] at h8;have h9:=q0u hc.1 (n0+1) (by omega);rw[Nat.pow_add] at h1;rcases Nat.lt_or_ge (l.getD (n0+1) 0) (2^31) with h|h
  ·exfalso;have:2^(32*(n0+1))*(l.getD (n0+1) 0+1)≤2^(32*(n0+1))*2^31:=Nat.mul_le_mul_left _ h;rw[Nat.mul_add,Nat.mul_one] at this;omega
  ·exact h
theorem qaY {w:World} {v:Value} {V:Nat} (h:Num w v V) (h0:V≠0) (k:Nat) (hk:V<2^(32*k)):
  ∃ (b o c:Nat) (l:List Nat),v= .slice (some ⟨b,o,none⟩) l.length c∧l.length≤c∧b<w.heap.size∧okw l∧l.length≤k∧val l=V∧Row w b o l:=by
 obtain⟨l,hl,hc,rfl⟩:=h;rcases Sl.cases hl with ⟨rfl,-⟩|⟨-,b,o,c,rfl,hcc,hb,hr⟩
 ·exact absurd rfl h0
 ·exact⟨b,o,c,l,rfl,hcc,hb,hc.1,q06 hc hk,rfl,hr⟩
theorem q2B {w:World} {b o:Nat} {l:List Nat} (h:Row w b o l):∀ j v,(l.map fun d=>Value.int .u32 (d:Nat))[j]? =some v→w.cell? ((⟨b,o,none⟩:Addr).add j)=some v:=by
 intro j u hj;rw[List.getElem?_map] at hj;obtain⟨d,hd,rfl⟩:=Option.map_eq_some_iff.1 hj;have:=h j (List.getElem?_eq_some_iff.1 hd).1;rw[List.getD_eq_getElem?_getD,hd] at this;rw[addr_add];exact this
theorem q2J (l:List Nat):∀ u∈(l.map fun d=>Value.int .u32 (d:Nat)),u.oneCell'=true:=by
 intro u hu;obtain⟨d,-,rfl⟩:=List.mem_map.1 hu;rfl
theorem Row.setCells {b o c:Nat} {l:List Nat} (hb:b≠c):∀ (cs:List Value) (w:World) (i:Nat),Row w b o l→Row (w.setCells c i cs) b o l
 |[],_,_,h=>h
 |v::cs,_,i,h=>Row.setCells hb cs _ _ (h.set (i:=i) (u:=v) hb)
set_option maxRecDepth 10000 in
set_option maxHeartbeats 8000000 in
theorem q89 (w:World) (va vb:Value) (a b K:Nat) (hK:K≤300000) (ha:Num w va a) (hb:Num w vb b) (ha2:a<2^(32*K)) (gX:b≤a) (hbig:2^64≤a) (hb2:2^32≤b):
  Calls Tryz.prog 175 #[va,vb] w (q2j w (a/b) (a%b)):=by
 have hA':=ha;have hB':=hb;obtain⟨l,hl,hcl,hvl⟩:=ha;obtain⟨m,hm,hcm,iG⟩:=hb;have hll:=q06 hcl (hvl▸ha2);have hl2:2<l.length:=by
  rcases Nat.lt_or_ge 2 l.length with h|h
  ·exact h
  ·have h1:=q0v hcl.1;have h2:2^(32*l.length)≤2^64:=Nat.pow_le_pow_right (by omega) (by omega);omega
 have hm2:1<m.length:=by
  rcases Nat.lt_or_ge 1 m.length with h|h
  ·exact h
  ·have h1:=q0v hcm.1;have h2:2^(32*m.length)≤2^32:=Nat.pow_le_pow_right (by omega) (by omega);omega
 have pR:m.length≤l.length:=by
  rcases Nat.lt_or_ge l.length m.length with h|h
  ·have:=q0J hcl hcm h;omega
  ·exact h
 obtain⟨n0,hn0⟩:∃ n0,m.length=n0+2:=⟨m.length-2,by omega⟩;obtain⟨k,hk1,hk2,hkb,hV1,hV2⟩:=q3h hcm (n:=n0+1) (by omega);obtain⟨pa,ca,rfl,dL,hra⟩:=q0n hl;obtain⟨pb,cb,rfl,hcb,hrb⟩:=q0n hm;have jf:Hid _:=q2H w _ _ a b K (by omega) hA' hB' ha2 (by omega);have HLen:Hid (∀ w1,G w w1→_):=fun w1 g=>q45 w1 _ b K (by omega) (hB'.G g) (by omega);have FU:Hid (∀ w1,G w w1→_):=fun w1 g=>q21 w1 _ b (32-k) K (by omega) (by omega) (hB'.G g) (by omega);have FV:Hid (∀ w1,G w w1→_):=fun w1 g=>q21 w1 _ a (32-k) K (by omega) (by omega) (hA'.G g) ha2;rw[iG] at hkb hV1 hV2;have hc:decide (cmpV a b<0)=false:=by rw[decide_eq_false_iff_not];unfold cmpV;rw[if_neg (by omega)];split<;>omega
 generalize cmpV a b=cv at *;generalize hjl:l.length=j at *;generalize hjn:m.length=n at *;rw[hkb] at HLen;have HA:Hid _:=hra;have HB:Hid _:=hrb;have HJ:Hid _:=hjl;have Ct:Hid _:=hcl;have HCM:Hid _:=hcm;have kv:Hid _:=hvl;have Ps:Hid _:=iG;have cZ:Hid _:=hn0;have U4:Hid _:=hjn;have Pt:(2:Int)≤n:=by omega
 have MN:Hid _:=gX;have HA2:Hid _:=ha2;have Cq:Hid _:=hA';have uz:Hid _:=hB';have t1:decide ((j:Int)≤2)=false:=by simp;omega
 have t2:((n:Int)==0)=false:=by simp;omega
 have t3:((n:Int)==1)=false:=by simp;omega
 have hjb:(j:Int)≤300000:=by omega
 have hnb:(n:Int)≤j:=by omega
 have IB:(1:Int)≤k:=by omega
 have hkb2:(k:Int)≤32:=by omega
 obtain⟨mm,hmm⟩:∃ mm,j+1=n+mm:=⟨j+1-n,by omega⟩;have hm1:(j:Int)+2-n-1=mm:=by omega
 have Pv:(1:Int)≤mm:=by omega
 have Pw:(mm:Int)≤300000:=by omega
 have IC:=q1e (j+2) (by omega);rw[show ((j+2:Nat):Int)=(j:Int)+2 from by omega] at IC;have yN:=q1e (mm+1) (by omega);rw[show ((mm+1:Nat):Int)=(mm:Int)+1 from by omega] at yN;have Cu:Hid _:=hmm;obtain⟨e,he⟩:∃ e:Nat,e=32-k:=⟨_,rfl⟩;rw[← he] at FV FU hV1 hV2;have hs:32-((((32*(n0+1)+k:Nat):Int)-1)%32)-1=e:=by omega
 have U5:(e:Int)≤31:=by omega
 have FK:((32*(n0+1)+k:Nat):Int)≤20000000:=by omega
 have Px:(1:Int)≤((32*(n0+1)+k:Nat):Int):=by omega
 generalize 32*(n0+1)+k=L at *;have oK:Hid _:=hV1;have vv:Hid _:=hV2
 have hae:a*2^e≠0:=by have:=Nat.two_pow_pos e;have:0<a:=by omega
                      exact Nat.pos_iff_ne_zero.1 (Nat.mul_pos this (by assumption))
 have haj:a*2^e<2^(32*(j+1)):=by
  have h1:=q0v hcl.1;rw[hvl,hjl] at h1;have h2:a*2^e<2^(32*j)*2^e:=Nat.mul_lt_mul_of_pos_right h1 (Nat.two_pow_pos _);have h3:2^(32*j)*2^e≤2^(32*(j+1)):=by rw[← Nat.pow_add];exact Nat.pow_le_pow_right (by omega) (by omega)
  omega
 have jU:Hid _:=hae;have HB0:Hid (0<b):=Nat.lt_of_lt_of_le (by omega) hb2;have MO:Hid _:=haj;have IE:Hid (a*2^e<2^(32*(n0+1+(mm+1)))):=by
  have h1:j+1=n0+1+(mm+1):=by omega
  rw[h1] at haj;exact haj
 clear hae haj;clear hV1 hV2 hra hrb hjl hcl hcm hvl iG hn0 hjn gX ha2 hA' hB' hl hm hkb hK hbig hb2 hll hl2 hm2 pR hk1 hk2 hmm he IB hkb2;clear Ct HCM kv Ps Cq uz;go_enter Tryz.func175,Tryz.ntmps175;go_wp2_with fail;refine q00 jf.out ?_;rintro e1 w1 ⟨rfl,hg1⟩;go_wp2_with fail;refine q00 (HLen.out w1 hg1) ?_;rintro e1 w2 ⟨rfl,hg2⟩;have hG2:=G.trans hg1 hg2;go_wp2_with fail;refine q00 (FU.out w2 hG2) ?_;rintro e1 w3 ⟨v1,rfl,hg3,iF⟩;obtain⟨bv,ov,U6,vl,rfl,Py,hvb,MP,wB,hvv,uB,wC⟩:=qaz iF oK.out vv.out;rw[← cZ.out] at Py;rw[← cZ.out];have hG3:=G.trans hG2 hg3;have MQ:Hid _:=uB;have yO:Hid _:=MP;have kv:Hid _:=wB;have vw:Hid _:=hvv;have FW:Hid _:=wC;clear uB MP wB hvv wC iF hg1 hg2 hg3 hG2;go_wp2_with fail;have hgm:G w3 (w3.alloc (.cells (madeCells #[.int .u32 0] (j+2)) 187)):=(G.refl _).alloc _;have wD:Hid _:=q0C w3 (j+2) 187;have hle:w.heap.size≤w3.heap.size:=hG3.size;refine q00 (FV.out _ (G.trans hG3 hgm)) ?_;rintro e1 w4 ⟨v2,rfl,hg4,uo⟩;have rR:Hid (Own w4 w3.heap.size (List.replicate (j+2) 0)):=Own.grow wD.out hg4;have hG4:G w w4:=G.trans (G.trans hG3 hgm) hg4;have Cv:Hid (Row w4 bv ov vl):=Row.G (l:=vl) MQ.out hvb (G.trans hgm hg4);clear hgm hg4 wD hG3;generalize w3.heap.size=bu at *;obtain⟨bl,ol,cl,la,rfl,hlc,hlb,hlo,hlj,hlv,hlr⟩:=qaY uo (jU.out) (j+1) MO.out;obtain⟨cs,hcs⟩:∃ cs,cs=la.map (fun d=>Value.int .u32 (d:Nat)):=⟨_,rfl⟩;have hcl:cs.length=la.length:=by rw[hcs,List.length_map]
 have hsrc:=q2B hlr;have h1c:=q2J la;rw[← hcs] at hsrc h1c;have FX:Hid _:=Own.cells (o:=0) rR.out hlo (by simp;omega);rw[← hcs] at FX;have hccell:∀ i,i<cs.length→(w4.cell? ⟨bu,0+i,none⟩).isSome=true:=fun i hi=>by
  rw[Nat.zero_add,Own.cell (l:=List.replicate (j+2) 0) rR.out (by simp;omega)];rfl
 have wE:∀ i,i<cs.length→w4.frozen? ⟨bu,0+i,none⟩=false:=fun i hi=>by
  rw[Nat.zero_add];exact Own.frozen (l:=List.replicate (j+2) 0) rR.out (by simp;omega)
 have hmin:cs.length=Nat.min la.length (j+2):=by rw[hcl];exact(Nat.min_eq_left (by omega)).symm
 have hval:val ((List.replicate (j+2) 0).take 0++(la++(List.replicate (j+2) 0).drop (0+la.length)))=a*2^e:=by
  rw[List.take_zero,List.nil_append,val_append,List.drop_replicate,q1Q,hlv];simp
 have hlen:((List.replicate (j+2) 0).take 0++(la++(List.replicate (j+2) 0).drop (0+la.length))).length=j+2:=by simp;omega
 generalize (List.replicate (j+2) 0).take 0++(la++(List.replicate (j+2) 0).drop (0+la.length))=us at *;have hrun:=run_copy_cells (P:=Tryz.prog) w4 36 36 3 187 bu 0 (j+2) (j+2) ⟨bl,ol,none⟩ la.length cl cs Tryz.underlying36 (by kernel_rfl) hmin hsrc hccell wE h1c;have bV:G w (w4.setCells bu 0 cs):=G.setCells hle cs _ _ hG4;have Cw:Hid (Row (w4.setCells bu 0 cs) bv ov vl):=Row.setCells (by omega) cs _ _ Cv.out;generalize mG:w4.setCells bu 0 cs=w5 at *;have MR:Hid _:=hval;have kN:Hid _:=hlen;clear uo hlc hlb hlo hlj hlv hlr hcs hcl hsrc h1c hccell wE hmin hval hlen hG4 Cv rR MQ MO jU mG;go_wp2_with fail;have wF:Hid _:=q0C w5 (mm+1) 187;have FY:G w5 (w5.alloc (.cells (madeCells #[.int .u32 0] (mm+1)) 187)):=(G.refl _).alloc _;have yP:bu<w5.heap.size:=(FX.out:Own w5 bu us).2.1;have jm:Hid (DS w _ bu w5.heap.size bv ov us (List.replicate (mm+1) 0) vl):=DS.mk (G.trans bV FY) hle hvb yP (Own.grow FX.out FY) wF.out (Row.G (l:=vl) Cw.out (by omega) FY);generalize w5.heap.size=bq at *;have hsz:bq<(w5.alloc (.cells (madeCells #[.int .u32 0] (mm+1)) 187)).heap.size:=(jm.out:DS w _ bu bq bv ov us (List.replicate (mm+1) 0) vl).q.2.1;generalize w5.alloc (.cells (madeCells #[.int .u32 0] (mm+1)) 187)=w6 at *;have Pz:bu<bq:=yP;clear wF FY FX Cw bV yP;obtain⟨p1,hp1⟩:∃ p1,p1=n0+1:=⟨_,rfl⟩;have hn1:(n:Int)-1=p1:=by have:=cZ.out;omega
 have hn2:(n:Int)-2=n0:=by have:=cZ.out;omega
 have iR:Hid _:=hp1;have hct:w6.cell? ⟨bv,ov+p1,none⟩=some (.int .u32 (vl.getD p1 0:Nat)):=DS.cv (vl:=vl) jm.out (by rw[kv.out,hp1];omega);have hcn:w6.cell? ⟨bv,ov+n0,none⟩=some (.int .u32 (vl.getD n0 0:Nat)):=DS.cv (vl:=vl) jm.out (by rw[kv.out];omega);have hto:vl.getD p1 0<2^32:=q05 yO.out p1;have hno:vl.getD n0 0<2^32:=q05 yO.out n0;have df:2^31≤vl.getD p1 0:=by rw[hp1];exact FW.out
 have MS:Hid (∀ us jj,okw us→jj+n0+2<us.length→val us<2^(32*(jj+1))*(b*2^e)→_):=fun us jj h1 h2 h3=>q5w h1 yO.out kv.out vw.out h2 h3;clear FW;rw[← hp1] at MS;have hpn:p1<n:=by have:=cZ.out;omega
 have PD:n0<n:=by have:=cZ.out;omega
 clear hp1;generalize htop:vl.getD p1 0=top at *;generalize hnext:vl.getD n0 0=next at *
 clear htop hnext;have htop:(2147483648:Int)≤top:=by omega
 have MU:(top:Int)≤4294967295:=by omega
 have IG:(next:Int)≤4294967295:=by omega
 have MV:((top:Int)==0)=false:=by simp;omega
 clear hto hno df;have gp:bv<w6.heap.size:=by omega
 refine q0f (by kernel_rfl) (by kernel_rfl) ?_;intro W hW;have hq1:=q08 (w:=W) (a:=⟨bv,ov+p1,none⟩) (x:= .int .u32 (top:Int)) (by rw[hW];first|(simp;done)|(simp;omega)|omega) (by rw[hW];first|assumption|(simp [go_sem];done)|(simp [*,go_sem];done));have hq2:=q08 (w:=W) (a:=⟨bv,ov+n0,none⟩) (x:= .int .u32 (next:Int)) (by rw[hW];first|(simp;done)|(simp;omega)|omega) (by rw[hW];first|assumption|(simp [go_sem];done)|(simp [*,go_sem];done));clear hW
 repeat (go_big_quiet_step (fail))
 refine wpQuiet_nil ?_;clear hq1 hq2;intro w7 hw7;have HD7:Hid (DS w w7 bu bq bv ov us (List.replicate (mm+1) 0) vl):=DS.grow jm.out hw7;have HIS:Hid _:=DInv.start (n0:=n0) (M:=mm+1) kN.out MR.out IE.out oK.out;clear hct hcn jm hw7 hsz gp;go_wp2_with fail
 go_loopw [18] (fun vj wr=>∃ (t:Nat) (us qs:List Nat),t≤mm+1∧vj= .int .i64 ((t:Int)-1)∧DS w wr bu bq bv ov us qs vl∧DInv us qs t (j+2) (mm+1) (b*2^e) (a*2^e)) (fun vj _=>(intOf vj+1).toNat)
 case atStart=>exact⟨mm+1,us,_,Nat.le_refl _,by congr 1;omega,HD7.out,HIS.out⟩
 case round=>
  obtain⟨t,us,qs,ht,rfl,hds,hinv⟩:=hrel;have jm:Hid _:=hds;have jC:Hid _:=hinv;clear hds hinv HD7 HIS kN MR;cases t with
  |zero=>
   as_aux_lemma=>
    have hfin:=DInv.fin jC.out (Nat.two_pow_pos e) HB0.out;obtain⟨hq2,hr2⟩:=hfin;have PE:Hid (∀ w1,G wr w1→Calls Tryz.prog 176 #[.slice (some ⟨bq,0,none⟩) (mm+1) (mm+1)] w1 (q0e w1 (a/b))):=fun w1 g=>by
     rw[← hq2];exact q0G (Own.grow (DS.q jm.out) g) jC.out.2.1 (by omega)
    have PG:Hid (∀ w1,G wr w1→Calls Tryz.prog 176 #[.slice (some ⟨bu,0,none⟩) (j+2) (j+2)] w1 (q0e w1 (val us))):=fun w1 g=>q0G (Own.grow (DS.u jm.out) g) jC.out.1 (by omega);have um:Hid (∀ w1 v,Num w1 v (val us)→Calls Tryz.prog 173 #[v,.int .u64 (e:Int)] w1 (q0e w1 (a%b))):=fun w1 v hn=>by
     rw[← hr2];exact q1b w1 v (val us) e (j+2) (by omega) (by omega) hn (by have:=q0v (DS.u jm.out:Own wr bu us).1;rwa[jC.out.1] at this)
    have hgw:=jm.out.g;have Au:Hid _:=hgw;clear hq2 hr2 hgw FV FU HLen jf HA HB;go_wp2_with fail;refine q00 (PE.out wr (G.refl _)) ?_;rintro e1 w1 ⟨v1,rfl,hg1,hn1⟩;go_wp2_with fail;refine q00 (PG.out w1 hg1) ?_;rintro e1 w2 ⟨v2,rfl,hg2,hn2⟩;go_wp2_with fail;refine q00 (um.out w2 v2 hn2) ?_;rintro e1 w3 ⟨v3,rfl,hg3,iF⟩;go_wp2_with fail
    go_ret2
    exact⟨_,_,rfl,G.trans Au.out (G.trans hg1 (G.trans hg2 hg3)),hn1.G (G.trans hg2 hg3),iF⟩
  |succ jj=>
   have oL:us.length=j+2:=jC.out.1;have Cx:qs.length=mm+1:=jC.out.2.1;have hjm:jj+n0+2<j+2:=by have:=Cu.out;have:=cZ.out;omega
   have hJ:(jj:Int)+n-1=((jj+p1:Nat):Int):=by omega
   have hJ2:(jj:Int)+n-2=((jj+n0:Nat):Int):=by omega
   have PH:(jj:Int)≤300000:=by omega
   have II:jj+n<j+2:=by have:=cZ.out;omega
   have hjp:jj+p1<j+2:=by omega
   have PI:jj+n0<j+2:=by omega
   have rT:=(DS.u jm.out:Own wr bu us).1;have hc0:=Own.cell (DS.u jm.out:Own wr bu us) (i:=jj+n) (by omega);have hc1:=Own.cell (DS.u jm.out:Own wr bu us) (i:=jj+p1) (by omega);have hc2:=Own.cell (DS.u jm.out:Own wr bu us) (i:=jj+n0) (by omega);have hx0:=q05 rT (jj+n);have hx1:=q05 rT (jj+p1);have hx2:=q05 rT (jj+n0);have hF:=MS.out us jj rT (by omega) jC.out.2.2.1;rw[show jj+n0+2=jj+n from by have:=cZ.out;omega,show jj+n0+1=jj+p1 from by have:=iR.out;omega] at hF;obtain⟨hf1,hf2,hf3,MW,IJ,IK,MX⟩:=hF;generalize us.getD (jj+n) 0=u0 at *;generalize us.getD (jj+p1) 0=u1 at *;generalize hu2:us.getD (jj+n0) 0=u2 at *;have AO:Hid _:=hu2;clear hu2;obtain⟨h,g0,r0,hw1,hh,hw2,hw3,hg0,Cy,hr0,Cz⟩:=qaA u0 u1 top hx0 hx1 (by omega) hf1;have hS0:val us<(g0+1)*(2^(32*jj)*(b*2^e)):=by
    rw[hg0];refine qbp (u2:=u2) (P:=2^(32*(jj+n0))) (by rw[hh];exact IJ) hx2 (Nat.le_trans (Nat.mul_le_mul_right _ (by omega)) IK) (by omega)
   have AP:Hid (val us<(g0+1)*(2^(32*jj)*(b*2^e))):=hS0;have yQ:Hid _:=hf1;have MZ:Hid _:=hf2;have yR:Hid _:=hf3;have CB:Hid _:=MW;have N7:Hid _:=IJ;have IL:Hid _:=IK;have N8:Hid _:=MX;have HH:Hid _:=hh;have N9:Hid _:=Cy;have PK:(u0:Int)≤4294967295:=by omega
   have PL:(u1:Int)≤4294967295:=by omega
   have PM:(u2:Int)≤4294967295:=by omega
   have IM:(r0:Int)<top:=by omega
   have yS:Hid (u1<2^32):=hx1;have IP:Hid (u2<2^32):=hx2;have IQ:Hid (g0≤4294967297):=Cz;have l6:Hid (jj+n<j+2):=II;have kN:Hid _:=oL;have uS:Hid _:=Cx;have hbw:bu<wr.heap.size:=(DS.u jm.out:Own wr bu us).2.1;clear hS0 hf1 hf2 hf3 MW IJ IK MX hh Cy hg0 hx0 hx1 hx2 hr0 Cz rT hjm;clear FV FU HLen jf HA HB;go_wp2_with fail;refine q0f (by kernel_rfl) (by kernel_rfl) ?_;intro W hW;have hq3:=q08 (w:=W) (a:=⟨bu,jj+n,none⟩) (x:= .int .u32 (u0:Int)) (by rw[hW];first|(simp;done)|(simp;omega)|omega) (by rw[hW];first|assumption|(simp [go_sem];done)|(simp [*,go_sem];done));have hq4:=q08 (w:=W) (a:=⟨bu,jj+p1,none⟩) (x:= .int .u32 (u1:Int)) (by rw[hW];first|(simp;done)|(simp;omega)|omega) (by rw[hW];first|assumption|(simp [go_sem];done)|(simp [*,go_sem];done));clear hW
   repeat (go_big_quiet_step (fail))
   refine wpQuiet_nil ?_;clear hq3 hq4;intro w8 hw8;have aW:Hid (DS w w8 bu bq bv ov us qs vl):=DS.grow jm.out hw8;have hc2':=hw8.cell (p:=⟨bu,jj+n0,none⟩) hbw hc2;clear hc0 hc1 hc2 hw8 jm;go_wp2_with fail;refine q0f (by kernel_rfl) (by kernel_rfl) ?_;intro W hW;clear hW
   repeat (go_big_quiet_step (fail))
   refine wpQuiet_nil ?_;intro w9 IU;have aZ:Hid (DS w w9 bu bq bv ov us qs vl):=DS.grow aW.out IU;have CE:bu<w8.heap.size:=(DS.u aW.out:Own w8 bu us).2.1;have hc2:=IU.cell (p:=⟨bu,jj+n0,none⟩) CE hc2';have IV:(r0:Int)≤4294967295:=by omega
   clear hc2' IU aW CE hc2 hbw hw1 hw2;have hgs0:GS (val us) (2^(32*jj)*(b*2^e)) h top g0 r0:=⟨N9.out,AP.out⟩;have CF:Hid _:=hgs0;have IW:r0<4294967296:=by omega
   clear hgs0;have HW2:Hid (4294967296*2^(32*(jj+n0))≤2^(32*jj)*(b*2^e)):=Nat.le_trans (Nat.mul_le_mul_right _ (by omega)) IL.out;have CG:Hid (∀ g r,g*top+r=h→g<2^32→g*next≤r*2^32+u2→g*(2^(32*jj)*(b*2^e))<val us+2^(32*jj)*(b*2^e)):=fun g r k1 k2 k3=>q79 (h:=h) (by rw[HH.out];exact CB.out) N8.out HW2.out k1 k2 k3;have IX:Hid (∀ g r,g*top+r=h→2^32≤r→g<2^32∧g*(2^(32*jj)*(b*2^e))<val us+2^(32*jj)*(b*2^e)):=fun g r k1 k2=>by
    obtain⟨k3,k4⟩:=q7J (u1:=u1) (u2:=u2) (next:=next) (by rw[HH.out];exact Nat.add_le_add_right (Nat.mul_le_mul_right _ yQ.out) _) yS.out k1 k2 (by omega);exact⟨k3,CG.out g r k1 k3 k4⟩
   have IY:Hid (∀ g,4294967295<g→val us<g*(2^(32*jj)*(b*2^e))):=fun g k1=>q5s yR.out (by omega);have IZ:Hid (∀ g r,g*top+r=h→r*2^32+u2<g*next→val us<g*(2^(32*jj)*(b*2^e))):=fun g r k1 k2=>q6V (P:=2^(32*(jj+n0))) (h:=h) (by rw[HH.out];exact N7.out) IL.out k1 k2;have mH:Hid (jj+n0+2<us.length):=by
    have h0:us.length=j+2:=kN.out;have h1:jj+n<j+2:=l6.out;have h2:n=n0+2:=cZ.out;show jj+n0+2<us.length;omega
   have hne1:¬ bu=bq:=by omega
   have hne2:¬ bq=bu:=by omega
   clear HW2 yQ yR CB N7 IL N8 HH N9 AP;go_wp2_with fail;simp only[hw3];clear hw3
   go_loopw [20,21] (fun vg vr wr=>∃ g r:Nat,vg= .int .u64 g∧vr= .int .u64 r∧g≤4294967297∧r<4294967296∧GS (val us) (2^(32*jj)*(b*2^e)) h top g r∧DS w wr bu bq bv ov us qs vl) (fun vg _ _=>(intOf vg).toNat)
   case atStart=>exact⟨g0,r0,rfl,rfl,IQ.out,by omega,CF.out,aZ.out⟩
   case round=>
    obtain⟨g,r,rfl,rfl,hgb,hrb,hgs,hds⟩:=hrel;have CJ:Hid _:=hgs;have jm:Hid _:=hds;clear hgs hds aZ CF IW IM IV;have hc2:wr.cell? ⟨bu,jj+n0,none⟩=some (.int .u32 (us.getD (jj+n0) 0:Nat)):=Own.cell (DS.u jm.out:Own wr bu us) (by have:=kN.out;omega);rw[AO.out] at hc2;have hgi:(g:Int)≤4294967297:=by omega
    have FZ:(r:Int)≤4294967295:=by omega
    have vB:decide ((4294967295:Int)<g)=decide (4294967295<g):=by congr 1;exact propext (by omega)
    have vC:decide ((4294967295:Int)<(r:Int)+top)=decide (4294967295<r+top):=by congr 1;exact propext (by omega)
    by_cases hg:4294967295<g
    case' neg=>
     rw[show decide (4294967295<g)=false from by simp;omega] at vB;have CK:g*next≤4294967295*4294967295:=Nat.mul_le_mul (by omega) (by omega)
     obtain⟨p,hp,hpi,hpe⟩:∃ p:Nat,(g:Int)*next=p∧(p:Int)≤18446744065119617025∧p=g*next:=⟨g*next,by push_cast;rfl,by omega,rfl⟩
     obtain⟨q,hq,hqe⟩:∃ q:Nat,bits .or .u64 ((r:Int)*4294967296) (u2:Int)=q∧q=r*2^32+u2:=⟨_,q94 r u2 (by omega) IP.out,rfl⟩;have qB:Hid _:=hpe;have qC:Hid _:=hqe;by_cases hpq:q<p
     case neg=>
      have CL:decide (q<p)=false:=by simp;omega
      have HT2:Hid (g*(2^(32*jj)*(b*2^e))<val us+2^(32*jj)*(b*2^e)):=CG.out g r CJ.out.1 (by omega) (by rw[← qB.out,← qC.out];omega);have HT1:Hid (val us<(g+1)*(2^(32*jj)*(b*2^e))):=CJ.out.2;have hgt:g<4294967296:=by omega
      clear CK hpe hqe hpq vC hg hgi;go_wp2_with fail;clear vB hp hq CL hpi hc2;obtain⟨gt,rU⟩:∃ gt:Nat,gt=g:=⟨g,rfl⟩;rw[← rU] at HT1 HT2 hgt ⊢;clear rU
      as_aux_lemma=>
       have J2:(gt:Int)≤4294967295:=by omega
       go_loopw [22,23,24] (fun vc vd vi w2=>∃ (i c d:Nat) (dx:List Nat),i≤n∧vi= .int .i64 i∧vc= .int .u64 c∧vd= .int .u64 d∧c<4294967296∧d≤1∧DS w w2 bu bq bv ov dx qs vl∧AW us dx vl jj n0 i gt c d) (fun _ _ vi _=>n-(intOf vi).toNat)
       case atStart=>exact⟨0,0,0,us,Nat.zero_le _,rfl,rfl,rfl,by omega,by omega,jm.out,AW.start MZ.out⟩
       case round=>
        obtain⟨i,c,d,dx,hi,rfl,rfl,rfl,hc,hd,hds,haw⟩:=hrel;have HD2:Hid (DS w wr bu bq bv ov dx qs vl):=hds;have yT:Hid _:=haw;have hl2:dx.length=j+2:=haw.1.trans kN.out;clear hds haw jm;have hci:(c:Int)≤4294967295:=by omega
        have hdi:(d:Int)≤1:=by omega
        have hib:(i:Int)≤300002:=by omega
        by_cases hin:i<n
        ·as_aux_lemma=>
          have l7:decide (i<n)=true:=by simp;omega
          have hcv:=DS.cv (vl:=vl) HD2.out (i:=i) (by rw[kv.out];have:=cZ.out;omega);have fw:i+jj<dx.length:=by have h1:=l6.out;omega
          have pU:=Own.cell (DS.u HD2.out:Own wr bu dx) (i:=i+jj) fw;have hfu:=Own.frozen (DS.u HD2.out:Own wr bu dx) (i:=i+jj) fw;have hy:=q05 yO.out i;have hx:=q05 (DS.u HD2.out:Own wr bu dx).1 (i+jj);obtain⟨p,lo,t0,tt,rr,d',c',q1,q2,q3,q4,q5,q6,q7,q8,q9,CO,CP,CQ,CR⟩:=q9B gt c d _ _ hgt hc hd hx hy;have HST:Hid _:=AW.step yT.out (by have:=cZ.out;omega) mH.out CR;have dO:Hid (d'≤1):=CO;have jg:Hid (c'<2^32):=CP;have ic:Hid (rr<2^32):=CQ;generalize vl.getD i 0=y at *;generalize dx.getD (i+jj) 0=x at *;have hyi:(y:Int)≤4294967295:=by omega
          have hxi:(x:Int)≤4294967295:=by omega
          have hpi:(p:Int)≤18446744065119617025:=by omega
          have J3:(lo:Int)≤4294967295:=by omega
          have yU:i+jj<j+2:=by omega
          have hin1:i+1≤n:=hin;have CS:n-(i+1)<n-i:=by omega
          have wG:Hid (i+jj<dx.length):=fw;clear q2 q4 CO CP CQ CR hx hy hc hd hin fw;go_wp2_with fail
          go_roundw
          case rel=>exact⟨i+1,c',d',dx.set (i+jj) rr,hin1,by go_num,rfl,rfl,jg.out,dO.out,DS.setU HD2.out (i+jj) rr wG.out ic.out,HST.out⟩
          case measure=>simp only[intOf];omega
        ·as_aux_lemma=>
          have l7:decide (i<n)=false:=by simp;omega
          have hie:i=n0+2:=by have:=cZ.out;omega
          rw[hie] at yT;have il:jj+n<dx.length:=by have h1:=l6.out;omega
          have pU:=Own.cell (DS.u HD2.out:Own wr bu dx) (i:=jj+n) il;have hfu:=Own.frozen (DS.u HD2.out:Own wr bu dx) (i:=jj+n) il;have hx:=q05 (DS.u HD2.out:Own wr bu dx).1 (jj+n);obtain⟨t0,tt,rr,d',q1,q2,q3,q4,q5,q6,q7⟩:=q5B c d _ hc hd hx;have gu:=AW.fin yT.out kv.out vw.out mH.out (r:=rr) (d':=d') (by rw[← cZ.out];exact q7);rw[← cZ.out] at gu;have HD3:Hid (DS w (wr.setCell ⟨bu,jj+n,none⟩ (.int .u32 (rr:Int))) bu bq bv ov (dx.set (jj+n) rr) qs vl):=DS.setU HD2.out (jj+n) rr il q6;have hxi:(dx.getD (jj+n) 0:Int)≤4294967295:=by omega
          obtain⟨hf1,hf2,hf3⟩:=gu;have HA1:Hid _:=hf1;have mF:Hid _:=hf2;have yV:Hid _:=hf3;generalize dx.getD (jj+n) 0=x at *;have jD:Hid _:=q7;have hqj:jj<qs.length:=by rw[uS.out];omega
          have hgw:IntKind.u32.wrap (gt:Int)=gt:=by rw[IntKind.wrap_u32];omega
          have yX:Hid (gt<2^32):=hgt;have qz:Hid (d'≤1):=q5;by_cases hd':d'=0
          ·subst hd';have hcq:=Own.cell (DS.q HD3.out) (i:=jj) hqj;have J4:=Own.frozen (DS.q HD3.out) (i:=jj) hqj;have uC:Hid _:=DInv.right jC.out (by omega) HA1.out HT1.out yV.out;clear hf1 hf2 hf3 q6 q7 q5 hx hc hd hin hie;go_wp2_with fail
           go_roundw
           case rel=>exact⟨jj,dx.set (jj+n) rr,qs.set jj gt,by omega,by go_num,DS.setQ HD3.out jj gt hqj yX.out,uC.out⟩
           case measure=>simp [intOf]
          ·obtain rfl:d'=1:=by omega
           have hpos:0<gt:=by
            rcases Nat.eq_zero_or_pos gt with h0|h0
            ·exfalso;have h1:=yV.out;rw[h0,Nat.zero_mul,Nat.add_zero,Nat.mul_one] at h1;have h2:=q4f (DS.u HD3.out).1 mF.out;rw[h1] at h2;exact absurd h2 (Nat.not_lt.2 (Nat.le_add_left _ _))
            ·exact h0
           obtain⟨gm,hgm⟩:∃ gm,gt-1=gm:=⟨_,rfl⟩;have J5:IntKind.u64.wrap ((gt:Int)-1)=gm:=by rw[IntKind.wrap_u64];omega
           have CU:IntKind.u32.wrap (gm:Int)=gm:=by rw[IntKind.wrap_u32];omega
           have J6:Hid _:=hgm;have yY:Hid (gm<2^32):=by show gm<2^32;omega
           have nu:Hid (BK (dx.set (jj+n) rr) (dx.set (jj+n) rr) vl jj n0 0 0):=BK.start (us:=dx.set (jj+n) rr) (vl:=vl) mF.out;clear hf1 hf2 hf3 q6 q7 q5 hx hc hd hin hie hd' hpos hgm;go_wp2_with fail
           as_aux_lemma=>
            clear pU hfu q1 q2 q3 q4;generalize yZ:wr.setCell ⟨bu,jj+n,none⟩ (.int .u32 (rr:Int))=w3 at *;clear yZ;generalize rW:dx.set (jj+n) rr=CV at *;have J7:Hid _:=rW;clear rW l7
            go_loopw [22,27] (fun vc vi w4=>∃ (i c:Nat) (dI:List Nat),i≤n∧vi= .int .i64 i∧vc= .int .u64 c∧c≤1∧DS w w4 bu bq bv ov dI qs vl∧BK CV dI vl jj n0 i c) (fun _ vi _=>n-(intOf vi).toNat)
            case atStart=>exact⟨0,0,CV,Nat.zero_le _,rfl,rfl,by omega,HD3.out,nu.out⟩
            case round=>
             obtain⟨i,c,dI,hi,rfl,rfl,hc,hds,hbk⟩:=hrel;have HD4:Hid (DS w wr bu bq bv ov dI qs vl):=hds;have z8:Hid _:=hbk;have hl4:dI.length=j+2:=hbk.1.trans (HA1.out.trans kN.out);clear hds hbk nu;have hci:(c:Int)≤1:=by omega
             have hib:(i:Int)≤300002:=by omega
             by_cases hin:i<n
             ·as_aux_lemma=>
               have l7:decide (i<n)=true:=by simp;omega
               have hcv:=DS.cv (vl:=vl) HD4.out (i:=i) (by rw[kv.out];have:=cZ.out;omega);have fw:i+jj<dI.length:=by have h1:=l6.out;omega
               have pU:=Own.cell (DS.u HD4.out:Own wr bu dI) (i:=i+jj) fw;have hfu:=Own.frozen (DS.u HD4.out:Own wr bu dI) (i:=i+jj) fw;have hy:=q05 yO.out i;have hx:=q05 (DS.u HD4.out:Own wr bu dI).1 (i+jj);obtain⟨l8,c',q1,q2,q3,q4,q5⟩:=q9E c _ _ hc hx hy;have HST:Hid _:=BK.step z8.out (by have:=cZ.out;omega) (by rw[HA1.out];exact mH.out) q5;have J8:Hid (c'≤1):=q3;have J9:Hid (l8<2^32):=q4;generalize vl.getD i 0=y at *;generalize dI.getD (i+jj) 0=x at *;have hyi:(y:Int)≤4294967295:=by omega
               have hxi:(x:Int)≤4294967295:=by omega
               have yU:i+jj<j+2:=by omega
               have hin1:i+1≤n:=hin;have wG:Hid (i+jj<dI.length):=fw;have rX:bu<wr.heap.size:=(DS.u HD4.out:Own wr bu dI).2.1;have Ja:bv<wr.heap.size:=by omega
               clear q3 q4 q5 hx hy hc hin fw;go_wp2_with fail;refine q0f (by kernel_rfl) (by kernel_rfl) ?_;intro W hW;have pQ:=q08 (w:=W) (a:=⟨bu,i+jj,none⟩) (x:= .int .u32 (x:Int)) (by rw[hW];first|(simp;done)|(simp;omega)|omega) (by rw[hW];first|assumption|(simp [go_sem];done)|(simp [*,go_sem];done));have qp:=q08 (w:=W) (a:=⟨bv,ov+i,none⟩) (x:= .int .u32 (y:Int)) (by rw[hW];first|(simp;done)|(simp;omega)|omega) (by rw[hW];first|assumption|(simp [go_sem];done)|(simp [*,go_sem];done));clear hW
               repeat (go_big_quiet_step (fail))
               refine wpQuiet_nil ?_;clear pQ qp;intro Jb l9;have HD5:Hid (DS w Jb bu bq bv ov dI qs vl):=DS.grow HD4.out l9;have Jc:=l9.cell rX pU;have Jd:=l9.frozen rX hfu;clear pU hfu hcv l9;go_wp2_with fail
               go_roundw
               case rel=>exact⟨i+1,c',dI.set (i+jj) l8,hin1,by go_num,rfl,J8.out,DS.setU HD5.out (i+jj) l8 wG.out J9.out,HST.out⟩
               case measure=>simp only[intOf];omega
             ·as_aux_lemma=>
               have l7:decide (i<n)=false:=by simp;omega
               have hie:i=n0+2:=by have:=cZ.out;omega
               rw[hie] at z8;have il:jj+n<dI.length:=by have h1:=l6.out;omega
               have pU:=Own.cell (DS.u HD4.out:Own wr bu dI) (i:=jj+n) il;have hfu:=Own.frozen (DS.u HD4.out:Own wr bu dI) (i:=jj+n) il;have hx:=q05 (DS.u HD4.out:Own wr bu dI).1 (jj+n);obtain⟨l8,kk,q1,q2,q3⟩:=q7O c (dI.getD (jj+n) 0);have gu:=BK.fin z8.out kv.out vw.out (by rw[HA1.out];exact mH.out) (r:=l8) (k:=kk) (by rw[← cZ.out];exact q3);rw[← cZ.out] at gu;have HD5:Hid (DS w (wr.setCell ⟨bu,jj+n,none⟩ (.int .u32 (l8:Int))) bu bq bv ov (dI.set (jj+n) l8) qs vl):=DS.setU HD4.out (jj+n) l8 il q2;have hxi:(dI.getD (jj+n) 0:Int)≤4294967295:=by omega
               have rY:b*2^e<2^(32*(n0+2)):=vv.out;have hDB:=DInv.back jC.out (by omega) (gu.1.trans HA1.out) HT1.out HT2.out rY (DS.u HD3.out).1 mF.out yV.out (DS.u HD5.out).1 gu.2.1 gu.2.2;rw[J6.out] at hDB;have uC:Hid _:=hDB.1;generalize dI.getD (jj+n) 0=x at *;have hcq:=Own.cell (DS.q HD5.out) (i:=jj) hqj;have J4:=Own.frozen (DS.q HD5.out) (i:=jj) hqj;have hcw:IntKind.u32.wrap (c:Int)=c:=by rw[IntKind.wrap_u32];omega
               clear gu hDB rY q2 q3 hx hc hin hie;go_wp2_with fail
               go_roundw
               case rel=>exact⟨jj,dI.set (jj+n) l8,qs.set jj gm,by omega,by go_num,DS.setQ HD5.out jj gm hqj yY.out,uC.out⟩
               case measure=>simp [intOf]
     have CL:decide (q<p)=true:=by simp;omega
     obtain⟨g',hg'⟩:∃ g',g=g'+1:=by
      rcases g with _|g'
      ·rw[Nat.zero_mul] at hpe;omega
      ·exact⟨g',rfl⟩
     have hgm:IntKind.u64.wrap ((g:Int)-1)=g':=by rw[IntKind.wrap_u64];omega
     have G5:Hid _:=hg';have hsum:g'*top+(r+top)=h:=by rw[← CJ.out.1,hg',Nat.add_mul];omega
     have ze:Hid _:=hsum;have HT1:Hid (val us<(g'+1)*(2^(32*jj)*(b*2^e))):=by rw[← G5.out];exact IZ.out g r CJ.out.1 (by rw[← qB.out,← qC.out];exact hpq)
     clear CK hpe hqe hpq
    case' pos=>
     rw[show decide (4294967295<g)=true from by simp;omega] at vB;obtain⟨g',hg'⟩:∃ g',g=g'+1:=⟨g-1,by omega⟩;have hgm:IntKind.u64.wrap ((g:Int)-1)=g':=by rw[IntKind.wrap_u64];omega
     have G5:Hid _:=hg';have hsum:g'*top+(r+top)=h:=by rw[← CJ.out.1,hg',Nat.add_mul];omega
     have ze:Hid _:=hsum;have HT1:Hid (val us<(g'+1)*(2^(32*jj)*(b*2^e))):=by rw[← G5.out];exact IY.out g hg
    all_goals as_aux_lemma=>
     by_cases hr:4294967295<r+top
     ·rw[show decide (4294967295<r+top)=true from by simp;omega] at vC;have hbr:=IX.out g' (r+top) ze.out (by omega);have HT2:Hid (g'*(2^(32*jj)*(b*2^e))<val us+2^(32*jj)*(b*2^e)):=hbr.2;have hgt:g'<4294967296:=hbr.1;clear hr hg hg' hsum hbr;go_wp2_with fail;clear vB vC hgm hc2 hgi;obtain⟨gt,rU⟩:∃ gt:Nat,gt=g':=⟨g',rfl⟩;rw[← rU] at HT1 HT2 hgt ⊢;clear rU
      as_aux_lemma=>
       have J2:(gt:Int)≤4294967295:=by omega
       go_loopw [22,23,24] (fun vc vd vi w2=>∃ (i c d:Nat) (dx:List Nat),i≤n∧vi= .int .i64 i∧vc= .int .u64 c∧vd= .int .u64 d∧c<4294967296∧d≤1∧DS w w2 bu bq bv ov dx qs vl∧AW us dx vl jj n0 i gt c d) (fun _ _ vi _=>n-(intOf vi).toNat)
       case atStart=>exact⟨0,0,0,us,Nat.zero_le _,rfl,rfl,rfl,by omega,by omega,jm.out,AW.start MZ.out⟩
       case round=>
        obtain⟨i,c,d,dx,hi,rfl,rfl,rfl,hc,hd,hds,haw⟩:=hrel;have HD2:Hid (DS w wr bu bq bv ov dx qs vl):=hds;have yT:Hid _:=haw;have hl2:dx.length=j+2:=haw.1.trans kN.out;clear hds haw jm;have hci:(c:Int)≤4294967295:=by omega
        have hdi:(d:Int)≤1:=by omega
        have hib:(i:Int)≤300002:=by omega
        by_cases hin:i<n
        ·as_aux_lemma=>
          have l7:decide (i<n)=true:=by simp;omega
          have hcv:=DS.cv (vl:=vl) HD2.out (i:=i) (by rw[kv.out];have:=cZ.out;omega);have fw:i+jj<dx.length:=by have h1:=l6.out;omega
          have pU:=Own.cell (DS.u HD2.out:Own wr bu dx) (i:=i+jj) fw;have hfu:=Own.frozen (DS.u HD2.out:Own wr bu dx) (i:=i+jj) fw;have hy:=q05 yO.out i;have hx:=q05 (DS.u HD2.out:Own wr bu dx).1 (i+jj);obtain⟨p,lo,t0,tt,rr,d',c',q1,q2,q3,q4,q5,q6,q7,q8,q9,CO,CP,CQ,CR⟩:=q9B gt c d _ _ hgt hc hd hx hy;have HST:Hid _:=AW.step yT.out (by have:=cZ.out;omega) mH.out CR;have dO:Hid (d'≤1):=CO;have jg:Hid (c'<2^32):=CP;have ic:Hid (rr<2^32):=CQ;generalize vl.getD i 0=y at *;generalize dx.getD (i+jj) 0=x at *;have hyi:(y:Int)≤4294967295:=by omega
          have hxi:(x:Int)≤4294967295:=by omega
          have hpi:(p:Int)≤18446744065119617025:=by omega
          have J3:(lo:Int)≤4294967295:=by omega
          have yU:i+jj<j+2:=by omega
          have hin1:i+1≤n:=hin;have CS:n-(i+1)<n-i:=by omega
          have wG:Hid (i+jj<dx.length):=fw;clear q2 q4 CO CP CQ CR hx hy hc hd hin fw;go_wp2_with fail
          go_roundw
          case rel=>exact⟨i+1,c',d',dx.set (i+jj) rr,hin1,by go_num,rfl,rfl,jg.out,dO.out,DS.setU HD2.out (i+jj) rr wG.out ic.out,HST.out⟩
          case measure=>simp only[intOf];omega
        ·as_aux_lemma=>
          have l7:decide (i<n)=false:=by simp;omega
          have hie:i=n0+2:=by have:=cZ.out;omega
          rw[hie] at yT;have il:jj+n<dx.length:=by have h1:=l6.out;omega
          have pU:=Own.cell (DS.u HD2.out:Own wr bu dx) (i:=jj+n) il;have hfu:=Own.frozen (DS.u HD2.out:Own wr bu dx) (i:=jj+n) il;have hx:=q05 (DS.u HD2.out:Own wr bu dx).1 (jj+n);obtain⟨t0,tt,rr,d',q1,q2,q3,q4,q5,q6,q7⟩:=q5B c d _ hc hd hx;have gu:=AW.fin yT.out kv.out vw.out mH.out (r:=rr) (d':=d') (by rw[← cZ.out];exact q7);rw[← cZ.out] at gu;have HD3:Hid (DS w (wr.setCell ⟨bu,jj+n,none⟩ (.int .u32 (rr:Int))) bu bq bv ov (dx.set (jj+n) rr) qs vl):=DS.setU HD2.out (jj+n) rr il q6;have hxi:(dx.getD (jj+n) 0:Int)≤4294967295:=by omega
          obtain⟨hf1,hf2,hf3⟩:=gu;have HA1:Hid _:=hf1;have mF:Hid _:=hf2;have yV:Hid _:=hf3;generalize dx.getD (jj+n) 0=x at *;have jD:Hid _:=q7;have hqj:jj<qs.length:=by rw[uS.out];omega
          have hgw:IntKind.u32.wrap (gt:Int)=gt:=by rw[IntKind.wrap_u32];omega
          have yX:Hid (gt<2^32):=hgt;have qz:Hid (d'≤1):=q5;by_cases hd':d'=0
          ·subst hd';have hcq:=Own.cell (DS.q HD3.out) (i:=jj) hqj;have J4:=Own.frozen (DS.q HD3.out) (i:=jj) hqj;have uC:Hid _:=DInv.right jC.out (by omega) HA1.out HT1.out yV.out;clear hf1 hf2 hf3 q6 q7 q5 hx hc hd hin hie;go_wp2_with fail
           go_roundw
           case rel=>exact⟨jj,dx.set (jj+n) rr,qs.set jj gt,by omega,by go_num,DS.setQ HD3.out jj gt hqj yX.out,uC.out⟩
           case measure=>simp [intOf]
          ·obtain rfl:d'=1:=by omega
           have hpos:0<gt:=by
            rcases Nat.eq_zero_or_pos gt with h0|h0
            ·exfalso;have h1:=yV.out;rw[h0,Nat.zero_mul,Nat.add_zero,Nat.mul_one] at h1;have h2:=q4f (DS.u HD3.out).1 mF.out;rw[h1] at h2;exact absurd h2 (Nat.not_lt.2 (Nat.le_add_left _ _))
            ·exact h0
           obtain⟨gm,hgm⟩:∃ gm,gt-1=gm:=⟨_,rfl⟩;have J5:IntKind.u64.wrap ((gt:Int)-1)=gm:=by rw[IntKind.wrap_u64];omega
           have CU:IntKind.u32.wrap (gm:Int)=gm:=by rw[IntKind.wrap_u32];omega
           have J6:Hid _:=hgm;have yY:Hid (gm<2^32):=by show gm<2^32;omega
           have nu:Hid (BK (dx.set (jj+n) rr) (dx.set (jj+n) rr) vl jj n0 0 0):=BK.start (us:=dx.set (jj+n) rr) (vl:=vl) mF.out;clear hf1 hf2 hf3 q6 q7 q5 hx hc hd hin hie hd' hpos hgm;go_wp2_with fail
           as_aux_lemma=>
            clear pU hfu q1 q2 q3 q4;generalize yZ:wr.setCell ⟨bu,jj+n,none⟩ (.int .u32 (rr:Int))=w3 at *;clear yZ;generalize rW:dx.set (jj+n) rr=CV at *;have J7:Hid _:=rW;clear rW l7
            go_loopw [22,27] (fun vc vi w4=>∃ (i c:Nat) (dI:List Nat),i≤n∧vi= .int .i64 i∧vc= .int .u64 c∧c≤1∧DS w w4 bu bq bv ov dI qs vl∧BK CV dI vl jj n0 i c) (fun _ vi _=>n-(intOf vi).toNat)
            case atStart=>exact⟨0,0,CV,Nat.zero_le _,rfl,rfl,by omega,HD3.out,nu.out⟩
            case round=>
             obtain⟨i,c,dI,hi,rfl,rfl,hc,hds,hbk⟩:=hrel;have HD4:Hid (DS w wr bu bq bv ov dI qs vl):=hds;have z8:Hid _:=hbk;have hl4:dI.length=j+2:=hbk.1.trans (HA1.out.trans kN.out);clear hds hbk nu;have hci:(c:Int)≤1:=by omega
             have hib:(i:Int)≤300002:=by omega
             by_cases hin:i<n
             ·as_aux_lemma=>
               have l7:decide (i<n)=true:=by simp;omega
               have hcv:=DS.cv (vl:=vl) HD4.out (i:=i) (by rw[kv.out];have:=cZ.out;omega);have fw:i+jj<dI.length:=by have h1:=l6.out;omega
               have pU:=Own.cell (DS.u HD4.out:Own wr bu dI) (i:=i+jj) fw;have hfu:=Own.frozen (DS.u HD4.out:Own wr bu dI) (i:=i+jj) fw;have hy:=q05 yO.out i;have hx:=q05 (DS.u HD4.out:Own wr bu dI).1 (i+jj);obtain⟨l8,c',q1,q2,q3,q4,q5⟩:=q9E c _ _ hc hx hy;have HST:Hid _:=BK.step z8.out (by have:=cZ.out;omega) (by rw[HA1.out];exact mH.out) q5;have J8:Hid (c'≤1):=q3;have J9:Hid (l8<2^32):=q4;generalize vl.getD i 0=y at *;generalize dI.getD (i+jj) 0=x at *;have hyi:(y:Int)≤4294967295:=by omega
               have hxi:(x:Int)≤4294967295:=by omega
               have yU:i+jj<j+2:=by omega
               have hin1:i+1≤n:=hin;have wG:Hid (i+jj<dI.length):=fw;have rX:bu<wr.heap.size:=(DS.u HD4.out:Own wr bu dI).2.1;have Ja:bv<wr.heap.size:=by omega
               clear q3 q4 q5 hx hy hc hin fw;go_wp2_with fail;refine q0f (by kernel_rfl) (by kernel_rfl) ?_;intro W hW;have qw:=q08 (w:=W) (a:=⟨bu,i+jj,none⟩) (x:= .int .u32 (x:Int)) (by rw[hW];first|(simp;done)|(simp;omega)|omega) (by rw[hW];first|assumption|(simp [go_sem];done)|(simp [*,go_sem];done));have hq8:=q08 (w:=W) (a:=⟨bv,ov+i,none⟩) (x:= .int .u32 (y:Int)) (by rw[hW];first|(simp;done)|(simp;omega)|omega) (by rw[hW];first|assumption|(simp [go_sem];done)|(simp [*,go_sem];done));clear hW
               repeat (go_big_quiet_step (fail))
               refine wpQuiet_nil ?_;clear qw hq8;intro Jb l9;have HD5:Hid (DS w Jb bu bq bv ov dI qs vl):=DS.grow HD4.out l9;have Jc:=l9.cell rX pU;have Jd:=l9.frozen rX hfu;clear pU hfu hcv l9;go_wp2_with fail
               go_roundw
               case rel=>exact⟨i+1,c',dI.set (i+jj) l8,hin1,by go_num,rfl,J8.out,DS.setU HD5.out (i+jj) l8 wG.out J9.out,HST.out⟩
               case measure=>simp only[intOf];omega
             ·as_aux_lemma=>
               have l7:decide (i<n)=false:=by simp;omega
               have hie:i=n0+2:=by have:=cZ.out;omega
               rw[hie] at z8;have il:jj+n<dI.length:=by have h1:=l6.out;omega
               have pU:=Own.cell (DS.u HD4.out:Own wr bu dI) (i:=jj+n) il;have hfu:=Own.frozen (DS.u HD4.out:Own wr bu dI) (i:=jj+n) il;have hx:=q05 (DS.u HD4.out:Own wr bu dI).1 (jj+n);obtain⟨l8,kk,q1,q2,q3⟩:=q7O c (dI.getD (jj+n) 0);have gu:=BK.fin z8.out kv.out vw.out (by rw[HA1.out];exact mH.out) (r:=l8) (k:=kk) (by rw[← cZ.out];exact q3);rw[← cZ.out] at gu;have HD5:Hid (DS w (wr.setCell ⟨bu,jj+n,none⟩ (.int .u32 (l8:Int))) bu bq bv ov (dI.set (jj+n) l8) qs vl):=DS.setU HD4.out (jj+n) l8 il q2;have hxi:(dI.getD (jj+n) 0:Int)≤4294967295:=by omega
               have rY:b*2^e<2^(32*(n0+2)):=vv.out;have hDB:=DInv.back jC.out (by omega) (gu.1.trans HA1.out) HT1.out HT2.out rY (DS.u HD3.out).1 mF.out yV.out (DS.u HD5.out).1 gu.2.1 gu.2.2;rw[J6.out] at hDB;have uC:Hid _:=hDB.1;generalize dI.getD (jj+n) 0=x at *;have hcq:=Own.cell (DS.q HD5.out) (i:=jj) hqj;have J4:=Own.frozen (DS.q HD5.out) (i:=jj) hqj;have hcw:IntKind.u32.wrap (c:Int)=c:=by rw[IntKind.wrap_u32];omega
               clear gu hDB rY q2 q3 hx hc hin hie;go_wp2_with fail
               go_roundw
               case rel=>exact⟨jj,dI.set (jj+n) l8,qs.set jj gm,by omega,by go_num,DS.setQ HD5.out jj gm hqj yY.out,uC.out⟩
               case measure=>simp [intOf]
     ·rw[show decide (4294967295<r+top)=false from by simp;omega] at vC;have hrn:r+top<4294967296:=by omega
      have hgn:g'≤4294967297:=by omega
      clear hr hg hg' hsum;go_wp2_with fail
      go_roundw
      case rel=>exact⟨g',r+top,rfl,by go_num,hgn,hrn,⟨ze.out,HT1.out⟩,jm.out⟩
      case measure=>have:=G5.out;simp only[intOf];omega
