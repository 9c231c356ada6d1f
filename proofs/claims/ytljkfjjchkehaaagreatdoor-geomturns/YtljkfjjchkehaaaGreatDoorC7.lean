/- What is proved here: contracts of the reference's big numbers: div, word by word from above, over this seat's translation. -/
import Derived.Test.YtljkfjjchkehaaaGreatDoorC6
namespace Go.Proofs.YtljkfjjchkehaaaGreatDoor
open Go.ChangeShapes Go.WideShapes Go.ChangeAt Go.RowKit
open BN
/-- A call hands back the canonical slices of two numbers. -/
def q2C (w:World) (x y:Nat) (e:Ending) (w':World):Prop:=∃ v u,e= .returned (.tuple #[v,u])∧G w w'∧Num w' v x∧Num w' u y
/-- A slice of n words whose number has its highest bit. -/
theorem q9H {w:World} {v:Value} {V n0:Nat} (h:Num w v V) (h1:2^(32*(n0+1)+31)≤V) (h2:V<2^(32*(n0+1+1))):
  ∃ (b o c:Nat) (l:List Nat),v= .slice (some ⟨b,o,none⟩) (n0+2:Nat) c∧n0+2≤c∧b<w.heap.size∧okw l∧l.length=n0+2∧val l=V∧Row w b o l∧2^31≤l.getD (n0+1) 0:=by
 obtain⟨l,hl,hc,rfl⟩:=h
 have h3:=q05 hc h2
 have h4:=q0q hc.1
 have h5:2^(32*(n0+1))<2^(32*l.length):=Nat.lt_of_le_of_lt (Nat.le_trans (Nat.pow_le_pow_right (by omega) (by omega)) h1) h4
 have h6:=(Nat.pow_lt_pow_iff_right (by omega:1<2)).1 h5
 have h7:l.length=n0+2:=by omega
 rcases Sl.cases hl with ⟨rfl,-⟩|⟨-,b,o,c,rfl,hcc,hb,hr⟩
 ·simp at h7
 ·refine⟨b,o,c,l,by rw[h7],by omega,hb,hc.1,h7,rfl,hr,?_⟩
  have h8:=q0s (l:=l) (k:=n0+1) (by omega)
  rw[List.drop_eq_nil_of_le (by omega)] at h8
  simp only[val,Nat.mul_zero,Nat.add_zero] at h8
  have h9:=q0o hc.1 (n0+1) (by omega)
  rw[Nat.pow_add] at h1
  rcases Nat.lt_or_ge (l.getD (n0+1) 0) (2^31) with h|h
  ·exfalso
   have:2^(32*(n0+1))*(l.getD (n0+1) 0+1)≤2^(32*(n0+1))*2^31:=Nat.mul_le_mul_left _ h
   rw[Nat.mul_add,Nat.mul_one] at this
   omega
  ·exact h
theorem qa4 {w:World} {v:Value} {V:Nat} (h:Num w v V) (h0:V≠0) (k:Nat) (hk:V<2^(32*k)):
  ∃ (b o c:Nat) (l:List Nat),v= .slice (some ⟨b,o,none⟩) l.length c∧l.length≤c∧b<w.heap.size∧okw l∧l.length≤k∧val l=V∧Row w b o l:=by
 obtain⟨l,hl,hc,rfl⟩:=h
 rcases Sl.cases hl with ⟨rfl,-⟩|⟨-,b,o,c,rfl,hcc,hb,hr⟩
 ·exact absurd rfl h0
 ·exact⟨b,o,c,l,rfl,hcc,hb,hc.1,q05 hc hk,rfl,hr⟩
theorem q2d {w:World} {b o:Nat} {l:List Nat} (h:Row w b o l):∀ j v,(l.map fun d=>Value.int .u32 (d:Nat))[j]? =some v→w.cell? ((⟨b,o,none⟩:Addr).add j)=some v:=by
 intro j u hj
 rw[List.getElem?_map] at hj
 obtain⟨d,hd,rfl⟩:=Option.map_eq_some_iff.1 hj
 have:=h j (List.getElem?_eq_some_iff.1 hd).1
 rw[List.getD_eq_getElem?_getD,hd] at this
 rw[addr_add]
 exact this
theorem q2j (l:List Nat):∀ u∈(l.map fun d=>Value.int .u32 (d:Nat)),u.oneCell'=true:=by
 intro u hu
 obtain⟨d,-,rfl⟩:=List.mem_map.1 hu
 rfl
theorem Row.setCells {b o c:Nat} {l:List Nat} (hb:b≠c):∀ (cs:List Value) (w:World) (i:Nat),Row w b o l→Row (w.setCells c i cs) b o l
 |[],_,_,h=>h
 |v::cs,_,i,h=>Row.setCells hb cs _ _ (h.set (i:=i) (u:=v) hb)
set_option maxRecDepth 10000 in
set_option maxHeartbeats 8000000 in
theorem q7a (w:World) (va vb:Value) (a b K:Nat) (hK:K≤300000) (ha:Num w va a) (hb:Num w vb b) (ha2:a<2^(32*K)) (iy:b≤a) (hbig:2^64≤a) (hb2:2^32≤b):
  Calls Tryz.prog 136 #[va,vb] w (q2C w (a/b) (a%b)):=by
 have hA':=ha
 have hB':=hb
 obtain⟨l,hl,hcl,hvl⟩:=ha
 obtain⟨m,hm,hcm,fw⟩:=hb
 have hll:=q05 hcl (hvl▸ha2)
 have hl2:2<l.length:=by
  rcases Nat.lt_or_ge 2 l.length with h|h
  ·exact h
  ·have h1:=q0q hcl.1
   have h2:2^(32*l.length)≤2^64:=Nat.pow_le_pow_right (by omega) (by omega)
   omega
 have hm2:1<m.length:=by
  rcases Nat.lt_or_ge 1 m.length with h|h
  ·exact h
  ·have h1:=q0q hcm.1
   have h2:2^(32*m.length)≤2^32:=Nat.pow_le_pow_right (by omega) (by omega)
   omega
 have lK:m.length≤l.length:=by
  rcases Nat.lt_or_ge l.length m.length with h|h
  ·have:=q0B hcl hcm h;omega
  ·exact h
 obtain⟨n0,hn0⟩:∃ n0,m.length=n0+2:=⟨m.length-2,by omega⟩
 obtain⟨k,hk1,hk2,hkb,hV1,hV2⟩:=q2R hcm (n:=n0+1) (by omega)
 obtain⟨pa,ca,rfl,dO,hra⟩:=q0p hl
 obtain⟨pb,cb,rfl,hcb,hrb⟩:=q0p hm
 have iB:Hid _:=q38 w _ _ a b K (by omega) hA' hB' ha2 (by omega)
 have HLen:Hid (∀ w1,G w w1→_):=fun w1 g=>q7I w1 _ b K (by omega) (hB'.G g) (by omega)
 have CG:Hid (∀ w1,G w w1→_):=fun w1 g=>q1W w1 _ b (32-k) K (by omega) (by omega) (hB'.G g) (by omega)
 have CJ:Hid (∀ w1,G w w1→_):=fun w1 g=>q1W w1 _ a (32-k) K (by omega) (by omega) (hA'.G g) ha2
 rw[fw] at hkb hV1 hV2
 have hc:decide (cmpV a b<0)=false:=by rw[decide_eq_false_iff_not];unfold cmpV;rw[if_neg (by omega)];split<;>omega
 generalize cmpV a b=cv at *
 generalize hjl:l.length=j at *
 generalize hjn:m.length=n at *
 rw[hkb] at HLen
 have HA:Hid _:=hra
 have HB:Hid _:=hrb
 have HJ:Hid _:=hjl
 have R7:Hid _:=hcl
 have HCM:Hid _:=hcm
 have ji:Hid _:=hvl
 have R8:Hid _:=fw
 have dm:Hid _:=hn0
 have TM:Hid _:=hjn
 have R9:(2:Int)≤n:=by omega
 have Mg:Hid _:=iy
 have HA2:Hid _:=ha2
 have AQ:Hid _:=hA'
 have qA:Hid _:=hB'
 have t1:decide ((j:Int)≤2)=false:=by simp;omega
 have t2:((n:Int)==0)=false:=by simp;omega
 have t3:((n:Int)==1)=false:=by simp;omega
 have hjb:(j:Int)≤300000:=by omega
 have hnb:(n:Int)≤j:=by omega
 have I6:(1:Int)≤k:=by omega
 have hkb2:(k:Int)≤32:=by omega
 obtain⟨mm,hmm⟩:∃ mm,j+1=n+mm:=⟨j+1-n,by omega⟩
 have hm1:(j:Int)+2-n-1=mm:=by omega
 have Ra:(1:Int)≤mm:=by omega
 have Rb:(mm:Int)≤300000:=by omega
 have I7:=q15 (j+2) (by omega)
 rw[show ((j+2:Nat):Int)=(j:Int)+2 from by omega] at I7
 have uR:=q15 (mm+1) (by omega)
 rw[show ((mm+1:Nat):Int)=(mm:Int)+1 from by omega] at uR
 have Ad:Hid _:=hmm
 obtain⟨e,he⟩:∃ e:Nat,e=32-k:=⟨_,rfl⟩
 rw[← he] at CJ CG hV1 hV2
 have hs:32-((((32*(n0+1)+k:Nat):Int)-1)%32)-1=e:=by omega
 have TN:(e:Int)≤31:=by omega
 have TP:((32*(n0+1)+k:Nat):Int)≤20000000:=by omega
 have Rc:(1:Int)≤((32*(n0+1)+k:Nat):Int):=by omega
 generalize 32*(n0+1)+k=L at *
 have Mh:Hid _:=hV1
 have nu:Hid _:=hV2
 have hae:a*2^e≠0:=by have:=Nat.two_pow_pos e;have:0<a:=by omega
                      exact Nat.pos_iff_ne_zero.1 (Nat.mul_pos this (by assumption))
 have haj:a*2^e<2^(32*(j+1)):=by
  have h1:=q0q hcl.1
  rw[hvl,hjl] at h1
  have h2:a*2^e<2^(32*j)*2^e:=Nat.mul_lt_mul_of_pos_right h1 (Nat.two_pow_pos _)
  have h3:2^(32*j)*2^e≤2^(32*(j+1)):=by rw[← Nat.pow_add];exact Nat.pow_le_pow_right (by omega) (by omega)
  omega
 have qC:Hid _:=hae
 have HB0:Hid (0<b):=Nat.lt_of_lt_of_le (by omega) hb2
 have Mi:Hid _:=haj
 have I8:Hid (a*2^e<2^(32*(n0+1+(mm+1)))):=by
  have h1:j+1=n0+1+(mm+1):=by omega
  rw[h1] at haj;exact haj
 clear hae haj
 clear hV1 hV2 hra hrb hjl hcl hcm hvl fw hn0 hjn iy ha2 hA' hB' hl hm hkb hK hbig hb2 hll hl2 hm2 lK hk1 hk2 hmm he I6 hkb2
 clear R7 HCM ji R8 AQ qA
 go_enter Tryz.func136,Tryz.ntmps136
 go_wp2_with fail
 refine Calls.mono (P:=Tryz.prog) iB.out ?_
 rintro e1 w1 ⟨rfl,hg1⟩
 go_wp2_with fail
 refine Calls.mono (P:=Tryz.prog) (HLen.out w1 hg1) ?_
 rintro e1 w2 ⟨rfl,hg2⟩
 have hG2:=G.trans hg1 hg2
 go_wp2_with fail
 refine Calls.mono (P:=Tryz.prog) (CG.out w2 hG2) ?_
 rintro e1 w3 ⟨v1,rfl,hg3,jy⟩
 obtain⟨bv,ov,TQ,vl,rfl,Re,hvb,Mj,sU,hvv,qp,o6⟩:=q9H jy Mh.out nu.out
 rw[← dm.out] at Re
 rw[← dm.out]
 have hG3:=G.trans hG2 hg3
 have Mk:Hid _:=qp
 have vU:Hid _:=Mj
 have ji:Hid _:=sU
 have qY:Hid _:=hvv
 have Ch:Hid _:=o6
 clear qp Mj sU hvv o6 jy hg1 hg2 hg3 hG2
 go_wp2_with fail
 have hgm:G w3 (w3.alloc (.cells (madeCells #[.int .u32 0] (j+2)) 173)):=(G.refl _).alloc _
 have sN:Hid _:=q0v w3 (j+2) 173
 have hle:w.heap.size≤w3.heap.size:=hG3.size
 refine Calls.mono (P:=Tryz.prog) (CJ.out _ (G.trans hG3 hgm)) ?_
 rintro e1 w4 ⟨v2,rfl,hg4,Ml⟩
 have ma:Hid (Own w4 w3.heap.size (List.replicate (j+2) 0)):=Own.grow sN.out hg4
 have hG4:G w w4:=G.trans (G.trans hG3 hgm) hg4
 have AX:Hid (Row w4 bv ov vl):=Row.G (l:=vl) Mk.out hvb (G.trans hgm hg4)
 clear hgm hg4 sN hG3
 generalize w3.heap.size=bu at *
 obtain⟨bl,ol,cl,la,rfl,hlc,hlb,hlo,hlj,hlv,hlr⟩:=qa4 Ml (qC.out) (j+1) Mi.out
 obtain⟨cs,hcs⟩:∃ cs,cs=la.map (fun d=>Value.int .u32 (d:Nat)):=⟨_,rfl⟩
 have hcl:cs.length=la.length:=by rw[hcs,List.length_map]
 have hsrc:=q2d hlr
 have h1c:=q2j la
 rw[← hcs] at hsrc h1c
 have CK:Hid _:=Own.cells (o:=0) ma.out hlo (by simp;omega)
 rw[← hcs] at CK
 have hccell:∀ i,i<cs.length→(w4.cell? ⟨bu,0+i,none⟩).isSome=true:=fun i hi=>by
  rw[Nat.zero_add,Own.cell (l:=List.replicate (j+2) 0) ma.out (by simp;omega)];rfl
 have sV:∀ i,i<cs.length→w4.frozen? ⟨bu,0+i,none⟩=false:=fun i hi=>by
  rw[Nat.zero_add];exact Own.frozen (l:=List.replicate (j+2) 0) ma.out (by simp;omega)
 have hmin:cs.length=Nat.min la.length (j+2):=by rw[hcl];exact(Nat.min_eq_left (by omega)).symm
 have hval:val ((List.replicate (j+2) 0).take 0++(la++(List.replicate (j+2) 0).drop (0+la.length)))=a*2^e:=by
  rw[List.take_zero,List.nil_append,val_append,List.drop_replicate,q1B,hlv];simp
 have hlen:((List.replicate (j+2) 0).take 0++(la++(List.replicate (j+2) 0).drop (0+la.length))).length=j+2:=by simp;omega
 generalize (List.replicate (j+2) 0).take 0++(la++(List.replicate (j+2) 0).drop (0+la.length))=us at *
 have hrun:=run_copy_cells (P:=Tryz.prog) w4 36 36 3 173 bu 0 (j+2) (j+2) ⟨bl,ol,none⟩ la.length cl cs Tryz.underlying36 (by kernel_rfl) hmin hsrc hccell sV h1c
 have gJ:G w (w4.setCells bu 0 cs):=G.setCells hle cs _ _ hG4
 have AY:Hid (Row (w4.setCells bu 0 cs) bv ov vl):=Row.setCells (by omega) cs _ _ AX.out
 generalize jr:w4.setCells bu 0 cs=w5 at *
 have Mm:Hid _:=hval
 have jw:Hid _:=hlen
 clear Ml hlc hlb hlo hlj hlv hlr hcs hcl hsrc h1c hccell sV hmin hval hlen hG4 AX ma Mk Mi qC jr
 go_wp2_with fail
 have sK:Hid _:=q0v w5 (mm+1) 173
 have CL:G w5 (w5.alloc (.cells (madeCells #[.int .u32 0] (mm+1)) 173)):=(G.refl _).alloc _
 have vV:bu<w5.heap.size:=(CK.out:Own w5 bu us).2.1
 have iG:Hid (DS w _ bu w5.heap.size bv ov us (List.replicate (mm+1) 0) vl):=DS.mk (G.trans gJ CL) hle hvb vV (Own.grow CK.out CL) sK.out (Row.G (l:=vl) AY.out (by omega) CL)
 generalize w5.heap.size=bq at *
 have hsz:bq<(w5.alloc (.cells (madeCells #[.int .u32 0] (mm+1)) 173)).heap.size:=(iG.out:DS w _ bu bq bv ov us (List.replicate (mm+1) 0) vl).q.2.1
 generalize w5.alloc (.cells (madeCells #[.int .u32 0] (mm+1)) 173)=w6 at *
 have Rf:bu<bq:=vV
 clear sK CL CK AY gJ vV
 obtain⟨p1,hp1⟩:∃ p1,p1=n0+1:=⟨_,rfl⟩
 have hn1:(n:Int)-1=p1:=by have:=dm.out;omega
 have hn2:(n:Int)-2=n0:=by have:=dm.out;omega
 have ic:Hid _:=hp1
 have hct:w6.cell? ⟨bv,ov+p1,none⟩=some (.int .u32 (vl.getD p1 0:Nat)):=DS.cv (vl:=vl) iG.out (by rw[ji.out,hp1];omega)
 have hcn:w6.cell? ⟨bv,ov+n0,none⟩=some (.int .u32 (vl.getD n0 0:Nat)):=DS.cv (vl:=vl) iG.out (by rw[ji.out];omega)
 have hto:vl.getD p1 0<2^32:=q04 vU.out p1
 have hno:vl.getD n0 0<2^32:=q04 vU.out n0
 have Rh:2^31≤vl.getD p1 0:=by rw[hp1];exact Ch.out
 have Mo:Hid (∀ us jj,okw us→jj+n0+2<us.length→val us<2^(32*(jj+1))*(b*2^e)→_):=fun us jj h1 h2 h3=>q4I h1 vU.out ji.out qY.out h2 h3
 clear Ch
 rw[← hp1] at Mo
 have hpn:p1<n:=by have:=dm.out;omega
 have Ri:n0<n:=by have:=dm.out;omega
 clear hp1
 generalize htop:vl.getD p1 0=top at *
 generalize hnext:vl.getD n0 0=next at *
 clear htop hnext
 have htop:(2147483648:Int)≤top:=by omega
 have Mq:(top:Int)≤4294967295:=by omega
 have I9:(next:Int)≤4294967295:=by omega
 have Mr:((top:Int)==0)=false:=by simp;omega
 clear hto hno Rh
 have jJ:bv<w6.heap.size:=by omega
 refine q0c (by kernel_rfl) (by kernel_rfl) ?_
 intro W hW
 have hq1:=q06 (w:=W) (a:=⟨bv,ov+p1,none⟩) (x:= .int .u32 (top:Int)) (by rw[hW];first|(simp;done)|(simp;omega)|omega) (by rw[hW];first|assumption|(simp [go_sem];done)|(simp [*,go_sem];done))
 have hq2:=q06 (w:=W) (a:=⟨bv,ov+n0,none⟩) (x:= .int .u32 (next:Int)) (by rw[hW];first|(simp;done)|(simp;omega)|omega) (by rw[hW];first|assumption|(simp [go_sem];done)|(simp [*,go_sem];done))
 clear hW
 repeat (go_big_quiet_step (fail))
 refine wpQuiet_nil ?_
 clear hq1 hq2
 intro w7 hw7
 have HD7:Hid (DS w w7 bu bq bv ov us (List.replicate (mm+1) 0) vl):=DS.grow iG.out hw7
 have HIS:Hid _:=DInv.start (n0:=n0) (M:=mm+1) jw.out Mm.out I8.out Mh.out
 clear hct hcn iG hw7 hsz jJ
 go_wp2_with fail
 go_loopw [18] (fun vj wr=>∃ (t:Nat) (us qs:List Nat),t≤mm+1∧vj= .int .i64 ((t:Int)-1)∧DS w wr bu bq bv ov us qs vl∧DInv us qs t (j+2) (mm+1) (b*2^e) (a*2^e)) (fun vj _=>(intOf vj+1).toNat)
 case atStart=>exact⟨mm+1,us,_,Nat.le_refl _,by congr 1;omega,HD7.out,HIS.out⟩
 case round=>
  obtain⟨t,us,qs,ht,rfl,hds,hinv⟩:=hrel
  have iG:Hid _:=hds
  have iU:Hid _:=hinv
  clear hds hinv HD7 HIS jw Mm
  cases t with
  |zero=>
   as_aux_lemma=>
    have hfin:=DInv.fin iU.out (Nat.two_pow_pos e) HB0.out
    obtain⟨hq2,hr2⟩:=hfin
    have Rj:Hid (∀ w1,G wr w1→Calls Tryz.prog 137 #[.slice (some ⟨bq,0,none⟩) (mm+1) (mm+1)] w1 (q0h w1 (a/b))):=fun w1 g=>by
     rw[← hq2];exact q0w (Own.grow (DS.q iG.out) g) iU.out.2.1 (by omega)
    have Rk:Hid (∀ w1,G wr w1→Calls Tryz.prog 137 #[.slice (some ⟨bu,0,none⟩) (j+2) (j+2)] w1 (q0h w1 (val us))):=fun w1 g=>q0w (Own.grow (DS.u iG.out) g) iU.out.1 (by omega)
    have FW:Hid (∀ w1 v,Num w1 v (val us)→Calls Tryz.prog 134 #[v,.int .u64 (e:Int)] w1 (q0h w1 (a%b))):=fun w1 v hn=>by
     rw[← hr2]
     exact q1I w1 v (val us) e (j+2) (by omega) (by omega) hn (by have:=q0q (DS.u iG.out:Own wr bu us).1;rwa[iU.out.1] at this)
    have hgw:=iG.out.g
    have Rl:Hid _:=hgw
    clear hq2 hr2 hgw CJ CG HLen iB HA HB
    go_wp2_with fail
    refine Calls.mono (P:=Tryz.prog) (Rj.out wr (G.refl _)) ?_
    rintro e1 w1 ⟨v1,rfl,hg1,hn1⟩
    go_wp2_with fail
    refine Calls.mono (P:=Tryz.prog) (Rk.out w1 hg1) ?_
    rintro e1 w2 ⟨v2,rfl,hg2,hn2⟩
    go_wp2_with fail
    refine Calls.mono (P:=Tryz.prog) (FW.out w2 v2 hn2) ?_
    rintro e1 w3 ⟨v3,rfl,hg3,jy⟩
    go_wp2_with fail
    go_ret2
    exact⟨_,_,rfl,G.trans Rl.out (G.trans hg1 (G.trans hg2 hg3)),hn1.G (G.trans hg2 hg3),jy⟩
  |succ jj=>
   have mi:us.length=j+2:=iU.out.1
   have zh:qs.length=mm+1:=iU.out.2.1
   have hjm:jj+n0+2<j+2:=by have:=Ad.out;have:=dm.out;omega
   have hJ:(jj:Int)+n-1=((jj+p1:Nat):Int):=by omega
   have hJ2:(jj:Int)+n-2=((jj+n0:Nat):Int):=by omega
   have Rm:(jj:Int)≤300000:=by omega
   have Ia:jj+n<j+2:=by have:=dm.out;omega
   have hjp:jj+p1<j+2:=by omega
   have Rn:jj+n0<j+2:=by omega
   have oQ:=(DS.u iG.out:Own wr bu us).1
   have hc0:=Own.cell (DS.u iG.out:Own wr bu us) (i:=jj+n) (by omega)
   have hc1:=Own.cell (DS.u iG.out:Own wr bu us) (i:=jj+p1) (by omega)
   have hc2:=Own.cell (DS.u iG.out:Own wr bu us) (i:=jj+n0) (by omega)
   have hx0:=q04 oQ (jj+n)
   have hx1:=q04 oQ (jj+p1)
   have hx2:=q04 oQ (jj+n0)
   have hF:=Mo.out us jj oQ (by omega) iU.out.2.2.1
   rw[show jj+n0+2=jj+n from by have:=dm.out;omega,show jj+n0+1=jj+p1 from by have:=ic.out;omega] at hF
   obtain⟨hf1,hf2,hf3,kW,mD,AZ,CO⟩:=hF
   generalize us.getD (jj+n) 0=u0 at *
   generalize us.getD (jj+p1) 0=u1 at *
   generalize hu2:us.getD (jj+n0) 0=u2 at *
   have Ro:Hid _:=hu2
   clear hu2
   obtain⟨h,g0,r0,hw1,hh,hw2,hw3,hg0,Ba,hr0,Bb⟩:=q9I u0 u1 top hx0 hx1 (by omega) hf1
   have hS0:val us<(g0+1)*(2^(32*jj)*(b*2^e)):=by
    rw[hg0]
    refine qan (u2:=u2) (P:=2^(32*(jj+n0))) (by rw[hh];exact mD) hx2 (Nat.le_trans (Nat.mul_le_mul_right _ (by omega)) AZ) (by omega)
   have qG:Hid (val us<(g0+1)*(2^(32*jj)*(b*2^e))):=hS0
   have Ms:Hid _:=hf1
   have Mt:Hid _:=hf2
   have sW:Hid _:=hf3
   have sG:Hid _:=kW
   have Mv:Hid _:=mD
   have Ib:Hid _:=AZ
   have Mw:Hid _:=CO
   have HH:Hid _:=hh
   have Mx:Hid _:=Ba
   have Rq:(u0:Int)≤4294967295:=by omega
   have Rs:(u1:Int)≤4294967295:=by omega
   have Rt:(u2:Int)≤4294967295:=by omega
   have Ic:(r0:Int)<top:=by omega
   have Cc:Hid (u1<2^32):=hx1
   have Bc:Hid (u2<2^32):=hx2
   have Ie:Hid (g0≤4294967297):=Bb
   have jL:Hid (jj+n<j+2):=Ia
   have jw:Hid _:=mi
   have ym:Hid _:=zh
   have hbw:bu<wr.heap.size:=(DS.u iG.out:Own wr bu us).2.1
   clear hS0 hf1 hf2 hf3 kW mD AZ CO hh Ba hg0 hx0 hx1 hx2 hr0 Bb oQ hjm
   clear CJ CG HLen iB HA HB
   go_wp2_with fail
   refine q0c (by kernel_rfl) (by kernel_rfl) ?_
   intro W hW
   have hq3:=q06 (w:=W) (a:=⟨bu,jj+n,none⟩) (x:= .int .u32 (u0:Int)) (by rw[hW];first|(simp;done)|(simp;omega)|omega) (by rw[hW];first|assumption|(simp [go_sem];done)|(simp [*,go_sem];done))
   have hq4:=q06 (w:=W) (a:=⟨bu,jj+p1,none⟩) (x:= .int .u32 (u1:Int)) (by rw[hW];first|(simp;done)|(simp;omega)|omega) (by rw[hW];first|assumption|(simp [go_sem];done)|(simp [*,go_sem];done))
   clear hW
   repeat (go_big_quiet_step (fail))
   refine wpQuiet_nil ?_
   clear hq3 hq4
   intro w8 hw8
   have cu:Hid (DS w w8 bu bq bv ov us qs vl):=DS.grow iG.out hw8
   have hc2':=hw8.cell (p:=⟨bu,jj+n0,none⟩) hbw hc2
   clear hc0 hc1 hc2 hw8 iG
   go_wp2_with fail
   refine q0c (by kernel_rfl) (by kernel_rfl) ?_
   intro W hW
   clear hW
   repeat (go_big_quiet_step (fail))
   refine wpQuiet_nil ?_
   intro w9 Ig
   have cK:Hid (DS w w9 bu bq bv ov us qs vl):=DS.grow cu.out Ig
   have Bd:bu<w8.heap.size:=(DS.u cu.out:Own w8 bu us).2.1
   have hc2:=Ig.cell (p:=⟨bu,jj+n0,none⟩) Bd hc2'
   have Ih:(r0:Int)≤4294967295:=by omega
   clear hc2' Ig cu Bd hc2 hbw hw1 hw2
   have hgs0:GS (val us) (2^(32*jj)*(b*2^e)) h top g0 r0:=⟨Mx.out,qG.out⟩
   have Be:Hid _:=hgs0
   have Ii:r0<4294967296:=by omega
   clear hgs0
   have HW2:Hid (4294967296*2^(32*(jj+n0))≤2^(32*jj)*(b*2^e)):=Nat.le_trans (Nat.mul_le_mul_right _ (by omega)) Ib.out
   have Bf:Hid (∀ g r,g*top+r=h→g<2^32→g*next≤r*2^32+u2→g*(2^(32*jj)*(b*2^e))<val us+2^(32*jj)*(b*2^e)):=fun g r k1 k2 k3=>q6d (h:=h) (by rw[HH.out];exact sG.out) Mw.out HW2.out k1 k2 k3
   have Ij:Hid (∀ g r,g*top+r=h→2^32≤r→g<2^32∧g*(2^(32*jj)*(b*2^e))<val us+2^(32*jj)*(b*2^e)):=fun g r k1 k2=>by
    obtain⟨k3,k4⟩:=q6G (u1:=u1) (u2:=u2) (next:=next) (by rw[HH.out];exact Nat.add_le_add_right (Nat.mul_le_mul_right _ Ms.out) _) Cc.out k1 k2 (by omega)
    exact⟨k3,Bf.out g r k1 k3 k4⟩
   have Ik:Hid (∀ g,4294967295<g→val us<g*(2^(32*jj)*(b*2^e))):=fun g k1=>q4F sW.out (by omega)
   have Il:Hid (∀ g r,g*top+r=h→r*2^32+u2<g*next→val us<g*(2^(32*jj)*(b*2^e))):=fun g r k1 k2=>q61 (P:=2^(32*(jj+n0))) (h:=h) (by rw[HH.out];exact Mv.out) Ib.out k1 k2
   have kL:Hid (jj+n0+2<us.length):=by
    have h0:us.length=j+2:=jw.out
    have h1:jj+n<j+2:=jL.out
    have h2:n=n0+2:=dm.out
    show jj+n0+2<us.length
    omega
   have hne1:¬ bu=bq:=by omega
   have hne2:¬ bq=bu:=by omega
   clear HW2 Ms sW sG Mv Ib Mw HH Mx qG
   go_wp2_with fail
   simp only[hw3]
   clear hw3
   go_loopw [20,21] (fun vg vr wr=>∃ g r:Nat,vg= .int .u64 g∧vr= .int .u64 r∧g≤4294967297∧r<4294967296∧GS (val us) (2^(32*jj)*(b*2^e)) h top g r∧DS w wr bu bq bv ov us qs vl) (fun vg _ _=>(intOf vg).toNat)
   case atStart=>exact⟨g0,r0,rfl,rfl,Ie.out,by omega,Be.out,cK.out⟩
   case round=>
    obtain⟨g,r,rfl,rfl,hgb,hrb,hgs,hds⟩:=hrel
    have Bg:Hid _:=hgs
    have iG:Hid _:=hds
    clear hgs hds cK Be Ii Ic Ih
    have hc2:wr.cell? ⟨bu,jj+n0,none⟩=some (.int .u32 (us.getD (jj+n0) 0:Nat)):=Own.cell (DS.u iG.out:Own wr bu us) (by have:=jw.out;omega)
    rw[Ro.out] at hc2
    have hgi:(g:Int)≤4294967297:=by omega
    have Ck:(r:Int)≤4294967295:=by omega
    have rM:decide ((4294967295:Int)<g)=decide (4294967295<g):=by congr 1;exact propext (by omega)
    have rO:decide ((4294967295:Int)<(r:Int)+top)=decide (4294967295<r+top):=by congr 1;exact propext (by omega)
    by_cases hg:4294967295<g
    case' neg=>
     rw[show decide (4294967295<g)=false from by simp;omega] at rM
     have Bh:g*next≤4294967295*4294967295:=Nat.mul_le_mul (by omega) (by omega)
     obtain⟨p,hp,hpi,hpe⟩:∃ p:Nat,(g:Int)*next=p∧(p:Int)≤18446744065119617025∧p=g*next:=⟨g*next,by push_cast;rfl,by omega,rfl⟩
     obtain⟨q,hq,hqe⟩:∃ q:Nat,bits .or .u64 ((r:Int)*4294967296) (u2:Int)=q∧q=r*2^32+u2:=⟨_,q8f r u2 (by omega) Bc.out,rfl⟩
     have nC:Hid _:=hpe
     have nD:Hid _:=hqe
     by_cases hpq:q<p
     case neg=>
      have Bi:decide (q<p)=false:=by simp;omega
      have HT2:Hid (g*(2^(32*jj)*(b*2^e))<val us+2^(32*jj)*(b*2^e)):=Bf.out g r Bg.out.1 (by omega) (by rw[← nC.out,← nD.out];omega)
      have HT1:Hid (val us<(g+1)*(2^(32*jj)*(b*2^e))):=Bg.out.2
      have hgt:g<4294967296:=by omega
      clear Bh hpe hqe hpq rO hg hgi
      go_wp2_with fail
      clear rM hp hq Bi hpi hc2
      obtain⟨gt,oU⟩:∃ gt:Nat,gt=g:=⟨g,rfl⟩
      rw[← oU] at HT1 HT2 hgt ⊢
      clear oU
      as_aux_lemma=>
       have Im:(gt:Int)≤4294967295:=by omega
       go_loopw [22,23,24] (fun vc vd vi w2=>∃ (i c d:Nat) (cZ:List Nat),i≤n∧vi= .int .i64 i∧vc= .int .u64 c∧vd= .int .u64 d∧c<4294967296∧d≤1∧DS w w2 bu bq bv ov cZ qs vl∧AW us cZ vl jj n0 i gt c d) (fun _ _ vi _=>n-(intOf vi).toNat)
       case atStart=>exact⟨0,0,0,us,Nat.zero_le _,rfl,rfl,rfl,by omega,by omega,iG.out,AW.start Mt.out⟩
       case round=>
        obtain⟨i,c,d,cZ,hi,rfl,rfl,rfl,hc,hd,hds,haw⟩:=hrel
        have HD2:Hid (DS w wr bu bq bv ov cZ qs vl):=hds
        have vW:Hid _:=haw
        have hl2:cZ.length=j+2:=haw.1.trans jw.out
        clear hds haw iG
        have hci:(c:Int)≤4294967295:=by omega
        have hdi:(d:Int)≤1:=by omega
        have hib:(i:Int)≤300002:=by omega
        by_cases hin:i<n
        ·as_aux_lemma=>
          have jM:decide (i<n)=true:=by simp;omega
          have hcv:=DS.cv (vl:=vl) HD2.out (i:=i) (by rw[ji.out];have:=dm.out;omega)
          have dW:i+jj<cZ.length:=by have h1:=jL.out;omega
          have mV:=Own.cell (DS.u HD2.out:Own wr bu cZ) (i:=i+jj) dW
          have hfu:=Own.frozen (DS.u HD2.out:Own wr bu cZ) (i:=i+jj) dW
          have hy:=q04 vU.out i
          have hx:=q04 (DS.u HD2.out:Own wr bu cZ).1 (i+jj)
          obtain⟨p,lo,t0,tt,rr,d',c',q1,q2,q3,q4,q5,q6,q7,q8,q9,Bj,Bl,Bn,Bo⟩:=q8P gt c d _ _ hgt hc hd hx hy
          have HST:Hid _:=AW.step vW.out (by have:=dm.out;omega) kL.out Bo
          have iC:Hid (d'≤1):=Bj
          have mW:Hid (c'<2^32):=Bl
          have vX:Hid (rr<2^32):=Bn
          generalize vl.getD i 0=y at *
          generalize cZ.getD (i+jj) 0=x at *
          have hyi:(y:Int)≤4294967295:=by omega
          have hxi:(x:Int)≤4294967295:=by omega
          have hpi:(p:Int)≤18446744065119617025:=by omega
          have Io:(lo:Int)≤4294967295:=by omega
          have vY:i+jj<j+2:=by omega
          have hin1:i+1≤n:=hin
          have Bp:n-(i+1)<n-i:=by omega
          have sM:Hid (i+jj<cZ.length):=dW
          clear q2 q4 Bj Bl Bn Bo hx hy hc hd hin dW
          go_wp2_with fail
          go_roundw
          case rel=>exact⟨i+1,c',d',cZ.set (i+jj) rr,hin1,by go_num,rfl,rfl,mW.out,iC.out,DS.setU HD2.out (i+jj) rr sM.out vX.out,HST.out⟩
          case measure=>simp only[intOf];omega
        ·as_aux_lemma=>
          have jM:decide (i<n)=false:=by simp;omega
          have hie:i=n0+2:=by have:=dm.out;omega
          rw[hie] at vW
          have fI:jj+n<cZ.length:=by have h1:=jL.out;omega
          have mV:=Own.cell (DS.u HD2.out:Own wr bu cZ) (i:=jj+n) fI
          have hfu:=Own.frozen (DS.u HD2.out:Own wr bu cZ) (i:=jj+n) fI
          have hx:=q04 (DS.u HD2.out:Own wr bu cZ).1 (jj+n)
          obtain⟨t0,tt,rr,d',q1,q2,q3,q4,q5,q6,q7⟩:=q4L c d _ hc hd hx
          have eO:=AW.fin vW.out ji.out qY.out kL.out (r:=rr) (d':=d') (by rw[← dm.out];exact q7)
          rw[← dm.out] at eO
          have HD3:Hid (DS w (wr.setCell ⟨bu,jj+n,none⟩ (.int .u32 (rr:Int))) bu bq bv ov (cZ.set (jj+n) rr) qs vl):=DS.setU HD2.out (jj+n) rr fI q6
          have hxi:(cZ.getD (jj+n) 0:Int)≤4294967295:=by omega
          obtain⟨hf1,hf2,hf3⟩:=eO
          have HA1:Hid _:=hf1
          have kK:Hid _:=hf2
          have rP:Hid _:=hf3
          generalize cZ.getD (jj+n) 0=x at *
          have sZ:Hid _:=q7
          have hqj:jj<qs.length:=by rw[ym.out];omega
          have hgw:IntKind.u32.wrap (gt:Int)=gt:=by rw[IntKind.wrap_u32];omega
          have uU:Hid (gt<2^32):=hgt
          have yw:Hid (d'≤1):=q5
          by_cases hd':d'=0
          ·subst hd'
           have hcq:=Own.cell (DS.q HD3.out) (i:=jj) hqj
           have Ip:=Own.frozen (DS.q HD3.out) (i:=jj) hqj
           have qz:Hid _:=DInv.right iU.out (by omega) HA1.out HT1.out rP.out
           clear hf1 hf2 hf3 q6 q7 q5 hx hc hd hin hie
           go_wp2_with fail
           go_roundw
           case rel=>exact⟨jj,cZ.set (jj+n) rr,qs.set jj gt,by omega,by go_num,DS.setQ HD3.out jj gt hqj uU.out,qz.out⟩
           case measure=>simp [intOf]
          ·obtain rfl:d'=1:=by omega
           have hpos:0<gt:=by
            rcases Nat.eq_zero_or_pos gt with h0|h0
            ·exfalso
             have h1:=rP.out
             rw[h0,Nat.zero_mul,Nat.add_zero,Nat.mul_one] at h1
             have h2:=q3E (DS.u HD3.out).1 kK.out
             rw[h1] at h2
             exact absurd h2 (Nat.not_lt.2 (Nat.le_add_left _ _))
            ·exact h0
           obtain⟨gm,hgm⟩:∃ gm,gt-1=gm:=⟨_,rfl⟩
           have Iq:IntKind.u64.wrap ((gt:Int)-1)=gm:=by rw[IntKind.wrap_u64];omega
           have Bq:IntKind.u32.wrap (gm:Int)=gm:=by rw[IntKind.wrap_u32];omega
           have Ir:Hid _:=hgm
           have vZ:Hid (gm<2^32):=by show gm<2^32;omega
           have Br:Hid (BK (cZ.set (jj+n) rr) (cZ.set (jj+n) rr) vl jj n0 0 0):=BK.start (us:=cZ.set (jj+n) rr) (vl:=vl) kK.out
           clear hf1 hf2 hf3 q6 q7 q5 hx hc hd hin hie hd' hpos hgm
           go_wp2_with fail
           as_aux_lemma=>
            clear mV hfu q1 q2 q3 q4
            generalize wh:wr.setCell ⟨bu,jj+n,none⟩ (.int .u32 (rr:Int))=w3 at *
            clear wh
            generalize oV:cZ.set (jj+n) rr=Bt at *
            have Iu:Hid _:=oV
            clear oV jM
            go_loopw [22,27] (fun vc vi w4=>∃ (i c:Nat) (dA:List Nat),i≤n∧vi= .int .i64 i∧vc= .int .u64 c∧c≤1∧DS w w4 bu bq bv ov dA qs vl∧BK Bt dA vl jj n0 i c) (fun _ vi _=>n-(intOf vi).toNat)
            case atStart=>exact⟨0,0,Bt,Nat.zero_le _,rfl,rfl,by omega,HD3.out,Br.out⟩
            case round=>
             obtain⟨i,c,dA,hi,rfl,rfl,hc,hds,hbk⟩:=hrel
             have HD4:Hid (DS w wr bu bq bv ov dA qs vl):=hds
             have wm:Hid _:=hbk
             have hl4:dA.length=j+2:=hbk.1.trans (HA1.out.trans jw.out)
             clear hds hbk Br
             have hci:(c:Int)≤1:=by omega
             have hib:(i:Int)≤300002:=by omega
             by_cases hin:i<n
             ·as_aux_lemma=>
               have jM:decide (i<n)=true:=by simp;omega
               have hcv:=DS.cv (vl:=vl) HD4.out (i:=i) (by rw[ji.out];have:=dm.out;omega)
               have dW:i+jj<dA.length:=by have h1:=jL.out;omega
               have mV:=Own.cell (DS.u HD4.out:Own wr bu dA) (i:=i+jj) dW
               have hfu:=Own.frozen (DS.u HD4.out:Own wr bu dA) (i:=i+jj) dW
               have hy:=q04 vU.out i
               have hx:=q04 (DS.u HD4.out:Own wr bu dA).1 (i+jj)
               obtain⟨jN,c',q1,q2,q3,q4,q5⟩:=q8Q c _ _ hc hx hy
               have HST:Hid _:=BK.step wm.out (by have:=dm.out;omega) (by rw[HA1.out];exact kL.out) q5
               have tq:Hid (c'≤1):=q3
               have Iw:Hid (jN<2^32):=q4
               generalize vl.getD i 0=y at *
               generalize dA.getD (i+jj) 0=x at *
               have hyi:(y:Int)≤4294967295:=by omega
               have hxi:(x:Int)≤4294967295:=by omega
               have vY:i+jj<j+2:=by omega
               have hin1:i+1≤n:=hin
               have sM:Hid (i+jj<dA.length):=dW
               have oW:bu<wr.heap.size:=(DS.u HD4.out:Own wr bu dA).2.1
               have IA:bv<wr.heap.size:=by omega
               clear q3 q4 q5 hx hy hc hin dW
               go_wp2_with fail
               refine q0c (by kernel_rfl) (by kernel_rfl) ?_
               intro W hW
               have lF:=q06 (w:=W) (a:=⟨bu,i+jj,none⟩) (x:= .int .u32 (x:Int)) (by rw[hW];first|(simp;done)|(simp;omega)|omega) (by rw[hW];first|assumption|(simp [go_sem];done)|(simp [*,go_sem];done))
               have mK:=q06 (w:=W) (a:=⟨bv,ov+i,none⟩) (x:= .int .u32 (y:Int)) (by rw[hW];first|(simp;done)|(simp;omega)|omega) (by rw[hW];first|assumption|(simp [go_sem];done)|(simp [*,go_sem];done))
               clear hW
               repeat (go_big_quiet_step (fail))
               refine wpQuiet_nil ?_
               clear lF mK
               intro IB jO
               have HD5:Hid (DS w IB bu bq bv ov dA qs vl):=DS.grow HD4.out jO
               have IC:=jO.cell oW mV
               have IE:=jO.frozen oW hfu
               clear mV hfu hcv jO
               go_wp2_with fail
               go_roundw
               case rel=>exact⟨i+1,c',dA.set (i+jj) jN,hin1,by go_num,rfl,tq.out,DS.setU HD5.out (i+jj) jN sM.out Iw.out,HST.out⟩
               case measure=>simp only[intOf];omega
             ·as_aux_lemma=>
               have jM:decide (i<n)=false:=by simp;omega
               have hie:i=n0+2:=by have:=dm.out;omega
               rw[hie] at wm
               have fI:jj+n<dA.length:=by have h1:=jL.out;omega
               have mV:=Own.cell (DS.u HD4.out:Own wr bu dA) (i:=jj+n) fI
               have hfu:=Own.frozen (DS.u HD4.out:Own wr bu dA) (i:=jj+n) fI
               have hx:=q04 (DS.u HD4.out:Own wr bu dA).1 (jj+n)
               obtain⟨jN,kk,q1,q2,q3⟩:=q6L c (dA.getD (jj+n) 0)
               have eO:=BK.fin wm.out ji.out qY.out (by rw[HA1.out];exact kL.out) (r:=jN) (k:=kk) (by rw[← dm.out];exact q3)
               rw[← dm.out] at eO
               have HD5:Hid (DS w (wr.setCell ⟨bu,jj+n,none⟩ (.int .u32 (jN:Int))) bu bq bv ov (dA.set (jj+n) jN) qs vl):=DS.setU HD4.out (jj+n) jN fI q2
               have hxi:(dA.getD (jj+n) 0:Int)≤4294967295:=by omega
               have oZ:b*2^e<2^(32*(n0+2)):=nu.out
               have hDB:=DInv.back iU.out (by omega) (eO.1.trans HA1.out) HT1.out HT2.out oZ (DS.u HD3.out).1 kK.out rP.out (DS.u HD5.out).1 eO.2.1 eO.2.2
               rw[Ir.out] at hDB
               have qz:Hid _:=hDB.1
               generalize dA.getD (jj+n) 0=x at *
               have hcq:=Own.cell (DS.q HD5.out) (i:=jj) hqj
               have Ip:=Own.frozen (DS.q HD5.out) (i:=jj) hqj
               have hcw:IntKind.u32.wrap (c:Int)=c:=by rw[IntKind.wrap_u32];omega
               clear eO hDB oZ q2 q3 hx hc hin hie
               go_wp2_with fail
               go_roundw
               case rel=>exact⟨jj,dA.set (jj+n) jN,qs.set jj gm,by omega,by go_num,DS.setQ HD5.out jj gm hqj vZ.out,qz.out⟩
               case measure=>simp [intOf]
     have Bi:decide (q<p)=true:=by simp;omega
     obtain⟨g',hg'⟩:∃ g',g=g'+1:=by
      rcases g with _|g'
      ·rw[Nat.zero_mul] at hpe;omega
      ·exact⟨g',rfl⟩
     have hgm:IntKind.u64.wrap ((g:Int)-1)=g':=by rw[IntKind.wrap_u64];omega
     have CP:Hid _:=hg'
     have hsum:g'*top+(r+top)=h:=by rw[← Bg.out.1,hg',Nat.add_mul];omega
     have wo:Hid _:=hsum
     have HT1:Hid (val us<(g'+1)*(2^(32*jj)*(b*2^e))):=by rw[← CP.out];exact Il.out g r Bg.out.1 (by rw[← nC.out,← nD.out];exact hpq)
     clear Bh hpe hqe hpq
    case' pos=>
     rw[show decide (4294967295<g)=true from by simp;omega] at rM
     obtain⟨g',hg'⟩:∃ g',g=g'+1:=⟨g-1,by omega⟩
     have hgm:IntKind.u64.wrap ((g:Int)-1)=g':=by rw[IntKind.wrap_u64];omega
     have CP:Hid _:=hg'
     have hsum:g'*top+(r+top)=h:=by rw[← Bg.out.1,hg',Nat.add_mul];omega
     have wo:Hid _:=hsum
     have HT1:Hid (val us<(g'+1)*(2^(32*jj)*(b*2^e))):=by rw[← CP.out];exact Ik.out g hg
    all_goals as_aux_lemma=>
     by_cases hr:4294967295<r+top
     ·rw[show decide (4294967295<r+top)=true from by simp;omega] at rO
      have hbr:=Ij.out g' (r+top) wo.out (by omega)
      have HT2:Hid (g'*(2^(32*jj)*(b*2^e))<val us+2^(32*jj)*(b*2^e)):=hbr.2
      have hgt:g'<4294967296:=hbr.1
      clear hr hg hg' hsum hbr
      go_wp2_with fail
      clear rM rO hgm hc2 hgi
      obtain⟨gt,oU⟩:∃ gt:Nat,gt=g':=⟨g',rfl⟩
      rw[← oU] at HT1 HT2 hgt ⊢
      clear oU
      as_aux_lemma=>
       have Im:(gt:Int)≤4294967295:=by omega
       go_loopw [22,23,24] (fun vc vd vi w2=>∃ (i c d:Nat) (cZ:List Nat),i≤n∧vi= .int .i64 i∧vc= .int .u64 c∧vd= .int .u64 d∧c<4294967296∧d≤1∧DS w w2 bu bq bv ov cZ qs vl∧AW us cZ vl jj n0 i gt c d) (fun _ _ vi _=>n-(intOf vi).toNat)
       case atStart=>exact⟨0,0,0,us,Nat.zero_le _,rfl,rfl,rfl,by omega,by omega,iG.out,AW.start Mt.out⟩
       case round=>
        obtain⟨i,c,d,cZ,hi,rfl,rfl,rfl,hc,hd,hds,haw⟩:=hrel
        have HD2:Hid (DS w wr bu bq bv ov cZ qs vl):=hds
        have vW:Hid _:=haw
        have hl2:cZ.length=j+2:=haw.1.trans jw.out
        clear hds haw iG
        have hci:(c:Int)≤4294967295:=by omega
        have hdi:(d:Int)≤1:=by omega
        have hib:(i:Int)≤300002:=by omega
        by_cases hin:i<n
        ·as_aux_lemma=>
          have jM:decide (i<n)=true:=by simp;omega
          have hcv:=DS.cv (vl:=vl) HD2.out (i:=i) (by rw[ji.out];have:=dm.out;omega)
          have dW:i+jj<cZ.length:=by have h1:=jL.out;omega
          have mV:=Own.cell (DS.u HD2.out:Own wr bu cZ) (i:=i+jj) dW
          have hfu:=Own.frozen (DS.u HD2.out:Own wr bu cZ) (i:=i+jj) dW
          have hy:=q04 vU.out i
          have hx:=q04 (DS.u HD2.out:Own wr bu cZ).1 (i+jj)
          obtain⟨p,lo,t0,tt,rr,d',c',q1,q2,q3,q4,q5,q6,q7,q8,q9,Bj,Bl,Bn,Bo⟩:=q8P gt c d _ _ hgt hc hd hx hy
          have HST:Hid _:=AW.step vW.out (by have:=dm.out;omega) kL.out Bo
          have iC:Hid (d'≤1):=Bj
          have mW:Hid (c'<2^32):=Bl
          have vX:Hid (rr<2^32):=Bn
          generalize vl.getD i 0=y at *
          generalize cZ.getD (i+jj) 0=x at *
          have hyi:(y:Int)≤4294967295:=by omega
          have hxi:(x:Int)≤4294967295:=by omega
          have hpi:(p:Int)≤18446744065119617025:=by omega
          have Io:(lo:Int)≤4294967295:=by omega
          have vY:i+jj<j+2:=by omega
          have hin1:i+1≤n:=hin
          have Bp:n-(i+1)<n-i:=by omega
          have sM:Hid (i+jj<cZ.length):=dW
          clear q2 q4 Bj Bl Bn Bo hx hy hc hd hin dW
          go_wp2_with fail
          go_roundw
          case rel=>exact⟨i+1,c',d',cZ.set (i+jj) rr,hin1,by go_num,rfl,rfl,mW.out,iC.out,DS.setU HD2.out (i+jj) rr sM.out vX.out,HST.out⟩
          case measure=>simp only[intOf];omega
        ·as_aux_lemma=>
          have jM:decide (i<n)=false:=by simp;omega
          have hie:i=n0+2:=by have:=dm.out;omega
          rw[hie] at vW
          have fI:jj+n<cZ.length:=by have h1:=jL.out;omega
          have mV:=Own.cell (DS.u HD2.out:Own wr bu cZ) (i:=jj+n) fI
          have hfu:=Own.frozen (DS.u HD2.out:Own wr bu cZ) (i:=jj+n) fI
          have hx:=q04 (DS.u HD2.out:Own wr bu cZ).1 (jj+n)
          obtain⟨t0,tt,rr,d',q1,q2,q3,q4,q5,q6,q7⟩:=q4L c d _ hc hd hx
          have eO:=AW.fin vW.out ji.out qY.out kL.out (r:=rr) (d':=d') (by rw[← dm.out];exact q7)
          rw[← dm.out] at eO
          have HD3:Hid (DS w (wr.setCell ⟨bu,jj+n,none⟩ (.int .u32 (rr:Int))) bu bq bv ov (cZ.set (jj+n) rr) qs vl):=DS.setU HD2.out (jj+n) rr fI q6
          have hxi:(cZ.getD (jj+n) 0:Int)≤4294967295:=by omega
          obtain⟨hf1,hf2,hf3⟩:=eO
          have HA1:Hid _:=hf1
          have kK:Hid _:=hf2
          have rP:Hid _:=hf3
          generalize cZ.getD (jj+n) 0=x at *
          have sZ:Hid _:=q7
          have hqj:jj<qs.length:=by rw[ym.out];omega
          have hgw:IntKind.u32.wrap (gt:Int)=gt:=by rw[IntKind.wrap_u32];omega
          have uU:Hid (gt<2^32):=hgt
          have yw:Hid (d'≤1):=q5
          by_cases hd':d'=0
          ·subst hd'
           have hcq:=Own.cell (DS.q HD3.out) (i:=jj) hqj
           have Ip:=Own.frozen (DS.q HD3.out) (i:=jj) hqj
           have qz:Hid _:=DInv.right iU.out (by omega) HA1.out HT1.out rP.out
           clear hf1 hf2 hf3 q6 q7 q5 hx hc hd hin hie
           go_wp2_with fail
           go_roundw
           case rel=>exact⟨jj,cZ.set (jj+n) rr,qs.set jj gt,by omega,by go_num,DS.setQ HD3.out jj gt hqj uU.out,qz.out⟩
           case measure=>simp [intOf]
          ·obtain rfl:d'=1:=by omega
           have hpos:0<gt:=by
            rcases Nat.eq_zero_or_pos gt with h0|h0
            ·exfalso
             have h1:=rP.out
             rw[h0,Nat.zero_mul,Nat.add_zero,Nat.mul_one] at h1
             have h2:=q3E (DS.u HD3.out).1 kK.out
             rw[h1] at h2
             exact absurd h2 (Nat.not_lt.2 (Nat.le_add_left _ _))
            ·exact h0
           obtain⟨gm,hgm⟩:∃ gm,gt-1=gm:=⟨_,rfl⟩
           have Iq:IntKind.u64.wrap ((gt:Int)-1)=gm:=by rw[IntKind.wrap_u64];omega
           have Bq:IntKind.u32.wrap (gm:Int)=gm:=by rw[IntKind.wrap_u32];omega
           have Ir:Hid _:=hgm
           have vZ:Hid (gm<2^32):=by show gm<2^32;omega
           have Br:Hid (BK (cZ.set (jj+n) rr) (cZ.set (jj+n) rr) vl jj n0 0 0):=BK.start (us:=cZ.set (jj+n) rr) (vl:=vl) kK.out
           clear hf1 hf2 hf3 q6 q7 q5 hx hc hd hin hie hd' hpos hgm
           go_wp2_with fail
           as_aux_lemma=>
            clear mV hfu q1 q2 q3 q4
            generalize wh:wr.setCell ⟨bu,jj+n,none⟩ (.int .u32 (rr:Int))=w3 at *
            clear wh
            generalize oV:cZ.set (jj+n) rr=Bt at *
            have Iu:Hid _:=oV
            clear oV jM
            go_loopw [22,27] (fun vc vi w4=>∃ (i c:Nat) (dA:List Nat),i≤n∧vi= .int .i64 i∧vc= .int .u64 c∧c≤1∧DS w w4 bu bq bv ov dA qs vl∧BK Bt dA vl jj n0 i c) (fun _ vi _=>n-(intOf vi).toNat)
            case atStart=>exact⟨0,0,Bt,Nat.zero_le _,rfl,rfl,by omega,HD3.out,Br.out⟩
            case round=>
             obtain⟨i,c,dA,hi,rfl,rfl,hc,hds,hbk⟩:=hrel
             have HD4:Hid (DS w wr bu bq bv ov dA qs vl):=hds
             have wm:Hid _:=hbk
             have hl4:dA.length=j+2:=hbk.1.trans (HA1.out.trans jw.out)
             clear hds hbk Br
             have hci:(c:Int)≤1:=by omega
             have hib:(i:Int)≤300002:=by omega
             by_cases hin:i<n
             ·as_aux_lemma=>
               have jM:decide (i<n)=true:=by simp;omega
               have hcv:=DS.cv (vl:=vl) HD4.out (i:=i) (by rw[ji.out];have:=dm.out;omega)
               have dW:i+jj<dA.length:=by have h1:=jL.out;omega
               have mV:=Own.cell (DS.u HD4.out:Own wr bu dA) (i:=i+jj) dW
               have hfu:=Own.frozen (DS.u HD4.out:Own wr bu dA) (i:=i+jj) dW
               have hy:=q04 vU.out i
               have hx:=q04 (DS.u HD4.out:Own wr bu dA).1 (i+jj)
               obtain⟨jN,c',q1,q2,q3,q4,q5⟩:=q8Q c _ _ hc hx hy
               have HST:Hid _:=BK.step wm.out (by have:=dm.out;omega) (by rw[HA1.out];exact kL.out) q5
               have tq:Hid (c'≤1):=q3
               have Iw:Hid (jN<2^32):=q4
               generalize vl.getD i 0=y at *
               generalize dA.getD (i+jj) 0=x at *
               have hyi:(y:Int)≤4294967295:=by omega
               have hxi:(x:Int)≤4294967295:=by omega
               have vY:i+jj<j+2:=by omega
               have hin1:i+1≤n:=hin
               have sM:Hid (i+jj<dA.length):=dW
               have oW:bu<wr.heap.size:=(DS.u HD4.out:Own wr bu dA).2.1
               have IA:bv<wr.heap.size:=by omega
               clear q3 q4 q5 hx hy hc hin dW
               go_wp2_with fail
               refine q0c (by kernel_rfl) (by kernel_rfl) ?_
               intro W hW
               have mM:=q06 (w:=W) (a:=⟨bu,i+jj,none⟩) (x:= .int .u32 (x:Int)) (by rw[hW];first|(simp;done)|(simp;omega)|omega) (by rw[hW];first|assumption|(simp [go_sem];done)|(simp [*,go_sem];done))
               have hq8:=q06 (w:=W) (a:=⟨bv,ov+i,none⟩) (x:= .int .u32 (y:Int)) (by rw[hW];first|(simp;done)|(simp;omega)|omega) (by rw[hW];first|assumption|(simp [go_sem];done)|(simp [*,go_sem];done))
               clear hW
               repeat (go_big_quiet_step (fail))
               refine wpQuiet_nil ?_
               clear mM hq8
               intro IB jO
               have HD5:Hid (DS w IB bu bq bv ov dA qs vl):=DS.grow HD4.out jO
               have IC:=jO.cell oW mV
               have IE:=jO.frozen oW hfu
               clear mV hfu hcv jO
               go_wp2_with fail
               go_roundw
               case rel=>exact⟨i+1,c',dA.set (i+jj) jN,hin1,by go_num,rfl,tq.out,DS.setU HD5.out (i+jj) jN sM.out Iw.out,HST.out⟩
               case measure=>simp only[intOf];omega
             ·as_aux_lemma=>
               have jM:decide (i<n)=false:=by simp;omega
               have hie:i=n0+2:=by have:=dm.out;omega
               rw[hie] at wm
               have fI:jj+n<dA.length:=by have h1:=jL.out;omega
               have mV:=Own.cell (DS.u HD4.out:Own wr bu dA) (i:=jj+n) fI
               have hfu:=Own.frozen (DS.u HD4.out:Own wr bu dA) (i:=jj+n) fI
               have hx:=q04 (DS.u HD4.out:Own wr bu dA).1 (jj+n)
               obtain⟨jN,kk,q1,q2,q3⟩:=q6L c (dA.getD (jj+n) 0)
               have eO:=BK.fin wm.out ji.out qY.out (by rw[HA1.out];exact kL.out) (r:=jN) (k:=kk) (by rw[← dm.out];exact q3)
               rw[← dm.out] at eO
               have HD5:Hid (DS w (wr.setCell ⟨bu,jj+n,none⟩ (.int .u32 (jN:Int))) bu bq bv ov (dA.set (jj+n) jN) qs vl):=DS.setU HD4.out (jj+n) jN fI q2
               have hxi:(dA.getD (jj+n) 0:Int)≤4294967295:=by omega
               have oZ:b*2^e<2^(32*(n0+2)):=nu.out
               have hDB:=DInv.back iU.out (by omega) (eO.1.trans HA1.out) HT1.out HT2.out oZ (DS.u HD3.out).1 kK.out rP.out (DS.u HD5.out).1 eO.2.1 eO.2.2
               rw[Ir.out] at hDB
               have qz:Hid _:=hDB.1
               generalize dA.getD (jj+n) 0=x at *
               have hcq:=Own.cell (DS.q HD5.out) (i:=jj) hqj
               have Ip:=Own.frozen (DS.q HD5.out) (i:=jj) hqj
               have hcw:IntKind.u32.wrap (c:Int)=c:=by rw[IntKind.wrap_u32];omega
               clear eO hDB oZ q2 q3 hx hc hin hie
               go_wp2_with fail
               go_roundw
               case rel=>exact⟨jj,dA.set (jj+n) jN,qs.set jj gm,by omega,by go_num,DS.setQ HD5.out jj gm hqj vZ.out,qz.out⟩
               case measure=>simp [intOf]
     ·rw[show decide (4294967295<r+top)=false from by simp;omega] at rO
      have hrn:r+top<4294967296:=by omega
      have hgn:g'≤4294967297:=by omega
      clear hr hg hg' hsum
      go_wp2_with fail
      go_roundw
      case rel=>exact⟨g',r+top,rfl,by go_num,hgn,hrn,⟨wo.out,HT1.out⟩,iG.out⟩
      case measure=>have:=CP.out;simp only[intOf];omega
