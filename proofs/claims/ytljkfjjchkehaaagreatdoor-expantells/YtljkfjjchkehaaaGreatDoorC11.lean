/- What is proved here: contracts of the reference's big numbers: div, word by word from above, over this seat's translation. -/
import Derived.Test.YtljkfjjchkehaaaGreatDoorC6
namespace Go.Proofs.YtljkfjjchkehaaaGreatDoor
open Go.ChangeShapes Go.WideShapes Go.ChangeAt Go.RowKit
open BN
/-- A call hands back the canonical slices of two numbers. -/
def q2R (w:World) (x y:Nat) (e:Ending) (w':World):Prop:=∃ v u,e= .returned (.tuple #[v,u])∧G w w'∧Num w' v x∧Num w' u y
/-- A slice of n words whose number has its highest bit. -/
theorem q9N {w:World} {v:Value} {V n0:Nat} (h:Num w v V) (h1:2^(32*(n0+1)+31)≤V) (h2:V<2^(32*(n0+1+1))):
  ∃ (b o c:Nat) (l:List Nat),v= .slice (some ⟨b,o,none⟩) (n0+2:Nat) c∧n0+2≤c∧b<w.heap.size∧okw l∧l.length=n0+2∧val l=V∧Row w b o l∧2^31≤l.getD (n0+1) 0:=by
 obtain⟨l,hl,hc,rfl⟩:=h
 have h3:=q05 hc h2
 have h4:=q0s hc.1
 have h5:2^(32*(n0+1))<2^(32*l.length):=Nat.lt_of_le_of_lt (Nat.le_trans (Nat.pow_le_pow_right (by omega) (by omega)) h1) h4
 have h6:=(Nat.pow_lt_pow_iff_right (by omega:1<2)).1 h5
 have h7:l.length=n0+2:=by omega
 rcases Sl.cases hl with ⟨rfl,-⟩|⟨-,b,o,c,rfl,hcc,hb,hr⟩
 ·simp at h7
 ·refine⟨b,o,c,l,by rw[h7],by omega,hb,hc.1,h7,rfl,hr,?_⟩
  have h8:=q0x (l:=l) (k:=n0+1) (by omega)
  rw[List.drop_eq_nil_of_le (by omega)] at h8
  simp only[val,Nat.mul_zero,Nat.add_zero] at h8
  have h9:=q0r hc.1 (n0+1) (by omega)
  rw[Nat.pow_add] at h1
  rcases Nat.lt_or_ge (l.getD (n0+1) 0) (2^31) with h|h
  ·exfalso
   have:2^(32*(n0+1))*(l.getD (n0+1) 0+1)≤2^(32*(n0+1))*2^31:=Nat.mul_le_mul_left _ h
   rw[Nat.mul_add,Nat.mul_one] at this
   omega
  ·exact h
theorem qbo {w:World} {v:Value} {V:Nat} (h:Num w v V) (h0:V≠0) (k:Nat) (hk:V<2^(32*k)):
  ∃ (b o c:Nat) (l:List Nat),v= .slice (some ⟨b,o,none⟩) l.length c∧l.length≤c∧b<w.heap.size∧okw l∧l.length≤k∧val l=V∧Row w b o l:=by
 obtain⟨l,hl,hc,rfl⟩:=h
 rcases Sl.cases hl with ⟨rfl,-⟩|⟨-,b,o,c,rfl,hcc,hb,hr⟩
 ·exact absurd rfl h0
 ·exact⟨b,o,c,l,rfl,hcc,hb,hc.1,q05 hc hk,rfl,hr⟩
theorem q2h {w:World} {b o:Nat} {l:List Nat} (h:Row w b o l):∀ j v,(l.map fun d=>Value.int .u32 (d:Nat))[j]? =some v→w.cell? ((⟨b,o,none⟩:Addr).add j)=some v:=by
 intro j u hj
 rw[List.getElem?_map] at hj
 obtain⟨d,hd,rfl⟩:=Option.map_eq_some_iff.1 hj
 have:=h j (List.getElem?_eq_some_iff.1 hd).1
 rw[List.getD_eq_getElem?_getD,hd] at this
 rw[addr_add]
 exact this
theorem q2r (l:List Nat):∀ u∈(l.map fun d=>Value.int .u32 (d:Nat)),u.oneCell'=true:=by
 intro u hu
 obtain⟨d,-,rfl⟩:=List.mem_map.1 hu
 rfl
theorem Row.setCells {b o c:Nat} {l:List Nat} (hb:b≠c):∀ (cs:List Value) (w:World) (i:Nat),Row w b o l→Row (w.setCells c i cs) b o l
 |[],_,_,h=>h
 |v::cs,_,i,h=>Row.setCells hb cs _ _ (h.set (i:=i) (u:=v) hb)
set_option maxRecDepth 10000 in
set_option maxHeartbeats 8000000 in
theorem q7D (w:World) (va vb:Value) (a b K:Nat) (hK:K≤300000) (ha:Num w va a) (hb:Num w vb b) (ha2:a<2^(32*K)) (jX:b≤a) (hbig:2^64≤a) (hb2:2^32≤b):
  Calls Tryz.prog 136 #[va,vb] w (q2R w (a/b) (a%b)):=by
 have hA':=ha
 have hB':=hb
 obtain⟨l,hl,hcl,hvl⟩:=ha
 obtain⟨m,hm,hcm,jK⟩:=hb
 have hll:=q05 hcl (hvl▸ha2)
 have hl2:2<l.length:=by
  rcases Nat.lt_or_ge 2 l.length with h|h
  ·exact h
  ·have h1:=q0s hcl.1
   have h2:2^(32*l.length)≤2^64:=Nat.pow_le_pow_right (by omega) (by omega)
   omega
 have hm2:1<m.length:=by
  rcases Nat.lt_or_ge 1 m.length with h|h
  ·exact h
  ·have h1:=q0s hcm.1
   have h2:2^(32*m.length)≤2^32:=Nat.pow_le_pow_right (by omega) (by omega)
   omega
 have qR:m.length≤l.length:=by
  rcases Nat.lt_or_ge l.length m.length with h|h
  ·have:=q0G hcl hcm h;omega
  ·exact h
 obtain⟨n0,hn0⟩:∃ n0,m.length=n0+2:=⟨m.length-2,by omega⟩
 obtain⟨k,hk1,hk2,hkb,hV1,hV2⟩:=q3e hcm (n:=n0+1) (by omega)
 obtain⟨pa,ca,rfl,fI,hra⟩:=q0o hl
 obtain⟨pb,cb,rfl,hcb,hrb⟩:=q0o hm
 have gF:Hid _:=q2V w _ _ a b K (by omega) hA' hB' ha2 (by omega)
 have HLen:Hid (∀ w1,G w w1→_):=fun w1 g=>q5R w1 _ b K (by omega) (hB'.G g) (by omega)
 have I4:Hid (∀ w1,G w w1→_):=fun w1 g=>q25 w1 _ b (32-k) K (by omega) (by omega) (hB'.G g) (by omega)
 have I5:Hid (∀ w1,G w w1→_):=fun w1 g=>q25 w1 _ a (32-k) K (by omega) (by omega) (hA'.G g) ha2
 rw[jK] at hkb hV1 hV2
 have hc:decide (cmpV a b<0)=false:=by rw[decide_eq_false_iff_not];unfold cmpV;rw[if_neg (by omega)];split<;>omega
 generalize cmpV a b=cv at *
 generalize hjl:l.length=j at *
 generalize hjn:m.length=n at *
 rw[hkb] at HLen
 have HA:Hid _:=hra
 have HB:Hid _:=hrb
 have HJ:Hid _:=hjl
 have De:Hid _:=hcl
 have HCM:Hid _:=hcm
 have mq:Hid _:=hvl
 have Sr:Hid _:=jK
 have dY:Hid _:=hn0
 have UY:Hid _:=hjn
 have Su:(2:Int)≤n:=by omega
 have OQ:Hid _:=jX
 have HA2:Hid _:=ha2
 have EP:Hid _:=hA'
 have wP:Hid _:=hB'
 have t1:decide ((j:Int)≤2)=false:=by simp;omega
 have t2:((n:Int)==0)=false:=by simp;omega
 have t3:((n:Int)==1)=false:=by simp;omega
 have hjb:(j:Int)≤300000:=by omega
 have hnb:(n:Int)≤j:=by omega
 have Kv:(1:Int)≤k:=by omega
 have hkb2:(k:Int)≤32:=by omega
 obtain⟨mm,hmm⟩:∃ mm,j+1=n+mm:=⟨j+1-n,by omega⟩
 have hm1:(j:Int)+2-n-1=mm:=by omega
 have Sv:(1:Int)≤mm:=by omega
 have Sw:(mm:Int)≤300000:=by omega
 have Kw:=q1i (j+2) (by omega)
 rw[show ((j+2:Nat):Int)=(j:Int)+2 from by omega] at Kw
 have AY:=q1i (mm+1) (by omega)
 rw[show ((mm+1:Nat):Int)=(mm:Int)+1 from by omega] at AY
 have ED:Hid _:=hmm
 obtain⟨e,he⟩:∃ e:Nat,e=32-k:=⟨_,rfl⟩
 rw[← he] at I5 I4 hV1 hV2
 have hs:32-((((32*(n0+1)+k:Nat):Int)-1)%32)-1=e:=by omega
 have UZ:(e:Int)≤31:=by omega
 have Ky:((32*(n0+1)+k:Nat):Int)≤20000000:=by omega
 have Sy:(1:Int)≤((32*(n0+1)+k:Nat):Int):=by omega
 generalize 32*(n0+1)+k=L at *
 have yK:Hid _:=hV1
 have tT:Hid _:=hV2
 have hae:a*2^e≠0:=by have:=Nat.two_pow_pos e;have:0<a:=by omega
                      exact Nat.pos_iff_ne_zero.1 (Nat.mul_pos this (by assumption))
 have haj:a*2^e<2^(32*(j+1)):=by
  have h1:=q0s hcl.1
  rw[hvl,hjl] at h1
  have h2:a*2^e<2^(32*j)*2^e:=Nat.mul_lt_mul_of_pos_right h1 (Nat.two_pow_pos _)
  have h3:2^(32*j)*2^e≤2^(32*(j+1)):=by rw[← Nat.pow_add];exact Nat.pow_le_pow_right (by omega) (by omega)
  omega
 have kT:Hid _:=hae
 have HB0:Hid (0<b):=Nat.lt_of_lt_of_le (by omega) hb2
 have OT:Hid _:=haj
 have Kz:Hid (a*2^e<2^(32*(n0+1+(mm+1)))):=by
  have h1:j+1=n0+1+(mm+1):=by omega
  rw[h1] at haj;exact haj
 clear hae haj
 clear hV1 hV2 hra hrb hjl hcl hcm hvl jK hn0 hjn jX ha2 hA' hB' hl hm hkb hK hbig hb2 hll hl2 hm2 qR hk1 hk2 hmm he Kv hkb2
 clear De HCM mq Sr EP wP
 go_enter Tryz.func136,Tryz.ntmps136
 go_wp2_with fail
 refine Calls.mono (P:=Tryz.prog) gF.out ?_
 rintro e1 w1 ⟨rfl,hg1⟩
 go_wp2_with fail
 refine Calls.mono (P:=Tryz.prog) (HLen.out w1 hg1) ?_
 rintro e1 w2 ⟨rfl,hg2⟩
 have hG2:=G.trans hg1 hg2
 go_wp2_with fail
 refine Calls.mono (P:=Tryz.prog) (I4.out w2 hG2) ?_
 rintro e1 w3 ⟨v1,rfl,hg3,jY⟩
 obtain⟨bv,ov,V3,vl,rfl,Sz,hvb,OU,zo,hvv,wM,yX⟩:=q9N jY yK.out tT.out
 rw[← dY.out] at Sz
 rw[← dY.out]
 have hG3:=G.trans hG2 hg3
 have OV:Hid _:=wM
 have BI:Hid _:=OU
 have mq:Hid _:=zo
 have xw:Hid _:=hvv
 have Hg:Hid _:=yX
 clear wM OU zo hvv yX jY hg1 hg2 hg3 hG2
 go_wp2_with fail
 have hgm:G w3 (w3.alloc (.cells (madeCells #[.int .u32 0] (j+2)) 173)):=(G.refl _).alloc _
 have sN:Hid _:=q0D w3 (j+2) 173
 have hle:w.heap.size≤w3.heap.size:=hG3.size
 refine Calls.mono (P:=Tryz.prog) (I5.out _ (G.trans hG3 hgm)) ?_
 rintro e1 w4 ⟨v2,rfl,hg4,OW⟩
 have rP:Hid (Own w4 w3.heap.size (List.replicate (j+2) 0)):=Own.grow sN.out hg4
 have hG4:G w w4:=G.trans (G.trans hG3 hgm) hg4
 have ET:Hid (Row w4 bv ov vl):=Row.G (l:=vl) OV.out hvb (G.trans hgm hg4)
 clear hgm hg4 sN hG3
 generalize w3.heap.size=bu at *
 obtain⟨bl,ol,cl,la,rfl,hlc,hlb,hlo,hlj,hlv,hlr⟩:=qbo OW (kT.out) (j+1) OT.out
 obtain⟨cs,hcs⟩:∃ cs,cs=la.map (fun d=>Value.int .u32 (d:Nat)):=⟨_,rfl⟩
 have hcl:cs.length=la.length:=by rw[hcs,List.length_map]
 have hsrc:=q2h hlr
 have h1c:=q2r la
 rw[← hcs] at hsrc h1c
 have I6:Hid _:=Own.cells (o:=0) rP.out hlo (by simp;omega)
 rw[← hcs] at I6
 have hccell:∀ i,i<cs.length→(w4.cell? ⟨bu,0+i,none⟩).isSome=true:=fun i hi=>by
  rw[Nat.zero_add,Own.cell (l:=List.replicate (j+2) 0) rP.out (by simp;omega)];rfl
 have zq:∀ i,i<cs.length→w4.frozen? ⟨bu,0+i,none⟩=false:=fun i hi=>by
  rw[Nat.zero_add];exact Own.frozen (l:=List.replicate (j+2) 0) rP.out (by simp;omega)
 have hmin:cs.length=Nat.min la.length (j+2):=by rw[hcl];exact(Nat.min_eq_left (by omega)).symm
 have hval:val ((List.replicate (j+2) 0).take 0++(la++(List.replicate (j+2) 0).drop (0+la.length)))=a*2^e:=by
  rw[List.take_zero,List.nil_append,val_append,List.drop_replicate,q1L,hlv];simp
 have hlen:((List.replicate (j+2) 0).take 0++(la++(List.replicate (j+2) 0).drop (0+la.length))).length=j+2:=by simp;omega
 generalize (List.replicate (j+2) 0).take 0++(la++(List.replicate (j+2) 0).drop (0+la.length))=us at *
 have hrun:=run_copy_cells (P:=Tryz.prog) w4 36 36 3 173 bu 0 (j+2) (j+2) ⟨bl,ol,none⟩ la.length cl cs Tryz.underlying36 (by kernel_rfl) hmin hsrc hccell zq h1c
 have fQ:G w (w4.setCells bu 0 cs):=G.setCells hle cs _ _ hG4
 have EU:Hid (Row (w4.setCells bu 0 cs) bv ov vl):=Row.setCells (by omega) cs _ _ ET.out
 generalize kY:w4.setCells bu 0 cs=w5 at *
 have OX:Hid _:=hval
 have mG:Hid _:=hlen
 clear OW hlc hlb hlo hlj hlv hlr hcs hcl hsrc h1c hccell zq hmin hval hlen hG4 ET rP OV OT kT kY
 go_wp2_with fail
 have zb:Hid _:=q0D w5 (mm+1) 173
 have I7:G w5 (w5.alloc (.cells (madeCells #[.int .u32 0] (mm+1)) 173)):=(G.refl _).alloc _
 have BJ:bu<w5.heap.size:=(I6.out:Own w5 bu us).2.1
 have kU:Hid (DS w _ bu w5.heap.size bv ov us (List.replicate (mm+1) 0) vl):=DS.mk (G.trans fQ I7) hle hvb BJ (Own.grow I6.out I7) zb.out (Row.G (l:=vl) EU.out (by omega) I7)
 generalize w5.heap.size=bq at *
 have hsz:bq<(w5.alloc (.cells (madeCells #[.int .u32 0] (mm+1)) 173)).heap.size:=(kU.out:DS w _ bu bq bv ov us (List.replicate (mm+1) 0) vl).q.2.1
 generalize w5.alloc (.cells (madeCells #[.int .u32 0] (mm+1)) 173)=w6 at *
 have SC:bu<bq:=BJ
 clear zb I7 I6 EU fQ BJ
 obtain⟨p1,hp1⟩:∃ p1,p1=n0+1:=⟨_,rfl⟩
 have hn1:(n:Int)-1=p1:=by have:=dY.out;omega
 have hn2:(n:Int)-2=n0:=by have:=dY.out;omega
 have lq:Hid _:=hp1
 have hct:w6.cell? ⟨bv,ov+p1,none⟩=some (.int .u32 (vl.getD p1 0:Nat)):=DS.cv (vl:=vl) kU.out (by rw[mq.out,hp1];omega)
 have hcn:w6.cell? ⟨bv,ov+n0,none⟩=some (.int .u32 (vl.getD n0 0:Nat)):=DS.cv (vl:=vl) kU.out (by rw[mq.out];omega)
 have hto:vl.getD p1 0<2^32:=q04 BI.out p1
 have hno:vl.getD n0 0<2^32:=q04 BI.out n0
 have SE:2^31≤vl.getD p1 0:=by rw[hp1];exact Hg.out
 have OY:Hid (∀ us jj,okw us→jj+n0+2<us.length→val us<2^(32*(jj+1))*(b*2^e)→_):=fun us jj h1 h2 h3=>q5J h1 BI.out mq.out xw.out h2 h3
 clear Hg
 rw[← hp1] at OY
 have hpn:p1<n:=by have:=dY.out;omega
 have SF:n0<n:=by have:=dY.out;omega
 clear hp1
 generalize htop:vl.getD p1 0=top at *
 generalize hnext:vl.getD n0 0=next at *
 clear htop hnext
 have htop:(2147483648:Int)≤top:=by omega
 have OZ:(top:Int)≤4294967295:=by omega
 have KA:(next:Int)≤4294967295:=by omega
 have P5:((top:Int)==0)=false:=by simp;omega
 clear hto hno SE
 have nu:bv<w6.heap.size:=by omega
 refine q0c (by kernel_rfl) (by kernel_rfl) ?_
 intro W hW
 have hq1:=q08 (w:=W) (a:=⟨bv,ov+p1,none⟩) (x:= .int .u32 (top:Int)) (by rw[hW];first|(simp;done)|(simp;omega)|omega) (by rw[hW];first|assumption|(simp [go_sem];done)|(simp [*,go_sem];done))
 have hq2:=q08 (w:=W) (a:=⟨bv,ov+n0,none⟩) (x:= .int .u32 (next:Int)) (by rw[hW];first|(simp;done)|(simp;omega)|omega) (by rw[hW];first|assumption|(simp [go_sem];done)|(simp [*,go_sem];done))
 clear hW
 repeat (go_big_quiet_step (fail))
 refine wpQuiet_nil ?_
 clear hq1 hq2
 intro w7 hw7
 have HD7:Hid (DS w w7 bu bq bv ov us (List.replicate (mm+1) 0) vl):=DS.grow kU.out hw7
 have HIS:Hid _:=DInv.start (n0:=n0) (M:=mm+1) mG.out OX.out Kz.out yK.out
 clear hct hcn kU hw7 hsz nu
 go_wp2_with fail
 go_loopw [18] (fun vj wr=>∃ (t:Nat) (us qs:List Nat),t≤mm+1∧vj= .int .i64 ((t:Int)-1)∧DS w wr bu bq bv ov us qs vl∧DInv us qs t (j+2) (mm+1) (b*2^e) (a*2^e)) (fun vj _=>(intOf vj+1).toNat)
 case atStart=>exact⟨mm+1,us,_,Nat.le_refl _,by congr 1;omega,HD7.out,HIS.out⟩
 case round=>
  obtain⟨t,us,qs,ht,rfl,hds,hinv⟩:=hrel
  have kU:Hid _:=hds
  have lC:Hid _:=hinv
  clear hds hinv HD7 HIS mG OX
  cases t with
  |zero=>
   as_aux_lemma=>
    have hfin:=DInv.fin lC.out (Nat.two_pow_pos e) HB0.out
    obtain⟨hq2,hr2⟩:=hfin
    have SG:Hid (∀ w1,G wr w1→Calls Tryz.prog 137 #[.slice (some ⟨bq,0,none⟩) (mm+1) (mm+1)] w1 (q0h w1 (a/b))):=fun w1 g=>by
     rw[← hq2];exact q0E (Own.grow (DS.q kU.out) g) lC.out.2.1 (by omega)
    have SH:Hid (∀ w1,G wr w1→Calls Tryz.prog 137 #[.slice (some ⟨bu,0,none⟩) (j+2) (j+2)] w1 (q0h w1 (val us))):=fun w1 g=>q0E (Own.grow (DS.u kU.out) g) lC.out.1 (by omega)
    have Jg:Hid (∀ w1 v,Num w1 v (val us)→Calls Tryz.prog 134 #[v,.int .u64 (e:Int)] w1 (q0h w1 (a%b))):=fun w1 v hn=>by
     rw[← hr2]
     exact q1N w1 v (val us) e (j+2) (by omega) (by omega) hn (by have:=q0s (DS.u kU.out:Own wr bu us).1;rwa[lC.out.1] at this)
    have hgw:=kU.out.g
    have SI:Hid _:=hgw
    clear hq2 hr2 hgw I5 I4 HLen gF HA HB
    go_wp2_with fail
    refine Calls.mono (P:=Tryz.prog) (SG.out wr (G.refl _)) ?_
    rintro e1 w1 ⟨v1,rfl,hg1,hn1⟩
    go_wp2_with fail
    refine Calls.mono (P:=Tryz.prog) (SH.out w1 hg1) ?_
    rintro e1 w2 ⟨v2,rfl,hg2,hn2⟩
    go_wp2_with fail
    refine Calls.mono (P:=Tryz.prog) (Jg.out w2 v2 hn2) ?_
    rintro e1 w3 ⟨v3,rfl,hg3,jY⟩
    go_wp2_with fail
    go_ret2
    exact⟨_,_,rfl,G.trans SI.out (G.trans hg1 (G.trans hg2 hg3)),hn1.G (G.trans hg2 hg3),jY⟩
  |succ jj=>
   have rZ:us.length=j+2:=lC.out.1
   have DN:qs.length=mm+1:=lC.out.2.1
   have hjm:jj+n0+2<j+2:=by have:=ED.out;have:=dY.out;omega
   have hJ:(jj:Int)+n-1=((jj+p1:Nat):Int):=by omega
   have hJ2:(jj:Int)+n-2=((jj+n0:Nat):Int):=by omega
   have SK:(jj:Int)≤300000:=by omega
   have KC:jj+n<j+2:=by have:=dY.out;omega
   have hjp:jj+p1<j+2:=by omega
   have SL:jj+n0<j+2:=by omega
   have uU:=(DS.u kU.out:Own wr bu us).1
   have hc0:=Own.cell (DS.u kU.out:Own wr bu us) (i:=jj+n) (by omega)
   have hc1:=Own.cell (DS.u kU.out:Own wr bu us) (i:=jj+p1) (by omega)
   have hc2:=Own.cell (DS.u kU.out:Own wr bu us) (i:=jj+n0) (by omega)
   have hx0:=q04 uU (jj+n)
   have hx1:=q04 uU (jj+p1)
   have hx2:=q04 uU (jj+n0)
   have hF:=OY.out us jj uU (by omega) lC.out.2.2.1
   rw[show jj+n0+2=jj+n from by have:=dY.out;omega,show jj+n0+1=jj+p1 from by have:=lq.out;omega] at hF
   obtain⟨hf1,hf2,hf3,P6,KD,KE,P7⟩:=hF
   generalize us.getD (jj+n) 0=u0 at *
   generalize us.getD (jj+p1) 0=u1 at *
   generalize hu2:us.getD (jj+n0) 0=u2 at *
   have CJ:Hid _:=hu2
   clear hu2
   obtain⟨h,g0,r0,hw1,hh,hw2,hw3,hg0,EW,hr0,EY⟩:=qaP u0 u1 top hx0 hx1 (by omega) hf1
   have hS0:val us<(g0+1)*(2^(32*jj)*(b*2^e)):=by
    rw[hg0]
    refine qbz (u2:=u2) (P:=2^(32*(jj+n0))) (by rw[hh];exact KD) hx2 (Nat.le_trans (Nat.mul_le_mul_right _ (by omega)) KE) (by omega)
   have wT:Hid (val us<(g0+1)*(2^(32*jj)*(b*2^e))):=hS0
   have xV:Hid _:=hf1
   have xW:Hid _:=hf2
   have EZ:Hid _:=hf3
   have Dw:Hid _:=P6
   have P8:Hid _:=KD
   have KF:Hid _:=KE
   have P9:Hid _:=P7
   have HH:Hid _:=hh
   have Pb:Hid _:=EW
   have SN:(u0:Int)≤4294967295:=by omega
   have SV:(u1:Int)≤4294967295:=by omega
   have SX:(u2:Int)≤4294967295:=by omega
   have KG:(r0:Int)<top:=by omega
   have Ac:Hid (u1<2^32):=hx1
   have F5:Hid (u2<2^32):=hx2
   have KH:Hid (g0≤4294967297):=EY
   have nz:Hid (jj+n<j+2):=KC
   have mG:Hid _:=rZ
   have CP:Hid _:=DN
   have hbw:bu<wr.heap.size:=(DS.u kU.out:Own wr bu us).2.1
   clear hS0 hf1 hf2 hf3 P6 KD KE P7 hh EW hg0 hx0 hx1 hx2 hr0 EY uU hjm
   clear I5 I4 HLen gF HA HB
   go_wp2_with fail
   refine q0c (by kernel_rfl) (by kernel_rfl) ?_
   intro W hW
   have hq3:=q08 (w:=W) (a:=⟨bu,jj+n,none⟩) (x:= .int .u32 (u0:Int)) (by rw[hW];first|(simp;done)|(simp;omega)|omega) (by rw[hW];first|assumption|(simp [go_sem];done)|(simp [*,go_sem];done))
   have hq4:=q08 (w:=W) (a:=⟨bu,jj+p1,none⟩) (x:= .int .u32 (u1:Int)) (by rw[hW];first|(simp;done)|(simp;omega)|omega) (by rw[hW];first|assumption|(simp [go_sem];done)|(simp [*,go_sem];done))
   clear hW
   repeat (go_big_quiet_step (fail))
   refine wpQuiet_nil ?_
   clear hq3 hq4
   intro w8 hw8
   have bV:Hid (DS w w8 bu bq bv ov us qs vl):=DS.grow kU.out hw8
   have hc2':=hw8.cell (p:=⟨bu,jj+n0,none⟩) hbw hc2
   clear hc0 hc1 hc2 hw8 kU
   go_wp2_with fail
   refine q0c (by kernel_rfl) (by kernel_rfl) ?_
   intro W hW
   clear hW
   repeat (go_big_quiet_step (fail))
   refine wpQuiet_nil ?_
   intro w9 KI
   have dx:Hid (DS w w9 bu bq bv ov us qs vl):=DS.grow bV.out KI
   have F6:bu<w8.heap.size:=(DS.u bV.out:Own w8 bu us).2.1
   have hc2:=KI.cell (p:=⟨bu,jj+n0,none⟩) F6 hc2'
   have KJ:(r0:Int)≤4294967295:=by omega
   clear hc2' KI bV F6 hc2 hbw hw1 hw2
   have hgs0:GS (val us) (2^(32*jj)*(b*2^e)) h top g0 r0:=⟨Pb.out,wT.out⟩
   have F7:Hid _:=hgs0
   have KL:r0<4294967296:=by omega
   clear hgs0
   have HW2:Hid (4294967296*2^(32*(jj+n0))≤2^(32*jj)*(b*2^e)):=Nat.le_trans (Nat.mul_le_mul_right _ (by omega)) KF.out
   have F8:Hid (∀ g r,g*top+r=h→g<2^32→g*next≤r*2^32+u2→g*(2^(32*jj)*(b*2^e))<val us+2^(32*jj)*(b*2^e)):=fun g r k1 k2 k3=>q6X (h:=h) (by rw[HH.out];exact Dw.out) P9.out HW2.out k1 k2 k3
   have KN:Hid (∀ g r,g*top+r=h→2^32≤r→g<2^32∧g*(2^(32*jj)*(b*2^e))<val us+2^(32*jj)*(b*2^e)):=fun g r k1 k2=>by
    obtain⟨k3,k4⟩:=q6Z (u1:=u1) (u2:=u2) (next:=next) (by rw[HH.out];exact Nat.add_le_add_right (Nat.mul_le_mul_right _ xV.out) _) Ac.out k1 k2 (by omega)
    exact⟨k3,F8.out g r k1 k3 k4⟩
   have KO:Hid (∀ g,4294967295<g→val us<g*(2^(32*jj)*(b*2^e))):=fun g k1=>q5O EZ.out (by omega)
   have KP:Hid (∀ g r,g*top+r=h→r*2^32+u2<g*next→val us<g*(2^(32*jj)*(b*2^e))):=fun g r k1 k2=>q6t (P:=2^(32*(jj+n0))) (h:=h) (by rw[HH.out];exact P8.out) KF.out k1 k2
   have oQ:Hid (jj+n0+2<us.length):=by
    have h0:us.length=j+2:=mG.out
    have h1:jj+n<j+2:=nz.out
    have h2:n=n0+2:=dY.out
    show jj+n0+2<us.length
    omega
   have hne1:¬ bu=bq:=by omega
   have hne2:¬ bq=bu:=by omega
   clear HW2 xV EZ Dw P8 KF P9 HH Pb wT
   go_wp2_with fail
   simp only[hw3]
   clear hw3
   go_loopw [20,21] (fun vg vr wr=>∃ g r:Nat,vg= .int .u64 g∧vr= .int .u64 r∧g≤4294967297∧r<4294967296∧GS (val us) (2^(32*jj)*(b*2^e)) h top g r∧DS w wr bu bq bv ov us qs vl) (fun vg _ _=>(intOf vg).toNat)
   case atStart=>exact⟨g0,r0,rfl,rfl,KH.out,by omega,F7.out,dx.out⟩
   case round=>
    obtain⟨g,r,rfl,rfl,hgb,hrb,hgs,hds⟩:=hrel
    have F9:Hid _:=hgs
    have kU:Hid _:=hds
    clear hgs hds dx F7 KL KG KJ
    have hc2:wr.cell? ⟨bu,jj+n0,none⟩=some (.int .u32 (us.getD (jj+n0) 0:Nat)):=Own.cell (DS.u kU.out:Own wr bu us) (by have:=mG.out;omega)
    rw[CJ.out] at hc2
    have hgi:(g:Int)≤4294967297:=by omega
    have Bf:(r:Int)≤4294967295:=by omega
    have xX:decide ((4294967295:Int)<g)=decide (4294967295<g):=by congr 1;exact propext (by omega)
    have xY:decide ((4294967295:Int)<(r:Int)+top)=decide (4294967295<r+top):=by congr 1;exact propext (by omega)
    by_cases hg:4294967295<g
    case' neg=>
     rw[show decide (4294967295<g)=false from by simp;omega] at xX
     have Fa:g*next≤4294967295*4294967295:=Nat.mul_le_mul (by omega) (by omega)
     obtain⟨p,hp,hpi,hpe⟩:∃ p:Nat,(g:Int)*next=p∧(p:Int)≤18446744065119617025∧p=g*next:=⟨g*next,by push_cast;rfl,by omega,rfl⟩
     obtain⟨q,hq,hqe⟩:∃ q:Nat,bits .or .u64 ((r:Int)*4294967296) (u2:Int)=q∧q=r*2^32+u2:=⟨_,q8v r u2 (by omega) F5.out,rfl⟩
     have uf:Hid _:=hpe
     have uh:Hid _:=hqe
     by_cases hpq:q<p
     case neg=>
      have Fb:decide (q<p)=false:=by simp;omega
      have HT2:Hid (g*(2^(32*jj)*(b*2^e))<val us+2^(32*jj)*(b*2^e)):=F8.out g r F9.out.1 (by omega) (by rw[← uf.out,← uh.out];omega)
      have HT1:Hid (val us<(g+1)*(2^(32*jj)*(b*2^e))):=F9.out.2
      have hgt:g<4294967296:=by omega
      clear Fa hpe hqe hpq xY hg hgi
      go_wp2_with fail
      clear xX hp hq Fb hpi hc2
      obtain⟨gt,uV⟩:∃ gt:Nat,gt=g:=⟨g,rfl⟩
      rw[← uV] at HT1 HT2 hgt ⊢
      clear uV
      as_aux_lemma=>
       have KQ:(gt:Int)≤4294967295:=by omega
       go_loopw [22,23,24] (fun vc vd vi w2=>∃ (i c d:Nat) (dX:List Nat),i≤n∧vi= .int .i64 i∧vc= .int .u64 c∧vd= .int .u64 d∧c<4294967296∧d≤1∧DS w w2 bu bq bv ov dX qs vl∧AW us dX vl jj n0 i gt c d) (fun _ _ vi _=>n-(intOf vi).toNat)
       case atStart=>exact⟨0,0,0,us,Nat.zero_le _,rfl,rfl,rfl,by omega,by omega,kU.out,AW.start xW.out⟩
       case round=>
        obtain⟨i,c,d,dX,hi,rfl,rfl,rfl,hc,hd,hds,haw⟩:=hrel
        have HD2:Hid (DS w wr bu bq bv ov dX qs vl):=hds
        have BL:Hid _:=haw
        have hl2:dX.length=j+2:=haw.1.trans mG.out
        clear hds haw kU
        have hci:(c:Int)≤4294967295:=by omega
        have hdi:(d:Int)≤1:=by omega
        have hib:(i:Int)≤300002:=by omega
        by_cases hin:i<n
        ·as_aux_lemma=>
          have nA:decide (i<n)=true:=by simp;omega
          have hcv:=DS.cv (vl:=vl) HD2.out (i:=i) (by rw[mq.out];have:=dY.out;omega)
          have gG:i+jj<dX.length:=by have h1:=nz.out;omega
          have tJ:=Own.cell (DS.u HD2.out:Own wr bu dX) (i:=i+jj) gG
          have hfu:=Own.frozen (DS.u HD2.out:Own wr bu dX) (i:=i+jj) gG
          have hy:=q04 BI.out i
          have hx:=q04 (DS.u HD2.out:Own wr bu dX).1 (i+jj)
          obtain⟨p,lo,t0,tt,rr,d',c',q1,q2,q3,q4,q5,q6,q7,q8,q9,Fe,Ff,Fg,Fh⟩:=q9w gt c d _ _ hgt hc hd hx hy
          have HST:Hid _:=AW.step BL.out (by have:=dY.out;omega) oQ.out Fh
          have kN:Hid (d'≤1):=Fe
          have nC:Hid (c'<2^32):=Ff
          have kP:Hid (rr<2^32):=Fg
          generalize vl.getD i 0=y at *
          generalize dX.getD (i+jj) 0=x at *
          have hyi:(y:Int)≤4294967295:=by omega
          have hxi:(x:Int)≤4294967295:=by omega
          have hpi:(p:Int)≤18446744065119617025:=by omega
          have KR:(lo:Int)≤4294967295:=by omega
          have BM:i+jj<j+2:=by omega
          have hin1:i+1≤n:=hin
          have Fj:n-(i+1)<n-i:=by omega
          have ze:Hid (i+jj<dX.length):=gG
          clear q2 q4 Fe Ff Fg Fh hx hy hc hd hin gG
          go_wp2_with fail
          go_roundw
          case rel=>exact⟨i+1,c',d',dX.set (i+jj) rr,hin1,by go_num,rfl,rfl,nC.out,kN.out,DS.setU HD2.out (i+jj) rr ze.out kP.out,HST.out⟩
          case measure=>simp only[intOf];omega
        ·as_aux_lemma=>
          have nA:decide (i<n)=false:=by simp;omega
          have hie:i=n0+2:=by have:=dY.out;omega
          rw[hie] at BL
          have jD:jj+n<dX.length:=by have h1:=nz.out;omega
          have tJ:=Own.cell (DS.u HD2.out:Own wr bu dX) (i:=jj+n) jD
          have hfu:=Own.frozen (DS.u HD2.out:Own wr bu dX) (i:=jj+n) jD
          have hx:=q04 (DS.u HD2.out:Own wr bu dX).1 (jj+n)
          obtain⟨t0,tt,rr,d',q1,q2,q3,q4,q5,q6,q7⟩:=q5v c d _ hc hd hx
          have iN:=AW.fin BL.out mq.out xw.out oQ.out (r:=rr) (d':=d') (by rw[← dY.out];exact q7)
          rw[← dY.out] at iN
          have HD3:Hid (DS w (wr.setCell ⟨bu,jj+n,none⟩ (.int .u32 (rr:Int))) bu bq bv ov (dX.set (jj+n) rr) qs vl):=DS.setU HD2.out (jj+n) rr jD q6
          have hxi:(dX.getD (jj+n) 0:Int)≤4294967295:=by omega
          obtain⟨hf1,hf2,hf3⟩:=iN
          have HA1:Hid _:=hf1
          have oP:Hid _:=hf2
          have uW:Hid _:=hf3
          generalize dX.getD (jj+n) 0=x at *
          have zt:Hid _:=q7
          have hqj:jj<qs.length:=by rw[CP.out];omega
          have hgw:IntKind.u32.wrap (gt:Int)=gt:=by rw[IntKind.wrap_u32];omega
          have Bb:Hid (gt<2^32):=hgt
          have wY:Hid (d'≤1):=q5
          by_cases hd':d'=0
          ·subst hd'
           have hcq:=Own.cell (DS.q HD3.out) (i:=jj) hqj
           have KS:=Own.frozen (DS.q HD3.out) (i:=jj) hqj
           have wO:Hid _:=DInv.right lC.out (by omega) HA1.out HT1.out uW.out
           clear hf1 hf2 hf3 q6 q7 q5 hx hc hd hin hie
           go_wp2_with fail
           go_roundw
           case rel=>exact⟨jj,dX.set (jj+n) rr,qs.set jj gt,by omega,by go_num,DS.setQ HD3.out jj gt hqj Bb.out,wO.out⟩
           case measure=>simp [intOf]
          ·obtain rfl:d'=1:=by omega
           have hpos:0<gt:=by
            rcases Nat.eq_zero_or_pos gt with h0|h0
            ·exfalso
             have h1:=uW.out
             rw[h0,Nat.zero_mul,Nat.add_zero,Nat.mul_one] at h1
             have h2:=q4b (DS.u HD3.out).1 oP.out
             rw[h1] at h2
             exact absurd h2 (Nat.not_lt.2 (Nat.le_add_left _ _))
            ·exact h0
           obtain⟨gm,hgm⟩:∃ gm,gt-1=gm:=⟨_,rfl⟩
           have KT:IntKind.u64.wrap ((gt:Int)-1)=gm:=by rw[IntKind.wrap_u64];omega
           have Fp:IntKind.u32.wrap (gm:Int)=gm:=by rw[IntKind.wrap_u32];omega
           have KU:Hid _:=hgm
           have BO:Hid (gm<2^32):=by show gm<2^32;omega
           have Fq:Hid (BK (dX.set (jj+n) rr) (dX.set (jj+n) rr) vl jj n0 0 0):=BK.start (us:=dX.set (jj+n) rr) (vl:=vl) oP.out
           clear hf1 hf2 hf3 q6 q7 q5 hx hc hd hin hie hd' hpos hgm
           go_wp2_with fail
           as_aux_lemma=>
            clear tJ hfu q1 q2 q3 q4
            generalize BP:wr.setCell ⟨bu,jj+n,none⟩ (.int .u32 (rr:Int))=w3 at *
            clear BP
            generalize uX:dX.set (jj+n) rr=Fs at *
            have KV:Hid _:=uX
            clear uX nA
            go_loopw [22,27] (fun vc vi w4=>∃ (i c:Nat) (eH:List Nat),i≤n∧vi= .int .i64 i∧vc= .int .u64 c∧c≤1∧DS w w4 bu bq bv ov eH qs vl∧BK Fs eH vl jj n0 i c) (fun _ vi _=>n-(intOf vi).toNat)
            case atStart=>exact⟨0,0,Fs,Nat.zero_le _,rfl,rfl,by omega,HD3.out,Fq.out⟩
            case round=>
             obtain⟨i,c,eH,hi,rfl,rfl,hc,hds,hbk⟩:=hrel
             have HD4:Hid (DS w wr bu bq bv ov eH qs vl):=hds
             have BQ:Hid _:=hbk
             have hl4:eH.length=j+2:=hbk.1.trans (HA1.out.trans mG.out)
             clear hds hbk Fq
             have hci:(c:Int)≤1:=by omega
             have hib:(i:Int)≤300002:=by omega
             by_cases hin:i<n
             ·as_aux_lemma=>
               have nA:decide (i<n)=true:=by simp;omega
               have hcv:=DS.cv (vl:=vl) HD4.out (i:=i) (by rw[mq.out];have:=dY.out;omega)
               have gG:i+jj<eH.length:=by have h1:=nz.out;omega
               have tJ:=Own.cell (DS.u HD4.out:Own wr bu eH) (i:=i+jj) gG
               have hfu:=Own.frozen (DS.u HD4.out:Own wr bu eH) (i:=i+jj) gG
               have hy:=q04 BI.out i
               have hx:=q04 (DS.u HD4.out:Own wr bu eH).1 (i+jj)
               obtain⟨nD,c',q1,q2,q3,q4,q5⟩:=q9D c _ _ hc hx hy
               have HST:Hid _:=BK.step BQ.out (by have:=dY.out;omega) (by rw[HA1.out];exact oQ.out) q5
               have KW:Hid (c'≤1):=q3
               have KX:Hid (nD<2^32):=q4
               generalize vl.getD i 0=y at *
               generalize eH.getD (i+jj) 0=x at *
               have hyi:(y:Int)≤4294967295:=by omega
               have hxi:(x:Int)≤4294967295:=by omega
               have BM:i+jj<j+2:=by omega
               have hin1:i+1≤n:=hin
               have ze:Hid (i+jj<eH.length):=gG
               have uY:bu<wr.heap.size:=(DS.u HD4.out:Own wr bu eH).2.1
               have KY:bv<wr.heap.size:=by omega
               clear q3 q4 q5 hx hy hc hin gG
               go_wp2_with fail
               refine q0c (by kernel_rfl) (by kernel_rfl) ?_
               intro W hW
               have ma:=q08 (w:=W) (a:=⟨bu,i+jj,none⟩) (x:= .int .u32 (x:Int)) (by rw[hW];first|(simp;done)|(simp;omega)|omega) (by rw[hW];first|assumption|(simp [go_sem];done)|(simp [*,go_sem];done))
               have sW:=q08 (w:=W) (a:=⟨bv,ov+i,none⟩) (x:= .int .u32 (y:Int)) (by rw[hW];first|(simp;done)|(simp;omega)|omega) (by rw[hW];first|assumption|(simp [go_sem];done)|(simp [*,go_sem];done))
               clear hW
               repeat (go_big_quiet_step (fail))
               refine wpQuiet_nil ?_
               clear ma sW
               intro KZ nE
               have HD5:Hid (DS w KZ bu bq bv ov eH qs vl):=DS.grow HD4.out nE
               have L6:=nE.cell uY tJ
               have L8:=nE.frozen uY hfu
               clear tJ hfu hcv nE
               go_wp2_with fail
               go_roundw
               case rel=>exact⟨i+1,c',eH.set (i+jj) nD,hin1,by go_num,rfl,KW.out,DS.setU HD5.out (i+jj) nD ze.out KX.out,HST.out⟩
               case measure=>simp only[intOf];omega
             ·as_aux_lemma=>
               have nA:decide (i<n)=false:=by simp;omega
               have hie:i=n0+2:=by have:=dY.out;omega
               rw[hie] at BQ
               have jD:jj+n<eH.length:=by have h1:=nz.out;omega
               have tJ:=Own.cell (DS.u HD4.out:Own wr bu eH) (i:=jj+n) jD
               have hfu:=Own.frozen (DS.u HD4.out:Own wr bu eH) (i:=jj+n) jD
               have hx:=q04 (DS.u HD4.out:Own wr bu eH).1 (jj+n)
               obtain⟨nD,kk,q1,q2,q3⟩:=q7e c (eH.getD (jj+n) 0)
               have iN:=BK.fin BQ.out mq.out xw.out (by rw[HA1.out];exact oQ.out) (r:=nD) (k:=kk) (by rw[← dY.out];exact q3)
               rw[← dY.out] at iN
               have HD5:Hid (DS w (wr.setCell ⟨bu,jj+n,none⟩ (.int .u32 (nD:Int))) bu bq bv ov (eH.set (jj+n) nD) qs vl):=DS.setU HD4.out (jj+n) nD jD q2
               have hxi:(eH.getD (jj+n) 0:Int)≤4294967295:=by omega
               have uZ:b*2^e<2^(32*(n0+2)):=tT.out
               have hDB:=DInv.back lC.out (by omega) (iN.1.trans HA1.out) HT1.out HT2.out uZ (DS.u HD3.out).1 oP.out uW.out (DS.u HD5.out).1 iN.2.1 iN.2.2
               rw[KU.out] at hDB
               have wO:Hid _:=hDB.1
               generalize eH.getD (jj+n) 0=x at *
               have hcq:=Own.cell (DS.q HD5.out) (i:=jj) hqj
               have KS:=Own.frozen (DS.q HD5.out) (i:=jj) hqj
               have hcw:IntKind.u32.wrap (c:Int)=c:=by rw[IntKind.wrap_u32];omega
               clear iN hDB uZ q2 q3 hx hc hin hie
               go_wp2_with fail
               go_roundw
               case rel=>exact⟨jj,eH.set (jj+n) nD,qs.set jj gm,by omega,by go_num,DS.setQ HD5.out jj gm hqj BO.out,wO.out⟩
               case measure=>simp [intOf]
     have Fb:decide (q<p)=true:=by simp;omega
     obtain⟨g',hg'⟩:∃ g',g=g'+1:=by
      rcases g with _|g'
      ·rw[Nat.zero_mul] at hpe;omega
      ·exact⟨g',rfl⟩
     have hgm:IntKind.u64.wrap ((g:Int)-1)=g':=by rw[IntKind.wrap_u64];omega
     have I8:Hid _:=hg'
     have hsum:g'*top+(r+top)=h:=by rw[← F9.out.1,hg',Nat.add_mul];omega
     have BR:Hid _:=hsum
     have HT1:Hid (val us<(g'+1)*(2^(32*jj)*(b*2^e))):=by rw[← I8.out];exact KP.out g r F9.out.1 (by rw[← uf.out,← uh.out];exact hpq)
     clear Fa hpe hqe hpq
    case' pos=>
     rw[show decide (4294967295<g)=true from by simp;omega] at xX
     obtain⟨g',hg'⟩:∃ g',g=g'+1:=⟨g-1,by omega⟩
     have hgm:IntKind.u64.wrap ((g:Int)-1)=g':=by rw[IntKind.wrap_u64];omega
     have I8:Hid _:=hg'
     have hsum:g'*top+(r+top)=h:=by rw[← F9.out.1,hg',Nat.add_mul];omega
     have BR:Hid _:=hsum
     have HT1:Hid (val us<(g'+1)*(2^(32*jj)*(b*2^e))):=by rw[← I8.out];exact KO.out g hg
    all_goals as_aux_lemma=>
     by_cases hr:4294967295<r+top
     ·rw[show decide (4294967295<r+top)=true from by simp;omega] at xY
      have hbr:=KN.out g' (r+top) BR.out (by omega)
      have HT2:Hid (g'*(2^(32*jj)*(b*2^e))<val us+2^(32*jj)*(b*2^e)):=hbr.2
      have hgt:g'<4294967296:=hbr.1
      clear hr hg hg' hsum hbr
      go_wp2_with fail
      clear xX xY hgm hc2 hgi
      obtain⟨gt,uV⟩:∃ gt:Nat,gt=g':=⟨g',rfl⟩
      rw[← uV] at HT1 HT2 hgt ⊢
      clear uV
      as_aux_lemma=>
       have KQ:(gt:Int)≤4294967295:=by omega
       go_loopw [22,23,24] (fun vc vd vi w2=>∃ (i c d:Nat) (dX:List Nat),i≤n∧vi= .int .i64 i∧vc= .int .u64 c∧vd= .int .u64 d∧c<4294967296∧d≤1∧DS w w2 bu bq bv ov dX qs vl∧AW us dX vl jj n0 i gt c d) (fun _ _ vi _=>n-(intOf vi).toNat)
       case atStart=>exact⟨0,0,0,us,Nat.zero_le _,rfl,rfl,rfl,by omega,by omega,kU.out,AW.start xW.out⟩
       case round=>
        obtain⟨i,c,d,dX,hi,rfl,rfl,rfl,hc,hd,hds,haw⟩:=hrel
        have HD2:Hid (DS w wr bu bq bv ov dX qs vl):=hds
        have BL:Hid _:=haw
        have hl2:dX.length=j+2:=haw.1.trans mG.out
        clear hds haw kU
        have hci:(c:Int)≤4294967295:=by omega
        have hdi:(d:Int)≤1:=by omega
        have hib:(i:Int)≤300002:=by omega
        by_cases hin:i<n
        ·as_aux_lemma=>
          have nA:decide (i<n)=true:=by simp;omega
          have hcv:=DS.cv (vl:=vl) HD2.out (i:=i) (by rw[mq.out];have:=dY.out;omega)
          have gG:i+jj<dX.length:=by have h1:=nz.out;omega
          have tJ:=Own.cell (DS.u HD2.out:Own wr bu dX) (i:=i+jj) gG
          have hfu:=Own.frozen (DS.u HD2.out:Own wr bu dX) (i:=i+jj) gG
          have hy:=q04 BI.out i
          have hx:=q04 (DS.u HD2.out:Own wr bu dX).1 (i+jj)
          obtain⟨p,lo,t0,tt,rr,d',c',q1,q2,q3,q4,q5,q6,q7,q8,q9,Fe,Ff,Fg,Fh⟩:=q9w gt c d _ _ hgt hc hd hx hy
          have HST:Hid _:=AW.step BL.out (by have:=dY.out;omega) oQ.out Fh
          have kN:Hid (d'≤1):=Fe
          have nC:Hid (c'<2^32):=Ff
          have kP:Hid (rr<2^32):=Fg
          generalize vl.getD i 0=y at *
          generalize dX.getD (i+jj) 0=x at *
          have hyi:(y:Int)≤4294967295:=by omega
          have hxi:(x:Int)≤4294967295:=by omega
          have hpi:(p:Int)≤18446744065119617025:=by omega
          have KR:(lo:Int)≤4294967295:=by omega
          have BM:i+jj<j+2:=by omega
          have hin1:i+1≤n:=hin
          have Fj:n-(i+1)<n-i:=by omega
          have ze:Hid (i+jj<dX.length):=gG
          clear q2 q4 Fe Ff Fg Fh hx hy hc hd hin gG
          go_wp2_with fail
          go_roundw
          case rel=>exact⟨i+1,c',d',dX.set (i+jj) rr,hin1,by go_num,rfl,rfl,nC.out,kN.out,DS.setU HD2.out (i+jj) rr ze.out kP.out,HST.out⟩
          case measure=>simp only[intOf];omega
        ·as_aux_lemma=>
          have nA:decide (i<n)=false:=by simp;omega
          have hie:i=n0+2:=by have:=dY.out;omega
          rw[hie] at BL
          have jD:jj+n<dX.length:=by have h1:=nz.out;omega
          have tJ:=Own.cell (DS.u HD2.out:Own wr bu dX) (i:=jj+n) jD
          have hfu:=Own.frozen (DS.u HD2.out:Own wr bu dX) (i:=jj+n) jD
          have hx:=q04 (DS.u HD2.out:Own wr bu dX).1 (jj+n)
          obtain⟨t0,tt,rr,d',q1,q2,q3,q4,q5,q6,q7⟩:=q5v c d _ hc hd hx
          have iN:=AW.fin BL.out mq.out xw.out oQ.out (r:=rr) (d':=d') (by rw[← dY.out];exact q7)
          rw[← dY.out] at iN
          have HD3:Hid (DS w (wr.setCell ⟨bu,jj+n,none⟩ (.int .u32 (rr:Int))) bu bq bv ov (dX.set (jj+n) rr) qs vl):=DS.setU HD2.out (jj+n) rr jD q6
          have hxi:(dX.getD (jj+n) 0:Int)≤4294967295:=by omega
          obtain⟨hf1,hf2,hf3⟩:=iN
          have HA1:Hid _:=hf1
          have oP:Hid _:=hf2
          have uW:Hid _:=hf3
          generalize dX.getD (jj+n) 0=x at *
          have zt:Hid _:=q7
          have hqj:jj<qs.length:=by rw[CP.out];omega
          have hgw:IntKind.u32.wrap (gt:Int)=gt:=by rw[IntKind.wrap_u32];omega
          have Bb:Hid (gt<2^32):=hgt
          have wY:Hid (d'≤1):=q5
          by_cases hd':d'=0
          ·subst hd'
           have hcq:=Own.cell (DS.q HD3.out) (i:=jj) hqj
           have KS:=Own.frozen (DS.q HD3.out) (i:=jj) hqj
           have wO:Hid _:=DInv.right lC.out (by omega) HA1.out HT1.out uW.out
           clear hf1 hf2 hf3 q6 q7 q5 hx hc hd hin hie
           go_wp2_with fail
           go_roundw
           case rel=>exact⟨jj,dX.set (jj+n) rr,qs.set jj gt,by omega,by go_num,DS.setQ HD3.out jj gt hqj Bb.out,wO.out⟩
           case measure=>simp [intOf]
          ·obtain rfl:d'=1:=by omega
           have hpos:0<gt:=by
            rcases Nat.eq_zero_or_pos gt with h0|h0
            ·exfalso
             have h1:=uW.out
             rw[h0,Nat.zero_mul,Nat.add_zero,Nat.mul_one] at h1
             have h2:=q4b (DS.u HD3.out).1 oP.out
             rw[h1] at h2
             exact absurd h2 (Nat.not_lt.2 (Nat.le_add_left _ _))
            ·exact h0
           obtain⟨gm,hgm⟩:∃ gm,gt-1=gm:=⟨_,rfl⟩
           have KT:IntKind.u64.wrap ((gt:Int)-1)=gm:=by rw[IntKind.wrap_u64];omega
           have Fp:IntKind.u32.wrap (gm:Int)=gm:=by rw[IntKind.wrap_u32];omega
           have KU:Hid _:=hgm
           have BO:Hid (gm<2^32):=by show gm<2^32;omega
           have Fq:Hid (BK (dX.set (jj+n) rr) (dX.set (jj+n) rr) vl jj n0 0 0):=BK.start (us:=dX.set (jj+n) rr) (vl:=vl) oP.out
           clear hf1 hf2 hf3 q6 q7 q5 hx hc hd hin hie hd' hpos hgm
           go_wp2_with fail
           as_aux_lemma=>
            clear tJ hfu q1 q2 q3 q4
            generalize BP:wr.setCell ⟨bu,jj+n,none⟩ (.int .u32 (rr:Int))=w3 at *
            clear BP
            generalize uX:dX.set (jj+n) rr=Fs at *
            have KV:Hid _:=uX
            clear uX nA
            go_loopw [22,27] (fun vc vi w4=>∃ (i c:Nat) (eH:List Nat),i≤n∧vi= .int .i64 i∧vc= .int .u64 c∧c≤1∧DS w w4 bu bq bv ov eH qs vl∧BK Fs eH vl jj n0 i c) (fun _ vi _=>n-(intOf vi).toNat)
            case atStart=>exact⟨0,0,Fs,Nat.zero_le _,rfl,rfl,by omega,HD3.out,Fq.out⟩
            case round=>
             obtain⟨i,c,eH,hi,rfl,rfl,hc,hds,hbk⟩:=hrel
             have HD4:Hid (DS w wr bu bq bv ov eH qs vl):=hds
             have BQ:Hid _:=hbk
             have hl4:eH.length=j+2:=hbk.1.trans (HA1.out.trans mG.out)
             clear hds hbk Fq
             have hci:(c:Int)≤1:=by omega
             have hib:(i:Int)≤300002:=by omega
             by_cases hin:i<n
             ·as_aux_lemma=>
               have nA:decide (i<n)=true:=by simp;omega
               have hcv:=DS.cv (vl:=vl) HD4.out (i:=i) (by rw[mq.out];have:=dY.out;omega)
               have gG:i+jj<eH.length:=by have h1:=nz.out;omega
               have tJ:=Own.cell (DS.u HD4.out:Own wr bu eH) (i:=i+jj) gG
               have hfu:=Own.frozen (DS.u HD4.out:Own wr bu eH) (i:=i+jj) gG
               have hy:=q04 BI.out i
               have hx:=q04 (DS.u HD4.out:Own wr bu eH).1 (i+jj)
               obtain⟨nD,c',q1,q2,q3,q4,q5⟩:=q9D c _ _ hc hx hy
               have HST:Hid _:=BK.step BQ.out (by have:=dY.out;omega) (by rw[HA1.out];exact oQ.out) q5
               have KW:Hid (c'≤1):=q3
               have KX:Hid (nD<2^32):=q4
               generalize vl.getD i 0=y at *
               generalize eH.getD (i+jj) 0=x at *
               have hyi:(y:Int)≤4294967295:=by omega
               have hxi:(x:Int)≤4294967295:=by omega
               have BM:i+jj<j+2:=by omega
               have hin1:i+1≤n:=hin
               have ze:Hid (i+jj<eH.length):=gG
               have uY:bu<wr.heap.size:=(DS.u HD4.out:Own wr bu eH).2.1
               have KY:bv<wr.heap.size:=by omega
               clear q3 q4 q5 hx hy hc hin gG
               go_wp2_with fail
               refine q0c (by kernel_rfl) (by kernel_rfl) ?_
               intro W hW
               have sZ:=q08 (w:=W) (a:=⟨bu,i+jj,none⟩) (x:= .int .u32 (x:Int)) (by rw[hW];first|(simp;done)|(simp;omega)|omega) (by rw[hW];first|assumption|(simp [go_sem];done)|(simp [*,go_sem];done))
               have hq8:=q08 (w:=W) (a:=⟨bv,ov+i,none⟩) (x:= .int .u32 (y:Int)) (by rw[hW];first|(simp;done)|(simp;omega)|omega) (by rw[hW];first|assumption|(simp [go_sem];done)|(simp [*,go_sem];done))
               clear hW
               repeat (go_big_quiet_step (fail))
               refine wpQuiet_nil ?_
               clear sZ hq8
               intro KZ nE
               have HD5:Hid (DS w KZ bu bq bv ov eH qs vl):=DS.grow HD4.out nE
               have L6:=nE.cell uY tJ
               have L8:=nE.frozen uY hfu
               clear tJ hfu hcv nE
               go_wp2_with fail
               go_roundw
               case rel=>exact⟨i+1,c',eH.set (i+jj) nD,hin1,by go_num,rfl,KW.out,DS.setU HD5.out (i+jj) nD ze.out KX.out,HST.out⟩
               case measure=>simp only[intOf];omega
             ·as_aux_lemma=>
               have nA:decide (i<n)=false:=by simp;omega
               have hie:i=n0+2:=by have:=dY.out;omega
               rw[hie] at BQ
               have jD:jj+n<eH.length:=by have h1:=nz.out;omega
               have tJ:=Own.cell (DS.u HD4.out:Own wr bu eH) (i:=jj+n) jD
               have hfu:=Own.frozen (DS.u HD4.out:Own wr bu eH) (i:=jj+n) jD
               have hx:=q04 (DS.u HD4.out:Own wr bu eH).1 (jj+n)
               obtain⟨nD,kk,q1,q2,q3⟩:=q7e c (eH.getD (jj+n) 0)
               have iN:=BK.fin BQ.out mq.out xw.out (by rw[HA1.out];exact oQ.out) (r:=nD) (k:=kk) (by rw[← dY.out];exact q3)
               rw[← dY.out] at iN
               have HD5:Hid (DS w (wr.setCell ⟨bu,jj+n,none⟩ (.int .u32 (nD:Int))) bu bq bv ov (eH.set (jj+n) nD) qs vl):=DS.setU HD4.out (jj+n) nD jD q2
               have hxi:(eH.getD (jj+n) 0:Int)≤4294967295:=by omega
               have uZ:b*2^e<2^(32*(n0+2)):=tT.out
               have hDB:=DInv.back lC.out (by omega) (iN.1.trans HA1.out) HT1.out HT2.out uZ (DS.u HD3.out).1 oP.out uW.out (DS.u HD5.out).1 iN.2.1 iN.2.2
               rw[KU.out] at hDB
               have wO:Hid _:=hDB.1
               generalize eH.getD (jj+n) 0=x at *
               have hcq:=Own.cell (DS.q HD5.out) (i:=jj) hqj
               have KS:=Own.frozen (DS.q HD5.out) (i:=jj) hqj
               have hcw:IntKind.u32.wrap (c:Int)=c:=by rw[IntKind.wrap_u32];omega
               clear iN hDB uZ q2 q3 hx hc hin hie
               go_wp2_with fail
               go_roundw
               case rel=>exact⟨jj,eH.set (jj+n) nD,qs.set jj gm,by omega,by go_num,DS.setQ HD5.out jj gm hqj BO.out,wO.out⟩
               case measure=>simp [intOf]
     ·rw[show decide (4294967295<r+top)=false from by simp;omega] at xY
      have hrn:r+top<4294967296:=by omega
      have hgn:g'≤4294967297:=by omega
      clear hr hg hg' hsum
      go_wp2_with fail
      go_roundw
      case rel=>exact⟨g',r+top,rfl,by go_num,hgn,hrn,⟨BR.out,HT1.out⟩,kU.out⟩
      case measure=>have:=I8.out;simp only[intOf];omega
