/- What is proved here: contracts of the reference's big numbers: div, word by word from above, over this seat's translation. -/
import Derived.Test.YtemmkninoiclfaaGreatDoorC6
namespace Go.Proofs.YtemmkninoiclfaaGreatDoor
open Go.ChangeShapes Go.WideShapes Go.ChangeAt Go.RowKit
open BN
/-- A call hands back the canonical slices of two numbers. -/
def q2i (w:World) (x y:Nat) (e:Ending) (w':World):Prop:=∃ v u,e= .returned (.tuple #[v,u])∧G w w'∧Num w' v x∧Num w' u y
/-- A slice of n words whose number has its highest bit. -/
theorem qav {w:World} {v:Value} {V n0:Nat} (h:Num w v V) (h1:2^(32*(n0+1)+31)≤V) (h2:V<2^(32*(n0+1+1))):
  ∃ (b o c:Nat) (l:List Nat),v= .slice (some ⟨b,o,none⟩) (n0+2:Nat) c∧n0+2≤c∧b<w.heap.size∧okw l∧l.length=n0+2∧val l=V∧Row w b o l∧2^31≤l.getD (n0+1) 0:=by
 obtain⟨l,hl,hc,rfl⟩:=h
 have h3:=q05 hc h2
 have h4:=q0u hc.1
 have h5:2^(32*(n0+1))<2^(32*l.length):=Nat.lt_of_le_of_lt (Nat.le_trans (Nat.pow_le_pow_right (by omega) (by omega)) h1) h4
 have h6:=(Nat.pow_lt_pow_iff_right (by omega:1<2)).1 h5
 have h7:l.length=n0+2:=by omega
 rcases Sl.cases hl with ⟨rfl,-⟩|⟨-,b,o,c,rfl,hcc,hb,hr⟩
 ·simp at h7
 ·refine⟨b,o,c,l,by rw[h7],by omega,hb,hc.1,h7,rfl,hr,?_⟩
  have h8:=q0s (l:=l) (k:=n0+1) (by omega)
  rw[List.drop_eq_nil_of_le (by omega)] at h8
  simp only[val,Nat.mul_zero,Nat.add_zero] at h8
  have h9:=q0t hc.1 (n0+1) (by omega)
  rw[Nat.pow_add] at h1
  rcases Nat.lt_or_ge (l.getD (n0+1) 0) (2^31) with h|h
  ·exfalso
   have:2^(32*(n0+1))*(l.getD (n0+1) 0+1)≤2^(32*(n0+1))*2^31:=Nat.mul_le_mul_left _ h
   rw[Nat.mul_add,Nat.mul_one] at this
   omega
  ·exact h
theorem qaU {w:World} {v:Value} {V:Nat} (h:Num w v V) (h0:V≠0) (k:Nat) (hk:V<2^(32*k)):
  ∃ (b o c:Nat) (l:List Nat),v= .slice (some ⟨b,o,none⟩) l.length c∧l.length≤c∧b<w.heap.size∧okw l∧l.length≤k∧val l=V∧Row w b o l:=by
 obtain⟨l,hl,hc,rfl⟩:=h
 rcases Sl.cases hl with ⟨rfl,-⟩|⟨-,b,o,c,rfl,hcc,hb,hr⟩
 ·exact absurd rfl h0
 ·exact⟨b,o,c,l,rfl,hcc,hb,hc.1,q05 hc hk,rfl,hr⟩
theorem q2A {w:World} {b o:Nat} {l:List Nat} (h:Row w b o l):∀ j v,(l.map fun d=>Value.int .u32 (d:Nat))[j]? =some v→w.cell? ((⟨b,o,none⟩:Addr).add j)=some v:=by
 intro j u hj
 rw[List.getElem?_map] at hj
 obtain⟨d,hd,rfl⟩:=Option.map_eq_some_iff.1 hj
 have:=h j (List.getElem?_eq_some_iff.1 hd).1
 rw[List.getD_eq_getElem?_getD,hd] at this
 rw[addr_add]
 exact this
theorem q2H (l:List Nat):∀ u∈(l.map fun d=>Value.int .u32 (d:Nat)),u.oneCell'=true:=by
 intro u hu
 obtain⟨d,-,rfl⟩:=List.mem_map.1 hu
 rfl
theorem Row.setCells {b o c:Nat} {l:List Nat} (hb:b≠c):∀ (cs:List Value) (w:World) (i:Nat),Row w b o l→Row (w.setCells c i cs) b o l
 |[],_,_,h=>h
 |v::cs,_,i,h=>Row.setCells hb cs _ _ (h.set (i:=i) (u:=v) hb)
set_option maxRecDepth 10000 in
set_option maxHeartbeats 8000000 in
theorem q85 (w:World) (va vb:Value) (a b K:Nat) (hK:K≤300000) (ha:Num w va a) (hb:Num w vb b) (ha2:a<2^(32*K)) (ig:b≤a) (hbig:2^64≤a) (hb2:2^32≤b):
  Calls Tryz.prog 175 #[va,vb] w (q2i w (a/b) (a%b)):=by
 have hA':=ha
 have hB':=hb
 obtain⟨l,hl,hcl,hvl⟩:=ha
 obtain⟨m,hm,hcm,iN⟩:=hb
 have hll:=q05 hcl (hvl▸ha2)
 have hl2:2<l.length:=by
  rcases Nat.lt_or_ge 2 l.length with h|h
  ·exact h
  ·have h1:=q0u hcl.1
   have h2:2^(32*l.length)≤2^64:=Nat.pow_le_pow_right (by omega) (by omega)
   omega
 have hm2:1<m.length:=by
  rcases Nat.lt_or_ge 1 m.length with h|h
  ·exact h
  ·have h1:=q0u hcm.1
   have h2:2^(32*m.length)≤2^32:=Nat.pow_le_pow_right (by omega) (by omega)
   omega
 have qi:m.length≤l.length:=by
  rcases Nat.lt_or_ge l.length m.length with h|h
  ·have:=q0I hcl hcm h;omega
  ·exact h
 obtain⟨n0,hn0⟩:∃ n0,m.length=n0+2:=⟨m.length-2,by omega⟩
 obtain⟨k,hk1,hk2,hkb,hV1,hV2⟩:=q3d hcm (n:=n0+1) (by omega)
 obtain⟨pa,ca,rfl,dQ,hra⟩:=q0m hl
 obtain⟨pb,cb,rfl,hcb,hrb⟩:=q0m hm
 have jm:Hid _:=q2F w _ _ a b K (by omega) hA' hB' ha2 (by omega)
 have HLen:Hid (∀ w1,G w w1→_):=fun w1 g=>q43 w1 _ b K (by omega) (hB'.G g) (by omega)
 have G9:Hid (∀ w1,G w w1→_):=fun w1 g=>q20 w1 _ b (32-k) K (by omega) (by omega) (hB'.G g) (by omega)
 have Ga:Hid (∀ w1,G w w1→_):=fun w1 g=>q20 w1 _ a (32-k) K (by omega) (by omega) (hA'.G g) ha2
 rw[iN] at hkb hV1 hV2
 have hc:decide (cmpV a b<0)=false:=by rw[decide_eq_false_iff_not];unfold cmpV;rw[if_neg (by omega)];split<;>omega
 generalize cmpV a b=cv at *
 generalize hjl:l.length=j at *
 generalize hjn:m.length=n at *
 rw[hkb] at HLen
 have HA:Hid _:=hra
 have HB:Hid _:=hrb
 have HJ:Hid _:=hjl
 have CJ:Hid _:=hcl
 have HCM:Hid _:=hcm
 have kH:Hid _:=hvl
 have Px:Hid _:=iN
 have dw:Hid _:=hn0
 have U8:Hid _:=hjn
 have Py:(2:Int)≤n:=by omega
 have MQ:Hid _:=ig
 have HA2:Hid _:=ha2
 have CE:Hid _:=hA'
 have uK:Hid _:=hB'
 have t1:decide ((j:Int)≤2)=false:=by simp;omega
 have t2:((n:Int)==0)=false:=by simp;omega
 have t3:((n:Int)==1)=false:=by simp;omega
 have hjb:(j:Int)≤300000:=by omega
 have hnb:(n:Int)≤j:=by omega
 have IM:(1:Int)≤k:=by omega
 have hkb2:(k:Int)≤32:=by omega
 obtain⟨mm,hmm⟩:∃ mm,j+1=n+mm:=⟨j+1-n,by omega⟩
 have hm1:(j:Int)+2-n-1=mm:=by omega
 have Pz:(1:Int)≤mm:=by omega
 have PD:(mm:Int)≤300000:=by omega
 have IP:=q1c (j+2) (by omega)
 rw[show ((j+2:Nat):Int)=(j:Int)+2 from by omega] at IP
 have yZ:=q1c (mm+1) (by omega)
 rw[show ((mm+1:Nat):Int)=(mm:Int)+1 from by omega] at yZ
 have CK:Hid _:=hmm
 obtain⟨e,he⟩:∃ e:Nat,e=32-k:=⟨_,rfl⟩
 rw[← he] at Ga G9 hV1 hV2
 have hs:32-((((32*(n0+1)+k:Nat):Int)-1)%32)-1=e:=by omega
 have U9:(e:Int)≤31:=by omega
 have FW:((32*(n0+1)+k:Nat):Int)≤20000000:=by omega
 have PE:(1:Int)≤((32*(n0+1)+k:Nat):Int):=by omega
 generalize 32*(n0+1)+k=L at *
 have p8:Hid _:=hV1
 have vL:Hid _:=hV2
 have hae:a*2^e≠0:=by have:=Nat.two_pow_pos e;have:0<a:=by omega
                      exact Nat.pos_iff_ne_zero.1 (Nat.mul_pos this (by assumption))
 have haj:a*2^e<2^(32*(j+1)):=by
  have h1:=q0u hcl.1
  rw[hvl,hjl] at h1
  have h2:a*2^e<2^(32*j)*2^e:=Nat.mul_lt_mul_of_pos_right h1 (Nat.two_pow_pos _)
  have h3:2^(32*j)*2^e≤2^(32*(j+1)):=by rw[← Nat.pow_add];exact Nat.pow_le_pow_right (by omega) (by omega)
  omega
 have ko:Hid _:=hae
 have HB0:Hid (0<b):=Nat.lt_of_lt_of_le (by omega) hb2
 have MR:Hid _:=haj
 have IQ:Hid (a*2^e<2^(32*(n0+1+(mm+1)))):=by
  have h1:j+1=n0+1+(mm+1):=by omega
  rw[h1] at haj;exact haj
 clear hae haj
 clear hV1 hV2 hra hrb hjl hcl hcm hvl iN hn0 hjn ig ha2 hA' hB' hl hm hkb hK hbig hb2 hll hl2 hm2 qi hk1 hk2 hmm he IM hkb2
 clear CJ HCM kH Px CE uK
 go_enter Tryz.func175,Tryz.ntmps175
 go_wp2_with fail
 refine Calls.mono (P:=Tryz.prog) jm.out ?_
 rintro e1 w1 ⟨rfl,hg1⟩
 go_wp2_with fail
 refine Calls.mono (P:=Tryz.prog) (HLen.out w1 hg1) ?_
 rintro e1 w2 ⟨rfl,hg2⟩
 have hG2:=G.trans hg1 hg2
 go_wp2_with fail
 refine Calls.mono (P:=Tryz.prog) (G9.out w2 hG2) ?_
 rintro e1 w3 ⟨v1,rfl,hg3,iM⟩
 obtain⟨bv,ov,Ua,vl,rfl,PG,hvb,MS,wN,hvv,uM,wO⟩:=qav iM p8.out vL.out
 rw[← dw.out] at PG
 rw[← dw.out]
 have hG3:=G.trans hG2 hg3
 have MU:Hid _:=uM
 have z8:Hid _:=MS
 have kH:Hid _:=wN
 have vM:Hid _:=hvv
 have Gb:Hid _:=wO
 clear uM MS wN hvv wO iM hg1 hg2 hg3 hG2
 go_wp2_with fail
 have hgm:G w3 (w3.alloc (.cells (madeCells #[.int .u32 0] (j+2)) 187)):=(G.refl _).alloc _
 have wP:Hid _:=q0B w3 (j+2) 187
 have hle:w.heap.size≤w3.heap.size:=hG3.size
 refine Calls.mono (P:=Tryz.prog) (Ga.out _ (G.trans hG3 hgm)) ?_
 rintro e1 w4 ⟨v2,rfl,hg4,uF⟩
 have sF:Hid (Own w4 w3.heap.size (List.replicate (j+2) 0)):=Own.grow wP.out hg4
 have hG4:G w w4:=G.trans (G.trans hG3 hgm) hg4
 have CL:Hid (Row w4 bv ov vl):=Row.G (l:=vl) MU.out hvb (G.trans hgm hg4)
 clear hgm hg4 wP hG3
 generalize w3.heap.size=bu at *
 obtain⟨bl,ol,cl,la,rfl,hlc,hlb,hlo,hlj,hlv,hlr⟩:=qaU uF (ko.out) (j+1) MR.out
 obtain⟨cs,hcs⟩:∃ cs,cs=la.map (fun d=>Value.int .u32 (d:Nat)):=⟨_,rfl⟩
 have hcl:cs.length=la.length:=by rw[hcs,List.length_map]
 have hsrc:=q2A hlr
 have h1c:=q2H la
 rw[← hcs] at hsrc h1c
 have Gc:Hid _:=Own.cells (o:=0) sF.out hlo (by simp;omega)
 rw[← hcs] at Gc
 have hccell:∀ i,i<cs.length→(w4.cell? ⟨bu,0+i,none⟩).isSome=true:=fun i hi=>by
  rw[Nat.zero_add,Own.cell (l:=List.replicate (j+2) 0) sF.out (by simp;omega)];rfl
 have wQ:∀ i,i<cs.length→w4.frozen? ⟨bu,0+i,none⟩=false:=fun i hi=>by
  rw[Nat.zero_add];exact Own.frozen (l:=List.replicate (j+2) 0) sF.out (by simp;omega)
 have hmin:cs.length=Nat.min la.length (j+2):=by rw[hcl];exact(Nat.min_eq_left (by omega)).symm
 have hval:val ((List.replicate (j+2) 0).take 0++(la++(List.replicate (j+2) 0).drop (0+la.length)))=a*2^e:=by
  rw[List.take_zero,List.nil_append,val_append,List.drop_replicate,q1P,hlv];simp
 have hlen:((List.replicate (j+2) 0).take 0++(la++(List.replicate (j+2) 0).drop (0+la.length))).length=j+2:=by simp;omega
 generalize (List.replicate (j+2) 0).take 0++(la++(List.replicate (j+2) 0).drop (0+la.length))=us at *
 have hrun:=run_copy_cells (P:=Tryz.prog) w4 36 36 3 187 bu 0 (j+2) (j+2) ⟨bl,ol,none⟩ la.length cl cs Tryz.underlying36 (by kernel_rfl) hmin hsrc hccell wQ h1c
 have bZ:G w (w4.setCells bu 0 cs):=G.setCells hle cs _ _ hG4
 have CO:Hid (Row (w4.setCells bu 0 cs) bv ov vl):=Row.setCells (by omega) cs _ _ CL.out
 generalize mP:w4.setCells bu 0 cs=w5 at *
 have MV:Hid _:=hval
 have kV:Hid _:=hlen
 clear uF hlc hlb hlo hlj hlv hlr hcs hcl hsrc h1c hccell wQ hmin hval hlen hG4 CL sF MU MR ko mP
 go_wp2_with fail
 have wR:Hid _:=q0B w5 (mm+1) 187
 have Gd:G w5 (w5.alloc (.cells (madeCells #[.int .u32 0] (mm+1)) 187)):=(G.refl _).alloc _
 have ze:bu<w5.heap.size:=(Gc.out:Own w5 bu us).2.1
 have jy:Hid (DS w _ bu w5.heap.size bv ov us (List.replicate (mm+1) 0) vl):=DS.mk (G.trans bZ Gd) hle hvb ze (Own.grow Gc.out Gd) wR.out (Row.G (l:=vl) CO.out (by omega) Gd)
 generalize w5.heap.size=bq at *
 have hsz:bq<(w5.alloc (.cells (madeCells #[.int .u32 0] (mm+1)) 187)).heap.size:=(jy.out:DS w _ bu bq bv ov us (List.replicate (mm+1) 0) vl).q.2.1
 generalize w5.alloc (.cells (madeCells #[.int .u32 0] (mm+1)) 187)=w6 at *
 have PH:bu<bq:=ze
 clear wR Gd Gc CO bZ ze
 obtain⟨p1,hp1⟩:∃ p1,p1=n0+1:=⟨_,rfl⟩
 have hn1:(n:Int)-1=p1:=by have:=dw.out;omega
 have hn2:(n:Int)-2=n0:=by have:=dw.out;omega
 have iZ:Hid _:=hp1
 have hct:w6.cell? ⟨bv,ov+p1,none⟩=some (.int .u32 (vl.getD p1 0:Nat)):=DS.cv (vl:=vl) jy.out (by rw[kH.out,hp1];omega)
 have hcn:w6.cell? ⟨bv,ov+n0,none⟩=some (.int .u32 (vl.getD n0 0:Nat)):=DS.cv (vl:=vl) jy.out (by rw[kH.out];omega)
 have hto:vl.getD p1 0<2^32:=q04 z8.out p1
 have hno:vl.getD n0 0<2^32:=q04 z8.out n0
 have dx:2^31≤vl.getD p1 0:=by rw[hp1];exact Gb.out
 have MW:Hid (∀ us jj,okw us→jj+n0+2<us.length→val us<2^(32*(jj+1))*(b*2^e)→_):=fun us jj h1 h2 h3=>q5u h1 z8.out kH.out vM.out h2 h3
 clear Gb
 rw[← hp1] at MW
 have hpn:p1<n:=by have:=dw.out;omega
 have PI:n0<n:=by have:=dw.out;omega
 clear hp1
 generalize htop:vl.getD p1 0=top at *
 generalize hnext:vl.getD n0 0=next at *
 clear htop hnext
 have htop:(2147483648:Int)≤top:=by omega
 have MX:(top:Int)≤4294967295:=by omega
 have IU:(next:Int)≤4294967295:=by omega
 have MZ:((top:Int)==0)=false:=by simp;omega
 clear hto hno dx
 have gD:bv<w6.heap.size:=by omega
 refine q0d (by kernel_rfl) (by kernel_rfl) ?_
 intro W hW
 have hq1:=q07 (w:=W) (a:=⟨bv,ov+p1,none⟩) (x:= .int .u32 (top:Int)) (by rw[hW];first|(simp;done)|(simp;omega)|omega) (by rw[hW];first|assumption|(simp [go_sem];done)|(simp [*,go_sem];done))
 have hq2:=q07 (w:=W) (a:=⟨bv,ov+n0,none⟩) (x:= .int .u32 (next:Int)) (by rw[hW];first|(simp;done)|(simp;omega)|omega) (by rw[hW];first|assumption|(simp [go_sem];done)|(simp [*,go_sem];done))
 clear hW
 repeat (go_big_quiet_step (fail))
 refine wpQuiet_nil ?_
 clear hq1 hq2
 intro w7 hw7
 have HD7:Hid (DS w w7 bu bq bv ov us (List.replicate (mm+1) 0) vl):=DS.grow jy.out hw7
 have HIS:Hid _:=DInv.start (n0:=n0) (M:=mm+1) kV.out MV.out IQ.out p8.out
 clear hct hcn jy hw7 hsz gD
 go_wp2_with fail
 go_loopw [18] (fun vj wr=>∃ (t:Nat) (us qs:List Nat),t≤mm+1∧vj= .int .i64 ((t:Int)-1)∧DS w wr bu bq bv ov us qs vl∧DInv us qs t (j+2) (mm+1) (b*2^e) (a*2^e)) (fun vj _=>(intOf vj+1).toNat)
 case atStart=>exact⟨mm+1,us,_,Nat.le_refl _,by congr 1;omega,HD7.out,HIS.out⟩
 case round=>
  obtain⟨t,us,qs,ht,rfl,hds,hinv⟩:=hrel
  have jy:Hid _:=hds
  have jJ:Hid _:=hinv
  clear hds hinv HD7 HIS kV MV
  cases t with
  |zero=>
   as_aux_lemma=>
    have hfin:=DInv.fin jJ.out (Nat.two_pow_pos e) HB0.out
    obtain⟨hq2,hr2⟩:=hfin
    have PK:Hid (∀ w1,G wr w1→Calls Tryz.prog 176 #[.slice (some ⟨bq,0,none⟩) (mm+1) (mm+1)] w1 (q0e w1 (a/b))):=fun w1 g=>by
     rw[← hq2];exact q0F (Own.grow (DS.q jy.out) g) jJ.out.2.1 (by omega)
    have PL:Hid (∀ w1,G wr w1→Calls Tryz.prog 176 #[.slice (some ⟨bu,0,none⟩) (j+2) (j+2)] w1 (q0e w1 (val us))):=fun w1 g=>q0F (Own.grow (DS.u jy.out) g) jJ.out.1 (by omega)
    have uE:Hid (∀ w1 v,Num w1 v (val us)→Calls Tryz.prog 173 #[v,.int .u64 (e:Int)] w1 (q0e w1 (a%b))):=fun w1 v hn=>by
     rw[← hr2]
     exact q1e w1 v (val us) e (j+2) (by omega) (by omega) hn (by have:=q0u (DS.u jy.out:Own wr bu us).1;rwa[jJ.out.1] at this)
    have hgw:=jy.out.g
    have AQ:Hid _:=hgw
    clear hq2 hr2 hgw Ga G9 HLen jm HA HB
    go_wp2_with fail
    refine Calls.mono (P:=Tryz.prog) (PK.out wr (G.refl _)) ?_
    rintro e1 w1 ⟨v1,rfl,hg1,hn1⟩
    go_wp2_with fail
    refine Calls.mono (P:=Tryz.prog) (PL.out w1 hg1) ?_
    rintro e1 w2 ⟨v2,rfl,hg2,hn2⟩
    go_wp2_with fail
    refine Calls.mono (P:=Tryz.prog) (uE.out w2 v2 hn2) ?_
    rintro e1 w3 ⟨v3,rfl,hg3,iM⟩
    go_wp2_with fail
    go_ret2
    exact⟨_,_,rfl,G.trans AQ.out (G.trans hg1 (G.trans hg2 hg3)),hn1.G (G.trans hg2 hg3),iM⟩
  |succ jj=>
   have pg:us.length=j+2:=jJ.out.1
   have CP:qs.length=mm+1:=jJ.out.2.1
   have hjm:jj+n0+2<j+2:=by have:=CK.out;have:=dw.out;omega
   have hJ:(jj:Int)+n-1=((jj+p1:Nat):Int):=by omega
   have hJ2:(jj:Int)+n-2=((jj+n0:Nat):Int):=by omega
   have PM:(jj:Int)≤300000:=by omega
   have IV:jj+n<j+2:=by have:=dw.out;omega
   have hjp:jj+p1<j+2:=by omega
   have PN:jj+n0<j+2:=by omega
   have sG:=(DS.u jy.out:Own wr bu us).1
   have hc0:=Own.cell (DS.u jy.out:Own wr bu us) (i:=jj+n) (by omega)
   have hc1:=Own.cell (DS.u jy.out:Own wr bu us) (i:=jj+p1) (by omega)
   have hc2:=Own.cell (DS.u jy.out:Own wr bu us) (i:=jj+n0) (by omega)
   have hx0:=q04 sG (jj+n)
   have hx1:=q04 sG (jj+p1)
   have hx2:=q04 sG (jj+n0)
   have hF:=MW.out us jj sG (by omega) jJ.out.2.2.1
   rw[show jj+n0+2=jj+n from by have:=dw.out;omega,show jj+n0+1=jj+p1 from by have:=iZ.out;omega] at hF
   obtain⟨hf1,hf2,hf3,N7,IW,IX,N8⟩:=hF
   generalize us.getD (jj+n) 0=u0 at *
   generalize us.getD (jj+p1) 0=u1 at *
   generalize hu2:us.getD (jj+n0) 0=u2 at *
   have Bc:Hid _:=hu2
   clear hu2
   obtain⟨h,g0,r0,hw1,hh,hw2,hw3,hg0,CQ,hr0,CR⟩:=qaw u0 u1 top hx0 hx1 (by omega) hf1
   have hS0:val us<(g0+1)*(2^(32*jj)*(b*2^e)):=by
    rw[hg0]
    refine qbm (u2:=u2) (P:=2^(32*(jj+n0))) (by rw[hh];exact IW) hx2 (Nat.le_trans (Nat.mul_le_mul_right _ (by omega)) IX) (by omega)
   have Bd:Hid (val us<(g0+1)*(2^(32*jj)*(b*2^e))):=hS0
   have zf:Hid _:=hf1
   have N9:Hid _:=hf2
   have zg:Hid _:=hf3
   have CS:Hid _:=N7
   have Na:Hid _:=IW
   have IY:Hid _:=IX
   have Nb:Hid _:=N8
   have HH:Hid _:=hh
   have Nc:Hid _:=CQ
   have PO:(u0:Int)≤4294967295:=by omega
   have PQ:(u1:Int)≤4294967295:=by omega
   have PS:(u2:Int)≤4294967295:=by omega
   have IZ:(r0:Int)<top:=by omega
   have zh:Hid (u1<2^32):=hx1
   have J2:Hid (u2<2^32):=hx2
   have J3:Hid (g0≤4294967297):=CR
   have lu:Hid (jj+n<j+2):=IV
   have kV:Hid _:=pg
   have vB:Hid _:=CP
   have hbw:bu<wr.heap.size:=(DS.u jy.out:Own wr bu us).2.1
   clear hS0 hf1 hf2 hf3 N7 IW IX N8 hh CQ hg0 hx0 hx1 hx2 hr0 CR sG hjm
   clear Ga G9 HLen jm HA HB
   go_wp2_with fail
   refine q0d (by kernel_rfl) (by kernel_rfl) ?_
   intro W hW
   have hq3:=q07 (w:=W) (a:=⟨bu,jj+n,none⟩) (x:= .int .u32 (u0:Int)) (by rw[hW];first|(simp;done)|(simp;omega)|omega) (by rw[hW];first|assumption|(simp [go_sem];done)|(simp [*,go_sem];done))
   have hq4:=q07 (w:=W) (a:=⟨bu,jj+p1,none⟩) (x:= .int .u32 (u1:Int)) (by rw[hW];first|(simp;done)|(simp;omega)|omega) (by rw[hW];first|assumption|(simp [go_sem];done)|(simp [*,go_sem];done))
   clear hW
   repeat (go_big_quiet_step (fail))
   refine wpQuiet_nil ?_
   clear hq3 hq4
   intro w8 hw8
   have aZ:Hid (DS w w8 bu bq bv ov us qs vl):=DS.grow jy.out hw8
   have hc2':=hw8.cell (p:=⟨bu,jj+n0,none⟩) hbw hc2
   clear hc0 hc1 hc2 hw8 jy
   go_wp2_with fail
   refine q0d (by kernel_rfl) (by kernel_rfl) ?_
   intro W hW
   clear hW
   repeat (go_big_quiet_step (fail))
   refine wpQuiet_nil ?_
   intro w9 J4
   have bC:Hid (DS w w9 bu bq bv ov us qs vl):=DS.grow aZ.out J4
   have CU:bu<w8.heap.size:=(DS.u aZ.out:Own w8 bu us).2.1
   have hc2:=J4.cell (p:=⟨bu,jj+n0,none⟩) CU hc2'
   have J5:(r0:Int)≤4294967295:=by omega
   clear hc2' J4 aZ CU hc2 hbw hw1 hw2
   have hgs0:GS (val us) (2^(32*jj)*(b*2^e)) h top g0 r0:=⟨Nc.out,Bd.out⟩
   have CV:Hid _:=hgs0
   have J6:r0<4294967296:=by omega
   clear hgs0
   have HW2:Hid (4294967296*2^(32*(jj+n0))≤2^(32*jj)*(b*2^e)):=Nat.le_trans (Nat.mul_le_mul_right _ (by omega)) IY.out
   have CW:Hid (∀ g r,g*top+r=h→g<2^32→g*next≤r*2^32+u2→g*(2^(32*jj)*(b*2^e))<val us+2^(32*jj)*(b*2^e)):=fun g r k1 k2 k3=>q75 (h:=h) (by rw[HH.out];exact CS.out) Nb.out HW2.out k1 k2 k3
   have J7:Hid (∀ g r,g*top+r=h→2^32≤r→g<2^32∧g*(2^(32*jj)*(b*2^e))<val us+2^(32*jj)*(b*2^e)):=fun g r k1 k2=>by
    obtain⟨k3,k4⟩:=q7F (u1:=u1) (u2:=u2) (next:=next) (by rw[HH.out];exact Nat.add_le_add_right (Nat.mul_le_mul_right _ zf.out) _) zh.out k1 k2 (by omega)
    exact⟨k3,CW.out g r k1 k3 k4⟩
   have J8:Hid (∀ g,4294967295<g→val us<g*(2^(32*jj)*(b*2^e))):=fun g k1=>q5q zg.out (by omega)
   have J9:Hid (∀ g r,g*top+r=h→r*2^32+u2<g*next→val us<g*(2^(32*jj)*(b*2^e))):=fun g r k1 k2=>q6S (P:=2^(32*(jj+n0))) (h:=h) (by rw[HH.out];exact Na.out) IY.out k1 k2
   have mQ:Hid (jj+n0+2<us.length):=by
    have h0:us.length=j+2:=kV.out
    have h1:jj+n<j+2:=lu.out
    have h2:n=n0+2:=dw.out
    show jj+n0+2<us.length
    omega
   have hne1:¬ bu=bq:=by omega
   have hne2:¬ bq=bu:=by omega
   clear HW2 zf zg CS Na IY Nb HH Nc Bd
   go_wp2_with fail
   simp only[hw3]
   clear hw3
   go_loopw [20,21] (fun vg vr wr=>∃ g r:Nat,vg= .int .u64 g∧vr= .int .u64 r∧g≤4294967297∧r<4294967296∧GS (val us) (2^(32*jj)*(b*2^e)) h top g r∧DS w wr bu bq bv ov us qs vl) (fun vg _ _=>(intOf vg).toNat)
   case atStart=>exact⟨g0,r0,rfl,rfl,J3.out,by omega,CV.out,bC.out⟩
   case round=>
    obtain⟨g,r,rfl,rfl,hgb,hrb,hgs,hds⟩:=hrel
    have CX:Hid _:=hgs
    have jy:Hid _:=hds
    clear hgs hds bC CV J6 IZ J5
    have hc2:wr.cell? ⟨bu,jj+n0,none⟩=some (.int .u32 (us.getD (jj+n0) 0:Nat)):=Own.cell (DS.u jy.out:Own wr bu us) (by have:=kV.out;omega)
    rw[Bc.out] at hc2
    have hgi:(g:Int)≤4294967297:=by omega
    have Gf:(r:Int)≤4294967295:=by omega
    have vN:decide ((4294967295:Int)<g)=decide (4294967295<g):=by congr 1;exact propext (by omega)
    have vO:decide ((4294967295:Int)<(r:Int)+top)=decide (4294967295<r+top):=by congr 1;exact propext (by omega)
    by_cases hg:4294967295<g
    case' neg=>
     rw[show decide (4294967295<g)=false from by simp;omega] at vN
     have CY:g*next≤4294967295*4294967295:=Nat.mul_le_mul (by omega) (by omega)
     obtain⟨p,hp,hpi,hpe⟩:∃ p:Nat,(g:Int)*next=p∧(p:Int)≤18446744065119617025∧p=g*next:=⟨g*next,by push_cast;rfl,by omega,rfl⟩
     obtain⟨q,hq,hqe⟩:∃ q:Nat,bits .or .u64 ((r:Int)*4294967296) (u2:Int)=q∧q=r*2^32+u2:=⟨_,q90 r u2 (by omega) J2.out,rfl⟩
     have qM:Hid _:=hpe
     have qN:Hid _:=hqe
     by_cases hpq:q<p
     case neg=>
      have CZ:decide (q<p)=false:=by simp;omega
      have HT2:Hid (g*(2^(32*jj)*(b*2^e))<val us+2^(32*jj)*(b*2^e)):=CW.out g r CX.out.1 (by omega) (by rw[← qM.out,← qN.out];omega)
      have HT1:Hid (val us<(g+1)*(2^(32*jj)*(b*2^e))):=CX.out.2
      have hgt:g<4294967296:=by omega
      clear CY hpe hqe hpq vO hg hgi
      go_wp2_with fail
      clear vN hp hq CZ hpi hc2
      obtain⟨gt,sH⟩:∃ gt:Nat,gt=g:=⟨g,rfl⟩
      rw[← sH] at HT1 HT2 hgt ⊢
      clear sH
      as_aux_lemma=>
       have Ja:(gt:Int)≤4294967295:=by omega
       go_loopw [22,23,24] (fun vc vd vi w2=>∃ (i c d:Nat) (dC:List Nat),i≤n∧vi= .int .i64 i∧vc= .int .u64 c∧vd= .int .u64 d∧c<4294967296∧d≤1∧DS w w2 bu bq bv ov dC qs vl∧AW us dC vl jj n0 i gt c d) (fun _ _ vi _=>n-(intOf vi).toNat)
       case atStart=>exact⟨0,0,0,us,Nat.zero_le _,rfl,rfl,rfl,by omega,by omega,jy.out,AW.start N9.out⟩
       case round=>
        obtain⟨i,c,d,dC,hi,rfl,rfl,rfl,hc,hd,hds,haw⟩:=hrel
        have HD2:Hid (DS w wr bu bq bv ov dC qs vl):=hds
        have zi:Hid _:=haw
        have hl2:dC.length=j+2:=haw.1.trans kV.out
        clear hds haw jy
        have hci:(c:Int)≤4294967295:=by omega
        have hdi:(d:Int)≤1:=by omega
        have hib:(i:Int)≤300002:=by omega
        by_cases hin:i<n
        ·as_aux_lemma=>
          have lC:decide (i<n)=true:=by simp;omega
          have hcv:=DS.cv (vl:=vl) HD2.out (i:=i) (by rw[kH.out];have:=dw.out;omega)
          have fH:i+jj<dC.length:=by have h1:=lu.out;omega
          have qj:=Own.cell (DS.u HD2.out:Own wr bu dC) (i:=i+jj) fH
          have hfu:=Own.frozen (DS.u HD2.out:Own wr bu dC) (i:=i+jj) fH
          have hy:=q04 z8.out i
          have hx:=q04 (DS.u HD2.out:Own wr bu dC).1 (i+jj)
          obtain⟨p,lo,t0,tt,rr,d',c',q1,q2,q3,q4,q5,q6,q7,q8,q9,D7,D8,D9,Da⟩:=q9x gt c d _ _ hgt hc hd hx hy
          have HST:Hid _:=AW.step zi.out (by have:=dw.out;omega) mQ.out Da
          have dU:Hid (d'≤1):=D7
          have jo:Hid (c'<2^32):=D8
          have iw:Hid (rr<2^32):=D9
          generalize vl.getD i 0=y at *
          generalize dC.getD (i+jj) 0=x at *
          have hyi:(y:Int)≤4294967295:=by omega
          have hxi:(x:Int)≤4294967295:=by omega
          have hpi:(p:Int)≤18446744065119617025:=by omega
          have Jb:(lo:Int)≤4294967295:=by omega
          have zk:i+jj<j+2:=by omega
          have hin1:i+1≤n:=hin
          have Db:n-(i+1)<n-i:=by omega
          have wS:Hid (i+jj<dC.length):=fH
          clear q2 q4 D7 D8 D9 Da hx hy hc hd hin fH
          go_wp2_with fail
          go_roundw
          case rel=>exact⟨i+1,c',d',dC.set (i+jj) rr,hin1,by go_num,rfl,rfl,jo.out,dU.out,DS.setU HD2.out (i+jj) rr wS.out iw.out,HST.out⟩
          case measure=>simp only[intOf];omega
        ·as_aux_lemma=>
          have lC:decide (i<n)=false:=by simp;omega
          have hie:i=n0+2:=by have:=dw.out;omega
          rw[hie] at zi
          have iC:jj+n<dC.length:=by have h1:=lu.out;omega
          have qj:=Own.cell (DS.u HD2.out:Own wr bu dC) (i:=jj+n) iC
          have hfu:=Own.frozen (DS.u HD2.out:Own wr bu dC) (i:=jj+n) iC
          have hx:=q04 (DS.u HD2.out:Own wr bu dC).1 (jj+n)
          obtain⟨t0,tt,rr,d',q1,q2,q3,q4,q5,q6,q7⟩:=q5y c d _ hc hd hx
          have gG:=AW.fin zi.out kH.out vM.out mQ.out (r:=rr) (d':=d') (by rw[← dw.out];exact q7)
          rw[← dw.out] at gG
          have HD3:Hid (DS w (wr.setCell ⟨bu,jj+n,none⟩ (.int .u32 (rr:Int))) bu bq bv ov (dC.set (jj+n) rr) qs vl):=DS.setU HD2.out (jj+n) rr iC q6
          have hxi:(dC.getD (jj+n) 0:Int)≤4294967295:=by omega
          obtain⟨hf1,hf2,hf3⟩:=gG
          have HA1:Hid _:=hf1
          have mO:Hid _:=hf2
          have zl:Hid _:=hf3
          generalize dC.getD (jj+n) 0=x at *
          have jK:Hid _:=q7
          have hqj:jj<qs.length:=by rw[vB.out];omega
          have hgw:IntKind.u32.wrap (gt:Int)=gt:=by rw[IntKind.wrap_u32];omega
          have zm:Hid (gt<2^32):=hgt
          have qK:Hid (d'≤1):=q5
          by_cases hd':d'=0
          ·subst hd'
           have hcq:=Own.cell (DS.q HD3.out) (i:=jj) hqj
           have Jc:=Own.frozen (DS.q HD3.out) (i:=jj) hqj
           have uN:Hid _:=DInv.right jJ.out (by omega) HA1.out HT1.out zl.out
           clear hf1 hf2 hf3 q6 q7 q5 hx hc hd hin hie
           go_wp2_with fail
           go_roundw
           case rel=>exact⟨jj,dC.set (jj+n) rr,qs.set jj gt,by omega,by go_num,DS.setQ HD3.out jj gt hqj zm.out,uN.out⟩
           case measure=>simp [intOf]
          ·obtain rfl:d'=1:=by omega
           have hpos:0<gt:=by
            rcases Nat.eq_zero_or_pos gt with h0|h0
            ·exfalso
             have h1:=zl.out
             rw[h0,Nat.zero_mul,Nat.add_zero,Nat.mul_one] at h1
             have h2:=q4d (DS.u HD3.out).1 mO.out
             rw[h1] at h2
             exact absurd h2 (Nat.not_lt.2 (Nat.le_add_left _ _))
            ·exact h0
           obtain⟨gm,hgm⟩:∃ gm,gt-1=gm:=⟨_,rfl⟩
           have Jd:IntKind.u64.wrap ((gt:Int)-1)=gm:=by rw[IntKind.wrap_u64];omega
           have Dc:IntKind.u32.wrap (gm:Int)=gm:=by rw[IntKind.wrap_u32];omega
           have Je:Hid _:=hgm
           have zn:Hid (gm<2^32):=by show gm<2^32;omega
           have nG:Hid (BK (dC.set (jj+n) rr) (dC.set (jj+n) rr) vl jj n0 0 0):=BK.start (us:=dC.set (jj+n) rr) (vl:=vl) mO.out
           clear hf1 hf2 hf3 q6 q7 q5 hx hc hd hin hie hd' hpos hgm
           go_wp2_with fail
           as_aux_lemma=>
            clear qj hfu q1 q2 q3 q4
            generalize zo:wr.setCell ⟨bu,jj+n,none⟩ (.int .u32 (rr:Int))=w3 at *
            clear zo
            generalize sI:dC.set (jj+n) rr=De at *
            have Jf:Hid _:=sI
            clear sI lC
            go_loopw [22,27] (fun vc vi w4=>∃ (i c:Nat) (dN:List Nat),i≤n∧vi= .int .i64 i∧vc= .int .u64 c∧c≤1∧DS w w4 bu bq bv ov dN qs vl∧BK De dN vl jj n0 i c) (fun _ vi _=>n-(intOf vi).toNat)
            case atStart=>exact⟨0,0,De,Nat.zero_le _,rfl,rfl,by omega,HD3.out,nG.out⟩
            case round=>
             obtain⟨i,c,dN,hi,rfl,rfl,hc,hds,hbk⟩:=hrel
             have HD4:Hid (DS w wr bu bq bv ov dN qs vl):=hds
             have zq:Hid _:=hbk
             have hl4:dN.length=j+2:=hbk.1.trans (HA1.out.trans kV.out)
             clear hds hbk nG
             have hci:(c:Int)≤1:=by omega
             have hib:(i:Int)≤300002:=by omega
             by_cases hin:i<n
             ·as_aux_lemma=>
               have lC:decide (i<n)=true:=by simp;omega
               have hcv:=DS.cv (vl:=vl) HD4.out (i:=i) (by rw[kH.out];have:=dw.out;omega)
               have fH:i+jj<dN.length:=by have h1:=lu.out;omega
               have qj:=Own.cell (DS.u HD4.out:Own wr bu dN) (i:=i+jj) fH
               have hfu:=Own.frozen (DS.u HD4.out:Own wr bu dN) (i:=i+jj) fH
               have hy:=q04 z8.out i
               have hx:=q04 (DS.u HD4.out:Own wr bu dN).1 (i+jj)
               obtain⟨lD,c',q1,q2,q3,q4,q5⟩:=q9A c _ _ hc hx hy
               have HST:Hid _:=BK.step zq.out (by have:=dw.out;omega) (by rw[HA1.out];exact mQ.out) q5
               have Jg:Hid (c'≤1):=q3
               have Jh:Hid (lD<2^32):=q4
               generalize vl.getD i 0=y at *
               generalize dN.getD (i+jj) 0=x at *
               have hyi:(y:Int)≤4294967295:=by omega
               have hxi:(x:Int)≤4294967295:=by omega
               have zk:i+jj<j+2:=by omega
               have hin1:i+1≤n:=hin
               have wS:Hid (i+jj<dN.length):=fH
               have sJ:bu<wr.heap.size:=(DS.u HD4.out:Own wr bu dN).2.1
               have Ji:bv<wr.heap.size:=by omega
               clear q3 q4 q5 hx hy hc hin fH
               go_wp2_with fail
               refine q0d (by kernel_rfl) (by kernel_rfl) ?_
               intro W hW
               have qh:=q07 (w:=W) (a:=⟨bu,i+jj,none⟩) (x:= .int .u32 (x:Int)) (by rw[hW];first|(simp;done)|(simp;omega)|omega) (by rw[hW];first|assumption|(simp [go_sem];done)|(simp [*,go_sem];done))
               have qI:=q07 (w:=W) (a:=⟨bv,ov+i,none⟩) (x:= .int .u32 (y:Int)) (by rw[hW];first|(simp;done)|(simp;omega)|omega) (by rw[hW];first|assumption|(simp [go_sem];done)|(simp [*,go_sem];done))
               clear hW
               repeat (go_big_quiet_step (fail))
               refine wpQuiet_nil ?_
               clear qh qI
               intro Jj lF
               have HD5:Hid (DS w Jj bu bq bv ov dN qs vl):=DS.grow HD4.out lF
               have Jk:=lF.cell sJ qj
               have Jl:=lF.frozen sJ hfu
               clear qj hfu hcv lF
               go_wp2_with fail
               go_roundw
               case rel=>exact⟨i+1,c',dN.set (i+jj) lD,hin1,by go_num,rfl,Jg.out,DS.setU HD5.out (i+jj) lD wS.out Jh.out,HST.out⟩
               case measure=>simp only[intOf];omega
             ·as_aux_lemma=>
               have lC:decide (i<n)=false:=by simp;omega
               have hie:i=n0+2:=by have:=dw.out;omega
               rw[hie] at zq
               have iC:jj+n<dN.length:=by have h1:=lu.out;omega
               have qj:=Own.cell (DS.u HD4.out:Own wr bu dN) (i:=jj+n) iC
               have hfu:=Own.frozen (DS.u HD4.out:Own wr bu dN) (i:=jj+n) iC
               have hx:=q04 (DS.u HD4.out:Own wr bu dN).1 (jj+n)
               obtain⟨lD,kk,q1,q2,q3⟩:=q7K c (dN.getD (jj+n) 0)
               have gG:=BK.fin zq.out kH.out vM.out (by rw[HA1.out];exact mQ.out) (r:=lD) (k:=kk) (by rw[← dw.out];exact q3)
               rw[← dw.out] at gG
               have HD5:Hid (DS w (wr.setCell ⟨bu,jj+n,none⟩ (.int .u32 (lD:Int))) bu bq bv ov (dN.set (jj+n) lD) qs vl):=DS.setU HD4.out (jj+n) lD iC q2
               have hxi:(dN.getD (jj+n) 0:Int)≤4294967295:=by omega
               have sK:b*2^e<2^(32*(n0+2)):=vL.out
               have hDB:=DInv.back jJ.out (by omega) (gG.1.trans HA1.out) HT1.out HT2.out sK (DS.u HD3.out).1 mO.out zl.out (DS.u HD5.out).1 gG.2.1 gG.2.2
               rw[Je.out] at hDB
               have uN:Hid _:=hDB.1
               generalize dN.getD (jj+n) 0=x at *
               have hcq:=Own.cell (DS.q HD5.out) (i:=jj) hqj
               have Jc:=Own.frozen (DS.q HD5.out) (i:=jj) hqj
               have hcw:IntKind.u32.wrap (c:Int)=c:=by rw[IntKind.wrap_u32];omega
               clear gG hDB sK q2 q3 hx hc hin hie
               go_wp2_with fail
               go_roundw
               case rel=>exact⟨jj,dN.set (jj+n) lD,qs.set jj gm,by omega,by go_num,DS.setQ HD5.out jj gm hqj zn.out,uN.out⟩
               case measure=>simp [intOf]
     have CZ:decide (q<p)=true:=by simp;omega
     obtain⟨g',hg'⟩:∃ g',g=g'+1:=by
      rcases g with _|g'
      ·rw[Nat.zero_mul] at hpe;omega
      ·exact⟨g',rfl⟩
     have hgm:IntKind.u64.wrap ((g:Int)-1)=g':=by rw[IntKind.wrap_u64];omega
     have Gg:Hid _:=hg'
     have hsum:g'*top+(r+top)=h:=by rw[← CX.out.1,hg',Nat.add_mul];omega
     have zt:Hid _:=hsum
     have HT1:Hid (val us<(g'+1)*(2^(32*jj)*(b*2^e))):=by rw[← Gg.out];exact J9.out g r CX.out.1 (by rw[← qM.out,← qN.out];exact hpq)
     clear CY hpe hqe hpq
    case' pos=>
     rw[show decide (4294967295<g)=true from by simp;omega] at vN
     obtain⟨g',hg'⟩:∃ g',g=g'+1:=⟨g-1,by omega⟩
     have hgm:IntKind.u64.wrap ((g:Int)-1)=g':=by rw[IntKind.wrap_u64];omega
     have Gg:Hid _:=hg'
     have hsum:g'*top+(r+top)=h:=by rw[← CX.out.1,hg',Nat.add_mul];omega
     have zt:Hid _:=hsum
     have HT1:Hid (val us<(g'+1)*(2^(32*jj)*(b*2^e))):=by rw[← Gg.out];exact J8.out g hg
    all_goals as_aux_lemma=>
     by_cases hr:4294967295<r+top
     ·rw[show decide (4294967295<r+top)=true from by simp;omega] at vO
      have hbr:=J7.out g' (r+top) zt.out (by omega)
      have HT2:Hid (g'*(2^(32*jj)*(b*2^e))<val us+2^(32*jj)*(b*2^e)):=hbr.2
      have hgt:g'<4294967296:=hbr.1
      clear hr hg hg' hsum hbr
      go_wp2_with fail
      clear vN vO hgm hc2 hgi
      obtain⟨gt,sH⟩:∃ gt:Nat,gt=g':=⟨g',rfl⟩
      rw[← sH] at HT1 HT2 hgt ⊢
      clear sH
      as_aux_lemma=>
       have Ja:(gt:Int)≤4294967295:=by omega
       go_loopw [22,23,24] (fun vc vd vi w2=>∃ (i c d:Nat) (dC:List Nat),i≤n∧vi= .int .i64 i∧vc= .int .u64 c∧vd= .int .u64 d∧c<4294967296∧d≤1∧DS w w2 bu bq bv ov dC qs vl∧AW us dC vl jj n0 i gt c d) (fun _ _ vi _=>n-(intOf vi).toNat)
       case atStart=>exact⟨0,0,0,us,Nat.zero_le _,rfl,rfl,rfl,by omega,by omega,jy.out,AW.start N9.out⟩
       case round=>
        obtain⟨i,c,d,dC,hi,rfl,rfl,rfl,hc,hd,hds,haw⟩:=hrel
        have HD2:Hid (DS w wr bu bq bv ov dC qs vl):=hds
        have zi:Hid _:=haw
        have hl2:dC.length=j+2:=haw.1.trans kV.out
        clear hds haw jy
        have hci:(c:Int)≤4294967295:=by omega
        have hdi:(d:Int)≤1:=by omega
        have hib:(i:Int)≤300002:=by omega
        by_cases hin:i<n
        ·as_aux_lemma=>
          have lC:decide (i<n)=true:=by simp;omega
          have hcv:=DS.cv (vl:=vl) HD2.out (i:=i) (by rw[kH.out];have:=dw.out;omega)
          have fH:i+jj<dC.length:=by have h1:=lu.out;omega
          have qj:=Own.cell (DS.u HD2.out:Own wr bu dC) (i:=i+jj) fH
          have hfu:=Own.frozen (DS.u HD2.out:Own wr bu dC) (i:=i+jj) fH
          have hy:=q04 z8.out i
          have hx:=q04 (DS.u HD2.out:Own wr bu dC).1 (i+jj)
          obtain⟨p,lo,t0,tt,rr,d',c',q1,q2,q3,q4,q5,q6,q7,q8,q9,D7,D8,D9,Da⟩:=q9x gt c d _ _ hgt hc hd hx hy
          have HST:Hid _:=AW.step zi.out (by have:=dw.out;omega) mQ.out Da
          have dU:Hid (d'≤1):=D7
          have jo:Hid (c'<2^32):=D8
          have iw:Hid (rr<2^32):=D9
          generalize vl.getD i 0=y at *
          generalize dC.getD (i+jj) 0=x at *
          have hyi:(y:Int)≤4294967295:=by omega
          have hxi:(x:Int)≤4294967295:=by omega
          have hpi:(p:Int)≤18446744065119617025:=by omega
          have Jb:(lo:Int)≤4294967295:=by omega
          have zk:i+jj<j+2:=by omega
          have hin1:i+1≤n:=hin
          have Db:n-(i+1)<n-i:=by omega
          have wS:Hid (i+jj<dC.length):=fH
          clear q2 q4 D7 D8 D9 Da hx hy hc hd hin fH
          go_wp2_with fail
          go_roundw
          case rel=>exact⟨i+1,c',d',dC.set (i+jj) rr,hin1,by go_num,rfl,rfl,jo.out,dU.out,DS.setU HD2.out (i+jj) rr wS.out iw.out,HST.out⟩
          case measure=>simp only[intOf];omega
        ·as_aux_lemma=>
          have lC:decide (i<n)=false:=by simp;omega
          have hie:i=n0+2:=by have:=dw.out;omega
          rw[hie] at zi
          have iC:jj+n<dC.length:=by have h1:=lu.out;omega
          have qj:=Own.cell (DS.u HD2.out:Own wr bu dC) (i:=jj+n) iC
          have hfu:=Own.frozen (DS.u HD2.out:Own wr bu dC) (i:=jj+n) iC
          have hx:=q04 (DS.u HD2.out:Own wr bu dC).1 (jj+n)
          obtain⟨t0,tt,rr,d',q1,q2,q3,q4,q5,q6,q7⟩:=q5y c d _ hc hd hx
          have gG:=AW.fin zi.out kH.out vM.out mQ.out (r:=rr) (d':=d') (by rw[← dw.out];exact q7)
          rw[← dw.out] at gG
          have HD3:Hid (DS w (wr.setCell ⟨bu,jj+n,none⟩ (.int .u32 (rr:Int))) bu bq bv ov (dC.set (jj+n) rr) qs vl):=DS.setU HD2.out (jj+n) rr iC q6
          have hxi:(dC.getD (jj+n) 0:Int)≤4294967295:=by omega
          obtain⟨hf1,hf2,hf3⟩:=gG
          have HA1:Hid _:=hf1
          have mO:Hid _:=hf2
          have zl:Hid _:=hf3
          generalize dC.getD (jj+n) 0=x at *
          have jK:Hid _:=q7
          have hqj:jj<qs.length:=by rw[vB.out];omega
          have hgw:IntKind.u32.wrap (gt:Int)=gt:=by rw[IntKind.wrap_u32];omega
          have zm:Hid (gt<2^32):=hgt
          have qK:Hid (d'≤1):=q5
          by_cases hd':d'=0
          ·subst hd'
           have hcq:=Own.cell (DS.q HD3.out) (i:=jj) hqj
           have Jc:=Own.frozen (DS.q HD3.out) (i:=jj) hqj
           have uN:Hid _:=DInv.right jJ.out (by omega) HA1.out HT1.out zl.out
           clear hf1 hf2 hf3 q6 q7 q5 hx hc hd hin hie
           go_wp2_with fail
           go_roundw
           case rel=>exact⟨jj,dC.set (jj+n) rr,qs.set jj gt,by omega,by go_num,DS.setQ HD3.out jj gt hqj zm.out,uN.out⟩
           case measure=>simp [intOf]
          ·obtain rfl:d'=1:=by omega
           have hpos:0<gt:=by
            rcases Nat.eq_zero_or_pos gt with h0|h0
            ·exfalso
             have h1:=zl.out
             rw[h0,Nat.zero_mul,Nat.add_zero,Nat.mul_one] at h1
             have h2:=q4d (DS.u HD3.out).1 mO.out
             rw[h1] at h2
             exact absurd h2 (Nat.not_lt.2 (Nat.le_add_left _ _))
            ·exact h0
           obtain⟨gm,hgm⟩:∃ gm,gt-1=gm:=⟨_,rfl⟩
           have Jd:IntKind.u64.wrap ((gt:Int)-1)=gm:=by rw[IntKind.wrap_u64];omega
           have Dc:IntKind.u32.wrap (gm:Int)=gm:=by rw[IntKind.wrap_u32];omega
           have Je:Hid _:=hgm
           have zn:Hid (gm<2^32):=by show gm<2^32;omega
           have nG:Hid (BK (dC.set (jj+n) rr) (dC.set (jj+n) rr) vl jj n0 0 0):=BK.start (us:=dC.set (jj+n) rr) (vl:=vl) mO.out
           clear hf1 hf2 hf3 q6 q7 q5 hx hc hd hin hie hd' hpos hgm
           go_wp2_with fail
           as_aux_lemma=>
            clear qj hfu q1 q2 q3 q4
            generalize zo:wr.setCell ⟨bu,jj+n,none⟩ (.int .u32 (rr:Int))=w3 at *
            clear zo
            generalize sI:dC.set (jj+n) rr=De at *
            have Jf:Hid _:=sI
            clear sI lC
            go_loopw [22,27] (fun vc vi w4=>∃ (i c:Nat) (dN:List Nat),i≤n∧vi= .int .i64 i∧vc= .int .u64 c∧c≤1∧DS w w4 bu bq bv ov dN qs vl∧BK De dN vl jj n0 i c) (fun _ vi _=>n-(intOf vi).toNat)
            case atStart=>exact⟨0,0,De,Nat.zero_le _,rfl,rfl,by omega,HD3.out,nG.out⟩
            case round=>
             obtain⟨i,c,dN,hi,rfl,rfl,hc,hds,hbk⟩:=hrel
             have HD4:Hid (DS w wr bu bq bv ov dN qs vl):=hds
             have zq:Hid _:=hbk
             have hl4:dN.length=j+2:=hbk.1.trans (HA1.out.trans kV.out)
             clear hds hbk nG
             have hci:(c:Int)≤1:=by omega
             have hib:(i:Int)≤300002:=by omega
             by_cases hin:i<n
             ·as_aux_lemma=>
               have lC:decide (i<n)=true:=by simp;omega
               have hcv:=DS.cv (vl:=vl) HD4.out (i:=i) (by rw[kH.out];have:=dw.out;omega)
               have fH:i+jj<dN.length:=by have h1:=lu.out;omega
               have qj:=Own.cell (DS.u HD4.out:Own wr bu dN) (i:=i+jj) fH
               have hfu:=Own.frozen (DS.u HD4.out:Own wr bu dN) (i:=i+jj) fH
               have hy:=q04 z8.out i
               have hx:=q04 (DS.u HD4.out:Own wr bu dN).1 (i+jj)
               obtain⟨lD,c',q1,q2,q3,q4,q5⟩:=q9A c _ _ hc hx hy
               have HST:Hid _:=BK.step zq.out (by have:=dw.out;omega) (by rw[HA1.out];exact mQ.out) q5
               have Jg:Hid (c'≤1):=q3
               have Jh:Hid (lD<2^32):=q4
               generalize vl.getD i 0=y at *
               generalize dN.getD (i+jj) 0=x at *
               have hyi:(y:Int)≤4294967295:=by omega
               have hxi:(x:Int)≤4294967295:=by omega
               have zk:i+jj<j+2:=by omega
               have hin1:i+1≤n:=hin
               have wS:Hid (i+jj<dN.length):=fH
               have sJ:bu<wr.heap.size:=(DS.u HD4.out:Own wr bu dN).2.1
               have Ji:bv<wr.heap.size:=by omega
               clear q3 q4 q5 hx hy hc hin fH
               go_wp2_with fail
               refine q0d (by kernel_rfl) (by kernel_rfl) ?_
               intro W hW
               have qJ:=q07 (w:=W) (a:=⟨bu,i+jj,none⟩) (x:= .int .u32 (x:Int)) (by rw[hW];first|(simp;done)|(simp;omega)|omega) (by rw[hW];first|assumption|(simp [go_sem];done)|(simp [*,go_sem];done))
               have hq8:=q07 (w:=W) (a:=⟨bv,ov+i,none⟩) (x:= .int .u32 (y:Int)) (by rw[hW];first|(simp;done)|(simp;omega)|omega) (by rw[hW];first|assumption|(simp [go_sem];done)|(simp [*,go_sem];done))
               clear hW
               repeat (go_big_quiet_step (fail))
               refine wpQuiet_nil ?_
               clear qJ hq8
               intro Jj lF
               have HD5:Hid (DS w Jj bu bq bv ov dN qs vl):=DS.grow HD4.out lF
               have Jk:=lF.cell sJ qj
               have Jl:=lF.frozen sJ hfu
               clear qj hfu hcv lF
               go_wp2_with fail
               go_roundw
               case rel=>exact⟨i+1,c',dN.set (i+jj) lD,hin1,by go_num,rfl,Jg.out,DS.setU HD5.out (i+jj) lD wS.out Jh.out,HST.out⟩
               case measure=>simp only[intOf];omega
             ·as_aux_lemma=>
               have lC:decide (i<n)=false:=by simp;omega
               have hie:i=n0+2:=by have:=dw.out;omega
               rw[hie] at zq
               have iC:jj+n<dN.length:=by have h1:=lu.out;omega
               have qj:=Own.cell (DS.u HD4.out:Own wr bu dN) (i:=jj+n) iC
               have hfu:=Own.frozen (DS.u HD4.out:Own wr bu dN) (i:=jj+n) iC
               have hx:=q04 (DS.u HD4.out:Own wr bu dN).1 (jj+n)
               obtain⟨lD,kk,q1,q2,q3⟩:=q7K c (dN.getD (jj+n) 0)
               have gG:=BK.fin zq.out kH.out vM.out (by rw[HA1.out];exact mQ.out) (r:=lD) (k:=kk) (by rw[← dw.out];exact q3)
               rw[← dw.out] at gG
               have HD5:Hid (DS w (wr.setCell ⟨bu,jj+n,none⟩ (.int .u32 (lD:Int))) bu bq bv ov (dN.set (jj+n) lD) qs vl):=DS.setU HD4.out (jj+n) lD iC q2
               have hxi:(dN.getD (jj+n) 0:Int)≤4294967295:=by omega
               have sK:b*2^e<2^(32*(n0+2)):=vL.out
               have hDB:=DInv.back jJ.out (by omega) (gG.1.trans HA1.out) HT1.out HT2.out sK (DS.u HD3.out).1 mO.out zl.out (DS.u HD5.out).1 gG.2.1 gG.2.2
               rw[Je.out] at hDB
               have uN:Hid _:=hDB.1
               generalize dN.getD (jj+n) 0=x at *
               have hcq:=Own.cell (DS.q HD5.out) (i:=jj) hqj
               have Jc:=Own.frozen (DS.q HD5.out) (i:=jj) hqj
               have hcw:IntKind.u32.wrap (c:Int)=c:=by rw[IntKind.wrap_u32];omega
               clear gG hDB sK q2 q3 hx hc hin hie
               go_wp2_with fail
               go_roundw
               case rel=>exact⟨jj,dN.set (jj+n) lD,qs.set jj gm,by omega,by go_num,DS.setQ HD5.out jj gm hqj zn.out,uN.out⟩
               case measure=>simp [intOf]
     ·rw[show decide (4294967295<r+top)=false from by simp;omega] at vO
      have hrn:r+top<4294967296:=by omega
      have hgn:g'≤4294967297:=by omega
      clear hr hg hg' hsum
      go_wp2_with fail
      go_roundw
      case rel=>exact⟨g',r+top,rfl,by go_num,hgn,hrn,⟨zt.out,HT1.out⟩,jy.out⟩
      case measure=>have:=Gg.out;simp only[intOf];omega
