/- What is proved here: contracts of the reference's big numbers: div, word by word from above, over this seat's translation. -/
import Derived.Test.YtemmkninoiclfaaGreatDoorC6
namespace Go.Proofs.YtemmkninoiclfaaGreatDoor
open Go.ChangeShapes Go.WideShapes Go.ChangeAt Go.RowKit
open BN
/-- A call hands back the canonical slices of two numbers. -/
def q2l (w:World) (x y:Nat) (e:Ending) (w':World):Prop:=∃ v u,e= .returned (.tuple #[v,u])∧G w w'∧Num w' v x∧Num w' u y
/-- A slice of n words whose number has its highest bit. -/
theorem qau {w:World} {v:Value} {V n0:Nat} (h:Num w v V) (h1:2^(32*(n0+1)+31)≤V) (h2:V<2^(32*(n0+1+1))):
  ∃ (b o c:Nat) (l:List Nat),v= .slice (some ⟨b,o,none⟩) (n0+2:Nat) c∧n0+2≤c∧b<w.heap.size∧okw l∧l.length=n0+2∧val l=V∧Row w b o l∧2^31≤l.getD (n0+1) 0:=by
 obtain⟨l,hl,hc,rfl⟩:=h
 have h3:=q05 hc h2
 have h4:=q0u hc.1
 have h5:2^(32*(n0+1))<2^(32*l.length):=Nat.lt_of_le_of_lt (Nat.le_trans (Nat.pow_le_pow_right (by omega) (by omega)) h1) h4
 have h6:=(Nat.pow_lt_pow_iff_right (by omega:1<2)).1 h5
 have h7:l.length=n0+2:=by omega
 rcases Sl.cases hl with ⟨rfl,-⟩|⟨-,b,o,c,rfl,hcc,hb,hr⟩
 ·simp at h7
 ·refine⟨b,o,c,l,by rw[h7],by omega,hb,hc.1,h7,rfl,hr,?_⟩
  have h8:=q0s (l:=l) (k:=n0+1) (by omega)
  rw[List.drop_eq_nil_of_le (by omega)] at h8
  simp only[val,Nat.mul_zero,Nat.add_zero] at h8
  have h9:=q0t hc.1 (n0+1) (by omega)
  rw[Nat.pow_add] at h1
  rcases Nat.lt_or_ge (l.getD (n0+1) 0) (2^31) with h|h
  ·exfalso
   have:2^(32*(n0+1))*(l.getD (n0+1) 0+1)≤2^(32*(n0+1))*2^31:=Nat.mul_le_mul_left _ h
   rw[Nat.mul_add,Nat.mul_one] at this
   omega
  ·exact h
theorem qaT {w:World} {v:Value} {V:Nat} (h:Num w v V) (h0:V≠0) (k:Nat) (hk:V<2^(32*k)):
  ∃ (b o c:Nat) (l:List Nat),v= .slice (some ⟨b,o,none⟩) l.length c∧l.length≤c∧b<w.heap.size∧okw l∧l.length≤k∧val l=V∧Row w b o l:=by
 obtain⟨l,hl,hc,rfl⟩:=h
 rcases Sl.cases hl with ⟨rfl,-⟩|⟨-,b,o,c,rfl,hcc,hb,hr⟩
 ·exact absurd rfl h0
 ·exact⟨b,o,c,l,rfl,hcc,hb,hc.1,q05 hc hk,rfl,hr⟩
theorem q2D {w:World} {b o:Nat} {l:List Nat} (h:Row w b o l):∀ j v,(l.map fun d=>Value.int .u32 (d:Nat))[j]? =some v→w.cell? ((⟨b,o,none⟩:Addr).add j)=some v:=by
 intro j u hj
 rw[List.getElem?_map] at hj
 obtain⟨d,hd,rfl⟩:=Option.map_eq_some_iff.1 hj
 have:=h j (List.getElem?_eq_some_iff.1 hd).1
 rw[List.getD_eq_getElem?_getD,hd] at this
 rw[addr_add]
 exact this
theorem q2K (l:List Nat):∀ u∈(l.map fun d=>Value.int .u32 (d:Nat)),u.oneCell'=true:=by
 intro u hu
 obtain⟨d,-,rfl⟩:=List.mem_map.1 hu
 rfl
theorem Row.setCells {b o c:Nat} {l:List Nat} (hb:b≠c):∀ (cs:List Value) (w:World) (i:Nat),Row w b o l→Row (w.setCells c i cs) b o l
 |[],_,_,h=>h
 |v::cs,_,i,h=>Row.setCells hb cs _ _ (h.set (i:=i) (u:=v) hb)
set_option maxRecDepth 10000 in
set_option maxHeartbeats 8000000 in
theorem q85 (w:World) (va vb:Value) (a b K:Nat) (hK:K≤300000) (ha:Num w va a) (hb:Num w vb b) (ha2:a<2^(32*K)) (iN:b≤a) (hbig:2^64≤a) (hb2:2^32≤b):
  Calls Tryz.prog 175 #[va,vb] w (q2l w (a/b) (a%b)):=by
 have hA':=ha
 have hB':=hb
 obtain⟨l,hl,hcl,hvl⟩:=ha
 obtain⟨m,hm,hcm,jk⟩:=hb
 have hll:=q05 hcl (hvl▸ha2)
 have hl2:2<l.length:=by
  rcases Nat.lt_or_ge 2 l.length with h|h
  ·exact h
  ·have h1:=q0u hcl.1
   have h2:2^(32*l.length)≤2^64:=Nat.pow_le_pow_right (by omega) (by omega)
   omega
 have hm2:1<m.length:=by
  rcases Nat.lt_or_ge 1 m.length with h|h
  ·exact h
  ·have h1:=q0u hcm.1
   have h2:2^(32*m.length)≤2^32:=Nat.pow_le_pow_right (by omega) (by omega)
   omega
 have rH:m.length≤l.length:=by
  rcases Nat.lt_or_ge l.length m.length with h|h
  ·have:=q0I hcl hcm h;omega
  ·exact h
 obtain⟨n0,hn0⟩:∃ n0,m.length=n0+2:=⟨m.length-2,by omega⟩
 obtain⟨k,hk1,hk2,hkb,hV1,hV2⟩:=q3f hcm (n:=n0+1) (by omega)
 obtain⟨pa,ca,rfl,eX,hra⟩:=q0m hl
 obtain⟨pb,cb,rfl,hcb,hrb⟩:=q0m hm
 have jQ:Hid _:=q2I w _ _ a b K (by omega) hA' hB' ha2 (by omega)
 have HLen:Hid (∀ w1,G w w1→_):=fun w1 g=>q45 w1 _ b K (by omega) (hB'.G g) (by omega)
 have GR:Hid (∀ w1,G w w1→_):=fun w1 g=>q25 w1 _ b (32-k) K (by omega) (by omega) (hB'.G g) (by omega)
 have GU:Hid (∀ w1,G w w1→_):=fun w1 g=>q25 w1 _ a (32-k) K (by omega) (by omega) (hA'.G g) ha2
 rw[jk] at hkb hV1 hV2
 have hc:decide (cmpV a b<0)=false:=by rw[decide_eq_false_iff_not];unfold cmpV;rw[if_neg (by omega)];split<;>omega
 generalize cmpV a b=cv at *
 generalize hjl:l.length=j at *
 generalize hjn:m.length=n at *
 rw[hkb] at HLen
 have HA:Hid _:=hra
 have HB:Hid _:=hrb
 have HJ:Hid _:=hjl
 have Dv:Hid _:=hcl
 have HCM:Hid _:=hcm
 have lI:Hid _:=hvl
 have PZ:Hid _:=jk
 have dM:Hid _:=hn0
 have Us:Hid _:=hjn
 have Q4:(2:Int)≤n:=by omega
 have Nv:Hid _:=iN
 have HA2:Hid _:=ha2
 have Dr:Hid _:=hA'
 have vX:Hid _:=hB'
 have t1:decide ((j:Int)≤2)=false:=by simp;omega
 have t2:((n:Int)==0)=false:=by simp;omega
 have t3:((n:Int)==1)=false:=by simp;omega
 have hjb:(j:Int)≤300000:=by omega
 have hnb:(n:Int)≤j:=by omega
 have Jn:(1:Int)≤k:=by omega
 have hkb2:(k:Int)≤32:=by omega
 obtain⟨mm,hmm⟩:∃ mm,j+1=n+mm:=⟨j+1-n,by omega⟩
 have hm1:(j:Int)+2-n-1=mm:=by omega
 have Q5:(1:Int)≤mm:=by omega
 have Q6:(mm:Int)≤300000:=by omega
 have Jo:=q1c (j+2) (by omega)
 rw[show ((j+2:Nat):Int)=(j:Int)+2 from by omega] at Jo
 have Ab:=q1c (mm+1) (by omega)
 rw[show ((mm+1:Nat):Int)=(mm:Int)+1 from by omega] at Ab
 have Dw:Hid _:=hmm
 obtain⟨e,he⟩:∃ e:Nat,e=32-k:=⟨_,rfl⟩
 rw[← he] at GU GR hV1 hV2
 have hs:32-((((32*(n0+1)+k:Nat):Int)-1)%32)-1=e:=by omega
 have Ut:(e:Int)≤31:=by omega
 have GJ:((32*(n0+1)+k:Nat):Int)≤20000000:=by omega
 have Q7:(1:Int)≤((32*(n0+1)+k:Nat):Int):=by omega
 generalize 32*(n0+1)+k=L at *
 have qN:Hid _:=hV1
 have wU:Hid _:=hV2
 have hae:a*2^e≠0:=by have:=Nat.two_pow_pos e;have:0<a:=by omega
                      exact Nat.pos_iff_ne_zero.1 (Nat.mul_pos this (by assumption))
 have haj:a*2^e<2^(32*(j+1)):=by
  have h1:=q0u hcl.1
  rw[hvl,hjl] at h1
  have h2:a*2^e<2^(32*j)*2^e:=Nat.mul_lt_mul_of_pos_right h1 (Nat.two_pow_pos _)
  have h3:2^(32*j)*2^e≤2^(32*(j+1)):=by rw[← Nat.pow_add];exact Nat.pow_le_pow_right (by omega) (by omega)
  omega
 have lh:Hid _:=hae
 have HB0:Hid (0<b):=Nat.lt_of_lt_of_le (by omega) hb2
 have Nw:Hid _:=haj
 have Jp:Hid (a*2^e<2^(32*(n0+1+(mm+1)))):=by
  have h1:j+1=n0+1+(mm+1):=by omega
  rw[h1] at haj;exact haj
 clear hae haj
 clear hV1 hV2 hra hrb hjl hcl hcm hvl jk hn0 hjn iN ha2 hA' hB' hl hm hkb hK hbig hb2 hll hl2 hm2 rH hk1 hk2 hmm he Jn hkb2
 clear Dv HCM lI PZ Dr vX
 go_enter Tryz.func175,Tryz.ntmps175
 go_wp2_with fail
 refine Calls.mono (P:=Tryz.prog) jQ.out ?_
 rintro e1 w1 ⟨rfl,hg1⟩
 go_wp2_with fail
 refine Calls.mono (P:=Tryz.prog) (HLen.out w1 hg1) ?_
 rintro e1 w2 ⟨rfl,hg2⟩
 have hG2:=G.trans hg1 hg2
 go_wp2_with fail
 refine Calls.mono (P:=Tryz.prog) (GR.out w2 hG2) ?_
 rintro e1 w3 ⟨v1,rfl,hg3,ji⟩
 obtain⟨bv,ov,Uu,vl,rfl,Q8,hvb,Ny,yo,hvv,vZ,yu⟩:=qau ji qN.out wU.out
 rw[← dM.out] at Q8
 rw[← dM.out]
 have hG3:=G.trans hG2 hg3
 have Nz:Hid _:=vZ
 have Ac:Hid _:=Ny
 have lI:Hid _:=yo
 have wV:Hid _:=hvv
 have GV:Hid _:=yu
 clear vZ Ny yo hvv yu ji hg1 hg2 hg3 hG2
 go_wp2_with fail
 have hgm:G w3 (w3.alloc (.cells (madeCells #[.int .u32 0] (j+2)) 187)):=(G.refl _).alloc _
 have yw:Hid _:=q0B w3 (j+2) 187
 have hle:w.heap.size≤w3.heap.size:=hG3.size
 refine Calls.mono (P:=Tryz.prog) (GU.out _ (G.trans hG3 hgm)) ?_
 rintro e1 w4 ⟨v2,rfl,hg4,vT⟩
 have uB:Hid (Own w4 w3.heap.size (List.replicate (j+2) 0)):=Own.grow yw.out hg4
 have hG4:G w w4:=G.trans (G.trans hG3 hgm) hg4
 have Dx:Hid (Row w4 bv ov vl):=Row.G (l:=vl) Nz.out hvb (G.trans hgm hg4)
 clear hgm hg4 yw hG3
 generalize w3.heap.size=bu at *
 obtain⟨bl,ol,cl,la,rfl,hlc,hlb,hlo,hlj,hlv,hlr⟩:=qaT vT (lh.out) (j+1) Nw.out
 obtain⟨cs,hcs⟩:∃ cs,cs=la.map (fun d=>Value.int .u32 (d:Nat)):=⟨_,rfl⟩
 have hcl:cs.length=la.length:=by rw[hcs,List.length_map]
 have hsrc:=q2D hlr
 have h1c:=q2K la
 rw[← hcs] at hsrc h1c
 have GY:Hid _:=Own.cells (o:=0) uB.out hlo (by simp;omega)
 rw[← hcs] at GY
 have hccell:∀ i,i<cs.length→(w4.cell? ⟨bu,0+i,none⟩).isSome=true:=fun i hi=>by
  rw[Nat.zero_add,Own.cell (l:=List.replicate (j+2) 0) uB.out (by simp;omega)];rfl
 have yz:∀ i,i<cs.length→w4.frozen? ⟨bu,0+i,none⟩=false:=fun i hi=>by
  rw[Nat.zero_add];exact Own.frozen (l:=List.replicate (j+2) 0) uB.out (by simp;omega)
 have hmin:cs.length=Nat.min la.length (j+2):=by rw[hcl];exact(Nat.min_eq_left (by omega)).symm
 have hval:val ((List.replicate (j+2) 0).take 0++(la++(List.replicate (j+2) 0).drop (0+la.length)))=a*2^e:=by
  rw[List.take_zero,List.nil_append,val_append,List.drop_replicate,q1S,hlv];simp
 have hlen:((List.replicate (j+2) 0).take 0++(la++(List.replicate (j+2) 0).drop (0+la.length))).length=j+2:=by simp;omega
 generalize (List.replicate (j+2) 0).take 0++(la++(List.replicate (j+2) 0).drop (0+la.length))=us at *
 have hrun:=run_copy_cells (P:=Tryz.prog) w4 36 36 3 187 bu 0 (j+2) (j+2) ⟨bl,ol,none⟩ la.length cl cs Tryz.underlying36 (by kernel_rfl) hmin hsrc hccell yz h1c
 have bL:G w (w4.setCells bu 0 cs):=G.setCells hle cs _ _ hG4
 have Dy:Hid (Row (w4.setCells bu 0 cs) bv ov vl):=Row.setCells (by omega) cs _ _ Dx.out
 generalize o9:w4.setCells bu 0 cs=w5 at *
 have NA:Hid _:=hval
 have ma:Hid _:=hlen
 clear vT hlc hlb hlo hlj hlv hlr hcs hcl hsrc h1c hccell yz hmin hval hlen hG4 Dx uB Nz Nw lh o9
 go_wp2_with fail
 have yA:Hid _:=q0B w5 (mm+1) 187
 have GZ:G w5 (w5.alloc (.cells (madeCells #[.int .u32 0] (mm+1)) 187)):=(G.refl _).alloc _
 have Ad:bu<w5.heap.size:=(GY.out:Own w5 bu us).2.1
 have jW:Hid (DS w _ bu w5.heap.size bv ov us (List.replicate (mm+1) 0) vl):=DS.mk (G.trans bL GZ) hle hvb Ad (Own.grow GY.out GZ) yA.out (Row.G (l:=vl) Dy.out (by omega) GZ)
 generalize w5.heap.size=bq at *
 have hsz:bq<(w5.alloc (.cells (madeCells #[.int .u32 0] (mm+1)) 187)).heap.size:=(jW.out:DS w _ bu bq bv ov us (List.replicate (mm+1) 0) vl).q.2.1
 generalize w5.alloc (.cells (madeCells #[.int .u32 0] (mm+1)) 187)=w6 at *
 have Q9:bu<bq:=Ad
 clear yA GZ GY Dy bL Ad
 obtain⟨p1,hp1⟩:∃ p1,p1=n0+1:=⟨_,rfl⟩
 have hn1:(n:Int)-1=p1:=by have:=dM.out;omega
 have hn2:(n:Int)-2=n0:=by have:=dM.out;omega
 have jD:Hid _:=hp1
 have hct:w6.cell? ⟨bv,ov+p1,none⟩=some (.int .u32 (vl.getD p1 0:Nat)):=DS.cv (vl:=vl) jW.out (by rw[lI.out,hp1];omega)
 have hcn:w6.cell? ⟨bv,ov+n0,none⟩=some (.int .u32 (vl.getD n0 0:Nat)):=DS.cv (vl:=vl) jW.out (by rw[lI.out];omega)
 have hto:vl.getD p1 0<2^32:=q04 Ac.out p1
 have hno:vl.getD n0 0<2^32:=q04 Ac.out n0
 have dN:2^31≤vl.getD p1 0:=by rw[hp1];exact GV.out
 have NB:Hid (∀ us jj,okw us→jj+n0+2<us.length→val us<2^(32*(jj+1))*(b*2^e)→_):=fun us jj h1 h2 h3=>q5v h1 Ac.out lI.out wV.out h2 h3
 clear GV
 rw[← hp1] at NB
 have hpn:p1<n:=by have:=dM.out;omega
 have Qa:n0<n:=by have:=dM.out;omega
 clear hp1
 generalize htop:vl.getD p1 0=top at *
 generalize hnext:vl.getD n0 0=next at *
 clear htop hnext
 have htop:(2147483648:Int)≤top:=by omega
 have NC:(top:Int)≤4294967295:=by omega
 have Jq:(next:Int)≤4294967295:=by omega
 have ND:((top:Int)==0)=false:=by simp;omega
 clear hto hno dN
 have ic:bv<w6.heap.size:=by omega
 refine q0d (by kernel_rfl) (by kernel_rfl) ?_
 intro W hW
 have hq1:=q07 (w:=W) (a:=⟨bv,ov+p1,none⟩) (x:= .int .u32 (top:Int)) (by rw[hW];first|(simp;done)|(simp;omega)|omega) (by rw[hW];first|assumption|(simp [go_sem];done)|(simp [*,go_sem];done))
 have hq2:=q07 (w:=W) (a:=⟨bv,ov+n0,none⟩) (x:= .int .u32 (next:Int)) (by rw[hW];first|(simp;done)|(simp;omega)|omega) (by rw[hW];first|assumption|(simp [go_sem];done)|(simp [*,go_sem];done))
 clear hW
 repeat (go_big_quiet_step (fail))
 refine wpQuiet_nil ?_
 clear hq1 hq2
 intro w7 hw7
 have HD7:Hid (DS w w7 bu bq bv ov us (List.replicate (mm+1) 0) vl):=DS.grow jW.out hw7
 have HIS:Hid _:=DInv.start (n0:=n0) (M:=mm+1) ma.out NA.out Jp.out qN.out
 clear hct hcn jW hw7 hsz ic
 go_wp2_with fail
 go_loopw [18] (fun vj wr=>∃ (t:Nat) (us qs:List Nat),t≤mm+1∧vj= .int .i64 ((t:Int)-1)∧DS w wr bu bq bv ov us qs vl∧DInv us qs t (j+2) (mm+1) (b*2^e) (a*2^e)) (fun vj _=>(intOf vj+1).toNat)
 case atStart=>exact⟨mm+1,us,_,Nat.le_refl _,by congr 1;omega,HD7.out,HIS.out⟩
 case round=>
  obtain⟨t,us,qs,ht,rfl,hds,hinv⟩:=hrel
  have jW:Hid _:=hds
  have kN:Hid _:=hinv
  clear hds hinv HD7 HIS ma NA
  cases t with
  |zero=>
   as_aux_lemma=>
    have hfin:=DInv.fin kN.out (Nat.two_pow_pos e) HB0.out
    obtain⟨hq2,hr2⟩:=hfin
    have Qb:Hid (∀ w1,G wr w1→Calls Tryz.prog 176 #[.slice (some ⟨bq,0,none⟩) (mm+1) (mm+1)] w1 (q0e w1 (a/b))):=fun w1 g=>by
     rw[← hq2];exact q0F (Own.grow (DS.q jW.out) g) kN.out.2.1 (by omega)
    have Qc:Hid (∀ w1,G wr w1→Calls Tryz.prog 176 #[.slice (some ⟨bu,0,none⟩) (j+2) (j+2)] w1 (q0e w1 (val us))):=fun w1 g=>q0F (Own.grow (DS.u jW.out) g) kN.out.1 (by omega)
    have oM:Hid (∀ w1 v,Num w1 v (val us)→Calls Tryz.prog 173 #[v,.int .u64 (e:Int)] w1 (q0e w1 (a%b))):=fun w1 v hn=>by
     rw[← hr2]
     exact q1e w1 v (val us) e (j+2) (by omega) (by omega) hn (by have:=q0u (DS.u jW.out:Own wr bu us).1;rwa[kN.out.1] at this)
    have hgw:=jW.out.g
    have C8:Hid _:=hgw
    clear hq2 hr2 hgw GU GR HLen jQ HA HB
    go_wp2_with fail
    refine Calls.mono (P:=Tryz.prog) (Qb.out wr (G.refl _)) ?_
    rintro e1 w1 ⟨v1,rfl,hg1,hn1⟩
    go_wp2_with fail
    refine Calls.mono (P:=Tryz.prog) (Qc.out w1 hg1) ?_
    rintro e1 w2 ⟨v2,rfl,hg2,hn2⟩
    go_wp2_with fail
    refine Calls.mono (P:=Tryz.prog) (oM.out w2 v2 hn2) ?_
    rintro e1 w3 ⟨v3,rfl,hg3,ji⟩
    go_wp2_with fail
    go_ret2
    exact⟨_,_,rfl,G.trans C8.out (G.trans hg1 (G.trans hg2 hg3)),hn1.G (G.trans hg2 hg3),ji⟩
  |succ jj=>
   have qO:us.length=j+2:=kN.out.1
   have Dz:qs.length=mm+1:=kN.out.2.1
   have hjm:jj+n0+2<j+2:=by have:=Dw.out;have:=dM.out;omega
   have hJ:(jj:Int)+n-1=((jj+p1:Nat):Int):=by omega
   have hJ2:(jj:Int)+n-2=((jj+n0:Nat):Int):=by omega
   have Qd:(jj:Int)≤300000:=by omega
   have Jr:jj+n<j+2:=by have:=dM.out;omega
   have hjp:jj+p1<j+2:=by omega
   have Qe:jj+n0<j+2:=by omega
   have uC:=(DS.u jW.out:Own wr bu us).1
   have hc0:=Own.cell (DS.u jW.out:Own wr bu us) (i:=jj+n) (by omega)
   have hc1:=Own.cell (DS.u jW.out:Own wr bu us) (i:=jj+p1) (by omega)
   have hc2:=Own.cell (DS.u jW.out:Own wr bu us) (i:=jj+n0) (by omega)
   have hx0:=q04 uC (jj+n)
   have hx1:=q04 uC (jj+p1)
   have hx2:=q04 uC (jj+n0)
   have hF:=NB.out us jj uC (by omega) kN.out.2.2.1
   rw[show jj+n0+2=jj+n from by have:=dM.out;omega,show jj+n0+1=jj+p1 from by have:=jD.out;omega] at hF
   obtain⟨hf1,hf2,hf3,NF,Js,Jt,NG⟩:=hF
   generalize us.getD (jj+n) 0=u0 at *
   generalize us.getD (jj+p1) 0=u1 at *
   generalize hu2:us.getD (jj+n0) 0=u2 at *
   have Ce:Hid _:=hu2
   clear hu2
   obtain⟨h,g0,r0,hw1,hh,hw2,hw3,hg0,DC,hr0,DF⟩:=qav u0 u1 top hx0 hx1 (by omega) hf1
   have hS0:val us<(g0+1)*(2^(32*jj)*(b*2^e)):=by
    rw[hg0]
    refine qbk (u2:=u2) (P:=2^(32*(jj+n0))) (by rw[hh];exact Js) hx2 (Nat.le_trans (Nat.mul_le_mul_right _ (by omega)) Jt) (by omega)
   have Cf:Hid (val us<(g0+1)*(2^(32*jj)*(b*2^e))):=hS0
   have Ae:Hid _:=hf1
   have NH:Hid _:=hf2
   have Af:Hid _:=hf3
   have DJ:Hid _:=NF
   have NJ:Hid _:=Js
   have Ju:Hid _:=Jt
   have NK:Hid _:=NG
   have HH:Hid _:=hh
   have NL:Hid _:=DC
   have Qf:(u0:Int)≤4294967295:=by omega
   have Qg:(u1:Int)≤4294967295:=by omega
   have Qh:(u2:Int)≤4294967295:=by omega
   have Jv:(r0:Int)<top:=by omega
   have Ag:Hid (u1<2^32):=hx1
   have Jw:Hid (u2<2^32):=hx2
   have Jy:Hid (g0≤4294967297):=DF
   have mP:Hid (jj+n<j+2):=Jr
   have ma:Hid _:=qO
   have wM:Hid _:=Dz
   have hbw:bu<wr.heap.size:=(DS.u jW.out:Own wr bu us).2.1
   clear hS0 hf1 hf2 hf3 NF Js Jt NG hh DC hg0 hx0 hx1 hx2 hr0 DF uC hjm
   clear GU GR HLen jQ HA HB
   go_wp2_with fail
   refine q0d (by kernel_rfl) (by kernel_rfl) ?_
   intro W hW
   have hq3:=q07 (w:=W) (a:=⟨bu,jj+n,none⟩) (x:= .int .u32 (u0:Int)) (by rw[hW];first|(simp;done)|(simp;omega)|omega) (by rw[hW];first|assumption|(simp [go_sem];done)|(simp [*,go_sem];done))
   have hq4:=q07 (w:=W) (a:=⟨bu,jj+p1,none⟩) (x:= .int .u32 (u1:Int)) (by rw[hW];first|(simp;done)|(simp;omega)|omega) (by rw[hW];first|assumption|(simp [go_sem];done)|(simp [*,go_sem];done))
   clear hW
   repeat (go_big_quiet_step (fail))
   refine wpQuiet_nil ?_
   clear hq3 hq4
   intro w8 hw8
   have bJ:Hid (DS w w8 bu bq bv ov us qs vl):=DS.grow jW.out hw8
   have hc2':=hw8.cell (p:=⟨bu,jj+n0,none⟩) hbw hc2
   clear hc0 hc1 hc2 hw8 jW
   go_wp2_with fail
   refine q0d (by kernel_rfl) (by kernel_rfl) ?_
   intro W hW
   clear hW
   repeat (go_big_quiet_step (fail))
   refine wpQuiet_nil ?_
   intro w9 Jz
   have bQ:Hid (DS w w9 bu bq bv ov us qs vl):=DS.grow bJ.out Jz
   have DK:bu<w8.heap.size:=(DS.u bJ.out:Own w8 bu us).2.1
   have hc2:=Jz.cell (p:=⟨bu,jj+n0,none⟩) DK hc2'
   have JA:(r0:Int)≤4294967295:=by omega
   clear hc2' Jz bJ DK hc2 hbw hw1 hw2
   have hgs0:GS (val us) (2^(32*jj)*(b*2^e)) h top g0 r0:=⟨NL.out,Cf.out⟩
   have DL:Hid _:=hgs0
   have JB:r0<4294967296:=by omega
   clear hgs0
   have HW2:Hid (4294967296*2^(32*(jj+n0))≤2^(32*jj)*(b*2^e)):=Nat.le_trans (Nat.mul_le_mul_right _ (by omega)) Ju.out
   have DN:Hid (∀ g r,g*top+r=h→g<2^32→g*next≤r*2^32+u2→g*(2^(32*jj)*(b*2^e))<val us+2^(32*jj)*(b*2^e)):=fun g r k1 k2 k3=>q75 (h:=h) (by rw[HH.out];exact DJ.out) NK.out HW2.out k1 k2 k3
   have JC:Hid (∀ g r,g*top+r=h→2^32≤r→g<2^32∧g*(2^(32*jj)*(b*2^e))<val us+2^(32*jj)*(b*2^e)):=fun g r k1 k2=>by
    obtain⟨k3,k4⟩:=q7F (u1:=u1) (u2:=u2) (next:=next) (by rw[HH.out];exact Nat.add_le_add_right (Nat.mul_le_mul_right _ Ae.out) _) Ag.out k1 k2 (by omega)
    exact⟨k3,DN.out g r k1 k3 k4⟩
   have JD:Hid (∀ g,4294967295<g→val us<g*(2^(32*jj)*(b*2^e))):=fun g k1=>q5r Af.out (by omega)
   have JE:Hid (∀ g r,g*top+r=h→r*2^32+u2<g*next→val us<g*(2^(32*jj)*(b*2^e))):=fun g r k1 k2=>q6T (P:=2^(32*(jj+n0))) (h:=h) (by rw[HH.out];exact NJ.out) Ju.out k1 k2
   have og:Hid (jj+n0+2<us.length):=by
    have h0:us.length=j+2:=ma.out
    have h1:jj+n<j+2:=mP.out
    have h2:n=n0+2:=dM.out
    show jj+n0+2<us.length
    omega
   have hne1:¬ bu=bq:=by omega
   have hne2:¬ bq=bu:=by omega
   clear HW2 Ae Af DJ NJ Ju NK HH NL Cf
   go_wp2_with fail
   simp only[hw3]
   clear hw3
   go_loopw [20,21] (fun vg vr wr=>∃ g r:Nat,vg= .int .u64 g∧vr= .int .u64 r∧g≤4294967297∧r<4294967296∧GS (val us) (2^(32*jj)*(b*2^e)) h top g r∧DS w wr bu bq bv ov us qs vl) (fun vg _ _=>(intOf vg).toNat)
   case atStart=>exact⟨g0,r0,rfl,rfl,Jy.out,by omega,DL.out,bQ.out⟩
   case round=>
    obtain⟨g,r,rfl,rfl,hgb,hrb,hgs,hds⟩:=hrel
    have DR:Hid _:=hgs
    have jW:Hid _:=hds
    clear hgs hds bQ DL JB Jv JA
    have hc2:wr.cell? ⟨bu,jj+n0,none⟩=some (.int .u32 (us.getD (jj+n0) 0:Nat)):=Own.cell (DS.u jW.out:Own wr bu us) (by have:=ma.out;omega)
    rw[Ce.out] at hc2
    have hgi:(g:Int)≤4294967297:=by omega
    have H7:(r:Int)≤4294967295:=by omega
    have wW:decide ((4294967295:Int)<g)=decide (4294967295<g):=by congr 1;exact propext (by omega)
    have wX:decide ((4294967295:Int)<(r:Int)+top)=decide (4294967295<r+top):=by congr 1;exact propext (by omega)
    by_cases hg:4294967295<g
    case' neg=>
     rw[show decide (4294967295<g)=false from by simp;omega] at wW
     have DT:g*next≤4294967295*4294967295:=Nat.mul_le_mul (by omega) (by omega)
     obtain⟨p,hp,hpi,hpe⟩:∃ p:Nat,(g:Int)*next=p∧(p:Int)≤18446744065119617025∧p=g*next:=⟨g*next,by push_cast;rfl,by omega,rfl⟩
     obtain⟨q,hq,hqe⟩:∃ q:Nat,bits .or .u64 ((r:Int)*4294967296) (u2:Int)=q∧q=r*2^32+u2:=⟨_,q91 r u2 (by omega) Jw.out,rfl⟩
     have sI:Hid _:=hpe
     have sJ:Hid _:=hqe
     by_cases hpq:q<p
     case neg=>
      have DU:decide (q<p)=false:=by simp;omega
      have HT2:Hid (g*(2^(32*jj)*(b*2^e))<val us+2^(32*jj)*(b*2^e)):=DN.out g r DR.out.1 (by omega) (by rw[← sI.out,← sJ.out];omega)
      have HT1:Hid (val us<(g+1)*(2^(32*jj)*(b*2^e))):=DR.out.2
      have hgt:g<4294967296:=by omega
      clear DT hpe hqe hpq wX hg hgi
      go_wp2_with fail
      clear wW hp hq DU hpi hc2
      obtain⟨gt,uD⟩:∃ gt:Nat,gt=g:=⟨g,rfl⟩
      rw[← uD] at HT1 HT2 hgt ⊢
      clear uD
      as_aux_lemma=>
       have JF:(gt:Int)≤4294967295:=by omega
       go_loopw [22,23,24] (fun vc vd vi w2=>∃ (i c d:Nat) (dQ:List Nat),i≤n∧vi= .int .i64 i∧vc= .int .u64 c∧vd= .int .u64 d∧c<4294967296∧d≤1∧DS w w2 bu bq bv ov dQ qs vl∧AW us dQ vl jj n0 i gt c d) (fun _ _ vi _=>n-(intOf vi).toNat)
       case atStart=>exact⟨0,0,0,us,Nat.zero_le _,rfl,rfl,rfl,by omega,by omega,jW.out,AW.start NH.out⟩
       case round=>
        obtain⟨i,c,d,dQ,hi,rfl,rfl,rfl,hc,hd,hds,haw⟩:=hrel
        have HD2:Hid (DS w wr bu bq bv ov dQ qs vl):=hds
        have Ah:Hid _:=haw
        have hl2:dQ.length=j+2:=haw.1.trans ma.out
        clear hds haw jW
        have hci:(c:Int)≤4294967295:=by omega
        have hdi:(d:Int)≤1:=by omega
        have hib:(i:Int)≤300002:=by omega
        by_cases hin:i<n
        ·as_aux_lemma=>
          have mQ:decide (i<n)=true:=by simp;omega
          have hcv:=DS.cv (vl:=vl) HD2.out (i:=i) (by rw[lI.out];have:=dM.out;omega)
          have gD:i+jj<dQ.length:=by have h1:=mP.out;omega
          have rJ:=Own.cell (DS.u HD2.out:Own wr bu dQ) (i:=i+jj) gD
          have hfu:=Own.frozen (DS.u HD2.out:Own wr bu dQ) (i:=i+jj) gD
          have hy:=q04 Ac.out i
          have hx:=q04 (DS.u HD2.out:Own wr bu dQ).1 (i+jj)
          obtain⟨p,lo,t0,tt,rr,d',c',q1,q2,q3,q4,q5,q6,q7,q8,q9,DV,DW,DX,DY⟩:=q9y gt c d _ _ hgt hc hd hx hy
          have HST:Hid _:=AW.step Ah.out (by have:=dM.out;omega) og.out DY
          have fe:Hid (d'≤1):=DV
          have jR:Hid (c'<2^32):=DW
          have iR:Hid (rr<2^32):=DX
          generalize vl.getD i 0=y at *
          generalize dQ.getD (i+jj) 0=x at *
          have hyi:(y:Int)≤4294967295:=by omega
          have hxi:(x:Int)≤4294967295:=by omega
          have hpi:(p:Int)≤18446744065119617025:=by omega
          have JG:(lo:Int)≤4294967295:=by omega
          have Ai:i+jj<j+2:=by omega
          have hin1:i+1≤n:=hin
          have DZ:n-(i+1)<n-i:=by omega
          have yB:Hid (i+jj<dQ.length):=gD
          clear q2 q4 DV DW DX DY hx hy hc hd hin gD
          go_wp2_with fail
          go_roundw
          case rel=>exact⟨i+1,c',d',dQ.set (i+jj) rr,hin1,by go_num,rfl,rfl,jR.out,fe.out,DS.setU HD2.out (i+jj) rr yB.out iR.out,HST.out⟩
          case measure=>simp only[intOf];omega
        ·as_aux_lemma=>
          have mQ:decide (i<n)=false:=by simp;omega
          have hie:i=n0+2:=by have:=dM.out;omega
          rw[hie] at Ah
          have iY:jj+n<dQ.length:=by have h1:=mP.out;omega
          have rJ:=Own.cell (DS.u HD2.out:Own wr bu dQ) (i:=jj+n) iY
          have hfu:=Own.frozen (DS.u HD2.out:Own wr bu dQ) (i:=jj+n) iY
          have hx:=q04 (DS.u HD2.out:Own wr bu dQ).1 (jj+n)
          obtain⟨t0,tt,rr,d',q1,q2,q3,q4,q5,q6,q7⟩:=q5A c d _ hc hd hx
          have ik:=AW.fin Ah.out lI.out wV.out og.out (r:=rr) (d':=d') (by rw[← dM.out];exact q7)
          rw[← dM.out] at ik
          have HD3:Hid (DS w (wr.setCell ⟨bu,jj+n,none⟩ (.int .u32 (rr:Int))) bu bq bv ov (dQ.set (jj+n) rr) qs vl):=DS.setU HD2.out (jj+n) rr iY q6
          have hxi:(dQ.getD (jj+n) 0:Int)≤4294967295:=by omega
          obtain⟨hf1,hf2,hf3⟩:=ik
          have HA1:Hid _:=hf1
          have o6:Hid _:=hf2
          have Aj:Hid _:=hf3
          generalize dQ.getD (jj+n) 0=x at *
          have kP:Hid _:=q7
          have hqj:jj<qs.length:=by rw[wM.out];omega
          have hgw:IntKind.u32.wrap (gt:Int)=gt:=by rw[IntKind.wrap_u32];omega
          have Ak:Hid (gt<2^32):=hgt
          have sG:Hid (d'≤1):=q5
          by_cases hd':d'=0
          ·subst hd'
           have hcq:=Own.cell (DS.q HD3.out) (i:=jj) hqj
           have JH:=Own.frozen (DS.q HD3.out) (i:=jj) hqj
           have wh:Hid _:=DInv.right kN.out (by omega) HA1.out HT1.out Aj.out
           clear hf1 hf2 hf3 q6 q7 q5 hx hc hd hin hie
           go_wp2_with fail
           go_roundw
           case rel=>exact⟨jj,dQ.set (jj+n) rr,qs.set jj gt,by omega,by go_num,DS.setQ HD3.out jj gt hqj Ak.out,wh.out⟩
           case measure=>simp [intOf]
          ·obtain rfl:d'=1:=by omega
           have hpos:0<gt:=by
            rcases Nat.eq_zero_or_pos gt with h0|h0
            ·exfalso
             have h1:=Aj.out
             rw[h0,Nat.zero_mul,Nat.add_zero,Nat.mul_one] at h1
             have h2:=q4f (DS.u HD3.out).1 o6.out
             rw[h1] at h2
             exact absurd h2 (Nat.not_lt.2 (Nat.le_add_left _ _))
            ·exact h0
           obtain⟨gm,hgm⟩:∃ gm,gt-1=gm:=⟨_,rfl⟩
           have JI:IntKind.u64.wrap ((gt:Int)-1)=gm:=by rw[IntKind.wrap_u64];omega
           have E5:IntKind.u32.wrap (gm:Int)=gm:=by rw[IntKind.wrap_u32];omega
           have JJ:Hid _:=hgm
           have Al:Hid (gm<2^32):=by show gm<2^32;omega
           have oN:Hid (BK (dQ.set (jj+n) rr) (dQ.set (jj+n) rr) vl jj n0 0 0):=BK.start (us:=dQ.set (jj+n) rr) (vl:=vl) o6.out
           clear hf1 hf2 hf3 q6 q7 q5 hx hc hd hin hie hd' hpos hgm
           go_wp2_with fail
           as_aux_lemma=>
            clear rJ hfu q1 q2 q3 q4
            generalize Am:wr.setCell ⟨bu,jj+n,none⟩ (.int .u32 (rr:Int))=w3 at *
            clear Am
            generalize uE:dQ.set (jj+n) rr=E8 at *
            have JK:Hid _:=uE
            clear uE mQ
            go_loopw [22,27] (fun vc vi w4=>∃ (i c:Nat) (eO:List Nat),i≤n∧vi= .int .i64 i∧vc= .int .u64 c∧c≤1∧DS w w4 bu bq bv ov eO qs vl∧BK E8 eO vl jj n0 i c) (fun _ vi _=>n-(intOf vi).toNat)
            case atStart=>exact⟨0,0,E8,Nat.zero_le _,rfl,rfl,by omega,HD3.out,oN.out⟩
            case round=>
             obtain⟨i,c,eO,hi,rfl,rfl,hc,hds,hbk⟩:=hrel
             have HD4:Hid (DS w wr bu bq bv ov eO qs vl):=hds
             have Ao:Hid _:=hbk
             have hl4:eO.length=j+2:=hbk.1.trans (HA1.out.trans ma.out)
             clear hds hbk oN
             have hci:(c:Int)≤1:=by omega
             have hib:(i:Int)≤300002:=by omega
             by_cases hin:i<n
             ·as_aux_lemma=>
               have mQ:decide (i<n)=true:=by simp;omega
               have hcv:=DS.cv (vl:=vl) HD4.out (i:=i) (by rw[lI.out];have:=dM.out;omega)
               have gD:i+jj<eO.length:=by have h1:=mP.out;omega
               have rJ:=Own.cell (DS.u HD4.out:Own wr bu eO) (i:=i+jj) gD
               have hfu:=Own.frozen (DS.u HD4.out:Own wr bu eO) (i:=i+jj) gD
               have hy:=q04 Ac.out i
               have hx:=q04 (DS.u HD4.out:Own wr bu eO).1 (i+jj)
               obtain⟨mR,c',q1,q2,q3,q4,q5⟩:=q9A c _ _ hc hx hy
               have HST:Hid _:=BK.step Ao.out (by have:=dM.out;omega) (by rw[HA1.out];exact og.out) q5
               have JL:Hid (c'≤1):=q3
               have JM:Hid (mR<2^32):=q4
               generalize vl.getD i 0=y at *
               generalize eO.getD (i+jj) 0=x at *
               have hyi:(y:Int)≤4294967295:=by omega
               have hxi:(x:Int)≤4294967295:=by omega
               have Ai:i+jj<j+2:=by omega
               have hin1:i+1≤n:=hin
               have yB:Hid (i+jj<eO.length):=gD
               have uF:bu<wr.heap.size:=(DS.u HD4.out:Own wr bu eO).2.1
               have JN:bv<wr.heap.size:=by omega
               clear q3 q4 q5 hx hy hc hin gD
               go_wp2_with fail
               refine q0d (by kernel_rfl) (by kernel_rfl) ?_
               intro W hW
               have rG:=q07 (w:=W) (a:=⟨bu,i+jj,none⟩) (x:= .int .u32 (x:Int)) (by rw[hW];first|(simp;done)|(simp;omega)|omega) (by rw[hW];first|assumption|(simp [go_sem];done)|(simp [*,go_sem];done))
               have sD:=q07 (w:=W) (a:=⟨bv,ov+i,none⟩) (x:= .int .u32 (y:Int)) (by rw[hW];first|(simp;done)|(simp;omega)|omega) (by rw[hW];first|assumption|(simp [go_sem];done)|(simp [*,go_sem];done))
               clear hW
               repeat (go_big_quiet_step (fail))
               refine wpQuiet_nil ?_
               clear rG sD
               intro JO mU
               have HD5:Hid (DS w JO bu bq bv ov eO qs vl):=DS.grow HD4.out mU
               have JP:=mU.cell uF rJ
               have JQ:=mU.frozen uF hfu
               clear rJ hfu hcv mU
               go_wp2_with fail
               go_roundw
               case rel=>exact⟨i+1,c',eO.set (i+jj) mR,hin1,by go_num,rfl,JL.out,DS.setU HD5.out (i+jj) mR yB.out JM.out,HST.out⟩
               case measure=>simp only[intOf];omega
             ·as_aux_lemma=>
               have mQ:decide (i<n)=false:=by simp;omega
               have hie:i=n0+2:=by have:=dM.out;omega
               rw[hie] at Ao
               have iY:jj+n<eO.length:=by have h1:=mP.out;omega
               have rJ:=Own.cell (DS.u HD4.out:Own wr bu eO) (i:=jj+n) iY
               have hfu:=Own.frozen (DS.u HD4.out:Own wr bu eO) (i:=jj+n) iY
               have hx:=q04 (DS.u HD4.out:Own wr bu eO).1 (jj+n)
               obtain⟨mR,kk,q1,q2,q3⟩:=q7K c (eO.getD (jj+n) 0)
               have ik:=BK.fin Ao.out lI.out wV.out (by rw[HA1.out];exact og.out) (r:=mR) (k:=kk) (by rw[← dM.out];exact q3)
               rw[← dM.out] at ik
               have HD5:Hid (DS w (wr.setCell ⟨bu,jj+n,none⟩ (.int .u32 (mR:Int))) bu bq bv ov (eO.set (jj+n) mR) qs vl):=DS.setU HD4.out (jj+n) mR iY q2
               have hxi:(eO.getD (jj+n) 0:Int)≤4294967295:=by omega
               have uG:b*2^e<2^(32*(n0+2)):=wU.out
               have hDB:=DInv.back kN.out (by omega) (ik.1.trans HA1.out) HT1.out HT2.out uG (DS.u HD3.out).1 o6.out Aj.out (DS.u HD5.out).1 ik.2.1 ik.2.2
               rw[JJ.out] at hDB
               have wh:Hid _:=hDB.1
               generalize eO.getD (jj+n) 0=x at *
               have hcq:=Own.cell (DS.q HD5.out) (i:=jj) hqj
               have JH:=Own.frozen (DS.q HD5.out) (i:=jj) hqj
               have hcw:IntKind.u32.wrap (c:Int)=c:=by rw[IntKind.wrap_u32];omega
               clear ik hDB uG q2 q3 hx hc hin hie
               go_wp2_with fail
               go_roundw
               case rel=>exact⟨jj,eO.set (jj+n) mR,qs.set jj gm,by omega,by go_num,DS.setQ HD5.out jj gm hqj Al.out,wh.out⟩
               case measure=>simp [intOf]
     have DU:decide (q<p)=true:=by simp;omega
     obtain⟨g',hg'⟩:∃ g',g=g'+1:=by
      rcases g with _|g'
      ·rw[Nat.zero_mul] at hpe;omega
      ·exact⟨g',rfl⟩
     have hgm:IntKind.u64.wrap ((g:Int)-1)=g':=by rw[IntKind.wrap_u64];omega
     have H8:Hid _:=hg'
     have hsum:g'*top+(r+top)=h:=by rw[← DR.out.1,hg',Nat.add_mul];omega
     have Ap:Hid _:=hsum
     have HT1:Hid (val us<(g'+1)*(2^(32*jj)*(b*2^e))):=by rw[← H8.out];exact JE.out g r DR.out.1 (by rw[← sI.out,← sJ.out];exact hpq)
     clear DT hpe hqe hpq
    case' pos=>
     rw[show decide (4294967295<g)=true from by simp;omega] at wW
     obtain⟨g',hg'⟩:∃ g',g=g'+1:=⟨g-1,by omega⟩
     have hgm:IntKind.u64.wrap ((g:Int)-1)=g':=by rw[IntKind.wrap_u64];omega
     have H8:Hid _:=hg'
     have hsum:g'*top+(r+top)=h:=by rw[← DR.out.1,hg',Nat.add_mul];omega
     have Ap:Hid _:=hsum
     have HT1:Hid (val us<(g'+1)*(2^(32*jj)*(b*2^e))):=by rw[← H8.out];exact JD.out g hg
    all_goals as_aux_lemma=>
     by_cases hr:4294967295<r+top
     ·rw[show decide (4294967295<r+top)=true from by simp;omega] at wX
      have hbr:=JC.out g' (r+top) Ap.out (by omega)
      have HT2:Hid (g'*(2^(32*jj)*(b*2^e))<val us+2^(32*jj)*(b*2^e)):=hbr.2
      have hgt:g'<4294967296:=hbr.1
      clear hr hg hg' hsum hbr
      go_wp2_with fail
      clear wW wX hgm hc2 hgi
      obtain⟨gt,uD⟩:∃ gt:Nat,gt=g':=⟨g',rfl⟩
      rw[← uD] at HT1 HT2 hgt ⊢
      clear uD
      as_aux_lemma=>
       have JF:(gt:Int)≤4294967295:=by omega
       go_loopw [22,23,24] (fun vc vd vi w2=>∃ (i c d:Nat) (dQ:List Nat),i≤n∧vi= .int .i64 i∧vc= .int .u64 c∧vd= .int .u64 d∧c<4294967296∧d≤1∧DS w w2 bu bq bv ov dQ qs vl∧AW us dQ vl jj n0 i gt c d) (fun _ _ vi _=>n-(intOf vi).toNat)
       case atStart=>exact⟨0,0,0,us,Nat.zero_le _,rfl,rfl,rfl,by omega,by omega,jW.out,AW.start NH.out⟩
       case round=>
        obtain⟨i,c,d,dQ,hi,rfl,rfl,rfl,hc,hd,hds,haw⟩:=hrel
        have HD2:Hid (DS w wr bu bq bv ov dQ qs vl):=hds
        have Ah:Hid _:=haw
        have hl2:dQ.length=j+2:=haw.1.trans ma.out
        clear hds haw jW
        have hci:(c:Int)≤4294967295:=by omega
        have hdi:(d:Int)≤1:=by omega
        have hib:(i:Int)≤300002:=by omega
        by_cases hin:i<n
        ·as_aux_lemma=>
          have mQ:decide (i<n)=true:=by simp;omega
          have hcv:=DS.cv (vl:=vl) HD2.out (i:=i) (by rw[lI.out];have:=dM.out;omega)
          have gD:i+jj<dQ.length:=by have h1:=mP.out;omega
          have rJ:=Own.cell (DS.u HD2.out:Own wr bu dQ) (i:=i+jj) gD
          have hfu:=Own.frozen (DS.u HD2.out:Own wr bu dQ) (i:=i+jj) gD
          have hy:=q04 Ac.out i
          have hx:=q04 (DS.u HD2.out:Own wr bu dQ).1 (i+jj)
          obtain⟨p,lo,t0,tt,rr,d',c',q1,q2,q3,q4,q5,q6,q7,q8,q9,DV,DW,DX,DY⟩:=q9y gt c d _ _ hgt hc hd hx hy
          have HST:Hid _:=AW.step Ah.out (by have:=dM.out;omega) og.out DY
          have fe:Hid (d'≤1):=DV
          have jR:Hid (c'<2^32):=DW
          have iR:Hid (rr<2^32):=DX
          generalize vl.getD i 0=y at *
          generalize dQ.getD (i+jj) 0=x at *
          have hyi:(y:Int)≤4294967295:=by omega
          have hxi:(x:Int)≤4294967295:=by omega
          have hpi:(p:Int)≤18446744065119617025:=by omega
          have JG:(lo:Int)≤4294967295:=by omega
          have Ai:i+jj<j+2:=by omega
          have hin1:i+1≤n:=hin
          have DZ:n-(i+1)<n-i:=by omega
          have yB:Hid (i+jj<dQ.length):=gD
          clear q2 q4 DV DW DX DY hx hy hc hd hin gD
          go_wp2_with fail
          go_roundw
          case rel=>exact⟨i+1,c',d',dQ.set (i+jj) rr,hin1,by go_num,rfl,rfl,jR.out,fe.out,DS.setU HD2.out (i+jj) rr yB.out iR.out,HST.out⟩
          case measure=>simp only[intOf];omega
        ·as_aux_lemma=>
          have mQ:decide (i<n)=false:=by simp;omega
          have hie:i=n0+2:=by have:=dM.out;omega
          rw[hie] at Ah
          have iY:jj+n<dQ.length:=by have h1:=mP.out;omega
          have rJ:=Own.cell (DS.u HD2.out:Own wr bu dQ) (i:=jj+n) iY
          have hfu:=Own.frozen (DS.u HD2.out:Own wr bu dQ) (i:=jj+n) iY
          have hx:=q04 (DS.u HD2.out:Own wr bu dQ).1 (jj+n)
          obtain⟨t0,tt,rr,d',q1,q2,q3,q4,q5,q6,q7⟩:=q5A c d _ hc hd hx
          have ik:=AW.fin Ah.out lI.out wV.out og.out (r:=rr) (d':=d') (by rw[← dM.out];exact q7)
          rw[← dM.out] at ik
          have HD3:Hid (DS w (wr.setCell ⟨bu,jj+n,none⟩ (.int .u32 (rr:Int))) bu bq bv ov (dQ.set (jj+n) rr) qs vl):=DS.setU HD2.out (jj+n) rr iY q6
          have hxi:(dQ.getD (jj+n) 0:Int)≤4294967295:=by omega
          obtain⟨hf1,hf2,hf3⟩:=ik
          have HA1:Hid _:=hf1
          have o6:Hid _:=hf2
          have Aj:Hid _:=hf3
          generalize dQ.getD (jj+n) 0=x at *
          have kP:Hid _:=q7
          have hqj:jj<qs.length:=by rw[wM.out];omega
          have hgw:IntKind.u32.wrap (gt:Int)=gt:=by rw[IntKind.wrap_u32];omega
          have Ak:Hid (gt<2^32):=hgt
          have sG:Hid (d'≤1):=q5
          by_cases hd':d'=0
          ·subst hd'
           have hcq:=Own.cell (DS.q HD3.out) (i:=jj) hqj
           have JH:=Own.frozen (DS.q HD3.out) (i:=jj) hqj
           have wh:Hid _:=DInv.right kN.out (by omega) HA1.out HT1.out Aj.out
           clear hf1 hf2 hf3 q6 q7 q5 hx hc hd hin hie
           go_wp2_with fail
           go_roundw
           case rel=>exact⟨jj,dQ.set (jj+n) rr,qs.set jj gt,by omega,by go_num,DS.setQ HD3.out jj gt hqj Ak.out,wh.out⟩
           case measure=>simp [intOf]
          ·obtain rfl:d'=1:=by omega
           have hpos:0<gt:=by
            rcases Nat.eq_zero_or_pos gt with h0|h0
            ·exfalso
             have h1:=Aj.out
             rw[h0,Nat.zero_mul,Nat.add_zero,Nat.mul_one] at h1
             have h2:=q4f (DS.u HD3.out).1 o6.out
             rw[h1] at h2
             exact absurd h2 (Nat.not_lt.2 (Nat.le_add_left _ _))
            ·exact h0
           obtain⟨gm,hgm⟩:∃ gm,gt-1=gm:=⟨_,rfl⟩
           have JI:IntKind.u64.wrap ((gt:Int)-1)=gm:=by rw[IntKind.wrap_u64];omega
           have E5:IntKind.u32.wrap (gm:Int)=gm:=by rw[IntKind.wrap_u32];omega
           have JJ:Hid _:=hgm
           have Al:Hid (gm<2^32):=by show gm<2^32;omega
           have oN:Hid (BK (dQ.set (jj+n) rr) (dQ.set (jj+n) rr) vl jj n0 0 0):=BK.start (us:=dQ.set (jj+n) rr) (vl:=vl) o6.out
           clear hf1 hf2 hf3 q6 q7 q5 hx hc hd hin hie hd' hpos hgm
           go_wp2_with fail
           as_aux_lemma=>
            clear rJ hfu q1 q2 q3 q4
            generalize Am:wr.setCell ⟨bu,jj+n,none⟩ (.int .u32 (rr:Int))=w3 at *
            clear Am
            generalize uE:dQ.set (jj+n) rr=E8 at *
            have JK:Hid _:=uE
            clear uE mQ
            go_loopw [22,27] (fun vc vi w4=>∃ (i c:Nat) (eO:List Nat),i≤n∧vi= .int .i64 i∧vc= .int .u64 c∧c≤1∧DS w w4 bu bq bv ov eO qs vl∧BK E8 eO vl jj n0 i c) (fun _ vi _=>n-(intOf vi).toNat)
            case atStart=>exact⟨0,0,E8,Nat.zero_le _,rfl,rfl,by omega,HD3.out,oN.out⟩
            case round=>
             obtain⟨i,c,eO,hi,rfl,rfl,hc,hds,hbk⟩:=hrel
             have HD4:Hid (DS w wr bu bq bv ov eO qs vl):=hds
             have Ao:Hid _:=hbk
             have hl4:eO.length=j+2:=hbk.1.trans (HA1.out.trans ma.out)
             clear hds hbk oN
             have hci:(c:Int)≤1:=by omega
             have hib:(i:Int)≤300002:=by omega
             by_cases hin:i<n
             ·as_aux_lemma=>
               have mQ:decide (i<n)=true:=by simp;omega
               have hcv:=DS.cv (vl:=vl) HD4.out (i:=i) (by rw[lI.out];have:=dM.out;omega)
               have gD:i+jj<eO.length:=by have h1:=mP.out;omega
               have rJ:=Own.cell (DS.u HD4.out:Own wr bu eO) (i:=i+jj) gD
               have hfu:=Own.frozen (DS.u HD4.out:Own wr bu eO) (i:=i+jj) gD
               have hy:=q04 Ac.out i
               have hx:=q04 (DS.u HD4.out:Own wr bu eO).1 (i+jj)
               obtain⟨mR,c',q1,q2,q3,q4,q5⟩:=q9A c _ _ hc hx hy
               have HST:Hid _:=BK.step Ao.out (by have:=dM.out;omega) (by rw[HA1.out];exact og.out) q5
               have JL:Hid (c'≤1):=q3
               have JM:Hid (mR<2^32):=q4
               generalize vl.getD i 0=y at *
               generalize eO.getD (i+jj) 0=x at *
               have hyi:(y:Int)≤4294967295:=by omega
               have hxi:(x:Int)≤4294967295:=by omega
               have Ai:i+jj<j+2:=by omega
               have hin1:i+1≤n:=hin
               have yB:Hid (i+jj<eO.length):=gD
               have uF:bu<wr.heap.size:=(DS.u HD4.out:Own wr bu eO).2.1
               have JN:bv<wr.heap.size:=by omega
               clear q3 q4 q5 hx hy hc hin gD
               go_wp2_with fail
               refine q0d (by kernel_rfl) (by kernel_rfl) ?_
               intro W hW
               have sF:=q07 (w:=W) (a:=⟨bu,i+jj,none⟩) (x:= .int .u32 (x:Int)) (by rw[hW];first|(simp;done)|(simp;omega)|omega) (by rw[hW];first|assumption|(simp [go_sem];done)|(simp [*,go_sem];done))
               have hq8:=q07 (w:=W) (a:=⟨bv,ov+i,none⟩) (x:= .int .u32 (y:Int)) (by rw[hW];first|(simp;done)|(simp;omega)|omega) (by rw[hW];first|assumption|(simp [go_sem];done)|(simp [*,go_sem];done))
               clear hW
               repeat (go_big_quiet_step (fail))
               refine wpQuiet_nil ?_
               clear sF hq8
               intro JO mU
               have HD5:Hid (DS w JO bu bq bv ov eO qs vl):=DS.grow HD4.out mU
               have JP:=mU.cell uF rJ
               have JQ:=mU.frozen uF hfu
               clear rJ hfu hcv mU
               go_wp2_with fail
               go_roundw
               case rel=>exact⟨i+1,c',eO.set (i+jj) mR,hin1,by go_num,rfl,JL.out,DS.setU HD5.out (i+jj) mR yB.out JM.out,HST.out⟩
               case measure=>simp only[intOf];omega
             ·as_aux_lemma=>
               have mQ:decide (i<n)=false:=by simp;omega
               have hie:i=n0+2:=by have:=dM.out;omega
               rw[hie] at Ao
               have iY:jj+n<eO.length:=by have h1:=mP.out;omega
               have rJ:=Own.cell (DS.u HD4.out:Own wr bu eO) (i:=jj+n) iY
               have hfu:=Own.frozen (DS.u HD4.out:Own wr bu eO) (i:=jj+n) iY
               have hx:=q04 (DS.u HD4.out:Own wr bu eO).1 (jj+n)
               obtain⟨mR,kk,q1,q2,q3⟩:=q7K c (eO.getD (jj+n) 0)
               have ik:=BK.fin Ao.out lI.out wV.out (by rw[HA1.out];exact og.out) (r:=mR) (k:=kk) (by rw[← dM.out];exact q3)
               rw[← dM.out] at ik
               have HD5:Hid (DS w (wr.setCell ⟨bu,jj+n,none⟩ (.int .u32 (mR:Int))) bu bq bv ov (eO.set (jj+n) mR) qs vl):=DS.setU HD4.out (jj+n) mR iY q2
               have hxi:(eO.getD (jj+n) 0:Int)≤4294967295:=by omega
               have uG:b*2^e<2^(32*(n0+2)):=wU.out
               have hDB:=DInv.back kN.out (by omega) (ik.1.trans HA1.out) HT1.out HT2.out uG (DS.u HD3.out).1 o6.out Aj.out (DS.u HD5.out).1 ik.2.1 ik.2.2
               rw[JJ.out] at hDB
               have wh:Hid _:=hDB.1
               generalize eO.getD (jj+n) 0=x at *
               have hcq:=Own.cell (DS.q HD5.out) (i:=jj) hqj
               have JH:=Own.frozen (DS.q HD5.out) (i:=jj) hqj
               have hcw:IntKind.u32.wrap (c:Int)=c:=by rw[IntKind.wrap_u32];omega
               clear ik hDB uG q2 q3 hx hc hin hie
               go_wp2_with fail
               go_roundw
               case rel=>exact⟨jj,eO.set (jj+n) mR,qs.set jj gm,by omega,by go_num,DS.setQ HD5.out jj gm hqj Al.out,wh.out⟩
               case measure=>simp [intOf]
     ·rw[show decide (4294967295<r+top)=false from by simp;omega] at wX
      have hrn:r+top<4294967296:=by omega
      have hgn:g'≤4294967297:=by omega
      clear hr hg hg' hsum
      go_wp2_with fail
      go_roundw
      case rel=>exact⟨g',r+top,rfl,by go_num,hgn,hrn,⟨Ap.out,HT1.out⟩,jW.out⟩
      case measure=>have:=H8.out;simp only[intOf];omega
