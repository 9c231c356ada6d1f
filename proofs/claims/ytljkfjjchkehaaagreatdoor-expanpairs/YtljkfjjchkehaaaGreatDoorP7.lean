/- What is proved here: contracts of the reference's big numbers: div, word by word from above, over this seat's translation. -/
import Derived.Test.YtljkfjjchkehaaaGreatDoorP6
namespace Go.Proofs.YtljkfjjchkehaaaGreatDoor
open Go.ChangeShapes Go.WideShapes Go.ChangeAt Go.RowKit
open BN
/-- A call hands back the canonical slices of two numbers. -/
def q28 (w:World) (x y:Nat) (e:Ending) (w':World):Prop:=∃ v u,e= .returned (.tuple #[v,u])∧G w w'∧Num w' v x∧Num w' u y
/-- A slice of n words whose number has its highest bit. -/
theorem qa4 {w:World} {v:Value} {V n0:Nat} (h:Num w v V) (h1:2^(32*(n0+1)+31)≤V) (h2:V<2^(32*(n0+1+1))):
  ∃ (b o c:Nat) (l:List Nat),v= .slice (some ⟨b,o,none⟩) (n0+2:Nat) c∧n0+2≤c∧b<w.heap.size∧okw l∧l.length=n0+2∧val l=V∧Row w b o l∧2^31≤l.getD (n0+1) 0:=by
 obtain⟨l,hl,hc,rfl⟩:=h
 have h3:=q05 hc h2
 have h4:=q0u hc.1
 have h5:2^(32*(n0+1))<2^(32*l.length):=Nat.lt_of_le_of_lt (Nat.le_trans (Nat.pow_le_pow_right (by omega) (by omega)) h1) h4
 have h6:=(Nat.pow_lt_pow_iff_right (by omega:1<2)).1 h5
 have h7:l.length=n0+2:=by omega
 rcases Sl.cases hl with ⟨rfl,-⟩|⟨-,b,o,c,rfl,hcc,hb,hr⟩
 ·simp at h7
 ·refine⟨b,o,c,l,by rw[h7],by omega,hb,hc.1,h7,rfl,hr,?_⟩
  have h8:=q0y (l:=l) (k:=n0+1) (by omega)
  rw[List.drop_eq_nil_of_le (by omega)] at h8
  simp only[val,Nat.mul_zero,Nat.add_zero] at h8
  have h9:=q0q hc.1 (n0+1) (by omega)
  rw[Nat.pow_add] at h1
  rcases Nat.lt_or_ge (l.getD (n0+1) 0) (2^31) with h|h
  ·exfalso
   have:2^(32*(n0+1))*(l.getD (n0+1) 0+1)≤2^(32*(n0+1))*2^31:=Nat.mul_le_mul_left _ h
   rw[Nat.mul_add,Nat.mul_one] at this
   omega
  ·exact h
theorem qbo {w:World} {v:Value} {V:Nat} (h:Num w v V) (h0:V≠0) (k:Nat) (hk:V<2^(32*k)):
  ∃ (b o c:Nat) (l:List Nat),v= .slice (some ⟨b,o,none⟩) l.length c∧l.length≤c∧b<w.heap.size∧okw l∧l.length≤k∧val l=V∧Row w b o l:=by
 obtain⟨l,hl,hc,rfl⟩:=h
 rcases Sl.cases hl with ⟨rfl,-⟩|⟨-,b,o,c,rfl,hcc,hb,hr⟩
 ·exact absurd rfl h0
 ·exact⟨b,o,c,l,rfl,hcc,hb,hc.1,q05 hc hk,rfl,hr⟩
theorem q2y {w:World} {b o:Nat} {l:List Nat} (h:Row w b o l):∀ j v,(l.map fun d=>Value.int .u32 (d:Nat))[j]? =some v→w.cell? ((⟨b,o,none⟩:Addr).add j)=some v:=by
 intro j u hj
 rw[List.getElem?_map] at hj
 obtain⟨d,hd,rfl⟩:=Option.map_eq_some_iff.1 hj
 have:=h j (List.getElem?_eq_some_iff.1 hd).1
 rw[List.getD_eq_getElem?_getD,hd] at this
 rw[addr_add]
 exact this
theorem q2t (l:List Nat):∀ u∈(l.map fun d=>Value.int .u32 (d:Nat)),u.oneCell'=true:=by
 intro u hu
 obtain⟨d,-,rfl⟩:=List.mem_map.1 hu
 rfl
theorem Row.setCells {b o c:Nat} {l:List Nat} (hb:b≠c):∀ (cs:List Value) (w:World) (i:Nat),Row w b o l→Row (w.setCells c i cs) b o l
 |[],_,_,h=>h
 |v::cs,_,i,h=>Row.setCells hb cs _ _ (h.set (i:=i) (u:=v) hb)
set_option maxRecDepth 10000 in
set_option maxHeartbeats 8000000 in
theorem q7t (w:World) (va vb:Value) (a b K:Nat) (hK:K≤300000) (ha:Num w va a) (hb:Num w vb b) (ha2:a<2^(32*K)) (jO:b≤a) (hbig:2^64≤a) (hb2:2^32≤b):
  Calls Tryz.prog 136 #[va,vb] w (q28 w (a/b) (a%b)):=by
 have hA':=ha
 have hB':=hb
 obtain⟨l,hl,hcl,hvl⟩:=ha
 obtain⟨m,hm,hcm,kF⟩:=hb
 have hll:=q05 hcl (hvl▸ha2)
 have hl2:2<l.length:=by
  rcases Nat.lt_or_ge 2 l.length with h|h
  ·exact h
  ·have h1:=q0u hcl.1
   have h2:2^(32*l.length)≤2^64:=Nat.pow_le_pow_right (by omega) (by omega)
   omega
 have hm2:1<m.length:=by
  rcases Nat.lt_or_ge 1 m.length with h|h
  ·exact h
  ·have h1:=q0u hcm.1
   have h2:2^(32*m.length)≤2^32:=Nat.pow_le_pow_right (by omega) (by omega)
   omega
 have qU:m.length≤l.length:=by
  rcases Nat.lt_or_ge l.length m.length with h|h
  ·have:=q0F hcl hcm h;omega
  ·exact h
 obtain⟨n0,hn0⟩:∃ n0,m.length=n0+2:=⟨m.length-2,by omega⟩
 obtain⟨k,hk1,hk2,hkb,hV1,hV2⟩:=q3d hcm (n:=n0+1) (by omega)
 obtain⟨pa,ca,rfl,fK,hra⟩:=q0p hl
 obtain⟨pb,cb,rfl,hcb,hrb⟩:=q0p hm
 have lu:Hid _:=q2X w _ _ a b K (by omega) hA' hB' ha2 (by omega)
 have HLen:Hid (∀ w1,G w w1→_):=fun w1 g=>q60 w1 _ b K (by omega) (hB'.G g) (by omega)
 have Gz:Hid (∀ w1,G w w1→_):=fun w1 g=>q27 w1 _ b (32-k) K (by omega) (by omega) (hB'.G g) (by omega)
 have GA:Hid (∀ w1,G w w1→_):=fun w1 g=>q27 w1 _ a (32-k) K (by omega) (by omega) (hA'.G g) ha2
 rw[kF] at hkb hV1 hV2
 have hc:decide (cmpV a b<0)=false:=by rw[decide_eq_false_iff_not];unfold cmpV;rw[if_neg (by omega)];split<;>omega
 generalize cmpV a b=cv at *
 generalize hjl:l.length=j at *
 generalize hjn:m.length=n at *
 rw[hkb] at HLen
 have HA:Hid _:=hra
 have HB:Hid _:=hrb
 have HJ:Hid _:=hjl
 have CY:Hid _:=hcl
 have HCM:Hid _:=hcm
 have nD:Hid _:=hvl
 have QH:Hid _:=kF
 have fF:Hid _:=hn0
 have Tu:Hid _:=hjn
 have QI:(2:Int)≤n:=by omega
 have O3:Hid _:=jO
 have HA2:Hid _:=ha2
 have EG:Hid _:=hA'
 have xk:Hid _:=hB'
 have t1:decide ((j:Int)≤2)=false:=by simp;omega
 have t2:((n:Int)==0)=false:=by simp;omega
 have t3:((n:Int)==1)=false:=by simp;omega
 have hjb:(j:Int)≤300000:=by omega
 have hnb:(n:Int)≤j:=by omega
 have JQ:(1:Int)≤k:=by omega
 have hkb2:(k:Int)≤32:=by omega
 obtain⟨mm,hmm⟩:∃ mm,j+1=n+mm:=⟨j+1-n,by omega⟩
 have hm1:(j:Int)+2-n-1=mm:=by omega
 have QJ:(1:Int)≤mm:=by omega
 have QK:(mm:Int)≤300000:=by omega
 have JR:=q1h (j+2) (by omega)
 rw[show ((j+2:Nat):Int)=(j:Int)+2 from by omega] at JR
 have Ak:=q1h (mm+1) (by omega)
 rw[show ((mm+1:Nat):Int)=(mm:Int)+1 from by omega] at Ak
 have Ey:Hid _:=hmm
 obtain⟨e,he⟩:∃ e:Nat,e=32-k:=⟨_,rfl⟩
 rw[← he] at GA Gz hV1 hV2
 have hs:32-((((32*(n0+1)+k:Nat):Int)-1)%32)-1=e:=by omega
 have Tv:(e:Int)≤31:=by omega
 have JS:((32*(n0+1)+k:Nat):Int)≤20000000:=by omega
 have QL:(1:Int)≤((32*(n0+1)+k:Nat):Int):=by omega
 generalize 32*(n0+1)+k=L at *
 have lL:Hid _:=hV1
 have nN:Hid _:=hV2
 have hae:a*2^e≠0:=by have:=Nat.two_pow_pos e;have:0<a:=by omega
                      exact Nat.pos_iff_ne_zero.1 (Nat.mul_pos this (by assumption))
 have haj:a*2^e<2^(32*(j+1)):=by
  have h1:=q0u hcl.1
  rw[hvl,hjl] at h1
  have h2:a*2^e<2^(32*j)*2^e:=Nat.mul_lt_mul_of_pos_right h1 (Nat.two_pow_pos _)
  have h3:2^(32*j)*2^e≤2^(32*(j+1)):=by rw[← Nat.pow_add];exact Nat.pow_le_pow_right (by omega) (by omega)
  omega
 have ng:Hid _:=hae
 have HB0:Hid (0<b):=Nat.lt_of_lt_of_le (by omega) hb2
 have O4:Hid _:=haj
 have JU:Hid (a*2^e<2^(32*(n0+1+(mm+1)))):=by
  have h1:j+1=n0+1+(mm+1):=by omega
  rw[h1] at haj;exact haj
 clear hae haj
 clear hV1 hV2 hra hrb hjl hcl hcm hvl kF hn0 hjn jO ha2 hA' hB' hl hm hkb hK hbig hb2 hll hl2 hm2 qU hk1 hk2 hmm he JQ hkb2
 clear CY HCM nD QH EG xk
 go_enter Tryz.func136,Tryz.ntmps136
 go_wp2_with fail
 refine Calls.mono (P:=Tryz.prog) lu.out ?_
 rintro e1 w1 ⟨rfl,hg1⟩
 go_wp2_with fail
 refine Calls.mono (P:=Tryz.prog) (HLen.out w1 hg1) ?_
 rintro e1 w2 ⟨rfl,hg2⟩
 have hG2:=G.trans hg1 hg2
 go_wp2_with fail
 refine Calls.mono (P:=Tryz.prog) (Gz.out w2 hG2) ?_
 rintro e1 w3 ⟨v1,rfl,hg3,kT⟩
 obtain⟨bv,ov,Tw,vl,rfl,QM,hvb,O5,zw,hvv,xe,ze⟩:=qa4 kT lL.out nN.out
 rw[← fF.out] at QM
 rw[← fF.out]
 have hG3:=G.trans hG2 hg3
 have O6:Hid _:=xe
 have Bo:Hid _:=O5
 have nD:Hid _:=zw
 have xN:Hid _:=hvv
 have Gq:Hid _:=ze
 clear xe O5 zw hvv ze kT hg1 hg2 hg3 hG2
 go_wp2_with fail
 have hgm:G w3 (w3.alloc (.cells (madeCells #[.int .u32 0] (j+2)) 173)):=(G.refl _).alloc _
 have u6:Hid _:=q0D w3 (j+2) 173
 have hle:w.heap.size≤w3.heap.size:=hG3.size
 refine Calls.mono (P:=Tryz.prog) (GA.out _ (G.trans hG3 hgm)) ?_
 rintro e1 w4 ⟨v2,rfl,hg4,O7⟩
 have uT:Hid (Own w4 w3.heap.size (List.replicate (j+2) 0)):=Own.grow u6.out hg4
 have hG4:G w w4:=G.trans (G.trans hG3 hgm) hg4
 have EJ:Hid (Row w4 bv ov vl):=Row.G (l:=vl) O6.out hvb (G.trans hgm hg4)
 clear hgm hg4 u6 hG3
 generalize w3.heap.size=bu at *
 obtain⟨bl,ol,cl,la,rfl,hlc,hlb,hlo,hlj,hlv,hlr⟩:=qbo O7 (ng.out) (j+1) O4.out
 obtain⟨cs,hcs⟩:∃ cs,cs=la.map (fun d=>Value.int .u32 (d:Nat)):=⟨_,rfl⟩
 have hcl:cs.length=la.length:=by rw[hcs,List.length_map]
 have hsrc:=q2y hlr
 have h1c:=q2t la
 rw[← hcs] at hsrc h1c
 have GD:Hid _:=Own.cells (o:=0) uT.out hlo (by simp;omega)
 rw[← hcs] at GD
 have hccell:∀ i,i<cs.length→(w4.cell? ⟨bu,0+i,none⟩).isSome=true:=fun i hi=>by
  rw[Nat.zero_add,Own.cell (l:=List.replicate (j+2) 0) uT.out (by simp;omega)];rfl
 have zz:∀ i,i<cs.length→w4.frozen? ⟨bu,0+i,none⟩=false:=fun i hi=>by
  rw[Nat.zero_add];exact Own.frozen (l:=List.replicate (j+2) 0) uT.out (by simp;omega)
 have hmin:cs.length=Nat.min la.length (j+2):=by rw[hcl];exact(Nat.min_eq_left (by omega)).symm
 have hval:val ((List.replicate (j+2) 0).take 0++(la++(List.replicate (j+2) 0).drop (0+la.length)))=a*2^e:=by
  rw[List.take_zero,List.nil_append,val_append,List.drop_replicate,q1Q,hlv];simp
 have hlen:((List.replicate (j+2) 0).take 0++(la++(List.replicate (j+2) 0).drop (0+la.length))).length=j+2:=by simp;omega
 generalize (List.replicate (j+2) 0).take 0++(la++(List.replicate (j+2) 0).drop (0+la.length))=us at *
 have hrun:=run_copy_cells (P:=Tryz.prog) w4 36 36 3 173 bu 0 (j+2) (j+2) ⟨bl,ol,none⟩ la.length cl cs Tryz.underlying36 (by kernel_rfl) hmin hsrc hccell zz h1c
 have iK:G w (w4.setCells bu 0 cs):=G.setCells hle cs _ _ hG4
 have EK:Hid (Row (w4.setCells bu 0 cs) bv ov vl):=Row.setCells (by omega) cs _ _ EJ.out
 generalize nS:w4.setCells bu 0 cs=w5 at *
 have O8:Hid _:=hval
 have nU:Hid _:=hlen
 clear O7 hlc hlb hlo hlj hlv hlr hcs hcl hsrc h1c hccell zz hmin hval hlen hG4 EJ uT O6 O4 ng nS
 go_wp2_with fail
 have zk:Hid _:=q0D w5 (mm+1) 173
 have GG:G w5 (w5.alloc (.cells (madeCells #[.int .u32 0] (mm+1)) 173)):=(G.refl _).alloc _
 have Bp:bu<w5.heap.size:=(GD.out:Own w5 bu us).2.1
 have lH:Hid (DS w _ bu w5.heap.size bv ov us (List.replicate (mm+1) 0) vl):=DS.mk (G.trans iK GG) hle hvb Bp (Own.grow GD.out GG) zk.out (Row.G (l:=vl) EK.out (by omega) GG)
 generalize w5.heap.size=bq at *
 have hsz:bq<(w5.alloc (.cells (madeCells #[.int .u32 0] (mm+1)) 173)).heap.size:=(lH.out:DS w _ bu bq bv ov us (List.replicate (mm+1) 0) vl).q.2.1
 generalize w5.alloc (.cells (madeCells #[.int .u32 0] (mm+1)) 173)=w6 at *
 have QN:bu<bq:=Bp
 clear zk GG GD EK iK Bp
 obtain⟨p1,hp1⟩:∃ p1,p1=n0+1:=⟨_,rfl⟩
 have hn1:(n:Int)-1=p1:=by have:=fF.out;omega
 have hn2:(n:Int)-2=n0:=by have:=fF.out;omega
 have iV:Hid _:=hp1
 have hct:w6.cell? ⟨bv,ov+p1,none⟩=some (.int .u32 (vl.getD p1 0:Nat)):=DS.cv (vl:=vl) lH.out (by rw[nD.out,hp1];omega)
 have hcn:w6.cell? ⟨bv,ov+n0,none⟩=some (.int .u32 (vl.getD n0 0:Nat)):=DS.cv (vl:=vl) lH.out (by rw[nD.out];omega)
 have hto:vl.getD p1 0<2^32:=q04 Bo.out p1
 have hno:vl.getD n0 0<2^32:=q04 Bo.out n0
 have QO:2^31≤vl.getD p1 0:=by rw[hp1];exact Gq.out
 have O9:Hid (∀ us jj,okw us→jj+n0+2<us.length→val us<2^(32*(jj+1))*(b*2^e)→_):=fun us jj h1 h2 h3=>q5H h1 Bo.out nD.out xN.out h2 h3
 clear Gq
 rw[← hp1] at O9
 have hpn:p1<n:=by have:=fF.out;omega
 have QP:n0<n:=by have:=fF.out;omega
 clear hp1
 generalize htop:vl.getD p1 0=top at *
 generalize hnext:vl.getD n0 0=next at *
 clear htop hnext
 have htop:(2147483648:Int)≤top:=by omega
 have Oa:(top:Int)≤4294967295:=by omega
 have JV:(next:Int)≤4294967295:=by omega
 have Ob:((top:Int)==0)=false:=by simp;omega
 clear hto hno QO
 have jl:bv<w6.heap.size:=by omega
 refine q0d (by kernel_rfl) (by kernel_rfl) ?_
 intro W hW
 have hq1:=q08 (w:=W) (a:=⟨bv,ov+p1,none⟩) (x:= .int .u32 (top:Int)) (by rw[hW];first|(simp;done)|(simp;omega)|omega) (by rw[hW];first|assumption|(simp [go_sem];done)|(simp [*,go_sem];done))
 have hq2:=q08 (w:=W) (a:=⟨bv,ov+n0,none⟩) (x:= .int .u32 (next:Int)) (by rw[hW];first|(simp;done)|(simp;omega)|omega) (by rw[hW];first|assumption|(simp [go_sem];done)|(simp [*,go_sem];done))
 clear hW
 repeat (go_big_quiet_step (fail))
 refine wpQuiet_nil ?_
 clear hq1 hq2
 intro w7 hw7
 have HD7:Hid (DS w w7 bu bq bv ov us (List.replicate (mm+1) 0) vl):=DS.grow lH.out hw7
 have HIS:Hid _:=DInv.start (n0:=n0) (M:=mm+1) nU.out O8.out JU.out lL.out
 clear hct hcn lH hw7 hsz jl
 go_wp2_with fail
 go_loopw [18] (fun vj wr=>∃ (t:Nat) (us qs:List Nat),t≤mm+1∧vj= .int .i64 ((t:Int)-1)∧DS w wr bu bq bv ov us qs vl∧DInv us qs t (j+2) (mm+1) (b*2^e) (a*2^e)) (fun vj _=>(intOf vj+1).toNat)
 case atStart=>exact⟨mm+1,us,_,Nat.le_refl _,by congr 1;omega,HD7.out,HIS.out⟩
 case round=>
  obtain⟨t,us,qs,ht,rfl,hds,hinv⟩:=hrel
  have lH:Hid _:=hds
  have mi:Hid _:=hinv
  clear hds hinv HD7 HIS nU O8
  cases t with
  |zero=>
   as_aux_lemma=>
    have hfin:=DInv.fin mi.out (Nat.two_pow_pos e) HB0.out
    obtain⟨hq2,hr2⟩:=hfin
    have QS:Hid (∀ w1,G wr w1→Calls Tryz.prog 137 #[.slice (some ⟨bq,0,none⟩) (mm+1) (mm+1)] w1 (q0e w1 (a/b))):=fun w1 g=>by
     rw[← hq2];exact q0I (Own.grow (DS.q lH.out) g) mi.out.2.1 (by omega)
    have QT:Hid (∀ w1,G wr w1→Calls Tryz.prog 137 #[.slice (some ⟨bu,0,none⟩) (j+2) (j+2)] w1 (q0e w1 (val us))):=fun w1 g=>q0I (Own.grow (DS.u lH.out) g) mi.out.1 (by omega)
    have Iy:Hid (∀ w1 v,Num w1 v (val us)→Calls Tryz.prog 134 #[v,.int .u64 (e:Int)] w1 (q0e w1 (a%b))):=fun w1 v hn=>by
     rw[← hr2]
     exact q1m w1 v (val us) e (j+2) (by omega) (by omega) hn (by have:=q0u (DS.u lH.out:Own wr bu us).1;rwa[mi.out.1] at this)
    have hgw:=lH.out.g
    have QU:Hid _:=hgw
    clear hq2 hr2 hgw GA Gz HLen lu HA HB
    go_wp2_with fail
    refine Calls.mono (P:=Tryz.prog) (QS.out wr (G.refl _)) ?_
    rintro e1 w1 ⟨v1,rfl,hg1,hn1⟩
    go_wp2_with fail
    refine Calls.mono (P:=Tryz.prog) (QT.out w1 hg1) ?_
    rintro e1 w2 ⟨v2,rfl,hg2,hn2⟩
    go_wp2_with fail
    refine Calls.mono (P:=Tryz.prog) (Iy.out w2 v2 hn2) ?_
    rintro e1 w3 ⟨v3,rfl,hg3,kT⟩
    go_wp2_with fail
    go_ret2
    exact⟨_,_,rfl,G.trans QU.out (G.trans hg1 (G.trans hg2 hg3)),hn1.G (G.trans hg2 hg3),kT⟩
  |succ jj=>
   have sP:us.length=j+2:=mi.out.1
   have Dy:qs.length=mm+1:=mi.out.2.1
   have hjm:jj+n0+2<j+2:=by have:=Ey.out;have:=fF.out;omega
   have hJ:(jj:Int)+n-1=((jj+p1:Nat):Int):=by omega
   have hJ2:(jj:Int)+n-2=((jj+n0:Nat):Int):=by omega
   have QV:(jj:Int)≤300000:=by omega
   have JW:jj+n<j+2:=by have:=fF.out;omega
   have hjp:jj+p1<j+2:=by omega
   have QW:jj+n0<j+2:=by omega
   have vU:=(DS.u lH.out:Own wr bu us).1
   have hc0:=Own.cell (DS.u lH.out:Own wr bu us) (i:=jj+n) (by omega)
   have hc1:=Own.cell (DS.u lH.out:Own wr bu us) (i:=jj+p1) (by omega)
   have hc2:=Own.cell (DS.u lH.out:Own wr bu us) (i:=jj+n0) (by omega)
   have hx0:=q04 vU (jj+n)
   have hx1:=q04 vU (jj+p1)
   have hx2:=q04 vU (jj+n0)
   have hF:=O9.out us jj vU (by omega) mi.out.2.2.1
   rw[show jj+n0+2=jj+n from by have:=fF.out;omega,show jj+n0+1=jj+p1 from by have:=iV.out;omega] at hF
   obtain⟨hf1,hf2,hf3,Oc,JX,JY,Od⟩:=hF
   generalize us.getD (jj+n) 0=u0 at *
   generalize us.getD (jj+p1) 0=u1 at *
   generalize hu2:us.getD (jj+n0) 0=u2 at *
   have Cx:Hid _:=hu2
   clear hu2
   obtain⟨h,g0,r0,hw1,hh,hw2,hw3,hg0,EL,hr0,EM⟩:=qaw u0 u1 top hx0 hx1 (by omega) hf1
   have hS0:val us<(g0+1)*(2^(32*jj)*(b*2^e)):=by
    rw[hg0]
    refine qbm (u2:=u2) (P:=2^(32*(jj+n0))) (by rw[hh];exact JX) hx2 (Nat.le_trans (Nat.mul_le_mul_right _ (by omega)) JY) (by omega)
   have xu:Hid (val us<(g0+1)*(2^(32*jj)*(b*2^e))):=hS0
   have Oe:Hid _:=hf1
   have Og:Hid _:=hf2
   have EO:Hid _:=hf3
   have Dn:Hid _:=Oc
   have Oh:Hid _:=JX
   have JZ:Hid _:=JY
   have Oi:Hid _:=Od
   have HH:Hid _:=hh
   have Oj:Hid _:=EL
   have QX:(u0:Int)≤4294967295:=by omega
   have QY:(u1:Int)≤4294967295:=by omega
   have QZ:(u2:Int)≤4294967295:=by omega
   have K4:(r0:Int)<top:=by omega
   have zK:Hid (u1<2^32):=hx1
   have Bq:Hid (u2<2^32):=hx2
   have K5:Hid (g0≤4294967297):=EM
   have oD:Hid (jj+n<j+2):=JW
   have nU:Hid _:=sP
   have CE:Hid _:=Dy
   have hbw:bu<wr.heap.size:=(DS.u lH.out:Own wr bu us).2.1
   clear hS0 hf1 hf2 hf3 Oc JX JY Od hh EL hg0 hx0 hx1 hx2 hr0 EM vU hjm
   clear GA Gz HLen lu HA HB
   go_wp2_with fail
   refine q0d (by kernel_rfl) (by kernel_rfl) ?_
   intro W hW
   have hq3:=q08 (w:=W) (a:=⟨bu,jj+n,none⟩) (x:= .int .u32 (u0:Int)) (by rw[hW];first|(simp;done)|(simp;omega)|omega) (by rw[hW];first|assumption|(simp [go_sem];done)|(simp [*,go_sem];done))
   have hq4:=q08 (w:=W) (a:=⟨bu,jj+p1,none⟩) (x:= .int .u32 (u1:Int)) (by rw[hW];first|(simp;done)|(simp;omega)|omega) (by rw[hW];first|assumption|(simp [go_sem];done)|(simp [*,go_sem];done))
   clear hW
   repeat (go_big_quiet_step (fail))
   refine wpQuiet_nil ?_
   clear hq3 hq4
   intro w8 hw8
   have eF:Hid (DS w w8 bu bq bv ov us qs vl):=DS.grow lH.out hw8
   have hc2':=hw8.cell (p:=⟨bu,jj+n0,none⟩) hbw hc2
   clear hc0 hc1 hc2 hw8 lH
   go_wp2_with fail
   refine q0d (by kernel_rfl) (by kernel_rfl) ?_
   intro W hW
   clear hW
   repeat (go_big_quiet_step (fail))
   refine wpQuiet_nil ?_
   intro w9 K6
   have eQ:Hid (DS w w9 bu bq bv ov us qs vl):=DS.grow eF.out K6
   have EP:bu<w8.heap.size:=(DS.u eF.out:Own w8 bu us).2.1
   have hc2:=K6.cell (p:=⟨bu,jj+n0,none⟩) EP hc2'
   have K7:(r0:Int)≤4294967295:=by omega
   clear hc2' K6 eF EP hc2 hbw hw1 hw2
   have hgs0:GS (val us) (2^(32*jj)*(b*2^e)) h top g0 r0:=⟨Oj.out,xu.out⟩
   have ER:Hid _:=hgs0
   have K8:r0<4294967296:=by omega
   clear hgs0
   have HW2:Hid (4294967296*2^(32*(jj+n0))≤2^(32*jj)*(b*2^e)):=Nat.le_trans (Nat.mul_le_mul_right _ (by omega)) JZ.out
   have ES:Hid (∀ g r,g*top+r=h→g<2^32→g*next≤r*2^32+u2→g*(2^(32*jj)*(b*2^e))<val us+2^(32*jj)*(b*2^e)):=fun g r k1 k2 k3=>q7M (h:=h) (by rw[HH.out];exact Dn.out) Oi.out HW2.out k1 k2 k3
   have K9:Hid (∀ g r,g*top+r=h→2^32≤r→g<2^32∧g*(2^(32*jj)*(b*2^e))<val us+2^(32*jj)*(b*2^e)):=fun g r k1 k2=>by
    obtain⟨k3,k4⟩:=q8k (u1:=u1) (u2:=u2) (next:=next) (by rw[HH.out];exact Nat.add_le_add_right (Nat.mul_le_mul_right _ Oe.out) _) zK.out k1 k2 (by omega)
    exact⟨k3,ES.out g r k1 k3 k4⟩
   have Ka:Hid (∀ g,4294967295<g→val us<g*(2^(32*jj)*(b*2^e))):=fun g k1=>q5C EO.out (by omega)
   have Kb:Hid (∀ g r,g*top+r=h→r*2^32+u2<g*next→val us<g*(2^(32*jj)*(b*2^e))):=fun g r k1 k2=>q6B (P:=2^(32*(jj+n0))) (h:=h) (by rw[HH.out];exact Oh.out) JZ.out k1 k2
   have qd:Hid (jj+n0+2<us.length):=by
    have h0:us.length=j+2:=nU.out
    have h1:jj+n<j+2:=oD.out
    have h2:n=n0+2:=fF.out
    show jj+n0+2<us.length
    omega
   have hne1:¬ bu=bq:=by omega
   have hne2:¬ bq=bu:=by omega
   clear HW2 Oe EO Dn Oh JZ Oi HH Oj xu
   go_wp2_with fail
   simp only[hw3]
   clear hw3
   go_loopw [20,21] (fun vg vr wr=>∃ g r:Nat,vg= .int .u64 g∧vr= .int .u64 r∧g≤4294967297∧r<4294967296∧GS (val us) (2^(32*jj)*(b*2^e)) h top g r∧DS w wr bu bq bv ov us qs vl) (fun vg _ _=>(intOf vg).toNat)
   case atStart=>exact⟨g0,r0,rfl,rfl,K5.out,by omega,ER.out,eQ.out⟩
   case round=>
    obtain⟨g,r,rfl,rfl,hgb,hrb,hgs,hds⟩:=hrel
    have ET:Hid _:=hgs
    have lH:Hid _:=hds
    clear hgs hds eQ ER K8 K4 K7
    have hc2:wr.cell? ⟨bu,jj+n0,none⟩=some (.int .u32 (us.getD (jj+n0) 0:Nat)):=Own.cell (DS.u lH.out:Own wr bu us) (by have:=nU.out;omega)
    rw[Cx.out] at hc2
    have hgi:(g:Int)≤4294967297:=by omega
    have zJ:(r:Int)≤4294967295:=by omega
    have ym:decide ((4294967295:Int)<g)=decide (4294967295<g):=by congr 1;exact propext (by omega)
    have yo:decide ((4294967295:Int)<(r:Int)+top)=decide (4294967295<r+top):=by congr 1;exact propext (by omega)
    by_cases hg:4294967295<g
    case' neg=>
     rw[show decide (4294967295<g)=false from by simp;omega] at ym
     have EU:g*next≤4294967295*4294967295:=Nat.mul_le_mul (by omega) (by omega)
     obtain⟨p,hp,hpi,hpe⟩:∃ p:Nat,(g:Int)*next=p∧(p:Int)≤18446744065119617025∧p=g*next:=⟨g*next,by push_cast;rfl,by omega,rfl⟩
     obtain⟨q,hq,hqe⟩:∃ q:Nat,bits .or .u64 ((r:Int)*4294967296) (u2:Int)=q∧q=r*2^32+u2:=⟨_,q98 r u2 (by omega) Bq.out,rfl⟩
     have uI:Hid _:=hpe
     have uJ:Hid _:=hqe
     by_cases hpq:q<p
     case neg=>
      have EW:decide (q<p)=false:=by simp;omega
      have HT2:Hid (g*(2^(32*jj)*(b*2^e))<val us+2^(32*jj)*(b*2^e)):=ES.out g r ET.out.1 (by omega) (by rw[← uI.out,← uJ.out];omega)
      have HT1:Hid (val us<(g+1)*(2^(32*jj)*(b*2^e))):=ET.out.2
      have hgt:g<4294967296:=by omega
      clear EU hpe hqe hpq yo hg hgi
      go_wp2_with fail
      clear ym hp hq EW hpi hc2
      obtain⟨gt,vV⟩:∃ gt:Nat,gt=g:=⟨g,rfl⟩
      rw[← vV] at HT1 HT2 hgt ⊢
      clear vV
      as_aux_lemma=>
       have Kc:(gt:Int)≤4294967295:=by omega
       go_loopw [22,23,24] (fun vc vd vi w2=>∃ (i c d:Nat) (fE:List Nat),i≤n∧vi= .int .i64 i∧vc= .int .u64 c∧vd= .int .u64 d∧c<4294967296∧d≤1∧DS w w2 bu bq bv ov fE qs vl∧AW us fE vl jj n0 i gt c d) (fun _ _ vi _=>n-(intOf vi).toNat)
       case atStart=>exact⟨0,0,0,us,Nat.zero_le _,rfl,rfl,rfl,by omega,by omega,lH.out,AW.start Og.out⟩
       case round=>
        obtain⟨i,c,d,fE,hi,rfl,rfl,rfl,hc,hd,hds,haw⟩:=hrel
        have HD2:Hid (DS w wr bu bq bv ov fE qs vl):=hds
        have Br:Hid _:=haw
        have hl2:fE.length=j+2:=haw.1.trans nU.out
        clear hds haw lH
        have hci:(c:Int)≤4294967295:=by omega
        have hdi:(d:Int)≤1:=by omega
        have hib:(i:Int)≤300002:=by omega
        by_cases hin:i<n
        ·as_aux_lemma=>
          have oF:decide (i<n)=true:=by simp;omega
          have hcv:=DS.cv (vl:=vl) HD2.out (i:=i) (by rw[nD.out];have:=fF.out;omega)
          have iL:i+jj<fE.length:=by have h1:=oD.out;omega
          have uk:=Own.cell (DS.u HD2.out:Own wr bu fE) (i:=i+jj) iL
          have hfu:=Own.frozen (DS.u HD2.out:Own wr bu fE) (i:=i+jj) iL
          have hy:=q04 Bo.out i
          have hx:=q04 (DS.u HD2.out:Own wr bu fE).1 (i+jj)
          obtain⟨p,lo,t0,tt,rr,d',c',q1,q2,q3,q4,q5,q6,q7,q8,q9,EX,EY,EZ,F5⟩:=q9T gt c d _ _ hgt hc hd hx hy
          have HST:Hid _:=AW.step Br.out (by have:=fF.out;omega) qd.out F5
          have ic:Hid (d'≤1):=EX
          have lC:Hid (c'<2^32):=EY
          have lD:Hid (rr<2^32):=EZ
          generalize vl.getD i 0=y at *
          generalize fE.getD (i+jj) 0=x at *
          have hyi:(y:Int)≤4294967295:=by omega
          have hxi:(x:Int)≤4294967295:=by omega
          have hpi:(p:Int)≤18446744065119617025:=by omega
          have Ke:(lo:Int)≤4294967295:=by omega
          have Bt:i+jj<j+2:=by omega
          have hin1:i+1≤n:=hin
          have F6:n-(i+1)<n-i:=by omega
          have zl:Hid (i+jj<fE.length):=iL
          clear q2 q4 EX EY EZ F5 hx hy hc hd hin iL
          go_wp2_with fail
          go_roundw
          case rel=>exact⟨i+1,c',d',fE.set (i+jj) rr,hin1,by go_num,rfl,rfl,lC.out,ic.out,DS.setU HD2.out (i+jj) rr zl.out lD.out,HST.out⟩
          case measure=>simp only[intOf];omega
        ·as_aux_lemma=>
          have oF:decide (i<n)=false:=by simp;omega
          have hie:i=n0+2:=by have:=fF.out;omega
          rw[hie] at Br
          have jY:jj+n<fE.length:=by have h1:=oD.out;omega
          have uk:=Own.cell (DS.u HD2.out:Own wr bu fE) (i:=jj+n) jY
          have hfu:=Own.frozen (DS.u HD2.out:Own wr bu fE) (i:=jj+n) jY
          have hx:=q04 (DS.u HD2.out:Own wr bu fE).1 (jj+n)
          obtain⟨t0,tt,rr,d',q1,q2,q3,q4,q5,q6,q7⟩:=q5w c d _ hc hd hx
          have jo:=AW.fin Br.out nD.out xN.out qd.out (r:=rr) (d':=d') (by rw[← fF.out];exact q7)
          rw[← fF.out] at jo
          have HD3:Hid (DS w (wr.setCell ⟨bu,jj+n,none⟩ (.int .u32 (rr:Int))) bu bq bv ov (fE.set (jj+n) rr) qs vl):=DS.setU HD2.out (jj+n) rr jY q6
          have hxi:(fE.getD (jj+n) 0:Int)≤4294967295:=by omega
          obtain⟨hf1,hf2,hf3⟩:=jo
          have HA1:Hid _:=hf1
          have qc:Hid _:=hf2
          have Bu:Hid _:=hf3
          generalize fE.getD (jj+n) 0=x at *
          have mo:Hid _:=q7
          have hqj:jj<qs.length:=by rw[CE.out];omega
          have hgw:IntKind.u32.wrap (gt:Int)=gt:=by rw[IntKind.wrap_u32];omega
          have Ao:Hid (gt<2^32):=hgt
          have xE:Hid (d'≤1):=q5
          by_cases hd':d'=0
          ·subst hd'
           have hcq:=Own.cell (DS.q HD3.out) (i:=jj) hqj
           have Kg:=Own.frozen (DS.q HD3.out) (i:=jj) hqj
           have xh:Hid _:=DInv.right mi.out (by omega) HA1.out HT1.out Bu.out
           clear hf1 hf2 hf3 q6 q7 q5 hx hc hd hin hie
           go_wp2_with fail
           go_roundw
           case rel=>exact⟨jj,fE.set (jj+n) rr,qs.set jj gt,by omega,by go_num,DS.setQ HD3.out jj gt hqj Ao.out,xh.out⟩
           case measure=>simp [intOf]
          ·obtain rfl:d'=1:=by omega
           have hpos:0<gt:=by
            rcases Nat.eq_zero_or_pos gt with h0|h0
            ·exfalso
             have h1:=Bu.out
             rw[h0,Nat.zero_mul,Nat.add_zero,Nat.mul_one] at h1
             have h2:=q4h (DS.u HD3.out).1 qc.out
             rw[h1] at h2
             exact absurd h2 (Nat.not_lt.2 (Nat.le_add_left _ _))
            ·exact h0
           obtain⟨gm,hgm⟩:∃ gm,gt-1=gm:=⟨_,rfl⟩
           have Kh:IntKind.u64.wrap ((gt:Int)-1)=gm:=by rw[IntKind.wrap_u64];omega
           have F7:IntKind.u32.wrap (gm:Int)=gm:=by rw[IntKind.wrap_u32];omega
           have Ki:Hid _:=hgm
           have Bv:Hid (gm<2^32):=by show gm<2^32;omega
           have F8:Hid (BK (fE.set (jj+n) rr) (fE.set (jj+n) rr) vl jj n0 0 0):=BK.start (us:=fE.set (jj+n) rr) (vl:=vl) qc.out
           clear hf1 hf2 hf3 q6 q7 q5 hx hc hd hin hie hd' hpos hgm
           go_wp2_with fail
           as_aux_lemma=>
            clear uk hfu q1 q2 q3 q4
            generalize Bw:wr.setCell ⟨bu,jj+n,none⟩ (.int .u32 (rr:Int))=w3 at *
            clear Bw
            generalize vW:fE.set (jj+n) rr=F9 at *
            have Kj:Hid _:=vW
            clear vW oF
            go_loopw [22,27] (fun vc vi w4=>∃ (i c:Nat) (fP:List Nat),i≤n∧vi= .int .i64 i∧vc= .int .u64 c∧c≤1∧DS w w4 bu bq bv ov fP qs vl∧BK F9 fP vl jj n0 i c) (fun _ vi _=>n-(intOf vi).toNat)
            case atStart=>exact⟨0,0,F9,Nat.zero_le _,rfl,rfl,by omega,HD3.out,F8.out⟩
            case round=>
             obtain⟨i,c,fP,hi,rfl,rfl,hc,hds,hbk⟩:=hrel
             have HD4:Hid (DS w wr bu bq bv ov fP qs vl):=hds
             have Bz:Hid _:=hbk
             have hl4:fP.length=j+2:=hbk.1.trans (HA1.out.trans nU.out)
             clear hds hbk F8
             have hci:(c:Int)≤1:=by omega
             have hib:(i:Int)≤300002:=by omega
             by_cases hin:i<n
             ·as_aux_lemma=>
               have oF:decide (i<n)=true:=by simp;omega
               have hcv:=DS.cv (vl:=vl) HD4.out (i:=i) (by rw[nD.out];have:=fF.out;omega)
               have iL:i+jj<fP.length:=by have h1:=oD.out;omega
               have uk:=Own.cell (DS.u HD4.out:Own wr bu fP) (i:=i+jj) iL
               have hfu:=Own.frozen (DS.u HD4.out:Own wr bu fP) (i:=i+jj) iL
               have hy:=q04 Bo.out i
               have hx:=q04 (DS.u HD4.out:Own wr bu fP).1 (i+jj)
               obtain⟨oG,c',q1,q2,q3,q4,q5⟩:=q9R c _ _ hc hx hy
               have HST:Hid _:=BK.step Bz.out (by have:=fF.out;omega) (by rw[HA1.out];exact qd.out) q5
               have Kk:Hid (c'≤1):=q3
               have Kl:Hid (oG<2^32):=q4
               generalize vl.getD i 0=y at *
               generalize fP.getD (i+jj) 0=x at *
               have hyi:(y:Int)≤4294967295:=by omega
               have hxi:(x:Int)≤4294967295:=by omega
               have Bt:i+jj<j+2:=by omega
               have hin1:i+1≤n:=hin
               have zl:Hid (i+jj<fP.length):=iL
               have vX:bu<wr.heap.size:=(DS.u HD4.out:Own wr bu fP).2.1
               have Km:bv<wr.heap.size:=by omega
               clear q3 q4 q5 hx hy hc hin iL
               go_wp2_with fail
               refine q0d (by kernel_rfl) (by kernel_rfl) ?_
               intro W hW
               have sM:=q08 (w:=W) (a:=⟨bu,i+jj,none⟩) (x:= .int .u32 (x:Int)) (by rw[hW];first|(simp;done)|(simp;omega)|omega) (by rw[hW];first|assumption|(simp [go_sem];done)|(simp [*,go_sem];done))
               have tT:=q08 (w:=W) (a:=⟨bv,ov+i,none⟩) (x:= .int .u32 (y:Int)) (by rw[hW];first|(simp;done)|(simp;omega)|omega) (by rw[hW];first|assumption|(simp [go_sem];done)|(simp [*,go_sem];done))
               clear hW
               repeat (go_big_quiet_step (fail))
               refine wpQuiet_nil ?_
               clear sM tT
               intro Kn oH
               have HD5:Hid (DS w Kn bu bq bv ov fP qs vl):=DS.grow HD4.out oH
               have Ko:=oH.cell vX uk
               have Kq:=oH.frozen vX hfu
               clear uk hfu hcv oH
               go_wp2_with fail
               go_roundw
               case rel=>exact⟨i+1,c',fP.set (i+jj) oG,hin1,by go_num,rfl,Kk.out,DS.setU HD5.out (i+jj) oG zl.out Kl.out,HST.out⟩
               case measure=>simp only[intOf];omega
             ·as_aux_lemma=>
               have oF:decide (i<n)=false:=by simp;omega
               have hie:i=n0+2:=by have:=fF.out;omega
               rw[hie] at Bz
               have jY:jj+n<fP.length:=by have h1:=oD.out;omega
               have uk:=Own.cell (DS.u HD4.out:Own wr bu fP) (i:=jj+n) jY
               have hfu:=Own.frozen (DS.u HD4.out:Own wr bu fP) (i:=jj+n) jY
               have hx:=q04 (DS.u HD4.out:Own wr bu fP).1 (jj+n)
               obtain⟨oG,kk,q1,q2,q3⟩:=q81 c (fP.getD (jj+n) 0)
               have jo:=BK.fin Bz.out nD.out xN.out (by rw[HA1.out];exact qd.out) (r:=oG) (k:=kk) (by rw[← fF.out];exact q3)
               rw[← fF.out] at jo
               have HD5:Hid (DS w (wr.setCell ⟨bu,jj+n,none⟩ (.int .u32 (oG:Int))) bu bq bv ov (fP.set (jj+n) oG) qs vl):=DS.setU HD4.out (jj+n) oG jY q2
               have hxi:(fP.getD (jj+n) 0:Int)≤4294967295:=by omega
               have vY:b*2^e<2^(32*(n0+2)):=nN.out
               have hDB:=DInv.back mi.out (by omega) (jo.1.trans HA1.out) HT1.out HT2.out vY (DS.u HD3.out).1 qc.out Bu.out (DS.u HD5.out).1 jo.2.1 jo.2.2
               rw[Ki.out] at hDB
               have xh:Hid _:=hDB.1
               generalize fP.getD (jj+n) 0=x at *
               have hcq:=Own.cell (DS.q HD5.out) (i:=jj) hqj
               have Kg:=Own.frozen (DS.q HD5.out) (i:=jj) hqj
               have hcw:IntKind.u32.wrap (c:Int)=c:=by rw[IntKind.wrap_u32];omega
               clear jo hDB vY q2 q3 hx hc hin hie
               go_wp2_with fail
               go_roundw
               case rel=>exact⟨jj,fP.set (jj+n) oG,qs.set jj gm,by omega,by go_num,DS.setQ HD5.out jj gm hqj Bv.out,xh.out⟩
               case measure=>simp [intOf]
     have EW:decide (q<p)=true:=by simp;omega
     obtain⟨g',hg'⟩:∃ g',g=g'+1:=by
      rcases g with _|g'
      ·rw[Nat.zero_mul] at hpe;omega
      ·exact⟨g',rfl⟩
     have hgm:IntKind.u64.wrap ((g:Int)-1)=g':=by rw[IntKind.wrap_u64];omega
     have GH:Hid _:=hg'
     have hsum:g'*top+(r+top)=h:=by rw[← ET.out.1,hg',Nat.add_mul];omega
     have BA:Hid _:=hsum
     have HT1:Hid (val us<(g'+1)*(2^(32*jj)*(b*2^e))):=by rw[← GH.out];exact Kb.out g r ET.out.1 (by rw[← uI.out,← uJ.out];exact hpq)
     clear EU hpe hqe hpq
    case' pos=>
     rw[show decide (4294967295<g)=true from by simp;omega] at ym
     obtain⟨g',hg'⟩:∃ g',g=g'+1:=⟨g-1,by omega⟩
     have hgm:IntKind.u64.wrap ((g:Int)-1)=g':=by rw[IntKind.wrap_u64];omega
     have GH:Hid _:=hg'
     have hsum:g'*top+(r+top)=h:=by rw[← ET.out.1,hg',Nat.add_mul];omega
     have BA:Hid _:=hsum
     have HT1:Hid (val us<(g'+1)*(2^(32*jj)*(b*2^e))):=by rw[← GH.out];exact Ka.out g hg
    all_goals as_aux_lemma=>
     by_cases hr:4294967295<r+top
     ·rw[show decide (4294967295<r+top)=true from by simp;omega] at yo
      have hbr:=K9.out g' (r+top) BA.out (by omega)
      have HT2:Hid (g'*(2^(32*jj)*(b*2^e))<val us+2^(32*jj)*(b*2^e)):=hbr.2
      have hgt:g'<4294967296:=hbr.1
      clear hr hg hg' hsum hbr
      go_wp2_with fail
      clear ym yo hgm hc2 hgi
      obtain⟨gt,vV⟩:∃ gt:Nat,gt=g':=⟨g',rfl⟩
      rw[← vV] at HT1 HT2 hgt ⊢
      clear vV
      as_aux_lemma=>
       have Kc:(gt:Int)≤4294967295:=by omega
       go_loopw [22,23,24] (fun vc vd vi w2=>∃ (i c d:Nat) (fE:List Nat),i≤n∧vi= .int .i64 i∧vc= .int .u64 c∧vd= .int .u64 d∧c<4294967296∧d≤1∧DS w w2 bu bq bv ov fE qs vl∧AW us fE vl jj n0 i gt c d) (fun _ _ vi _=>n-(intOf vi).toNat)
       case atStart=>exact⟨0,0,0,us,Nat.zero_le _,rfl,rfl,rfl,by omega,by omega,lH.out,AW.start Og.out⟩
       case round=>
        obtain⟨i,c,d,fE,hi,rfl,rfl,rfl,hc,hd,hds,haw⟩:=hrel
        have HD2:Hid (DS w wr bu bq bv ov fE qs vl):=hds
        have Br:Hid _:=haw
        have hl2:fE.length=j+2:=haw.1.trans nU.out
        clear hds haw lH
        have hci:(c:Int)≤4294967295:=by omega
        have hdi:(d:Int)≤1:=by omega
        have hib:(i:Int)≤300002:=by omega
        by_cases hin:i<n
        ·as_aux_lemma=>
          have oF:decide (i<n)=true:=by simp;omega
          have hcv:=DS.cv (vl:=vl) HD2.out (i:=i) (by rw[nD.out];have:=fF.out;omega)
          have iL:i+jj<fE.length:=by have h1:=oD.out;omega
          have uk:=Own.cell (DS.u HD2.out:Own wr bu fE) (i:=i+jj) iL
          have hfu:=Own.frozen (DS.u HD2.out:Own wr bu fE) (i:=i+jj) iL
          have hy:=q04 Bo.out i
          have hx:=q04 (DS.u HD2.out:Own wr bu fE).1 (i+jj)
          obtain⟨p,lo,t0,tt,rr,d',c',q1,q2,q3,q4,q5,q6,q7,q8,q9,EX,EY,EZ,F5⟩:=q9T gt c d _ _ hgt hc hd hx hy
          have HST:Hid _:=AW.step Br.out (by have:=fF.out;omega) qd.out F5
          have ic:Hid (d'≤1):=EX
          have lC:Hid (c'<2^32):=EY
          have lD:Hid (rr<2^32):=EZ
          generalize vl.getD i 0=y at *
          generalize fE.getD (i+jj) 0=x at *
          have hyi:(y:Int)≤4294967295:=by omega
          have hxi:(x:Int)≤4294967295:=by omega
          have hpi:(p:Int)≤18446744065119617025:=by omega
          have Ke:(lo:Int)≤4294967295:=by omega
          have Bt:i+jj<j+2:=by omega
          have hin1:i+1≤n:=hin
          have F6:n-(i+1)<n-i:=by omega
          have zl:Hid (i+jj<fE.length):=iL
          clear q2 q4 EX EY EZ F5 hx hy hc hd hin iL
          go_wp2_with fail
          go_roundw
          case rel=>exact⟨i+1,c',d',fE.set (i+jj) rr,hin1,by go_num,rfl,rfl,lC.out,ic.out,DS.setU HD2.out (i+jj) rr zl.out lD.out,HST.out⟩
          case measure=>simp only[intOf];omega
        ·as_aux_lemma=>
          have oF:decide (i<n)=false:=by simp;omega
          have hie:i=n0+2:=by have:=fF.out;omega
          rw[hie] at Br
          have jY:jj+n<fE.length:=by have h1:=oD.out;omega
          have uk:=Own.cell (DS.u HD2.out:Own wr bu fE) (i:=jj+n) jY
          have hfu:=Own.frozen (DS.u HD2.out:Own wr bu fE) (i:=jj+n) jY
          have hx:=q04 (DS.u HD2.out:Own wr bu fE).1 (jj+n)
          obtain⟨t0,tt,rr,d',q1,q2,q3,q4,q5,q6,q7⟩:=q5w c d _ hc hd hx
          have jo:=AW.fin Br.out nD.out xN.out qd.out (r:=rr) (d':=d') (by rw[← fF.out];exact q7)
          rw[← fF.out] at jo
          have HD3:Hid (DS w (wr.setCell ⟨bu,jj+n,none⟩ (.int .u32 (rr:Int))) bu bq bv ov (fE.set (jj+n) rr) qs vl):=DS.setU HD2.out (jj+n) rr jY q6
          have hxi:(fE.getD (jj+n) 0:Int)≤4294967295:=by omega
          obtain⟨hf1,hf2,hf3⟩:=jo
          have HA1:Hid _:=hf1
          have qc:Hid _:=hf2
          have Bu:Hid _:=hf3
          generalize fE.getD (jj+n) 0=x at *
          have mo:Hid _:=q7
          have hqj:jj<qs.length:=by rw[CE.out];omega
          have hgw:IntKind.u32.wrap (gt:Int)=gt:=by rw[IntKind.wrap_u32];omega
          have Ao:Hid (gt<2^32):=hgt
          have xE:Hid (d'≤1):=q5
          by_cases hd':d'=0
          ·subst hd'
           have hcq:=Own.cell (DS.q HD3.out) (i:=jj) hqj
           have Kg:=Own.frozen (DS.q HD3.out) (i:=jj) hqj
           have xh:Hid _:=DInv.right mi.out (by omega) HA1.out HT1.out Bu.out
           clear hf1 hf2 hf3 q6 q7 q5 hx hc hd hin hie
           go_wp2_with fail
           go_roundw
           case rel=>exact⟨jj,fE.set (jj+n) rr,qs.set jj gt,by omega,by go_num,DS.setQ HD3.out jj gt hqj Ao.out,xh.out⟩
           case measure=>simp [intOf]
          ·obtain rfl:d'=1:=by omega
           have hpos:0<gt:=by
            rcases Nat.eq_zero_or_pos gt with h0|h0
            ·exfalso
             have h1:=Bu.out
             rw[h0,Nat.zero_mul,Nat.add_zero,Nat.mul_one] at h1
             have h2:=q4h (DS.u HD3.out).1 qc.out
             rw[h1] at h2
             exact absurd h2 (Nat.not_lt.2 (Nat.le_add_left _ _))
            ·exact h0
           obtain⟨gm,hgm⟩:∃ gm,gt-1=gm:=⟨_,rfl⟩
           have Kh:IntKind.u64.wrap ((gt:Int)-1)=gm:=by rw[IntKind.wrap_u64];omega
           have F7:IntKind.u32.wrap (gm:Int)=gm:=by rw[IntKind.wrap_u32];omega
           have Ki:Hid _:=hgm
           have Bv:Hid (gm<2^32):=by show gm<2^32;omega
           have F8:Hid (BK (fE.set (jj+n) rr) (fE.set (jj+n) rr) vl jj n0 0 0):=BK.start (us:=fE.set (jj+n) rr) (vl:=vl) qc.out
           clear hf1 hf2 hf3 q6 q7 q5 hx hc hd hin hie hd' hpos hgm
           go_wp2_with fail
           as_aux_lemma=>
            clear uk hfu q1 q2 q3 q4
            generalize Bw:wr.setCell ⟨bu,jj+n,none⟩ (.int .u32 (rr:Int))=w3 at *
            clear Bw
            generalize vW:fE.set (jj+n) rr=F9 at *
            have Kj:Hid _:=vW
            clear vW oF
            go_loopw [22,27] (fun vc vi w4=>∃ (i c:Nat) (fP:List Nat),i≤n∧vi= .int .i64 i∧vc= .int .u64 c∧c≤1∧DS w w4 bu bq bv ov fP qs vl∧BK F9 fP vl jj n0 i c) (fun _ vi _=>n-(intOf vi).toNat)
            case atStart=>exact⟨0,0,F9,Nat.zero_le _,rfl,rfl,by omega,HD3.out,F8.out⟩
            case round=>
             obtain⟨i,c,fP,hi,rfl,rfl,hc,hds,hbk⟩:=hrel
             have HD4:Hid (DS w wr bu bq bv ov fP qs vl):=hds
             have Bz:Hid _:=hbk
             have hl4:fP.length=j+2:=hbk.1.trans (HA1.out.trans nU.out)
             clear hds hbk F8
             have hci:(c:Int)≤1:=by omega
             have hib:(i:Int)≤300002:=by omega
             by_cases hin:i<n
             ·as_aux_lemma=>
               have oF:decide (i<n)=true:=by simp;omega
               have hcv:=DS.cv (vl:=vl) HD4.out (i:=i) (by rw[nD.out];have:=fF.out;omega)
               have iL:i+jj<fP.length:=by have h1:=oD.out;omega
               have uk:=Own.cell (DS.u HD4.out:Own wr bu fP) (i:=i+jj) iL
               have hfu:=Own.frozen (DS.u HD4.out:Own wr bu fP) (i:=i+jj) iL
               have hy:=q04 Bo.out i
               have hx:=q04 (DS.u HD4.out:Own wr bu fP).1 (i+jj)
               obtain⟨oG,c',q1,q2,q3,q4,q5⟩:=q9R c _ _ hc hx hy
               have HST:Hid _:=BK.step Bz.out (by have:=fF.out;omega) (by rw[HA1.out];exact qd.out) q5
               have Kk:Hid (c'≤1):=q3
               have Kl:Hid (oG<2^32):=q4
               generalize vl.getD i 0=y at *
               generalize fP.getD (i+jj) 0=x at *
               have hyi:(y:Int)≤4294967295:=by omega
               have hxi:(x:Int)≤4294967295:=by omega
               have Bt:i+jj<j+2:=by omega
               have hin1:i+1≤n:=hin
               have zl:Hid (i+jj<fP.length):=iL
               have vX:bu<wr.heap.size:=(DS.u HD4.out:Own wr bu fP).2.1
               have Km:bv<wr.heap.size:=by omega
               clear q3 q4 q5 hx hy hc hin iL
               go_wp2_with fail
               refine q0d (by kernel_rfl) (by kernel_rfl) ?_
               intro W hW
               have tX:=q08 (w:=W) (a:=⟨bu,i+jj,none⟩) (x:= .int .u32 (x:Int)) (by rw[hW];first|(simp;done)|(simp;omega)|omega) (by rw[hW];first|assumption|(simp [go_sem];done)|(simp [*,go_sem];done))
               have hq8:=q08 (w:=W) (a:=⟨bv,ov+i,none⟩) (x:= .int .u32 (y:Int)) (by rw[hW];first|(simp;done)|(simp;omega)|omega) (by rw[hW];first|assumption|(simp [go_sem];done)|(simp [*,go_sem];done))
               clear hW
               repeat (go_big_quiet_step (fail))
               refine wpQuiet_nil ?_
               clear tX hq8
               intro Kn oH
               have HD5:Hid (DS w Kn bu bq bv ov fP qs vl):=DS.grow HD4.out oH
               have Ko:=oH.cell vX uk
               have Kq:=oH.frozen vX hfu
               clear uk hfu hcv oH
               go_wp2_with fail
               go_roundw
               case rel=>exact⟨i+1,c',fP.set (i+jj) oG,hin1,by go_num,rfl,Kk.out,DS.setU HD5.out (i+jj) oG zl.out Kl.out,HST.out⟩
               case measure=>simp only[intOf];omega
             ·as_aux_lemma=>
               have oF:decide (i<n)=false:=by simp;omega
               have hie:i=n0+2:=by have:=fF.out;omega
               rw[hie] at Bz
               have jY:jj+n<fP.length:=by have h1:=oD.out;omega
               have uk:=Own.cell (DS.u HD4.out:Own wr bu fP) (i:=jj+n) jY
               have hfu:=Own.frozen (DS.u HD4.out:Own wr bu fP) (i:=jj+n) jY
               have hx:=q04 (DS.u HD4.out:Own wr bu fP).1 (jj+n)
               obtain⟨oG,kk,q1,q2,q3⟩:=q81 c (fP.getD (jj+n) 0)
               have jo:=BK.fin Bz.out nD.out xN.out (by rw[HA1.out];exact qd.out) (r:=oG) (k:=kk) (by rw[← fF.out];exact q3)
               rw[← fF.out] at jo
               have HD5:Hid (DS w (wr.setCell ⟨bu,jj+n,none⟩ (.int .u32 (oG:Int))) bu bq bv ov (fP.set (jj+n) oG) qs vl):=DS.setU HD4.out (jj+n) oG jY q2
               have hxi:(fP.getD (jj+n) 0:Int)≤4294967295:=by omega
               have vY:b*2^e<2^(32*(n0+2)):=nN.out
               have hDB:=DInv.back mi.out (by omega) (jo.1.trans HA1.out) HT1.out HT2.out vY (DS.u HD3.out).1 qc.out Bu.out (DS.u HD5.out).1 jo.2.1 jo.2.2
               rw[Ki.out] at hDB
               have xh:Hid _:=hDB.1
               generalize fP.getD (jj+n) 0=x at *
               have hcq:=Own.cell (DS.q HD5.out) (i:=jj) hqj
               have Kg:=Own.frozen (DS.q HD5.out) (i:=jj) hqj
               have hcw:IntKind.u32.wrap (c:Int)=c:=by rw[IntKind.wrap_u32];omega
               clear jo hDB vY q2 q3 hx hc hin hie
               go_wp2_with fail
               go_roundw
               case rel=>exact⟨jj,fP.set (jj+n) oG,qs.set jj gm,by omega,by go_num,DS.setQ HD5.out jj gm hqj Bv.out,xh.out⟩
               case measure=>simp [intOf]
     ·rw[show decide (4294967295<r+top)=false from by simp;omega] at yo
      have hrn:r+top<4294967296:=by omega
      have hgn:g'≤4294967297:=by omega
      clear hr hg hg' hsum
      go_wp2_with fail
      go_roundw
      case rel=>exact⟨g',r+top,rfl,by go_num,hgn,hrn,⟨BA.out,HT1.out⟩,lH.out⟩
      case measure=>have:=GH.out;simp only[intOf];omega
