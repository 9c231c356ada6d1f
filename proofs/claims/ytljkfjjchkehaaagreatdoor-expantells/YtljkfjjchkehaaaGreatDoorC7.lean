/- What is proved here: contracts of the reference's big numbers: div, word by word from above, over this seat's translation. -/
import Derived.Test.YtljkfjjchkehaaaGreatDoorC6
namespace Go.Proofs.YtljkfjjchkehaaaGreatDoor
open Go.ChangeShapes Go.WideShapes Go.ChangeAt Go.RowKit
open BN
/-- A call hands back the canonical slices of two numbers. -/
def q2Q (w:World) (x y:Nat) (e:Ending) (w':World):Prop:=∃ v u,e= .returned (.tuple #[v,u])∧G w w'∧Num w' v x∧Num w' u y
/-- A slice of n words whose number has its highest bit. -/
theorem qal {w:World} {v:Value} {V n0:Nat} (h:Num w v V) (h1:2^(32*(n0+1)+31)≤V) (h2:V<2^(32*(n0+1+1))):
  ∃ (b o c:Nat) (l:List Nat),v= .slice (some ⟨b,o,none⟩) (n0+2:Nat) c∧n0+2≤c∧b<w.heap.size∧okw l∧l.length=n0+2∧val l=V∧Row w b o l∧2^31≤l.getD (n0+1) 0:=by
 obtain⟨l,hl,hc,rfl⟩:=h
 have h3:=q05 hc h2
 have h4:=q0s hc.1
 have h5:2^(32*(n0+1))<2^(32*l.length):=Nat.lt_of_le_of_lt (Nat.le_trans (Nat.pow_le_pow_right (by omega) (by omega)) h1) h4
 have h6:=(Nat.pow_lt_pow_iff_right (by omega:1<2)).1 h5
 have h7:l.length=n0+2:=by omega
 rcases Sl.cases hl with ⟨rfl,-⟩|⟨-,b,o,c,rfl,hcc,hb,hr⟩
 ·simp at h7
 ·refine⟨b,o,c,l,by rw[h7],by omega,hb,hc.1,h7,rfl,hr,?_⟩
  have h8:=q0x (l:=l) (k:=n0+1) (by omega)
  rw[List.drop_eq_nil_of_le (by omega)] at h8
  simp only[val,Nat.mul_zero,Nat.add_zero] at h8
  have h9:=q0p hc.1 (n0+1) (by omega)
  rw[Nat.pow_add] at h1
  rcases Nat.lt_or_ge (l.getD (n0+1) 0) (2^31) with h|h
  ·exfalso
   have:2^(32*(n0+1))*(l.getD (n0+1) 0+1)≤2^(32*(n0+1))*2^31:=Nat.mul_le_mul_left _ h
   rw[Nat.mul_add,Nat.mul_one] at this
   omega
  ·exact h
theorem qbV {w:World} {v:Value} {V:Nat} (h:Num w v V) (h0:V≠0) (k:Nat) (hk:V<2^(32*k)):
  ∃ (b o c:Nat) (l:List Nat),v= .slice (some ⟨b,o,none⟩) l.length c∧l.length≤c∧b<w.heap.size∧okw l∧l.length≤k∧val l=V∧Row w b o l:=by
 obtain⟨l,hl,hc,rfl⟩:=h
 rcases Sl.cases hl with ⟨rfl,-⟩|⟨-,b,o,c,rfl,hcc,hb,hr⟩
 ·exact absurd rfl h0
 ·exact⟨b,o,c,l,rfl,hcc,hb,hc.1,q05 hc hk,rfl,hr⟩
theorem q2k {w:World} {b o:Nat} {l:List Nat} (h:Row w b o l):∀ j v,(l.map fun d=>Value.int .u32 (d:Nat))[j]? =some v→w.cell? ((⟨b,o,none⟩:Addr).add j)=some v:=by
 intro j u hj
 rw[List.getElem?_map] at hj
 obtain⟨d,hd,rfl⟩:=Option.map_eq_some_iff.1 hj
 have:=h j (List.getElem?_eq_some_iff.1 hd).1
 rw[List.getD_eq_getElem?_getD,hd] at this
 rw[addr_add]
 exact this
theorem q2r (l:List Nat):∀ u∈(l.map fun d=>Value.int .u32 (d:Nat)),u.oneCell'=true:=by
 intro u hu
 obtain⟨d,-,rfl⟩:=List.mem_map.1 hu
 rfl
theorem Row.setCells {b o c:Nat} {l:List Nat} (hb:b≠c):∀ (cs:List Value) (w:World) (i:Nat),Row w b o l→Row (w.setCells c i cs) b o l
 |[],_,_,h=>h
 |v::cs,_,i,h=>Row.setCells hb cs _ _ (h.set (i:=i) (u:=v) hb)
set_option maxRecDepth 10000 in
set_option maxHeartbeats 8000000 in
theorem q7I (w:World) (va vb:Value) (a b K:Nat) (hK:K≤300000) (ha:Num w va a) (hb:Num w vb b) (ha2:a<2^(32*K)) (hba:b≤a) (hbig:2^64≤a) (hb2:2^32≤b):
  Calls Tryz.prog 136 #[va,vb] w (q2Q w (a/b) (a%b)):=by
 have hA':=ha
 have hB':=hb
 obtain⟨l,hl,hcl,hvl⟩:=ha
 obtain⟨m,hm,hcm,hvm⟩:=hb
 have hll:=q05 hcl (hvl▸ha2)
 have hl2:2<l.length:=by
  rcases Nat.lt_or_ge 2 l.length with h|h
  ·exact h
  ·have h1:=q0s hcl.1
   have h2:2^(32*l.length)≤2^64:=Nat.pow_le_pow_right (by omega) (by omega)
   omega
 have hm2:1<m.length:=by
  rcases Nat.lt_or_ge 1 m.length with h|h
  ·exact h
  ·have h1:=q0s hcm.1
   have h2:2^(32*m.length)≤2^32:=Nat.pow_le_pow_right (by omega) (by omega)
   omega
 have hml:m.length≤l.length:=by
  rcases Nat.lt_or_ge l.length m.length with h|h
  ·have:=q0F hcl hcm h;omega
  ·exact h
 obtain⟨n0,hn0⟩:∃ n0,m.length=n0+2:=⟨m.length-2,by omega⟩
 obtain⟨k,hk1,hk2,hkb,hV1,hV2⟩:=q3b hcm (n:=n0+1) (by omega)
 obtain⟨pa,ca,rfl,hca,hra⟩:=q0o hl
 obtain⟨pb,cb,rfl,hcb,hrb⟩:=q0o hm
 have HCmp:Hid _:=q2U w _ _ a b K (by omega) hA' hB' ha2 (by omega)
 have HLen:Hid (∀ w1,G w w1→_):=fun w1 g=>q5U w1 _ b K (by omega) (hB'.G g) (by omega)
 have HLb:Hid (∀ w1,G w w1→_):=fun w1 g=>q23 w1 _ b (32-k) K (by omega) (by omega) (hB'.G g) (by omega)
 have HLa:Hid (∀ w1,G w w1→_):=fun w1 g=>q23 w1 _ a (32-k) K (by omega) (by omega) (hA'.G g) ha2
 rw[hvm] at hkb hV1 hV2
 have hc:decide (cmpV a b<0)=false:=by rw[decide_eq_false_iff_not];unfold cmpV;rw[if_neg (by omega)];split<;>omega
 generalize cmpV a b=cv at *
 generalize hjl:l.length=j at *
 generalize hjn:m.length=n at *
 rw[hkb] at HLen
 have HA:Hid _:=hra
 have HB:Hid _:=hrb
 have HJ:Hid _:=hjl
 have HCL:Hid _:=hcl
 have HCM:Hid _:=hcm
 have HVL:Hid _:=hvl
 have HVM:Hid _:=hvm
 have HN0:Hid _:=hn0
 have HJN:Hid _:=hjn
 have hnb2:(2:Int)≤n:=by omega
 have HBA:Hid _:=hba
 have HA2:Hid _:=ha2
 have HAN:Hid _:=hA'
 have HBN:Hid _:=hB'
 have t1:decide ((j:Int)≤2)=false:=by simp;omega
 have t2:((n:Int)==0)=false:=by simp;omega
 have t3:((n:Int)==1)=false:=by simp;omega
 have hjb:(j:Int)≤300000:=by omega
 have hnb:(n:Int)≤j:=by omega
 have hkb1:(1:Int)≤k:=by omega
 have hkb2:(k:Int)≤32:=by omega
 obtain⟨mm,hmm⟩:∃ mm,j+1=n+mm:=⟨j+1-n,by omega⟩
 have hm1:(j:Int)+2-n-1=mm:=by omega
 have hmm1:(1:Int)≤mm:=by omega
 have hmmb:(mm:Int)≤300000:=by omega
 have hmk1:=q1h (j+2) (by omega)
 rw[show ((j+2:Nat):Int)=(j:Int)+2 from by omega] at hmk1
 have hmk2:=q1h (mm+1) (by omega)
 rw[show ((mm+1:Nat):Int)=(mm:Int)+1 from by omega] at hmk2
 have HMM:Hid _:=hmm
 obtain⟨e,he⟩:∃ e:Nat,e=32-k:=⟨_,rfl⟩
 rw[← he] at HLa HLb hV1 hV2
 have hs:32-((((32*(n0+1)+k:Nat):Int)-1)%32)-1=e:=by omega
 have heb:(e:Int)≤31:=by omega
 have hLb:((32*(n0+1)+k:Nat):Int)≤20000000:=by omega
 have hLb1:(1:Int)≤((32*(n0+1)+k:Nat):Int):=by omega
 generalize 32*(n0+1)+k=L at *
 have HV1:Hid _:=hV1
 have HV2:Hid _:=hV2
 have hae:a*2^e≠0:=by have:=Nat.two_pow_pos e;have:0<a:=by omega
                      exact Nat.pos_iff_ne_zero.1 (Nat.mul_pos this (by assumption))
 have haj:a*2^e<2^(32*(j+1)):=by
  have h1:=q0s hcl.1
  rw[hvl,hjl] at h1
  have h2:a*2^e<2^(32*j)*2^e:=Nat.mul_lt_mul_of_pos_right h1 (Nat.two_pow_pos _)
  have h3:2^(32*j)*2^e≤2^(32*(j+1)):=by rw[← Nat.pow_add];exact Nat.pow_le_pow_right (by omega) (by omega)
  omega
 have HA0:Hid _:=hae
 have HB0:Hid (0<b):=Nat.lt_of_lt_of_le (by omega) hb2
 have HAJ:Hid _:=haj
 have HAJ2:Hid (a*2^e<2^(32*(n0+1+(mm+1)))):=by
  have h1:j+1=n0+1+(mm+1):=by omega
  rw[h1] at haj;exact haj
 clear hae haj
 clear hV1 hV2 hra hrb hjl hcl hcm hvl hvm hn0 hjn hba ha2 hA' hB' hl hm hkb hK hbig hb2 hll hl2 hm2 hml hk1 hk2 hmm he hkb1 hkb2
 clear HCL HCM HVL HVM HAN HBN
 go_enter Tryz.func136,Tryz.ntmps136
 go_wp2_with fail
 refine Calls.mono (P:=Tryz.prog) HCmp.out ?_
 rintro e1 w1 ⟨rfl,hg1⟩
 go_wp2_with fail
 refine Calls.mono (P:=Tryz.prog) (HLen.out w1 hg1) ?_
 rintro e1 w2 ⟨rfl,hg2⟩
 have hG2:=G.trans hg1 hg2
 go_wp2_with fail
 refine Calls.mono (P:=Tryz.prog) (HLb.out w2 hG2) ?_
 rintro e1 w3 ⟨v1,rfl,hg3,hn3⟩
 obtain⟨bv,ov,cv2,vl,rfl,hvc,hvb,hvo,hvlen,hvv,hvr,hvt⟩:=qal hn3 HV1.out HV2.out
 rw[← HN0.out] at hvc
 rw[← HN0.out]
 have hG3:=G.trans hG2 hg3
 have HVR:Hid _:=hvr
 have HVO:Hid _:=hvo
 have HVL:Hid _:=hvlen
 have HVV:Hid _:=hvv
 have HVT:Hid _:=hvt
 clear hvr hvo hvlen hvv hvt hn3 hg1 hg2 hg3 hG2
 go_wp2_with fail
 have hgm:G w3 (w3.alloc (.cells (madeCells #[.int .u32 0] (j+2)) 173)):=(G.refl _).alloc _
 have HOM:Hid _:=q0D w3 (j+2) 173
 have hle:w.heap.size≤w3.heap.size:=hG3.size
 refine Calls.mono (P:=Tryz.prog) (HLa.out _ (G.trans hG3 hgm)) ?_
 rintro e1 w4 ⟨v2,rfl,hg4,hn4⟩
 have HO4:Hid (Own w4 w3.heap.size (List.replicate (j+2) 0)):=Own.grow HOM.out hg4
 have hG4:G w w4:=G.trans (G.trans hG3 hgm) hg4
 have HVR4:Hid (Row w4 bv ov vl):=Row.G (l:=vl) HVR.out hvb (G.trans hgm hg4)
 clear hgm hg4 HOM hG3
 generalize w3.heap.size=bu at *
 obtain⟨bl,ol,cl,la,rfl,hlc,hlb,hlo,hlj,hlv,hlr⟩:=qbV hn4 (HA0.out) (j+1) HAJ.out
 obtain⟨cs,hcs⟩:∃ cs,cs=la.map (fun d=>Value.int .u32 (d:Nat)):=⟨_,rfl⟩
 have hcl:cs.length=la.length:=by rw[hcs,List.length_map]
 have hsrc:=q2k hlr
 have h1c:=q2r la
 rw[← hcs] at hsrc h1c
 have HOC:Hid _:=Own.cells (o:=0) HO4.out hlo (by simp;omega)
 rw[← hcs] at HOC
 have hccell:∀ i,i<cs.length→(w4.cell? ⟨bu,0+i,none⟩).isSome=true:=fun i hi=>by
  rw[Nat.zero_add,Own.cell (l:=List.replicate (j+2) 0) HO4.out (by simp;omega)];rfl
 have hcfro:∀ i,i<cs.length→w4.frozen? ⟨bu,0+i,none⟩=false:=fun i hi=>by
  rw[Nat.zero_add];exact Own.frozen (l:=List.replicate (j+2) 0) HO4.out (by simp;omega)
 have hmin:cs.length=Nat.min la.length (j+2):=by rw[hcl];exact(Nat.min_eq_left (by omega)).symm
 have hval:val ((List.replicate (j+2) 0).take 0++(la++(List.replicate (j+2) 0).drop (0+la.length)))=a*2^e:=by
  rw[List.take_zero,List.nil_append,val_append,List.drop_replicate,q1M,hlv];simp
 have hlen:((List.replicate (j+2) 0).take 0++(la++(List.replicate (j+2) 0).drop (0+la.length))).length=j+2:=by simp;omega
 generalize (List.replicate (j+2) 0).take 0++(la++(List.replicate (j+2) 0).drop (0+la.length))=us at *
 have hrun:=run_copy_cells (P:=Tryz.prog) w4 36 36 3 173 bu 0 (j+2) (j+2) ⟨bl,ol,none⟩ la.length cl cs Tryz.underlying36 (by kernel_rfl) hmin hsrc hccell hcfro h1c
 have hG5:G w (w4.setCells bu 0 cs):=G.setCells hle cs _ _ hG4
 have HVR5:Hid (Row (w4.setCells bu 0 cs) bv ov vl):=Row.setCells (by omega) cs _ _ HVR4.out
 generalize hw5:w4.setCells bu 0 cs=w5 at *
 have HUV:Hid _:=hval
 have HUL:Hid _:=hlen
 clear hn4 hlc hlb hlo hlj hlv hlr hcs hcl hsrc h1c hccell hcfro hmin hval hlen hG4 HVR4 HO4 HVR HAJ HA0 hw5
 go_wp2_with fail
 have HOQ:Hid _:=q0D w5 (mm+1) 173
 have hgq:G w5 (w5.alloc (.cells (madeCells #[.int .u32 0] (mm+1)) 173)):=(G.refl _).alloc _
 have hbu5:bu<w5.heap.size:=(HOC.out:Own w5 bu us).2.1
 have HDS:Hid (DS w _ bu w5.heap.size bv ov us (List.replicate (mm+1) 0) vl):=DS.mk (G.trans hG5 hgq) hle hvb hbu5 (Own.grow HOC.out hgq) HOQ.out (Row.G (l:=vl) HVR5.out (by omega) hgq)
 generalize w5.heap.size=bq at *
 have hsz:bq<(w5.alloc (.cells (madeCells #[.int .u32 0] (mm+1)) 173)).heap.size:=(HDS.out:DS w _ bu bq bv ov us (List.replicate (mm+1) 0) vl).q.2.1
 generalize w5.alloc (.cells (madeCells #[.int .u32 0] (mm+1)) 173)=w6 at *
 have hbu6:bu<bq:=hbu5
 clear HOQ hgq HOC HVR5 hG5 hbu5
 obtain⟨p1,hp1⟩:∃ p1,p1=n0+1:=⟨_,rfl⟩
 have hn1:(n:Int)-1=p1:=by have:=HN0.out;omega
 have hn2:(n:Int)-2=n0:=by have:=HN0.out;omega
 have HP1:Hid _:=hp1
 have hct:w6.cell? ⟨bv,ov+p1,none⟩=some (.int .u32 (vl.getD p1 0:Nat)):=DS.cv (vl:=vl) HDS.out (by rw[HVL.out,hp1];omega)
 have hcn:w6.cell? ⟨bv,ov+n0,none⟩=some (.int .u32 (vl.getD n0 0:Nat)):=DS.cv (vl:=vl) HDS.out (by rw[HVL.out];omega)
 have hto:vl.getD p1 0<2^32:=q04 HVO.out p1
 have hno:vl.getD n0 0<2^32:=q04 HVO.out n0
 have hVT:2^31≤vl.getD p1 0:=by rw[hp1];exact HVT.out
 have HFD:Hid (∀ us jj,okw us→jj+n0+2<us.length→val us<2^(32*(jj+1))*(b*2^e)→_):=fun us jj h1 h2 h3=>q59 h1 HVO.out HVL.out HVV.out h2 h3
 clear HVT
 rw[← hp1] at HFD
 have hpn:p1<n:=by have:=HN0.out;omega
 have hn0n:n0<n:=by have:=HN0.out;omega
 clear hp1
 generalize htop:vl.getD p1 0=top at *
 generalize hnext:vl.getD n0 0=next at *
 clear htop hnext
 have htop:(2147483648:Int)≤top:=by omega
 have htop2:(top:Int)≤4294967295:=by omega
 have hnext2:(next:Int)≤4294967295:=by omega
 have htopn:((top:Int)==0)=false:=by simp;omega
 clear hto hno hVT
 have hvb6:bv<w6.heap.size:=by omega
 refine q0c (by kernel_rfl) (by kernel_rfl) ?_
 intro W hW
 have hq1:=q08 (w:=W) (a:=⟨bv,ov+p1,none⟩) (x:= .int .u32 (top:Int)) (by rw[hW];first|(simp;done)|(simp;omega)|omega) (by rw[hW];first|assumption|(simp [go_sem];done)|(simp [*,go_sem];done))
 have hq2:=q08 (w:=W) (a:=⟨bv,ov+n0,none⟩) (x:= .int .u32 (next:Int)) (by rw[hW];first|(simp;done)|(simp;omega)|omega) (by rw[hW];first|assumption|(simp [go_sem];done)|(simp [*,go_sem];done))
 clear hW
 repeat (go_big_quiet_step (fail))
 refine wpQuiet_nil ?_
 clear hq1 hq2
 intro w7 hw7
 have HD7:Hid (DS w w7 bu bq bv ov us (List.replicate (mm+1) 0) vl):=DS.grow HDS.out hw7
 have HIS:Hid _:=DInv.start (n0:=n0) (M:=mm+1) HUL.out HUV.out HAJ2.out HV1.out
 clear hct hcn HDS hw7 hsz hvb6
 go_wp2_with fail
 go_loopw [18] (fun vj wr=>∃ (t:Nat) (us qs:List Nat),t≤mm+1∧vj= .int .i64 ((t:Int)-1)∧DS w wr bu bq bv ov us qs vl∧DInv us qs t (j+2) (mm+1) (b*2^e) (a*2^e)) (fun vj _=>(intOf vj+1).toNat)
 case atStart=>exact⟨mm+1,us,_,Nat.le_refl _,by congr 1;omega,HD7.out,HIS.out⟩
 case round=>
  obtain⟨t,us,qs,ht,rfl,hds,hinv⟩:=hrel
  have HDS:Hid _:=hds
  have HINV:Hid _:=hinv
  clear hds hinv HD7 HIS HUL HUV
  cases t with
  |zero=>
   as_aux_lemma=>
    have hfin:=DInv.fin HINV.out (Nat.two_pow_pos e) HB0.out
    obtain⟨hq2,hr2⟩:=hfin
    have HTQ:Hid (∀ w1,G wr w1→Calls Tryz.prog 137 #[.slice (some ⟨bq,0,none⟩) (mm+1) (mm+1)] w1 (q0h w1 (a/b))):=fun w1 g=>by
     rw[← hq2];exact q0G (Own.grow (DS.q HDS.out) g) HINV.out.2.1 (by omega)
    have HTU:Hid (∀ w1,G wr w1→Calls Tryz.prog 137 #[.slice (some ⟨bu,0,none⟩) (j+2) (j+2)] w1 (q0h w1 (val us))):=fun w1 g=>q0G (Own.grow (DS.u HDS.out) g) HINV.out.1 (by omega)
    have HRT:Hid (∀ w1 v,Num w1 v (val us)→Calls Tryz.prog 134 #[v,.int .u64 (e:Int)] w1 (q0h w1 (a%b))):=fun w1 v hn=>by
     rw[← hr2]
     exact q1K w1 v (val us) e (j+2) (by omega) (by omega) hn (by have:=q0s (DS.u HDS.out:Own wr bu us).1;rwa[HINV.out.1] at this)
    have hgw:=HDS.out.g
    have HGW:Hid _:=hgw
    clear hq2 hr2 hgw HLa HLb HLen HCmp HA HB
    go_wp2_with fail
    refine Calls.mono (P:=Tryz.prog) (HTQ.out wr (G.refl _)) ?_
    rintro e1 w1 ⟨v1,rfl,hg1,hn1⟩
    go_wp2_with fail
    refine Calls.mono (P:=Tryz.prog) (HTU.out w1 hg1) ?_
    rintro e1 w2 ⟨v2,rfl,hg2,hn2⟩
    go_wp2_with fail
    refine Calls.mono (P:=Tryz.prog) (HRT.out w2 v2 hn2) ?_
    rintro e1 w3 ⟨v3,rfl,hg3,hn3⟩
    go_wp2_with fail
    go_ret2
    exact⟨_,_,rfl,G.trans HGW.out (G.trans hg1 (G.trans hg2 hg3)),hn1.G (G.trans hg2 hg3),hn3⟩
  |succ jj=>
   have hul:us.length=j+2:=HINV.out.1
   have hql:qs.length=mm+1:=HINV.out.2.1
   have hjm:jj+n0+2<j+2:=by have:=HMM.out;have:=HN0.out;omega
   have hJ:(jj:Int)+n-1=((jj+p1:Nat):Int):=by omega
   have hJ2:(jj:Int)+n-2=((jj+n0:Nat):Int):=by omega
   have hjjb:(jj:Int)≤300000:=by omega
   have hjnb:jj+n<j+2:=by have:=HN0.out;omega
   have hjp:jj+p1<j+2:=by omega
   have hjn0:jj+n0<j+2:=by omega
   have hoku:=(DS.u HDS.out:Own wr bu us).1
   have hc0:=Own.cell (DS.u HDS.out:Own wr bu us) (i:=jj+n) (by omega)
   have hc1:=Own.cell (DS.u HDS.out:Own wr bu us) (i:=jj+p1) (by omega)
   have hc2:=Own.cell (DS.u HDS.out:Own wr bu us) (i:=jj+n0) (by omega)
   have hx0:=q04 hoku (jj+n)
   have hx1:=q04 hoku (jj+p1)
   have hx2:=q04 hoku (jj+n0)
   have hF:=HFD.out us jj hoku (by omega) HINV.out.2.2.1
   rw[show jj+n0+2=jj+n from by have:=HN0.out;omega,show jj+n0+1=jj+p1 from by have:=HP1.out;omega] at hF
   obtain⟨hf1,hf2,hf3,hf4,hf5,hf6,hf7⟩:=hF
   generalize us.getD (jj+n) 0=u0 at *
   generalize us.getD (jj+p1) 0=u1 at *
   generalize hu2:us.getD (jj+n0) 0=u2 at *
   have HU2:Hid _:=hu2
   clear hu2
   obtain⟨h,g0,r0,hw1,hh,hw2,hw3,hg0,hgr0,hr0,hgb0⟩:=qa9 u0 u1 top hx0 hx1 (by omega) hf1
   have hS0:val us<(g0+1)*(2^(32*jj)*(b*2^e)):=by
    rw[hg0]
    refine qb6 (u2:=u2) (P:=2^(32*(jj+n0))) (by rw[hh];exact hf5) hx2 (Nat.le_trans (Nat.mul_le_mul_right _ (by omega)) hf6) (by omega)
   have HS0:Hid (val us<(g0+1)*(2^(32*jj)*(b*2^e))):=hS0
   have HF1:Hid _:=hf1
   have HF2:Hid _:=hf2
   have HF3:Hid _:=hf3
   have HF4:Hid _:=hf4
   have HF5:Hid _:=hf5
   have HF6:Hid _:=hf6
   have HF7:Hid _:=hf7
   have HH:Hid _:=hh
   have HGR:Hid _:=hgr0
   have hx0b:(u0:Int)≤4294967295:=by omega
   have hx1b:(u1:Int)≤4294967295:=by omega
   have hx2b:(u2:Int)≤4294967295:=by omega
   have hr0b:(r0:Int)<top:=by omega
   have HX1:Hid (u1<2^32):=hx1
   have HX2:Hid (u2<2^32):=hx2
   have HG0B:Hid (g0≤4294967297):=hgb0
   have HJJN:Hid (jj+n<j+2):=hjnb
   have HUL:Hid _:=hul
   have HQL:Hid _:=hql
   have hbw:bu<wr.heap.size:=(DS.u HDS.out:Own wr bu us).2.1
   clear hS0 hf1 hf2 hf3 hf4 hf5 hf6 hf7 hh hgr0 hg0 hx0 hx1 hx2 hr0 hgb0 hoku hjm
   clear HLa HLb HLen HCmp HA HB
   go_wp2_with fail
   refine q0c (by kernel_rfl) (by kernel_rfl) ?_
   intro W hW
   have hq3:=q08 (w:=W) (a:=⟨bu,jj+n,none⟩) (x:= .int .u32 (u0:Int)) (by rw[hW];first|(simp;done)|(simp;omega)|omega) (by rw[hW];first|assumption|(simp [go_sem];done)|(simp [*,go_sem];done))
   have hq4:=q08 (w:=W) (a:=⟨bu,jj+p1,none⟩) (x:= .int .u32 (u1:Int)) (by rw[hW];first|(simp;done)|(simp;omega)|omega) (by rw[hW];first|assumption|(simp [go_sem];done)|(simp [*,go_sem];done))
   clear hW
   repeat (go_big_quiet_step (fail))
   refine wpQuiet_nil ?_
   clear hq3 hq4
   intro w8 hw8
   have HD8:Hid (DS w w8 bu bq bv ov us qs vl):=DS.grow HDS.out hw8
   have hc2':=hw8.cell (p:=⟨bu,jj+n0,none⟩) hbw hc2
   clear hc0 hc1 hc2 hw8 HDS
   go_wp2_with fail
   refine q0c (by kernel_rfl) (by kernel_rfl) ?_
   intro W hW
   clear hW
   repeat (go_big_quiet_step (fail))
   refine wpQuiet_nil ?_
   intro w9 hw9
   have HD9:Hid (DS w w9 bu bq bv ov us qs vl):=DS.grow HD8.out hw9
   have hbw8:bu<w8.heap.size:=(DS.u HD8.out:Own w8 bu us).2.1
   have hc2:=hw9.cell (p:=⟨bu,jj+n0,none⟩) hbw8 hc2'
   have hr0c:(r0:Int)≤4294967295:=by omega
   clear hc2' hw9 HD8 hbw8 hc2 hbw hw1 hw2
   have hgs0:GS (val us) (2^(32*jj)*(b*2^e)) h top g0 r0:=⟨HGR.out,HS0.out⟩
   have HGS0:Hid _:=hgs0
   have hr0d:r0<4294967296:=by omega
   clear hgs0
   have HW2:Hid (4294967296*2^(32*(jj+n0))≤2^(32*jj)*(b*2^e)):=Nat.le_trans (Nat.mul_le_mul_right _ (by omega)) HF6.out
   have HEND:Hid (∀ g r,g*top+r=h→g<2^32→g*next≤r*2^32+u2→g*(2^(32*jj)*(b*2^e))<val us+2^(32*jj)*(b*2^e)):=fun g r k1 k2 k3=>q6Y (h:=h) (by rw[HH.out];exact HF4.out) HF7.out HW2.out k1 k2 k3
   have HBRK:Hid (∀ g r,g*top+r=h→2^32≤r→g<2^32∧g*(2^(32*jj)*(b*2^e))<val us+2^(32*jj)*(b*2^e)):=fun g r k1 k2=>by
    obtain⟨k3,k4⟩:=q8a (u1:=u1) (u2:=u2) (next:=next) (by rw[HH.out];exact Nat.add_le_add_right (Nat.mul_le_mul_right _ HF1.out) _) HX1.out k1 k2 (by omega)
    exact⟨k3,HEND.out g r k1 k3 k4⟩
   have HGRT:Hid (∀ g,4294967295<g→val us<g*(2^(32*jj)*(b*2^e))):=fun g k1=>q57 HF3.out (by omega)
   have HSTP:Hid (∀ g r,g*top+r=h→r*2^32+u2<g*next→val us<g*(2^(32*jj)*(b*2^e))):=fun g r k1 k2=>q6M (P:=2^(32*(jj+n0))) (h:=h) (by rw[HH.out];exact HF5.out) HF6.out k1 k2
   have HULN:Hid (jj+n0+2<us.length):=by
    have h0:us.length=j+2:=HUL.out
    have h1:jj+n<j+2:=HJJN.out
    have h2:n=n0+2:=HN0.out
    show jj+n0+2<us.length
    omega
   have hne1:¬ bu=bq:=by omega
   have hne2:¬ bq=bu:=by omega
   clear HW2 HF1 HF3 HF4 HF5 HF6 HF7 HH HGR HS0
   go_wp2_with fail
   simp only[hw3]
   clear hw3
   go_loopw [20,21] (fun vg vr wr=>∃ g r:Nat,vg= .int .u64 g∧vr= .int .u64 r∧g≤4294967297∧r<4294967296∧GS (val us) (2^(32*jj)*(b*2^e)) h top g r∧DS w wr bu bq bv ov us qs vl) (fun vg _ _=>(intOf vg).toNat)
   case atStart=>exact⟨g0,r0,rfl,rfl,HG0B.out,by omega,HGS0.out,HD9.out⟩
   case round=>
    obtain⟨g,r,rfl,rfl,hgb,hrb,hgs,hds⟩:=hrel
    have HGS:Hid _:=hgs
    have HDS:Hid _:=hds
    clear hgs hds HD9 HGS0 hr0d hr0b hr0c
    have hc2:wr.cell? ⟨bu,jj+n0,none⟩=some (.int .u32 (us.getD (jj+n0) 0:Nat)):=Own.cell (DS.u HDS.out:Own wr bu us) (by have:=HUL.out;omega)
    rw[HU2.out] at hc2
    have hgi:(g:Int)≤4294967297:=by omega
    have hri:(r:Int)≤4294967295:=by omega
    have hgd0:decide ((4294967295:Int)<g)=decide (4294967295<g):=by congr 1;exact propext (by omega)
    have hrd0:decide ((4294967295:Int)<(r:Int)+top)=decide (4294967295<r+top):=by congr 1;exact propext (by omega)
    by_cases hg:4294967295<g
    case' neg=>
     rw[show decide (4294967295<g)=false from by simp;omega] at hgd0
     have hgm2:g*next≤4294967295*4294967295:=Nat.mul_le_mul (by omega) (by omega)
     obtain⟨p,hp,hpi,hpe⟩:∃ p:Nat,(g:Int)*next=p∧(p:Int)≤18446744065119617025∧p=g*next:=⟨g*next,by push_cast;rfl,by omega,rfl⟩
     obtain⟨q,hq,hqe⟩:∃ q:Nat,bits .or .u64 ((r:Int)*4294967296) (u2:Int)=q∧q=r*2^32+u2:=⟨_,q8F r u2 (by omega) HX2.out,rfl⟩
     have HPE:Hid _:=hpe
     have HQE:Hid _:=hqe
     by_cases hpq:q<p
     case neg=>
      have hpq0:decide (q<p)=false:=by simp;omega
      have HT2:Hid (g*(2^(32*jj)*(b*2^e))<val us+2^(32*jj)*(b*2^e)):=HEND.out g r HGS.out.1 (by omega) (by rw[← HPE.out,← HQE.out];omega)
      have HT1:Hid (val us<(g+1)*(2^(32*jj)*(b*2^e))):=HGS.out.2
      have hgt:g<4294967296:=by omega
      clear hgm2 hpe hqe hpq hrd0 hg hgi
      go_wp2_with fail
      clear hgd0 hp hq hpq0 hpi hc2
      obtain⟨gt,hgtv⟩:∃ gt:Nat,gt=g:=⟨g,rfl⟩
      rw[← hgtv] at HT1 HT2 hgt ⊢
      clear hgtv
      as_aux_lemma=>
       have hgti:(gt:Int)≤4294967295:=by omega
       go_loopw [22,23,24] (fun vc vd vi w2=>∃ (i c d:Nat) (us2:List Nat),i≤n∧vi= .int .i64 i∧vc= .int .u64 c∧vd= .int .u64 d∧c<4294967296∧d≤1∧DS w w2 bu bq bv ov us2 qs vl∧AW us us2 vl jj n0 i gt c d) (fun _ _ vi _=>n-(intOf vi).toNat)
       case atStart=>exact⟨0,0,0,us,Nat.zero_le _,rfl,rfl,rfl,by omega,by omega,HDS.out,AW.start HF2.out⟩
       case round=>
        obtain⟨i,c,d,us2,hi,rfl,rfl,rfl,hc,hd,hds,haw⟩:=hrel
        have HD2:Hid (DS w wr bu bq bv ov us2 qs vl):=hds
        have HAW:Hid _:=haw
        have hl2:us2.length=j+2:=haw.1.trans HUL.out
        clear hds haw HDS
        have hci:(c:Int)≤4294967295:=by omega
        have hdi:(d:Int)≤1:=by omega
        have hib:(i:Int)≤300002:=by omega
        by_cases hin:i<n
        ·as_aux_lemma=>
          have hin0:decide (i<n)=true:=by simp;omega
          have hcv:=DS.cv (vl:=vl) HD2.out (i:=i) (by rw[HVL.out];have:=HN0.out;omega)
          have hijb:i+jj<us2.length:=by have h1:=HJJN.out;omega
          have hcu:=Own.cell (DS.u HD2.out:Own wr bu us2) (i:=i+jj) hijb
          have hfu:=Own.frozen (DS.u HD2.out:Own wr bu us2) (i:=i+jj) hijb
          have hy:=q04 HVO.out i
          have hx:=q04 (DS.u HD2.out:Own wr bu us2).1 (i+jj)
          obtain⟨p,lo,t0,tt,rr,d',c',q1,q2,q3,q4,q5,q6,q7,q8,q9,q10,q11,q12,q13⟩:=q9v gt c d _ _ hgt hc hd hx hy
          have HST:Hid _:=AW.step HAW.out (by have:=HN0.out;omega) HULN.out q13
          have HQ10:Hid (d'≤1):=q10
          have HQ11:Hid (c'<2^32):=q11
          have HQ12:Hid (rr<2^32):=q12
          generalize vl.getD i 0=y at *
          generalize us2.getD (i+jj) 0=x at *
          have hyi:(y:Int)≤4294967295:=by omega
          have hxi:(x:Int)≤4294967295:=by omega
          have hpi:(p:Int)≤18446744065119617025:=by omega
          have hloi:(lo:Int)≤4294967295:=by omega
          have hijn:i+jj<j+2:=by omega
          have hin1:i+1≤n:=hin
          have hmeas:n-(i+1)<n-i:=by omega
          have HHY:Hid (i+jj<us2.length):=hijb
          clear q2 q4 q10 q11 q12 q13 hx hy hc hd hin hijb
          go_wp2_with fail
          go_roundw
          case rel=>exact⟨i+1,c',d',us2.set (i+jj) rr,hin1,by go_num,rfl,rfl,HQ11.out,HQ10.out,DS.setU HD2.out (i+jj) rr HHY.out HQ12.out,HST.out⟩
          case measure=>simp only[intOf];omega
        ·as_aux_lemma=>
          have hin0:decide (i<n)=false:=by simp;omega
          have hie:i=n0+2:=by have:=HN0.out;omega
          rw[hie] at HAW
          have hjnl:jj+n<us2.length:=by have h1:=HJJN.out;omega
          have hcu:=Own.cell (DS.u HD2.out:Own wr bu us2) (i:=jj+n) hjnl
          have hfu:=Own.frozen (DS.u HD2.out:Own wr bu us2) (i:=jj+n) hjnl
          have hx:=q04 (DS.u HD2.out:Own wr bu us2).1 (jj+n)
          obtain⟨t0,tt,rr,d',q1,q2,q3,q4,q5,q6,q7⟩:=q5x c d _ hc hd hx
          have hFIN:=AW.fin HAW.out HVL.out HVV.out HULN.out (r:=rr) (d':=d') (by rw[← HN0.out];exact q7)
          rw[← HN0.out] at hFIN
          have HD3:Hid (DS w (wr.setCell ⟨bu,jj+n,none⟩ (.int .u32 (rr:Int))) bu bq bv ov (us2.set (jj+n) rr) qs vl):=DS.setU HD2.out (jj+n) rr hjnl q6
          have hxi:(us2.getD (jj+n) 0:Int)≤4294967295:=by omega
          obtain⟨hf1,hf2,hf3⟩:=hFIN
          have HA1:Hid _:=hf1
          have HA2':Hid _:=hf2
          have HA3:Hid _:=hf3
          generalize us2.getD (jj+n) 0=x at *
          have HQ7:Hid _:=q7
          have hqj:jj<qs.length:=by rw[HQL.out];omega
          have hgw:IntKind.u32.wrap (gt:Int)=gt:=by rw[IntKind.wrap_u32];omega
          have HGT:Hid (gt<2^32):=hgt
          have HDV:Hid (d'≤1):=q5
          by_cases hd':d'=0
          ·subst hd'
           have hcq:=Own.cell (DS.q HD3.out) (i:=jj) hqj
           have hfq:=Own.frozen (DS.q HD3.out) (i:=jj) hqj
           have HDI:Hid _:=DInv.right HINV.out (by omega) HA1.out HT1.out HA3.out
           clear hf1 hf2 hf3 q6 q7 q5 hx hc hd hin hie
           go_wp2_with fail
           go_roundw
           case rel=>exact⟨jj,us2.set (jj+n) rr,qs.set jj gt,by omega,by go_num,DS.setQ HD3.out jj gt hqj HGT.out,HDI.out⟩
           case measure=>simp [intOf]
          ·obtain rfl:d'=1:=by omega
           have hpos:0<gt:=by
            rcases Nat.eq_zero_or_pos gt with h0|h0
            ·exfalso
             have h1:=HA3.out
             rw[h0,Nat.zero_mul,Nat.add_zero,Nat.mul_one] at h1
             have h2:=q40 (DS.u HD3.out).1 HA2'.out
             rw[h1] at h2
             exact absurd h2 (Nat.not_lt.2 (Nat.le_add_left _ _))
            ·exact h0
           obtain⟨gm,hgm⟩:∃ gm,gt-1=gm:=⟨_,rfl⟩
           have hgmw:IntKind.u64.wrap ((gt:Int)-1)=gm:=by rw[IntKind.wrap_u64];omega
           have hgmw2:IntKind.u32.wrap (gm:Int)=gm:=by rw[IntKind.wrap_u32];omega
           have HGM:Hid _:=hgm
           have HGML:Hid (gm<2^32):=by show gm<2^32;omega
           have HBS:Hid (BK (us2.set (jj+n) rr) (us2.set (jj+n) rr) vl jj n0 0 0):=BK.start (us:=us2.set (jj+n) rr) (vl:=vl) HA2'.out
           clear hf1 hf2 hf3 q6 q7 q5 hx hc hd hin hie hd' hpos hgm
           go_wp2_with fail
           as_aux_lemma=>
            clear hcu hfu q1 q2 q3 q4
            generalize hw3e:wr.setCell ⟨bu,jj+n,none⟩ (.int .u32 (rr:Int))=w3 at *
            clear hw3e
            generalize hus3:us2.set (jj+n) rr=us3 at *
            have HUS3:Hid _:=hus3
            clear hus3 hin0
            go_loopw [22,27] (fun vc vi w4=>∃ (i c:Nat) (us4:List Nat),i≤n∧vi= .int .i64 i∧vc= .int .u64 c∧c≤1∧DS w w4 bu bq bv ov us4 qs vl∧BK us3 us4 vl jj n0 i c) (fun _ vi _=>n-(intOf vi).toNat)
            case atStart=>exact⟨0,0,us3,Nat.zero_le _,rfl,rfl,by omega,HD3.out,HBS.out⟩
            case round=>
             obtain⟨i,c,us4,hi,rfl,rfl,hc,hds,hbk⟩:=hrel
             have HD4:Hid (DS w wr bu bq bv ov us4 qs vl):=hds
             have HBK:Hid _:=hbk
             have hl4:us4.length=j+2:=hbk.1.trans (HA1.out.trans HUL.out)
             clear hds hbk HBS
             have hci:(c:Int)≤1:=by omega
             have hib:(i:Int)≤300002:=by omega
             by_cases hin:i<n
             ·as_aux_lemma=>
               have hin0:decide (i<n)=true:=by simp;omega
               have hcv:=DS.cv (vl:=vl) HD4.out (i:=i) (by rw[HVL.out];have:=HN0.out;omega)
               have hijb:i+jj<us4.length:=by have h1:=HJJN.out;omega
               have hcu:=Own.cell (DS.u HD4.out:Own wr bu us4) (i:=i+jj) hijb
               have hfu:=Own.frozen (DS.u HD4.out:Own wr bu us4) (i:=i+jj) hijb
               have hy:=q04 HVO.out i
               have hx:=q04 (DS.u HD4.out:Own wr bu us4).1 (i+jj)
               obtain⟨rr4,c',q1,q2,q3,q4,q5⟩:=q9H c _ _ hc hx hy
               have HST:Hid _:=BK.step HBK.out (by have:=HN0.out;omega) (by rw[HA1.out];exact HULN.out) q5
               have HQ3:Hid (c'≤1):=q3
               have HQ4:Hid (rr4<2^32):=q4
               generalize vl.getD i 0=y at *
               generalize us4.getD (i+jj) 0=x at *
               have hyi:(y:Int)≤4294967295:=by omega
               have hxi:(x:Int)≤4294967295:=by omega
               have hijn:i+jj<j+2:=by omega
               have hin1:i+1≤n:=hin
               have HHY:Hid (i+jj<us4.length):=hijb
               have hbs4:bu<wr.heap.size:=(DS.u HD4.out:Own wr bu us4).2.1
               have hvs4:bv<wr.heap.size:=by omega
               clear q3 q4 q5 hx hy hc hin hijb
               go_wp2_with fail
               refine q0c (by kernel_rfl) (by kernel_rfl) ?_
               intro W hW
               have hq5:=q08 (w:=W) (a:=⟨bu,i+jj,none⟩) (x:= .int .u32 (x:Int)) (by rw[hW];first|(simp;done)|(simp;omega)|omega) (by rw[hW];first|assumption|(simp [go_sem];done)|(simp [*,go_sem];done))
               have hq6:=q08 (w:=W) (a:=⟨bv,ov+i,none⟩) (x:= .int .u32 (y:Int)) (by rw[hW];first|(simp;done)|(simp;omega)|omega) (by rw[hW];first|assumption|(simp [go_sem];done)|(simp [*,go_sem];done))
               clear hW
               repeat (go_big_quiet_step (fail))
               refine wpQuiet_nil ?_
               clear hq5 hq6
               intro w5b hw5b
               have HD5:Hid (DS w w5b bu bq bv ov us4 qs vl):=DS.grow HD4.out hw5b
               have hcu5:=hw5b.cell hbs4 hcu
               have hfu5:=hw5b.frozen hbs4 hfu
               clear hcu hfu hcv hw5b
               go_wp2_with fail
               go_roundw
               case rel=>exact⟨i+1,c',us4.set (i+jj) rr4,hin1,by go_num,rfl,HQ3.out,DS.setU HD5.out (i+jj) rr4 HHY.out HQ4.out,HST.out⟩
               case measure=>simp only[intOf];omega
             ·as_aux_lemma=>
               have hin0:decide (i<n)=false:=by simp;omega
               have hie:i=n0+2:=by have:=HN0.out;omega
               rw[hie] at HBK
               have hjnl:jj+n<us4.length:=by have h1:=HJJN.out;omega
               have hcu:=Own.cell (DS.u HD4.out:Own wr bu us4) (i:=jj+n) hjnl
               have hfu:=Own.frozen (DS.u HD4.out:Own wr bu us4) (i:=jj+n) hjnl
               have hx:=q04 (DS.u HD4.out:Own wr bu us4).1 (jj+n)
               obtain⟨rr4,kk,q1,q2,q3⟩:=q7c c (us4.getD (jj+n) 0)
               have hFIN:=BK.fin HBK.out HVL.out HVV.out (by rw[HA1.out];exact HULN.out) (r:=rr4) (k:=kk) (by rw[← HN0.out];exact q3)
               rw[← HN0.out] at hFIN
               have HD5:Hid (DS w (wr.setCell ⟨bu,jj+n,none⟩ (.int .u32 (rr4:Int))) bu bq bv ov (us4.set (jj+n) rr4) qs vl):=DS.setU HD4.out (jj+n) rr4 hjnl q2
               have hxi:(us4.getD (jj+n) 0:Int)≤4294967295:=by omega
               have hVlt:b*2^e<2^(32*(n0+2)):=HV2.out
               have hDB:=DInv.back HINV.out (by omega) (hFIN.1.trans HA1.out) HT1.out HT2.out hVlt (DS.u HD3.out).1 HA2'.out HA3.out (DS.u HD5.out).1 hFIN.2.1 hFIN.2.2
               rw[HGM.out] at hDB
               have HDI:Hid _:=hDB.1
               generalize us4.getD (jj+n) 0=x at *
               have hcq:=Own.cell (DS.q HD5.out) (i:=jj) hqj
               have hfq:=Own.frozen (DS.q HD5.out) (i:=jj) hqj
               have hcw:IntKind.u32.wrap (c:Int)=c:=by rw[IntKind.wrap_u32];omega
               clear hFIN hDB hVlt q2 q3 hx hc hin hie
               go_wp2_with fail
               go_roundw
               case rel=>exact⟨jj,us4.set (jj+n) rr4,qs.set jj gm,by omega,by go_num,DS.setQ HD5.out jj gm hqj HGML.out,HDI.out⟩
               case measure=>simp [intOf]
     have hpq0:decide (q<p)=true:=by simp;omega
     obtain⟨g',hg'⟩:∃ g',g=g'+1:=by
      rcases g with _|g'
      ·rw[Nat.zero_mul] at hpe;omega
      ·exact⟨g',rfl⟩
     have hgm:IntKind.u64.wrap ((g:Int)-1)=g':=by rw[IntKind.wrap_u64];omega
     have HG':Hid _:=hg'
     have hsum:g'*top+(r+top)=h:=by rw[← HGS.out.1,hg',Nat.add_mul];omega
     have HSUM:Hid _:=hsum
     have HT1:Hid (val us<(g'+1)*(2^(32*jj)*(b*2^e))):=by rw[← HG'.out];exact HSTP.out g r HGS.out.1 (by rw[← HPE.out,← HQE.out];exact hpq)
     clear hgm2 hpe hqe hpq
    case' pos=>
     rw[show decide (4294967295<g)=true from by simp;omega] at hgd0
     obtain⟨g',hg'⟩:∃ g',g=g'+1:=⟨g-1,by omega⟩
     have hgm:IntKind.u64.wrap ((g:Int)-1)=g':=by rw[IntKind.wrap_u64];omega
     have HG':Hid _:=hg'
     have hsum:g'*top+(r+top)=h:=by rw[← HGS.out.1,hg',Nat.add_mul];omega
     have HSUM:Hid _:=hsum
     have HT1:Hid (val us<(g'+1)*(2^(32*jj)*(b*2^e))):=by rw[← HG'.out];exact HGRT.out g hg
    all_goals as_aux_lemma=>
     by_cases hr:4294967295<r+top
     ·rw[show decide (4294967295<r+top)=true from by simp;omega] at hrd0
      have hbr:=HBRK.out g' (r+top) HSUM.out (by omega)
      have HT2:Hid (g'*(2^(32*jj)*(b*2^e))<val us+2^(32*jj)*(b*2^e)):=hbr.2
      have hgt:g'<4294967296:=hbr.1
      clear hr hg hg' hsum hbr
      go_wp2_with fail
      clear hgd0 hrd0 hgm hc2 hgi
      obtain⟨gt,hgtv⟩:∃ gt:Nat,gt=g':=⟨g',rfl⟩
      rw[← hgtv] at HT1 HT2 hgt ⊢
      clear hgtv
      as_aux_lemma=>
       have hgti:(gt:Int)≤4294967295:=by omega
       go_loopw [22,23,24] (fun vc vd vi w2=>∃ (i c d:Nat) (us2:List Nat),i≤n∧vi= .int .i64 i∧vc= .int .u64 c∧vd= .int .u64 d∧c<4294967296∧d≤1∧DS w w2 bu bq bv ov us2 qs vl∧AW us us2 vl jj n0 i gt c d) (fun _ _ vi _=>n-(intOf vi).toNat)
       case atStart=>exact⟨0,0,0,us,Nat.zero_le _,rfl,rfl,rfl,by omega,by omega,HDS.out,AW.start HF2.out⟩
       case round=>
        obtain⟨i,c,d,us2,hi,rfl,rfl,rfl,hc,hd,hds,haw⟩:=hrel
        have HD2:Hid (DS w wr bu bq bv ov us2 qs vl):=hds
        have HAW:Hid _:=haw
        have hl2:us2.length=j+2:=haw.1.trans HUL.out
        clear hds haw HDS
        have hci:(c:Int)≤4294967295:=by omega
        have hdi:(d:Int)≤1:=by omega
        have hib:(i:Int)≤300002:=by omega
        by_cases hin:i<n
        ·as_aux_lemma=>
          have hin0:decide (i<n)=true:=by simp;omega
          have hcv:=DS.cv (vl:=vl) HD2.out (i:=i) (by rw[HVL.out];have:=HN0.out;omega)
          have hijb:i+jj<us2.length:=by have h1:=HJJN.out;omega
          have hcu:=Own.cell (DS.u HD2.out:Own wr bu us2) (i:=i+jj) hijb
          have hfu:=Own.frozen (DS.u HD2.out:Own wr bu us2) (i:=i+jj) hijb
          have hy:=q04 HVO.out i
          have hx:=q04 (DS.u HD2.out:Own wr bu us2).1 (i+jj)
          obtain⟨p,lo,t0,tt,rr,d',c',q1,q2,q3,q4,q5,q6,q7,q8,q9,q10,q11,q12,q13⟩:=q9v gt c d _ _ hgt hc hd hx hy
          have HST:Hid _:=AW.step HAW.out (by have:=HN0.out;omega) HULN.out q13
          have HQ10:Hid (d'≤1):=q10
          have HQ11:Hid (c'<2^32):=q11
          have HQ12:Hid (rr<2^32):=q12
          generalize vl.getD i 0=y at *
          generalize us2.getD (i+jj) 0=x at *
          have hyi:(y:Int)≤4294967295:=by omega
          have hxi:(x:Int)≤4294967295:=by omega
          have hpi:(p:Int)≤18446744065119617025:=by omega
          have hloi:(lo:Int)≤4294967295:=by omega
          have hijn:i+jj<j+2:=by omega
          have hin1:i+1≤n:=hin
          have hmeas:n-(i+1)<n-i:=by omega
          have HHY:Hid (i+jj<us2.length):=hijb
          clear q2 q4 q10 q11 q12 q13 hx hy hc hd hin hijb
          go_wp2_with fail
          go_roundw
          case rel=>exact⟨i+1,c',d',us2.set (i+jj) rr,hin1,by go_num,rfl,rfl,HQ11.out,HQ10.out,DS.setU HD2.out (i+jj) rr HHY.out HQ12.out,HST.out⟩
          case measure=>simp only[intOf];omega
        ·as_aux_lemma=>
          have hin0:decide (i<n)=false:=by simp;omega
          have hie:i=n0+2:=by have:=HN0.out;omega
          rw[hie] at HAW
          have hjnl:jj+n<us2.length:=by have h1:=HJJN.out;omega
          have hcu:=Own.cell (DS.u HD2.out:Own wr bu us2) (i:=jj+n) hjnl
          have hfu:=Own.frozen (DS.u HD2.out:Own wr bu us2) (i:=jj+n) hjnl
          have hx:=q04 (DS.u HD2.out:Own wr bu us2).1 (jj+n)
          obtain⟨t0,tt,rr,d',q1,q2,q3,q4,q5,q6,q7⟩:=q5x c d _ hc hd hx
          have hFIN:=AW.fin HAW.out HVL.out HVV.out HULN.out (r:=rr) (d':=d') (by rw[← HN0.out];exact q7)
          rw[← HN0.out] at hFIN
          have HD3:Hid (DS w (wr.setCell ⟨bu,jj+n,none⟩ (.int .u32 (rr:Int))) bu bq bv ov (us2.set (jj+n) rr) qs vl):=DS.setU HD2.out (jj+n) rr hjnl q6
          have hxi:(us2.getD (jj+n) 0:Int)≤4294967295:=by omega
          obtain⟨hf1,hf2,hf3⟩:=hFIN
          have HA1:Hid _:=hf1
          have HA2':Hid _:=hf2
          have HA3:Hid _:=hf3
          generalize us2.getD (jj+n) 0=x at *
          have HQ7:Hid _:=q7
          have hqj:jj<qs.length:=by rw[HQL.out];omega
          have hgw:IntKind.u32.wrap (gt:Int)=gt:=by rw[IntKind.wrap_u32];omega
          have HGT:Hid (gt<2^32):=hgt
          have HDV:Hid (d'≤1):=q5
          by_cases hd':d'=0
          ·subst hd'
           have hcq:=Own.cell (DS.q HD3.out) (i:=jj) hqj
           have hfq:=Own.frozen (DS.q HD3.out) (i:=jj) hqj
           have HDI:Hid _:=DInv.right HINV.out (by omega) HA1.out HT1.out HA3.out
           clear hf1 hf2 hf3 q6 q7 q5 hx hc hd hin hie
           go_wp2_with fail
           go_roundw
           case rel=>exact⟨jj,us2.set (jj+n) rr,qs.set jj gt,by omega,by go_num,DS.setQ HD3.out jj gt hqj HGT.out,HDI.out⟩
           case measure=>simp [intOf]
          ·obtain rfl:d'=1:=by omega
           have hpos:0<gt:=by
            rcases Nat.eq_zero_or_pos gt with h0|h0
            ·exfalso
             have h1:=HA3.out
             rw[h0,Nat.zero_mul,Nat.add_zero,Nat.mul_one] at h1
             have h2:=q40 (DS.u HD3.out).1 HA2'.out
             rw[h1] at h2
             exact absurd h2 (Nat.not_lt.2 (Nat.le_add_left _ _))
            ·exact h0
           obtain⟨gm,hgm⟩:∃ gm,gt-1=gm:=⟨_,rfl⟩
           have hgmw:IntKind.u64.wrap ((gt:Int)-1)=gm:=by rw[IntKind.wrap_u64];omega
           have hgmw2:IntKind.u32.wrap (gm:Int)=gm:=by rw[IntKind.wrap_u32];omega
           have HGM:Hid _:=hgm
           have HGML:Hid (gm<2^32):=by show gm<2^32;omega
           have HBS:Hid (BK (us2.set (jj+n) rr) (us2.set (jj+n) rr) vl jj n0 0 0):=BK.start (us:=us2.set (jj+n) rr) (vl:=vl) HA2'.out
           clear hf1 hf2 hf3 q6 q7 q5 hx hc hd hin hie hd' hpos hgm
           go_wp2_with fail
           as_aux_lemma=>
            clear hcu hfu q1 q2 q3 q4
            generalize hw3e:wr.setCell ⟨bu,jj+n,none⟩ (.int .u32 (rr:Int))=w3 at *
            clear hw3e
            generalize hus3:us2.set (jj+n) rr=us3 at *
            have HUS3:Hid _:=hus3
            clear hus3 hin0
            go_loopw [22,27] (fun vc vi w4=>∃ (i c:Nat) (us4:List Nat),i≤n∧vi= .int .i64 i∧vc= .int .u64 c∧c≤1∧DS w w4 bu bq bv ov us4 qs vl∧BK us3 us4 vl jj n0 i c) (fun _ vi _=>n-(intOf vi).toNat)
            case atStart=>exact⟨0,0,us3,Nat.zero_le _,rfl,rfl,by omega,HD3.out,HBS.out⟩
            case round=>
             obtain⟨i,c,us4,hi,rfl,rfl,hc,hds,hbk⟩:=hrel
             have HD4:Hid (DS w wr bu bq bv ov us4 qs vl):=hds
             have HBK:Hid _:=hbk
             have hl4:us4.length=j+2:=hbk.1.trans (HA1.out.trans HUL.out)
             clear hds hbk HBS
             have hci:(c:Int)≤1:=by omega
             have hib:(i:Int)≤300002:=by omega
             by_cases hin:i<n
             ·as_aux_lemma=>
               have hin0:decide (i<n)=true:=by simp;omega
               have hcv:=DS.cv (vl:=vl) HD4.out (i:=i) (by rw[HVL.out];have:=HN0.out;omega)
               have hijb:i+jj<us4.length:=by have h1:=HJJN.out;omega
               have hcu:=Own.cell (DS.u HD4.out:Own wr bu us4) (i:=i+jj) hijb
               have hfu:=Own.frozen (DS.u HD4.out:Own wr bu us4) (i:=i+jj) hijb
               have hy:=q04 HVO.out i
               have hx:=q04 (DS.u HD4.out:Own wr bu us4).1 (i+jj)
               obtain⟨rr4,c',q1,q2,q3,q4,q5⟩:=q9H c _ _ hc hx hy
               have HST:Hid _:=BK.step HBK.out (by have:=HN0.out;omega) (by rw[HA1.out];exact HULN.out) q5
               have HQ3:Hid (c'≤1):=q3
               have HQ4:Hid (rr4<2^32):=q4
               generalize vl.getD i 0=y at *
               generalize us4.getD (i+jj) 0=x at *
               have hyi:(y:Int)≤4294967295:=by omega
               have hxi:(x:Int)≤4294967295:=by omega
               have hijn:i+jj<j+2:=by omega
               have hin1:i+1≤n:=hin
               have HHY:Hid (i+jj<us4.length):=hijb
               have hbs4:bu<wr.heap.size:=(DS.u HD4.out:Own wr bu us4).2.1
               have hvs4:bv<wr.heap.size:=by omega
               clear q3 q4 q5 hx hy hc hin hijb
               go_wp2_with fail
               refine q0c (by kernel_rfl) (by kernel_rfl) ?_
               intro W hW
               have hq7:=q08 (w:=W) (a:=⟨bu,i+jj,none⟩) (x:= .int .u32 (x:Int)) (by rw[hW];first|(simp;done)|(simp;omega)|omega) (by rw[hW];first|assumption|(simp [go_sem];done)|(simp [*,go_sem];done))
               have hq8:=q08 (w:=W) (a:=⟨bv,ov+i,none⟩) (x:= .int .u32 (y:Int)) (by rw[hW];first|(simp;done)|(simp;omega)|omega) (by rw[hW];first|assumption|(simp [go_sem];done)|(simp [*,go_sem];done))
               clear hW
               repeat (go_big_quiet_step (fail))
               refine wpQuiet_nil ?_
               clear hq7 hq8
               intro w5b hw5b
               have HD5:Hid (DS w w5b bu bq bv ov us4 qs vl):=DS.grow HD4.out hw5b
               have hcu5:=hw5b.cell hbs4 hcu
               have hfu5:=hw5b.frozen hbs4 hfu
               clear hcu hfu hcv hw5b
               go_wp2_with fail
               go_roundw
               case rel=>exact⟨i+1,c',us4.set (i+jj) rr4,hin1,by go_num,rfl,HQ3.out,DS.setU HD5.out (i+jj) rr4 HHY.out HQ4.out,HST.out⟩
               case measure=>simp only[intOf];omega
             ·as_aux_lemma=>
               have hin0:decide (i<n)=false:=by simp;omega
               have hie:i=n0+2:=by have:=HN0.out;omega
               rw[hie] at HBK
               have hjnl:jj+n<us4.length:=by have h1:=HJJN.out;omega
               have hcu:=Own.cell (DS.u HD4.out:Own wr bu us4) (i:=jj+n) hjnl
               have hfu:=Own.frozen (DS.u HD4.out:Own wr bu us4) (i:=jj+n) hjnl
               have hx:=q04 (DS.u HD4.out:Own wr bu us4).1 (jj+n)
               obtain⟨rr4,kk,q1,q2,q3⟩:=q7c c (us4.getD (jj+n) 0)
               have hFIN:=BK.fin HBK.out HVL.out HVV.out (by rw[HA1.out];exact HULN.out) (r:=rr4) (k:=kk) (by rw[← HN0.out];exact q3)
               rw[← HN0.out] at hFIN
               have HD5:Hid (DS w (wr.setCell ⟨bu,jj+n,none⟩ (.int .u32 (rr4:Int))) bu bq bv ov (us4.set (jj+n) rr4) qs vl):=DS.setU HD4.out (jj+n) rr4 hjnl q2
               have hxi:(us4.getD (jj+n) 0:Int)≤4294967295:=by omega
               have hVlt:b*2^e<2^(32*(n0+2)):=HV2.out
               have hDB:=DInv.back HINV.out (by omega) (hFIN.1.trans HA1.out) HT1.out HT2.out hVlt (DS.u HD3.out).1 HA2'.out HA3.out (DS.u HD5.out).1 hFIN.2.1 hFIN.2.2
               rw[HGM.out] at hDB
               have HDI:Hid _:=hDB.1
               generalize us4.getD (jj+n) 0=x at *
               have hcq:=Own.cell (DS.q HD5.out) (i:=jj) hqj
               have hfq:=Own.frozen (DS.q HD5.out) (i:=jj) hqj
               have hcw:IntKind.u32.wrap (c:Int)=c:=by rw[IntKind.wrap_u32];omega
               clear hFIN hDB hVlt q2 q3 hx hc hin hie
               go_wp2_with fail
               go_roundw
               case rel=>exact⟨jj,us4.set (jj+n) rr4,qs.set jj gm,by omega,by go_num,DS.setQ HD5.out jj gm hqj HGML.out,HDI.out⟩
               case measure=>simp [intOf]
     ·rw[show decide (4294967295<r+top)=false from by simp;omega] at hrd0
      have hrn:r+top<4294967296:=by omega
      have hgn:g'≤4294967297:=by omega
      clear hr hg hg' hsum
      go_wp2_with fail
      go_roundw
      case rel=>exact⟨g',r+top,rfl,by go_num,hgn,hrn,⟨HSUM.out,HT1.out⟩,HDS.out⟩
      case measure=>have:=HG'.out;simp only[intOf];omega
