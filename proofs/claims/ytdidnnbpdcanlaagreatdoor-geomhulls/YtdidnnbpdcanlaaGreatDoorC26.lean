/- What is proved here: contracts of the reference's big numbers: div, word by word from above, over this seat's translation. -/
import Derived.Test.YtdidnnbpdcanlaaGreatDoorC6
namespace Go.Proofs.YtdidnnbpdcanlaaGreatDoor
open Go.ChangeShapes Go.WideShapes Go.ChangeAt Go.RowKit
open BN
/-- A call hands back the canonical slices of two numbers. -/
def q2L (w:World) (x y:Nat) (e:Ending) (w':World):Prop:=∃ v u,e= .returned (.tuple #[v,u])∧G w w'∧Num w' v x∧Num w' u y
/-- A slice of n words whose number has its highest bit. -/
theorem qac {w:World} {v:Value} {V n0:Nat} (h:Num w v V) (h1:2^(32*(n0+1)+31)≤V) (h2:V<2^(32*(n0+1+1))):
  ∃ (b o c:Nat) (l:List Nat),v= .slice (some ⟨b,o,none⟩) (n0+2:Nat) c∧n0+2≤c∧b<w.heap.size∧okw l∧l.length=n0+2∧val l=V∧Row w b o l∧2^31≤l.getD (n0+1) 0:=by
 obtain⟨l,hl,hc,rfl⟩:=h
 have h3:=q09 hc h2
 have h4:=q0p hc.1
 have h5:2^(32*(n0+1))<2^(32*l.length):=Nat.lt_of_le_of_lt (Nat.le_trans (Nat.pow_le_pow_right (by omega) (by omega)) h1) h4
 have h6:=(Nat.pow_lt_pow_iff_right (by omega:1<2)).1 h5
 have h7:l.length=n0+2:=by omega
 rcases Sl.cases hl with ⟨rfl,-⟩|⟨-,b,o,c,rfl,hcc,hb,hr⟩
 ·simp at h7
 ·refine⟨b,o,c,l,by rw[h7],by omega,hb,hc.1,h7,rfl,hr,?_⟩
  have h8:=q0r (l:=l) (k:=n0+1) (by omega)
  rw[List.drop_eq_nil_of_le (by omega)] at h8
  simp only[val,Nat.mul_zero,Nat.add_zero] at h8
  have h9:=q0n hc.1 (n0+1) (by omega)
  rw[Nat.pow_add] at h1
  rcases Nat.lt_or_ge (l.getD (n0+1) 0) (2^31) with h|h
  ·exfalso
   have:2^(32*(n0+1))*(l.getD (n0+1) 0+1)≤2^(32*(n0+1))*2^31:=Nat.mul_le_mul_left _ h
   rw[Nat.mul_add,Nat.mul_one] at this
   omega
  ·exact h
theorem qbl {w:World} {v:Value} {V:Nat} (h:Num w v V) (h0:V≠0) (k:Nat) (hk:V<2^(32*k)):
  ∃ (b o c:Nat) (l:List Nat),v= .slice (some ⟨b,o,none⟩) l.length c∧l.length≤c∧b<w.heap.size∧okw l∧l.length≤k∧val l=V∧Row w b o l:=by
 obtain⟨l,hl,hc,rfl⟩:=h
 rcases Sl.cases hl with ⟨rfl,-⟩|⟨-,b,o,c,rfl,hcc,hb,hr⟩
 ·exact absurd rfl h0
 ·exact⟨b,o,c,l,rfl,hcc,hb,hc.1,q09 hc hk,rfl,hr⟩
theorem q2g {w:World} {b o:Nat} {l:List Nat} (h:Row w b o l):∀ j v,(l.map fun d=>Value.int .u32 (d:Nat))[j]? =some v→w.cell? ((⟨b,o,none⟩:Addr).add j)=some v:=by
 intro j u hj
 rw[List.getElem?_map] at hj
 obtain⟨d,hd,rfl⟩:=Option.map_eq_some_iff.1 hj
 have:=h j (List.getElem?_eq_some_iff.1 hd).1
 rw[List.getD_eq_getElem?_getD,hd] at this
 rw[addr_add]
 exact this
theorem q2q (l:List Nat):∀ u∈(l.map fun d=>Value.int .u32 (d:Nat)),u.oneCell'=true:=by
 intro u hu
 obtain⟨d,-,rfl⟩:=List.mem_map.1 hu
 rfl
theorem Row.setCells {b o c:Nat} {l:List Nat} (hb:b≠c):∀ (cs:List Value) (w:World) (i:Nat),Row w b o l→Row (w.setCells c i cs) b o l
 |[],_,_,h=>h
 |v::cs,_,i,h=>Row.setCells hb cs _ _ (h.set (i:=i) (u:=v) hb)
set_option maxRecDepth 10000 in
set_option maxHeartbeats 8000000 in
theorem q8d (w:World) (va vb:Value) (a b K:Nat) (hK:K≤300000) (ha:Num w va a) (hb:Num w vb b) (ha2:a<2^(32*K)) (iY:b≤a) (hbig:2^64≤a) (hb2:2^32≤b):
  Calls Tryz.prog 196 #[va,vb] w (q2L w (a/b) (a%b)):=by
 have hA':=ha
 have hB':=hb
 obtain⟨l,hl,hcl,hvl⟩:=ha
 obtain⟨m,hm,hcm,iq⟩:=hb
 have hll:=q09 hcl (hvl▸ha2)
 have hl2:2<l.length:=by
  rcases Nat.lt_or_ge 2 l.length with h|h
  ·exact h
  ·have h1:=q0p hcl.1
   have h2:2^(32*l.length)≤2^64:=Nat.pow_le_pow_right (by omega) (by omega)
   omega
 have hm2:1<m.length:=by
  rcases Nat.lt_or_ge 1 m.length with h|h
  ·exact h
  ·have h1:=q0p hcm.1
   have h2:2^(32*m.length)≤2^32:=Nat.pow_le_pow_right (by omega) (by omega)
   omega
 have mM:m.length≤l.length:=by
  rcases Nat.lt_or_ge l.length m.length with h|h
  ·have:=q0D hcl hcm h;omega
  ·exact h
 obtain⟨n0,hn0⟩:∃ n0,m.length=n0+2:=⟨m.length-2,by omega⟩
 obtain⟨k,hk1,hk2,hkb,hV1,hV2⟩:=q3d hcm (n:=n0+1) (by omega)
 obtain⟨pa,ca,rfl,dB,hra⟩:=q0o hl
 obtain⟨pb,cb,rfl,hcb,hrb⟩:=q0o hm
 have jl:Hid _:=q2R w _ _ a b K (by omega) hA' hB' ha2 (by omega)
 have HLen:Hid (∀ w1,G w w1→_):=fun w1 g=>q8t w1 _ b K (by omega) (hB'.G g) (by omega)
 have FU:Hid (∀ w1,G w w1→_):=fun w1 g=>q20 w1 _ b (32-k) K (by omega) (by omega) (hB'.G g) (by omega)
 have FV:Hid (∀ w1,G w w1→_):=fun w1 g=>q20 w1 _ a (32-k) K (by omega) (by omega) (hA'.G g) ha2
 rw[iq] at hkb hV1 hV2
 have hc:decide (cmpV a b<0)=false:=by rw[decide_eq_false_iff_not];unfold cmpV;rw[if_neg (by omega)];split<;>omega
 generalize cmpV a b=cv at *
 generalize hjl:l.length=j at *
 generalize hjn:m.length=n at *
 rw[hkb] at HLen
 have HA:Hid _:=hra
 have HB:Hid _:=hrb
 have HJ:Hid _:=hjl
 have FW:Hid _:=hcl
 have HCM:Hid _:=hcm
 have kK:Hid _:=hvl
 have Rs:Hid _:=iq
 have dK:Hid _:=hn0
 have U5:Hid _:=hjn
 have Rt:(2:Int)≤n:=by omega
 have wX:Hid _:=iY
 have HA2:Hid _:=ha2
 have DX:Hid _:=hA'
 have mX:Hid _:=hB'
 have t1:decide ((j:Int)≤2)=false:=by simp;omega
 have t2:((n:Int)==0)=false:=by simp;omega
 have t3:((n:Int)==1)=false:=by simp;omega
 have hjb:(j:Int)≤300000:=by omega
 have hnb:(n:Int)≤j:=by omega
 have Ji:(1:Int)≤k:=by omega
 have hkb2:(k:Int)≤32:=by omega
 obtain⟨mm,hmm⟩:∃ mm,j+1=n+mm:=⟨j+1-n,by omega⟩
 have hm1:(j:Int)+2-n-1=mm:=by omega
 have Ru:(1:Int)≤mm:=by omega
 have Rv:(mm:Int)≤300000:=by omega
 have Jj:=q19 (j+2) (by omega)
 rw[show ((j+2:Nat):Int)=(j:Int)+2 from by omega] at Jj
 have yu:=q19 (mm+1) (by omega)
 rw[show ((mm+1:Nat):Int)=(mm:Int)+1 from by omega] at yu
 have Dm:Hid _:=hmm
 obtain⟨e,he⟩:∃ e:Nat,e=32-k:=⟨_,rfl⟩
 rw[← he] at FV FU hV1 hV2
 have hs:32-((((32*(n0+1)+k:Nat):Int)-1)%32)-1=e:=by omega
 have U6:(e:Int)≤31:=by omega
 have U7:((32*(n0+1)+k:Nat):Int)≤20000000:=by omega
 have Rw:(1:Int)≤((32*(n0+1)+k:Nat):Int):=by omega
 generalize 32*(n0+1)+k=L at *
 have Nu:Hid _:=hV1
 have Bu:Hid _:=hV2
 have hae:a*2^e≠0:=by have:=Nat.two_pow_pos e;have:0<a:=by omega
                      exact Nat.pos_iff_ne_zero.1 (Nat.mul_pos this (by assumption))
 have haj:a*2^e<2^(32*(j+1)):=by
  have h1:=q0p hcl.1
  rw[hvl,hjl] at h1
  have h2:a*2^e<2^(32*j)*2^e:=Nat.mul_lt_mul_of_pos_right h1 (Nat.two_pow_pos _)
  have h3:2^(32*j)*2^e≤2^(32*(j+1)):=by rw[← Nat.pow_add];exact Nat.pow_le_pow_right (by omega) (by omega)
  omega
 have tN:Hid _:=hae
 have HB0:Hid (0<b):=Nat.lt_of_lt_of_le (by omega) hb2
 have Nv:Hid _:=haj
 have Jk:Hid (a*2^e<2^(32*(n0+1+(mm+1)))):=by
  have h1:j+1=n0+1+(mm+1):=by omega
  rw[h1] at haj;exact haj
 clear hae haj
 clear hV1 hV2 hra hrb hjl hcl hcm hvl iq hn0 hjn iY ha2 hA' hB' hl hm hkb hK hbig hb2 hll hl2 hm2 mM hk1 hk2 hmm he Ji hkb2
 clear FW HCM kK Rs DX mX
 go_enter Tryz.func196,Tryz.ntmps196
 go_wp2_with fail
 refine Calls.mono (P:=Tryz.prog) jl.out ?_
 rintro e1 w1 ⟨rfl,hg1⟩
 go_wp2_with fail
 refine Calls.mono (P:=Tryz.prog) (HLen.out w1 hg1) ?_
 rintro e1 w2 ⟨rfl,hg2⟩
 have hG2:=G.trans hg1 hg2
 go_wp2_with fail
 refine Calls.mono (P:=Tryz.prog) (FU.out w2 hG2) ?_
 rintro e1 w3 ⟨v1,rfl,hg3,kZ⟩
 obtain⟨bv,ov,U8,vl,rfl,Rx,hvb,Nw,wY,hvv,tK,wL⟩:=qac kZ Nu.out Bu.out
 rw[← dK.out] at Rx
 rw[← dK.out]
 have hG3:=G.trans hG2 hg3
 have Ny:Hid _:=tK
 have zi:Hid _:=Nw
 have kK:Hid _:=wY
 have uD:Hid _:=hvv
 have FD:Hid _:=wL
 clear tK Nw wY hvv wL kZ hg1 hg2 hg3 hG2
 go_wp2_with fail
 have hgm:G w3 (w3.alloc (.cells (madeCells #[.int .u32 0] (j+2)) 152)):=(G.refl _).alloc _
 have wQ:Hid _:=q0x w3 (j+2) 152
 have hle:w.heap.size≤w3.heap.size:=hG3.size
 refine Calls.mono (P:=Tryz.prog) (FV.out _ (G.trans hG3 hgm)) ?_
 rintro e1 w4 ⟨v2,rfl,hg4,BG⟩
 have kD:Hid (Own w4 w3.heap.size (List.replicate (j+2) 0)):=Own.grow wQ.out hg4
 have hG4:G w w4:=G.trans (G.trans hG3 hgm) hg4
 have E8:Hid (Row w4 bv ov vl):=Row.G (l:=vl) Ny.out hvb (G.trans hgm hg4)
 clear hgm hg4 wQ hG3
 generalize w3.heap.size=bu at *
 obtain⟨bl,ol,cl,la,rfl,hlc,hlb,hlo,hlj,hlv,hlr⟩:=qbl BG (tN.out) (j+1) Nv.out
 obtain⟨cs,hcs⟩:∃ cs,cs=la.map (fun d=>Value.int .u32 (d:Nat)):=⟨_,rfl⟩
 have hcl:cs.length=la.length:=by rw[hcs,List.length_map]
 have hsrc:=q2g hlr
 have h1c:=q2q la
 rw[← hcs] at hsrc h1c
 have FX:Hid _:=Own.cells (o:=0) kD.out hlo (by simp;omega)
 rw[← hcs] at FX
 have hccell:∀ i,i<cs.length→(w4.cell? ⟨bu,0+i,none⟩).isSome=true:=fun i hi=>by
  rw[Nat.zero_add,Own.cell (l:=List.replicate (j+2) 0) kD.out (by simp;omega)];rfl
 have wZ:∀ i,i<cs.length→w4.frozen? ⟨bu,0+i,none⟩=false:=fun i hi=>by
  rw[Nat.zero_add];exact Own.frozen (l:=List.replicate (j+2) 0) kD.out (by simp;omega)
 have hmin:cs.length=Nat.min la.length (j+2):=by rw[hcl];exact(Nat.min_eq_left (by omega)).symm
 have hval:val ((List.replicate (j+2) 0).take 0++(la++(List.replicate (j+2) 0).drop (0+la.length)))=a*2^e:=by
  rw[List.take_zero,List.nil_append,val_append,List.drop_replicate,q1H,hlv];simp
 have hlen:((List.replicate (j+2) 0).take 0++(la++(List.replicate (j+2) 0).drop (0+la.length))).length=j+2:=by simp;omega
 generalize (List.replicate (j+2) 0).take 0++(la++(List.replicate (j+2) 0).drop (0+la.length))=us at *
 have hrun:=run_copy_cells (P:=Tryz.prog) w4 81 81 3 152 bu 0 (j+2) (j+2) ⟨bl,ol,none⟩ la.length cl cs Tryz.underlying81 (by kernel_rfl) hmin hsrc hccell wZ h1c
 have gK:G w (w4.setCells bu 0 cs):=G.setCells hle cs _ _ hG4
 have E9:Hid (Row (w4.setCells bu 0 cs) bv ov vl):=Row.setCells (by omega) cs _ _ E8.out
 generalize gF:w4.setCells bu 0 cs=w5 at *
 have Nz:Hid _:=hval
 have kX:Hid _:=hlen
 clear BG hlc hlb hlo hlj hlv hlr hcs hcl hsrc h1c hccell wZ hmin hval hlen hG4 E8 kD Ny Nv tN gF
 go_wp2_with fail
 have wO:Hid _:=q0x w5 (mm+1) 152
 have FY:G w5 (w5.alloc (.cells (madeCells #[.int .u32 0] (mm+1)) 152)):=(G.refl _).alloc _
 have zk:bu<w5.heap.size:=(FX.out:Own w5 bu us).2.1
 have jy:Hid (DS w _ bu w5.heap.size bv ov us (List.replicate (mm+1) 0) vl):=DS.mk (G.trans gK FY) hle hvb zk (Own.grow FX.out FY) wO.out (Row.G (l:=vl) E9.out (by omega) FY)
 generalize w5.heap.size=bq at *
 have hsz:bq<(w5.alloc (.cells (madeCells #[.int .u32 0] (mm+1)) 152)).heap.size:=(jy.out:DS w _ bu bq bv ov us (List.replicate (mm+1) 0) vl).q.2.1
 generalize w5.alloc (.cells (madeCells #[.int .u32 0] (mm+1)) 152)=w6 at *
 have Ry:bu<bq:=zk
 clear wO FY FX E9 gK zk
 obtain⟨p1,hp1⟩:∃ p1,p1=n0+1:=⟨_,rfl⟩
 have hn1:(n:Int)-1=p1:=by have:=dK.out;omega
 have hn2:(n:Int)-2=n0:=by have:=dK.out;omega
 have jJ:Hid _:=hp1
 have hct:w6.cell? ⟨bv,ov+p1,none⟩=some (.int .u32 (vl.getD p1 0:Nat)):=DS.cv (vl:=vl) jy.out (by rw[kK.out,hp1];omega)
 have hcn:w6.cell? ⟨bv,ov+n0,none⟩=some (.int .u32 (vl.getD n0 0:Nat)):=DS.cv (vl:=vl) jy.out (by rw[kK.out];omega)
 have hto:vl.getD p1 0<2^32:=q06 zi.out p1
 have hno:vl.getD n0 0<2^32:=q06 zi.out n0
 have Rz:2^31≤vl.getD p1 0:=by rw[hp1];exact FD.out
 have NA:Hid (∀ us jj,okw us→jj+n0+2<us.length→val us<2^(32*(jj+1))*(b*2^e)→_):=fun us jj h1 h2 h3=>q5i h1 zi.out kK.out uD.out h2 h3
 clear FD
 rw[← hp1] at NA
 have hpn:p1<n:=by have:=dK.out;omega
 have RD:n0<n:=by have:=dK.out;omega
 clear hp1
 generalize htop:vl.getD p1 0=top at *
 generalize hnext:vl.getD n0 0=next at *
 clear htop hnext
 have htop:(2147483648:Int)≤top:=by omega
 have NB:(top:Int)≤4294967295:=by omega
 have Jl:(next:Int)≤4294967295:=by omega
 have NC:((top:Int)==0)=false:=by simp;omega
 clear hto hno Rz
 have lN:bv<w6.heap.size:=by omega
 refine q07 (by kernel_rfl) (by kernel_rfl) ?_
 intro W hW
 have hq1:=q04 (w:=W) (a:=⟨bv,ov+p1,none⟩) (x:= .int .u32 (top:Int)) (by rw[hW];first|(simp;done)|(simp;omega)|omega) (by rw[hW];first|assumption|(simp [go_sem];done)|(simp [*,go_sem];done))
 have hq2:=q04 (w:=W) (a:=⟨bv,ov+n0,none⟩) (x:= .int .u32 (next:Int)) (by rw[hW];first|(simp;done)|(simp;omega)|omega) (by rw[hW];first|assumption|(simp [go_sem];done)|(simp [*,go_sem];done))
 clear hW
 repeat (go_big_quiet_step (fail))
 refine wpQuiet_nil ?_
 clear hq1 hq2
 intro w7 hw7
 have HD7:Hid (DS w w7 bu bq bv ov us (List.replicate (mm+1) 0) vl):=DS.grow jy.out hw7
 have HIS:Hid _:=DInv.start (n0:=n0) (M:=mm+1) kX.out Nz.out Jk.out Nu.out
 clear hct hcn jy hw7 hsz lN
 go_wp2_with fail
 go_loopw [18] (fun vj wr=>∃ (t:Nat) (us qs:List Nat),t≤mm+1∧vj= .int .i64 ((t:Int)-1)∧DS w wr bu bq bv ov us qs vl∧DInv us qs t (j+2) (mm+1) (b*2^e) (a*2^e)) (fun vj _=>(intOf vj+1).toNat)
 case atStart=>exact⟨mm+1,us,_,Nat.le_refl _,by congr 1;omega,HD7.out,HIS.out⟩
 case round=>
  obtain⟨t,us,qs,ht,rfl,hds,hinv⟩:=hrel
  have jy:Hid _:=hds
  have jT:Hid _:=hinv
  clear hds hinv HD7 HIS kX Nz
  cases t with
  |zero=>
   as_aux_lemma=>
    have hfin:=DInv.fin jT.out (Nat.two_pow_pos e) HB0.out
    obtain⟨hq2,hr2⟩:=hfin
    have RG:Hid (∀ w1,G wr w1→Calls Tryz.prog 185 #[.slice (some ⟨bq,0,none⟩) (mm+1) (mm+1)] w1 (q0i w1 (a/b))):=fun w1 g=>by
     rw[← hq2];exact q0A (Own.grow (DS.q jy.out) g) jT.out.2.1 (by omega)
    have RH:Hid (∀ w1,G wr w1→Calls Tryz.prog 185 #[.slice (some ⟨bu,0,none⟩) (j+2) (j+2)] w1 (q0i w1 (val us))):=fun w1 g=>q0A (Own.grow (DS.u jy.out) g) jT.out.1 (by omega)
    have Hl:Hid (∀ w1 v,Num w1 v (val us)→Calls Tryz.prog 200 #[v,.int .u64 (e:Int)] w1 (q0i w1 (a%b))):=fun w1 v hn=>by
     rw[← hr2]
     exact q1M w1 v (val us) e (j+2) (by omega) (by omega) hn (by have:=q0p (DS.u jy.out:Own wr bu us).1;rwa[jT.out.1] at this)
    have hgw:=jy.out.g
    have RI:Hid _:=hgw
    clear hq2 hr2 hgw FV FU HLen jl HA HB
    go_wp2_with fail
    refine Calls.mono (P:=Tryz.prog) (RG.out wr (G.refl _)) ?_
    rintro e1 w1 ⟨v1,rfl,hg1,hn1⟩
    go_wp2_with fail
    refine Calls.mono (P:=Tryz.prog) (RH.out w1 hg1) ?_
    rintro e1 w2 ⟨v2,rfl,hg2,hn2⟩
    go_wp2_with fail
    refine Calls.mono (P:=Tryz.prog) (Hl.out w2 v2 hn2) ?_
    rintro e1 w3 ⟨v3,rfl,hg3,kZ⟩
    go_wp2_with fail
    go_ret2
    exact⟨_,_,rfl,G.trans RI.out (G.trans hg1 (G.trans hg2 hg3)),hn1.G (G.trans hg2 hg3),kZ⟩
  |succ jj=>
   have p8:us.length=j+2:=jT.out.1
   have Cn:qs.length=mm+1:=jT.out.2.1
   have hjm:jj+n0+2<j+2:=by have:=Dm.out;have:=dK.out;omega
   have hJ:(jj:Int)+n-1=((jj+p1:Nat):Int):=by omega
   have hJ2:(jj:Int)+n-2=((jj+n0:Nat):Int):=by omega
   have RJ:(jj:Int)≤300000:=by omega
   have Jm:jj+n<j+2:=by have:=dK.out;omega
   have hjp:jj+p1<j+2:=by omega
   have RL:jj+n0<j+2:=by omega
   have rM:=(DS.u jy.out:Own wr bu us).1
   have hc0:=Own.cell (DS.u jy.out:Own wr bu us) (i:=jj+n) (by omega)
   have hc1:=Own.cell (DS.u jy.out:Own wr bu us) (i:=jj+p1) (by omega)
   have hc2:=Own.cell (DS.u jy.out:Own wr bu us) (i:=jj+n0) (by omega)
   have hx0:=q06 rM (jj+n)
   have hx1:=q06 rM (jj+p1)
   have hx2:=q06 rM (jj+n0)
   have hF:=NA.out us jj rM (by omega) jT.out.2.2.1
   rw[show jj+n0+2=jj+n from by have:=dK.out;omega,show jj+n0+1=jj+p1 from by have:=jJ.out;omega] at hF
   obtain⟨hf1,hf2,hf3,tL,rF,Jn,ND⟩:=hF
   generalize us.getD (jj+n) 0=u0 at *
   generalize us.getD (jj+p1) 0=u1 at *
   generalize hu2:us.getD (jj+n0) 0=u2 at *
   have RO:Hid _:=hu2
   clear hu2
   obtain⟨h,g0,r0,hw1,hh,hw2,hw3,hg0,Ea,hr0,Eb⟩:=qaD u0 u1 top hx0 hx1 (by omega) hf1
   have hS0:val us<(g0+1)*(2^(32*jj)*(b*2^e)):=by
    rw[hg0]
    refine qaZ (u2:=u2) (P:=2^(32*(jj+n0))) (by rw[hh];exact rF) hx2 (Nat.le_trans (Nat.mul_le_mul_right _ (by omega)) Jn) (by omega)
   have tY:Hid (val us<(g0+1)*(2^(32*jj)*(b*2^e))):=hS0
   have NF:Hid _:=hf1
   have NG:Hid _:=hf2
   have xc:Hid _:=hf3
   have wJ:Hid _:=tL
   have NH:Hid _:=rF
   have Jo:Hid _:=Jn
   have NJ:Hid _:=ND
   have HH:Hid _:=hh
   have NK:Hid _:=Ea
   have RQ:(u0:Int)≤4294967295:=by omega
   have RU:(u1:Int)≤4294967295:=by omega
   have RX:(u2:Int)≤4294967295:=by omega
   have Jp:(r0:Int)<top:=by omega
   have Fy:Hid (u1<2^32):=hx1
   have Ec:Hid (u2<2^32):=hx2
   have Jq:Hid (g0≤4294967297):=Eb
   have lT:Hid (jj+n<j+2):=Jm
   have kX:Hid _:=p8
   have Bh:Hid _:=Cn
   have hbw:bu<wr.heap.size:=(DS.u jy.out:Own wr bu us).2.1
   clear hS0 hf1 hf2 hf3 tL rF Jn ND hh Ea hg0 hx0 hx1 hx2 hr0 Eb rM hjm
   clear FV FU HLen jl HA HB
   go_wp2_with fail
   refine q07 (by kernel_rfl) (by kernel_rfl) ?_
   intro W hW
   have hq3:=q04 (w:=W) (a:=⟨bu,jj+n,none⟩) (x:= .int .u32 (u0:Int)) (by rw[hW];first|(simp;done)|(simp;omega)|omega) (by rw[hW];first|assumption|(simp [go_sem];done)|(simp [*,go_sem];done))
   have hq4:=q04 (w:=W) (a:=⟨bu,jj+p1,none⟩) (x:= .int .u32 (u1:Int)) (by rw[hW];first|(simp;done)|(simp;omega)|omega) (by rw[hW];first|assumption|(simp [go_sem];done)|(simp [*,go_sem];done))
   clear hW
   repeat (go_big_quiet_step (fail))
   refine wpQuiet_nil ?_
   clear hq3 hq4
   intro w8 hw8
   have bP:Hid (DS w w8 bu bq bv ov us qs vl):=DS.grow jy.out hw8
   have hc2':=hw8.cell (p:=⟨bu,jj+n0,none⟩) hbw hc2
   clear hc0 hc1 hc2 hw8 jy
   go_wp2_with fail
   refine q07 (by kernel_rfl) (by kernel_rfl) ?_
   intro W hW
   clear hW
   repeat (go_big_quiet_step (fail))
   refine wpQuiet_nil ?_
   intro w9 Jr
   have cZ:Hid (DS w w9 bu bq bv ov us qs vl):=DS.grow bP.out Jr
   have Ed:bu<w8.heap.size:=(DS.u bP.out:Own w8 bu us).2.1
   have hc2:=Jr.cell (p:=⟨bu,jj+n0,none⟩) Ed hc2'
   have Js:(r0:Int)≤4294967295:=by omega
   clear hc2' Jr bP Ed hc2 hbw hw1 hw2
   have hgs0:GS (val us) (2^(32*jj)*(b*2^e)) h top g0 r0:=⟨NK.out,tY.out⟩
   have Ee:Hid _:=hgs0
   have Jt:r0<4294967296:=by omega
   clear hgs0
   have HW2:Hid (4294967296*2^(32*(jj+n0))≤2^(32*jj)*(b*2^e)):=Nat.le_trans (Nat.mul_le_mul_right _ (by omega)) Jo.out
   have uV:Hid (∀ g r,g*top+r=h→g<2^32→g*next≤r*2^32+u2→g*(2^(32*jj)*(b*2^e))<val us+2^(32*jj)*(b*2^e)):=fun g r k1 k2 k3=>q7F (h:=h) (by rw[HH.out];exact wJ.out) NJ.out HW2.out k1 k2 k3
   have Ju:Hid (∀ g r,g*top+r=h→2^32≤r→g<2^32∧g*(2^(32*jj)*(b*2^e))<val us+2^(32*jj)*(b*2^e)):=fun g r k1 k2=>by
    obtain⟨k3,k4⟩:=q78 (u1:=u1) (u2:=u2) (next:=next) (by rw[HH.out];exact Nat.add_le_add_right (Nat.mul_le_mul_right _ NF.out) _) Fy.out k1 k2 (by omega)
    exact⟨k3,uV.out g r k1 k3 k4⟩
   have Jv:Hid (∀ g,4294967295<g→val us<g*(2^(32*jj)*(b*2^e))):=fun g k1=>q51 xc.out (by omega)
   have Jw:Hid (∀ g r,g*top+r=h→r*2^32+u2<g*next→val us<g*(2^(32*jj)*(b*2^e))):=fun g r k1 k2=>q6n (P:=2^(32*(jj+n0))) (h:=h) (by rw[HH.out];exact NH.out) Jo.out k1 k2
   have nC:Hid (jj+n0+2<us.length):=by
    have h0:us.length=j+2:=kX.out
    have h1:jj+n<j+2:=lT.out
    have h2:n=n0+2:=dK.out
    show jj+n0+2<us.length
    omega
   have hne1:¬ bu=bq:=by omega
   have hne2:¬ bq=bu:=by omega
   clear HW2 NF xc wJ NH Jo NJ HH NK tY
   go_wp2_with fail
   simp only[hw3]
   clear hw3
   go_loopw [20,21] (fun vg vr wr=>∃ g r:Nat,vg= .int .u64 g∧vr= .int .u64 r∧g≤4294967297∧r<4294967296∧GS (val us) (2^(32*jj)*(b*2^e)) h top g r∧DS w wr bu bq bv ov us qs vl) (fun vg _ _=>(intOf vg).toNat)
   case atStart=>exact⟨g0,r0,rfl,rfl,Jq.out,by omega,Ee.out,cZ.out⟩
   case round=>
    obtain⟨g,r,rfl,rfl,hgb,hrb,hgs,hds⟩:=hrel
    have Ef:Hid _:=hgs
    have jy:Hid _:=hds
    clear hgs hds cZ Ee Jt Jp Js
    have hc2:wr.cell? ⟨bu,jj+n0,none⟩=some (.int .u32 (us.getD (jj+n0) 0:Nat)):=Own.cell (DS.u jy.out:Own wr bu us) (by have:=kX.out;omega)
    rw[RO.out] at hc2
    have hgi:(g:Int)≤4294967297:=by omega
    have FJ:(r:Int)≤4294967295:=by omega
    have uW:decide ((4294967295:Int)<g)=decide (4294967295<g):=by congr 1;exact propext (by omega)
    have uX:decide ((4294967295:Int)<(r:Int)+top)=decide (4294967295<r+top):=by congr 1;exact propext (by omega)
    by_cases hg:4294967295<g
    case' neg=>
     rw[show decide (4294967295<g)=false from by simp;omega] at uW
     have Eg:g*next≤4294967295*4294967295:=Nat.mul_le_mul (by omega) (by omega)
     obtain⟨p,hp,hpi,hpe⟩:∃ p:Nat,(g:Int)*next=p∧(p:Int)≤18446744065119617025∧p=g*next:=⟨g*next,by push_cast;rfl,by omega,rfl⟩
     obtain⟨q,hq,hqe⟩:∃ q:Nat,bits .or .u64 ((r:Int)*4294967296) (u2:Int)=q∧q=r*2^32+u2:=⟨_,q8I r u2 (by omega) Ec.out,rfl⟩
     have qA:Hid _:=hpe
     have qB:Hid _:=hqe
     by_cases hpq:q<p
     case neg=>
      have Eh:decide (q<p)=false:=by simp;omega
      have HT2:Hid (g*(2^(32*jj)*(b*2^e))<val us+2^(32*jj)*(b*2^e)):=uV.out g r Ef.out.1 (by omega) (by rw[← qA.out,← qB.out];omega)
      have HT1:Hid (val us<(g+1)*(2^(32*jj)*(b*2^e))):=Ef.out.2
      have hgt:g<4294967296:=by omega
      clear Eg hpe hqe hpq uX hg hgi
      go_wp2_with fail
      clear uW hp hq Eh hpi hc2
      obtain⟨gt,rO⟩:∃ gt:Nat,gt=g:=⟨g,rfl⟩
      rw[← rO] at HT1 HT2 hgt ⊢
      clear rO
      as_aux_lemma=>
       have Jy:(gt:Int)≤4294967295:=by omega
       go_loopw [22,23,24] (fun vc vd vi w2=>∃ (i c d:Nat) (dD:List Nat),i≤n∧vi= .int .i64 i∧vc= .int .u64 c∧vd= .int .u64 d∧c<4294967296∧d≤1∧DS w w2 bu bq bv ov dD qs vl∧AW us dD vl jj n0 i gt c d) (fun _ _ vi _=>n-(intOf vi).toNat)
       case atStart=>exact⟨0,0,0,us,Nat.zero_le _,rfl,rfl,rfl,by omega,by omega,jy.out,AW.start NG.out⟩
       case round=>
        obtain⟨i,c,d,dD,hi,rfl,rfl,rfl,hc,hd,hds,haw⟩:=hrel
        have HD2:Hid (DS w wr bu bq bv ov dD qs vl):=hds
        have zl:Hid _:=haw
        have hl2:dD.length=j+2:=haw.1.trans kX.out
        clear hds haw jy
        have hci:(c:Int)≤4294967295:=by omega
        have hdi:(d:Int)≤1:=by omega
        have hib:(i:Int)≤300002:=by omega
        by_cases hin:i<n
        ·as_aux_lemma=>
          have lU:decide (i<n)=true:=by simp;omega
          have hcv:=DS.cv (vl:=vl) HD2.out (i:=i) (by rw[kK.out];have:=dK.out;omega)
          have eZ:i+jj<dD.length:=by have h1:=lT.out;omega
          have qh:=Own.cell (DS.u HD2.out:Own wr bu dD) (i:=i+jj) eZ
          have hfu:=Own.frozen (DS.u HD2.out:Own wr bu dD) (i:=i+jj) eZ
          have hy:=q06 zi.out i
          have hx:=q06 (DS.u HD2.out:Own wr bu dD).1 (i+jj)
          obtain⟨p,lo,t0,tt,rr,d',c',q1,q2,q3,q4,q5,q6,q7,q8,q9,Ei,Ej,El,Em⟩:=q9H gt c d _ _ hgt hc hd hx hy
          have HST:Hid _:=AW.step zl.out (by have:=dK.out;omega) nC.out Em
          have jm:Hid (d'≤1):=Ei
          have qi:Hid (c'<2^32):=Ej
          have zm:Hid (rr<2^32):=El
          generalize vl.getD i 0=y at *
          generalize dD.getD (i+jj) 0=x at *
          have hyi:(y:Int)≤4294967295:=by omega
          have hxi:(x:Int)≤4294967295:=by omega
          have hpi:(p:Int)≤18446744065119617025:=by omega
          have Jz:(lo:Int)≤4294967295:=by omega
          have zn:i+jj<j+2:=by omega
          have hin1:i+1≤n:=hin
          have En:n-(i+1)<n-i:=by omega
          have wP:Hid (i+jj<dD.length):=eZ
          clear q2 q4 Ei Ej El Em hx hy hc hd hin eZ
          go_wp2_with fail
          go_roundw
          case rel=>exact⟨i+1,c',d',dD.set (i+jj) rr,hin1,by go_num,rfl,rfl,qi.out,jm.out,DS.setU HD2.out (i+jj) rr wP.out zm.out,HST.out⟩
          case measure=>simp only[intOf];omega
        ·as_aux_lemma=>
          have lU:decide (i<n)=false:=by simp;omega
          have hie:i=n0+2:=by have:=dK.out;omega
          rw[hie] at zl
          have gZ:jj+n<dD.length:=by have h1:=lT.out;omega
          have qh:=Own.cell (DS.u HD2.out:Own wr bu dD) (i:=jj+n) gZ
          have hfu:=Own.frozen (DS.u HD2.out:Own wr bu dD) (i:=jj+n) gZ
          have hx:=q06 (DS.u HD2.out:Own wr bu dD).1 (jj+n)
          obtain⟨t0,tt,rr,d',q1,q2,q3,q4,q5,q6,q7⟩:=q5k c d _ hc hd hx
          have fM:=AW.fin zl.out kK.out uD.out nC.out (r:=rr) (d':=d') (by rw[← dK.out];exact q7)
          rw[← dK.out] at fM
          have HD3:Hid (DS w (wr.setCell ⟨bu,jj+n,none⟩ (.int .u32 (rr:Int))) bu bq bv ov (dD.set (jj+n) rr) qs vl):=DS.setU HD2.out (jj+n) rr gZ q6
          have hxi:(dD.getD (jj+n) 0:Int)≤4294967295:=by omega
          obtain⟨hf1,hf2,hf3⟩:=fM
          have HA1:Hid _:=hf1
          have nA:Hid _:=hf2
          have uY:Hid _:=hf3
          generalize dD.getD (jj+n) 0=x at *
          have xe:Hid _:=q7
          have hqj:jj<qs.length:=by rw[Bh.out];omega
          have hgw:IntKind.u32.wrap (gt:Int)=gt:=by rw[IntKind.wrap_u32];omega
          have yA:Hid (gt<2^32):=hgt
          have Bl:Hid (d'≤1):=q5
          by_cases hd':d'=0
          ·subst hd'
           have hcq:=Own.cell (DS.q HD3.out) (i:=jj) hqj
           have JA:=Own.frozen (DS.q HD3.out) (i:=jj) hqj
           have tF:Hid _:=DInv.right jT.out (by omega) HA1.out HT1.out uY.out
           clear hf1 hf2 hf3 q6 q7 q5 hx hc hd hin hie
           go_wp2_with fail
           go_roundw
           case rel=>exact⟨jj,dD.set (jj+n) rr,qs.set jj gt,by omega,by go_num,DS.setQ HD3.out jj gt hqj yA.out,tF.out⟩
           case measure=>simp [intOf]
          ·obtain rfl:d'=1:=by omega
           have hpos:0<gt:=by
            rcases Nat.eq_zero_or_pos gt with h0|h0
            ·exfalso
             have h1:=uY.out
             rw[h0,Nat.zero_mul,Nat.add_zero,Nat.mul_one] at h1
             have h2:=q3M (DS.u HD3.out).1 nA.out
             rw[h1] at h2
             exact absurd h2 (Nat.not_lt.2 (Nat.le_add_left _ _))
            ·exact h0
           obtain⟨gm,hgm⟩:∃ gm,gt-1=gm:=⟨_,rfl⟩
           have JB:IntKind.u64.wrap ((gt:Int)-1)=gm:=by rw[IntKind.wrap_u64];omega
           have Eo:IntKind.u32.wrap (gm:Int)=gm:=by rw[IntKind.wrap_u32];omega
           have JC:Hid _:=hgm
           have zo:Hid (gm<2^32):=by show gm<2^32;omega
           have tZ:Hid (BK (dD.set (jj+n) rr) (dD.set (jj+n) rr) vl jj n0 0 0):=BK.start (us:=dD.set (jj+n) rr) (vl:=vl) nA.out
           clear hf1 hf2 hf3 q6 q7 q5 hx hc hd hin hie hd' hpos hgm
           go_wp2_with fail
           as_aux_lemma=>
            clear qh hfu q1 q2 q3 q4
            generalize zq:wr.setCell ⟨bu,jj+n,none⟩ (.int .u32 (rr:Int))=w3 at *
            clear zq
            generalize rP:dD.set (jj+n) rr=Ep at *
            have JD:Hid _:=rP
            clear rP lU
            go_loopw [22,27] (fun vc vi w4=>∃ (i c:Nat) (dS:List Nat),i≤n∧vi= .int .i64 i∧vc= .int .u64 c∧c≤1∧DS w w4 bu bq bv ov dS qs vl∧BK Ep dS vl jj n0 i c) (fun _ vi _=>n-(intOf vi).toNat)
            case atStart=>exact⟨0,0,Ep,Nat.zero_le _,rfl,rfl,by omega,HD3.out,tZ.out⟩
            case round=>
             obtain⟨i,c,dS,hi,rfl,rfl,hc,hds,hbk⟩:=hrel
             have HD4:Hid (DS w wr bu bq bv ov dS qs vl):=hds
             have zt:Hid _:=hbk
             have hl4:dS.length=j+2:=hbk.1.trans (HA1.out.trans kX.out)
             clear hds hbk tZ
             have hci:(c:Int)≤1:=by omega
             have hib:(i:Int)≤300002:=by omega
             by_cases hin:i<n
             ·as_aux_lemma=>
               have lU:decide (i<n)=true:=by simp;omega
               have hcv:=DS.cv (vl:=vl) HD4.out (i:=i) (by rw[kK.out];have:=dK.out;omega)
               have eZ:i+jj<dS.length:=by have h1:=lT.out;omega
               have qh:=Own.cell (DS.u HD4.out:Own wr bu dS) (i:=i+jj) eZ
               have hfu:=Own.frozen (DS.u HD4.out:Own wr bu dS) (i:=i+jj) eZ
               have hy:=q06 zi.out i
               have hx:=q06 (DS.u HD4.out:Own wr bu dS).1 (i+jj)
               obtain⟨lW,c',q1,q2,q3,q4,q5⟩:=q9I c _ _ hc hx hy
               have HST:Hid _:=BK.step zt.out (by have:=dK.out;omega) (by rw[HA1.out];exact nC.out) q5
               have Er:Hid (c'≤1):=q3
               have JE:Hid (lW<2^32):=q4
               generalize vl.getD i 0=y at *
               generalize dS.getD (i+jj) 0=x at *
               have hyi:(y:Int)≤4294967295:=by omega
               have hxi:(x:Int)≤4294967295:=by omega
               have zn:i+jj<j+2:=by omega
               have hin1:i+1≤n:=hin
               have wP:Hid (i+jj<dS.length):=eZ
               have rQ:bu<wr.heap.size:=(DS.u HD4.out:Own wr bu dS).2.1
               have JF:bv<wr.heap.size:=by omega
               clear q3 q4 q5 hx hy hc hin eZ
               go_wp2_with fail
               refine q07 (by kernel_rfl) (by kernel_rfl) ?_
               intro W hW
               have kC:=q04 (w:=W) (a:=⟨bu,i+jj,none⟩) (x:= .int .u32 (x:Int)) (by rw[hW];first|(simp;done)|(simp;omega)|omega) (by rw[hW];first|assumption|(simp [go_sem];done)|(simp [*,go_sem];done))
               have kG:=q04 (w:=W) (a:=⟨bv,ov+i,none⟩) (x:= .int .u32 (y:Int)) (by rw[hW];first|(simp;done)|(simp;omega)|omega) (by rw[hW];first|assumption|(simp [go_sem];done)|(simp [*,go_sem];done))
               clear hW
               repeat (go_big_quiet_step (fail))
               refine wpQuiet_nil ?_
               clear kC kG
               intro JG lX
               have HD5:Hid (DS w JG bu bq bv ov dS qs vl):=DS.grow HD4.out lX
               have JH:=lX.cell rQ qh
               have JI:=lX.frozen rQ hfu
               clear qh hfu hcv lX
               go_wp2_with fail
               go_roundw
               case rel=>exact⟨i+1,c',dS.set (i+jj) lW,hin1,by go_num,rfl,Er.out,DS.setU HD5.out (i+jj) lW wP.out JE.out,HST.out⟩
               case measure=>simp only[intOf];omega
             ·as_aux_lemma=>
               have lU:decide (i<n)=false:=by simp;omega
               have hie:i=n0+2:=by have:=dK.out;omega
               rw[hie] at zt
               have gZ:jj+n<dS.length:=by have h1:=lT.out;omega
               have qh:=Own.cell (DS.u HD4.out:Own wr bu dS) (i:=jj+n) gZ
               have hfu:=Own.frozen (DS.u HD4.out:Own wr bu dS) (i:=jj+n) gZ
               have hx:=q06 (DS.u HD4.out:Own wr bu dS).1 (jj+n)
               obtain⟨lW,kk,q1,q2,q3⟩:=q7U c (dS.getD (jj+n) 0)
               have fM:=BK.fin zt.out kK.out uD.out (by rw[HA1.out];exact nC.out) (r:=lW) (k:=kk) (by rw[← dK.out];exact q3)
               rw[← dK.out] at fM
               have HD5:Hid (DS w (wr.setCell ⟨bu,jj+n,none⟩ (.int .u32 (lW:Int))) bu bq bv ov (dS.set (jj+n) lW) qs vl):=DS.setU HD4.out (jj+n) lW gZ q2
               have hxi:(dS.getD (jj+n) 0:Int)≤4294967295:=by omega
               have rR:b*2^e<2^(32*(n0+2)):=Bu.out
               have hDB:=DInv.back jT.out (by omega) (fM.1.trans HA1.out) HT1.out HT2.out rR (DS.u HD3.out).1 nA.out uY.out (DS.u HD5.out).1 fM.2.1 fM.2.2
               rw[JC.out] at hDB
               have tF:Hid _:=hDB.1
               generalize dS.getD (jj+n) 0=x at *
               have hcq:=Own.cell (DS.q HD5.out) (i:=jj) hqj
               have JA:=Own.frozen (DS.q HD5.out) (i:=jj) hqj
               have hcw:IntKind.u32.wrap (c:Int)=c:=by rw[IntKind.wrap_u32];omega
               clear fM hDB rR q2 q3 hx hc hin hie
               go_wp2_with fail
               go_roundw
               case rel=>exact⟨jj,dS.set (jj+n) lW,qs.set jj gm,by omega,by go_num,DS.setQ HD5.out jj gm hqj zo.out,tF.out⟩
               case measure=>simp [intOf]
     have Eh:decide (q<p)=true:=by simp;omega
     obtain⟨g',hg'⟩:∃ g',g=g'+1:=by
      rcases g with _|g'
      ·rw[Nat.zero_mul] at hpe;omega
      ·exact⟨g',rfl⟩
     have hgm:IntKind.u64.wrap ((g:Int)-1)=g':=by rw[IntKind.wrap_u64];omega
     have FZ:Hid _:=hg'
     have hsum:g'*top+(r+top)=h:=by rw[← Ef.out.1,hg',Nat.add_mul];omega
     have zu:Hid _:=hsum
     have HT1:Hid (val us<(g'+1)*(2^(32*jj)*(b*2^e))):=by rw[← FZ.out];exact Jw.out g r Ef.out.1 (by rw[← qA.out,← qB.out];exact hpq)
     clear Eg hpe hqe hpq
    case' pos=>
     rw[show decide (4294967295<g)=true from by simp;omega] at uW
     obtain⟨g',hg'⟩:∃ g',g=g'+1:=⟨g-1,by omega⟩
     have hgm:IntKind.u64.wrap ((g:Int)-1)=g':=by rw[IntKind.wrap_u64];omega
     have FZ:Hid _:=hg'
     have hsum:g'*top+(r+top)=h:=by rw[← Ef.out.1,hg',Nat.add_mul];omega
     have zu:Hid _:=hsum
     have HT1:Hid (val us<(g'+1)*(2^(32*jj)*(b*2^e))):=by rw[← FZ.out];exact Jv.out g hg
    all_goals as_aux_lemma=>
     by_cases hr:4294967295<r+top
     ·rw[show decide (4294967295<r+top)=true from by simp;omega] at uX
      have hbr:=Ju.out g' (r+top) zu.out (by omega)
      have HT2:Hid (g'*(2^(32*jj)*(b*2^e))<val us+2^(32*jj)*(b*2^e)):=hbr.2
      have hgt:g'<4294967296:=hbr.1
      clear hr hg hg' hsum hbr
      go_wp2_with fail
      clear uW uX hgm hc2 hgi
      obtain⟨gt,rO⟩:∃ gt:Nat,gt=g':=⟨g',rfl⟩
      rw[← rO] at HT1 HT2 hgt ⊢
      clear rO
      as_aux_lemma=>
       have Jy:(gt:Int)≤4294967295:=by omega
       go_loopw [22,23,24] (fun vc vd vi w2=>∃ (i c d:Nat) (dD:List Nat),i≤n∧vi= .int .i64 i∧vc= .int .u64 c∧vd= .int .u64 d∧c<4294967296∧d≤1∧DS w w2 bu bq bv ov dD qs vl∧AW us dD vl jj n0 i gt c d) (fun _ _ vi _=>n-(intOf vi).toNat)
       case atStart=>exact⟨0,0,0,us,Nat.zero_le _,rfl,rfl,rfl,by omega,by omega,jy.out,AW.start NG.out⟩
       case round=>
        obtain⟨i,c,d,dD,hi,rfl,rfl,rfl,hc,hd,hds,haw⟩:=hrel
        have HD2:Hid (DS w wr bu bq bv ov dD qs vl):=hds
        have zl:Hid _:=haw
        have hl2:dD.length=j+2:=haw.1.trans kX.out
        clear hds haw jy
        have hci:(c:Int)≤4294967295:=by omega
        have hdi:(d:Int)≤1:=by omega
        have hib:(i:Int)≤300002:=by omega
        by_cases hin:i<n
        ·as_aux_lemma=>
          have lU:decide (i<n)=true:=by simp;omega
          have hcv:=DS.cv (vl:=vl) HD2.out (i:=i) (by rw[kK.out];have:=dK.out;omega)
          have eZ:i+jj<dD.length:=by have h1:=lT.out;omega
          have qh:=Own.cell (DS.u HD2.out:Own wr bu dD) (i:=i+jj) eZ
          have hfu:=Own.frozen (DS.u HD2.out:Own wr bu dD) (i:=i+jj) eZ
          have hy:=q06 zi.out i
          have hx:=q06 (DS.u HD2.out:Own wr bu dD).1 (i+jj)
          obtain⟨p,lo,t0,tt,rr,d',c',q1,q2,q3,q4,q5,q6,q7,q8,q9,Ei,Ej,El,Em⟩:=q9H gt c d _ _ hgt hc hd hx hy
          have HST:Hid _:=AW.step zl.out (by have:=dK.out;omega) nC.out Em
          have jm:Hid (d'≤1):=Ei
          have qi:Hid (c'<2^32):=Ej
          have zm:Hid (rr<2^32):=El
          generalize vl.getD i 0=y at *
          generalize dD.getD (i+jj) 0=x at *
          have hyi:(y:Int)≤4294967295:=by omega
          have hxi:(x:Int)≤4294967295:=by omega
          have hpi:(p:Int)≤18446744065119617025:=by omega
          have Jz:(lo:Int)≤4294967295:=by omega
          have zn:i+jj<j+2:=by omega
          have hin1:i+1≤n:=hin
          have En:n-(i+1)<n-i:=by omega
          have wP:Hid (i+jj<dD.length):=eZ
          clear q2 q4 Ei Ej El Em hx hy hc hd hin eZ
          go_wp2_with fail
          go_roundw
          case rel=>exact⟨i+1,c',d',dD.set (i+jj) rr,hin1,by go_num,rfl,rfl,qi.out,jm.out,DS.setU HD2.out (i+jj) rr wP.out zm.out,HST.out⟩
          case measure=>simp only[intOf];omega
        ·as_aux_lemma=>
          have lU:decide (i<n)=false:=by simp;omega
          have hie:i=n0+2:=by have:=dK.out;omega
          rw[hie] at zl
          have gZ:jj+n<dD.length:=by have h1:=lT.out;omega
          have qh:=Own.cell (DS.u HD2.out:Own wr bu dD) (i:=jj+n) gZ
          have hfu:=Own.frozen (DS.u HD2.out:Own wr bu dD) (i:=jj+n) gZ
          have hx:=q06 (DS.u HD2.out:Own wr bu dD).1 (jj+n)
          obtain⟨t0,tt,rr,d',q1,q2,q3,q4,q5,q6,q7⟩:=q5k c d _ hc hd hx
          have fM:=AW.fin zl.out kK.out uD.out nC.out (r:=rr) (d':=d') (by rw[← dK.out];exact q7)
          rw[← dK.out] at fM
          have HD3:Hid (DS w (wr.setCell ⟨bu,jj+n,none⟩ (.int .u32 (rr:Int))) bu bq bv ov (dD.set (jj+n) rr) qs vl):=DS.setU HD2.out (jj+n) rr gZ q6
          have hxi:(dD.getD (jj+n) 0:Int)≤4294967295:=by omega
          obtain⟨hf1,hf2,hf3⟩:=fM
          have HA1:Hid _:=hf1
          have nA:Hid _:=hf2
          have uY:Hid _:=hf3
          generalize dD.getD (jj+n) 0=x at *
          have xe:Hid _:=q7
          have hqj:jj<qs.length:=by rw[Bh.out];omega
          have hgw:IntKind.u32.wrap (gt:Int)=gt:=by rw[IntKind.wrap_u32];omega
          have yA:Hid (gt<2^32):=hgt
          have Bl:Hid (d'≤1):=q5
          by_cases hd':d'=0
          ·subst hd'
           have hcq:=Own.cell (DS.q HD3.out) (i:=jj) hqj
           have JA:=Own.frozen (DS.q HD3.out) (i:=jj) hqj
           have tF:Hid _:=DInv.right jT.out (by omega) HA1.out HT1.out uY.out
           clear hf1 hf2 hf3 q6 q7 q5 hx hc hd hin hie
           go_wp2_with fail
           go_roundw
           case rel=>exact⟨jj,dD.set (jj+n) rr,qs.set jj gt,by omega,by go_num,DS.setQ HD3.out jj gt hqj yA.out,tF.out⟩
           case measure=>simp [intOf]
          ·obtain rfl:d'=1:=by omega
           have hpos:0<gt:=by
            rcases Nat.eq_zero_or_pos gt with h0|h0
            ·exfalso
             have h1:=uY.out
             rw[h0,Nat.zero_mul,Nat.add_zero,Nat.mul_one] at h1
             have h2:=q3M (DS.u HD3.out).1 nA.out
             rw[h1] at h2
             exact absurd h2 (Nat.not_lt.2 (Nat.le_add_left _ _))
            ·exact h0
           obtain⟨gm,hgm⟩:∃ gm,gt-1=gm:=⟨_,rfl⟩
           have JB:IntKind.u64.wrap ((gt:Int)-1)=gm:=by rw[IntKind.wrap_u64];omega
           have Eo:IntKind.u32.wrap (gm:Int)=gm:=by rw[IntKind.wrap_u32];omega
           have JC:Hid _:=hgm
           have zo:Hid (gm<2^32):=by show gm<2^32;omega
           have tZ:Hid (BK (dD.set (jj+n) rr) (dD.set (jj+n) rr) vl jj n0 0 0):=BK.start (us:=dD.set (jj+n) rr) (vl:=vl) nA.out
           clear hf1 hf2 hf3 q6 q7 q5 hx hc hd hin hie hd' hpos hgm
           go_wp2_with fail
           as_aux_lemma=>
            clear qh hfu q1 q2 q3 q4
            generalize zq:wr.setCell ⟨bu,jj+n,none⟩ (.int .u32 (rr:Int))=w3 at *
            clear zq
            generalize rP:dD.set (jj+n) rr=Ep at *
            have JD:Hid _:=rP
            clear rP lU
            go_loopw [22,27] (fun vc vi w4=>∃ (i c:Nat) (dS:List Nat),i≤n∧vi= .int .i64 i∧vc= .int .u64 c∧c≤1∧DS w w4 bu bq bv ov dS qs vl∧BK Ep dS vl jj n0 i c) (fun _ vi _=>n-(intOf vi).toNat)
            case atStart=>exact⟨0,0,Ep,Nat.zero_le _,rfl,rfl,by omega,HD3.out,tZ.out⟩
            case round=>
             obtain⟨i,c,dS,hi,rfl,rfl,hc,hds,hbk⟩:=hrel
             have HD4:Hid (DS w wr bu bq bv ov dS qs vl):=hds
             have zt:Hid _:=hbk
             have hl4:dS.length=j+2:=hbk.1.trans (HA1.out.trans kX.out)
             clear hds hbk tZ
             have hci:(c:Int)≤1:=by omega
             have hib:(i:Int)≤300002:=by omega
             by_cases hin:i<n
             ·as_aux_lemma=>
               have lU:decide (i<n)=true:=by simp;omega
               have hcv:=DS.cv (vl:=vl) HD4.out (i:=i) (by rw[kK.out];have:=dK.out;omega)
               have eZ:i+jj<dS.length:=by have h1:=lT.out;omega
               have qh:=Own.cell (DS.u HD4.out:Own wr bu dS) (i:=i+jj) eZ
               have hfu:=Own.frozen (DS.u HD4.out:Own wr bu dS) (i:=i+jj) eZ
               have hy:=q06 zi.out i
               have hx:=q06 (DS.u HD4.out:Own wr bu dS).1 (i+jj)
               obtain⟨lW,c',q1,q2,q3,q4,q5⟩:=q9I c _ _ hc hx hy
               have HST:Hid _:=BK.step zt.out (by have:=dK.out;omega) (by rw[HA1.out];exact nC.out) q5
               have Er:Hid (c'≤1):=q3
               have JE:Hid (lW<2^32):=q4
               generalize vl.getD i 0=y at *
               generalize dS.getD (i+jj) 0=x at *
               have hyi:(y:Int)≤4294967295:=by omega
               have hxi:(x:Int)≤4294967295:=by omega
               have zn:i+jj<j+2:=by omega
               have hin1:i+1≤n:=hin
               have wP:Hid (i+jj<dS.length):=eZ
               have rQ:bu<wr.heap.size:=(DS.u HD4.out:Own wr bu dS).2.1
               have JF:bv<wr.heap.size:=by omega
               clear q3 q4 q5 hx hy hc hin eZ
               go_wp2_with fail
               refine q07 (by kernel_rfl) (by kernel_rfl) ?_
               intro W hW
               have kS:=q04 (w:=W) (a:=⟨bu,i+jj,none⟩) (x:= .int .u32 (x:Int)) (by rw[hW];first|(simp;done)|(simp;omega)|omega) (by rw[hW];first|assumption|(simp [go_sem];done)|(simp [*,go_sem];done))
               have hq8:=q04 (w:=W) (a:=⟨bv,ov+i,none⟩) (x:= .int .u32 (y:Int)) (by rw[hW];first|(simp;done)|(simp;omega)|omega) (by rw[hW];first|assumption|(simp [go_sem];done)|(simp [*,go_sem];done))
               clear hW
               repeat (go_big_quiet_step (fail))
               refine wpQuiet_nil ?_
               clear kS hq8
               intro JG lX
               have HD5:Hid (DS w JG bu bq bv ov dS qs vl):=DS.grow HD4.out lX
               have JH:=lX.cell rQ qh
               have JI:=lX.frozen rQ hfu
               clear qh hfu hcv lX
               go_wp2_with fail
               go_roundw
               case rel=>exact⟨i+1,c',dS.set (i+jj) lW,hin1,by go_num,rfl,Er.out,DS.setU HD5.out (i+jj) lW wP.out JE.out,HST.out⟩
               case measure=>simp only[intOf];omega
             ·as_aux_lemma=>
               have lU:decide (i<n)=false:=by simp;omega
               have hie:i=n0+2:=by have:=dK.out;omega
               rw[hie] at zt
               have gZ:jj+n<dS.length:=by have h1:=lT.out;omega
               have qh:=Own.cell (DS.u HD4.out:Own wr bu dS) (i:=jj+n) gZ
               have hfu:=Own.frozen (DS.u HD4.out:Own wr bu dS) (i:=jj+n) gZ
               have hx:=q06 (DS.u HD4.out:Own wr bu dS).1 (jj+n)
               obtain⟨lW,kk,q1,q2,q3⟩:=q7U c (dS.getD (jj+n) 0)
               have fM:=BK.fin zt.out kK.out uD.out (by rw[HA1.out];exact nC.out) (r:=lW) (k:=kk) (by rw[← dK.out];exact q3)
               rw[← dK.out] at fM
               have HD5:Hid (DS w (wr.setCell ⟨bu,jj+n,none⟩ (.int .u32 (lW:Int))) bu bq bv ov (dS.set (jj+n) lW) qs vl):=DS.setU HD4.out (jj+n) lW gZ q2
               have hxi:(dS.getD (jj+n) 0:Int)≤4294967295:=by omega
               have rR:b*2^e<2^(32*(n0+2)):=Bu.out
               have hDB:=DInv.back jT.out (by omega) (fM.1.trans HA1.out) HT1.out HT2.out rR (DS.u HD3.out).1 nA.out uY.out (DS.u HD5.out).1 fM.2.1 fM.2.2
               rw[JC.out] at hDB
               have tF:Hid _:=hDB.1
               generalize dS.getD (jj+n) 0=x at *
               have hcq:=Own.cell (DS.q HD5.out) (i:=jj) hqj
               have JA:=Own.frozen (DS.q HD5.out) (i:=jj) hqj
               have hcw:IntKind.u32.wrap (c:Int)=c:=by rw[IntKind.wrap_u32];omega
               clear fM hDB rR q2 q3 hx hc hin hie
               go_wp2_with fail
               go_roundw
               case rel=>exact⟨jj,dS.set (jj+n) lW,qs.set jj gm,by omega,by go_num,DS.setQ HD5.out jj gm hqj zo.out,tF.out⟩
               case measure=>simp [intOf]
     ·rw[show decide (4294967295<r+top)=false from by simp;omega] at uX
      have hrn:r+top<4294967296:=by omega
      have hgn:g'≤4294967297:=by omega
      clear hr hg hg' hsum
      go_wp2_with fail
      go_roundw
      case rel=>exact⟨g',r+top,rfl,by go_num,hgn,hrn,⟨zu.out,HT1.out⟩,jy.out⟩
      case measure=>have:=FZ.out;simp only[intOf];omega
