/- What is proved here: contracts of the reference's big numbers: div, word by word from above, over this seat's translation. -/
import Derived.Test.YtljkfjjchkehaaaGreatDoorQ6
namespace Go.Proofs.YtljkfjjchkehaaaGreatDoor
open Go.ChangeShapes Go.WideShapes Go.ChangeAt Go.RowKit
open BN
/-- A call hands back the canonical slices of two numbers. -/
def q2L (w:World) (x y:Nat) (e:Ending) (w':World):Prop:=∃ v u,e= .returned (.tuple #[v,u])∧G w w'∧Num w' v x∧Num w' u y
/-- A slice of n words whose number has its highest bit. -/
theorem q8p {w:World} {v:Value} {V n0:Nat} (h:Num w v V) (h1:2^(32*(n0+1)+31)≤V) (h2:V<2^(32*(n0+1+1))):
  ∃ (b o c:Nat) (l:List Nat),v= .slice (some ⟨b,o,none⟩) (n0+2:Nat) c∧n0+2≤c∧b<w.heap.size∧okw l∧l.length=n0+2∧val l=V∧Row w b o l∧2^31≤l.getD (n0+1) 0:=by
 obtain⟨l,hl,hc,rfl⟩:=h
 have h3:=q03 hc h2
 have h4:=q0l hc.1
 have h5:2^(32*(n0+1))<2^(32*l.length):=Nat.lt_of_le_of_lt (Nat.le_trans (Nat.pow_le_pow_right (by omega) (by omega)) h1) h4
 have h6:=(Nat.pow_lt_pow_iff_right (by omega:1<2)).1 h5
 have h7:l.length=n0+2:=by omega
 rcases Sl.cases hl with ⟨rfl,-⟩|⟨-,b,o,c,rfl,hcc,hb,hr⟩
 ·simp at h7
 ·refine⟨b,o,c,l,by rw[h7],by omega,hb,hc.1,h7,rfl,hr,?_⟩
  have h8:=q0m (l:=l) (k:=n0+1) (by omega)
  rw[List.drop_eq_nil_of_le (by omega)] at h8
  simp only[val,Nat.mul_zero,Nat.add_zero] at h8
  have h9:=q0j hc.1 (n0+1) (by omega)
  rw[Nat.pow_add] at h1
  rcases Nat.lt_or_ge (l.getD (n0+1) 0) (2^31) with h|h
  ·exfalso
   have:2^(32*(n0+1))*(l.getD (n0+1) 0+1)≤2^(32*(n0+1))*2^31:=Nat.mul_le_mul_left _ h
   rw[Nat.mul_add,Nat.mul_one] at this
   omega
  ·exact h
theorem q8K {w:World} {v:Value} {V:Nat} (h:Num w v V) (h0:V≠0) (k:Nat) (hk:V<2^(32*k)):
  ∃ (b o c:Nat) (l:List Nat),v= .slice (some ⟨b,o,none⟩) l.length c∧l.length≤c∧b<w.heap.size∧okw l∧l.length≤k∧val l=V∧Row w b o l:=by
 obtain⟨l,hl,hc,rfl⟩:=h
 rcases Sl.cases hl with ⟨rfl,-⟩|⟨-,b,o,c,rfl,hcc,hb,hr⟩
 ·exact absurd rfl h0
 ·exact⟨b,o,c,l,rfl,hcc,hb,hc.1,q03 hc hk,rfl,hr⟩
theorem q1H {w:World} {b o:Nat} {l:List Nat} (h:Row w b o l):∀ j v,(l.map fun d=>Value.int .u32 (d:Nat))[j]? =some v→w.cell? ((⟨b,o,none⟩:Addr).add j)=some v:=by
 intro j u hj
 rw[List.getElem?_map] at hj
 obtain⟨d,hd,rfl⟩:=Option.map_eq_some_iff.1 hj
 have:=h j (List.getElem?_eq_some_iff.1 hd).1
 rw[List.getD_eq_getElem?_getD,hd] at this
 rw[addr_add]
 exact this
theorem q1N (l:List Nat):∀ u∈(l.map fun d=>Value.int .u32 (d:Nat)),u.oneCell'=true:=by
 intro u hu
 obtain⟨d,-,rfl⟩:=List.mem_map.1 hu
 rfl
theorem Row.setCells {b o c:Nat} {l:List Nat} (hb:b≠c):∀ (cs:List Value) (w:World) (i:Nat),Row w b o l→Row (w.setCells c i cs) b o l
 |[],_,_,h=>h
 |v::cs,_,i,h=>Row.setCells hb cs _ _ (h.set (i:=i) (u:=v) hb)
set_option maxRecDepth 10000 in
set_option maxHeartbeats 8000000 in
theorem q6m (w:World) (va vb:Value) (a b K:Nat) (hK:K≤300000) (ha:Num w va a) (hb:Num w vb b) (ha2:a<2^(32*K)) (dJ:b≤a) (hbig:2^64≤a) (hb2:2^32≤b):
  Calls Tryz.prog 136 #[va,vb] w (q2L w (a/b) (a%b)):=by
 have hA':=ha
 have hB':=hb
 obtain⟨l,hl,hcl,hvl⟩:=ha
 obtain⟨m,hm,hcm,bE⟩:=hb
 have hll:=q03 hcl (hvl▸ha2)
 have hl2:2<l.length:=by
  rcases Nat.lt_or_ge 2 l.length with h|h
  ·exact h
  ·have h1:=q0l hcl.1
   have h2:2^(32*l.length)≤2^64:=Nat.pow_le_pow_right (by omega) (by omega)
   omega
 have hm2:1<m.length:=by
  rcases Nat.lt_or_ge 1 m.length with h|h
  ·exact h
  ·have h1:=q0l hcm.1
   have h2:2^(32*m.length)≤2^32:=Nat.pow_le_pow_right (by omega) (by omega)
   omega
 have gY:m.length≤l.length:=by
  rcases Nat.lt_or_ge l.length m.length with h|h
  ·have:=q0u hcl hcm h;omega
  ·exact h
 obtain⟨n0,hn0⟩:∃ n0,m.length=n0+2:=⟨m.length-2,by omega⟩
 obtain⟨k,hk1,hk2,hkb,hV1,hV2⟩:=q2j hcm (n:=n0+1) (by omega)
 obtain⟨pa,ca,rfl,aW,hra⟩:=q0t hl
 obtain⟨pb,cb,rfl,hcb,hrb⟩:=q0t hm
 have dL:Hid _:=q2E w _ _ a b K (by omega) hA' hB' ha2 (by omega)
 have HLen:Hid (∀ w1,G w w1→_):=fun w1 g=>q6P w1 _ b K (by omega) (hB'.G g) (by omega)
 have vS:Hid (∀ w1,G w w1→_):=fun w1 g=>q1B w1 _ b (32-k) K (by omega) (by omega) (hB'.G g) (by omega)
 have vT:Hid (∀ w1,G w w1→_):=fun w1 g=>q1B w1 _ a (32-k) K (by omega) (by omega) (hA'.G g) ha2
 rw[bE] at hkb hV1 hV2
 have hc:decide (cmpV a b<0)=false:=by rw[decide_eq_false_iff_not];unfold cmpV;rw[if_neg (by omega)];split<;>omega
 generalize cmpV a b=cv at *
 generalize hjl:l.length=j at *
 generalize hjn:m.length=n at *
 rw[hkb] at HLen
 have HA:Hid _:=hra
 have HB:Hid _:=hrb
 have HJ:Hid _:=hjl
 have Gd:Hid _:=hcl
 have HCM:Hid _:=hcm
 have dw:Hid _:=hvl
 have Gf:Hid _:=bE
 have bF:Hid _:=hn0
 have Im:Hid _:=hjn
 have Gg:(2:Int)≤n:=by omega
 have Io:Hid _:=dJ
 have HA2:Hid _:=ha2
 have uf:Hid _:=hA'
 have jK:Hid _:=hB'
 have t1:decide ((j:Int)≤2)=false:=by simp;omega
 have t2:((n:Int)==0)=false:=by simp;omega
 have t3:((n:Int)==1)=false:=by simp;omega
 have hjb:(j:Int)≤300000:=by omega
 have hnb:(n:Int)≤j:=by omega
 have yE:(1:Int)≤k:=by omega
 have hkb2:(k:Int)≤32:=by omega
 obtain⟨mm,hmm⟩:∃ mm,j+1=n+mm:=⟨j+1-n,by omega⟩
 have hm1:(j:Int)+2-n-1=mm:=by omega
 have Gh:(1:Int)≤mm:=by omega
 have Gi:(mm:Int)≤300000:=by omega
 have yF:=q17 (j+2) (by omega)
 rw[show ((j+2:Nat):Int)=(j:Int)+2 from by omega] at yF
 have mM:=q17 (mm+1) (by omega)
 rw[show ((mm+1:Nat):Int)=(mm:Int)+1 from by omega] at mM
 have tO:Hid _:=hmm
 obtain⟨e,he⟩:∃ e:Nat,e=32-k:=⟨_,rfl⟩
 rw[← he] at vT vS hV1 hV2
 have hs:32-((((32*(n0+1)+k:Nat):Int)-1)%32)-1=e:=by omega
 have Ip:(e:Int)≤31:=by omega
 have Iq:((32*(n0+1)+k:Nat):Int)≤20000000:=by omega
 have Gj:(1:Int)≤((32*(n0+1)+k:Nat):Int):=by omega
 generalize 32*(n0+1)+k=L at *
 have BX:Hid _:=hV1
 have yG:Hid _:=hV2
 have hae:a*2^e≠0:=by have:=Nat.two_pow_pos e;have:0<a:=by omega
                      exact Nat.pos_iff_ne_zero.1 (Nat.mul_pos this (by assumption))
 have haj:a*2^e<2^(32*(j+1)):=by
  have h1:=q0l hcl.1
  rw[hvl,hjl] at h1
  have h2:a*2^e<2^(32*j)*2^e:=Nat.mul_lt_mul_of_pos_right h1 (Nat.two_pow_pos _)
  have h3:2^(32*j)*2^e≤2^(32*(j+1)):=by rw[← Nat.pow_add];exact Nat.pow_le_pow_right (by omega) (by omega)
  omega
 have vR:Hid _:=hae
 have HB0:Hid (0<b):=Nat.lt_of_lt_of_le (by omega) hb2
 have BZ:Hid _:=haj
 have yH:Hid (a*2^e<2^(32*(n0+1+(mm+1)))):=by
  have h1:j+1=n0+1+(mm+1):=by omega
  rw[h1] at haj;exact haj
 clear hae haj
 clear hV1 hV2 hra hrb hjl hcl hcm hvl bE hn0 hjn dJ ha2 hA' hB' hl hm hkb hK hbig hb2 hll hl2 hm2 gY hk1 hk2 hmm he yE hkb2
 clear Gd HCM dw Gf uf jK
 go_enter Tryz.func136,Tryz.ntmps136
 go_wp2_with fail
 refine Calls.mono (P:=Tryz.prog) dL.out ?_
 rintro e1 w1 ⟨rfl,hg1⟩
 go_wp2_with fail
 refine Calls.mono (P:=Tryz.prog) (HLen.out w1 hg1) ?_
 rintro e1 w2 ⟨rfl,hg2⟩
 have hG2:=G.trans hg1 hg2
 go_wp2_with fail
 refine Calls.mono (P:=Tryz.prog) (vS.out w2 hG2) ?_
 rintro e1 w3 ⟨v1,rfl,hg3,fA⟩
 obtain⟨bv,ov,Ir,vl,rfl,Gl,hvb,C8,lF,hvv,jO,l6⟩:=q8p fA BX.out yG.out
 rw[← bF.out] at Gl
 rw[← bF.out]
 have hG3:=G.trans hG2 hg3
 have C9:Hid _:=jO
 have nU:Hid _:=C8
 have dw:Hid _:=lF
 have kg:Hid _:=hvv
 have vF:Hid _:=l6
 clear jO C8 lF hvv l6 fA hg1 hg2 hg3 hG2
 go_wp2_with fail
 have hgm:G w3 (w3.alloc (.cells (madeCells #[.int .u32 0] (j+2)) 173)):=(G.refl _).alloc _
 have ll:Hid _:=q0y w3 (j+2) 173
 have hle:w.heap.size≤w3.heap.size:=hG3.size
 refine Calls.mono (P:=Tryz.prog) (vT.out _ (G.trans hG3 hgm)) ?_
 rintro e1 w4 ⟨v2,rfl,hg4,Ca⟩
 have gL:Hid (Own w4 w3.heap.size (List.replicate (j+2) 0)):=Own.grow ll.out hg4
 have hG4:G w w4:=G.trans (G.trans hG3 hgm) hg4
 have uk:Hid (Row w4 bv ov vl):=Row.G (l:=vl) C9.out hvb (G.trans hgm hg4)
 clear hgm hg4 ll hG3
 generalize w3.heap.size=bu at *
 obtain⟨bl,ol,cl,la,rfl,hlc,hlb,hlo,hlj,hlv,hlr⟩:=q8K Ca (vR.out) (j+1) BZ.out
 obtain⟨cs,hcs⟩:∃ cs,cs=la.map (fun d=>Value.int .u32 (d:Nat)):=⟨_,rfl⟩
 have hcl:cs.length=la.length:=by rw[hcs,List.length_map]
 have hsrc:=q1H hlr
 have h1c:=q1N la
 rw[← hcs] at hsrc h1c
 have vU:Hid _:=Own.cells (o:=0) gL.out hlo (by simp;omega)
 rw[← hcs] at vU
 have hccell:∀ i,i<cs.length→(w4.cell? ⟨bu,0+i,none⟩).isSome=true:=fun i hi=>by
  rw[Nat.zero_add,Own.cell (l:=List.replicate (j+2) 0) gL.out (by simp;omega)];rfl
 have lG:∀ i,i<cs.length→w4.frozen? ⟨bu,0+i,none⟩=false:=fun i hi=>by
  rw[Nat.zero_add];exact Own.frozen (l:=List.replicate (j+2) 0) gL.out (by simp;omega)
 have hmin:cs.length=Nat.min la.length (j+2):=by rw[hcl];exact(Nat.min_eq_left (by omega)).symm
 have hval:val ((List.replicate (j+2) 0).take 0++(la++(List.replicate (j+2) 0).drop (0+la.length)))=a*2^e:=by
  rw[List.take_zero,List.nil_append,val_append,List.drop_replicate,q1J,hlv];simp
 have hlen:((List.replicate (j+2) 0).take 0++(la++(List.replicate (j+2) 0).drop (0+la.length))).length=j+2:=by simp;omega
 generalize (List.replicate (j+2) 0).take 0++(la++(List.replicate (j+2) 0).drop (0+la.length))=us at *
 have hrun:=run_copy_cells (P:=Tryz.prog) w4 36 36 3 173 bu 0 (j+2) (j+2) ⟨bl,ol,none⟩ la.length cl cs Tryz.underlying36 (by kernel_rfl) hmin hsrc hccell lG h1c
 have vV:G w (w4.setCells bu 0 cs):=G.setCells hle cs _ _ hG4
 have um:Hid (Row (w4.setCells bu 0 cs) bv ov vl):=Row.setCells (by omega) cs _ _ uk.out
 generalize dC:w4.setCells bu 0 cs=w5 at *
 have Cb:Hid _:=hval
 have dD:Hid _:=hlen
 clear Ca hlc hlb hlo hlj hlv hlr hcs hcl hsrc h1c hccell lG hmin hval hlen hG4 uk gL C9 BZ vR dC
 go_wp2_with fail
 have l9:Hid _:=q0y w5 (mm+1) 173
 have vW:G w5 (w5.alloc (.cells (madeCells #[.int .u32 0] (mm+1)) 173)):=(G.refl _).alloc _
 have nV:bu<w5.heap.size:=(vU.out:Own w5 bu us).2.1
 have bV:Hid (DS w _ bu w5.heap.size bv ov us (List.replicate (mm+1) 0) vl):=DS.mk (G.trans vV vW) hle hvb nV (Own.grow vU.out vW) l9.out (Row.G (l:=vl) um.out (by omega) vW)
 generalize w5.heap.size=bq at *
 have hsz:bq<(w5.alloc (.cells (madeCells #[.int .u32 0] (mm+1)) 173)).heap.size:=(bV.out:DS w _ bu bq bv ov us (List.replicate (mm+1) 0) vl).q.2.1
 generalize w5.alloc (.cells (madeCells #[.int .u32 0] (mm+1)) 173)=w6 at *
 have Gm:bu<bq:=nV
 clear l9 vW vU um vV nV
 obtain⟨p1,hp1⟩:∃ p1,p1=n0+1:=⟨_,rfl⟩
 have hn1:(n:Int)-1=p1:=by have:=bF.out;omega
 have hn2:(n:Int)-2=n0:=by have:=bF.out;omega
 have eG:Hid _:=hp1
 have hct:w6.cell? ⟨bv,ov+p1,none⟩=some (.int .u32 (vl.getD p1 0:Nat)):=DS.cv (vl:=vl) bV.out (by rw[dw.out,hp1];omega)
 have hcn:w6.cell? ⟨bv,ov+n0,none⟩=some (.int .u32 (vl.getD n0 0:Nat)):=DS.cv (vl:=vl) bV.out (by rw[dw.out];omega)
 have hto:vl.getD p1 0<2^32:=q02 nU.out p1
 have hno:vl.getD n0 0<2^32:=q02 nU.out n0
 have Gn:2^31≤vl.getD p1 0:=by rw[hp1];exact vF.out
 have Cc:Hid (∀ us jj,okw us→jj+n0+2<us.length→val us<2^(32*(jj+1))*(b*2^e)→_):=fun us jj h1 h2 h3=>q48 h1 nU.out dw.out kg.out h2 h3
 clear vF
 rw[← hp1] at Cc
 have hpn:p1<n:=by have:=bF.out;omega
 have Gp:n0<n:=by have:=bF.out;omega
 clear hp1
 generalize htop:vl.getD p1 0=top at *
 generalize hnext:vl.getD n0 0=next at *
 clear htop hnext
 have htop:(2147483648:Int)≤top:=by omega
 have Ce:(top:Int)≤4294967295:=by omega
 have yI:(next:Int)≤4294967295:=by omega
 have Cf:((top:Int)==0)=false:=by simp;omega
 clear hto hno Gn
 have yJ:bv<w6.heap.size:=by omega
 refine q08 (by kernel_rfl) (by kernel_rfl) ?_
 intro W hW
 have hq1:=q04 (w:=W) (a:=⟨bv,ov+p1,none⟩) (x:= .int .u32 (top:Int)) (by rw[hW];first|(simp;done)|(simp;omega)|omega) (by rw[hW];first|assumption|(simp [go_sem];done)|(simp [*,go_sem];done))
 have hq2:=q04 (w:=W) (a:=⟨bv,ov+n0,none⟩) (x:= .int .u32 (next:Int)) (by rw[hW];first|(simp;done)|(simp;omega)|omega) (by rw[hW];first|assumption|(simp [go_sem];done)|(simp [*,go_sem];done))
 clear hW
 repeat (go_big_quiet_step (fail))
 refine wpQuiet_nil ?_
 clear hq1 hq2
 intro w7 hw7
 have HD7:Hid (DS w w7 bu bq bv ov us (List.replicate (mm+1) 0) vl):=DS.grow bV.out hw7
 have HIS:Hid _:=DInv.start (n0:=n0) (M:=mm+1) dD.out Cb.out yH.out BX.out
 clear hct hcn bV hw7 hsz yJ
 go_wp2_with fail
 go_loopw [18] (fun vj wr=>∃ (t:Nat) (us qs:List Nat),t≤mm+1∧vj= .int .i64 ((t:Int)-1)∧DS w wr bu bq bv ov us qs vl∧DInv us qs t (j+2) (mm+1) (b*2^e) (a*2^e)) (fun vj _=>(intOf vj+1).toNat)
 case atStart=>exact⟨mm+1,us,_,Nat.le_refl _,by congr 1;omega,HD7.out,HIS.out⟩
 case round=>
  obtain⟨t,us,qs,ht,rfl,hds,hinv⟩:=hrel
  have bV:Hid _:=hds
  have df:Hid _:=hinv
  clear hds hinv HD7 HIS dD Cb
  cases t with
  |zero=>
   as_aux_lemma=>
    have hfin:=DInv.fin df.out (Nat.two_pow_pos e) HB0.out
    obtain⟨hq2,hr2⟩:=hfin
    have Gq:Hid (∀ w1,G wr w1→Calls Tryz.prog 137 #[.slice (some ⟨bq,0,none⟩) (mm+1) (mm+1)] w1 (q0f w1 (a/b))):=fun w1 g=>by
     rw[← hq2];exact q0B (Own.grow (DS.q bV.out) g) df.out.2.1 (by omega)
    have Gr:Hid (∀ w1,G wr w1→Calls Tryz.prog 137 #[.slice (some ⟨bu,0,none⟩) (j+2) (j+2)] w1 (q0f w1 (val us))):=fun w1 g=>q0B (Own.grow (DS.u bV.out) g) df.out.1 (by omega)
    have xh:Hid (∀ w1 v,Num w1 v (val us)→Calls Tryz.prog 134 #[v,.int .u64 (e:Int)] w1 (q0f w1 (a%b))):=fun w1 v hn=>by
     rw[← hr2]
     exact q2n w1 v (val us) e (j+2) (by omega) (by omega) hn (by have:=q0l (DS.u bV.out:Own wr bu us).1;rwa[df.out.1] at this)
    have hgw:=bV.out.g
    have Gs:Hid _:=hgw
    clear hq2 hr2 hgw vT vS HLen dL HA HB
    go_wp2_with fail
    refine Calls.mono (P:=Tryz.prog) (Gq.out wr (G.refl _)) ?_
    rintro e1 w1 ⟨v1,rfl,hg1,hn1⟩
    go_wp2_with fail
    refine Calls.mono (P:=Tryz.prog) (Gr.out w1 hg1) ?_
    rintro e1 w2 ⟨v2,rfl,hg2,hn2⟩
    go_wp2_with fail
    refine Calls.mono (P:=Tryz.prog) (xh.out w2 v2 hn2) ?_
    rintro e1 w3 ⟨v3,rfl,hg3,fA⟩
    go_wp2_with fail
    go_ret2
    exact⟨_,_,rfl,G.trans Gs.out (G.trans hg1 (G.trans hg2 hg3)),hn1.G (G.trans hg2 hg3),fA⟩
  |succ jj=>
   have gU:us.length=j+2:=df.out.1
   have rH:qs.length=mm+1:=df.out.2.1
   have hjm:jj+n0+2<j+2:=by have:=tO.out;have:=bF.out;omega
   have hJ:(jj:Int)+n-1=((jj+p1:Nat):Int):=by omega
   have hJ2:(jj:Int)+n-2=((jj+n0:Nat):Int):=by omega
   have Gt:(jj:Int)≤300000:=by omega
   have yK:jj+n<j+2:=by have:=bF.out;omega
   have hjp:jj+p1<j+2:=by omega
   have Gu:jj+n0<j+2:=by omega
   have jh:=(DS.u bV.out:Own wr bu us).1
   have hc0:=Own.cell (DS.u bV.out:Own wr bu us) (i:=jj+n) (by omega)
   have hc1:=Own.cell (DS.u bV.out:Own wr bu us) (i:=jj+p1) (by omega)
   have hc2:=Own.cell (DS.u bV.out:Own wr bu us) (i:=jj+n0) (by omega)
   have hx0:=q02 jh (jj+n)
   have hx1:=q02 jh (jj+p1)
   have hx2:=q02 jh (jj+n0)
   have hF:=Cc.out us jj jh (by omega) df.out.2.2.1
   rw[show jj+n0+2=jj+n from by have:=bF.out;omega,show jj+n0+1=jj+p1 from by have:=eG.out;omega] at hF
   obtain⟨hf1,hf2,hf3,jS,jg,yL,Cg⟩:=hF
   generalize us.getD (jj+n) 0=u0 at *
   generalize us.getD (jj+p1) 0=u1 at *
   generalize hu2:us.getD (jj+n0) 0=u2 at *
   have Gv:Hid _:=hu2
   clear hu2
   obtain⟨h,g0,r0,hw1,hh,hw2,hw3,hg0,uo,hr0,uq⟩:=q8q u0 u1 top hx0 hx1 (by omega) hf1
   have hS0:val us<(g0+1)*(2^(32*jj)*(b*2^e)):=by
    rw[hg0]
    refine q8Y (u2:=u2) (P:=2^(32*(jj+n0))) (by rw[hh];exact jg) hx2 (Nat.le_trans (Nat.mul_le_mul_right _ (by omega)) yL) (by omega)
   have Ch:Hid (val us<(g0+1)*(2^(32*jj)*(b*2^e))):=hS0
   have Ci:Hid _:=hf1
   have Cj:Hid _:=hf2
   have kN:Hid _:=hf3
   have kZ:Hid _:=jS
   have Ck:Hid _:=jg
   have yM:Hid _:=yL
   have Cm:Hid _:=Cg
   have HH:Hid _:=hh
   have Cn:Hid _:=uo
   have Gw:(u0:Int)≤4294967295:=by omega
   have Gx:(u1:Int)≤4294967295:=by omega
   have Gy:(u2:Int)≤4294967295:=by omega
   have yN:(r0:Int)<top:=by omega
   have vB:Hid (u1<2^32):=hx1
   have Gz:Hid (u2<2^32):=hx2
   have yO:Hid (g0≤4294967297):=uq
   have dM:Hid (jj+n<j+2):=yK
   have dD:Hid _:=gU
   have qo:Hid _:=rH
   have hbw:bu<wr.heap.size:=(DS.u bV.out:Own wr bu us).2.1
   clear hS0 hf1 hf2 hf3 jS jg yL Cg hh uo hg0 hx0 hx1 hx2 hr0 uq jh hjm
   clear vT vS HLen dL HA HB
   go_wp2_with fail
   refine q08 (by kernel_rfl) (by kernel_rfl) ?_
   intro W hW
   have hq3:=q04 (w:=W) (a:=⟨bu,jj+n,none⟩) (x:= .int .u32 (u0:Int)) (by rw[hW];first|(simp;done)|(simp;omega)|omega) (by rw[hW];first|assumption|(simp [go_sem];done)|(simp [*,go_sem];done))
   have hq4:=q04 (w:=W) (a:=⟨bu,jj+p1,none⟩) (x:= .int .u32 (u1:Int)) (by rw[hW];first|(simp;done)|(simp;omega)|omega) (by rw[hW];first|assumption|(simp [go_sem];done)|(simp [*,go_sem];done))
   clear hW
   repeat (go_big_quiet_step (fail))
   refine wpQuiet_nil ?_
   clear hq3 hq4
   intro w8 hw8
   have yP:Hid (DS w w8 bu bq bv ov us qs vl):=DS.grow bV.out hw8
   have hc2':=hw8.cell (p:=⟨bu,jj+n0,none⟩) hbw hc2
   clear hc0 hc1 hc2 hw8 bV
   go_wp2_with fail
   refine q08 (by kernel_rfl) (by kernel_rfl) ?_
   intro W hW
   clear hW
   repeat (go_big_quiet_step (fail))
   refine wpQuiet_nil ?_
   intro w9 yQ
   have Co:Hid (DS w w9 bu bq bv ov us qs vl):=DS.grow yP.out yQ
   have uu:bu<w8.heap.size:=(DS.u yP.out:Own w8 bu us).2.1
   have hc2:=yQ.cell (p:=⟨bu,jj+n0,none⟩) uu hc2'
   have yR:(r0:Int)≤4294967295:=by omega
   clear hc2' yQ yP uu hc2 hbw hw1 hw2
   have hgs0:GS (val us) (2^(32*jj)*(b*2^e)) h top g0 r0:=⟨Cn.out,Ch.out⟩
   have uw:Hid _:=hgs0
   have yS:r0<4294967296:=by omega
   clear hgs0
   have HW2:Hid (4294967296*2^(32*(jj+n0))≤2^(32*jj)*(b*2^e)):=Nat.le_trans (Nat.mul_le_mul_right _ (by omega)) yM.out
   have uA:Hid (∀ g r,g*top+r=h→g<2^32→g*next≤r*2^32+u2→g*(2^(32*jj)*(b*2^e))<val us+2^(32*jj)*(b*2^e)):=fun g r k1 k2 k3=>q5x (h:=h) (by rw[HH.out];exact kZ.out) Cm.out HW2.out k1 k2 k3
   have yT:Hid (∀ g r,g*top+r=h→2^32≤r→g<2^32∧g*(2^(32*jj)*(b*2^e))<val us+2^(32*jj)*(b*2^e)):=fun g r k1 k2=>by
    obtain⟨k3,k4⟩:=q5U (u1:=u1) (u2:=u2) (next:=next) (by rw[HH.out];exact Nat.add_le_add_right (Nat.mul_le_mul_right _ Ci.out) _) vB.out k1 k2 (by omega)
    exact⟨k3,uA.out g r k1 k3 k4⟩
   have yU:Hid (∀ g,4294967295<g→val us<g*(2^(32*jj)*(b*2^e))):=fun g k1=>q43 kN.out (by omega)
   have yV:Hid (∀ g r,g*top+r=h→r*2^32+u2<g*next→val us<g*(2^(32*jj)*(b*2^e))):=fun g r k1 k2=>q5k (P:=2^(32*(jj+n0))) (h:=h) (by rw[HH.out];exact Ck.out) yM.out k1 k2
   have fo:Hid (jj+n0+2<us.length):=by
    have h0:us.length=j+2:=dD.out
    have h1:jj+n<j+2:=dM.out
    have h2:n=n0+2:=bF.out
    show jj+n0+2<us.length
    omega
   have hne1:¬ bu=bq:=by omega
   have hne2:¬ bq=bu:=by omega
   clear HW2 Ci kN kZ Ck yM Cm HH Cn Ch
   go_wp2_with fail
   simp only[hw3]
   clear hw3
   go_loopw [20,21] (fun vg vr wr=>∃ g r:Nat,vg= .int .u64 g∧vr= .int .u64 r∧g≤4294967297∧r<4294967296∧GS (val us) (2^(32*jj)*(b*2^e)) h top g r∧DS w wr bu bq bv ov us qs vl) (fun vg _ _=>(intOf vg).toNat)
   case atStart=>exact⟨g0,r0,rfl,rfl,yO.out,by omega,uw.out,Co.out⟩
   case round=>
    obtain⟨g,r,rfl,rfl,hgb,hrb,hgs,hds⟩:=hrel
    have uB:Hid _:=hgs
    have bV:Hid _:=hds
    clear hgs hds Co uw yS yN yR
    have hc2:wr.cell? ⟨bu,jj+n0,none⟩=some (.int .u32 (us.getD (jj+n0) 0:Nat)):=Own.cell (DS.u bV.out:Own wr bu us) (by have:=dD.out;omega)
    rw[Gv.out] at hc2
    have hgi:(g:Int)≤4294967297:=by omega
    have vJ:(r:Int)≤4294967295:=by omega
    have kJ:decide ((4294967295:Int)<g)=decide (4294967295<g):=by congr 1;exact propext (by omega)
    have kK:decide ((4294967295:Int)<(r:Int)+top)=decide (4294967295<r+top):=by congr 1;exact propext (by omega)
    by_cases hg:4294967295<g
    case' neg=>
     rw[show decide (4294967295<g)=false from by simp;omega] at kJ
     have uC:g*next≤4294967295*4294967295:=Nat.mul_le_mul (by omega) (by omega)
     obtain⟨p,hp,hpi,hpe⟩:∃ p:Nat,(g:Int)*next=p∧(p:Int)≤18446744065119617025∧p=g*next:=⟨g*next,by push_cast;rfl,by omega,rfl⟩
     obtain⟨q,hq,hqe⟩:∃ q:Nat,bits .or .u64 ((r:Int)*4294967296) (u2:Int)=q∧q=r*2^32+u2:=⟨_,q7f r u2 (by omega) Gz.out,rfl⟩
     have iD:Hid _:=hpe
     have iE:Hid _:=hqe
     by_cases hpq:q<p
     case neg=>
      have uD:decide (q<p)=false:=by simp;omega
      have HT2:Hid (g*(2^(32*jj)*(b*2^e))<val us+2^(32*jj)*(b*2^e)):=uA.out g r uB.out.1 (by omega) (by rw[← iD.out,← iE.out];omega)
      have HT1:Hid (val us<(g+1)*(2^(32*jj)*(b*2^e))):=uB.out.2
      have hgt:g<4294967296:=by omega
      clear uC hpe hqe hpq kK hg hgi
      go_wp2_with fail
      clear kJ hp hq uD hpi hc2
      obtain⟨gt,ji⟩:∃ gt:Nat,gt=g:=⟨g,rfl⟩
      rw[← ji] at HT1 HT2 hgt ⊢
      clear ji
      as_aux_lemma=>
       have yX:(gt:Int)≤4294967295:=by omega
       go_loopw [22,23,24] (fun vc vd vi w2=>∃ (i c d:Nat) (aD:List Nat),i≤n∧vi= .int .i64 i∧vc= .int .u64 c∧vd= .int .u64 d∧c<4294967296∧d≤1∧DS w w2 bu bq bv ov aD qs vl∧AW us aD vl jj n0 i gt c d) (fun _ _ vi _=>n-(intOf vi).toNat)
       case atStart=>exact⟨0,0,0,us,Nat.zero_le _,rfl,rfl,rfl,by omega,by omega,bV.out,AW.start Cj.out⟩
       case round=>
        obtain⟨i,c,d,aD,hi,rfl,rfl,rfl,hc,hd,hds,haw⟩:=hrel
        have HD2:Hid (DS w wr bu bq bv ov aD qs vl):=hds
        have nW:Hid _:=haw
        have hl2:aD.length=j+2:=haw.1.trans dD.out
        clear hds haw bV
        have hci:(c:Int)≤4294967295:=by omega
        have hdi:(d:Int)≤1:=by omega
        have hib:(i:Int)≤300002:=by omega
        by_cases hin:i<n
        ·as_aux_lemma=>
          have dN:decide (i<n)=true:=by simp;omega
          have hcv:=DS.cv (vl:=vl) HD2.out (i:=i) (by rw[dw.out];have:=bF.out;omega)
          have aM:i+jj<aD.length:=by have h1:=dM.out;omega
          have iy:=Own.cell (DS.u HD2.out:Own wr bu aD) (i:=i+jj) aM
          have hfu:=Own.frozen (DS.u HD2.out:Own wr bu aD) (i:=i+jj) aM
          have hy:=q02 nU.out i
          have hx:=q02 (DS.u HD2.out:Own wr bu aD).1 (i+jj)
          obtain⟨p,lo,t0,tt,rr,d',c',q1,q2,q3,q4,q5,q6,q7,q8,q9,uE,uF,uG,uH⟩:=q7L gt c d _ _ hgt hc hd hx hy
          have HST:Hid _:=AW.step nW.out (by have:=bF.out;omega) fo.out uH
          have nX:Hid (d'≤1):=uE
          have nY:Hid (c'<2^32):=uF
          have nZ:Hid (rr<2^32):=uG
          generalize vl.getD i 0=y at *
          generalize aD.getD (i+jj) 0=x at *
          have hyi:(y:Int)≤4294967295:=by omega
          have hxi:(x:Int)≤4294967295:=by omega
          have hpi:(p:Int)≤18446744065119617025:=by omega
          have yY:(lo:Int)≤4294967295:=by omega
          have o5:i+jj<j+2:=by omega
          have hin1:i+1≤n:=hin
          have uI:n-(i+1)<n-i:=by omega
          have lh:Hid (i+jj<aD.length):=aM
          clear q2 q4 uE uF uG uH hx hy hc hd hin aM
          go_wp2_with fail
          go_roundw
          case rel=>exact⟨i+1,c',d',aD.set (i+jj) rr,hin1,by go_num,rfl,rfl,nY.out,nX.out,DS.setU HD2.out (i+jj) rr lh.out nZ.out,HST.out⟩
          case measure=>simp only[intOf];omega
        ·as_aux_lemma=>
          have dN:decide (i<n)=false:=by simp;omega
          have hie:i=n0+2:=by have:=bF.out;omega
          rw[hie] at nW
          have aZ:jj+n<aD.length:=by have h1:=dM.out;omega
          have iy:=Own.cell (DS.u HD2.out:Own wr bu aD) (i:=jj+n) aZ
          have hfu:=Own.frozen (DS.u HD2.out:Own wr bu aD) (i:=jj+n) aZ
          have hx:=q02 (DS.u HD2.out:Own wr bu aD).1 (jj+n)
          obtain⟨t0,tt,rr,d',q1,q2,q3,q4,q5,q6,q7⟩:=q4b c d _ hc hd hx
          have aT:=AW.fin nW.out dw.out kg.out fo.out (r:=rr) (d':=d') (by rw[← bF.out];exact q7)
          rw[← bF.out] at aT
          have HD3:Hid (DS w (wr.setCell ⟨bu,jj+n,none⟩ (.int .u32 (rr:Int))) bu bq bv ov (aD.set (jj+n) rr) qs vl):=DS.setU HD2.out (jj+n) rr aZ q6
          have hxi:(aD.getD (jj+n) 0:Int)≤4294967295:=by omega
          obtain⟨hf1,hf2,hf3⟩:=aT
          have HA1:Hid _:=hf1
          have eY:Hid _:=hf2
          have o6:Hid _:=hf3
          generalize aD.getD (jj+n) 0=x at *
          have GA:Hid _:=q7
          have hqj:jj<qs.length:=by rw[qo.out];omega
          have hgw:IntKind.u32.wrap (gt:Int)=gt:=by rw[IntKind.wrap_u32];omega
          have mW:Hid (gt<2^32):=hgt
          have qB:Hid (d'≤1):=q5
          by_cases hd':d'=0
          ·subst hd'
           have hcq:=Own.cell (DS.q HD3.out) (i:=jj) hqj
           have yZ:=Own.frozen (DS.q HD3.out) (i:=jj) hqj
           have jJ:Hid _:=DInv.right df.out (by omega) HA1.out HT1.out o6.out
           clear hf1 hf2 hf3 q6 q7 q5 hx hc hd hin hie
           go_wp2_with fail
           go_roundw
           case rel=>exact⟨jj,aD.set (jj+n) rr,qs.set jj gt,by omega,by go_num,DS.setQ HD3.out jj gt hqj mW.out,jJ.out⟩
           case measure=>simp [intOf]
          ·obtain rfl:d'=1:=by omega
           have hpos:0<gt:=by
            rcases Nat.eq_zero_or_pos gt with h0|h0
            ·exfalso
             have h1:=o6.out
             rw[h0,Nat.zero_mul,Nat.add_zero,Nat.mul_one] at h1
             have h2:=q33 (DS.u HD3.out).1 eY.out
             rw[h1] at h2
             exact absurd h2 (Nat.not_lt.2 (Nat.le_add_left _ _))
            ·exact h0
           obtain⟨gm,hgm⟩:∃ gm,gt-1=gm:=⟨_,rfl⟩
           have z8:IntKind.u64.wrap ((gt:Int)-1)=gm:=by rw[IntKind.wrap_u64];omega
           have uJ:IntKind.u32.wrap (gm:Int)=gm:=by rw[IntKind.wrap_u32];omega
           have za:Hid _:=hgm
           have o7:Hid (gm<2^32):=by show gm<2^32;omega
           have uK:Hid (BK (aD.set (jj+n) rr) (aD.set (jj+n) rr) vl jj n0 0 0):=BK.start (us:=aD.set (jj+n) rr) (vl:=vl) eY.out
           clear hf1 hf2 hf3 q6 q7 q5 hx hc hd hin hie hd' hpos hgm
           go_wp2_with fail
           as_aux_lemma=>
            clear iy hfu q1 q2 q3 q4
            generalize o8:wr.setCell ⟨bu,jj+n,none⟩ (.int .u32 (rr:Int))=w3 at *
            clear o8
            generalize jk:aD.set (jj+n) rr=uL at *
            have zb:Hid _:=jk
            clear jk dN
            go_loopw [22,27] (fun vc vi w4=>∃ (i c:Nat) (aI:List Nat),i≤n∧vi= .int .i64 i∧vc= .int .u64 c∧c≤1∧DS w w4 bu bq bv ov aI qs vl∧BK uL aI vl jj n0 i c) (fun _ vi _=>n-(intOf vi).toNat)
            case atStart=>exact⟨0,0,uL,Nat.zero_le _,rfl,rfl,by omega,HD3.out,uK.out⟩
            case round=>
             obtain⟨i,c,aI,hi,rfl,rfl,hc,hds,hbk⟩:=hrel
             have HD4:Hid (DS w wr bu bq bv ov aI qs vl):=hds
             have o9:Hid _:=hbk
             have hl4:aI.length=j+2:=hbk.1.trans (HA1.out.trans dD.out)
             clear hds hbk uK
             have hci:(c:Int)≤1:=by omega
             have hib:(i:Int)≤300002:=by omega
             by_cases hin:i<n
             ·as_aux_lemma=>
               have dN:decide (i<n)=true:=by simp;omega
               have hcv:=DS.cv (vl:=vl) HD4.out (i:=i) (by rw[dw.out];have:=bF.out;omega)
               have aM:i+jj<aI.length:=by have h1:=dM.out;omega
               have iy:=Own.cell (DS.u HD4.out:Own wr bu aI) (i:=i+jj) aM
               have hfu:=Own.frozen (DS.u HD4.out:Own wr bu aI) (i:=i+jj) aM
               have hy:=q02 nU.out i
               have hx:=q02 (DS.u HD4.out:Own wr bu aI).1 (i+jj)
               obtain⟨dO,c',q1,q2,q3,q4,q5⟩:=q7M c _ _ hc hx hy
               have HST:Hid _:=BK.step o9.out (by have:=bF.out;omega) (by rw[HA1.out];exact fo.out) q5
               have uM:Hid (c'≤1):=q3
               have ze:Hid (dO<2^32):=q4
               generalize vl.getD i 0=y at *
               generalize aI.getD (i+jj) 0=x at *
               have hyi:(y:Int)≤4294967295:=by omega
               have hxi:(x:Int)≤4294967295:=by omega
               have o5:i+jj<j+2:=by omega
               have hin1:i+1≤n:=hin
               have lh:Hid (i+jj<aI.length):=aM
               have jl:bu<wr.heap.size:=(DS.u HD4.out:Own wr bu aI).2.1
               have zf:bv<wr.heap.size:=by omega
               clear q3 q4 q5 hx hy hc hin aM
               go_wp2_with fail
               refine q08 (by kernel_rfl) (by kernel_rfl) ?_
               intro W hW
               have iX:=q04 (w:=W) (a:=⟨bu,i+jj,none⟩) (x:= .int .u32 (x:Int)) (by rw[hW];first|(simp;done)|(simp;omega)|omega) (by rw[hW];first|assumption|(simp [go_sem];done)|(simp [*,go_sem];done))
               have jM:=q04 (w:=W) (a:=⟨bv,ov+i,none⟩) (x:= .int .u32 (y:Int)) (by rw[hW];first|(simp;done)|(simp;omega)|omega) (by rw[hW];first|assumption|(simp [go_sem];done)|(simp [*,go_sem];done))
               clear hW
               repeat (go_big_quiet_step (fail))
               refine wpQuiet_nil ?_
               clear iX jM
               intro zg dS
               have HD5:Hid (DS w zg bu bq bv ov aI qs vl):=DS.grow HD4.out dS
               have zh:=dS.cell jl iy
               have zi:=dS.frozen jl hfu
               clear iy hfu hcv dS
               go_wp2_with fail
               go_roundw
               case rel=>exact⟨i+1,c',aI.set (i+jj) dO,hin1,by go_num,rfl,uM.out,DS.setU HD5.out (i+jj) dO lh.out ze.out,HST.out⟩
               case measure=>simp only[intOf];omega
             ·as_aux_lemma=>
               have dN:decide (i<n)=false:=by simp;omega
               have hie:i=n0+2:=by have:=bF.out;omega
               rw[hie] at o9
               have aZ:jj+n<aI.length:=by have h1:=dM.out;omega
               have iy:=Own.cell (DS.u HD4.out:Own wr bu aI) (i:=jj+n) aZ
               have hfu:=Own.frozen (DS.u HD4.out:Own wr bu aI) (i:=jj+n) aZ
               have hx:=q02 (DS.u HD4.out:Own wr bu aI).1 (jj+n)
               obtain⟨dO,kk,q1,q2,q3⟩:=q5Y c (aI.getD (jj+n) 0)
               have aT:=BK.fin o9.out dw.out kg.out (by rw[HA1.out];exact fo.out) (r:=dO) (k:=kk) (by rw[← bF.out];exact q3)
               rw[← bF.out] at aT
               have HD5:Hid (DS w (wr.setCell ⟨bu,jj+n,none⟩ (.int .u32 (dO:Int))) bu bq bv ov (aI.set (jj+n) dO) qs vl):=DS.setU HD4.out (jj+n) dO aZ q2
               have hxi:(aI.getD (jj+n) 0:Int)≤4294967295:=by omega
               have jm:b*2^e<2^(32*(n0+2)):=yG.out
               have hDB:=DInv.back df.out (by omega) (aT.1.trans HA1.out) HT1.out HT2.out jm (DS.u HD3.out).1 eY.out o6.out (DS.u HD5.out).1 aT.2.1 aT.2.2
               rw[za.out] at hDB
               have jJ:Hid _:=hDB.1
               generalize aI.getD (jj+n) 0=x at *
               have hcq:=Own.cell (DS.q HD5.out) (i:=jj) hqj
               have yZ:=Own.frozen (DS.q HD5.out) (i:=jj) hqj
               have hcw:IntKind.u32.wrap (c:Int)=c:=by rw[IntKind.wrap_u32];omega
               clear aT hDB jm q2 q3 hx hc hin hie
               go_wp2_with fail
               go_roundw
               case rel=>exact⟨jj,aI.set (jj+n) dO,qs.set jj gm,by omega,by go_num,DS.setQ HD5.out jj gm hqj o7.out,jJ.out⟩
               case measure=>simp [intOf]
     have uD:decide (q<p)=true:=by simp;omega
     obtain⟨g',hg'⟩:∃ g',g=g'+1:=by
      rcases g with _|g'
      ·rw[Nat.zero_mul] at hpe;omega
      ·exact⟨g',rfl⟩
     have hgm:IntKind.u64.wrap ((g:Int)-1)=g':=by rw[IntKind.wrap_u64];omega
     have vX:Hid _:=hg'
     have hsum:g'*top+(r+top)=h:=by rw[← uB.out.1,hg',Nat.add_mul];omega
     have og:Hid _:=hsum
     have HT1:Hid (val us<(g'+1)*(2^(32*jj)*(b*2^e))):=by rw[← vX.out];exact yV.out g r uB.out.1 (by rw[← iD.out,← iE.out];exact hpq)
     clear uC hpe hqe hpq
    case' pos=>
     rw[show decide (4294967295<g)=true from by simp;omega] at kJ
     obtain⟨g',hg'⟩:∃ g',g=g'+1:=⟨g-1,by omega⟩
     have hgm:IntKind.u64.wrap ((g:Int)-1)=g':=by rw[IntKind.wrap_u64];omega
     have vX:Hid _:=hg'
     have hsum:g'*top+(r+top)=h:=by rw[← uB.out.1,hg',Nat.add_mul];omega
     have og:Hid _:=hsum
     have HT1:Hid (val us<(g'+1)*(2^(32*jj)*(b*2^e))):=by rw[← vX.out];exact yU.out g hg
    all_goals as_aux_lemma=>
     by_cases hr:4294967295<r+top
     ·rw[show decide (4294967295<r+top)=true from by simp;omega] at kK
      have hbr:=yT.out g' (r+top) og.out (by omega)
      have HT2:Hid (g'*(2^(32*jj)*(b*2^e))<val us+2^(32*jj)*(b*2^e)):=hbr.2
      have hgt:g'<4294967296:=hbr.1
      clear hr hg hg' hsum hbr
      go_wp2_with fail
      clear kJ kK hgm hc2 hgi
      obtain⟨gt,ji⟩:∃ gt:Nat,gt=g':=⟨g',rfl⟩
      rw[← ji] at HT1 HT2 hgt ⊢
      clear ji
      as_aux_lemma=>
       have yX:(gt:Int)≤4294967295:=by omega
       go_loopw [22,23,24] (fun vc vd vi w2=>∃ (i c d:Nat) (aD:List Nat),i≤n∧vi= .int .i64 i∧vc= .int .u64 c∧vd= .int .u64 d∧c<4294967296∧d≤1∧DS w w2 bu bq bv ov aD qs vl∧AW us aD vl jj n0 i gt c d) (fun _ _ vi _=>n-(intOf vi).toNat)
       case atStart=>exact⟨0,0,0,us,Nat.zero_le _,rfl,rfl,rfl,by omega,by omega,bV.out,AW.start Cj.out⟩
       case round=>
        obtain⟨i,c,d,aD,hi,rfl,rfl,rfl,hc,hd,hds,haw⟩:=hrel
        have HD2:Hid (DS w wr bu bq bv ov aD qs vl):=hds
        have nW:Hid _:=haw
        have hl2:aD.length=j+2:=haw.1.trans dD.out
        clear hds haw bV
        have hci:(c:Int)≤4294967295:=by omega
        have hdi:(d:Int)≤1:=by omega
        have hib:(i:Int)≤300002:=by omega
        by_cases hin:i<n
        ·as_aux_lemma=>
          have dN:decide (i<n)=true:=by simp;omega
          have hcv:=DS.cv (vl:=vl) HD2.out (i:=i) (by rw[dw.out];have:=bF.out;omega)
          have aM:i+jj<aD.length:=by have h1:=dM.out;omega
          have iy:=Own.cell (DS.u HD2.out:Own wr bu aD) (i:=i+jj) aM
          have hfu:=Own.frozen (DS.u HD2.out:Own wr bu aD) (i:=i+jj) aM
          have hy:=q02 nU.out i
          have hx:=q02 (DS.u HD2.out:Own wr bu aD).1 (i+jj)
          obtain⟨p,lo,t0,tt,rr,d',c',q1,q2,q3,q4,q5,q6,q7,q8,q9,uE,uF,uG,uH⟩:=q7L gt c d _ _ hgt hc hd hx hy
          have HST:Hid _:=AW.step nW.out (by have:=bF.out;omega) fo.out uH
          have nX:Hid (d'≤1):=uE
          have nY:Hid (c'<2^32):=uF
          have nZ:Hid (rr<2^32):=uG
          generalize vl.getD i 0=y at *
          generalize aD.getD (i+jj) 0=x at *
          have hyi:(y:Int)≤4294967295:=by omega
          have hxi:(x:Int)≤4294967295:=by omega
          have hpi:(p:Int)≤18446744065119617025:=by omega
          have yY:(lo:Int)≤4294967295:=by omega
          have o5:i+jj<j+2:=by omega
          have hin1:i+1≤n:=hin
          have uI:n-(i+1)<n-i:=by omega
          have lh:Hid (i+jj<aD.length):=aM
          clear q2 q4 uE uF uG uH hx hy hc hd hin aM
          go_wp2_with fail
          go_roundw
          case rel=>exact⟨i+1,c',d',aD.set (i+jj) rr,hin1,by go_num,rfl,rfl,nY.out,nX.out,DS.setU HD2.out (i+jj) rr lh.out nZ.out,HST.out⟩
          case measure=>simp only[intOf];omega
        ·as_aux_lemma=>
          have dN:decide (i<n)=false:=by simp;omega
          have hie:i=n0+2:=by have:=bF.out;omega
          rw[hie] at nW
          have aZ:jj+n<aD.length:=by have h1:=dM.out;omega
          have iy:=Own.cell (DS.u HD2.out:Own wr bu aD) (i:=jj+n) aZ
          have hfu:=Own.frozen (DS.u HD2.out:Own wr bu aD) (i:=jj+n) aZ
          have hx:=q02 (DS.u HD2.out:Own wr bu aD).1 (jj+n)
          obtain⟨t0,tt,rr,d',q1,q2,q3,q4,q5,q6,q7⟩:=q4b c d _ hc hd hx
          have aT:=AW.fin nW.out dw.out kg.out fo.out (r:=rr) (d':=d') (by rw[← bF.out];exact q7)
          rw[← bF.out] at aT
          have HD3:Hid (DS w (wr.setCell ⟨bu,jj+n,none⟩ (.int .u32 (rr:Int))) bu bq bv ov (aD.set (jj+n) rr) qs vl):=DS.setU HD2.out (jj+n) rr aZ q6
          have hxi:(aD.getD (jj+n) 0:Int)≤4294967295:=by omega
          obtain⟨hf1,hf2,hf3⟩:=aT
          have HA1:Hid _:=hf1
          have eY:Hid _:=hf2
          have o6:Hid _:=hf3
          generalize aD.getD (jj+n) 0=x at *
          have GA:Hid _:=q7
          have hqj:jj<qs.length:=by rw[qo.out];omega
          have hgw:IntKind.u32.wrap (gt:Int)=gt:=by rw[IntKind.wrap_u32];omega
          have mW:Hid (gt<2^32):=hgt
          have qB:Hid (d'≤1):=q5
          by_cases hd':d'=0
          ·subst hd'
           have hcq:=Own.cell (DS.q HD3.out) (i:=jj) hqj
           have yZ:=Own.frozen (DS.q HD3.out) (i:=jj) hqj
           have jJ:Hid _:=DInv.right df.out (by omega) HA1.out HT1.out o6.out
           clear hf1 hf2 hf3 q6 q7 q5 hx hc hd hin hie
           go_wp2_with fail
           go_roundw
           case rel=>exact⟨jj,aD.set (jj+n) rr,qs.set jj gt,by omega,by go_num,DS.setQ HD3.out jj gt hqj mW.out,jJ.out⟩
           case measure=>simp [intOf]
          ·obtain rfl:d'=1:=by omega
           have hpos:0<gt:=by
            rcases Nat.eq_zero_or_pos gt with h0|h0
            ·exfalso
             have h1:=o6.out
             rw[h0,Nat.zero_mul,Nat.add_zero,Nat.mul_one] at h1
             have h2:=q33 (DS.u HD3.out).1 eY.out
             rw[h1] at h2
             exact absurd h2 (Nat.not_lt.2 (Nat.le_add_left _ _))
            ·exact h0
           obtain⟨gm,hgm⟩:∃ gm,gt-1=gm:=⟨_,rfl⟩
           have z8:IntKind.u64.wrap ((gt:Int)-1)=gm:=by rw[IntKind.wrap_u64];omega
           have uJ:IntKind.u32.wrap (gm:Int)=gm:=by rw[IntKind.wrap_u32];omega
           have za:Hid _:=hgm
           have o7:Hid (gm<2^32):=by show gm<2^32;omega
           have uK:Hid (BK (aD.set (jj+n) rr) (aD.set (jj+n) rr) vl jj n0 0 0):=BK.start (us:=aD.set (jj+n) rr) (vl:=vl) eY.out
           clear hf1 hf2 hf3 q6 q7 q5 hx hc hd hin hie hd' hpos hgm
           go_wp2_with fail
           as_aux_lemma=>
            clear iy hfu q1 q2 q3 q4
            generalize o8:wr.setCell ⟨bu,jj+n,none⟩ (.int .u32 (rr:Int))=w3 at *
            clear o8
            generalize jk:aD.set (jj+n) rr=uL at *
            have zb:Hid _:=jk
            clear jk dN
            go_loopw [22,27] (fun vc vi w4=>∃ (i c:Nat) (aI:List Nat),i≤n∧vi= .int .i64 i∧vc= .int .u64 c∧c≤1∧DS w w4 bu bq bv ov aI qs vl∧BK uL aI vl jj n0 i c) (fun _ vi _=>n-(intOf vi).toNat)
            case atStart=>exact⟨0,0,uL,Nat.zero_le _,rfl,rfl,by omega,HD3.out,uK.out⟩
            case round=>
             obtain⟨i,c,aI,hi,rfl,rfl,hc,hds,hbk⟩:=hrel
             have HD4:Hid (DS w wr bu bq bv ov aI qs vl):=hds
             have o9:Hid _:=hbk
             have hl4:aI.length=j+2:=hbk.1.trans (HA1.out.trans dD.out)
             clear hds hbk uK
             have hci:(c:Int)≤1:=by omega
             have hib:(i:Int)≤300002:=by omega
             by_cases hin:i<n
             ·as_aux_lemma=>
               have dN:decide (i<n)=true:=by simp;omega
               have hcv:=DS.cv (vl:=vl) HD4.out (i:=i) (by rw[dw.out];have:=bF.out;omega)
               have aM:i+jj<aI.length:=by have h1:=dM.out;omega
               have iy:=Own.cell (DS.u HD4.out:Own wr bu aI) (i:=i+jj) aM
               have hfu:=Own.frozen (DS.u HD4.out:Own wr bu aI) (i:=i+jj) aM
               have hy:=q02 nU.out i
               have hx:=q02 (DS.u HD4.out:Own wr bu aI).1 (i+jj)
               obtain⟨dO,c',q1,q2,q3,q4,q5⟩:=q7M c _ _ hc hx hy
               have HST:Hid _:=BK.step o9.out (by have:=bF.out;omega) (by rw[HA1.out];exact fo.out) q5
               have uM:Hid (c'≤1):=q3
               have ze:Hid (dO<2^32):=q4
               generalize vl.getD i 0=y at *
               generalize aI.getD (i+jj) 0=x at *
               have hyi:(y:Int)≤4294967295:=by omega
               have hxi:(x:Int)≤4294967295:=by omega
               have o5:i+jj<j+2:=by omega
               have hin1:i+1≤n:=hin
               have lh:Hid (i+jj<aI.length):=aM
               have jl:bu<wr.heap.size:=(DS.u HD4.out:Own wr bu aI).2.1
               have zf:bv<wr.heap.size:=by omega
               clear q3 q4 q5 hx hy hc hin aM
               go_wp2_with fail
               refine q08 (by kernel_rfl) (by kernel_rfl) ?_
               intro W hW
               have jN:=q04 (w:=W) (a:=⟨bu,i+jj,none⟩) (x:= .int .u32 (x:Int)) (by rw[hW];first|(simp;done)|(simp;omega)|omega) (by rw[hW];first|assumption|(simp [go_sem];done)|(simp [*,go_sem];done))
               have hq8:=q04 (w:=W) (a:=⟨bv,ov+i,none⟩) (x:= .int .u32 (y:Int)) (by rw[hW];first|(simp;done)|(simp;omega)|omega) (by rw[hW];first|assumption|(simp [go_sem];done)|(simp [*,go_sem];done))
               clear hW
               repeat (go_big_quiet_step (fail))
               refine wpQuiet_nil ?_
               clear jN hq8
               intro zg dS
               have HD5:Hid (DS w zg bu bq bv ov aI qs vl):=DS.grow HD4.out dS
               have zh:=dS.cell jl iy
               have zi:=dS.frozen jl hfu
               clear iy hfu hcv dS
               go_wp2_with fail
               go_roundw
               case rel=>exact⟨i+1,c',aI.set (i+jj) dO,hin1,by go_num,rfl,uM.out,DS.setU HD5.out (i+jj) dO lh.out ze.out,HST.out⟩
               case measure=>simp only[intOf];omega
             ·as_aux_lemma=>
               have dN:decide (i<n)=false:=by simp;omega
               have hie:i=n0+2:=by have:=bF.out;omega
               rw[hie] at o9
               have aZ:jj+n<aI.length:=by have h1:=dM.out;omega
               have iy:=Own.cell (DS.u HD4.out:Own wr bu aI) (i:=jj+n) aZ
               have hfu:=Own.frozen (DS.u HD4.out:Own wr bu aI) (i:=jj+n) aZ
               have hx:=q02 (DS.u HD4.out:Own wr bu aI).1 (jj+n)
               obtain⟨dO,kk,q1,q2,q3⟩:=q5Y c (aI.getD (jj+n) 0)
               have aT:=BK.fin o9.out dw.out kg.out (by rw[HA1.out];exact fo.out) (r:=dO) (k:=kk) (by rw[← bF.out];exact q3)
               rw[← bF.out] at aT
               have HD5:Hid (DS w (wr.setCell ⟨bu,jj+n,none⟩ (.int .u32 (dO:Int))) bu bq bv ov (aI.set (jj+n) dO) qs vl):=DS.setU HD4.out (jj+n) dO aZ q2
               have hxi:(aI.getD (jj+n) 0:Int)≤4294967295:=by omega
               have jm:b*2^e<2^(32*(n0+2)):=yG.out
               have hDB:=DInv.back df.out (by omega) (aT.1.trans HA1.out) HT1.out HT2.out jm (DS.u HD3.out).1 eY.out o6.out (DS.u HD5.out).1 aT.2.1 aT.2.2
               rw[za.out] at hDB
               have jJ:Hid _:=hDB.1
               generalize aI.getD (jj+n) 0=x at *
               have hcq:=Own.cell (DS.q HD5.out) (i:=jj) hqj
               have yZ:=Own.frozen (DS.q HD5.out) (i:=jj) hqj
               have hcw:IntKind.u32.wrap (c:Int)=c:=by rw[IntKind.wrap_u32];omega
               clear aT hDB jm q2 q3 hx hc hin hie
               go_wp2_with fail
               go_roundw
               case rel=>exact⟨jj,aI.set (jj+n) dO,qs.set jj gm,by omega,by go_num,DS.setQ HD5.out jj gm hqj o7.out,jJ.out⟩
               case measure=>simp [intOf]
     ·rw[show decide (4294967295<r+top)=false from by simp;omega] at kK
      have hrn:r+top<4294967296:=by omega
      have hgn:g'≤4294967297:=by omega
      clear hr hg hg' hsum
      go_wp2_with fail
      go_roundw
      case rel=>exact⟨g',r+top,rfl,by go_num,hgn,hrn,⟨og.out,HT1.out⟩,bV.out⟩
      case measure=>have:=vX.out;simp only[intOf];omega
