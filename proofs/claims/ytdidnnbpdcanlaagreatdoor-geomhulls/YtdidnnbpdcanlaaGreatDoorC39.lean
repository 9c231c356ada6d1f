/- What is proved here: contracts of the reference's ratios: Mul of Rat, of laid ones and of new ones, over this seat's translation.
What is proved here: contracts of the reference's ratios: Cmp of Rat, of laid ones and of new ones, over this seat's translation. -/
import Derived.Test.YtdidnnbpdcanlaaGreatDoorC32
import Derived.Test.YtdidnnbpdcanlaaGreatDoorC28
namespace Go.Proofs.YtdidnnbpdcanlaaGreatDoor
open Go.ChangeShapes Go.WideShapes Go.ChangeAt Go.RowKit
open BN
set_option maxHeartbeats 4000000 in
theorem qbi (w:World) (bz bx b2:Nat) (s1 s2 xa ya:Int) (xb yb:Nat) (KB:Nat) (hK:KB≤100000) (hx2:xa.natAbs<2^(32*KB)) (hy2:ya.natAbs<2^(32*KB)) (eX:xb<2^(32*KB)) (fD:yb<2^(32*KB)) (hxb:0<xb) (hyb:0<yb)
  (hbz:bz<w.heap.size) (hbx:bx<w.heap.size) (hby:b2<w.heap.size) (hz:RatIs w bz s1 s2) (hx:RatV w bx xa xb) (hy:RatV w b2 ya yb):
  Calls Tryz.prog 75 #[.pointer (some ⟨bz,0,none⟩),.pointer (some ⟨bx,0,none⟩),.pointer (some ⟨b2,0,none⟩)] w (NormTo w bz (Int.tdiv (xa*ya) (Nat.gcd (xa*ya).natAbs (xb*yb):Nat)) (xb*yb/Nat.gcd (xa*ya).natAbs (xb*yb))):=by
 have gI:Hid (xa.natAbs<2^(32*KB)):=hx2
 have jX:Hid (ya.natAbs<2^(32*KB)):=hy2
 have jq:Hid ((xb:Int).natAbs<2^(32*KB)):=by show (xb:Int).natAbs<2^(32*KB);rw[Int.natAbs_natCast];exact eX
 have fV:Hid ((yb:Int).natAbs<2^(32*KB)):=by show (yb:Int).natAbs<2^(32*KB);rw[Int.natAbs_natCast];exact fD
 have HX0:Hid (IntIs w bx 0 xa):=hx.num
 have qc:Hid (IntIs w b2 0 ya):=hy.num
 have lZ:Hid (RatV w bx xa xb):=hx
 have j3:Hid (RatV w b2 ya yb):=hy
 have EF:Hid (RatIs w bz s1 s2):=hz
 have fe:0<xb:=hxb
 have dw:0<yb:=hyb
 have eH:Hid ((xa*ya).natAbs<2^(32*(2*KB))):=by
  show (xa*ya).natAbs<2^(32*(2*KB))
  rw[Int.natAbs_mul,show 32*(2*KB)=32*KB+32*KB from by omega,Nat.pow_add]
  exact Nat.mul_lt_mul'' hx2 hy2
 have HD2:Hid (xb*yb<2^(32*(2*KB))):=by
  show xb*yb<2^(32*(2*KB))
  rw[show 32*(2*KB)=32*KB+32*KB from by omega,Nat.pow_add]
  exact Nat.mul_lt_mul'' eX fD
 have HD0:Hid (0<xb*yb):=Nat.mul_pos hxb hyb
 have uf:Hid ((xb:Int)*yb=((xb*yb:Nat):Int)):=by show (xb:Int)*yb=((xb*yb:Nat):Int);push_cast;rfl
 clear hx hy hz hx2 hy2 eX fD hxb hyb
 go_enter Tryz.func75,Tryz.ntmps75
 go_wp2_with fail
 refine q0G 15 (G w) (by kernel_rfl) (by first|exact(G.refl _).drew|exact G.drew (by assumption)) ?_
 intro bG
 refine q02 0 (v:= ?_) rfl (by kernel_rfl) (fun _ _ _ h=>h) rfl ?_ ‹_› ?_
 rotate_left
 ·intro wq hwq
  first|(go_simp;done)|(go_simp;with_reducible rfl)
 try simp only[aput,List.set]
 refine q02 2 (v:= ?_) rfl (by kernel_rfl) (fun _ _ _ h=>h) rfl ?_ ‹_› ?_
 rotate_left
 ·intro wq hwq
  first|(go_simp;done)|(go_simp;with_reducible rfl)
 try simp only[aput,List.set]
 refine q02 3 (v:= ?_) rfl (by kernel_rfl) (fun _ _ _ h=>h) rfl ?_ ‹_› ?_
 rotate_left
 ·intro wq hwq
  first|(go_simp;done)|(go_simp;with_reducible rfl)
 try simp only[aput,List.set]
 refine q02 4 (v:= ?_) rfl (by kernel_rfl) (fun _ _ _ h=>h) rfl ?_ ‹_› ?_
 rotate_left
 ·intro wq hwq
  first|(go_simp;done)|(go_simp;with_reducible rfl)
 try simp only[aput,List.set]
 refine q02 5 (v:= ?_) rfl (by kernel_rfl) (fun _ _ _ h=>h) rfl ?_ ‹_› ?_
 rotate_left
 ·intro wq hwq
  first|(go_simp;done)|(go_simp;with_reducible rfl)
 try simp only[aput,List.set]
 refine q02 6 (v:= ?_) rfl (by kernel_rfl) (fun _ _ _ h=>h) rfl ?_ ‹_› ?_
 rotate_left
 ·intro wq hwq
  first|(go_simp;done)|(go_simp;with_reducible rfl)
 try simp only[aput,List.set]
 refine q02 7 (v:= ?_) rfl (by kernel_rfl) (fun _ _ _ h=>h) rfl ?_ ‹_› ?_
 rotate_left
 ·intro wq hwq
  first|(go_simp;done)|(go_simp;with_reducible rfl)
 try simp only[aput,List.set]
 refine q02 10 (v:= ?_) rfl (by kernel_rfl) (fun _ _ _ h=>h) rfl ?_ ‹_› ?_
 rotate_left
 ·intro wq hwq
  first|(go_simp;done)|(go_simp;with_reducible rfl)
 try simp only[aput,List.set]
 refine q02 12 (v:= ?_) rfl (by kernel_rfl) (fun _ _ _ h=>h) rfl ?_ ‹_› ?_
 rotate_left
 ·intro wq hwq
  first|(go_simp;done)|(go_simp;with_reducible rfl)
 try simp only[aput,List.set]
 show q0w _ _ _ _ _ _ _ _ _ w.drew
 have hS5:=bG
 generalize w.drew=w5 at *
 clear bG
 apply share
 intro dz
 apply share
 intro dV
 apply share
 intro xm
 apply share
 intro kr
 refine q08 (i:=1) (j:=9) (by kernel_rfl) rfl rfl ?_ ?_
 ·skip
  intro K hK
  go_simp
  refine hK.out _ _ (Or.inr (hS5.alloc _)) ?_
  clear hK K
  have hn:=NI.new hS5 83
  have hal:=(G.refl w5).alloc (.cells #[.bool false,.slice none 0 0] 83)
  have aI:=G.trans hS5 hal
  generalize w5.heap.size=pn at *
  generalize w5.alloc (.cells #[.bool false,.slice none 0 0] 83)=w6 at *
  have zV:=hid hn
  clear hn hal
  refine q08 (i:=8) (j:=9) (by kernel_rfl) rfl rfl ?_ ?_
  ·skip
   intro K hK
   go_simp
   have dA:Hid _:=q0R w6 pn 0 bx 0 b2 0 0 xa ya KB (by omega) gI.out jX.out zV.out.2.1 (G.lt aI hbx) (G.lt aI hby) zV.out.2.2 (IntIs.G HX0.out hbx aI) (IntIs.G qc.out hby aI)
   go_wp2_with (go_at_call 78;refine Calls.mono (P:=Tryz.prog) dA.out ?_;intro e w7 hx;obtain⟨rfl,aD,hl,-,hkp⟩:=SetTo.step aI zV.out hx)
   have nK:=hid hl
   refine hK.out _ _ (Or.inr aD) ?_
   clear hK K hx hl hkp dA aI zV
   refine q08 (i:=9) (j:=11) (by kernel_rfl) rfl rfl ?_ ?_
   ·skip
    intro K hK
    go_simp
    refine hK.out _ _ (Or.inr (aD.alloc _)) ?_
    clear hK K
    have hn:=NI.new aD 83
    have hal:=(G.refl w7).alloc (.cells #[.bool false,.slice none 0 0] 83)
    have aG:=G.trans aD hal
    have nL:=hid (nK.out.G hal)
    have bD:w7.heap.size≠pn:=by have:=nK.out.2.1;omega
    generalize w7.heap.size=pd at *
    generalize w7.alloc (.cells #[.bool false,.slice none 0 0] 83)=w8 at *
    have xq:=hid hn
    have bg:Hid (pn≠pd):=bD.symm
    have bn:Hid (pd≠pn):=bD
    clear hn hal aD nK bD
    refine q00 (l':=#[true,true,true,true,true,true,true,true,true,true,true,false,true,false,false,false,false]) (by kernel_rfl) ?_
    revert bg
    revert bn
    revert xq
    revert nL
    revert aG
    revert pd
    revert pn
    revert w8
    exact xm.out
   ·skip
    intro K hK
    go_simp
    go_wp2_with (go_at_call 76;refine Calls.mono (P:=Tryz.prog) (q0F w w7 aD bx xa xb fe hbx lZ.out) ?_;intro e w8 hx;obtain⟨p3,o3,rfl,hg,h72,dY⟩:=hx)
    refine hK.out _ _ (Or.inr (G.trans aD hg)) ?_
    clear hK K
    have aG:=G.trans aD hg
    have bP:=hid h72
    have bD:p3≠pn:=by have h1:=nK.out.1;have h2:=nK.out.2.1;omega
    have nL:=hid (nK.out.G hg)
    have fw:Hid (p3≠pn):=bD
    clear hg h72 dY aD nK bD
    refine q08 (i:=9) (j:=13) (by kernel_rfl) rfl rfl ?_ ?_
    ·skip
     intro K hK
     go_simp
     refine hK.out _ _ (Or.inr (aG.alloc _)) ?_
     clear hK K
     have hn:=NI.new aG 83
     have hal:=(G.refl w8).alloc (.cells #[.bool false,.slice none 0 0] 83)
     have aJ:=G.trans aG hal
     have qG:=hid (nL.out.G hal)
     have cZ:=hid (bP.out.G hal)
     have bD:w8.heap.size≠pn:=by have:=nL.out.2.1;omega
     have aB:w8.heap.size≠p3:=by have:=(bP.out.is aG).1;omega
     generalize w8.heap.size=pd at *
     generalize w8.alloc (.cells #[.bool false,.slice none 0 0] 83)=w9 at *
     have xu:=hid hn
     have bg:Hid (pn≠pd):=bD.symm
     have bn:Hid (pd≠pn):=bD
     have dF:Hid (p3≠pd):=aB.symm
     clear hn hal aG nL bP bD aB
     refine q00 (l':=#[true,true,true,true,true,true,true,true,true,true,true,true,true,false,false,false,false]) (by kernel_rfl) ?_
     revert dF
     revert bg
     revert fw
     revert bn
     revert cZ
     revert xu
     revert qG
     revert aJ
     revert o3
     revert p3
     revert pd
     revert pn
     revert w9
     exact dV.out
    ·skip
     intro K hK
     go_simp
     go_wp2_with (go_at_call 76;refine Calls.mono (P:=Tryz.prog) (q0F w w8 aG b2 ya yb dw hby j3.out) ?_;intro e w9 hx;obtain⟨p4,o4,rfl,hg,h72,dY⟩:=hx)
     refine hK.out _ _ (Or.inr (G.trans aG hg)) ?_
     clear hK K
     have aJ:=G.trans aG hg
     have pF:=hid h72
     have bD:p4≠pn:=by have h1:=nL.out.1;have h2:=nL.out.2.1;omega
     have qG:=hid (nL.out.G hg)
     have cZ:=hid (bP.out.G hg)
     have jA:Hid (p4≠pn):=bD
     clear hg h72 dY aG nL bP bD
     refine q03 (i:=9) (by kernel_rfl) rfl ?_
     intro K hK
     go_simp
     refine hK.out _ _ (Or.inr (aJ.alloc _)) ?_
     clear hK K
     have hn:=NI.new aJ 83
     have hal:=(G.refl w9).alloc (.cells #[.bool false,.slice none 0 0] 83)
     have aF:=G.trans aJ hal
     have qm:=hid (qG.out.G hal)
     have bC:=hid (cZ.out.G hal)
     have bI:=hid (pF.out.G hal)
     have bD:w9.heap.size≠pn:=by have:=qG.out.2.1;omega
     have aB:w9.heap.size≠p3:=by have:=(cZ.out.is aJ).1;omega
     have di:w9.heap.size≠p4:=by have:=(pF.out.is aJ).1;omega
     generalize w9.heap.size=pd at *
     generalize w9.alloc (.cells #[.bool false,.slice none 0 0] 83)=aS at *
     have jm:=hid hn
     have bg:Hid (pn≠pd):=bD.symm
     have bn:Hid (pd≠pn):=bD
     have dF:Hid (p3≠pd):=aB.symm
     have iI:Hid (p4≠pd):=di.symm
     clear hn hal aJ qG cZ pF bD aB di
     refine q00 (l':=#[true,true,true,true,true,true,true,true,true,true,true,true,true,true,false,false,false]) (by kernel_rfl) ?_
     revert iI
     revert dF
     revert bg
     revert jA
     revert fw
     revert bn
     revert bI
     revert bC
     revert jm
     revert qm
     revert aF
     revert o4
     revert p4
     revert o3
     revert p3
     revert pd
     revert pn
     revert aS
     exact dz.out
  ·skip
   intro K hK
   go_simp
   refine hK.out _ _ (Or.inr (aI.alloc _)) ?_
   clear hK K
   have hn:=NI.new aI 83
   have hal:=(G.refl w6).alloc (.cells #[.bool false,.slice none 0 0] 83)
   have aD:=G.trans aI hal
   have nK:=hid (zV.out.G hal)
   have bD:w6.heap.size≠pn:=by have:=zV.out.2.1;omega
   generalize w6.heap.size=pd at *
   generalize w6.alloc (.cells #[.bool false,.slice none 0 0] 83)=w7 at *
   have xe:=hid hn
   have bg:Hid (pn≠pd):=bD.symm
   have bn:Hid (pd≠pn):=bD
   clear hn hal aI zV bD
   refine q00 (l':=#[true,true,true,true,true,true,true,true,false,true,true,false,true,false,false,false,false]) (by kernel_rfl) ?_
   revert bg
   revert bn
   revert xe
   revert nK
   revert aD
   revert pd
   revert pn
   revert w7
   exact kr.out
 ·skip
  intro K hK
  go_simp
  refine hK.out _ _ (Or.inr (hS5.alloc _)) ?_
  clear hK K
  have hn:=NI.new hS5 83
  have hal:=(G.refl w5).alloc (.cells #[.bool false,.slice none 0 0] 83)
  have aI:=G.trans hS5 hal
  generalize w5.heap.size=pd at *
  generalize w5.alloc (.cells #[.bool false,.slice none 0 0] 83)=w6 at *
  have L9:=hid hn
  clear hn hal
  refine q03 (i:=1) (by kernel_rfl) rfl ?_
  intro K hK
  go_simp
  refine hK.out _ _ (Or.inr (aI.alloc _)) ?_
  clear hK K
  have hn:=NI.new aI 83
  have hal:=(G.refl w6).alloc (.cells #[.bool false,.slice none 0 0] 83)
  have aD:=G.trans aI hal
  have xe:=hid (L9.out.G hal)
  have iJ:w6.heap.size≠pd:=by have:=L9.out.2.1;omega
  generalize w6.heap.size=pn at *
  generalize w6.alloc (.cells #[.bool false,.slice none 0 0] 83)=w7 at *
  have nK:=hid hn
  have bn:Hid (pd≠pn):=iJ.symm
  have bg:Hid (pn≠pd):=iJ
  clear hn hal aI L9 iJ
  refine q00 (l':=#[true,true,true,true,true,true,true,true,false,true,true,false,true,false,false,false,false]) (by kernel_rfl) ?_
  revert bg
  revert bn
  revert xe
  revert nK
  revert aD
  revert pd
  revert pn
  revert w7
  exact kr.out
 refine Later.mk ?_
 intro w7 pn pd aD nK xe bn bg
 refine q03 (i:=8) (by kernel_rfl) rfl ?_
 intro K hK
 go_simp
 have dA:Hid _:=q0R w7 pn 0 bx 0 b2 0 0 xa ya KB (by omega) gI.out jX.out nK.out.2.1 (G.lt aD hbx) (G.lt aD hby) nK.out.2.2 (IntIs.G HX0.out hbx aD) (IntIs.G qc.out hby aD)
 go_wp2_with (go_at_call 78;refine Calls.mono (P:=Tryz.prog) dA.out ?_;intro e w8 hx;obtain⟨rfl,aG,hl,-,hkp⟩:=SetTo.step aD nK.out hx)
 have nL:=hid hl
 have xq:=hid (hkp _ _ bn.out xe.out)
 refine hK.out _ _ (Or.inr aG) ?_
 clear hK K hx hl hkp dA aD nK xe
 refine q00 (l':=#[true,true,true,true,true,true,true,true,true,true,true,false,true,false,false,false,false]) (by kernel_rfl) ?_
 revert bg
 revert bn
 revert xq
 revert nL
 revert aG
 revert pd
 revert pn
 revert w8
 exact xm.out
 refine Later.mk ?_
 intro w8 pn pd aG nL xq bn bg
 refine q03 (i:=11) (by kernel_rfl) rfl ?_
 intro K hK
 go_simp
 go_wp2_with (go_at_call 76;refine Calls.mono (P:=Tryz.prog) (q0F w w8 aG bx xa xb fe hbx lZ.out) ?_;intro e w9 hx;obtain⟨p3,o3,rfl,hg,h72,dY⟩:=hx)
 refine hK.out _ _ (Or.inr (G.trans aG hg)) ?_
 clear hK K
 have aJ:=G.trans aG hg
 have cZ:=hid h72
 have bD:p3≠pn:=by have h1:=nL.out.1;have h2:=nL.out.2.1;omega
 have iJ:p3≠pd:=by have h1:=xq.out.1;have h2:=xq.out.2.1;omega
 have qG:=hid (nL.out.G hg)
 have xu:=hid (xq.out.G hg)
 have fw:Hid (p3≠pn):=bD
 have dF:Hid (p3≠pd):=iJ
 clear hg h72 dY aG nL xq bD iJ
 refine q00 (l':=#[true,true,true,true,true,true,true,true,true,true,true,true,true,false,false,false,false]) (by kernel_rfl) ?_
 revert dF
 revert bg
 revert fw
 revert bn
 revert cZ
 revert xu
 revert qG
 revert aJ
 revert o3
 revert p3
 revert pd
 revert pn
 revert w9
 exact dV.out
 refine Later.mk ?_
 intro w9 pn pd p3 o3 aJ qG xu cZ bn fw bg dF
 refine q03 (i:=13) (by kernel_rfl) rfl ?_
 intro K hK
 go_simp
 go_wp2_with (go_at_call 76;refine Calls.mono (P:=Tryz.prog) (q0F w w9 aJ b2 ya yb dw hby j3.out) ?_;intro e aS hx;obtain⟨p4,o4,rfl,hg,h72,dY⟩:=hx)
 refine hK.out _ _ (Or.inr (G.trans aJ hg)) ?_
 clear hK K
 have aF:=G.trans aJ hg
 have bI:=hid h72
 have bD:p4≠pn:=by have h1:=qG.out.1;have h2:=qG.out.2.1;omega
 have iJ:p4≠pd:=by have h1:=xu.out.1;have h2:=xu.out.2.1;omega
 have qm:=hid (qG.out.G hg)
 have jm:=hid (xu.out.G hg)
 have bC:=hid (cZ.out.G hg)
 have jA:Hid (p4≠pn):=bD
 have iI:Hid (p4≠pd):=iJ
 clear hg h72 dY aJ qG xu cZ bD iJ
 refine q00 (l':=#[true,true,true,true,true,true,true,true,true,true,true,true,true,true,false,false,false]) (by kernel_rfl) ?_
 revert iI
 revert dF
 revert bg
 revert jA
 revert fw
 revert bn
 revert bI
 revert bC
 revert jm
 revert qm
 revert aF
 revert o4
 revert p4
 revert o3
 revert p3
 revert pd
 revert pn
 revert aS
 exact dz.out
 refine Later.mk ?_
 intro aS pn pd p3 o3 p4 o4 aF qm jm bC bI bn fw jA bg dF iI
 refine q03 (i:=14) (by kernel_rfl) rfl ?_
 intro K hK
 go_simp
 have dA:Hid _:=uf.out▸q0R aS pd 0 p3 o3 p4 o4 0 xb yb KB (by omega) jq.out fV.out jm.out.2.1 (bC.out.is aF).1 (bI.out.is aF).1 jm.out.2.2 (bC.out.is aF).2 (bI.out.is aF).2
 go_wp2_with (go_at_call 78;refine Calls.mono (P:=Tryz.prog) dA.out ?_;intro e dE hx;obtain⟨rfl,aW,hl,-,hkp⟩:=SetTo.step aF jm.out hx)
 have qi:=hid hl
 have EG:=hid (hkp _ _ bg.out qm.out)
 have gJ:=hid (DI.keep bC.out (hkp _ _ dF.out))
 have fE:=hid (DI.keep bI.out (hkp _ _ iI.out))
 refine hK.out _ _ (Or.inr aW) ?_
 clear hK K hx hl hkp dA aF qm jm bC bI
 refine q03 (i:=15) (by kernel_rfl) rfl ?_
 intro K hK
 go_simp
 have rW:Hid _:=q0V dE bz pn 0 pd 0 s1 s2 (xa*ya) (xb*yb) (2*KB) (by omega) eH.out HD2.out HD0.out (G.lt aW hbz) EG.out.2.1 qi.out.2.1 (EF.out.G hbz aW) EG.out.2.2 qi.out.2.2
 go_wp2_with (go_at_call 101;refine Calls.mono (P:=Tryz.prog) rW.out ?_;intro e kv hx;obtain⟨rfl,k1,k2⟩:=NormTo.after aW hx)
 have kF:Hid _:=k2
 refine hK.out _ _ (Or.inl (by decide)) ?_
 clear hx k2 hK K rW
 refine q03 (i:=16) (by kernel_rfl) rfl ?_
 intro K hK
 go_simp
 refine hK.out _ _ (Or.inl (by decide)) ?_
 clear hK K
 refine q0f (by kernel_rfl) ?_ _
 go_wp2_with fail
 go_ret
 exact⟨rfl,k1,kF.out⟩
set_option maxRecDepth 10000 in
set_option maxHeartbeats 8000000 in
theorem qbt (w:World) (bx b2:Nat) (xa ya:Int) (xb yb:Nat) (KB:Nat) (hK:KB≤100000) (hx2:xa.natAbs<2^(32*KB)) (hy2:ya.natAbs<2^(32*KB)) (eX:xb<2^(32*KB)) (fD:yb<2^(32*KB)) (hxb:0<xb) (hyb:0<yb)
  (hbx:bx<w.heap.size) (hby:b2<w.heap.size) (hx:RatV w bx xa xb) (hy:RatV w b2 ya yb):
  Calls Tryz.prog 36 #[.pointer (some ⟨bx,0,none⟩),.pointer (some ⟨b2,0,none⟩)] w fun e w'=>e= .returned (.int .i64 (cmpI (xa*(yb:Int)) (ya*(xb:Int))))∧G w w':=by
 have gI:Hid (xa.natAbs<2^(32*KB)):=hx2
 have jX:Hid (ya.natAbs<2^(32*KB)):=hy2
 have jq:Hid ((xb:Int).natAbs<2^(32*KB)):=by show (xb:Int).natAbs<2^(32*KB);rw[Int.natAbs_natCast];exact eX
 have fV:Hid ((yb:Int).natAbs<2^(32*KB)):=by show (yb:Int).natAbs<2^(32*KB);rw[Int.natAbs_natCast];exact fD
 have HX0:Hid (IntIs w bx 0 xa):=hx.num
 have qc:Hid (IntIs w b2 0 ya):=hy.num
 have lZ:Hid (RatV w bx xa xb):=hx
 have j3:Hid (RatV w b2 ya yb):=hy
 have fe:0<xb:=hxb
 have dw:0<yb:=hyb
 have pE:32*(2*KB)=32*KB+32*KB:=by omega
 have kY:Hid ((xa*(yb:Int)).natAbs<2^(32*(2*KB))):=by
  show (xa*(yb:Int)).natAbs<2^(32*(2*KB))
  rw[Int.natAbs_mul,Int.natAbs_natCast,pE,Nat.pow_add]
  exact Nat.mul_lt_mul'' hx2 fD
 have eH:Hid ((ya*(xb:Int)).natAbs<2^(32*(2*KB))):=by
  show (ya*(xb:Int)).natAbs<2^(32*(2*KB))
  rw[Int.natAbs_mul,Int.natAbs_natCast,pE,Nat.pow_add]
  exact Nat.mul_lt_mul'' hy2 eX
 have Gv:Hid (∀ w1 px ox py oy,px<w1.heap.size→py<w1.heap.size→IntIs w1 px ox (xb:Int)→IntIs w1 py oy (yb:Int)→_):=fun w1 px ox py oy h1 h2 h3 h4=>q7T w1 px ox py oy (xb:Int) (yb:Int) KB (by omega) jq.out fV.out h1 h2 h3 h4
 by_cases he:xb=yb
 ·subst he
  have h1:cmpI (xb:Int) (xb:Int)=0:=by unfold cmpI;rw[if_neg (by omega),if_pos rfl]
  rw[h1] at Gv
  rw[q9g hxb]
  have Bb:Hid (∀ w1,G w w1→_):=fun w1 g=>q7T w1 bx 0 b2 0 xa ya KB (by omega) gI.out jX.out (G.lt g hbx) (G.lt g hby) (IntIs.G HX0.out hbx g) (IntIs.G qc.out hby g)
  generalize cmpI xa ya=cv at *
  clear hx hy hx2 hy2 eX fD hxb hyb h1 kY eH pE
  go_enter Tryz.func36,Tryz.ntmps36
  go_wp2_with fail
  refine Calls.mono (P:=Tryz.prog) (q0F w w (G.refl w) bx xa xb fe hbx lZ.out) ?_
  rintro e w1 ⟨px,ox,rfl,hg1,kx,-⟩
  have Fq:Hid (DI w w1 px ox xb):=kx
  clear kx
  go_wp2_with fail
  refine Calls.mono (P:=Tryz.prog) (q0F w w1 hg1 b2 ya xb dw hby j3.out) ?_
  rintro e w2 ⟨py,oy,rfl,hg2,ky,-⟩
  have BD:Hid (DI w w2 py oy xb):=ky
  have qo:Hid (DI w w2 px ox xb):=Fq.out.G hg2
  have hG2:=G.trans hg1 hg2
  clear ky Fq
  clear hg1 hg2
  go_wp2_with fail
  refine Calls.mono (P:=Tryz.prog) (Gv.out w2 px ox py oy (qo.out.is hG2).1 (BD.out.is hG2).1 (qo.out.is hG2).2 (BD.out.is hG2).2) ?_
  rintro e w3 ⟨rfl,hg3⟩
  have hG3:=G.trans hG2 hg3
  clear hg3 hG2
  go_wp2_with fail
  refine q0G 6 (G w3) (by kernel_rfl) (by first|exact(G.refl _).drew|exact G.drew (by assumption)) ?_
  intro bG
  refine q02 0 (v:= ?_) rfl (by kernel_rfl) (fun _ _ _ h=>h) rfl ?_ ‹_› ?_
  rotate_left
  ·intro wq hwq
   first|(go_simp;done)|(go_simp;with_reducible rfl)
  try simp only[aput,List.set]
  refine q02 1 (v:= ?_) rfl (by kernel_rfl) (fun _ _ _ h=>h) rfl ?_ ‹_› ?_
  rotate_left
  ·intro wq hwq
   first|(go_simp;done)|(go_simp;with_reducible rfl)
  try simp only[aput,List.set]
  refine q02 2 (v:= ?_) rfl (by kernel_rfl) (fun _ _ _ h=>h) rfl ?_ ‹_› ?_
  rotate_left
  ·intro wq hwq
   first|(go_simp;done)|(go_simp;with_reducible rfl)
  try simp only[aput,List.set]
  refine q02 3 (v:= ?_) rfl (by kernel_rfl) (fun _ _ _ h=>h) rfl ?_ ‹_› ?_
  rotate_left
  ·intro wq hwq
   first|(go_simp;done)|(go_simp;with_reducible rfl)
  try simp only[aput,List.set]
  refine q02 4 (v:= ?_) rfl (by kernel_rfl) (fun _ _ _ h=>h) rfl ?_ ‹_› ?_
  rotate_left
  ·intro wq hwq
   first|(go_simp;done)|(go_simp;with_reducible rfl)
  try simp only[aput,List.set]
  refine q02 5 (v:= ?_) rfl (by kernel_rfl) (fun _ _ _ h=>h) rfl ?_ ‹_› ?_
  rotate_left
  ·intro wq hwq
   first|(go_simp;done)|(go_simp;with_reducible rfl)
  try simp only[aput,List.set]
  show q0w _ _ _ _ _ _ _ _ _ w3.drew
  generalize w3.drew=Tt at *
  have Fs:=G.trans hG3 bG
  refine q03 (i:=6) (by kernel_rfl) rfl ?_
  intro K hK
  go_simp
  go_wp2_with (go_at_call 77;refine Calls.mono (P:=Tryz.prog) (Bb.out Tt Fs) ?_;rintro e w4 ⟨rfl,hg4⟩)
  refine hK.out _ _ (Or.inl (by decide)) ?_
  have hG4:=G.trans Fs hg4
  clear hK K
  refine q03 (i:=7) (by kernel_rfl) rfl ?_
  intro K hK
  go_simp
  refine hK.out _ _ (Or.inl (by decide)) ?_
  clear hK K
  refine q0f (by kernel_rfl) ?_ _
  go_wp2_with fail
  go_ret
  exact⟨rfl,hG4⟩
 ·have h1:(cmpI (xb:Int) (yb:Int)==0)=false:=by
   unfold cmpI
   by_cases h:(xb:Int)<yb
   ·rw[if_pos h];rfl
   ·rw[if_neg h,if_neg (by omega)];rfl
  have HT1:Hid _:=h1
  generalize cmpI (xb:Int) (yb:Int)=cd at *
  clear hx hy hx2 hy2 eX fD hxb hyb h1 he pE
  have t1:=HT1.out
  go_enter Tryz.func36,Tryz.ntmps36
  go_wp2_with fail
  refine Calls.mono (P:=Tryz.prog) (q0F w w (G.refl w) bx xa xb fe hbx lZ.out) ?_
  rintro e w1 ⟨px,ox,rfl,hg1,kx,-⟩
  have Fq:Hid (DI w w1 px ox xb):=kx
  clear kx
  go_wp2_with fail
  refine Calls.mono (P:=Tryz.prog) (q0F w w1 hg1 b2 ya yb dw hby j3.out) ?_
  rintro e w2 ⟨py,oy,rfl,hg2,ky,-⟩
  have BD:Hid (DI w w2 py oy yb):=ky
  have qo:Hid (DI w w2 px ox xb):=Fq.out.G hg2
  have hG2:=G.trans hg1 hg2
  clear ky Fq
  clear hg1 hg2
  go_wp2_with fail
  refine Calls.mono (P:=Tryz.prog) (Gv.out w2 px ox py oy (qo.out.is hG2).1 (BD.out.is hG2).1 (qo.out.is hG2).2 (BD.out.is hG2).2) ?_
  rintro e w3 ⟨rfl,hg3⟩
  have hG3:=G.trans hG2 hg3
  clear hg3 hG2 Gv qo BD
  have Pv:Hid (RatV w3 bx xa xb):=RatV.G lZ.out hbx hG3
  have Gw:Hid (RatV w3 b2 ya yb):=RatV.G j3.out hby hG3
  clear lZ j3
  go_wp2_with fail
  clear t1 HT1
  apply share
  ·intro LX
   refine q0G 14 (G w3) (by kernel_rfl) (by first|exact(G.refl _).drew|exact G.drew (by assumption)) ?_
   intro bG
   refine q02 1 (v:= ?_) rfl (by kernel_rfl) (fun _ _ _ h=>h) rfl ?_ ‹_› ?_
   rotate_left
   ·intro wq hwq
    first|(go_simp;done)|(go_simp;with_reducible rfl)
   try simp only[aput,List.set]
   refine q02 2 (v:= ?_) rfl (by kernel_rfl) (fun _ _ _ h=>h) rfl ?_ ‹_› ?_
   rotate_left
   ·intro wq hwq
    first|(go_simp;done)|(go_simp;with_reducible rfl)
   try simp only[aput,List.set]
   refine q02 3 (v:= ?_) rfl (by kernel_rfl) (fun _ _ _ h=>h) rfl ?_ ‹_› ?_
   rotate_left
   ·intro wq hwq
    first|(go_simp;done)|(go_simp;with_reducible rfl)
   try simp only[aput,List.set]
   refine q02 4 (v:= ?_) rfl (by kernel_rfl) (fun _ _ _ h=>h) rfl ?_ ‹_› ?_
   rotate_left
   ·intro wq hwq
    first|(go_simp;done)|(go_simp;with_reducible rfl)
   try simp only[aput,List.set]
   refine q02 8 (v:= ?_) rfl (by kernel_rfl) (fun _ _ _ h=>h) rfl ?_ ‹_› ?_
   rotate_left
   ·intro wq hwq
    first|(go_simp;done)|(go_simp;with_reducible rfl)
   try simp only[aput,List.set]
   refine q02 9 (v:= ?_) rfl (by kernel_rfl) (fun _ _ _ h=>h) rfl ?_ ‹_› ?_
   rotate_left
   ·intro wq hwq
    first|(go_simp;done)|(go_simp;with_reducible rfl)
   try simp only[aput,List.set]
   refine q02 10 (v:= ?_) rfl (by kernel_rfl) (fun _ _ _ h=>h) rfl ?_ ‹_› ?_
   rotate_left
   ·intro wq hwq
    first|(go_simp;done)|(go_simp;with_reducible rfl)
   try simp only[aput,List.set]
   refine q02 11 (v:= ?_) rfl (by kernel_rfl) (fun _ _ _ h=>h) rfl ?_ ‹_› ?_
   rotate_left
   ·intro wq hwq
    first|(go_simp;done)|(go_simp;with_reducible rfl)
   try simp only[aput,List.set]
   show q0w _ _ _ _ _ _ _ _ _ w3.drew
   have hS5:=bG
   generalize w3.drew=w5 at *
   clear bG
   apply share
   intro dz
   apply share
   intro dV
   apply share
   intro fZ
   apply share
   intro kr
   apply share
   intro nE
   apply share
   intro nG
   refine q0m (i:=0) (j:=5) (l:=7) (by kernel_rfl) rfl rfl rfl ?_ ?_ ?_
   ·skip
    intro K hK
    go_simp
    refine hK.out _ _ (Or.inr (hS5.alloc _)) ?_
    clear hK K
    have hn:=NI.new hS5 83
    have hal:=(G.refl w5).alloc (.cells #[.bool false,.slice none 0 0] 83)
    have aI:=G.trans hS5 hal
    generalize w5.heap.size=p1 at *
    generalize w5.alloc (.cells #[.bool false,.slice none 0 0] 83)=w6 at *
    have j4:=hid hn
    clear hn hal
    refine q08 (i:=5) (j:=7) (by kernel_rfl) rfl rfl ?_ ?_
    ·skip
     intro K hK
     go_simp
     go_wp2_with (go_at_call 76;refine Calls.mono (P:=Tryz.prog) (q0F w3 w6 aI b2 ya yb dw (G.lt hG3 hby) Gw.out) ?_;intro e w7 hx;obtain⟨p4,o4,rfl,hg,h72,dY⟩:=hx)
     refine hK.out _ _ (Or.inr (G.trans aI hg)) ?_
     clear hK K
     have aD:=G.trans aI hg
     have HD7:=hid h72
     have af:p4≠p1:=by have h1:=j4.out.1;have h2:=j4.out.2.1;omega
     have aX:=hid (j4.out.G hg)
     have au:Hid (p4≠p1):=af
     clear hg h72 dY aI j4 af
     refine q00 (l':=#[true,true,true,true,true,true,false,false,true,true,true,true,false,false,false,false]) (by kernel_rfl) ?_
     revert au
     revert HD7
     revert aX
     revert aD
     revert o4
     revert p4
     revert p1
     revert w7
     exact nE.out
    ·skip
     intro K hK
     go_simp
     refine hK.out _ _ (Or.inr (aI.alloc _)) ?_
     clear hK K
     have hn:=NI.new aI 83
     have hal:=(G.refl w6).alloc (.cells #[.bool false,.slice none 0 0] 83)
     have aD:=G.trans aI hal
     have aX:=hid (j4.out.G hal)
     have af:w6.heap.size≠p1:=by have:=j4.out.2.1;omega
     generalize w6.heap.size=p2 at *
     generalize w6.alloc (.cells #[.bool false,.slice none 0 0] 83)=w7 at *
     have bE:=hid hn
     have aa:Hid (p1≠p2):=af.symm
     have ae:Hid (p2≠p1):=af
     clear hn hal aI j4 af
     refine q00 (l':=#[true,true,true,true,true,false,false,true,true,true,true,true,false,false,false,false]) (by kernel_rfl) ?_
     revert aa
     revert ae
     revert bE
     revert aX
     revert aD
     revert p2
     revert p1
     revert w7
     exact kr.out
   ·skip
    intro K hK
    go_simp
    go_wp2_with (go_at_call 76;refine Calls.mono (P:=Tryz.prog) (q0F w3 w5 hS5 b2 ya yb dw (G.lt hG3 hby) Gw.out) ?_;intro e w6 hx;obtain⟨p4,o4,rfl,hg,h72,dY⟩:=hx)
    refine hK.out _ _ (Or.inr (G.trans hS5 hg)) ?_
    clear hK K
    have aI:=G.trans hS5 hg
    have HD6:=hid h72
    clear hg h72 dY
    refine q08 (i:=0) (j:=7) (by kernel_rfl) rfl rfl ?_ ?_
    ·skip
     intro K hK
     go_simp
     refine hK.out _ _ (Or.inr (aI.alloc _)) ?_
     clear hK K
     have hn:=NI.new aI 83
     have hal:=(G.refl w6).alloc (.cells #[.bool false,.slice none 0 0] 83)
     have aD:=G.trans aI hal
     have HD7:=hid (HD6.out.G hal)
     have aB:w6.heap.size≠p4:=by have:=(HD6.out.is aI).1;omega
     generalize w6.heap.size=p1 at *
     generalize w6.alloc (.cells #[.bool false,.slice none 0 0] 83)=w7 at *
     have aX:=hid hn
     have au:Hid (p4≠p1):=aB.symm
     clear hn hal aI HD6 aB
     refine q00 (l':=#[true,true,true,true,true,true,false,false,true,true,true,true,false,false,false,false]) (by kernel_rfl) ?_
     revert au
     revert HD7
     revert aX
     revert aD
     revert o4
     revert p4
     revert p1
     revert w7
     exact nE.out
    ·skip
     intro K hK
     go_simp
     refine hK.out _ _ (Or.inr (aI.alloc _)) ?_
     clear hK K
     have hn:=NI.new aI 83
     have hal:=(G.refl w6).alloc (.cells #[.bool false,.slice none 0 0] 83)
     have aD:=G.trans aI hal
     have HD7:=hid (HD6.out.G hal)
     have aB:w6.heap.size≠p4:=by have:=(HD6.out.is aI).1;omega
     generalize w6.heap.size=p2 at *
     generalize w6.alloc (.cells #[.bool false,.slice none 0 0] 83)=w7 at *
     have bE:=hid hn
     have az:Hid (p4≠p2):=aB.symm
     clear hn hal aI HD6 aB
     refine q00 (l':=#[false,true,true,true,true,true,false,true,true,true,true,true,false,false,false,false]) (by kernel_rfl) ?_
     revert az
     revert bE
     revert HD7
     revert aD
     revert p2
     revert o4
     revert p4
     revert w7
     exact nG.out
   ·skip
    intro K hK
    go_simp
    refine hK.out _ _ (Or.inr (hS5.alloc _)) ?_
    clear hK K
    have hn:=NI.new hS5 83
    have hal:=(G.refl w5).alloc (.cells #[.bool false,.slice none 0 0] 83)
    have aI:=G.trans hS5 hal
    generalize w5.heap.size=p2 at *
    generalize w5.alloc (.cells #[.bool false,.slice none 0 0] 83)=w6 at *
    have j5:=hid hn
    clear hn hal
    refine q08 (i:=0) (j:=5) (by kernel_rfl) rfl rfl ?_ ?_
    ·skip
     intro K hK
     go_simp
     refine hK.out _ _ (Or.inr (aI.alloc _)) ?_
     clear hK K
     have hn:=NI.new aI 83
     have hal:=(G.refl w6).alloc (.cells #[.bool false,.slice none 0 0] 83)
     have aD:=G.trans aI hal
     have bE:=hid (j5.out.G hal)
     have av:w6.heap.size≠p2:=by have:=j5.out.2.1;omega
     generalize w6.heap.size=p1 at *
     generalize w6.alloc (.cells #[.bool false,.slice none 0 0] 83)=w7 at *
     have aX:=hid hn
     have ae:Hid (p2≠p1):=av.symm
     have aa:Hid (p1≠p2):=av
     clear hn hal aI j5 av
     refine q00 (l':=#[true,true,true,true,true,false,false,true,true,true,true,true,false,false,false,false]) (by kernel_rfl) ?_
     revert aa
     revert ae
     revert bE
     revert aX
     revert aD
     revert p2
     revert p1
     revert w7
     exact kr.out
    ·skip
     intro K hK
     go_simp
     go_wp2_with (go_at_call 76;refine Calls.mono (P:=Tryz.prog) (q0F w3 w6 aI b2 ya yb dw (G.lt hG3 hby) Gw.out) ?_;intro e w7 hx;obtain⟨p4,o4,rfl,hg,h72,dY⟩:=hx)
     refine hK.out _ _ (Or.inr (G.trans aI hg)) ?_
     clear hK K
     have aD:=G.trans aI hg
     have HD7:=hid h72
     have av:p4≠p2:=by have h1:=j5.out.1;have h2:=j5.out.2.1;omega
     have bE:=hid (j5.out.G hg)
     have az:Hid (p4≠p2):=av
     clear hg h72 dY aI j5 av
     refine q00 (l':=#[false,true,true,true,true,true,false,true,true,true,true,true,false,false,false,false]) (by kernel_rfl) ?_
     revert az
     revert bE
     revert HD7
     revert aD
     revert p2
     revert o4
     revert p4
     revert w7
     exact nG.out
   refine Later.mk ?_
   intro w7 p4 o4 p2 aD HD7 bE az
   refine q03 (i:=0) (by kernel_rfl) rfl ?_
   intro K hK
   go_simp
   refine hK.out _ _ (Or.inr (aD.alloc _)) ?_
   clear hK K
   have hn:=NI.new aD 83
   have hal:=(G.refl w7).alloc (.cells #[.bool false,.slice none 0 0] 83)
   have aG:=G.trans aD hal
   have bP:=hid (HD7.out.G hal)
   have bQ:=hid (bE.out.G hal)
   have aB:w7.heap.size≠p4:=by have:=(HD7.out.is aD).1;omega
   have av:w7.heap.size≠p2:=by have:=bE.out.2.1;omega
   generalize w7.heap.size=p1 at *
   generalize w7.alloc (.cells #[.bool false,.slice none 0 0] 83)=w8 at *
   have aT:=hid hn
   have au:Hid (p4≠p1):=aB.symm
   have ae:Hid (p2≠p1):=av.symm
   have aa:Hid (p1≠p2):=av
   clear hn hal aD HD7 bE aB av
   refine q00 (l':=#[true,true,true,true,true,true,false,true,true,true,true,true,false,false,false,false]) (by kernel_rfl) ?_
   revert az
   revert aa
   revert ae
   revert au
   revert bQ
   revert bP
   revert aT
   revert aG
   revert p2
   revert o4
   revert p4
   revert p1
   revert w8
   exact fZ.out
   refine Later.mk ?_
   intro w7 p1 p4 o4 aD aX HD7 au
   refine q08 (i:=6) (j:=7) (by kernel_rfl) rfl rfl ?_ ?_
   ·skip
    intro K hK
    go_simp
    have dA:Hid _:=q0R w7 p1 0 bx 0 p4 o4 0 xa yb KB (by omega) gI.out fV.out aX.out.2.1 (G.lt (G.trans hG3 aD) hbx) (HD7.out.is aD).1 aX.out.2.2 (IntIs.G HX0.out hbx (G.trans hG3 aD)) (HD7.out.is aD).2
    go_wp2_with (go_at_call 78;refine Calls.mono (P:=Tryz.prog) dA.out ?_;intro e w8 hx;obtain⟨rfl,aG,hl,-,hkp⟩:=SetTo.step aD aX.out hx)
    have aT:=hid hl
    have bP:=hid (DI.keep HD7.out (hkp _ _ au.out))
    refine hK.out _ _ (Or.inr aG) ?_
    clear hK K hx hl hkp dA aD aX HD7
    refine q08 (i:=7) (j:=12) (by kernel_rfl) rfl rfl ?_ ?_
    ·skip
     intro K hK
     go_simp
     refine hK.out _ _ (Or.inr (aG.alloc _)) ?_
     clear hK K
     have hn:=NI.new aG 83
     have hal:=(G.refl w8).alloc (.cells #[.bool false,.slice none 0 0] 83)
     have aJ:=G.trans aG hal
     have aY:=hid (aT.out.G hal)
     have cZ:=hid (bP.out.G hal)
     have af:w8.heap.size≠p1:=by have:=aT.out.2.1;omega
     have aB:w8.heap.size≠p4:=by have:=(bP.out.is aG).1;omega
     generalize w8.heap.size=p2 at *
     generalize w8.alloc (.cells #[.bool false,.slice none 0 0] 83)=w9 at *
     have dC:=hid hn
     have aa:Hid (p1≠p2):=af.symm
     have ae:Hid (p2≠p1):=af
     have az:Hid (p4≠p2):=aB.symm
     clear hn hal aG aT bP af aB
     refine q00 (l':=#[true,true,true,true,true,true,true,true,true,true,true,true,false,false,false,false]) (by kernel_rfl) ?_
     revert az
     revert aa
     revert ae
     revert au
     revert dC
     revert cZ
     revert aY
     revert aJ
     revert p2
     revert o4
     revert p4
     revert p1
     revert w9
     exact dV.out
    ·skip
     intro K hK
     go_simp
     go_wp2_with (go_at_call 76;refine Calls.mono (P:=Tryz.prog) (q0F w3 w8 aG bx xa xb fe (G.lt hG3 hbx) Pv.out) ?_;intro e w9 hx;obtain⟨p3,o3,rfl,hg,h72,dY⟩:=hx)
     refine hK.out _ _ (Or.inr (G.trans aG hg)) ?_
     clear hK K
     have aJ:=G.trans aG hg
     have pF:=hid h72
     have af:p3≠p1:=by have h1:=aT.out.1;have h2:=aT.out.2.1;omega
     have aY:=hid (aT.out.G hg)
     have cZ:=hid (bP.out.G hg)
     have aM:Hid (p3≠p1):=af
     clear hg h72 dY aG aT bP af
     refine q03 (i:=7) (by kernel_rfl) rfl ?_
     intro K hK
     go_simp
     refine hK.out _ _ (Or.inr (aJ.alloc _)) ?_
     clear hK K
     have hn:=NI.new aJ 83
     have hal:=(G.refl w9).alloc (.cells #[.bool false,.slice none 0 0] 83)
     have aF:=G.trans aJ hal
     have aO:=hid (aY.out.G hal)
     have bC:=hid (cZ.out.G hal)
     have bI:=hid (pF.out.G hal)
     have af:w9.heap.size≠p1:=by have:=aY.out.2.1;omega
     have aB:w9.heap.size≠p4:=by have:=(cZ.out.is aJ).1;omega
     have di:w9.heap.size≠p3:=by have:=(pF.out.is aJ).1;omega
     generalize w9.heap.size=p2 at *
     generalize w9.alloc (.cells #[.bool false,.slice none 0 0] 83)=aS at *
     have aV:=hid hn
     have aa:Hid (p1≠p2):=af.symm
     have ae:Hid (p2≠p1):=af
     have az:Hid (p4≠p2):=aB.symm
     have aN:Hid (p3≠p2):=di.symm
     clear hn hal aJ aY cZ pF af aB di
     refine q00 (l':=#[true,true,true,true,true,true,true,true,true,true,true,true,true,false,false,false]) (by kernel_rfl) ?_
     revert aN
     revert az
     revert aa
     revert aM
     revert ae
     revert au
     revert bI
     revert aV
     revert bC
     revert aO
     revert aF
     revert o3
     revert p3
     revert p2
     revert o4
     revert p4
     revert p1
     revert aS
     exact dz.out
   ·skip
    intro K hK
    go_simp
    refine hK.out _ _ (Or.inr (aD.alloc _)) ?_
    clear hK K
    have hn:=NI.new aD 83
    have hal:=(G.refl w7).alloc (.cells #[.bool false,.slice none 0 0] 83)
    have aG:=G.trans aD hal
    have aT:=hid (aX.out.G hal)
    have bP:=hid (HD7.out.G hal)
    have af:w7.heap.size≠p1:=by have:=aX.out.2.1;omega
    have aB:w7.heap.size≠p4:=by have:=(HD7.out.is aD).1;omega
    generalize w7.heap.size=p2 at *
    generalize w7.alloc (.cells #[.bool false,.slice none 0 0] 83)=w8 at *
    have bQ:=hid hn
    have aa:Hid (p1≠p2):=af.symm
    have ae:Hid (p2≠p1):=af
    have az:Hid (p4≠p2):=aB.symm
    clear hn hal aD aX HD7 af aB
    refine q00 (l':=#[true,true,true,true,true,true,false,true,true,true,true,true,false,false,false,false]) (by kernel_rfl) ?_
    revert az
    revert aa
    revert ae
    revert au
    revert bQ
    revert bP
    revert aT
    revert aG
    revert p2
    revert o4
    revert p4
    revert p1
    revert w8
    exact fZ.out
   refine Later.mk ?_
   intro w7 p1 p2 aD aX bE ae aa
   refine q03 (i:=5) (by kernel_rfl) rfl ?_
   intro K hK
   go_simp
   go_wp2_with (go_at_call 76;refine Calls.mono (P:=Tryz.prog) (q0F w3 w7 aD b2 ya yb dw (G.lt hG3 hby) Gw.out) ?_;intro e w8 hx;obtain⟨p4,o4,rfl,hg,h72,dY⟩:=hx)
   refine hK.out _ _ (Or.inr (G.trans aD hg)) ?_
   clear hK K
   have aG:=G.trans aD hg
   have bP:=hid h72
   have af:p4≠p1:=by have h1:=aX.out.1;have h2:=aX.out.2.1;omega
   have av:p4≠p2:=by have h1:=bE.out.1;have h2:=bE.out.2.1;omega
   have aT:=hid (aX.out.G hg)
   have bQ:=hid (bE.out.G hg)
   have au:Hid (p4≠p1):=af
   have az:Hid (p4≠p2):=av
   clear hg h72 dY aD aX bE af av
   refine q00 (l':=#[true,true,true,true,true,true,false,true,true,true,true,true,false,false,false,false]) (by kernel_rfl) ?_
   revert az
   revert aa
   revert ae
   revert au
   revert bQ
   revert bP
   revert aT
   revert aG
   revert p2
   revert o4
   revert p4
   revert p1
   revert w8
   exact fZ.out
   refine Later.mk ?_
   intro w8 p1 p4 o4 p2 aG aT bP bQ au ae aa az
   refine q03 (i:=6) (by kernel_rfl) rfl ?_
   intro K hK
   go_simp
   have dA:Hid _:=q0R w8 p1 0 bx 0 p4 o4 0 xa yb KB (by omega) gI.out fV.out aT.out.2.1 (G.lt (G.trans hG3 aG) hbx) (bP.out.is aG).1 aT.out.2.2 (IntIs.G HX0.out hbx (G.trans hG3 aG)) (bP.out.is aG).2
   go_wp2_with (go_at_call 78;refine Calls.mono (P:=Tryz.prog) dA.out ?_;intro e w9 hx;obtain⟨rfl,aJ,hl,-,hkp⟩:=SetTo.step aG aT.out hx)
   have aY:=hid hl
   have cZ:=hid (DI.keep bP.out (hkp _ _ au.out))
   have dC:=hid (hkp _ _ ae.out bQ.out)
   refine hK.out _ _ (Or.inr aJ) ?_
   clear hK K hx hl hkp dA aG aT bP bQ
   refine q00 (l':=#[true,true,true,true,true,true,true,true,true,true,true,true,false,false,false,false]) (by kernel_rfl) ?_
   revert az
   revert aa
   revert ae
   revert au
   revert dC
   revert cZ
   revert aY
   revert aJ
   revert p2
   revert o4
   revert p4
   revert p1
   revert w9
   exact dV.out
   refine Later.mk ?_
   intro w9 p1 p4 o4 p2 aJ aY cZ dC au ae aa az
   refine q03 (i:=12) (by kernel_rfl) rfl ?_
   intro K hK
   go_simp
   go_wp2_with (go_at_call 76;refine Calls.mono (P:=Tryz.prog) (q0F w3 w9 aJ bx xa xb fe (G.lt hG3 hbx) Pv.out) ?_;intro e aS hx;obtain⟨p3,o3,rfl,hg,h72,dY⟩:=hx)
   refine hK.out _ _ (Or.inr (G.trans aJ hg)) ?_
   clear hK K
   have aF:=G.trans aJ hg
   have bI:=hid h72
   have af:p3≠p1:=by have h1:=aY.out.1;have h2:=aY.out.2.1;omega
   have av:p3≠p2:=by have h1:=dC.out.1;have h2:=dC.out.2.1;omega
   have aO:=hid (aY.out.G hg)
   have bC:=hid (cZ.out.G hg)
   have aV:=hid (dC.out.G hg)
   have aM:Hid (p3≠p1):=af
   have aN:Hid (p3≠p2):=av
   clear hg h72 dY aJ aY cZ dC af av
   refine q00 (l':=#[true,true,true,true,true,true,true,true,true,true,true,true,true,false,false,false]) (by kernel_rfl) ?_
   revert aN
   revert az
   revert aa
   revert aM
   revert ae
   revert au
   revert bI
   revert aV
   revert bC
   revert aO
   revert aF
   revert o3
   revert p3
   revert p2
   revert o4
   revert p4
   revert p1
   revert aS
   exact dz.out
   refine Later.mk ?_
   intro aS p1 p4 o4 p2 p3 o3 aF aO bC aV bI au ae aM aa az aN
   refine q03 (i:=13) (by kernel_rfl) rfl ?_
   intro K hK
   go_simp
   have dA:Hid _:=q0R aS p2 0 b2 0 p3 o3 0 ya xb KB (by omega) jX.out jq.out aV.out.2.1 (G.lt (G.trans hG3 aF) hby) (bI.out.is aF).1 aV.out.2.2 (IntIs.G qc.out hby (G.trans hG3 aF)) (bI.out.is aF).2
   go_wp2_with (go_at_call 78;refine Calls.mono (P:=Tryz.prog) dA.out ?_;intro e dE hx;obtain⟨rfl,aW,hl,-,hkp⟩:=SetTo.step aF aV.out hx)
   have cu:=hid hl
   have dm:=hid (hkp _ _ aa.out aO.out)
   have gJ:=hid (DI.keep bC.out (hkp _ _ az.out))
   have fE:=hid (DI.keep bI.out (hkp _ _ aN.out))
   refine hK.out _ _ (Or.inr aW) ?_
   clear hK K hx hl hkp dA aF aO bC aV bI
   refine q03 (i:=14) (by kernel_rfl) rfl ?_
   intro K hK
   go_simp
   go_wp2_with (go_at_call 77;refine Calls.mono (P:=Tryz.prog) (q7T dE p1 0 p2 0 (xa*(yb:Int)) (ya*(xb:Int)) (2*KB) (by omega) kY.out eH.out dm.out.2.1 cu.out.2.1 dm.out.2.2 cu.out.2.2) ?_;rintro e kv ⟨rfl,hg⟩)
   refine hK.out _ _ (Or.inl (by decide)) ?_
   clear hK K
   have fu:=G.trans aW hg
   have eF:=hid (dm.out.G hg)
   have mh:=hid (gJ.out.G hg)
   have eG:=hid (cu.out.G hg)
   have mi:=hid (fE.out.G hg)
   clear hg aW dm gJ cu fE
   refine q03 (i:=15) (by kernel_rfl) rfl ?_
   intro K hK
   go_simp
   refine hK.out _ _ (Or.inl (by decide)) ?_
   clear hK K
   refine q0f (by kernel_rfl) ?_ _
   revert aN
   revert az
   revert aa
   revert aM
   revert ae
   revert au
   revert mi
   revert eG
   revert mh
   revert eF
   revert fu
   revert o3
   revert p3
   revert p2
   revert o4
   revert p4
   revert p1
   revert kv
   exact LX.out
  ·skip
   refine Later.mk ?_
   intro kv p1 p4 o4 p2 p3 o3 fu eF mh eG mi au ae aM aa az aN
   have hG:=G.trans hG3 fu
   go_wp2_with fail
   go_ret
   exact⟨rfl,hG⟩
end Go.Proofs.YtdidnnbpdcanlaaGreatDoor
