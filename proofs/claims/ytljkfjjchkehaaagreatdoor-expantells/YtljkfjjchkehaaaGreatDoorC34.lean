/- What is proved here: contracts of the reference's ratios: Mul of Rat, of laid ones and of new ones, over this seat's translation.
What is proved here: contracts of the reference's ratios: Cmp of Rat, of laid ones and of new ones, over this seat's translation. -/
import Derived.Test.YtljkfjjchkehaaaGreatDoorC29
import Derived.Test.YtljkfjjchkehaaaGreatDoorC24
namespace Go.Proofs.YtljkfjjchkehaaaGreatDoor
open Go.ChangeShapes Go.WideShapes Go.ChangeAt Go.RowKit
open BN
set_option maxHeartbeats 4000000 in
theorem qbC (w:World) (bz bx b2:Nat) (s1 s2 xa ya:Int) (xb yb:Nat) (KB:Nat) (hK:KB≤100000) (hx2:xa.natAbs<2^(32*KB)) (hy2:ya.natAbs<2^(32*KB)) (gy:xb<2^(32*KB)) (iH:yb<2^(32*KB)) (hxb:0<xb) (hyb:0<yb)
  (hbz:bz<w.heap.size) (hbx:bx<w.heap.size) (hby:b2<w.heap.size) (hz:RatIs w bz s1 s2) (hx:RatV w bx xa xb) (hy:RatV w b2 ya yb):
  Calls Tryz.prog 14 #[.pointer (some ⟨bz,0,none⟩),.pointer (some ⟨bx,0,none⟩),.pointer (some ⟨b2,0,none⟩)] w (NormTo w bz (Int.tdiv (xa*ya) (Nat.gcd (xa*ya).natAbs (xb*yb):Nat)) (xb*yb/Nat.gcd (xa*ya).natAbs (xb*yb))):=by
 have jh:Hid (xa.natAbs<2^(32*KB)):=hx2
 have lM:Hid (ya.natAbs<2^(32*KB)):=hy2
 have kQ:Hid ((xb:Int).natAbs<2^(32*KB)):=by show (xb:Int).natAbs<2^(32*KB);rw[Int.natAbs_natCast];exact gy
 have iY:Hid ((yb:Int).natAbs<2^(32*KB)):=by show (yb:Int).natAbs<2^(32*KB);rw[Int.natAbs_natCast];exact iH
 have HX0:Hid (IntIs w bx 0 xa):=hx.num
 have tq:Hid (IntIs w b2 0 ya):=hy.num
 have nJ:Hid (RatV w bx xa xb):=hx
 have kH:Hid (RatV w b2 ya yb):=hy
 have FY:Hid (RatIs w bz s1 s2):=hz
 have iB:0<xb:=hxb
 have dJ:0<yb:=hyb
 have fJ:Hid ((xa*ya).natAbs<2^(32*(2*KB))):=by
  show (xa*ya).natAbs<2^(32*(2*KB))
  rw[Int.natAbs_mul,show 32*(2*KB)=32*KB+32*KB from by omega,Nat.pow_add]
  exact Nat.mul_lt_mul'' hx2 hy2
 have HD2:Hid (xb*yb<2^(32*(2*KB))):=by
  show xb*yb<2^(32*(2*KB))
  rw[show 32*(2*KB)=32*KB+32*KB from by omega,Nat.pow_add]
  exact Nat.mul_lt_mul'' gy iH
 have HD0:Hid (0<xb*yb):=Nat.mul_pos hxb hyb
 have tK:Hid ((xb:Int)*yb=((xb*yb:Nat):Int)):=by show (xb:Int)*yb=((xb*yb:Nat):Int);push_cast;rfl
 clear hx hy hz hx2 hy2 gy iH hxb hyb
 go_enter Tryz.func14,Tryz.ntmps14
 go_wp2_with fail
 refine q0J 15 (G w) (by kernel_rfl) (by first|exact(G.refl _).drew|exact G.drew (by assumption)) ?_
 intro bS
 refine q02 0 (v:= ?_) rfl (by kernel_rfl) (fun _ _ _ h=>h) rfl ?_ ‹_› ?_
 rotate_left
 ·intro wq hwq
  first|(go_simp;done)|(go_simp;with_reducible rfl)
 try simp only[aput,List.set]
 refine q02 2 (v:= ?_) rfl (by kernel_rfl) (fun _ _ _ h=>h) rfl ?_ ‹_› ?_
 rotate_left
 ·intro wq hwq
  first|(go_simp;done)|(go_simp;with_reducible rfl)
 try simp only[aput,List.set]
 refine q02 3 (v:= ?_) rfl (by kernel_rfl) (fun _ _ _ h=>h) rfl ?_ ‹_› ?_
 rotate_left
 ·intro wq hwq
  first|(go_simp;done)|(go_simp;with_reducible rfl)
 try simp only[aput,List.set]
 refine q02 4 (v:= ?_) rfl (by kernel_rfl) (fun _ _ _ h=>h) rfl ?_ ‹_› ?_
 rotate_left
 ·intro wq hwq
  first|(go_simp;done)|(go_simp;with_reducible rfl)
 try simp only[aput,List.set]
 refine q02 5 (v:= ?_) rfl (by kernel_rfl) (fun _ _ _ h=>h) rfl ?_ ‹_› ?_
 rotate_left
 ·intro wq hwq
  first|(go_simp;done)|(go_simp;with_reducible rfl)
 try simp only[aput,List.set]
 refine q02 6 (v:= ?_) rfl (by kernel_rfl) (fun _ _ _ h=>h) rfl ?_ ‹_› ?_
 rotate_left
 ·intro wq hwq
  first|(go_simp;done)|(go_simp;with_reducible rfl)
 try simp only[aput,List.set]
 refine q02 7 (v:= ?_) rfl (by kernel_rfl) (fun _ _ _ h=>h) rfl ?_ ‹_› ?_
 rotate_left
 ·intro wq hwq
  first|(go_simp;done)|(go_simp;with_reducible rfl)
 try simp only[aput,List.set]
 refine q02 10 (v:= ?_) rfl (by kernel_rfl) (fun _ _ _ h=>h) rfl ?_ ‹_› ?_
 rotate_left
 ·intro wq hwq
  first|(go_simp;done)|(go_simp;with_reducible rfl)
 try simp only[aput,List.set]
 refine q02 12 (v:= ?_) rfl (by kernel_rfl) (fun _ _ _ h=>h) rfl ?_ ‹_› ?_
 rotate_left
 ·intro wq hwq
  first|(go_simp;done)|(go_simp;with_reducible rfl)
 try simp only[aput,List.set]
 show q0C _ _ _ _ _ _ _ _ _ w.drew
 have hS5:=bS
 generalize w.drew=w5 at *
 clear bS
 apply share
 intro dK
 apply share
 intro fH
 apply share
 intro zA
 apply share
 intro lU
 refine q07 (i:=1) (j:=9) (by kernel_rfl) rfl rfl ?_ ?_
 ·skip
  intro K hK
  go_simp
  refine hK.out _ _ (Or.inr (hS5.alloc _)) ?_
  clear hK K
  have hn:=NI.new hS5 38
  have hal:=(G.refl w5).alloc (.cells #[.bool false,.slice none 0 0] 38)
  have aI:=G.trans hS5 hal
  generalize w5.heap.size=pn at *
  generalize w5.alloc (.cells #[.bool false,.slice none 0 0] 38)=w6 at *
  have Co:=hid hn
  clear hn hal
  refine q07 (i:=8) (j:=9) (by kernel_rfl) rfl rfl ?_ ?_
  ·skip
   intro K hK
   go_simp
   have dL:Hid _:=q0Y w6 pn 0 bx 0 b2 0 0 xa ya KB (by omega) jh.out lM.out Co.out.2.1 (G.lt aI hbx) (G.lt aI hby) Co.out.2.2 (IntIs.G HX0.out hbx aI) (IntIs.G tq.out hby aI)
   go_wp2_with (go_at_call 49;refine Calls.mono (P:=Tryz.prog) dL.out ?_;intro e w7 hx;obtain⟨rfl,aA,hl,-,hkp⟩:=SetTo.step aI Co.out hx)
   have pV:=hid hl
   refine hK.out _ _ (Or.inr aA) ?_
   clear hK K hx hl hkp dL aI Co
   refine q07 (i:=9) (j:=11) (by kernel_rfl) rfl rfl ?_ ?_
   ·skip
    intro K hK
    go_simp
    refine hK.out _ _ (Or.inr (aA.alloc _)) ?_
    clear hK K
    have hn:=NI.new aA 38
    have hal:=(G.refl w7).alloc (.cells #[.bool false,.slice none 0 0] 38)
    have aG:=G.trans aA hal
    have pW:=hid (pV.out.G hal)
    have bL:w7.heap.size≠pn:=by have:=pV.out.2.1;omega
    generalize w7.heap.size=pd at *
    generalize w7.alloc (.cells #[.bool false,.slice none 0 0] 38)=w8 at *
    have vo:=hid hn
    have bE:Hid (pn≠pd):=bL.symm
    have bF:Hid (pd≠pn):=bL
    clear hn hal aA pV bL
    refine q00 (l':=#[true,true,true,true,true,true,true,true,true,true,true,false,true,false,false,false,false]) (by kernel_rfl) ?_
    revert bE
    revert bF
    revert vo
    revert pW
    revert aG
    revert pd
    revert pn
    revert w8
    exact zA.out
   ·skip
    intro K hK
    go_simp
    go_wp2_with (go_at_call 50;refine Calls.mono (P:=Tryz.prog) (q0H w w7 aA bx xa xb iB hbx nJ.out) ?_;intro e w8 hx;obtain⟨p3,o3,rfl,hg,h72,fP⟩:=hx)
    refine hK.out _ _ (Or.inr (G.trans aA hg)) ?_
    clear hK K
    have aG:=G.trans aA hg
    have bV:=hid h72
    have bL:p3≠pn:=by have h1:=pV.out.1;have h2:=pV.out.2.1;omega
    have pW:=hid (pV.out.G hg)
    have iF:Hid (p3≠pn):=bL
    clear hg h72 fP aA pV bL
    refine q07 (i:=9) (j:=13) (by kernel_rfl) rfl rfl ?_ ?_
    ·skip
     intro K hK
     go_simp
     refine hK.out _ _ (Or.inr (aG.alloc _)) ?_
     clear hK K
     have hn:=NI.new aG 38
     have hal:=(G.refl w8).alloc (.cells #[.bool false,.slice none 0 0] 38)
     have aJ:=G.trans aG hal
     have uo:=hid (pW.out.G hal)
     have dx:=hid (bV.out.G hal)
     have bL:w8.heap.size≠pn:=by have:=pW.out.2.1;omega
     have ay:w8.heap.size≠p3:=by have:=(bV.out.is aG).1;omega
     generalize w8.heap.size=pd at *
     generalize w8.alloc (.cells #[.bool false,.slice none 0 0] 38)=w9 at *
     have pG:=hid hn
     have bE:Hid (pn≠pd):=bL.symm
     have bF:Hid (pd≠pn):=bL
     have ed:Hid (p3≠pd):=ay.symm
     clear hn hal aG pW bV bL ay
     refine q00 (l':=#[true,true,true,true,true,true,true,true,true,true,true,true,true,false,false,false,false]) (by kernel_rfl) ?_
     revert ed
     revert bE
     revert iF
     revert bF
     revert dx
     revert pG
     revert uo
     revert aJ
     revert o3
     revert p3
     revert pd
     revert pn
     revert w9
     exact fH.out
    ·skip
     intro K hK
     go_simp
     go_wp2_with (go_at_call 50;refine Calls.mono (P:=Tryz.prog) (q0H w w8 aG b2 ya yb dJ hby kH.out) ?_;intro e w9 hx;obtain⟨p4,o4,rfl,hg,h72,fP⟩:=hx)
     refine hK.out _ _ (Or.inr (G.trans aG hg)) ?_
     clear hK K
     have aJ:=G.trans aG hg
     have sJ:=hid h72
     have bL:p4≠pn:=by have h1:=pW.out.1;have h2:=pW.out.2.1;omega
     have uo:=hid (pW.out.G hg)
     have dx:=hid (bV.out.G hg)
     have kW:Hid (p4≠pn):=bL
     clear hg h72 fP aG pW bV bL
     refine q03 (i:=9) (by kernel_rfl) rfl ?_
     intro K hK
     go_simp
     refine hK.out _ _ (Or.inr (aJ.alloc _)) ?_
     clear hK K
     have hn:=NI.new aJ 38
     have hal:=(G.refl w9).alloc (.cells #[.bool false,.slice none 0 0] 38)
     have aF:=G.trans aJ hal
     have tO:=hid (uo.out.G hal)
     have bK:=hid (dx.out.G hal)
     have bX:=hid (sJ.out.G hal)
     have bL:w9.heap.size≠pn:=by have:=uo.out.2.1;omega
     have ay:w9.heap.size≠p3:=by have:=(dx.out.is aJ).1;omega
     have dD:w9.heap.size≠p4:=by have:=(sJ.out.is aJ).1;omega
     generalize w9.heap.size=pd at *
     generalize w9.alloc (.cells #[.bool false,.slice none 0 0] 38)=aS at *
     have kN:=hid hn
     have bE:Hid (pn≠pd):=bL.symm
     have bF:Hid (pd≠pn):=bL
     have ed:Hid (p3≠pd):=ay.symm
     have kv:Hid (p4≠pd):=dD.symm
     clear hn hal aJ uo dx sJ bL ay dD
     refine q00 (l':=#[true,true,true,true,true,true,true,true,true,true,true,true,true,true,false,false,false]) (by kernel_rfl) ?_
     revert kv
     revert ed
     revert bE
     revert kW
     revert iF
     revert bF
     revert bX
     revert bK
     revert kN
     revert tO
     revert aF
     revert o4
     revert p4
     revert o3
     revert p3
     revert pd
     revert pn
     revert aS
     exact dK.out
  ·skip
   intro K hK
   go_simp
   refine hK.out _ _ (Or.inr (aI.alloc _)) ?_
   clear hK K
   have hn:=NI.new aI 38
   have hal:=(G.refl w6).alloc (.cells #[.bool false,.slice none 0 0] 38)
   have aA:=G.trans aI hal
   have pV:=hid (Co.out.G hal)
   have bL:w6.heap.size≠pn:=by have:=Co.out.2.1;omega
   generalize w6.heap.size=pd at *
   generalize w6.alloc (.cells #[.bool false,.slice none 0 0] 38)=w7 at *
   have zt:=hid hn
   have bE:Hid (pn≠pd):=bL.symm
   have bF:Hid (pd≠pn):=bL
   clear hn hal aI Co bL
   refine q00 (l':=#[true,true,true,true,true,true,true,true,false,true,true,false,true,false,false,false,false]) (by kernel_rfl) ?_
   revert bE
   revert bF
   revert zt
   revert pV
   revert aA
   revert pd
   revert pn
   revert w7
   exact lU.out
 ·skip
  intro K hK
  go_simp
  refine hK.out _ _ (Or.inr (hS5.alloc _)) ?_
  clear hK K
  have hn:=NI.new hS5 38
  have hal:=(G.refl w5).alloc (.cells #[.bool false,.slice none 0 0] 38)
  have aI:=G.trans hS5 hal
  generalize w5.heap.size=pd at *
  generalize w5.alloc (.cells #[.bool false,.slice none 0 0] 38)=w6 at *
  have FW:=hid hn
  clear hn hal
  refine q03 (i:=1) (by kernel_rfl) rfl ?_
  intro K hK
  go_simp
  refine hK.out _ _ (Or.inr (aI.alloc _)) ?_
  clear hK K
  have hn:=NI.new aI 38
  have hal:=(G.refl w6).alloc (.cells #[.bool false,.slice none 0 0] 38)
  have aA:=G.trans aI hal
  have zt:=hid (FW.out.G hal)
  have kz:w6.heap.size≠pd:=by have:=FW.out.2.1;omega
  generalize w6.heap.size=pn at *
  generalize w6.alloc (.cells #[.bool false,.slice none 0 0] 38)=w7 at *
  have pV:=hid hn
  have bF:Hid (pd≠pn):=kz.symm
  have bE:Hid (pn≠pd):=kz
  clear hn hal aI FW kz
  refine q00 (l':=#[true,true,true,true,true,true,true,true,false,true,true,false,true,false,false,false,false]) (by kernel_rfl) ?_
  revert bE
  revert bF
  revert zt
  revert pV
  revert aA
  revert pd
  revert pn
  revert w7
  exact lU.out
 refine Later.mk ?_
 intro w7 pn pd aA pV zt bF bE
 refine q03 (i:=8) (by kernel_rfl) rfl ?_
 intro K hK
 go_simp
 have dL:Hid _:=q0Y w7 pn 0 bx 0 b2 0 0 xa ya KB (by omega) jh.out lM.out pV.out.2.1 (G.lt aA hbx) (G.lt aA hby) pV.out.2.2 (IntIs.G HX0.out hbx aA) (IntIs.G tq.out hby aA)
 go_wp2_with (go_at_call 49;refine Calls.mono (P:=Tryz.prog) dL.out ?_;intro e w8 hx;obtain⟨rfl,aG,hl,-,hkp⟩:=SetTo.step aA pV.out hx)
 have pW:=hid hl
 have vo:=hid (hkp _ _ bF.out zt.out)
 refine hK.out _ _ (Or.inr aG) ?_
 clear hK K hx hl hkp dL aA pV zt
 refine q00 (l':=#[true,true,true,true,true,true,true,true,true,true,true,false,true,false,false,false,false]) (by kernel_rfl) ?_
 revert bE
 revert bF
 revert vo
 revert pW
 revert aG
 revert pd
 revert pn
 revert w8
 exact zA.out
 refine Later.mk ?_
 intro w8 pn pd aG pW vo bF bE
 refine q03 (i:=11) (by kernel_rfl) rfl ?_
 intro K hK
 go_simp
 go_wp2_with (go_at_call 50;refine Calls.mono (P:=Tryz.prog) (q0H w w8 aG bx xa xb iB hbx nJ.out) ?_;intro e w9 hx;obtain⟨p3,o3,rfl,hg,h72,fP⟩:=hx)
 refine hK.out _ _ (Or.inr (G.trans aG hg)) ?_
 clear hK K
 have aJ:=G.trans aG hg
 have dx:=hid h72
 have bL:p3≠pn:=by have h1:=pW.out.1;have h2:=pW.out.2.1;omega
 have kz:p3≠pd:=by have h1:=vo.out.1;have h2:=vo.out.2.1;omega
 have uo:=hid (pW.out.G hg)
 have pG:=hid (vo.out.G hg)
 have iF:Hid (p3≠pn):=bL
 have ed:Hid (p3≠pd):=kz
 clear hg h72 fP aG pW vo bL kz
 refine q00 (l':=#[true,true,true,true,true,true,true,true,true,true,true,true,true,false,false,false,false]) (by kernel_rfl) ?_
 revert ed
 revert bE
 revert iF
 revert bF
 revert dx
 revert pG
 revert uo
 revert aJ
 revert o3
 revert p3
 revert pd
 revert pn
 revert w9
 exact fH.out
 refine Later.mk ?_
 intro w9 pn pd p3 o3 aJ uo pG dx bF iF bE ed
 refine q03 (i:=13) (by kernel_rfl) rfl ?_
 intro K hK
 go_simp
 go_wp2_with (go_at_call 50;refine Calls.mono (P:=Tryz.prog) (q0H w w9 aJ b2 ya yb dJ hby kH.out) ?_;intro e aS hx;obtain⟨p4,o4,rfl,hg,h72,fP⟩:=hx)
 refine hK.out _ _ (Or.inr (G.trans aJ hg)) ?_
 clear hK K
 have aF:=G.trans aJ hg
 have bX:=hid h72
 have bL:p4≠pn:=by have h1:=uo.out.1;have h2:=uo.out.2.1;omega
 have kz:p4≠pd:=by have h1:=pG.out.1;have h2:=pG.out.2.1;omega
 have tO:=hid (uo.out.G hg)
 have kN:=hid (pG.out.G hg)
 have bK:=hid (dx.out.G hg)
 have kW:Hid (p4≠pn):=bL
 have kv:Hid (p4≠pd):=kz
 clear hg h72 fP aJ uo pG dx bL kz
 refine q00 (l':=#[true,true,true,true,true,true,true,true,true,true,true,true,true,true,false,false,false]) (by kernel_rfl) ?_
 revert kv
 revert ed
 revert bE
 revert kW
 revert iF
 revert bF
 revert bX
 revert bK
 revert kN
 revert tO
 revert aF
 revert o4
 revert p4
 revert o3
 revert p3
 revert pd
 revert pn
 revert aS
 exact dK.out
 refine Later.mk ?_
 intro aS pn pd p3 o3 p4 o4 aF tO kN bK bX bF iF kW bE ed kv
 refine q03 (i:=14) (by kernel_rfl) rfl ?_
 intro K hK
 go_simp
 have dL:Hid _:=tK.out▸q0Y aS pd 0 p3 o3 p4 o4 0 xb yb KB (by omega) kQ.out iY.out kN.out.2.1 (bK.out.is aF).1 (bX.out.is aF).1 kN.out.2.2 (bK.out.is aF).2 (bX.out.is aF).2
 go_wp2_with (go_at_call 49;refine Calls.mono (P:=Tryz.prog) dL.out ?_;intro e bR hx;obtain⟨rfl,aR,hl,-,hkp⟩:=SetTo.step aF kN.out hx)
 have nC:=hid hl
 have FZ:=hid (hkp _ _ bE.out tO.out)
 have ji:=hid (DI.keep bK.out (hkp _ _ ed.out))
 have iI:=hid (DI.keep bX.out (hkp _ _ kv.out))
 refine hK.out _ _ (Or.inr aR) ?_
 clear hK K hx hl hkp dL aF tO kN bK bX
 refine q03 (i:=15) (by kernel_rfl) rfl ?_
 intro K hK
 go_simp
 have PR:Hid _:=q0Z bR bz pn 0 pd 0 s1 s2 (xa*ya) (xb*yb) (2*KB) (by omega) fJ.out HD2.out HD0.out (G.lt aR hbz) FZ.out.2.1 nC.out.2.1 (FY.out.G hbz aR) FZ.out.2.2 nC.out.2.2
 go_wp2_with (go_at_call 48;refine Calls.mono (P:=Tryz.prog) PR.out ?_;intro e dQ hx;obtain⟨rfl,k1,k2⟩:=NormTo.after aR hx)
 have ng:Hid _:=k2
 refine hK.out _ _ (Or.inl (by decide)) ?_
 clear hx k2 hK K PR
 refine q03 (i:=16) (by kernel_rfl) rfl ?_
 intro K hK
 go_simp
 refine hK.out _ _ (Or.inl (by decide)) ?_
 clear hK K
 refine q0j (by kernel_rfl) ?_ _
 go_wp2_with fail
 go_ret
 exact⟨rfl,k1,ng.out⟩
set_option maxRecDepth 10000 in
set_option maxHeartbeats 8000000 in
theorem qbg (w:World) (bx b2:Nat) (xa ya:Int) (xb yb:Nat) (KB:Nat) (hK:KB≤100000) (hx2:xa.natAbs<2^(32*KB)) (hy2:ya.natAbs<2^(32*KB)) (gy:xb<2^(32*KB)) (iH:yb<2^(32*KB)) (hxb:0<xb) (hyb:0<yb)
  (hbx:bx<w.heap.size) (hby:b2<w.heap.size) (hx:RatV w bx xa xb) (hy:RatV w b2 ya yb):
  Calls Tryz.prog 15 #[.pointer (some ⟨bx,0,none⟩),.pointer (some ⟨b2,0,none⟩)] w fun e w'=>e= .returned (.int .i64 (cmpI (xa*(yb:Int)) (ya*(xb:Int))))∧G w w':=by
 have jh:Hid (xa.natAbs<2^(32*KB)):=hx2
 have lM:Hid (ya.natAbs<2^(32*KB)):=hy2
 have kQ:Hid ((xb:Int).natAbs<2^(32*KB)):=by show (xb:Int).natAbs<2^(32*KB);rw[Int.natAbs_natCast];exact gy
 have iY:Hid ((yb:Int).natAbs<2^(32*KB)):=by show (yb:Int).natAbs<2^(32*KB);rw[Int.natAbs_natCast];exact iH
 have HX0:Hid (IntIs w bx 0 xa):=hx.num
 have tq:Hid (IntIs w b2 0 ya):=hy.num
 have nJ:Hid (RatV w bx xa xb):=hx
 have kH:Hid (RatV w b2 ya yb):=hy
 have iB:0<xb:=hxb
 have dJ:0<yb:=hyb
 have sI:32*(2*KB)=32*KB+32*KB:=by omega
 have xA:Hid ((xa*(yb:Int)).natAbs<2^(32*(2*KB))):=by
  show (xa*(yb:Int)).natAbs<2^(32*(2*KB))
  rw[Int.natAbs_mul,Int.natAbs_natCast,sI,Nat.pow_add]
  exact Nat.mul_lt_mul'' hx2 iH
 have fJ:Hid ((ya*(xb:Int)).natAbs<2^(32*(2*KB))):=by
  show (ya*(xb:Int)).natAbs<2^(32*(2*KB))
  rw[Int.natAbs_mul,Int.natAbs_natCast,sI,Nat.pow_add]
  exact Nat.mul_lt_mul'' hy2 gy
 have Ik:Hid (∀ w1 px ox py oy,px<w1.heap.size→py<w1.heap.size→IntIs w1 px ox (xb:Int)→IntIs w1 py oy (yb:Int)→_):=fun w1 px ox py oy h1 h2 h3 h4=>q65 w1 px ox py oy (xb:Int) (yb:Int) KB (by omega) kQ.out iY.out h1 h2 h3 h4
 by_cases he:xb=yb
 ·subst he
  have h1:cmpI (xb:Int) (xb:Int)=0:=by unfold cmpI;rw[if_neg (by omega),if_pos rfl]
  rw[h1] at Ik
  rw[q8l hxb]
  have Ue:Hid (∀ w1,G w w1→_):=fun w1 g=>q65 w1 bx 0 b2 0 xa ya KB (by omega) jh.out lM.out (G.lt g hbx) (G.lt g hby) (IntIs.G HX0.out hbx g) (IntIs.G tq.out hby g)
  generalize cmpI xa ya=cv at *
  clear hx hy hx2 hy2 gy iH hxb hyb h1 xA fJ sI
  go_enter Tryz.func15,Tryz.ntmps15
  go_wp2_with fail
  refine Calls.mono (P:=Tryz.prog) (q0H w w (G.refl w) bx xa xb iB hbx nJ.out) ?_
  rintro e w1 ⟨px,ox,rfl,hg1,kx,-⟩
  have G8:Hid (DI w w1 px ox xb):=kx
  clear kx
  go_wp2_with fail
  refine Calls.mono (P:=Tryz.prog) (q0H w w1 hg1 b2 ya xb dJ hby kH.out) ?_
  rintro e w2 ⟨py,oy,rfl,hg2,ky,-⟩
  have D8:Hid (DI w w2 py oy xb):=ky
  have tQ:Hid (DI w w2 px ox xb):=G8.out.G hg2
  have hG2:=G.trans hg1 hg2
  clear ky G8
  clear hg1 hg2
  go_wp2_with fail
  refine Calls.mono (P:=Tryz.prog) (Ik.out w2 px ox py oy (tQ.out.is hG2).1 (D8.out.is hG2).1 (tQ.out.is hG2).2 (D8.out.is hG2).2) ?_
  rintro e w3 ⟨rfl,hg3⟩
  have hG3:=G.trans hG2 hg3
  clear hg3 hG2
  go_wp2_with fail
  refine q0J 6 (G w3) (by kernel_rfl) (by first|exact(G.refl _).drew|exact G.drew (by assumption)) ?_
  intro bS
  refine q02 0 (v:= ?_) rfl (by kernel_rfl) (fun _ _ _ h=>h) rfl ?_ ‹_› ?_
  rotate_left
  ·intro wq hwq
   first|(go_simp;done)|(go_simp;with_reducible rfl)
  try simp only[aput,List.set]
  refine q02 1 (v:= ?_) rfl (by kernel_rfl) (fun _ _ _ h=>h) rfl ?_ ‹_› ?_
  rotate_left
  ·intro wq hwq
   first|(go_simp;done)|(go_simp;with_reducible rfl)
  try simp only[aput,List.set]
  refine q02 2 (v:= ?_) rfl (by kernel_rfl) (fun _ _ _ h=>h) rfl ?_ ‹_› ?_
  rotate_left
  ·intro wq hwq
   first|(go_simp;done)|(go_simp;with_reducible rfl)
  try simp only[aput,List.set]
  refine q02 3 (v:= ?_) rfl (by kernel_rfl) (fun _ _ _ h=>h) rfl ?_ ‹_› ?_
  rotate_left
  ·intro wq hwq
   first|(go_simp;done)|(go_simp;with_reducible rfl)
  try simp only[aput,List.set]
  refine q02 4 (v:= ?_) rfl (by kernel_rfl) (fun _ _ _ h=>h) rfl ?_ ‹_› ?_
  rotate_left
  ·intro wq hwq
   first|(go_simp;done)|(go_simp;with_reducible rfl)
  try simp only[aput,List.set]
  refine q02 5 (v:= ?_) rfl (by kernel_rfl) (fun _ _ _ h=>h) rfl ?_ ‹_› ?_
  rotate_left
  ·intro wq hwq
   first|(go_simp;done)|(go_simp;with_reducible rfl)
  try simp only[aput,List.set]
  show q0C _ _ _ _ _ _ _ _ _ w3.drew
  generalize w3.drew=Uf at *
  have G9:=G.trans hG3 bS
  refine q03 (i:=6) (by kernel_rfl) rfl ?_
  intro K hK
  go_simp
  go_wp2_with (go_at_call 51;refine Calls.mono (P:=Tryz.prog) (Ue.out Uf G9) ?_;rintro e w4 ⟨rfl,hg4⟩)
  refine hK.out _ _ (Or.inl (by decide)) ?_
  have hG4:=G.trans G9 hg4
  clear hK K
  refine q03 (i:=7) (by kernel_rfl) rfl ?_
  intro K hK
  go_simp
  refine hK.out _ _ (Or.inl (by decide)) ?_
  clear hK K
  refine q0j (by kernel_rfl) ?_ _
  go_wp2_with fail
  go_ret
  exact⟨rfl,hG4⟩
 ·have h1:(cmpI (xb:Int) (yb:Int)==0)=false:=by
   unfold cmpI
   by_cases h:(xb:Int)<yb
   ·rw[if_pos h];rfl
   ·rw[if_neg h,if_neg (by omega)];rfl
  have HT1:Hid _:=h1
  generalize cmpI (xb:Int) (yb:Int)=cd at *
  clear hx hy hx2 hy2 gy iH hxb hyb h1 he sI
  have t1:=HT1.out
  go_enter Tryz.func15,Tryz.ntmps15
  go_wp2_with fail
  refine Calls.mono (P:=Tryz.prog) (q0H w w (G.refl w) bx xa xb iB hbx nJ.out) ?_
  rintro e w1 ⟨px,ox,rfl,hg1,kx,-⟩
  have G8:Hid (DI w w1 px ox xb):=kx
  clear kx
  go_wp2_with fail
  refine Calls.mono (P:=Tryz.prog) (q0H w w1 hg1 b2 ya yb dJ hby kH.out) ?_
  rintro e w2 ⟨py,oy,rfl,hg2,ky,-⟩
  have D8:Hid (DI w w2 py oy yb):=ky
  have tQ:Hid (DI w w2 px ox xb):=G8.out.G hg2
  have hG2:=G.trans hg1 hg2
  clear ky G8
  clear hg1 hg2
  go_wp2_with fail
  refine Calls.mono (P:=Tryz.prog) (Ik.out w2 px ox py oy (tQ.out.is hG2).1 (D8.out.is hG2).1 (tQ.out.is hG2).2 (D8.out.is hG2).2) ?_
  rintro e w3 ⟨rfl,hg3⟩
  have hG3:=G.trans hG2 hg3
  clear hg3 hG2 Ik tQ D8
  have PU:Hid (RatV w3 bx xa xb):=RatV.G nJ.out hbx hG3
  have Il:Hid (RatV w3 b2 ya yb):=RatV.G kH.out hby hG3
  clear nJ kH
  go_wp2_with fail
  clear t1 HT1
  apply share
  ·intro LX
   refine q0J 14 (G w3) (by kernel_rfl) (by first|exact(G.refl _).drew|exact G.drew (by assumption)) ?_
   intro bS
   refine q02 1 (v:= ?_) rfl (by kernel_rfl) (fun _ _ _ h=>h) rfl ?_ ‹_› ?_
   rotate_left
   ·intro wq hwq
    first|(go_simp;done)|(go_simp;with_reducible rfl)
   try simp only[aput,List.set]
   refine q02 2 (v:= ?_) rfl (by kernel_rfl) (fun _ _ _ h=>h) rfl ?_ ‹_› ?_
   rotate_left
   ·intro wq hwq
    first|(go_simp;done)|(go_simp;with_reducible rfl)
   try simp only[aput,List.set]
   refine q02 3 (v:= ?_) rfl (by kernel_rfl) (fun _ _ _ h=>h) rfl ?_ ‹_› ?_
   rotate_left
   ·intro wq hwq
    first|(go_simp;done)|(go_simp;with_reducible rfl)
   try simp only[aput,List.set]
   refine q02 4 (v:= ?_) rfl (by kernel_rfl) (fun _ _ _ h=>h) rfl ?_ ‹_› ?_
   rotate_left
   ·intro wq hwq
    first|(go_simp;done)|(go_simp;with_reducible rfl)
   try simp only[aput,List.set]
   refine q02 8 (v:= ?_) rfl (by kernel_rfl) (fun _ _ _ h=>h) rfl ?_ ‹_› ?_
   rotate_left
   ·intro wq hwq
    first|(go_simp;done)|(go_simp;with_reducible rfl)
   try simp only[aput,List.set]
   refine q02 9 (v:= ?_) rfl (by kernel_rfl) (fun _ _ _ h=>h) rfl ?_ ‹_› ?_
   rotate_left
   ·intro wq hwq
    first|(go_simp;done)|(go_simp;with_reducible rfl)
   try simp only[aput,List.set]
   refine q02 10 (v:= ?_) rfl (by kernel_rfl) (fun _ _ _ h=>h) rfl ?_ ‹_› ?_
   rotate_left
   ·intro wq hwq
    first|(go_simp;done)|(go_simp;with_reducible rfl)
   try simp only[aput,List.set]
   refine q02 11 (v:= ?_) rfl (by kernel_rfl) (fun _ _ _ h=>h) rfl ?_ ‹_› ?_
   rotate_left
   ·intro wq hwq
    first|(go_simp;done)|(go_simp;with_reducible rfl)
   try simp only[aput,List.set]
   show q0C _ _ _ _ _ _ _ _ _ w3.drew
   have hS5:=bS
   generalize w3.drew=w5 at *
   clear bS
   apply share
   intro dK
   apply share
   intro fH
   apply share
   intro iZ
   apply share
   intro lU
   apply share
   intro oZ
   apply share
   intro p8
   refine q0l (i:=0) (j:=5) (l:=7) (by kernel_rfl) rfl rfl rfl ?_ ?_ ?_
   ·skip
    intro K hK
    go_simp
    refine hK.out _ _ (Or.inr (hS5.alloc _)) ?_
    clear hK K
    have hn:=NI.new hS5 38
    have hal:=(G.refl w5).alloc (.cells #[.bool false,.slice none 0 0] 38)
    have aI:=G.trans hS5 hal
    generalize w5.heap.size=p1 at *
    generalize w5.alloc (.cells #[.bool false,.slice none 0 0] 38)=w6 at *
    have jM:=hid hn
    clear hn hal
    refine q07 (i:=5) (j:=7) (by kernel_rfl) rfl rfl ?_ ?_
    ·skip
     intro K hK
     go_simp
     go_wp2_with (go_at_call 50;refine Calls.mono (P:=Tryz.prog) (q0H w3 w6 aI b2 ya yb dJ (G.lt hG3 hby) Il.out) ?_;intro e w7 hx;obtain⟨p4,o4,rfl,hg,h72,fP⟩:=hx)
     refine hK.out _ _ (Or.inr (G.trans aI hg)) ?_
     clear hK K
     have aA:=G.trans aI hg
     have HD7:=hid h72
     have af:p4≠p1:=by have h1:=jM.out.1;have h2:=jM.out.2.1;omega
     have aY:=hid (jM.out.G hg)
     have ak:Hid (p4≠p1):=af
     clear hg h72 fP aI jM af
     refine q00 (l':=#[true,true,true,true,true,true,false,false,true,true,true,true,false,false,false,false]) (by kernel_rfl) ?_
     revert ak
     revert HD7
     revert aY
     revert aA
     revert o4
     revert p4
     revert p1
     revert w7
     exact oZ.out
    ·skip
     intro K hK
     go_simp
     refine hK.out _ _ (Or.inr (aI.alloc _)) ?_
     clear hK K
     have hn:=NI.new aI 38
     have hal:=(G.refl w6).alloc (.cells #[.bool false,.slice none 0 0] 38)
     have aA:=G.trans aI hal
     have aY:=hid (jM.out.G hal)
     have af:w6.heap.size≠p1:=by have:=jM.out.2.1;omega
     generalize w6.heap.size=p2 at *
     generalize w6.alloc (.cells #[.bool false,.slice none 0 0] 38)=w7 at *
     have bM:=hid hn
     have aa:Hid (p1≠p2):=af.symm
     have ae:Hid (p2≠p1):=af
     clear hn hal aI jM af
     refine q00 (l':=#[true,true,true,true,true,false,false,true,true,true,true,true,false,false,false,false]) (by kernel_rfl) ?_
     revert aa
     revert ae
     revert bM
     revert aY
     revert aA
     revert p2
     revert p1
     revert w7
     exact lU.out
   ·skip
    intro K hK
    go_simp
    go_wp2_with (go_at_call 50;refine Calls.mono (P:=Tryz.prog) (q0H w3 w5 hS5 b2 ya yb dJ (G.lt hG3 hby) Il.out) ?_;intro e w6 hx;obtain⟨p4,o4,rfl,hg,h72,fP⟩:=hx)
    refine hK.out _ _ (Or.inr (G.trans hS5 hg)) ?_
    clear hK K
    have aI:=G.trans hS5 hg
    have HD6:=hid h72
    clear hg h72 fP
    refine q07 (i:=0) (j:=7) (by kernel_rfl) rfl rfl ?_ ?_
    ·skip
     intro K hK
     go_simp
     refine hK.out _ _ (Or.inr (aI.alloc _)) ?_
     clear hK K
     have hn:=NI.new aI 38
     have hal:=(G.refl w6).alloc (.cells #[.bool false,.slice none 0 0] 38)
     have aA:=G.trans aI hal
     have HD7:=hid (HD6.out.G hal)
     have ay:w6.heap.size≠p4:=by have:=(HD6.out.is aI).1;omega
     generalize w6.heap.size=p1 at *
     generalize w6.alloc (.cells #[.bool false,.slice none 0 0] 38)=w7 at *
     have aY:=hid hn
     have ak:Hid (p4≠p1):=ay.symm
     clear hn hal aI HD6 ay
     refine q00 (l':=#[true,true,true,true,true,true,false,false,true,true,true,true,false,false,false,false]) (by kernel_rfl) ?_
     revert ak
     revert HD7
     revert aY
     revert aA
     revert o4
     revert p4
     revert p1
     revert w7
     exact oZ.out
    ·skip
     intro K hK
     go_simp
     refine hK.out _ _ (Or.inr (aI.alloc _)) ?_
     clear hK K
     have hn:=NI.new aI 38
     have hal:=(G.refl w6).alloc (.cells #[.bool false,.slice none 0 0] 38)
     have aA:=G.trans aI hal
     have HD7:=hid (HD6.out.G hal)
     have ay:w6.heap.size≠p4:=by have:=(HD6.out.is aI).1;omega
     generalize w6.heap.size=p2 at *
     generalize w6.alloc (.cells #[.bool false,.slice none 0 0] 38)=w7 at *
     have bM:=hid hn
     have av:Hid (p4≠p2):=ay.symm
     clear hn hal aI HD6 ay
     refine q00 (l':=#[false,true,true,true,true,true,false,true,true,true,true,true,false,false,false,false]) (by kernel_rfl) ?_
     revert av
     revert bM
     revert HD7
     revert aA
     revert p2
     revert o4
     revert p4
     revert w7
     exact p8.out
   ·skip
    intro K hK
    go_simp
    refine hK.out _ _ (Or.inr (hS5.alloc _)) ?_
    clear hK K
    have hn:=NI.new hS5 38
    have hal:=(G.refl w5).alloc (.cells #[.bool false,.slice none 0 0] 38)
    have aI:=G.trans hS5 hal
    generalize w5.heap.size=p2 at *
    generalize w5.alloc (.cells #[.bool false,.slice none 0 0] 38)=w6 at *
    have kI:=hid hn
    clear hn hal
    refine q07 (i:=0) (j:=5) (by kernel_rfl) rfl rfl ?_ ?_
    ·skip
     intro K hK
     go_simp
     refine hK.out _ _ (Or.inr (aI.alloc _)) ?_
     clear hK K
     have hn:=NI.new aI 38
     have hal:=(G.refl w6).alloc (.cells #[.bool false,.slice none 0 0] 38)
     have aA:=G.trans aI hal
     have bM:=hid (kI.out.G hal)
     have au:w6.heap.size≠p2:=by have:=kI.out.2.1;omega
     generalize w6.heap.size=p1 at *
     generalize w6.alloc (.cells #[.bool false,.slice none 0 0] 38)=w7 at *
     have aY:=hid hn
     have ae:Hid (p2≠p1):=au.symm
     have aa:Hid (p1≠p2):=au
     clear hn hal aI kI au
     refine q00 (l':=#[true,true,true,true,true,false,false,true,true,true,true,true,false,false,false,false]) (by kernel_rfl) ?_
     revert aa
     revert ae
     revert bM
     revert aY
     revert aA
     revert p2
     revert p1
     revert w7
     exact lU.out
    ·skip
     intro K hK
     go_simp
     go_wp2_with (go_at_call 50;refine Calls.mono (P:=Tryz.prog) (q0H w3 w6 aI b2 ya yb dJ (G.lt hG3 hby) Il.out) ?_;intro e w7 hx;obtain⟨p4,o4,rfl,hg,h72,fP⟩:=hx)
     refine hK.out _ _ (Or.inr (G.trans aI hg)) ?_
     clear hK K
     have aA:=G.trans aI hg
     have HD7:=hid h72
     have au:p4≠p2:=by have h1:=kI.out.1;have h2:=kI.out.2.1;omega
     have bM:=hid (kI.out.G hg)
     have av:Hid (p4≠p2):=au
     clear hg h72 fP aI kI au
     refine q00 (l':=#[false,true,true,true,true,true,false,true,true,true,true,true,false,false,false,false]) (by kernel_rfl) ?_
     revert av
     revert bM
     revert HD7
     revert aA
     revert p2
     revert o4
     revert p4
     revert w7
     exact p8.out
   refine Later.mk ?_
   intro w7 p4 o4 p2 aA HD7 bM av
   refine q03 (i:=0) (by kernel_rfl) rfl ?_
   intro K hK
   go_simp
   refine hK.out _ _ (Or.inr (aA.alloc _)) ?_
   clear hK K
   have hn:=NI.new aA 38
   have hal:=(G.refl w7).alloc (.cells #[.bool false,.slice none 0 0] 38)
   have aG:=G.trans aA hal
   have bV:=hid (HD7.out.G hal)
   have bY:=hid (bM.out.G hal)
   have ay:w7.heap.size≠p4:=by have:=(HD7.out.is aA).1;omega
   have au:w7.heap.size≠p2:=by have:=bM.out.2.1;omega
   generalize w7.heap.size=p1 at *
   generalize w7.alloc (.cells #[.bool false,.slice none 0 0] 38)=w8 at *
   have aO:=hid hn
   have ak:Hid (p4≠p1):=ay.symm
   have ae:Hid (p2≠p1):=au.symm
   have aa:Hid (p1≠p2):=au
   clear hn hal aA HD7 bM ay au
   refine q00 (l':=#[true,true,true,true,true,true,false,true,true,true,true,true,false,false,false,false]) (by kernel_rfl) ?_
   revert av
   revert aa
   revert ae
   revert ak
   revert bY
   revert bV
   revert aO
   revert aG
   revert p2
   revert o4
   revert p4
   revert p1
   revert w8
   exact iZ.out
   refine Later.mk ?_
   intro w7 p1 p4 o4 aA aY HD7 ak
   refine q07 (i:=6) (j:=7) (by kernel_rfl) rfl rfl ?_ ?_
   ·skip
    intro K hK
    go_simp
    have dL:Hid _:=q0Y w7 p1 0 bx 0 p4 o4 0 xa yb KB (by omega) jh.out iY.out aY.out.2.1 (G.lt (G.trans hG3 aA) hbx) (HD7.out.is aA).1 aY.out.2.2 (IntIs.G HX0.out hbx (G.trans hG3 aA)) (HD7.out.is aA).2
    go_wp2_with (go_at_call 49;refine Calls.mono (P:=Tryz.prog) dL.out ?_;intro e w8 hx;obtain⟨rfl,aG,hl,-,hkp⟩:=SetTo.step aA aY.out hx)
    have aO:=hid hl
    have bV:=hid (DI.keep HD7.out (hkp _ _ ak.out))
    refine hK.out _ _ (Or.inr aG) ?_
    clear hK K hx hl hkp dL aA aY HD7
    refine q07 (i:=7) (j:=12) (by kernel_rfl) rfl rfl ?_ ?_
    ·skip
     intro K hK
     go_simp
     refine hK.out _ _ (Or.inr (aG.alloc _)) ?_
     clear hK K
     have hn:=NI.new aG 38
     have hal:=(G.refl w8).alloc (.cells #[.bool false,.slice none 0 0] 38)
     have aJ:=G.trans aG hal
     have aT:=hid (aO.out.G hal)
     have dx:=hid (bV.out.G hal)
     have af:w8.heap.size≠p1:=by have:=aO.out.2.1;omega
     have ay:w8.heap.size≠p4:=by have:=(bV.out.is aG).1;omega
     generalize w8.heap.size=p2 at *
     generalize w8.alloc (.cells #[.bool false,.slice none 0 0] 38)=w9 at *
     have dR:=hid hn
     have aa:Hid (p1≠p2):=af.symm
     have ae:Hid (p2≠p1):=af
     have av:Hid (p4≠p2):=ay.symm
     clear hn hal aG aO bV af ay
     refine q00 (l':=#[true,true,true,true,true,true,true,true,true,true,true,true,false,false,false,false]) (by kernel_rfl) ?_
     revert av
     revert aa
     revert ae
     revert ak
     revert dR
     revert dx
     revert aT
     revert aJ
     revert p2
     revert o4
     revert p4
     revert p1
     revert w9
     exact fH.out
    ·skip
     intro K hK
     go_simp
     go_wp2_with (go_at_call 50;refine Calls.mono (P:=Tryz.prog) (q0H w3 w8 aG bx xa xb iB (G.lt hG3 hbx) PU.out) ?_;intro e w9 hx;obtain⟨p3,o3,rfl,hg,h72,fP⟩:=hx)
     refine hK.out _ _ (Or.inr (G.trans aG hg)) ?_
     clear hK K
     have aJ:=G.trans aG hg
     have sJ:=hid h72
     have af:p3≠p1:=by have h1:=aO.out.1;have h2:=aO.out.2.1;omega
     have aT:=hid (aO.out.G hg)
     have dx:=hid (bV.out.G hg)
     have aK:Hid (p3≠p1):=af
     clear hg h72 fP aG aO bV af
     refine q03 (i:=7) (by kernel_rfl) rfl ?_
     intro K hK
     go_simp
     refine hK.out _ _ (Or.inr (aJ.alloc _)) ?_
     clear hK K
     have hn:=NI.new aJ 38
     have hal:=(G.refl w9).alloc (.cells #[.bool false,.slice none 0 0] 38)
     have aF:=G.trans aJ hal
     have aM:=hid (aT.out.G hal)
     have bK:=hid (dx.out.G hal)
     have bX:=hid (sJ.out.G hal)
     have af:w9.heap.size≠p1:=by have:=aT.out.2.1;omega
     have ay:w9.heap.size≠p4:=by have:=(dx.out.is aJ).1;omega
     have dD:w9.heap.size≠p3:=by have:=(sJ.out.is aJ).1;omega
     generalize w9.heap.size=p2 at *
     generalize w9.alloc (.cells #[.bool false,.slice none 0 0] 38)=aS at *
     have aP:=hid hn
     have aa:Hid (p1≠p2):=af.symm
     have ae:Hid (p2≠p1):=af
     have av:Hid (p4≠p2):=ay.symm
     have aL:Hid (p3≠p2):=dD.symm
     clear hn hal aJ aT dx sJ af ay dD
     refine q00 (l':=#[true,true,true,true,true,true,true,true,true,true,true,true,true,false,false,false]) (by kernel_rfl) ?_
     revert aL
     revert av
     revert aa
     revert aK
     revert ae
     revert ak
     revert bX
     revert aP
     revert bK
     revert aM
     revert aF
     revert o3
     revert p3
     revert p2
     revert o4
     revert p4
     revert p1
     revert aS
     exact dK.out
   ·skip
    intro K hK
    go_simp
    refine hK.out _ _ (Or.inr (aA.alloc _)) ?_
    clear hK K
    have hn:=NI.new aA 38
    have hal:=(G.refl w7).alloc (.cells #[.bool false,.slice none 0 0] 38)
    have aG:=G.trans aA hal
    have aO:=hid (aY.out.G hal)
    have bV:=hid (HD7.out.G hal)
    have af:w7.heap.size≠p1:=by have:=aY.out.2.1;omega
    have ay:w7.heap.size≠p4:=by have:=(HD7.out.is aA).1;omega
    generalize w7.heap.size=p2 at *
    generalize w7.alloc (.cells #[.bool false,.slice none 0 0] 38)=w8 at *
    have bY:=hid hn
    have aa:Hid (p1≠p2):=af.symm
    have ae:Hid (p2≠p1):=af
    have av:Hid (p4≠p2):=ay.symm
    clear hn hal aA aY HD7 af ay
    refine q00 (l':=#[true,true,true,true,true,true,false,true,true,true,true,true,false,false,false,false]) (by kernel_rfl) ?_
    revert av
    revert aa
    revert ae
    revert ak
    revert bY
    revert bV
    revert aO
    revert aG
    revert p2
    revert o4
    revert p4
    revert p1
    revert w8
    exact iZ.out
   refine Later.mk ?_
   intro w7 p1 p2 aA aY bM ae aa
   refine q03 (i:=5) (by kernel_rfl) rfl ?_
   intro K hK
   go_simp
   go_wp2_with (go_at_call 50;refine Calls.mono (P:=Tryz.prog) (q0H w3 w7 aA b2 ya yb dJ (G.lt hG3 hby) Il.out) ?_;intro e w8 hx;obtain⟨p4,o4,rfl,hg,h72,fP⟩:=hx)
   refine hK.out _ _ (Or.inr (G.trans aA hg)) ?_
   clear hK K
   have aG:=G.trans aA hg
   have bV:=hid h72
   have af:p4≠p1:=by have h1:=aY.out.1;have h2:=aY.out.2.1;omega
   have au:p4≠p2:=by have h1:=bM.out.1;have h2:=bM.out.2.1;omega
   have aO:=hid (aY.out.G hg)
   have bY:=hid (bM.out.G hg)
   have ak:Hid (p4≠p1):=af
   have av:Hid (p4≠p2):=au
   clear hg h72 fP aA aY bM af au
   refine q00 (l':=#[true,true,true,true,true,true,false,true,true,true,true,true,false,false,false,false]) (by kernel_rfl) ?_
   revert av
   revert aa
   revert ae
   revert ak
   revert bY
   revert bV
   revert aO
   revert aG
   revert p2
   revert o4
   revert p4
   revert p1
   revert w8
   exact iZ.out
   refine Later.mk ?_
   intro w8 p1 p4 o4 p2 aG aO bV bY ak ae aa av
   refine q03 (i:=6) (by kernel_rfl) rfl ?_
   intro K hK
   go_simp
   have dL:Hid _:=q0Y w8 p1 0 bx 0 p4 o4 0 xa yb KB (by omega) jh.out iY.out aO.out.2.1 (G.lt (G.trans hG3 aG) hbx) (bV.out.is aG).1 aO.out.2.2 (IntIs.G HX0.out hbx (G.trans hG3 aG)) (bV.out.is aG).2
   go_wp2_with (go_at_call 49;refine Calls.mono (P:=Tryz.prog) dL.out ?_;intro e w9 hx;obtain⟨rfl,aJ,hl,-,hkp⟩:=SetTo.step aG aO.out hx)
   have aT:=hid hl
   have dx:=hid (DI.keep bV.out (hkp _ _ ak.out))
   have dR:=hid (hkp _ _ ae.out bY.out)
   refine hK.out _ _ (Or.inr aJ) ?_
   clear hK K hx hl hkp dL aG aO bV bY
   refine q00 (l':=#[true,true,true,true,true,true,true,true,true,true,true,true,false,false,false,false]) (by kernel_rfl) ?_
   revert av
   revert aa
   revert ae
   revert ak
   revert dR
   revert dx
   revert aT
   revert aJ
   revert p2
   revert o4
   revert p4
   revert p1
   revert w9
   exact fH.out
   refine Later.mk ?_
   intro w9 p1 p4 o4 p2 aJ aT dx dR ak ae aa av
   refine q03 (i:=12) (by kernel_rfl) rfl ?_
   intro K hK
   go_simp
   go_wp2_with (go_at_call 50;refine Calls.mono (P:=Tryz.prog) (q0H w3 w9 aJ bx xa xb iB (G.lt hG3 hbx) PU.out) ?_;intro e aS hx;obtain⟨p3,o3,rfl,hg,h72,fP⟩:=hx)
   refine hK.out _ _ (Or.inr (G.trans aJ hg)) ?_
   clear hK K
   have aF:=G.trans aJ hg
   have bX:=hid h72
   have af:p3≠p1:=by have h1:=aT.out.1;have h2:=aT.out.2.1;omega
   have au:p3≠p2:=by have h1:=dR.out.1;have h2:=dR.out.2.1;omega
   have aM:=hid (aT.out.G hg)
   have bK:=hid (dx.out.G hg)
   have aP:=hid (dR.out.G hg)
   have aK:Hid (p3≠p1):=af
   have aL:Hid (p3≠p2):=au
   clear hg h72 fP aJ aT dx dR af au
   refine q00 (l':=#[true,true,true,true,true,true,true,true,true,true,true,true,true,false,false,false]) (by kernel_rfl) ?_
   revert aL
   revert av
   revert aa
   revert aK
   revert ae
   revert ak
   revert bX
   revert aP
   revert bK
   revert aM
   revert aF
   revert o3
   revert p3
   revert p2
   revert o4
   revert p4
   revert p1
   revert aS
   exact dK.out
   refine Later.mk ?_
   intro aS p1 p4 o4 p2 p3 o3 aF aM bK aP bX ak ae aK aa av aL
   refine q03 (i:=13) (by kernel_rfl) rfl ?_
   intro K hK
   go_simp
   have dL:Hid _:=q0Y aS p2 0 b2 0 p3 o3 0 ya xb KB (by omega) lM.out kQ.out aP.out.2.1 (G.lt (G.trans hG3 aF) hby) (bX.out.is aF).1 aP.out.2.2 (IntIs.G tq.out hby (G.trans hG3 aF)) (bX.out.is aF).2
   go_wp2_with (go_at_call 49;refine Calls.mono (P:=Tryz.prog) dL.out ?_;intro e bR hx;obtain⟨rfl,aR,hl,-,hkp⟩:=SetTo.step aF aP.out hx)
   have dw:=hid hl
   have dI:=hid (hkp _ _ aa.out aM.out)
   have ji:=hid (DI.keep bK.out (hkp _ _ av.out))
   have iI:=hid (DI.keep bX.out (hkp _ _ aL.out))
   refine hK.out _ _ (Or.inr aR) ?_
   clear hK K hx hl hkp dL aF aM bK aP bX
   refine q03 (i:=14) (by kernel_rfl) rfl ?_
   intro K hK
   go_simp
   go_wp2_with (go_at_call 51;refine Calls.mono (P:=Tryz.prog) (q65 bR p1 0 p2 0 (xa*(yb:Int)) (ya*(xb:Int)) (2*KB) (by omega) xA.out fJ.out dI.out.2.1 dw.out.2.1 dI.out.2.2 dw.out.2.2) ?_;rintro e dQ ⟨rfl,hg⟩)
   refine hK.out _ _ (Or.inl (by decide)) ?_
   clear hK K
   have iE:=G.trans aR hg
   have fZ:=hid (dI.out.G hg)
   have nM:=hid (ji.out.G hg)
   have gp:=hid (dw.out.G hg)
   have nN:=hid (iI.out.G hg)
   clear hg aR dI ji dw iI
   refine q03 (i:=15) (by kernel_rfl) rfl ?_
   intro K hK
   go_simp
   refine hK.out _ _ (Or.inl (by decide)) ?_
   clear hK K
   refine q0j (by kernel_rfl) ?_ _
   revert aL
   revert av
   revert aa
   revert aK
   revert ae
   revert ak
   revert nN
   revert gp
   revert nM
   revert fZ
   revert iE
   revert o3
   revert p3
   revert p2
   revert o4
   revert p4
   revert p1
   revert dQ
   exact LX.out
  ·skip
   refine Later.mk ?_
   intro dQ p1 p4 o4 p2 p3 o3 iE fZ nM gp nN ak ae aK aa av aL
   have hG:=G.trans hG3 iE
   go_wp2_with fail
   go_ret
   exact⟨rfl,hG⟩
end Go.Proofs.YtljkfjjchkehaaaGreatDoor
