/- What is proved here: contracts of the reference's ratios: Mul of Rat, of laid ones and of new ones, over this seat's translation.
What is proved here: contracts of the reference's ratios: Cmp of Rat, of laid ones and of new ones, over this seat's translation. -/
import Derived.Test.YtljkfjjchkehaaaGreatDoorP24
import Derived.Test.YtljkfjjchkehaaaGreatDoorP18
namespace Go.Proofs.YtljkfjjchkehaaaGreatDoor
open Go.ChangeShapes Go.WideShapes Go.ChangeAt Go.RowKit
open BN
set_option maxHeartbeats 4000000 in
theorem qbL (w:World) (bz bx b2:Nat) (s1 s2 xa ya:Int) (xb yb:Nat) (KB:Nat) (hK:KB≤100000) (hx2:xa.natAbs<2^(32*KB)) (hy2:ya.natAbs<2^(32*KB)) (iZ:xb<2^(32*KB)) (jy:yb<2^(32*KB)) (hxb:0<xb) (hyb:0<yb)
  (hbz:bz<w.heap.size) (hbx:bx<w.heap.size) (hby:b2<w.heap.size) (hz:RatIs w bz s1 s2) (hx:RatV w bx xa xb) (hy:RatV w b2 ya yb):
  Calls Tryz.prog 14 #[.pointer (some ⟨bz,0,none⟩),.pointer (some ⟨bx,0,none⟩),.pointer (some ⟨b2,0,none⟩)] w (NormTo w bz (Int.tdiv (xa*ya) (Nat.gcd (xa*ya).natAbs (xb*yb):Nat)) (xb*yb/Nat.gcd (xa*ya).natAbs (xb*yb))):=by
 have jZ:Hid (xa.natAbs<2^(32*KB)):=hx2
 have nO:Hid (ya.natAbs<2^(32*KB)):=hy2
 have mr:Hid ((xb:Int).natAbs<2^(32*KB)):=by show (xb:Int).natAbs<2^(32*KB);rw[Int.natAbs_natCast];exact iZ
 have jL:Hid ((yb:Int).natAbs<2^(32*KB)):=by show (yb:Int).natAbs<2^(32*KB);rw[Int.natAbs_natCast];exact jy
 have HX0:Hid (IntIs w bx 0 xa):=hx.num
 have uH:Hid (IntIs w b2 0 ya):=hy.num
 have qi:Hid (RatV w bx xa xb):=hx
 have kV:Hid (RatV w b2 ya yb):=hy
 have C8:Hid (RatIs w bz s1 s2):=hz
 have jb:0<xb:=hxb
 have eZ:0<yb:=hyb
 have gY:Hid ((xa*ya).natAbs<2^(32*(2*KB))):=by
  show (xa*ya).natAbs<2^(32*(2*KB))
  rw[Int.natAbs_mul,show 32*(2*KB)=32*KB+32*KB from by omega,Nat.pow_add]
  exact Nat.mul_lt_mul'' hx2 hy2
 have HD2:Hid (xb*yb<2^(32*(2*KB))):=by
  show xb*yb<2^(32*(2*KB))
  rw[show 32*(2*KB)=32*KB+32*KB from by omega,Nat.pow_add]
  exact Nat.mul_lt_mul'' iZ jy
 have HD0:Hid (0<xb*yb):=Nat.mul_pos hxb hyb
 have um:Hid ((xb:Int)*yb=((xb*yb:Nat):Int)):=by show (xb:Int)*yb=((xb*yb:Nat):Int);push_cast;rfl
 clear hx hy hz hx2 hy2 iZ jy hxb hyb
 go_enter Tryz.func14,Tryz.ntmps14
 go_wp2_with fail
 refine q0L 15 (G w) (by kernel_rfl) (by first|exact(G.refl _).drew|exact G.drew (by assumption)) ?_
 intro di
 refine q02 0 (v:= ?_) rfl (by kernel_rfl) (fun _ _ _ h=>h) rfl ?_ ‹_› ?_
 rotate_left
 ·intro wq hwq
  first|(go_simp;done)|(go_simp;with_reducible rfl)
 try simp only[aput,List.set]
 refine q02 2 (v:= ?_) rfl (by kernel_rfl) (fun _ _ _ h=>h) rfl ?_ ‹_› ?_
 rotate_left
 ·intro wq hwq
  first|(go_simp;done)|(go_simp;with_reducible rfl)
 try simp only[aput,List.set]
 refine q02 3 (v:= ?_) rfl (by kernel_rfl) (fun _ _ _ h=>h) rfl ?_ ‹_› ?_
 rotate_left
 ·intro wq hwq
  first|(go_simp;done)|(go_simp;with_reducible rfl)
 try simp only[aput,List.set]
 refine q02 4 (v:= ?_) rfl (by kernel_rfl) (fun _ _ _ h=>h) rfl ?_ ‹_› ?_
 rotate_left
 ·intro wq hwq
  first|(go_simp;done)|(go_simp;with_reducible rfl)
 try simp only[aput,List.set]
 refine q02 5 (v:= ?_) rfl (by kernel_rfl) (fun _ _ _ h=>h) rfl ?_ ‹_› ?_
 rotate_left
 ·intro wq hwq
  first|(go_simp;done)|(go_simp;with_reducible rfl)
 try simp only[aput,List.set]
 refine q02 6 (v:= ?_) rfl (by kernel_rfl) (fun _ _ _ h=>h) rfl ?_ ‹_› ?_
 rotate_left
 ·intro wq hwq
  first|(go_simp;done)|(go_simp;with_reducible rfl)
 try simp only[aput,List.set]
 refine q02 7 (v:= ?_) rfl (by kernel_rfl) (fun _ _ _ h=>h) rfl ?_ ‹_› ?_
 rotate_left
 ·intro wq hwq
  first|(go_simp;done)|(go_simp;with_reducible rfl)
 try simp only[aput,List.set]
 refine q02 10 (v:= ?_) rfl (by kernel_rfl) (fun _ _ _ h=>h) rfl ?_ ‹_› ?_
 rotate_left
 ·intro wq hwq
  first|(go_simp;done)|(go_simp;with_reducible rfl)
 try simp only[aput,List.set]
 refine q02 12 (v:= ?_) rfl (by kernel_rfl) (fun _ _ _ h=>h) rfl ?_ ‹_› ?_
 rotate_left
 ·intro wq hwq
  first|(go_simp;done)|(go_simp;with_reducible rfl)
 try simp only[aput,List.set]
 show q0E _ _ _ _ _ _ _ _ _ w.drew
 have hS5:=di
 generalize w.drew=w5 at *
 clear di
 apply share
 intro eG
 apply share
 intro fT
 apply share
 intro zF
 apply share
 intro mH
 refine q07 (i:=1) (j:=9) (by kernel_rfl) rfl rfl ?_ ?_
 ·skip
  intro K hK
  go_simp
  refine hK.out _ _ (Or.inr (hS5.alloc _)) ?_
  clear hK K
  have hn:=NI.new hS5 38
  have hal:=(G.refl w5).alloc (.cells #[.bool false,.slice none 0 0] 38)
  have bE:=G.trans hS5 hal
  generalize w5.heap.size=pn at *
  generalize w5.alloc (.cells #[.bool false,.slice none 0 0] 38)=w6 at *
  have uw:=hid hn
  clear hn hal
  refine q07 (i:=8) (j:=9) (by kernel_rfl) rfl rfl ?_ ?_
  ·skip
   intro K hK
   go_simp
   have eH:Hid _:=q0W w6 pn 0 bx 0 b2 0 0 xa ya KB (by omega) jZ.out nO.out uw.out.2.1 (G.lt bE hbx) (G.lt bE hby) uw.out.2.2 (IntIs.G HX0.out hbx bE) (IntIs.G uH.out hby bE)
   go_wp2_with (go_at_call 49;refine Calls.mono (P:=Tryz.prog) eH.out ?_;intro e w7 hx;obtain⟨rfl,aF,hl,-,hkp⟩:=SetTo.step bE uw.out hx)
   have jE:=hid hl
   refine hK.out _ _ (Or.inr aF) ?_
   clear hK K hx hl hkp eH bE uw
   refine q07 (i:=9) (j:=11) (by kernel_rfl) rfl rfl ?_ ?_
   ·skip
    intro K hK
    go_simp
    refine hK.out _ _ (Or.inr (aF.alloc _)) ?_
    clear hK K
    have hn:=NI.new aF 38
    have hal:=(G.refl w7).alloc (.cells #[.bool false,.slice none 0 0] 38)
    have aL:=G.trans aF hal
    have jM:=hid (jE.out.G hal)
    have bG:w7.heap.size≠pn:=by have:=jE.out.2.1;omega
    generalize w7.heap.size=pd at *
    generalize w7.alloc (.cells #[.bool false,.slice none 0 0] 38)=w8 at *
    have nX:=hid hn
    have aJ:Hid (pn≠pd):=bG.symm
    have aK:Hid (pd≠pn):=bG
    clear hn hal aF jE bG
    refine q00 (l':=#[true,true,true,true,true,true,true,true,true,true,true,false,true,false,false,false,false]) (by kernel_rfl) ?_
    revert aJ
    revert aK
    revert nX
    revert jM
    revert aL
    revert pd
    revert pn
    revert w8
    exact zF.out
   ·skip
    intro K hK
    go_simp
    go_wp2_with (go_at_call 50;refine Calls.mono (P:=Tryz.prog) (q1d w w7 aF bx xa xb jb hbx qi.out) ?_;intro e w8 hx;obtain⟨p3,o3,rfl,hg,h72,ko⟩:=hx)
    refine hK.out _ _ (Or.inr (G.trans aF hg)) ?_
    clear hK K
    have aL:=G.trans aF hg
    have eF:=hid h72
    have bG:p3≠pn:=by have h1:=jE.out.1;have h2:=jE.out.2.1;omega
    have jM:=hid (jE.out.G hg)
    have iO:Hid (p3≠pn):=bG
    clear hg h72 ko aF jE bG
    refine q07 (i:=9) (j:=13) (by kernel_rfl) rfl rfl ?_ ?_
    ·skip
     intro K hK
     go_simp
     refine hK.out _ _ (Or.inr (aL.alloc _)) ?_
     clear hK K
     have hn:=NI.new aL 38
     have hal:=(G.refl w8).alloc (.cells #[.bool false,.slice none 0 0] 38)
     have bF:=G.trans aL hal
     have mI:=hid (jM.out.G hal)
     have eQ:=hid (eF.out.G hal)
     have bG:w8.heap.size≠pn:=by have:=jM.out.2.1;omega
     have aH:w8.heap.size≠p3:=by have:=(eF.out.is aL).1;omega
     generalize w8.heap.size=pd at *
     generalize w8.alloc (.cells #[.bool false,.slice none 0 0] 38)=w9 at *
     have mq:=hid hn
     have aJ:Hid (pn≠pd):=bG.symm
     have aK:Hid (pd≠pn):=bG
     have fI:Hid (p3≠pd):=aH.symm
     clear hn hal aL jM eF bG aH
     refine q00 (l':=#[true,true,true,true,true,true,true,true,true,true,true,true,true,false,false,false,false]) (by kernel_rfl) ?_
     revert fI
     revert aJ
     revert iO
     revert aK
     revert eQ
     revert mq
     revert mI
     revert bF
     revert o3
     revert p3
     revert pd
     revert pn
     revert w9
     exact fT.out
    ·skip
     intro K hK
     go_simp
     go_wp2_with (go_at_call 50;refine Calls.mono (P:=Tryz.prog) (q1d w w8 aL b2 ya yb eZ hby kV.out) ?_;intro e w9 hx;obtain⟨p4,o4,rfl,hg,h72,ko⟩:=hx)
     refine hK.out _ _ (Or.inr (G.trans aL hg)) ?_
     clear hK K
     have bF:=G.trans aL hg
     have xy:=hid h72
     have bG:p4≠pn:=by have h1:=jM.out.1;have h2:=jM.out.2.1;omega
     have mI:=hid (jM.out.G hg)
     have eQ:=hid (eF.out.G hg)
     have lI:Hid (p4≠pn):=bG
     clear hg h72 ko aL jM eF bG
     refine q03 (i:=9) (by kernel_rfl) rfl ?_
     intro K hK
     go_simp
     refine hK.out _ _ (Or.inr (bF.alloc _)) ?_
     clear hK K
     have hn:=NI.new bF 38
     have hal:=(G.refl w9).alloc (.cells #[.bool false,.slice none 0 0] 38)
     have aI:=G.trans bF hal
     have kX:=hid (mI.out.G hal)
     have dF:=hid (eQ.out.G hal)
     have eT:=hid (xy.out.G hal)
     have bG:w9.heap.size≠pn:=by have:=mI.out.2.1;omega
     have aH:w9.heap.size≠p3:=by have:=(eQ.out.is bF).1;omega
     have fo:w9.heap.size≠p4:=by have:=(xy.out.is bF).1;omega
     generalize w9.heap.size=pd at *
     generalize w9.alloc (.cells #[.bool false,.slice none 0 0] 38)=aM at *
     have ic:=hid hn
     have aJ:Hid (pn≠pd):=bG.symm
     have aK:Hid (pd≠pn):=bG
     have fI:Hid (p3≠pd):=aH.symm
     have kM:Hid (p4≠pd):=fo.symm
     clear hn hal bF mI eQ xy bG aH fo
     refine q00 (l':=#[true,true,true,true,true,true,true,true,true,true,true,true,true,true,false,false,false]) (by kernel_rfl) ?_
     revert kM
     revert fI
     revert aJ
     revert lI
     revert iO
     revert aK
     revert eT
     revert dF
     revert ic
     revert kX
     revert aI
     revert o4
     revert p4
     revert o3
     revert p3
     revert pd
     revert pn
     revert aM
     exact eG.out
  ·skip
   intro K hK
   go_simp
   refine hK.out _ _ (Or.inr (bE.alloc _)) ?_
   clear hK K
   have hn:=NI.new bE 38
   have hal:=(G.refl w6).alloc (.cells #[.bool false,.slice none 0 0] 38)
   have aF:=G.trans bE hal
   have jE:=hid (uw.out.G hal)
   have bG:w6.heap.size≠pn:=by have:=uw.out.2.1;omega
   generalize w6.heap.size=pd at *
   generalize w6.alloc (.cells #[.bool false,.slice none 0 0] 38)=w7 at *
   have mo:=hid hn
   have aJ:Hid (pn≠pd):=bG.symm
   have aK:Hid (pd≠pn):=bG
   clear hn hal bE uw bG
   refine q00 (l':=#[true,true,true,true,true,true,true,true,false,true,true,false,true,false,false,false,false]) (by kernel_rfl) ?_
   revert aJ
   revert aK
   revert mo
   revert jE
   revert aF
   revert pd
   revert pn
   revert w7
   exact mH.out
 ·skip
  intro K hK
  go_simp
  refine hK.out _ _ (Or.inr (hS5.alloc _)) ?_
  clear hK K
  have hn:=NI.new hS5 38
  have hal:=(G.refl w5).alloc (.cells #[.bool false,.slice none 0 0] 38)
  have bE:=G.trans hS5 hal
  generalize w5.heap.size=pd at *
  generalize w5.alloc (.cells #[.bool false,.slice none 0 0] 38)=w6 at *
  have wI:=hid hn
  clear hn hal
  refine q03 (i:=1) (by kernel_rfl) rfl ?_
  intro K hK
  go_simp
  refine hK.out _ _ (Or.inr (bE.alloc _)) ?_
  clear hK K
  have hn:=NI.new bE 38
  have hal:=(G.refl w6).alloc (.cells #[.bool false,.slice none 0 0] 38)
  have aF:=G.trans bE hal
  have mo:=hid (wI.out.G hal)
  have fq:w6.heap.size≠pd:=by have:=wI.out.2.1;omega
  generalize w6.heap.size=pn at *
  generalize w6.alloc (.cells #[.bool false,.slice none 0 0] 38)=w7 at *
  have jE:=hid hn
  have aK:Hid (pd≠pn):=fq.symm
  have aJ:Hid (pn≠pd):=fq
  clear hn hal bE wI fq
  refine q00 (l':=#[true,true,true,true,true,true,true,true,false,true,true,false,true,false,false,false,false]) (by kernel_rfl) ?_
  revert aJ
  revert aK
  revert mo
  revert jE
  revert aF
  revert pd
  revert pn
  revert w7
  exact mH.out
 refine Later.mk ?_
 intro w7 pn pd aF jE mo aK aJ
 refine q03 (i:=8) (by kernel_rfl) rfl ?_
 intro K hK
 go_simp
 have eH:Hid _:=q0W w7 pn 0 bx 0 b2 0 0 xa ya KB (by omega) jZ.out nO.out jE.out.2.1 (G.lt aF hbx) (G.lt aF hby) jE.out.2.2 (IntIs.G HX0.out hbx aF) (IntIs.G uH.out hby aF)
 go_wp2_with (go_at_call 49;refine Calls.mono (P:=Tryz.prog) eH.out ?_;intro e w8 hx;obtain⟨rfl,aL,hl,-,hkp⟩:=SetTo.step aF jE.out hx)
 have jM:=hid hl
 have nX:=hid (hkp _ _ aK.out mo.out)
 refine hK.out _ _ (Or.inr aL) ?_
 clear hK K hx hl hkp eH aF jE mo
 refine q00 (l':=#[true,true,true,true,true,true,true,true,true,true,true,false,true,false,false,false,false]) (by kernel_rfl) ?_
 revert aJ
 revert aK
 revert nX
 revert jM
 revert aL
 revert pd
 revert pn
 revert w8
 exact zF.out
 refine Later.mk ?_
 intro w8 pn pd aL jM nX aK aJ
 refine q03 (i:=11) (by kernel_rfl) rfl ?_
 intro K hK
 go_simp
 go_wp2_with (go_at_call 50;refine Calls.mono (P:=Tryz.prog) (q1d w w8 aL bx xa xb jb hbx qi.out) ?_;intro e w9 hx;obtain⟨p3,o3,rfl,hg,h72,ko⟩:=hx)
 refine hK.out _ _ (Or.inr (G.trans aL hg)) ?_
 clear hK K
 have bF:=G.trans aL hg
 have eQ:=hid h72
 have bG:p3≠pn:=by have h1:=jM.out.1;have h2:=jM.out.2.1;omega
 have fq:p3≠pd:=by have h1:=nX.out.1;have h2:=nX.out.2.1;omega
 have mI:=hid (jM.out.G hg)
 have mq:=hid (nX.out.G hg)
 have iO:Hid (p3≠pn):=bG
 have fI:Hid (p3≠pd):=fq
 clear hg h72 ko aL jM nX bG fq
 refine q00 (l':=#[true,true,true,true,true,true,true,true,true,true,true,true,true,false,false,false,false]) (by kernel_rfl) ?_
 revert fI
 revert aJ
 revert iO
 revert aK
 revert eQ
 revert mq
 revert mI
 revert bF
 revert o3
 revert p3
 revert pd
 revert pn
 revert w9
 exact fT.out
 refine Later.mk ?_
 intro w9 pn pd p3 o3 bF mI mq eQ aK iO aJ fI
 refine q03 (i:=13) (by kernel_rfl) rfl ?_
 intro K hK
 go_simp
 go_wp2_with (go_at_call 50;refine Calls.mono (P:=Tryz.prog) (q1d w w9 bF b2 ya yb eZ hby kV.out) ?_;intro e aM hx;obtain⟨p4,o4,rfl,hg,h72,ko⟩:=hx)
 refine hK.out _ _ (Or.inr (G.trans bF hg)) ?_
 clear hK K
 have aI:=G.trans bF hg
 have eT:=hid h72
 have bG:p4≠pn:=by have h1:=mI.out.1;have h2:=mI.out.2.1;omega
 have fq:p4≠pd:=by have h1:=mq.out.1;have h2:=mq.out.2.1;omega
 have kX:=hid (mI.out.G hg)
 have ic:=hid (mq.out.G hg)
 have dF:=hid (eQ.out.G hg)
 have lI:Hid (p4≠pn):=bG
 have kM:Hid (p4≠pd):=fq
 clear hg h72 ko bF mI mq eQ bG fq
 refine q00 (l':=#[true,true,true,true,true,true,true,true,true,true,true,true,true,true,false,false,false]) (by kernel_rfl) ?_
 revert kM
 revert fI
 revert aJ
 revert lI
 revert iO
 revert aK
 revert eT
 revert dF
 revert ic
 revert kX
 revert aI
 revert o4
 revert p4
 revert o3
 revert p3
 revert pd
 revert pn
 revert aM
 exact eG.out
 refine Later.mk ?_
 intro aM pn pd p3 o3 p4 o4 aI kX ic dF eT aK iO lI aJ fI kM
 refine q03 (i:=14) (by kernel_rfl) rfl ?_
 intro K hK
 go_simp
 have eH:Hid _:=um.out▸q0W aM pd 0 p3 o3 p4 o4 0 xb yb KB (by omega) mr.out jL.out ic.out.2.1 (dF.out.is aI).1 (eT.out.is aI).1 ic.out.2.2 (dF.out.is aI).2 (eT.out.is aI).2
 go_wp2_with (go_at_call 49;refine Calls.mono (P:=Tryz.prog) eH.out ?_;intro e dm hx;obtain⟨rfl,bM,hl,-,hkp⟩:=SetTo.step aI ic.out hx)
 have lC:=hid hl
 have wJ:=hid (hkp _ _ aJ.out kX.out)
 have kW:=hid (DI.keep dF.out (hkp _ _ fI.out))
 have ku:=hid (DI.keep eT.out (hkp _ _ kM.out))
 refine hK.out _ _ (Or.inr bM) ?_
 clear hK K hx hl hkp eH aI kX ic dF eT
 refine q03 (i:=15) (by kernel_rfl) rfl ?_
 intro K hK
 go_simp
 have FI:Hid _:=q17 dm bz pn 0 pd 0 s1 s2 (xa*ya) (xb*yb) (2*KB) (by omega) gY.out HD2.out HD0.out (G.lt bM hbz) wJ.out.2.1 lC.out.2.1 (C8.out.G hbz bM) wJ.out.2.2 lC.out.2.2
 go_wp2_with (go_at_call 48;refine Calls.mono (P:=Tryz.prog) FI.out ?_;intro e jK hx;obtain⟨rfl,k1,k2⟩:=NormTo.after bM hx)
 have lZ:Hid _:=k2
 refine hK.out _ _ (Or.inl (by decide)) ?_
 clear hx k2 hK K FI
 refine q03 (i:=16) (by kernel_rfl) rfl ?_
 intro K hK
 go_simp
 refine hK.out _ _ (Or.inl (by decide)) ?_
 clear hK K
 refine q0j (by kernel_rfl) ?_ _
 go_wp2_with fail
 go_ret
 exact⟨rfl,k1,lZ.out⟩
end Go.Proofs.YtljkfjjchkehaaaGreatDoor
