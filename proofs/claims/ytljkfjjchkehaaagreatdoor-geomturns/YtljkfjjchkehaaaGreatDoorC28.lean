/- What is proved here: contracts of the reference's ratios: Mul of Rat, of laid ones and of new ones, over this seat's translation.
What is proved here: contracts of the reference's ratios: Quo of Rat (by one above 0), over this seat's translation. -/
import Derived.Test.YtljkfjjchkehaaaGreatDoorC26
import Derived.Test.YtljkfjjchkehaaaGreatDoorC16
namespace Go.Proofs.YtljkfjjchkehaaaGreatDoor
open Go.ChangeShapes Go.WideShapes Go.ChangeAt Go.RowKit
open BN
set_option maxHeartbeats 4000000 in
theorem qaW (w:World) (bz bx b2:Nat) (s1 s2 xa ya:Int) (xb yb:Nat) (KB:Nat) (hK:KB≤100000) (hx2:xa.natAbs<2^(32*KB)) (hy2:ya.natAbs<2^(32*KB)) (gy:xb<2^(32*KB)) (gU:yb<2^(32*KB)) (hxb:0<xb) (hyb:0<yb)
  (hbz:bz<w.heap.size) (hbx:bx<w.heap.size) (hby:b2<w.heap.size) (hz:RatIs w bz s1 s2) (hx:RatV w bx xa xb) (hy:RatV w b2 ya yb):
  Calls Tryz.prog 14 #[.pointer (some ⟨bz,0,none⟩),.pointer (some ⟨bx,0,none⟩),.pointer (some ⟨b2,0,none⟩)] w (NormTo w bz (Int.tdiv (xa*ya) (Nat.gcd (xa*ya).natAbs (xb*yb):Nat)) (xb*yb/Nat.gcd (xa*ya).natAbs (xb*yb))):=by
 have iE:Hid (xa.natAbs<2^(32*KB)):=hx2
 have kM:Hid (ya.natAbs<2^(32*KB)):=hy2
 have jT:Hid ((xb:Int).natAbs<2^(32*KB)):=by show (xb:Int).natAbs<2^(32*KB);rw[Int.natAbs_natCast];exact gy
 have gV:Hid ((yb:Int).natAbs<2^(32*KB)):=by show (yb:Int).natAbs<2^(32*KB);rw[Int.natAbs_natCast];exact gU
 have HX0:Hid (IntIs w bx 0 xa):=hx.num
 have qB:Hid (IntIs w b2 0 ya):=hy.num
 have mo:Hid (RatV w bx xa xb):=hx
 have jc:Hid (RatV w b2 ya yb):=hy
 have Bv:Hid (RatIs w bz s1 s2):=hz
 have gD:0<xb:=hxb
 have dD:0<yb:=hyb
 have ek:Hid ((xa*ya).natAbs<2^(32*(2*KB))):=by
  show (xa*ya).natAbs<2^(32*(2*KB))
  rw[Int.natAbs_mul,show 32*(2*KB)=32*KB+32*KB from by omega,Nat.pow_add]
  exact Nat.mul_lt_mul'' hx2 hy2
 have HD2:Hid (xb*yb<2^(32*(2*KB))):=by
  show xb*yb<2^(32*(2*KB))
  rw[show 32*(2*KB)=32*KB+32*KB from by omega,Nat.pow_add]
  exact Nat.mul_lt_mul'' gy gU
 have HD0:Hid (0<xb*yb):=Nat.mul_pos hxb hyb
 have qJ:Hid ((xb:Int)*yb=((xb*yb:Nat):Int)):=by show (xb:Int)*yb=((xb*yb:Nat):Int);push_cast;rfl
 clear hx hy hz hx2 hy2 gy gU hxb hyb
 go_enter Tryz.func14,Tryz.ntmps14
 go_wp2_with fail
 refine q0P 15 (G w) (by kernel_rfl) (by first|exact(G.refl _).drew|exact G.drew (by assumption)) ?_
 intro bU
 refine q02 0 (v:= ?_) rfl (by kernel_rfl) (fun _ _ _ h=>h) rfl ?_ ‹_› ?_
 rotate_left
 ·intro wq hwq
  first|(go_simp;done)|(go_simp;with_reducible rfl)
 try simp only[aput,List.set]
 refine q02 2 (v:= ?_) rfl (by kernel_rfl) (fun _ _ _ h=>h) rfl ?_ ‹_› ?_
 rotate_left
 ·intro wq hwq
  first|(go_simp;done)|(go_simp;with_reducible rfl)
 try simp only[aput,List.set]
 refine q02 3 (v:= ?_) rfl (by kernel_rfl) (fun _ _ _ h=>h) rfl ?_ ‹_› ?_
 rotate_left
 ·intro wq hwq
  first|(go_simp;done)|(go_simp;with_reducible rfl)
 try simp only[aput,List.set]
 refine q02 4 (v:= ?_) rfl (by kernel_rfl) (fun _ _ _ h=>h) rfl ?_ ‹_› ?_
 rotate_left
 ·intro wq hwq
  first|(go_simp;done)|(go_simp;with_reducible rfl)
 try simp only[aput,List.set]
 refine q02 5 (v:= ?_) rfl (by kernel_rfl) (fun _ _ _ h=>h) rfl ?_ ‹_› ?_
 rotate_left
 ·intro wq hwq
  first|(go_simp;done)|(go_simp;with_reducible rfl)
 try simp only[aput,List.set]
 refine q02 6 (v:= ?_) rfl (by kernel_rfl) (fun _ _ _ h=>h) rfl ?_ ‹_› ?_
 rotate_left
 ·intro wq hwq
  first|(go_simp;done)|(go_simp;with_reducible rfl)
 try simp only[aput,List.set]
 refine q02 7 (v:= ?_) rfl (by kernel_rfl) (fun _ _ _ h=>h) rfl ?_ ‹_› ?_
 rotate_left
 ·intro wq hwq
  first|(go_simp;done)|(go_simp;with_reducible rfl)
 try simp only[aput,List.set]
 refine q02 10 (v:= ?_) rfl (by kernel_rfl) (fun _ _ _ h=>h) rfl ?_ ‹_› ?_
 rotate_left
 ·intro wq hwq
  first|(go_simp;done)|(go_simp;with_reducible rfl)
 try simp only[aput,List.set]
 refine q02 12 (v:= ?_) rfl (by kernel_rfl) (fun _ _ _ h=>h) rfl ?_ ‹_› ?_
 rotate_left
 ·intro wq hwq
  first|(go_simp;done)|(go_simp;with_reducible rfl)
 try simp only[aput,List.set]
 show q0A _ _ _ _ _ _ _ _ _ w.drew
 have hS5:=bU
 generalize w.drew=w5 at *
 clear bU
 apply share
 intro dG
 apply share
 intro eX
 apply share
 intro tC
 apply share
 intro kN
 refine q09 (i:=1) (j:=9) (by kernel_rfl) rfl rfl ?_ ?_
 ·skip
  intro K hK
  go_simp
  refine hK.out _ _ (Or.inr (hS5.alloc _)) ?_
  clear hK K
  have hn:=NI.new hS5 38
  have hal:=(G.refl w5).alloc (.cells #[.bool false,.slice none 0 0] 38)
  have aJ:=G.trans hS5 hal
  generalize w5.heap.size=pn at *
  generalize w5.alloc (.cells #[.bool false,.slice none 0 0] 38)=w6 at *
  have wC:=hid hn
  clear hn hal
  refine q09 (i:=8) (j:=9) (by kernel_rfl) rfl rfl ?_ ?_
  ·skip
   intro K hK
   go_simp
   have dh:Hid _:=q17 w6 pn 0 bx 0 b2 0 0 xa ya KB (by omega) iE.out kM.out wC.out.2.1 (G.lt aJ hbx) (G.lt aJ hby) wC.out.2.2 (IntIs.G HX0.out hbx aJ) (IntIs.G qB.out hby aJ)
   go_wp2_with (go_at_call 49;refine Calls.mono (P:=Tryz.prog) dh.out ?_;intro e w7 hx;obtain⟨rfl,aC,hl,-,hkp⟩:=SetTo.step aJ wC.out hx)
   have kT:=hid hl
   refine hK.out _ _ (Or.inr aC) ?_
   clear hK K hx hl hkp dh aJ wC
   refine q09 (i:=9) (j:=11) (by kernel_rfl) rfl rfl ?_ ?_
   ·skip
    intro K hK
    go_simp
    refine hK.out _ _ (Or.inr (aC.alloc _)) ?_
    clear hK K
    have hn:=NI.new aC 38
    have hal:=(G.refl w7).alloc (.cells #[.bool false,.slice none 0 0] 38)
    have aG:=G.trans aC hal
    have kU:=hid (kT.out.G hal)
    have aZ:w7.heap.size≠pn:=by have:=kT.out.2.1;omega
    generalize w7.heap.size=pd at *
    generalize w7.alloc (.cells #[.bool false,.slice none 0 0] 38)=w8 at *
    have tF:=hid hn
    have aU:Hid (pn≠pd):=aZ.symm
    have aV:Hid (pd≠pn):=aZ
    clear hn hal aC kT aZ
    refine q00 (l':=#[true,true,true,true,true,true,true,true,true,true,true,false,true,false,false,false,false]) (by kernel_rfl) ?_
    revert aU
    revert aV
    revert tF
    revert kU
    revert aG
    revert pd
    revert pn
    revert w8
    exact tC.out
   ·skip
    intro K hK
    go_simp
    go_wp2_with (go_at_call 50;refine Calls.mono (P:=Tryz.prog) (q0T w w7 aC bx xa xb gD hbx mo.out) ?_;intro e w8 hx;obtain⟨p3,o3,rfl,hg,h72,fK⟩:=hx)
    refine hK.out _ _ (Or.inr (G.trans aC hg)) ?_
    clear hK K
    have aG:=G.trans aC hg
    have cu:=hid h72
    have aZ:p3≠pn:=by have h1:=kT.out.1;have h2:=kT.out.2.1;omega
    have kU:=hid (kT.out.G hg)
    have dZ:Hid (p3≠pn):=aZ
    clear hg h72 fK aC kT aZ
    refine q09 (i:=9) (j:=13) (by kernel_rfl) rfl rfl ?_ ?_
    ·skip
     intro K hK
     go_simp
     refine hK.out _ _ (Or.inr (aG.alloc _)) ?_
     clear hK K
     have hn:=NI.new aG 38
     have hal:=(G.refl w8).alloc (.cells #[.bool false,.slice none 0 0] 38)
     have aI:=G.trans aG hal
     have nG:=hid (kU.out.G hal)
     have cK:=hid (cu.out.G hal)
     have aZ:w8.heap.size≠pn:=by have:=kU.out.2.1;omega
     have aB:w8.heap.size≠p3:=by have:=(cu.out.is aG).1;omega
     generalize w8.heap.size=pd at *
     generalize w8.alloc (.cells #[.bool false,.slice none 0 0] 38)=w9 at *
     have tH:=hid hn
     have aU:Hid (pn≠pd):=aZ.symm
     have aV:Hid (pd≠pn):=aZ
     have di:Hid (p3≠pd):=aB.symm
     clear hn hal aG kU cu aZ aB
     refine q00 (l':=#[true,true,true,true,true,true,true,true,true,true,true,true,true,false,false,false,false]) (by kernel_rfl) ?_
     revert di
     revert aU
     revert dZ
     revert aV
     revert cK
     revert tH
     revert nG
     revert aI
     revert o3
     revert p3
     revert pd
     revert pn
     revert w9
     exact eX.out
    ·skip
     intro K hK
     go_simp
     go_wp2_with (go_at_call 50;refine Calls.mono (P:=Tryz.prog) (q0T w w8 aG b2 ya yb dD hby jc.out) ?_;intro e w9 hx;obtain⟨p4,o4,rfl,hg,h72,fK⟩:=hx)
     refine hK.out _ _ (Or.inr (G.trans aG hg)) ?_
     clear hK K
     have aI:=G.trans aG hg
     have qK:=hid h72
     have aZ:p4≠pn:=by have h1:=kU.out.1;have h2:=kU.out.2.1;omega
     have nG:=hid (kU.out.G hg)
     have cK:=hid (cu.out.G hg)
     have iH:Hid (p4≠pn):=aZ
     clear hg h72 fK aG kU cu aZ
     refine q03 (i:=9) (by kernel_rfl) rfl ?_
     intro K hK
     go_simp
     refine hK.out _ _ (Or.inr (aI.alloc _)) ?_
     clear hK K
     have hn:=NI.new aI 38
     have hal:=(G.refl w9).alloc (.cells #[.bool false,.slice none 0 0] 38)
     have aF:=G.trans aI hal
     have ng:=hid (nG.out.G hal)
     have bJ:=hid (cK.out.G hal)
     have bZ:=hid (qK.out.G hal)
     have aZ:w9.heap.size≠pn:=by have:=nG.out.2.1;omega
     have aB:w9.heap.size≠p3:=by have:=(cK.out.is aI).1;omega
     have cO:w9.heap.size≠p4:=by have:=(qK.out.is aI).1;omega
     generalize w9.heap.size=pd at *
     generalize w9.alloc (.cells #[.bool false,.slice none 0 0] 38)=aX at *
     have iC:=hid hn
     have aU:Hid (pn≠pd):=aZ.symm
     have aV:Hid (pd≠pn):=aZ
     have di:Hid (p3≠pd):=aB.symm
     have gG:Hid (p4≠pd):=cO.symm
     clear hn hal aI nG cK qK aZ aB cO
     refine q00 (l':=#[true,true,true,true,true,true,true,true,true,true,true,true,true,true,false,false,false]) (by kernel_rfl) ?_
     revert gG
     revert di
     revert aU
     revert iH
     revert dZ
     revert aV
     revert bZ
     revert bJ
     revert iC
     revert ng
     revert aF
     revert o4
     revert p4
     revert o3
     revert p3
     revert pd
     revert pn
     revert aX
     exact dG.out
  ·skip
   intro K hK
   go_simp
   refine hK.out _ _ (Or.inr (aJ.alloc _)) ?_
   clear hK K
   have hn:=NI.new aJ 38
   have hal:=(G.refl w6).alloc (.cells #[.bool false,.slice none 0 0] 38)
   have aC:=G.trans aJ hal
   have kT:=hid (wC.out.G hal)
   have aZ:w6.heap.size≠pn:=by have:=wC.out.2.1;omega
   generalize w6.heap.size=pd at *
   generalize w6.alloc (.cells #[.bool false,.slice none 0 0] 38)=w7 at *
   have sZ:=hid hn
   have aU:Hid (pn≠pd):=aZ.symm
   have aV:Hid (pd≠pn):=aZ
   clear hn hal aJ wC aZ
   refine q00 (l':=#[true,true,true,true,true,true,true,true,false,true,true,false,true,false,false,false,false]) (by kernel_rfl) ?_
   revert aU
   revert aV
   revert sZ
   revert kT
   revert aC
   revert pd
   revert pn
   revert w7
   exact kN.out
 ·skip
  intro K hK
  go_simp
  refine hK.out _ _ (Or.inr (hS5.alloc _)) ?_
  clear hK K
  have hn:=NI.new hS5 38
  have hal:=(G.refl w5).alloc (.cells #[.bool false,.slice none 0 0] 38)
  have aJ:=G.trans hS5 hal
  generalize w5.heap.size=pd at *
  generalize w5.alloc (.cells #[.bool false,.slice none 0 0] 38)=w6 at *
  have JS:=hid hn
  clear hn hal
  refine q03 (i:=1) (by kernel_rfl) rfl ?_
  intro K hK
  go_simp
  refine hK.out _ _ (Or.inr (aJ.alloc _)) ?_
  clear hK K
  have hn:=NI.new aJ 38
  have hal:=(G.refl w6).alloc (.cells #[.bool false,.slice none 0 0] 38)
  have aC:=G.trans aJ hal
  have sZ:=hid (JS.out.G hal)
  have gH:w6.heap.size≠pd:=by have:=JS.out.2.1;omega
  generalize w6.heap.size=pn at *
  generalize w6.alloc (.cells #[.bool false,.slice none 0 0] 38)=w7 at *
  have kT:=hid hn
  have aV:Hid (pd≠pn):=gH.symm
  have aU:Hid (pn≠pd):=gH
  clear hn hal aJ JS gH
  refine q00 (l':=#[true,true,true,true,true,true,true,true,false,true,true,false,true,false,false,false,false]) (by kernel_rfl) ?_
  revert aU
  revert aV
  revert sZ
  revert kT
  revert aC
  revert pd
  revert pn
  revert w7
  exact kN.out
 refine Later.mk ?_
 intro w7 pn pd aC kT sZ aV aU
 refine q03 (i:=8) (by kernel_rfl) rfl ?_
 intro K hK
 go_simp
 have dh:Hid _:=q17 w7 pn 0 bx 0 b2 0 0 xa ya KB (by omega) iE.out kM.out kT.out.2.1 (G.lt aC hbx) (G.lt aC hby) kT.out.2.2 (IntIs.G HX0.out hbx aC) (IntIs.G qB.out hby aC)
 go_wp2_with (go_at_call 49;refine Calls.mono (P:=Tryz.prog) dh.out ?_;intro e w8 hx;obtain⟨rfl,aG,hl,-,hkp⟩:=SetTo.step aC kT.out hx)
 have kU:=hid hl
 have tF:=hid (hkp _ _ aV.out sZ.out)
 refine hK.out _ _ (Or.inr aG) ?_
 clear hK K hx hl hkp dh aC kT sZ
 refine q00 (l':=#[true,true,true,true,true,true,true,true,true,true,true,false,true,false,false,false,false]) (by kernel_rfl) ?_
 revert aU
 revert aV
 revert tF
 revert kU
 revert aG
 revert pd
 revert pn
 revert w8
 exact tC.out
 refine Later.mk ?_
 intro w8 pn pd aG kU tF aV aU
 refine q03 (i:=11) (by kernel_rfl) rfl ?_
 intro K hK
 go_simp
 go_wp2_with (go_at_call 50;refine Calls.mono (P:=Tryz.prog) (q0T w w8 aG bx xa xb gD hbx mo.out) ?_;intro e w9 hx;obtain⟨p3,o3,rfl,hg,h72,fK⟩:=hx)
 refine hK.out _ _ (Or.inr (G.trans aG hg)) ?_
 clear hK K
 have aI:=G.trans aG hg
 have cK:=hid h72
 have aZ:p3≠pn:=by have h1:=kU.out.1;have h2:=kU.out.2.1;omega
 have gH:p3≠pd:=by have h1:=tF.out.1;have h2:=tF.out.2.1;omega
 have nG:=hid (kU.out.G hg)
 have tH:=hid (tF.out.G hg)
 have dZ:Hid (p3≠pn):=aZ
 have di:Hid (p3≠pd):=gH
 clear hg h72 fK aG kU tF aZ gH
 refine q00 (l':=#[true,true,true,true,true,true,true,true,true,true,true,true,true,false,false,false,false]) (by kernel_rfl) ?_
 revert di
 revert aU
 revert dZ
 revert aV
 revert cK
 revert tH
 revert nG
 revert aI
 revert o3
 revert p3
 revert pd
 revert pn
 revert w9
 exact eX.out
 refine Later.mk ?_
 intro w9 pn pd p3 o3 aI nG tH cK aV dZ aU di
 refine q03 (i:=13) (by kernel_rfl) rfl ?_
 intro K hK
 go_simp
 go_wp2_with (go_at_call 50;refine Calls.mono (P:=Tryz.prog) (q0T w w9 aI b2 ya yb dD hby jc.out) ?_;intro e aX hx;obtain⟨p4,o4,rfl,hg,h72,fK⟩:=hx)
 refine hK.out _ _ (Or.inr (G.trans aI hg)) ?_
 clear hK K
 have aF:=G.trans aI hg
 have bZ:=hid h72
 have aZ:p4≠pn:=by have h1:=nG.out.1;have h2:=nG.out.2.1;omega
 have gH:p4≠pd:=by have h1:=tH.out.1;have h2:=tH.out.2.1;omega
 have ng:=hid (nG.out.G hg)
 have iC:=hid (tH.out.G hg)
 have bJ:=hid (cK.out.G hg)
 have iH:Hid (p4≠pn):=aZ
 have gG:Hid (p4≠pd):=gH
 clear hg h72 fK aI nG tH cK aZ gH
 refine q00 (l':=#[true,true,true,true,true,true,true,true,true,true,true,true,true,true,false,false,false]) (by kernel_rfl) ?_
 revert gG
 revert di
 revert aU
 revert iH
 revert dZ
 revert aV
 revert bZ
 revert bJ
 revert iC
 revert ng
 revert aF
 revert o4
 revert p4
 revert o3
 revert p3
 revert pd
 revert pn
 revert aX
 exact dG.out
 refine Later.mk ?_
 intro aX pn pd p3 o3 p4 o4 aF ng iC bJ bZ aV dZ iH aU di gG
 refine q03 (i:=14) (by kernel_rfl) rfl ?_
 intro K hK
 go_simp
 have dh:Hid _:=qJ.out▸q17 aX pd 0 p3 o3 p4 o4 0 xb yb KB (by omega) jT.out gV.out iC.out.2.1 (bJ.out.is aF).1 (bZ.out.is aF).1 iC.out.2.2 (bJ.out.is aF).2 (bZ.out.is aF).2
 go_wp2_with (go_at_call 49;refine Calls.mono (P:=Tryz.prog) dh.out ?_;intro e bC hx;obtain⟨rfl,aT,hl,-,hkp⟩:=SetTo.step aF iC.out hx)
 have mW:=hid hl
 have Bw:=hid (hkp _ _ aU.out ng.out)
 have gW:=hid (DI.keep bJ.out (hkp _ _ di.out))
 have fM:=hid (DI.keep bZ.out (hkp _ _ gG.out))
 refine hK.out _ _ (Or.inr aT) ?_
 clear hK K hx hl hkp dh aF ng iC bJ bZ
 refine q03 (i:=15) (by kernel_rfl) rfl ?_
 intro K hK
 go_simp
 have BA:Hid _:=q0N bC bz pn 0 pd 0 s1 s2 (xa*ya) (xb*yb) (2*KB) (by omega) ek.out HD2.out HD0.out (G.lt aT hbz) Bw.out.2.1 mW.out.2.1 (Bv.out.G hbz aT) Bw.out.2.2 mW.out.2.2
 go_wp2_with (go_at_call 48;refine Calls.mono (P:=Tryz.prog) BA.out ?_;intro e dK hx;obtain⟨rfl,k1,k2⟩:=NormTo.after aT hx)
 have jb:Hid _:=k2
 refine hK.out _ _ (Or.inl (by decide)) ?_
 clear hx k2 hK K BA
 refine q03 (i:=16) (by kernel_rfl) rfl ?_
 intro K hK
 go_simp
 refine hK.out _ _ (Or.inl (by decide)) ?_
 clear hK K
 refine q0n (by kernel_rfl) ?_ _
 go_wp2_with fail
 go_ret
 exact⟨rfl,k1,jb.out⟩
end Go.Proofs.YtljkfjjchkehaaaGreatDoor
