/- What is proved here: contracts of the reference's ratios: Mul of Rat, of laid ones and of new ones, over this seat's translation.
What is proved here: contracts of the reference's ratios: Cmp of Rat, of laid ones and of new ones, over this seat's translation. -/
import Derived.Test.YtljkfjjchkehaaaGreatDoorC20
import Derived.Test.YtljkfjjchkehaaaGreatDoorC15
namespace Go.Proofs.YtljkfjjchkehaaaGreatDoor
open Go.ChangeShapes Go.WideShapes Go.ChangeAt Go.RowKit
open BN
set_option maxHeartbeats 4000000 in
theorem qbX (w:World) (bz bx b2:Nat) (s1 s2 xa ya:Int) (xb yb:Nat) (KB:Nat) (hK:KB≤100000) (hx2:xa.natAbs<2^(32*KB)) (hy2:ya.natAbs<2^(32*KB)) (hxb2:xb<2^(32*KB)) (hyb2:yb<2^(32*KB)) (hxb:0<xb) (hyb:0<yb)
  (hbz:bz<w.heap.size) (hbx:bx<w.heap.size) (hby:b2<w.heap.size) (hz:RatIs w bz s1 s2) (hx:RatV w bx xa xb) (hy:RatV w b2 ya yb):
  Calls Tryz.prog 14 #[.pointer (some ⟨bz,0,none⟩),.pointer (some ⟨bx,0,none⟩),.pointer (some ⟨b2,0,none⟩)] w (NormTo w bz (Int.tdiv (xa*ya) (Nat.gcd (xa*ya).natAbs (xb*yb):Nat)) (xb*yb/Nat.gcd (xa*ya).natAbs (xb*yb))):=by
 have HB01:Hid (xa.natAbs<2^(32*KB)):=hx2
 have HB02:Hid (ya.natAbs<2^(32*KB)):=hy2
 have HB21:Hid ((xb:Int).natAbs<2^(32*KB)):=by show (xb:Int).natAbs<2^(32*KB);rw[Int.natAbs_natCast];exact hxb2
 have HB22:Hid ((yb:Int).natAbs<2^(32*KB)):=by show (yb:Int).natAbs<2^(32*KB);rw[Int.natAbs_natCast];exact hyb2
 have HX0:Hid (IntIs w bx 0 xa):=hx.num
 have HY0:Hid (IntIs w b2 0 ya):=hy.num
 have HXR:Hid (RatV w bx xa xb):=hx
 have HYR:Hid (RatV w b2 ya yb):=hy
 have HZR:Hid (RatIs w bz s1 s2):=hz
 have hxb0:0<xb:=hxb
 have hyb0:0<yb:=hyb
 have HN2:Hid ((xa*ya).natAbs<2^(32*(2*KB))):=by
  show (xa*ya).natAbs<2^(32*(2*KB))
  rw[Int.natAbs_mul,show 32*(2*KB)=32*KB+32*KB from by omega,Nat.pow_add]
  exact Nat.mul_lt_mul'' hx2 hy2
 have HD2:Hid (xb*yb<2^(32*(2*KB))):=by
  show xb*yb<2^(32*(2*KB))
  rw[show 32*(2*KB)=32*KB+32*KB from by omega,Nat.pow_add]
  exact Nat.mul_lt_mul'' hxb2 hyb2
 have HD0:Hid (0<xb*yb):=Nat.mul_pos hxb hyb
 have HDD:Hid ((xb:Int)*yb=((xb*yb:Nat):Int)):=by show (xb:Int)*yb=((xb*yb:Nat):Int);push_cast;rfl
 clear hx hy hz hx2 hy2 hxb2 hyb2 hxb hyb
 go_enter Tryz.func14,Tryz.ntmps14
 go_wp2_with fail
 refine q0J 15 (G w) (by kernel_rfl) (by first|exact(G.refl _).drew|exact G.drew (by assumption)) ?_
 intro hSh
 refine q02 0 (v:= ?_) rfl (by kernel_rfl) (fun _ _ _ h=>h) rfl ?_ ‹_› ?_
 rotate_left
 ·intro wq hwq
  first|(go_simp;done)|(go_simp;with_reducible rfl)
 try simp only[aput,List.set]
 refine q02 2 (v:= ?_) rfl (by kernel_rfl) (fun _ _ _ h=>h) rfl ?_ ‹_› ?_
 rotate_left
 ·intro wq hwq
  first|(go_simp;done)|(go_simp;with_reducible rfl)
 try simp only[aput,List.set]
 refine q02 3 (v:= ?_) rfl (by kernel_rfl) (fun _ _ _ h=>h) rfl ?_ ‹_› ?_
 rotate_left
 ·intro wq hwq
  first|(go_simp;done)|(go_simp;with_reducible rfl)
 try simp only[aput,List.set]
 refine q02 4 (v:= ?_) rfl (by kernel_rfl) (fun _ _ _ h=>h) rfl ?_ ‹_› ?_
 rotate_left
 ·intro wq hwq
  first|(go_simp;done)|(go_simp;with_reducible rfl)
 try simp only[aput,List.set]
 refine q02 5 (v:= ?_) rfl (by kernel_rfl) (fun _ _ _ h=>h) rfl ?_ ‹_› ?_
 rotate_left
 ·intro wq hwq
  first|(go_simp;done)|(go_simp;with_reducible rfl)
 try simp only[aput,List.set]
 refine q02 6 (v:= ?_) rfl (by kernel_rfl) (fun _ _ _ h=>h) rfl ?_ ‹_› ?_
 rotate_left
 ·intro wq hwq
  first|(go_simp;done)|(go_simp;with_reducible rfl)
 try simp only[aput,List.set]
 refine q02 7 (v:= ?_) rfl (by kernel_rfl) (fun _ _ _ h=>h) rfl ?_ ‹_› ?_
 rotate_left
 ·intro wq hwq
  first|(go_simp;done)|(go_simp;with_reducible rfl)
 try simp only[aput,List.set]
 refine q02 10 (v:= ?_) rfl (by kernel_rfl) (fun _ _ _ h=>h) rfl ?_ ‹_› ?_
 rotate_left
 ·intro wq hwq
  first|(go_simp;done)|(go_simp;with_reducible rfl)
 try simp only[aput,List.set]
 refine q02 12 (v:= ?_) rfl (by kernel_rfl) (fun _ _ _ h=>h) rfl ?_ ‹_› ?_
 rotate_left
 ·intro wq hwq
  first|(go_simp;done)|(go_simp;with_reducible rfl)
 try simp only[aput,List.set]
 show q0C _ _ _ _ _ _ _ _ _ w.drew
 have hS5:=hSh
 generalize w.drew=w5 at *
 clear hSh
 apply share
 intro LSbcdem
 apply share
 intro LSbcdm
 apply share
 intro LSbcm
 apply share
 intro LSbc
 refine q07 (i:=1) (j:=9) (by kernel_rfl) rfl rfl ?_ ?_
 ·skip
  intro K hK
  go_simp
  refine hK.out _ _ (Or.inr (hS5.alloc _)) ?_
  clear hK K
  have hn:=NI.new hS5 38
  have hal:=(G.refl w5).alloc (.cells #[.bool false,.slice none 0 0] 38)
  have hS6:=G.trans hS5 hal
  generalize w5.heap.size=pn at *
  generalize w5.alloc (.cells #[.bool false,.slice none 0 0] 38)=w6 at *
  have HP6:=hid hn
  clear hn hal
  refine q07 (i:=8) (j:=9) (by kernel_rfl) rfl rfl ?_ ?_
  ·skip
   intro K hK
   go_simp
   have HCW:Hid _:=q0Y w6 pn 0 bx 0 b2 0 0 xa ya KB (by omega) HB01.out HB02.out HP6.out.2.1 (G.lt hS6 hbx) (G.lt hS6 hby) HP6.out.2.2 (IntIs.G HX0.out hbx hS6) (IntIs.G HY0.out hby hS6)
   go_wp2_with (go_at_call 49;refine Calls.mono (P:=Tryz.prog) HCW.out ?_;intro e w7 hx;obtain⟨rfl,hS7,hl,-,hkp⟩:=SetTo.step hS6 HP6.out hx)
   have HP7:=hid hl
   refine hK.out _ _ (Or.inr hS7) ?_
   clear hK K hx hl hkp HCW hS6 HP6
   refine q07 (i:=9) (j:=11) (by kernel_rfl) rfl rfl ?_ ?_
   ·skip
    intro K hK
    go_simp
    refine hK.out _ _ (Or.inr (hS7.alloc _)) ?_
    clear hK K
    have hn:=NI.new hS7 38
    have hal:=(G.refl w7).alloc (.cells #[.bool false,.slice none 0 0] 38)
    have hS8:=G.trans hS7 hal
    have HP8:=hid (HP7.out.G hal)
    have hneHP:w7.heap.size≠pn:=by have:=HP7.out.2.1;omega
    generalize w7.heap.size=pd at *
    generalize w7.alloc (.cells #[.bool false,.slice none 0 0] 38)=w8 at *
    have HQ8:=hid hn
    have HNEHQHP:Hid (pn≠pd):=hneHP.symm
    have HNEHPHQ:Hid (pd≠pn):=hneHP
    clear hn hal hS7 HP7 hneHP
    refine q00 (l':=#[true,true,true,true,true,true,true,true,true,true,true,false,true,false,false,false,false]) (by kernel_rfl) ?_
    revert HNEHQHP
    revert HNEHPHQ
    revert HQ8
    revert HP8
    revert hS8
    revert pd
    revert pn
    revert w8
    exact LSbcm.out
   ·skip
    intro K hK
    go_simp
    go_wp2_with (go_at_call 50;refine Calls.mono (P:=Tryz.prog) (q0H w w7 hS7 bx xa xb hxb0 hbx HXR.out) ?_;intro e w8 hx;obtain⟨p3,o3,rfl,hg,h72,h73⟩:=hx)
    refine hK.out _ _ (Or.inr (G.trans hS7 hg)) ?_
    clear hK K
    have hS8:=G.trans hS7 hg
    have HD8:=hid h72
    have hneHP:p3≠pn:=by have h1:=HP7.out.1;have h2:=HP7.out.2.1;omega
    have HP8:=hid (HP7.out.G hg)
    have HNEHPHD:Hid (p3≠pn):=hneHP
    clear hg h72 h73 hS7 HP7 hneHP
    refine q07 (i:=9) (j:=13) (by kernel_rfl) rfl rfl ?_ ?_
    ·skip
     intro K hK
     go_simp
     refine hK.out _ _ (Or.inr (hS8.alloc _)) ?_
     clear hK K
     have hn:=NI.new hS8 38
     have hal:=(G.refl w8).alloc (.cells #[.bool false,.slice none 0 0] 38)
     have hS9:=G.trans hS8 hal
     have HP9:=hid (HP8.out.G hal)
     have HD9:=hid (HD8.out.G hal)
     have hneHP:w8.heap.size≠pn:=by have:=HP8.out.2.1;omega
     have hneHD:w8.heap.size≠p3:=by have:=(HD8.out.is hS8).1;omega
     generalize w8.heap.size=pd at *
     generalize w8.alloc (.cells #[.bool false,.slice none 0 0] 38)=w9 at *
     have HQ9:=hid hn
     have HNEHQHP:Hid (pn≠pd):=hneHP.symm
     have HNEHPHQ:Hid (pd≠pn):=hneHP
     have HNEHQHD:Hid (p3≠pd):=hneHD.symm
     clear hn hal hS8 HP8 HD8 hneHP hneHD
     refine q00 (l':=#[true,true,true,true,true,true,true,true,true,true,true,true,true,false,false,false,false]) (by kernel_rfl) ?_
     revert HNEHQHD
     revert HNEHQHP
     revert HNEHPHD
     revert HNEHPHQ
     revert HD9
     revert HQ9
     revert HP9
     revert hS9
     revert o3
     revert p3
     revert pd
     revert pn
     revert w9
     exact LSbcdm.out
    ·skip
     intro K hK
     go_simp
     go_wp2_with (go_at_call 50;refine Calls.mono (P:=Tryz.prog) (q0H w w8 hS8 b2 ya yb hyb0 hby HYR.out) ?_;intro e w9 hx;obtain⟨p4,o4,rfl,hg,h72,h73⟩:=hx)
     refine hK.out _ _ (Or.inr (G.trans hS8 hg)) ?_
     clear hK K
     have hS9:=G.trans hS8 hg
     have HE9:=hid h72
     have hneHP:p4≠pn:=by have h1:=HP8.out.1;have h2:=HP8.out.2.1;omega
     have HP9:=hid (HP8.out.G hg)
     have HD9:=hid (HD8.out.G hg)
     have HNEHPHE:Hid (p4≠pn):=hneHP
     clear hg h72 h73 hS8 HP8 HD8 hneHP
     refine q03 (i:=9) (by kernel_rfl) rfl ?_
     intro K hK
     go_simp
     refine hK.out _ _ (Or.inr (hS9.alloc _)) ?_
     clear hK K
     have hn:=NI.new hS9 38
     have hal:=(G.refl w9).alloc (.cells #[.bool false,.slice none 0 0] 38)
     have hS10:=G.trans hS9 hal
     have HP10:=hid (HP9.out.G hal)
     have HD10:=hid (HD9.out.G hal)
     have HE10:=hid (HE9.out.G hal)
     have hneHP:w9.heap.size≠pn:=by have:=HP9.out.2.1;omega
     have hneHD:w9.heap.size≠p3:=by have:=(HD9.out.is hS9).1;omega
     have hneHE:w9.heap.size≠p4:=by have:=(HE9.out.is hS9).1;omega
     generalize w9.heap.size=pd at *
     generalize w9.alloc (.cells #[.bool false,.slice none 0 0] 38)=w10 at *
     have HQ10:=hid hn
     have HNEHQHP:Hid (pn≠pd):=hneHP.symm
     have HNEHPHQ:Hid (pd≠pn):=hneHP
     have HNEHQHD:Hid (p3≠pd):=hneHD.symm
     have HNEHQHE:Hid (p4≠pd):=hneHE.symm
     clear hn hal hS9 HP9 HD9 HE9 hneHP hneHD hneHE
     refine q00 (l':=#[true,true,true,true,true,true,true,true,true,true,true,true,true,true,false,false,false]) (by kernel_rfl) ?_
     revert HNEHQHE
     revert HNEHQHD
     revert HNEHQHP
     revert HNEHPHE
     revert HNEHPHD
     revert HNEHPHQ
     revert HE10
     revert HD10
     revert HQ10
     revert HP10
     revert hS10
     revert o4
     revert p4
     revert o3
     revert p3
     revert pd
     revert pn
     revert w10
     exact LSbcdem.out
  ·skip
   intro K hK
   go_simp
   refine hK.out _ _ (Or.inr (hS6.alloc _)) ?_
   clear hK K
   have hn:=NI.new hS6 38
   have hal:=(G.refl w6).alloc (.cells #[.bool false,.slice none 0 0] 38)
   have hS7:=G.trans hS6 hal
   have HP7:=hid (HP6.out.G hal)
   have hneHP:w6.heap.size≠pn:=by have:=HP6.out.2.1;omega
   generalize w6.heap.size=pd at *
   generalize w6.alloc (.cells #[.bool false,.slice none 0 0] 38)=w7 at *
   have HQ7:=hid hn
   have HNEHQHP:Hid (pn≠pd):=hneHP.symm
   have HNEHPHQ:Hid (pd≠pn):=hneHP
   clear hn hal hS6 HP6 hneHP
   refine q00 (l':=#[true,true,true,true,true,true,true,true,false,true,true,false,true,false,false,false,false]) (by kernel_rfl) ?_
   revert HNEHQHP
   revert HNEHPHQ
   revert HQ7
   revert HP7
   revert hS7
   revert pd
   revert pn
   revert w7
   exact LSbc.out
 ·skip
  intro K hK
  go_simp
  refine hK.out _ _ (Or.inr (hS5.alloc _)) ?_
  clear hK K
  have hn:=NI.new hS5 38
  have hal:=(G.refl w5).alloc (.cells #[.bool false,.slice none 0 0] 38)
  have hS6:=G.trans hS5 hal
  generalize w5.heap.size=pd at *
  generalize w5.alloc (.cells #[.bool false,.slice none 0 0] 38)=w6 at *
  have HQ6:=hid hn
  clear hn hal
  refine q03 (i:=1) (by kernel_rfl) rfl ?_
  intro K hK
  go_simp
  refine hK.out _ _ (Or.inr (hS6.alloc _)) ?_
  clear hK K
  have hn:=NI.new hS6 38
  have hal:=(G.refl w6).alloc (.cells #[.bool false,.slice none 0 0] 38)
  have hS7:=G.trans hS6 hal
  have HQ7:=hid (HQ6.out.G hal)
  have hneHQ:w6.heap.size≠pd:=by have:=HQ6.out.2.1;omega
  generalize w6.heap.size=pn at *
  generalize w6.alloc (.cells #[.bool false,.slice none 0 0] 38)=w7 at *
  have HP7:=hid hn
  have HNEHPHQ:Hid (pd≠pn):=hneHQ.symm
  have HNEHQHP:Hid (pn≠pd):=hneHQ
  clear hn hal hS6 HQ6 hneHQ
  refine q00 (l':=#[true,true,true,true,true,true,true,true,false,true,true,false,true,false,false,false,false]) (by kernel_rfl) ?_
  revert HNEHQHP
  revert HNEHPHQ
  revert HQ7
  revert HP7
  revert hS7
  revert pd
  revert pn
  revert w7
  exact LSbc.out
 refine Later.mk ?_
 intro w7 pn pd hS7 HP7 HQ7 HNEHPHQ HNEHQHP
 refine q03 (i:=8) (by kernel_rfl) rfl ?_
 intro K hK
 go_simp
 have HCW:Hid _:=q0Y w7 pn 0 bx 0 b2 0 0 xa ya KB (by omega) HB01.out HB02.out HP7.out.2.1 (G.lt hS7 hbx) (G.lt hS7 hby) HP7.out.2.2 (IntIs.G HX0.out hbx hS7) (IntIs.G HY0.out hby hS7)
 go_wp2_with (go_at_call 49;refine Calls.mono (P:=Tryz.prog) HCW.out ?_;intro e w8 hx;obtain⟨rfl,hS8,hl,-,hkp⟩:=SetTo.step hS7 HP7.out hx)
 have HP8:=hid hl
 have HQ8:=hid (hkp _ _ HNEHPHQ.out HQ7.out)
 refine hK.out _ _ (Or.inr hS8) ?_
 clear hK K hx hl hkp HCW hS7 HP7 HQ7
 refine q00 (l':=#[true,true,true,true,true,true,true,true,true,true,true,false,true,false,false,false,false]) (by kernel_rfl) ?_
 revert HNEHQHP
 revert HNEHPHQ
 revert HQ8
 revert HP8
 revert hS8
 revert pd
 revert pn
 revert w8
 exact LSbcm.out
 refine Later.mk ?_
 intro w8 pn pd hS8 HP8 HQ8 HNEHPHQ HNEHQHP
 refine q03 (i:=11) (by kernel_rfl) rfl ?_
 intro K hK
 go_simp
 go_wp2_with (go_at_call 50;refine Calls.mono (P:=Tryz.prog) (q0H w w8 hS8 bx xa xb hxb0 hbx HXR.out) ?_;intro e w9 hx;obtain⟨p3,o3,rfl,hg,h72,h73⟩:=hx)
 refine hK.out _ _ (Or.inr (G.trans hS8 hg)) ?_
 clear hK K
 have hS9:=G.trans hS8 hg
 have HD9:=hid h72
 have hneHP:p3≠pn:=by have h1:=HP8.out.1;have h2:=HP8.out.2.1;omega
 have hneHQ:p3≠pd:=by have h1:=HQ8.out.1;have h2:=HQ8.out.2.1;omega
 have HP9:=hid (HP8.out.G hg)
 have HQ9:=hid (HQ8.out.G hg)
 have HNEHPHD:Hid (p3≠pn):=hneHP
 have HNEHQHD:Hid (p3≠pd):=hneHQ
 clear hg h72 h73 hS8 HP8 HQ8 hneHP hneHQ
 refine q00 (l':=#[true,true,true,true,true,true,true,true,true,true,true,true,true,false,false,false,false]) (by kernel_rfl) ?_
 revert HNEHQHD
 revert HNEHQHP
 revert HNEHPHD
 revert HNEHPHQ
 revert HD9
 revert HQ9
 revert HP9
 revert hS9
 revert o3
 revert p3
 revert pd
 revert pn
 revert w9
 exact LSbcdm.out
 refine Later.mk ?_
 intro w9 pn pd p3 o3 hS9 HP9 HQ9 HD9 HNEHPHQ HNEHPHD HNEHQHP HNEHQHD
 refine q03 (i:=13) (by kernel_rfl) rfl ?_
 intro K hK
 go_simp
 go_wp2_with (go_at_call 50;refine Calls.mono (P:=Tryz.prog) (q0H w w9 hS9 b2 ya yb hyb0 hby HYR.out) ?_;intro e w10 hx;obtain⟨p4,o4,rfl,hg,h72,h73⟩:=hx)
 refine hK.out _ _ (Or.inr (G.trans hS9 hg)) ?_
 clear hK K
 have hS10:=G.trans hS9 hg
 have HE10:=hid h72
 have hneHP:p4≠pn:=by have h1:=HP9.out.1;have h2:=HP9.out.2.1;omega
 have hneHQ:p4≠pd:=by have h1:=HQ9.out.1;have h2:=HQ9.out.2.1;omega
 have HP10:=hid (HP9.out.G hg)
 have HQ10:=hid (HQ9.out.G hg)
 have HD10:=hid (HD9.out.G hg)
 have HNEHPHE:Hid (p4≠pn):=hneHP
 have HNEHQHE:Hid (p4≠pd):=hneHQ
 clear hg h72 h73 hS9 HP9 HQ9 HD9 hneHP hneHQ
 refine q00 (l':=#[true,true,true,true,true,true,true,true,true,true,true,true,true,true,false,false,false]) (by kernel_rfl) ?_
 revert HNEHQHE
 revert HNEHQHD
 revert HNEHQHP
 revert HNEHPHE
 revert HNEHPHD
 revert HNEHPHQ
 revert HE10
 revert HD10
 revert HQ10
 revert HP10
 revert hS10
 revert o4
 revert p4
 revert o3
 revert p3
 revert pd
 revert pn
 revert w10
 exact LSbcdem.out
 refine Later.mk ?_
 intro w10 pn pd p3 o3 p4 o4 hS10 HP10 HQ10 HD10 HE10 HNEHPHQ HNEHPHD HNEHPHE HNEHQHP HNEHQHD HNEHQHE
 refine q03 (i:=14) (by kernel_rfl) rfl ?_
 intro K hK
 go_simp
 have HCW:Hid _:=HDD.out▸q0Y w10 pd 0 p3 o3 p4 o4 0 xb yb KB (by omega) HB21.out HB22.out HQ10.out.2.1 (HD10.out.is hS10).1 (HE10.out.is hS10).1 HQ10.out.2.2 (HD10.out.is hS10).2 (HE10.out.is hS10).2
 go_wp2_with (go_at_call 49;refine Calls.mono (P:=Tryz.prog) HCW.out ?_;intro e w11 hx;obtain⟨rfl,hS11,hl,-,hkp⟩:=SetTo.step hS10 HQ10.out hx)
 have HQ11:=hid hl
 have HP11:=hid (hkp _ _ HNEHQHP.out HP10.out)
 have HD11:=hid (DI.keep HD10.out (hkp _ _ HNEHQHD.out))
 have HE11:=hid (DI.keep HE10.out (hkp _ _ HNEHQHE.out))
 refine hK.out _ _ (Or.inr hS11) ?_
 clear hK K hx hl hkp HCW hS10 HP10 HQ10 HD10 HE10
 refine q03 (i:=15) (by kernel_rfl) rfl ?_
 intro K hK
 go_simp
 have HSF:Hid _:=q19 w11 bz pn 0 pd 0 s1 s2 (xa*ya) (xb*yb) (2*KB) (by omega) HN2.out HD2.out HD0.out (G.lt hS11 hbz) HP11.out.2.1 HQ11.out.2.1 (HZR.out.G hbz hS11) HP11.out.2.2 HQ11.out.2.2
 go_wp2_with (go_at_call 48;refine Calls.mono (P:=Tryz.prog) HSF.out ?_;intro e w12 hx;obtain⟨rfl,k1,k2⟩:=NormTo.after hS11 hx)
 have HK2:Hid _:=k2
 refine hK.out _ _ (Or.inl (by decide)) ?_
 clear hx k2 hK K HSF
 refine q03 (i:=16) (by kernel_rfl) rfl ?_
 intro K hK
 go_simp
 refine hK.out _ _ (Or.inl (by decide)) ?_
 clear hK K
 refine q0i (by kernel_rfl) ?_ _
 go_wp2_with fail
 go_ret
 exact⟨rfl,k1,HK2.out⟩
set_option maxRecDepth 10000 in
set_option maxHeartbeats 8000000 in
theorem qb2 (w:World) (bx b2:Nat) (xa ya:Int) (xb yb:Nat) (KB:Nat) (hK:KB≤100000) (hx2:xa.natAbs<2^(32*KB)) (hy2:ya.natAbs<2^(32*KB)) (hxb2:xb<2^(32*KB)) (hyb2:yb<2^(32*KB)) (hxb:0<xb) (hyb:0<yb)
  (hbx:bx<w.heap.size) (hby:b2<w.heap.size) (hx:RatV w bx xa xb) (hy:RatV w b2 ya yb):
  Calls Tryz.prog 15 #[.pointer (some ⟨bx,0,none⟩),.pointer (some ⟨b2,0,none⟩)] w fun e w'=>e= .returned (.int .i64 (cmpI (xa*(yb:Int)) (ya*(xb:Int))))∧G w w':=by
 have HB01:Hid (xa.natAbs<2^(32*KB)):=hx2
 have HB02:Hid (ya.natAbs<2^(32*KB)):=hy2
 have HB21:Hid ((xb:Int).natAbs<2^(32*KB)):=by show (xb:Int).natAbs<2^(32*KB);rw[Int.natAbs_natCast];exact hxb2
 have HB22:Hid ((yb:Int).natAbs<2^(32*KB)):=by show (yb:Int).natAbs<2^(32*KB);rw[Int.natAbs_natCast];exact hyb2
 have HX0:Hid (IntIs w bx 0 xa):=hx.num
 have HY0:Hid (IntIs w b2 0 ya):=hy.num
 have HXR:Hid (RatV w bx xa xb):=hx
 have HYR:Hid (RatV w b2 ya yb):=hy
 have hxb0:0<xb:=hxb
 have hyb0:0<yb:=hyb
 have h2k:32*(2*KB)=32*KB+32*KB:=by omega
 have HN1:Hid ((xa*(yb:Int)).natAbs<2^(32*(2*KB))):=by
  show (xa*(yb:Int)).natAbs<2^(32*(2*KB))
  rw[Int.natAbs_mul,Int.natAbs_natCast,h2k,Nat.pow_add]
  exact Nat.mul_lt_mul'' hx2 hyb2
 have HN2:Hid ((ya*(xb:Int)).natAbs<2^(32*(2*KB))):=by
  show (ya*(xb:Int)).natAbs<2^(32*(2*KB))
  rw[Int.natAbs_mul,Int.natAbs_natCast,h2k,Nat.pow_add]
  exact Nat.mul_lt_mul'' hy2 hxb2
 have HCD:Hid (∀ w1 px ox py oy,px<w1.heap.size→py<w1.heap.size→IntIs w1 px ox (xb:Int)→IntIs w1 py oy (yb:Int)→_):=fun w1 px ox py oy h1 h2 h3 h4=>q5X w1 px ox py oy (xb:Int) (yb:Int) KB (by omega) HB21.out HB22.out h1 h2 h3 h4
 by_cases he:xb=yb
 ·subst he
  have h1:cmpI (xb:Int) (xb:Int)=0:=by unfold cmpI;rw[if_neg (by omega),if_pos rfl]
  rw[h1] at HCD
  rw[q8o hxb]
  have HCA:Hid (∀ w1,G w w1→_):=fun w1 g=>q5X w1 bx 0 b2 0 xa ya KB (by omega) HB01.out HB02.out (G.lt g hbx) (G.lt g hby) (IntIs.G HX0.out hbx g) (IntIs.G HY0.out hby g)
  generalize cmpI xa ya=cv at *
  clear hx hy hx2 hy2 hxb2 hyb2 hxb hyb h1 HN1 HN2 h2k
  go_enter Tryz.func15,Tryz.ntmps15
  go_wp2_with fail
  refine Calls.mono (P:=Tryz.prog) (q0H w w (G.refl w) bx xa xb hxb0 hbx HXR.out) ?_
  rintro e w1 ⟨px,ox,rfl,hg1,kx,-⟩
  have HPX:Hid (DI w w1 px ox xb):=kx
  clear kx
  go_wp2_with fail
  refine Calls.mono (P:=Tryz.prog) (q0H w w1 hg1 b2 ya xb hyb0 hby HYR.out) ?_
  rintro e w2 ⟨py,oy,rfl,hg2,ky,-⟩
  have HPY:Hid (DI w w2 py oy xb):=ky
  have HPX2:Hid (DI w w2 px ox xb):=HPX.out.G hg2
  have hG2:=G.trans hg1 hg2
  clear ky HPX
  clear hg1 hg2
  go_wp2_with fail
  refine Calls.mono (P:=Tryz.prog) (HCD.out w2 px ox py oy (HPX2.out.is hG2).1 (HPY.out.is hG2).1 (HPX2.out.is hG2).2 (HPY.out.is hG2).2) ?_
  rintro e w3 ⟨rfl,hg3⟩
  have hG3:=G.trans hG2 hg3
  clear hg3 hG2
  go_wp2_with fail
  refine q0J 6 (G w3) (by kernel_rfl) (by first|exact(G.refl _).drew|exact G.drew (by assumption)) ?_
  intro hSh
  refine q02 0 (v:= ?_) rfl (by kernel_rfl) (fun _ _ _ h=>h) rfl ?_ ‹_› ?_
  rotate_left
  ·intro wq hwq
   first|(go_simp;done)|(go_simp;with_reducible rfl)
  try simp only[aput,List.set]
  refine q02 1 (v:= ?_) rfl (by kernel_rfl) (fun _ _ _ h=>h) rfl ?_ ‹_› ?_
  rotate_left
  ·intro wq hwq
   first|(go_simp;done)|(go_simp;with_reducible rfl)
  try simp only[aput,List.set]
  refine q02 2 (v:= ?_) rfl (by kernel_rfl) (fun _ _ _ h=>h) rfl ?_ ‹_› ?_
  rotate_left
  ·intro wq hwq
   first|(go_simp;done)|(go_simp;with_reducible rfl)
  try simp only[aput,List.set]
  refine q02 3 (v:= ?_) rfl (by kernel_rfl) (fun _ _ _ h=>h) rfl ?_ ‹_› ?_
  rotate_left
  ·intro wq hwq
   first|(go_simp;done)|(go_simp;with_reducible rfl)
  try simp only[aput,List.set]
  refine q02 4 (v:= ?_) rfl (by kernel_rfl) (fun _ _ _ h=>h) rfl ?_ ‹_› ?_
  rotate_left
  ·intro wq hwq
   first|(go_simp;done)|(go_simp;with_reducible rfl)
  try simp only[aput,List.set]
  refine q02 5 (v:= ?_) rfl (by kernel_rfl) (fun _ _ _ h=>h) rfl ?_ ‹_› ?_
  rotate_left
  ·intro wq hwq
   first|(go_simp;done)|(go_simp;with_reducible rfl)
  try simp only[aput,List.set]
  show q0C _ _ _ _ _ _ _ _ _ w3.drew
  generalize w3.drew=w3d at *
  have hG3d:=G.trans hG3 hSh
  refine q03 (i:=6) (by kernel_rfl) rfl ?_
  intro K hK
  go_simp
  go_wp2_with (go_at_call 51;refine Calls.mono (P:=Tryz.prog) (HCA.out w3d hG3d) ?_;rintro e w4 ⟨rfl,hg4⟩)
  refine hK.out _ _ (Or.inl (by decide)) ?_
  have hG4:=G.trans hG3d hg4
  clear hK K
  refine q03 (i:=7) (by kernel_rfl) rfl ?_
  intro K hK
  go_simp
  refine hK.out _ _ (Or.inl (by decide)) ?_
  clear hK K
  refine q0i (by kernel_rfl) ?_ _
  go_wp2_with fail
  go_ret
  exact⟨rfl,hG4⟩
 ·have h1:(cmpI (xb:Int) (yb:Int)==0)=false:=by
   unfold cmpI
   by_cases h:(xb:Int)<yb
   ·rw[if_pos h];rfl
   ·rw[if_neg h,if_neg (by omega)];rfl
  have HT1:Hid _:=h1
  generalize cmpI (xb:Int) (yb:Int)=cd at *
  clear hx hy hx2 hy2 hxb2 hyb2 hxb hyb h1 he h2k
  have t1:=HT1.out
  go_enter Tryz.func15,Tryz.ntmps15
  go_wp2_with fail
  refine Calls.mono (P:=Tryz.prog) (q0H w w (G.refl w) bx xa xb hxb0 hbx HXR.out) ?_
  rintro e w1 ⟨px,ox,rfl,hg1,kx,-⟩
  have HPX:Hid (DI w w1 px ox xb):=kx
  clear kx
  go_wp2_with fail
  refine Calls.mono (P:=Tryz.prog) (q0H w w1 hg1 b2 ya yb hyb0 hby HYR.out) ?_
  rintro e w2 ⟨py,oy,rfl,hg2,ky,-⟩
  have HPY:Hid (DI w w2 py oy yb):=ky
  have HPX2:Hid (DI w w2 px ox xb):=HPX.out.G hg2
  have hG2:=G.trans hg1 hg2
  clear ky HPX
  clear hg1 hg2
  go_wp2_with fail
  refine Calls.mono (P:=Tryz.prog) (HCD.out w2 px ox py oy (HPX2.out.is hG2).1 (HPY.out.is hG2).1 (HPX2.out.is hG2).2 (HPY.out.is hG2).2) ?_
  rintro e w3 ⟨rfl,hg3⟩
  have hG3:=G.trans hG2 hg3
  clear hg3 hG2 HCD HPX2 HPY
  have HX3:Hid (RatV w3 bx xa xb):=RatV.G HXR.out hbx hG3
  have HY3:Hid (RatV w3 b2 ya yb):=RatV.G HYR.out hby hG3
  clear HXR HYR
  go_wp2_with fail
  clear t1 HT1
  apply share
  ·intro LX
   refine q0J 14 (G w3) (by kernel_rfl) (by first|exact(G.refl _).drew|exact G.drew (by assumption)) ?_
   intro hSh
   refine q02 1 (v:= ?_) rfl (by kernel_rfl) (fun _ _ _ h=>h) rfl ?_ ‹_› ?_
   rotate_left
   ·intro wq hwq
    first|(go_simp;done)|(go_simp;with_reducible rfl)
   try simp only[aput,List.set]
   refine q02 2 (v:= ?_) rfl (by kernel_rfl) (fun _ _ _ h=>h) rfl ?_ ‹_› ?_
   rotate_left
   ·intro wq hwq
    first|(go_simp;done)|(go_simp;with_reducible rfl)
   try simp only[aput,List.set]
   refine q02 3 (v:= ?_) rfl (by kernel_rfl) (fun _ _ _ h=>h) rfl ?_ ‹_› ?_
   rotate_left
   ·intro wq hwq
    first|(go_simp;done)|(go_simp;with_reducible rfl)
   try simp only[aput,List.set]
   refine q02 4 (v:= ?_) rfl (by kernel_rfl) (fun _ _ _ h=>h) rfl ?_ ‹_› ?_
   rotate_left
   ·intro wq hwq
    first|(go_simp;done)|(go_simp;with_reducible rfl)
   try simp only[aput,List.set]
   refine q02 8 (v:= ?_) rfl (by kernel_rfl) (fun _ _ _ h=>h) rfl ?_ ‹_› ?_
   rotate_left
   ·intro wq hwq
    first|(go_simp;done)|(go_simp;with_reducible rfl)
   try simp only[aput,List.set]
   refine q02 9 (v:= ?_) rfl (by kernel_rfl) (fun _ _ _ h=>h) rfl ?_ ‹_› ?_
   rotate_left
   ·intro wq hwq
    first|(go_simp;done)|(go_simp;with_reducible rfl)
   try simp only[aput,List.set]
   refine q02 10 (v:= ?_) rfl (by kernel_rfl) (fun _ _ _ h=>h) rfl ?_ ‹_› ?_
   rotate_left
   ·intro wq hwq
    first|(go_simp;done)|(go_simp;with_reducible rfl)
   try simp only[aput,List.set]
   refine q02 11 (v:= ?_) rfl (by kernel_rfl) (fun _ _ _ h=>h) rfl ?_ ‹_› ?_
   rotate_left
   ·intro wq hwq
    first|(go_simp;done)|(go_simp;with_reducible rfl)
   try simp only[aput,List.set]
   show q0C _ _ _ _ _ _ _ _ _ w3.drew
   have hS5:=hSh
   generalize w3.drew=w5 at *
   clear hSh
   apply share
   intro LSbcdem
   apply share
   intro LSbcdm
   apply share
   intro LSbcd
   apply share
   intro LSbc
   apply share
   intro LSbd
   apply share
   intro LScd
   refine q0l (i:=0) (j:=5) (l:=7) (by kernel_rfl) rfl rfl rfl ?_ ?_ ?_
   ·skip
    intro K hK
    go_simp
    refine hK.out _ _ (Or.inr (hS5.alloc _)) ?_
    clear hK K
    have hn:=NI.new hS5 38
    have hal:=(G.refl w5).alloc (.cells #[.bool false,.slice none 0 0] 38)
    have hS6:=G.trans hS5 hal
    generalize w5.heap.size=p1 at *
    generalize w5.alloc (.cells #[.bool false,.slice none 0 0] 38)=w6 at *
    have HB6:=hid hn
    clear hn hal
    refine q07 (i:=5) (j:=7) (by kernel_rfl) rfl rfl ?_ ?_
    ·skip
     intro K hK
     go_simp
     go_wp2_with (go_at_call 50;refine Calls.mono (P:=Tryz.prog) (q0H w3 w6 hS6 b2 ya yb hyb0 (G.lt hG3 hby) HY3.out) ?_;intro e w7 hx;obtain⟨p4,o4,rfl,hg,h72,h73⟩:=hx)
     refine hK.out _ _ (Or.inr (G.trans hS6 hg)) ?_
     clear hK K
     have hS7:=G.trans hS6 hg
     have HD7:=hid h72
     have hneHB:p4≠p1:=by have h1:=HB6.out.1;have h2:=HB6.out.2.1;omega
     have HB7:=hid (HB6.out.G hg)
     have HNEHBHD:Hid (p4≠p1):=hneHB
     clear hg h72 h73 hS6 HB6 hneHB
     refine q00 (l':=#[true,true,true,true,true,true,false,false,true,true,true,true,false,false,false,false]) (by kernel_rfl) ?_
     revert HNEHBHD
     revert HD7
     revert HB7
     revert hS7
     revert o4
     revert p4
     revert p1
     revert w7
     exact LSbd.out
    ·skip
     intro K hK
     go_simp
     refine hK.out _ _ (Or.inr (hS6.alloc _)) ?_
     clear hK K
     have hn:=NI.new hS6 38
     have hal:=(G.refl w6).alloc (.cells #[.bool false,.slice none 0 0] 38)
     have hS7:=G.trans hS6 hal
     have HB7:=hid (HB6.out.G hal)
     have hneHB:w6.heap.size≠p1:=by have:=HB6.out.2.1;omega
     generalize w6.heap.size=p2 at *
     generalize w6.alloc (.cells #[.bool false,.slice none 0 0] 38)=w7 at *
     have HC7:=hid hn
     have HNEHCHB:Hid (p1≠p2):=hneHB.symm
     have HNEHBHC:Hid (p2≠p1):=hneHB
     clear hn hal hS6 HB6 hneHB
     refine q00 (l':=#[true,true,true,true,true,false,false,true,true,true,true,true,false,false,false,false]) (by kernel_rfl) ?_
     revert HNEHCHB
     revert HNEHBHC
     revert HC7
     revert HB7
     revert hS7
     revert p2
     revert p1
     revert w7
     exact LSbc.out
   ·skip
    intro K hK
    go_simp
    go_wp2_with (go_at_call 50;refine Calls.mono (P:=Tryz.prog) (q0H w3 w5 hS5 b2 ya yb hyb0 (G.lt hG3 hby) HY3.out) ?_;intro e w6 hx;obtain⟨p4,o4,rfl,hg,h72,h73⟩:=hx)
    refine hK.out _ _ (Or.inr (G.trans hS5 hg)) ?_
    clear hK K
    have hS6:=G.trans hS5 hg
    have HD6:=hid h72
    clear hg h72 h73
    refine q07 (i:=0) (j:=7) (by kernel_rfl) rfl rfl ?_ ?_
    ·skip
     intro K hK
     go_simp
     refine hK.out _ _ (Or.inr (hS6.alloc _)) ?_
     clear hK K
     have hn:=NI.new hS6 38
     have hal:=(G.refl w6).alloc (.cells #[.bool false,.slice none 0 0] 38)
     have hS7:=G.trans hS6 hal
     have HD7:=hid (HD6.out.G hal)
     have hneHD:w6.heap.size≠p4:=by have:=(HD6.out.is hS6).1;omega
     generalize w6.heap.size=p1 at *
     generalize w6.alloc (.cells #[.bool false,.slice none 0 0] 38)=w7 at *
     have HB7:=hid hn
     have HNEHBHD:Hid (p4≠p1):=hneHD.symm
     clear hn hal hS6 HD6 hneHD
     refine q00 (l':=#[true,true,true,true,true,true,false,false,true,true,true,true,false,false,false,false]) (by kernel_rfl) ?_
     revert HNEHBHD
     revert HD7
     revert HB7
     revert hS7
     revert o4
     revert p4
     revert p1
     revert w7
     exact LSbd.out
    ·skip
     intro K hK
     go_simp
     refine hK.out _ _ (Or.inr (hS6.alloc _)) ?_
     clear hK K
     have hn:=NI.new hS6 38
     have hal:=(G.refl w6).alloc (.cells #[.bool false,.slice none 0 0] 38)
     have hS7:=G.trans hS6 hal
     have HD7:=hid (HD6.out.G hal)
     have hneHD:w6.heap.size≠p4:=by have:=(HD6.out.is hS6).1;omega
     generalize w6.heap.size=p2 at *
     generalize w6.alloc (.cells #[.bool false,.slice none 0 0] 38)=w7 at *
     have HC7:=hid hn
     have HNEHCHD:Hid (p4≠p2):=hneHD.symm
     clear hn hal hS6 HD6 hneHD
     refine q00 (l':=#[false,true,true,true,true,true,false,true,true,true,true,true,false,false,false,false]) (by kernel_rfl) ?_
     revert HNEHCHD
     revert HC7
     revert HD7
     revert hS7
     revert p2
     revert o4
     revert p4
     revert w7
     exact LScd.out
   ·skip
    intro K hK
    go_simp
    refine hK.out _ _ (Or.inr (hS5.alloc _)) ?_
    clear hK K
    have hn:=NI.new hS5 38
    have hal:=(G.refl w5).alloc (.cells #[.bool false,.slice none 0 0] 38)
    have hS6:=G.trans hS5 hal
    generalize w5.heap.size=p2 at *
    generalize w5.alloc (.cells #[.bool false,.slice none 0 0] 38)=w6 at *
    have HC6:=hid hn
    clear hn hal
    refine q07 (i:=0) (j:=5) (by kernel_rfl) rfl rfl ?_ ?_
    ·skip
     intro K hK
     go_simp
     refine hK.out _ _ (Or.inr (hS6.alloc _)) ?_
     clear hK K
     have hn:=NI.new hS6 38
     have hal:=(G.refl w6).alloc (.cells #[.bool false,.slice none 0 0] 38)
     have hS7:=G.trans hS6 hal
     have HC7:=hid (HC6.out.G hal)
     have hneHC:w6.heap.size≠p2:=by have:=HC6.out.2.1;omega
     generalize w6.heap.size=p1 at *
     generalize w6.alloc (.cells #[.bool false,.slice none 0 0] 38)=w7 at *
     have HB7:=hid hn
     have HNEHBHC:Hid (p2≠p1):=hneHC.symm
     have HNEHCHB:Hid (p1≠p2):=hneHC
     clear hn hal hS6 HC6 hneHC
     refine q00 (l':=#[true,true,true,true,true,false,false,true,true,true,true,true,false,false,false,false]) (by kernel_rfl) ?_
     revert HNEHCHB
     revert HNEHBHC
     revert HC7
     revert HB7
     revert hS7
     revert p2
     revert p1
     revert w7
     exact LSbc.out
    ·skip
     intro K hK
     go_simp
     go_wp2_with (go_at_call 50;refine Calls.mono (P:=Tryz.prog) (q0H w3 w6 hS6 b2 ya yb hyb0 (G.lt hG3 hby) HY3.out) ?_;intro e w7 hx;obtain⟨p4,o4,rfl,hg,h72,h73⟩:=hx)
     refine hK.out _ _ (Or.inr (G.trans hS6 hg)) ?_
     clear hK K
     have hS7:=G.trans hS6 hg
     have HD7:=hid h72
     have hneHC:p4≠p2:=by have h1:=HC6.out.1;have h2:=HC6.out.2.1;omega
     have HC7:=hid (HC6.out.G hg)
     have HNEHCHD:Hid (p4≠p2):=hneHC
     clear hg h72 h73 hS6 HC6 hneHC
     refine q00 (l':=#[false,true,true,true,true,true,false,true,true,true,true,true,false,false,false,false]) (by kernel_rfl) ?_
     revert HNEHCHD
     revert HC7
     revert HD7
     revert hS7
     revert p2
     revert o4
     revert p4
     revert w7
     exact LScd.out
   refine Later.mk ?_
   intro w7 p4 o4 p2 hS7 HD7 HC7 HNEHCHD
   refine q03 (i:=0) (by kernel_rfl) rfl ?_
   intro K hK
   go_simp
   refine hK.out _ _ (Or.inr (hS7.alloc _)) ?_
   clear hK K
   have hn:=NI.new hS7 38
   have hal:=(G.refl w7).alloc (.cells #[.bool false,.slice none 0 0] 38)
   have hS8:=G.trans hS7 hal
   have HD8:=hid (HD7.out.G hal)
   have HC8:=hid (HC7.out.G hal)
   have hneHD:w7.heap.size≠p4:=by have:=(HD7.out.is hS7).1;omega
   have hneHC:w7.heap.size≠p2:=by have:=HC7.out.2.1;omega
   generalize w7.heap.size=p1 at *
   generalize w7.alloc (.cells #[.bool false,.slice none 0 0] 38)=w8 at *
   have HB8:=hid hn
   have HNEHBHD:Hid (p4≠p1):=hneHD.symm
   have HNEHBHC:Hid (p2≠p1):=hneHC.symm
   have HNEHCHB:Hid (p1≠p2):=hneHC
   clear hn hal hS7 HD7 HC7 hneHD hneHC
   refine q00 (l':=#[true,true,true,true,true,true,false,true,true,true,true,true,false,false,false,false]) (by kernel_rfl) ?_
   revert HNEHCHD
   revert HNEHCHB
   revert HNEHBHC
   revert HNEHBHD
   revert HC8
   revert HD8
   revert HB8
   revert hS8
   revert p2
   revert o4
   revert p4
   revert p1
   revert w8
   exact LSbcd.out
   refine Later.mk ?_
   intro w7 p1 p4 o4 hS7 HB7 HD7 HNEHBHD
   refine q07 (i:=6) (j:=7) (by kernel_rfl) rfl rfl ?_ ?_
   ·skip
    intro K hK
    go_simp
    have HCW:Hid _:=q0Y w7 p1 0 bx 0 p4 o4 0 xa yb KB (by omega) HB01.out HB22.out HB7.out.2.1 (G.lt (G.trans hG3 hS7) hbx) (HD7.out.is hS7).1 HB7.out.2.2 (IntIs.G HX0.out hbx (G.trans hG3 hS7)) (HD7.out.is hS7).2
    go_wp2_with (go_at_call 49;refine Calls.mono (P:=Tryz.prog) HCW.out ?_;intro e w8 hx;obtain⟨rfl,hS8,hl,-,hkp⟩:=SetTo.step hS7 HB7.out hx)
    have HB8:=hid hl
    have HD8:=hid (DI.keep HD7.out (hkp _ _ HNEHBHD.out))
    refine hK.out _ _ (Or.inr hS8) ?_
    clear hK K hx hl hkp HCW hS7 HB7 HD7
    refine q07 (i:=7) (j:=12) (by kernel_rfl) rfl rfl ?_ ?_
    ·skip
     intro K hK
     go_simp
     refine hK.out _ _ (Or.inr (hS8.alloc _)) ?_
     clear hK K
     have hn:=NI.new hS8 38
     have hal:=(G.refl w8).alloc (.cells #[.bool false,.slice none 0 0] 38)
     have hS9:=G.trans hS8 hal
     have HB9:=hid (HB8.out.G hal)
     have HD9:=hid (HD8.out.G hal)
     have hneHB:w8.heap.size≠p1:=by have:=HB8.out.2.1;omega
     have hneHD:w8.heap.size≠p4:=by have:=(HD8.out.is hS8).1;omega
     generalize w8.heap.size=p2 at *
     generalize w8.alloc (.cells #[.bool false,.slice none 0 0] 38)=w9 at *
     have HC9:=hid hn
     have HNEHCHB:Hid (p1≠p2):=hneHB.symm
     have HNEHBHC:Hid (p2≠p1):=hneHB
     have HNEHCHD:Hid (p4≠p2):=hneHD.symm
     clear hn hal hS8 HB8 HD8 hneHB hneHD
     refine q00 (l':=#[true,true,true,true,true,true,true,true,true,true,true,true,false,false,false,false]) (by kernel_rfl) ?_
     revert HNEHCHD
     revert HNEHCHB
     revert HNEHBHC
     revert HNEHBHD
     revert HC9
     revert HD9
     revert HB9
     revert hS9
     revert p2
     revert o4
     revert p4
     revert p1
     revert w9
     exact LSbcdm.out
    ·skip
     intro K hK
     go_simp
     go_wp2_with (go_at_call 50;refine Calls.mono (P:=Tryz.prog) (q0H w3 w8 hS8 bx xa xb hxb0 (G.lt hG3 hbx) HX3.out) ?_;intro e w9 hx;obtain⟨p3,o3,rfl,hg,h72,h73⟩:=hx)
     refine hK.out _ _ (Or.inr (G.trans hS8 hg)) ?_
     clear hK K
     have hS9:=G.trans hS8 hg
     have HE9:=hid h72
     have hneHB:p3≠p1:=by have h1:=HB8.out.1;have h2:=HB8.out.2.1;omega
     have HB9:=hid (HB8.out.G hg)
     have HD9:=hid (HD8.out.G hg)
     have HNEHBHE:Hid (p3≠p1):=hneHB
     clear hg h72 h73 hS8 HB8 HD8 hneHB
     refine q03 (i:=7) (by kernel_rfl) rfl ?_
     intro K hK
     go_simp
     refine hK.out _ _ (Or.inr (hS9.alloc _)) ?_
     clear hK K
     have hn:=NI.new hS9 38
     have hal:=(G.refl w9).alloc (.cells #[.bool false,.slice none 0 0] 38)
     have hS10:=G.trans hS9 hal
     have HB10:=hid (HB9.out.G hal)
     have HD10:=hid (HD9.out.G hal)
     have HE10:=hid (HE9.out.G hal)
     have hneHB:w9.heap.size≠p1:=by have:=HB9.out.2.1;omega
     have hneHD:w9.heap.size≠p4:=by have:=(HD9.out.is hS9).1;omega
     have hneHE:w9.heap.size≠p3:=by have:=(HE9.out.is hS9).1;omega
     generalize w9.heap.size=p2 at *
     generalize w9.alloc (.cells #[.bool false,.slice none 0 0] 38)=w10 at *
     have HC10:=hid hn
     have HNEHCHB:Hid (p1≠p2):=hneHB.symm
     have HNEHBHC:Hid (p2≠p1):=hneHB
     have HNEHCHD:Hid (p4≠p2):=hneHD.symm
     have HNEHCHE:Hid (p3≠p2):=hneHE.symm
     clear hn hal hS9 HB9 HD9 HE9 hneHB hneHD hneHE
     refine q00 (l':=#[true,true,true,true,true,true,true,true,true,true,true,true,true,false,false,false]) (by kernel_rfl) ?_
     revert HNEHCHE
     revert HNEHCHD
     revert HNEHCHB
     revert HNEHBHE
     revert HNEHBHC
     revert HNEHBHD
     revert HE10
     revert HC10
     revert HD10
     revert HB10
     revert hS10
     revert o3
     revert p3
     revert p2
     revert o4
     revert p4
     revert p1
     revert w10
     exact LSbcdem.out
   ·skip
    intro K hK
    go_simp
    refine hK.out _ _ (Or.inr (hS7.alloc _)) ?_
    clear hK K
    have hn:=NI.new hS7 38
    have hal:=(G.refl w7).alloc (.cells #[.bool false,.slice none 0 0] 38)
    have hS8:=G.trans hS7 hal
    have HB8:=hid (HB7.out.G hal)
    have HD8:=hid (HD7.out.G hal)
    have hneHB:w7.heap.size≠p1:=by have:=HB7.out.2.1;omega
    have hneHD:w7.heap.size≠p4:=by have:=(HD7.out.is hS7).1;omega
    generalize w7.heap.size=p2 at *
    generalize w7.alloc (.cells #[.bool false,.slice none 0 0] 38)=w8 at *
    have HC8:=hid hn
    have HNEHCHB:Hid (p1≠p2):=hneHB.symm
    have HNEHBHC:Hid (p2≠p1):=hneHB
    have HNEHCHD:Hid (p4≠p2):=hneHD.symm
    clear hn hal hS7 HB7 HD7 hneHB hneHD
    refine q00 (l':=#[true,true,true,true,true,true,false,true,true,true,true,true,false,false,false,false]) (by kernel_rfl) ?_
    revert HNEHCHD
    revert HNEHCHB
    revert HNEHBHC
    revert HNEHBHD
    revert HC8
    revert HD8
    revert HB8
    revert hS8
    revert p2
    revert o4
    revert p4
    revert p1
    revert w8
    exact LSbcd.out
   refine Later.mk ?_
   intro w7 p1 p2 hS7 HB7 HC7 HNEHBHC HNEHCHB
   refine q03 (i:=5) (by kernel_rfl) rfl ?_
   intro K hK
   go_simp
   go_wp2_with (go_at_call 50;refine Calls.mono (P:=Tryz.prog) (q0H w3 w7 hS7 b2 ya yb hyb0 (G.lt hG3 hby) HY3.out) ?_;intro e w8 hx;obtain⟨p4,o4,rfl,hg,h72,h73⟩:=hx)
   refine hK.out _ _ (Or.inr (G.trans hS7 hg)) ?_
   clear hK K
   have hS8:=G.trans hS7 hg
   have HD8:=hid h72
   have hneHB:p4≠p1:=by have h1:=HB7.out.1;have h2:=HB7.out.2.1;omega
   have hneHC:p4≠p2:=by have h1:=HC7.out.1;have h2:=HC7.out.2.1;omega
   have HB8:=hid (HB7.out.G hg)
   have HC8:=hid (HC7.out.G hg)
   have HNEHBHD:Hid (p4≠p1):=hneHB
   have HNEHCHD:Hid (p4≠p2):=hneHC
   clear hg h72 h73 hS7 HB7 HC7 hneHB hneHC
   refine q00 (l':=#[true,true,true,true,true,true,false,true,true,true,true,true,false,false,false,false]) (by kernel_rfl) ?_
   revert HNEHCHD
   revert HNEHCHB
   revert HNEHBHC
   revert HNEHBHD
   revert HC8
   revert HD8
   revert HB8
   revert hS8
   revert p2
   revert o4
   revert p4
   revert p1
   revert w8
   exact LSbcd.out
   refine Later.mk ?_
   intro w8 p1 p4 o4 p2 hS8 HB8 HD8 HC8 HNEHBHD HNEHBHC HNEHCHB HNEHCHD
   refine q03 (i:=6) (by kernel_rfl) rfl ?_
   intro K hK
   go_simp
   have HCW:Hid _:=q0Y w8 p1 0 bx 0 p4 o4 0 xa yb KB (by omega) HB01.out HB22.out HB8.out.2.1 (G.lt (G.trans hG3 hS8) hbx) (HD8.out.is hS8).1 HB8.out.2.2 (IntIs.G HX0.out hbx (G.trans hG3 hS8)) (HD8.out.is hS8).2
   go_wp2_with (go_at_call 49;refine Calls.mono (P:=Tryz.prog) HCW.out ?_;intro e w9 hx;obtain⟨rfl,hS9,hl,-,hkp⟩:=SetTo.step hS8 HB8.out hx)
   have HB9:=hid hl
   have HD9:=hid (DI.keep HD8.out (hkp _ _ HNEHBHD.out))
   have HC9:=hid (hkp _ _ HNEHBHC.out HC8.out)
   refine hK.out _ _ (Or.inr hS9) ?_
   clear hK K hx hl hkp HCW hS8 HB8 HD8 HC8
   refine q00 (l':=#[true,true,true,true,true,true,true,true,true,true,true,true,false,false,false,false]) (by kernel_rfl) ?_
   revert HNEHCHD
   revert HNEHCHB
   revert HNEHBHC
   revert HNEHBHD
   revert HC9
   revert HD9
   revert HB9
   revert hS9
   revert p2
   revert o4
   revert p4
   revert p1
   revert w9
   exact LSbcdm.out
   refine Later.mk ?_
   intro w9 p1 p4 o4 p2 hS9 HB9 HD9 HC9 HNEHBHD HNEHBHC HNEHCHB HNEHCHD
   refine q03 (i:=12) (by kernel_rfl) rfl ?_
   intro K hK
   go_simp
   go_wp2_with (go_at_call 50;refine Calls.mono (P:=Tryz.prog) (q0H w3 w9 hS9 bx xa xb hxb0 (G.lt hG3 hbx) HX3.out) ?_;intro e w10 hx;obtain⟨p3,o3,rfl,hg,h72,h73⟩:=hx)
   refine hK.out _ _ (Or.inr (G.trans hS9 hg)) ?_
   clear hK K
   have hS10:=G.trans hS9 hg
   have HE10:=hid h72
   have hneHB:p3≠p1:=by have h1:=HB9.out.1;have h2:=HB9.out.2.1;omega
   have hneHC:p3≠p2:=by have h1:=HC9.out.1;have h2:=HC9.out.2.1;omega
   have HB10:=hid (HB9.out.G hg)
   have HD10:=hid (HD9.out.G hg)
   have HC10:=hid (HC9.out.G hg)
   have HNEHBHE:Hid (p3≠p1):=hneHB
   have HNEHCHE:Hid (p3≠p2):=hneHC
   clear hg h72 h73 hS9 HB9 HD9 HC9 hneHB hneHC
   refine q00 (l':=#[true,true,true,true,true,true,true,true,true,true,true,true,true,false,false,false]) (by kernel_rfl) ?_
   revert HNEHCHE
   revert HNEHCHD
   revert HNEHCHB
   revert HNEHBHE
   revert HNEHBHC
   revert HNEHBHD
   revert HE10
   revert HC10
   revert HD10
   revert HB10
   revert hS10
   revert o3
   revert p3
   revert p2
   revert o4
   revert p4
   revert p1
   revert w10
   exact LSbcdem.out
   refine Later.mk ?_
   intro w10 p1 p4 o4 p2 p3 o3 hS10 HB10 HD10 HC10 HE10 HNEHBHD HNEHBHC HNEHBHE HNEHCHB HNEHCHD HNEHCHE
   refine q03 (i:=13) (by kernel_rfl) rfl ?_
   intro K hK
   go_simp
   have HCW:Hid _:=q0Y w10 p2 0 b2 0 p3 o3 0 ya xb KB (by omega) HB02.out HB21.out HC10.out.2.1 (G.lt (G.trans hG3 hS10) hby) (HE10.out.is hS10).1 HC10.out.2.2 (IntIs.G HY0.out hby (G.trans hG3 hS10)) (HE10.out.is hS10).2
   go_wp2_with (go_at_call 49;refine Calls.mono (P:=Tryz.prog) HCW.out ?_;intro e w11 hx;obtain⟨rfl,hS11,hl,-,hkp⟩:=SetTo.step hS10 HC10.out hx)
   have HC11:=hid hl
   have HB11:=hid (hkp _ _ HNEHCHB.out HB10.out)
   have HD11:=hid (DI.keep HD10.out (hkp _ _ HNEHCHD.out))
   have HE11:=hid (DI.keep HE10.out (hkp _ _ HNEHCHE.out))
   refine hK.out _ _ (Or.inr hS11) ?_
   clear hK K hx hl hkp HCW hS10 HB10 HD10 HC10 HE10
   refine q03 (i:=14) (by kernel_rfl) rfl ?_
   intro K hK
   go_simp
   go_wp2_with (go_at_call 51;refine Calls.mono (P:=Tryz.prog) (q5X w11 p1 0 p2 0 (xa*(yb:Int)) (ya*(xb:Int)) (2*KB) (by omega) HN1.out HN2.out HB11.out.2.1 HC11.out.2.1 HB11.out.2.2 HC11.out.2.2) ?_;rintro e w12 ⟨rfl,hg⟩)
   refine hK.out _ _ (Or.inl (by decide)) ?_
   clear hK K
   have hS12:=G.trans hS11 hg
   have HB12:=hid (HB11.out.G hg)
   have HD12:=hid (HD11.out.G hg)
   have HC12:=hid (HC11.out.G hg)
   have HE12:=hid (HE11.out.G hg)
   clear hg hS11 HB11 HD11 HC11 HE11
   refine q03 (i:=15) (by kernel_rfl) rfl ?_
   intro K hK
   go_simp
   refine hK.out _ _ (Or.inl (by decide)) ?_
   clear hK K
   refine q0i (by kernel_rfl) ?_ _
   revert HNEHCHE
   revert HNEHCHD
   revert HNEHCHB
   revert HNEHBHE
   revert HNEHBHC
   revert HNEHBHD
   revert HE12
   revert HC12
   revert HD12
   revert HB12
   revert hS12
   revert o3
   revert p3
   revert p2
   revert o4
   revert p4
   revert p1
   revert w12
   exact LX.out
  ·skip
   refine Later.mk ?_
   intro w12 p1 p4 o4 p2 p3 o3 hS12 HB12 HD12 HC12 HE12 HNEHBHD HNEHBHC HNEHBHE HNEHCHB HNEHCHD HNEHCHE
   have hG:=G.trans hG3 hS12
   go_wp2_with fail
   go_ret
   exact⟨rfl,hG⟩
end Go.Proofs.YtljkfjjchkehaaaGreatDoor
