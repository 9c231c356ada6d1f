/- What is proved here: a law at whose return everybody else has ended keeps the wider word that they are only leaving; a tied card of a program in which some function has a go statement. -/
import Derived.Test.YtfnkkkcojnffdaaGreatDoorC1
import Derived.JoinedCond
import Derived.Handed
import Derived.SevenTiedAt
namespace Go.Proofs.YtfnkkkcojnffdaaGreatDoor
theorem iK {P:Program} {m:Machine} {w:World} {t:Trace} (h:aloneAtReturn P m w t):leavingAtReturn P m w t:=by
 obtain⟨⟨h1,h2⟩,h3,A⟩:=h;refine⟨h3,⟨fun g B=>⟨0,?_⟩,h2⟩,A⟩;unfold Machine.othersDone at h1;have:=(b9.1 h1) g B;show g.status= .finished;revert this;cases g.status<;>simp
theorem jR {p:Pinned} {s:OpenSpec} {c:OpenClaim} (o:c.leaving=true) (B:c.start= .entering) (C:c.stops=[]) (j:c.again=false)
  (h:({c with leaving:=false}:OpenClaim).holds p s):c.holds p s:=by
 unfold OpenClaim.holds at h ⊢;obtain⟨D,a2,a3,a4,a5,E,I,J,f,fn,g1,g2,r,K,M,N,O,R,k,c1,S,U,W,X,Y,m,l,q,n1,v1,Z,L,i,all⟩:=h;have e:c.wf s=({c with leaving:=false}:OpenClaim).wf s:=by
  have d:(!(c.again&&c.leaving))=(!(c.again&&false)):=by rw[j];rfl
  unfold OpenClaim.wf;rw[d];rfl
 refine⟨e.trans D,a2,a3,a4,a5,E,I,J,f,fn,g1,g2,r,K,M,N,O,R,k,c1,S,U,W,X,Y,m,l,q,n1,v1,Z,L,i,fun os x y H enc inj=> ?_⟩;have A:=all os x y H enc inj;unfold OpenClaim.form at A ⊢;simp only[B,C] at A ⊢;intro F;refine ReturnsInOpen.mono (fun last w t hx=> ?_) (fun _ x=>x) (A F);unfold OpenClaim.atReturn;rw[o];exact iK hx
theorem od (F:Looks) {p:Pinned} {s:OpenSpec} {c:OpenClaim} (kinds:List LaidKind) (B:Bool) (A:Bool×String) (E:Bool)
  (L:c.holds p s) (S:c.wfByText s=true) (C:c.laidByTextAt F p kinds B)
  (J:c.start= .entering) (I:c.noBlocks=false∧c.again=false) (O:p.checked.prog.mainIs=some (A.1,A.2.toList)) (R:(!A.1&&A.2.isEmpty&& !E)=false)
  (N:∀ f fn,p.checked.prog.funcNamed c.func=some f→p.checked.prog.funcs[f]? =some fn→E=p.checked.prog.looks []∧∀ (j:Nat) t,fn.params[j]? =some t→p.checked.prog.wantsStandIn t=false)
  (M:true=c.goesBy p.checked.prog):
  Claim7.holds p (.plain s) {stood:={row:=c,standIns:=[],harness:=A,looks:=E},kinds:=[],alts:=[],goes:=true,laidByText:=true,laidKinds:=kinds,laidTests:=B,laidLooks:=F}:=by
 have h6:∀ r:OpenClaim,Claim7.isSixth {stood:={row:=r,standIns:=[],harness:=A,looks:=E},kinds:=[]}=false:=fun r=>by simpa [Claim7.isSixth] using R
 exact⟨Claim7.tied_new_at F kinds B (Claim7.new_of_sixth L A E J I O (h6 c) N) S,(fun D K=>by cases K),C,(fun h=>by cases h),M⟩
end Go.Proofs.YtfnkkkcojnffdaaGreatDoor
