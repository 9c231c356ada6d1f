/- What is proved here: a law at whose return everybody else has ended keeps the wider word that they are only leaving; a tied card of a program in which some function has a go statement. -/
import Derived.JoinedCond
import Derived.Handed
import Derived.SevenTiedAt
namespace Go.Proofs.YtbfjihniphldaaaGreatDoor
theorem q37 {P:Program} {m:Machine} {w:World} {t:Trace} (h:aloneAtReturn P m w t):leavingAtReturn P m w t:=by
 obtain⟨⟨h1,h2⟩,h3,h4⟩:=h;refine⟨h3,⟨fun g hg=>⟨0,?_⟩,h2⟩,h4⟩;unfold Machine.othersDone at h1;have:=(List.all_eq_true.1 h1) g hg;show g.status= .finished;revert this;cases g.status<;>simp
theorem q4b {p:Pinned} {s:OpenSpec} {c:OpenClaim} (hl:c.leaving=true) (hstart:c.start= .entering) (hst:c.stops=[]) (ha:c.again=false)
  (h:({c with leaving:=false}:OpenClaim).holds p s):c.holds p s:=by
 unfold OpenClaim.holds at h ⊢;obtain⟨a1,a2,a3,a4,a5,a6,a7,a8,f,fn,g1,g2,r,b1,b2,b3,b4,b5,k,c1,c2,c3,c4,c5,c6,m,l,q,n1,v1,e1,L,hL,all⟩:=h;have e:c.wf s=({c with leaving:=false}:OpenClaim).wf s:=by
  have e2:(!(c.again&&c.leaving))=(!(c.again&&false)):=by rw[ha];rfl
  unfold OpenClaim.wf;rw[e2];rfl
 refine⟨e.trans a1,a2,a3,a4,a5,a6,a7,a8,f,fn,g1,g2,r,b1,b2,b3,b4,b5,k,c1,c2,c3,c4,c5,c6,m,l,q,n1,v1,e1,L,hL,fun os x y H enc inj=> ?_⟩;have A:=all os x y H enc inj;unfold OpenClaim.form at A ⊢;simp only[hstart,hst] at A ⊢;intro F;refine ReturnsInOpen.mono (fun last w t hx=> ?_) (fun _ x=>x) (A F);unfold OpenClaim.atReturn;rw[hl];exact q37 hx
theorem q8r (Lk:Looks) {p:Pinned} {s:OpenSpec} {c:OpenClaim} (kinds:List LaidKind) (tests:Bool) (har:Bool×String) (lk:Bool)
  (hc:c.holds p s) (hw:c.wfByText s=true) (htie:c.laidByTextAt Lk p kinds tests)
  (hst:c.start= .entering) (hnb:c.noBlocks=false∧c.again=false) (hm:p.checked.prog.mainIs=some (har.1,har.2.toList)) (hn:(!har.1&&har.2.isEmpty&& !lk)=false)
  (hl:∀ f fn,p.checked.prog.funcNamed c.func=some f→p.checked.prog.funcs[f]? =some fn→lk=p.checked.prog.looks []∧∀ (j:Nat) t,fn.params[j]? =some t→p.checked.prog.wantsStandIn t=false)
  (hg:true=c.goesBy p.checked.prog):
  Claim7.holds p (.plain s) {stood:={row:=c,standIns:=[],harness:=har,looks:=lk},kinds:=[],alts:=[],goes:=true,laidByText:=true,laidKinds:=kinds,laidTests:=tests,laidLooks:=Lk}:=by
 have h6:∀ r:OpenClaim,Claim7.isSixth {stood:={row:=r,standIns:=[],harness:=har,looks:=lk},kinds:=[]}=false:=fun r=>by simpa [Claim7.isSixth] using hn
 exact⟨Claim7.tied_new_at Lk kinds tests (Claim7.new_of_sixth hc har lk hst hnb hm (h6 c) hl) hw,(fun D hD=>by cases hD),htie,(fun h=>by cases h),hg⟩
end Go.Proofs.YtbfjihniphldaaaGreatDoor
