/- What is proved here: the library's Reverse of points, over this seat's translation. -/
import Derived.Test.YtdidnnbpdcanlaaGreatDoorC23
import Derived.Test.YtdidnnbpdcanlaaGreatDoorC15
import Derived.Shelf.SlicesQ.Reverse
namespace Go.Proofs.YtdidnnbpdcanlaaGreatDoor.EN
open Go.ChangeShapes Go.WideShapes Go.ChangeAt Go.RowKit Go.Sort
theorem q4I (w:World) (base:Nat) (v:Value) (l:List (Nat×Nat)) (ho:POwn w base v l) (hne:l≠[]) (hn:l.length≤1000000):
  Calls Tryz.prog 44 #[v] w fun e w'=>e= .returned (.tuple #[])∧POwn w' base v l.reverse∧OntoP base v w w':=by
 obtain⟨d,hd⟩:∃ d:Array (Nat×Nat),d.toList.map id=l:=⟨l.toArray,by simp⟩
 rw[← hd] at ho hn hne ⊢
 have hv:∃ g cap,v= .slice (some ⟨g,0,none⟩) d.size cap:=by
  rcases ho with ⟨-,e⟩|⟨g,cap,cur,e,-⟩
  ·exact absurd e hne
  ·exact⟨g,cap,by rw[e];simp⟩
 obtain⟨g,cap,rfl⟩:=hv
 obtain⟨hH,hg,-,-⟩:=q2D _ ho
 have hc:=AnyQ.slices_Reverse Tryz.revP 2 (fun w=>Tryz.isAgg32 w) (fun w=>Tryz.sizeOf32 w) (fun x:Nat×Nat=>encP (id x)) (fun _=>rfl) (fun x u hu=>by
   simp only[encP,List.mem_cons,List.not_mem_nil,or_false] at hu
   rcases hu with rfl|rfl<;>rfl) g 0 cap d w hH (by simp at hn;omega)
 refine Calls.mono hc ?_
 rintro e w' ⟨rfl,n,rfl⟩
 obtain⟨h1,h2⟩:=q49 (d':=d.reverse) id (m:=n) (os:=#[]) ho (by simp)
 unfold sortWorldK at h1 h2
 rw[grow_empty] at h1 h2
 refine⟨rfl,?_,h2⟩
 rw[show (d.toList.map id).reverse=d.reverse.toList.map id from by simp]
 exact h1
end Go.Proofs.YtdidnnbpdcanlaaGreatDoor.EN
