import Derived.Test.YtlailakofhenkabGreatDoorB7
import Derived.Conc.Holds
import Derived.SevenTiedAt
namespace Go.Proofs.YtlailakofhenkabGreatDoor
open Go Go.RowKit Go.ChangeShapes Go.WideShapes Go.ChangeAt Go.Joins Ev
open Go.WideMaps Go.WideElems
variable {H : Type} {enc : TypeId × Value -> H} {w : World} {base : Nat} {spare : Nat -> Bool} {held : Bool}
end Go.Proofs.YtlailakofhenkabGreatDoor
namespace Go.Proofs.YtlailakofhenkabGreatDoor
open Go
theorem jX{a:Assume}{C:Checked}{os:Os}{f:FuncId}{r:Reach}{Pre:World->Array Value->Prop}{Post:World->Array Value->Value->World->Prop}(h:ReturnsInHanded a C os f r Pre Post):ReturnsInLeavingWide a C os f r Pre Post:=fun enter=>by
 obtain⟨h0,h1,h2,h3,h4⟩:=h enter;refine⟨h0,h1,h2,h3,fun w tape i hf=>?_⟩;obtain⟨n,v,w',r1,r2,r3,r4,⟨j,last,s1,s2,s3⟩,r5⟩:=h4 w tape i hf;exact⟨n,v,w',r1,r2,r3,r4,⟨j,last,s1,s2,s3.2.1,onlyLeaving_of_quiet s3.1,s3.2.2⟩,r5⟩
theorem yr(Lk:Looks){p:Pinned}{s:OpenSpec}{c:OpenClaim}(kinds:List LaidKind)(tests:Bool)(har:Bool × String)(lk:Bool)(hc:c.holds p s)(hw:c.wfByText s=true)(htie:c.laidByTextAt Lk p kinds tests)(hst:c.start=.entering)(hnb:c.noBlocks=false∧c.again=false)(hm:p.checked.prog.mainIs=some (har.1,har.2.toList))(hn:(!har.1 && har.2.isEmpty && !lk)=false)(hl:∀f fn,p.checked.prog.funcNamed c.func=some f->p.checked.prog.funcs[f]?=some fn->lk=p.checked.prog.looks []∧∀(j:Nat) t,fn.params[j]?=some t->p.checked.prog.wantsStandIn t=false)(hg:true=c.goesBy p.checked.prog):
 Claim7.holds p (.plain s) { stood:={ row:=c,standIns:= [],harness:=har,looks:=lk },kinds:= [],alts:= [],goes:=true,laidByText:=true,laidKinds:=kinds,laidTests:=tests,laidLooks:=Lk }:=by
 have b:∀r:OpenClaim,Claim7.isSixth { stood:={ row:=r,standIns:= [],harness:=har,looks:=lk },kinds:= [] }=false:=fun r=>by simpa[Claim7.isSixth] using hn
 exact⟨Claim7.tied_new_at Lk kinds tests (Claim7.new_of_sixth hc har lk hst hnb hm (b c) hl) hw,fun D hD=>(by cases hD),htie,(fun h=>by cases h),hg⟩
end Go.Proofs.YtlailakofhenkabGreatDoor
