import Derived.Test.YtlailakofhenkabGreatDoorB41
import Derived.Test.YtlailakofhenkabGreatDoorRows
namespace Go.Proofs.YtlailakofhenkabGreatDoor
open Go Go.RowKit Go.Maps Go.WideMaps Tok Sc Ev
theorem A7{c:List UInt8}(h:c∉aC):Maps.has (Rows.laid_rotor_rotorref_forms:DataW Unit) (kh c)=false∧∀z,(Rows.laid_rotor_rotorref_forms:DataW Unit).atKey (kh c) z=z:=by
 have b:∀x∈aC,¬ x=c:=fun x hx e=>h (e ▸ hx);have r:=b dS (by decide)
 have s:=b dF (by decide)
 have t:=b bj (by decide)
 have v:=b fV (by decide)
 have A:=b cu (by decide)
 have B:=b cY (by decide)
 have C:=b fJ (by decide)
 have D:=b cA (by decide)
 have E:=b dg (by decide)
 have f:=b bM (by decide)
 have g:=b aR (by decide)
 have j:=b cC (by decide)
 have k:=b cI (by decide)
 have m:=b bY (by decide)
 have n:=b gT (by decide)
 have o:=b dd (by decide)
 have p:=b dh (by decide)
 have q:=b bC (by decide)
 unfold dS at r;unfold dF at s;unfold bj at t;unfold fV at v;unfold cu at A;unfold cY at B;unfold fJ at C;unfold cA at D;unfold dg at E;unfold bM at f;unfold aR at g;unfold cC at j;unfold cI at k;unfold bY at m;unfold gT at n;unfold dd at o;unfold dh at p;unfold bC at q;unfold Rows.laid_rotor_rotorref_forms kh;constructor
 ·simp[Maps.has,Lit.sameKey,r,s,t,v,A,B,C,D,E,f,g,j,k,m,n,o,p,q]
 ·intro z
  simp[DataW.atKey,Lit.sameKey,r,s,t,v,A,B,C,D,E,f,g,j,k,m,n,o,p,q]
theorem yq:∀c∈aC,∃v:ByteArray,qo c=some (.string v)∧v.size<=4∧Maps.has (Rows.laid_rotor_rotorref_forms:DataW Unit) (kh c)=true∧∀z,(Rows.laid_rotor_rotorref_forms:DataW Unit).atKey (kh c) z=.lit (.string v.data.toList):=by
 intro c hc;unfold aC cE at hc;simp only[List.map_cons,List.map_nil,List.mem_cons,List.not_mem_nil,or_false] at hc;rcases hc with rfl | rfl | rfl | rfl | rfl | rfl | rfl | rfl | rfl | rfl | rfl | rfl | rfl | rfl | rfl | rfl | rfl | rfl <;> exact⟨_,rfl,by decide,by decide,fun _=>rfl⟩
theorem qz{W : World}{rest : List (String × DataW Unit)}(h : laidMet Tryz.prog (("rotor/rotorref.forms", Rows.laid_rotor_rotorref_forms) :: rest) W): ∃gm, bo W gm := by
 obtain⟨ps,⟨g',t',cs,fuel,p,q,hg',ht',hvar,hd,-,-⟩,-⟩:=h;obtain rfl := Option.some.inj ((show Tryz.prog.globalNamed "rotor/rotorref.forms" = some 1 by kernel_rfl).symm.trans hg')
 obtain rfl:=Option.some.inj ((show (Tryz.prog.globals[1]?).map (·.type)=some 94 by kernel_rfl).symm.trans ht')
 rcases WideElems.open_map Tryz.underlying94 hd with ⟨-,hx⟩ | ⟨b,es,clock,n,-,hcs,hb,-,Ft,hx⟩
 ·simp[Rows.laid_rotor_rotorref_forms] at hx
 ·have g:=World.ownsMap_of_fit (R:=plainElem Tryz.prog 9) hb Ft (fun x _ z hz=>elemAt_plainElem_string Tryz.underlying9 hz)
  simp only[Prod.mk.injEq] at hx;rw[<- hx.1] at g
  have m:es.size=18:=by
   have o:=length_read (P:=Tryz.prog) (k:=9) (R0:=WideElems.elemAt (fun _=>()) Tryz.prog W 0 (fun _=>true) false n 9) es;rw[<- o];have j:=hx.1;unfold Rows.laid_rotor_rotorref_forms at j;injection j with h7;rw[<- h7];rfl
  have f := World.var?_cell (show Tryz.prog.globalNamed "rotor/rotorref.forms" = some 1 by kernel_rfl) hvar 0
  rw[show cs=#[.map (some b)] from Array.toList_inj.1 hcs] at f
  refine⟨b,by simpa using f,_,g.mono (by omega),⟨_,rfl⟩,fun c=>?_⟩
  by_cases hc:c∈aC
  ·obtain⟨v,h1,h2,h3,h4⟩:=yq c hc
   exact .inl ⟨_,_,h1,h3,plainElem_string Tryz.underlying9 (by unfold maxLen; omega),h4⟩
  ·obtain⟨h1,h2⟩:=A7 hc
   exact .inr ⟨by unfold qo; rw[kt hc]; rfl,h1,h2⟩
end Go.Proofs.YtlailakofhenkabGreatDoor
