/- For every two texts: the law DeskPieces (promise 8) returns true, with no panic, and changes nothing that it was given (of texts of more than 2,500 bytes together the law itself says nothing). Conditions: none beside the row's own (the library's listed variables hold what the program's text lays; the card ties them). -/
import Derived.Test.YtlailakofhenkabGreatDoorB45
import Derived.Test.YtlailakofhenkabGreatDoorCards
import Derived.Test.YtlailakofhenkabGreatDoorTie
import Derived.Test.YtlailakofhenkabGreatDoorB47
import Derived.Deep.Slices
import Derived.Deep.Strs
import Derived.ProofKit
import Derived.OpenShut
import Derived.Lib.SmallJoins
import Derived.Deep.DeepHandedRow
import Derived.Deep.DeepWitnessRowRef
import Derived.Lib.LaidTab
import Derived.LaidHandle
import Derived.Stop.LaidErr
import Derived.Shelf.Vars
import Derived.SizedLaws
set_option maxRecDepth 100000
set_option maxHeartbeats 2000000
namespace Go.Proofs.YtlailakofhenkabGreatDoor.deskPiecesProof
open Go.ChangeShapes Go.WideShapes Go.ChangeAt Go.RowKit Go.Joins
open Go.WideMaps Go.WideElems
open Go.ChangeMaps (open_string shut_string)
open Go.Deep Ev
theorem own:ownKnob Tryz.prog.godebug=none:=by kernel_rfl
def layV (l:List Value):Obj→Obj
 |.cells _ t frozen=>.cells l.toArray t frozen
 |o=>o
theorem starES : "*" ++ "errors.errorString" = "*errors.errorString" := by decide
theorem rowES (u : TypeId) (h : Tryz.prog.typeName? 3 u = some "*errors.errorString") : u = 411 :=
 typeName_ptr_named (nm := "errors.errorString") (by rw [starES]; kernel_rfl) (by kernel_rfl) (by decide) u (by rw [starES]; exact h)
def layErr:Obj→Obj
 |.cells _ t frozen=>.cells #[.iface 283 (.agg #[.pointer (some ⟨10,31,none⟩)])] t frozen
 |o=>o
def tab_math_bits_deBruijn32tab:List Int:= [0,1,28,2,29,14,24,3,30,22,20,15,25,17,4,8,31,27,13,23,21,19,16,7,26,12,18,6,11,5,10,9]
def tab_math_bits_deBruijn64tab:List Int:= [0,1,56,2,57,49,28,3,61,58,42,50,38,29,17,4,62,47,59,36,45,43,51,22,53,39,33,30,24,18,12,5,63,55,48,27,60,41,37,16,46,35,44,21,52,32,23,11,54,26,40,15,34,20,31,10,25,14,19,9,13,8,7,6]
def tab_internal_strconv_uint64pow10:List Int:= [1,10,100,1000,10000,100000,1000000,10000000,100000000,1000000000,10000000000,100000000000,1000000000000,10000000000000,100000000000000,1000000000000000,10000000000000000,100000000000000000,1000000000000000000,10000000000000000000]
def tab_unicode_utf8_acceptRanges:List Int:= [128,191,160,191,128,159,144,191,128,143,0,0,0,0,0,0,0,0,0,0,0,0,0,0,0,0,0,0,0,0,0,0]
theorem laidParts {W : World} (h : laidMetH Tryz.prog Rows.deskPiecesRow.laid W) : laidMet Tryz.prog [("math/bits.deBruijn32tab", Rows.laid_math_bits_deBruijn32tab), ("math/bits.deBruijn64tab", Rows.laid_math_bits_deBruijn64tab), ("internal/strconv.uint64pow10", Rows.laid_internal_strconv_uint64pow10), ("unicode/utf8.acceptRanges", Rows.laid_unicode_utf8_acceptRanges), ("strconv.ErrRange", Rows.laid_strconv_ErrRange), ("strconv.ErrSyntax", Rows.laid_strconv_ErrSyntax), ("unicode/utf8.first", Rows.laid_unicode_utf8_first)] W ∧ handlesMet Tryz.prog [("errors.errorType", Rows.laid_errors_errorType)] W := h
theorem gL_math_bits_deBruijn32tab : Tryz.prog.globalNamed "math/bits.deBruijn32tab" = some 8 := by kernel_rfl
theorem fact_math_bits_deBruijn32tab {W : World} (h : laidMetH Tryz.prog Rows.deskPiecesRow.laid W) : Lib.TabIs Tryz.prog W "math/bits.deBruijn32tab" .u8 tab_math_bits_deBruijn32tab :=
 Lib.tabIs_of_head (rest:=_) gL_math_bits_deBruijn32tab (show (Tryz.prog.globals[8]?).map (·.type)=some 414 by kernel_rfl) Tryz.underlying414 Tryz.underlying5 (by kernel_rfl) (by kernel_rfl) (laidParts h).1
theorem gL_math_bits_deBruijn64tab : Tryz.prog.globalNamed "math/bits.deBruijn64tab" = some 9 := by kernel_rfl
theorem fact_math_bits_deBruijn64tab {W : World} (h : laidMetH Tryz.prog Rows.deskPiecesRow.laid W) : Lib.TabIs Tryz.prog W "math/bits.deBruijn64tab" .u8 tab_math_bits_deBruijn64tab :=
 Lib.tabIs_of_head (rest:=_) gL_math_bits_deBruijn64tab (show (Tryz.prog.globals[9]?).map (·.type)=some 415 by kernel_rfl) Tryz.underlying415 Tryz.underlying5 (by kernel_rfl) (by kernel_rfl) (laidMet.tail (laidParts h).1)
theorem gL_internal_strconv_uint64pow10 : Tryz.prog.globalNamed "internal/strconv.uint64pow10" = some 3 := by kernel_rfl
theorem fact_internal_strconv_uint64pow10 {W : World} (h : laidMetH Tryz.prog Rows.deskPiecesRow.laid W) : Lib.TabIs Tryz.prog W "internal/strconv.uint64pow10" .u64 tab_internal_strconv_uint64pow10 :=
 Lib.tabIs_of_head (rest:=_) gL_internal_strconv_uint64pow10 (show (Tryz.prog.globals[3]?).map (·.type)=some 371 by kernel_rfl) Tryz.underlying371 Tryz.underlying183 (by kernel_rfl) (by kernel_rfl) (laidMet.tail (laidMet.tail (laidParts h).1))
theorem gL_unicode_utf8_acceptRanges : Tryz.prog.globalNamed "unicode/utf8.acceptRanges" = some 7 := by kernel_rfl
theorem gL_strconv_ErrRange : Tryz.prog.globalNamed "strconv.ErrRange" = some 5 := by kernel_rfl
theorem fact_strconv_ErrRange {W:World} (h:laidMetH Tryz.prog Rows.deskPiecesRow.laid W):∃ te pe,W.cell? ⟨5,0,none⟩=some (.iface te pe):=by
 obtain ⟨a0,s0,hv0,-,-,-⟩:=laid_sentinel (laidMet.tail (laidMet.tail (laidMet.tail (laidMet.tail (laidParts h).1)))) gL_strconv_ErrRange (show (Tryz.prog.globals[5]?).map (·.type)=some 31 by kernel_rfl) Tryz.underlying31 rowES Tryz.underlying411 Tryz.underlying413 rfl rfl Tryz.underlying9 (by kernel_rfl) (by kernel_rfl)
 have h0:=World.var?_cell gL_strconv_ErrRange hv0 0
 exact ⟨_,_,by simpa using h0⟩
theorem gL_strconv_ErrSyntax : Tryz.prog.globalNamed "strconv.ErrSyntax" = some 4 := by kernel_rfl
theorem fact_strconv_ErrSyntax {W:World} (h:laidMetH Tryz.prog Rows.deskPiecesRow.laid W):∃ te pe,W.cell? ⟨4,0,none⟩=some (.iface te pe):=by
 obtain ⟨a0,s0,hv0,-,-,-⟩:=laid_sentinel (laidMet.tail (laidMet.tail (laidMet.tail (laidMet.tail (laidMet.tail (laidParts h).1))))) gL_strconv_ErrSyntax (show (Tryz.prog.globals[4]?).map (·.type)=some 31 by kernel_rfl) Tryz.underlying31 rowES Tryz.underlying411 Tryz.underlying413 rfl rfl Tryz.underlying9 (by kernel_rfl) (by kernel_rfl)
 have h0:=World.var?_cell gL_strconv_ErrSyntax hv0 0
 exact ⟨_,_,by simpa using h0⟩
theorem gL_unicode_utf8_first : Tryz.prog.globalNamed "unicode/utf8.first" = some 6 := by kernel_rfl
theorem gErr : Tryz.prog.globalNamed "errors.errorType" = some 0 := by kernel_rfl
theorem rtRow : (Tryz.prog.cutTypes.find? (·.1 == "internal/reflectlite.rtype")).map (·.2) = some 283 := by kernel_rfl
theorem oneRow:((List.range Tryz.prog.types.size).filter fun t=>Tryz.prog.rowNamed t [101,114,114,111,114])= [31]:=by kernel_rfl
theorem fact_err {W:World} (h:laidMetH Tryz.prog Rows.deskPiecesRow.laid W):ErrVar W:=by
 obtain ⟨name,u,ty,e1,e2,e3,e4,e5⟩:=(laidParts h).2 _ (List.mem_singleton.2 rfl);have en:name= [101,114,114,111,114]:=(Option.some.inj e1).symm;subst en;obtain rfl:=Option.some.inj (rtRow.symm.trans e2);have hm:ty∈(List.range Tryz.prog.types.size).filter fun t=>Tryz.prog.rowNamed t [101,114,114,111,114]:=List.mem_filter.2 ⟨List.mem_range.2 e3,e4⟩;rw [oneRow] at hm;obtain rfl:=List.mem_singleton.1 hm;have hh:typeHandle Tryz.prog 31=.pointer (some ⟨10,31,none⟩):=by kernel_rfl
 rw [hh] at e5;have hv:=World.var?_cell gErr e5 0;unfold ErrVar;simpa using hv
theorem tab64_15:tab_math_bits_deBruijn64tab.getD 15 0=4:=by decide
theorem tab64_len:15<tab_math_bits_deBruijn64tab.length:=by decide
theorem tabPow_is:tab_internal_strconv_uint64pow10=Lib.pow10Tab:=by decide +kernel
theorem libsR {W:World} (h:laidMetH Tryz.prog Rows.deskPiecesRow.laid W) (hS:W.ShapedOpen Tryz.prog):LibsR W:=by
 have hT:=fact_math_bits_deBruijn64tab h;have hP:=fact_internal_strconv_uint64pow10 h
 have cT:=hT.cell gL_math_bits_deBruijn64tab 15 tab64_len;rw [tab64_15] at cT;have cP:=hP.cell gL_internal_strconv_uint64pow10 0 (by decide)
 have hE:=fact_err h;rw [tabPow_is] at hP;obtain ⟨t1,p1,c1⟩:=fact_strconv_ErrSyntax h
 obtain ⟨t2,p2,c2⟩:=fact_strconv_ErrRange h
 obtain ⟨m,hm⟩:=cell_of_shapedOpen_int (g:=2) (t:=3) (zero:=#[.int .i64 0]) (k:=.i64) hS (of_decide_eq_true (by kernel_rfl)) (by kernel_rfl) rfl (by kernel_rfl) (by kernel_rfl) Tryz.underlying3
 exact ⟨⟨⟨World.block_lt_of_cell? _ _ cP,World.block_lt_of_cell? _ _ cT,World.block_lt_of_cell? _ _ hE⟩,hP,cT,hE⟩,⟨World.block_lt_of_cell? _ _ hm,World.block_lt_of_cell? _ _ c1,World.block_lt_of_cell? _ _ c2⟩,⟨m,hm⟩,⟨_,c1,.inr ⟨_,_,rfl⟩⟩,⟨_,c2,.inr ⟨_,_,rfl⟩⟩⟩
theorem laidOut:laidOutB Tryz.prog=true:=by kernel_rfl
theorem longer (a b:ByteArray) (w:World) (h:2500<a.size+b.size) (ha:a.size≤140737488355328) (hb:b.size≤140737488355328) :
 Calls Tryz.prog 7 #[.string a,.string b] w fun e w'=>e=.returned (.bool true)∧Below w.heap.size w w':=by
 have hl:(2500:Int)<(a.size:Int)+(b.size:Int):=by omega
 go_enter Tryz.func7,Tryz.ntmps7
 go_wp2_with fail
 go_ret;exact ⟨rfl,Below.refl _ _⟩
theorem contract (H:Type) (enc:TypeId × Value→H) (W:World) (base:Nat) (args:Array Value) (ds gs:List (DataW H)) (before:List MemPlace)
 (hval:∀ (j:Nat) t v,Tryz.f7.params[j]?=some t→args[j]?=some v→Value.okWide Tryz.prog W .any base t v)
 (hW:DataW.Whole enc Tryz.prog Tryz.f7.params.toList Rows.deskPiecesSpec.vars false W args.toList ds gs before) (hsz0:(DataW.weightsEach Tryz.prog (Tryz.f7.params.toList ++ Rows.deskPiecesSpec.plain.varTypes Tryz.prog) (ds ++ gs)).all (·≤reachBytes)=true) (hL:LibsR W) :
 Calls Tryz.prog 7 args W fun e W'=>∃ v,e=.returned v∧Rows.deskPiecesSpec.post enc Tryz.prog Tryz.f7 false true false false W args v W':=by
 have hW':=hW;obtain ⟨p,q,hA0,hV,rfl,hfz,hnd⟩:=hW;have hA:DataW.TrodAll enc Tryz.prog W 0 (fun _=>true) true Tryz.f7.params.toList args.toList ds p:=hA0;have hsz:(DataW.weightsEach Tryz.prog (Tryz.f7.params.toList ++ Rows.deskPiecesSpec.plain.varTypes Tryz.prog) (ds ++ gs)).all (·≤reachBytes)=true:=hsz0;rw [Tryz.params7] at hA hval hsz;obtain ⟨v0,vs0,d0,ds0,p0,q0,hargs,rfl,rfl,h0,r0⟩:=trodAll_cons hA;obtain ⟨v1,vs1,d1,ds1,p1,q1,rfl,rfl,rfl,h1,r1⟩:=trodAll_cons r0;obtain ⟨rfl,rfl,rfl⟩:=trodAll_nil r1;obtain rfl:args=#[v0,v1]:=by cases args; simp_all
 obtain ⟨rfl,rfl⟩:=trodVars_none hV;obtain ⟨s0,rfl,rfl,rfl,wx0⟩:=open_string Tryz.underlying9 (hval 0 9 v0 rfl rfl) h0;obtain ⟨s,rfl,rfl,rfl,wx1⟩:=open_string Tryz.underlying9 (hval 1 9 v1 rfl rfl) h1;have z0:s0.data.toList.length≤reachBytes:=sized_string hsz (j:=0) (t:=9) rfl rfl;have z1:s.data.toList.length≤reachBytes:=sized_string hsz (j:=1) (t:=9) rfl rfl;rw [Array.length_toList] at z0 z1;have hr:reachBytes≤140737488355328:=by decide
 clear hA0 hA;simp only [List.append_nil] at hW'
 have fin:∀ W':World,Below W.heap.size W W'→∃ v,Ending.returned (.bool true)=.returned v∧Rows.deskPiecesSpec.post enc Tryz.prog Tryz.f7 false true false false W #[.string s0,.string s] v W':=by
  intro W' hb;refine ⟨_,rfl,_,_,_,[],[],[],hW',?_,?_,?_,hb.frame _,fun h=>by cases h⟩
  ·exact trodAll_cons_mk (shut_bool Tryz.underlying4 _) trodAll_mk0
  ·exact trodAll_cons_mk (shut_string Tryz.underlying9 wx0) (trodAll_cons_mk (shut_string Tryz.underlying9 wx1) trodAll_mk0)
  ·rfl
 by_cases hlong:2500<s0.size+s.size
 ·refine (longer s0 s W hlong (Nat.le_trans z0 hr) (Nat.le_trans z1 hr)).mono fun e W' ⟨he,hw⟩=>?_
  subst he;exact fin _ hw
 ·refine (deskPiecesLaw s0 s W (by omega) hL ⟨hL.base.big,hL.big⟩).mono fun e W' ⟨he,hb⟩=>?_
  subst he;exact fin _ hb
def wargs:Array Value:=#[.string ⟨#[]⟩,.string ⟨#[]⟩]
theorem laid_met (os:Os):laidMetH Tryz.prog Rows.deskPiecesRow.laid (({ World.holding Tryz.prog os ⟨#[.cells #[.string ⟨#[118,97,108,117,101,32,111,117,116,32,111,102,32,114,97,110,103,101]⟩] 413,.cells #[.string ⟨#[105,110,118,97,108,105,100,32,115,121,110,116,97,120]⟩] 413],#[],[]⟩ with heap:=(((((((((World.holding Tryz.prog os ⟨#[.cells #[.string ⟨#[118,97,108,117,101,32,111,117,116,32,111,102,32,114,97,110,103,101]⟩] 413,.cells #[.string ⟨#[105,110,118,97,108,105,100,32,115,121,110,116,97,120]⟩] 413],#[],[]⟩).heap.modify 8 (layV (tab_math_bits_deBruijn32tab.map (Value.int .u8)))).modify 9 (layV (tab_math_bits_deBruijn64tab.map (Value.int .u8)))).modify 3 (layV (tab_internal_strconv_uint64pow10.map (Value.int .u64)))).modify 7 (layV (tab_unicode_utf8_acceptRanges.map (Value.int .u8)))).modify 0 layErr).modify 5 (layV [.iface 411 (.pointer (some ⟨(World.settled Tryz.prog os).heap.size+0,0,none⟩))])).modify 4 (layV [.iface 411 (.pointer (some ⟨(World.settled Tryz.prog os).heap.size+1,0,none⟩))])).modify 6 (layV (Go.Pinned.utf8FirstZ.map fun (n:Nat)=>Value.int .u8 (n:Int)))) }:World).forCall (fun _ _=>0) ⟨#[],wargs,[]⟩).memory:=laidMetH_of_parts (laidMet_of_run' 8 (by kernel_rfl) (by kernel_rfl)) (by kernel_rfl)
theorem reads (os:Os) {H:Type} (enc:TypeId × Value→H):∃ places,DataW.whole enc Tryz.prog (({ World.holding Tryz.prog os ⟨#[.cells #[.string ⟨#[118,97,108,117,101,32,111,117,116,32,111,102,32,114,97,110,103,101]⟩] 413,.cells #[.string ⟨#[105,110,118,97,108,105,100,32,115,121,110,116,97,120]⟩] 413],#[],[]⟩ with heap:=(((((((((World.holding Tryz.prog os ⟨#[.cells #[.string ⟨#[118,97,108,117,101,32,111,117,116,32,111,102,32,114,97,110,103,101]⟩] 413,.cells #[.string ⟨#[105,110,118,97,108,105,100,32,115,121,110,116,97,120]⟩] 413],#[],[]⟩).heap.modify 8 (layV (tab_math_bits_deBruijn32tab.map (Value.int .u8)))).modify 9 (layV (tab_math_bits_deBruijn64tab.map (Value.int .u8)))).modify 3 (layV (tab_internal_strconv_uint64pow10.map (Value.int .u64)))).modify 7 (layV (tab_unicode_utf8_acceptRanges.map (Value.int .u8)))).modify 0 layErr).modify 5 (layV [.iface 411 (.pointer (some ⟨(World.settled Tryz.prog os).heap.size+0,0,none⟩))])).modify 4 (layV [.iface 411 (.pointer (some ⟨(World.settled Tryz.prog os).heap.size+1,0,none⟩))])).modify 6 (layV (Go.Pinned.utf8FirstZ.map fun (n:Nat)=>Value.int .u8 (n:Int)))) }:World).forCall (fun _ _=>0) ⟨#[],wargs,[]⟩).memory Tryz.f7.params.toList Rows.deskPiecesSpec.vars false wargs.toList 8=some ([.lit (.string []),.lit (.string [])],[],places):=
 ⟨[],by kernel_rfl⟩
theorem lifted (os:Os) (started:os.Started) (H:Type) (enc:TypeId × Value→H) (X:Stop.Interp) :
 ReturnsInHanded {} Tryz.checked os 7 .any ((OpenSpec.ofChange Rows.deskPiecesSpec).preRow enc Tryz.prog Tryz.f7 Rows.deskPiecesRow.domain false Rows.deskPiecesRow.laid) (((OpenSpec.ofChange Rows.deskPiecesSpec).at X).post enc Tryz.prog Tryz.f7 false true false false):=by
 obtain ⟨places,hx⟩:=reads os enc
 refine returnsInHanded_of_row (C:=Tryz.checked) (s:=OpenSpec.ofChange Rows.deskPiecesSpec) own started (by kernel_rfl) Tryz.func7
  (witness_row_atRef (enc:=enc) (C:=Tryz.checked) false ({ World.holding Tryz.prog os ⟨#[.cells #[.string ⟨#[118,97,108,117,101,32,111,117,116,32,111,102,32,114,97,110,103,101]⟩] 413,.cells #[.string ⟨#[105,110,118,97,108,105,100,32,115,121,110,116,97,120]⟩] 413],#[],[]⟩ with heap:=(((((((((World.holding Tryz.prog os ⟨#[.cells #[.string ⟨#[118,97,108,117,101,32,111,117,116,32,111,102,32,114,97,110,103,101]⟩] 413,.cells #[.string ⟨#[105,110,118,97,108,105,100,32,115,121,110,116,97,120]⟩] 413],#[],[]⟩).heap.modify 8 (layV (tab_math_bits_deBruijn32tab.map (Value.int .u8)))).modify 9 (layV (tab_math_bits_deBruijn64tab.map (Value.int .u8)))).modify 3 (layV (tab_internal_strconv_uint64pow10.map (Value.int .u64)))).modify 7 (layV (tab_unicode_utf8_acceptRanges.map (Value.int .u8)))).modify 0 layErr).modify 5 (layV [.iface 411 (.pointer (some ⟨(World.settled Tryz.prog os).heap.size+0,0,none⟩))])).modify 4 (layV [.iface 411 (.pointer (some ⟨(World.settled Tryz.prog os).heap.size+1,0,none⟩))])).modify 6 (layV (Go.Pinned.utf8FirstZ.map fun (n:Nat)=>Value.int .u8 (n:Int)))) }:World) wargs rfl (by kernel_rfl) (by kernel_rfl) (by kernel_rfl)
   (OpenSpec.preRow_of_cond 8 hx (by kernel_rfl) (fun k hk=>by cases hk) (by kernel_rfl) (laid_met os))) ?_
 intro W base args ds gs before hval hW _ _ hsz hL hS _;exact contract H enc W base args ds gs before hval hW hsz (libsR hL hS)
theorem said:Rows.DeskPiecesSaid:=
 OpenClaim.holds_of_wide_leaving 7 Tryz.f7 rfl rfl rfl rfl rfl rfl rfl ⟨rfl,rfl,rfl,rfl,rfl⟩ rfl rfl rfl rfl rfl (by kernel_rfl) Tryz.func7 closed
  (of_decide_eq_true (by kernel_rfl)) (by unfold Func.isWrapper; rw [if_neg (of_decide_eq_false (by kernel_rfl))]; exact ⟨rfl,rfl⟩)
  (fun os started H enc _=>by rw [OpenClaim.pre_eq_preRow]; exact leaving_of_handed (lifted os started H enc (fun _ _ _=>0)))
theorem plain (f : FuncId) (fn : Func) (hf : Tryz.pinned.checked.prog.funcNamed "rotor/rotorkeep.DeskPieces" = some f) (hfn : Tryz.pinned.checked.prog.funcs[f]? = some fn) :
 true=Tryz.pinned.checked.prog.looks []∧∀ (j:Nat) t,fn.params[j]?=some t→Tryz.pinned.checked.prog.wantsStandIn t=false:=by
 obtain rfl : f = 7 := Option.some.inj ((show Tryz.prog.funcNamed "rotor/rotorkeep.DeskPieces" = some 7 by kernel_rfl).symm.trans hf) |>.symm
 obtain rfl:fn=Tryz.f7:=(Option.some.inj (Tryz.func7.symm.trans hfn)).symm;refine ⟨by kernel_rfl,fun j t ht=>?_⟩
 rw [Tryz.params7] at ht;have hm:=Array.mem_of_getElem? ht;simp at hm
 rcases hm with rfl | rfl <;> exact (show Tryz.prog.wantsStandIn 9=false by kernel_rfl)
theorem card:Rows.DeskPiecesCardSaid:=
 tied_goes .later _ _ _ _ said (by kernel_rfl) deskPieces_row_tie rfl ⟨rfl,rfl⟩ (by kernel_rfl) rfl plain goesIt
end Go.Proofs.YtlailakofhenkabGreatDoor.deskPiecesProof
