/- For every text: the law DeskAnswers (promise 8.1) returns true, with no panic, and changes nothing that it was given (of a text of 4,001 to 20,000 bytes, and of one of more than 30,000, the law itself says nothing). Conditions: none beside the row's own (the library's listed variables, and the document's map of forms, hold what the program's text lays; the card ties them). -/
import Derived.Test.YtlailakofhenkabGreatDoorB44
import Derived.Test.YtlailakofhenkabGreatDoorB45
import Derived.Test.YtlailakofhenkabGreatDoorB46
import Derived.Test.YtlailakofhenkabGreatDoorCards
import Derived.Test.YtlailakofhenkabGreatDoorTie
import Derived.Test.YtlailakofhenkabGreatDoorB48
import Derived.Deep.Slices
import Derived.Deep.Strs
import Derived.ProofKit
import Derived.OpenShut
import Derived.Lib.SmallJoins
import Derived.Deep.DeepHandedRow
import Derived.Deep.DeepWitnessRowRef
import Derived.Lib.LaidTab
import Derived.LaidHandle
import Derived.Stop.LaidErr
import Derived.Shelf.Vars
import Derived.SizedLaws
import Derived.Test.YtlailakofhenkabGreatDoorB1
set_option maxRecDepth 100000
namespace Go.Proofs.YtlailakofhenkabGreatDoor.deskAnswersProof
open Go.ChangeShapes Go.WideShapes Go.ChangeAt Go.RowKit Go.Joins
open Go.WideMaps Go.WideElems
open Go.ChangeMaps (open_string shut_string)
open Go.Deep Ev
theorem own:ownKnob Tryz.prog.godebug=none:=by kernel_rfl
def tG(l:List Value):Obj->Obj
 |.cells _ t frozen=>.cells l.toArray t frozen
 |o=>o
theorem A8: "*" ++ "errors.errorString" = "*errors.errorString" := by decide
theorem CR(u : TypeId)(h : Tryz.prog.typeName? 3 u = some "*errors.errorString"): u = 411 :=
 typeName_ptr_named (nm := "errors.errorString") (by rw[A8]; kernel_rfl) (by kernel_rfl) (by decide) u (by rw[A8]; exact h)
def DF:Obj->Obj
 |.cells _ t frozen=>.cells #[.iface 283 (.agg #[.pointer (some ⟨10,31,none⟩)])] t frozen
 |o=>o
def tab_math_bits_deBruijn32tab:List Int:= [0,1,28,2,29,14,24,3,30,22,20,15,25,17,4,8,31,27,13,23,21,19,16,7,26,12,18,6,11,5,10,9]
def tab_math_bits_deBruijn64tab:List Int:= [0,1,56,2,57,49,28,3,61,58,42,50,38,29,17,4,62,47,59,36,45,43,51,22,53,39,33,30,24,18,12,5,63,55,48,27,60,41,37,16,46,35,44,21,52,32,23,11,54,26,40,15,34,20,31,10,25,14,19,9,13,8,7,6]
def tab_internal_strconv_uint64pow10:List Int:= [1,10,100,1000,10000,100000,1000000,10000000,100000000,1000000000,10000000000,100000000000,1000000000000,10000000000000,100000000000000,1000000000000000,10000000000000000,100000000000000000,1000000000000000000,10000000000000000000]
def eB:List Int:= [128,191,160,191,128,159,144,191,128,143,0,0,0,0,0,0,0,0,0,0,0,0,0,0,0,0,0,0,0,0,0,0]
theorem ek{W : World}(h : laidMetH Tryz.prog Rows.deskAnswersRow.laid W): laidMet Tryz.prog [("math/bits.deBruijn32tab", Rows.laid_math_bits_deBruijn32tab), ("math/bits.deBruijn64tab", Rows.laid_math_bits_deBruijn64tab), ("internal/strconv.uint64pow10", Rows.laid_internal_strconv_uint64pow10), ("unicode/utf8.acceptRanges", Rows.laid_unicode_utf8_acceptRanges), ("strconv.ErrRange", Rows.laid_strconv_ErrRange), ("strconv.ErrSyntax", Rows.laid_strconv_ErrSyntax), ("rotor/rotorref.forms", Rows.laid_rotor_rotorref_forms), ("unicode/utf8.first", Rows.laid_unicode_utf8_first)] W ∧ handlesMet Tryz.prog [("errors.errorType", Rows.laid_errors_errorType)] W := h
theorem fo: Tryz.prog.globalNamed "math/bits.deBruijn32tab" = some 8 := by kernel_rfl
theorem lr{W : World}(h : laidMetH Tryz.prog Rows.deskAnswersRow.laid W): Lib.TabIs Tryz.prog W "math/bits.deBruijn32tab" .u8 tab_math_bits_deBruijn32tab :=
 Lib.tabIs_of_head (rest:=_) fo (show (Tryz.prog.globals[8]?).map (·.type)=some 414 by kernel_rfl) Tryz.underlying414 Tryz.underlying5 (by kernel_rfl) (by kernel_rfl) (ek h).1
theorem dj: Tryz.prog.globalNamed "math/bits.deBruijn64tab" = some 9 := by kernel_rfl
theorem eE{W : World}(h : laidMetH Tryz.prog Rows.deskAnswersRow.laid W): Lib.TabIs Tryz.prog W "math/bits.deBruijn64tab" .u8 tab_math_bits_deBruijn64tab :=
 Lib.tabIs_of_head (rest:=_) dj (show (Tryz.prog.globals[9]?).map (·.type)=some 415 by kernel_rfl) Tryz.underlying415 Tryz.underlying5 (by kernel_rfl) (by kernel_rfl) (laidMet.tail (ek h).1)
theorem cK: Tryz.prog.globalNamed "internal/strconv.uint64pow10" = some 3 := by kernel_rfl
theorem dH{W : World}(h : laidMetH Tryz.prog Rows.deskAnswersRow.laid W): Lib.TabIs Tryz.prog W "internal/strconv.uint64pow10" .u64 tab_internal_strconv_uint64pow10 :=
 Lib.tabIs_of_head (rest:=_) cK (show (Tryz.prog.globals[3]?).map (·.type)=some 371 by kernel_rfl) Tryz.underlying371 Tryz.underlying183 (by kernel_rfl) (by kernel_rfl) (laidMet.tail (laidMet.tail (ek h).1))
theorem lu: Tryz.prog.globalNamed "unicode/utf8.acceptRanges" = some 7 := by kernel_rfl
theorem eG: Tryz.prog.globalNamed "strconv.ErrRange" = some 5 := by kernel_rfl
theorem gU{W:World}(h:laidMetH Tryz.prog Rows.deskAnswersRow.laid W):∃te pe,W.cell? ⟨5,0,none⟩=some (.iface te pe):=by
 obtain⟨a0,s0,hv0,-,-,-⟩:=laid_sentinel (laidMet.tail (laidMet.tail (laidMet.tail (laidMet.tail (ek h).1)))) eG (show (Tryz.prog.globals[5]?).map (·.type)=some 31 by kernel_rfl) Tryz.underlying31 CR Tryz.underlying411 Tryz.underlying413 rfl rfl Tryz.underlying9 (by kernel_rfl) (by kernel_rfl)
 have b:=World.var?_cell eG hv0 0
 exact⟨_,_,by simpa using b⟩
theorem eC: Tryz.prog.globalNamed "strconv.ErrSyntax" = some 4 := by kernel_rfl
theorem gO{W:World}(h:laidMetH Tryz.prog Rows.deskAnswersRow.laid W):∃te pe,W.cell? ⟨4,0,none⟩=some (.iface te pe):=by
 obtain⟨a0,s0,hv0,-,-,-⟩:=laid_sentinel (laidMet.tail (laidMet.tail (laidMet.tail (laidMet.tail (laidMet.tail (ek h).1))))) eC (show (Tryz.prog.globals[4]?).map (·.type)=some 31 by kernel_rfl) Tryz.underlying31 CR Tryz.underlying411 Tryz.underlying413 rfl rfl Tryz.underlying9 (by kernel_rfl) (by kernel_rfl)
 have b:=World.var?_cell eC hv0 0
 exact⟨_,_,by simpa using b⟩
theorem o8: Tryz.prog.globalNamed "rotor/rotorref.forms" = some 1 := by kernel_rfl
theorem fq{W:World}(h:laidMetH Tryz.prog Rows.deskAnswersRow.laid W):∃gm,bo W gm:=qz (laidMet.tail (laidMet.tail (laidMet.tail (laidMet.tail (laidMet.tail (laidMet.tail (ek h).1))))))
theorem qA: Tryz.prog.globalNamed "unicode/utf8.first" = some 6 := by kernel_rfl
theorem Ec: Tryz.prog.globalNamed "errors.errorType" = some 0 := by kernel_rfl
theorem D1: (Tryz.prog.cutTypes.find? (·.1 == "internal/reflectlite.rtype")).map (·.2) = some 283 := by kernel_rfl
theorem DG:((List.range Tryz.prog.types.size).filter fun t=>Tryz.prog.rowNamed t [101,114,114,111,114])= [31]:=by kernel_rfl
theorem A9{W:World}(h:laidMetH Tryz.prog Rows.deskAnswersRow.laid W):ErrVar W:=by
 obtain⟨name,u,ty,e1,e2,e3,e4,e5⟩:=(ek h).2 _ (List.mem_singleton.2 rfl);have c:name= [101,114,114,111,114]:=(Option.some.inj e1).symm;subst c;obtain rfl:=Option.some.inj (D1.symm.trans e2);have b:ty∈(List.range Tryz.prog.types.size).filter fun t=>Tryz.prog.rowNamed t [101,114,114,111,114]:=List.mem_filter.2 ⟨List.mem_range.2 e3,e4⟩;rw[DG] at b;obtain rfl:=List.mem_singleton.1 b;have f:typeHandle Tryz.prog 31=p_ 10 31:=by kernel_rfl
 rw[f] at e5;have g:=World.var?_cell Ec e5 0;unfold ErrVar;simpa using g
abbrev wBlk_:Input:=⟨#[.cells #[.string ⟨#[118,97,108,117,101,32,111,117,116,32,111,102,32,114,97,110,103,101]⟩] 413,.cells #[.string ⟨#[105,110,118,97,108,105,100,32,115,121,110,116,97,120]⟩] 413,.map #[⟨.string ⟨#[99,117,116]⟩,.string ⟨#[110]⟩,0⟩,⟨.string ⟨#[102,97,109,105,108,105,101,115]⟩,.string ⟨#[]⟩,1⟩,⟨.string ⟨#[103,114,97,110,116]⟩,.string ⟨#[119,119,119]⟩,2⟩,⟨.string ⟨#[104,101,108,112]⟩,.string ⟨#[]⟩,3⟩,⟨.string ⟨#[107,105,108,108]⟩,.string ⟨#[110]⟩,4⟩,⟨.string ⟨#[108,101,97,115,116]⟩,.string ⟨#[119]⟩,5⟩,⟨.string ⟨#[108,111,103]⟩,.string ⟨#[]⟩,6⟩,⟨.string ⟨#[109,105,110,116]⟩,.string ⟨#[119]⟩,7⟩,⟨.string ⟨#[110,101,119]⟩,.string ⟨#[110,110,110,110]⟩,8⟩,⟨.string ⟨#[111,112,101,110]⟩,.string ⟨#[]⟩,9⟩,⟨.string ⟨#[114,111,116,97,116,101]⟩,.string ⟨#[119,119,119]⟩,10⟩,⟨.string ⟨#[115,97,118,101]⟩,.string ⟨#[]⟩,11⟩,⟨.string ⟨#[115,104,111,119]⟩,.string ⟨#[119]⟩,12⟩,⟨.string ⟨#[115,119,101,101,112]⟩,.string ⟨#[]⟩,13⟩,⟨.string ⟨#[116,97,103]⟩,.string ⟨#[110,119]⟩,14⟩,⟨.string ⟨#[116,105,99,107]⟩,.string ⟨#[110]⟩,15⟩,⟨.string ⟨#[116,111,107,101,110]⟩,.string ⟨#[119,110,110,110]⟩,16⟩,⟨.string ⟨#[119,114,105,116,101,115]⟩,.string ⟨#[]⟩,17⟩] 18],#[],[]⟩
theorem Ba:tab_math_bits_deBruijn64tab.getD 15 0=4:=by decide
theorem yt:15<tab_math_bits_deBruijn64tab.length:=by decide
theorem yu:tab_internal_strconv_uint64pow10=Lib.pow10Tab:=by decide +kernel
theorem D2{W:World}(h:laidMetH Tryz.prog Rows.deskAnswersRow.laid W)(hS:W.ShapedOpen Tryz.prog):av W:=by
 have j:=eE h;have b:=dH h
 have c:=j.cell dj 15 yt;rw[Ba] at c;have n:=b.cell cK 0 (by decide)
 have f:=A9 h;rw[yu] at b;obtain⟨t1,p1,c1⟩:=gO h
 obtain⟨t2,p2,c2⟩:=gU h
 obtain⟨m,hm⟩:=cell_of_shapedOpen_int (g:=2) (t:=3) (zero:=#[.i_ 0]) (k:=.i64) hS (of_decide_eq_true (by kernel_rfl)) (by kernel_rfl) rfl (by kernel_rfl) (by kernel_rfl) Tryz.underlying3
 exact⟨⟨⟨Fc _ _ n,Fc _ _ c,Fc _ _ f⟩,b,c,f⟩,⟨Fc _ _ hm,Fc _ _ c1,Fc _ _ c2⟩,⟨m,hm⟩,⟨_,c1,.inr ⟨_,_,rfl⟩⟩,⟨_,c2,.inr ⟨_,_,rfl⟩⟩⟩
theorem D4:laidOutB Tryz.prog=true:=by kernel_rfl
theorem contract(H:Type)(enc:TypeId × Value->H)(W:World)(base:Nat)(args:Array Value)(ds gs:List (DataW H))(before:List MemPlace)(hval:∀(j:Nat) t v,Tryz.f8.params[j]?=some t->args[j]?=some v->Value.okWide Tryz.prog W .any base t v)(hW:DataW.Whole enc Tryz.prog Tryz.f8.params.toList Rows.deskAnswersSpec.vars false W args.toList ds gs before)(hsz0:(DataW.weightsEach Tryz.prog (Tryz.f8.params.toList ++ Rows.deskAnswersSpec.plain.varTypes Tryz.prog) (ds ++ gs)).all (·<=reachBytes)=true)(hL:av W)(hF:∃gm,bo W gm):
 Calls Tryz.prog 8 args W fun e W'=>∃v,e=.returned v∧Rows.deskAnswersSpec.post enc Tryz.prog Tryz.f8 false true false false W args v W':=by
 have c:=hW;obtain⟨p,q,hA0,hV,rfl,hfz,hnd⟩:=hW;have g:DataW.TrodAll enc Tryz.prog W 0 (fun _=>true) true Tryz.f8.params.toList args.toList ds p:=hA0;have f:(DataW.weightsEach Tryz.prog (Tryz.f8.params.toList ++ Rows.deskAnswersSpec.plain.varTypes Tryz.prog) (ds ++ gs)).all (·<=reachBytes)=true:=hsz0;rw[Tryz.params8] at g hval f;obtain⟨v0,vs0,d0,ds0,p0,q0,hargs,rfl,rfl,h0,r0⟩:=trodAll_cons g;obtain⟨rfl,rfl,rfl⟩:=trodAll_nil r0;obtain rfl:args=#[v0]:=by cases args; simp_all
 obtain⟨rfl,rfl⟩:=trodVars_none hV;obtain⟨s0,rfl,rfl,rfl,wx0⟩:=open_string Tryz.underlying9 (hval 0 9 v0 rfl rfl) h0;have k:s0.data.toList.length<=reachBytes:=sized_string f (j:=0) (t:=9) rfl rfl;rw[Array.length_toList] at k;have m:reachBytes<=140737488355328:=by decide
 simp only[List.append_nil] at c
 have b:∀W':World,Below W.heap.size W W'->∃v,Ending.returned (.bool true)=.returned v∧Rows.deskAnswersSpec.post enc Tryz.prog Tryz.f8 false true false false W #[.string s0] v W':=by
  intro W' hb;refine⟨_,rfl,_,_,_,[],[],[],c,?_,?_,?_,hb.frame _,fun h=>by cases h⟩
  ·exact trodAll_cons_mk (shut_bool Tryz.underlying4 _) trodAll_mk0
  ·exact trodAll_cons_mk (shut_string Tryz.underlying9 wx0) trodAll_mk0
  ·rfl
 obtain⟨gm,hF⟩:=hF;by_cases h1:s0.size<=4000
 ·refine (ni s0 W gm h1 hF hL ⟨hL.base.big,hL.big⟩).mono fun e W' ⟨he,hb⟩=>?_
  subst he;exact b _ hb
 ·by_cases h2:20000<s0.size∧s0.size<=30000
  ·refine (ln s0 W h2.1 h2.2 hL).mono fun e W' ⟨he,hb⟩=>?_
   subst he;exact b _ hb
  ·refine (lq s0 W (by omega) (Fe k m)).mono fun e W' ⟨he,hb⟩=>?_
   subst he;exact b _ hb
def wm:Array Value:=#[.string ⟨#[]⟩]
theorem Bb(os:Os):laidMetH Tryz.prog Rows.deskAnswersRow.laid (({ World.holding Tryz.prog os wBlk_ with heap:=((((((((((World.holding Tryz.prog os wBlk_).heap.modify 8 (tG (tab_math_bits_deBruijn32tab.map (Value.int .u8)))).modify 9 (tG (tab_math_bits_deBruijn64tab.map (Value.int .u8)))).modify 3 (tG (tab_internal_strconv_uint64pow10.map (Value.int .u64)))).modify 7 (tG (eB.map (Value.int .u8)))).modify 0 DF).modify 5 (tG [.iface 411 (.pointer (some ⟨(World.settled Tryz.prog os).heap.size+0,0,none⟩))])).modify 4 (tG [.iface 411 (.pointer (some ⟨(World.settled Tryz.prog os).heap.size+1,0,none⟩))])).modify 1 (tG [.map (some ((World.settled Tryz.prog os).heap.size+2))])).modify 6 (tG (Go.Pinned.utf8FirstZ.map fun (n:Nat)=>Value.int .u8 (n:Int)))) }:World).forCall (fun _ _=>0) ⟨#[],wm,[]⟩).memory:=laidMetH_of_parts (laidMet_of_run' 8 (by kernel_rfl) (by kernel_rfl)) (by kernel_rfl)
theorem D3(os:Os){H:Type}(enc:TypeId × Value->H):∃places,DataW.whole enc Tryz.prog (({ World.holding Tryz.prog os wBlk_ with heap:=((((((((((World.holding Tryz.prog os wBlk_).heap.modify 8 (tG (tab_math_bits_deBruijn32tab.map (Value.int .u8)))).modify 9 (tG (tab_math_bits_deBruijn64tab.map (Value.int .u8)))).modify 3 (tG (tab_internal_strconv_uint64pow10.map (Value.int .u64)))).modify 7 (tG (eB.map (Value.int .u8)))).modify 0 DF).modify 5 (tG [.iface 411 (.pointer (some ⟨(World.settled Tryz.prog os).heap.size+0,0,none⟩))])).modify 4 (tG [.iface 411 (.pointer (some ⟨(World.settled Tryz.prog os).heap.size+1,0,none⟩))])).modify 1 (tG [.map (some ((World.settled Tryz.prog os).heap.size+2))])).modify 6 (tG (Go.Pinned.utf8FirstZ.map fun (n:Nat)=>Value.int .u8 (n:Int)))) }:World).forCall (fun _ _=>0) ⟨#[],wm,[]⟩).memory Tryz.f8.params.toList Rows.deskAnswersSpec.vars false wm.toList 8=some ([.lit (.string [])],[],places):=
 ⟨[],by kernel_rfl⟩
theorem lifted(os:Os)(started:os.Started)(H:Type)(enc:TypeId × Value->H)(X:Stop.Interp):
 ReturnsInHanded {} Tryz.checked os 8 .any ((OpenSpec.ofChange Rows.deskAnswersSpec).preRow enc Tryz.prog Tryz.f8 Rows.deskAnswersRow.domain false Rows.deskAnswersRow.laid) (((OpenSpec.ofChange Rows.deskAnswersSpec).at X).post enc Tryz.prog Tryz.f8 false true false false):=by
 obtain⟨places,hx⟩:=D3 os enc
 refine returnsInHanded_of_row (C:=Tryz.checked) (s:=OpenSpec.ofChange Rows.deskAnswersSpec) own started (by kernel_rfl) Tryz.func8
  (witness_row_atRef (enc:=enc) (C:=Tryz.checked) false ({ World.holding Tryz.prog os wBlk_ with heap:=((((((((((World.holding Tryz.prog os wBlk_).heap.modify 8 (tG (tab_math_bits_deBruijn32tab.map (Value.int .u8)))).modify 9 (tG (tab_math_bits_deBruijn64tab.map (Value.int .u8)))).modify 3 (tG (tab_internal_strconv_uint64pow10.map (Value.int .u64)))).modify 7 (tG (eB.map (Value.int .u8)))).modify 0 DF).modify 5 (tG [.iface 411 (.pointer (some ⟨(World.settled Tryz.prog os).heap.size+0,0,none⟩))])).modify 4 (tG [.iface 411 (.pointer (some ⟨(World.settled Tryz.prog os).heap.size+1,0,none⟩))])).modify 1 (tG [.map (some ((World.settled Tryz.prog os).heap.size+2))])).modify 6 (tG (Go.Pinned.utf8FirstZ.map fun (n:Nat)=>Value.int .u8 (n:Int)))) }:World) wm rfl (by kernel_rfl) (by kernel_rfl) (by kernel_rfl)
   (OpenSpec.preRow_of_cond 8 hx (by kernel_rfl) (fun k hk=>by cases hk) (by kernel_rfl) (Bb os))) ?_
 intro W base args ds gs before hval hW _ _ hsz hL hS _
 exact contract H enc W base args ds gs before hval hW hsz (D2 hL hS) (fq hL)
theorem said:Rows.DeskAnswersSaid:=
 OpenClaim.holds_of_wide_leaving 8 Tryz.f8 rfl rfl rfl rfl rfl rfl rfl ⟨rfl,rfl,rfl,rfl,rfl⟩ rfl rfl rfl rfl rfl (by kernel_rfl) Tryz.func8 DE
  (of_decide_eq_true (by kernel_rfl)) (by unfold Func.isWrapper; rw[if_neg (of_decide_eq_false (by kernel_rfl))]; exact⟨rfl,rfl⟩)
  (fun os started H enc _=>by rw[OpenClaim.pre_eq_preRow]; exact jX (lifted os started H enc (fun _ _ _=>0)))
theorem plain(f : FuncId)(fn : Func)(hf : Tryz.pinned.checked.prog.funcNamed "rotor/rotorlaw.DeskAnswers" = some f)(hfn : Tryz.pinned.checked.prog.funcs[f]? = some fn):
 true=Tryz.pinned.checked.prog.looks []∧∀(j:Nat) t,fn.params[j]?=some t->Tryz.pinned.checked.prog.wantsStandIn t=false:=by
 obtain rfl : f = 8 := Option.some.inj ((show Tryz.prog.funcNamed "rotor/rotorlaw.DeskAnswers" = some 8 by kernel_rfl).symm.trans hf) |>.symm
 obtain rfl:fn=Tryz.f8:=(Option.some.inj (Tryz.func8.symm.trans hfn)).symm;refine⟨by kernel_rfl,fun j t ht=>?_⟩
 rw[Tryz.params8] at ht;have b:=Array.mem_of_getElem? ht;simp at b
 subst b;exact (show Tryz.prog.wantsStandIn 9=false by kernel_rfl)
theorem card:Rows.DeskAnswersCardSaid:=
 yr .later _ _ _ _ said (by kernel_rfl) deskAnswers_row_tie rfl ⟨rfl,rfl⟩ (by kernel_rfl) rfl plain DD
end Go.Proofs.YtlailakofhenkabGreatDoor.deskAnswersProof





