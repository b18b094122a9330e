import Derived.Test.YtlailakofhenkabGreatDoorB7
set_option maxHeartbeats 8000000
set_option maxRecDepth 100000
namespace Go.Proofs.YtlailakofhenkabGreatDoor
open Go Go.RowKit Tok Sc Ev
abbrev bs8 (l:List UInt8):ByteArray:=⟨l.toArray⟩
theorem wordOf_is (s:ByteArray) (w:World):Calls Tryz.prog 187 #[.string s] w fun e w'=>e=.returned (.string (bs8 (wordL s.data.toList)))∧w'=w:=by
 by_cases h:s.data.toList= []
 ·have he:s.toList.isEmpty=true:=by rw [ByteArray.toList_eq,h]; rfl
  have HW:Hid (wordL s.data.toList= [95]):=by show _=_; rw [h]; rfl
  clear h;go_enter Tryz.func187,Tryz.ntmps187
  go_wp2_with fail
  go_ret;exact ⟨by rw [HW.out]; rfl,rfl⟩
 ·have he:s.toList.isEmpty=false:=by rw [ByteArray.toList_eq,List.isEmpty_eq_false_iff]; exact h
  have HW:Hid (wordL s.data.toList=s.data.toList):=if_neg h;clear h;go_enter Tryz.func187,Tryz.ntmps187
  go_wp2_with fail
  go_ret;exact ⟨by rw [HW.out]; rfl,rfl⟩
theorem lifeWord_is (d:Bool) (w:World):Calls Tryz.prog 188 #[.bool d] w fun e w'=>e=.returned (.string (bs8 (lifeL d)))∧w'=w:=by
 cases d
 ·go_enter Tryz.func188,Tryz.ntmps188
  go_wp2_with fail
  go_ret;exact ⟨rfl,rfl⟩
 ·go_enter Tryz.func188,Tryz.ntmps188
  go_wp2_with fail
  go_ret;exact ⟨rfl,rfl⟩
def WordsAt (w:World) (g:Nat) (xs:List ByteArray):Prop:=g<w.heap.size∧∀ (j:Nat) x,xs[j]?=some x→w.cell? ⟨g,0+j,none⟩=some (.string x)
theorem wordsAt_new (w:World) (xs:List ByteArray) (t:TypeId):WordsAt (w.alloc (.cells (xs.map Value.string).toArray t)) w.heap.size xs:=by
 refine ⟨by simp,fun j x hj=>?_⟩
 rw [World.cell?_alloc_at _ _ _ _ rfl];simp [hj]
theorem words_1 (f:Fam) (w:World) (h:mayF f) (hL:LibsE w):Calls Tryz.prog 115 #[evV ⟨1,f,0,0⟩] w fun e w'=>∃ g,e=.returned (.slice (some ⟨g,0,none⟩) 10 10)∧WordsAt w' g ((putWs f).map bs8)∧Below w.heap.size w w':=by
 obtain ⟨⟨h1,h5,h6,h7⟩,_⟩:=h;have i1:=fun (W:World) (hW:LibsE W)=>itoaE_is f.id W h1.1 (by have:=h1.2; omega) hW
 have i5:=fun (W:World) (hW:LibsE W)=>itoaE_is f.gen W h5.1 (by have:=h5.2; omega) hW
 have i6:=fun (W:World) (hW:LibsE W)=>itoaE_is f.made W h6.1 (by have:=h6.2; omega) hW
 have i7:=fun (W:World) (hW:LibsE W)=>itoaE_is f.used W h7.1 (by have:=h7.2; omega) hW
 clear h1 h5 h6 h7;obtain ⟨f1,f2,f3,f4,f5,f6,f7,f8,f9⟩:=f;simp only at i1 i5 i6 i7
 have HBD:Hid (Below w.heap.size w ((w.alloc (.cells #[.int .i64 1,.int .i64 f1,.string f2,.string f3,.string f4,.int .i64 f5,.int .i64 f6,.int .i64 f7,.string f8,.bool f9,.int .i64 0,.int .i64 0] 42)).alloc (.cells #[.int .i64 f1,.string f2,.string f3,.string f4,.int .i64 f5,.int .i64 f6,.int .i64 f7,.string f8,.bool f9] 40))):=by
  show Below _ _ _
  repeat (first | exact Below.refl _ _ | refine Below.alloc ?_ (by simp; try omega) _)
 unfold evV evCs;simp only;go_enter Tryz.func115,Tryz.ntmps115
 have hws:WS w (w.heap.size+1) ⟨f1,f2,f3,f4,f5,f6,f7,f8,f9⟩ ((w.alloc (.cells #[.int .i64 1,.int .i64 f1,.string f2,.string f3,.string f4,.int .i64 f5,.int .i64 f6,.int .i64 f7,.string f8,.bool f9,.int .i64 0,.int .i64 0] 42)).alloc (.cells #[.int .i64 f1,.string f2,.string f3,.string f4,.int .i64 f5,.int .i64 f6,.int .i64 f7,.string f8,.bool f9] 40)):=
  ⟨hL.below HBD.out,famAt_made _ ⟨f1,f2,f3,f4,f5,f6,f7,f8,f9⟩ _ _ (by simp),by simp,HBD.out⟩
 go_wp2_with fail
 generalize hg:w.heap.size+1=g at *;generalize ((w.alloc (.cells #[.int .i64 1,.int .i64 f1,.string f2,.string f3,.string f4,.int .i64 f5,.int .i64 f6,.int .i64 f7,.string f8,.bool f9,.int .i64 0,.int .i64 0] 42)).alloc (.cells #[.int .i64 f1,.string f2,.string f3,.string f4,.int .i64 f5,.int .i64 f6,.int .i64 f7,.string f8,.bool f9] 40))=W at *
 go_region_held3 (fun w'=>(w'.cell? ⟨g,0,none⟩=some (.int .i64 f1)∧w'.cell? ⟨g,1,none⟩=some (.string f2)∧w'.cell? ⟨g,2,none⟩=some (.string f3)∧w'.cell? ⟨g,3,none⟩=some (.string f4)∧w'.cell? ⟨g,4,none⟩=some (.int .i64 f5)∧w'.cell? ⟨g,5,none⟩=some (.int .i64 f6)∧w'.cell? ⟨g,6,none⟩=some (.int .i64 f7)∧w'.cell? ⟨g,7,none⟩=some (.string f8)∧w'.cell? ⟨g,8,none⟩=some (.bool f9)∧WS w g ⟨f1,f2,f3,f4,f5,f6,f7,f8,f9⟩ w')) (first | exact ws_drew hws | exact ws_keep (by assumption) (by assumption) | exact ws_keep (by assumption) ((Below.refl _ _).alloc (Nat.le_refl _) _))
  (first
   |(go_at_call_of 57 (Value.int IntKind.i64 f1); refine (i1 _ (ws_libs (by assumption))).mono ?_; rintro e w' ⟨rfl,hb⟩)
   |(go_at_call_of 57 (Value.int IntKind.i64 f5); refine (i5 _ (ws_libs (by assumption))).mono ?_; rintro e w' ⟨rfl,hb⟩)
   |(go_at_call_of 57 (Value.int IntKind.i64 f6); refine (i6 _ (ws_libs (by assumption))).mono ?_; rintro e w' ⟨rfl,hb⟩)
   |(go_at_call_of 57 (Value.int IntKind.i64 f7); refine (i7 _ (ws_libs (by assumption))).mono ?_; rintro e w' ⟨rfl,hb⟩)
   |(go_at_call_of 187 (Value.string f4); refine (wordOf_is f4 _).mono ?_; rintro e w' ⟨rfl,rfl⟩; have hb:=Below.refl w'.heap.size w')
   |(go_at_call_of 187 (Value.string f8); refine (wordOf_is f8 _).mono ?_; rintro e w' ⟨rfl,rfl⟩; have hb:=Below.refl w'.heap.size w')
   |(go_at_call_of 188 (Value.bool f9); refine (lifeWord_is f9 _).mono ?_; rintro e w' ⟨rfl,rfl⟩; have hb:=Below.refl w'.heap.size w'))
 rename_i hS
 have HF:Hid (Below w.heap.size w _):=hS.2.2.2.2.2.2.2.2.2.below;clear hS;go_wp2_with fail
 go_ret;exact ⟨_,rfl,wordsAt_new _ ((putWs ⟨f1,f2,f3,f4,f5,f6,f7,f8,f9⟩).map bs8) _,HF.out⟩
theorem words_2 (i:Int) (w:World) (h:okN i) (hL:LibsE w):Calls Tryz.prog 115 #[evV ⟨2,zeroF,i,0⟩] w fun e w'=>∃ g,e=.returned (.slice (some ⟨g,0,none⟩) 2 2)∧WordsAt w' g (([[100],Lib.itoa i]:List Word).map bs8)∧Below w.heap.size w w':=by
 have i1:=fun (W:World) (hW:LibsE W)=>itoaE_is i W h.1 (by have:=h.2; omega) hW
 have HL:Hid (LibsE w):=hL;clear hL;unfold evV evCs zeroF;simp only;go_enter Tryz.func115,Tryz.ntmps115
 go_wp2_with fail
 have hbd:Below w.heap.size w ((w.alloc (.cells #[.int .i64 2,.int .i64 0,.string ⟨#[]⟩,.string ⟨#[]⟩,.string ⟨#[]⟩,.int .i64 0,.int .i64 0,.int .i64 0,.string ⟨#[]⟩,.bool false,.int .i64 i,.int .i64 0] 42)).alloc (.cells #[.int .i64 0,.string ⟨#[]⟩,.string ⟨#[]⟩,.string ⟨#[]⟩,.int .i64 0,.int .i64 0,.int .i64 0,.string ⟨#[]⟩,.bool false] 40)):=by
  repeat (first | exact Below.refl _ _ | refine Below.alloc ?_ (by simp; try omega) _)
 refine (i1 _ (HL.out.below hbd)).mono ?_;rintro e w' ⟨rfl,hb⟩;have HF:Hid (Below w.heap.size w (w'.alloc (.cells #[.string ⟨#[100]⟩,.string ⟨(Lib.itoa i).toArray⟩] 9))):=(hbd.trans (hb.mono hbd.size)).alloc (hbd.trans (hb.mono hbd.size)).size _;clear hbd hb;go_wp2_with fail
 go_ret;exact ⟨_,rfl,wordsAt_new w' (([[100],Lib.itoa i]:List Word).map bs8) _,HF.out⟩
theorem words_3 (i:Int) (w:World) (h:okN i) (hL:LibsE w):Calls Tryz.prog 115 #[evV ⟨3,zeroF,0,i⟩] w fun e w'=>∃ g,e=.returned (.slice (some ⟨g,0,none⟩) 2 2)∧WordsAt w' g (([[99],Lib.itoa i]:List Word).map bs8)∧Below w.heap.size w w':=by
 have i1:=fun (W:World) (hW:LibsE W)=>itoaE_is i W h.1 (by have:=h.2; omega) hW
 have HL:Hid (LibsE w):=hL;clear hL;unfold evV evCs zeroF;simp only;go_enter Tryz.func115,Tryz.ntmps115
 go_wp2_with fail
 have hbd:Below w.heap.size w ((w.alloc (.cells #[.int .i64 3,.int .i64 0,.string ⟨#[]⟩,.string ⟨#[]⟩,.string ⟨#[]⟩,.int .i64 0,.int .i64 0,.int .i64 0,.string ⟨#[]⟩,.bool false,.int .i64 0,.int .i64 i] 42)).alloc (.cells #[.int .i64 0,.string ⟨#[]⟩,.string ⟨#[]⟩,.string ⟨#[]⟩,.int .i64 0,.int .i64 0,.int .i64 0,.string ⟨#[]⟩,.bool false] 40)):=by
  repeat (first | exact Below.refl _ _ | refine Below.alloc ?_ (by simp; try omega) _)
 refine (i1 _ (HL.out.below hbd)).mono ?_;rintro e w' ⟨rfl,hb⟩;have HF:Hid (Below w.heap.size w (w'.alloc (.cells #[.string ⟨#[99]⟩,.string ⟨(Lib.itoa i).toArray⟩] 9))):=(hbd.trans (hb.mono hbd.size)).alloc (hbd.trans (hb.mono hbd.size)).size _;clear hbd hb;go_wp2_with fail
 go_ret;exact ⟨_,rfl,wordsAt_new w' (([[99],Lib.itoa i]:List Word).map bs8) _,HF.out⟩
theorem wordsE_is (e:E) (w:World) (h:Ev.may e) (hL:LibsE w):Calls Tryz.prog 115 #[evV e] w fun r w'=>∃ g,r=.returned (.slice (some ⟨g,0,none⟩) (wordsOf e).length (wordsOf e).length)∧WordsAt w' g ((wordsOf e).map bs8)∧Below w.heap.size w w':=by
 obtain ⟨k,f,i,t⟩:=e;rcases h with ⟨hk,hf,hi,ht⟩ | ⟨hk,hf,hi,ht⟩ | ⟨hk,hf,hi,ht⟩ <;> simp only at hk hf hi ht <;> subst hk
 ·subst hi; subst ht
  exact words_1 f w hf hL
 ·subst hf; subst ht
  exact words_2 i w hi hL
 ·subst hf; subst hi
  exact words_3 t w ht hL
set_option maxHeartbeats 4000000
theorem map_bs8 (l:List Word):(l.map bs8).map (·.data.toList)=l:=by
 rw [List.map_map];exact List.map_id' l
theorem joinE_is (e:E) (g:Nat) (w:World) (h:Ev.may e) (hw:WordsAt w g ((wordsOf e).map bs8)):Calls Tryz.prog 114 #[.slice (some ⟨g,0,none⟩) (wordsOf e).length (wordsOf e).length,.string ⟨#[32]⟩] w fun r w'=>r=.returned (.string (bs8 (line e)))∧Below w.heap.size w w':=by
 have hl:=line_len h;have hn:(wordsOf e).length≤10:=by obtain ⟨x,l,h1,h2⟩:=words_cons e; rw [h1]; simp; omega
 have hj:=Tryz.strings_Join g 0 (wordsOf e).length ((wordsOf e).map bs8) ⟨#[32]⟩ w hw.2 hw.1 (by rw [List.length_map]; omega) (by rw [List.length_map]; exact Nat.le_refl _) (by rw [map_bs8]; unfold line at hl; exact Nat.le_trans hl (by omega))
 rw [List.length_map,map_bs8] at hj;exact hj
theorem writeE_yes (e:E) (w:World) (h:Ev.may e) (hs:Small 5000 e.fam) (hL:LibsE w):Calls Tryz.prog 55 #[evV e] w fun r w'=>r=.returned (.tuple #[.string (bs8 (line e)),.nilIface])∧Below w.heap.size w w':=by
 have HM:=fun (W:World) (hW:LenOk W)=>mayBeE_is e true (by simp [h]) hs W hW
 have HW:=fun (W:World) (hW:LibsE W)=>wordsE_is e W h hW;have HJ:=fun (g:Nat) (W:World) (hW:WordsAt W g ((wordsOf e).map bs8))=>joinE_is e g W h hW;have HL:Hid (LibsE w):=hL;have HX:Hid (line e=line e):=rfl;clear h hs hL;generalize hln:line e=LN at *;generalize hwl:(wordsOf e).length=n at *;generalize (wordsOf e).map bs8=ws at *;clear hln hwl HX;obtain ⟨k,⟨f1,f2,f3,f4,f5,f6,f7,f8,f9⟩,i,t⟩:=e;unfold evV evCs at *;simp only at HM HW ⊢;have HB0:Hid (Below w.heap.size w (w.alloc (.cells #[.int .i64 k,.int .i64 f1,.string f2,.string f3,.string f4,.int .i64 f5,.int .i64 f6,.int .i64 f7,.string f8,.bool f9,.int .i64 i,.int .i64 t] 42))):=(Below.refl _ _).alloc (Nat.le_refl _) _
 have hx:∀ (w':World),Below (w.heap.size+1) (w.alloc (.cells #[.int .i64 k,.int .i64 f1,.string f2,.string f3,.string f4,.int .i64 f5,.int .i64 f6,.int .i64 f7,.string f8,.bool f9,.int .i64 i,.int .i64 t] 42)) w'→∀ j,w'.cell? ⟨w.heap.size,j,none⟩=(w.alloc (.cells #[.int .i64 k,.int .i64 f1,.string f2,.string f3,.string f4,.int .i64 f5,.int .i64 f6,.int .i64 f7,.string f8,.bool f9,.int .i64 i,.int .i64 t] 42)).cell? ⟨w.heap.size,j,none⟩:=fun w' hb j=>hb.cell (p:=⟨w.heap.size,j,none⟩) (Nat.lt_succ_self _);have hsz:(w.alloc (.cells #[.int .i64 k,.int .i64 f1,.string f2,.string f3,.string f4,.int .i64 f5,.int .i64 f6,.int .i64 f7,.string f8,.bool f9,.int .i64 i,.int .i64 t] 42)).heap.size=w.heap.size+1:=by simp
 go_enter Tryz.func55,Tryz.ntmps55
 go_wp2_with fail
 refine (HM _ (HL.out.below HB0.out).len).mono ?_;rintro e1 w1 ⟨rfl,hb1⟩;have HB1:Hid (Below w.heap.size w w1):=HB0.out.trans (hb1.mono HB0.out.size);rw [hsz] at hb1;have q:=hx w1 hb1;clear hx hb1 hsz;have k0:w1.cell? ⟨w.heap.size,0,none⟩=some (.int .i64 k):=(q 0).trans ((World.cell?_alloc_at _ _ _ _ rfl).trans rfl);have k1:w1.cell? ⟨w.heap.size,1,none⟩=some (.int .i64 f1):=(q 1).trans ((World.cell?_alloc_at _ _ _ _ rfl).trans rfl);have k2:w1.cell? ⟨w.heap.size,2,none⟩=some (.string f2):=(q 2).trans ((World.cell?_alloc_at _ _ _ _ rfl).trans rfl);have k3:w1.cell? ⟨w.heap.size,3,none⟩=some (.string f3):=(q 3).trans ((World.cell?_alloc_at _ _ _ _ rfl).trans rfl);have k4:w1.cell? ⟨w.heap.size,4,none⟩=some (.string f4):=(q 4).trans ((World.cell?_alloc_at _ _ _ _ rfl).trans rfl)
 have k5:w1.cell? ⟨w.heap.size,5,none⟩=some (.int .i64 f5):=(q 5).trans ((World.cell?_alloc_at _ _ _ _ rfl).trans rfl);have k6:w1.cell? ⟨w.heap.size,6,none⟩=some (.int .i64 f6):=(q 6).trans ((World.cell?_alloc_at _ _ _ _ rfl).trans rfl);have k7:w1.cell? ⟨w.heap.size,7,none⟩=some (.int .i64 f7):=(q 7).trans ((World.cell?_alloc_at _ _ _ _ rfl).trans rfl);have k8:w1.cell? ⟨w.heap.size,8,none⟩=some (.string f8):=(q 8).trans ((World.cell?_alloc_at _ _ _ _ rfl).trans rfl);have k9:w1.cell? ⟨w.heap.size,9,none⟩=some (.bool f9):=(q 9).trans ((World.cell?_alloc_at _ _ _ _ rfl).trans rfl);have k10:w1.cell? ⟨w.heap.size,10,none⟩=some (.int .i64 i):=(q 10).trans ((World.cell?_alloc_at _ _ _ _ rfl).trans rfl);have k11:w1.cell? ⟨w.heap.size,11,none⟩=some (.int .i64 t):=(q 11).trans ((World.cell?_alloc_at _ _ _ _ rfl).trans rfl);clear q
 go_wp2_with fail
 refine (HW _ (HL.out.below HB1.out)).mono ?_;rintro e2 w2 ⟨g,rfl,hg,hb2⟩;have HB2:Hid (Below w.heap.size w w2):=HB1.out.trans (hb2.mono HB1.out.size);have HG:Hid (WordsAt w2 g ws):=hg;clear hb2 hg k0 k1 k2 k3 k4 k5 k6 k7 k8 k9 k10 k11;go_wp2_with fail
 refine (HJ g _ HG.out).mono ?_;rintro e3 w3 ⟨rfl,hb3⟩;have HB3:Hid (Below w.heap.size w w3):=HB2.out.trans (hb3.mono HB2.out.size);clear hb3;go_wp2_with fail
 go_ret2;exact ⟨rfl,HB3.out⟩
theorem writeE_no (e:E) (w:World) (h:¬ Ev.may e) (hs:Small 5000 e.fam) (hL:LenOk w):Calls Tryz.prog 55 #[evV e] w fun r w'=>r=.returned (.tuple #[.string ⟨#[]⟩,.iface 47 (.int .i64 1)])∧Below w.heap.size w w':=by
 have HM:=fun (W:World) (hW:LenOk W)=>mayBeE_is e false (by simp [h]) hs W hW
 have HL:Hid (LenOk w):=hL;clear h hs hL;obtain ⟨k,⟨f1,f2,f3,f4,f5,f6,f7,f8,f9⟩,i,t⟩:=e;unfold evV evCs at *;simp only at HM ⊢;have HB0:Hid (Below w.heap.size w (w.alloc (.cells #[.int .i64 k,.int .i64 f1,.string f2,.string f3,.string f4,.int .i64 f5,.int .i64 f6,.int .i64 f7,.string f8,.bool f9,.int .i64 i,.int .i64 t] 42))):=(Below.refl _ _).alloc (Nat.le_refl _) _;go_enter Tryz.func55,Tryz.ntmps55
 go_wp2_with fail
 refine (HM _ (HL.out.below HB0.out)).mono ?_;rintro e1 w1 ⟨rfl,hb1⟩;have HB1:Hid (Below w.heap.size w w1):=HB0.out.trans (hb1.mono HB0.out.size);clear hb1;go_wp2_with fail
 go_ret2;exact ⟨rfl,HB1.out⟩
set_option maxHeartbeats 1000000
def IsNum (s:ByteArray) (v:Int):Prop:=∀ m,okN m→s.data.toList=Lib.itoa m→v=m
def IsText (s t:ByteArray):Prop:=t.size≤s.size∧∀ x:List UInt8,(95:UInt8)∉x→s.data.toList=wordL x→t.data.toList=x
theorem numberOf_is (s:ByteArray) (w:World) (hs:s.size≤10000) (hL:LibsA w):Calls Tryz.prog 193 #[.string s] w fun e w'=>∃ v,e=.returned (.int .i64 v)∧Below w.heap.size w w'∧IsNum s v:=by
 have HL:Hid (LibsA w):=hL;clear hL;go_enter Tryz.func193,Tryz.ntmps193
 go_wp2_with fail
 refine (atoiE_any s _ hs HL.out).mono ?_;rintro e w' ⟨v,err,rfl,hb,hv⟩;have HB:Hid (Below w.heap.size w w'):=hb;have HV:Hid (IsNum s v):=hv;clear hb hv;go_wp2_with fail
 go_ret;exact ⟨v,rfl,HB.out,HV.out⟩
theorem isText_no {s:ByteArray} (h:s≠⟨#[95]⟩):IsText s s:=by
 refine ⟨Nat.le_refl _,fun x hx hs=>?_⟩;unfold wordL at hs;split at hs
 ·exact absurd (bytes_eq hs) h
 ·exact hs
theorem isText_yes:IsText ⟨#[95]⟩ ⟨#[]⟩:=by
 refine ⟨by simp [ByteArray.size],fun x hx hs=>?_⟩
 unfold wordL at hs;split at hs
 ·rename_i h; exact h.symm
 ·exfalso; rw [← hs] at hx; simp at hx
theorem textOf_is (s:ByteArray) (w:World) (hs:s.size≤10000):Calls Tryz.prog 194 #[.string s] w fun e w'=>∃ t,e=.returned (.string t)∧Below w.heap.size w w'∧IsText s t:=by
 by_cases h:s=⟨#[95]⟩
 ·subst h
  go_enter Tryz.func194,Tryz.ntmps194
  go_wp2_with fail
  go_ret;exact ⟨_,rfl,Below.refl _ _,isText_yes⟩
 ·have hne:(s.toList == [95])=false:=by
   rw [beq_eq_false_iff_ne,ByteArray.toList_eq];intro he;exact h (bytes_eq he)
  have HT:Hid (IsText s s):=isText_no h;clear h;go_enter Tryz.func194,Tryz.ntmps194
  go_wp2_with fail
  refine (clone_is s _ hs).mono ?_;rintro e w' ⟨rfl,hb⟩;have HB:Hid (Below w.heap.size w w'):=hb;clear hb;go_wp2_with fail
  go_ret;exact ⟨s,rfl,HB.out,HT.out⟩
def peek (w:World) (b i:Nat):Value:=(w.cell? ⟨b,i,none⟩).getD undef
theorem peek_is {w:World} {b i:Nat} (h:(w.cell? ⟨b,i,none⟩).isSome=true):w.cell? ⟨b,i,none⟩=some (peek w b i):=by
 unfold peek
 cases hc:w.cell? ⟨b,i,none⟩ with
 |none=>rw [hc] at h; cases h
 |some v=>rfl
structure OS (w0:World) (b g:Nat) (ws:List ByteArray) (w':World):Prop where
 libs:LibsA w'
 words:WordsAt w' g ws
 lt:b<w'.heap.size
 new:w0.heap.size≤b
 ne:b≠g
 there:∀ i,i<12→(w'.cell? ⟨b,i,none⟩).isSome=true
 free:∀ i,w'.frozen? ⟨b,i,none⟩=false
 below:Below w0.heap.size w0 w'
 old:4<w0.heap.size∧5<w0.heap.size∧3<w0.heap.size∧2<w0.heap.size
theorem OS.on {w0:World} {b g:Nat} {ws:List ByteArray} {w w':World} (h:OS w0 b g ws w) (hb:Below w.heap.size w w'):OS w0 b g ws w' where
 libs:=h.libs.below hb
 words:=⟨Nat.lt_of_lt_of_le h.words.1 hb.size,fun j x hj=>(hb.cell (p:=⟨g,0+j,none⟩) h.words.1).trans (h.words.2 j x hj)⟩
 lt:=Nat.lt_of_lt_of_le h.lt hb.size
 new:=h.new
 ne:=h.ne
 there:=fun i hi=>by rw [hb.cell (p:=⟨b,i,none⟩) h.lt]; exact h.there i hi
 free:=fun i=>(hb.frozen (p:=⟨b,i,none⟩) h.lt).trans (h.free i)
 below:=h.below.trans (hb.mono h.below.size)
 old:=h.old
theorem OS.set {w0:World} {b g:Nat} {ws:List ByteArray} {w:World} (h:OS w0 b g ws w) (i:Nat) (v:Value):OS w0 b g ws (w.setCell ⟨b,i,none⟩ v) where
 libs:=by
  have hb:Below w0.heap.size w (w.setCell ⟨b,i,none⟩ v):=(Below.refl _ _).setCell (p:=⟨b,i,none⟩) h.new v;have ho:=h.old;refine ⟨⟨?_,tabIsBelowE h.libs.base.pow hb gPowE ho.2.2.1,?_⟩,?_,?_⟩
  ·simpa using h.libs.base.big
  ·obtain ⟨m,hm⟩:=h.libs.base.len
   exact ⟨m,(hb.cell (p:=⟨2,0,none⟩) ho.2.2.2).trans hm⟩
  ·obtain ⟨m,hm,k⟩:=h.libs.syn
   exact ⟨m,(hb.cell (p:=⟨4,0,none⟩) ho.1).trans hm,k⟩
  ·obtain ⟨m,hm,k⟩:=h.libs.rng
   exact ⟨m,(hb.cell (p:=⟨5,0,none⟩) ho.2.1).trans hm,k⟩
 words:=⟨by simpa using h.words.1,fun j x hj=>(World.cell?_setCell_other _ _ _ _ (by intro e; exact h.ne (congrArg Addr.block e))).trans (h.words.2 j x hj)⟩
 lt:=by simpa using h.lt
 new:=h.new
 ne:=h.ne
 there:=fun j hj=>by
  by_cases hij:j=i
  ·subst hij
   obtain ⟨u,hu⟩:=Option.isSome_iff_exists.1 (h.there j hj);rw [World.cell?_setCell_same _ _ _ hu];rfl
  ·rw [World.cell?_setCell_other _ _ _ _ (by intro e; exact hij (congrArg Addr.off e).symm)]
   exact h.there j hj
 free:=fun j=>by rw [World.frozen?_setCell]; exact h.free j
 below:=h.below.setCell (p:=⟨b,i,none⟩) h.new v
 old:=h.old
theorem os_allA {w0:World} {b g:Nat} {x0 x1 x2 x3 x4 x5 x6 x7 x8 x9:ByteArray} {w:World} (h:OS w0 b g [x0,x1,x2,x3,x4,x5,x6,x7,x8,x9] w):(w.cell? ⟨g,0,none⟩=some (.string x0)∧w.cell? ⟨g,1,none⟩=some (.string x1)∧w.cell? ⟨g,2,none⟩=some (.string x2)∧w.cell? ⟨g,3,none⟩=some (.string x3)∧w.cell? ⟨g,4,none⟩=some (.string x4)∧w.cell? ⟨g,5,none⟩=some (.string x5)∧w.cell? ⟨g,6,none⟩=some (.string x6)∧w.cell? ⟨g,7,none⟩=some (.string x7)∧w.cell? ⟨g,8,none⟩=some (.string x8)∧w.cell? ⟨g,9,none⟩=some (.string x9)∧w.cell? ⟨b,0,none⟩=some (peek w b 0)∧w.cell? ⟨b,1,none⟩=some (peek w b 1)∧w.cell? ⟨b,2,none⟩=some (peek w b 2)∧w.cell? ⟨b,3,none⟩=some (peek w b 3)∧w.cell? ⟨b,4,none⟩=some (peek w b 4)∧w.cell? ⟨b,5,none⟩=some (peek w b 5)∧w.cell? ⟨b,6,none⟩=some (peek w b 6)∧w.cell? ⟨b,7,none⟩=some (peek w b 7)∧w.cell? ⟨b,8,none⟩=some (peek w b 8)∧w.cell? ⟨b,9,none⟩=some (peek w b 9)∧w.cell? ⟨b,10,none⟩=some (peek w b 10)∧w.cell? ⟨b,11,none⟩=some (peek w b 11)∧(∀ i,w.frozen? ⟨b,i,none⟩=false)∧OS w0 b g [x0,x1,x2,x3,x4,x5,x6,x7,x8,x9] w):=by
 have c:∀ j x,([x0,x1,x2,x3,x4,x5,x6,x7,x8,x9]:List ByteArray)[j]?=some x→w.cell? ⟨g,j,none⟩=some (.string x):=fun j x hj=>by have:=h.words.2 j x hj; rwa [Nat.zero_add] at this
 exact ⟨c 0 x0 rfl,c 1 x1 rfl,c 2 x2 rfl,c 3 x3 rfl,c 4 x4 rfl,c 5 x5 rfl,c 6 x6 rfl,c 7 x7 rfl,c 8 x8 rfl,c 9 x9 rfl,peek_is (h.there 0 (by omega)),peek_is (h.there 1 (by omega)),peek_is (h.there 2 (by omega)),peek_is (h.there 3 (by omega)),peek_is (h.there 4 (by omega)),peek_is (h.there 5 (by omega)),peek_is (h.there 6 (by omega)),peek_is (h.there 7 (by omega)),peek_is (h.there 8 (by omega)),peek_is (h.there 9 (by omega)),peek_is (h.there 10 (by omega)),peek_is (h.there 11 (by omega)),h.free,h⟩
theorem os_ofA {w0:World} {b g:Nat} {x0 x1 x2 x3 x4 x5 x6 x7 x8 x9:ByteArray} {w:World} (h:(w.cell? ⟨g,0,none⟩=some (.string x0)∧w.cell? ⟨g,1,none⟩=some (.string x1)∧w.cell? ⟨g,2,none⟩=some (.string x2)∧w.cell? ⟨g,3,none⟩=some (.string x3)∧w.cell? ⟨g,4,none⟩=some (.string x4)∧w.cell? ⟨g,5,none⟩=some (.string x5)∧w.cell? ⟨g,6,none⟩=some (.string x6)∧w.cell? ⟨g,7,none⟩=some (.string x7)∧w.cell? ⟨g,8,none⟩=some (.string x8)∧w.cell? ⟨g,9,none⟩=some (.string x9)∧w.cell? ⟨b,0,none⟩=some (peek w b 0)∧w.cell? ⟨b,1,none⟩=some (peek w b 1)∧w.cell? ⟨b,2,none⟩=some (peek w b 2)∧w.cell? ⟨b,3,none⟩=some (peek w b 3)∧w.cell? ⟨b,4,none⟩=some (peek w b 4)∧w.cell? ⟨b,5,none⟩=some (peek w b 5)∧w.cell? ⟨b,6,none⟩=some (peek w b 6)∧w.cell? ⟨b,7,none⟩=some (peek w b 7)∧w.cell? ⟨b,8,none⟩=some (peek w b 8)∧w.cell? ⟨b,9,none⟩=some (peek w b 9)∧w.cell? ⟨b,10,none⟩=some (peek w b 10)∧w.cell? ⟨b,11,none⟩=some (peek w b 11)∧(∀ i,w.frozen? ⟨b,i,none⟩=false)∧OS w0 b g [x0,x1,x2,x3,x4,x5,x6,x7,x8,x9] w)):OS w0 b g [x0,x1,x2,x3,x4,x5,x6,x7,x8,x9] w:=h.2.2.2.2.2.2.2.2.2.2.2.2.2.2.2.2.2.2.2.2.2.2.2
theorem os_keepA {w0:World} {b g:Nat} {x0 x1 x2 x3 x4 x5 x6 x7 x8 x9:ByteArray} {w w':World} (h:(w.cell? ⟨g,0,none⟩=some (.string x0)∧w.cell? ⟨g,1,none⟩=some (.string x1)∧w.cell? ⟨g,2,none⟩=some (.string x2)∧w.cell? ⟨g,3,none⟩=some (.string x3)∧w.cell? ⟨g,4,none⟩=some (.string x4)∧w.cell? ⟨g,5,none⟩=some (.string x5)∧w.cell? ⟨g,6,none⟩=some (.string x6)∧w.cell? ⟨g,7,none⟩=some (.string x7)∧w.cell? ⟨g,8,none⟩=some (.string x8)∧w.cell? ⟨g,9,none⟩=some (.string x9)∧w.cell? ⟨b,0,none⟩=some (peek w b 0)∧w.cell? ⟨b,1,none⟩=some (peek w b 1)∧w.cell? ⟨b,2,none⟩=some (peek w b 2)∧w.cell? ⟨b,3,none⟩=some (peek w b 3)∧w.cell? ⟨b,4,none⟩=some (peek w b 4)∧w.cell? ⟨b,5,none⟩=some (peek w b 5)∧w.cell? ⟨b,6,none⟩=some (peek w b 6)∧w.cell? ⟨b,7,none⟩=some (peek w b 7)∧w.cell? ⟨b,8,none⟩=some (peek w b 8)∧w.cell? ⟨b,9,none⟩=some (peek w b 9)∧w.cell? ⟨b,10,none⟩=some (peek w b 10)∧w.cell? ⟨b,11,none⟩=some (peek w b 11)∧(∀ i,w.frozen? ⟨b,i,none⟩=false)∧OS w0 b g [x0,x1,x2,x3,x4,x5,x6,x7,x8,x9] w)) (hb:Below w.heap.size w w'):(w'.cell? ⟨g,0,none⟩=some (.string x0)∧w'.cell? ⟨g,1,none⟩=some (.string x1)∧w'.cell? ⟨g,2,none⟩=some (.string x2)∧w'.cell? ⟨g,3,none⟩=some (.string x3)∧w'.cell? ⟨g,4,none⟩=some (.string x4)∧w'.cell? ⟨g,5,none⟩=some (.string x5)∧w'.cell? ⟨g,6,none⟩=some (.string x6)∧w'.cell? ⟨g,7,none⟩=some (.string x7)∧w'.cell? ⟨g,8,none⟩=some (.string x8)∧w'.cell? ⟨g,9,none⟩=some (.string x9)∧w'.cell? ⟨b,0,none⟩=some (peek w' b 0)∧w'.cell? ⟨b,1,none⟩=some (peek w' b 1)∧w'.cell? ⟨b,2,none⟩=some (peek w' b 2)∧w'.cell? ⟨b,3,none⟩=some (peek w' b 3)∧w'.cell? ⟨b,4,none⟩=some (peek w' b 4)∧w'.cell? ⟨b,5,none⟩=some (peek w' b 5)∧w'.cell? ⟨b,6,none⟩=some (peek w' b 6)∧w'.cell? ⟨b,7,none⟩=some (peek w' b 7)∧w'.cell? ⟨b,8,none⟩=some (peek w' b 8)∧w'.cell? ⟨b,9,none⟩=some (peek w' b 9)∧w'.cell? ⟨b,10,none⟩=some (peek w' b 10)∧w'.cell? ⟨b,11,none⟩=some (peek w' b 11)∧(∀ i,w'.frozen? ⟨b,i,none⟩=false)∧OS w0 b g [x0,x1,x2,x3,x4,x5,x6,x7,x8,x9] w'):=os_allA ((os_ofA h).on hb)
theorem os_drewA {w0:World} {b g:Nat} {x0 x1 x2 x3 x4 x5 x6 x7 x8 x9:ByteArray} {w:World} (h:OS w0 b g [x0,x1,x2,x3,x4,x5,x6,x7,x8,x9] w):(w.drew.cell? ⟨g,0,none⟩=some (.string x0)∧w.drew.cell? ⟨g,1,none⟩=some (.string x1)∧w.drew.cell? ⟨g,2,none⟩=some (.string x2)∧w.drew.cell? ⟨g,3,none⟩=some (.string x3)∧w.drew.cell? ⟨g,4,none⟩=some (.string x4)∧w.drew.cell? ⟨g,5,none⟩=some (.string x5)∧w.drew.cell? ⟨g,6,none⟩=some (.string x6)∧w.drew.cell? ⟨g,7,none⟩=some (.string x7)∧w.drew.cell? ⟨g,8,none⟩=some (.string x8)∧w.drew.cell? ⟨g,9,none⟩=some (.string x9)∧w.drew.cell? ⟨b,0,none⟩=some (peek w.drew b 0)∧w.drew.cell? ⟨b,1,none⟩=some (peek w.drew b 1)∧w.drew.cell? ⟨b,2,none⟩=some (peek w.drew b 2)∧w.drew.cell? ⟨b,3,none⟩=some (peek w.drew b 3)∧w.drew.cell? ⟨b,4,none⟩=some (peek w.drew b 4)∧w.drew.cell? ⟨b,5,none⟩=some (peek w.drew b 5)∧w.drew.cell? ⟨b,6,none⟩=some (peek w.drew b 6)∧w.drew.cell? ⟨b,7,none⟩=some (peek w.drew b 7)∧w.drew.cell? ⟨b,8,none⟩=some (peek w.drew b 8)∧w.drew.cell? ⟨b,9,none⟩=some (peek w.drew b 9)∧w.drew.cell? ⟨b,10,none⟩=some (peek w.drew b 10)∧w.drew.cell? ⟨b,11,none⟩=some (peek w.drew b 11)∧(∀ i,w.drew.frozen? ⟨b,i,none⟩=false)∧OS w0 b g [x0,x1,x2,x3,x4,x5,x6,x7,x8,x9] w.drew):=os_allA (h.on (Below.refl _ _).drew)
theorem os_setA {w0:World} {b g:Nat} {x0 x1 x2 x3 x4 x5 x6 x7 x8 x9:ByteArray} {w:World} {iw:Nat} {u:Value} (h:OS w0 b g [x0,x1,x2,x3,x4,x5,x6,x7,x8,x9] (w.setCell ⟨b,iw,none⟩ u)):((w.setCell ⟨b,iw,none⟩ u).cell? ⟨g,0,none⟩=some (.string x0)∧(w.setCell ⟨b,iw,none⟩ u).cell? ⟨g,1,none⟩=some (.string x1)∧(w.setCell ⟨b,iw,none⟩ u).cell? ⟨g,2,none⟩=some (.string x2)∧(w.setCell ⟨b,iw,none⟩ u).cell? ⟨g,3,none⟩=some (.string x3)∧(w.setCell ⟨b,iw,none⟩ u).cell? ⟨g,4,none⟩=some (.string x4)∧(w.setCell ⟨b,iw,none⟩ u).cell? ⟨g,5,none⟩=some (.string x5)∧(w.setCell ⟨b,iw,none⟩ u).cell? ⟨g,6,none⟩=some (.string x6)∧(w.setCell ⟨b,iw,none⟩ u).cell? ⟨g,7,none⟩=some (.string x7)∧(w.setCell ⟨b,iw,none⟩ u).cell? ⟨g,8,none⟩=some (.string x8)∧(w.setCell ⟨b,iw,none⟩ u).cell? ⟨g,9,none⟩=some (.string x9)∧(w.setCell ⟨b,iw,none⟩ u).cell? ⟨b,0,none⟩=some (peek (w.setCell ⟨b,iw,none⟩ u) b 0)∧(w.setCell ⟨b,iw,none⟩ u).cell? ⟨b,1,none⟩=some (peek (w.setCell ⟨b,iw,none⟩ u) b 1)∧(w.setCell ⟨b,iw,none⟩ u).cell? ⟨b,2,none⟩=some (peek (w.setCell ⟨b,iw,none⟩ u) b 2)∧(w.setCell ⟨b,iw,none⟩ u).cell? ⟨b,3,none⟩=some (peek (w.setCell ⟨b,iw,none⟩ u) b 3)∧(w.setCell ⟨b,iw,none⟩ u).cell? ⟨b,4,none⟩=some (peek (w.setCell ⟨b,iw,none⟩ u) b 4)∧(w.setCell ⟨b,iw,none⟩ u).cell? ⟨b,5,none⟩=some (peek (w.setCell ⟨b,iw,none⟩ u) b 5)∧(w.setCell ⟨b,iw,none⟩ u).cell? ⟨b,6,none⟩=some (peek (w.setCell ⟨b,iw,none⟩ u) b 6)∧(w.setCell ⟨b,iw,none⟩ u).cell? ⟨b,7,none⟩=some (peek (w.setCell ⟨b,iw,none⟩ u) b 7)∧(w.setCell ⟨b,iw,none⟩ u).cell? ⟨b,8,none⟩=some (peek (w.setCell ⟨b,iw,none⟩ u) b 8)∧(w.setCell ⟨b,iw,none⟩ u).cell? ⟨b,9,none⟩=some (peek (w.setCell ⟨b,iw,none⟩ u) b 9)∧(w.setCell ⟨b,iw,none⟩ u).cell? ⟨b,10,none⟩=some (peek (w.setCell ⟨b,iw,none⟩ u) b 10)∧(w.setCell ⟨b,iw,none⟩ u).cell? ⟨b,11,none⟩=some (peek (w.setCell ⟨b,iw,none⟩ u) b 11)∧(∀ i,(w.setCell ⟨b,iw,none⟩ u).frozen? ⟨b,i,none⟩=false)∧OS w0 b g [x0,x1,x2,x3,x4,x5,x6,x7,x8,x9] (w.setCell ⟨b,iw,none⟩ u)):=os_allA h
theorem os_libsA {w0:World} {b g:Nat} {x0 x1 x2 x3 x4 x5 x6 x7 x8 x9:ByteArray} {w:World} (h:(w.cell? ⟨g,0,none⟩=some (.string x0)∧w.cell? ⟨g,1,none⟩=some (.string x1)∧w.cell? ⟨g,2,none⟩=some (.string x2)∧w.cell? ⟨g,3,none⟩=some (.string x3)∧w.cell? ⟨g,4,none⟩=some (.string x4)∧w.cell? ⟨g,5,none⟩=some (.string x5)∧w.cell? ⟨g,6,none⟩=some (.string x6)∧w.cell? ⟨g,7,none⟩=some (.string x7)∧w.cell? ⟨g,8,none⟩=some (.string x8)∧w.cell? ⟨g,9,none⟩=some (.string x9)∧w.cell? ⟨b,0,none⟩=some (peek w b 0)∧w.cell? ⟨b,1,none⟩=some (peek w b 1)∧w.cell? ⟨b,2,none⟩=some (peek w b 2)∧w.cell? ⟨b,3,none⟩=some (peek w b 3)∧w.cell? ⟨b,4,none⟩=some (peek w b 4)∧w.cell? ⟨b,5,none⟩=some (peek w b 5)∧w.cell? ⟨b,6,none⟩=some (peek w b 6)∧w.cell? ⟨b,7,none⟩=some (peek w b 7)∧w.cell? ⟨b,8,none⟩=some (peek w b 8)∧w.cell? ⟨b,9,none⟩=some (peek w b 9)∧w.cell? ⟨b,10,none⟩=some (peek w b 10)∧w.cell? ⟨b,11,none⟩=some (peek w b 11)∧(∀ i,w.frozen? ⟨b,i,none⟩=false)∧OS w0 b g [x0,x1,x2,x3,x4,x5,x6,x7,x8,x9] w)):LibsA w:=(os_ofA h).libs
theorem os_allB {w0:World} {b g:Nat} {x0 x1:ByteArray} {w:World} (h:OS w0 b g [x0,x1] w):(w.cell? ⟨g,0,none⟩=some (.string x0)∧w.cell? ⟨g,1,none⟩=some (.string x1)∧w.cell? ⟨b,0,none⟩=some (peek w b 0)∧w.cell? ⟨b,1,none⟩=some (peek w b 1)∧w.cell? ⟨b,2,none⟩=some (peek w b 2)∧w.cell? ⟨b,3,none⟩=some (peek w b 3)∧w.cell? ⟨b,4,none⟩=some (peek w b 4)∧w.cell? ⟨b,5,none⟩=some (peek w b 5)∧w.cell? ⟨b,6,none⟩=some (peek w b 6)∧w.cell? ⟨b,7,none⟩=some (peek w b 7)∧w.cell? ⟨b,8,none⟩=some (peek w b 8)∧w.cell? ⟨b,9,none⟩=some (peek w b 9)∧w.cell? ⟨b,10,none⟩=some (peek w b 10)∧w.cell? ⟨b,11,none⟩=some (peek w b 11)∧(∀ i,w.frozen? ⟨b,i,none⟩=false)∧OS w0 b g [x0,x1] w):=by
 have c:∀ j x,([x0,x1]:List ByteArray)[j]?=some x→w.cell? ⟨g,j,none⟩=some (.string x):=fun j x hj=>by have:=h.words.2 j x hj; rwa [Nat.zero_add] at this
 exact ⟨c 0 x0 rfl,c 1 x1 rfl,peek_is (h.there 0 (by omega)),peek_is (h.there 1 (by omega)),peek_is (h.there 2 (by omega)),peek_is (h.there 3 (by omega)),peek_is (h.there 4 (by omega)),peek_is (h.there 5 (by omega)),peek_is (h.there 6 (by omega)),peek_is (h.there 7 (by omega)),peek_is (h.there 8 (by omega)),peek_is (h.there 9 (by omega)),peek_is (h.there 10 (by omega)),peek_is (h.there 11 (by omega)),h.free,h⟩
def ToldW (ws:List ByteArray) (e:E):Prop:=∀ e',Ev.may e'→ws.map (·.data.toList)=wordsOf e'→e=e'
theorem wordL_text {x:List UInt8} (h:x= []∨nameB x=true∨Lst x):(95:UInt8)∉x:=by
 rcases h with h | h | h
 ·rw [h]; simp
 ·exact name_no h (by decide)
 ·exact lst_no h (by decide) (by decide)
theorem toldW_put {x0 x1 x2 x3 x4 x5 x6 x7 x8 x9:ByteArray} {n1 n5 n6 n7:Int} {t2 t3 t4 t8:ByteArray} (h1:IsNum x1 n1) (h5:IsNum x5 n5) (h6:IsNum x6 n6) (h7:IsNum x7 n7) (h2:IsText x2 t2) (h3:IsText x3 t3) (h4:IsText x4 t4) (h8:IsText x8 t8) :
 ToldW [x0,x1,x2,x3,x4,x5,x6,x7,x8,x9] ⟨1,⟨n1,t2,t3,t4,n5,n6,n7,t8,x9.toList == [49]⟩,0,0⟩:=by
 intro e' hm hw;obtain ⟨k,⟨f1,f2,f3,f4,f5,f6,f7,f8,f9⟩,i,t⟩:=e';unfold wordsOf putWs at hw;simp only at hw;rcases hm with ⟨hk,⟨⟨o1,o5,o6,o7⟩,hc,hs,hr,hl⟩,hi,ht⟩ | ⟨hk,_,hi,ht⟩ | ⟨hk,_,hi,ht⟩ <;> simp only at*<;> subst hk
 ·subst hi; subst ht
  rw [if_pos rfl] at hw;simp only [List.map_cons,List.map_nil,List.cons.injEq,and_true] at hw;obtain ⟨e0,e1,e2,e3,e4,e5,e6,e7,e8,e9⟩:=hw;have nn:∀ {x:List UInt8},nameB x=true→x=wordL x:=fun {x} h=>(if_neg (name_ne h)).symm;have r2:=bytes_eq (h2.2 _ (wordL_text (.inr (.inl hc))) (e2.trans (nn hc)));have r3:=bytes_eq (h3.2 _ (wordL_text (.inr (.inl hs))) (e3.trans (nn hs)));have r4:=bytes_eq (h4.2 _ (wordL_text (.inr (.inr hl))) e4);have r8:=bytes_eq (h8.2 _ (wordL_text (hr.imp id .inl)) e8)
  have r9:(x9.toList == [49])=f9:=by
   rw [ByteArray.toList_eq,e9]
   cases f9 <;> rfl
  rw [h1 _ o1 e1,h5 _ o5 e5,h6 _ o6 e6,h7 _ o7 e7,r2,r3,r4,r8,r9]
 ·simp at hw
 ·simp at hw
theorem toldW_drop {x0 x1:ByteArray} {n1:Int} (h0:x0.data.toList= [100]) (h1:IsNum x1 n1):ToldW [x0,x1] ⟨2,zeroF,n1,0⟩:=by
 intro e' hm hw;obtain ⟨k,f,i,t⟩:=e';unfold wordsOf putWs at hw;simp only at hw;rcases hm with ⟨hk,_,hi,ht⟩ | ⟨hk,hf,hi,ht⟩ | ⟨hk,_,hi,ht⟩ <;> simp only at*<;> subst hk
 ·simp at hw
 ·subst hf; subst ht
  simp at hw
  rw [h1 _ hi hw.2]
 ·simp [h0] at hw
theorem toldW_clock {x0 x1:ByteArray} {n1:Int} (h0:x0.data.toList= [99]) (h1:IsNum x1 n1):ToldW [x0,x1] ⟨3,zeroF,0,n1⟩:=by
 intro e' hm hw;obtain ⟨k,f,i,t⟩:=e';unfold wordsOf putWs at hw;simp only at hw;rcases hm with ⟨hk,_,hi,ht⟩ | ⟨hk,hf,hi,ht⟩ | ⟨hk,hf,hi,ht⟩ <;> simp only at*<;> subst hk
 ·simp at hw
 ·simp [h0] at hw
 ·subst hf; subst hi
  simp at hw
  rw [h1 _ ht hw.2]
theorem toldW_no {ws:List ByteArray} {x0:ByteArray} (h0:ws[0]?=some x0) (hp:x0.data.toList= [112]→ws.length≠10) (hd:x0.data.toList= [100]→ws.length≠2) (hc:x0.data.toList= [99]→ws.length≠2) (e:E):ToldW ws e:=by
 intro e' hm hw;exfalso
 obtain ⟨k,f,i,t⟩:=e';have hl:=congrArg List.length hw;have hz:=congrArg (fun l=>l[0]?) hw;rw [List.length_map] at hl;simp only [List.getElem?_map,h0,Option.map_some] at hz;unfold wordsOf putWs at hl hz;simp only at hl hz;rcases hm with ⟨hk,_⟩ | ⟨hk,_⟩ | ⟨hk,_⟩ <;> simp only at hk <;> subst hk
 ·simp at hl hz
  exact hp hz hl
 ·simp at hl hz
  exact hd hz hl
 ·simp at hl hz
  exact hc hz hl
end Go.Proofs.YtlailakofhenkabGreatDoor
