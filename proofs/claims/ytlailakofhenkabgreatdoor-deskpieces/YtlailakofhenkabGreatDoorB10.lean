import Derived.Test.YtlailakofhenkabGreatDoorB9
set_option maxRecDepth 100000
set_option maxHeartbeats 4000000
namespace Go.Proofs.YtlailakofhenkabGreatDoor
open Go.RowKit Go.Extern.Stop Go.Stop Go.Extern
def ErrVar (w:World):Prop:=w.cell? ⟨0,0,none⟩=some (.iface 283 (.agg #[.pointer (some ⟨10,31,none⟩)]))
theorem as_hit (n:Int) (t:Addr) (old:Value) (w:World) (hg:ErrVar w) (ht0:w.cell? t=some old) (hf0:w.frozen? t=false) :
 Calls Tryz.prog 60 #[.iface 47 (.int .i64 n),.iface 123 (.pointer (some t))] w fun ev w'=>ev=.returned (.bool true)∧∃ w1,Below w.heap.size w w1∧w'=w1.setCell t (.int .i64 n):=by
 have h6:=@run_callFunc_extern Tryz.prog 121 _ (fun args=>ReflectliteValue.unpack (args.getD 0 (.tuple #[]))) Tryz.func121 (by kernel_rfl) (by kernel_rfl) (by kernel_rfl) (by kernel_rfl)
 have h7 := @run_callFunc_extern Tryz.prog 122 _ (ReflectliteValue.methodAny (ReflectliteValue.valueError "reflectlite.Value.Type" 0) (fun t _ _ _ => ReflectliteType.toType t)) Tryz.func122 (by kernel_rfl) (by kernel_rfl) (by kernel_rfl) (by kernel_rfl)
 have h8 := @run_callFunc_extern Tryz.prog 123 _ (ReflectliteValue.method (ReflectliteValue.valueError "reflectlite.Value.IsNil" 0) ReflectliteValue.isNil) Tryz.func123 (by kernel_rfl) (by kernel_rfl) (by kernel_rfl) (by kernel_rfl)
 have h27:=@run_callFunc_extern Tryz.prog 401 _ (ReflectliteType.abiMethod fun t=>do pure (.int .u8 (← Rtype.kind t))) Tryz.func401 (by kernel_rfl) (by kernel_rfl) (by kernel_rfl) (by kernel_rfl)
 have h37:=@run_callFunc_extern Tryz.prog 414 _ (ReflectliteType.method ReflectliteType.elem) Tryz.func414 (by kernel_rfl) (by kernel_rfl) (by kernel_rfl) (by kernel_rfl)
 have h38 := @run_callFunc_extern Tryz.prog 415 _ (ReflectliteType.relation "Implements" ReflectliteType.implements_) Tryz.func415 (by kernel_rfl) (by kernel_rfl) (by kernel_rfl) (by kernel_rfl)
 have h10:=@run_callFunc_extern Tryz.prog 195 _ ReflectliteType.typeOf Tryz.func195 (by kernel_rfl) (by kernel_rfl) (by kernel_rfl) (by kernel_rfl)
 have h35 := @run_callFunc_extern Tryz.prog 412 _ (ReflectliteType.relation "AssignableTo" ReflectliteType.assignableTo) Tryz.func412 (by kernel_rfl) (by kernel_rfl) (by kernel_rfl) (by kernel_rfl)
 have h11 := @run_callFunc_extern Tryz.prog 196 _ (ReflectliteValue.method (ReflectliteValue.valueError "reflectlite.Value.Elem" 0) ReflectliteValue.elem) Tryz.func196 (by kernel_rfl) (by kernel_rfl) (by kernel_rfl) (by kernel_rfl)
 have h12:=@run_callFunc_extern Tryz.prog 197 _ ReflectliteValue.set Tryz.func197 (by kernel_rfl) (by kernel_rfl) (by kernel_rfl) (by kernel_rfl)
 have tO:=ErrAs.typeOfE;have mA:=ErrAs.methodAssignableTo;have a25:=ErrAs.assignableE;have v25:=ErrAs.valueOfE n;have f6:=ErrAs.valueOfPE;have f7:=ErrAs.typePE;have mK:=ErrAs.methodKind;have mE:=ErrAs.methodElem;have mI:=ErrAs.methodImplements;have k27:=ErrAs.kindPE;have k25:=ErrAs.kindE;have e27:=ErrAs.elemPE;have i25:=ErrAs.implementsE;have n8:=ErrAs.isNilPE ⟨w.heap.size,0,none⟩ t ((w.alloc (.cells #[.pointer (some t)] 123)).alloc (.cells #[.pointer (some ⟨10,123,none⟩),.pointer (some ⟨w.heap.size,0,none⟩),.int .u64 150] 206)) (by simp)
 have hlt:0<w.heap.size:=World.block_lt_of_cell? _ _ hg
 have hg2:((w.alloc (.cells #[.pointer (some t)] 123)).alloc (.cells #[.pointer (some ⟨10,123,none⟩),.pointer (some ⟨w.heap.size,0,none⟩),.int .u64 150] 206)).cell? ⟨0,0,none⟩=some (.iface 283 (.agg #[.pointer (some ⟨10,31,none⟩)])):=by
  rw [World.cell?_alloc_lt _ _ ⟨0,0,none⟩ (by simp <;> omega),World.cell?_alloc_lt _ _ ⟨0,0,none⟩ hlt]; exact hg
 have htl:t.block<w.heap.size:=World.block_lt_of_cell? _ _ ht0;have el:=ErrAs.elemVPE ⟨w.heap.size,0,none⟩ t (((w.alloc (.cells #[.pointer (some t)] 123)).alloc (.cells #[.pointer (some ⟨10,123,none⟩),.pointer (some ⟨w.heap.size,0,none⟩),.int .u64 150] 206)).alloc (.cells #[.pointer (some ⟨10,123,none⟩),.pointer (some ⟨w.heap.size,0,none⟩),.int .u64 150] 206)) (by rw [World.cell?_alloc_lt _ _ ⟨w.heap.size,0,none⟩ (by simp; omega)]; simp)
 have st:=ErrAs.setE t ⟨w.heap.size+1+1+1,0,none⟩ n old ((((w.alloc (.cells #[.pointer (some t)] 123)).alloc (.cells #[.pointer (some ⟨10,123,none⟩),.pointer (some ⟨w.heap.size,0,none⟩),.int .u64 150] 206)).alloc (.cells #[.pointer (some ⟨10,123,none⟩),.pointer (some ⟨w.heap.size,0,none⟩),.int .u64 150] 206)).alloc (.cells #[.int .i64 n] 47))
  (by rw [World.cell?_alloc_at _ _ _ _ (by simp)]; rfl)
  (by rw [World.cell?_alloc_lt _ _ t (by simp; omega),World.cell?_alloc_lt _ _ t (by simp; omega),World.cell?_alloc_lt _ _ t (by simp; omega),World.cell?_alloc_lt _ _ t htl]; exact ht0)
  (by rw [World.frozen?_alloc_old _ _ t (by simp; omega),World.frozen?_alloc_old _ _ t (by simp; omega),World.frozen?_alloc_old _ _ t (by simp; omega),World.frozen?_alloc_old _ _ t (Nat.ne_of_lt htl)]; exact hf0)
 have HG:Hid (ErrVar w):=hg;clear hg;go_enter Tryz.func60,Tryz.ntmps60
 go_wp2
 refine wp_loop_rounds 1 ?_;rw [rounds_succ];go_wp2
 go_ret;refine ⟨rfl,_,?_,rfl⟩;repeat (first | exact Below.refl _ _ | refine Below.alloc ?_ (by simp; try omega) _)
theorem tell_nil (w:World):Calls Tryz.prog 18 #[.nilIface] w fun e w'=>e=.returned (.int .i64 0)∧w'=w:=by
 go_enter Tryz.func18,Tryz.ntmps18
 go_wp2_with fail
 go_ret;exact ⟨rfl,rfl⟩
theorem tell_err (n:Int) (w:World) (hg:ErrVar w):Calls Tryz.prog 18 #[.iface 47 (.int .i64 n)] w fun e w'=>e=.returned (.int .i64 n)∧Below w.heap.size w w':=by
 have hlt:0<w.heap.size:=World.block_lt_of_cell? _ _ hg;have HG:Hid (ErrVar w):=hg;clear hg;go_enter Tryz.func18,Tryz.ntmps18
 go_wp2_with fail
 refine (as_hit n _ (.int .i64 0) _ ?_ ?_ ?_).mono ?_
 ·exact (World.cell?_alloc_lt _ _ ⟨0,0,none⟩ hlt).trans HG.out
 ·simp
 ·simp
 rintro e w' ⟨rfl,w1,hb,rfl⟩;have hc:=(hb.cell (p:=⟨w.heap.size,0,none⟩) (by simp))
 have hc2:w1.cell? ⟨w.heap.size,0,none⟩=some (.int .i64 0):=by rw [hc]; simp
 go_wp2_with fail
 go_ret;refine ⟨rfl,?_⟩;exact (((Below.refl w.heap.size w).alloc (Nat.le_refl _) _).trans (hb.mono (by simp))).setCell (p:=⟨w.heap.size,0,none⟩) (Nat.le_refl _) _
end Go.Proofs.YtlailakofhenkabGreatDoor
namespace Go.Proofs.YtlailakofhenkabGreatDoor
open Go Go.RowKit
theorem ErrVar.on {w w':World} (h:ErrVar w) (hb:Below w.heap.size w w'):ErrVar w':=(hb.cell (p:=⟨0,0,none⟩) (World.block_lt_of_cell? _ _ h)).trans h
end Go.Proofs.YtlailakofhenkabGreatDoor
namespace Go.Proofs.YtlailakofhenkabGreatDoor
open Go Go.RowKit Tok Sc Ev
set_option maxHeartbeats 8000000
theorem words_of (s:ByteArray) (hs:s.size≤5000) :
 (Lib.splitB ⟨#[32]⟩ 0 (min 10 (s.size+1) - 1) s).map (·.data.toList)=Lib.splitK [32] 0 (min 10 (s.data.toList.length+1) - 1) s.data.toList∧
 0<(Lib.splitB ⟨#[32]⟩ 0 (min 10 (s.size+1) - 1) s).length∧(Lib.splitB ⟨#[32]⟩ 0 (min 10 (s.size+1) - 1) s).length≤5000∧
 ∀ x∈Lib.splitB ⟨#[32]⟩ 0 (min 10 (s.size+1) - 1) s,x.size≤5000:=by
 have h1:=Lib.splitB_data ⟨#[32]⟩ 0 (min 10 (s.size+1) - 1) s;rw [show (⟨#[32]⟩:ByteArray).data.toList= [32] from rfl] at h1
 have hl:s.data.toList.length=s.size:=Array.length_toList;have h2:=Lib.splitB_length_le ⟨#[32]⟩ 0 (min 10 (s.size+1) - 1) s;refine ⟨by rw [hl]; exact h1,?_,by omega,fun x hx=>?_⟩
 ·have:=splitK_pos 32 (min 10 (s.size+1) - 1) s.data.toList
  rw [← h1,List.length_map] at this;exact this
 ·have:=splitK_len 32 (min 10 (s.size+1) - 1) s.data.toList x.data.toList (by rw [← h1]; exact List.mem_map.2 ⟨x,hx,rfl⟩)
  have h3:x.data.toList.length=x.size:=Array.length_toList;omega
def ReadAs (s:ByteArray) (r:Ending):Prop:=(∃ e,Ev.may e∧s=bs8 (line e)∧r=.returned (.tuple #[evV e,.nilIface]))∨((∀ e,Ev.may e→s≠bs8 (line e))∧r=.returned (.tuple #[evV zeroE,.iface 47 (.int .i64 3)]))
theorem readE_is (s:ByteArray) (w:World) (hs:s.size≤5000) (hL:LibsA w):Calls Tryz.prog 59 #[.string s] w fun r w'=>ReadAs s r∧Below w.heap.size w w':=by
 obtain ⟨m,hm⟩:=hL.base.len;have HL:Hid (LibsA w):=hL;obtain ⟨hp1,hp2,hp3,hp4⟩:=words_of s hs;have hm1:=Lib.cell?_alloc_some (.cells #[.int .i64 0,.int .i64 0,.string ⟨#[]⟩,.string ⟨#[]⟩,.string ⟨#[]⟩,.int .i64 0,.int .i64 0,.int .i64 0,.string ⟨#[]⟩,.bool false,.int .i64 0,.int .i64 0] 42) hm;have hsp:=Tryz.strings_SplitN s ⟨#[32]⟩ 10 m _ (by omega) hm1 (by decide) (by decide) (by decide)
 generalize hP:Lib.splitB ⟨#[32]⟩ 0 (min 10 (s.size+1) - 1) s=ps at *;have HP:Hid (ps.map (·.data.toList)=Lib.splitK [32] 0 (min 10 (s.data.toList.length+1) - 1) s.data.toList):=hp1;generalize min 10 (s.size+1)=N at *;have HOW:Hid (∀ (g c:Nat) (W:World),WordsAt W g ps→LibsA W→Calls Tryz.prog 119 #[.slice (some ⟨g,0,none⟩) ps.length c] W fun r w'=>∃ e,r=.returned (evV e)∧ToldW ps e∧Small 5000 e.fam∧Below W.heap.size W w'):=fun g c W h1 h2=>ofWords_is ps g c W hp2 hp3 hp4 h1 h2;have HS:Hid (s.size≤5000):=hs;clear hp1 hP hL hp2 hp3 hp4 hs;go_enter Tryz.func59,Tryz.ntmps59
 go_wp2_with fail
 refine hsp.mono ?_;rintro e w1 ⟨rfl,rfl⟩;clear hsp hm1 hm;have hwa:=wordsAt_cellsOf (w.alloc (.cells #[.int .i64 0,.int .i64 0,.string ⟨#[]⟩,.string ⟨#[]⟩,.string ⟨#[]⟩,.int .i64 0,.int .i64 0,.int .i64 0,.string ⟨#[]⟩,.bool false,.int .i64 0,.int .i64 0] 42)) ps N 9;rw [show ((w.alloc (.cells #[.int .i64 0,.int .i64 0,.string ⟨#[]⟩,.string ⟨#[]⟩,.string ⟨#[]⟩,.int .i64 0,.int .i64 0,.int .i64 0,.string ⟨#[]⟩,.bool false,.int .i64 0,.int .i64 0] 42)):World).heap.size=w.heap.size+1 by simp] at hwa
 have HB1:Hid (Below w.heap.size w ((w.alloc (.cells #[.int .i64 0,.int .i64 0,.string ⟨#[]⟩,.string ⟨#[]⟩,.string ⟨#[]⟩,.int .i64 0,.int .i64 0,.int .i64 0,.string ⟨#[]⟩,.bool false,.int .i64 0,.int .i64 0] 42)).alloc (.cells (Lib.cellsOf ps N) 9))):=((Below.refl _ _).alloc (Nat.le_refl _) _).alloc (by simp) _
 have hL1:=HL.out.below HB1.out;have hbx:EvAt ((w.alloc (.cells #[.int .i64 0,.int .i64 0,.string ⟨#[]⟩,.string ⟨#[]⟩,.string ⟨#[]⟩,.int .i64 0,.int .i64 0,.int .i64 0,.string ⟨#[]⟩,.bool false,.int .i64 0,.int .i64 0] 42)).alloc (.cells (Lib.cellsOf ps N) 9)) w.heap.size zeroE:=(evAt_made w zeroE 42 _ rfl).on ((Below.refl _ _).alloc (Nat.le_refl _) _);have hfz:∀ i,((w.alloc (.cells #[.int .i64 0,.int .i64 0,.string ⟨#[]⟩,.string ⟨#[]⟩,.string ⟨#[]⟩,.int .i64 0,.int .i64 0,.int .i64 0,.string ⟨#[]⟩,.bool false,.int .i64 0,.int .i64 0] 42)).alloc (.cells (Lib.cellsOf ps N) 9)).frozen? ⟨w.heap.size,i,none⟩=false:=fun i=>(((Below.refl _ _).alloc (Nat.le_refl _) _).frozen (p:=⟨w.heap.size,i,none⟩) (by simp)).trans (World.frozen?_alloc_at _ _ _ _ rfl)
 have how:=HOW.out _ N _ hwa hL1;clear hwa hL1;go_wp2_with fail
 refine how.mono ?_;rintro e2 w2 ⟨e,rfl,ht,hsm,hb2⟩;have HB2:Hid (Below w.heap.size w w2):=HB1.out.trans (hb2.mono HB1.out.size);have HT:Hid (ToldW ps e):=ht;have HZ2:Hid (EvAt w2 w.heap.size zeroE):=hbx.on hb2;have HF2:Hid (∀ i,w2.frozen? ⟨w.heap.size,i,none⟩=false):=fun i=>(hb2.frozen (p:=⟨w.heap.size,i,none⟩) hbx.lt).trans (hfz i);have hE0:EvAt (w2.alloc (.cells #[.int .i64 e.kind,.int .i64 e.fam.id,.string e.fam.client,.string e.fam.subject,.string e.fam.scope,.int .i64 e.fam.gen,.int .i64 e.fam.made,.int .i64 e.fam.used,.string e.fam.request,.bool e.fam.dead,.int .i64 e.id,.int .i64 e.time] 42)) w2.heap.size e:=evAt_made w2 e 42 _ rfl
 have HB3:Hid (Below w.heap.size w (w2.alloc (.cells #[.int .i64 e.kind,.int .i64 e.fam.id,.string e.fam.client,.string e.fam.subject,.string e.fam.scope,.int .i64 e.fam.gen,.int .i64 e.fam.made,.int .i64 e.fam.used,.string e.fam.request,.bool e.fam.dead,.int .i64 e.id,.int .i64 e.time] 42))):=HB2.out.alloc HB2.out.size _;have hL3:=HL.out.below HB3.out;clear how hbx hfz ht hb2;by_cases hm:Ev.may e
 ·have hwr:=writeE_yes e _ hm hsm hL3.base
  have HM:Hid (Ev.may e):=hm;have HE0:Hid _:=hE0;have HSM:Hid (Small 5000 e.fam):=hsm;clear hm hL3 hE0 hsm;obtain ⟨k,⟨f1,f2,f3,f4,f5,f6,f7,f8,f9⟩,i,t⟩:=e;unfold evV evCs at hwr ⊢;simp only at hwr ⊢;go_wp2_with fail
  refine hwr.mono ?_;rintro e4 w4 ⟨rfl,hb4⟩;have HE4:Hid (EvAt w4 w2.heap.size ⟨k,⟨f1,f2,f3,f4,f5,f6,f7,f8,f9⟩,i,t⟩):=HE0.out.on hb4;have HB4:Hid (Below w.heap.size w w4):=HB3.out.trans (hb4.mono HB3.out.size);have d0:=HE4.out.c0; have d1:=HE4.out.fam.c0; have d2:=HE4.out.fam.c1; have d3:=HE4.out.fam.c2; have d4:=HE4.out.fam.c3; have d5:=HE4.out.fam.c4; have d6:=HE4.out.fam.c5; have d7:=HE4.out.fam.c6; have d8:=HE4.out.fam.c7; have d9:=HE4.out.fam.c8; have d10:=HE4.out.c10; have d11:=HE4.out.c11;simp only at d0 d1 d2 d3 d4 d5 d6 d7 d8 d9 d10 d11;have hz4:=(HZ2.out.on ((Below.refl _ _).alloc (Nat.le_refl _) _)).on hb4
  have fz:∀ i,w4.frozen? ⟨w.heap.size,i,none⟩=false:=fun i=>((hb4.frozen (p:=⟨w.heap.size,i,none⟩) (by have:=HZ2.out.lt; simp; omega)).trans (((Below.refl _ _).alloc (Nat.le_refl _) _).frozen (p:=⟨w.heap.size,i,none⟩) HZ2.out.lt)).trans (HF2.out i)
  have c0:=hz4.c0; have c1:=hz4.fam.c0; have c2:=hz4.fam.c1; have c3:=hz4.fam.c2; have c4:=hz4.fam.c3; have c5:=hz4.fam.c4; have c6:=hz4.fam.c5; have c7:=hz4.fam.c6; have c8:=hz4.fam.c7; have c9:=hz4.fam.c8; have c10:=hz4.c10; have c11:=hz4.c11;simp only [zeroE,zeroF] at c0 c1 c2 c3 c4 c5 c6 c7 c8 c9 c10 c11
  have HTH:Hid (∀ j,j<12→(w4.cell? ⟨w.heap.size,0+j,none⟩).isSome=true):=by
   show ∀ j,j<12→(w4.cell? ⟨w.heap.size,0+j,none⟩).isSome=true
   intro j hj;rw [Nat.zero_add];match j,hj with
   |0,_=>rw [c0]; rfl
   |1,_=>rw [c1]; rfl
   |2,_=>rw [c2]; rfl
   |3,_=>rw [c3]; rfl
   |4,_=>rw [c4]; rfl
   |5,_=>rw [c5]; rfl
   |6,_=>rw [c6]; rfl
   |7,_=>rw [c7]; rfl
   |8,_=>rw [c8]; rfl
   |9,_=>rw [c9]; rfl
   |10,_=>rw [c10]; rfl
   |11,_=>rw [c11]; rfl
  clear hz4;clear hwr hb4;generalize hx:bs8 (line ⟨k,⟨f1,f2,f3,f4,f5,f6,f7,f8,f9⟩,i,t⟩)=x at *;by_cases hxs:x=s
  ·subst hxs
   go_wp2_with fail
   have hth:∀ j,j<([.int .i64 k,.int .i64 f1,.string f2,.string f3,.string f4,.int .i64 f5,.int .i64 f6,.int .i64 f7,.string f8,.bool f9,.int .i64 i,.int .i64 t]:List Value).length→(w4.cell? ⟨w.heap.size,0+j,none⟩).isSome=true:=HTH.out;have HBF:Hid (Below w.heap.size w (w4.setCells w.heap.size 0 [.int .i64 k,.int .i64 f1,.string f2,.string f3,.string f4,.int .i64 f5,.int .i64 f6,.int .i64 f7,.string f8,.bool f9,.int .i64 i,.int .i64 t])):=HB4.out.trans (below_setCellsW (Nat.le_refl _) _ 0 w4);have q0:=World.cell?_setCells_in w.heap.size [.int .i64 k,.int .i64 f1,.string f2,.string f3,.string f4,.int .i64 f5,.int .i64 f6,.int .i64 f7,.string f8,.bool f9,.int .i64 i,.int .i64 t] 0 w4 hth 0 (by simp)
   have q1:=World.cell?_setCells_in w.heap.size [.int .i64 k,.int .i64 f1,.string f2,.string f3,.string f4,.int .i64 f5,.int .i64 f6,.int .i64 f7,.string f8,.bool f9,.int .i64 i,.int .i64 t] 0 w4 hth 1 (by simp)
   have q2:=World.cell?_setCells_in w.heap.size [.int .i64 k,.int .i64 f1,.string f2,.string f3,.string f4,.int .i64 f5,.int .i64 f6,.int .i64 f7,.string f8,.bool f9,.int .i64 i,.int .i64 t] 0 w4 hth 2 (by simp)
   have q3:=World.cell?_setCells_in w.heap.size [.int .i64 k,.int .i64 f1,.string f2,.string f3,.string f4,.int .i64 f5,.int .i64 f6,.int .i64 f7,.string f8,.bool f9,.int .i64 i,.int .i64 t] 0 w4 hth 3 (by simp)
   have q4:=World.cell?_setCells_in w.heap.size [.int .i64 k,.int .i64 f1,.string f2,.string f3,.string f4,.int .i64 f5,.int .i64 f6,.int .i64 f7,.string f8,.bool f9,.int .i64 i,.int .i64 t] 0 w4 hth 4 (by simp)
   have q5:=World.cell?_setCells_in w.heap.size [.int .i64 k,.int .i64 f1,.string f2,.string f3,.string f4,.int .i64 f5,.int .i64 f6,.int .i64 f7,.string f8,.bool f9,.int .i64 i,.int .i64 t] 0 w4 hth 5 (by simp)
   have q6:=World.cell?_setCells_in w.heap.size [.int .i64 k,.int .i64 f1,.string f2,.string f3,.string f4,.int .i64 f5,.int .i64 f6,.int .i64 f7,.string f8,.bool f9,.int .i64 i,.int .i64 t] 0 w4 hth 6 (by simp)
   have q7:=World.cell?_setCells_in w.heap.size [.int .i64 k,.int .i64 f1,.string f2,.string f3,.string f4,.int .i64 f5,.int .i64 f6,.int .i64 f7,.string f8,.bool f9,.int .i64 i,.int .i64 t] 0 w4 hth 7 (by simp)
   have q8:=World.cell?_setCells_in w.heap.size [.int .i64 k,.int .i64 f1,.string f2,.string f3,.string f4,.int .i64 f5,.int .i64 f6,.int .i64 f7,.string f8,.bool f9,.int .i64 i,.int .i64 t] 0 w4 hth 8 (by simp)
   have q9:=World.cell?_setCells_in w.heap.size [.int .i64 k,.int .i64 f1,.string f2,.string f3,.string f4,.int .i64 f5,.int .i64 f6,.int .i64 f7,.string f8,.bool f9,.int .i64 i,.int .i64 t] 0 w4 hth 9 (by simp)
   have q10:=World.cell?_setCells_in w.heap.size [.int .i64 k,.int .i64 f1,.string f2,.string f3,.string f4,.int .i64 f5,.int .i64 f6,.int .i64 f7,.string f8,.bool f9,.int .i64 i,.int .i64 t] 0 w4 hth 10 (by simp)
   have q11:=World.cell?_setCells_in w.heap.size [.int .i64 k,.int .i64 f1,.string f2,.string f3,.string f4,.int .i64 f5,.int .i64 f6,.int .i64 f7,.string f8,.bool f9,.int .i64 i,.int .i64 t] 0 w4 hth 11 (by simp)
   generalize hWW:World.setCell _ ⟨w.heap.size,11,none⟩ _=WW;have hW2:w4.setCells w.heap.size 0 [.int .i64 k,.int .i64 f1,.string f2,.string f3,.string f4,.int .i64 f5,.int .i64 f6,.int .i64 f7,.string f8,.bool f9,.int .i64 i,.int .i64 t]=WW:=hWW;have HB5:Hid (Below w.heap.size w WW):=by rw [← hW2]; exact HBF.out
   rw [hW2] at q0 q1 q2 q3 q4 q5 q6 q7 q8 q9 q10 q11;simp only [Nat.zero_add,List.getElem_cons_zero,List.getElem_cons_succ] at q0 q1 q2 q3 q4 q5 q6 q7 q8 q9 q10 q11;exact bodyPost_ret (v:=.tuple #[.agg #[.int .i64 k,.int .i64 f1,.string f2,.string f3,.string f4,.int .i64 f5,.int .i64 f6,.int .i64 f7,.string f8,.bool f9,.int .i64 i,.int .i64 t],.nilIface]) (by simp [results,Tryz.results59,go_sem,q0,q1,q2,q3,q4,q5,q6,q7,q8,q9,q10,q11]) rfl ⟨.inl ⟨_,HM.out,hx.symm,rfl⟩,HB5.out⟩
  ·have HNS:Hid (∀ e',Ev.may e'→s≠bs8 (line e')):=fun e' he hs=>by
    have h1:ps.map (·.data.toList)=wordsOf e':=by
     rw [HP.out,hs];exact split_line he
    have h2:=HT.out e' he h1;exact hxs (by rw [← hx,h2,hs])
   have hxb:(x.toList == s.toList)=false:=by
    rw [beq_eq_false_iff_ne];intro h;exact hxs (bytes_eq (by rwa [ByteArray.toList_eq,ByteArray.toList_eq] at h))
   go_wp2_with fail
   have hth:∀ j,j<([.int .i64 0,.int .i64 0,.string ⟨#[]⟩,.string ⟨#[]⟩,.string ⟨#[]⟩,.int .i64 0,.int .i64 0,.int .i64 0,.string ⟨#[]⟩,.bool false,.int .i64 0,.int .i64 0]:List Value).length→(w4.cell? ⟨w.heap.size,0+j,none⟩).isSome=true:=HTH.out;have HBF:Hid (Below w.heap.size w (w4.setCells w.heap.size 0 [.int .i64 0,.int .i64 0,.string ⟨#[]⟩,.string ⟨#[]⟩,.string ⟨#[]⟩,.int .i64 0,.int .i64 0,.int .i64 0,.string ⟨#[]⟩,.bool false,.int .i64 0,.int .i64 0])):=HB4.out.trans (below_setCellsW (Nat.le_refl _) _ 0 w4);have q0:=World.cell?_setCells_in w.heap.size [.int .i64 0,.int .i64 0,.string ⟨#[]⟩,.string ⟨#[]⟩,.string ⟨#[]⟩,.int .i64 0,.int .i64 0,.int .i64 0,.string ⟨#[]⟩,.bool false,.int .i64 0,.int .i64 0] 0 w4 hth 0 (by simp)
   have q1:=World.cell?_setCells_in w.heap.size [.int .i64 0,.int .i64 0,.string ⟨#[]⟩,.string ⟨#[]⟩,.string ⟨#[]⟩,.int .i64 0,.int .i64 0,.int .i64 0,.string ⟨#[]⟩,.bool false,.int .i64 0,.int .i64 0] 0 w4 hth 1 (by simp)
   have q2:=World.cell?_setCells_in w.heap.size [.int .i64 0,.int .i64 0,.string ⟨#[]⟩,.string ⟨#[]⟩,.string ⟨#[]⟩,.int .i64 0,.int .i64 0,.int .i64 0,.string ⟨#[]⟩,.bool false,.int .i64 0,.int .i64 0] 0 w4 hth 2 (by simp)
   have q3:=World.cell?_setCells_in w.heap.size [.int .i64 0,.int .i64 0,.string ⟨#[]⟩,.string ⟨#[]⟩,.string ⟨#[]⟩,.int .i64 0,.int .i64 0,.int .i64 0,.string ⟨#[]⟩,.bool false,.int .i64 0,.int .i64 0] 0 w4 hth 3 (by simp)
   have q4:=World.cell?_setCells_in w.heap.size [.int .i64 0,.int .i64 0,.string ⟨#[]⟩,.string ⟨#[]⟩,.string ⟨#[]⟩,.int .i64 0,.int .i64 0,.int .i64 0,.string ⟨#[]⟩,.bool false,.int .i64 0,.int .i64 0] 0 w4 hth 4 (by simp)
   have q5:=World.cell?_setCells_in w.heap.size [.int .i64 0,.int .i64 0,.string ⟨#[]⟩,.string ⟨#[]⟩,.string ⟨#[]⟩,.int .i64 0,.int .i64 0,.int .i64 0,.string ⟨#[]⟩,.bool false,.int .i64 0,.int .i64 0] 0 w4 hth 5 (by simp)
   have q6:=World.cell?_setCells_in w.heap.size [.int .i64 0,.int .i64 0,.string ⟨#[]⟩,.string ⟨#[]⟩,.string ⟨#[]⟩,.int .i64 0,.int .i64 0,.int .i64 0,.string ⟨#[]⟩,.bool false,.int .i64 0,.int .i64 0] 0 w4 hth 6 (by simp)
   have q7:=World.cell?_setCells_in w.heap.size [.int .i64 0,.int .i64 0,.string ⟨#[]⟩,.string ⟨#[]⟩,.string ⟨#[]⟩,.int .i64 0,.int .i64 0,.int .i64 0,.string ⟨#[]⟩,.bool false,.int .i64 0,.int .i64 0] 0 w4 hth 7 (by simp)
   have q8:=World.cell?_setCells_in w.heap.size [.int .i64 0,.int .i64 0,.string ⟨#[]⟩,.string ⟨#[]⟩,.string ⟨#[]⟩,.int .i64 0,.int .i64 0,.int .i64 0,.string ⟨#[]⟩,.bool false,.int .i64 0,.int .i64 0] 0 w4 hth 8 (by simp)
   have q9:=World.cell?_setCells_in w.heap.size [.int .i64 0,.int .i64 0,.string ⟨#[]⟩,.string ⟨#[]⟩,.string ⟨#[]⟩,.int .i64 0,.int .i64 0,.int .i64 0,.string ⟨#[]⟩,.bool false,.int .i64 0,.int .i64 0] 0 w4 hth 9 (by simp)
   have q10:=World.cell?_setCells_in w.heap.size [.int .i64 0,.int .i64 0,.string ⟨#[]⟩,.string ⟨#[]⟩,.string ⟨#[]⟩,.int .i64 0,.int .i64 0,.int .i64 0,.string ⟨#[]⟩,.bool false,.int .i64 0,.int .i64 0] 0 w4 hth 10 (by simp)
   have q11:=World.cell?_setCells_in w.heap.size [.int .i64 0,.int .i64 0,.string ⟨#[]⟩,.string ⟨#[]⟩,.string ⟨#[]⟩,.int .i64 0,.int .i64 0,.int .i64 0,.string ⟨#[]⟩,.bool false,.int .i64 0,.int .i64 0] 0 w4 hth 11 (by simp)
   generalize hWW:World.setCell _ ⟨w.heap.size,11,none⟩ _=WW;have hW2:w4.setCells w.heap.size 0 [.int .i64 0,.int .i64 0,.string ⟨#[]⟩,.string ⟨#[]⟩,.string ⟨#[]⟩,.int .i64 0,.int .i64 0,.int .i64 0,.string ⟨#[]⟩,.bool false,.int .i64 0,.int .i64 0]=WW:=hWW;have HB5:Hid (Below w.heap.size w WW):=by rw [← hW2]; exact HBF.out
   rw [hW2] at q0 q1 q2 q3 q4 q5 q6 q7 q8 q9 q10 q11;simp only [Nat.zero_add,List.getElem_cons_zero,List.getElem_cons_succ] at q0 q1 q2 q3 q4 q5 q6 q7 q8 q9 q10 q11;exact bodyPost_ret (v:=.tuple #[.agg #[.int .i64 0,.int .i64 0,.string ⟨#[]⟩,.string ⟨#[]⟩,.string ⟨#[]⟩,.int .i64 0,.int .i64 0,.int .i64 0,.string ⟨#[]⟩,.bool false,.int .i64 0,.int .i64 0],.iface 47 (.int .i64 3)]) (by simp [results,Tryz.results59,go_sem,q0,q1,q2,q3,q4,q5,q6,q7,q8,q9,q10,q11]) rfl ⟨.inr ⟨HNS.out,rfl⟩,HB5.out⟩
 ·have hwr:=writeE_no e _ hm hsm hL3.base.len
  have HM:Hid (¬ Ev.may e):=hm;clear hm hL3 hE0 hsm;obtain ⟨k,⟨f1,f2,f3,f4,f5,f6,f7,f8,f9⟩,i,t⟩:=e;unfold evV evCs at hwr ⊢;simp only at hwr ⊢;go_wp2_with fail
  refine hwr.mono ?_;rintro e4 w4 ⟨rfl,hb4⟩;have HB4:Hid (Below w.heap.size w w4):=HB3.out.trans (hb4.mono HB3.out.size);have hz4:=(HZ2.out.on ((Below.refl _ _).alloc (Nat.le_refl _) _)).on hb4;have fz:∀ i,w4.frozen? ⟨w.heap.size,i,none⟩=false:=fun i=>((hb4.frozen (p:=⟨w.heap.size,i,none⟩) (by have:=HZ2.out.lt; simp; omega)).trans (((Below.refl _ _).alloc (Nat.le_refl _) _).frozen (p:=⟨w.heap.size,i,none⟩) HZ2.out.lt)).trans (HF2.out i)
  have c0:=hz4.c0; have c1:=hz4.fam.c0; have c2:=hz4.fam.c1; have c3:=hz4.fam.c2; have c4:=hz4.fam.c3; have c5:=hz4.fam.c4; have c6:=hz4.fam.c5; have c7:=hz4.fam.c6; have c8:=hz4.fam.c7; have c9:=hz4.fam.c8; have c10:=hz4.c10; have c11:=hz4.c11;simp only [zeroE,zeroF] at c0 c1 c2 c3 c4 c5 c6 c7 c8 c9 c10 c11
  have HTH:Hid (∀ j,j<12→(w4.cell? ⟨w.heap.size,0+j,none⟩).isSome=true):=by
   show ∀ j,j<12→(w4.cell? ⟨w.heap.size,0+j,none⟩).isSome=true
   intro j hj;rw [Nat.zero_add];match j,hj with
   |0,_=>rw [c0]; rfl
   |1,_=>rw [c1]; rfl
   |2,_=>rw [c2]; rfl
   |3,_=>rw [c3]; rfl
   |4,_=>rw [c4]; rfl
   |5,_=>rw [c5]; rfl
   |6,_=>rw [c6]; rfl
   |7,_=>rw [c7]; rfl
   |8,_=>rw [c8]; rfl
   |9,_=>rw [c9]; rfl
   |10,_=>rw [c10]; rfl
   |11,_=>rw [c11]; rfl
  clear hz4;clear hwr hb4
  have HNS:Hid (∀ e',Ev.may e'→s≠bs8 (line e')):=fun e' he hs=>by
   have h1:ps.map (·.data.toList)=wordsOf e':=by
    rw [HP.out,hs];exact split_line he
   have h2:=HT.out e' he h1;exact HM.out (h2 ▸ he)
  go_wp2_with fail
  have hth:∀ j,j<([.int .i64 0,.int .i64 0,.string ⟨#[]⟩,.string ⟨#[]⟩,.string ⟨#[]⟩,.int .i64 0,.int .i64 0,.int .i64 0,.string ⟨#[]⟩,.bool false,.int .i64 0,.int .i64 0]:List Value).length→(w4.cell? ⟨w.heap.size,0+j,none⟩).isSome=true:=HTH.out;have HBF:Hid (Below w.heap.size w (w4.setCells w.heap.size 0 [.int .i64 0,.int .i64 0,.string ⟨#[]⟩,.string ⟨#[]⟩,.string ⟨#[]⟩,.int .i64 0,.int .i64 0,.int .i64 0,.string ⟨#[]⟩,.bool false,.int .i64 0,.int .i64 0])):=HB4.out.trans (below_setCellsW (Nat.le_refl _) _ 0 w4);have q0:=World.cell?_setCells_in w.heap.size [.int .i64 0,.int .i64 0,.string ⟨#[]⟩,.string ⟨#[]⟩,.string ⟨#[]⟩,.int .i64 0,.int .i64 0,.int .i64 0,.string ⟨#[]⟩,.bool false,.int .i64 0,.int .i64 0] 0 w4 hth 0 (by simp)
  have q1:=World.cell?_setCells_in w.heap.size [.int .i64 0,.int .i64 0,.string ⟨#[]⟩,.string ⟨#[]⟩,.string ⟨#[]⟩,.int .i64 0,.int .i64 0,.int .i64 0,.string ⟨#[]⟩,.bool false,.int .i64 0,.int .i64 0] 0 w4 hth 1 (by simp)
  have q2:=World.cell?_setCells_in w.heap.size [.int .i64 0,.int .i64 0,.string ⟨#[]⟩,.string ⟨#[]⟩,.string ⟨#[]⟩,.int .i64 0,.int .i64 0,.int .i64 0,.string ⟨#[]⟩,.bool false,.int .i64 0,.int .i64 0] 0 w4 hth 2 (by simp)
  have q3:=World.cell?_setCells_in w.heap.size [.int .i64 0,.int .i64 0,.string ⟨#[]⟩,.string ⟨#[]⟩,.string ⟨#[]⟩,.int .i64 0,.int .i64 0,.int .i64 0,.string ⟨#[]⟩,.bool false,.int .i64 0,.int .i64 0] 0 w4 hth 3 (by simp)
  have q4:=World.cell?_setCells_in w.heap.size [.int .i64 0,.int .i64 0,.string ⟨#[]⟩,.string ⟨#[]⟩,.string ⟨#[]⟩,.int .i64 0,.int .i64 0,.int .i64 0,.string ⟨#[]⟩,.bool false,.int .i64 0,.int .i64 0] 0 w4 hth 4 (by simp)
  have q5:=World.cell?_setCells_in w.heap.size [.int .i64 0,.int .i64 0,.string ⟨#[]⟩,.string ⟨#[]⟩,.string ⟨#[]⟩,.int .i64 0,.int .i64 0,.int .i64 0,.string ⟨#[]⟩,.bool false,.int .i64 0,.int .i64 0] 0 w4 hth 5 (by simp)
  have q6:=World.cell?_setCells_in w.heap.size [.int .i64 0,.int .i64 0,.string ⟨#[]⟩,.string ⟨#[]⟩,.string ⟨#[]⟩,.int .i64 0,.int .i64 0,.int .i64 0,.string ⟨#[]⟩,.bool false,.int .i64 0,.int .i64 0] 0 w4 hth 6 (by simp)
  have q7:=World.cell?_setCells_in w.heap.size [.int .i64 0,.int .i64 0,.string ⟨#[]⟩,.string ⟨#[]⟩,.string ⟨#[]⟩,.int .i64 0,.int .i64 0,.int .i64 0,.string ⟨#[]⟩,.bool false,.int .i64 0,.int .i64 0] 0 w4 hth 7 (by simp)
  have q8:=World.cell?_setCells_in w.heap.size [.int .i64 0,.int .i64 0,.string ⟨#[]⟩,.string ⟨#[]⟩,.string ⟨#[]⟩,.int .i64 0,.int .i64 0,.int .i64 0,.string ⟨#[]⟩,.bool false,.int .i64 0,.int .i64 0] 0 w4 hth 8 (by simp)
  have q9:=World.cell?_setCells_in w.heap.size [.int .i64 0,.int .i64 0,.string ⟨#[]⟩,.string ⟨#[]⟩,.string ⟨#[]⟩,.int .i64 0,.int .i64 0,.int .i64 0,.string ⟨#[]⟩,.bool false,.int .i64 0,.int .i64 0] 0 w4 hth 9 (by simp)
  have q10:=World.cell?_setCells_in w.heap.size [.int .i64 0,.int .i64 0,.string ⟨#[]⟩,.string ⟨#[]⟩,.string ⟨#[]⟩,.int .i64 0,.int .i64 0,.int .i64 0,.string ⟨#[]⟩,.bool false,.int .i64 0,.int .i64 0] 0 w4 hth 10 (by simp)
  have q11:=World.cell?_setCells_in w.heap.size [.int .i64 0,.int .i64 0,.string ⟨#[]⟩,.string ⟨#[]⟩,.string ⟨#[]⟩,.int .i64 0,.int .i64 0,.int .i64 0,.string ⟨#[]⟩,.bool false,.int .i64 0,.int .i64 0] 0 w4 hth 11 (by simp)
  generalize hWW:World.setCell _ ⟨w.heap.size,11,none⟩ _=WW;have hW2:w4.setCells w.heap.size 0 [.int .i64 0,.int .i64 0,.string ⟨#[]⟩,.string ⟨#[]⟩,.string ⟨#[]⟩,.int .i64 0,.int .i64 0,.int .i64 0,.string ⟨#[]⟩,.bool false,.int .i64 0,.int .i64 0]=WW:=hWW;have HB5:Hid (Below w.heap.size w WW):=by rw [← hW2]; exact HBF.out
  rw [hW2] at q0 q1 q2 q3 q4 q5 q6 q7 q8 q9 q10 q11;simp only [Nat.zero_add,List.getElem_cons_zero,List.getElem_cons_succ] at q0 q1 q2 q3 q4 q5 q6 q7 q8 q9 q10 q11;exact bodyPost_ret (v:=.tuple #[.agg #[.int .i64 0,.int .i64 0,.string ⟨#[]⟩,.string ⟨#[]⟩,.string ⟨#[]⟩,.int .i64 0,.int .i64 0,.int .i64 0,.string ⟨#[]⟩,.bool false,.int .i64 0,.int .i64 0],.iface 47 (.int .i64 3)]) (by simp [results,Tryz.results59,go_sem,q0,q1,q2,q3,q4,q5,q6,q7,q8,q9,q10,q11]) rfl ⟨.inr ⟨HNS.out,rfl⟩,HB5.out⟩
end Go.Proofs.YtlailakofhenkabGreatDoor
