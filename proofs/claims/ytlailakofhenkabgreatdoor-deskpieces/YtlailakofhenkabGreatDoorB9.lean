import Derived.Test.YtlailakofhenkabGreatDoorB8
import Derived.Stop.Asserts
set_option maxRecDepth 100000
set_option maxHeartbeats 16000000
namespace Go.Proofs.YtlailakofhenkabGreatDoor
open Go Go.RowKit Tok Sc Ev
def Olds (n:Nat):Prop:=4<n∧5<n∧3<n∧2<n
theorem olds_of {w:World} (h:LibsA w):Olds w.heap.size:=by
 obtain ⟨_,h1,_⟩:=h.syn;obtain ⟨_,h2,_⟩:=h.rng;obtain ⟨_,h3⟩:=h.base.len;exact ⟨World.block_lt_of_cell? _ _ h1,World.block_lt_of_cell? _ _ h2,h.base.big,World.block_lt_of_cell? _ _ h3⟩
theorem os_made (w:World) (g:Nat) (ws:List ByteArray) (cs:Array Value) (t:TypeId) (hc:cs.size=12) (hL:LibsA w) (hw:WordsAt w g ws):OS w w.heap.size g ws (w.alloc (.cells cs t)) where
 libs:=hL.below ((Below.refl _ _).alloc (Nat.le_refl _) _)
 words:=⟨by simp; have:=hw.1; omega,fun j x hj=>Lib.cell?_alloc_some _ (hw.2 j x hj)⟩
 lt:=by simp
 new:=Nat.le_refl _
 ne:=by have:=hw.1; omega
 there:=fun i hi=>by
  rw [World.cell?_alloc_at _ _ _ _ rfl,Array.getElem?_eq_getElem (by omega)]
  rfl
 free:=fun i=>World.frozen?_alloc_at _ _ _ _ rfl
 below:=(Below.refl _ _).alloc (Nat.le_refl _) _
 old:=olds_of hL
theorem ofWords_put (x0 x1 x2 x3 x4 x5 x6 x7 x8 x9:ByteArray) (g c:Nat) (w:World) (h0:x0.data.toList= [112]) (hs:∀ x∈ [x0,x1,x2,x3,x4,x5,x6,x7,x8,x9],x.size≤5000) (hw:WordsAt w g [x0,x1,x2,x3,x4,x5,x6,x7,x8,x9]) (hL:LibsA w) :
 Calls Tryz.prog 119 #[.slice (some ⟨g,0,none⟩) 10 c] w fun r w'=>∃ e,r=.returned (evV e)∧ToldW [x0,x1,x2,x3,x4,x5,x6,x7,x8,x9] e∧Small 5000 e.fam∧Below w.heap.size w w':=by
 obtain rfl:x0=⟨#[112]⟩:=bytes_eq h0;have s1:=hs x1 (by simp)
 have s2:=hs x2 (by simp)
 have s3:=hs x3 (by simp)
 have s4:=hs x4 (by simp)
 have s5:=hs x5 (by simp)
 have s6:=hs x6 (by simp)
 have s7:=hs x7 (by simp)
 have s8:=hs x8 (by simp)
 have hos:=os_made w g _ #[.int .i64 0,.int .i64 0,.string ⟨#[]⟩,.string ⟨#[]⟩,.string ⟨#[]⟩,.int .i64 0,.int .i64 0,.int .i64 0,.string ⟨#[]⟩,.bool false,.int .i64 0,.int .i64 0] 42 rfl hL hw;have cc:=(os_allA hos);have d0:=cc.1;have i1:=fun (W:World) (hW:LibsA W)=>numberOf_is x1 W (by omega) hW
 have i5:=fun (W:World) (hW:LibsA W)=>numberOf_is x5 W (by omega) hW
 have i6:=fun (W:World) (hW:LibsA W)=>numberOf_is x6 W (by omega) hW
 have i7:=fun (W:World) (hW:LibsA W)=>numberOf_is x7 W (by omega) hW
 have i2:=fun (W:World)=>textOf_is x2 W (by omega)
 have i3:=fun (W:World)=>textOf_is x3 W (by omega)
 have i4:=fun (W:World)=>textOf_is x4 W (by omega)
 have i8:=fun (W:World)=>textOf_is x8 W (by omega)
 have HS2:Hid (x2.size≤5000∧x3.size≤5000∧x4.size≤5000∧x8.size≤5000):=⟨s2,s3,s4,s8⟩;clear s1 s2 s3 s4 s5 s6 s7 s8 hs hw hL h0 cc;go_enter Tryz.func119,Tryz.ntmps119
 go_wp2_with fail
 clear d0;generalize hb:w.heap.size=b at *;generalize (w.alloc (.cells #[.int .i64 0,.int .i64 0,.string ⟨#[]⟩,.string ⟨#[]⟩,.string ⟨#[]⟩,.int .i64 0,.int .i64 0,.int .i64 0,.string ⟨#[]⟩,.bool false,.int .i64 0,.int .i64 0] 42))=W at *;have HBQ:Hid (w.heap.size=b):=hb;clear hb
 go_region_held3 (fun w'=>(w'.cell? ⟨g,0,none⟩=some (.string ⟨#[112]⟩)∧w'.cell? ⟨g,1,none⟩=some (.string x1)∧w'.cell? ⟨g,2,none⟩=some (.string x2)∧w'.cell? ⟨g,3,none⟩=some (.string x3)∧w'.cell? ⟨g,4,none⟩=some (.string x4)∧w'.cell? ⟨g,5,none⟩=some (.string x5)∧w'.cell? ⟨g,6,none⟩=some (.string x6)∧w'.cell? ⟨g,7,none⟩=some (.string x7)∧w'.cell? ⟨g,8,none⟩=some (.string x8)∧w'.cell? ⟨g,9,none⟩=some (.string x9)∧w'.cell? ⟨b,0,none⟩=some (peek w' b 0)∧w'.cell? ⟨b,1,none⟩=some (peek w' b 1)∧w'.cell? ⟨b,2,none⟩=some (peek w' b 2)∧w'.cell? ⟨b,3,none⟩=some (peek w' b 3)∧w'.cell? ⟨b,4,none⟩=some (peek w' b 4)∧w'.cell? ⟨b,5,none⟩=some (peek w' b 5)∧w'.cell? ⟨b,6,none⟩=some (peek w' b 6)∧w'.cell? ⟨b,7,none⟩=some (peek w' b 7)∧w'.cell? ⟨b,8,none⟩=some (peek w' b 8)∧w'.cell? ⟨b,9,none⟩=some (peek w' b 9)∧w'.cell? ⟨b,10,none⟩=some (peek w' b 10)∧w'.cell? ⟨b,11,none⟩=some (peek w' b 11)∧(∀ i,w'.frozen? ⟨b,i,none⟩=false)∧OS w b g [⟨#[112]⟩,x1,x2,x3,x4,x5,x6,x7,x8,x9] w'))
  (first | (refine os_setA ?_; (repeat refine OS.set ?_ _ _); exact os_ofA (by assumption)) | exact os_drewA hos | exact os_keepA (by assumption) (by assumption))
  (first
   |(go_at_call_of 193 (Value.string x1); refine (i1 _ (os_libsA (by assumption))).mono ?_; rintro e w1 ⟨n1,rfl,hb1,hv1⟩)
   |(go_at_call_of 194 (Value.string x2); refine (i2 _).mono ?_; rintro e w2 ⟨t2,rfl,hb2,hv2⟩)
   |(go_at_call_of 194 (Value.string x3); refine (i3 _).mono ?_; rintro e w3 ⟨t3,rfl,hb3,hv3⟩)
   |(go_at_call_of 194 (Value.string x4); refine (i4 _).mono ?_; rintro e w4 ⟨t4,rfl,hb4,hv4⟩)
   |(go_at_call_of 193 (Value.string x5); refine (i5 _ (os_libsA (by assumption))).mono ?_; rintro e w5 ⟨n5,rfl,hb5,hv5⟩)
   |(go_at_call_of 193 (Value.string x6); refine (i6 _ (os_libsA (by assumption))).mono ?_; rintro e w6 ⟨n6,rfl,hb6,hv6⟩)
   |(go_at_call_of 193 (Value.string x7); refine (i7 _ (os_libsA (by assumption))).mono ?_; rintro e w7 ⟨n7,rfl,hb7,hv7⟩)
   |(go_at_call_of 194 (Value.string x8); refine (i8 _).mono ?_; rintro e w8 ⟨t8,rfl,hb8,hv8⟩; have hos8:=os_ofA (os_keepA (w0:=w) (b:=b) (g:=g) (by assumption) hb8)))
 have hth:∀ j,j<([.int .i64 1,.int .i64 n1,.string t2,.string t3,.string t4,.int .i64 n5,.int .i64 n6,.int .i64 n7,.string t8,.bool (x9.toList == [49]),.int .i64 0,.int .i64 0]:List Value).length→(w8.cell? ⟨b,0+j,none⟩).isSome=true:=fun j hj=>by rw [Nat.zero_add]; exact hos8.there j hj
 have HBF:Hid (Below w.heap.size w (w8.setCells b 0 [.int .i64 1,.int .i64 n1,.string t2,.string t3,.string t4,.int .i64 n5,.int .i64 n6,.int .i64 n7,.string t8,.bool (x9.toList == [49]),.int .i64 0,.int .i64 0])):=hos8.below.trans (below_setCellsW hos8.new _ 0 w8);have q0:=World.cell?_setCells_in b [.int .i64 1,.int .i64 n1,.string t2,.string t3,.string t4,.int .i64 n5,.int .i64 n6,.int .i64 n7,.string t8,.bool (x9.toList == [49]),.int .i64 0,.int .i64 0] 0 w8 hth 0 (by simp)
 have q1:=World.cell?_setCells_in b [.int .i64 1,.int .i64 n1,.string t2,.string t3,.string t4,.int .i64 n5,.int .i64 n6,.int .i64 n7,.string t8,.bool (x9.toList == [49]),.int .i64 0,.int .i64 0] 0 w8 hth 1 (by simp)
 have q2:=World.cell?_setCells_in b [.int .i64 1,.int .i64 n1,.string t2,.string t3,.string t4,.int .i64 n5,.int .i64 n6,.int .i64 n7,.string t8,.bool (x9.toList == [49]),.int .i64 0,.int .i64 0] 0 w8 hth 2 (by simp)
 have q3:=World.cell?_setCells_in b [.int .i64 1,.int .i64 n1,.string t2,.string t3,.string t4,.int .i64 n5,.int .i64 n6,.int .i64 n7,.string t8,.bool (x9.toList == [49]),.int .i64 0,.int .i64 0] 0 w8 hth 3 (by simp)
 have q4:=World.cell?_setCells_in b [.int .i64 1,.int .i64 n1,.string t2,.string t3,.string t4,.int .i64 n5,.int .i64 n6,.int .i64 n7,.string t8,.bool (x9.toList == [49]),.int .i64 0,.int .i64 0] 0 w8 hth 4 (by simp)
 have q5:=World.cell?_setCells_in b [.int .i64 1,.int .i64 n1,.string t2,.string t3,.string t4,.int .i64 n5,.int .i64 n6,.int .i64 n7,.string t8,.bool (x9.toList == [49]),.int .i64 0,.int .i64 0] 0 w8 hth 5 (by simp)
 have q6:=World.cell?_setCells_in b [.int .i64 1,.int .i64 n1,.string t2,.string t3,.string t4,.int .i64 n5,.int .i64 n6,.int .i64 n7,.string t8,.bool (x9.toList == [49]),.int .i64 0,.int .i64 0] 0 w8 hth 6 (by simp)
 have q7:=World.cell?_setCells_in b [.int .i64 1,.int .i64 n1,.string t2,.string t3,.string t4,.int .i64 n5,.int .i64 n6,.int .i64 n7,.string t8,.bool (x9.toList == [49]),.int .i64 0,.int .i64 0] 0 w8 hth 7 (by simp)
 have q8:=World.cell?_setCells_in b [.int .i64 1,.int .i64 n1,.string t2,.string t3,.string t4,.int .i64 n5,.int .i64 n6,.int .i64 n7,.string t8,.bool (x9.toList == [49]),.int .i64 0,.int .i64 0] 0 w8 hth 8 (by simp)
 have q9:=World.cell?_setCells_in b [.int .i64 1,.int .i64 n1,.string t2,.string t3,.string t4,.int .i64 n5,.int .i64 n6,.int .i64 n7,.string t8,.bool (x9.toList == [49]),.int .i64 0,.int .i64 0] 0 w8 hth 9 (by simp)
 have q10:=World.cell?_setCells_in b [.int .i64 1,.int .i64 n1,.string t2,.string t3,.string t4,.int .i64 n5,.int .i64 n6,.int .i64 n7,.string t8,.bool (x9.toList == [49]),.int .i64 0,.int .i64 0] 0 w8 hth 10 (by simp)
 have q11:=World.cell?_setCells_in b [.int .i64 1,.int .i64 n1,.string t2,.string t3,.string t4,.int .i64 n5,.int .i64 n6,.int .i64 n7,.string t8,.bool (x9.toList == [49]),.int .i64 0,.int .i64 0] 0 w8 hth 11 (by simp)
 generalize hWW:World.setCell _ ⟨b,11,none⟩ _=WW;have hW2:w8.setCells b 0 [.int .i64 1,.int .i64 n1,.string t2,.string t3,.string t4,.int .i64 n5,.int .i64 n6,.int .i64 n7,.string t8,.bool (x9.toList == [49]),.int .i64 0,.int .i64 0]=WW:=hWW;have HB2:Hid (Below w.heap.size w WW):=by rw [← hW2]; exact HBF.out
 rw [hW2] at q0 q1 q2 q3 q4 q5 q6 q7 q8 q9 q10 q11;simp only [Nat.zero_add,List.getElem_cons_zero,List.getElem_cons_succ] at q0 q1 q2 q3 q4 q5 q6 q7 q8 q9 q10 q11;clear hW2 hWW hth HBF hos8;go_wp2_with fail
 exact bodyPost_ret (v:=.agg #[.int .i64 1,.int .i64 n1,.string t2,.string t3,.string t4,.int .i64 n5,.int .i64 n6,.int .i64 n7,.string t8,.bool (x9.toList == [49]),.int .i64 0,.int .i64 0]) (by simp [results,Tryz.results119,go_sem,q0,q1,q2,q3,q4,q5,q6,q7,q8,q9,q10,q11]) rfl ⟨⟨1,⟨n1,t2,t3,t4,n5,n6,n7,t8,x9.toList == [49]⟩,0,0⟩,rfl,toldW_put hv1 hv5 hv6 hv7 hv2 hv3 hv4 hv8,⟨Nat.le_trans hv2.1 HS2.out.1,Nat.le_trans hv3.1 HS2.out.2.1,Nat.le_trans hv4.1 HS2.out.2.2.1,Nat.le_trans hv8.1 HS2.out.2.2.2⟩,HB2.out⟩
theorem ofWords_drop (x0 x1:ByteArray) (g c:Nat) (w:World) (h0:x0.data.toList= [100]) (hs:x1.size≤5000) (hw:WordsAt w g [x0,x1]) (hL:LibsA w) :
 Calls Tryz.prog 119 #[.slice (some ⟨g,0,none⟩) 2 c] w fun r w'=>∃ e,r=.returned (evV e)∧ToldW [x0,x1] e∧Small 5000 e.fam∧Below w.heap.size w w':=by
 obtain rfl:x0=⟨#[100]⟩:=bytes_eq h0;have hos:=os_made w g _ #[.int .i64 0,.int .i64 0,.string ⟨#[]⟩,.string ⟨#[]⟩,.string ⟨#[]⟩,.int .i64 0,.int .i64 0,.int .i64 0,.string ⟨#[]⟩,.bool false,.int .i64 0,.int .i64 0] 42 rfl hL hw;have cc:=os_allB hos;have d0:=cc.1;have d1:=cc.2.1;have i1:=fun (W:World) (hW:LibsA W)=>numberOf_is x1 W (by omega) hW
 clear hs hw hL h0 cc;go_enter Tryz.func119,Tryz.ntmps119
 go_wp2_with fail
 have HOS:Hid _:=hos;clear hos d0 d1;refine (i1 _ HOS.out.libs).mono ?_;rintro e w1 ⟨n1,rfl,hb1,hv1⟩;have hos8:=HOS.out.on hb1;have HO8:Hid _:=hos8;obtain ⟨_,_,c0,c1,c2,c3,c4,c5,c6,c7,c8,c9,c10,c11,fz,_⟩:=os_allB hos8;clear HOS;have hth:∀ j,j<([.int .i64 2,.int .i64 0,.string ⟨#[]⟩,.string ⟨#[]⟩,.string ⟨#[]⟩,.int .i64 0,.int .i64 0,.int .i64 0,.string ⟨#[]⟩,.bool false,.int .i64 n1,.int .i64 0]:List Value).length→(w1.cell? ⟨w.heap.size,0+j,none⟩).isSome=true:=fun j hj=>by rw [Nat.zero_add]; exact hos8.there j hj
 have HBF:Hid (Below w.heap.size w (w1.setCells w.heap.size 0 [.int .i64 2,.int .i64 0,.string ⟨#[]⟩,.string ⟨#[]⟩,.string ⟨#[]⟩,.int .i64 0,.int .i64 0,.int .i64 0,.string ⟨#[]⟩,.bool false,.int .i64 n1,.int .i64 0])):=hos8.below.trans (below_setCellsW hos8.new _ 0 w1);have q0:=World.cell?_setCells_in w.heap.size [.int .i64 2,.int .i64 0,.string ⟨#[]⟩,.string ⟨#[]⟩,.string ⟨#[]⟩,.int .i64 0,.int .i64 0,.int .i64 0,.string ⟨#[]⟩,.bool false,.int .i64 n1,.int .i64 0] 0 w1 hth 0 (by simp)
 have q1:=World.cell?_setCells_in w.heap.size [.int .i64 2,.int .i64 0,.string ⟨#[]⟩,.string ⟨#[]⟩,.string ⟨#[]⟩,.int .i64 0,.int .i64 0,.int .i64 0,.string ⟨#[]⟩,.bool false,.int .i64 n1,.int .i64 0] 0 w1 hth 1 (by simp)
 have q2:=World.cell?_setCells_in w.heap.size [.int .i64 2,.int .i64 0,.string ⟨#[]⟩,.string ⟨#[]⟩,.string ⟨#[]⟩,.int .i64 0,.int .i64 0,.int .i64 0,.string ⟨#[]⟩,.bool false,.int .i64 n1,.int .i64 0] 0 w1 hth 2 (by simp)
 have q3:=World.cell?_setCells_in w.heap.size [.int .i64 2,.int .i64 0,.string ⟨#[]⟩,.string ⟨#[]⟩,.string ⟨#[]⟩,.int .i64 0,.int .i64 0,.int .i64 0,.string ⟨#[]⟩,.bool false,.int .i64 n1,.int .i64 0] 0 w1 hth 3 (by simp)
 have q4:=World.cell?_setCells_in w.heap.size [.int .i64 2,.int .i64 0,.string ⟨#[]⟩,.string ⟨#[]⟩,.string ⟨#[]⟩,.int .i64 0,.int .i64 0,.int .i64 0,.string ⟨#[]⟩,.bool false,.int .i64 n1,.int .i64 0] 0 w1 hth 4 (by simp)
 have q5:=World.cell?_setCells_in w.heap.size [.int .i64 2,.int .i64 0,.string ⟨#[]⟩,.string ⟨#[]⟩,.string ⟨#[]⟩,.int .i64 0,.int .i64 0,.int .i64 0,.string ⟨#[]⟩,.bool false,.int .i64 n1,.int .i64 0] 0 w1 hth 5 (by simp)
 have q6:=World.cell?_setCells_in w.heap.size [.int .i64 2,.int .i64 0,.string ⟨#[]⟩,.string ⟨#[]⟩,.string ⟨#[]⟩,.int .i64 0,.int .i64 0,.int .i64 0,.string ⟨#[]⟩,.bool false,.int .i64 n1,.int .i64 0] 0 w1 hth 6 (by simp)
 have q7:=World.cell?_setCells_in w.heap.size [.int .i64 2,.int .i64 0,.string ⟨#[]⟩,.string ⟨#[]⟩,.string ⟨#[]⟩,.int .i64 0,.int .i64 0,.int .i64 0,.string ⟨#[]⟩,.bool false,.int .i64 n1,.int .i64 0] 0 w1 hth 7 (by simp)
 have q8:=World.cell?_setCells_in w.heap.size [.int .i64 2,.int .i64 0,.string ⟨#[]⟩,.string ⟨#[]⟩,.string ⟨#[]⟩,.int .i64 0,.int .i64 0,.int .i64 0,.string ⟨#[]⟩,.bool false,.int .i64 n1,.int .i64 0] 0 w1 hth 8 (by simp)
 have q9:=World.cell?_setCells_in w.heap.size [.int .i64 2,.int .i64 0,.string ⟨#[]⟩,.string ⟨#[]⟩,.string ⟨#[]⟩,.int .i64 0,.int .i64 0,.int .i64 0,.string ⟨#[]⟩,.bool false,.int .i64 n1,.int .i64 0] 0 w1 hth 9 (by simp)
 have q10:=World.cell?_setCells_in w.heap.size [.int .i64 2,.int .i64 0,.string ⟨#[]⟩,.string ⟨#[]⟩,.string ⟨#[]⟩,.int .i64 0,.int .i64 0,.int .i64 0,.string ⟨#[]⟩,.bool false,.int .i64 n1,.int .i64 0] 0 w1 hth 10 (by simp)
 have q11:=World.cell?_setCells_in w.heap.size [.int .i64 2,.int .i64 0,.string ⟨#[]⟩,.string ⟨#[]⟩,.string ⟨#[]⟩,.int .i64 0,.int .i64 0,.int .i64 0,.string ⟨#[]⟩,.bool false,.int .i64 n1,.int .i64 0] 0 w1 hth 11 (by simp)
 go_wp2_with fail
 generalize hWW:World.setCell _ ⟨w.heap.size,11,none⟩ _=WW;have hW2:w1.setCells w.heap.size 0 [.int .i64 2,.int .i64 0,.string ⟨#[]⟩,.string ⟨#[]⟩,.string ⟨#[]⟩,.int .i64 0,.int .i64 0,.int .i64 0,.string ⟨#[]⟩,.bool false,.int .i64 n1,.int .i64 0]=WW:=hWW;have HB2:Hid (Below w.heap.size w WW):=by rw [← hW2]; exact HBF.out
 rw [hW2] at q0 q1 q2 q3 q4 q5 q6 q7 q8 q9 q10 q11;simp only [Nat.zero_add,List.getElem_cons_zero,List.getElem_cons_succ] at q0 q1 q2 q3 q4 q5 q6 q7 q8 q9 q10 q11;clear hW2 hWW hth HBF hos8 c0 c1 c2 c3 c4 c5 c6 c7 c8 c9 c10 c11 fz;exact bodyPost_ret (v:=.agg #[.int .i64 2,.int .i64 0,.string ⟨#[]⟩,.string ⟨#[]⟩,.string ⟨#[]⟩,.int .i64 0,.int .i64 0,.int .i64 0,.string ⟨#[]⟩,.bool false,.int .i64 n1,.int .i64 0]) (by simp [results,Tryz.results119,go_sem,q0,q1,q2,q3,q4,q5,q6,q7,q8,q9,q10,q11]) rfl ⟨⟨2,zeroF,n1,0⟩,rfl,toldW_drop rfl hv1,⟨Nat.zero_le _,Nat.zero_le _,Nat.zero_le _,Nat.zero_le _⟩,HB2.out⟩
theorem ofWords_clock (x0 x1:ByteArray) (g c:Nat) (w:World) (h0:x0.data.toList= [99]) (hs:x1.size≤5000) (hw:WordsAt w g [x0,x1]) (hL:LibsA w) :
 Calls Tryz.prog 119 #[.slice (some ⟨g,0,none⟩) 2 c] w fun r w'=>∃ e,r=.returned (evV e)∧ToldW [x0,x1] e∧Small 5000 e.fam∧Below w.heap.size w w':=by
 obtain rfl:x0=⟨#[99]⟩:=bytes_eq h0;have hos:=os_made w g _ #[.int .i64 0,.int .i64 0,.string ⟨#[]⟩,.string ⟨#[]⟩,.string ⟨#[]⟩,.int .i64 0,.int .i64 0,.int .i64 0,.string ⟨#[]⟩,.bool false,.int .i64 0,.int .i64 0] 42 rfl hL hw;have cc:=os_allB hos;have d0:=cc.1;have d1:=cc.2.1;have i1:=fun (W:World) (hW:LibsA W)=>numberOf_is x1 W (by omega) hW
 clear hs hw hL h0 cc;go_enter Tryz.func119,Tryz.ntmps119
 go_wp2_with fail
 have HOS:Hid _:=hos;clear hos d0 d1;refine (i1 _ HOS.out.libs).mono ?_;rintro e w1 ⟨n1,rfl,hb1,hv1⟩;have hos8:=HOS.out.on hb1;have HO8:Hid _:=hos8;obtain ⟨_,_,c0,c1,c2,c3,c4,c5,c6,c7,c8,c9,c10,c11,fz,_⟩:=os_allB hos8;clear HOS;have hth:∀ j,j<([.int .i64 3,.int .i64 0,.string ⟨#[]⟩,.string ⟨#[]⟩,.string ⟨#[]⟩,.int .i64 0,.int .i64 0,.int .i64 0,.string ⟨#[]⟩,.bool false,.int .i64 0,.int .i64 n1]:List Value).length→(w1.cell? ⟨w.heap.size,0+j,none⟩).isSome=true:=fun j hj=>by rw [Nat.zero_add]; exact hos8.there j hj
 have HBF:Hid (Below w.heap.size w (w1.setCells w.heap.size 0 [.int .i64 3,.int .i64 0,.string ⟨#[]⟩,.string ⟨#[]⟩,.string ⟨#[]⟩,.int .i64 0,.int .i64 0,.int .i64 0,.string ⟨#[]⟩,.bool false,.int .i64 0,.int .i64 n1])):=hos8.below.trans (below_setCellsW hos8.new _ 0 w1);have q0:=World.cell?_setCells_in w.heap.size [.int .i64 3,.int .i64 0,.string ⟨#[]⟩,.string ⟨#[]⟩,.string ⟨#[]⟩,.int .i64 0,.int .i64 0,.int .i64 0,.string ⟨#[]⟩,.bool false,.int .i64 0,.int .i64 n1] 0 w1 hth 0 (by simp)
 have q1:=World.cell?_setCells_in w.heap.size [.int .i64 3,.int .i64 0,.string ⟨#[]⟩,.string ⟨#[]⟩,.string ⟨#[]⟩,.int .i64 0,.int .i64 0,.int .i64 0,.string ⟨#[]⟩,.bool false,.int .i64 0,.int .i64 n1] 0 w1 hth 1 (by simp)
 have q2:=World.cell?_setCells_in w.heap.size [.int .i64 3,.int .i64 0,.string ⟨#[]⟩,.string ⟨#[]⟩,.string ⟨#[]⟩,.int .i64 0,.int .i64 0,.int .i64 0,.string ⟨#[]⟩,.bool false,.int .i64 0,.int .i64 n1] 0 w1 hth 2 (by simp)
 have q3:=World.cell?_setCells_in w.heap.size [.int .i64 3,.int .i64 0,.string ⟨#[]⟩,.string ⟨#[]⟩,.string ⟨#[]⟩,.int .i64 0,.int .i64 0,.int .i64 0,.string ⟨#[]⟩,.bool false,.int .i64 0,.int .i64 n1] 0 w1 hth 3 (by simp)
 have q4:=World.cell?_setCells_in w.heap.size [.int .i64 3,.int .i64 0,.string ⟨#[]⟩,.string ⟨#[]⟩,.string ⟨#[]⟩,.int .i64 0,.int .i64 0,.int .i64 0,.string ⟨#[]⟩,.bool false,.int .i64 0,.int .i64 n1] 0 w1 hth 4 (by simp)
 have q5:=World.cell?_setCells_in w.heap.size [.int .i64 3,.int .i64 0,.string ⟨#[]⟩,.string ⟨#[]⟩,.string ⟨#[]⟩,.int .i64 0,.int .i64 0,.int .i64 0,.string ⟨#[]⟩,.bool false,.int .i64 0,.int .i64 n1] 0 w1 hth 5 (by simp)
 have q6:=World.cell?_setCells_in w.heap.size [.int .i64 3,.int .i64 0,.string ⟨#[]⟩,.string ⟨#[]⟩,.string ⟨#[]⟩,.int .i64 0,.int .i64 0,.int .i64 0,.string ⟨#[]⟩,.bool false,.int .i64 0,.int .i64 n1] 0 w1 hth 6 (by simp)
 have q7:=World.cell?_setCells_in w.heap.size [.int .i64 3,.int .i64 0,.string ⟨#[]⟩,.string ⟨#[]⟩,.string ⟨#[]⟩,.int .i64 0,.int .i64 0,.int .i64 0,.string ⟨#[]⟩,.bool false,.int .i64 0,.int .i64 n1] 0 w1 hth 7 (by simp)
 have q8:=World.cell?_setCells_in w.heap.size [.int .i64 3,.int .i64 0,.string ⟨#[]⟩,.string ⟨#[]⟩,.string ⟨#[]⟩,.int .i64 0,.int .i64 0,.int .i64 0,.string ⟨#[]⟩,.bool false,.int .i64 0,.int .i64 n1] 0 w1 hth 8 (by simp)
 have q9:=World.cell?_setCells_in w.heap.size [.int .i64 3,.int .i64 0,.string ⟨#[]⟩,.string ⟨#[]⟩,.string ⟨#[]⟩,.int .i64 0,.int .i64 0,.int .i64 0,.string ⟨#[]⟩,.bool false,.int .i64 0,.int .i64 n1] 0 w1 hth 9 (by simp)
 have q10:=World.cell?_setCells_in w.heap.size [.int .i64 3,.int .i64 0,.string ⟨#[]⟩,.string ⟨#[]⟩,.string ⟨#[]⟩,.int .i64 0,.int .i64 0,.int .i64 0,.string ⟨#[]⟩,.bool false,.int .i64 0,.int .i64 n1] 0 w1 hth 10 (by simp)
 have q11:=World.cell?_setCells_in w.heap.size [.int .i64 3,.int .i64 0,.string ⟨#[]⟩,.string ⟨#[]⟩,.string ⟨#[]⟩,.int .i64 0,.int .i64 0,.int .i64 0,.string ⟨#[]⟩,.bool false,.int .i64 0,.int .i64 n1] 0 w1 hth 11 (by simp)
 go_wp2_with fail
 generalize hWW:World.setCell _ ⟨w.heap.size,11,none⟩ _=WW;have hW2:w1.setCells w.heap.size 0 [.int .i64 3,.int .i64 0,.string ⟨#[]⟩,.string ⟨#[]⟩,.string ⟨#[]⟩,.int .i64 0,.int .i64 0,.int .i64 0,.string ⟨#[]⟩,.bool false,.int .i64 0,.int .i64 n1]=WW:=hWW;have HB2:Hid (Below w.heap.size w WW):=by rw [← hW2]; exact HBF.out
 rw [hW2] at q0 q1 q2 q3 q4 q5 q6 q7 q8 q9 q10 q11;simp only [Nat.zero_add,List.getElem_cons_zero,List.getElem_cons_succ] at q0 q1 q2 q3 q4 q5 q6 q7 q8 q9 q10 q11;clear hW2 hWW hth HBF hos8 c0 c1 c2 c3 c4 c5 c6 c7 c8 c9 c10 c11 fz;exact bodyPost_ret (v:=.agg #[.int .i64 3,.int .i64 0,.string ⟨#[]⟩,.string ⟨#[]⟩,.string ⟨#[]⟩,.int .i64 0,.int .i64 0,.int .i64 0,.string ⟨#[]⟩,.bool false,.int .i64 0,.int .i64 n1]) (by simp [results,Tryz.results119,go_sem,q0,q1,q2,q3,q4,q5,q6,q7,q8,q9,q10,q11]) rfl ⟨⟨3,zeroF,0,n1⟩,rfl,toldW_clock rfl hv1,⟨Nat.zero_le _,Nat.zero_le _,Nat.zero_le _,Nat.zero_le _⟩,HB2.out⟩
theorem ofWords_no (x0:ByteArray) (n g c:Nat) (w:World) (hc:w.cell? ⟨g,0,none⟩=some (.string x0)) (hn:0<n) (hn2:n≤5000)
 (h1:¬ (x0.data.toList= [112]∧n=10)) (h2:¬ (x0.data.toList= [100]∧n=2)) (h3:¬ (x0.data.toList= [99]∧n=2)) :
 Calls Tryz.prog 119 #[.slice (some ⟨g,0,none⟩) n c] w fun r w'=>r=.returned (evV ⟨0,zeroF,0,0⟩)∧Below w.heap.size w w':=by
 have d0:=Lib.cell?_alloc_some (.cells #[.int .i64 0,.int .i64 0,.string ⟨#[]⟩,.string ⟨#[]⟩,.string ⟨#[]⟩,.int .i64 0,.int .i64 0,.int .i64 0,.string ⟨#[]⟩,.bool false,.int .i64 0,.int .i64 0] 42) hc;have hB:Hid (Below w.heap.size w (w.alloc (.cells #[.int .i64 0,.int .i64 0,.string ⟨#[]⟩,.string ⟨#[]⟩,.string ⟨#[]⟩,.int .i64 0,.int .i64 0,.int .i64 0,.string ⟨#[]⟩,.bool false,.int .i64 0,.int .i64 0] 42))):=(Below.refl _ _).alloc (Nat.le_refl _) _;have k1:Hid (x0.toList= [112]→((n:Int) == 10)=true→False):=fun a b=>h1 ⟨by rwa [ByteArray.toList_eq] at a,by rw [beq_iff_eq] at b; omega⟩
 have k2:Hid (x0.toList= [100]→((n:Int) == 2)=true→False):=fun a b=>h2 ⟨by rwa [ByteArray.toList_eq] at a,by rw [beq_iff_eq] at b; omega⟩
 have k3:Hid (x0.toList= [99]→((n:Int) == 2)=true→False):=fun a b=>h3 ⟨by rwa [ByteArray.toList_eq] at a,by rw [beq_iff_eq] at b; omega⟩
 clear h1 h2 h3;have hnI:(0:Int)<(n:Int):=by omega
 have q0:((w.alloc (.cells #[.int .i64 0,.int .i64 0,.string ⟨#[]⟩,.string ⟨#[]⟩,.string ⟨#[]⟩,.int .i64 0,.int .i64 0,.int .i64 0,.string ⟨#[]⟩,.bool false,.int .i64 0,.int .i64 0] 42)):World).cell? ⟨w.heap.size,0,none⟩=some (.int .i64 0):=(World.cell?_alloc_at _ _ _ _ rfl).trans rfl;have q1:((w.alloc (.cells #[.int .i64 0,.int .i64 0,.string ⟨#[]⟩,.string ⟨#[]⟩,.string ⟨#[]⟩,.int .i64 0,.int .i64 0,.int .i64 0,.string ⟨#[]⟩,.bool false,.int .i64 0,.int .i64 0] 42)):World).cell? ⟨w.heap.size,1,none⟩=some (.int .i64 0):=(World.cell?_alloc_at _ _ _ _ rfl).trans rfl
 have q2:((w.alloc (.cells #[.int .i64 0,.int .i64 0,.string ⟨#[]⟩,.string ⟨#[]⟩,.string ⟨#[]⟩,.int .i64 0,.int .i64 0,.int .i64 0,.string ⟨#[]⟩,.bool false,.int .i64 0,.int .i64 0] 42)):World).cell? ⟨w.heap.size,2,none⟩=some (.string ⟨#[]⟩):=(World.cell?_alloc_at _ _ _ _ rfl).trans rfl;have q3:((w.alloc (.cells #[.int .i64 0,.int .i64 0,.string ⟨#[]⟩,.string ⟨#[]⟩,.string ⟨#[]⟩,.int .i64 0,.int .i64 0,.int .i64 0,.string ⟨#[]⟩,.bool false,.int .i64 0,.int .i64 0] 42)):World).cell? ⟨w.heap.size,3,none⟩=some (.string ⟨#[]⟩):=(World.cell?_alloc_at _ _ _ _ rfl).trans rfl
 have q4:((w.alloc (.cells #[.int .i64 0,.int .i64 0,.string ⟨#[]⟩,.string ⟨#[]⟩,.string ⟨#[]⟩,.int .i64 0,.int .i64 0,.int .i64 0,.string ⟨#[]⟩,.bool false,.int .i64 0,.int .i64 0] 42)):World).cell? ⟨w.heap.size,4,none⟩=some (.string ⟨#[]⟩):=(World.cell?_alloc_at _ _ _ _ rfl).trans rfl;have q5:((w.alloc (.cells #[.int .i64 0,.int .i64 0,.string ⟨#[]⟩,.string ⟨#[]⟩,.string ⟨#[]⟩,.int .i64 0,.int .i64 0,.int .i64 0,.string ⟨#[]⟩,.bool false,.int .i64 0,.int .i64 0] 42)):World).cell? ⟨w.heap.size,5,none⟩=some (.int .i64 0):=(World.cell?_alloc_at _ _ _ _ rfl).trans rfl
 have q6:((w.alloc (.cells #[.int .i64 0,.int .i64 0,.string ⟨#[]⟩,.string ⟨#[]⟩,.string ⟨#[]⟩,.int .i64 0,.int .i64 0,.int .i64 0,.string ⟨#[]⟩,.bool false,.int .i64 0,.int .i64 0] 42)):World).cell? ⟨w.heap.size,6,none⟩=some (.int .i64 0):=(World.cell?_alloc_at _ _ _ _ rfl).trans rfl;have q7:((w.alloc (.cells #[.int .i64 0,.int .i64 0,.string ⟨#[]⟩,.string ⟨#[]⟩,.string ⟨#[]⟩,.int .i64 0,.int .i64 0,.int .i64 0,.string ⟨#[]⟩,.bool false,.int .i64 0,.int .i64 0] 42)):World).cell? ⟨w.heap.size,7,none⟩=some (.int .i64 0):=(World.cell?_alloc_at _ _ _ _ rfl).trans rfl
 have q8:((w.alloc (.cells #[.int .i64 0,.int .i64 0,.string ⟨#[]⟩,.string ⟨#[]⟩,.string ⟨#[]⟩,.int .i64 0,.int .i64 0,.int .i64 0,.string ⟨#[]⟩,.bool false,.int .i64 0,.int .i64 0] 42)):World).cell? ⟨w.heap.size,8,none⟩=some (.string ⟨#[]⟩):=(World.cell?_alloc_at _ _ _ _ rfl).trans rfl;have q9:((w.alloc (.cells #[.int .i64 0,.int .i64 0,.string ⟨#[]⟩,.string ⟨#[]⟩,.string ⟨#[]⟩,.int .i64 0,.int .i64 0,.int .i64 0,.string ⟨#[]⟩,.bool false,.int .i64 0,.int .i64 0] 42)):World).cell? ⟨w.heap.size,9,none⟩=some (.bool false):=(World.cell?_alloc_at _ _ _ _ rfl).trans rfl
 have q10:((w.alloc (.cells #[.int .i64 0,.int .i64 0,.string ⟨#[]⟩,.string ⟨#[]⟩,.string ⟨#[]⟩,.int .i64 0,.int .i64 0,.int .i64 0,.string ⟨#[]⟩,.bool false,.int .i64 0,.int .i64 0] 42)):World).cell? ⟨w.heap.size,10,none⟩=some (.int .i64 0):=(World.cell?_alloc_at _ _ _ _ rfl).trans rfl;have q11:((w.alloc (.cells #[.int .i64 0,.int .i64 0,.string ⟨#[]⟩,.string ⟨#[]⟩,.string ⟨#[]⟩,.int .i64 0,.int .i64 0,.int .i64 0,.string ⟨#[]⟩,.bool false,.int .i64 0,.int .i64 0] 42)):World).cell? ⟨w.heap.size,11,none⟩=some (.int .i64 0):=(World.cell?_alloc_at _ _ _ _ rfl).trans rfl;go_enter Tryz.func119,Tryz.ntmps119
 go_wp2_with fail
 all_goals first
  |exact (k1.out (by assumption) (by assumption)).elim
  |exact (k2.out (by assumption) (by assumption)).elim
  |exact (k3.out (by assumption) (by assumption)).elim
  |exact bodyPost_ret (v:=.agg #[.int .i64 0,.int .i64 0,.string ⟨#[]⟩,.string ⟨#[]⟩,.string ⟨#[]⟩,.int .i64 0,.int .i64 0,.int .i64 0,.string ⟨#[]⟩,.bool false,.int .i64 0,.int .i64 0]) (by simp [results,Tryz.results119,go_sem,q0,q1,q2,q3,q4,q5,q6,q7,q8,q9,q10,q11]) rfl ⟨rfl,hB.out⟩
theorem two_of {α:Type} {l:List α} (h:l.length=2):∃ a b,l= [a,b]:=by
 match l,h with
 |[a,b],_=>exact ⟨a,b,rfl⟩
theorem ten_of {α:Type} {l:List α} (h:l.length=10):∃ a0 a1 a2 a3 a4 a5 a6 a7 a8 a9,l= [a0,a1,a2,a3,a4,a5,a6,a7,a8,a9]:=by
 match l,h with
 |[a0,a1,a2,a3,a4,a5,a6,a7,a8,a9],_=>exact ⟨a0,a1,a2,a3,a4,a5,a6,a7,a8,a9,rfl⟩
theorem ofWords_is (ws:List ByteArray) (g c:Nat) (w:World) (hn:0<ws.length) (hn2:ws.length≤5000) (hs:∀ x∈ws,x.size≤5000) (hw:WordsAt w g ws) (hL:LibsA w) :
 Calls Tryz.prog 119 #[.slice (some ⟨g,0,none⟩) ws.length c] w fun r w'=>∃ e,r=.returned (evV e)∧ToldW ws e∧Small 5000 e.fam∧Below w.heap.size w w':=by
 obtain ⟨x0,h0⟩:∃ x0,ws[0]?=some x0:=⟨_,List.getElem?_eq_getElem hn⟩;by_cases hp:x0.data.toList= [112]∧ws.length=10
 ·obtain ⟨a0,a1,a2,a3,a4,a5,a6,a7,a8,a9,rfl⟩:=ten_of hp.2
  simp only [List.getElem?_cons_zero,Option.some.injEq] at h0;subst h0;exact ofWords_put _ _ _ _ _ _ _ _ _ _ g c w hp.1 hs hw hL
 by_cases hd:x0.data.toList= [100]∧ws.length=2
 ·obtain ⟨a0,a1,rfl⟩:=two_of hd.2
  simp only [List.getElem?_cons_zero,Option.some.injEq] at h0;subst h0;exact ofWords_drop _ _ g c w hd.1 (hs a1 (by simp)) hw hL
 by_cases hc:x0.data.toList= [99]∧ws.length=2
 ·obtain ⟨a0,a1,rfl⟩:=two_of hc.2
  simp only [List.getElem?_cons_zero,Option.some.injEq] at h0;subst h0;exact ofWords_clock _ _ g c w hc.1 (hs a1 (by simp)) hw hL
 refine (ofWords_no x0 ws.length g c w (by have:=hw.2 0 x0 h0; rwa [Nat.add_zero] at this) hn hn2 hp hd hc).mono ?_
 rintro e w' ⟨rfl,hb⟩;exact ⟨_,rfl,toldW_no h0 (fun a b=>hp ⟨a,b⟩) (fun a b=>hd ⟨a,b⟩) (fun a b=>hc ⟨a,b⟩) _,⟨Nat.zero_le _,Nat.zero_le _,Nat.zero_le _,Nat.zero_le _⟩,hb⟩
theorem wordsAt_cellsOf (w:World) (ps:List ByteArray) (N:Nat) (t:TypeId):WordsAt (w.alloc (.cells (Lib.cellsOf ps N) t)) w.heap.size ps:=by
 refine ⟨by simp,fun j x hj=>?_⟩
 have hi:=(List.getElem?_eq_some_iff.1 hj).1;rw [Nat.zero_add,World.cell?_alloc_at _ _ _ _ rfl];unfold Lib.cellsOf;rw [List.getElem?_toArray,List.getElem?_append_left (by simpa using hi),List.getElem?_map,hj]
 rfl
theorem splitK_len (c:UInt8) (k:Nat) (l:List UInt8):∀ x∈Lib.splitK [c] 0 k l,x.length≤l.length:=by
 induction k generalizing l with
 |zero=>intro x hx; simp [Lib.splitK] at hx; subst hx; exact Nat.le_refl _
 |succ k ih=>
  rcases nilOr c l with h | ⟨a,b,rfl,h⟩
  ·rw [splitK_no h]; intro x hx; simp at hx; subst hx; exact Nat.le_refl _
  ·rw [splitK_at b h]
   intro x hx;simp only [List.mem_cons] at hx;rcases hx with rfl | hx
   ·simp
   ·have:=ih b x hx
    simp; omega
theorem splitK_pos (c:UInt8) (k:Nat) (l:List UInt8):0<(Lib.splitK [c] 0 k l).length:=by
 cases k with
 |zero=>simp [Lib.splitK]
 |succ k=>
  rcases nilOr c l with h | ⟨a,b,rfl,h⟩
  ·rw [splitK_no h]; simp
  ·rw [splitK_at b h]; simp
def told (ns:List Int):List UInt8:=Lib.join (ns.map Lib.itoa) [32]
end Go.Proofs.YtlailakofhenkabGreatDoor
namespace Go.Proofs.YtlailakofhenkabGreatDoor
open Go.RowKit Go.Extern.Stop Go.Stop Go.Extern
namespace ErrAs
theorem valueOfPE (t:Addr) (w:World):(ReflectliteValue.unpack (.iface 123 (.pointer (some t)))).run Tryz.prog w
 = .ok (.agg #[.pointer (some ⟨10,123,none⟩),.pointer (some ⟨w.heap.size,0,none⟩),.int .u64 150]) (w.alloc (.cells #[.pointer (some t)] 123)):=by kernel_rfl
theorem typePE (a : Addr) (w : World) : (ReflectliteValue.methodAny (ReflectliteValue.valueError "reflectlite.Value.Type" 0) (fun t _ _ _ => ReflectliteType.toType t) #[.agg #[.pointer (some ⟨10, 123, none⟩), .pointer (some a), .int .u64 150]]).run Tryz.prog w
 = .ok (.iface 283 (.agg #[.pointer (some ⟨10,123,none⟩)])) w:=by kernel_rfl
theorem kindPE (w:World):((ReflectliteType.abiMethod fun t=>(fun a:Nat=>Value.int IntKind.u8 (a:Int)) <$> Rtype.kind t) #[.pointer (some ⟨10,123,none⟩)]).run Tryz.prog w=.ok (.int .u8 22) w:=by kernel_rfl
theorem kindE (w:World):((ReflectliteType.abiMethod fun t=>(fun a:Nat=>Value.int IntKind.u8 (a:Int)) <$> Rtype.kind t) #[.pointer (some ⟨10,47,none⟩)]).run Tryz.prog w=.ok (.int .u8 2) w:=by kernel_rfl
theorem rlm (z:Sem Value) (f:TypeId→Addr→Nat→Nat→Sem Value) (v:Value) :
 ReflectliteValue.method z f #[v]=(do match ← ReflectliteValue.parts v with | none=>z | some (t,a,fl)=>f t a fl (fl % 32)):=rfl
theorem partsPE (a:Addr) (w:World):(ReflectliteValue.parts (.agg #[.pointer (some ⟨10,123,none⟩),.pointer (some a),.int .u64 150])).run Tryz.prog w=.ok (some (123,a,150)) w:=by kernel_rfl
theorem isNilPE (a p:Addr) (W:World) (ha:W.cell? a=some (.pointer (some p))) :
 (ReflectliteValue.method (ReflectliteValue.valueError "reflectlite.Value.IsNil" 0) ReflectliteValue.isNil #[.agg #[.pointer (some ⟨10, 123, none⟩), .pointer (some a), .int .u64 150]]).run Tryz.prog W = .ok (.bool false) W := by
 rw [rlm];simp only [Sem.run_bind,partsPE,Result.andThen];simp [ReflectliteValue.isNil,loadVar,isAgg,underlying,Tryz.underlying123,ha,Result.andThen]
theorem methodKind (h : Value) (w : World) : (Go.method 552 283 (.agg #[h]) "Kind").run Tryz.prog w = .ok (401, h) w := by kernel_rfl
theorem methodElem (h : Value) (w : World) : (Go.method 552 283 (.agg #[h]) "Elem").run Tryz.prog w = .ok (414, .agg #[h]) w := by kernel_rfl
theorem methodImplements (h : Value) (w : World) : (Go.method 552 283 (.agg #[h]) "Implements").run Tryz.prog w = .ok (415, .agg #[h]) w := by kernel_rfl
theorem methodAssignableTo (h : Value) (w : World) : (Go.method 552 283 (.agg #[h]) "AssignableTo").run Tryz.prog w = .ok (412, .agg #[h]) w := by kernel_rfl
theorem elemPE (w:World):(ReflectliteType.method ReflectliteType.elem #[.agg #[.pointer (some ⟨10,123,none⟩)]]).run Tryz.prog w=.ok (.iface 283 (.agg #[.pointer (some ⟨10,47,none⟩)])) w:=by kernel_rfl
theorem implementsE (w : World) : (ReflectliteType.relation "Implements" ReflectliteType.implements_ #[.agg #[.pointer (some ⟨10, 47, none⟩)], .iface 283 (.agg #[.pointer (some ⟨10, 31, none⟩)])]).run Tryz.prog w = .ok (.bool true) w := by kernel_rfl
theorem typeOfE (v:Value) (w:World):(ReflectliteType.typeOf #[.iface 47 v]).run Tryz.prog w=.ok (.iface 283 (.agg #[.pointer (some ⟨10,47,none⟩)])) w:=by kernel_rfl
theorem assignableE (w : World) : (ReflectliteType.relation "AssignableTo" ReflectliteType.assignableTo #[.agg #[.pointer (some ⟨10, 47, none⟩)], .iface 283 (.agg #[.pointer (some ⟨10, 47, none⟩)])]).run Tryz.prog w = .ok (.bool true) w := by kernel_rfl
theorem valueOfE (n:Int) (w:World):(ReflectliteValue.unpack (.iface 47 (.int .i64 n))).run Tryz.prog w
 = .ok (.agg #[.pointer (some ⟨10,47,none⟩),.pointer (some ⟨w.heap.size,0,none⟩),.int .u64 130]) (w.alloc (.cells #[.int .i64 n] 47)):=by kernel_rfl
theorem elemOfPE (w:World):(Rtype.elem? 123).run Tryz.prog w=.ok (some 47) w:=by kernel_rfl
theorem mkE (p:Addr) (w:World):(ReflectliteValue.mk 47 p ReflectliteValue.flagAddr).run Tryz.prog w=.ok (.agg #[.pointer (some ⟨10,47,none⟩),.pointer (some p),.int .u64 386]) w:=by kernel_rfl
theorem elemVPE (a p:Addr) (W:World) (ha:W.cell? a=some (.pointer (some p))) :
 (ReflectliteValue.method (ReflectliteValue.valueError "reflectlite.Value.Elem" 0) ReflectliteValue.elem #[.agg #[.pointer (some ⟨10, 123, none⟩), .pointer (some a), .int .u64 150]]).run Tryz.prog W
  = .ok (.agg #[.pointer (some ⟨10,47,none⟩),.pointer (some p),.int .u64 386]) W:=by
 rw [rlm];simp only [Sem.run_bind,partsPE,Result.andThen];simp [ReflectliteValue.elem,loadVar,isAgg,underlying,Tryz.underlying123,ha,Result.andThen,elemOfPE,mkE]
theorem rls (v x:Value):ReflectliteValue.set #[v,x]=(do
 let (some (dst,a,fl),some (src,b,_)):=(← ReflectliteValue.parts v,← ReflectliteValue.parts x)
  |unsupported (.noEntry "extern/(internal/reflectlite.Value).Set.zeroValue")
 if fl / ReflectliteValue.flagAddr % 2 == 0 then unsupported (.noEntry "extern/(internal/reflectlite.Value).Set.unaddressable")
 let val ← loadVar src b
 if ← Rtype.directlyAssignable dst src then storeVar dst a val
 else if ← Rtype.implements dst src then
  if (← Rtype.kind src) == 20 then
   match val with
   |.nilIface => unsupported (.noEntry "extern/reflectlite: a nil value of one interface type handed on as a value of another")
   |_=>storeVar dst a val
  else storeVar dst a (.iface src val)
 else panicString ("reflectlite.Set: value of type " ++ (← Rtype.spelt src) ++ " is not assignable to type " ++ (← Rtype.spelt dst))
 pure (.tuple #[])):=rfl
theorem partsEa (a:Addr) (w:World):(ReflectliteValue.parts (.agg #[.pointer (some ⟨10,47,none⟩),.pointer (some a),.int .u64 386])).run Tryz.prog w=.ok (some (47,a,386)) w:=by kernel_rfl
theorem partsE (a:Addr) (w:World):(ReflectliteValue.parts (.agg #[.pointer (some ⟨10,47,none⟩),.pointer (some a),.int .u64 130])).run Tryz.prog w=.ok (some (47,a,130)) w:=by kernel_rfl
theorem directE (w:World):(Rtype.directlyAssignable 47 47).run Tryz.prog w=.ok true w:=by kernel_rfl
theorem setE (ta b:Addr) (n:Int) (old:Value) (W:World) (hb:W.cell? b=some (.int .i64 n)) (ht:W.cell? ta=some old) (hf:W.frozen? ta=false) :
 (ReflectliteValue.set #[.agg #[.pointer (some ⟨10,47,none⟩),.pointer (some ta),.int .u64 386],.agg #[.pointer (some ⟨10,47,none⟩),.pointer (some b),.int .u64 130]]).run Tryz.prog W
  = .ok (.tuple #[]) (W.setCell ta (.int .i64 n)):=by
 rw [rls];simp only [Sem.run_bind,partsEa,partsE,Result.andThen];simp [ReflectliteValue.flagAddr,loadVar,isAgg,underlying,Tryz.underlying47,hb,Result.andThen,directE,storeVar,Value.cells,storeCells,Addr.add]
 rw [run_store Tryz.prog W ta _ _ (by rfl)]
 simp [ht,hf]
end ErrAs
end Go.Proofs.YtlailakofhenkabGreatDoor
