import Derived.Test.YtlailakofhenkabGreatDoorB9
set_option maxRecDepth 100000
set_option maxHeartbeats 16000000
namespace Go.Proofs.YtlailakofhenkabGreatDoor
open Go Go.RowKit Tok Sc Ev
theorem ofWords_drop (x0 x1:ByteArray) (g c:Nat) (w:World) (h0:x0.data.toList= [100]) (hs:x1.size≤5000) (hw:WordsAt w g [x0,x1]) (hL:LibsA w) :
 Calls Tryz.prog 119 #[.slice (some ⟨g,0,none⟩) 2 c] w fun r w'=>∃ e,r=.returned (evV e)∧ToldW [x0,x1] e∧Small 5000 e.fam∧Below w.heap.size w w':=by
 obtain rfl:x0=⟨#[100]⟩:=bytes_eq h0;have hos:=os_made w g _ #[.int .i64 0,.int .i64 0,.string ⟨#[]⟩,.string ⟨#[]⟩,.string ⟨#[]⟩,.int .i64 0,.int .i64 0,.int .i64 0,.string ⟨#[]⟩,.bool false,.int .i64 0,.int .i64 0] 42 rfl hL hw;have cc:=os_allB hos;have d0:=cc.1;have d1:=cc.2.1;have i1:=fun (W:World) (hW:LibsA W)=>numberOf_is x1 W (by omega) hW
 clear hs hw hL h0 cc;go_enter Tryz.func119,Tryz.ntmps119
 go_wp2_with fail
 have HOS:Hid _:=hos;clear hos d0 d1;refine (i1 _ HOS.out.libs).mono ?_;rintro e w1 ⟨n1,rfl,hb1,hv1⟩;have hos8:=HOS.out.on hb1;have HO8:Hid _:=hos8;obtain ⟨_,_,c0,c1,c2,c3,c4,c5,c6,c7,c8,c9,c10,c11,fz,_⟩:=os_allB hos8;clear HOS;have hth:∀ j,j<([.int .i64 2,.int .i64 0,.string ⟨#[]⟩,.string ⟨#[]⟩,.string ⟨#[]⟩,.int .i64 0,.int .i64 0,.int .i64 0,.string ⟨#[]⟩,.bool false,.int .i64 n1,.int .i64 0]:List Value).length→(w1.cell? ⟨w.heap.size,0+j,none⟩).isSome=true:=fun j hj=>by rw [Nat.zero_add]; exact hos8.there j hj
 have HBF:Hid (Below w.heap.size w (w1.setCells w.heap.size 0 [.int .i64 2,.int .i64 0,.string ⟨#[]⟩,.string ⟨#[]⟩,.string ⟨#[]⟩,.int .i64 0,.int .i64 0,.int .i64 0,.string ⟨#[]⟩,.bool false,.int .i64 n1,.int .i64 0])):=hos8.below.trans (below_setCellsW hos8.new _ 0 w1);have q0:=World.cell?_setCells_in w.heap.size [.int .i64 2,.int .i64 0,.string ⟨#[]⟩,.string ⟨#[]⟩,.string ⟨#[]⟩,.int .i64 0,.int .i64 0,.int .i64 0,.string ⟨#[]⟩,.bool false,.int .i64 n1,.int .i64 0] 0 w1 hth 0 (by simp)
 have q1:=World.cell?_setCells_in w.heap.size [.int .i64 2,.int .i64 0,.string ⟨#[]⟩,.string ⟨#[]⟩,.string ⟨#[]⟩,.int .i64 0,.int .i64 0,.int .i64 0,.string ⟨#[]⟩,.bool false,.int .i64 n1,.int .i64 0] 0 w1 hth 1 (by simp)
 have q2:=World.cell?_setCells_in w.heap.size [.int .i64 2,.int .i64 0,.string ⟨#[]⟩,.string ⟨#[]⟩,.string ⟨#[]⟩,.int .i64 0,.int .i64 0,.int .i64 0,.string ⟨#[]⟩,.bool false,.int .i64 n1,.int .i64 0] 0 w1 hth 2 (by simp)
 have q3:=World.cell?_setCells_in w.heap.size [.int .i64 2,.int .i64 0,.string ⟨#[]⟩,.string ⟨#[]⟩,.string ⟨#[]⟩,.int .i64 0,.int .i64 0,.int .i64 0,.string ⟨#[]⟩,.bool false,.int .i64 n1,.int .i64 0] 0 w1 hth 3 (by simp)
 have q4:=World.cell?_setCells_in w.heap.size [.int .i64 2,.int .i64 0,.string ⟨#[]⟩,.string ⟨#[]⟩,.string ⟨#[]⟩,.int .i64 0,.int .i64 0,.int .i64 0,.string ⟨#[]⟩,.bool false,.int .i64 n1,.int .i64 0] 0 w1 hth 4 (by simp)
 have q5:=World.cell?_setCells_in w.heap.size [.int .i64 2,.int .i64 0,.string ⟨#[]⟩,.string ⟨#[]⟩,.string ⟨#[]⟩,.int .i64 0,.int .i64 0,.int .i64 0,.string ⟨#[]⟩,.bool false,.int .i64 n1,.int .i64 0] 0 w1 hth 5 (by simp)
 have q6:=World.cell?_setCells_in w.heap.size [.int .i64 2,.int .i64 0,.string ⟨#[]⟩,.string ⟨#[]⟩,.string ⟨#[]⟩,.int .i64 0,.int .i64 0,.int .i64 0,.string ⟨#[]⟩,.bool false,.int .i64 n1,.int .i64 0] 0 w1 hth 6 (by simp)
 have q7:=World.cell?_setCells_in w.heap.size [.int .i64 2,.int .i64 0,.string ⟨#[]⟩,.string ⟨#[]⟩,.string ⟨#[]⟩,.int .i64 0,.int .i64 0,.int .i64 0,.string ⟨#[]⟩,.bool false,.int .i64 n1,.int .i64 0] 0 w1 hth 7 (by simp)
 have q8:=World.cell?_setCells_in w.heap.size [.int .i64 2,.int .i64 0,.string ⟨#[]⟩,.string ⟨#[]⟩,.string ⟨#[]⟩,.int .i64 0,.int .i64 0,.int .i64 0,.string ⟨#[]⟩,.bool false,.int .i64 n1,.int .i64 0] 0 w1 hth 8 (by simp)
 have q9:=World.cell?_setCells_in w.heap.size [.int .i64 2,.int .i64 0,.string ⟨#[]⟩,.string ⟨#[]⟩,.string ⟨#[]⟩,.int .i64 0,.int .i64 0,.int .i64 0,.string ⟨#[]⟩,.bool false,.int .i64 n1,.int .i64 0] 0 w1 hth 9 (by simp)
 have q10:=World.cell?_setCells_in w.heap.size [.int .i64 2,.int .i64 0,.string ⟨#[]⟩,.string ⟨#[]⟩,.string ⟨#[]⟩,.int .i64 0,.int .i64 0,.int .i64 0,.string ⟨#[]⟩,.bool false,.int .i64 n1,.int .i64 0] 0 w1 hth 10 (by simp)
 have q11:=World.cell?_setCells_in w.heap.size [.int .i64 2,.int .i64 0,.string ⟨#[]⟩,.string ⟨#[]⟩,.string ⟨#[]⟩,.int .i64 0,.int .i64 0,.int .i64 0,.string ⟨#[]⟩,.bool false,.int .i64 n1,.int .i64 0] 0 w1 hth 11 (by simp)
 go_wp2_with fail
 generalize hWW:World.setCell _ ⟨w.heap.size,11,none⟩ _=WW;have hW2:w1.setCells w.heap.size 0 [.int .i64 2,.int .i64 0,.string ⟨#[]⟩,.string ⟨#[]⟩,.string ⟨#[]⟩,.int .i64 0,.int .i64 0,.int .i64 0,.string ⟨#[]⟩,.bool false,.int .i64 n1,.int .i64 0]=WW:=hWW;have HB2:Hid (Below w.heap.size w WW):=by rw [← hW2]; exact HBF.out
 rw [hW2] at q0 q1 q2 q3 q4 q5 q6 q7 q8 q9 q10 q11;simp only [Nat.zero_add,List.getElem_cons_zero,List.getElem_cons_succ] at q0 q1 q2 q3 q4 q5 q6 q7 q8 q9 q10 q11;clear hW2 hWW hth HBF hos8 c0 c1 c2 c3 c4 c5 c6 c7 c8 c9 c10 c11 fz;exact bodyPost_ret (v:=.agg #[.int .i64 2,.int .i64 0,.string ⟨#[]⟩,.string ⟨#[]⟩,.string ⟨#[]⟩,.int .i64 0,.int .i64 0,.int .i64 0,.string ⟨#[]⟩,.bool false,.int .i64 n1,.int .i64 0]) (by simp [results,Tryz.results119,go_sem,q0,q1,q2,q3,q4,q5,q6,q7,q8,q9,q10,q11]) rfl ⟨⟨2,zeroF,n1,0⟩,rfl,toldW_drop rfl hv1,⟨Nat.zero_le _,Nat.zero_le _,Nat.zero_le _,Nat.zero_le _⟩,HB2.out⟩
theorem ofWords_clock (x0 x1:ByteArray) (g c:Nat) (w:World) (h0:x0.data.toList= [99]) (hs:x1.size≤5000) (hw:WordsAt w g [x0,x1]) (hL:LibsA w) :
 Calls Tryz.prog 119 #[.slice (some ⟨g,0,none⟩) 2 c] w fun r w'=>∃ e,r=.returned (evV e)∧ToldW [x0,x1] e∧Small 5000 e.fam∧Below w.heap.size w w':=by
 obtain rfl:x0=⟨#[99]⟩:=bytes_eq h0;have hos:=os_made w g _ #[.int .i64 0,.int .i64 0,.string ⟨#[]⟩,.string ⟨#[]⟩,.string ⟨#[]⟩,.int .i64 0,.int .i64 0,.int .i64 0,.string ⟨#[]⟩,.bool false,.int .i64 0,.int .i64 0] 42 rfl hL hw;have cc:=os_allB hos;have d0:=cc.1;have d1:=cc.2.1;have i1:=fun (W:World) (hW:LibsA W)=>numberOf_is x1 W (by omega) hW
 clear hs hw hL h0 cc;go_enter Tryz.func119,Tryz.ntmps119
 go_wp2_with fail
 have HOS:Hid _:=hos;clear hos d0 d1;refine (i1 _ HOS.out.libs).mono ?_;rintro e w1 ⟨n1,rfl,hb1,hv1⟩;have hos8:=HOS.out.on hb1;have HO8:Hid _:=hos8;obtain ⟨_,_,c0,c1,c2,c3,c4,c5,c6,c7,c8,c9,c10,c11,fz,_⟩:=os_allB hos8;clear HOS;have hth:∀ j,j<([.int .i64 3,.int .i64 0,.string ⟨#[]⟩,.string ⟨#[]⟩,.string ⟨#[]⟩,.int .i64 0,.int .i64 0,.int .i64 0,.string ⟨#[]⟩,.bool false,.int .i64 0,.int .i64 n1]:List Value).length→(w1.cell? ⟨w.heap.size,0+j,none⟩).isSome=true:=fun j hj=>by rw [Nat.zero_add]; exact hos8.there j hj
 have HBF:Hid (Below w.heap.size w (w1.setCells w.heap.size 0 [.int .i64 3,.int .i64 0,.string ⟨#[]⟩,.string ⟨#[]⟩,.string ⟨#[]⟩,.int .i64 0,.int .i64 0,.int .i64 0,.string ⟨#[]⟩,.bool false,.int .i64 0,.int .i64 n1])):=hos8.below.trans (below_setCellsW hos8.new _ 0 w1);have q0:=World.cell?_setCells_in w.heap.size [.int .i64 3,.int .i64 0,.string ⟨#[]⟩,.string ⟨#[]⟩,.string ⟨#[]⟩,.int .i64 0,.int .i64 0,.int .i64 0,.string ⟨#[]⟩,.bool false,.int .i64 0,.int .i64 n1] 0 w1 hth 0 (by simp)
 have q1:=World.cell?_setCells_in w.heap.size [.int .i64 3,.int .i64 0,.string ⟨#[]⟩,.string ⟨#[]⟩,.string ⟨#[]⟩,.int .i64 0,.int .i64 0,.int .i64 0,.string ⟨#[]⟩,.bool false,.int .i64 0,.int .i64 n1] 0 w1 hth 1 (by simp)
 have q2:=World.cell?_setCells_in w.heap.size [.int .i64 3,.int .i64 0,.string ⟨#[]⟩,.string ⟨#[]⟩,.string ⟨#[]⟩,.int .i64 0,.int .i64 0,.int .i64 0,.string ⟨#[]⟩,.bool false,.int .i64 0,.int .i64 n1] 0 w1 hth 2 (by simp)
 have q3:=World.cell?_setCells_in w.heap.size [.int .i64 3,.int .i64 0,.string ⟨#[]⟩,.string ⟨#[]⟩,.string ⟨#[]⟩,.int .i64 0,.int .i64 0,.int .i64 0,.string ⟨#[]⟩,.bool false,.int .i64 0,.int .i64 n1] 0 w1 hth 3 (by simp)
 have q4:=World.cell?_setCells_in w.heap.size [.int .i64 3,.int .i64 0,.string ⟨#[]⟩,.string ⟨#[]⟩,.string ⟨#[]⟩,.int .i64 0,.int .i64 0,.int .i64 0,.string ⟨#[]⟩,.bool false,.int .i64 0,.int .i64 n1] 0 w1 hth 4 (by simp)
 have q5:=World.cell?_setCells_in w.heap.size [.int .i64 3,.int .i64 0,.string ⟨#[]⟩,.string ⟨#[]⟩,.string ⟨#[]⟩,.int .i64 0,.int .i64 0,.int .i64 0,.string ⟨#[]⟩,.bool false,.int .i64 0,.int .i64 n1] 0 w1 hth 5 (by simp)
 have q6:=World.cell?_setCells_in w.heap.size [.int .i64 3,.int .i64 0,.string ⟨#[]⟩,.string ⟨#[]⟩,.string ⟨#[]⟩,.int .i64 0,.int .i64 0,.int .i64 0,.string ⟨#[]⟩,.bool false,.int .i64 0,.int .i64 n1] 0 w1 hth 6 (by simp)
 have q7:=World.cell?_setCells_in w.heap.size [.int .i64 3,.int .i64 0,.string ⟨#[]⟩,.string ⟨#[]⟩,.string ⟨#[]⟩,.int .i64 0,.int .i64 0,.int .i64 0,.string ⟨#[]⟩,.bool false,.int .i64 0,.int .i64 n1] 0 w1 hth 7 (by simp)
 have q8:=World.cell?_setCells_in w.heap.size [.int .i64 3,.int .i64 0,.string ⟨#[]⟩,.string ⟨#[]⟩,.string ⟨#[]⟩,.int .i64 0,.int .i64 0,.int .i64 0,.string ⟨#[]⟩,.bool false,.int .i64 0,.int .i64 n1] 0 w1 hth 8 (by simp)
 have q9:=World.cell?_setCells_in w.heap.size [.int .i64 3,.int .i64 0,.string ⟨#[]⟩,.string ⟨#[]⟩,.string ⟨#[]⟩,.int .i64 0,.int .i64 0,.int .i64 0,.string ⟨#[]⟩,.bool false,.int .i64 0,.int .i64 n1] 0 w1 hth 9 (by simp)
 have q10:=World.cell?_setCells_in w.heap.size [.int .i64 3,.int .i64 0,.string ⟨#[]⟩,.string ⟨#[]⟩,.string ⟨#[]⟩,.int .i64 0,.int .i64 0,.int .i64 0,.string ⟨#[]⟩,.bool false,.int .i64 0,.int .i64 n1] 0 w1 hth 10 (by simp)
 have q11:=World.cell?_setCells_in w.heap.size [.int .i64 3,.int .i64 0,.string ⟨#[]⟩,.string ⟨#[]⟩,.string ⟨#[]⟩,.int .i64 0,.int .i64 0,.int .i64 0,.string ⟨#[]⟩,.bool false,.int .i64 0,.int .i64 n1] 0 w1 hth 11 (by simp)
 go_wp2_with fail
 generalize hWW:World.setCell _ ⟨w.heap.size,11,none⟩ _=WW;have hW2:w1.setCells w.heap.size 0 [.int .i64 3,.int .i64 0,.string ⟨#[]⟩,.string ⟨#[]⟩,.string ⟨#[]⟩,.int .i64 0,.int .i64 0,.int .i64 0,.string ⟨#[]⟩,.bool false,.int .i64 0,.int .i64 n1]=WW:=hWW;have HB2:Hid (Below w.heap.size w WW):=by rw [← hW2]; exact HBF.out
 rw [hW2] at q0 q1 q2 q3 q4 q5 q6 q7 q8 q9 q10 q11;simp only [Nat.zero_add,List.getElem_cons_zero,List.getElem_cons_succ] at q0 q1 q2 q3 q4 q5 q6 q7 q8 q9 q10 q11;clear hW2 hWW hth HBF hos8 c0 c1 c2 c3 c4 c5 c6 c7 c8 c9 c10 c11 fz;exact bodyPost_ret (v:=.agg #[.int .i64 3,.int .i64 0,.string ⟨#[]⟩,.string ⟨#[]⟩,.string ⟨#[]⟩,.int .i64 0,.int .i64 0,.int .i64 0,.string ⟨#[]⟩,.bool false,.int .i64 0,.int .i64 n1]) (by simp [results,Tryz.results119,go_sem,q0,q1,q2,q3,q4,q5,q6,q7,q8,q9,q10,q11]) rfl ⟨⟨3,zeroF,0,n1⟩,rfl,toldW_clock rfl hv1,⟨Nat.zero_le _,Nat.zero_le _,Nat.zero_le _,Nat.zero_le _⟩,HB2.out⟩
theorem ofWords_no (x0:ByteArray) (n g c:Nat) (w:World) (hc:w.cell? ⟨g,0,none⟩=some (.string x0)) (hn:0<n) (hn2:n≤5000)
 (h1:¬ (x0.data.toList= [112]∧n=10)) (h2:¬ (x0.data.toList= [100]∧n=2)) (h3:¬ (x0.data.toList= [99]∧n=2)) :
 Calls Tryz.prog 119 #[.slice (some ⟨g,0,none⟩) n c] w fun r w'=>r=.returned (evV ⟨0,zeroF,0,0⟩)∧Below w.heap.size w w':=by
 have d0:=Lib.cell?_alloc_some (.cells #[.int .i64 0,.int .i64 0,.string ⟨#[]⟩,.string ⟨#[]⟩,.string ⟨#[]⟩,.int .i64 0,.int .i64 0,.int .i64 0,.string ⟨#[]⟩,.bool false,.int .i64 0,.int .i64 0] 42) hc;have hB:Hid (Below w.heap.size w (w.alloc (.cells #[.int .i64 0,.int .i64 0,.string ⟨#[]⟩,.string ⟨#[]⟩,.string ⟨#[]⟩,.int .i64 0,.int .i64 0,.int .i64 0,.string ⟨#[]⟩,.bool false,.int .i64 0,.int .i64 0] 42))):=(Below.refl _ _).alloc (Nat.le_refl _) _;have k1:Hid (x0.toList= [112]→((n:Int) == 10)=true→False):=fun a b=>h1 ⟨by rwa [ByteArray.toList_eq] at a,by rw [beq_iff_eq] at b; omega⟩
 have k2:Hid (x0.toList= [100]→((n:Int) == 2)=true→False):=fun a b=>h2 ⟨by rwa [ByteArray.toList_eq] at a,by rw [beq_iff_eq] at b; omega⟩
 have k3:Hid (x0.toList= [99]→((n:Int) == 2)=true→False):=fun a b=>h3 ⟨by rwa [ByteArray.toList_eq] at a,by rw [beq_iff_eq] at b; omega⟩
 clear h1 h2 h3;have hnI:(0:Int)<(n:Int):=by omega
 have q0:((w.alloc (.cells #[.int .i64 0,.int .i64 0,.string ⟨#[]⟩,.string ⟨#[]⟩,.string ⟨#[]⟩,.int .i64 0,.int .i64 0,.int .i64 0,.string ⟨#[]⟩,.bool false,.int .i64 0,.int .i64 0] 42)):World).cell? ⟨w.heap.size,0,none⟩=some (.int .i64 0):=(World.cell?_alloc_at _ _ _ _ rfl).trans rfl;have q1:((w.alloc (.cells #[.int .i64 0,.int .i64 0,.string ⟨#[]⟩,.string ⟨#[]⟩,.string ⟨#[]⟩,.int .i64 0,.int .i64 0,.int .i64 0,.string ⟨#[]⟩,.bool false,.int .i64 0,.int .i64 0] 42)):World).cell? ⟨w.heap.size,1,none⟩=some (.int .i64 0):=(World.cell?_alloc_at _ _ _ _ rfl).trans rfl
 have q2:((w.alloc (.cells #[.int .i64 0,.int .i64 0,.string ⟨#[]⟩,.string ⟨#[]⟩,.string ⟨#[]⟩,.int .i64 0,.int .i64 0,.int .i64 0,.string ⟨#[]⟩,.bool false,.int .i64 0,.int .i64 0] 42)):World).cell? ⟨w.heap.size,2,none⟩=some (.string ⟨#[]⟩):=(World.cell?_alloc_at _ _ _ _ rfl).trans rfl;have q3:((w.alloc (.cells #[.int .i64 0,.int .i64 0,.string ⟨#[]⟩,.string ⟨#[]⟩,.string ⟨#[]⟩,.int .i64 0,.int .i64 0,.int .i64 0,.string ⟨#[]⟩,.bool false,.int .i64 0,.int .i64 0] 42)):World).cell? ⟨w.heap.size,3,none⟩=some (.string ⟨#[]⟩):=(World.cell?_alloc_at _ _ _ _ rfl).trans rfl
 have q4:((w.alloc (.cells #[.int .i64 0,.int .i64 0,.string ⟨#[]⟩,.string ⟨#[]⟩,.string ⟨#[]⟩,.int .i64 0,.int .i64 0,.int .i64 0,.string ⟨#[]⟩,.bool false,.int .i64 0,.int .i64 0] 42)):World).cell? ⟨w.heap.size,4,none⟩=some (.string ⟨#[]⟩):=(World.cell?_alloc_at _ _ _ _ rfl).trans rfl;have q5:((w.alloc (.cells #[.int .i64 0,.int .i64 0,.string ⟨#[]⟩,.string ⟨#[]⟩,.string ⟨#[]⟩,.int .i64 0,.int .i64 0,.int .i64 0,.string ⟨#[]⟩,.bool false,.int .i64 0,.int .i64 0] 42)):World).cell? ⟨w.heap.size,5,none⟩=some (.int .i64 0):=(World.cell?_alloc_at _ _ _ _ rfl).trans rfl
 have q6:((w.alloc (.cells #[.int .i64 0,.int .i64 0,.string ⟨#[]⟩,.string ⟨#[]⟩,.string ⟨#[]⟩,.int .i64 0,.int .i64 0,.int .i64 0,.string ⟨#[]⟩,.bool false,.int .i64 0,.int .i64 0] 42)):World).cell? ⟨w.heap.size,6,none⟩=some (.int .i64 0):=(World.cell?_alloc_at _ _ _ _ rfl).trans rfl;have q7:((w.alloc (.cells #[.int .i64 0,.int .i64 0,.string ⟨#[]⟩,.string ⟨#[]⟩,.string ⟨#[]⟩,.int .i64 0,.int .i64 0,.int .i64 0,.string ⟨#[]⟩,.bool false,.int .i64 0,.int .i64 0] 42)):World).cell? ⟨w.heap.size,7,none⟩=some (.int .i64 0):=(World.cell?_alloc_at _ _ _ _ rfl).trans rfl
 have q8:((w.alloc (.cells #[.int .i64 0,.int .i64 0,.string ⟨#[]⟩,.string ⟨#[]⟩,.string ⟨#[]⟩,.int .i64 0,.int .i64 0,.int .i64 0,.string ⟨#[]⟩,.bool false,.int .i64 0,.int .i64 0] 42)):World).cell? ⟨w.heap.size,8,none⟩=some (.string ⟨#[]⟩):=(World.cell?_alloc_at _ _ _ _ rfl).trans rfl;have q9:((w.alloc (.cells #[.int .i64 0,.int .i64 0,.string ⟨#[]⟩,.string ⟨#[]⟩,.string ⟨#[]⟩,.int .i64 0,.int .i64 0,.int .i64 0,.string ⟨#[]⟩,.bool false,.int .i64 0,.int .i64 0] 42)):World).cell? ⟨w.heap.size,9,none⟩=some (.bool false):=(World.cell?_alloc_at _ _ _ _ rfl).trans rfl
 have q10:((w.alloc (.cells #[.int .i64 0,.int .i64 0,.string ⟨#[]⟩,.string ⟨#[]⟩,.string ⟨#[]⟩,.int .i64 0,.int .i64 0,.int .i64 0,.string ⟨#[]⟩,.bool false,.int .i64 0,.int .i64 0] 42)):World).cell? ⟨w.heap.size,10,none⟩=some (.int .i64 0):=(World.cell?_alloc_at _ _ _ _ rfl).trans rfl;have q11:((w.alloc (.cells #[.int .i64 0,.int .i64 0,.string ⟨#[]⟩,.string ⟨#[]⟩,.string ⟨#[]⟩,.int .i64 0,.int .i64 0,.int .i64 0,.string ⟨#[]⟩,.bool false,.int .i64 0,.int .i64 0] 42)):World).cell? ⟨w.heap.size,11,none⟩=some (.int .i64 0):=(World.cell?_alloc_at _ _ _ _ rfl).trans rfl;go_enter Tryz.func119,Tryz.ntmps119
 go_wp2_with fail
 all_goals first
  |exact (k1.out (by assumption) (by assumption)).elim
  |exact (k2.out (by assumption) (by assumption)).elim
  |exact (k3.out (by assumption) (by assumption)).elim
  |exact bodyPost_ret (v:=.agg #[.int .i64 0,.int .i64 0,.string ⟨#[]⟩,.string ⟨#[]⟩,.string ⟨#[]⟩,.int .i64 0,.int .i64 0,.int .i64 0,.string ⟨#[]⟩,.bool false,.int .i64 0,.int .i64 0]) (by simp [results,Tryz.results119,go_sem,q0,q1,q2,q3,q4,q5,q6,q7,q8,q9,q10,q11]) rfl ⟨rfl,hB.out⟩
theorem two_of {α:Type} {l:List α} (h:l.length=2):∃ a b,l= [a,b]:=by
 match l,h with
 |[a,b],_=>exact ⟨a,b,rfl⟩
theorem ten_of {α:Type} {l:List α} (h:l.length=10):∃ a0 a1 a2 a3 a4 a5 a6 a7 a8 a9,l= [a0,a1,a2,a3,a4,a5,a6,a7,a8,a9]:=by
 match l,h with
 |[a0,a1,a2,a3,a4,a5,a6,a7,a8,a9],_=>exact ⟨a0,a1,a2,a3,a4,a5,a6,a7,a8,a9,rfl⟩
theorem ofWords_is (ws:List ByteArray) (g c:Nat) (w:World) (hn:0<ws.length) (hn2:ws.length≤5000) (hs:∀ x∈ws,x.size≤5000) (hw:WordsAt w g ws) (hL:LibsA w) :
 Calls Tryz.prog 119 #[.slice (some ⟨g,0,none⟩) ws.length c] w fun r w'=>∃ e,r=.returned (evV e)∧ToldW ws e∧Small 5000 e.fam∧Below w.heap.size w w':=by
 obtain ⟨x0,h0⟩:∃ x0,ws[0]?=some x0:=⟨_,List.getElem?_eq_getElem hn⟩;by_cases hp:x0.data.toList= [112]∧ws.length=10
 ·obtain ⟨a0,a1,a2,a3,a4,a5,a6,a7,a8,a9,rfl⟩:=ten_of hp.2
  simp only [List.getElem?_cons_zero,Option.some.injEq] at h0;subst h0;exact ofWords_put _ _ _ _ _ _ _ _ _ _ g c w hp.1 hs hw hL
 by_cases hd:x0.data.toList= [100]∧ws.length=2
 ·obtain ⟨a0,a1,rfl⟩:=two_of hd.2
  simp only [List.getElem?_cons_zero,Option.some.injEq] at h0;subst h0;exact ofWords_drop _ _ g c w hd.1 (hs a1 (by simp)) hw hL
 by_cases hc:x0.data.toList= [99]∧ws.length=2
 ·obtain ⟨a0,a1,rfl⟩:=two_of hc.2
  simp only [List.getElem?_cons_zero,Option.some.injEq] at h0;subst h0;exact ofWords_clock _ _ g c w hc.1 (hs a1 (by simp)) hw hL
 refine (ofWords_no x0 ws.length g c w (by have:=hw.2 0 x0 h0; rwa [Nat.add_zero] at this) hn hn2 hp hd hc).mono ?_
 rintro e w' ⟨rfl,hb⟩;exact ⟨_,rfl,toldW_no h0 (fun a b=>hp ⟨a,b⟩) (fun a b=>hd ⟨a,b⟩) (fun a b=>hc ⟨a,b⟩) _,⟨Nat.zero_le _,Nat.zero_le _,Nat.zero_le _,Nat.zero_le _⟩,hb⟩
theorem wordsAt_cellsOf (w:World) (ps:List ByteArray) (N:Nat) (t:TypeId):WordsAt (w.alloc (.cells (Lib.cellsOf ps N) t)) w.heap.size ps:=by
 refine ⟨by simp,fun j x hj=>?_⟩
 have hi:=(List.getElem?_eq_some_iff.1 hj).1;rw [Nat.zero_add,World.cell?_alloc_at _ _ _ _ rfl];unfold Lib.cellsOf;rw [List.getElem?_toArray,List.getElem?_append_left (by simpa using hi),List.getElem?_map,hj]
 rfl
theorem splitK_len (c:UInt8) (k:Nat) (l:List UInt8):∀ x∈Lib.splitK [c] 0 k l,x.length≤l.length:=by
 induction k generalizing l with
 |zero=>intro x hx; simp [Lib.splitK] at hx; subst hx; exact Nat.le_refl _
 |succ k ih=>
  rcases nilOr c l with h | ⟨a,b,rfl,h⟩
  ·rw [splitK_no h]; intro x hx; simp at hx; subst hx; exact Nat.le_refl _
  ·rw [splitK_at b h]
   intro x hx;simp only [List.mem_cons] at hx;rcases hx with rfl | hx
   ·simp
   ·have:=ih b x hx
    simp; omega
theorem splitK_pos (c:UInt8) (k:Nat) (l:List UInt8):0<(Lib.splitK [c] 0 k l).length:=by
 cases k with
 |zero=>simp [Lib.splitK]
 |succ k=>
  rcases nilOr c l with h | ⟨a,b,rfl,h⟩
  ·rw [splitK_no h]; simp
  ·rw [splitK_at b h]; simp
set_option maxHeartbeats 8000000
theorem refMay_1 (f:Fam) (i t:Int) (b:Bool) (hb:b=true↔may ⟨1,f,i,t⟩) (hs:Small 5000 f) (w:World):Calls Tryz.prog 140 #[evV ⟨1,f,i,t⟩] w fun e w'=>e=.returned (.bool b)∧Below w.heap.size w w':=by
 rw [may_1] at hb;obtain ⟨f1,f2,f3,f4,f5,f6,f7,f8,f9⟩:=f;unfold Small at hs;unfold mayF at hb;simp only at hs hb;obtain ⟨s2,s3,s4,s8⟩:=hs
 have HBD:Hid (Below w.heap.size w (((w.alloc (.cells #[.int .i64 1,.int .i64 f1,.string f2,.string f3,.string f4,.int .i64 f5,.int .i64 f6,.int .i64 f7,.string f8,.bool f9,.int .i64 i,.int .i64 t] 154)).alloc (.cells #[.int .i64 f1,.string f2,.string f3,.string f4,.int .i64 f5,.int .i64 f6,.int .i64 f7,.string f8,.bool f9] 40)).alloc (.cells #[.int .i64 f1,.int .i64 f5,.int .i64 f6,.int .i64 f7] 3))):=by
  show Below _ _ _
  repeat (first | exact Below.refl _ _ | refine Below.alloc ?_ (by simp; try omega) _)
 have HB:Hid (b=true↔((okN f1∧okN f5∧okN f6∧okN f7)∧nameB f2.data.toList=true∧nameB f3.data.toList=true∧(f8.data.toList= []∨nameB f8.data.toList=true)∧Lst f4.data.toList)∧i=0∧t=0):=hb;clear hb
 have HN:Hid (∀ j:Nat,j<4→okB ([f1,f5,f6,f7].getD j 0)=false→b=false):=fun j hj h=>bool_f HB.out (fun hh=>by
  obtain ⟨⟨⟨h1,h5,h6,h7⟩,_⟩,_⟩:=hh;match j,hj with
  |0,_=>rw [show [f1,f5,f6,f7].getD 0 0=f1 from rfl,okB_t h1] at h; cases h
  |1,_=>rw [show [f1,f5,f6,f7].getD 1 0=f5 from rfl,okB_t h5] at h; cases h
  |2,_=>rw [show [f1,f5,f6,f7].getD 2 0=f6 from rfl,okB_t h6] at h; cases h
  |3,_=>rw [show [f1,f5,f6,f7].getD 3 0=f7 from rfl,okB_t h7] at h; cases h)
 unfold evV evCs;simp only;go_enter Tryz.func140,Tryz.ntmps140
 go_wp2_with fail
 go_loopg [24] 4 (fun gk iv wr=>∃ j:Nat,j+gk=4∧iv=.int .i64 j∧Hid (∀ k:Nat,k<j→okB ([f1,f5,f6,f7].getD k 0)=true)∧wr=(((w.alloc (.cells #[.int .i64 1,.int .i64 f1,.string f2,.string f3,.string f4,.int .i64 f5,.int .i64 f6,.int .i64 f7,.string f8,.bool f9,.int .i64 i,.int .i64 t] 154)).alloc (.cells #[.int .i64 f1,.string f2,.string f3,.string f4,.int .i64 f5,.int .i64 f6,.int .i64 f7,.string f8,.bool f9] 40)).alloc (.cells #[.int .i64 f1,.int .i64 f5,.int .i64 f6,.int .i64 f7] 3)))
 case atStart=>exact ⟨0,by omega,rfl,(fun k hk=>absurd hk (Nat.not_lt_zero _)),rfl⟩
 case round=>
  obtain ⟨j,hj,rfl,HA,rfl⟩:=hrel;have HJ:Hid (j+gk=4):=hj;have hj4:j≤4:=by omega
  clear hj;by_cases hlt:j<4
  ·have hcell:(((w.alloc (.cells #[.int .i64 1,.int .i64 f1,.string f2,.string f3,.string f4,.int .i64 f5,.int .i64 f6,.int .i64 f7,.string f8,.bool f9,.int .i64 i,.int .i64 t] 154)).alloc (.cells #[.int .i64 f1,.string f2,.string f3,.string f4,.int .i64 f5,.int .i64 f6,.int .i64 f7,.string f8,.bool f9] 40)).alloc (.cells #[.int .i64 f1,.int .i64 f5,.int .i64 f6,.int .i64 f7] 3)).cell? ⟨w.heap.size+1+1,j,none⟩=some (.int .i64 ([f1,f5,f6,f7].getD j 0)):=by
    match j,hlt with
    |0,_=>exact (World.cell?_alloc_at _ _ _ _ (by simp)).trans rfl
    |1,_=>exact (World.cell?_alloc_at _ _ _ _ (by simp)).trans rfl
    |2,_=>exact (World.cell?_alloc_at _ _ _ _ (by simp)).trans rfl
    |3,_=>exact (World.cell?_alloc_at _ _ _ _ (by simp)).trans rfl
   have HNJ:Hid (okB ([f1,f5,f6,f7].getD j 0)=false→b=false):=HN.out j hlt
   have HAN:Hid (okB ([f1,f5,f6,f7].getD j 0)=true→∀ k:Nat,k<j+1→okB ([f1,f5,f6,f7].getD k 0)=true):=fun h k hk=>by
    by_cases hkj:k=j
    ·rw [hkj]; exact h
    ·exact HA.out k (by omega)
   generalize [f1,f5,f6,f7].getD j 0=n at *;have hltI:(j:Int)<4:=by omega
   go_wp2_with fail
   refine (in_ok n _).mono ?_;rintro e w' ⟨rfl,rfl⟩
   cases hq:okB n with
   |true=>
    have HQ:=HAN.out hq;have HQ2:Hid (∀ k:Nat,k<j+1→okB ([f1,f5,f6,f7].getD k 0)=true):=HQ;clear hq HQ;go_wp2_with fail
    go_roundg (gk - 1)
    case measure=>have:=HJ.out; omega
    case rel=>exact ⟨j+1,by have:=HJ.out; omega,by go_num,HQ2,rfl⟩
   |false=>
    have HQ:Hid (b=false):=HNJ.out hq;clear hq;go_wp2_with fail
    go_ret;exact ⟨by rw [HQ.out]; rfl,HBD.out⟩
  ·obtain rfl:j=4:=by omega
   have HOK:Hid (okN f1∧okN f5∧okN f6∧okN f7):=⟨okB_iff.1 (HA.out 0 (by omega)),okB_iff.1 (HA.out 1 (by omega)),okB_iff.1 (HA.out 2 (by omega)),okB_iff.1 (HA.out 3 (by omega))⟩
   clear HA HJ hj4 hlt;go_wp2_with fail
   refine (refLeast_is f4 _ s4).mono ?_;rintro e w4 ⟨l,n,rfl,ho,hb4⟩;have HB4:Hid (Below w.heap.size w w4):=HBD.out.trans (hb4.mono HBD.out.size);have HO:Hid (Out f4.data.toList l n):=ho;have kc:∀ (g o:Nat) (v:Value),g<w.heap.size+1+1+1→(((w.alloc (.cells #[.int .i64 1,.int .i64 f1,.string f2,.string f3,.string f4,.int .i64 f5,.int .i64 f6,.int .i64 f7,.string f8,.bool f9,.int .i64 i,.int .i64 t] 154)).alloc (.cells #[.int .i64 f1,.string f2,.string f3,.string f4,.int .i64 f5,.int .i64 f6,.int .i64 f7,.string f8,.bool f9] 40)).alloc (.cells #[.int .i64 f1,.int .i64 f5,.int .i64 f6,.int .i64 f7] 3)).cell? ⟨g,o,none⟩=some v→w4.cell? ⟨g,o,none⟩=some v:=fun g o v hg h=>(hb4.cell (p:=⟨g,o,none⟩) (by simpa using hg)).trans h
   have k10:=kc w.heap.size 10 (.int .i64 i) (by omega) (Lib.cell?_alloc_some _ (Lib.cell?_alloc_some _ ((World.cell?_alloc_at _ _ _ _ rfl).trans rfl)))
   have k11:=kc w.heap.size 11 (.int .i64 t) (by omega) (Lib.cell?_alloc_some _ (Lib.cell?_alloc_some _ ((World.cell?_alloc_at _ _ _ _ rfl).trans rfl)))
   have m1:=kc (w.heap.size+1) 1 (.string f2) (by omega) (Lib.cell?_alloc_some _ ((World.cell?_alloc_at _ _ _ _ (by simp)).trans rfl))
   have m2:=kc (w.heap.size+1) 2 (.string f3) (by omega) (Lib.cell?_alloc_some _ ((World.cell?_alloc_at _ _ _ _ (by simp)).trans rfl))
   have m3:=kc (w.heap.size+1) 3 (.string f4) (by omega) (Lib.cell?_alloc_some _ ((World.cell?_alloc_at _ _ _ _ (by simp)).trans rfl))
   have m7:=kc (w.heap.size+1) 7 (.string f8) (by omega) (Lib.cell?_alloc_some _ ((World.cell?_alloc_at _ _ _ _ (by simp)).trans rfl))
   clear kc hb4 ho;generalize hJJ:joined l=J;have HJJ:Hid (joined l=J):=hJJ;clear hJJ;by_cases hi:i=0
   ·subst hi
    by_cases ht:t=0
    ·subst ht
     cases h2:nameB f2.data.toList with
     |true=>
      cases h3:nameB f3.data.toList with
      |true=>
       have HR:Hid (b=true↔(f8.data.toList= []∨nameB f8.data.toList=true)∧Lst f4.data.toList):=by
        show b=true↔_
        rw [HB.out,h2,h3]
        have:=HOK.out;simp [this]
       clear HB HOK;have HC2:Hid (nameB f2.data.toList=true):=h2;have HC3:Hid (nameB f3.data.toList=true):=h3;clear h2 h3;by_cases h8:f8.data.toList= []
       ·have he:f8.toList.isEmpty=true:=by rw [ByteArray.toList_eq,h8]; rfl
        have HR2:Hid (b=true↔Lst f4.data.toList):=by
         show b=true↔_
         rw [HR.out];simp [h8]
        clear HR h8
        cases n with
        |succ n=>
         have HQ:Hid (b=false):=bool_f HR2.out (lst_not HO.out);have hn:(((n+1:Nat):Int) == 0)=false:=by rw [beq_eq_false_iff_ne]; omega
         have hn2:((n:Int)+1 == 0)=false:=by rw [beq_eq_false_iff_ne]; omega
         clear HR2;go_wp2_with fail
         refine (refName_is f2 _ (by omega)).mono ?_
         rintro e w' ⟨rfl,rfl⟩;rw [HC2.out];go_wp2_with fail
         refine (refName_is f3 _ (by omega)).mono ?_
         rintro e w' ⟨rfl,rfl⟩;rw [HC3.out];go_wp2_with fail
         go_ret;exact ⟨by rw [HQ.out]; rfl,HB4.out⟩
        |zero=>
         rw [show ((0:Nat):Int)=0 from rfl]
         by_cases hJ:J=f4.data.toList
         ·have HQ:Hid (b=true):=HR2.out.2 ((lst_of HO.out).2 (HJJ.out.trans hJ))
          have hf4:f4=⟨J.toArray⟩:=bytes_eq hJ.symm;clear HR2 HO hJ;subst hf4;go_wp2_with fail
          refine (refName_is f2 _ (by omega)).mono ?_
          rintro e w' ⟨rfl,rfl⟩;rw [HC2.out];go_wp2_with fail
          refine (refName_is f3 _ (by omega)).mono ?_
          rintro e w' ⟨rfl,rfl⟩;rw [HC3.out];go_wp2_with fail
          go_ret;exact ⟨by rw [HQ.out]; rfl,HB4.out⟩
         ·have HQ:Hid (b=false):=bool_f HR2.out (fun h=>hJ (HJJ.out.symm.trans ((lst_of HO.out).1 h)))
          have hne:(J == f4.toList)=false:=by rw [ByteArray.toList_eq,beq_eq_false_iff_ne]; exact hJ
          clear HR2 HO hJ;go_wp2_with fail
          refine (refName_is f2 _ (by omega)).mono ?_
          rintro e w' ⟨rfl,rfl⟩;rw [HC2.out];go_wp2_with fail
          refine (refName_is f3 _ (by omega)).mono ?_
          rintro e w' ⟨rfl,rfl⟩;rw [HC3.out];go_wp2_with fail
          go_ret;exact ⟨by rw [HQ.out]; rfl,HB4.out⟩
       ·have he:f8.toList.isEmpty=false:=by rw [ByteArray.toList_eq,List.isEmpty_eq_false_iff]; exact h8
        cases hn8:nameB f8.data.toList with
        |true=>
         have HC8:Hid (nameB f8.data.toList=true):=hn8
         have HR2:Hid (b=true↔Lst f4.data.toList):=by
          show b=true↔_
          rw [HR.out];simp [hn8]
         clear HR h8 hn8
         cases n with
         |succ n=>
          have HQ:Hid (b=false):=bool_f HR2.out (lst_not HO.out);have hn:(((n+1:Nat):Int) == 0)=false:=by rw [beq_eq_false_iff_ne]; omega
          have hn2:((n:Int)+1 == 0)=false:=by rw [beq_eq_false_iff_ne]; omega
          clear HR2;go_wp2_with fail
          refine (refName_is f2 _ (by omega)).mono ?_
          rintro e w' ⟨rfl,rfl⟩;rw [HC2.out];go_wp2_with fail
          refine (refName_is f3 _ (by omega)).mono ?_
          rintro e w' ⟨rfl,rfl⟩;rw [HC3.out];go_wp2_with fail
          refine (refName_is f8 _ (by omega)).mono ?_
          rintro e w' ⟨rfl,rfl⟩;rw [HC8.out];go_wp2_with fail
          go_ret;exact ⟨by rw [HQ.out]; rfl,HB4.out⟩
         |zero=>
          rw [show ((0:Nat):Int)=0 from rfl]
          by_cases hJ:J=f4.data.toList
          ·have HQ:Hid (b=true):=HR2.out.2 ((lst_of HO.out).2 (HJJ.out.trans hJ))
           have hf4:f4=⟨J.toArray⟩:=bytes_eq hJ.symm;clear HR2 HO hJ;subst hf4;go_wp2_with fail
           refine (refName_is f2 _ (by omega)).mono ?_
           rintro e w' ⟨rfl,rfl⟩;rw [HC2.out];go_wp2_with fail
           refine (refName_is f3 _ (by omega)).mono ?_
           rintro e w' ⟨rfl,rfl⟩;rw [HC3.out];go_wp2_with fail
           refine (refName_is f8 _ (by omega)).mono ?_
           rintro e w' ⟨rfl,rfl⟩;rw [HC8.out];go_wp2_with fail
           go_ret;exact ⟨by rw [HQ.out]; rfl,HB4.out⟩
          ·have HQ:Hid (b=false):=bool_f HR2.out (fun h=>hJ (HJJ.out.symm.trans ((lst_of HO.out).1 h)))
           have hne:(J == f4.toList)=false:=by rw [ByteArray.toList_eq,beq_eq_false_iff_ne]; exact hJ
           clear HR2 HO hJ;go_wp2_with fail
           refine (refName_is f2 _ (by omega)).mono ?_
           rintro e w' ⟨rfl,rfl⟩;rw [HC2.out];go_wp2_with fail
           refine (refName_is f3 _ (by omega)).mono ?_
           rintro e w' ⟨rfl,rfl⟩;rw [HC3.out];go_wp2_with fail
           refine (refName_is f8 _ (by omega)).mono ?_
           rintro e w' ⟨rfl,rfl⟩;rw [HC8.out];go_wp2_with fail
           go_ret;exact ⟨by rw [HQ.out]; rfl,HB4.out⟩
        |false=>
         have HC8:Hid (nameB f8.data.toList=false):=hn8
         have HQ:Hid (b=false):=bool_f HR.out (fun h=>by
          rcases h.1 with h | h
          ·exact h8 h
          ·rw [hn8] at h; cases h)
         clear HR h8 hn8;go_wp2_with fail
         refine (refName_is f2 _ (by omega)).mono ?_
         rintro e w' ⟨rfl,rfl⟩;rw [HC2.out];go_wp2_with fail
         refine (refName_is f3 _ (by omega)).mono ?_
         rintro e w' ⟨rfl,rfl⟩;rw [HC3.out];go_wp2_with fail
         refine (refName_is f8 _ (by omega)).mono ?_
         rintro e w' ⟨rfl,rfl⟩;rw [HC8.out];go_wp2_with fail
         go_ret;exact ⟨by rw [HQ.out]; rfl,HB4.out⟩
      |false=>
       have HQ:Hid (b=false):=bool_f HB.out (fun h=>by have:=h.1.2.2.1; rw [h3] at this; cases this)
       have HC2:Hid (nameB f2.data.toList=true):=h2;have HC3:Hid (nameB f3.data.toList=false):=h3;clear h2 h3 HB;go_wp2_with fail
       refine (refName_is f2 _ (by omega)).mono ?_
       rintro e w' ⟨rfl,rfl⟩;rw [HC2.out];go_wp2_with fail
       refine (refName_is f3 _ (by omega)).mono ?_
       rintro e w' ⟨rfl,rfl⟩;rw [HC3.out];go_wp2_with fail
       go_ret;exact ⟨by rw [HQ.out]; rfl,HB4.out⟩
     |false=>
      have HQ:Hid (b=false):=bool_f HB.out (fun h=>by have:=h.1.2.1; rw [h2] at this; cases this)
      have HC2:Hid (nameB f2.data.toList=false):=h2;clear h2 HB;go_wp2_with fail
      refine (refName_is f2 _ (by omega)).mono ?_
      rintro e w' ⟨rfl,rfl⟩;rw [HC2.out];go_wp2_with fail
      go_ret;exact ⟨by rw [HQ.out]; rfl,HB4.out⟩
    ·have HQ:Hid (b=false):=bool_f HB.out (fun h=>ht h.2.2)
     have ht':(t == 0)=false:=by rw [beq_eq_false_iff_ne]; exact ht
     go_wp2_with fail
     go_ret;exact ⟨by rw [HQ.out]; rfl,HB4.out⟩
   ·have HQ:Hid (b=false):=bool_f HB.out (fun h=>hi h.2.1)
    have hi':(i == 0)=false:=by rw [beq_eq_false_iff_ne]; exact hi
    go_wp2_with fail
    go_ret;exact ⟨by rw [HQ.out]; rfl,HB4.out⟩
set_option maxHeartbeats 4000000
theorem refMay_3 (f:Fam) (i t:Int) (b:Bool) (hb:b=true↔may ⟨3,f,i,t⟩) (w:World):Calls Tryz.prog 140 #[evV ⟨3,f,i,t⟩] w fun e w'=>e=.returned (.bool b)∧Below w.heap.size w w':=by
 rw [may_3] at hb;by_cases hz:f=zeroF
 ·subst hz
  by_cases ht:i=0
  ·subst ht
   have HB:Hid (b=okB t):=by
    show b=okB t
    rw [Bool.eq_iff_iff,okB_iff,hb];simp
   clear hb;unfold evV evCs zeroF;simp only;go_enter Tryz.func140,Tryz.ntmps140
   go_wp2_with fail
   refine (in_ok t _).mono ?_;rintro e w' ⟨rfl,rfl⟩;go_wp2_with fail
   go_ret;refine ⟨by rw [HB.out]; rfl,?_⟩
   repeat (first | exact Below.refl _ _ | refine Below.alloc ?_ (by simp) _)
  ·have HB:Hid (b=false):=bool_f hb (fun h=>ht h.2.1)
   have ht':(i == 0)=false:=by rw [beq_eq_false_iff_ne]; exact ht
   clear hb;unfold evV evCs zeroF;simp only;go_enter Tryz.func140,Tryz.ntmps140
   go_wp2_with fail
   go_ret;refine ⟨by rw [HB.out]; rfl,?_⟩
   repeat (first | exact Below.refl _ _ | refine Below.alloc ?_ (by simp) _)
 ·have HB:Hid (b=false):=bool_f hb (fun h=>hz h.1)
  have HZ:Hid (¬ f=zeroF):=hz;clear hb hz;obtain ⟨f1,f2,f3,f4,f5,f6,f7,f8,f9⟩:=f;unfold evV evCs;simp only;go_enter Tryz.func140,Tryz.ntmps140
  go_wp2_with fail
  all_goals first
   |(exfalso; refine HZ.out ?_; unfold zeroF; simp_all [toList_nil]; done)
   |(go_ret; refine ⟨by rw [HB.out]; rfl,?_⟩; repeat (first | exact Below.refl _ _ | refine Below.alloc ?_ (by simp) _))
theorem refMay_no (k:Int) (f:Fam) (i t:Int) (b:Bool) (hb:b=true↔may ⟨k,f,i,t⟩) (h1:k≠1) (h2:k≠2) (h3:k≠3) (w:World):Calls Tryz.prog 140 #[evV ⟨k,f,i,t⟩] w fun e w'=>e=.returned (.bool b)∧Below w.heap.size w w':=by
 have HB:Hid (b=false):=bool_f hb (may_no h1 h2 h3);clear hb;obtain ⟨f1,f2,f3,f4,f5,f6,f7,f8,f9⟩:=f;unfold evV evCs;simp only;go_enter Tryz.func140,Tryz.ntmps140
 go_wp2_with fail
 go_ret;refine ⟨by rw [HB.out]; rfl,?_⟩
 repeat (first | exact Below.refl _ _ | refine Below.alloc ?_ (by simp) _)
theorem refMay_is (e:E) (b:Bool) (hb:b=true↔Ev.may e) (hs:Small 5000 e.fam) (w:World):Calls Tryz.prog 140 #[evV e] w fun e w'=>e=.returned (.bool b)∧Below w.heap.size w w':=by
 obtain ⟨k,f,i,t⟩:=e;by_cases h1:k=1
 ·subst h1; exact refMay_1 f i t b hb hs w
 by_cases h2:k=2
 ·subst h2; exact refMay_2 f i t b hb w
 by_cases h3:k=3
 ·subst h3; exact refMay_3 f i t b hb w
 exact refMay_no k f i t b hb h1 h2 h3 w
end Go.Proofs.YtlailakofhenkabGreatDoor
