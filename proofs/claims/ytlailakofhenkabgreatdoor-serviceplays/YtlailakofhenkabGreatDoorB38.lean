import Derived.Test.YtlailakofhenkabGreatDoorB37
set_option maxRecDepth 100000
set_option maxHeartbeats 8000000
namespace Go.Proofs.YtlailakofhenkabGreatDoor
open Go Go.RowKit Tok Sc Ev
theorem grant_is (N:Nat) (w:World) (gv gs gd:Nat) (r:Rul) (p:Pub) (v:Value) (client subject sc:ByteArray) (l:List Word) (m:Nat) (h:SvIs N w gv gs gd r p v) (hcl:client.size≤5000) (hsu:subject.size≤5000) (hsc:sc.size≤5000) (ho:Sc.Out sc.data.toList l m) (hN:N<98000) :
 Calls Tryz.prog 27 #[.pointer (some ⟨gv,0,none⟩),.string client,.string subject,.string sc] w fun e w'=>e=.returned (.tuple #[.string (grantM (txtB r) p (nameB client.data.toList && nameB subject.data.toList) client subject ⟨(joined l).toArray⟩ m).2.1,errQ (grantM (txtB r) p (nameB client.data.toList && nameB subject.data.toList) client subject ⟨(joined l).toArray⟩ m).2.2])∧∃ v',SPto N gs gd v w w' (grantM (txtB r) p (nameB client.data.toList && nameB subject.data.toList) client subject ⟨(joined l).toArray⟩ m).1 v':=by
 have HS:Hid (SvIs N w gv gs gd r p v):=h;have hn1:=fun (W:World)=>name_is client W (by omega)
 have hn2:=fun (W:World)=>name_is subject W (by omega)
 have HLE:Hid (∀ W:World,LenOk W→Calls Tryz.prog 71 #[.string sc] W fun e w'=>e=.returned (.tuple #[.string ⟨(joined l).toArray⟩,errQ m])∧Below W.heap.size W w'):=fun W hW=>least_at sc l m ho W hsc hW
 have HGI:Hid (nameB client.data.toList=true→nameB subject.data.toList=true→m=0→¬ 1099511627776<p.st.next→∀ (W:World),SvIs N W gv gs gd r p v→Calls Tryz.prog 72 #[.pointer (some ⟨gv,0,none⟩),famV (newF p.st client subject ⟨(joined l).toArray⟩)] W fun e w'=>e=.returned (.tuple #[.string (giveM (txtB r) p (newF p.st client subject ⟨(joined l).toArray⟩)).2.1,errQ (giveM (txtB r) p (newF p.st client subject ⟨(joined l).toArray⟩)).2.2])∧∃ v',SPto N gs gd v W w' (giveM (txtB r) p (newF p.st client subject ⟨(joined l).toArray⟩)).1 v'):=fun h1 h2 hm hx W hW=>by subst hm; exact give_is N W gv gs gd r p v _ hW (may_new h.sp.ok.good hx h1 h2 (lst_joined ho)) hN
 have hl20:(p.st.fams.length:Int)≤20:=by have:=h.sp.ok.good.len; omega
 generalize (⟨(joined l).toArray⟩:ByteArray)=J at *;clear h ho hcl hsu hsc;unfold grantM
 cases h1:nameB client.data.toList with
 |false=>
  rw [h1] at hn1;rw [if_pos (by rfl)]
  clear h1;go_enter Tryz.func27,Tryz.ntmps27
  go_wp2_with fail
  refine (hn1 _).mono ?_;rintro e1 w1 ⟨rfl,hw⟩;obtain rfl:w=w1:=hw.symm;go_wp2_with fail
  go_ret2;exact ⟨rfl,_,SPto.same HS.out.sp (Below.refl _ _)⟩
 |true=>
  rw [h1] at hn1 HGI
  cases h2:nameB subject.data.toList with
  |false=>
   rw [h2] at hn2;rw [if_pos (by rfl)]
   clear h1 h2;go_enter Tryz.func27,Tryz.ntmps27
   go_wp2_with fail
   refine (hn1 _).mono ?_;rintro e1 w1 ⟨rfl,hw⟩;obtain rfl:w=w1:=hw.symm;go_wp2_with fail
   refine (hn2 _).mono ?_;rintro e1 w1 ⟨rfl,hw⟩;obtain rfl:w=w1:=hw.symm;go_wp2_with fail
   go_ret2;exact ⟨rfl,_,SPto.same HS.out.sp (Below.refl _ _)⟩
  |true=>
   rw [h2] at hn2 HGI;rw [if_neg (by simp)]
   clear h1 h2
   cases m with
   |succ m=>
    rw [if_pos (by omega)]
    go_enter Tryz.func27,Tryz.ntmps27
    go_wp2_with fail
    refine (hn1 _).mono ?_;rintro e1 w1 ⟨rfl,hw⟩;obtain rfl:w=w1:=hw.symm;go_wp2_with fail
    refine (hn2 _).mono ?_;rintro e1 w1 ⟨rfl,hw⟩;obtain rfl:w=w1:=hw.symm;go_wp2_with fail
    refine (HLE.out _ HS.out.sp.libs.base.len).mono ?_;rintro e2 w2 ⟨rfl,hb2⟩;have HT2:Hid _:=SPto.same (N:=N) HS.out.sp hb2;clear hb2;rw [errQ_succ];go_wp2_with fail
    go_ret2;exact ⟨rfl,_,HT2.out⟩
   |zero=>
    rw [if_neg (by omega)]
    by_cases hx:1099511627776<p.st.next
    ·rw [if_pos hx]
     go_enter Tryz.func27,Tryz.ntmps27
     go_wp2_with fail
     refine (hn1 _).mono ?_;rintro e1 w1 ⟨rfl,hw⟩;obtain rfl:w=w1:=hw.symm;go_wp2_with fail
     refine (hn2 _).mono ?_;rintro e1 w1 ⟨rfl,hw⟩;obtain rfl:w=w1:=hw.symm;go_wp2_with fail
     refine (HLE.out _ HS.out.sp.libs.base.len).mono ?_;rintro e2 w2 ⟨rfl,hb2⟩;have HS2:Hid _:=HS.out.on hb2;have HB2:Hid (Below w.heap.size w w2):=hb2;rw [show errQ 0=.nilIface from rfl]
     clear hb2;go_wp2_with fail
     refine (svState_is N _ gv gs gd r p v HS2.out).mono ?_;rintro e3 w3 ⟨v3,rfl,hf3,hb3⟩;obtain ⟨b3,c3,rfl⟩:=RowsK.slice hf3;unfold stV;have hb4:Below w3.heap.size w3 (w3.alloc (.cells #[.int .i64 p.st.clock,.int .i64 p.st.next,.slice b3 p.st.fams.length c3] 36)):=(Below.refl _ _).alloc (Nat.le_refl _) _;have HS4:Hid (SvIs N (w3.alloc (.cells #[.int .i64 p.st.clock,.int .i64 p.st.next,.slice b3 p.st.fams.length c3] 36)) gv gs gd r p v):=(HS2.out.on hb3).on hb4;have HB3:Hid (Below w.heap.size w (w3.alloc (.cells #[.int .i64 p.st.clock,.int .i64 p.st.next,.slice b3 p.st.fams.length c3] 36))):=(HB2.out.trans (hb3.mono HB2.out.size)).trans (hb4.mono (Nat.le_trans HB2.out.size hb3.size))
     have s0:(w3.alloc (.cells #[.int .i64 p.st.clock,.int .i64 p.st.next,.slice b3 p.st.fams.length c3] 36)).cell? ⟨w3.heap.size,0,none⟩=some (.int .i64 p.st.clock):=(World.cell?_alloc_at _ _ _ _ rfl).trans rfl;have s1:(w3.alloc (.cells #[.int .i64 p.st.clock,.int .i64 p.st.next,.slice b3 p.st.fams.length c3] 36)).cell? ⟨w3.heap.size,1,none⟩=some (.int .i64 p.st.next):=(World.cell?_alloc_at _ _ _ _ rfl).trans rfl;have s2:(w3.alloc (.cells #[.int .i64 p.st.clock,.int .i64 p.st.next,.slice b3 p.st.fams.length c3] 36)).cell? ⟨w3.heap.size,2,none⟩=some (.slice b3 p.st.fams.length c3):=(World.cell?_alloc_at _ _ _ _ rfl).trans rfl;clear hb3 hb4 hf3;go_wp2_with fail
     go_ret2;exact ⟨rfl,_,SPto.same HS.out.sp HB3.out⟩
    ·rw [if_neg hx]
     by_cases hy:20≤p.st.fams.length
     ·rw [if_pos hy]
      have hyI:(20:Int)≤(p.st.fams.length:Int):=by omega
      go_enter Tryz.func27,Tryz.ntmps27
      go_wp2_with fail
      refine (hn1 _).mono ?_;rintro e1 w1 ⟨rfl,hw⟩;obtain rfl:w=w1:=hw.symm;go_wp2_with fail
      refine (hn2 _).mono ?_;rintro e1 w1 ⟨rfl,hw⟩;obtain rfl:w=w1:=hw.symm;go_wp2_with fail
      refine (HLE.out _ HS.out.sp.libs.base.len).mono ?_;rintro e2 w2 ⟨rfl,hb2⟩;have HS2:Hid _:=HS.out.on hb2;have HB2:Hid (Below w.heap.size w w2):=hb2;rw [show errQ 0=.nilIface from rfl]
      clear hb2;go_wp2_with fail
      refine (svState_is N _ gv gs gd r p v HS2.out).mono ?_;rintro e3 w3 ⟨v3,rfl,hf3,hb3⟩;obtain ⟨b3,c3,rfl⟩:=RowsK.slice hf3;unfold stV;have hb4:Below w3.heap.size w3 (w3.alloc (.cells #[.int .i64 p.st.clock,.int .i64 p.st.next,.slice b3 p.st.fams.length c3] 36)):=(Below.refl _ _).alloc (Nat.le_refl _) _;have HS4:Hid (SvIs N (w3.alloc (.cells #[.int .i64 p.st.clock,.int .i64 p.st.next,.slice b3 p.st.fams.length c3] 36)) gv gs gd r p v):=(HS2.out.on hb3).on hb4;have HB3:Hid (Below w.heap.size w (w3.alloc (.cells #[.int .i64 p.st.clock,.int .i64 p.st.next,.slice b3 p.st.fams.length c3] 36))):=(HB2.out.trans (hb3.mono HB2.out.size)).trans (hb4.mono (Nat.le_trans HB2.out.size hb3.size))
      have s0:(w3.alloc (.cells #[.int .i64 p.st.clock,.int .i64 p.st.next,.slice b3 p.st.fams.length c3] 36)).cell? ⟨w3.heap.size,0,none⟩=some (.int .i64 p.st.clock):=(World.cell?_alloc_at _ _ _ _ rfl).trans rfl;have s1:(w3.alloc (.cells #[.int .i64 p.st.clock,.int .i64 p.st.next,.slice b3 p.st.fams.length c3] 36)).cell? ⟨w3.heap.size,1,none⟩=some (.int .i64 p.st.next):=(World.cell?_alloc_at _ _ _ _ rfl).trans rfl;have s2:(w3.alloc (.cells #[.int .i64 p.st.clock,.int .i64 p.st.next,.slice b3 p.st.fams.length c3] 36)).cell? ⟨w3.heap.size,2,none⟩=some (.slice b3 p.st.fams.length c3):=(World.cell?_alloc_at _ _ _ _ rfl).trans rfl;clear hb3 hb4 hf3;go_wp2_with fail
      go_ret2;exact ⟨rfl,_,SPto.same HS.out.sp HB3.out⟩
     ·rw [if_neg hy]
      have hyI:¬ (20:Int)≤(p.st.fams.length:Int):=by omega
      have hgi:=HGI.out (by trivial) (by trivial) (by trivial) hx
      have HGI2:Hid _:=hgi;generalize giveM (txtB r) p (newF p.st client subject J)=Q at *;have hgj:=HGI2.out;unfold newF famV famCs noT at hgj;simp only at hgj;have HGI3:Hid _:=hgj;clear hgi hgj HGI2 HGI;go_enter Tryz.func27,Tryz.ntmps27
      go_wp2_with fail
      refine (hn1 _).mono ?_;rintro e1 w1 ⟨rfl,hw⟩;obtain rfl:w=w1:=hw.symm;go_wp2_with fail
      refine (hn2 _).mono ?_;rintro e1 w1 ⟨rfl,hw⟩;obtain rfl:w=w1:=hw.symm;go_wp2_with fail
      refine (HLE.out _ HS.out.sp.libs.base.len).mono ?_;rintro e2 w2 ⟨rfl,hb2⟩;have HS2:Hid _:=HS.out.on hb2;have HB2:Hid (Below w.heap.size w w2):=hb2;rw [show errQ 0=.nilIface from rfl]
      clear hb2;go_wp2_with fail
      refine (svState_is N _ gv gs gd r p v HS2.out).mono ?_;rintro e3 w3 ⟨v3,rfl,hf3,hb3⟩;obtain ⟨b3,c3,rfl⟩:=RowsK.slice hf3;unfold stV;have hb4:Below w3.heap.size w3 (w3.alloc (.cells #[.int .i64 p.st.clock,.int .i64 p.st.next,.slice b3 p.st.fams.length c3] 36)):=(Below.refl _ _).alloc (Nat.le_refl _) _;have HS4:Hid (SvIs N (w3.alloc (.cells #[.int .i64 p.st.clock,.int .i64 p.st.next,.slice b3 p.st.fams.length c3] 36)) gv gs gd r p v):=(HS2.out.on hb3).on hb4;have HB3:Hid (Below w.heap.size w (w3.alloc (.cells #[.int .i64 p.st.clock,.int .i64 p.st.next,.slice b3 p.st.fams.length c3] 36))):=(HB2.out.trans (hb3.mono HB2.out.size)).trans (hb4.mono (Nat.le_trans HB2.out.size hb3.size))
      have s0:(w3.alloc (.cells #[.int .i64 p.st.clock,.int .i64 p.st.next,.slice b3 p.st.fams.length c3] 36)).cell? ⟨w3.heap.size,0,none⟩=some (.int .i64 p.st.clock):=(World.cell?_alloc_at _ _ _ _ rfl).trans rfl;have s1:(w3.alloc (.cells #[.int .i64 p.st.clock,.int .i64 p.st.next,.slice b3 p.st.fams.length c3] 36)).cell? ⟨w3.heap.size,1,none⟩=some (.int .i64 p.st.next):=(World.cell?_alloc_at _ _ _ _ rfl).trans rfl;have s2:(w3.alloc (.cells #[.int .i64 p.st.clock,.int .i64 p.st.next,.slice b3 p.st.fams.length c3] 36)).cell? ⟨w3.heap.size,2,none⟩=some (.slice b3 p.st.fams.length c3):=(World.cell?_alloc_at _ _ _ _ rfl).trans rfl;clear hb3 hb4 hf3;go_wp2_with fail
      refine (HGI3.out _ HS4.out).mono ?_;rintro e5 w5 ⟨rfl,v5,hto⟩;have HTO:Hid _:=hto.pre HB3.out;clear hto;go_wp2_with fail
      go_ret2;exact ⟨rfl,_,HTO.out⟩
set_option maxRecDepth 100000 in
set_option maxHeartbeats 8000000 in
theorem rotate_is (N : Nat) (w : World) (gv gs gd : Nat) (r : Rul) (p : Pub) (v : Value) (text request sc : ByteArray) (t : T) (n : Nat) (l : List Word) (m : Nat) (b : Bool) (h : SvIs N w gv gs gd r p v) (ht : text.size ≤ 5000) (hrq : request.size ≤ 5000) (hsc : sc.size ≤ 5000) (hto : Tok.Out (tag r.key) text.data.toList t n) (ho : Sc.Out sc.data.toList l m) (hw : lookM r p.st 1 t n = 0 → m = 0 → WOut (joined l) (famM p.st t).scope.data.toList b 0) (hN : N < 98000) :
    Calls Tryz.prog 29 #[.pointer (some ⟨gv, 0, none⟩), .string text, .string request, .string sc] w fun x w' => x = .returned (.tuple #[.string (rotateM (txtB r) r p (nameB request.data.toList) request t n ⟨(joined l).toArray⟩ m b).2.1, errQ (rotateM (txtB r) r p (nameB request.data.toList) request t n ⟨(joined l).toArray⟩ m b).2.2]) ∧ ∃ v', SPto N gs gd v w w' (rotateM (txtB r) r p (nameB request.data.toList) request t n ⟨(joined l).toArray⟩ m b).1 v' := by
  have HS : Hid (SvIs N w gv gs gd r p v) := h
  have hn1 := fun (W : World) => name_is request W (by omega)
  have hlk := look_is N w gv gs gd r p v text 1 t n (lookM r p.st 1 t n) h ht hto rfl
  have HFM : Hid (lookM r p.st 1 t n = 0 → mayF (famM p.st t)) := fun he => fam_may h.sp.ok.good (look_fam (look_ok he).1).2.2.1
  have HTU : Hid (nameB request.data.toList = true → lookM r p.st 1 t n = 0 → ∀ (W : World), SvIs N W gv gs gd r p v → Calls Tryz.prog 76 #[.pointer (some ⟨gv, 0, none⟩), famV (famM p.st t), .string request, .string sc] W fun e w' => e = .returned (.tuple #[.string (turnM (txtB r) p (famM p.st t) request ⟨(joined l).toArray⟩ m b).2.1, errQ (turnM (txtB r) p (famM p.st t) request ⟨(joined l).toArray⟩ m b).2.2]) ∧ ∃ v', SPto N gs gd v W w' (turnM (txtB r) p (famM p.st t) request ⟨(joined l).toArray⟩ m b).1 v') := fun hr he W hW => turn_is N W gv gs gd r p v (famM p.st t) request sc l m b hW (HFM.out he) hr hsc ho (hw he) hN
  have HRF : Hid (lookM r p.st 1 t n = 0 → ∀ (W : World), SvIs N W gv gs gd r p v → Calls Tryz.prog 77 #[.pointer (some ⟨gv, 0, none⟩), famV (famM p.st t)] W fun e w' => e = .returned (.tuple #[.string (txtB r ⟨1, (famM p.st t).id, (famM p.st t).gen, 0⟩), .nilIface]) ∧ Below W.heap.size W w') := fun he W hW => refresh_is N W gv gs gd r p v (famM p.st t) hW (HFM.out he)
  have HSO : Hid (lookM r p.st 1 t n = 0 → ∀ (W : World), SvIs N W gv gs gd r p v → Calls Tryz.prog 78 #[.pointer (some ⟨gv, 0, none⟩), famV (famM p.st t)] W fun e w' => e = .returned (errQ (spoilM p (famM p.st t)).2.2) ∧ ∃ v', SPto N gs gd v W w' (spoilM p (famM p.st t)).1 v') := fun he W hW => spoil_is N W gv gs gd r p v (famM p.st t) hW (HFM.out he) hN
  have HGN : Hid (lookM r p.st 1 t n = 0 → 0 ≤ (famM p.st t).gen ∧ (famM p.st t).gen ≤ 1099511627776) := fun he => (HFM.out he).1.2.1
  have HSN : Hid ((spoilM p (famM p.st t)).2.1 = noT) := rfl
  generalize (⟨(joined l).toArray⟩ : ByteArray) = J at *
  clear h hto ho hw ht hsc hrq HFM
  unfold rotateM
  cases h1 : nameB request.data.toList with
  | false =>
    rw [h1] at hn1
    rw [if_pos rfl]
    clear h1
    go_enter Tryz.func29, Tryz.ntmps29
    go_wp2_with fail
    refine (hn1 _).mono ?_
    rintro e1 w1 ⟨rfl, hw⟩
    obtain rfl : w = w1 := hw.symm
    go_wp2_with fail
    go_ret2
    exact ⟨rfl, _, SPto.same HS.out.sp (Below.refl _ _)⟩
  | true =>
    rw [h1] at hn1 HTU
    rw [if_neg (by simp)]
    clear h1
    generalize lookM r p.st 1 t n = e at *
    generalize famM p.st t = f at *
    cases e with
    | succ e =>
      rw [if_neg (by omega), if_neg (by omega)] at hlk
      rw [if_pos (by omega)]
      unfold tokV famV famCs zero zeroF at hlk
      simp only at hlk
      go_enter Tryz.func29, Tryz.ntmps29
      go_wp2_with fail
      refine (hn1 _).mono ?_
      rintro e1 w1 ⟨rfl, hw⟩
      obtain rfl : w = w1 := hw.symm
      go_wp2_with fail
      refine hlk.mono ?_
      rintro e2 w2 ⟨rfl, hb2⟩
      have HB2 : Hid (Below w.heap.size w w2) := hb2
      rw [errQ_succ]
      clear hlk hb2
      go_wp2_with fail
      go_ret2
      refine ⟨rfl, _, SPto.same HS.out.sp ?_⟩
      repeat (first | exact HB2.out | refine Below.alloc ?_ (by have := HB2.out.size; simp; try omega) _)
    | zero =>
      rw [if_pos rfl, if_pos rfl] at hlk
      rw [if_neg (by omega)]
      obtain ⟨tk, tf, tg, te⟩ := t
      have HG : Hid _ := HGN.out (by trivial)
      have htu := HTU.out (by trivial) (by trivial)
      have hrf := HRF.out (by trivial)
      have hso := HSO.out (by trivial)
      have HTU2 : Hid _ := htu
      have HRF2 : Hid _ := hrf
      have HSO2 : Hid _ := hso
      clear htu hrf hso HTU HRF HSO HGN
      by_cases hg : tg = f.gen
      · rw [if_pos hg]
        generalize turnM (txtB r) p f request J m b = Q at *
        obtain ⟨f1, f2, f3, f4, f5, f6, f7, f8, f9⟩ := f
        simp only at hg
        subst hg
        have htu := HTU2.out
        have hrf := HRF2.out
        have hso := HSO2.out
        unfold famV famCs at htu hrf hso
        simp only at htu hrf hso
        have HTU3 : Hid _ := htu
        have HRF3 : Hid _ := hrf
        have HSO3 : Hid _ := hso
        clear htu hrf hso HTU2 HRF2 HSO2
        unfold tokV famV famCs at hlk
        simp only at hlk
        go_enter Tryz.func29, Tryz.ntmps29
        go_wp2_with fail
        refine (hn1 _).mono ?_
        rintro e1 w1 ⟨rfl, hw⟩
        obtain rfl : w = w1 := hw.symm
        go_wp2_with fail
        refine hlk.mono ?_
        rintro e2 w1 ⟨rfl, hb2⟩
        rw [show errQ 0 = .nilIface from rfl]
        have hb3 : Below w1.heap.size w1 ((w1.alloc (.cells #[.int .i64 tk, .int .i64 tf, .int .i64 tg, .int .i64 te] 142)).alloc (.cells #[.int .i64 f1, .string f2, .string f3, .string f4, .int .i64 tg, .int .i64 f6, .int .i64 f7, .string f8, .bool f9] 40)) := ((Below.refl _ _).alloc (Nat.le_refl _) _).alloc (by simp) _
        have HS3 : Hid (SvIs N ((w1.alloc (.cells #[.int .i64 tk, .int .i64 tf, .int .i64 tg, .int .i64 te] 142)).alloc (.cells #[.int .i64 f1, .string f2, .string f3, .string f4, .int .i64 tg, .int .i64 f6, .int .i64 f7, .string f8, .bool f9] 40)) gv gs gd r p v) := (HS.out.on hb2).on hb3
        have HB3 : Hid (Below w.heap.size w ((w1.alloc (.cells #[.int .i64 tk, .int .i64 tf, .int .i64 tg, .int .i64 te] 142)).alloc (.cells #[.int .i64 f1, .string f2, .string f3, .string f4, .int .i64 tg, .int .i64 f6, .int .i64 f7, .string f8, .bool f9] 40))) := hb2.trans (hb3.mono hb2.size)
        have HT3 : Hid (TB ((w1.alloc (.cells #[.int .i64 tk, .int .i64 tf, .int .i64 tg, .int .i64 te] 142)).alloc (.cells #[.int .i64 f1, .string f2, .string f3, .string f4, .int .i64 tg, .int .i64 f6, .int .i64 f7, .string f8, .bool f9] 40)) w1.heap.size ⟨tk, tf, tg, te⟩) := (TB.made w1 ⟨tk, tf, tg, te⟩ _).on ((Below.refl _ _).alloc (Nat.le_refl _) _)
        have hsz : (w1.alloc (.cells #[.int .i64 tk, .int .i64 tf, .int .i64 tg, .int .i64 te] 142)).heap.size = w1.heap.size + 1 := by simp
        have HF3 : Hid (FB ((w1.alloc (.cells #[.int .i64 tk, .int .i64 tf, .int .i64 tg, .int .i64 te] 142)).alloc (.cells #[.int .i64 f1, .string f2, .string f3, .string f4, .int .i64 tg, .int .i64 f6, .int .i64 f7, .string f8, .bool f9] 40)) (w1.heap.size + 1) ⟨f1, f2, f3, f4, tg, f6, f7, f8, f9⟩) := by rw [← hsz]; exact FB.made _ ⟨f1, f2, f3, f4, tg, f6, f7, f8, f9⟩ _
        have HZ : Hid _ := hsz
        clear hlk hb2 hb3 hsz
        go_upto_region 4 with fail
        have t2 := HT3.out.c2
        have z0 := HF3.out.c0; have z1 := HF3.out.c1; have z2 := HF3.out.c2; have z3 := HF3.out.c3; have z4 := HF3.out.c4; have z5 := HF3.out.c5; have z6 := HF3.out.c6; have z7 := HF3.out.c7; have z8 := HF3.out.c8
        simp only at t2 z0 z1 z2 z3 z4 z5 z6 z7 z8
        clear HT3 HF3
        generalize hWW : ((w1.alloc (.cells #[.int .i64 tk, .int .i64 tf, .int .i64 tg, .int .i64 te] 142)).alloc (.cells #[.int .i64 f1, .string f2, .string f3, .string f4, .int .i64 tg, .int .i64 f6, .int .i64 f7, .string f8, .bool f9] 40)) = W3 at *
        clear hWW HZ
        generalize w1.heap.size = gq at *
        go_wp2_with fail
        refine (HTU3.out _ HS3.out).mono ?_
        rintro e4 w4 ⟨rfl, v4, hto⟩
        have HTO : Hid _ := hto.pre HB3.out
        clear hto
        go_wp2_with fail
        go_ret2
        exact ⟨rfl, _, HTO.out⟩
      · rw [if_neg hg]
        by_cases hx : tg = f.gen - 1 ∧ request = f.request
        · rw [if_pos hx]
          obtain ⟨hx1, hx2⟩ := hx
          obtain ⟨f1, f2, f3, f4, f5, f6, f7, f8, f9⟩ := f
          simp only at hx1 hx2 hg
          have hg0 : 0 ≤ f5 ∧ f5 ≤ 1099511627776 := HG.out
          obtain ⟨hg1, hg2⟩ := hg0
          subst hx2
          have hgb : (tg == f5) = false := by simp [hg]
          have hge : (tg == f5 - 1) = true := by simp [hx1]
          have HX1 : Hid (tg = f5 - 1) := hx1
          clear hx1
          have htu := HTU2.out
          have hrf := HRF2.out
          have hso := HSO2.out
          unfold famV famCs at htu hrf hso
          simp only at htu hrf hso
          have HTU3 : Hid _ := htu
          have HRF3 : Hid _ := hrf
          have HSO3 : Hid _ := hso
          clear htu hrf hso HTU2 HRF2 HSO2
          unfold tokV famV famCs at hlk
          simp only at hlk
          go_enter Tryz.func29, Tryz.ntmps29
          go_wp2_with fail
          refine (hn1 _).mono ?_
          rintro e1 w1 ⟨rfl, hw⟩
          obtain rfl : w = w1 := hw.symm
          go_wp2_with fail
          refine hlk.mono ?_
          rintro e2 w1 ⟨rfl, hb2⟩
          rw [show errQ 0 = .nilIface from rfl]
          have hb3 : Below w1.heap.size w1 ((w1.alloc (.cells #[.int .i64 tk, .int .i64 tf, .int .i64 tg, .int .i64 te] 142)).alloc (.cells #[.int .i64 f1, .string f2, .string f3, .string f4, .int .i64 f5, .int .i64 f6, .int .i64 f7, .string request, .bool f9] 40)) := ((Below.refl _ _).alloc (Nat.le_refl _) _).alloc (by simp) _
          have HS3 : Hid (SvIs N ((w1.alloc (.cells #[.int .i64 tk, .int .i64 tf, .int .i64 tg, .int .i64 te] 142)).alloc (.cells #[.int .i64 f1, .string f2, .string f3, .string f4, .int .i64 f5, .int .i64 f6, .int .i64 f7, .string request, .bool f9] 40)) gv gs gd r p v) := (HS.out.on hb2).on hb3
          have HB3 : Hid (Below w.heap.size w ((w1.alloc (.cells #[.int .i64 tk, .int .i64 tf, .int .i64 tg, .int .i64 te] 142)).alloc (.cells #[.int .i64 f1, .string f2, .string f3, .string f4, .int .i64 f5, .int .i64 f6, .int .i64 f7, .string request, .bool f9] 40))) := hb2.trans (hb3.mono hb2.size)
          have HT3 : Hid (TB ((w1.alloc (.cells #[.int .i64 tk, .int .i64 tf, .int .i64 tg, .int .i64 te] 142)).alloc (.cells #[.int .i64 f1, .string f2, .string f3, .string f4, .int .i64 f5, .int .i64 f6, .int .i64 f7, .string request, .bool f9] 40)) w1.heap.size ⟨tk, tf, tg, te⟩) := (TB.made w1 ⟨tk, tf, tg, te⟩ _).on ((Below.refl _ _).alloc (Nat.le_refl _) _)
          have hsz : (w1.alloc (.cells #[.int .i64 tk, .int .i64 tf, .int .i64 tg, .int .i64 te] 142)).heap.size = w1.heap.size + 1 := by simp
          have HF3 : Hid (FB ((w1.alloc (.cells #[.int .i64 tk, .int .i64 tf, .int .i64 tg, .int .i64 te] 142)).alloc (.cells #[.int .i64 f1, .string f2, .string f3, .string f4, .int .i64 f5, .int .i64 f6, .int .i64 f7, .string request, .bool f9] 40)) (w1.heap.size + 1) ⟨f1, f2, f3, f4, f5, f6, f7, request, f9⟩) := by rw [← hsz]; exact FB.made _ ⟨f1, f2, f3, f4, f5, f6, f7, request, f9⟩ _
          have HZ : Hid _ := hsz
          clear hlk hb2 hb3 hsz
          go_upto_region 4 with fail
          have t2 := HT3.out.c2
          have z0 := HF3.out.c0; have z1 := HF3.out.c1; have z2 := HF3.out.c2; have z3 := HF3.out.c3; have z4 := HF3.out.c4; have z5 := HF3.out.c5; have z6 := HF3.out.c6; have z7 := HF3.out.c7; have z8 := HF3.out.c8
          simp only at t2 z0 z1 z2 z3 z4 z5 z6 z7 z8
          clear HT3 HF3
          generalize hWW : ((w1.alloc (.cells #[.int .i64 tk, .int .i64 tf, .int .i64 tg, .int .i64 te] 142)).alloc (.cells #[.int .i64 f1, .string f2, .string f3, .string f4, .int .i64 f5, .int .i64 f6, .int .i64 f7, .string request, .bool f9] 40)) = W3 at *
          clear hWW HZ
          generalize w1.heap.size = gq at *
          go_wp2_with fail
          refine (HRF3.out _ HS3.out).mono ?_
          rintro e4 w4 ⟨rfl, hb4⟩
          have HTO : Hid _ := (SPto.same (N := N) HS3.out.sp hb4).pre HB3.out
          clear hb4
          go_wp2_with fail
          go_ret2
          exact ⟨rfl, _, HTO.out⟩
        · rw [if_neg hx]
          rw [HSN.out]
          generalize spoilM p f = Q at *
          have HXN : Hid (¬ (tg = f.gen - 1 ∧ request = f.request)) := hx
          obtain ⟨f1, f2, f3, f4, f5, f6, f7, f8, f9⟩ := f
          simp only at hg
          have hg0 : 0 ≤ f5 ∧ f5 ≤ 1099511627776 := HG.out
          obtain ⟨hg1, hg2⟩ := hg0
          have hgb : (tg == f5) = false := by simp [hg]
          clear hx
          by_cases hx1 : tg = f5 - 1
          · have hx2 : ¬ request = f8 := fun hh => HXN.out ⟨hx1, hh⟩
            have hge : (tg == f5 - 1) = true := by simp [hx1]
            have k1 : Hid (request.toList = f8.toList → False) := fun a => hx2 (by
              rw [ByteArray.toList_eq, ByteArray.toList_eq] at a
              exact ByteArray.ext (Array.toList_inj.1 a))
            clear hx2
            have HX1 : Hid (tg = f5 - 1) := hx1
            clear hx1
            have htu := HTU2.out
            have hrf := HRF2.out
            have hso := HSO2.out
            unfold famV famCs at htu hrf hso
            simp only at htu hrf hso
            have HTU3 : Hid _ := htu
            have HRF3 : Hid _ := hrf
            have HSO3 : Hid _ := hso
            clear htu hrf hso HTU2 HRF2 HSO2
            unfold tokV famV famCs at hlk
            simp only at hlk
            go_enter Tryz.func29, Tryz.ntmps29
            go_wp2_with fail
            refine (hn1 _).mono ?_
            rintro e1 w1 ⟨rfl, hw⟩
            obtain rfl : w = w1 := hw.symm
            go_wp2_with fail
            refine hlk.mono ?_
            rintro e2 w1 ⟨rfl, hb2⟩
            rw [show errQ 0 = .nilIface from rfl]
            have hb3 : Below w1.heap.size w1 ((w1.alloc (.cells #[.int .i64 tk, .int .i64 tf, .int .i64 tg, .int .i64 te] 142)).alloc (.cells #[.int .i64 f1, .string f2, .string f3, .string f4, .int .i64 f5, .int .i64 f6, .int .i64 f7, .string f8, .bool f9] 40)) := ((Below.refl _ _).alloc (Nat.le_refl _) _).alloc (by simp) _
            have HS3 : Hid (SvIs N ((w1.alloc (.cells #[.int .i64 tk, .int .i64 tf, .int .i64 tg, .int .i64 te] 142)).alloc (.cells #[.int .i64 f1, .string f2, .string f3, .string f4, .int .i64 f5, .int .i64 f6, .int .i64 f7, .string f8, .bool f9] 40)) gv gs gd r p v) := (HS.out.on hb2).on hb3
            have HB3 : Hid (Below w.heap.size w ((w1.alloc (.cells #[.int .i64 tk, .int .i64 tf, .int .i64 tg, .int .i64 te] 142)).alloc (.cells #[.int .i64 f1, .string f2, .string f3, .string f4, .int .i64 f5, .int .i64 f6, .int .i64 f7, .string f8, .bool f9] 40))) := hb2.trans (hb3.mono hb2.size)
            have HT3 : Hid (TB ((w1.alloc (.cells #[.int .i64 tk, .int .i64 tf, .int .i64 tg, .int .i64 te] 142)).alloc (.cells #[.int .i64 f1, .string f2, .string f3, .string f4, .int .i64 f5, .int .i64 f6, .int .i64 f7, .string f8, .bool f9] 40)) w1.heap.size ⟨tk, tf, tg, te⟩) := (TB.made w1 ⟨tk, tf, tg, te⟩ _).on ((Below.refl _ _).alloc (Nat.le_refl _) _)
            have hsz : (w1.alloc (.cells #[.int .i64 tk, .int .i64 tf, .int .i64 tg, .int .i64 te] 142)).heap.size = w1.heap.size + 1 := by simp
            have HF3 : Hid (FB ((w1.alloc (.cells #[.int .i64 tk, .int .i64 tf, .int .i64 tg, .int .i64 te] 142)).alloc (.cells #[.int .i64 f1, .string f2, .string f3, .string f4, .int .i64 f5, .int .i64 f6, .int .i64 f7, .string f8, .bool f9] 40)) (w1.heap.size + 1) ⟨f1, f2, f3, f4, f5, f6, f7, f8, f9⟩) := by rw [← hsz]; exact FB.made _ ⟨f1, f2, f3, f4, f5, f6, f7, f8, f9⟩ _
            have HZ : Hid _ := hsz
            clear hlk hb2 hb3 hsz
            go_upto_region 4 with fail
            have t2 := HT3.out.c2
            have z0 := HF3.out.c0; have z1 := HF3.out.c1; have z2 := HF3.out.c2; have z3 := HF3.out.c3; have z4 := HF3.out.c4; have z5 := HF3.out.c5; have z6 := HF3.out.c6; have z7 := HF3.out.c7; have z8 := HF3.out.c8
            simp only at t2 z0 z1 z2 z3 z4 z5 z6 z7 z8
            clear HT3 HF3
            generalize hWW : ((w1.alloc (.cells #[.int .i64 tk, .int .i64 tf, .int .i64 tg, .int .i64 te] 142)).alloc (.cells #[.int .i64 f1, .string f2, .string f3, .string f4, .int .i64 f5, .int .i64 f6, .int .i64 f7, .string f8, .bool f9] 40)) = W3 at *
            clear hWW HZ
            generalize w1.heap.size = gq at *
            go_wp2_with fail
            all_goals first
              | exact (k1.out (by assumption)).elim
              | exact (k1.out (by simpa using ‹(request.toList == f8.toList) = true›)).elim
              | (refine (HSO3.out _ HS3.out).mono ?_
                 rintro e4 w4 ⟨rfl, v4, hto⟩
                 have HTO : Hid _ := hto.pre HB3.out
                 clear hto
                 go_wp2_with fail
                 go_ret2
                 exact ⟨rfl, _, HTO.out⟩)
          · have hge : (tg == f5 - 1) = false := by simp [hx1]
            have htu := HTU2.out
            have hrf := HRF2.out
            have hso := HSO2.out
            unfold famV famCs at htu hrf hso
            simp only at htu hrf hso
            have HTU3 : Hid _ := htu
            have HRF3 : Hid _ := hrf
            have HSO3 : Hid _ := hso
            clear htu hrf hso HTU2 HRF2 HSO2
            unfold tokV famV famCs at hlk
            simp only at hlk
            go_enter Tryz.func29, Tryz.ntmps29
            go_wp2_with fail
            refine (hn1 _).mono ?_
            rintro e1 w1 ⟨rfl, hw⟩
            obtain rfl : w = w1 := hw.symm
            go_wp2_with fail
            refine hlk.mono ?_
            rintro e2 w1 ⟨rfl, hb2⟩
            rw [show errQ 0 = .nilIface from rfl]
            have hb3 : Below w1.heap.size w1 ((w1.alloc (.cells #[.int .i64 tk, .int .i64 tf, .int .i64 tg, .int .i64 te] 142)).alloc (.cells #[.int .i64 f1, .string f2, .string f3, .string f4, .int .i64 f5, .int .i64 f6, .int .i64 f7, .string f8, .bool f9] 40)) := ((Below.refl _ _).alloc (Nat.le_refl _) _).alloc (by simp) _
            have HS3 : Hid (SvIs N ((w1.alloc (.cells #[.int .i64 tk, .int .i64 tf, .int .i64 tg, .int .i64 te] 142)).alloc (.cells #[.int .i64 f1, .string f2, .string f3, .string f4, .int .i64 f5, .int .i64 f6, .int .i64 f7, .string f8, .bool f9] 40)) gv gs gd r p v) := (HS.out.on hb2).on hb3
            have HB3 : Hid (Below w.heap.size w ((w1.alloc (.cells #[.int .i64 tk, .int .i64 tf, .int .i64 tg, .int .i64 te] 142)).alloc (.cells #[.int .i64 f1, .string f2, .string f3, .string f4, .int .i64 f5, .int .i64 f6, .int .i64 f7, .string f8, .bool f9] 40))) := hb2.trans (hb3.mono hb2.size)
            have HT3 : Hid (TB ((w1.alloc (.cells #[.int .i64 tk, .int .i64 tf, .int .i64 tg, .int .i64 te] 142)).alloc (.cells #[.int .i64 f1, .string f2, .string f3, .string f4, .int .i64 f5, .int .i64 f6, .int .i64 f7, .string f8, .bool f9] 40)) w1.heap.size ⟨tk, tf, tg, te⟩) := (TB.made w1 ⟨tk, tf, tg, te⟩ _).on ((Below.refl _ _).alloc (Nat.le_refl _) _)
            have hsz : (w1.alloc (.cells #[.int .i64 tk, .int .i64 tf, .int .i64 tg, .int .i64 te] 142)).heap.size = w1.heap.size + 1 := by simp
            have HF3 : Hid (FB ((w1.alloc (.cells #[.int .i64 tk, .int .i64 tf, .int .i64 tg, .int .i64 te] 142)).alloc (.cells #[.int .i64 f1, .string f2, .string f3, .string f4, .int .i64 f5, .int .i64 f6, .int .i64 f7, .string f8, .bool f9] 40)) (w1.heap.size + 1) ⟨f1, f2, f3, f4, f5, f6, f7, f8, f9⟩) := by rw [← hsz]; exact FB.made _ ⟨f1, f2, f3, f4, f5, f6, f7, f8, f9⟩ _
            have HZ : Hid _ := hsz
            clear hlk hb2 hb3 hsz
            go_upto_region 4 with fail
            have t2 := HT3.out.c2
            have z0 := HF3.out.c0; have z1 := HF3.out.c1; have z2 := HF3.out.c2; have z3 := HF3.out.c3; have z4 := HF3.out.c4; have z5 := HF3.out.c5; have z6 := HF3.out.c6; have z7 := HF3.out.c7; have z8 := HF3.out.c8
            simp only at t2 z0 z1 z2 z3 z4 z5 z6 z7 z8
            clear HT3 HF3
            generalize hWW : ((w1.alloc (.cells #[.int .i64 tk, .int .i64 tf, .int .i64 tg, .int .i64 te] 142)).alloc (.cells #[.int .i64 f1, .string f2, .string f3, .string f4, .int .i64 f5, .int .i64 f6, .int .i64 f7, .string f8, .bool f9] 40)) = W3 at *
            clear hWW HZ
            generalize w1.heap.size = gq at *
            go_wp2_with fail
            refine (HSO3.out _ HS3.out).mono ?_
            rintro e4 w4 ⟨rfl, v4, hto⟩
            have HTO : Hid _ := hto.pre HB3.out
            clear hto
            go_wp2_with fail
            go_ret2
            exact ⟨rfl, _, HTO.out⟩
set_option maxHeartbeats 4000000
theorem new_is (N:Nat) (w:World) (gs gd:Nat) (k i l a:Int) (p:Pub) (v:Value) (h:SP N w gs gd p v) (hL:LibsR w) (hr:RulOk ⟨k,i,l,a⟩) (ho:OldsR gd) :
 Calls Tryz.prog 22 #[.pointer (some ⟨gs,0,none⟩),.agg #[.int .i64 k,.int .i64 i,.int .i64 l,.int .i64 a]] w fun e w'=>∃ gv,e=.returned (.tuple #[.pointer (some ⟨gv,0,none⟩),.nilIface])∧w.heap.size≤gv∧SvIs N w' gv gs gd ⟨k,i,l,a⟩ p v∧Below w.heap.size w w':=by
 have hsz:(w.alloc (.cells #[.int .i64 k,.int .i64 i,.int .i64 l,.int .i64 a] 54)).heap.size=w.heap.size+1:=by simp
 have HB:Hid (Below w.heap.size w ((w.alloc (.cells #[.int .i64 k,.int .i64 i,.int .i64 l,.int .i64 a] 54)).alloc (.cells #[.pointer (some ⟨gs,0,none⟩),.int .i64 k,.int .i64 i,.int .i64 l,.int .i64 a] 129))):=((Below.refl _ _).alloc (Nat.le_refl _) _).alloc (by simp) _
 have hbx:SvAt ((w.alloc (.cells #[.int .i64 k,.int .i64 i,.int .i64 l,.int .i64 a] 54)).alloc (.cells #[.pointer (some ⟨gs,0,none⟩),.int .i64 k,.int .i64 i,.int .i64 l,.int .i64 a] 129)) (w.heap.size+1) gs ⟨k,i,l,a⟩:=by
  rw [← hsz];refine ⟨?_,?_,?_,?_,?_,by simp⟩ <;> exact (World.cell?_alloc_at _ _ _ _ rfl).trans rfl
 have HS:Hid (SvIs N ((w.alloc (.cells #[.int .i64 k,.int .i64 i,.int .i64 l,.int .i64 a] 54)).alloc (.cells #[.pointer (some ⟨gs,0,none⟩),.int .i64 k,.int .i64 i,.int .i64 l,.int .i64 a] 129)) (w.heap.size+1) gs gd ⟨k,i,l,a⟩ p v):=⟨h.on HB.out,hbx,hL.on HB.out,hr,by have:=h.lt; omega,NotIn.past h.fam (Nat.le_succ _),ho⟩
 have i1:=fun (W:World)=>inB_is k W;have i2:=fun (W:World)=>inB_is i W;have i3:=fun (W:World)=>inB_is l W;have i4:=fun (W:World)=>inB_is a W;rw [okB_t hr.key] at i1;rw [okB_t hr.idle] at i2;rw [okB_t hr.life] at i3;rw [okB_t hr.access] at i4;have HB1:Hid (Below w.heap.size w (w.alloc (.cells #[.int .i64 k,.int .i64 i,.int .i64 l,.int .i64 a] 54))):=(Below.refl _ _).alloc (Nat.le_refl _) _;clear h hL hr ho hbx hsz;go_enter Tryz.func22,Tryz.ntmps22
 go_wp2_with fail
 refine (i1 _).mono ?_;rintro e1 w1 ⟨rfl,rfl⟩;go_wp2_with fail
 refine (i2 _).mono ?_;rintro e1 w1 ⟨rfl,rfl⟩;go_wp2_with fail
 refine (i3 _).mono ?_;rintro e1 w1 ⟨rfl,rfl⟩;go_wp2_with fail
 refine (i4 _).mono ?_;rintro e1 w1 ⟨rfl,rfl⟩;go_wp2_with fail
 go_ret2;exact ⟨_,rfl,Nat.le_succ _,HS.out,HB.out⟩
def emptyP:Pub:=⟨⟨0,1,[]⟩,0,0,false,0,false⟩
theorem LibsR.toA {w:World} (h:LibsR w):LibsA w:=⟨⟨h.base.big.1,h.base.pow,h.len⟩,h.syn,h.rng⟩
theorem OldsR.mono {a b:Nat} (h:OldsR a) (hab:a≤b):OldsR b:=⟨h.1.le hab,h.2.le hab⟩
theorem OldsR.toA {n:Nat} (h:OldsR n):Olds n:=⟨h.2.2.1,h.2.2.2,h.1.1,h.2.1⟩
def rulB (r:Rul):Bool:=okB r.key && okB r.idle && okB r.life && okB r.access
theorem rulB_iff {r:Rul}:rulB r=true↔RulOk r:=by
 unfold rulB;simp only [Bool.and_eq_true,okB_iff];exact ⟨fun ⟨⟨⟨h1,h2⟩,h3⟩,h4⟩=>⟨h1,h2,h3,h4⟩,fun h=>⟨⟨⟨h.1,h.2⟩,h.3⟩,h.4⟩⟩
theorem refRight_is (w:World) (k i l a:Int):Calls Tryz.prog 24 #[.agg #[.int .i64 k,.int .i64 i,.int .i64 l,.int .i64 a]] w fun e w'=>e=.returned (.bool (rulB ⟨k,i,l,a⟩))∧Below w.heap.size w w':=by
 have HB:Hid (Below w.heap.size w (w.alloc (.cells #[.int .i64 k,.int .i64 i,.int .i64 l,.int .i64 a] 54))):=(Below.refl _ _).alloc (Nat.le_refl _) _;unfold rulB;simp only
 cases h0:okB k with
 |false=>
  go_enter Tryz.func24,Tryz.ntmps24
  go_wp2_with fail
  refine (in_is k _).mono ?_;rintro e1 w1 ⟨he,rfl⟩;rw [h0] at he;subst he;go_wp2_with fail
  go_ret;exact ⟨by simp [*],HB.out⟩
 |true=>
  cases h1:okB i with
  |false=>
   go_enter Tryz.func24,Tryz.ntmps24
   go_wp2_with fail
   refine (in_is k _).mono ?_;rintro e1 w1 ⟨he,rfl⟩;rw [h0] at he;subst he;go_wp2_with fail
   refine (in_is i _).mono ?_;rintro e1 w1 ⟨he,rfl⟩;rw [h1] at he;subst he;go_wp2_with fail
   go_ret;exact ⟨by simp [*],HB.out⟩
  |true=>
   cases h2:okB l with
   |false=>
    go_enter Tryz.func24,Tryz.ntmps24
    go_wp2_with fail
    refine (in_is k _).mono ?_;rintro e1 w1 ⟨he,rfl⟩;rw [h0] at he;subst he;go_wp2_with fail
    refine (in_is i _).mono ?_;rintro e1 w1 ⟨he,rfl⟩;rw [h1] at he;subst he;go_wp2_with fail
    refine (in_is l _).mono ?_;rintro e1 w1 ⟨he,rfl⟩;rw [h2] at he;subst he;go_wp2_with fail
    go_ret;exact ⟨by simp [*],HB.out⟩
   |true=>
    cases h3:okB a with
    |false=>
     go_enter Tryz.func24,Tryz.ntmps24
     go_wp2_with fail
     refine (in_is k _).mono ?_;rintro e1 w1 ⟨he,rfl⟩;rw [h0] at he;subst he;go_wp2_with fail
     refine (in_is i _).mono ?_;rintro e1 w1 ⟨he,rfl⟩;rw [h1] at he;subst he;go_wp2_with fail
     refine (in_is l _).mono ?_;rintro e1 w1 ⟨he,rfl⟩;rw [h2] at he;subst he;go_wp2_with fail
     refine (in_is a _).mono ?_;rintro e1 w1 ⟨he,rfl⟩;rw [h3] at he;subst he;go_wp2_with fail
     go_ret;exact ⟨by simp [*],HB.out⟩
    |true=>
     go_enter Tryz.func24,Tryz.ntmps24
     go_wp2_with fail
     refine (in_is k _).mono ?_;rintro e1 w1 ⟨he,rfl⟩;rw [h0] at he;subst he;go_wp2_with fail
     refine (in_is i _).mono ?_;rintro e1 w1 ⟨he,rfl⟩;rw [h1] at he;subst he;go_wp2_with fail
     refine (in_is l _).mono ?_;rintro e1 w1 ⟨he,rfl⟩;rw [h2] at he;subst he;go_wp2_with fail
     refine (in_is a _).mono ?_;rintro e1 w1 ⟨he,rfl⟩;rw [h3] at he;subst he;go_wp2_with fail
     go_ret;exact ⟨by simp,HB.out⟩
theorem newNil_is (w:World) (k i l a:Int):Calls Tryz.prog 22 #[.pointer none,.agg #[.int .i64 k,.int .i64 i,.int .i64 l,.int .i64 a]] w fun e w'=>e=.returned (.tuple #[.pointer none,errQ 7])∧Below w.heap.size w w':=by
 have HB:Hid (Below w.heap.size w (w.alloc (.cells #[.int .i64 k,.int .i64 i,.int .i64 l,.int .i64 a] 54))):=(Below.refl _ _).alloc (Nat.le_refl _) _;go_enter Tryz.func22,Tryz.ntmps22
 go_wp2_with fail
 go_ret2;exact ⟨rfl,HB.out⟩
theorem newBad_is (w:World) (gs:Nat) (k i l a:Int) (hb:rulB ⟨k,i,l,a⟩=false):Calls Tryz.prog 22 #[.pointer (some ⟨gs,0,none⟩),.agg #[.int .i64 k,.int .i64 i,.int .i64 l,.int .i64 a]] w fun e w'=>e=.returned (.tuple #[.pointer none,errQ 2])∧Below w.heap.size w w':=by
 have HB:Hid (Below w.heap.size w (w.alloc (.cells #[.int .i64 k,.int .i64 i,.int .i64 l,.int .i64 a] 54))):=(Below.refl _ _).alloc (Nat.le_refl _) _;have HBD:Hid (rulB ⟨k,i,l,a⟩=false):=hb;clear hb
 cases h0:okB k with
 |false=>
  go_enter Tryz.func22,Tryz.ntmps22
  go_wp2_with fail
  refine (inB_is k _).mono ?_;rintro e1 w1 ⟨he,rfl⟩;rw [h0] at he;subst he;go_wp2_with fail
  go_ret2;exact ⟨rfl,HB.out⟩
 |true=>
  cases h1:okB i with
  |false=>
   go_enter Tryz.func22,Tryz.ntmps22
   go_wp2_with fail
   refine (inB_is k _).mono ?_;rintro e1 w1 ⟨he,rfl⟩;rw [h0] at he;subst he;go_wp2_with fail
   refine (inB_is i _).mono ?_;rintro e1 w1 ⟨he,rfl⟩;rw [h1] at he;subst he;go_wp2_with fail
   go_ret2;exact ⟨rfl,HB.out⟩
  |true=>
   cases h2:okB l with
   |false=>
    go_enter Tryz.func22,Tryz.ntmps22
    go_wp2_with fail
    refine (inB_is k _).mono ?_;rintro e1 w1 ⟨he,rfl⟩;rw [h0] at he;subst he;go_wp2_with fail
    refine (inB_is i _).mono ?_;rintro e1 w1 ⟨he,rfl⟩;rw [h1] at he;subst he;go_wp2_with fail
    refine (inB_is l _).mono ?_;rintro e1 w1 ⟨he,rfl⟩;rw [h2] at he;subst he;go_wp2_with fail
    go_ret2;exact ⟨rfl,HB.out⟩
   |true=>
    cases h3:okB a with
    |false=>
     go_enter Tryz.func22,Tryz.ntmps22
     go_wp2_with fail
     refine (inB_is k _).mono ?_;rintro e1 w1 ⟨he,rfl⟩;rw [h0] at he;subst he;go_wp2_with fail
     refine (inB_is i _).mono ?_;rintro e1 w1 ⟨he,rfl⟩;rw [h1] at he;subst he;go_wp2_with fail
     refine (inB_is l _).mono ?_;rintro e1 w1 ⟨he,rfl⟩;rw [h2] at he;subst he;go_wp2_with fail
     refine (inB_is a _).mono ?_;rintro e1 w1 ⟨he,rfl⟩;rw [h3] at he;subst he;go_wp2_with fail
     go_ret2;exact ⟨rfl,HB.out⟩
    |true=>
     go_enter Tryz.func22,Tryz.ntmps22
     go_wp2_with fail
     refine (inB_is k _).mono ?_;rintro e1 w1 ⟨he,rfl⟩;rw [h0] at he;subst he;go_wp2_with fail
     refine (inB_is i _).mono ?_;rintro e1 w1 ⟨he,rfl⟩;rw [h1] at he;subst he;go_wp2_with fail
     refine (inB_is l _).mono ?_;rintro e1 w1 ⟨he,rfl⟩;rw [h2] at he;subst he;go_wp2_with fail
     refine (inB_is a _).mono ?_;rintro e1 w1 ⟨he,rfl⟩;rw [h3] at he;subst he;go_wp2_with fail
     exact absurd HBD.out (by unfold rulB; simp [h0,h1,h2,h3])
end Go.Proofs.YtlailakofhenkabGreatDoor
