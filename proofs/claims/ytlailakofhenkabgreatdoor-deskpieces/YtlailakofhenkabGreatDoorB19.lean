import Derived.Test.YtlailakofhenkabGreatDoorB18
set_option maxRecDepth 100000
set_option maxHeartbeats 8000000
namespace Go.Proofs.YtlailakofhenkabGreatDoor
open Go Go.RowKit Tok Sc Ev
def offB (c:Bool) (l:Int):Bool:=c && (l == 0)
theorem diskWrite_off (g:Nat) (F:Int→ByteArray) (n:Int) (c:Bool) (l:Int) (k:Nat) (s:ByteArray) (w:World) (h:IsDisk w g F n c l) (hk:k<90) (hs:s.size≤240) (ho:offB c l=true):Calls Tryz.prog 116 #[.pointer (some ⟨g,0,none⟩),.int .i64 k,.string s] w fun e w'=>e=.returned (.iface 47 (.int .i64 14))∧w'=w:=by
 unfold offB at ho;simp only [Bool.and_eq_true,beq_iff_eq] at ho;obtain ⟨rfl,rfl⟩:=ho;exact write_off g F n k s w h ⟨by omega,by omega⟩ (by omega)
theorem diskWrite_on (g:Nat) (F:Int→ByteArray) (n:Int) (c:Bool) (l:Int) (k:Nat) (s:ByteArray) (w:World) (h:IsDisk w g F n c l) (hg:g<w.heap.size) (hk:k<90) (hs:s.size≤240) (ho:offB c l=false) (hl:c=true→0≤l∧l≤9223372036854775807) (hn0:0≤n) (hn:n<100000) :
 Calls Tryz.prog 116 #[.pointer (some ⟨g,0,none⟩),.int .i64 k,.string s] w fun e w'=>e=.returned .nilIface∧(∃ l',IsDisk w' g (upd F k s) (n+1) c l'∧(c=true→l'=l - 1))∧w.grownBy w' (some g):=by
 cases c with
 |false=>
  refine (write_plain g F n l k s w h hg hk (by omega) hn0 hn).mono ?_
  rintro e w' ⟨rfl,h1,h2⟩;exact ⟨rfl,⟨l,h1,fun hc=>by cases hc⟩,h2⟩
 |true=>
  have hl':=hl rfl
  have hl0:l≠0:=by
   intro e;subst e;simp [offB] at ho
  refine (write_cut g F n l k s w h (by omega) hl'.2 hg hk (by omega) hn0 hn).mono ?_
  rintro e w' ⟨rfl,h1,h2⟩;exact ⟨rfl,⟨_,h1,fun _=>rfl⟩,h2⟩
structure DS (w0:World) (gs gd:Nat) (A:AD) (n:Nat) (c:Bool) (l:Int) (dn:Bool) (sv lg:Nat) (st:St) (v:Value) (w:World):Prop where
 disk:∃ F l',IsDisk w gd F (n:Int) c l'∧(c=true→l'=l)∧EncF tag0 F A
 libs:LibsA w
 err:ErrVar w
 store:StoreAt w gs gd dn sv lg st v
 ord:gd<gs
 olds:Olds gd
 oldE:0<gd
 keep:Keep [gd,gs] w0 w
 was:gs<w0.heap.size
theorem DS.gdlt {w0:World} {gs gd:Nat} {A:AD} {n:Nat} {c:Bool} {l:Int} {dn:Bool} {sv lg:Nat} {st:St} {v:Value} {w:World} (h:DS w0 gs gd A n c l dn sv lg st v w):gd<w.heap.size:=Nat.lt_trans h.ord h.store.lt
theorem DS.on {w0:World} {gs gd:Nat} {A:AD} {n:Nat} {c:Bool} {l:Int} {dn:Bool} {sv lg:Nat} {st:St} {v:Value} {w w':World} (h:DS w0 gs gd A n c l dn sv lg st v w) (hb:Below w.heap.size w w'):DS w0 gs gd A n c l dn sv lg st v w':=by
 obtain ⟨F,l',h1,h2,h3⟩:=h.disk;exact ⟨⟨F,l',h1.below hb h.gdlt,h2,h3⟩,h.libs.below hb,h.err.on hb,h.store.on hb,h.ord,h.olds,h.oldE,h.keep.then hb,h.was⟩
theorem StoreAt.keep {w w':World} {gs gd:Nat} {dn:Bool} {sv lg:Nat} {st:St} {v:Value} (h:StoreAt w gs gd dn sv lg st v) (hk:Keep [gd] w w') (ho:gd<gs):StoreAt w' gs gd dn sv lg st v:=by
 have hn:gs∉ [gd]:=by simp; omega
 have hc:∀ i,w'.cell? ⟨gs,i,none⟩=w.cell? ⟨gs,i,none⟩:=fun i=>hk.cell (p:=⟨gs,i,none⟩) h.lt hn;exact ⟨(hc 0).trans h.p0,(hc 1).trans h.p1,(hc 2).trans h.p2,(hc 3).trans h.p3,(hc 4).trans h.p4,(hc 5).trans h.p5,(hc 6).trans h.p6,fun i=>(hk.frozen (p:=⟨gs,i,none⟩) h.lt hn).trans (h.pf i),hk.rows h.fam (fun x hx=>by simp at hx; omega),Nat.lt_of_lt_of_le h.lt hk.size⟩
theorem DS.wrote {w0:World} {gs gd:Nat} {A A':AD} {n n':Nat} {c:Bool} {l l1:Int} {dn:Bool} {sv lg:Nat} {st:St} {v:Value} {w w':World} (h:DS w0 gs gd A n c l dn sv lg st v w) (hg:w.grownBy w' (some gd)) (hd:∃ F l',IsDisk w' gd F (n':Int) c l'∧(c=true→l'=l1)∧EncF tag0 F A'):DS w0 gs gd A' n' c l1 dn sv lg st v w':=by
 have hk:=Keep.grown hg;have hb:Below gd w w':=hk.below (Nat.le_of_lt h.gdlt) (fun x hx=>by simp at hx; omega)
 refine ⟨hd,h.libs.belowB hb h.olds,(hb.cell (p:=⟨0,0,none⟩) h.oldE).trans h.err,h.store.keep hk h.ord,h.ord,h.olds,h.oldE,h.keep.trans (hk.mono (fun x hx=>by simp at hx; simp [hx])),h.was⟩
theorem DS.own {w0:World} {gs gd:Nat} {A:AD} {n:Nat} {c:Bool} {l:Int} {dn dn':Bool} {sv sv' lg lg':Nat} {st st':St} {v v':Value} {w w':World} (h:DS w0 gs gd A n c l dn sv lg st v w) (hb:Below gs w w') (hk:Keep [gs] w w') (hs:StoreAt w' gs gd dn' sv' lg' st' v'):DS w0 gs gd A n c l dn' sv' lg' st' v' w':=by
 obtain ⟨F,l',h1,h2,h3⟩:=h.disk;exact ⟨⟨F,l',h1.below hb h.ord,h2,h3⟩,h.libs.belowB hb (h.olds.mono (Nat.le_of_lt h.ord)),(hb.cell (p:=⟨0,0,none⟩) (Nat.lt_trans h.oldE h.ord)).trans h.err,hs,h.ord,h.olds,h.oldE,h.keep.trans (hk.mono (fun x hx=>by simp at hx; simp [hx])),h.was⟩
theorem keep1 (gs i:Nat) (a:Value) (w:World):Keep [gs] w (w.setCell ⟨gs,i,none⟩ a):=(Keep.refl _ w).setCell (p:=⟨gs,i,none⟩) (.inl (by simp)) a
theorem DS.putDown {w0:World} {gs gd:Nat} {A:AD} {n:Nat} {c:Bool} {l:Int} {dn:Bool} {sv lg:Nat} {st:St} {v:Value} {w:World} (h:DS w0 gs gd A n c l dn sv lg st v w) (dn':Bool):DS w0 gs gd A n c l dn' sv lg st v (w.setCell ⟨gs,1,none⟩ (.bool dn')):=
 h.own (below1 gs 1 _ w) (keep1 gs 1 _ w) h.store.putDown
theorem writeS_off (w0:World) (gs gd:Nat) (A:AD) (n:Nat) (c:Bool) (l:Int) (dn:Bool) (sv lg:Nat) (st:St) (v:Value) (k:Nat) (xs:List ByteArray) (b cp:Nat) (w:World) (h:DS w0 gs gd A n c l dn sv lg st v w) (hk:k<90) (hw:WordsAt w b xs) (hx:xs.length≤10) (hc:xs.length≤cp) (hl:(Lib.join (xs.map (·.data.toList)) [32]).length≤220) (ho:offB c l=true) :
 Calls Tryz.prog 56 #[.pointer (some ⟨gs,0,none⟩),.int .i64 k,.slice (some ⟨b,0,none⟩) xs.length cp] w fun r w'=>r=.returned (.iface 47 (.int .i64 14))∧DS w0 gs gd A n c l true sv lg st v w':=by
 obtain ⟨T,hT⟩:∃ T,T=Lib.join (xs.map (·.data.toList)) [32]:=⟨_,rfl⟩;have hse:=seal_is xs b cp w.drew (show WordsAt w.drew b xs from hw) hx hc (by omega)
 rw [← hT] at hse hl;have hlen:(bs8 (sealL tag0 T)).size≤240:=by rw [bsize,seal_len tagOk0]; omega
 have hwr:∀ (W:World),DS w0 gs gd A n c l dn sv lg st v W→Calls Tryz.prog 116 #[.pointer (some ⟨gd,0,none⟩),.int .i64 k,.string (bs8 (sealL tag0 T))] W fun e w'=>e=.returned (.iface 47 (.int .i64 14))∧w'=W:=fun W hW=>by
  obtain ⟨F,l',h1,h2,h3⟩:=hW.disk;refine diskWrite_off gd F n c l' k _ W h1 hk hlen ?_;unfold offB at ho ⊢
  cases c with
  |false=>cases ho
  |true=>rw [h2 rfl]; exact ho
 generalize bs8 (sealL tag0 T)=X at *;have H0:Hid (DS w0 gs gd A n c l dn sv lg st v w):=h;have hXL:Hid (xs.length≤cp):=hc;clear h hw hT hl hlen ho hk hx hc;generalize xs.length=XL at *;go_enter Tryz.func56,Tryz.ntmps56
 go_upto_region 1 with fail
 have hS0:DS w0 gs gd A n c l dn sv lg st v w.drew:=H0.out.on (Below.refl _ _).drew;refine RegD.R_ (fun w'=>DS w0 gs gd A n c l dn sv lg st v w') 7 (by kernel_rfl) hS0 (fun hH=>?_)
 clear hS0;refine RegD.T_ 0 (v:=.pointer (some ⟨gs,0,none⟩)) rfl (by kernel_rfl) (fun _ _ _ h=>h) (.inl ⟨by rfl,fun W hW=>by go_simp⟩) hH ?_
 simp only [Act.put,pS1,pS2,pS3];refine RegD.T_ 1 (v:=.pointer (some ⟨gs,0,none⟩)) rfl (by kernel_rfl) (fun _ _ _ h=>h) (.inl ⟨by rfl,fun W hW=>by go_simp⟩) hH ?_
 simp only [Act.put,pS1,pS2,pS3];refine RegD.T_ 2 (v:=.pointer (some ⟨gs,0,none⟩)) rfl (by kernel_rfl) (fun _ _ _ h=>h) (.inl ⟨by rfl,fun W hW=>by go_simp⟩) hH ?_
 simp only [Act.put,pS1,pS2,pS3];refine RegD.T_ 3 (v:=.pointer (some ⟨gd,0,none⟩)) rfl (by kernel_rfl) (fun _ _ _ h=>h) (.inl ⟨by rfl,fun W hW=>by have a0:=hW.store.p0; go_simp⟩) hH ?_
 simp only [Act.put,pS1,pS2,pS3];refine RegD.T_ 4 (v:=.int .i64 k) rfl (by kernel_rfl) (fun _ _ _ h=>h) (.inl ⟨by rfl,fun W hW=>by go_simp⟩) hH ?_
 simp only [Act.put,pS1,pS2,pS3];refine RegD.T_ 5 (v:=.slice (some ⟨b,0,none⟩) XL cp) rfl (by kernel_rfl) (fun _ _ _ h=>h) (.inl ⟨by rfl,fun W hW=>by go_simp⟩) hH ?_
 simp only [Act.put,pS1,pS2,pS3];refine RegD.O_ 6 rfl (by kernel_rfl) ?_; intro K hK; go_simp
 go_at_call 117
 refine hse.mono ?_;rintro e1 w1 ⟨rfl,hb1⟩;go_wp2_with fail
 have hS6:=hH.on hb1;refine hK.out _ _ hS6 ?_;clear hK hH;intro hH;clear hS6 K;refine RegD.L_ 7 rfl (by kernel_rfl) (by kernel_rfl) ?_; intro K hK; go_simp
 go_at_call 116
 refine (hwr _ hH).mono ?_;rintro e2 w2 ⟨rfl,rfl⟩;have H2:Hid (DS w0 gs gd A n c l dn sv lg st v w2):=hH;clear hH;go_wp2_with fail
 refine hK.out _ _ ?_;clear hK K;refine RegD.L_ 8 rfl (by kernel_rfl) (by kernel_rfl) ?_; intro K hK; go_simp
 refine hK.out _ _ ?_;clear hK K;refine RegD.D_ (by kernel_rfl) ?_ _
 go_wp2_with fail
 refine (tell_err 14 _ H2.out.err).mono ?_;rintro e3 w3 ⟨rfl,hb3⟩;have H3:Hid (DS w0 gs gd A n c l dn sv lg st v w3):=H2.out.on hb3;have p1:=H3.out.store.p1;have pf:=H3.out.store.pf;clear hb3;have HF:Hid _:=H3.out.putDown true;go_wp2_with fail
 go_ret;exact ⟨rfl,HF.out⟩
theorem writeS_on (w0:World) (gs gd:Nat) (A A':AD) (n:Nat) (c:Bool) (l:Int) (dn:Bool) (sv lg:Nat) (st:St) (v:Value) (k:Nat) (xs:List ByteArray) (b cp:Nat) (w:World) (h:DS w0 gs gd A n c l dn sv lg st v w) (hk:k<90) (hw:WordsAt w b xs) (hx:xs.length≤10) (hc:xs.length≤cp) (hl:(Lib.join (xs.map (·.data.toList)) [32]).length≤220) (ho:offB c l=false) (hl2:c=true→0≤l∧l≤9223372036854775807) (hn:n<100000) (hE:∀ F F':Int→ByteArray,EncF tag0 F A→F' k=bs8 (sealL tag0 (Lib.join (xs.map (·.data.toList)) [32]))→(∀ j:Int,j≠k→F' j=F j)→EncF tag0 F' A') :
 Calls Tryz.prog 56 #[.pointer (some ⟨gs,0,none⟩),.int .i64 k,.slice (some ⟨b,0,none⟩) xs.length cp] w fun r w'=>r=.returned .nilIface∧DS w0 gs gd A' (n+1) c (l - 1) false sv lg st v w':=by
 obtain ⟨T,hT⟩:∃ T,T=Lib.join (xs.map (·.data.toList)) [32]:=⟨_,rfl⟩;have hse:=seal_is xs b cp w.drew (show WordsAt w.drew b xs from hw) hx hc (by omega)
 rw [← hT] at hse hl hE;have hlen:(bs8 (sealL tag0 T)).size≤240:=by rw [bsize,seal_len tagOk0]; omega
 have hwr:∀ (W:World),DS w0 gs gd A n c l dn sv lg st v W→Calls Tryz.prog 116 #[.pointer (some ⟨gd,0,none⟩),.int .i64 k,.string (bs8 (sealL tag0 T))] W fun e w'=>e=.returned .nilIface∧DS w0 gs gd A' (n+1) c (l - 1) dn sv lg st v w':=fun W hW=>by
  obtain ⟨F,l',h1,h2,h3⟩:=hW.disk;refine (diskWrite_on gd F n c l' k _ W h1 hW.gdlt hk hlen ?_ ?_ (by omega) (by omega)).mono ?_
  ·unfold offB at ho ⊢
   cases c with
   |false=>rfl
   |true=>rw [h2 rfl]; exact ho
  ·intro hcc
   rw [h2 hcc];exact hl2 hcc
  ·rintro e w' ⟨rfl,⟨l1,q1,q2⟩,q3⟩
   refine ⟨rfl,hW.wrote q3 ⟨_,l1,by push_cast; exact q1,fun hcc=>by rw [q2 hcc,h2 hcc],hE F _ h3 (by unfold upd; simp) (fun j hj=>by unfold upd; simp [hj])⟩⟩
 generalize bs8 (sealL tag0 T)=X at *;have H0:Hid (DS w0 gs gd A n c l dn sv lg st v w):=h;have hXL:Hid (xs.length≤cp):=hc;clear h hw hT hl hlen ho hk hx hc hl2 hn hE;generalize xs.length=XL at *;go_enter Tryz.func56,Tryz.ntmps56
 go_upto_region 1 with fail
 have hS0:DS w0 gs gd A n c l dn sv lg st v w.drew:=H0.out.on (Below.refl _ _).drew;refine RegD.R_ (fun w'=>DS w0 gs gd A n c l dn sv lg st v w') 7 (by kernel_rfl) hS0 (fun hH=>?_)
 clear hS0;refine RegD.T_ 0 (v:=.pointer (some ⟨gs,0,none⟩)) rfl (by kernel_rfl) (fun _ _ _ h=>h) (.inl ⟨by rfl,fun W hW=>by go_simp⟩) hH ?_
 simp only [Act.put,pS1,pS2,pS3];refine RegD.T_ 1 (v:=.pointer (some ⟨gs,0,none⟩)) rfl (by kernel_rfl) (fun _ _ _ h=>h) (.inl ⟨by rfl,fun W hW=>by go_simp⟩) hH ?_
 simp only [Act.put,pS1,pS2,pS3];refine RegD.T_ 2 (v:=.pointer (some ⟨gs,0,none⟩)) rfl (by kernel_rfl) (fun _ _ _ h=>h) (.inl ⟨by rfl,fun W hW=>by go_simp⟩) hH ?_
 simp only [Act.put,pS1,pS2,pS3];refine RegD.T_ 3 (v:=.pointer (some ⟨gd,0,none⟩)) rfl (by kernel_rfl) (fun _ _ _ h=>h) (.inl ⟨by rfl,fun W hW=>by have a0:=hW.store.p0; go_simp⟩) hH ?_
 simp only [Act.put,pS1,pS2,pS3];refine RegD.T_ 4 (v:=.int .i64 k) rfl (by kernel_rfl) (fun _ _ _ h=>h) (.inl ⟨by rfl,fun W hW=>by go_simp⟩) hH ?_
 simp only [Act.put,pS1,pS2,pS3];refine RegD.T_ 5 (v:=.slice (some ⟨b,0,none⟩) XL cp) rfl (by kernel_rfl) (fun _ _ _ h=>h) (.inl ⟨by rfl,fun W hW=>by go_simp⟩) hH ?_
 simp only [Act.put,pS1,pS2,pS3];refine RegD.O_ 6 rfl (by kernel_rfl) ?_; intro K hK; go_simp
 go_at_call 117
 refine hse.mono ?_;rintro e1 w1 ⟨rfl,hb1⟩;go_wp2_with fail
 have hS6:=hH.on hb1;refine hK.out _ _ hS6 ?_;clear hK hH;intro hH;clear hS6 K;refine RegD.L_ 7 rfl (by kernel_rfl) (by kernel_rfl) ?_; intro K hK; go_simp
 go_at_call 116
 refine (hwr _ hH).mono ?_;rintro e2 w2 ⟨rfl,hds⟩;have H2:Hid (DS w0 gs gd A' (n+1) c (l - 1) dn sv lg st v w2):=hds;clear hds;clear hH;go_wp2_with fail
 refine hK.out _ _ ?_;clear hK K;refine RegD.L_ 8 rfl (by kernel_rfl) (by kernel_rfl) ?_; intro K hK; go_simp
 refine hK.out _ _ ?_;clear hK K;refine RegD.D_ (by kernel_rfl) ?_ _
 go_wp2_with fail
 refine (tell_nil _).mono ?_;rintro e3 w3 ⟨rfl,rfl⟩;have H3:Hid (DS w0 gs gd A' (n+1) c (l - 1) dn sv lg st v w3):=H2.out;have p1:=H3.out.store.p1;have pf:=H3.out.store.pf;have HF:Hid _:=H3.out.putDown false;go_wp2_with fail
 go_ret;exact ⟨rfl,HF.out⟩
theorem writeHead_gen (R:Value) (Q:World→Prop) (w0:World) (gs gd:Nat) (A:AD) (n:Nat) (c:Bool) (l:Int) (dn:Bool) (sv lg:Nat) (st:St) (v:Value) (k s:Nat) (w:World) (h:DS w0 gs gd A n c l dn sv lg st v w) (hg:Ev.Good st) (hs:okN s)
 (hwr:∀ (b:Nat) (W:World),DS w0 gs gd A n c l dn sv lg st v W→WordsAt W b ((hdWs s st.clock st.next st.fams.length).map bs8)→Calls Tryz.prog 56 #[.pointer (some ⟨gs,0,none⟩),.int .i64 k,.slice (some ⟨b,0,none⟩) 4 4] W fun r w'=>r=.returned R∧Q w') :
 Calls Tryz.prog 58 #[.pointer (some ⟨gs,0,none⟩),.int .i64 k,.int .i64 s] w fun r w'=>r=.returned R∧Q w':=by
 have i0:=fun (W:World) (hW:LibsE W)=>itoaE_is s W hs.1 (by have:=hs.2; omega) hW
 have i1:=fun (W:World) (hW:LibsE W)=>itoaE_is st.clock W hg.clock.1 (by have:=hg.clock.2; omega) hW
 have i2:=fun (W:World) (hW:LibsE W)=>itoaE_is st.next W (by have:=hg.next0; omega) (by have:=hg.next1; omega) hW
 have i3:=fun (W:World) (hW:LibsE W)=>itoaE_is (st.fams.length:Int) W (by omega) (by have:=hg.len; omega) hW
 obtain ⟨ba,ca,rfl⟩:=RowsK.slice h.store.fam;have H0:Hid (DS w0 gs gd A n c l dn sv lg st (.slice ba st.fams.length ca) w):=h;clear h hg hs;go_enter Tryz.func58,Tryz.ntmps58
 go_upto_region 1 with fail
 have hS0:DS w0 gs gd A n c l dn sv lg st (.slice ba st.fams.length ca) w.drew:=H0.out.on (Below.refl _ _).drew;refine RegD.R_ (fun w'=>DS w0 gs gd A n c l dn sv lg st (.slice ba st.fams.length ca) w') 24 (by kernel_rfl) hS0 (fun hH=>?_)
 clear hS0;refine RegD.T_ 0 (v:=.pointer (some ⟨gs,0,none⟩)) rfl (by kernel_rfl) (fun _ _ _ h=>h) (.inl ⟨by rfl,fun W hW=>by go_simp⟩) hH ?_
 simp only [Act.put,pS1,pS2,pS3];refine RegD.T_ 1 (v:=.int .i64 k) rfl (by kernel_rfl) (fun _ _ _ h=>h) (.inl ⟨by rfl,fun W hW=>by go_simp⟩) hH ?_
 simp only [Act.put,pS1,pS2,pS3];refine RegD.T_ 2 (v:=.int .i64 s) rfl (by kernel_rfl) (fun _ _ _ h=>h) (.inl ⟨by rfl,fun W hW=>by go_simp⟩) hH ?_
 simp only [Act.put,pS1,pS2,pS3];refine RegD.T_ 4 (v:=.pointer (some ⟨gs,0,none⟩)) rfl (by kernel_rfl) (fun _ _ _ h=>h) (.inl ⟨by rfl,fun W hW=>by go_simp⟩) hH ?_
 simp only [Act.put,pS1,pS2,pS3];refine RegD.T_ 5 (v:=.pointer (some ⟨gs,0,none⟩)) rfl (by kernel_rfl) (fun _ _ _ h=>h) (.inl ⟨by rfl,fun W hW=>by go_simp⟩) hH ?_
 simp only [Act.put,pS1,pS2,pS3];refine RegD.T_ 6 (v:=.pointer (some ⟨gs,4,none⟩)) rfl (by kernel_rfl) (fun _ _ _ h=>h) (.inl ⟨by rfl,fun W hW=>by go_simp⟩) hH ?_
 simp only [Act.put,pS1,pS2,pS3];refine RegD.T_ 7 (v:=.pointer (some ⟨gs,4,none⟩)) rfl (by kernel_rfl) (fun _ _ _ h=>h) (.inl ⟨by rfl,fun W hW=>by go_simp⟩) hH ?_
 simp only [Act.put,pS1,pS2,pS3];refine RegD.T_ 8 (v:=.int .i64 st.clock) rfl (by kernel_rfl) (fun _ _ _ h=>h) (.inl ⟨by rfl,fun W hW=>by have a0:=hW.store.p4; go_simp⟩) hH ?_
 simp only [Act.put,pS1,pS2,pS3];refine RegD.T_ 10 (v:=.pointer (some ⟨gs,0,none⟩)) rfl (by kernel_rfl) (fun _ _ _ h=>h) (.inl ⟨by rfl,fun W hW=>by go_simp⟩) hH ?_
 simp only [Act.put,pS1,pS2,pS3];refine RegD.T_ 11 (v:=.pointer (some ⟨gs,0,none⟩)) rfl (by kernel_rfl) (fun _ _ _ h=>h) (.inl ⟨by rfl,fun W hW=>by go_simp⟩) hH ?_
 simp only [Act.put,pS1,pS2,pS3];refine RegD.T_ 12 (v:=.pointer (some ⟨gs,4,none⟩)) rfl (by kernel_rfl) (fun _ _ _ h=>h) (.inl ⟨by rfl,fun W hW=>by go_simp⟩) hH ?_
 simp only [Act.put,pS1,pS2,pS3];refine RegD.T_ 13 (v:=.pointer (some ⟨gs,5,none⟩)) rfl (by kernel_rfl) (fun _ _ _ h=>h) (.inl ⟨by rfl,fun W hW=>by go_simp⟩) hH ?_
 simp only [Act.put,pS1,pS2,pS3];refine RegD.T_ 14 (v:=.int .i64 st.next) rfl (by kernel_rfl) (fun _ _ _ h=>h) (.inl ⟨by rfl,fun W hW=>by have a0:=hW.store.p5; go_simp⟩) hH ?_
 simp only [Act.put,pS1,pS2,pS3];refine RegD.T_ 16 (v:=.pointer (some ⟨gs,0,none⟩)) rfl (by kernel_rfl) (fun _ _ _ h=>h) (.inl ⟨by rfl,fun W hW=>by go_simp⟩) hH ?_
 simp only [Act.put,pS1,pS2,pS3];refine RegD.T_ 17 (v:=.pointer (some ⟨gs,0,none⟩)) rfl (by kernel_rfl) (fun _ _ _ h=>h) (.inl ⟨by rfl,fun W hW=>by go_simp⟩) hH ?_
 simp only [Act.put,pS1,pS2,pS3];refine RegD.T_ 18 (v:=.pointer (some ⟨gs,4,none⟩)) rfl (by kernel_rfl) (fun _ _ _ h=>h) (.inl ⟨by rfl,fun W hW=>by go_simp⟩) hH ?_
 simp only [Act.put,pS1,pS2,pS3];refine RegD.T_ 19 (v:=.pointer (some ⟨gs,6,none⟩)) rfl (by kernel_rfl) (fun _ _ _ h=>h) (.inl ⟨by rfl,fun W hW=>by go_simp⟩) hH ?_
 simp only [Act.put,pS1,pS2,pS3];refine RegD.T_ 20 (v:=.slice ba st.fams.length ca) rfl (by kernel_rfl) (fun _ _ _ h=>h) (.inl ⟨by rfl,fun W hW=>by have a0:=hW.store.p6; go_simp⟩) hH ?_
 simp only [Act.put,pS1,pS2,pS3];refine RegD.T_ 21 (v:=.int .i64 st.fams.length) rfl (by kernel_rfl) (fun _ _ _ h=>h) (.inl ⟨by rfl,fun W hW=>by go_simp⟩) hH ?_
 simp only [Act.put,pS1,pS2,pS3];refine RegD.O_ 3 rfl (by kernel_rfl) ?_; intro K hK; go_simp
 go_at_call 57
 refine (i0 _ hH.libs.base).mono ?_;rintro e1 w1 ⟨rfl,hb1⟩;go_wp2_with fail
 have hS3:=hH.on hb1;refine hK.out _ _ hS3 ?_;clear hK hH;intro hH;clear hS3 K;refine RegD.O_ 9 rfl (by kernel_rfl) ?_; intro K hK; go_simp
 go_at_call 57
 refine (i1 _ hH.libs.base).mono ?_;rintro e2 w2 ⟨rfl,hb2⟩;go_wp2_with fail
 have hS9:=hH.on hb2;refine hK.out _ _ hS9 ?_;clear hK hH;intro hH;clear hS9 K;refine RegD.O_ 15 rfl (by kernel_rfl) ?_; intro K hK; go_simp
 go_at_call 57
 refine (i2 _ hH.libs.base).mono ?_;rintro e3 w3 ⟨rfl,hb3⟩;go_wp2_with fail
 have hS15:=hH.on hb3;refine hK.out _ _ hS15 ?_;clear hK hH;intro hH;clear hS15 K;refine RegD.O_ 22 rfl (by kernel_rfl) ?_; intro K hK; go_simp
 go_at_call 57
 refine (i3 _ hH.libs.base).mono ?_;rintro e4 w4 ⟨rfl,hb4⟩;go_wp2_with fail
 have hS22:=hH.on hb4;refine hK.out _ _ hS22 ?_;clear hK hH;intro hH;clear hS22 K;refine RegD.O_ 23 rfl (by kernel_rfl) ?_; intro K hK; go_simp
 have hS23:=hH.on (w':=w4.alloc (.cells #[.string ⟨(Lib.itoa s).toArray⟩,.string ⟨(Lib.itoa st.clock).toArray⟩,.string ⟨(Lib.itoa st.next).toArray⟩,.string ⟨(Lib.itoa st.fams.length).toArray⟩] 9)) ((Below.refl _ _).alloc (Nat.le_refl _) _);refine hK.out _ _ hS23 ?_;clear hK hH;intro hH;clear hS23 K;refine RegD.L_ 24 rfl (by kernel_rfl) (by kernel_rfl) ?_; intro K hK; go_simp
 go_at_call 56
 refine (hwr _ _ hH (wordsAt_new w4 ((hdWs s st.clock st.next st.fams.length).map bs8) _)).mono ?_;rintro e5 w5 ⟨rfl,hq⟩;have HQ:Hid (Q w5):=hq;clear hq hH;go_wp2_with fail
 refine hK.out _ _ ?_;clear hK K;refine RegD.L_ 25 rfl (by kernel_rfl) (by kernel_rfl) ?_; intro K hK; go_simp
 refine hK.out _ _ ?_;clear hK K;refine RegD.D_ (by kernel_rfl) ?_ _
 go_wp2_with fail
 go_ret;exact ⟨rfl,HQ.out⟩
end Go.Proofs.YtlailakofhenkabGreatDoor
namespace Go.Proofs.YtlailakofhenkabGreatDoor.Ev
open Go.Lib Tok Sc
structure Pub where
 st:St
 lg:Nat
 n:Nat
 c:Bool
 l:Int
 dn:Bool
def offP (p:Pub):Bool:=p.c && (p.l == 0)
def wroteP (p:Pub):Pub:=⟨p.st,p.lg,p.n+1,p.c,p.l - 1,p.dn⟩
def downP (p:Pub):Pub:=⟨p.st,p.lg,p.n,p.c,p.l,true⟩
def writesP:Nat→Pub→Pub × Bool
 |0,p=>(p,true)
 |k+1,p=>if offP p then (downP p,false) else writesP k (wroteP p)
def emptyLogP (p:Pub):Pub:=⟨p.st,0,p.n,p.c,p.l,p.dn⟩
def saveP (p:Pub):Pub × Nat:=if p.dn then (p,6) else if (writesP (p.st.fams.length+1) p).2 then (emptyLogP (writesP (p.st.fams.length+1) p).1,0) else ((writesP (p.st.fams.length+1) p).1,14)
def putP1 (p:Pub) (e:E):Pub × Nat:=if offP p then (downP p,14) else (⟨applyP p.st e,p.lg+1,p.n+1,p.c,p.l - 1,p.dn⟩,0)
def addP (p:Pub) (e:E) (m:Bool):Pub × Nat:=
 if p.dn then (p,6) else if m=false then (p,1) else if 20<(applyP p.st e).fams.length then (p,12)
 else if p.lg=16 then (if (saveP p).2=0 then putP1 (saveP p).1 e else saveP p) else putP1 p e
def cutP (p:Pub) (k:Int):Pub:=⟨p.st,p.lg,p.n,decide (0≤k),k,p.dn⟩
def openP (p:Pub):Pub:=⟨p.st,p.lg,p.n,false,p.l,false⟩
structure PubOk (N:Nat) (p:Pub):Prop where
 good:Good p.st
 low:p.lg≤16
 few:p.n≤N
 left:p.c=true→0≤p.l∧p.l≤9223372036854775807
theorem writesP_st:∀ (k:Nat) (p:Pub),(writesP k p).1.st=p.st∧(writesP k p).1.lg=p.lg∧(writesP k p).1.n≤p.n+k∧(writesP k p).1.c=p.c∧((writesP k p).2=true→(writesP k p).1.dn=p.dn):=by
 intro k;induction k with
 |zero=>intro p; exact ⟨rfl,rfl,Nat.le_refl _,rfl,fun _=>rfl⟩
 |succ k ih=>
  intro p;rw [writesP];split
  ·exact ⟨rfl,rfl,by show p.n≤_; omega,rfl,fun h=>by cases h⟩
  ·obtain ⟨h1,h2,h3,h4,h5⟩:=ih (wroteP p)
   exact ⟨h1,h2,Nat.le_trans h3 (by show p.n+1+k≤_; omega),h4,h5⟩
theorem ok_wrote {N:Nat} {p:Pub} (h:PubOk N p) (ho:offP p=false):PubOk (N+1) (wroteP p):=
 ⟨h.good,h.low,by show p.n+1≤_; have:=h.few; omega,fun hc=>by
  have hc':p.c=true:=hc
  have:=h.left hc';unfold offP at ho;rw [hc'] at ho;have h0:p.l≠0:=by simpa using ho
  show 0≤p.l - 1∧p.l - 1≤_
  omega⟩
theorem ok_down {N:Nat} {p:Pub} (h:PubOk N p):PubOk N (downP p):=⟨h.good,h.low,h.few,h.left⟩
theorem ok_mono {N M:Nat} {p:Pub} (h:PubOk N p) (hm:N≤M):PubOk M p:=⟨h.good,h.low,Nat.le_trans h.few hm,h.left⟩
theorem ok_writes:∀ (k N:Nat) (p:Pub),PubOk N p→PubOk (N+k) (writesP k p).1:=by
 intro k;induction k with
 |zero=>intro N p h; exact h
 |succ k ih=>
  intro N p h;rw [writesP]
  cases ho:offP p with
  |true=>exact ok_mono (ok_down h) (by omega)
  |false=>exact ok_mono (ih (N+1) (wroteP p) (ok_wrote h ho)) (by omega)
theorem ok_save {N:Nat} {p:Pub} (h:PubOk N p):PubOk (N+21) (saveP p).1:=by
 have hw:=ok_writes (p.st.fams.length+1) N p h;have hl:=h.good.len;unfold saveP;split
 ·exact ok_mono h (by omega)
 ·split
  ·exact ⟨hw.good,Nat.zero_le _,Nat.le_trans hw.few (by omega),hw.left⟩
  ·exact ok_mono hw (by omega)
theorem save_st (p:Pub):(saveP p).1.st=p.st:=by
 unfold saveP;split
 ·rfl
 ·split
  ·exact (writesP_st _ p).1
  ·exact (writesP_st _ p).1
theorem save_log {p:Pub} (h:(saveP p).2=0):(saveP p).1.lg=0:=by
 unfold saveP at h ⊢;split
 ·rename_i hd; rw [if_pos hd] at h; cases h
 ·split
  ·rfl
  ·rename_i h1 h2; rw [if_neg h1,if_neg h2] at h; cases h
theorem ok_put1 {N:Nat} {p:Pub} {e:E} (h:PubOk N p) (he:Ev.may e) (hl:¬ 20<(applyP p.st e).fams.length) (hg:p.lg<16):PubOk (N+1) (putP1 p e).1:=by
 unfold putP1
 cases ho:offP p with
 |true=>exact ok_mono (ok_down h) (by omega)
 |false=>
  have:=ok_wrote h ho;exact ⟨good_apply h.good he (by omega),hg,this.few,this.left⟩
theorem ok_add {N:Nat} {p:Pub} {e:E} {m:Bool} (hm:m=true↔Ev.may e) (h:PubOk N p):PubOk (N+22) (addP p e m).1:=by
 unfold addP;split
 ·exact ok_mono h (by omega)
 split
 ·exact ok_mono h (by omega)
 rename_i h1 h2
 have he:Ev.may e:=hm.1 (by simpa using h2)
 split
 ·exact ok_mono h (by omega)
 rename_i h3
 split
 ·have hs:=ok_save h
  split
  ·rename_i h4
   exact ok_put1 hs he (by rw [save_st]; exact h3) (by rw [save_log h4]; omega)
  ·exact ok_mono hs (by omega)
 ·rename_i h4
  exact ok_mono (ok_put1 h he h3 (by have:=h.low; omega)) (by omega)
theorem ok_cut {N:Nat} {p:Pub} (h:PubOk N p) (k:Int) (hk:k≤9223372036854775807):PubOk N (cutP p k):=⟨h.good,h.low,h.few,fun hc=>⟨by simpa [cutP] using hc,hk⟩⟩
theorem ok_zero:PubOk 0 ⟨⟨0,1,[]⟩,0,0,false,0,false⟩:=⟨good_zero,Nat.zero_le _,Nat.le_refl _,fun hc=>by cases hc⟩
def fillA (A:AD) (b s:Nat) (l:List Fam):Nat→AD
 |0=>A
 |i+1=>⟨updN (fillA A b s l i).blk (b+i) (some (s,putE (l.getD i zeroF))),(fillA A b s l i).head⟩
theorem fill_blk (A:AD) (b s:Nat) (l:List Fam):∀ i j,j<i→(fillA A b s l i).blk (b+j)=some (s,putE (l.getD j zeroF))
 |0,j,h=>by omega
 |i+1,j,h=>by
  show updN (fillA A b s l i).blk (b+i) _ (b+j)=_
  unfold updN;by_cases hj:j=i
  ·subst hj; rw [if_pos rfl]
  ·rw [if_neg (by omega)]
   exact fill_blk A b s l i j (by omega)
theorem fill_inv {A:AD} {st b:St} {sv lg:Nat} {es:List E} (h:Inv A st sv lg b es):∀ i,i≤st.fams.length→Inv (fillA A (17+21*((sv+1) % 2)) (sv+1) st.fams i) st sv lg b es
 |0,_=>h
 |i+1,hi=>by
  have hl:=h.good.len;have hlt:i<st.fams.length:=by omega
  have hg:st.fams.getD i zeroF=st.fams[i]:=by simp [List.getD,hlt]
  refine inv_part (fill_inv h i (by omega)) i (by omega) (may_put ?_)
  rw [hg];exact (h.good.may _ (List.getElem_mem hlt)).1
theorem fill_done {A:AD} {st b:St} {sv lg:Nat} {es:List E} (h:Inv A st sv lg b es) :
 Inv ⟨(fillA A (17+21*((sv+1) % 2)) (sv+1) st.fams st.fams.length).blk,updN (fillA A (17+21*((sv+1) % 2)) (sv+1) st.fams st.fams.length).head ((sv+1) % 2) (some (sv+1,st.clock,st.next,st.fams.length))⟩ st (sv+1) 0 st []:=by
 refine inv_head (fill_inv h _ (Nat.le_refl _)) (fun j hj=>?_);rw [fill_blk _ _ _ _ _ _ hj];simp [List.getD,hj]
theorem evL_join (s:Nat) (e:E):join [itoa s,line e] [32]=evL s e:=by
 rw [glue_two,join_one];rfl
theorem Inv.diskIs {A:AD} {st b:St} {sv lg:Nat} {es:List E} (h:Inv A st sv lg b es) (hs:okN ((sv:Int)+1)):(∀ k s e,A.blk k=some (s,e)→Ev.may e∧okN s)∧(∀ k s c nx n,A.head k=some (s,c,nx,n)→okN s∧okN c∧0≤nx∧nx≤1099511627777∧n≤20):=by
 obtain ⟨h1,h2⟩:=hs;refine ⟨fun k s e hk=>⟨(h.blks k s e hk).1,?_⟩,fun k s c nx n hk=>⟨?_,(h.heads k s c nx n hk).2⟩⟩
 ·have:=(h.blks k s e hk).2
  exact (show 0≤(s:Int)∧(s:Int)≤1099511627776 from ⟨by omega,by omega⟩)
 ·have:=(h.heads k s c nx n hk).1
  exact (show 0≤(s:Int)∧(s:Int)≤1099511627776 from ⟨by omega,by omega⟩)
theorem save_ok {p:Pub} {N:Nat} (h:PubOk N p) (hd:p.dn=false) (h0:(saveP p).2=0):∃ n1 l1,(saveP p).1=⟨p.st,0,n1,p.c,l1,false⟩∧n1≤N+21∧(p.c=true→0≤l1∧l1≤9223372036854775807):=by
 have h1:=ok_save h;have h2:=save_st p;have h3:=save_log h0
 have h4:(saveP p).1.c=p.c∧(saveP p).1.dn=false:=by
  unfold saveP at h0 ⊢;rw [hd] at h0 ⊢;rw [if_neg (by simp)] at h0 ⊢
  split
  ·rename_i hw
   have:=writesP_st (p.st.fams.length+1) p;exact ⟨this.2.2.2.1,(this.2.2.2.2 hw).trans hd⟩
  ·rename_i hw
   rw [if_neg hw] at h0
   cases h0
 have h5:=h1.few;have h6:=h1.left;generalize (saveP p).1=q at *;obtain ⟨qs,ql,qn,qc,qll,qd⟩:=q;simp only at h2 h3 h4 h5 h6;obtain ⟨h4,h4'⟩:=h4;subst h2; subst h3; subst h4; subst h4';exact ⟨_,_,rfl,h5,h6⟩
theorem add_full (p:Pub) (e:E) (hd:p.dn=false) (h:20<(applyP p.st e).fams.length):addP p e true=(p,12):=by
 unfold addP;rw [if_neg (by simp [hd]),if_neg (by simp),if_pos h]
theorem add_plain (p:Pub) (e:E) (hd:p.dn=false) (h:¬ 20<(applyP p.st e).fams.length) (hg:p.lg≠16):addP p e true=putP1 p e:=by
 unfold addP;rw [if_neg (by simp [hd]),if_neg (by simp),if_neg h,if_neg hg]
theorem add_save0 (p:Pub) (e:E) (hd:p.dn=false) (h:¬ 20<(applyP p.st e).fams.length) (hg:p.lg=16) (h0:(saveP p).2=0):addP p e true=putP1 (saveP p).1 e:=by
 unfold addP;rw [if_neg (by simp [hd]),if_neg (by simp),if_neg h,if_pos hg,if_pos h0]
theorem add_saveE (p:Pub) (e:E) (hd:p.dn=false) (h:¬ 20<(applyP p.st e).fams.length) (hg:p.lg=16) (h0:(saveP p).2≠0):addP p e true=saveP p:=by
 unfold addP;rw [if_neg (by simp [hd]),if_neg (by simp),if_neg h,if_pos hg,if_neg h0]
theorem put_off (q:Pub) (e:E) (h:offP q=true):putP1 q e=(downP q,14):=by unfold putP1; rw [if_pos h]
theorem put_on (q:Pub) (e:E) (h:offP q=false):putP1 q e=(⟨applyP q.st e,q.lg+1,q.n+1,q.c,q.l - 1,q.dn⟩,0):=by unfold putP1; rw [if_neg (by simp [h])]
end Go.Proofs.YtlailakofhenkabGreatDoor.Ev
