import Derived.Test.YtlailakofhenkabGreatDoorB35
set_option maxRecDepth 100000
set_option maxHeartbeats 16000000
namespace Go.Proofs.YtlailakofhenkabGreatDoor
open Go Go.RowKit Go.Maps Go.WideMaps Tok Sc Ev
def ordRows:List (Word × Nat × List Int):= [(cNew,227,[2,2,2,2]),(cOpen,228,[]),(cGrant,229,[0,0,1]),(cRotate,230,[0,1,1]),(cMint,231,[0]),(cShow,232,[0]),(cKill,233,[2]),(cSave,234,[]),(cCut,235,[2]),(cTick,236,[2]),(cSweep,237,[]),(cWrites,238,[]),(cLog,239,[]),(cFams,240,[]),(cLeast,241,[1]),(cTag,242,[2,0]),(cToken,243,[0,2,2,2]),(cHelp,244,[])]
def ordNames:List Word:=ordRows.map (·.1)
def heldR (v:Value):Option (DataW Value × List MemPlace):=some (.held v,[])
def ordD (f:Word→Value) (D0:DataW Value) (done:List Word):DataW Value:=done.foldl (fun D x=>D.put (.string x) (.held (f x))) D0
theorem ordD_snoc (f:Word→Value) (D0:DataW Value) (done:List Word) (c:Word):ordD f D0 (done ++ [c])=(ordD f D0 done).put (.string c) (.held (f c)):=by
 unfold ordD;rw [List.foldl_append];rfl
theorem ordD_congr {f g:Word→Value}:∀ (done:List Word) (D0:DataW Value),(∀ c∈done,f c=g c)→ordD f D0 done=ordD g D0 done
 |[],_,_=>rfl
 |c::done,D0,h=>by
  have h1:=ordD_congr (f:=f) (g:=g) done (D0.put (.string c) (.held (f c))) (fun x hx=>h x (by simp [hx]))
  show ordD f (D0.put (.string c) (.held (f c))) done=ordD g (D0.put (.string c) (.held (g c))) done
  rw [h1,h c (by simp)]
theorem key_lit (c:Word):WideAt.IsKeyLit (.string c):=trivial
theorem row_len:∀ a∈ordRows,a.1.length≤100:=by decide
theorem bs_size (c:Word):(Ev.bs c).size=c.length:=by simp [Ev.bs,ByteArray.size]
theorem ordD_at (f:Word→Value) (c:Word) (z:DataW Value):∀ (done:List Word) (D0:DataW Value),IsMap D0→(ordD f D0 done).atKey (.string c) z=if c∈done then .held (f c) else D0.atKey (.string c) z
 |[],_,_=>by simp [ordD]
 |x::done,D0,h=>by
  show (ordD f (D0.put (.string x) (.held (f x))) done).atKey (.string c) z=_
  rw [ordD_at f c z done _ (h.put _ _)];by_cases hc:c∈done
  ·simp [hc]
  ·by_cases hx:c=x
   ·subst hx
    simp [hc,atKey_put_same h (key_lit c)]
   ·have hne:(Lit.string c)≠.string x:=fun e=>hx (by injection e)
    simp [hc,hx,atKey_put_other hne]
theorem ordD_has (f:Word→Value) (c:Word):∀ (done:List Word) (D0:DataW Value),IsMap D0→Maps.has (ordD f D0 done) (.string c)=(decide (c∈done) || Maps.has D0 (.string c))
 |[],_,_=>by simp [ordD]
 |x::done,D0,h=>by
  show Maps.has (ordD f (D0.put (.string x) (.held (f x))) done) (.string c)=_
  rw [ordD_has f c done _ (h.put _ _)];by_cases hc:c∈done
  ·simp [hc]
  ·by_cases hx:c=x
   ·subst hx
    simp [hc,has_put_same h (key_lit c)]
   ·have hne:(Lit.string c)≠.string x:=fun e=>hx (by injection e)
    simp [hc,hx,has_put_other hne]
def OrdAt (W:World) (gk F:Nat) (ks:List Int) (v:Value):Prop:=
 ∃ (ka:Option Addr) (kc g:Nat),v=.agg #[.func (.func F) #[.pointer (some ⟨gk,0,none⟩)] #[],.slice ka ks.length kc]∧(0<ks.length→ka=some ⟨g,0,none⟩)∧(∀ (i:Nat) (k:Int),ks[i]?=some k→W.cell? ⟨g,i,none⟩=some (.int .i64 k))∧g<W.heap.size
theorem OrdAt.keep {l:List Nat} {W W':World} {gk F:Nat} {ks:List Int} {v:Value} (h:OrdAt W gk F ks v) (hk:Keep l W W') (hl:∀ x∈l,∀ k:Int,W.cell? ⟨x,0,none⟩≠some (.int .i64 k)):OrdAt W' gk F ks v:=by
 obtain ⟨ka,kc,g,h1,h2,h3,h4⟩:=h;refine ⟨ka,kc,g,h1,h2,fun i k hi=>?_,Nat.lt_of_lt_of_le h4 hk.size⟩
 have hg:g∉l:=fun hx=>by
  cases hks:ks with
  |nil=>rw [hks] at hi; simp at hi
  |cons k0 ks0=>exact hl g hx k0 (h3 0 k0 (by rw [hks]; rfl))
 exact (hk.cell (p:=⟨g,i,none⟩) h4 hg).trans (h3 i k hi)
theorem ordAt_nil {W:World} {gk gm F:Nat} (h:gm<W.heap.size):OrdAt W gk F [] (.agg #[.func (.func F) #[.pointer (some ⟨gk,0,none⟩)] #[],.slice none 0 0]):=
 ⟨none,0,gm,rfl,by simp,by simp,h⟩
theorem ordAt_made (W:World) (gk F:Nat) (ks:List Int) (t:TypeId):OrdAt (W.alloc (.cells (ks.map (Value.int .i64)).toArray t)) gk F ks (.agg #[.func (.func F) #[.pointer (some ⟨gk,0,none⟩)] #[],.slice (some ⟨W.heap.size,0,none⟩) ks.length ks.length]):=by
 refine ⟨_,_,W.heap.size,rfl,fun _=>rfl,fun i k hi=>?_,by simp⟩
 rw [World.cell?_alloc_at _ _ _ _ rfl];simp [hi]
structure OrdI (W:World) (gk gm:Nat) (done:List Word):Prop where
 run:∃ f:Word→Value,W.ownsMap Tryz.prog 9 heldR gm done.length (ordD f (.map []) done)∧∀ row∈ordRows,row.1∈done→OrdAt W gk row.2.1 row.2.2 (f row.1)
theorem OrdI.lt {W:World} {gk gm:Nat} {done:List Word} (h:OrdI W gk gm done):gm<W.heap.size:=by
 obtain ⟨f,h1,_⟩:=h.run;exact h1.lt
theorem OrdI.noCell {W:World} {gk gm:Nat} {done:List Word} (h:OrdI W gk gm done) (i:Nat):W.cell? ⟨gm,i,none⟩=none:=by
 obtain ⟨f,⟨es,clock,hb,_⟩,_⟩:=h.run;simp [World.cell?,hb]
theorem OrdI.keep {l:List Nat} {W W':World} {gk gm:Nat} {done:List Word} (h:OrdI W gk gm done) (hk:Keep l W W') (hm:gm∉l) (hl:∀ x∈l,∀ k:Int,W.cell? ⟨x,0,none⟩≠some (.int .i64 k)):OrdI W' gk gm done:=by
 obtain ⟨f,⟨es,clock,hb,h1⟩,h2⟩:=h.run;exact ⟨f,⟨es,clock,(hk.block gm (Array.getElem?_eq_some_iff.1 hb).1 hm).trans hb,h1⟩,fun row hr hd=>(h2 row hr hd).keep hk hl⟩
theorem OrdI.on {W W':World} {gk gm:Nat} {done:List Word} (h:OrdI W gk gm done) (hb:Below W.heap.size W W'):OrdI W' gk gm done:=h.keep (Keep.of [] hb) (by simp) (by simp)
theorem OrdI.made (W:World) (gk:Nat):OrdI (W.alloc (.map #[] 0)) gk W.heap.size []:=
 ⟨fun _=>.nilFunc,World.ownsMap_made _ _ _ _,fun _ _ h=>by cases h⟩
theorem row_inj:∀ a∈ordRows,∀ b∈ordRows,a.1=b.1→a=b:=by decide
theorem ord_put {W:World} {gk gm:Nat} {done:List Word} (h:OrdI W gk gm done) (row:Word × Nat × List Int) (hr:row∈ordRows) (hn:row.1∉done) (hl:done.length≤100) {v:Value} (hv:OrdAt W gk row.2.1 row.2.2 v) :
 ∃ w',(Instr.mapUpdate 240 (.map (some gm)) (.string (Ev.bs row.1)) v).run Tryz.prog W=.ok () w'∧OrdI w' gk gm (done ++ [row.1])∧Keep [gm] W w':=by
 have hnc:=h.noCell 0;obtain ⟨f,h1,h2⟩:=h.run;obtain ⟨w',hrun,g1,g2⟩:=h1.update (string_keyed Tryz.underlying9) Tryz.underlying240 (by unfold maxLen; omega) (key:=.string (Ev.bs row.1)) (kl:=.string row.1) (val:=v) ((keyOf_string_mk Tryz.underlying9 (by rw [bs_size]; have:=row_len row hr; unfold maxLen; omega)).trans (by simp [Ev.bs])) (rfl:heldR v=some (.held v,[]))
 refine ⟨w',hrun,⟨fun x=>if x=row.1 then v else f x,?_,fun row' hr' hd=>?_⟩,Keep.grown g2⟩
 ·rw [ordD_snoc,ordD_congr (g:=f) done _ (fun c hc=>if_neg (fun e:c=row.1=>hn (by rw [← e]; exact hc))),if_pos rfl,List.length_append]
  exact g1
 ·have hk:=Keep.grown g2
  have hl2:∀ x∈ [gm],∀ k:Int,W.cell? ⟨x,0,none⟩≠some (.int .i64 k):=fun x hx k=>by
   obtain rfl:x=gm:=by simpa using hx
   rw [hnc];simp
  simp only;split
  ·rename_i e
   obtain rfl:=row_inj _ hr' _ hr e;exact hv.keep hk hl2
  ·rename_i e
   exact (h2 row' hr' (by simpa [e] using hd)).keep hk hl2
theorem allOrders_is (w:World) (gk:Nat):Calls Tryz.prog 147 #[.pointer (some ⟨gk,0,none⟩)] w fun e w'=>e=.returned (.map (some w.heap.size))∧OrdI w' gk w.heap.size ordNames∧Below w.heap.size w w':=by
 have hmf:∀ (fn:Fn) (first cap:Array Value) (w:World),(Instr.makeFunc fn first cap).run Tryz.prog w=.ok (.func fn first cap) w:=fun _ _ _ _=>rfl
 have hmm:=@run_makeMap Tryz.prog;have H0:Hid _:=OrdI.made w gk;have HB0:Hid (Below w.heap.size w (w.alloc (.map #[] 0))):=(Below.refl _ _).alloc (Nat.le_refl _) _
 obtain ⟨w1,hr1,h1,hk1⟩:∃ w',(Instr.mapUpdate 240 (.map (some w.heap.size)) (.string ⟨#[110,101,119]⟩) (.agg #[.func (.func 227) #[.pointer (some ⟨gk,0,none⟩)] #[],.slice (some ⟨(w.alloc (.map #[] 0)).heap.size,0,none⟩) 4 4])).run Tryz.prog ((w.alloc (.map #[] 0)).alloc (.cells #[.int .i64 2,.int .i64 2,.int .i64 2,.int .i64 2] 3))=.ok () w'∧OrdI w' gk w.heap.size ([cNew])∧Keep [w.heap.size] ((w.alloc (.map #[] 0)).alloc (.cells #[.int .i64 2,.int .i64 2,.int .i64 2,.int .i64 2] 3)) w':=ord_put (H0.out.on ((Below.refl _ _).alloc (Nat.le_refl _) (.cells #[.int .i64 2,.int .i64 2,.int .i64 2,.int .i64 2] 3))) (cNew,227,[2,2,2,2]) (by decide) (by decide) (by decide) (ordAt_made (w.alloc (.map #[] 0)) gk 227 [2,2,2,2] 3)
 have H1:Hid _:=h1;have HB1:Hid (Below w.heap.size w w1):=(HB0.out.alloc HB0.out.size (.cells #[.int .i64 2,.int .i64 2,.int .i64 2,.int .i64 2] 3)).trans (hk1.below (HB0.out.alloc HB0.out.size (.cells #[.int .i64 2,.int .i64 2,.int .i64 2,.int .i64 2] 3)).size (by simp))
 clear h1 hk1;rw [World.size_alloc] at hr1;obtain ⟨w2,hr2,h2,hk2⟩:∃ w',(Instr.mapUpdate 240 (.map (some w.heap.size)) (.string ⟨#[111,112,101,110]⟩) (.agg #[.func (.func 228) #[.pointer (some ⟨gk,0,none⟩)] #[],.slice none 0 0])).run Tryz.prog w1=.ok () w'∧OrdI w' gk w.heap.size ([cNew,cOpen])∧Keep [w.heap.size] w1 w':=ord_put H1.out (cOpen,228,[]) (by decide) (by decide) (by decide) (ordAt_nil H1.out.lt)
 have H2:Hid _:=h2;have HB2:Hid (Below w.heap.size w w2):=HB1.out.trans (hk2.below HB1.out.size (by simp))
 clear h2 hk2;obtain ⟨w3,hr3,h3,hk3⟩:∃ w',(Instr.mapUpdate 240 (.map (some w.heap.size)) (.string ⟨#[103,114,97,110,116]⟩) (.agg #[.func (.func 229) #[.pointer (some ⟨gk,0,none⟩)] #[],.slice (some ⟨w2.heap.size,0,none⟩) 3 3])).run Tryz.prog (w2.alloc (.cells #[.int .i64 0,.int .i64 0,.int .i64 1] 3))=.ok () w'∧OrdI w' gk w.heap.size ([cNew,cOpen,cGrant])∧Keep [w.heap.size] (w2.alloc (.cells #[.int .i64 0,.int .i64 0,.int .i64 1] 3)) w':=ord_put (H2.out.on ((Below.refl _ _).alloc (Nat.le_refl _) (.cells #[.int .i64 0,.int .i64 0,.int .i64 1] 3))) (cGrant,229,[0,0,1]) (by decide) (by decide) (by decide) (ordAt_made w2 gk 229 [0,0,1] 3)
 have H3:Hid _:=h3;have HB3:Hid (Below w.heap.size w w3):=(HB2.out.alloc HB2.out.size (.cells #[.int .i64 0,.int .i64 0,.int .i64 1] 3)).trans (hk3.below (HB2.out.alloc HB2.out.size (.cells #[.int .i64 0,.int .i64 0,.int .i64 1] 3)).size (by simp))
 clear h3 hk3;obtain ⟨w4,hr4,h4,hk4⟩:∃ w',(Instr.mapUpdate 240 (.map (some w.heap.size)) (.string ⟨#[114,111,116,97,116,101]⟩) (.agg #[.func (.func 230) #[.pointer (some ⟨gk,0,none⟩)] #[],.slice (some ⟨w3.heap.size,0,none⟩) 3 3])).run Tryz.prog (w3.alloc (.cells #[.int .i64 0,.int .i64 1,.int .i64 1] 3))=.ok () w'∧OrdI w' gk w.heap.size ([cNew,cOpen,cGrant,cRotate])∧Keep [w.heap.size] (w3.alloc (.cells #[.int .i64 0,.int .i64 1,.int .i64 1] 3)) w':=ord_put (H3.out.on ((Below.refl _ _).alloc (Nat.le_refl _) (.cells #[.int .i64 0,.int .i64 1,.int .i64 1] 3))) (cRotate,230,[0,1,1]) (by decide) (by decide) (by decide) (ordAt_made w3 gk 230 [0,1,1] 3)
 have H4:Hid _:=h4;have HB4:Hid (Below w.heap.size w w4):=(HB3.out.alloc HB3.out.size (.cells #[.int .i64 0,.int .i64 1,.int .i64 1] 3)).trans (hk4.below (HB3.out.alloc HB3.out.size (.cells #[.int .i64 0,.int .i64 1,.int .i64 1] 3)).size (by simp))
 clear h4 hk4;obtain ⟨w5,hr5,h5,hk5⟩:∃ w',(Instr.mapUpdate 240 (.map (some w.heap.size)) (.string ⟨#[109,105,110,116]⟩) (.agg #[.func (.func 231) #[.pointer (some ⟨gk,0,none⟩)] #[],.slice (some ⟨w4.heap.size,0,none⟩) 1 1])).run Tryz.prog (w4.alloc (.cells #[.int .i64 0] 3))=.ok () w'∧OrdI w' gk w.heap.size ([cNew,cOpen,cGrant,cRotate,cMint])∧Keep [w.heap.size] (w4.alloc (.cells #[.int .i64 0] 3)) w':=ord_put (H4.out.on ((Below.refl _ _).alloc (Nat.le_refl _) (.cells #[.int .i64 0] 3))) (cMint,231,[0]) (by decide) (by decide) (by decide) (ordAt_made w4 gk 231 [0] 3)
 have H5:Hid _:=h5;have HB5:Hid (Below w.heap.size w w5):=(HB4.out.alloc HB4.out.size (.cells #[.int .i64 0] 3)).trans (hk5.below (HB4.out.alloc HB4.out.size (.cells #[.int .i64 0] 3)).size (by simp))
 clear h5 hk5;obtain ⟨w6,hr6,h6,hk6⟩:∃ w',(Instr.mapUpdate 240 (.map (some w.heap.size)) (.string ⟨#[115,104,111,119]⟩) (.agg #[.func (.func 232) #[.pointer (some ⟨gk,0,none⟩)] #[],.slice (some ⟨w5.heap.size,0,none⟩) 1 1])).run Tryz.prog (w5.alloc (.cells #[.int .i64 0] 3))=.ok () w'∧OrdI w' gk w.heap.size ([cNew,cOpen,cGrant,cRotate,cMint,cShow])∧Keep [w.heap.size] (w5.alloc (.cells #[.int .i64 0] 3)) w':=ord_put (H5.out.on ((Below.refl _ _).alloc (Nat.le_refl _) (.cells #[.int .i64 0] 3))) (cShow,232,[0]) (by decide) (by decide) (by decide) (ordAt_made w5 gk 232 [0] 3)
 have H6:Hid _:=h6;have HB6:Hid (Below w.heap.size w w6):=(HB5.out.alloc HB5.out.size (.cells #[.int .i64 0] 3)).trans (hk6.below (HB5.out.alloc HB5.out.size (.cells #[.int .i64 0] 3)).size (by simp))
 clear h6 hk6;obtain ⟨w7,hr7,h7,hk7⟩:∃ w',(Instr.mapUpdate 240 (.map (some w.heap.size)) (.string ⟨#[107,105,108,108]⟩) (.agg #[.func (.func 233) #[.pointer (some ⟨gk,0,none⟩)] #[],.slice (some ⟨w6.heap.size,0,none⟩) 1 1])).run Tryz.prog (w6.alloc (.cells #[.int .i64 2] 3))=.ok () w'∧OrdI w' gk w.heap.size ([cNew,cOpen,cGrant,cRotate,cMint,cShow,cKill])∧Keep [w.heap.size] (w6.alloc (.cells #[.int .i64 2] 3)) w':=ord_put (H6.out.on ((Below.refl _ _).alloc (Nat.le_refl _) (.cells #[.int .i64 2] 3))) (cKill,233,[2]) (by decide) (by decide) (by decide) (ordAt_made w6 gk 233 [2] 3)
 have H7:Hid _:=h7;have HB7:Hid (Below w.heap.size w w7):=(HB6.out.alloc HB6.out.size (.cells #[.int .i64 2] 3)).trans (hk7.below (HB6.out.alloc HB6.out.size (.cells #[.int .i64 2] 3)).size (by simp))
 clear h7 hk7;obtain ⟨w8,hr8,h8,hk8⟩:∃ w',(Instr.mapUpdate 240 (.map (some w.heap.size)) (.string ⟨#[115,97,118,101]⟩) (.agg #[.func (.func 234) #[.pointer (some ⟨gk,0,none⟩)] #[],.slice none 0 0])).run Tryz.prog w7=.ok () w'∧OrdI w' gk w.heap.size ([cNew,cOpen,cGrant,cRotate,cMint,cShow,cKill,cSave])∧Keep [w.heap.size] w7 w':=ord_put H7.out (cSave,234,[]) (by decide) (by decide) (by decide) (ordAt_nil H7.out.lt)
 have H8:Hid _:=h8;have HB8:Hid (Below w.heap.size w w8):=HB7.out.trans (hk8.below HB7.out.size (by simp))
 clear h8 hk8;obtain ⟨w9,hr9,h9,hk9⟩:∃ w',(Instr.mapUpdate 240 (.map (some w.heap.size)) (.string ⟨#[99,117,116]⟩) (.agg #[.func (.func 235) #[.pointer (some ⟨gk,0,none⟩)] #[],.slice (some ⟨w8.heap.size,0,none⟩) 1 1])).run Tryz.prog (w8.alloc (.cells #[.int .i64 2] 3))=.ok () w'∧OrdI w' gk w.heap.size ([cNew,cOpen,cGrant,cRotate,cMint,cShow,cKill,cSave,cCut])∧Keep [w.heap.size] (w8.alloc (.cells #[.int .i64 2] 3)) w':=ord_put (H8.out.on ((Below.refl _ _).alloc (Nat.le_refl _) (.cells #[.int .i64 2] 3))) (cCut,235,[2]) (by decide) (by decide) (by decide) (ordAt_made w8 gk 235 [2] 3)
 have H9:Hid _:=h9;have HB9:Hid (Below w.heap.size w w9):=(HB8.out.alloc HB8.out.size (.cells #[.int .i64 2] 3)).trans (hk9.below (HB8.out.alloc HB8.out.size (.cells #[.int .i64 2] 3)).size (by simp))
 clear h9 hk9;obtain ⟨w10,hr10,h10,hk10⟩:∃ w',(Instr.mapUpdate 240 (.map (some w.heap.size)) (.string ⟨#[116,105,99,107]⟩) (.agg #[.func (.func 236) #[.pointer (some ⟨gk,0,none⟩)] #[],.slice (some ⟨w9.heap.size,0,none⟩) 1 1])).run Tryz.prog (w9.alloc (.cells #[.int .i64 2] 3))=.ok () w'∧OrdI w' gk w.heap.size ([cNew,cOpen,cGrant,cRotate,cMint,cShow,cKill,cSave,cCut,cTick])∧Keep [w.heap.size] (w9.alloc (.cells #[.int .i64 2] 3)) w':=ord_put (H9.out.on ((Below.refl _ _).alloc (Nat.le_refl _) (.cells #[.int .i64 2] 3))) (cTick,236,[2]) (by decide) (by decide) (by decide) (ordAt_made w9 gk 236 [2] 3)
 have H10:Hid _:=h10;have HB10:Hid (Below w.heap.size w w10):=(HB9.out.alloc HB9.out.size (.cells #[.int .i64 2] 3)).trans (hk10.below (HB9.out.alloc HB9.out.size (.cells #[.int .i64 2] 3)).size (by simp))
 clear h10 hk10;obtain ⟨w11,hr11,h11,hk11⟩:∃ w',(Instr.mapUpdate 240 (.map (some w.heap.size)) (.string ⟨#[115,119,101,101,112]⟩) (.agg #[.func (.func 237) #[.pointer (some ⟨gk,0,none⟩)] #[],.slice none 0 0])).run Tryz.prog w10=.ok () w'∧OrdI w' gk w.heap.size ([cNew,cOpen,cGrant,cRotate,cMint,cShow,cKill,cSave,cCut,cTick,cSweep])∧Keep [w.heap.size] w10 w':=ord_put H10.out (cSweep,237,[]) (by decide) (by decide) (by decide) (ordAt_nil H10.out.lt)
 have H11:Hid _:=h11;have HB11:Hid (Below w.heap.size w w11):=HB10.out.trans (hk11.below HB10.out.size (by simp))
 clear h11 hk11;obtain ⟨w12,hr12,h12,hk12⟩:∃ w',(Instr.mapUpdate 240 (.map (some w.heap.size)) (.string ⟨#[119,114,105,116,101,115]⟩) (.agg #[.func (.func 238) #[.pointer (some ⟨gk,0,none⟩)] #[],.slice none 0 0])).run Tryz.prog w11=.ok () w'∧OrdI w' gk w.heap.size ([cNew,cOpen,cGrant,cRotate,cMint,cShow,cKill,cSave,cCut,cTick,cSweep,cWrites])∧Keep [w.heap.size] w11 w':=ord_put H11.out (cWrites,238,[]) (by decide) (by decide) (by decide) (ordAt_nil H11.out.lt)
 have H12:Hid _:=h12;have HB12:Hid (Below w.heap.size w w12):=HB11.out.trans (hk12.below HB11.out.size (by simp))
 clear h12 hk12;obtain ⟨w13,hr13,h13,hk13⟩:∃ w',(Instr.mapUpdate 240 (.map (some w.heap.size)) (.string ⟨#[108,111,103]⟩) (.agg #[.func (.func 239) #[.pointer (some ⟨gk,0,none⟩)] #[],.slice none 0 0])).run Tryz.prog w12=.ok () w'∧OrdI w' gk w.heap.size ([cNew,cOpen,cGrant,cRotate,cMint,cShow,cKill,cSave,cCut,cTick,cSweep,cWrites,cLog])∧Keep [w.heap.size] w12 w':=ord_put H12.out (cLog,239,[]) (by decide) (by decide) (by decide) (ordAt_nil H12.out.lt)
 have H13:Hid _:=h13;have HB13:Hid (Below w.heap.size w w13):=HB12.out.trans (hk13.below HB12.out.size (by simp))
 clear h13 hk13;obtain ⟨w14,hr14,h14,hk14⟩:∃ w',(Instr.mapUpdate 240 (.map (some w.heap.size)) (.string ⟨#[102,97,109,105,108,105,101,115]⟩) (.agg #[.func (.func 240) #[.pointer (some ⟨gk,0,none⟩)] #[],.slice none 0 0])).run Tryz.prog w13=.ok () w'∧OrdI w' gk w.heap.size ([cNew,cOpen,cGrant,cRotate,cMint,cShow,cKill,cSave,cCut,cTick,cSweep,cWrites,cLog,cFams])∧Keep [w.heap.size] w13 w':=ord_put H13.out (cFams,240,[]) (by decide) (by decide) (by decide) (ordAt_nil H13.out.lt)
 have H14:Hid _:=h14;have HB14:Hid (Below w.heap.size w w14):=HB13.out.trans (hk14.below HB13.out.size (by simp))
 clear h14 hk14;obtain ⟨w15,hr15,h15,hk15⟩:∃ w',(Instr.mapUpdate 240 (.map (some w.heap.size)) (.string ⟨#[108,101,97,115,116]⟩) (.agg #[.func (.func 241) #[.pointer (some ⟨gk,0,none⟩)] #[],.slice (some ⟨w14.heap.size,0,none⟩) 1 1])).run Tryz.prog (w14.alloc (.cells #[.int .i64 1] 3))=.ok () w'∧OrdI w' gk w.heap.size ([cNew,cOpen,cGrant,cRotate,cMint,cShow,cKill,cSave,cCut,cTick,cSweep,cWrites,cLog,cFams,cLeast])∧Keep [w.heap.size] (w14.alloc (.cells #[.int .i64 1] 3)) w':=ord_put (H14.out.on ((Below.refl _ _).alloc (Nat.le_refl _) (.cells #[.int .i64 1] 3))) (cLeast,241,[1]) (by decide) (by decide) (by decide) (ordAt_made w14 gk 241 [1] 3)
 have H15:Hid _:=h15;have HB15:Hid (Below w.heap.size w w15):=(HB14.out.alloc HB14.out.size (.cells #[.int .i64 1] 3)).trans (hk15.below (HB14.out.alloc HB14.out.size (.cells #[.int .i64 1] 3)).size (by simp))
 clear h15 hk15;obtain ⟨w16,hr16,h16,hk16⟩:∃ w',(Instr.mapUpdate 240 (.map (some w.heap.size)) (.string ⟨#[116,97,103]⟩) (.agg #[.func (.func 242) #[.pointer (some ⟨gk,0,none⟩)] #[],.slice (some ⟨w15.heap.size,0,none⟩) 2 2])).run Tryz.prog (w15.alloc (.cells #[.int .i64 2,.int .i64 0] 3))=.ok () w'∧OrdI w' gk w.heap.size ([cNew,cOpen,cGrant,cRotate,cMint,cShow,cKill,cSave,cCut,cTick,cSweep,cWrites,cLog,cFams,cLeast,cTag])∧Keep [w.heap.size] (w15.alloc (.cells #[.int .i64 2,.int .i64 0] 3)) w':=ord_put (H15.out.on ((Below.refl _ _).alloc (Nat.le_refl _) (.cells #[.int .i64 2,.int .i64 0] 3))) (cTag,242,[2,0]) (by decide) (by decide) (by decide) (ordAt_made w15 gk 242 [2,0] 3)
 have H16:Hid _:=h16;have HB16:Hid (Below w.heap.size w w16):=(HB15.out.alloc HB15.out.size (.cells #[.int .i64 2,.int .i64 0] 3)).trans (hk16.below (HB15.out.alloc HB15.out.size (.cells #[.int .i64 2,.int .i64 0] 3)).size (by simp))
 clear h16 hk16;obtain ⟨w17,hr17,h17,hk17⟩:∃ w',(Instr.mapUpdate 240 (.map (some w.heap.size)) (.string ⟨#[116,111,107,101,110]⟩) (.agg #[.func (.func 243) #[.pointer (some ⟨gk,0,none⟩)] #[],.slice (some ⟨w16.heap.size,0,none⟩) 4 4])).run Tryz.prog (w16.alloc (.cells #[.int .i64 0,.int .i64 2,.int .i64 2,.int .i64 2] 3))=.ok () w'∧OrdI w' gk w.heap.size ([cNew,cOpen,cGrant,cRotate,cMint,cShow,cKill,cSave,cCut,cTick,cSweep,cWrites,cLog,cFams,cLeast,cTag,cToken])∧Keep [w.heap.size] (w16.alloc (.cells #[.int .i64 0,.int .i64 2,.int .i64 2,.int .i64 2] 3)) w':=ord_put (H16.out.on ((Below.refl _ _).alloc (Nat.le_refl _) (.cells #[.int .i64 0,.int .i64 2,.int .i64 2,.int .i64 2] 3))) (cToken,243,[0,2,2,2]) (by decide) (by decide) (by decide) (ordAt_made w16 gk 243 [0,2,2,2] 3)
 have H17:Hid _:=h17;have HB17:Hid (Below w.heap.size w w17):=(HB16.out.alloc HB16.out.size (.cells #[.int .i64 0,.int .i64 2,.int .i64 2,.int .i64 2] 3)).trans (hk17.below (HB16.out.alloc HB16.out.size (.cells #[.int .i64 0,.int .i64 2,.int .i64 2,.int .i64 2] 3)).size (by simp))
 clear h17 hk17;obtain ⟨w18,hr18,h18,hk18⟩:∃ w',(Instr.mapUpdate 240 (.map (some w.heap.size)) (.string ⟨#[104,101,108,112]⟩) (.agg #[.func (.func 244) #[.pointer (some ⟨gk,0,none⟩)] #[],.slice none 0 0])).run Tryz.prog w17=.ok () w'∧OrdI w' gk w.heap.size ([cNew,cOpen,cGrant,cRotate,cMint,cShow,cKill,cSave,cCut,cTick,cSweep,cWrites,cLog,cFams,cLeast,cTag,cToken,cHelp])∧Keep [w.heap.size] w17 w':=ord_put H17.out (cHelp,244,[]) (by decide) (by decide) (by decide) (ordAt_nil H17.out.lt)
 have H18:Hid _:=h18;have HB18:Hid (Below w.heap.size w w18):=HB17.out.trans (hk18.below HB17.out.size (by simp))
 clear h18 hk18;go_enter Tryz.func147,Tryz.ntmps147
 go_wp2_with fail
 refine bodyPost_ret (v:=.map (some w.heap.size)) ?_ rfl ?_
 ·simp [results,Tryz.results147,go_sem]
 ·exact ⟨rfl,H18.out,HB18.out⟩
end Go.Proofs.YtlailakofhenkabGreatDoor
set_option maxHeartbeats 8000000
namespace Go.Proofs.YtlailakofhenkabGreatDoor
open Go Go.RowKit Tok Sc Ev
def famWs (f:Fam):List ByteArray:= [bs8 (Lib.itoa f.id),f.client,f.subject,dkWordB f.scope,bs8 (Lib.itoa f.gen),bs8 (Lib.itoa f.made),bs8 (Lib.itoa f.used),dkWordB f.request]
theorem dkWordB_L (s:ByteArray):(dkWordB s).data.toList=wordL s.data.toList:=by
 unfold dkWordB wordL;split <;> rfl
def famWa (f:Fam):List ByteArray:=famWs f ++ if f.dead=true then [(⟨#[100,101,97,100]⟩:ByteArray)] else []
theorem famL_is (f:Fam):Lib.join ((famWa f).map (·.data.toList)) [32]=famL f:=by
 unfold famL famWa famWs;rw [List.map_append];congr 2
 ·simp [dkWordB_L,bs8]
 ·split <;> rfl
theorem rowOf (w:World) (xs:List ByteArray) (t:TypeId) (h:xs.length≤5000):RowAt w.heap.size (w.alloc (.cells (xs.map Value.string).toArray t)) w.heap.size xs.length xs.length (xs.map Value.string):=by
 refine ⟨Nat.le_refl _,by simp,by simp,Nat.le_refl _,by unfold maxLen; omega,fun j u hj=>?_,fun j hj=>⟨?_,World.frozen?_alloc_at _ _ _ _ rfl⟩⟩
 ·rw [World.cell?_alloc_at _ _ _ _ rfl]
  simpa using hj
 ·rw [World.cell?_alloc_at _ _ _ _ rfl]
  simp [hj]
theorem dkJoin {B:Nat} {w:World} {v:Value} {xs:List ByteArray} (sep:ByteArray) (h:Words B w v xs) (hn:(Lib.join (xs.map (·.data.toList)) sep.data.toList).length≤1000000) (hx:xs.length≤100000) :
 Calls Tryz.prog 114 #[v,.string sep] w fun e w'=>e=.returned (.string ⟨(Lib.join (xs.map (·.data.toList)) sep.data.toList).toArray⟩)∧Below w.heap.size w w':=by
 rcases h with ⟨rfl,rfl⟩ | ⟨g,c,rfl,hr⟩
 ·refine (Tryz.strings_Join_none none 0 sep w).mono ?_
  rintro e w' ⟨rfl,rfl⟩;exact ⟨rfl,Below.refl _ _⟩
 ·refine Tryz.strings_Join g 0 c xs sep w (fun j x hj=>?_) hr.lt (by omega) hr.le (Nat.le_trans hn (by omega))
  rw [Nat.zero_add];refine hr.holds j _ ?_;rw [List.getElem?_map,hj];rfl
theorem famT_is (f:Fam) (w:World) (hf:mayF f) (hl:(famL f).length≤100000) (hL:LibsR w):Calls Tryz.prog 296 #[famV f] w fun e w'=>e=.returned (.string ⟨(famL f).toArray⟩)∧Below w.heap.size w w':=by
 have HJ:Hid _:=famL_is f;have HL0:Hid ((famL f).length≤100000):=hl;have I1:Hid _:=hf.1;have hb:Below w.heap.size w (w.alloc (.cells #[.int .i64 f.id,.string f.client,.string f.subject,.string f.scope,.int .i64 f.gen,.int .i64 f.made,.int .i64 f.used,.string f.request,.bool f.dead] 40)):=(Below.refl _ _).alloc (Nat.le_refl _) _;have HB:Hid _:=hb;have HF:Hid _:=FB.made w f 40;have HLB:Hid _:=hL.on hb;have HWG:Hid (w.heap.size≤(w.alloc (.cells #[.int .i64 f.id,.string f.client,.string f.subject,.string f.scope,.int .i64 f.gen,.int .i64 f.made,.int .i64 f.used,.string f.request,.bool f.dead] 40)).heap.size):=hb.size;clear hf hl hL hb;unfold famV famCs;go_enter Tryz.func296,Tryz.ntmps296
 go_upto_region 1 with fail
 generalize hW:(w.alloc (.cells #[.int .i64 f.id,.string f.client,.string f.subject,.string f.scope,.int .i64 f.gen,.int .i64 f.made,.int .i64 f.used,.string f.request,.bool f.dead] 40))=W at *;clear hW;generalize hg:w.heap.size=g at *;have HG:Hid (w.heap.size=g):=hg;clear hg;refine RegD.R_ (fun V=>FB V g f∧LibsR V∧Below g W V) 22 (by kernel_rfl) (⟨HF.out.on (Below.refl _ _).drew,HLB.out.on (Below.refl _ _).drew,(Below.refl _ _).drew⟩) (fun hH=>?_)
 refine RegD.T_ 0 (v:=.pointer (some ⟨g,0,none⟩)) rfl (by kernel_rfl) (fun _ _ _ h=>h) (.inl ⟨by rfl,fun W hW=>by go_simp⟩) hH ?_
 simp only [Act.put,pS1,pS2,pS3];refine RegD.T_ 1 (v:=.int .i64 f.id) rfl (by kernel_rfl) (fun _ _ _ h=>h) (.inl ⟨by rfl,fun W hW=>by have a0:=hW.1.c0; go_simp⟩) hH ?_
 simp only [Act.put,pS1,pS2,pS3];refine RegD.T_ 3 (v:=.pointer (some ⟨g,1,none⟩)) rfl (by kernel_rfl) (fun _ _ _ h=>h) (.inl ⟨by rfl,fun W hW=>by go_simp⟩) hH ?_
 simp only [Act.put,pS1,pS2,pS3];refine RegD.T_ 4 (v:=.string f.client) rfl (by kernel_rfl) (fun _ _ _ h=>h) (.inl ⟨by rfl,fun W hW=>by have a0:=hW.1.c1; go_simp⟩) hH ?_
 simp only [Act.put,pS1,pS2,pS3];refine RegD.T_ 5 (v:=.pointer (some ⟨g,2,none⟩)) rfl (by kernel_rfl) (fun _ _ _ h=>h) (.inl ⟨by rfl,fun W hW=>by go_simp⟩) hH ?_
 simp only [Act.put,pS1,pS2,pS3];refine RegD.T_ 6 (v:=.string f.subject) rfl (by kernel_rfl) (fun _ _ _ h=>h) (.inl ⟨by rfl,fun W hW=>by have a0:=hW.1.c2; go_simp⟩) hH ?_
 simp only [Act.put,pS1,pS2,pS3];refine RegD.T_ 7 (v:=.pointer (some ⟨g,3,none⟩)) rfl (by kernel_rfl) (fun _ _ _ h=>h) (.inl ⟨by rfl,fun W hW=>by go_simp⟩) hH ?_
 simp only [Act.put,pS1,pS2,pS3];refine RegD.T_ 8 (v:=.string f.scope) rfl (by kernel_rfl) (fun _ _ _ h=>h) (.inl ⟨by rfl,fun W hW=>by have a0:=hW.1.c3; go_simp⟩) hH ?_
 simp only [Act.put,pS1,pS2,pS3];refine RegD.T_ 10 (v:=.pointer (some ⟨g,4,none⟩)) rfl (by kernel_rfl) (fun _ _ _ h=>h) (.inl ⟨by rfl,fun W hW=>by go_simp⟩) hH ?_
 simp only [Act.put,pS1,pS2,pS3];refine RegD.T_ 11 (v:=.int .i64 f.gen) rfl (by kernel_rfl) (fun _ _ _ h=>h) (.inl ⟨by rfl,fun W hW=>by have a0:=hW.1.c4; go_simp⟩) hH ?_
 simp only [Act.put,pS1,pS2,pS3];refine RegD.T_ 13 (v:=.pointer (some ⟨g,5,none⟩)) rfl (by kernel_rfl) (fun _ _ _ h=>h) (.inl ⟨by rfl,fun W hW=>by go_simp⟩) hH ?_
 simp only [Act.put,pS1,pS2,pS3];refine RegD.T_ 14 (v:=.int .i64 f.made) rfl (by kernel_rfl) (fun _ _ _ h=>h) (.inl ⟨by rfl,fun W hW=>by have a0:=hW.1.c5; go_simp⟩) hH ?_
 simp only [Act.put,pS1,pS2,pS3];refine RegD.T_ 16 (v:=.pointer (some ⟨g,6,none⟩)) rfl (by kernel_rfl) (fun _ _ _ h=>h) (.inl ⟨by rfl,fun W hW=>by go_simp⟩) hH ?_
 simp only [Act.put,pS1,pS2,pS3];refine RegD.T_ 17 (v:=.int .i64 f.used) rfl (by kernel_rfl) (fun _ _ _ h=>h) (.inl ⟨by rfl,fun W hW=>by have a0:=hW.1.c6; go_simp⟩) hH ?_
 simp only [Act.put,pS1,pS2,pS3];refine RegD.T_ 19 (v:=.pointer (some ⟨g,7,none⟩)) rfl (by kernel_rfl) (fun _ _ _ h=>h) (.inl ⟨by rfl,fun W hW=>by go_simp⟩) hH ?_
 simp only [Act.put,pS1,pS2,pS3];refine RegD.T_ 20 (v:=.string f.request) rfl (by kernel_rfl) (fun _ _ _ h=>h) (.inl ⟨by rfl,fun W hW=>by have a0:=hW.1.c7; go_simp⟩) hH ?_
 simp only [Act.put,pS1,pS2,pS3];refine RegD.O_ 2 rfl (by kernel_rfl) ?_; intro K hK; go_simp
 go_at_call 57
 refine (itoaR_is f.id _ (by have:=I1.out; have:=this.1; unfold okN at this; omega) (by have:=I1.out; have:=this.1; unfold okN at this; omega) hH.2.1).mono ?_
 rintro e2 w2 ⟨rfl,hb2⟩;have HB2:Hid _:=hb2;clear hb2;go_wp2_with fail
 refine hK.out _ _ (⟨hH.1.on HB2.out,hH.2.1.on HB2.out,hH.2.2.trans (HB2.out.mono (by have:=HWG.out; have:=hH.2.2.size; omega))⟩) ?_
 clear hK hH;intro hH;clear K;refine RegD.O_ 9 rfl (by kernel_rfl) ?_; intro K hK; go_simp
 go_at_call 301
 refine (dkWordOf_is f.scope _).mono ?_;rintro e9 w9 ⟨rfl,rfl⟩;go_wp2_with fail
 refine hK.out _ _ (hH) ?_;clear hK hH;intro hH;clear K;refine RegD.O_ 12 rfl (by kernel_rfl) ?_; intro K hK; go_simp
 go_at_call 57
 refine (itoaR_is f.gen _ (by have:=I1.out; have:=this.2.1; unfold okN at this; omega) (by have:=I1.out; have:=this.2.1; unfold okN at this; omega) hH.2.1).mono ?_
 rintro e12 w12 ⟨rfl,hb12⟩;have HB12:Hid _:=hb12;clear hb12;go_wp2_with fail
 refine hK.out _ _ (⟨hH.1.on HB12.out,hH.2.1.on HB12.out,hH.2.2.trans (HB12.out.mono (by have:=HWG.out; have:=hH.2.2.size; omega))⟩) ?_
 clear hK hH;intro hH;clear K;refine RegD.O_ 15 rfl (by kernel_rfl) ?_; intro K hK; go_simp
 go_at_call 57
 refine (itoaR_is f.made _ (by have:=I1.out; have:=this.2.2.1; unfold okN at this; omega) (by have:=I1.out; have:=this.2.2.1; unfold okN at this; omega) hH.2.1).mono ?_
 rintro e15 w15 ⟨rfl,hb15⟩;have HB15:Hid _:=hb15;clear hb15;go_wp2_with fail
 refine hK.out _ _ (⟨hH.1.on HB15.out,hH.2.1.on HB15.out,hH.2.2.trans (HB15.out.mono (by have:=HWG.out; have:=hH.2.2.size; omega))⟩) ?_
 clear hK hH;intro hH;clear K;refine RegD.O_ 18 rfl (by kernel_rfl) ?_; intro K hK; go_simp
 go_at_call 57
 refine (itoaR_is f.used _ (by have:=I1.out; have:=this.2.2.2; unfold okN at this; omega) (by have:=I1.out; have:=this.2.2.2; unfold okN at this; omega) hH.2.1).mono ?_
 rintro e18 w18 ⟨rfl,hb18⟩;have HB18:Hid _:=hb18;clear hb18;go_wp2_with fail
 refine hK.out _ _ (⟨hH.1.on HB18.out,hH.2.1.on HB18.out,hH.2.2.trans (HB18.out.mono (by have:=HWG.out; have:=hH.2.2.size; omega))⟩) ?_
 clear hK hH;intro hH;clear K;refine RegD.O_ 21 rfl (by kernel_rfl) ?_; intro K hK; go_simp
 go_at_call 301
 refine (dkWordOf_is f.request _).mono ?_;rintro e21 w21 ⟨rfl,rfl⟩;go_wp2_with fail
 refine hK.out _ _ (hH) ?_;clear hK hH;intro hH;clear K;refine RegD.L_ 22 rfl (by kernel_rfl) (by kernel_rfl) ?_; intro K hK; go_simp
 refine hK.out _ _ ?_;clear hK K;refine RegD.L_ 23 rfl (by kernel_rfl) (by kernel_rfl) ?_; intro K hK; go_simp
 refine hK.out _ _ ?_;clear hK K;refine RegD.D_ (by kernel_rfl) ?_ _
 generalize hW2:w21.alloc _=W2;have HB2:Hid (Below w21.heap.size w21 W2):=hW2 ▸ (Below.refl _ _).alloc (Nat.le_refl _) _;have HR2:Hid (RowAt w21.heap.size W2 w21.heap.size 8 8 ((famWs f).map Value.string)):=hW2 ▸ rowOf w21 (famWs f) 9 (by unfold famWs; simp)
 have HBS:Hid (w21.heap.size≤W2.heap.size):=HB2.out.size;have HF2:Hid (FB W2 g f):=hH.1.on HB2.out;have HBG:Hid (Below g W W2):=hH.2.2.trans (HB2.out.mono (by have:=HWG.out; have:=hH.2.2.size; omega))
 have HG2:Hid (g≤w21.heap.size):=(show g≤w21.heap.size by have:=HWG.out; have:=hH.2.2.size; omega)
 clear hH hW2;generalize w21.heap.size=b at *;have HWD:Hid (Words b W2 (.slice (some ⟨b,0,none⟩) 8 8) (famWs f)):=.inr ⟨b,8,rfl,HR2.out⟩;obtain ⟨i0,hi,hz0,hz1,hz2⟩:=infoT;have a8:=HF2.out.c8;unfold famWa at HJ
 cases hd:f.dead with
 |false=>
  rw [hd] at a8 HJ;simp only [Bool.false_eq_true,if_false,List.append_nil] at HJ;go_wp2_with fail
  go_at_call 114
  refine (dkJoin ⟨#[32]⟩ HWD.out (by rw [HJ.out]; have:=HL0.out; omega) (by unfold famWs; simp)).mono ?_
  rintro e3 w3 ⟨rfl,hb3⟩;rw [HJ.out];have HB3:Hid _:=HBG.out.trans (hb3.mono (by have:=HWG.out; have:=HBG.out.size; omega))
  clear hb3;go_wp2_with fail
  go_ret;have hf:=HB.out.trans HB3.out;rw [← HG.out] at hf;exact ⟨rfl,hf⟩
 |true=>
  rw [hd] at a8 HJ;simp only [if_true] at HJ;generalize Value.slice (some ⟨b,0,none⟩) 8 8=vw at *;have HB4:Hid (Below b W2 (W2.alloc (.cells #[.string ⟨#[100,101,97,100]⟩] 9))):=(Below.refl _ _).alloc HBS.out _;have HW4:Hid (Words b (W2.alloc (.cells #[.string ⟨#[100,101,97,100]⟩] 9)) _ (famWs f)):=HWD.out.below ((Below.refl _ _).alloc (Nat.le_refl _) _) (Nat.le_refl _);have HLX:Hid ((famWs f).length≤1000000):=(by unfold famWs; simp:(famWs f).length≤1000000)
  go_wp2_with (at_builtin; refine wpList_append_words _ rfl _ _ 66 rfl 9 i0 Tryz.underlying66 hi hz0 hz1 hz2 b _ _ rfl HW4.out (Nat.le_trans HBS.out HB4.out.size) ⟨W2.heap.size,0,none⟩ 1 ⟨#[100,101,97,100]⟩ rfl ((World.cell?_alloc_at _ _ _ _ rfl).trans rfl) HLX.out ?_)
  intro v5 w5 hw5 hb5;have HW5:Hid _:=hw5;have HB5:Hid (Below g W w5):=HBG.out.trans ((HB4.out.trans hb5).mono HG2.out);clear hw5 hb5;go_wp2_with fail
  go_at_call 114
  refine (dkJoin ⟨#[32]⟩ HW5.out (by rw [HJ.out]; have:=HL0.out; omega) (by unfold famWs; simp)).mono ?_
  rintro e3 w3 ⟨rfl,hb3⟩;rw [HJ.out];have HB3:Hid _:=HB5.out.trans (hb3.mono (by have:=HWG.out; have:=HB5.out.size; omega))
  clear hb3;go_wp2_with fail
  go_ret;have hf:=HB.out.trans HB3.out;rw [← HG.out] at hf;exact ⟨rfl,hf⟩
end Go.Proofs.YtlailakofhenkabGreatDoor
