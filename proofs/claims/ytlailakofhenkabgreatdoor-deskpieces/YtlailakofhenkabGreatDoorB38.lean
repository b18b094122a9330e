import Derived.Test.YtlailakofhenkabGreatDoorB36
import Derived.Test.YtlailakofhenkabGreatDoorB37
set_option maxRecDepth 100000
set_option maxHeartbeats 8000000
namespace Go.Proofs.YtlailakofhenkabGreatDoor
open Go Go.RowKit Go.Maps Go.WideMaps Tok Sc Ev
abbrev HasOrd (W:World) (gk gm:Nat):Prop:=OrdI W gk gm ordNames
theorem infoO0:(Tryz.prog.info? 253).map (fun i=>i.zero)=some (some (.agg #[.nilFunc,.slice none 0 0])):=by kernel_rfl
theorem zeroO (w:World):(zeroValue 253).run Tryz.prog w=.ok (.agg #[.nilFunc,.slice none 0 0]) w:=by
 have h:=infoO0
 cases hi:Tryz.prog.info? 253 with
 |none=>rw [hi] at h; cases h
 |some i=>
  rw [hi] at h;simp only [Option.map_some,Option.some.injEq] at h;simp [zeroValue,typeInfo,hi,h]
theorem row_of:∀ c∈ordNames,∃ row∈ordRows,row.1=c:=by
 intro c hc;obtain ⟨row,h1,h2⟩:=List.mem_map.1 hc;exact ⟨row,h1,h2⟩
def sortNames:List Word:= [cCut,cFams,cGrant,cHelp,cKill,cLeast,cLog,cMint,cNew,cOpen,cRotate,cSave,cShow,cSweep,cTag,cTick,cToken,cWrites]
theorem ord_keys (f:Word→Value):strKeys (ordD f (.map []) ordNames)=sortNames:=by kernel_rfl
theorem ord_size (f:Word→Value):Maps.size (ordD f (.map []) ordNames)=18:=by kernel_rfl
theorem sort_names {ss:List Word} (h:ss.Perm sortNames):ss.mergeSort (fun x y=>decide (x≤y))=sortNames:=by
 have hp:=(List.mergeSort_perm ss (fun x y=>decide (x≤y))).trans h;have hs:(ss.mergeSort (fun x y=>decide (x≤y))).Pairwise (fun x y=>decide (x≤y)=true):=List.pairwise_mergeSort (fun a b c h1 h2=>by simp only [decide_eq_true_eq] at *; exact List.le_trans h1 h2) (fun a b=>by simpa using List.le_total a b) ss
 refine List.Perm.eq_of_pairwise (le:=fun x y=>decide (x≤y)=true) (fun a b _ _ h1 h2=>by simp only [decide_eq_true_eq] at *; exact List.le_antisymm h1 h2) hs ?_ hp
 decide
theorem dHelp_is (w:World) (gk gm gd gs gv:Nat) (r:Rul) (bt bn:Option Addr) (nt ct nn cn:Nat) (hD:DAt w gk gd gs gv gm r) (hO:HasOrd w gk gm) :
 Calls Tryz.prog 244 #[.pointer (some ⟨gk,0,none⟩),.agg #[.slice bt nt ct,.slice bn nn cn]] w fun e w'=>e=.returned (.string ⟨helpL.toArray⟩)∧Below w.heap.size w w':=by
 have hb:Below w.heap.size w (w.alloc (.cells #[.slice bt nt ct,.slice bn nn cn] 256)):=(Below.refl _ _).alloc (Nat.le_refl _) _;have HB:Hid _:=hb;have a7:=(hD.on hb).c7;obtain ⟨f,hown,-⟩:=(hO.on hb).run;have hk0:=callsIn_wide.1 (Tryz.slices_Sorted_keys_303_304 gm _ _ heldR _ hown (by rw [ord_size]; unfold maxLen; omega) (by rw [ord_size]; omega))
 simp only [World.size_alloc,ord_keys] at hk0;have HK:Hid _:=hk0;clear hD hO hb hown hk0;go_enter Tryz.func244,Tryz.ntmps244
 go_wp2_with fail
 go_at_call 304
 refine (callsIn_wide.1 (Tryz.maps_Keys_304 _ _)).mono ?_;rintro e1 w1 ⟨rfl,rfl⟩;go_wp2_with fail
 go_at_call 303
 refine Calls.mono HK.out ?_;rintro e2 w2 ⟨v,ss,rfl,hp,hrow,hnil,hb2⟩;have hs:=sort_names hp;have hl:ss.length=18:=hp.length_eq
 have hw:Words w.heap.size w2 v (sortNames.map Ev.bs):=by
  rw [hs,hl] at hrow;rcases hrow.2 with ⟨h1,-⟩ | ⟨g,cap,cur,rfl,h2⟩
  ·have:=hnil.1 h1
   rw [this] at hl
   cases hl
  ·have h3:=rowAt_owned (n:=18) hrow
   exact .inr ⟨g,cap,rfl,⟨by have:=h3.new; omega,h3.lt,h3.len,h3.le,h3.max,h3.holds,h3.there⟩⟩
 have HW:Hid _:=hw;have HB2:Hid (Below w.heap.size w w2):=(HB.out.alloc HB.out.size _).trans (hb2.mono (by omega))
 have HJ:Hid (Lib.join ((sortNames.map Ev.bs).map (·.data.toList)) [32]=helpL):=by show _=_; kernel_rfl
 clear hs hl hp hrow hnil hb2 hw HK a7;go_wp2_with fail
 go_at_call 114
 refine (dkJoin ⟨#[32]⟩ HW.out (by rw [show (⟨#[32]⟩:ByteArray).data.toList= [32] from rfl,HJ.out]; decide) (by simp [sortNames])).mono ?_
 rintro e3 w3 ⟨rfl,hb3⟩;rw [show (⟨#[32]⟩:ByteArray).data.toList= [32] from rfl,HJ.out]
 have HB3:Hid _:=HB2.out.trans (hb3.mono HB2.out.size);clear hb3;go_wp2_with fail
 go_ret;exact ⟨rfl,HB3.out⟩
end Go.Proofs.YtlailakofhenkabGreatDoor
namespace Go.Proofs.YtlailakofhenkabGreatDoor
open Go Go.RowKit Tok Sc Ev
theorem DkI.laidM {N:Nat} {w w3 w':World} {gk gd gs gv gm:Nat} {r:Rul} {p:Pub} {v:Value} {c:Nat→Value} (hsv:SvIs N w3 gv gs gd r p v) (hb:Below w.heap.size w w3) (hk:Keep [gk] w3 w') (hgs:w.heap.size≤gs) (hx:Bx w' gk c) (h0:c 0=.pointer (some ⟨gd,0,none⟩)) (h1:c 1=.pointer (some ⟨gs,0,none⟩)) (h2:c 2=.pointer (some ⟨gv,0,none⟩)) (h3:c 3=.int .i64 r.key) (h4:c 4=.int .i64 r.idle) (h5:c 5=.int .i64 r.life) (h6:c 6=.int .i64 r.access) (h7:c 7=.map (some gm)) (ho:OldsR gk) (hkl:gk<w.heap.size) (hml:gm<w'.heap.size) (hm3:w3.heap.size≤gm) (hkd:gk≠gd):DkI N w' gk gd gs gv gm r p v:=by
 have hgv:=hsv.ord;have hs3:=hb.size;have hfam:=hsv.sp.fam;have hlt:=hsv.sp.lt;have hord:=hsv.sp.ord;have n1:NotIn v gk:=NotIn.above hfam (by omega)
 have n2:NotIn v gm:=NotIn.past hfam hm3;refine ⟨hsv.elsewhereB hk (B:=gk) (by omega) ho (fun x hx=>?_),hx.dat h0 h1 h2 h3 h4 h5 h6 h7,⟨hkd,by omega,by omega,by omega⟩,⟨n1,n2⟩,hml⟩
 obtain rfl:x=gk:=by simpa using hx
 exact ⟨Nat.le_refl _,hkd,by omega,by omega,n1⟩
def deskZ:Nat→Value
 |0=>.pointer none
 |1=>.pointer none
 |2=>.pointer none
 |3=>.int .i64 0
 |4=>.int .i64 0
 |5=>.int .i64 0
 |6=>.int .i64 0
 |_=>.map none
theorem bx_zero (w:World) (t:TypeId):Bx (w.alloc (.cells #[.pointer none,.pointer none,.pointer none,.int .i64 0,.int .i64 0,.int .i64 0,.int .i64 0,.map none] t)) w.heap.size deskZ:=by
 refine ⟨fun i hi=>?_,fun i=>World.frozen?_alloc_at _ _ _ _ rfl,by simp⟩
 rw [World.cell?_alloc_at _ _ _ _ rfl];match i,hi with
 |0,_=>rfl
 |1,_=>rfl
 |2,_=>rfl
 |3,_=>rfl
 |4,_=>rfl
 |5,_=>rfl
 |6,_=>rfl
 |7,_=>rfl
theorem newDesk_is (w:World) (hL:LibsR w) (hO:OldsR w.heap.size) :
 Calls Tryz.prog 97 #[] w fun e w'=>∃ gd gs gv gm v,e=.returned (.pointer (some ⟨w.heap.size,0,none⟩))∧DkI 0 w' w.heap.size gd gs gv gm ⟨1,20,100,5⟩ zeroP v∧HasOrd w' w.heap.size gm∧Below w.heap.size w w'∧w.heap.size≤gd:=by
 have hb1:Below w.heap.size w (w.alloc (.cells #[.pointer none,.pointer none,.pointer none,.int .i64 0,.int .i64 0,.int .i64 0,.int .i64 0,.map none] 242)):=(Below.refl _ _).alloc (Nat.le_refl _) _;have hs1:(w.alloc (.cells #[.pointer none,.pointer none,.pointer none,.int .i64 0,.int .i64 0,.int .i64 0,.int .i64 0,.map none] 242)).heap.size=w.heap.size+1:=by simp
 have hb2:Below (w.heap.size+1) (w.alloc (.cells #[.pointer none,.pointer none,.pointer none,.int .i64 0,.int .i64 0,.int .i64 0,.int .i64 0,.map none] 242)) ((w.alloc (.cells #[.pointer none,.pointer none,.pointer none,.int .i64 0,.int .i64 0,.int .i64 0,.int .i64 0,.map none] 242)).alloc (.cells Tryz.zeroCells28 28)):=(Below.refl _ _).alloc (by simp) _
 have hdb:=db_zero (w.alloc (.cells #[.pointer none,.pointer none,.pointer none,.int .i64 0,.int .i64 0,.int .i64 0,.int .i64 0,.map none] 242)) (hL.on hb1).toA (hL.on hb1).base.err (hO.mono hb1.size).toA;rw [hs1] at hdb;have HDB:Hid (DB 0 _ (w.heap.size+1) zeroP):=hdb;have HLB:Hid (LibsR ((w.alloc (.cells #[.pointer none,.pointer none,.pointer none,.int .i64 0,.int .i64 0,.int .i64 0,.int .i64 0,.map none] 242)).alloc (.cells Tryz.zeroCells28 28))):=(hL.on hb1).on (hs1 ▸ hb2);have hbx:=bx_zero w 242;have HBX:Hid (Bx ((w.alloc (.cells #[.pointer none,.pointer none,.pointer none,.int .i64 0,.int .i64 0,.int .i64 0,.int .i64 0,.map none] 242)).alloc (.cells Tryz.zeroCells28 28)) w.heap.size deskZ):=hbx.on (hs1 ▸ hb2)
 have HB:Hid (Below w.heap.size w ((w.alloc (.cells #[.pointer none,.pointer none,.pointer none,.int .i64 0,.int .i64 0,.int .i64 0,.int .i64 0,.map none] 242)).alloc (.cells Tryz.zeroCells28 28))):=hb1.alloc (by simp) _
 have HO:Hid (OldsR w.heap.size):=hO;have HS2:Hid (((w.alloc (.cells #[.pointer none,.pointer none,.pointer none,.int .i64 0,.int .i64 0,.int .i64 0,.int .i64 0,.map none] 242)).alloc (.cells Tryz.zeroCells28 28)).heap.size=w.heap.size+1+1):=by show _=_; simp
 clear hb1 hs1 hb2 hdb hbx hL hO;go_enter Tryz.func97,Tryz.ntmps97
 go_wp2_with fail
 go_at_call 146
 refine (lay_yes 0 _ w.heap.size (w.heap.size+1) 1 20 100 5 deskZ _ HDB.out (by omega) HLB.out (rul_right (by decide)) (HO.out.mono (Nat.le_succ _)) HBX.out (by omega)).mono ?_
 rintro e1 w1 ⟨rfl,gs,gv,v,w3,hsv,hb3,hk3,hgs,hgv,c',hx,q0,q1,q2,q3,q4,q5,q6,q7⟩;have HX1:Hid (Bx w1 w.heap.size c'):=hx;have HQ0:Hid (c' 0=.pointer (some ⟨w.heap.size+1,0,none⟩)):=q0
 have HF:Hid (∀ (W:World) (gm:Nat) (c:Nat→Value),Keep [w.heap.size] w1 W→w1.heap.size≤gm→gm<W.heap.size→Bx W w.heap.size c→(∀ i,i<7→c i=c' i)→c 7=.map (some gm)→DkI 0 W w.heap.size (w.heap.size+1) gs gv gm ⟨1,20,100,5⟩ zeroP v∧Below w.heap.size w W):=fun W gm c hkW hgm1 hgm2 hxW hc hc7=>by
  have h2:=HS2.out;have hk5:Keep [w.heap.size] w3 W:=hk3.trans hkW;refine ⟨DkI.laidM hsv hb3 hk5 hgs hxW ((hc 0 (by omega)).trans q0) ((hc 1 (by omega)).trans q1) ((hc 2 (by omega)).trans q2) ((hc 3 (by omega)).trans q3) ((hc 4 (by omega)).trans q4) ((hc 5 (by omega)).trans q5) ((hc 6 (by omega)).trans q6) hc7 HO.out (by omega) hgm2 (by have:=hk3.size; omega) (by omega),?_⟩
  have h3:Below w.heap.size w w3:=HB.out.trans (hb3.mono (by omega))
  exact h3.trans (hk5.below h3.size (by simp))
 clear hsv hb3 hk3 hgs hgv hx q0 q1 q2 q3 q4 q5 q6 q7 HDB HLB HBX HB HS2;go_wp2_with fail
 go_at_call 147
 refine (allOrders_is w1 w.heap.size).mono ?_;rintro e2 w2 ⟨rfl,hord,hb2⟩;have hx2:=HX1.out.on hb2;have HX2:Hid (Bx w2 w.heap.size c'):=hx2;have HO2:Hid (HasOrd w2 w.heap.size w1.heap.size):=hord;have HB2:Hid (Below w1.heap.size w1 w2):=hb2;have r7:=hx2.at' 7 (by omega)
 have f7:=hx2.fz 7;clear hord hb2 hx2;go_wp2_with fail
 have HE:Hid (∃ gd gs gv gm v,DkI 0 (w2.setCell ⟨w.heap.size,7,none⟩ (.map (some w1.heap.size))) w.heap.size gd gs gv gm ⟨1,20,100,5⟩ zeroP v∧HasOrd (w2.setCell ⟨w.heap.size,7,none⟩ (.map (some w1.heap.size))) w.heap.size gm∧Below w.heap.size w (w2.setCell ⟨w.heap.size,7,none⟩ (.map (some w1.heap.size)))∧w.heap.size≤gd):=by
  have hk:Keep [w.heap.size] w2 (w2.setCell ⟨w.heap.size,7,none⟩ (.map (some w1.heap.size))):=(Keep.refl _ _).setCell (p:=⟨w.heap.size,7,none⟩) (.inl (by simp)) _
  have hlt:=HX1.out.lt;obtain ⟨z1,z2⟩:=HF.out _ w1.heap.size _ ((Keep.of _ HB2.out).trans hk) (Nat.le_refl _) (Nat.lt_of_lt_of_le HO2.out.lt hk.size) (HX2.out.set 7 (.map (some w1.heap.size))) (fun i hi=>if_neg (by omega)) (by simp)
  refine ⟨_,_,_,w1.heap.size,_,z1,HO2.out.keep hk (by simp; omega) (fun x hx k=>?_),z2,Nat.le_succ _⟩
  obtain rfl:x=w.heap.size:=by simpa using hx
  rw [HX2.out.at' 0 (by omega),HQ0.out]
  simp
 obtain ⟨gd2,gs2,gv2,gm2,v2,z1,z2,z3,z4⟩:=HE.out;exact bodyPost_ret (v:=.pointer (some ⟨w.heap.size,0,none⟩)) (by simp [results,Tryz.results97,go_sem]) rfl ⟨gd2,gs2,gv2,gm2,v2,rfl,z1,z2,z3,z4⟩
structure NX (w:World) (g:Nat) (s:St) (v:Value):Prop where
 c0:w.cell? ⟨g,0,none⟩=some (.int .i64 s.clock)
 c1:w.cell? ⟨g,1,none⟩=some (.int .i64 s.next)
 c2:w.cell? ⟨g,2,none⟩=some v
 fam:Fams 0 w v s.fams
 lt:g<w.heap.size
theorem NX.on {w w':World} {g:Nat} {s:St} {v:Value} (h:NX w g s v) (hb:Below w.heap.size w w'):NX w' g s v:=
 ⟨(hb.cell (p:=⟨g,0,none⟩) h.lt).trans h.c0,(hb.cell (p:=⟨g,1,none⟩) h.lt).trans h.c1,(hb.cell (p:=⟨g,2,none⟩) h.lt).trans h.c2,RowsK.below h.fam hb (Nat.le_refl _),Nat.lt_of_lt_of_le h.lt hb.size⟩
theorem NX.belowB {B:Nat} {w w':World} {g:Nat} {s:St} {v:Value} (h:NX w g s v) (hb:Below B w w') (hg:g<B) (hv:∀ k,B≤k→NotIn v k):NX w' g s v:=by
 refine ⟨(hb.cell (p:=⟨g,0,none⟩) hg).trans h.c0,(hb.cell (p:=⟨g,1,none⟩) hg).trans h.c1,(hb.cell (p:=⟨g,2,none⟩) hg).trans h.c2,?_,Nat.lt_of_lt_of_le h.lt hb.size⟩;rcases h.fam with h1 | ⟨q,c,h1,h2⟩
 ·exact .inl h1
 ·refine .inr ⟨q,c,h1,h2.block hb.size (hb.block q ?_)⟩
  rcases Nat.lt_or_ge q B with hq | hq
  ·exact hq
  ·exact absurd rfl (hv q hq q 0 _ c h1)
theorem joinL_len (sep:List UInt8) (m:Nat) (h:sep.length≤m):∀ (xs:List (List UInt8)),(∀ x∈xs,x.length≤m)→(Lib.join xs sep).length≤xs.length*(2*m)
 |[],_=>by simp [Lib.join]
 |[x],hx=>by
  have:=hx x (by simp)
  simp [Lib.join]
  omega
 |x::y::xs,hx=>by
  have h1:=hx x (by simp)
  have h2:=joinL_len sep m h (y::xs) (fun z hz=>hx z (by simp [hz]))
  have e:Lib.join (x::y::xs) sep=x ++ (sep ++ Lib.join (y::xs) sep):=by simp [Lib.join,List.intercalate,List.intersperse]
  rw [e,List.length_append,List.length_append];simp only [List.length_cons] at h2 ⊢;rw [Nat.add_mul];omega
theorem famL_len {f:Fam} (h:mayF f):(famL f).length≤1000:=by
 have d1:=digits13 h.1.1;have d2:=digits13 h.1.2.1;have d3:=digits13 h.1.2.2.1;have d4:=digits13 h.1.2.2.2;have n1:=(nameB_iff.1 h.2.1).2.2;have n2:=(nameB_iff.1 h.2.2.1).2.2
 have n3:(wordL f.request.data.toList).length≤50:=by
  unfold wordL;rcases h.2.2.2.1 with hr | hr
  ·rw [if_pos hr]; simp
  ·have:=(nameB_iff.1 hr).2.2
   split
   ·simp
   ·omega
 have n4:(wordL f.scope.data.toList).length≤50:=by
  unfold wordL
  have:=lst_len h.2.2.2.2;split
  ·simp
  ·omega
 have h8:=joinL_len [32] 50 (by simp) ([Lib.itoa f.id,f.client.data.toList,f.subject.data.toList,wordL f.scope.data.toList,Lib.itoa f.gen,Lib.itoa f.made,Lib.itoa f.used,wordL f.request.data.toList] ++ if f.dead=true then [[100,101,97,100]] else []) (by
  intro x hx;simp only [List.mem_append,List.mem_cons,List.not_mem_nil,or_false] at hx;rcases hx with (rfl | rfl | rfl | rfl | rfl | rfl | rfl | rfl) | hx
  ·omega
  ·omega
  ·omega
  ·omega
  ·omega
  ·omega
  ·omega
  ·omega
  ·split at hx
   ·simp at hx; subst hx; simp
   ·cases hx)
 have h9:([Lib.itoa f.id,f.client.data.toList,f.subject.data.toList,wordL f.scope.data.toList,Lib.itoa f.gen,Lib.itoa f.made,Lib.itoa f.used,wordL f.request.data.toList] ++ if f.dead=true then [[100,101,97,100]] else []).length≤9:=by
  split <;> simp
 have h10:=Nat.mul_le_mul_right (2*50) h9;unfold famL;omega
theorem okN_next {s:St} (h:Ev.Good s):okN s.next∨s.next=1099511627777:=by
 by_cases he:s.next=1099511627777
 ·exact .inr he
 ·refine .inl ?_
  unfold okN
  have:=h.next0
  have:=h.next1;omega
theorem next13 {s:St} (h:Ev.Good s):(Lib.itoa s.next).length≤13:=by
 rcases okN_next h with h1 | h1
 ·exact digits13 h1
 ·rw [h1]
  decide +kernel
def headL (s:St):List UInt8:=Lib.itoa s.clock ++ 32::Lib.itoa s.next
def fmsWs (s:St) (k:Nat):List ByteArray:=bs8 (headL s)::(s.fams.take k).map (fun f=>bs8 (famL f))
theorem fms_all (s:St):Lib.join ((fmsWs s s.fams.length).map (·.data.toList)) [44,32]=stateL s:=by
 unfold fmsWs stateL headL;rw [List.take_length,List.map_cons,List.map_map];congr 2
theorem fms_len {s:St} (h:Ev.Good s):(stateL s).length≤100000:=by
 have d1:=digits13 h.clock;have d2:=next13 h
 have h1:=joinL_len [44,32] 1000 (by simp) ((Lib.itoa s.clock ++ 32::Lib.itoa s.next)::s.fams.map famL) (by
  intro x hx;simp only [List.mem_cons,List.mem_map] at hx;rcases hx with rfl | ⟨f,hf,rfl⟩
  ·simp; omega
  ·exact famL_len (h.may f hf).1)
 have h2:=h.len;have h3:((Lib.itoa s.clock ++ 32::Lib.itoa s.next)::s.fams.map famL).length≤21:=by simp; omega
 have h4:=Nat.mul_le_mul_right (2*1000) h3;unfold stateL;omega
theorem fms_snoc {s:St} {k:Nat} (h:k<s.fams.length):fmsWs s (k+1)=fmsWs s k ++ [bs8 (famL s.fams[k])]:=by
 unfold fmsWs;rw [List.take_add_one,List.getElem?_eq_getElem h,List.map_append];rfl
theorem dFamilies_is (N:Nat) (w:World) (gk gd gs gv gm:Nat) (bt bn:Option Addr) (nt ct nn cn:Nat) (r:Rul) (p:Pub) (v:Value) (h:DkI N w gk gd gs gv gm r p v) :
 Calls Tryz.prog 240 #[.pointer (some ⟨gk,0,none⟩),.agg #[.slice bt nt ct,.slice bn nn cn]] w fun e w'=>e=.returned (.string ⟨(stateL p.st).toArray⟩)∧Below w.heap.size w w':=by
 have hb:Below w.heap.size w (w.alloc (.cells #[.slice bt nt ct,.slice bn nn cn] 256)):=(Below.refl _ _).alloc (Nat.le_refl _) _;have HB:Hid _:=hb;have HD:Hid _:=h.on hb;have a2:=HD.out.box.c2;have HG:Hid (Ev.Good p.st):=h.sv.sp.ok.good;have HSZ:Hid (w.heap.size≤(w.alloc (.cells #[.slice bt nt ct,.slice bn nn cn] 256)).heap.size):=hb.size;have HOD:Hid (OldsR w.heap.size):=h.sv.old.mono (by have:=h.sv.sp.ord; have:=h.sv.sp.lt; omega)
 clear h hb;go_enter Tryz.func240,Tryz.ntmps240
 go_wp2_with fail
 go_at_call 43
 refine (svState_is N _ gv gs gd r p v HD.out.sv).mono ?_;rintro e1 w1 ⟨v1,rfl,hf1,hb1⟩;obtain ⟨b1,c1,rfl⟩:=RowsK.slice hf1;have hb2:Below w1.heap.size w1 (w1.alloc (.cells #[.int .i64 p.st.clock,.int .i64 p.st.next,.slice b1 p.st.fams.length c1] 36)):=(Below.refl _ _).alloc (Nat.le_refl _) _;have HN1:Hid (NX (w1.alloc (.cells #[.int .i64 p.st.clock,.int .i64 p.st.next,.slice b1 p.st.fams.length c1] 36)) w1.heap.size p.st (.slice b1 p.st.fams.length c1)):=⟨(World.cell?_alloc_at _ _ _ _ rfl).trans rfl,(World.cell?_alloc_at _ _ _ _ rfl).trans rfl,(World.cell?_alloc_at _ _ _ _ rfl).trans rfl,(RowsK.below hf1 hb2 (Nat.le_refl _)).mono (Nat.zero_le _),by simp⟩
 have HL1:Hid (LibsR (w1.alloc (.cells #[.int .i64 p.st.clock,.int .i64 p.st.next,.slice b1 p.st.fams.length c1] 36))):=(HD.out.sv.libs.on hb1).on hb2;have HB1:Hid (Below w.heap.size w (w1.alloc (.cells #[.int .i64 p.st.clock,.int .i64 p.st.next,.slice b1 p.st.fams.length c1] 36))):=HB.out.trans ((hb1.trans (hb2.mono hb1.size)).mono HSZ.out);have HNI:Hid (∀ k,w1.heap.size≤k→NotIn (.slice b1 p.st.fams.length c1) k):=fun k hk=>NotIn.past hf1 hk;unfold stV;clear hf1 hb1 hb2 a2 HB HD HSZ;go_upto_region 2 with fail
 generalize (w1.alloc (.cells #[.int .i64 p.st.clock,.int .i64 p.st.next,.slice b1 p.st.fams.length c1] 36))=W1 at *;have HGQ:Hid (w1.heap.size<W1.heap.size):=HN1.out.lt;generalize w1.heap.size=gq at *;have HC0:Hid (okN p.st.clock):=HG.out.clock;have HC1:Hid (-9223372036854775808≤p.st.next∧p.st.next≤9223372036854775807):=by have:=HG.out.next0; have:=HG.out.next1; exact ⟨by omega,by omega⟩
 have hl0:=digits13 HG.out.clock;have hl1:=next13 HG.out;have hni:¬ (9223372036854775807<(Lib.itoa p.st.clock).length+1+(Lib.itoa p.st.next).length):=by omega
 have hnj:(Lib.itoa p.st.clock).length≤9223372036854775806:=by omega
 clear hl0 hl1
 have HXX:Hid ((⟨(Lib.itoa p.st.clock).toArray⟩:ByteArray) ++ (⟨#[32]⟩:ByteArray) ++ (⟨(Lib.itoa p.st.next).toArray⟩:ByteArray)=bs8 (headL p.st)):=by
  show _=_
  exact bytes_eq (by simp [headL])
 refine RegD.R_ (fun V=>NX V gq p.st (.slice b1 p.st.fams.length c1)∧LibsR V∧Below w.heap.size w V) 8 (by kernel_rfl) (⟨HN1.out.on (Below.refl _ _).drew,HL1.out.on (Below.refl _ _).drew,HB1.out.drew⟩) (fun hH=>?_)
 refine RegD.T_ 0 (v:=.pointer (some ⟨gq,0,none⟩)) rfl (by kernel_rfl) (fun _ _ _ h=>h) (.inl ⟨by rfl,fun W hW=>by go_simp⟩) hH ?_
 simp only [Act.put,pS1,pS2,pS3];refine RegD.T_ 1 (v:=.int .i64 p.st.clock) rfl (by kernel_rfl) (fun _ _ _ h=>h) (.inl ⟨by rfl,fun W hW=>by have a0:=hW.1.c0; go_simp⟩) hH ?_
 simp only [Act.put,pS1,pS2,pS3];refine RegD.T_ 4 (v:=.pointer (some ⟨gq,1,none⟩)) rfl (by kernel_rfl) (fun _ _ _ h=>h) (.inl ⟨by rfl,fun W hW=>by go_simp⟩) hH ?_
 simp only [Act.put,pS1,pS2,pS3];refine RegD.T_ 5 (v:=.int .i64 p.st.next) rfl (by kernel_rfl) (fun _ _ _ h=>h) (.inl ⟨by rfl,fun W hW=>by have a0:=hW.1.c1; go_simp⟩) hH ?_
 simp only [Act.put,pS1,pS2,pS3];refine RegD.O_ 2 rfl (by kernel_rfl) ?_; intro K hK; go_simp
 go_at_call 57
 refine (itoaR_is p.st.clock _ (by have:=HC0.out; unfold okN at this; omega) (by have:=HC0.out; unfold okN at this; omega) hH.2.1).mono ?_
 rintro e2 w2 ⟨rfl,hb2⟩;have HB2:Hid _:=hb2;clear hb2;go_wp2_with fail
 refine hK.out _ _ (⟨hH.1.on HB2.out,hH.2.1.on HB2.out,hH.2.2.trans (HB2.out.mono hH.2.2.size)⟩) ?_;clear hK hH;intro hH;clear K;refine RegD.T_ 3 (v:=.string (⟨(Lib.itoa p.st.clock).toArray⟩ ++ ⟨#[32]⟩)) rfl (by kernel_rfl) (fun _ _ _ h=>h) (.inl ⟨by rfl,fun W hW=>by go_simp⟩) hH ?_
 simp only [Act.put,pS1,pS2,pS3];refine RegD.O_ 6 rfl (by kernel_rfl) ?_; intro K hK; go_simp
 go_at_call 57
 refine (itoaR_is p.st.next _ HC1.out.1 HC1.out.2 hH.2.1).mono ?_;rintro e3 w3 ⟨rfl,hb3⟩;have HB3:Hid _:=hb3;clear hb3;go_wp2_with fail
 refine hK.out _ _ (⟨hH.1.on HB3.out,hH.2.1.on HB3.out,hH.2.2.trans (HB3.out.mono hH.2.2.size)⟩) ?_;clear hK hH;intro hH;clear K;refine RegD.T_ 7 (v:=.string (⟨(Lib.itoa p.st.clock).toArray⟩ ++ ⟨#[32]⟩ ++ ⟨(Lib.itoa p.st.next).toArray⟩)) rfl (by kernel_rfl) (fun _ _ _ h=>h) (.inl ⟨by rfl,fun W hW=>by go_simp⟩) hH ?_
 simp only [Act.put,pS1,pS2,pS3];refine RegD.L_ 8 rfl (by kernel_rfl) (by kernel_rfl) ?_; intro K hK; go_simp
 refine hK.out _ _ ?_;clear hK K;refine RegD.L_ 9 rfl (by kernel_rfl) (by kernel_rfl) ?_; intro K hK; go_simp
 refine hK.out _ _ ?_;clear hK K;refine RegD.D_ (by kernel_rfl) ?_ _
 rw [HXX.out];generalize hW4:w3.alloc (.cells #[.string (bs8 (headL p.st))] 9)=W4;have hb4:Below w3.heap.size w3 W4:=hW4 ▸ (Below.refl _ _).alloc (Nat.le_refl _) _;have hr4:RowAt w3.heap.size W4 w3.heap.size 1 1 ([bs8 (headL p.st)].map Value.string):=hW4 ▸ rowOf w3 [bs8 (headL p.st)] 9 (by simp)
 have hw4:Words w3.heap.size W4 (.slice (some ⟨w3.heap.size,0,none⟩) 1 1) (fmsWs p.st 0):=.inr ⟨w3.heap.size,1,rfl,hr4⟩;have HWD:Hid (Words w3.heap.size W4 (.slice (some ⟨w3.heap.size,0,none⟩) 1 1) (fmsWs p.st 0)):=hw4;have HBQ:Hid (w.heap.size≤w3.heap.size∧gq<w3.heap.size∧OldsR w3.heap.size∧∀ k,w3.heap.size≤k→NotIn (.slice b1 p.st.fams.length c1) k):=⟨hH.2.2.size,hH.1.lt,HOD.out.mono hH.2.2.size,fun k hk=>HNI.out k (by have:=hH.1.lt; omega)⟩
 have HBS:Hid (w3.heap.size≤W4.heap.size):=hb4.size;have HN4:Hid (NX W4 gq p.st (.slice b1 p.st.fams.length c1)):=hH.1.on hb4;have HL4:Hid (LibsR W4):=hH.2.1.on hb4;have HB4:Hid (Below w.heap.size w W4):=hH.2.2.trans (hb4.mono hH.2.2.size);clear hH hW4 hb4 hr4 hw4 HXX hni hnj HN1 HL1 HB1 HB2 HB3 HC0 HC1;generalize Value.slice (some ⟨w3.heap.size,0,none⟩) 1 1=vw at *;generalize w3.heap.size=B at *;have n2:=HN4.out.c2;go_wp2_with fail
 obtain ⟨i0,hi,hz0,hz1,hz2⟩:=infoT;go_loopg [6,26] p.st.fams.length (fun gk pv iv wr=>∃ k:Nat,k+gk=p.st.fams.length∧iv=.int .i64 k∧Hid (Words B wr pv (fmsWs p.st k))∧Hid (NX wr gq p.st (.slice b1 p.st.fams.length c1))∧Hid (LibsR wr)∧Hid (Below w.heap.size w wr)∧Hid (B≤wr.heap.size))
 case atStart=>exact ⟨0,by omega,rfl,HWD,HN4,HL4,HB4,HBS⟩
 case round=>
  obtain ⟨k,hk,rfl,HWK,HNK,HLK,HBK,HSK⟩:=hrel;have HK:Hid (k+gk=p.st.fams.length):=hk;clear hk HWD HN4 HL4 HB4 n2 HBS;by_cases hlt:k<p.st.fams.length
  ·have hltI:(k:Int)<(p.st.fams.length:Int):=by omega
   obtain ⟨gr,rfl,hgr,hfa⟩:=HNK.out.fam.fam k hlt;have HMK:Hid (mayF p.st.fams[k]):=(HG.out.may _ (List.getElem_mem hlt)).1;have HSN:Hid (fmsWs p.st (k+1)=fmsWs p.st k ++ [bs8 (famL p.st.fams[k])]):=fms_snoc hlt;have HXL:Hid ((fmsWs p.st k).length≤1000000):=(show _≤_ by have:=HG.out.len; unfold fmsWs; simp; omega)
   generalize p.st.fams[k]=y at hfa HMK HSN;obtain ⟨y1,y2,y3,y4,y5,y6,y7,y8,y9⟩:=y;have c0:=hfa.c0; have c1':=hfa.c1; have c2:=hfa.c2; have c3:=hfa.c3; have c4:=hfa.c4; have c5:=hfa.c5; have c6:=hfa.c6; have c7:=hfa.c7; have c8:=hfa.c8;simp only at c0 c1' c2 c3 c4 c5 c6 c7 c8;have hb5:Below wr.heap.size wr (wr.alloc (.cells #[.int .i64 y1,.string y2,.string y3,.string y4,.int .i64 y5,.int .i64 y6,.int .i64 y7,.string y8,.bool y9] 40)):=(Below.refl _ _).alloc (Nat.le_refl _) _;have HF5:Hid (FB (wr.alloc (.cells #[.int .i64 y1,.string y2,.string y3,.string y4,.int .i64 y5,.int .i64 y6,.int .i64 y7,.string y8,.bool y9] 40)) wr.heap.size ⟨y1,y2,y3,y4,y5,y6,y7,y8,y9⟩):=FB.made wr ⟨y1,y2,y3,y4,y5,y6,y7,y8,y9⟩ _
   have HW5:Hid (Words B (wr.alloc (.cells #[.int .i64 y1,.string y2,.string y3,.string y4,.int .i64 y5,.int .i64 y6,.int .i64 y7,.string y8,.bool y9] 40)) u6 (fmsWs p.st k)):=HWK.out.below hb5 (Nat.le_refl _);have HN5:Hid (NX (wr.alloc (.cells #[.int .i64 y1,.string y2,.string y3,.string y4,.int .i64 y5,.int .i64 y6,.int .i64 y7,.string y8,.bool y9] 40)) gq p.st (.slice (some ⟨gr,0,none⟩) p.st.fams.length c1)):=HNK.out.on hb5;have HL5:Hid (LibsR (wr.alloc (.cells #[.int .i64 y1,.string y2,.string y3,.string y4,.int .i64 y5,.int .i64 y6,.int .i64 y7,.string y8,.bool y9] 40))):=HLK.out.on hb5;have HB5:Hid (Below w.heap.size w (wr.alloc (.cells #[.int .i64 y1,.string y2,.string y3,.string y4,.int .i64 y5,.int .i64 y6,.int .i64 y7,.string y8,.bool y9] 40))):=HBK.out.trans (hb5.mono HBK.out.size)
   have HS5:Hid (B≤((wr.alloc (.cells #[.int .i64 y1,.string y2,.string y3,.string y4,.int .i64 y5,.int .i64 y6,.int .i64 y7,.string y8,.bool y9] 40))).heap.size):=Nat.le_trans HSK.out hb5.size;clear hfa hb5 HWK HNK HLK HBK HSK;go_upto_region 6 with fail
   generalize (wr.alloc (.cells #[.int .i64 y1,.string y2,.string y3,.string y4,.int .i64 y5,.int .i64 y6,.int .i64 y7,.string y8,.bool y9] 40))=W5 at *;generalize wr.heap.size=g5 at *;clear c0 c1' c2 c3 c4 c5 c6 c7 c8;have c0:=HF5.out.c0; have c1':=HF5.out.c1; have c2:=HF5.out.c2; have c3:=HF5.out.c3; have c4:=HF5.out.c4; have c5:=HF5.out.c5; have c6:=HF5.out.c6; have c7:=HF5.out.c7; have c8:=HF5.out.c8;simp only at c0 c1' c2 c3 c4 c5 c6 c7 c8;go_wp2_with fail
   go_at_call 296
   refine (famT_is ⟨y1,y2,y3,y4,y5,y6,y7,y8,y9⟩ _ HMK.out (Nat.le_trans (famL_len HMK.out) (by omega)) HL5.out).mono ?_
   rintro e6 w6 ⟨rfl,hb6⟩;have hb7:Below w6.heap.size w6 (w6.alloc (.cells #[.string ⟨(famL ⟨y1,y2,y3,y4,y5,y6,y7,y8,y9⟩).toArray⟩] 9)):=(Below.refl _ _).alloc (Nat.le_refl _) _;have HW7:Hid (Words B (w6.alloc (.cells #[.string ⟨(famL ⟨y1,y2,y3,y4,y5,y6,y7,y8,y9⟩).toArray⟩] 9)) u6 (fmsWs p.st k)):=(HW5.out.below hb6 (Nat.le_refl _)).below hb7 (Nat.le_refl _);have HN7:Hid (NX (w6.alloc (.cells #[.string ⟨(famL ⟨y1,y2,y3,y4,y5,y6,y7,y8,y9⟩).toArray⟩] 9)) gq p.st (.slice (some ⟨gr,0,none⟩) p.st.fams.length c1)):=(HN5.out.on hb6).on hb7;have HL7:Hid (LibsR (w6.alloc (.cells #[.string ⟨(famL ⟨y1,y2,y3,y4,y5,y6,y7,y8,y9⟩).toArray⟩] 9))):=(HL5.out.on hb6).on hb7
   have HB7:Hid (Below w.heap.size w (w6.alloc (.cells #[.string ⟨(famL ⟨y1,y2,y3,y4,y5,y6,y7,y8,y9⟩).toArray⟩] 9))):=(HB5.out.trans (hb6.mono HB5.out.size)).trans (hb7.mono (Nat.le_trans HB5.out.size hb6.size));have HS7:Hid (B≤(w6.alloc (.cells #[.string ⟨(famL ⟨y1,y2,y3,y4,y5,y6,y7,y8,y9⟩).toArray⟩] 9)).heap.size):=Nat.le_trans HS5.out (Nat.le_trans hb6.size hb7.size);clear hb6 hb7 c0 c1' c2 c3 c4 c5 c6 c7 c8 HW5 HN5 HL5 HB5 HF5 HMK;go_wp2_with (at_builtin; refine wpList_append_words _ rfl _ _ 66 rfl 9 i0 Tryz.underlying66 hi hz0 hz1 hz2 B _ _ rfl HW7.out HS7.out ⟨w6.heap.size,0,none⟩ 1 _ rfl ((World.cell?_alloc_at _ _ _ _ rfl).trans rfl) HXL.out ?_)
   intro v8 w8 hw8 hb8;have HW8:Hid (Words B w8 v8 (fmsWs p.st (k+1))):=(show Words _ _ _ _ by rw [HSN.out]; exact hw8)
   have HN8:Hid (NX w8 gq p.st (.slice (some ⟨gr,0,none⟩) p.st.fams.length c1)):=HN7.out.belowB hb8 HBQ.out.2.1 HBQ.out.2.2.2;have HL8:Hid (LibsR w8):=HL7.out.belowO hb8 HBQ.out.2.2.1;have HB8:Hid (Below w.heap.size w w8):=HB7.out.trans (hb8.mono HBQ.out.1);have HS8:Hid (B≤w8.heap.size):=Nat.le_trans HS7.out hb8.size;clear hw8 hb8 HW7 HN7 HL7 HB7 HSN HXL HS7 HS5;go_wp2_with fail
   go_roundg (p.st.fams.length - (k+1))
   case measure=>have:=HK.out; omega
   case rel=>
    have hl20:=HG.out.len;exact ⟨k+1,by have:=HK.out; omega,congrArg (Value.int .i64) (by unfold wrap64; omega),HW8,HN8,HL8,HB8,HS8⟩
  ·obtain rfl:k=p.st.fams.length:=by have:=HK.out; omega
   have HXL:Hid ((fmsWs p.st p.st.fams.length).length≤100000):=(show _≤_ by have:=HG.out.len; unfold fmsWs; simp; omega)
   have HJL:Hid ((Lib.join ((fmsWs p.st p.st.fams.length).map (·.data.toList)) [44,32]).length≤1000000):=(show _≤_ by rw [fms_all]; have:=fms_len HG.out; omega)
   go_wp2_with fail
   go_at_call 114
   refine (dkJoin ⟨#[44,32]⟩ HWK.out HJL.out HXL.out).mono ?_;rintro e8 w8 ⟨rfl,hb8⟩;have HB8:Hid (Below w.heap.size w w8):=HBK.out.trans (hb8.mono HBK.out.size);have HFA:Hid (Lib.join ((fmsWs p.st p.st.fams.length).map (·.data.toList)) [44,32]=stateL p.st):=fms_all p.st;rw [show (⟨#[44,32]⟩:ByteArray).data.toList= [44,32] from rfl,HFA.out]
   clear hb8;go_wp2_with fail
   go_ret;exact ⟨rfl,HB8.out⟩
end Go.Proofs.YtlailakofhenkabGreatDoor
