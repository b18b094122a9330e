import Derived.Test.YtlailakofhenkabGreatDoorB14
import Derived.Test.YtlailakofhenkabGreatDoorB6
set_option maxRecDepth 100000
set_option maxHeartbeats 8000000
namespace Go.Proofs.YtlailakofhenkabGreatDoor
open Go Go.RowKit Ev
theorem zeroFT (w:World):(zeroValue 40).run Tryz.prog w=.ok (famV zeroF) w:=by
 obtain ⟨i0,hi,hz0,_⟩:=info_fam;simp [zeroValue,typeInfo,hi,hz0]
theorem run_clear_z (w:World) (ty:TypeId) (z:Value) (us:List Value) (hz:∀ w,(zeroValue 40).run Tryz.prog w=.ok z w) (hu:(Builtin.zeroCells z.cells 1).toList=us) (hul:us.length=9) (h1:∀ u∈us,u.oneCell'=true) (b o c:Nat) (hc:∀ j,j<9→(w.cell? ⟨b,o+j,none⟩).isSome=true) (hf:∀ j,j<9→w.frozen? ⟨b,o+j,none⟩=false) :
 (Builtin.clear_ #[34] ty #[.slice (some ⟨b,o,none⟩) 1 c]).run Tryz.prog w=.ok (.tuple #[]) (w.setCells b o us):=by
 have hst:=run_storeCells_cells (P:=Tryz.prog) b o us 0 w (by simpa [hul] using hc) (by simpa [hul] using hf) h1
 simp only [Nat.add_zero] at hst;simp [Builtin.clear_,run_underlying Tryz.underlying34,hz,hu,hst]
theorem zeroCs:(Builtin.zeroCells (famV zeroF).cells 1).toList=famCs zeroF:=by
 unfold Builtin.zeroCells famV famCs;simp [Value.cells]
 rfl
theorem run_clear_one (w:World) (ty:TypeId) (b o c:Nat) (hc:∀ j,j<9→(w.cell? ⟨b,o+j,none⟩).isSome=true) (hf:∀ j,j<9→w.frozen? ⟨b,o+j,none⟩=false) :
 (Builtin.clear_ #[34] ty #[.slice (some ⟨b,o,none⟩) 1 c]).run Tryz.prog w=.ok (.tuple #[]) (w.setCells b o (famCs zeroF)):=
 run_clear_z w ty (famV zeroF) (famCs zeroF) zeroFT zeroCs rfl (famCs_one zeroF) b o c hc hf
theorem delete_run {B:Nat} {w:World} {g c i r:Nat} {cs:List Value} (hr:RowK 9 B w g c (i+1+r) cs) (hn:i+1+r≤5000) :
 Calls Tryz.prog 127 #[.slice (some ⟨g,0,none⟩) (i+1+r) c,.int .i64 (i:Nat),.int .i64 ((i:Int)+1)] w fun e w'=>
  e=.returned (.slice (some ⟨g,0,none⟩) (i+r) c)∧w'=(w.drew.setCells g (i*9) (cs.drop ((i+1)*9))).setCells g ((i+r)*9) (famCs zeroF):=by
 have mixed:=mixedF;obtain ⟨i0,hi0,hz0,hz1,hz2⟩:=info_fam;have hlen:=hr.len;have hle:=hr.le;have hmax:c≤9223372036854775807:=hr.max;have hk:(i+1+r)*9≤c*9:=Nat.mul_le_mul_right 9 hle;have hdl:(cs.drop ((i+1)*9)).length=r*9:=by rw [List.length_drop,hlen]; omega
 obtain ⟨A,hA,hsrc⟩:∃ A:Addr,(if c=i+1 then (some ⟨g,0,none⟩:Option Addr) else some ⟨g,(i+1)*9,none⟩)=some A∧Hid (∀ t u,(cs.drop ((i+1)*9))[t]?=some u→w.drew.cell? (A.add t)=some u):=by
  by_cases h:c=i+1
  ·refine ⟨⟨g,0,none⟩,by simp [h],fun t u hu=>?_⟩
   have hr0:r=0:=by omega
   have h0:(cs.drop ((i+1)*9)).length=0:=by rw [hdl,hr0]
   rw [List.length_eq_zero_iff.1 h0] at hu;simp at hu
  ·refine ⟨⟨g,(i+1)*9,none⟩,by simp [h],fun t u hu=>?_⟩
   rw [Addr.add_lit];exact hr.holds _ u (by rwa [List.getElem?_drop] at hu)
 have s1:Hid ((cs.drop ((i+1)*9)).length=r*9):=hdl;have s2:Hid (∀ u∈cs.drop ((i+1)*9),u.oneCell'=true):=fun u hu=>hr.one u (List.mem_of_mem_drop hu)
 have s3:Hid (∀ t,t<(cs.drop ((i+1)*9)).length→(w.drew.cell? ⟨g,0+i*9+t,none⟩).isSome=true∧w.drew.frozen? ⟨g,0+i*9+t,none⟩=false):=by
  intro t ht;rw [hdl] at ht;rw [Nat.zero_add];exact hr.there _ (by omega)
 obtain ⟨W1,hW1⟩:∃ W1,W1=w.drew.setCells g (0+i*9) (cs.drop ((i+1)*9)):=⟨_,rfl⟩
 have hcl:∀ ty cc,(Builtin.clear_ #[34] ty #[.slice (some ⟨g,(i+r)*9,none⟩) 1 cc]).run Tryz.prog W1=.ok (.tuple #[]) (W1.setCells g ((i+r)*9) (famCs zeroF)):=fun ty cc=>
  run_clear_one W1 ty g ((i+r)*9) cc (fun t ht=>by
   rw [hW1];exact isSome_setCells g (cs.drop ((i+1)*9)) (0+i*9) w.drew (fun j hj=>by rw [Nat.zero_add]; exact (hr.there _ (by rw [hdl] at hj; omega)).1) _ (hr.there _ (by omega)).1)
   (fun t ht=>by rw [hW1,World.frozen?_setCells]; exact (hr.there _ (by omega)).2)
 have hW:Hid (W1=w.drew.setCells g (0+i*9) (cs.drop ((i+1)*9))):=hW1;have hic:i≤c:=by omega
 have hjc:i+1≤c:=by omega
 have hx:i+1+r - (i+r)=1:=by omega
 have hx2:i+1+r - (i+1)=r:=by omega
 have hcn:¬ c=i+r:=by omega
 have hcn2:¬ c=i:=by omega
 have hI1:(i:Int)+1≤(i:Int)+1+(r:Int):=by omega
 have hI0:(0:Int)≤(i:Int)+1:=by omega
 have hIw:IntKind.i64.wrap ((i:Int)+1)=(i:Int)+1:=by rw [IntKind.wrap_i64]; omega
 clear hW1 hr hlen hdl;go_enter Tryz.func127,Tryz.ntmps127
 go_wp2_with fail
 go_region_law_o (refine step_append_room rfl (.tmp 22) (.tmp 25) 34 rfl 40 i0 9 Tryz.underlying34 hi0 hz1 g 0 i c (by simp [Act.eval,Act.put]) A r (c - (i+1)) (cs.drop ((i+1)*9)) (by simp [Act.eval,Act.put]) s1.out hsrc.out s2.out (by omega) s3.out ?_; rw [← hW.out])
 go_wp2_with fail
 go_ret;exact ⟨rfl,by rw [hW.out,Nat.zero_add]⟩
theorem delete_is {B:Nat} {w:World} {v:Value} {l:List Fam} (h:Fams B w v l) (hn:l.length≤5000) (i:Nat) (hi:i<l.length) :
 Calls Tryz.prog 127 #[v,.int .i64 (i:Nat),.int .i64 ((i:Int)+1)] w fun e w'=>∃ v',e=.returned v'∧Fams B w' v' (l.take i ++ l.drop (i+1))∧Below B w w':=by
 obtain ⟨r,hr'⟩:∃ r,l.length=i+1+r:=⟨l.length - (i+1),by omega⟩
 have hlen:(l.take i ++ l.drop (i+1)).length=i+r:=by rw [List.length_append,List.length_take,List.length_drop]; omega
 have hcs:famsCs (l.take i ++ l.drop (i+1))=(famsCs l).take (i*9) ++ (famsCs l).drop ((i+1)*9):=by
  rw [famsCs_app,famsCs_take l i (by omega),famsCs_drop l (i+1) (by omega)]
 rcases h with ⟨rfl,h0,_⟩ | ⟨g,c,rfl,hr⟩
 ·omega
 ·rw [hr'] at hr ⊢
  refine (delete_run hr (by omega)).mono ?_
  rintro e w' ⟨rfl,rfl⟩;have hrD:RowK 9 B w.drew g c (i+1+r) (famsCs l):=hr.block (Nat.le_refl _) rfl;have hcut:=hrD.cut i (by omega) (famCs zeroF) rfl
  rw [show i+1+r - 1=i+r by omega] at hcut
  refine ⟨_,rfl,.inr ⟨g,c,by rw [hlen],?_⟩,(((Below.refl B w).drew).trans (below_setCellsW hr.new _ _ _)).trans (below_setCellsW hr.new _ _ _)⟩
  rw [hlen,hcs];exact hcut
set_option maxHeartbeats 4000000
theorem famsCs_set (l:List Fam) (i:Nat) (hi:i<l.length) (f:Fam):famsCs (l.set i f)=(famsCs l).take (i*9) ++ famCs f ++ (famsCs l).drop ((i+1)*9):=by
 rw [List.set_eq_take_append_cons_drop,if_pos hi,famsCs_app,famsCs_cons,famsCs_take l i (by omega),famsCs_drop l (i+1) (by omega),List.append_assoc]
theorem put_is {B:Nat} {w:World} {v:Value} {l:List Fam} (h:Fams B w v l) (hr:Rising l) (hn:l.length≤5000) (hB:B≤w.heap.size) (f:Fam) :
 Calls Tryz.prog 62 #[v,famV f] w fun e w'=>∃ v',e=.returned v'∧Fams B w' v' (putP l f)∧Below B w w':=by
 have hbx:Below w.heap.size w (w.alloc (.cells #[.int .i64 f.id,.string f.client,.string f.subject,.string f.scope,.int .i64 f.gen,.int .i64 f.made,.int .i64 f.used,.string f.request,.bool f.dead] 40)):=(Below.refl _ _).alloc (Nat.le_refl _) _;have hfa:=famAt_made w f 40 w.heap.size rfl;have hpl:=place_is (h.below hbx (Nat.le_refl _)) hr hn f.id;have HF:Hid (Fams B w v l):=h;have HBX:Hid _:=hbx;have hlt0:w.heap.size<(w.alloc (.cells #[.int .i64 f.id,.string f.client,.string f.subject,.string f.scope,.int .i64 f.gen,.int .i64 f.made,.int .i64 f.used,.string f.request,.bool f.dead] 40)).heap.size:=by simp
 obtain ⟨base,c,rfl⟩:=h.slice;clear h hbx;have hset:=famsCs_set l (rank l f.id);have hrl:=rank_le l f.id;have hpt:=@put_there l f hr;have hpn:=fun (hx:∀ x∈l,x.id≠f.id)=>@put_new l f hr hx;have hnone:thereB l f.id=false→∀ x∈l,x.id≠f.id:=fun hx=>rank_none hr (there_no hx);have HP:Hid (putP l f=putP l f):=rfl;generalize hR:rank l f.id=R at *
 cases htb:thereB l f.id with
 |true=>
  obtain ⟨hq,hid⟩:=there_yes htb;rw [htb] at hpl
  have HPT:Hid (l.set R f=putP l f):=by
   subst hR;exact hpt hq hid
  have hqR:R<l.length:=by rw [← hR]; exact hq
  have HSET:Hid (famsCs (l.set R f)=(famsCs l).take (R*9) ++ famCs f ++ (famsCs l).drop ((R+1)*9)):=hset hqR f;clear htb hpt hpn hnone hset hid hq;obtain ⟨f1,f2,f3,f4,f5,f6,f7,f8,f9⟩:=f;unfold famV famCs at *;simp only at *;go_enter Tryz.func62,Tryz.ntmps62
  go_wp2_with fail
  refine hpl.mono ?_;rintro e w1 ⟨rfl,hb1⟩;have hfa1:=hfa.on hb1 hlt0;have HB1:Hid (Below w.heap.size w w1):=HBX.out.trans (hb1.mono HBX.out.size);have HF1:Hid (Fams B w1 (.slice base l.length c) l):=HF.out.below HB1.out (Nat.le_refl _);have hqI:(R:Int)<(l.length:Int):=by omega
  rcases HF1.out with ⟨_,h0,_⟩ | ⟨g,c',he,hrow⟩
  ·omega
  ·injection he with he _ hcc
   subst he; subst hcc;have hle:(R+1)*9≤c*9:=Nat.mul_le_mul_right 9 (by have:=hrow.le; omega)
   have hz:∀ k,k<9→∃ u,w1.cell? ⟨g,R*9+k,none⟩=some u:=fun k hk=>Option.isSome_iff_exists.1 (hrow.there (R*9+k) (by omega)).1
   have hfz:∀ k,k<9→w1.frozen? ⟨g,R*9+k,none⟩=false:=fun k hk=>(hrow.there (R*9+k) (by omega)).2
   obtain ⟨u0,z0⟩:=hz 0 (by omega)
   obtain ⟨u1,z1⟩:=hz 1 (by omega)
   obtain ⟨u2,z2⟩:=hz 2 (by omega)
   obtain ⟨u3,z3⟩:=hz 3 (by omega)
   obtain ⟨u4,z4⟩:=hz 4 (by omega)
   obtain ⟨u5,z5⟩:=hz 5 (by omega)
   obtain ⟨u6,z6⟩:=hz 6 (by omega)
   obtain ⟨u7,z7⟩:=hz 7 (by omega)
   obtain ⟨u8,z8⟩:=hz 8 (by omega)
   have y0:=hfz 0 (by omega)
   have y1:=hfz 1 (by omega)
   have y2:=hfz 2 (by omega)
   have y3:=hfz 3 (by omega)
   have y4:=hfz 4 (by omega)
   have y5:=hfz 5 (by omega)
   have y6:=hfz 6 (by omega)
   have y7:=hfz 7 (by omega)
   have y8:=hfz 8 (by omega)
   rw [Nat.add_zero] at z0 y0;have p0:=hfa1.c0; have p1:=hfa1.c1; have p2:=hfa1.c2; have p3:=hfa1.c3; have p4:=hfa1.c4; have p5:=hfa1.c5; have p6:=hfa1.c6; have p7:=hfa1.c7; have p8:=hfa1.c8;simp only [Nat.zero_add] at p0 p1 p2 p3 p4 p5 p6 p7 p8;have HNEW:Hid (RowK 9 B (w1.setCells g (R*9) [.int .i64 f1,.string f2,.string f3,.string f4,.int .i64 f5,.int .i64 f6,.int .i64 f7,.string f8,.bool f9]) g c l.length ((famsCs l).take (R*9) ++ [.int .i64 f1,.string f2,.string f3,.string f4,.int .i64 f5,.int .i64 f6,.int .i64 f7,.string f8,.bool f9] ++ (famsCs l).drop ((R+1)*9))):=hrow.set R hqR _ rfl (famCs_one ⟨f1,f2,f3,f4,f5,f6,f7,f8,f9⟩)
   have HBN:Hid (Below B w (w1.setCells g (R*9) [.int .i64 f1,.string f2,.string f3,.string f4,.int .i64 f5,.int .i64 f6,.int .i64 f7,.string f8,.bool f9])):=(HB1.out.mono hB).trans (below_setCellsW hrow.new _ _ _);clear hz hfz hrow hb1 hfa hfa1 hpl;go_wp2_with fail
   go_ret;refine ⟨_,rfl,?_,HBN.out⟩;rw [← HPT.out];refine .inr ⟨g,c,by rw [List.length_set]; rfl,?_⟩
   rw [List.length_set,HSET.out];exact HNEW.out
 |false=>
  have hno:=hnone htb;rw [htb] at hpl;have HPN:Hid (l.take R ++ f::l.drop R=putP l f):=hpn hno;clear htb hpt hpn hnone hset hno hr;have HIN:=fun (W:World) (hf:Fams B W (.slice base l.length c) l) (hBW:B≤W.heap.size)=>insert_is' hf hn hBW R hrl f 40;obtain ⟨f1,f2,f3,f4,f5,f6,f7,f8,f9⟩:=f;unfold famV famCs at *;simp only at *;go_enter Tryz.func62,Tryz.ntmps62
  go_wp2_with fail
  refine hpl.mono ?_;rintro e w1 ⟨rfl,hb1⟩;have hfa1:=hfa.on hb1 hlt0;have HB1:Hid (Below w.heap.size w w1):=HBX.out.trans (hb1.mono HBX.out.size);have HF1:Hid (Fams B w1 (.slice base l.length c) l):=HF.out.below HB1.out (Nat.le_refl _);have p0:=hfa1.c0; have p1:=hfa1.c1; have p2:=hfa1.c2; have p3:=hfa1.c3; have p4:=hfa1.c4; have p5:=hfa1.c5; have p6:=hfa1.c6; have p7:=hfa1.c7; have p8:=hfa1.c8;simp only [Nat.zero_add] at p0 p1 p2 p3 p4 p5 p6 p7 p8;clear hb1 hfa hfa1 hpl;go_wp2_with fail
  refine (HIN _ HF1.out (Nat.le_trans hB HB1.out.size)).mono ?_;rintro e w2 ⟨v',rfl,hf2,hb2⟩;have HF2:Hid (Fams B w2 v' (putP l ⟨f1,f2,f3,f4,f5,f6,f7,f8,f9⟩)):=by rw [← HPN.out]; exact hf2
  have HB2:Hid (Below B w w2):=(HB1.out.mono hB).trans hb2;clear hf2 hb2 p0 p1 p2 p3 p4 p5 p6 p7 p8;go_wp2_with fail
  go_ret;exact ⟨v',rfl,HF2.out,HB2.out⟩
theorem drop_is {B:Nat} {w:World} {v:Value} {l:List Fam} (h:Fams B w v l) (hr:Rising l) (hn:l.length≤5000) (hB:B≤w.heap.size) (n:Int) :
 Calls Tryz.prog 63 #[v,.int .i64 n] w fun e w'=>∃ v',e=.returned v'∧Fams B w' v' (dropP l n)∧Below B w w':=by
 have hpl:=place_is h hr hn n;have HF:Hid (Fams B w v l):=h;obtain ⟨base,c,rfl⟩:=h.slice;clear h
 cases htb:thereB l n with
 |true=>
  obtain ⟨hq,hid⟩:=there_yes htb;have HD:Hid (l.take (rank l n) ++ l.drop (rank l n+1)=dropP l n):=drop_there hr hq hid;rw [htb] at hpl;have HDE:=fun (W:World) (hf:Fams B W (.slice base l.length c) l)=>delete_is hf hn (rank l n) hq;clear htb hid;generalize rank l n=R at *;go_enter Tryz.func63,Tryz.ntmps63
  go_wp2_with fail
  refine hpl.mono ?_;rintro e w1 ⟨rfl,hb1⟩;have HB1:Hid (Below w.heap.size w w1):=hb1;have HF1:Hid (Fams B w1 (.slice base l.length c) l):=HF.out.below HB1.out (Nat.le_refl _);clear hb1 hpl;go_wp2_with fail
  refine (HDE _ HF1.out).mono ?_;rintro e w2 ⟨v',rfl,hf2,hb2⟩;have HF2:Hid (Fams B w2 v' (dropP l n)):=by rw [← HD.out]; exact hf2
  have HB2:Hid (Below B w w2):=(HB1.out.mono hB).trans hb2;clear hf2 hb2;go_wp2_with fail
  go_ret;exact ⟨v',rfl,HF2.out,HB2.out⟩
 |false=>
  have HD:Hid (l=dropP l n):=drop_none (rank_none hr (there_no htb));rw [htb] at hpl;clear htb;generalize rank l n=R at *;go_enter Tryz.func63,Tryz.ntmps63
  go_wp2_with fail
  refine hpl.mono ?_;rintro e w1 ⟨rfl,hb1⟩;have HB1:Hid (Below w.heap.size w w1):=hb1;have HF1:Hid (Fams B w1 (.slice base l.length c) l):=HF.out.below HB1.out (Nat.le_refl _);clear hb1 hpl;go_wp2_with fail
  go_ret;refine ⟨_,rfl,?_,HB1.out.mono hB⟩;rw [← HD.out];exact HF1.out
def stV (c n:Int) (v:Value):Value:=.agg #[.int .i64 c,.int .i64 n,v]
structure AB (B b:Nat) (c n:Int) (v:Value) (e:E) (w:World):Prop where
 lt:b+2<B
 size:B≤w.heap.size
 s0:w.cell? ⟨b,0,none⟩=some (.int .i64 c)
 s1:w.cell? ⟨b,1,none⟩=some (.int .i64 n)
 s2:w.cell? ⟨b,2,none⟩=some v
 ev:EvAt w (b+1) e
 r0:w.cell? ⟨b+2,0,none⟩=some (.int .i64 0)
 r1:w.cell? ⟨b+2,1,none⟩=some (.int .i64 0)
 r2:w.cell? ⟨b+2,2,none⟩=some (.slice none 0 0)
 fs:∀ i,w.frozen? ⟨b,i,none⟩=false
 fr:∀ i,w.frozen? ⟨b+2,i,none⟩=false
theorem EvAt.onB {B:Nat} {w w':World} {g:Nat} {e:E} (h:EvAt w g e) (hb:Below B w w') (hg:g<B):EvAt w' g e:=
 ⟨Nat.lt_of_lt_of_le h.lt hb.size,(hb.cell (p:=⟨g,0,none⟩) hg).trans h.c0,h.fam.on hb hg,(hb.cell (p:=⟨g,10,none⟩) hg).trans h.c10,(hb.cell (p:=⟨g,11,none⟩) hg).trans h.c11⟩
theorem FamAt.other {w:World} {g o:Nat} {f:Fam} (h:FamAt w g o f) {a:Addr} (ha:a.block≠g) (u:Value):FamAt (w.setCell a u) g o f:=
 famAt_of (fun i x hx=>(World.cell?_setCell_other _ _ _ _ (by intro e; exact ha (congrArg Addr.block e))).trans (h.all i x hx))
theorem EvAt.other {w:World} {g:Nat} {e:E} (h:EvAt w g e) {a:Addr} (ha:a.block≠g) (u:Value):EvAt (w.setCell a u) g e:=by
 have ho:∀ j,(w.setCell a u).cell? ⟨g,j,none⟩=w.cell? ⟨g,j,none⟩:=fun j=>World.cell?_setCell_other _ _ _ _ (by intro e; exact ha (congrArg Addr.block e))
 exact ⟨by simpa using h.lt,(ho 0).trans h.c0,h.fam.other ha u,(ho 10).trans h.c10,(ho 11).trans h.c11⟩
theorem AB.on {B b:Nat} {c n:Int} {v:Value} {e:E} {w w':World} (h:AB B b c n v e w) (hb:Below B w w'):AB B b c n v e w':=by
 have hl:=h.lt;have hc:∀ g j,g<B→w'.cell? ⟨g,j,none⟩=w.cell? ⟨g,j,none⟩:=fun g j hg=>hb.cell (p:=⟨g,j,none⟩) hg;have hf:∀ g j,g<B→w'.frozen? ⟨g,j,none⟩=w.frozen? ⟨g,j,none⟩:=fun g j hg=>hb.frozen (p:=⟨g,j,none⟩) hg
 exact ⟨hl,Nat.le_trans h.size hb.size,(hc _ _ (by omega)).trans h.s0,(hc _ _ (by omega)).trans h.s1,(hc _ _ (by omega)).trans h.s2,h.ev.onB hb (by omega),(hc _ _ (by omega)).trans h.r0,(hc _ _ (by omega)).trans h.r1,(hc _ _ (by omega)).trans h.r2,
  fun i=>(hf _ _ (by omega)).trans (h.fs i),fun i=>(hf _ _ (by omega)).trans (h.fr i)⟩
theorem AB.set2 {B b:Nat} {c n:Int} {v:Value} {e:E} {w:World} (h:AB B b c n v e w) (u:Value):AB B b c n u e (w.setCell ⟨b,2,none⟩ u):=by
 have ho:∀ g j,(g≠b∨j≠2)→(w.setCell ⟨b,2,none⟩ u).cell? ⟨g,j,none⟩=w.cell? ⟨g,j,none⟩:=fun g j hg=>World.cell?_setCell_other _ _ _ _ (by intro e; injection e with e1 e2; rcases hg with hg | hg <;> omega)
 exact ⟨h.lt,by simpa using h.size,(ho _ _ (by omega)).trans h.s0,(ho _ _ (by omega)).trans h.s1,World.cell?_setCell_same _ _ _ h.s2,h.ev.other (by show b≠b+1; omega) u,(ho _ _ (by omega)).trans h.r0,(ho _ _ (by omega)).trans h.r1,(ho _ _ (by omega)).trans h.r2,
  fun i=>by rw [World.frozen?_setCell]; exact h.fs i,fun i=>by rw [World.frozen?_setCell]; exact h.fr i⟩
theorem RowsK.other {k B:Nat} {w:World} {v:Value} {n:Nat} {cs:List Value} (h:RowsK k B w v n cs) {a:Addr} (ha:a.block<B) (u:Value):RowsK k B (w.setCell a u) v n cs:=by
 rcases h with h | ⟨g,c,rfl,hr⟩
 ·exact .inl h
 ·exact .inr ⟨g,c,rfl,hr.block (by simp [World.setCell]) (Below.heap_setCell _ _ _ _ (by have:=hr.new; omega))⟩
theorem three_set {W:World} {g:Nat} {a b c x0 x1 x2:Value} (h0:W.cell? ⟨g,0,none⟩=some x0) (h1:W.cell? ⟨g,1,none⟩=some x1) (h2:W.cell? ⟨g,2,none⟩=some x2) :
 (((W.setCell ⟨g,0,none⟩ a).setCell ⟨g,1,none⟩ b).setCell ⟨g,2,none⟩ c).cell? ⟨g,0,none⟩=some a∧(((W.setCell ⟨g,0,none⟩ a).setCell ⟨g,1,none⟩ b).setCell ⟨g,2,none⟩ c).cell? ⟨g,1,none⟩=some b∧(((W.setCell ⟨g,0,none⟩ a).setCell ⟨g,1,none⟩ b).setCell ⟨g,2,none⟩ c).cell? ⟨g,2,none⟩=some c:=by
 have ho:∀ (V:World) (i j:Nat) (u:Value),i≠j→(V.setCell ⟨g,i,none⟩ u).cell? ⟨g,j,none⟩=V.cell? ⟨g,j,none⟩:=fun V i j u hij=>World.cell?_setCell_other _ _ _ _ (by intro e; injection e with _ e _; exact hij e)
 refine ⟨?_,?_,?_⟩
 ·rw [ho _ _ _ _ (by omega),ho _ _ _ _ (by omega)]
  exact World.cell?_setCell_same _ _ _ h0
 ·rw [ho _ _ _ _ (by omega)]
  exact World.cell?_setCell_same _ _ _ ((ho _ _ _ _ (by omega)).trans h1)
 ·exact World.cell?_setCell_same _ _ _ ((ho _ _ _ _ (by omega)).trans ((ho _ _ _ _ (by omega)).trans h2))
theorem set_other {W:World} {g b i j:Nat} {u x:Value} (h:W.cell? ⟨g,j,none⟩=some x) (hg:b≠g):(W.setCell ⟨b,i,none⟩ u).cell? ⟨g,j,none⟩=some x:=
 (World.cell?_setCell_other _ _ _ _ (by intro e; injection e with e _ _; exact hg e)).trans h
theorem ab_made (w:World) (c n:Int) (v:Value) (e:E):AB (w.heap.size+3) w.heap.size c n v e (((w.alloc (.cells #[.int .i64 c,.int .i64 n,v] 36)).alloc (.cells #[.int .i64 e.kind,.int .i64 e.fam.id,.string e.fam.client,.string e.fam.subject,.string e.fam.scope,.int .i64 e.fam.gen,.int .i64 e.fam.made,.int .i64 e.fam.used,.string e.fam.request,.bool e.fam.dead,.int .i64 e.id,.int .i64 e.time] 42)).alloc (.cells #[.int .i64 0,.int .i64 0,.slice none 0 0] 36)):=by
 refine ⟨by omega,by simp,?_,?_,?_,?_,?_,?_,?_,fun i=>?_,fun i=>World.frozen?_alloc_at _ _ _ _ (by simp)⟩
 ·exact Lib.cell?_alloc_some _ (Lib.cell?_alloc_some _ ((World.cell?_alloc_at _ _ _ _ rfl).trans rfl))
 ·exact Lib.cell?_alloc_some _ (Lib.cell?_alloc_some _ ((World.cell?_alloc_at _ _ _ _ rfl).trans rfl))
 ·exact Lib.cell?_alloc_some _ (Lib.cell?_alloc_some _ ((World.cell?_alloc_at _ _ _ _ rfl).trans rfl))
 ·exact (evAt_made _ e 42 _ (by simp)).on ((Below.refl _ _).alloc (Nat.le_refl _) _)
 ·exact (World.cell?_alloc_at _ _ _ _ (by simp)).trans rfl
 ·exact (World.cell?_alloc_at _ _ _ _ (by simp)).trans rfl
 ·exact (World.cell?_alloc_at _ _ _ _ (by simp)).trans rfl
 ·have h1:∀ (W:World) (o:Obj) (g:Nat),g<W.heap.size→(W.alloc o).frozen? ⟨g,i,none⟩=W.frozen? ⟨g,i,none⟩:=fun W o g hg=>((Below.refl W.heap.size W).alloc (Nat.le_refl _) o).frozen (p:=⟨g,i,none⟩) hg
  rw [h1 _ _ _ (by simp; omega),h1 _ _ _ (by simp)]
  exact World.frozen?_alloc_at _ _ _ _ rfl
theorem apply_1 {B:Nat} {w:World} {v:Value} {l:List Fam} (c n:Int) (f:Fam) (h:Fams B w v l) (hr:Rising l) (hn:l.length≤5000) (hf:0≤f.id∧f.id≤1099511627776) :
 Calls Tryz.prog 19 #[stV c n v,evV ⟨1,f,0,0⟩] w fun r w'=>∃ v',r=.returned (stV c (if n≤f.id then f.id+1 else n) v')∧Fams w.heap.size w' v' (putP l f)∧Below w.heap.size w w':=by
 have hab:=ab_made w c n v ⟨1,f,0,0⟩;have hcl:=fun (W:World) (hf:Fams B W v l)=>clone_fams hf hn;have hpu:=fun (W:World) (v2:Value) (hf:Fams (w.heap.size+3) W v2 l) (hB:w.heap.size+3≤W.heap.size)=>put_is hf hr hn hB f;have HF:Hid (Fams B w v l):=h;clear h hr
 have HB0:Hid (Below w.heap.size w (((w.alloc (.cells #[.int .i64 c,.int .i64 n,v] 36)).alloc (.cells #[.int .i64 1,.int .i64 f.id,.string f.client,.string f.subject,.string f.scope,.int .i64 f.gen,.int .i64 f.made,.int .i64 f.used,.string f.request,.bool f.dead,.int .i64 0,.int .i64 0] 42)).alloc (.cells #[.int .i64 0,.int .i64 0,.slice none 0 0] 36))):=by
  show Below _ _ _
  repeat (first | exact Below.refl _ _ | refine Below.alloc ?_ (by simp; try omega) _)
 have hsz:(((w.alloc (.cells #[.int .i64 c,.int .i64 n,v] 36)).alloc (.cells #[.int .i64 1,.int .i64 f.id,.string f.client,.string f.subject,.string f.scope,.int .i64 f.gen,.int .i64 f.made,.int .i64 f.used,.string f.request,.bool f.dead,.int .i64 0,.int .i64 0] 42)).alloc (.cells #[.int .i64 0,.int .i64 0,.slice none 0 0] 36)).heap.size=w.heap.size+3:=by simp
 obtain ⟨f1,f2,f3,f4,f5,f6,f7,f8,f9⟩:=f;unfold evV evCs stV;unfold famV famCs at hpu;simp only at *;obtain ⟨hf0,hf1⟩:=hf;go_enter Tryz.func19,Tryz.ntmps19
 go_wp2_with fail
 refine (hcl _ (HF.out.below HB0.out (Nat.le_refl _))).mono ?_;rintro e1 w1 ⟨v1,rfl,hv1,hb1⟩;obtain ⟨base1,cap1,rfl⟩:=hv1.slice;have hab1:=hab.on (hsz ▸ hb1);have HFV:Hid (Fams (w.heap.size+3) w1 (.slice base1 l.length cap1) l):=hsz ▸ hv1;have HB1:Hid (Below w.heap.size w w1):=HB0.out.trans (hb1.mono HB0.out.size);clear hv1 hb1 hab hsz;generalize hb:w.heap.size=b at *;have HWB:Hid (w.heap.size=b):=hb;clear hb;have HAB2:Hid _:=hab1.set2 (.slice base1 l.length cap1);have HFV2:Hid (Fams (b+3) (w1.setCell ⟨b,2,none⟩ (.slice base1 l.length cap1)) (.slice base1 l.length cap1) l):=HFV.out.other (a:=⟨b,2,none⟩) (by show b<b+3; omega) _
 have HB2:Hid (Below b w (w1.setCell ⟨b,2,none⟩ (.slice base1 l.length cap1))):=HB1.out.setCell (p:=⟨b,2,none⟩) (Nat.le_refl _) _;have q2:=hab1.s2;have qf:=hab1.fs 2;have k0:=HAB2.out.ev.c0; have k1:=HAB2.out.ev.fam.c0; have k2:=HAB2.out.ev.fam.c1; have k3:=HAB2.out.ev.fam.c2; have k4:=HAB2.out.ev.fam.c3; have k5:=HAB2.out.ev.fam.c4; have k6:=HAB2.out.ev.fam.c5; have k7:=HAB2.out.ev.fam.c6; have k8:=HAB2.out.ev.fam.c7; have k9:=HAB2.out.ev.fam.c8;have k10:=HAB2.out.s2;simp only at k0 k1 k2 k3 k4 k5 k6 k7 k8 k9 k10;clear hab1;go_wp2_with fail
 refine (hpu _ _ HFV2.out (by simp; have:=HAB2.out.size; simpa using this)).mono ?_
 rintro e3 w3 ⟨v3,rfl,hv3,hb3⟩;obtain ⟨base3,cap3,rfl⟩:=hv3.slice;have hab3:=HAB2.out.on hb3;generalize hpp:putP l ⟨f1,f2,f3,f4,f5,f6,f7,f8,f9⟩=L at *;have HF3:Hid (Fams (b+3) w3 (.slice base3 L.length cap3) L):=hv3;have HB3:Hid (Below b w w3):=HB2.out.trans (hb3.mono (by omega))
 clear hv3 hb3 k0 k1 k2 k3 k4 k5 k6 k7 k8 k9 k10 q2 qf hpu hcl;have s0:=hab3.s0;have s1:=hab3.s1;have s2:=hab3.s2;have k1:=hab3.ev.fam.c0;have fz:=hab3.fs;have fr:∀ i,w3.frozen? ⟨b+1+1,i,none⟩=false:=hab3.fr;have r0:w3.cell? ⟨b+1+1,0,none⟩=_:=hab3.r0;have r1:w3.cell? ⟨b+1+1,1,none⟩=_:=hab3.r1;have r2:w3.cell? ⟨b+1+1,2,none⟩=_:=hab3.r2;simp only at k1;clear hab3;have HSET:Hid (∀ (W:World) (i:Nat) (u:Value),Fams (b+3) W (.slice base3 L.length cap3) L→Fams (b+3) (W.setCell ⟨b,i,none⟩ u) (.slice base3 L.length cap3) L):=fun W i u hw=>hw.other (a:=⟨b,i,none⟩) (by show b<b+3; omega) u
 have HSET2:Hid (∀ (W:World) (i:Nat) (u:Value),Fams (b+3) W (.slice base3 L.length cap3) L→Fams (b+3) (W.setCell ⟨b+1+1,i,none⟩ u) (.slice base3 L.length cap3) L):=fun W i u hw=>hw.other (a:=⟨b+1+1,i,none⟩) (by show b+1+1<b+3; omega) u
 by_cases hnx:n≤f1
 ·have HX:Hid ((if n≤f1 then f1+1 else n)=f1+1):=if_pos hnx
  have hnx2:n≤f1+1:=by omega
  have hnx3:¬ f1+1<n:=by omega
  have hm:max n (f1+1)=f1+1:=Int.max_eq_right hnx2;have HFN:Hid (Fams b (((((w3.setCell ⟨b,2,none⟩ (.slice base3 L.length cap3)).setCell ⟨b,1,none⟩ (.int .i64 (f1+1))).setCell ⟨b+1+1,0,none⟩ (.int .i64 c)).setCell ⟨b+1+1,1,none⟩ (.int .i64 (f1+1))).setCell ⟨b+1+1,2,none⟩ (.slice base3 L.length cap3)) (.slice base3 L.length cap3) L):=RowsK.mono (HSET2.out _ _ _ (HSET2.out _ _ _ (HSET2.out _ _ _ (HSET.out _ _ _ (HSET.out _ _ _ HF3.out))))) (by omega)
  have HBN:Hid (Below b w (((((w3.setCell ⟨b,2,none⟩ (.slice base3 L.length cap3)).setCell ⟨b,1,none⟩ (.int .i64 (f1+1))).setCell ⟨b+1+1,0,none⟩ (.int .i64 c)).setCell ⟨b+1+1,1,none⟩ (.int .i64 (f1+1))).setCell ⟨b+1+1,2,none⟩ (.slice base3 L.length cap3))):=by
   show Below _ _ _
   repeat (first | exact HB3.out | refine Below.setCell ?_ (by simp; try omega) _)
  go_wp2_with fail
  obtain ⟨q0,q1,q2⟩:=@three_set ((w3.setCell ⟨b,2,none⟩ (.slice base3 L.length cap3)).setCell ⟨b,1,none⟩ (.int .i64 (f1+1))) (b+1+1) (.int .i64 c) (.int .i64 (f1+1)) (.slice base3 L.length cap3) _ _ _ (set_other (set_other r0 (by omega)) (by omega)) (set_other (set_other r1 (by omega)) (by omega)) (set_other (set_other r2 (by omega)) (by omega))
  have HFN2:=HFN.out;have HBN2:=HBN.out;clear HFN HBN s0 s1 s2 fz fr r0 r1 r2;generalize World.setCell _ ⟨b+1+1,2,none⟩ _=WW at *;exact bodyPost_ret (v:=.agg #[.int .i64 c,.int .i64 (f1+1),.slice base3 L.length cap3]) (by simp [results,Tryz.results19,go_sem,q0,q1,q2]) rfl ⟨_,rfl,by rw [HWB.out]; first | exact HFN2 | (rw [hpp]; exact HFN2),by rw [HWB.out]; exact HBN2⟩
 ·have HX:Hid ((if n≤f1 then f1+1 else n)=n):=if_neg hnx
  have hnx2:f1+1≤n:=by omega
  have hm:max n (f1+1)=n:=Int.max_eq_left hnx2;have HFN:Hid (Fams b (((((w3.setCell ⟨b,2,none⟩ (.slice base3 L.length cap3)).setCell ⟨b,1,none⟩ (.int .i64 n)).setCell ⟨b+1+1,0,none⟩ (.int .i64 c)).setCell ⟨b+1+1,1,none⟩ (.int .i64 n)).setCell ⟨b+1+1,2,none⟩ (.slice base3 L.length cap3)) (.slice base3 L.length cap3) L):=RowsK.mono (HSET2.out _ _ _ (HSET2.out _ _ _ (HSET2.out _ _ _ (HSET.out _ _ _ (HSET.out _ _ _ HF3.out))))) (by omega)
  have HBN:Hid (Below b w (((((w3.setCell ⟨b,2,none⟩ (.slice base3 L.length cap3)).setCell ⟨b,1,none⟩ (.int .i64 n)).setCell ⟨b+1+1,0,none⟩ (.int .i64 c)).setCell ⟨b+1+1,1,none⟩ (.int .i64 n)).setCell ⟨b+1+1,2,none⟩ (.slice base3 L.length cap3))):=by
   show Below _ _ _
   repeat (first | exact HB3.out | refine Below.setCell ?_ (by simp; try omega) _)
  go_wp2_with fail
  obtain ⟨q0,q1,q2⟩:=@three_set ((w3.setCell ⟨b,2,none⟩ (.slice base3 L.length cap3)).setCell ⟨b,1,none⟩ (.int .i64 n)) (b+1+1) (.int .i64 c) (.int .i64 n) (.slice base3 L.length cap3) _ _ _ (set_other (set_other r0 (by omega)) (by omega)) (set_other (set_other r1 (by omega)) (by omega)) (set_other (set_other r2 (by omega)) (by omega))
  have HFN2:=HFN.out;have HBN2:=HBN.out;clear HFN HBN s0 s1 s2 fz fr r0 r1 r2;generalize World.setCell _ ⟨b+1+1,2,none⟩ _=WW at *;exact bodyPost_ret (v:=.agg #[.int .i64 c,.int .i64 n,.slice base3 L.length cap3]) (by simp [results,Tryz.results19,go_sem,q0,q1,q2]) rfl ⟨_,rfl,by rw [HWB.out]; first | exact HFN2 | (rw [hpp]; exact HFN2),by rw [HWB.out]; exact HBN2⟩
theorem apply_2 {B:Nat} {w:World} {v:Value} {l:List Fam} (c n d:Int) (h:Fams B w v l) (hr:Rising l) (hn:l.length≤5000) :
 Calls Tryz.prog 19 #[stV c n v,evV ⟨2,zeroF,d,0⟩] w fun r w'=>∃ v',r=.returned (stV c n v')∧Fams w.heap.size w' v' (dropP l d)∧Below w.heap.size w w':=by
 have hab:=ab_made w c n v ⟨2,zeroF,d,0⟩;have hcl:=fun (W:World) (hf:Fams B W v l)=>clone_fams hf hn;have hpu:=fun (W:World) (v2:Value) (hf:Fams (w.heap.size+3) W v2 l) (hB:w.heap.size+3≤W.heap.size)=>drop_is hf hr hn hB d;have HF:Hid (Fams B w v l):=h;clear h hr
 have HB0:Hid (Below w.heap.size w (((w.alloc (.cells #[.int .i64 c,.int .i64 n,v] 36)).alloc (.cells #[.int .i64 2,.int .i64 0,.string ⟨#[]⟩,.string ⟨#[]⟩,.string ⟨#[]⟩,.int .i64 0,.int .i64 0,.int .i64 0,.string ⟨#[]⟩,.bool false,.int .i64 d,.int .i64 0] 42)).alloc (.cells #[.int .i64 0,.int .i64 0,.slice none 0 0] 36))):=by
  show Below _ _ _
  repeat (first | exact Below.refl _ _ | refine Below.alloc ?_ (by simp; try omega) _)
 have hsz:(((w.alloc (.cells #[.int .i64 c,.int .i64 n,v] 36)).alloc (.cells #[.int .i64 2,.int .i64 0,.string ⟨#[]⟩,.string ⟨#[]⟩,.string ⟨#[]⟩,.int .i64 0,.int .i64 0,.int .i64 0,.string ⟨#[]⟩,.bool false,.int .i64 d,.int .i64 0] 42)).alloc (.cells #[.int .i64 0,.int .i64 0,.slice none 0 0] 36)).heap.size=w.heap.size+3:=by simp
 unfold evV evCs stV;unfold zeroF at *;simp only at *;go_enter Tryz.func19,Tryz.ntmps19
 go_wp2_with fail
 refine (hcl _ (HF.out.below HB0.out (Nat.le_refl _))).mono ?_;rintro e1 w1 ⟨v1,rfl,hv1,hb1⟩;obtain ⟨base1,cap1,rfl⟩:=hv1.slice;have hab1:=hab.on (hsz ▸ hb1);have HFV:Hid (Fams (w.heap.size+3) w1 (.slice base1 l.length cap1) l):=hsz ▸ hv1;have HB1:Hid (Below w.heap.size w w1):=HB0.out.trans (hb1.mono HB0.out.size);clear hv1 hb1 hab hsz;generalize hb:w.heap.size=b at *;have HWB:Hid (w.heap.size=b):=hb;clear hb;have HAB2:Hid _:=hab1.set2 (.slice base1 l.length cap1);have HFV2:Hid (Fams (b+3) (w1.setCell ⟨b,2,none⟩ (.slice base1 l.length cap1)) (.slice base1 l.length cap1) l):=HFV.out.other (a:=⟨b,2,none⟩) (by show b<b+3; omega) _
 have HB2:Hid (Below b w (w1.setCell ⟨b,2,none⟩ (.slice base1 l.length cap1))):=HB1.out.setCell (p:=⟨b,2,none⟩) (Nat.le_refl _) _;have q2:=hab1.s2;have qf:=hab1.fs 2;have k0:=HAB2.out.ev.c0; have k1:=HAB2.out.ev.fam.c0; have k2:=HAB2.out.ev.fam.c1; have k3:=HAB2.out.ev.fam.c2; have k4:=HAB2.out.ev.fam.c3; have k5:=HAB2.out.ev.fam.c4; have k6:=HAB2.out.ev.fam.c5; have k7:=HAB2.out.ev.fam.c6; have k8:=HAB2.out.ev.fam.c7; have k9:=HAB2.out.ev.c10;have k10:=HAB2.out.s2;simp only at k0 k1 k2 k3 k4 k5 k6 k7 k8 k9 k10;clear hab1;go_wp2_with fail
 refine (hpu _ _ HFV2.out (by simp; have:=HAB2.out.size; simpa using this)).mono ?_
 rintro e3 w3 ⟨v3,rfl,hv3,hb3⟩;obtain ⟨base3,cap3,rfl⟩:=hv3.slice;have hab3:=HAB2.out.on hb3;generalize hpp:dropP l d=L at *;have HF3:Hid (Fams (b+3) w3 (.slice base3 L.length cap3) L):=hv3;have HB3:Hid (Below b w w3):=HB2.out.trans (hb3.mono (by omega))
 clear hv3 hb3 k0 k1 k2 k3 k4 k5 k6 k7 k8 k9 k10 q2 qf hpu hcl;have s0:=hab3.s0;have s1:=hab3.s1;have s2:=hab3.s2;have fz:=hab3.fs;have fr:∀ i,w3.frozen? ⟨b+1+1,i,none⟩=false:=hab3.fr;have r0:w3.cell? ⟨b+1+1,0,none⟩=_:=hab3.r0;have r1:w3.cell? ⟨b+1+1,1,none⟩=_:=hab3.r1;have r2:w3.cell? ⟨b+1+1,2,none⟩=_:=hab3.r2;clear hab3;have HSET:Hid (∀ (W:World) (i:Nat) (u:Value),Fams (b+3) W (.slice base3 L.length cap3) L→Fams (b+3) (W.setCell ⟨b,i,none⟩ u) (.slice base3 L.length cap3) L):=fun W i u hw=>hw.other (a:=⟨b,i,none⟩) (by show b<b+3; omega) u
 have HSET2:Hid (∀ (W:World) (i:Nat) (u:Value),Fams (b+3) W (.slice base3 L.length cap3) L→Fams (b+3) (W.setCell ⟨b+1+1,i,none⟩ u) (.slice base3 L.length cap3) L):=fun W i u hw=>hw.other (a:=⟨b+1+1,i,none⟩) (by show b+1+1<b+3; omega) u
 have HFN:Hid (Fams b ((((w3.setCell ⟨b,2,none⟩ (.slice base3 L.length cap3)).setCell ⟨b+1+1,0,none⟩ (.int .i64 c)).setCell ⟨b+1+1,1,none⟩ (.int .i64 n)).setCell ⟨b+1+1,2,none⟩ (.slice base3 L.length cap3)) (.slice base3 L.length cap3) L):=RowsK.mono (HSET2.out _ _ _ (HSET2.out _ _ _ (HSET2.out _ _ _ (HSET.out _ _ _ HF3.out)))) (by omega)
 have HBN:Hid (Below b w ((((w3.setCell ⟨b,2,none⟩ (.slice base3 L.length cap3)).setCell ⟨b+1+1,0,none⟩ (.int .i64 c)).setCell ⟨b+1+1,1,none⟩ (.int .i64 n)).setCell ⟨b+1+1,2,none⟩ (.slice base3 L.length cap3))):=by
  show Below _ _ _
  repeat (first | exact HB3.out | refine Below.setCell ?_ (by simp; try omega) _)
 go_wp2_with fail
 obtain ⟨q0,q1,q2⟩:=@three_set (w3.setCell ⟨b,2,none⟩ (.slice base3 L.length cap3)) (b+1+1) (.int .i64 c) (.int .i64 n) (.slice base3 L.length cap3) _ _ _ (set_other r0 (by omega)) (set_other r1 (by omega)) (set_other r2 (by omega))
 have HFN2:=HFN.out;have HBN2:=HBN.out;clear HFN HBN s0 s1 s2 fz fr r0 r1 r2;generalize World.setCell _ ⟨b+1+1,2,none⟩ _=WW at *;exact bodyPost_ret (v:=.agg #[.int .i64 c,.int .i64 n,.slice base3 L.length cap3]) (by simp [results,Tryz.results19,go_sem,q0,q1,q2]) rfl ⟨_,rfl,by rw [HWB.out]; first | exact HFN2 | (rw [hpp]; exact HFN2),by rw [HWB.out]; exact HBN2⟩
theorem apply_3 {B:Nat} {w:World} {v:Value} {l:List Fam} (c n d:Int) (h:Fams B w v l) (hn:l.length≤5000) :
 Calls Tryz.prog 19 #[stV c n v,evV ⟨3,zeroF,0,d⟩] w fun r w'=>∃ v',r=.returned (stV d n v')∧Fams w.heap.size w' v' l∧Below w.heap.size w w':=by
 have hab:=ab_made w c n v ⟨3,zeroF,0,d⟩;have hcl:=fun (W:World) (hf:Fams B W v l)=>clone_fams hf hn;have HF:Hid (Fams B w v l):=h;clear h
 have HB0:Hid (Below w.heap.size w (((w.alloc (.cells #[.int .i64 c,.int .i64 n,v] 36)).alloc (.cells #[.int .i64 3,.int .i64 0,.string ⟨#[]⟩,.string ⟨#[]⟩,.string ⟨#[]⟩,.int .i64 0,.int .i64 0,.int .i64 0,.string ⟨#[]⟩,.bool false,.int .i64 0,.int .i64 d] 42)).alloc (.cells #[.int .i64 0,.int .i64 0,.slice none 0 0] 36))):=by
  show Below _ _ _
  repeat (first | exact Below.refl _ _ | refine Below.alloc ?_ (by simp; try omega) _)
 have hsz:(((w.alloc (.cells #[.int .i64 c,.int .i64 n,v] 36)).alloc (.cells #[.int .i64 3,.int .i64 0,.string ⟨#[]⟩,.string ⟨#[]⟩,.string ⟨#[]⟩,.int .i64 0,.int .i64 0,.int .i64 0,.string ⟨#[]⟩,.bool false,.int .i64 0,.int .i64 d] 42)).alloc (.cells #[.int .i64 0,.int .i64 0,.slice none 0 0] 36)).heap.size=w.heap.size+3:=by simp
 unfold evV evCs stV;unfold zeroF at *;simp only at *;go_enter Tryz.func19,Tryz.ntmps19
 go_wp2_with fail
 refine (hcl _ (HF.out.below HB0.out (Nat.le_refl _))).mono ?_;rintro e1 w1 ⟨v1,rfl,hv1,hb1⟩;obtain ⟨base1,cap1,rfl⟩:=hv1.slice;have hab1:=hab.on (hsz ▸ hb1);have HFV:Hid (Fams (w.heap.size+3) w1 (.slice base1 l.length cap1) l):=hsz ▸ hv1;have HB1:Hid (Below w.heap.size w w1):=HB0.out.trans (hb1.mono HB0.out.size);clear hv1 hb1 hab hsz hcl;generalize hb:w.heap.size=b at *;have HWB:Hid (w.heap.size=b):=hb;clear hb;have s0:=hab1.s0;have s1:=hab1.s1;have s2:=hab1.s2;have k0:=hab1.ev.c0;have k1:=hab1.ev.c11;have fz:=hab1.fs;have fr:∀ i,w1.frozen? ⟨b+1+1,i,none⟩=false:=hab1.fr;have r0:w1.cell? ⟨b+1+1,0,none⟩=_:=hab1.r0;have r1:w1.cell? ⟨b+1+1,1,none⟩=_:=hab1.r1;have r2:w1.cell? ⟨b+1+1,2,none⟩=_:=hab1.r2;simp only at k0 k1;clear hab1
 have HSET:Hid (∀ (W:World) (g i:Nat) (u:Value),g<b+3→Fams (b+3) W (.slice base1 l.length cap1) l→Fams (b+3) (W.setCell ⟨g,i,none⟩ u) (.slice base1 l.length cap1) l):=fun W g i u hg hw=>hw.other (a:=⟨g,i,none⟩) hg u
 have HFN:Hid (Fams b (((((w1.setCell ⟨b,2,none⟩ (.slice base1 l.length cap1)).setCell ⟨b,0,none⟩ (.int .i64 d)).setCell ⟨b+1+1,0,none⟩ (.int .i64 d)).setCell ⟨b+1+1,1,none⟩ (.int .i64 n)).setCell ⟨b+1+1,2,none⟩ (.slice base1 l.length cap1)) (.slice base1 l.length cap1) l):=by
  refine RowsK.mono (B:=b+3) ?_ (by omega)
  repeat (first | exact HFV.out | refine HSET.out _ _ _ _ (by omega) ?_)
 have HBN:Hid (Below b w (((((w1.setCell ⟨b,2,none⟩ (.slice base1 l.length cap1)).setCell ⟨b,0,none⟩ (.int .i64 d)).setCell ⟨b+1+1,0,none⟩ (.int .i64 d)).setCell ⟨b+1+1,1,none⟩ (.int .i64 n)).setCell ⟨b+1+1,2,none⟩ (.slice base1 l.length cap1))):=by
  show Below _ _ _
  repeat (first | exact HB1.out | refine Below.setCell ?_ (by simp; try omega) _)
 go_wp2_with fail
 obtain ⟨q0,q1,q2⟩:=@three_set ((w1.setCell ⟨b,2,none⟩ (.slice base1 l.length cap1)).setCell ⟨b,0,none⟩ (.int .i64 d)) (b+1+1) (.int .i64 d) (.int .i64 n) (.slice base1 l.length cap1) _ _ _ (set_other (set_other r0 (by omega)) (by omega)) (set_other (set_other r1 (by omega)) (by omega)) (set_other (set_other r2 (by omega)) (by omega))
 have HFN2:=HFN.out;have HBN2:=HBN.out;clear HFN HBN s0 s1 s2 fz fr r0 r1 r2;generalize World.setCell _ ⟨b+1+1,2,none⟩ _=WW at *;exact bodyPost_ret (v:=.agg #[.int .i64 d,.int .i64 n,.slice base1 l.length cap1]) (by simp [results,Tryz.results19,go_sem,q0,q1,q2]) rfl ⟨_,rfl,by rw [HWB.out]; first | exact HFN2 | (rw [hpp]; exact HFN2),by rw [HWB.out]; exact HBN2⟩
theorem apply_is {B:Nat} {w:World} {v:Value} (s:St) (e:E) (hm:Ev.may e) (h:Fams B w v s.fams) (hr:Rising s.fams) (hn:s.fams.length≤5000) :
 Calls Tryz.prog 19 #[stV s.clock s.next v,evV e] w fun r w'=>∃ v',r=.returned (stV (applyP s e).clock (applyP s e).next v')∧Fams w.heap.size w' v' (applyP s e).fams∧Below w.heap.size w w':=by
 obtain ⟨c,n,l⟩:=s;obtain ⟨k,f,i,t⟩:=e;rcases hm with ⟨hk,hf,hi,ht⟩ | ⟨hk,hf,hi,ht⟩ | ⟨hk,hf,hi,ht⟩ <;> simp only at hk hf hi ht <;> subst hk
 ·subst hi; subst ht
  rw [apply_put _ rfl];exact apply_1 c n f h hr hn hf.1.1
 ·subst hf; subst ht
  rw [apply_drop _ rfl];exact apply_2 c n i h hr hn
 ·subst hf; subst hi
  rw [apply_clock _ rfl];exact apply_3 c n t h hn
end Go.Proofs.YtlailakofhenkabGreatDoor
