import Derived.Deep.RegionWith
import Derived.Deep.CutRange
import Derived.Test.YtlailakofhenkabGreatDoorB3
set_option maxRecDepth 100000
set_option maxHeartbeats 2000000
namespace Go.Proofs.YtlailakofhenkabGreatDoor
open Go.RowKit Sip
theorem rotl_any (x:Int) (k:Int) (w:World) (k0:0<k) (k1:k<64):
 Calls Tryz.prog 218 #[.int .u64 x,.int .i64 k] w fun e w'=>e=.returned (.int .u64 (rl x k))∧w'=w:=by
 have hk:=and63 k k0 k1;go_enter Tryz.func218,Tryz.ntmps218
 go_wp2
 go_ret;exact ⟨rfl,rfl⟩
theorem rotl4 (x:Int) (w:World):Calls Tryz.prog 218 #[.int .u64 x,.int .i64 4] w fun e w'=>e=.returned (.int .u64 (rl x 4))∧w'=w:=rotl_any x 4 w (by decide) (by decide)
theorem rotl13 (x:Int) (w:World):Calls Tryz.prog 218 #[.int .u64 x,.int .i64 13] w fun e w'=>e=.returned (.int .u64 (rl x 13))∧w'=w:=rotl_any x 13 w (by decide) (by decide)
theorem rotl16 (x:Int) (w:World):Calls Tryz.prog 218 #[.int .u64 x,.int .i64 16] w fun e w'=>e=.returned (.int .u64 (rl x 16))∧w'=w:=rotl_any x 16 w (by decide) (by decide)
theorem rotl17 (x:Int) (w:World):Calls Tryz.prog 218 #[.int .u64 x,.int .i64 17] w fun e w'=>e=.returned (.int .u64 (rl x 17))∧w'=w:=rotl_any x 17 w (by decide) (by decide)
theorem rotl21 (x:Int) (w:World):Calls Tryz.prog 218 #[.int .u64 x,.int .i64 21] w fun e w'=>e=.returned (.int .u64 (rl x 21))∧w'=w:=rotl_any x 21 w (by decide) (by decide)
theorem rotl32 (x:Int) (w:World):Calls Tryz.prog 218 #[.int .u64 x,.int .i64 32] w fun e w'=>e=.returned (.int .u64 (rl x 32))∧w'=w:=rotl_any x 32 w (by decide) (by decide)
theorem turn_any (x:Int) (k:Int) (w:World) (k0:0<k) (k1:k<64):
 Calls Tryz.prog 212 #[.int .u64 x,.int .i64 k] w fun e w'=>e=.returned (.int .u64 (rl x k))∧∃ n,w'=w.drewN n:=by
 go_enter Tryz.func212,Tryz.ntmps212
 go_wp2
 go_quiet (fail)
 go_wp2
 go_ret;exact ⟨rfl,_,rfl⟩
structure IsSt (w:World) (g:Nat) (s:St):Prop where
 a:w.cell? ⟨g,0,none⟩=some (.int .u64 s.a)
 b:w.cell? ⟨g,1,none⟩=some (.int .u64 s.b)
 c:w.cell? ⟨g,2,none⟩=some (.int .u64 s.c)
 d:w.cell? ⟨g,3,none⟩=some (.int .u64 s.d)
 fa:w.frozen? ⟨g,0,none⟩=false
 fb:w.frozen? ⟨g,1,none⟩=false
 fc:w.frozen? ⟨g,2,none⟩=false
 fd:w.frozen? ⟨g,3,none⟩=false
theorem IsSt.drew {w:World} {g:Nat} {s:St} (h:IsSt w g s):IsSt w.drew g s:=⟨h.a,h.b,h.c,h.d,h.fa,h.fb,h.fc,h.fd⟩
theorem IsSt.setA {w:World} {g:Nat} {s:St} (h:IsSt w g s) (x:Int):IsSt (w.setCell ⟨g,0,none⟩ (.int .u64 x)) g ⟨x,s.b,s.c,s.d⟩:=by
 obtain ⟨ha,hb,hc,hd,fa,fb,fc,fd⟩:=h;constructor <;> go_simp
theorem IsSt.setB {w:World} {g:Nat} {s:St} (h:IsSt w g s) (x:Int):IsSt (w.setCell ⟨g,1,none⟩ (.int .u64 x)) g ⟨s.a,x,s.c,s.d⟩:=by
 obtain ⟨ha,hb,hc,hd,fa,fb,fc,fd⟩:=h;constructor <;> go_simp
theorem IsSt.setC {w:World} {g:Nat} {s:St} (h:IsSt w g s) (x:Int):IsSt (w.setCell ⟨g,2,none⟩ (.int .u64 x)) g ⟨s.a,s.b,x,s.d⟩:=by
 obtain ⟨ha,hb,hc,hd,fa,fb,fc,fd⟩:=h;constructor <;> go_simp
theorem IsSt.setD {w:World} {g:Nat} {s:St} (h:IsSt w g s) (x:Int):IsSt (w.setCell ⟨g,3,none⟩ (.int .u64 x)) g ⟨s.a,s.b,s.c,x⟩:=by
 obtain ⟨ha,hb,hc,hd,fa,fb,fc,fd⟩:=h;constructor <;> go_simp
theorem rounds_any (s:St) (g n B:Nat) (hB:B≤g) (w:World) (hn:n<100) (h:IsSt w g s) :
 Calls Tryz.prog 287 #[.pointer (some ⟨g,0,none⟩),.int .i64 n] w fun e w'=>e=.returned (.tuple #[])∧IsSt w' g (rnds n s)∧Below B w w':=by
 go_enter Tryz.func287,Tryz.ntmps287
 go_wp2
 go_loopg [5] n (fun gg i wr=>∃ k:Nat,k≤n∧gg=n - k∧i=.int .i64 k∧IsSt wr g (rnds k s)∧Below B w wr)
 case atStart=>exact ⟨0,Nat.zero_le _,rfl,rfl,h,Below.refl _ _⟩
 case round=>
  obtain ⟨k,hk,hgk,rfl,hst,hb⟩:=hrel;have HG:Hid (gk=n - k):=hgk;clear hgk;have HR:Hid (rnd (rnds k s)=rnds (k+1) s):=rfl;generalize hq:rnds k s=q at *;have HQ:Hid (rnds k s=q):=hq;clear hq;obtain ⟨a,b,c,d⟩:=q;obtain ⟨ha,hbb,hc,hd,fa,fb,fc,fd⟩:=hst;dsimp only at ha hbb hc hd
  by_cases hlt:k<n
  ·go_wp2
   go_cut [] from 6 to 119 (fun wx=>IsSt wx g ⟨(ad a b),b,c,d⟩∧Below B w wx)
   case first=>
    go_region
    all_goals (go_wp2_with fail; go_meet)
    all_goals exact ⟨((⟨ha,hbb,hc,hd,fa,fb,fc,fd⟩:IsSt _ g ⟨a,b,c,d⟩).setA _).drew,(hb.setCell (p:=⟨g,_,none⟩) hB _).drew⟩
   obtain ⟨a1,ha1⟩:∃ x,x=ad a b:=⟨_,rfl⟩;rw [← ha1] at hcut;have Ha1:Hid (a1=ad a b):=ha1;clear ha1 ha hbb hc hd fa fb fc fd hb;obtain ⟨⟨ha,hbb,hc,hd,fa,fb,fc,fd⟩,hb⟩:=hcut;dsimp only at ha hbb hc hd
   go_wp2
   go_cut [] from 6 to 119 (fun wx=>IsSt wx g ⟨a1,(xr (rl b 13) a1),c,d⟩∧Below B w wx)
   case first=>
    go_region_with (go_at_call 218; refine (rotl13 _ _).mono ?_; rintro e w' ⟨rfl,rfl⟩)
    all_goals (go_wp2_with fail; go_meet)
    all_goals exact ⟨((⟨ha,hbb,hc,hd,fa,fb,fc,fd⟩:IsSt _ g ⟨a1,b,c,d⟩).setB _).drew,(hb.setCell (p:=⟨g,_,none⟩) hB _).drew⟩
   obtain ⟨b1,hb1⟩:∃ x,x=xr (rl b 13) a1:=⟨_,rfl⟩;rw [← hb1] at hcut;have Hb1:Hid (b1=xr (rl b 13) a1):=hb1;clear hb1 ha hbb hc hd fa fb fc fd hb;obtain ⟨⟨ha,hbb,hc,hd,fa,fb,fc,fd⟩,hb⟩:=hcut;dsimp only at ha hbb hc hd
   go_upto_region 4 with fail
   go_cut [] from 6 to 119 (fun wx=>IsSt wx g ⟨(rl a1 32),b1,c,d⟩∧Below B w wx)
   case first=>
    go_wp2_with (go_at_call 218; refine (rotl32 _ _).mono ?_; rintro e w' ⟨rfl,rfl⟩)
    all_goals (go_wp2_with fail; go_meet)
    all_goals exact ⟨((⟨ha,hbb,hc,hd,fa,fb,fc,fd⟩:IsSt _ g ⟨a1,b1,c,d⟩).setA _),(hb.setCell (p:=⟨g,_,none⟩) hB _)⟩
   obtain ⟨a2,ha2⟩:∃ x,x=rl a1 32:=⟨_,rfl⟩;rw [← ha2] at hcut;have Ha2:Hid (a2=rl a1 32):=ha2;clear ha2 ha hbb hc hd fa fb fc fd hb;obtain ⟨⟨ha,hbb,hc,hd,fa,fb,fc,fd⟩,hb⟩:=hcut;dsimp only at ha hbb hc hd
   go_wp2
   go_cut [] from 6 to 119 (fun wx=>IsSt wx g ⟨a2,b1,(ad c d),d⟩∧Below B w wx)
   case first=>
    go_region
    all_goals (go_wp2_with fail; go_meet)
    all_goals exact ⟨((⟨ha,hbb,hc,hd,fa,fb,fc,fd⟩:IsSt _ g ⟨a2,b1,c,d⟩).setC _).drew,(hb.setCell (p:=⟨g,_,none⟩) hB _).drew⟩
   obtain ⟨c1,hc1⟩:∃ x,x=ad c d:=⟨_,rfl⟩;rw [← hc1] at hcut;have Hc1:Hid (c1=ad c d):=hc1;clear hc1 ha hbb hc hd fa fb fc fd hb;obtain ⟨⟨ha,hbb,hc,hd,fa,fb,fc,fd⟩,hb⟩:=hcut;dsimp only at ha hbb hc hd
   go_wp2
   go_cut [] from 6 to 119 (fun wx=>IsSt wx g ⟨a2,b1,c1,(xr (rl d 16) c1)⟩∧Below B w wx)
   case first=>
    go_region_with (go_at_call 218; refine (rotl16 _ _).mono ?_; rintro e w' ⟨rfl,rfl⟩)
    all_goals (go_wp2_with fail; go_meet)
    all_goals exact ⟨((⟨ha,hbb,hc,hd,fa,fb,fc,fd⟩:IsSt _ g ⟨a2,b1,c1,d⟩).setD _).drew,(hb.setCell (p:=⟨g,_,none⟩) hB _).drew⟩
   obtain ⟨d1,hd1⟩:∃ x,x=xr (rl d 16) c1:=⟨_,rfl⟩;rw [← hd1] at hcut;have Hd1:Hid (d1=xr (rl d 16) c1):=hd1;clear hd1 ha hbb hc hd fa fb fc fd hb;obtain ⟨⟨ha,hbb,hc,hd,fa,fb,fc,fd⟩,hb⟩:=hcut;dsimp only at ha hbb hc hd
   go_wp2
   go_cut [] from 6 to 119 (fun wx=>IsSt wx g ⟨(ad a2 d1),b1,c1,d1⟩∧Below B w wx)
   case first=>
    go_region
    all_goals (go_wp2_with fail; go_meet)
    all_goals exact ⟨((⟨ha,hbb,hc,hd,fa,fb,fc,fd⟩:IsSt _ g ⟨a2,b1,c1,d1⟩).setA _).drew,(hb.setCell (p:=⟨g,_,none⟩) hB _).drew⟩
   obtain ⟨a3,ha3⟩:∃ x,x=ad a2 d1:=⟨_,rfl⟩;rw [← ha3] at hcut;have Ha3:Hid (a3=ad a2 d1):=ha3;clear ha3 ha hbb hc hd fa fb fc fd hb;obtain ⟨⟨ha,hbb,hc,hd,fa,fb,fc,fd⟩,hb⟩:=hcut;dsimp only at ha hbb hc hd
   go_wp2
   go_cut [] from 6 to 119 (fun wx=>IsSt wx g ⟨a3,b1,c1,(xr (rl d1 21) a3)⟩∧Below B w wx)
   case first=>
    go_region_with (go_at_call 218; refine (rotl21 _ _).mono ?_; rintro e w' ⟨rfl,rfl⟩)
    all_goals (go_wp2_with fail; go_meet)
    all_goals exact ⟨((⟨ha,hbb,hc,hd,fa,fb,fc,fd⟩:IsSt _ g ⟨a3,b1,c1,d1⟩).setD _).drew,(hb.setCell (p:=⟨g,_,none⟩) hB _).drew⟩
   obtain ⟨d2,hd2⟩:∃ x,x=xr (rl d1 21) a3:=⟨_,rfl⟩;rw [← hd2] at hcut;have Hd2:Hid (d2=xr (rl d1 21) a3):=hd2;clear hd2 ha hbb hc hd fa fb fc fd hb;obtain ⟨⟨ha,hbb,hc,hd,fa,fb,fc,fd⟩,hb⟩:=hcut;dsimp only at ha hbb hc hd
   go_wp2
   go_cut [] from 6 to 119 (fun wx=>IsSt wx g ⟨a3,b1,(ad c1 b1),d2⟩∧Below B w wx)
   case first=>
    go_region
    all_goals (go_wp2_with fail; go_meet)
    all_goals exact ⟨((⟨ha,hbb,hc,hd,fa,fb,fc,fd⟩:IsSt _ g ⟨a3,b1,c1,d2⟩).setC _).drew,(hb.setCell (p:=⟨g,_,none⟩) hB _).drew⟩
   obtain ⟨c2,hc2⟩:∃ x,x=ad c1 b1:=⟨_,rfl⟩;rw [← hc2] at hcut;have Hc2:Hid (c2=ad c1 b1):=hc2;clear hc2 ha hbb hc hd fa fb fc fd hb;obtain ⟨⟨ha,hbb,hc,hd,fa,fb,fc,fd⟩,hb⟩:=hcut;dsimp only at ha hbb hc hd
   go_wp2
   go_cut [] from 6 to 119 (fun wx=>IsSt wx g ⟨a3,(xr (rl b1 17) c2),c2,d2⟩∧Below B w wx)
   case first=>
    go_region_with (go_at_call 218; refine (rotl17 _ _).mono ?_; rintro e w' ⟨rfl,rfl⟩)
    all_goals (go_wp2_with fail; go_meet)
    all_goals exact ⟨((⟨ha,hbb,hc,hd,fa,fb,fc,fd⟩:IsSt _ g ⟨a3,b1,c2,d2⟩).setB _).drew,(hb.setCell (p:=⟨g,_,none⟩) hB _).drew⟩
   obtain ⟨b2,hb2⟩:∃ x,x=xr (rl b1 17) c2:=⟨_,rfl⟩;rw [← hb2] at hcut;have Hb2:Hid (b2=xr (rl b1 17) c2):=hb2;clear hb2 ha hbb hc hd fa fb fc fd hb;obtain ⟨⟨ha,hbb,hc,hd,fa,fb,fc,fd⟩,hb⟩:=hcut;dsimp only at ha hbb hc hd
   go_wp2_with (go_at_call 218; refine (rotl32 _ _).mono ?_; rintro e w' ⟨rfl,rfl⟩)
   go_roundg (n - (k+1))
   case measure=>have:=HG.out; omega
   case rel=>
    refine ⟨k+1,by omega,rfl,by go_num,?_,(hb.setCell (p:=⟨g,_,none⟩) hB _)⟩
    rw [← HR.out]
    have hE:rnd ⟨a,b,c,d⟩=⟨a3,b2,rl c2 32,d2⟩:=by
     rw [Hb2.out,Hc2.out,Hd2.out,Ha3.out,Hd1.out,Hc1.out,Ha2.out,Hb1.out,Ha1.out]; rfl
    rw [hE];exact (⟨ha,hbb,hc,hd,fa,fb,fc,fd⟩:IsSt _ g ⟨a3,b2,c2,d2⟩).setC _
  ·obtain rfl:k=n:=by omega
   go_wp2
   go_end0
   exact ⟨rfl,by rw [HQ.out]; exact ⟨ha,hbb,hc,hd,fa,fb,fc,fd⟩,hb⟩
theorem refTurn13 (x:Int) (w:World):Calls Tryz.prog 212 #[.int .u64 x,.int .i64 13] w fun e w'=>e=.returned (.int .u64 (rl x 13))∧∃ n,w'=w.drewN n:=turn_any x 13 w (by decide) (by decide)
theorem refTurn16 (x:Int) (w:World):Calls Tryz.prog 212 #[.int .u64 x,.int .i64 16] w fun e w'=>e=.returned (.int .u64 (rl x 16))∧∃ n,w'=w.drewN n:=turn_any x 16 w (by decide) (by decide)
theorem refTurn17 (x:Int) (w:World):Calls Tryz.prog 212 #[.int .u64 x,.int .i64 17] w fun e w'=>e=.returned (.int .u64 (rl x 17))∧∃ n,w'=w.drewN n:=turn_any x 17 w (by decide) (by decide)
theorem refTurn21 (x:Int) (w:World):Calls Tryz.prog 212 #[.int .u64 x,.int .i64 21] w fun e w'=>e=.returned (.int .u64 (rl x 21))∧∃ n,w'=w.drewN n:=turn_any x 21 w (by decide) (by decide)
theorem refTurn32 (x:Int) (w:World):Calls Tryz.prog 212 #[.int .u64 x,.int .i64 32] w fun e w'=>e=.returned (.int .u64 (rl x 32))∧∃ n,w'=w.drewN n:=turn_any x 32 w (by decide) (by decide)
theorem refRounds_any (s:St) (n:Nat) (w:World) (hn:n<100) :
 Calls Tryz.prog 281 #[.agg #[.int .u64 s.a,.int .u64 s.b,.int .u64 s.c,.int .u64 s.d],.int .i64 n] w fun e w'=>e=.returned (.agg #[.int .u64 (rnds n s).a,.int .u64 (rnds n s).b,.int .u64 (rnds n s).c,.int .u64 (rnds n s).d])∧Below w.heap.size w w':=by
 go_enter Tryz.func281,Tryz.ntmps281
 go_wp2
 go_quiet (fail)
 go_wp2
 generalize hW:(w.alloc (.cells #[.int .u64 s.a,.int .u64 s.b,.int .u64 s.c,.int .u64 s.d] 340)).alloc (.cells #[.int .u64 0,.int .u64 0,.int .u64 0,.int .u64 0] 340)=W;have HW:Hid (_=W):=hW;clear hW;go_loopw [5,6,7,8,18] (fun a b c d i wr=>∃ k m:Nat,k≤n∧i=.int .i64 k∧a=.int .u64 (rnds k s).a∧b=.int .u64 (rnds k s).b∧c=.int .u64 (rnds k s).c∧d=.int .u64 (rnds k s).d∧wr=W.drewN m) (fun _ _ _ _ i _=>n - (intOf i).toNat)
 case atStart=>exact ⟨0,nq,Nat.zero_le _,rfl,rfl,rfl,rfl,rfl,rfl⟩
 case round=>
  obtain ⟨k,m,hk,rfl,rfl,rfl,rfl,rfl,rfl⟩:=hrel;have HR:Hid (rnd (rnds k s)=rnds (k+1) s):=rfl;generalize hq:rnds k s=q at *;have HQ:Hid (rnds k s=q):=hq;clear hq;obtain ⟨a,b,c,d⟩:=q;dsimp only
  by_cases hlt:k<n
  ·go_wp2_with fail
   refine (refTurn13 _ _).mono ?_;rintro e w' ⟨rfl,n1,rfl⟩;go_wp2_with fail
   refine (refTurn32 _ _).mono ?_;rintro e w' ⟨rfl,n2,rfl⟩;go_wp2_with fail
   refine (refTurn16 _ _).mono ?_;rintro e w' ⟨rfl,n3,rfl⟩;go_wp2_with fail
   refine (refTurn21 _ _).mono ?_;rintro e w' ⟨rfl,n4,rfl⟩;go_wp2_with fail
   refine (refTurn17 _ _).mono ?_;rintro e w' ⟨rfl,n5,rfl⟩;go_wp2_with fail
   refine (refTurn32 _ _).mono ?_;rintro e w' ⟨rfl,n6,rfl⟩;go_wp2_with fail
   go_roundw
   case rel=>exact ⟨k+1,_,by omega,by go_num,by rw [← HR.out]; rfl,by rw [← HR.out]; rfl,by rw [← HR.out]; rfl,by rw [← HR.out]; rfl,rfl⟩
   case measure=>simp [intOf]; omega
  ·obtain rfl:k=n:=by omega
   subst HW;go_wp2
   refine bodyPost_ret (v:=.agg #[.int .u64 a,.int .u64 b,.int .u64 c,.int .u64 d]) ?_ rfl ⟨?_,?_⟩
   ·simp [results,Tryz.results281,go_sem]
   ·rw [HQ.out]
   ·repeat (first | exact Below.refl _ _ | refine Below.setCell ?_ (by simp) _ | refine below_drewN ?_ _ | refine Below.alloc ?_ (by simp) _)
end Go.Proofs.YtlailakofhenkabGreatDoor
namespace Go.Proofs.YtlailakofhenkabGreatDoor
namespace Sip
def fin (top:Nat):Nat→St→List UInt8→Int
 |0,q,l=>close (eatS q ((le l+top*256 ^ 7:Nat):Int))
 |f+1,q,l=>if 8≤l.length then fin top f (eatS q (le (l.take 8))) (l.drop 8) else close (eatS q ((le l+top*256 ^ 7:Nat):Int))
def sip (k0 k1:Int) (l:List UInt8):Int:=fin (l.length % 256) l.length (start k0 k1) l
def pad (l:List UInt8):List UInt8:=l ++ List.replicate (7 - l.length % 8) 0 ++ [UInt8.ofNat (l.length % 256)]
def feed:Nat→St→List UInt8→St
 |0,q,_=>q
 |f+1,q,l=>feed f (eatS q (le (l.take 8))) (l.drop 8)
theorem le_zeros (n:Nat):le (List.replicate n 0)=0:=by
 induction n with
 |zero=>rfl
 |succ n ih=>simp [List.replicate_succ,le,ih]
theorem le_append (l r:List UInt8):le (l ++ r)=le l+le r*256 ^ l.length:=by
 induction l with
 |nil=>simp [le]
 |cons c l ih=>simp only [List.cons_append,le,ih,List.length_cons,Nat.pow_succ]; rw [Nat.mul_add,Nat.add_assoc,Nat.mul_left_comm,Nat.mul_comm (256 ^ l.length) 256]
theorem le_pad (r:List UInt8) (n:Nat) (h:r.length≤7) (hn:n<256) :
 le (r ++ List.replicate (7 - r.length) 0 ++ [UInt8.ofNat n])=le r+n*256 ^ 7:=by
 rw [le_append,le_append,le_zeros];have e:(r ++ List.replicate (7 - r.length) 0).length=7:=by simp; omega
 rw [e];simp [le,Nat.mod_eq_of_lt hn]
theorem fin_feed (top:Nat) (ht:top<256) (f:Nat) (q:St) (l:List UInt8) (hf:l.length≤f) (T:Nat)
 (hT:(l ++ List.replicate (7 - l.length % 8) 0 ++ [UInt8.ofNat top]).length=8*T) :
 fin top f q l=close (feed T q (l ++ List.replicate (7 - l.length % 8) 0 ++ [UInt8.ofNat top])):=by
 induction f generalizing q l T with
 |zero=>
  obtain rfl:l= []:=List.eq_nil_of_length_eq_zero (by omega)
  obtain rfl:T=1:=by simp at hT; omega
  have h:=le_pad [] top (by simp) ht
  simp only [fin,feed];simp at h ⊢
  rw [h];simp
 |succ f ih=>
  by_cases h8:8≤l.length
  ·obtain ⟨T',rfl⟩:∃ T',T=T'+1:=⟨T - 1,by simp at hT; omega⟩
   simp only [fin,if_pos h8,feed];have hd:(l.drop 8).length=l.length - 8:=List.length_drop;have hm:(l.drop 8).length % 8=l.length % 8:=by omega
   have ht8:(l ++ List.replicate (7 - l.length % 8) 0 ++ [UInt8.ofNat top]).take 8=l.take 8:=by
    rw [List.append_assoc,List.take_append_of_le_length h8]
   have hd8:(l ++ List.replicate (7 - l.length % 8) 0 ++ [UInt8.ofNat top]).drop 8=l.drop 8 ++ List.replicate (7 - (l.drop 8).length % 8) 0 ++ [UInt8.ofNat top]:=by
    rw [hm,List.append_assoc,List.drop_append_of_le_length h8,List.append_assoc]
   rw [ht8,hd8];refine ih _ _ (by omega) T' ?_
   rw [← hd8,List.length_drop,hT]; omega
  ·have hl:l.length % 8=l.length:=by omega
   obtain rfl:T=1:=by simp at hT; omega
   simp only [fin,if_neg h8,feed];rw [hl,List.take_of_length_le (by simp; omega),le_pad l top (by omega) ht]
theorem sip_pad (k0 k1:Int) (l:List UInt8) (T:Nat) (hT:(pad l).length=8*T):sip k0 k1 l=close (feed T (start k0 k1) (pad l)):=
 fin_feed _ (by omega) _ _ _ (Nat.le_refl _) T hT
theorem horner (X:List UInt8) (d:Nat) (hX:X.length=8) (hd:d<8) :
 IntKind.u64.wrap (IntKind.u64.wrap ((le (X.drop (d+1)):Int)*256)+IntKind.u64.wrap ((X[d]?.getD 0).toNat:Int))=(le (X.drop d):Int):=by
 have hc:X.drop d=X[d]::X.drop (d+1):=List.drop_eq_getElem_cons (by omega)
 have h1:le (X.drop d)=(X[d]?.getD 0).toNat+256*le (X.drop (d+1)):=by rw [hc,List.getElem?_eq_getElem (by omega)]; rfl
 have h2:=le_lt (X.drop d);have h3:256 ^ (X.drop d).length≤256 ^ 8:=Nat.pow_le_pow_right (by decide) (by rw [List.length_drop]; omega)
 have h4:(256:Nat) ^ 8=18446744073709551616:=by decide
 rw [IntKind.wrap_u64,IntKind.wrap_u64,IntKind.wrap_u64];omega
theorem top_step (l:List UInt8) (n:Nat) (h:l.length≤7) :
 bits .or .u64 (le l:Int) (IntKind.u64.wrap ((n:Int)*72057594037927936))=((le l+n % 256*256 ^ 7:Nat):Int):=by
 have h1:le l<256 ^ 7:=Nat.lt_of_lt_of_le (le_lt l) (Nat.pow_le_pow_right (by decide) h)
 have e1:IntKind.u64.wrap ((n:Int)*72057594037927936)=((n % 256*256 ^ 7:Nat):Int):=by rw [IntKind.wrap_u64]; omega
 rw [e1,bits_or_nat _ _ (by omega) (by omega),or_disjoint _ _ _ h1]
end Sip
end Go.Proofs.YtlailakofhenkabGreatDoor
set_option maxHeartbeats 1000000
namespace Go.Proofs.YtlailakofhenkabGreatDoor
open Go.RowKit Sip
def bs (l:List UInt8):List Value:=l.map fun b=>.int .u8 (b.toNat:Int)
theorem bytesBelow (w:World) (e:TypeId) (s:ByteArray):Below w.heap.size w (Lib.bytesWorld w e s):=
 ⟨rfl,rfl,rfl,by rw [Lib.bytesWorld_size]; omega,fun k hk=>Lib.bytesWorld_at_old w e s k hk⟩
theorem bytesRow (w:World) (e:TypeId) (s:ByteArray) (hs:s.size≤maxLen):RowAt w.heap.size (Lib.bytesWorld w e s) w.heap.size (grownCap w s.size 0 e) s.size (bs s.data.toList):=by
 have hsz:(Lib.bytesCells w e s).size=grownCap w s.size 0 e:=by
  have:=grownCap_ge w s.size 0 e;simp [Lib.bytesCells]; omega
 refine ⟨Nat.le_refl _,by rw [Lib.bytesWorld_size]; omega,by simp [bs],grownCap_ge _ _ _ _,grownCap_le_maxLen _ _ _ _ hs,fun j u hj=>?_,fun j hj=>?_⟩
 ·simp only [World.cell?,Lib.bytesWorld_at_new]
  have hj':j<s.size:=by
   have:=(List.getElem?_eq_some_iff.1 hj).1;simpa [bs] using this
  simp [Lib.bytesCells,bs,Array.getElem?_append,hj'] at hj ⊢
  exact hj
 ·simp [World.cell?,World.frozen?,Lib.bytesWorld_at_new,hsz,hj]
  omega
theorem IsSt.below {B:Nat} {w w':World} {g:Nat} {s:St} (h:IsSt w g s) (hb:Below B w w') (hg:g<B):IsSt w' g s:=
 ⟨(hb.cell (p:=⟨g,0,none⟩) hg).trans h.a,(hb.cell (p:=⟨g,1,none⟩) hg).trans h.b,(hb.cell (p:=⟨g,2,none⟩) hg).trans h.c,(hb.cell (p:=⟨g,3,none⟩) hg).trans h.d,
  (hb.frozen (p:=⟨g,0,none⟩) hg).trans h.fa,(hb.frozen (p:=⟨g,1,none⟩) hg).trans h.fb,(hb.frozen (p:=⟨g,2,none⟩) hg).trans h.fc,(hb.frozen (p:=⟨g,3,none⟩) hg).trans h.fd⟩
theorem info_u8:(Tryz.prog.info? 5).map (fun i=>(i.zero,i.size,i.bytes))=some (some (.int .u8 0),1,1):=by kernel_rfl
theorem refSum_any (k0 k1:Int) (s:ByteArray) (w:World) (hs:s.size≤1000000) :
 Calls Tryz.prog 211 #[.int .u64 k0,.int .u64 k1,.string s] w fun e w'=>e=.returned (.int .u64 (sip k0 k1 s.data.toList))∧Below w.heap.size w w':=by
 have hcv:=fun w=>Lib.run_convert_string_bytes (P:=Tryz.prog) w 9 164 5 s Tryz.underlying9 Tryz.underlying164 Tryz.underlying5
 obtain ⟨i0,hi,hz0,hz1,hz2⟩:=info_parts info_u8;have hmax:s.size≤maxLen:=by unfold maxLen; omega
 go_enter Tryz.func211,Tryz.ntmps211
 go_wp2_with fail
 have hrow:=bytesRow w 5 s hmax;have hbel:=bytesBelow w 5 s;generalize Lib.bytesWorld w 5 s=W at *;generalize grownCap w s.size 0 5=C at *;go_loopg [7] (7 - s.size % 8) (fun gk v wr=>∃ (g c k:Nat),v=.slice (some ⟨g,0,none⟩) (s.size+k) c∧k+gk=7 - s.size % 8∧RowAt w.heap.size wr g c (s.size+k) (bs (s.data.toList ++ List.replicate k 0))∧Below w.heap.size w wr)
 case atStart=>exact ⟨_,_,0,rfl,by omega,by simpa using hrow,hbel⟩
 case round=>
  obtain ⟨g,c,k,rfl,hk,hrow2,hbel2⟩:=hrel;have hsz:=hbel2.size;have HK:Hid (k+gk=7 - s.size % 8):=hk;clear hk;by_cases h7:(s.size+k) % 8=7
  ·go_wp2_with (at_builtin; refine wpList_append_row _ rfl _ _ 164 rfl 5 i0 (.int .u8 0) 1 Tryz.underlying164 hi hz0 hz1 hz2 rfl w.heap.size g (s.size+k) c _ rfl (hrow2.alloc _) ⟨wr.heap.size,0,none⟩ 1 (.int .u8 ((s.size:Int) % 256)) rfl ?c1 rfl ?c2 ?c3 ?_)
   case c1=>go_simp
   case c2=>have:=HK.out; unfold maxLen; omega
   case c3=>have:=HK.out; omega
   intro g2 c2 w2 hrow3 hb3;have hb4:Below w.heap.size w w2:=(hbel2.alloc hsz _).trans hb3;have hk7:k=7 - s.size % 8:=by have:=HK.out; omega
   have hP:bs (s.data.toList ++ List.replicate k 0) ++ [.int .u8 ((s.size:Int) % 256)]=bs (pad s.data.toList):=by
    simp [bs,pad,hk7]
   rw [hP] at hrow3
   have hrow4:RowAt w.heap.size w2 g2 c2 (pad s.data.toList).length (bs (pad s.data.toList)):=by
    have e:s.size+k+1=(pad s.data.toList).length:=by simp [pad,hk7]; omega
    rw [← e];refine ⟨hrow3.new,hrow3.lt,hrow3.len,hrow3.le,hrow3.max,hrow3.holds,hrow3.there⟩
   have hlen:(pad s.data.toList).length=s.size+k+1:=by simp [pad,hk7]; omega
   obtain ⟨T,hT⟩:∃ T,(pad s.data.toList).length=8*T:=⟨(s.size+k+1) / 8,by rw [hlen]; omega⟩
   have hn8:s.size+k+1=8*T:=by omega
   have HF:Hid (sip k0 k1 s.data.toList=close (feed T (Sip.start k0 k1) (pad s.data.toList))):=sip_pad k0 k1 s.data.toList T hT;have HT:Hid ((pad s.data.toList).length=8*T):=hT;have hg2:=hrow4.lt;rw [HT.out] at hrow4;rw [hn8];clear hrow3 hP hT hlen hk7 hrow2 hrow hbel2 hbel hcv hb3;have HN:Hid (s.size+k+1=8*T):=hn8;clear hn8;generalize pad s.data.toList=L at *;obtain ⟨N,hN⟩:∃ N,N=8*T:=⟨_,rfl⟩;have HM:Hid (N=8*T):=hN;have hNs:N≤1000008:=by have:=HN.out; have:=HK.out; omega
   rw [← hN];rw [← hN] at hrow4;clear hN;go_wp2_with fail
   go_loopg [9] T (fun gk i wr=>∃ (j:Nat) (q:St),i=.int .i64 ((8*j:Nat):Int)∧j+gk=T∧IsSt wr w2.heap.size q∧RowAt w.heap.size wr g2 c2 N (bs L)∧Below w.heap.size w wr∧w2.heap.size<wr.heap.size∧feed gk q (L.drop (8*j))=feed T (Sip.start k0 k1) L)
   case atStart=>
    refine ⟨0,Sip.start k0 k1,rfl,by omega,?_,hrow4.alloc _,hb4.alloc hb4.size _,by simp,by simp⟩
    constructor <;> go_simp <;> rfl
   case round=>
    obtain ⟨j,q,rfl,hj,hst,hrw,hbl,hgl,hfe⟩:=hrel;have HJ:Hid (j+gk=T):=hj;have HE:Hid (feed gk q (L.drop (8*j))=feed T (Sip.start k0 k1) L):=hfe;clear hfe hj;obtain ⟨I,hI⟩:∃ I,I=8*j:=⟨_,rfl⟩;rw [← hI];have HI:Hid (I=8*j):=hI;clear hI;have hst':=hst;obtain ⟨ha,hb,hc,hd,fa,fb,fc,fd⟩:=hst';by_cases hlt:I<N
    ·have h8:I+8≤N:=by have:=HI.out; have:=HM.out; omega
     obtain ⟨X,hX⟩:∃ X,X=(L.drop I).take 8:=⟨_,rfl⟩;have hXl:X.length=8:=by rw [hX]; simp; have:=HT.out; have:=HM.out; omega
     have hcell:∀ d,d<8→wr.cell? ⟨g2,I+d,none⟩=some (.int .u8 ((X.getD d 0).toNat:Int)):=by
      intro d hd8;have hLl:I+d<L.length:=by have:=HT.out; have:=HM.out; omega
      refine hrw.holds _ _ ?_;rw [hX];simp [bs,List.getD,hd8,List.getElem?_drop,hLl]
     have HX:Hid (X=(L.drop I).take 8):=hX;have HXl:Hid (X.length=8):=hXl;clear hX hXl;go_wp2_with fail
     go_loop [10,11] (fun m kk=>∃ e:Nat,e≤8∧kk=.int .i64 ((e:Int) - 1)∧m=.int .u64 (le (X.drop e))) (fun _ kk=>(intOf kk+1).toNat)
     case atStart=>exact ⟨8,by omega,rfl,by rw [List.drop_of_length_le (by rw [HXl.out]; omega)]; rfl⟩
     case round=>
      obtain ⟨e,he,rfl,rfl⟩:=hrel
      cases e with
      |zero=>
       rw [List.drop_zero];generalize hx:(le X:Int)=x at *;have Hx:Hid ((le X:Int)=x):=hx;clear hx;clear hcell;go_wp2_with fail
       refine (refRounds_any ⟨q.a,q.b,q.c,xr q.d x⟩ 2 _ (by decide)).mono ?_
       rintro e w3 ⟨rfl,hb3⟩;have hst3:=(hst.setD (xr q.d x)).below hb3 (by simp [World.setCell]; exact hgl)
       have hb5:Below w.heap.size w w3:=(hbl.setCell (p:=⟨w2.heap.size,3,none⟩) hb4.size _).trans (hb3.mono (by simp [World.setCell]; exact hbl.size))
       have hrw3:RowAt w.heap.size w3 g2 c2 N (bs L):=(hrw.setCell (a:=⟨w2.heap.size,3,none⟩) (by simp; omega) _).below hb3 (by simp [World.setCell]; omega)
       have hgl3:w2.heap.size<w3.heap.size:=Nat.lt_of_lt_of_le (by simp [World.setCell]; exact hgl) hb3.size
       have HE2:Hid (eatS q x=⟨xr (rnds 2 ⟨q.a,q.b,q.c,xr q.d x⟩).a x,(rnds 2 ⟨q.a,q.b,q.c,xr q.d x⟩).b,(rnds 2 ⟨q.a,q.b,q.c,xr q.d x⟩).c,(rnds 2 ⟨q.a,q.b,q.c,xr q.d x⟩).d⟩):=rfl;generalize rnds 2 ⟨q.a,q.b,q.c,xr q.d x⟩=R at *;have HS3:Hid (IsSt w3 w2.heap.size ⟨q.a,q.b,q.c,xr q.d x⟩):=hst3;clear ha hb hc hd fa fb fc fd hst hb3;obtain ⟨ha,hb,hc,hd,fa,fb,fc,fd⟩:=hst3;go_wp2_with fail
       obtain ⟨g1,rfl⟩:∃ g1,gk=g1+1:=⟨gk - 1,by have:=HI.out; have:=HM.out; have:=HJ.out; omega⟩
       go_roundg g1
       case measure=>omega
       case rel=>
        refine ⟨j+1,eatS q x,by rw [HI.out]; go_num,by have:=HJ.out; omega,?_,?_,?_,?_,?_⟩
        ·rw [HE2.out]
         exact ((((HS3.out.setA _).setB _).setC _).setD _).setA _
        ·exact ((((hrw3.setCell (by simp; omega) _).setCell (by simp; omega) _).setCell (by simp; omega) _).setCell (by simp; omega) _).setCell (by simp; omega) _
        ·exact ((((hb5.setCell (p:=⟨w2.heap.size,_,none⟩) hb4.size _).setCell (p:=⟨w2.heap.size,_,none⟩) hb4.size _).setCell (p:=⟨w2.heap.size,_,none⟩) hb4.size _).setCell (p:=⟨w2.heap.size,_,none⟩) hb4.size _).setCell (p:=⟨w2.heap.size,_,none⟩) hb4.size _
        ·simp [World.setCell]; exact hgl3
        ·rw [← HE.out]
         simp only [feed];rw [← HI.out,← HX.out,Hx.out,HI.out,List.drop_drop];rfl
      |succ d=>
       have hcd:=hcell d (by omega)
       rw [show (((d+1:Nat):Int) - 1)=(d:Int) from by omega]
       go_wp2_with fail
       go_round
       case rel=>exact ⟨d,by omega,rfl,by rw [horner X d HXl.out (by omega)]⟩
       case measure=>simp [intOf]
    ·have hgk:gk=0:=by have:=HI.out; have:=HM.out; have:=HJ.out; omega
     subst hgk;have HQ:Hid (feed T (Sip.start k0 k1) L=q):=HE.out.symm;go_wp2_with fail
     refine (refRounds_any ⟨q.a,q.b,xr q.c 255,q.d⟩ 4 _ (by decide)).mono ?_
     rintro e w3 ⟨rfl,hb3⟩;have hst3:=(hst.setC (xr q.c 255)).below hb3 (by simp [World.setCell]; exact hgl)
     have hb5:Below w.heap.size w w3:=(hbl.setCell (p:=⟨w2.heap.size,2,none⟩) hb4.size _).trans (hb3.mono (by simp [World.setCell]; exact hbl.size))
     have HC:Hid (close q=xr (xr (xr (rnds 4 ⟨q.a,q.b,xr q.c 255,q.d⟩).a (rnds 4 ⟨q.a,q.b,xr q.c 255,q.d⟩).b) (rnds 4 ⟨q.a,q.b,xr q.c 255,q.d⟩).c) (rnds 4 ⟨q.a,q.b,xr q.c 255,q.d⟩).d):=rfl;generalize rnds 4 ⟨q.a,q.b,xr q.c 255,q.d⟩=R at *;clear ha hb hc hd fa fb fc fd hst hb3;obtain ⟨ha,hb,hc,hd,fa,fb,fc,fd⟩:=hst3;go_wp2_with fail
     go_ret;refine ⟨?_,?_⟩
     ·rw [HF.out,HQ.out,HC.out]; rfl
     ·exact (((hb5.setCell (p:=⟨w2.heap.size,_,none⟩) hb4.size _).setCell (p:=⟨w2.heap.size,_,none⟩) hb4.size _).setCell (p:=⟨w2.heap.size,_,none⟩) hb4.size _).setCell (p:=⟨w2.heap.size,_,none⟩) hb4.size _
  ·go_wp2_with (at_builtin; refine wpList_append_row _ rfl _ _ 164 rfl 5 i0 (.int .u8 0) 1 Tryz.underlying164 hi hz0 hz1 hz2 rfl w.heap.size g (s.size+k) c _ rfl (hrow2.alloc _) ⟨wr.heap.size,0,none⟩ 1 (.int .u8 0) rfl ?c1 rfl ?c2 ?c3 ?_)
   case c1=>go_simp
   case c2=>have:=HK.out; unfold maxLen; omega
   case c3=>have:=HK.out; omega
   intro g2 c2 w2 hrow3 hb3;have hk7:k<7 - s.size % 8:=by have:=HK.out; omega
   go_wp2_with fail
   go_roundg (gk - 1)
   case measure=>have:=HK.out; omega
   case rel=>
    refine ⟨g2,c2,k+1,rfl,by have:=HK.out; omega,?_,(hbel2.alloc hsz _).trans hb3⟩
    have hP:bs (s.data.toList ++ List.replicate k 0) ++ [.int .u8 0]=bs (s.data.toList ++ List.replicate (k+1) 0):=by
     rw [List.replicate_succ']; simp [bs]
    rw [hP] at hrow3;exact hrow3
end Go.Proofs.YtlailakofhenkabGreatDoor
namespace Go.Proofs.YtlailakofhenkabGreatDoor
open Go.RowKit Sip Hex
theorem RowAt.store {B:Nat} {w:World} {g c n:Nat} {cs:List Value} (h:RowAt B w g c n cs) {j:Nat} (hj:j<n) (u:Value):RowAt B (w.setCell ⟨g,j,none⟩ u) g c n (cs.set j u):=by
 have hle:=h.le;have hl:=h.len;have hth:=h.there j (by omega)
 obtain ⟨old,hold⟩:=Option.isSome_iff_exists.1 hth.1;refine ⟨h.new,by simp [World.setCell]; exact h.lt,by simp [h.len],h.le,h.max,fun i v hi=>?_,fun i hi=>?_⟩
 ·by_cases hij:i=j
  ·subst hij
   rw [List.getElem?_set_self (by omega)] at hi
   simp at hi; subst hi
   go_simp
  ·rw [List.getElem?_set_ne (by omega)] at hi
   have:=h.holds i v hi;go_simp
 ·have h2:=h.there i hi
  obtain ⟨v,hv⟩:=Option.isSome_iff_exists.1 h2.1;refine ⟨?_,?_⟩
  ·by_cases hij:i=j
   ·subst hij; go_simp
   ·go_simp
  ·simpa using h2.2
theorem run_row_string {P:Program} (w:World) (src dst e:TypeId) (hs:P.underlying src=some (.slice e)) (he:P.underlying e=some (.int .u8)) (hd:P.underlying dst=some .string) (b off len cap:Nat) (l:List UInt8) (hlen:l.length=len)
 (hcell:∀ i,i<len→w.cell? ⟨b,off+i,none⟩=some (.int .u8 ((l.getD i 0).toNat:Int))) :
 (convert src dst (.slice (some ⟨b,off,none⟩) len cap)).run P w=.ok (.string ⟨l.toArray⟩) w:=by
 have h:=run_convert_bytes_arg (P:=P) w src e hs he b off len cap (l.map fun c=>(c.toNat:Int)) (by simpa using hlen) (fun i hi=>by
  rw [hcell i hi];have hi':i<l.length:=by omega
  simp [List.getD,hi']) dst hd
 rw [h];congr 2
 simp [strOfNums,Function.comp_def]
theorem digits_any (n:Nat) (hn:n<16 ^ 16) (w:World) :
 Calls Tryz.prog 216 #[.int .u64 n] w fun e w'=>e=.returned (.string ⟨(hexsN 16 n).toArray⟩)∧Below w.heap.size w w':=by
 go_enter Tryz.func216,Tryz.ntmps216
 go_wp2_with fail
 go_loopg [0,5] 16 (fun gk x i wr=>∃ k:Nat,k+gk=16∧i=.int .i64 k∧x=.int .u64 (rot n k:Nat)∧RowAt w.heap.size wr w.heap.size 16 16 (bs ((hexsN 16 n).take k ++ List.replicate (16 - k) 0))∧Below w.heap.size w wr)
 case atStart=>
  refine ⟨0,rfl,rfl,by rw [rot_zero n hn],?_,(Below.refl _ _).alloc (Nat.le_refl _) _⟩
  refine ⟨Nat.le_refl _,by simp,by simp [bs],by omega,by unfold maxLen; omega,fun j u hj=>?_,fun j hj=>?_⟩
  ·match j with
   |0 | 1 | 2 | 3 | 4 | 5 | 6 | 7 | 8 | 9 | 10 | 11 | 12 | 13 | 14 | 15=>simp [bs] at hj; subst hj; go_simp
   |j+16=>simp [bs] at hj
  ·match j with
   |0 | 1 | 2 | 3 | 4 | 5 | 6 | 7 | 8 | 9 | 10 | 11 | 12 | 13 | 14 | 15=>go_simp
   |j+16=>omega
 case round=>
  obtain ⟨k,hk,rfl,rfl,hrow,hb⟩:=hrel;have HK:Hid (k+gk=16):=hk;have hk16:k≤16:=by omega
  clear hk;by_cases hlt:k<16
  ·go_wp2_with fail
   refine (rotl4 _ _).mono ?_;rintro e w' ⟨rfl,rfl⟩;have hs:=rot_step n k hn hlt;have hX:=rot_lt n (k+1) hn (by omega)
   have hrl:rl ((rot n k:Nat):Int) 4=((rot n (k+1):Nat):Int):=by rw [rl4 _ (rot_lt n k hn hk16),hs.1]
   rw [hrl];have HS:Hid (rot n (k+1) % 16=n / 16 ^ (15 - k) % 16):=hs.2;clear hs hrl;generalize hx:rot n (k+1)=X at *;have HX:Hid (rot n (k+1)=X):=hx;clear hx;have ha:=and15 X;obtain ⟨d,hd⟩:∃ d,d=X % 16:=⟨_,rfl⟩;have hd16:d<16:=by omega
   rw [← hd] at ha;have HD:Hid (d=X % 16):=hd;clear hd;have hth:=hrow.there k hlt;obtain ⟨old,hold⟩:=Option.isSome_iff_exists.1 hth.1;have hfz:=hth.2;clear hth;go_wp2_with fail
   go_roundg (gk - 1)
   case measure=>have:=HK.out; omega
   case rel=>
    refine ⟨k+1,by have:=HK.out; omega,by go_num,by rw [HX.out],?_,hb.setCell (p:=⟨w.heap.size,k,none⟩) (Nat.le_refl _) _⟩
    have hget:((⟨#[48,49,50,51,52,53,54,55,56,57,97,98,99,100,101,102]⟩:ByteArray)[d]'hd16)=hexc d:=by
     clear HD ha;revert d
     decide
    have hv:hexc d=hexc (n / 16 ^ (16 - 1 - k) % 16):=by rw [HD.out,HS.out]
    have hst:=hrow.store hlt (.int .u8 ((hexc d).toNat:Int));rw [hget]
    have hE:(bs ((hexsN 16 n).take k ++ List.replicate (16 - k) 0)).set k (.int .u8 ((hexc d).toNat:Int))=bs ((hexsN 16 n).take (k+1) ++ List.replicate (16 - (k+1)) 0):=by
     have hl:((hexsN 16 n).take k).length=k:=by rw [List.length_take,hexsN_length]; omega
     have hg:=hexsN_get 16 n k hlt
     have ht:(hexsN 16 n).take (k+1)=(hexsN 16 n).take k ++ [hexc d]:=by
      rw [List.take_add_one,hg,hv]; rfl
     rw [ht,show 16 - k=(16 - (k+1))+1 by omega,List.replicate_succ]
     simp only [bs,List.map_append,List.map_cons];rw [List.set_append_right _ _ (by rw [List.length_map,hl]; exact Nat.le_refl _),List.length_map,hl,Nat.sub_self]
     simp
    rw [hE] at hst;exact hst
  ·obtain rfl:k=16:=by omega
   have hcv:(convert 164 9 (.slice (some ⟨w.heap.size,0,none⟩) 16 16)).run Tryz.prog wr=.ok (.string ⟨(hexsN 16 n).toArray⟩) wr:=by
    refine run_row_string wr _ _ 5 Tryz.underlying164 Tryz.underlying5 Tryz.underlying9 _ _ _ _ _ (hexsN_length 16 n) (fun i hi=>?_);rw [Nat.zero_add];refine hrow.holds i _ ?_;have hl:(hexsN 16 n).length=16:=hexsN_length 16 n;rw [List.take_of_length_le (by omega)]
    simp [bs,List.getD,hl,hi]
   go_wp2_with fail
   go_ret;exact ⟨rfl,hb⟩
end Go.Proofs.YtlailakofhenkabGreatDoor
namespace Go.Proofs.YtlailakofhenkabGreatDoor
open Go.RowKit Sip
theorem eat_any (s:St) (x:Int) (g B:Nat) (hB:B≤g) (w:World) (h:IsSt w g s) :
 Calls Tryz.prog 286 #[.int .u64 x,.pointer (some ⟨g,0,none⟩)] w fun e w'=>e=.returned (.tuple #[])∧IsSt w' g (eatS s x)∧Below B w w':=by
 have HE:Hid (eatS s x=⟨xr (rnds 2 ⟨s.a,s.b,s.c,xr s.d x⟩).a x,(rnds 2 ⟨s.a,s.b,s.c,xr s.d x⟩).b,(rnds 2 ⟨s.a,s.b,s.c,xr s.d x⟩).c,(rnds 2 ⟨s.a,s.b,s.c,xr s.d x⟩).d⟩):=rfl;have h1:=h.setD (xr s.d x);have hr:Calls Tryz.prog 287 #[.pointer (some ⟨g,0,none⟩),.int .i64 2] (w.setCell ⟨g,3,none⟩ (.int .u64 (bits .xor .u64 s.d x))) _:=rounds_any ⟨s.a,s.b,s.c,xr s.d x⟩ g 2 B hB _ (by decide) h1
 generalize hR:rnds 2 ⟨s.a,s.b,s.c,xr s.d x⟩=R at *;have HR:Hid (_=R):=hR;clear hR h1;have Hr:Hid (Calls Tryz.prog 287 #[.pointer (some ⟨g,0,none⟩),.int .i64 2] (w.setCell ⟨g,3,none⟩ (.int .u64 (bits .xor .u64 s.d x))) _):=hr;clear hr;obtain ⟨ha,hb,hc,hd,fa,fb,fc,fd⟩:=h;go_enter Tryz.func286,Tryz.ntmps286
 go_wp2_with fail
 refine Hr.out.mono ?_;rintro e w1 ⟨rfl,hst,hb1⟩;clear ha hb hc hd fa fb fc fd;have hst':=hst;obtain ⟨ha,hb,hc,hd,fa,fb,fc,fd⟩:=hst';go_wp2
 go_end0
 refine ⟨rfl,?_,?_⟩
 ·rw [HE.out]
  exact hst.setA _
 ·exact (((Below.refl _ _).setCell (p:=⟨g,_,none⟩) hB _).trans hb1).setCell (p:=⟨g,_,none⟩) hB _
theorem word_any (s:ByteArray) (w:World) (hs:s.size≤8) :
 Calls Tryz.prog 288 #[.string s] w fun e w'=>e=.returned (.int .u64 (le s.data.toList))∧∃ n,w'=w.drewN n:=by
 go_enter Tryz.func288,Tryz.ntmps288
 go_wp2
 go_loopw [3,7] (fun x i wr=>∃ k m:Nat,k≤s.size∧i=.int .i64 k∧x=.int .u64 (le (s.data.toList.take k))∧wr=w.drewN m) (fun _ i _=>s.size - (intOf i).toNat)
 case atStart=>exact ⟨0,0,Nat.zero_le _,rfl,rfl,rfl⟩
 case round=>
  obtain ⟨k,m,hk,rfl,rfl,rfl⟩:=hrel;by_cases hlt:k<s.size
  ·go_wp2
   go_roundw
   case rel=>
    refine ⟨k+1,m,by omega,by go_num,?_,rfl⟩
    have ht:s.data.toList.take (k+1)=s.data.toList.take k ++ [s[k]]:=by
     rw [List.take_succ_eq_append_getElem (by simpa using hlt)]; rfl
    have hl:(s.data.toList.take k).length=k:=by rw [List.length_take]; simp; omega
    have hb:=le_lt (s.data.toList.take k);rw [hl] at hb;rw [ht,le_snoc,hl,or_step _ _ _ hb (by omega)]
   case measure=>simp [intOf]; omega
  ·obtain rfl:k=s.size:=by omega
   go_wp2
   go_ret;exact ⟨by rw [List.take_of_length_le (by simp)]; rfl,m,rfl⟩
theorem IsSt.drewN {w:World} {g:Nat} {s:St} (h:IsSt w g s) (n:Nat):IsSt (w.drewN n) g s:=⟨h.a,h.b,h.c,h.d,h.fa,h.fb,h.fc,h.fd⟩
theorem macSum_any (k0 k1:Int) (s:ByteArray) (w:World) (hs:s.size≤9223372036854775807) :
 Calls Tryz.prog 217 #[.int .u64 k0,.int .u64 k1,.string s] w fun e w'=>e=.returned (.int .u64 (sip k0 k1 s.data.toList))∧Below w.heap.size w w':=by
 go_enter Tryz.func217,Tryz.ntmps217
 go_wp2_with fail
 go_loopg [2] s.size (fun gk v wr=>∃ (t:ByteArray) (q:St),v=.string t∧t.size≤gk∧t.size≤s.size∧IsSt wr w.heap.size q∧Below w.heap.size w wr∧w.heap.size<wr.heap.size∧sip k0 k1 s.data.toList=fin (s.size % 256) gk q t.data.toList)
 case atStart=>
  refine ⟨s,Sip.start k0 k1,rfl,Nat.le_refl _,Nat.le_refl _,?_,(Below.refl _ _).alloc (Nat.le_refl _) _,by simp,by unfold sip; simp⟩
  constructor <;> go_simp <;> rfl
 case round=>
  obtain ⟨t,q,rfl,ht,hts,hst,hb,hgs,he⟩:=hrel;have HE:Hid (sip k0 k1 s.data.toList=fin (s.size % 256) gk q t.data.toList):=he;clear he;by_cases h8:8≤t.size
  ·have hw:=word_any (t.extract 0 8) wr (by simp; omega)
   go_wp2_with fail
   refine hw.mono ?_;rintro e w1 ⟨rfl,n1,rfl⟩;go_wp2_with fail
   refine (eat_any q _ w.heap.size w.heap.size (Nat.le_refl _) _ (hst.drewN n1)).mono ?_;rintro e w2 ⟨rfl,hst2,hb2⟩;go_wp2_with fail
   go_roundg (gk - 1)
   case measure=>omega
   case rel=>
    refine ⟨_,_,rfl,?_,?_,hst2,(below_drewN hb n1).trans hb2,Nat.lt_of_lt_of_le hgs hb2.size,?_⟩
    ·simp; omega
    ·simp; omega
    ·obtain ⟨g1,rfl⟩:∃ g1,gk=g1+1:=⟨gk - 1,by omega⟩
     rw [HE.out];simp only [fin,Nat.add_sub_cancel];rw [if_pos (by simpa using h8)]
     simp only [ByteArray.data_extract,Array.toList_extract];congr 1
     have hl:t.data.toList.length=t.size:=by simp
     show _=(t.data.toList.drop 8).take (t.size - 8)
     rw [List.take_of_length_le (by rw [List.length_drop]; omega)]
  ·have hw:=word_any t wr (by omega)
   go_wp2_with fail
   refine hw.mono ?_;rintro e w1 ⟨rfl,n1,rfl⟩;go_wp2_with fail
   have hl:t.data.toList.length=t.size:=by simp
   have HF:Hid (sip k0 k1 s.data.toList=close (eatS q ((le t.data.toList+s.size % 256*256 ^ 7:Nat):Int))):=by
    refine HE.out.trans ?_
    cases gk with
    |zero=>rfl
    |succ g1=>simp only [fin]; rw [if_neg (by omega)]
   rw [top_step _ _ (by omega)]
   generalize hX:((le t.data.toList+s.size % 256*256 ^ 7:Nat):Int)=X at *;clear hX;refine (eat_any q X w.heap.size w.heap.size (Nat.le_refl _) _ (hst.drewN n1)).mono ?_;rintro e w2 ⟨rfl,hst2,hb2⟩;have HS2:Hid (IsSt w2 w.heap.size (eatS q X)):=hst2;have HB:Hid (Below w.heap.size w w2):=(below_drewN hb n1).trans hb2;have hgs2:w.heap.size<w2.heap.size:=Nat.lt_of_lt_of_le hgs hb2.size;clear hst hb2 hb hw;generalize eatS q X=R at *;obtain ⟨ha,hb,hc,hd,fa,fb,fc,fd⟩:=hst2;go_wp2_with fail
   refine (rounds_any ⟨R.a,R.b,xr R.c 255,R.d⟩ w.heap.size 4 w.heap.size (Nat.le_refl _) _ (by decide) (HS2.out.setC _)).mono ?_
   rintro e w3 ⟨rfl,hst3,hb3⟩;clear ha hb hc hd fa fb fc fd;have HC:Hid (close R=xr (xr (xr (rnds 4 ⟨R.a,R.b,xr R.c 255,R.d⟩).a (rnds 4 ⟨R.a,R.b,xr R.c 255,R.d⟩).b) (rnds 4 ⟨R.a,R.b,xr R.c 255,R.d⟩).c) (rnds 4 ⟨R.a,R.b,xr R.c 255,R.d⟩).d):=rfl;generalize rnds 4 ⟨R.a,R.b,xr R.c 255,R.d⟩=T at *;obtain ⟨ha,hb,hc,hd,fa,fb,fc,fd⟩:=hst3;go_wp2_with fail
   go_ret;refine ⟨?_,?_⟩
   ·rw [HF.out,HC.out]; rfl
   ·exact (HB.out.setCell (p:=⟨w.heap.size,_,none⟩) (Nat.le_refl _) _).trans hb3
end Go.Proofs.YtlailakofhenkabGreatDoor
