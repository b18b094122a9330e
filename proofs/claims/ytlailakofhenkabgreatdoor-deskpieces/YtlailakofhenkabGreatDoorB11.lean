import Derived.Test.YtlailakofhenkabGreatDoorB3
import Derived.Test.YtlailakofhenkabGreatDoorB4
set_option maxRecDepth 100000
set_option maxHeartbeats 2000000
namespace Go.Proofs.YtlailakofhenkabGreatDoor
open Go.RowKit Sip
theorem rotl_any (x:Int) (k:Int) (w:World) (k0:0<k) (k1:k<64):
 Calls Tryz.prog 218 #[.int .u64 x,.int .i64 k] w fun e w'=>e=.returned (.int .u64 (rl x k))∧w'=w:=by
 have hk:=and63 k k0 k1;go_enter Tryz.func218,Tryz.ntmps218
 go_wp2
 go_ret;exact ⟨rfl,rfl⟩
theorem rotl4 (x:Int) (w:World):Calls Tryz.prog 218 #[.int .u64 x,.int .i64 4] w fun e w'=>e=.returned (.int .u64 (rl x 4))∧w'=w:=rotl_any x 4 w (by decide) (by decide)
theorem rotl13 (x:Int) (w:World):Calls Tryz.prog 218 #[.int .u64 x,.int .i64 13] w fun e w'=>e=.returned (.int .u64 (rl x 13))∧w'=w:=rotl_any x 13 w (by decide) (by decide)
theorem rotl16 (x:Int) (w:World):Calls Tryz.prog 218 #[.int .u64 x,.int .i64 16] w fun e w'=>e=.returned (.int .u64 (rl x 16))∧w'=w:=rotl_any x 16 w (by decide) (by decide)
theorem rotl17 (x:Int) (w:World):Calls Tryz.prog 218 #[.int .u64 x,.int .i64 17] w fun e w'=>e=.returned (.int .u64 (rl x 17))∧w'=w:=rotl_any x 17 w (by decide) (by decide)
theorem rotl21 (x:Int) (w:World):Calls Tryz.prog 218 #[.int .u64 x,.int .i64 21] w fun e w'=>e=.returned (.int .u64 (rl x 21))∧w'=w:=rotl_any x 21 w (by decide) (by decide)
theorem rotl32 (x:Int) (w:World):Calls Tryz.prog 218 #[.int .u64 x,.int .i64 32] w fun e w'=>e=.returned (.int .u64 (rl x 32))∧w'=w:=rotl_any x 32 w (by decide) (by decide)
structure IsSt (w:World) (g:Nat) (s:St):Prop where
 a:w.cell? ⟨g,0,none⟩=some (.int .u64 s.a)
 b:w.cell? ⟨g,1,none⟩=some (.int .u64 s.b)
 c:w.cell? ⟨g,2,none⟩=some (.int .u64 s.c)
 d:w.cell? ⟨g,3,none⟩=some (.int .u64 s.d)
 fa:w.frozen? ⟨g,0,none⟩=false
 fb:w.frozen? ⟨g,1,none⟩=false
 fc:w.frozen? ⟨g,2,none⟩=false
 fd:w.frozen? ⟨g,3,none⟩=false
theorem IsSt.drew {w:World} {g:Nat} {s:St} (h:IsSt w g s):IsSt w.drew g s:=⟨h.a,h.b,h.c,h.d,h.fa,h.fb,h.fc,h.fd⟩
theorem IsSt.setA {w:World} {g:Nat} {s:St} (h:IsSt w g s) (x:Int):IsSt (w.setCell ⟨g,0,none⟩ (.int .u64 x)) g ⟨x,s.b,s.c,s.d⟩:=by
 obtain ⟨ha,hb,hc,hd,fa,fb,fc,fd⟩:=h;constructor <;> go_simp
theorem IsSt.setB {w:World} {g:Nat} {s:St} (h:IsSt w g s) (x:Int):IsSt (w.setCell ⟨g,1,none⟩ (.int .u64 x)) g ⟨s.a,x,s.c,s.d⟩:=by
 obtain ⟨ha,hb,hc,hd,fa,fb,fc,fd⟩:=h;constructor <;> go_simp
theorem IsSt.setC {w:World} {g:Nat} {s:St} (h:IsSt w g s) (x:Int):IsSt (w.setCell ⟨g,2,none⟩ (.int .u64 x)) g ⟨s.a,s.b,x,s.d⟩:=by
 obtain ⟨ha,hb,hc,hd,fa,fb,fc,fd⟩:=h;constructor <;> go_simp
theorem IsSt.setD {w:World} {g:Nat} {s:St} (h:IsSt w g s) (x:Int):IsSt (w.setCell ⟨g,3,none⟩ (.int .u64 x)) g ⟨s.a,s.b,s.c,x⟩:=by
 obtain ⟨ha,hb,hc,hd,fa,fb,fc,fd⟩:=h;constructor <;> go_simp
theorem rounds_any (s:St) (g n B:Nat) (hB:B≤g) (w:World) (hn:n<100) (h:IsSt w g s) :
 Calls Tryz.prog 287 #[.pointer (some ⟨g,0,none⟩),.int .i64 n] w fun e w'=>e=.returned (.tuple #[])∧IsSt w' g (rnds n s)∧Below B w w':=by
 go_enter Tryz.func287,Tryz.ntmps287
 go_wp2
 go_loopg [5] n (fun gg i wr=>∃ k:Nat,k≤n∧gg=n - k∧i=.int .i64 k∧IsSt wr g (rnds k s)∧Below B w wr)
 case atStart=>exact ⟨0,Nat.zero_le _,rfl,rfl,h,Below.refl _ _⟩
 case round=>
  obtain ⟨k,hk,hgk,rfl,hst,hb⟩:=hrel;have HG:Hid (gk=n - k):=hgk;clear hgk;have HR:Hid (rnd (rnds k s)=rnds (k+1) s):=rfl;generalize hq:rnds k s=q at *;have HQ:Hid (rnds k s=q):=hq;clear hq;obtain ⟨a,b,c,d⟩:=q;obtain ⟨ha,hbb,hc,hd,fa,fb,fc,fd⟩:=hst;dsimp only at ha hbb hc hd
  by_cases hlt:k<n
  ·go_wp2
   go_cut [] from 6 to 119 (fun wx=>IsSt wx g ⟨(ad a b),b,c,d⟩∧Below B w wx)
   case first=>
    go_region
    all_goals (go_wp2_with fail; go_meet)
    all_goals exact ⟨((⟨ha,hbb,hc,hd,fa,fb,fc,fd⟩:IsSt _ g ⟨a,b,c,d⟩).setA _).drew,(hb.setCell (p:=⟨g,_,none⟩) hB _).drew⟩
   obtain ⟨a1,ha1⟩:∃ x,x=ad a b:=⟨_,rfl⟩;rw [← ha1] at hcut;have Ha1:Hid (a1=ad a b):=ha1;clear ha1 ha hbb hc hd fa fb fc fd hb;obtain ⟨⟨ha,hbb,hc,hd,fa,fb,fc,fd⟩,hb⟩:=hcut;dsimp only at ha hbb hc hd
   go_wp2
   go_cut [] from 6 to 119 (fun wx=>IsSt wx g ⟨a1,(xr (rl b 13) a1),c,d⟩∧Below B w wx)
   case first=>
    go_region_with (go_at_call 218; refine (rotl13 _ _).mono ?_; rintro e w' ⟨rfl,rfl⟩)
    all_goals (go_wp2_with fail; go_meet)
    all_goals exact ⟨((⟨ha,hbb,hc,hd,fa,fb,fc,fd⟩:IsSt _ g ⟨a1,b,c,d⟩).setB _).drew,(hb.setCell (p:=⟨g,_,none⟩) hB _).drew⟩
   obtain ⟨b1,hb1⟩:∃ x,x=xr (rl b 13) a1:=⟨_,rfl⟩;rw [← hb1] at hcut;have Hb1:Hid (b1=xr (rl b 13) a1):=hb1;clear hb1 ha hbb hc hd fa fb fc fd hb;obtain ⟨⟨ha,hbb,hc,hd,fa,fb,fc,fd⟩,hb⟩:=hcut;dsimp only at ha hbb hc hd
   go_upto_region 4 with fail
   go_cut [] from 6 to 119 (fun wx=>IsSt wx g ⟨(rl a1 32),b1,c,d⟩∧Below B w wx)
   case first=>
    go_wp2_with (go_at_call 218; refine (rotl32 _ _).mono ?_; rintro e w' ⟨rfl,rfl⟩)
    all_goals (go_wp2_with fail; go_meet)
    all_goals exact ⟨((⟨ha,hbb,hc,hd,fa,fb,fc,fd⟩:IsSt _ g ⟨a1,b1,c,d⟩).setA _),(hb.setCell (p:=⟨g,_,none⟩) hB _)⟩
   obtain ⟨a2,ha2⟩:∃ x,x=rl a1 32:=⟨_,rfl⟩;rw [← ha2] at hcut;have Ha2:Hid (a2=rl a1 32):=ha2;clear ha2 ha hbb hc hd fa fb fc fd hb;obtain ⟨⟨ha,hbb,hc,hd,fa,fb,fc,fd⟩,hb⟩:=hcut;dsimp only at ha hbb hc hd
   go_wp2
   go_cut [] from 6 to 119 (fun wx=>IsSt wx g ⟨a2,b1,(ad c d),d⟩∧Below B w wx)
   case first=>
    go_region
    all_goals (go_wp2_with fail; go_meet)
    all_goals exact ⟨((⟨ha,hbb,hc,hd,fa,fb,fc,fd⟩:IsSt _ g ⟨a2,b1,c,d⟩).setC _).drew,(hb.setCell (p:=⟨g,_,none⟩) hB _).drew⟩
   obtain ⟨c1,hc1⟩:∃ x,x=ad c d:=⟨_,rfl⟩;rw [← hc1] at hcut;have Hc1:Hid (c1=ad c d):=hc1;clear hc1 ha hbb hc hd fa fb fc fd hb;obtain ⟨⟨ha,hbb,hc,hd,fa,fb,fc,fd⟩,hb⟩:=hcut;dsimp only at ha hbb hc hd
   go_wp2
   go_cut [] from 6 to 119 (fun wx=>IsSt wx g ⟨a2,b1,c1,(xr (rl d 16) c1)⟩∧Below B w wx)
   case first=>
    go_region_with (go_at_call 218; refine (rotl16 _ _).mono ?_; rintro e w' ⟨rfl,rfl⟩)
    all_goals (go_wp2_with fail; go_meet)
    all_goals exact ⟨((⟨ha,hbb,hc,hd,fa,fb,fc,fd⟩:IsSt _ g ⟨a2,b1,c1,d⟩).setD _).drew,(hb.setCell (p:=⟨g,_,none⟩) hB _).drew⟩
   obtain ⟨d1,hd1⟩:∃ x,x=xr (rl d 16) c1:=⟨_,rfl⟩;rw [← hd1] at hcut;have Hd1:Hid (d1=xr (rl d 16) c1):=hd1;clear hd1 ha hbb hc hd fa fb fc fd hb;obtain ⟨⟨ha,hbb,hc,hd,fa,fb,fc,fd⟩,hb⟩:=hcut;dsimp only at ha hbb hc hd
   go_wp2
   go_cut [] from 6 to 119 (fun wx=>IsSt wx g ⟨(ad a2 d1),b1,c1,d1⟩∧Below B w wx)
   case first=>
    go_region
    all_goals (go_wp2_with fail; go_meet)
    all_goals exact ⟨((⟨ha,hbb,hc,hd,fa,fb,fc,fd⟩:IsSt _ g ⟨a2,b1,c1,d1⟩).setA _).drew,(hb.setCell (p:=⟨g,_,none⟩) hB _).drew⟩
   obtain ⟨a3,ha3⟩:∃ x,x=ad a2 d1:=⟨_,rfl⟩;rw [← ha3] at hcut;have Ha3:Hid (a3=ad a2 d1):=ha3;clear ha3 ha hbb hc hd fa fb fc fd hb;obtain ⟨⟨ha,hbb,hc,hd,fa,fb,fc,fd⟩,hb⟩:=hcut;dsimp only at ha hbb hc hd
   go_wp2
   go_cut [] from 6 to 119 (fun wx=>IsSt wx g ⟨a3,b1,c1,(xr (rl d1 21) a3)⟩∧Below B w wx)
   case first=>
    go_region_with (go_at_call 218; refine (rotl21 _ _).mono ?_; rintro e w' ⟨rfl,rfl⟩)
    all_goals (go_wp2_with fail; go_meet)
    all_goals exact ⟨((⟨ha,hbb,hc,hd,fa,fb,fc,fd⟩:IsSt _ g ⟨a3,b1,c1,d1⟩).setD _).drew,(hb.setCell (p:=⟨g,_,none⟩) hB _).drew⟩
   obtain ⟨d2,hd2⟩:∃ x,x=xr (rl d1 21) a3:=⟨_,rfl⟩;rw [← hd2] at hcut;have Hd2:Hid (d2=xr (rl d1 21) a3):=hd2;clear hd2 ha hbb hc hd fa fb fc fd hb;obtain ⟨⟨ha,hbb,hc,hd,fa,fb,fc,fd⟩,hb⟩:=hcut;dsimp only at ha hbb hc hd
   go_wp2
   go_cut [] from 6 to 119 (fun wx=>IsSt wx g ⟨a3,b1,(ad c1 b1),d2⟩∧Below B w wx)
   case first=>
    go_region
    all_goals (go_wp2_with fail; go_meet)
    all_goals exact ⟨((⟨ha,hbb,hc,hd,fa,fb,fc,fd⟩:IsSt _ g ⟨a3,b1,c1,d2⟩).setC _).drew,(hb.setCell (p:=⟨g,_,none⟩) hB _).drew⟩
   obtain ⟨c2,hc2⟩:∃ x,x=ad c1 b1:=⟨_,rfl⟩;rw [← hc2] at hcut;have Hc2:Hid (c2=ad c1 b1):=hc2;clear hc2 ha hbb hc hd fa fb fc fd hb;obtain ⟨⟨ha,hbb,hc,hd,fa,fb,fc,fd⟩,hb⟩:=hcut;dsimp only at ha hbb hc hd
   go_wp2
   go_cut [] from 6 to 119 (fun wx=>IsSt wx g ⟨a3,(xr (rl b1 17) c2),c2,d2⟩∧Below B w wx)
   case first=>
    go_region_with (go_at_call 218; refine (rotl17 _ _).mono ?_; rintro e w' ⟨rfl,rfl⟩)
    all_goals (go_wp2_with fail; go_meet)
    all_goals exact ⟨((⟨ha,hbb,hc,hd,fa,fb,fc,fd⟩:IsSt _ g ⟨a3,b1,c2,d2⟩).setB _).drew,(hb.setCell (p:=⟨g,_,none⟩) hB _).drew⟩
   obtain ⟨b2,hb2⟩:∃ x,x=xr (rl b1 17) c2:=⟨_,rfl⟩;rw [← hb2] at hcut;have Hb2:Hid (b2=xr (rl b1 17) c2):=hb2;clear hb2 ha hbb hc hd fa fb fc fd hb;obtain ⟨⟨ha,hbb,hc,hd,fa,fb,fc,fd⟩,hb⟩:=hcut;dsimp only at ha hbb hc hd
   go_wp2_with (go_at_call 218; refine (rotl32 _ _).mono ?_; rintro e w' ⟨rfl,rfl⟩)
   go_roundg (n - (k+1))
   case measure=>have:=HG.out; omega
   case rel=>
    refine ⟨k+1,by omega,rfl,by go_num,?_,(hb.setCell (p:=⟨g,_,none⟩) hB _)⟩
    rw [← HR.out]
    have hE:rnd ⟨a,b,c,d⟩=⟨a3,b2,rl c2 32,d2⟩:=by
     rw [Hb2.out,Hc2.out,Hd2.out,Ha3.out,Hd1.out,Hc1.out,Ha2.out,Hb1.out,Ha1.out]; rfl
    rw [hE];exact (⟨ha,hbb,hc,hd,fa,fb,fc,fd⟩:IsSt _ g ⟨a3,b2,c2,d2⟩).setC _
  ·obtain rfl:k=n:=by omega
   go_wp2
   go_end0
   exact ⟨rfl,by rw [HQ.out]; exact ⟨ha,hbb,hc,hd,fa,fb,fc,fd⟩,hb⟩
end Go.Proofs.YtlailakofhenkabGreatDoor
namespace Go.Proofs.YtlailakofhenkabGreatDoor
namespace Sip
def fin (top:Nat):Nat→St→List UInt8→Int
 |0,q,l=>close (eatS q ((le l+top*256 ^ 7:Nat):Int))
 |f+1,q,l=>if 8≤l.length then fin top f (eatS q (le (l.take 8))) (l.drop 8) else close (eatS q ((le l+top*256 ^ 7:Nat):Int))
def sip (k0 k1:Int) (l:List UInt8):Int:=fin (l.length % 256) l.length (start k0 k1) l
theorem top_step (l:List UInt8) (n:Nat) (h:l.length≤7) :
 bits .or .u64 (le l:Int) (IntKind.u64.wrap ((n:Int)*72057594037927936))=((le l+n % 256*256 ^ 7:Nat):Int):=by
 have h1:le l<256 ^ 7:=Nat.lt_of_lt_of_le (le_lt l) (Nat.pow_le_pow_right (by decide) h)
 have e1:IntKind.u64.wrap ((n:Int)*72057594037927936)=((n % 256*256 ^ 7:Nat):Int):=by rw [IntKind.wrap_u64]; omega
 rw [e1,bits_or_nat _ _ (by omega) (by omega),or_disjoint _ _ _ h1]
end Sip
end Go.Proofs.YtlailakofhenkabGreatDoor
namespace Go.Proofs.YtlailakofhenkabGreatDoor
open Go.RowKit Sip
def bs (l:List UInt8):List Value:=l.map fun b=>.int .u8 (b.toNat:Int)
end Go.Proofs.YtlailakofhenkabGreatDoor
set_option maxHeartbeats 1000000
namespace Go.Proofs.YtlailakofhenkabGreatDoor
open Go.RowKit Sip Hex
theorem RowAt.store {B:Nat} {w:World} {g c n:Nat} {cs:List Value} (h:RowAt B w g c n cs) {j:Nat} (hj:j<n) (u:Value):RowAt B (w.setCell ⟨g,j,none⟩ u) g c n (cs.set j u):=by
 have hle:=h.le;have hl:=h.len;have hth:=h.there j (by omega)
 obtain ⟨old,hold⟩:=Option.isSome_iff_exists.1 hth.1;refine ⟨h.new,by simp [World.setCell]; exact h.lt,by simp [h.len],h.le,h.max,fun i v hi=>?_,fun i hi=>?_⟩
 ·by_cases hij:i=j
  ·subst hij
   rw [List.getElem?_set_self (by omega)] at hi
   simp at hi; subst hi
   go_simp
  ·rw [List.getElem?_set_ne (by omega)] at hi
   have:=h.holds i v hi;go_simp
 ·have h2:=h.there i hi
  obtain ⟨v,hv⟩:=Option.isSome_iff_exists.1 h2.1;refine ⟨?_,?_⟩
  ·by_cases hij:i=j
   ·subst hij; go_simp
   ·go_simp
  ·simpa using h2.2
theorem run_row_string {P:Program} (w:World) (src dst e:TypeId) (hs:P.underlying src=some (.slice e)) (he:P.underlying e=some (.int .u8)) (hd:P.underlying dst=some .string) (b off len cap:Nat) (l:List UInt8) (hlen:l.length=len)
 (hcell:∀ i,i<len→w.cell? ⟨b,off+i,none⟩=some (.int .u8 ((l.getD i 0).toNat:Int))) :
 (convert src dst (.slice (some ⟨b,off,none⟩) len cap)).run P w=.ok (.string ⟨l.toArray⟩) w:=by
 have h:=run_convert_bytes_arg (P:=P) w src e hs he b off len cap (l.map fun c=>(c.toNat:Int)) (by simpa using hlen) (fun i hi=>by
  rw [hcell i hi];have hi':i<l.length:=by omega
  simp [List.getD,hi']) dst hd
 rw [h];congr 2
 simp [strOfNums,Function.comp_def]
theorem digits_any (n:Nat) (hn:n<16 ^ 16) (w:World) :
 Calls Tryz.prog 216 #[.int .u64 n] w fun e w'=>e=.returned (.string ⟨(hexsN 16 n).toArray⟩)∧Below w.heap.size w w':=by
 go_enter Tryz.func216,Tryz.ntmps216
 go_wp2_with fail
 go_loopg [0,5] 16 (fun gk x i wr=>∃ k:Nat,k+gk=16∧i=.int .i64 k∧x=.int .u64 (rot n k:Nat)∧RowAt w.heap.size wr w.heap.size 16 16 (bs ((hexsN 16 n).take k ++ List.replicate (16 - k) 0))∧Below w.heap.size w wr)
 case atStart=>
  refine ⟨0,rfl,rfl,by rw [rot_zero n hn],?_,(Below.refl _ _).alloc (Nat.le_refl _) _⟩
  refine ⟨Nat.le_refl _,by simp,by simp [bs],by omega,by unfold maxLen; omega,fun j u hj=>?_,fun j hj=>?_⟩
  ·match j with
   |0 | 1 | 2 | 3 | 4 | 5 | 6 | 7 | 8 | 9 | 10 | 11 | 12 | 13 | 14 | 15=>simp [bs] at hj; subst hj; go_simp
   |j+16=>simp [bs] at hj
  ·match j with
   |0 | 1 | 2 | 3 | 4 | 5 | 6 | 7 | 8 | 9 | 10 | 11 | 12 | 13 | 14 | 15=>go_simp
   |j+16=>omega
 case round=>
  obtain ⟨k,hk,rfl,rfl,hrow,hb⟩:=hrel;have HK:Hid (k+gk=16):=hk;have hk16:k≤16:=by omega
  clear hk;by_cases hlt:k<16
  ·go_wp2_with fail
   refine (rotl4 _ _).mono ?_;rintro e w' ⟨rfl,rfl⟩;have hs:=rot_step n k hn hlt;have hX:=rot_lt n (k+1) hn (by omega)
   have hrl:rl ((rot n k:Nat):Int) 4=((rot n (k+1):Nat):Int):=by rw [rl4 _ (rot_lt n k hn hk16),hs.1]
   rw [hrl];have HS:Hid (rot n (k+1) % 16=n / 16 ^ (15 - k) % 16):=hs.2;clear hs hrl;generalize hx:rot n (k+1)=X at *;have HX:Hid (rot n (k+1)=X):=hx;clear hx;have ha:=and15 X;obtain ⟨d,hd⟩:∃ d,d=X % 16:=⟨_,rfl⟩;have hd16:d<16:=by omega
   rw [← hd] at ha;have HD:Hid (d=X % 16):=hd;clear hd;have hth:=hrow.there k hlt;obtain ⟨old,hold⟩:=Option.isSome_iff_exists.1 hth.1;have hfz:=hth.2;clear hth;go_wp2_with fail
   go_roundg (gk - 1)
   case measure=>have:=HK.out; omega
   case rel=>
    refine ⟨k+1,by have:=HK.out; omega,by go_num,by rw [HX.out],?_,hb.setCell (p:=⟨w.heap.size,k,none⟩) (Nat.le_refl _) _⟩
    have hget:((⟨#[48,49,50,51,52,53,54,55,56,57,97,98,99,100,101,102]⟩:ByteArray)[d]'hd16)=hexc d:=by
     clear HD ha;revert d
     decide
    have hv:hexc d=hexc (n / 16 ^ (16 - 1 - k) % 16):=by rw [HD.out,HS.out]
    have hst:=hrow.store hlt (.int .u8 ((hexc d).toNat:Int));rw [hget]
    have hE:(bs ((hexsN 16 n).take k ++ List.replicate (16 - k) 0)).set k (.int .u8 ((hexc d).toNat:Int))=bs ((hexsN 16 n).take (k+1) ++ List.replicate (16 - (k+1)) 0):=by
     have hl:((hexsN 16 n).take k).length=k:=by rw [List.length_take,hexsN_length]; omega
     have hg:=hexsN_get 16 n k hlt
     have ht:(hexsN 16 n).take (k+1)=(hexsN 16 n).take k ++ [hexc d]:=by
      rw [List.take_add_one,hg,hv]; rfl
     rw [ht,show 16 - k=(16 - (k+1))+1 by omega,List.replicate_succ]
     simp only [bs,List.map_append,List.map_cons];rw [List.set_append_right _ _ (by rw [List.length_map,hl]; exact Nat.le_refl _),List.length_map,hl,Nat.sub_self]
     simp
    rw [hE] at hst;exact hst
  ·obtain rfl:k=16:=by omega
   have hcv:(convert 164 9 (.slice (some ⟨w.heap.size,0,none⟩) 16 16)).run Tryz.prog wr=.ok (.string ⟨(hexsN 16 n).toArray⟩) wr:=by
    refine run_row_string wr _ _ 5 Tryz.underlying164 Tryz.underlying5 Tryz.underlying9 _ _ _ _ _ (hexsN_length 16 n) (fun i hi=>?_);rw [Nat.zero_add];refine hrow.holds i _ ?_;have hl:(hexsN 16 n).length=16:=hexsN_length 16 n;rw [List.take_of_length_le (by omega)]
    simp [bs,List.getD,hl,hi]
   go_wp2_with fail
   go_ret;exact ⟨rfl,hb⟩
end Go.Proofs.YtlailakofhenkabGreatDoor
namespace Go.Proofs.YtlailakofhenkabGreatDoor
open Go.RowKit Sip
theorem eat_any (s:St) (x:Int) (g B:Nat) (hB:B≤g) (w:World) (h:IsSt w g s) :
 Calls Tryz.prog 286 #[.int .u64 x,.pointer (some ⟨g,0,none⟩)] w fun e w'=>e=.returned (.tuple #[])∧IsSt w' g (eatS s x)∧Below B w w':=by
 have HE:Hid (eatS s x=⟨xr (rnds 2 ⟨s.a,s.b,s.c,xr s.d x⟩).a x,(rnds 2 ⟨s.a,s.b,s.c,xr s.d x⟩).b,(rnds 2 ⟨s.a,s.b,s.c,xr s.d x⟩).c,(rnds 2 ⟨s.a,s.b,s.c,xr s.d x⟩).d⟩):=rfl;have h1:=h.setD (xr s.d x);have hr:Calls Tryz.prog 287 #[.pointer (some ⟨g,0,none⟩),.int .i64 2] (w.setCell ⟨g,3,none⟩ (.int .u64 (bits .xor .u64 s.d x))) _:=rounds_any ⟨s.a,s.b,s.c,xr s.d x⟩ g 2 B hB _ (by decide) h1
 generalize hR:rnds 2 ⟨s.a,s.b,s.c,xr s.d x⟩=R at *;have HR:Hid (_=R):=hR;clear hR h1;have Hr:Hid (Calls Tryz.prog 287 #[.pointer (some ⟨g,0,none⟩),.int .i64 2] (w.setCell ⟨g,3,none⟩ (.int .u64 (bits .xor .u64 s.d x))) _):=hr;clear hr;obtain ⟨ha,hb,hc,hd,fa,fb,fc,fd⟩:=h;go_enter Tryz.func286,Tryz.ntmps286
 go_wp2_with fail
 refine Hr.out.mono ?_;rintro e w1 ⟨rfl,hst,hb1⟩;clear ha hb hc hd fa fb fc fd;have hst':=hst;obtain ⟨ha,hb,hc,hd,fa,fb,fc,fd⟩:=hst';go_wp2
 go_end0
 refine ⟨rfl,?_,?_⟩
 ·rw [HE.out]
  exact hst.setA _
 ·exact (((Below.refl _ _).setCell (p:=⟨g,_,none⟩) hB _).trans hb1).setCell (p:=⟨g,_,none⟩) hB _
theorem word_any (s:ByteArray) (w:World) (hs:s.size≤8) :
 Calls Tryz.prog 288 #[.string s] w fun e w'=>e=.returned (.int .u64 (le s.data.toList))∧∃ n,w'=w.drewN n:=by
 go_enter Tryz.func288,Tryz.ntmps288
 go_wp2
 go_loopw [3,7] (fun x i wr=>∃ k m:Nat,k≤s.size∧i=.int .i64 k∧x=.int .u64 (le (s.data.toList.take k))∧wr=w.drewN m) (fun _ i _=>s.size - (intOf i).toNat)
 case atStart=>exact ⟨0,0,Nat.zero_le _,rfl,rfl,rfl⟩
 case round=>
  obtain ⟨k,m,hk,rfl,rfl,rfl⟩:=hrel;by_cases hlt:k<s.size
  ·go_wp2
   go_roundw
   case rel=>
    refine ⟨k+1,m,by omega,by go_num,?_,rfl⟩
    have ht:s.data.toList.take (k+1)=s.data.toList.take k ++ [s[k]]:=by
     rw [List.take_succ_eq_append_getElem (by simpa using hlt)]; rfl
    have hl:(s.data.toList.take k).length=k:=by rw [List.length_take]; simp; omega
    have hb:=le_lt (s.data.toList.take k);rw [hl] at hb;rw [ht,le_snoc,hl,or_step _ _ _ hb (by omega)]
   case measure=>simp [intOf]; omega
  ·obtain rfl:k=s.size:=by omega
   go_wp2
   go_ret;exact ⟨by rw [List.take_of_length_le (by simp)]; rfl,m,rfl⟩
theorem IsSt.drewN {w:World} {g:Nat} {s:St} (h:IsSt w g s) (n:Nat):IsSt (w.drewN n) g s:=⟨h.a,h.b,h.c,h.d,h.fa,h.fb,h.fc,h.fd⟩
theorem macSum_any (k0 k1:Int) (s:ByteArray) (w:World) (hs:s.size≤9223372036854775807) :
 Calls Tryz.prog 217 #[.int .u64 k0,.int .u64 k1,.string s] w fun e w'=>e=.returned (.int .u64 (sip k0 k1 s.data.toList))∧Below w.heap.size w w':=by
 go_enter Tryz.func217,Tryz.ntmps217
 go_wp2_with fail
 go_loopg [2] s.size (fun gk v wr=>∃ (t:ByteArray) (q:St),v=.string t∧t.size≤gk∧t.size≤s.size∧IsSt wr w.heap.size q∧Below w.heap.size w wr∧w.heap.size<wr.heap.size∧sip k0 k1 s.data.toList=fin (s.size % 256) gk q t.data.toList)
 case atStart=>
  refine ⟨s,Sip.start k0 k1,rfl,Nat.le_refl _,Nat.le_refl _,?_,(Below.refl _ _).alloc (Nat.le_refl _) _,by simp,by unfold sip; simp⟩
  constructor <;> go_simp <;> rfl
 case round=>
  obtain ⟨t,q,rfl,ht,hts,hst,hb,hgs,he⟩:=hrel;have HE:Hid (sip k0 k1 s.data.toList=fin (s.size % 256) gk q t.data.toList):=he;clear he;by_cases h8:8≤t.size
  ·have hw:=word_any (t.extract 0 8) wr (by simp; omega)
   go_wp2_with fail
   refine hw.mono ?_;rintro e w1 ⟨rfl,n1,rfl⟩;go_wp2_with fail
   refine (eat_any q _ w.heap.size w.heap.size (Nat.le_refl _) _ (hst.drewN n1)).mono ?_;rintro e w2 ⟨rfl,hst2,hb2⟩;go_wp2_with fail
   go_roundg (gk - 1)
   case measure=>omega
   case rel=>
    refine ⟨_,_,rfl,?_,?_,hst2,(below_drewN hb n1).trans hb2,Nat.lt_of_lt_of_le hgs hb2.size,?_⟩
    ·simp; omega
    ·simp; omega
    ·obtain ⟨g1,rfl⟩:∃ g1,gk=g1+1:=⟨gk - 1,by omega⟩
     rw [HE.out];simp only [fin,Nat.add_sub_cancel];rw [if_pos (by simpa using h8)]
     simp only [ByteArray.data_extract,Array.toList_extract];congr 1
     have hl:t.data.toList.length=t.size:=by simp
     show _=(t.data.toList.drop 8).take (t.size - 8)
     rw [List.take_of_length_le (by rw [List.length_drop]; omega)]
  ·have hw:=word_any t wr (by omega)
   go_wp2_with fail
   refine hw.mono ?_;rintro e w1 ⟨rfl,n1,rfl⟩;go_wp2_with fail
   have hl:t.data.toList.length=t.size:=by simp
   have HF:Hid (sip k0 k1 s.data.toList=close (eatS q ((le t.data.toList+s.size % 256*256 ^ 7:Nat):Int))):=by
    refine HE.out.trans ?_
    cases gk with
    |zero=>rfl
    |succ g1=>simp only [fin]; rw [if_neg (by omega)]
   rw [top_step _ _ (by omega)]
   generalize hX:((le t.data.toList+s.size % 256*256 ^ 7:Nat):Int)=X at *;clear hX;refine (eat_any q X w.heap.size w.heap.size (Nat.le_refl _) _ (hst.drewN n1)).mono ?_;rintro e w2 ⟨rfl,hst2,hb2⟩;have HS2:Hid (IsSt w2 w.heap.size (eatS q X)):=hst2;have HB:Hid (Below w.heap.size w w2):=(below_drewN hb n1).trans hb2;have hgs2:w.heap.size<w2.heap.size:=Nat.lt_of_lt_of_le hgs hb2.size;clear hst hb2 hb hw;generalize eatS q X=R at *;obtain ⟨ha,hb,hc,hd,fa,fb,fc,fd⟩:=hst2;go_wp2_with fail
   refine (rounds_any ⟨R.a,R.b,xr R.c 255,R.d⟩ w.heap.size 4 w.heap.size (Nat.le_refl _) _ (by decide) (HS2.out.setC _)).mono ?_
   rintro e w3 ⟨rfl,hst3,hb3⟩;clear ha hb hc hd fa fb fc fd;have HC:Hid (close R=xr (xr (xr (rnds 4 ⟨R.a,R.b,xr R.c 255,R.d⟩).a (rnds 4 ⟨R.a,R.b,xr R.c 255,R.d⟩).b) (rnds 4 ⟨R.a,R.b,xr R.c 255,R.d⟩).c) (rnds 4 ⟨R.a,R.b,xr R.c 255,R.d⟩).d):=rfl;generalize rnds 4 ⟨R.a,R.b,xr R.c 255,R.d⟩=T at *;obtain ⟨ha,hb,hc,hd,fa,fb,fc,fd⟩:=hst3;go_wp2_with fail
   go_ret;refine ⟨?_,?_⟩
   ·rw [HF.out,HC.out]; rfl
   ·exact (HB.out.setCell (p:=⟨w.heap.size,_,none⟩) (Nat.le_refl _) _).trans hb3
end Go.Proofs.YtlailakofhenkabGreatDoor
namespace Go.Proofs.YtlailakofhenkabGreatDoor
open Go.RowKit Sip Hex
def tag (key:Int) (l:List UInt8):List UInt8:=hexsN 16 (sip (IntKind.u64.wrap key) (rl (IntKind.u64.wrap key) 32) l).toNat
theorem fin_bd (top f:Nat) (q:St) (l:List UInt8):0≤fin top f q l∧fin top f q l<18446744073709551616:=by
 induction f generalizing q l with
 |zero=>exact xr_bd _ _
 |succ f ih=>
  unfold fin;split
  ·exact ih _ _
  ·exact xr_bd _ _
theorem sip_bd (k0 k1:Int) (l:List UInt8):0≤sip k0 k1 l∧sip k0 k1 l<18446744073709551616:=fin_bd _ _ _ _
theorem macTag_any (key:Int) (s:ByteArray) (w:World) (hs:s.size≤9223372036854775807) :
 Calls Tryz.prog 137 #[.int .i64 key,.string s] w fun e w'=>e=.returned (.string ⟨(tag key s.data.toList).toArray⟩)∧Below w.heap.size w w':=by
 have hbd:=sip_bd (IntKind.u64.wrap key) (rl (IntKind.u64.wrap key) 32) s.data.toList;obtain ⟨n,hn⟩:=Int.eq_ofNat_of_zero_le hbd.1;have HT:Hid (tag key s.data.toList=hexsN 16 n):=by unfold tag Hid; rw [hn]; rfl
 have HN:Hid (sip (IntKind.u64.wrap key) (rl (IntKind.u64.wrap key) 32) s.data.toList=(n:Int)):=hn;have hn2:n<16 ^ 16:=by omega
 clear hn hbd;go_enter Tryz.func137,Tryz.ntmps137
 go_wp2_with fail
 refine (rotl32 _ _).mono ?_;rintro e w1 ⟨rfl,rfl⟩;go_wp2_with fail
 refine (macSum_any _ _ s _ hs).mono ?_;rintro e w2 ⟨rfl,hb2⟩;rw [HN.out];go_wp2_with fail
 refine (digits_any n hn2 _).mono ?_;rintro e w3 ⟨rfl,hb3⟩;go_wp2_with fail
 go_ret;exact ⟨by rw [HT.out]; rfl,hb2.trans (hb3.mono hb2.size)⟩
end Go.Proofs.YtlailakofhenkabGreatDoor
namespace Go.Proofs.YtlailakofhenkabGreatDoor
open Go.RowKit Sip
theorem u8_bits_nat (op:BinOp) (f:Nat→Nat→Nat) (hf:∀ a b,a<256→b<256→f a b<256) (h:∀ a b:BitVec 8,(match op with
 |.and=>a &&& b
 |.or=>a ||| b
 |.xor=>a ^^^ b
 |_=>a &&& ~~~b).toNat=f a.toNat b.toNat) (a b:Nat) (ha:a<256) (hb:b<256):bits op .u8 (a:Int) (b:Int)=((f a b:Nat):Int):=by
 have h1:(BitVec.ofInt 8 (a:Int)).toNat=a:=by
  rw [BitVec.ofInt_natCast,BitVec.toNat_ofNat]; exact Nat.mod_eq_of_lt (by omega)
 have h2:(BitVec.ofInt 8 (b:Int)).toNat=b:=by
  rw [BitVec.ofInt_natCast,BitVec.toNat_ofNat]; exact Nat.mod_eq_of_lt (by omega)
 show IntKind.u8.wrap ((_:Nat):Int)=_
 have:=h (BitVec.ofInt 8 (a:Int)) (BitVec.ofInt 8 (b:Int));rw [h1,h2] at this;have h3:=hf a b ha hb
 show IntKind.u8.wrap (((match op with
  |.and=>(BitVec.ofInt 8 (a:Int)) &&& (BitVec.ofInt 8 (b:Int))
  |.or=>(BitVec.ofInt 8 (a:Int)) ||| (BitVec.ofInt 8 (b:Int))
  |.xor=>(BitVec.ofInt 8 (a:Int)) ^^^ (BitVec.ofInt 8 (b:Int))
  |_=>(BitVec.ofInt 8 (a:Int)) &&& ~~~(BitVec.ofInt 8 (b:Int))).toNat:Nat):Int)=_
 rw [this,IntKind.wrap_u8];omega
theorem u8_or (a b:Nat) (ha:a<256) (hb:b<256):bits .or .u8 (a:Int) (b:Int)=((a ||| b:Nat):Int):=
 u8_bits_nat .or (· ||| ·) (fun a b h1 h2=>Nat.or_lt_two_pow (n:=8) h1 h2) (fun a b=>by simp) a b ha hb
theorem u8_xor (a b:Nat) (ha:a<256) (hb:b<256):bits .xor .u8 (a:Int) (b:Int)=((a ^^^ b:Nat):Int):=
 u8_bits_nat .xor (· ^^^ ·) (fun a b h1 h2=>Nat.xor_lt_two_pow (n:=8) h1 h2) (fun a b=>by simp) a b ha hb
theorem xor_zero_iff (a b:Nat):a ^^^ b=0↔a=b:=by
 constructor
 ·intro h
  have:a ^^^ b ^^^ b=0 ^^^ b:=by rw [h]
  simpa [Nat.xor_assoc] using this
 ·rintro rfl; simp
theorem same_any (a b:ByteArray) (w:World) (ha:a.size≤9223372036854775807) (_hb:b.size≤9223372036854775807) :
 Calls Tryz.prog 145 #[.string a,.string b] w fun e w'=>e=.returned (.bool (decide (a.data.toList=b.data.toList)))∧∃ n,w'=w.drewN n:=by
 go_enter Tryz.func145,Tryz.ntmps145
 by_cases hne:a.size=b.size
 ·go_wp2_with fail
  go_loopg [5,14] a.size (fun gk u i wr=>∃ (k x m:Nat),k+gk=a.size∧i=.int .i64 k∧u=.int .u8 x∧x<256∧(x=0↔a.data.toList.take k=b.data.toList.take k)∧wr=w.drewN m)
  case atStart=>exact ⟨0,0,0,by omega,rfl,rfl,by omega,by simp,rfl⟩
  case round=>
   obtain ⟨k,x,m,hk,rfl,rfl,hx,hxe,rfl⟩:=hrel;have HK:Hid (k+gk=a.size):=hk;have hka:k≤a.size:=by omega
   have HX:Hid (x=0↔a.data.toList.take k=b.data.toList.take k):=hxe;clear hk hxe;by_cases hlt:k<a.size
   ·have hltb:k<b.size:=by omega
    go_wp2_with fail
    go_quiet (fail)
    go_wp2_with fail
    go_roundg (gk - 1)
    case measure=>have:=HK.out; omega
    case rel=>
     have h1:=a[k].toNat_lt;have h2:=b[k].toNat_lt;have hxl:a[k].toNat ^^^ b[k].toNat<256:=Nat.xor_lt_two_pow (n:=8) h1 h2;refine ⟨k+1,x ||| (a[k].toNat ^^^ b[k].toNat),_,by have:=HK.out; omega,by go_num,?_,Nat.or_lt_two_pow (n:=8) hx hxl,?_,rfl⟩
     ·rw [u8_xor _ _ h1 h2,u8_or _ _ hx hxl]
     ·have ta:a.data.toList.take (k+1)=a.data.toList.take k ++ [a[k]]:=by
       rw [List.take_succ_eq_append_getElem (by simpa using hlt)]; rfl
      have tb:b.data.toList.take (k+1)=b.data.toList.take k ++ [b[k]]:=by
       rw [List.take_succ_eq_append_getElem (by simpa using hltb)]; rfl
      have la:(a.data.toList.take k).length=(b.data.toList.take k).length:=by
       have e1:a.data.toList.length=a.size:=by simp
       have e2:b.data.toList.length=b.size:=by simp
       rw [List.length_take,List.length_take,e1,e2,hne]
      rw [ta,tb,Nat.or_eq_zero_iff,xor_zero_iff,HX.out];constructor
      ·rintro ⟨e1,e2⟩
       rw [e1,UInt8.toNat_inj.1 e2]
      ·intro e
       have e':=List.append_inj e la;exact ⟨e'.1,by rw [List.cons.inj e'.2 |>.1]⟩
   ·obtain rfl:k=a.size:=by omega
    go_wp2_with fail
    go_ret;refine ⟨?_,m,rfl⟩;have h:=HX.out;rw [List.take_of_length_le (by simp),List.take_of_length_le (by simp [hne])] at h
    refine congrArg (fun c=>Ending.returned (.bool c)) ?_;show ((x:Int) == 0)=_
    rw [Bool.eq_iff_iff,beq_iff_eq,decide_eq_true_iff,← h];omega
 ·have hd:¬ a.data.toList=b.data.toList:=by
   intro h;have h2:a.data.toList.length=b.data.toList.length:=by rw [h]
   simp at h2
   exact hne h2
  go_wp2_with fail
  go_ret;exact ⟨by rw [decide_eq_false hd]; rfl,0,rfl⟩
end Go.Proofs.YtlailakofhenkabGreatDoor
