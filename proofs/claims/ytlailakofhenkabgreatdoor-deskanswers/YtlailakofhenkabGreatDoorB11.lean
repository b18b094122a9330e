import Derived.Test.YtlailakofhenkabGreatDoorB10
set_option maxRecDepth 100000
set_option maxHeartbeats 1000000
namespace Go.Proofs.YtlailakofhenkabGreatDoor
open Go.RowKit Sip Tryz
def bs(l:List UInt8):List Value:=l.map fun b=>.int .u8 (b.toNat:Int)
theorem ua(w:World)(e:TypeId)(s:ByteArray):Below w.heap.size w (Lib.bytesWorld w e s):=
 ⟨rfl,rfl,rfl,by rw[Lib.bytesWorld_size]; omega,fun k hk=>Lib.bytesWorld_at_old w e s k hk⟩
theorem zF(w:World)(e:TypeId)(s:ByteArray)(hs:s.size<=maxLen):aN w.heap.size (Lib.bytesWorld w e s) w.heap.size (grownCap w s.size 0 e) s.size (bs s.data.toList):=by
 have b:(Lib.bytesCells w e s).size=grownCap w s.size 0 e:=by
  have:=grownCap_ge w s.size 0 e;simp[Lib.bytesCells]; omega
 refine⟨Nat.le_refl _,by rw[Lib.bytesWorld_size]; omega,by simp[bs],grownCap_ge _ _ _ _,grownCap_le_maxLen _ _ _ _ hs,fun j u hj=>?_,fun j hj=>?_⟩
 ·simp only[World.cell?,Lib.bytesWorld_at_new]
  have c:j<s.size:=by
   have:=(List.getElem?_eq_some_iff.1 hj).1;simpa[bs] using this
  simp[Lib.bytesCells,bs,Array.getElem?_append,c] at hj ⊢
  exact hj
 ·simp[World.cell?,World.frozen?,Lib.bytesWorld_at_new,b,hj]
  omega
variable {B g:Nat}{w w' w1:World}
theorem bX.below{s:St}(h:bX w g s)(hb:Below B w w')(hg:g<B):bX w' g s:=
 ⟨(hb.cell (p:=(a_ g 0)) hg).trans h.a,(hb.cell (p:=(a_ g 1)) hg).trans h.b,(hb.cell (p:=(a_ g 2)) hg).trans h.c,(hb.cell (p:=(a_ g 3)) hg).trans h.d,
  (hb.frozen (p:=(a_ g 0)) hg).trans h.fa,(hb.frozen (p:=(a_ g 1)) hg).trans h.fb,(hb.frozen (p:=(a_ g 2)) hg).trans h.fc,(hb.frozen (p:=(a_ g 3)) hg).trans h.fd⟩
theorem BF:(prog.info? 5).map (fun i=>(i.zero,i.size,i.bytes))=some (some (.int .u8 0),1,1):=by kernel_rfl
theorem ub(k0 k1:Int)(s:ByteArray)(w:World)(hs:s.size<=1000000):
 Calls prog 211 #[.int .u64 k0,.int .u64 k1,.string s] w fun e w'=>e=.returned (.int .u64 (sip k0 k1 s.data.toList))∧Below w.heap.size w w':=by
 have Ed:=fun w=>Lib.run_convert_string_bytes (P:=prog) w 9 164 5 s underlying9 underlying164 underlying5
 obtain⟨i0,hi,hz0,hz1,hz2⟩:=info_parts BF;have H:s.size<=maxLen:=by unfold maxLen; omega
 go_enter func211,ntmps211
 go_wp2_with fail
 have A:=zF w 5 s H;have B:=ua w 5 s;generalize Lib.bytesWorld w 5 s=W at *;generalize grownCap w s.size 0 5=C at *;go_loopg [7] (7 - s.size % 8) (fun gk v wr=>∃(g c k:Nat),v=.slice (o_ g 0) (s.size+k) c∧k+gk=7 - s.size % 8∧aN w.heap.size wr g c (s.size+k) (bs (s.data.toList ++ List.replicate k 0))∧Below w.heap.size w wr)
 case atStart=>exact⟨_,_,0,rfl,by omega,by simpa using A,B⟩
 case round=>
  obtain⟨g,c,k,rfl,hk,hrow2,hbel2⟩:=hrel;have J:=hbel2.size;have z:Hid _:=hk;clear hk;by_cases h7:(s.size+k) % 8=7
  ·go_wp2_with (at_builtin; refine dK _ rfl _ _ 164 rfl 5 i0 (.int .u8 0) 1 underlying164 hi hz0 hz1 hz2 rfl w.heap.size g (s.size+k) c _ rfl (hrow2.alloc _) (a_ wr.heap.size 0) 1 (.int .u8 ((s.size:Int) % 256)) rfl ?c1 rfl ?c2 ?c3 ?_)
   case c1=>go_simp
   case c2=>have:=z.o; unfold maxLen; omega
   case c3=>have:=z.o; omega
   intro g2 c2 w2 hrow3 hb3;have f:Below w.heap.size w w2:=(hbel2.alloc J _).trans hb3;have r:k=7 - s.size % 8:=by have:=z.o; omega
   have hP:bs (s.data.toList ++ List.replicate k 0) ++ [.int .u8 ((s.size:Int) % 256)]=bs (pad s.data.toList):=by
    simp[bs,pad,r]
   rw[hP] at hrow3
   have n:aN w.heap.size w2 g2 c2 (pad s.data.toList).length (bs (pad s.data.toList)):=by
    have e:s.size+k+1=(pad s.data.toList).length:=by simp[pad,r]; omega
    rw[<- e];refine⟨hrow3.new,hrow3.lt,hrow3.len,hrow3.le,hrow3.max,hrow3.holds,hrow3.there⟩
   have D:(pad s.data.toList).length=s.size+k+1:=by simp[pad,r]; omega
   obtain⟨T,hT⟩:∃T,(pad s.data.toList).length=8*T:=⟨(s.size+k+1) / 8,by rw[D]; omega⟩
   have E:s.size+k+1=8*T:=by omega
   have HF:Hid _:=BE k0 k1 s.data.toList T hT;have HT:Hid _:=hT;have hg2:=n.lt;rw[HT.o] at n;rw[E];clear hrow3 hP hT D r hrow2 A hbel2 B Ed hb3;have HN:Hid _:=E;clear E;generalize pad s.data.toList=L at *;obtain⟨N,hN⟩:∃N,N=8*T:=⟨_,rfl⟩;have M:Hid _:=hN;have hNs:N<=1000008:=by have:=HN.o; have:=z.o; omega
   rw[<- hN];rw[<- hN] at n;clear hN;go_wp2_with fail
   go_loopg [9] T (fun gk i wr=>∃(j:Nat) (q:St),i=.i_ ((8*j:Nat):Int)∧j+gk=T∧bX wr w2.heap.size q∧aN w.heap.size wr g2 c2 N (bs L)∧Below w.heap.size w wr∧w2.heap.size<wr.heap.size∧ny gk q (L.drop (8*j))=ny T (Sip.start k0 k1) L)
   case atStart=>
    refine⟨0,Sip.start k0 k1,rfl,by omega,?_,n.alloc _,f.alloc f.size _,by simp,by simp⟩
    constructor <;> go_simp <;> rfl
   case round=>
    obtain⟨j,q,rfl,hj,hst,hrw,hbl,hgl,hfe⟩:=hrel;have HJ:Hid _:=hj;have HE:Hid _:=hfe;clear hfe hj;obtain⟨I,hI⟩:∃I,I=8*j:=⟨_,rfl⟩;rw[<- hI];have G:Hid _:=hI;clear hI;have O:=hst;obtain⟨ha,hb,hc,hd,fa,fb,fc,fd⟩:=O;by_cases hlt:I<N
    ·have h8:I+8<=N:=by have:=G.o; have:=M.o; omega
     obtain⟨X,hX⟩:∃X,X=(L.drop I).take 8:=⟨_,rfl⟩;have U:X.length=8:=by rw[hX]; simp; have:=HT.o; have:=M.o; omega
     have t:∀d,d<8->wr.cell? (a_ g2 (I+d))=some (.int .u8 ((X.getD d 0).toNat:Int)):=by
      intro d hd8;have Ee:I+d<L.length:=by have:=HT.o; have:=M.o; omega
      refine hrw.holds _ _ ?_;rw[hX];simp[bs,List.getD,hd8,List.getElem?_drop,Ee]
     have HX:Hid _:=hX;have V:Hid _:=U;clear hX U;go_wp2_with fail
     go_loop [10,11] (fun m kk=>∃e:Nat,e<=8∧kk=.i_ ((e:Int) - 1)∧m=.int .u64 (le (X.drop e))) (fun _ kk=>(intOf kk+1).toNat)
     case atStart=>exact⟨8,by omega,rfl,by rw[List.drop_of_length_le (by rw[V.o]; omega)]; rfl⟩
     case round=>
      obtain⟨e,he,rfl,rfl⟩:=hrel
      cases e with
      |zero=>
       rw[List.drop_zero];generalize hx:(le X:Int)=x at *;have Hx:Hid _:=hx;clear hx;clear t;go_wp2_with fail
       refine (iY ⟨q.a,q.b,q.c,xr q.d x⟩ 2 _ (by decide)).mono ?_
       rintro e w3 ⟨rfl,hb3⟩;have o:=(hst.setD (xr q.d x)).below hb3 (by simp[World.setCell]; exact hgl)
       have F:Below w.heap.size w w3:=(hbl.setCell (p:=(a_ w2.heap.size 3)) f.size _).trans (hb3.mono (by simp[World.setCell]; exact hbl.size))
       have Y:aN w.heap.size w3 g2 c2 N (bs L):=(hrw.setCell (a:=(a_ w2.heap.size 3)) (by simp; omega) _).below hb3 (by simp[World.setCell]; omega)
       have Z:w2.heap.size<w3.heap.size:=Nat.lt_of_lt_of_le (by simp[World.setCell]; exact hgl) hb3.size
       have Ef:Hid (eatS q x=⟨xr (rnds 2 ⟨q.a,q.b,q.c,xr q.d x⟩).a x,(rnds 2 ⟨q.a,q.b,q.c,xr q.d x⟩).b,(rnds 2 ⟨q.a,q.b,q.c,xr q.d x⟩).c,(rnds 2 ⟨q.a,q.b,q.c,xr q.d x⟩).d⟩):=rfl;generalize rnds 2 ⟨q.a,q.b,q.c,xr q.d x⟩=R at *;have Eg:Hid _:=o;clear ha hb hc hd fa fb fc fd hst hb3;obtain⟨ha,hb,hc,hd,fa,fb,fc,fd⟩:=o;go_wp2_with fail
       obtain⟨g1,rfl⟩:∃g1,gk=g1+1:=⟨gk - 1,by have:=G.o; have:=M.o; have:=HJ.o; omega⟩
       go_roundg g1
       case measure=>omega
       case rel=>
        refine⟨j+1,eatS q x,by rw[G.o]; go_num,by have:=HJ.o; omega,?_,?_,?_,?_,?_⟩
        ·rw[Ef.o]
         exact ((((Eg.o.setA _).setB _).setC _).setD _).setA _
        ·exact ((((Y.setCell (by simp; omega) _).setCell (by simp; omega) _).setCell (by simp; omega) _).setCell (by simp; omega) _).setCell (by simp; omega) _
        ·exact ((((F.setCell (p:=(a_ w2.heap.size _)) f.size _).setCell (p:=(a_ w2.heap.size _)) f.size _).setCell (p:=(a_ w2.heap.size _)) f.size _).setCell (p:=(a_ w2.heap.size _)) f.size _).setCell (p:=(a_ w2.heap.size _)) f.size _
        ·simp[World.setCell]; exact Z
        ·rw[<- HE.o]
         simp only[ny];rw[<- G.o,<- HX.o,Hx.o,G.o,List.drop_drop];rfl
      |succ d=>
       have hcd:=t d (by omega)
       rw[show (((d+1:Nat):Int) - 1)=(d:Int) from by omega]
       go_wp2_with fail
       go_round
       case rel=>exact⟨d,by omega,rfl,by rw[C8 X d V.o (by omega)]⟩
       case measure=>simp[intOf]
    ·have Eh:gk=0:=by have:=G.o; have:=M.o; have:=HJ.o; omega
     subst Eh;have HQ:Hid (ny T (Sip.start k0 k1) L=q):=HE.o.symm;go_wp2_with fail
     refine (iY ⟨q.a,q.b,xr q.c 255,q.d⟩ 4 _ (by decide)).mono ?_
     rintro e w3 ⟨rfl,hb3⟩;have o:=(hst.setC (xr q.c 255)).below hb3 (by simp[World.setCell]; exact hgl)
     have F:Below w.heap.size w w3:=(hbl.setCell (p:=(a_ w2.heap.size 2)) f.size _).trans (hb3.mono (by simp[World.setCell]; exact hbl.size))
     have HC:Hid (lR q=xr (xr (xr (rnds 4 ⟨q.a,q.b,xr q.c 255,q.d⟩).a (rnds 4 ⟨q.a,q.b,xr q.c 255,q.d⟩).b) (rnds 4 ⟨q.a,q.b,xr q.c 255,q.d⟩).c) (rnds 4 ⟨q.a,q.b,xr q.c 255,q.d⟩).d):=rfl;generalize rnds 4 ⟨q.a,q.b,xr q.c 255,q.d⟩=R at *;clear ha hb hc hd fa fb fc fd hst hb3;obtain⟨ha,hb,hc,hd,fa,fb,fc,fd⟩:=o;go_wp2_with fail
     go_ret;refine⟨?_,?_⟩
     ·rw[HF.o,HQ.o,HC.o]; rfl
     ·exact (((F.setCell (p:=(a_ w2.heap.size _)) f.size _).setCell (p:=(a_ w2.heap.size _)) f.size _).setCell (p:=(a_ w2.heap.size _)) f.size _).setCell (p:=(a_ w2.heap.size _)) f.size _
  ·go_wp2_with (at_builtin; refine dK _ rfl _ _ 164 rfl 5 i0 (.int .u8 0) 1 underlying164 hi hz0 hz1 hz2 rfl w.heap.size g (s.size+k) c _ rfl (hrow2.alloc _) (a_ wr.heap.size 0) 1 (.int .u8 0) rfl ?c1 rfl ?c2 ?c3 ?_)
   case c1=>go_simp
   case c2=>have:=z.o; unfold maxLen; omega
   case c3=>have:=z.o; omega
   intro g2 c2 w2 hrow3 hb3;have r:k<7 - s.size % 8:=by have:=z.o; omega
   go_wp2_with fail
   go_roundg (gk - 1)
   case measure=>have:=z.o; omega
   case rel=>
    refine⟨g2,c2,k+1,rfl,by have:=z.o; omega,?_,(hbel2.alloc J _).trans hb3⟩
    have hP:bs (s.data.toList ++ List.replicate k 0) ++ [.int .u8 0]=bs (s.data.toList ++ List.replicate (k+1) 0):=by
     rw[List.replicate_succ']; simp[bs]
    rw[hP] at hrow3;exact hrow3
open Hex
theorem aN.store{c n:Nat}{cs:List Value}(h:aN B w g c n cs){j:Nat}(hj:j<n)(u:Value):aN B (w.setCell ⟨g,j,none⟩ u) g c n (cs.set j u):=by
 have k:=h.le;have hl:=h.len;have b:=h.there j (by omega)
 obtain⟨old,hold⟩:=Option.isSome_iff_exists.1 b.1;refine⟨h.new,by simp[World.setCell]; exact h.lt,by simp[h.len],h.le,h.max,fun i v hi=>?_,fun i hi=>?_⟩
 ·by_cases hij:i=j
  ·subst hij
   rw[List.getElem?_set_self (by omega)] at hi
   simp at hi; subst hi
   go_simp
  ·rw[List.getElem?_set_ne (by omega)] at hi
   have:=h.holds i v hi;go_simp
 ·have f:=h.there i hi
  obtain⟨v,hv⟩:=Option.isSome_iff_exists.1 f.1;refine⟨?_,?_⟩
  ·by_cases hij:i=j
   ·subst hij; go_simp
   ·go_simp
  ·simpa using f.2
theorem im{P:Program}(w:World)(src dst e:TypeId)(hs:P.underlying src=some (.slice e))(he:P.underlying e=some (.int .u8))(hd:P.underlying dst=some .string)(b off len cap:Nat)(l:List UInt8)(hlen:l.length=len)(hcell:∀i,i<len->w.cell? ⟨b,off+i,none⟩=some (.int .u8 ((l.getD i 0).toNat:Int))):
 (convert src dst (.slice (some ⟨b,off,none⟩) len cap)).run P w=.ok (.string ⟨l.toArray⟩) w:=by
 have h:=run_convert_bytes_arg (P:=P) w src e hs he b off len cap (l.map fun c=>(c.toNat:Int)) (by simpa using hlen) (fun i hi=>by
  rw[hcell i hi];have f:i<l.length:=by omega
  simp[List.getD,f]) dst hd
 rw[h];congr 2
 simp[strOfNums,Function.comp_def]
theorem uc(n:Nat)(hn:n<16 ^ 16)(w:World):
 Calls prog 216 #[.int .u64 n] w fun e w'=>e=.returned (.string ⟨(cS 16 n).toArray⟩)∧Below w.heap.size w w':=by
 go_enter func216,ntmps216
 go_wp2_with fail;go_loopg [0,5] 16 (fun gk x i wr=>∃k:Nat,k+gk=16∧i=.i_ k∧x=.int .u64 (rot n k:Nat)∧aN w.heap.size wr w.heap.size 16 16 (bs ((cS 16 n).take k ++ List.replicate (16 - k) 0))∧Below w.heap.size w wr)
 case atStart=>
  refine⟨0,rfl,rfl,by rw[yC n hn],?_,bA _ _⟩
  refine⟨Nat.le_refl _,by simp,by simp[bs],by omega,by unfold maxLen; omega,fun j u hj=>?_,fun j hj=>?_⟩
  ·match j with
   |0 | 1 | 2 | 3 | 4 | 5 | 6 | 7 | 8 | 9 | 10 | 11 | 12 | 13 | 14 | 15=>simp[bs] at hj; subst hj; go_simp
   |j+16=>simp[bs] at hj
  ·match j with
   |0 | 1 | 2 | 3 | 4 | 5 | 6 | 7 | 8 | 9 | 10 | 11 | 12 | 13 | 14 | 15=>go_simp
   |j+16=>omega
 case round=>
  obtain⟨k,hk,rfl,rfl,hrow,hb⟩:=hrel;have HK:J _:=hk;have hk16:k<=16:=by omega
  clear hk;by_cases hlt:k<16
  ·go_wp2_with fail
   refine (DM _ _).mono ?_;rintro e w' ⟨rfl,rfl⟩;have hs:=yD n k hn hlt;have hX:=yE n (k+1) hn (by omega)
   have hrl:rl ((rot n k:Nat):Int) 4=((rot n (k+1):Nat):Int):=by rw[rl4 _ (yE n k hn hk16),hs.1]
   rw[hrl];have HS:J _:=hs.2;clear hs hrl;generalize hx:rot n (k+1)=X at *;have HX:J _:=hx;clear hx;have ha:=CF X;obtain⟨d,hd⟩:∃d,d=X % 16:=⟨_,rfl⟩;have hd16:d<16:=by omega
   rw[<- hd] at ha;have HD:J _:=hd;clear hd;have hth:=hrow.there k hlt;obtain⟨old,hold⟩:=Option.isSome_iff_exists.1 hth.1;have hfz:=hth.2;clear hth;go_wp2_with fail;go_roundg (gk - 1)
   case measure=>have:=HK.o; omega
   case rel=>
    refine⟨k+1,by have:=HK.o; omega,by go_num,by rw[HX.o],?_,hb.setCell (p:=(a_ w.heap.size k)) (Nat.le_refl _) _⟩
    have hget:((⟨#[48,49,50,51,52,53,54,55,56,57,97,98,99,100,101,102]⟩:ByteArray)[d]'hd16)=hexc d:=by
     clear HD ha;revert d
     decide
    have hv:hexc d=hexc (n / 16 ^ (16 - 1 - k) % 16):=by rw[HD.o,HS.o]
    have hst:=hrow.store hlt (.int .u8 ((hexc d).toNat:Int));rw[hget]
    have hE:(bs ((cS 16 n).take k ++ List.replicate (16 - k) 0)).set k (.int .u8 ((hexc d).toNat:Int))=bs ((cS 16 n).take (k+1) ++ List.replicate (16 - (k+1)) 0):=by
     have hl:((cS 16 n).take k).length=k:=by rw[List.length_take,bR]; omega
     have hg:=wv 16 n k hlt
     have ht:(cS 16 n).take (k+1)=(cS 16 n).take k ++ [hexc d]:=by
      rw[List.take_add_one,hg,hv]; rfl
     rw[ht,show 16 - k=(16 - (k+1))+1 by omega,List.replicate_succ]
     simp only[bs,List.map_append,List.map_cons];rw[List.set_append_right _ _ (by rw[List.length_map,hl]; exact Fa _),Fy,hl,Nat.sub_self]
     simp
    rw[hE] at hst;exact hst
  ·obtain rfl:k=16:=by omega
   have hcv:(convert 164 9 (.slice (o_ w.heap.size 0) 16 16)).run prog wr=.ok (.string ⟨(cS 16 n).toArray⟩) wr:=by
    refine im wr _ _ 5 underlying164 underlying5 underlying9 _ _ _ _ _ (bR 16 n) (fun i hi=>?_);rw[Nat.zero_add];refine hrow.holds i _ ?_;have hl:(cS 16 n).length=16:=bR 16 n;rw[List.take_of_length_le (by omega)]
    simp[bs,List.getD,hl,hi]
   go_wp2_with fail;go_ret;exact⟨rfl,hb⟩
theorem vF(s:St)(x:Int)(g B:Nat)(hB:B<=g)(w:World)(h:bX w g s):
 Calls prog 286 #[.int .u64 x,p_ g 0] w fun e w'=>e=.returned (.tuple #[])∧bX w' g (eatS s x)∧Below B w w':=by
 have m:J (eatS s x=⟨xr (rnds 2 ⟨s.a,s.b,s.c,xr s.d x⟩).a x,(rnds 2 ⟨s.a,s.b,s.c,xr s.d x⟩).b,(rnds 2 ⟨s.a,s.b,s.c,xr s.d x⟩).c,(rnds 2 ⟨s.a,s.b,s.c,xr s.d x⟩).d⟩):=rfl;have j:=h.setD (xr s.d x);have k:Calls prog 287 #[p_ g 0,.i_ 2] (w.setCell (a_ g 3) (.int .u64 (bits .xor .u64 s.d x))) _:=mu ⟨s.a,s.b,s.c,xr s.d x⟩ g 2 B hB _ (by decide) j
 generalize hR:rnds 2 ⟨s.a,s.b,s.c,xr s.d x⟩=R at *;have HR:J (_=R):=hR;clear hR j;have n:J (Calls prog 287 #[p_ g 0,.i_ 2] (w.setCell (a_ g 3) (.int .u64 (bits .xor .u64 s.d x))) _):=k;clear k;obtain⟨ha,hb,hc,hd,fa,fb,fc,fd⟩:=h;go_enter func286,ntmps286
 go_wp2_with fail
 refine n.o.mono ?_;rintro e w1 ⟨rfl,hst,hb1⟩;clear ha hb hc hd fa fb fc fd;have f:=hst;obtain⟨ha,hb,hc,hd,fa,fb,fc,fd⟩:=f;go_wp2
 go_end0
 refine⟨rfl,?_,?_⟩
 ·rw[m.o]
  exact hst.setA _
 ·exact (((E9 _ _).setCell (p:=(a_ g _)) hB _).trans hb1).setCell (p:=(a_ g _)) hB _
theorem rm(s:ByteArray)(w:World)(hs:s.size<=8):
 Calls prog 288 #[.string s] w fun e w'=>e=.returned (.int .u64 (le s.data.toList))∧∃n,w'=w.drewN n:=by
 go_enter func288,ntmps288
 go_wp2
 go_loopw [3,7] (fun x i wr=>∃k m:Nat,k<=s.size∧i=.i_ k∧x=.int .u64 (le (s.data.toList.take k))∧wr=w.drewN m) (fun _ i _=>s.size - (intOf i).toNat)
 case atStart=>exact⟨0,0,Fo _,rfl,rfl,rfl⟩
 case round=>
  obtain⟨k,m,hk,rfl,rfl,rfl⟩:=hrel;by_cases hlt:k<s.size
  ·go_wp2
   go_roundw
   case rel=>
    refine⟨k+1,m,by omega,by go_num,?_,rfl⟩
    have f:s.data.toList.take (k+1)=s.data.toList.take k ++ [s[k]]:=by
     rw[List.take_succ_eq_append_getElem (by simpa using hlt)]; rfl
    have b:(s.data.toList.take k).length=k:=by rw[List.length_take]; simp; omega
    have c:=yB (s.data.toList.take k);rw[b] at c;rw[f,Bd,b,Bf _ _ _ c (by omega)]
   case measure=>simp[intOf]; omega
  ·obtain rfl:k=s.size:=by omega
   go_wp2
   go_ret;exact⟨by rw[List.take_of_length_le (by simp)]; rfl,m,rfl⟩
theorem bX.drewN{w:World}{g:Nat}{s:St}(h:bX w g s)(n:Nat):bX (w.drewN n) g s:=⟨h.a,h.b,h.c,h.d,h.fa,h.fb,h.fc,h.fd⟩
theorem ud(k0 k1:Int)(s:ByteArray)(w:World)(hs:s.size<=9223372036854775807):
 Calls prog 217 #[.int .u64 k0,.int .u64 k1,.string s] w fun e w'=>e=.returned (.int .u64 (sip k0 k1 s.data.toList))∧Below w.heap.size w w':=by
 go_enter func217,ntmps217
 go_wp2_with fail;go_loopg [2] s.size (fun gk v wr=>∃(t:ByteArray) (q:St),v=.string t∧t.size<=gk∧t.size<=s.size∧bX wr w.heap.size q∧Below w.heap.size w wr∧w.heap.size<wr.heap.size∧sip k0 k1 s.data.toList=fin (s.size % 256) gk q t.data.toList)
 case atStart=>
  refine⟨s,Sip.start k0 k1,rfl,Nat.le_refl _,Nat.le_refl _,?_,bA _ _,by simp,by unfold sip; simp⟩
  constructor <;> go_simp <;> rfl
 case round=>
  obtain⟨t,q,rfl,ht,hts,hst,hb,hgs,he⟩:=hrel;have j:J _:=he;clear he;by_cases h8:8<=t.size
  ·have f:=rm (t.extract 0 8) wr (by simp; omega)
   go_wp2_with fail;refine f.mono ?_;rintro e w1 ⟨rfl,n1,rfl⟩;go_wp2_with fail;refine (vF q _ w.heap.size w.heap.size (Fa _) _ (hst.drewN n1)).mono ?_;rintro e w2 ⟨rfl,hst2,hb2⟩;go_wp2_with fail;go_roundg (gk - 1)
   case measure=>omega
   case rel=>
    refine⟨_,_,rfl,?_,?_,hst2,(below_drewN hb n1).trans hb2,Fd hgs hb2.size,?_⟩
    ·simp; omega
    ·simp; omega
    ·obtain⟨g1,rfl⟩:∃g1,gk=g1+1:=⟨gk - 1,by omega⟩
     rw[j.o];simp only[fin,Nat.add_sub_cancel];rw[if_pos (by simpa using h8)]
     simp only[ByteArray.data_extract,Array.toList_extract];congr 1
     have m:t.data.toList.length=t.size:=by simp
     show _=(t.data.toList.drop 8).take (t.size - 8)
     rw[List.take_of_length_le (by rw[List.length_drop]; omega)]
  ·have f:=rm t wr (by omega)
   go_wp2_with fail;refine f.mono ?_;rintro e w1 ⟨rfl,n1,rfl⟩;go_wp2_with fail;have m:t.data.toList.length=t.size:=by simp
   have n:J (sip k0 k1 s.data.toList=lR (eatS q ((le t.data.toList+s.size % 256*256 ^ 7:Nat):Int))):=by
    refine j.o.trans ?_;cases gk with
    |zero=>rfl
    |succ g1=>simp only[fin]; rw[if_neg (by omega)]
   rw[zE _ _ (by omega)]
   generalize hX:((le t.data.toList+s.size % 256*256 ^ 7:Nat):Int)=X at *;clear hX;refine (vF q X w.heap.size w.heap.size (Fa _) _ (hst.drewN n1)).mono ?_;rintro e w2 ⟨rfl,hst2,hb2⟩;have g:J _:=hst2;have o:J _:=(below_drewN hb n1).trans hb2;have k:w.heap.size<w2.heap.size:=Fd hgs hb2.size;clear hst hb2 hb f;generalize eatS q X=R at *;obtain⟨ha,hb,hc,hd,fa,fb,fc,fd⟩:=hst2;go_wp2_with fail;refine (mu ⟨R.a,R.b,xr R.c 255,R.d⟩ w.heap.size 4 w.heap.size (Fa _) _ (by decide) (g.o.setC _)).mono ?_;rintro e w3 ⟨rfl,hst3,hb3⟩;clear ha hb hc hd fa fb fc fd;have r:J (lR R=xr (xr (xr (rnds 4 ⟨R.a,R.b,xr R.c 255,R.d⟩).a (rnds 4 ⟨R.a,R.b,xr R.c 255,R.d⟩).b) (rnds 4 ⟨R.a,R.b,xr R.c 255,R.d⟩).c) (rnds 4 ⟨R.a,R.b,xr R.c 255,R.d⟩).d):=rfl;generalize rnds 4 ⟨R.a,R.b,xr R.c 255,R.d⟩=T at *;obtain⟨ha,hb,hc,hd,fa,fb,fc,fd⟩:=hst3;go_wp2_with fail;go_ret;refine⟨?_,?_⟩
   ·rw[n.o,r.o]; rfl
   ·exact (o.o.setCell (p:=(a_ w.heap.size _)) (Fa _) _).trans hb3
def tag(key:Int)(l:List UInt8):List UInt8:=cS 16 (sip (IntKind.u64.wrap key) (rl (IntKind.u64.wrap key) 32) l).toNat
theorem C9(top f:Nat)(q:St)(l:List UInt8):0<=fin top f q l∧fin top f q l<18446744073709551616:=by
 induction f generalizing q l with
 |zero=>exact CE _ _
 |succ f ih=>
  unfold fin;split
  ·exact ih _ _
  ·exact CE _ _
theorem zG(k0 k1:Int)(l:List UInt8):0<=sip k0 k1 l∧sip k0 k1 l<18446744073709551616:=C9 _ _ _ _
theorem jl(key:Int)(s:ByteArray)(w:World)(hs:s.size<=9223372036854775807):
 Calls prog 137 #[.i_ key,.string s] w fun e w'=>e=.returned (.string ⟨(tag key s.data.toList).toArray⟩)∧Below w.heap.size w w':=by
 have b:=zG (IntKind.u64.wrap key) (rl (IntKind.u64.wrap key) 32) s.data.toList;obtain⟨n,hn⟩:=Int.eq_ofNat_of_zero_le b.1;have f:Hid (tag key s.data.toList=cS 16 n):=by unfold tag Hid; rw[hn]; rfl
 have g:Hid _:=hn;have c:n<16 ^ 16:=by omega
 clear hn b;go_enter func137,ntmps137
 go_wp2_with fail;refine (t9 _ _).mono ?_;rintro e w1 ⟨rfl,rfl⟩;go_wp2_with fail;refine (ud _ _ s _ hs).mono ?_;rintro e w2 ⟨rfl,hb2⟩;rw[g.o];go_wp2_with fail;refine (uc n c _).mono ?_;rintro e w3 ⟨rfl,hb3⟩;go_wp2_with fail;go_ret;exact⟨by rw[f.o]; rfl,hb2.tm hb3⟩
theorem kN(op:BinOp)(f:Nat->Nat->Nat)(hf:∀a b,a<256->b<256->f a b<256)(h:∀a b:BitVec 8,(match op with
 |.and=>a &&& b
 |.or=>a ||| b
 |.xor=>a ^^^ b
 |_=>a &&& ~~~b).toNat=f a.toNat b.toNat)(a b:Nat)(ha:a<256)(hb:b<256):bits op .u8 (a:Int) (b:Int)=((f a b:Nat):Int):=by
 have c:(BitVec.ofInt 8 (a:Int)).toNat=a:=by
  rw[BitVec.ofInt_natCast,BitVec.toNat_ofNat]; exact Nat.mod_eq_of_lt (by omega)
 have g:(BitVec.ofInt 8 (b:Int)).toNat=b:=by
  rw[BitVec.ofInt_natCast,BitVec.toNat_ofNat]; exact Nat.mod_eq_of_lt (by omega)
 show IntKind.u8.wrap ((_:Nat):Int)=_
 have:=h (BitVec.ofInt 8 (a:Int)) (BitVec.ofInt 8 (b:Int));rw[c,g] at this;have h3:=hf a b ha hb
 show IntKind.u8.wrap (((match op with
  |.and=>(BitVec.ofInt 8 (a:Int)) &&& (BitVec.ofInt 8 (b:Int))
  |.or=>(BitVec.ofInt 8 (a:Int)) ||| (BitVec.ofInt 8 (b:Int))
  |.xor=>(BitVec.ofInt 8 (a:Int)) ^^^ (BitVec.ofInt 8 (b:Int))
  |_=>(BitVec.ofInt 8 (a:Int)) &&& ~~~(BitVec.ofInt 8 (b:Int))).toNat:Nat):Int)=_
 rw[this,IntKind.wrap_u8];omega
theorem DN(a b:Nat)(ha:a<256)(hb:b<256):bits .or .u8 (a:Int) (b:Int)=((a ||| b:Nat):Int):=
 kN .or (· ||| ·) (fun a b h1 h2=>Nat.or_lt_two_pow (n:=8) h1 h2) (fun a b=>by simp) a b ha hb
theorem Da(a b:Nat)(ha:a<256)(hb:b<256):bits .xor .u8 (a:Int) (b:Int)=((a ^^^ b:Nat):Int):=
 kN .xor (· ^^^ ·) (fun a b h1 h2=>Nat.xor_lt_two_pow (n:=8) h1 h2) (fun a b=>by simp) a b ha hb
theorem pB(a b:Nat):a ^^^ b=0↔a=b:=by
 constructor
 ·intro h
  have:a ^^^ b ^^^ b=0 ^^^ b:=by rw[h]
  simpa[Nat.xor_assoc] using this
 ·rintro rfl; simp
theorem mw(a b:ByteArray)(w:World)(ha:a.size<=9223372036854775807)(_hb:b.size<=9223372036854775807):
 Calls prog 145 #[.string a,.string b] w fun e w'=>e=.returned (.bool (decide (a.data.toList=b.data.toList)))∧∃n,w'=w.drewN n:=by
 go_enter func145,ntmps145
 by_cases hne:a.size=b.size
 ·go_wp2_with fail
  go_loopg [5,14] a.size (fun gk u i wr=>∃(k x m:Nat),k+gk=a.size∧i=.i_ k∧u=.int .u8 x∧x<256∧(x=0↔a.data.toList.take k=b.data.toList.take k)∧wr=w.drewN m)
  case atStart=>exact⟨0,0,0,by omega,rfl,rfl,by omega,by simp,rfl⟩
  case round=>
   obtain⟨k,x,m,hk,rfl,rfl,hx,hxe,rfl⟩:=hrel;have q:J _:=hk;have v:k<=a.size:=by omega
   have r:J _:=hxe;clear hk hxe;by_cases hlt:k<a.size
   ·have f:k<b.size:=by omega
    go_wp2_with fail;go_quiet (fail)
    go_wp2_with fail;go_roundg (gk - 1)
    case measure=>have:=q.o; omega
    case rel=>
     have s:=a[k].toNat_lt;have g:=b[k].toNat_lt;have j:a[k].toNat ^^^ b[k].toNat<256:=Nat.xor_lt_two_pow (n:=8) s g;refine⟨k+1,x ||| (a[k].toNat ^^^ b[k].toNat),_,by have:=q.o; omega,by go_num,?_,Nat.or_lt_two_pow (n:=8) hx j,?_,rfl⟩
     ·rw[Da _ _ s g,DN _ _ hx j]
     ·have z:a.data.toList.take (k+1)=a.data.toList.take k ++ [a[k]]:=by
       rw[List.take_succ_eq_append_getElem (by simpa using hlt)]; rfl
      have A:b.data.toList.take (k+1)=b.data.toList.take k ++ [b[k]]:=by
       rw[List.take_succ_eq_append_getElem (by simpa using f)]; rfl
      have B:(a.data.toList.take k).length=(b.data.toList.take k).length:=by
       have o:a.data.toList.length=a.size:=by simp
       have p:b.data.toList.length=b.size:=by simp
       rw[List.length_take,List.length_take,o,p,hne]
      rw[z,A,Nat.or_eq_zero_iff,pB,r.o];constructor
      ·rintro ⟨o,p⟩
       rw[o,UInt8.toNat_inj.1 p]
      ·intro e
       have t:=List.append_inj e B;exact⟨t.1,by rw[List.cons.inj t.2 |>.1]⟩
   ·obtain rfl:k=a.size:=by omega
    go_wp2_with fail;go_ret;refine⟨?_,m,rfl⟩;have h:=r.o;rw[List.take_of_length_le (by simp),List.take_of_length_le (by simp[hne])] at h
    refine congrArg (fun c=>Ending.returned (.bool c)) ?_;show ((x:Int) == 0)=_
    rw[Bool.eq_iff_iff,beq_iff_eq,decide_eq_true_iff,<- h];omega
 ·have C:¬ a.data.toList=b.data.toList:=by
   intro h;have g:a.data.toList.length=b.data.toList.length:=by rw[h]
   simp at g
   exact hne g
  go_wp2_with fail;go_ret;exact⟨by rw[decide_eq_false C]; rfl,0,rfl⟩
structure ay (w:World) (g:Nat) (F:Int->ByteArray) (n:Int) (c:Bool) (l:Int):Prop where
 blk:∀j:Nat,j<90->w.cell? ⟨g,j,none⟩=some (.string (F j))
 wr:w.cell? ⟨g,90,none⟩=some (.int .i64 n)
 ct:w.cell? ⟨g,91,none⟩=some (.bool c)
 lf:w.cell? ⟨g,92,none⟩=some (.int .i64 l)
 fz:∀j:Nat,j<93->w.frozen? ⟨g,j,none⟩=false
variable {F:Int->ByteArray}{c:Bool}{l n:Int}
theorem ay.below(h:ay w g F n c l)(hb:Below B w w')(hg:g<B):ay w' g F n c l:=
 ⟨fun j hj=>(hb.cell (p:=(a_ g j)) hg).trans (h.blk j hj),(hb.cell (p:=(a_ g 90)) hg).trans h.wr,(hb.cell (p:=(a_ g 91)) hg).trans h.ct,(hb.cell (p:=(a_ g 92)) hg).trans h.lf,fun j hj=>(hb.frozen (p:=(a_ g j)) hg).trans (h.fz j hj)⟩
theorem pC(w:World)(g:Nat):w.grownBy w (some g):=⟨rfl,rfl,rfl,Fa _,fun _ _ _=>rfl⟩
theorem jI(h:w.grownBy w1 (some g))(o:Nat)(v:Value):w.grownBy (w1.setCell ⟨g,o,none⟩ v) (some g):=
 ⟨h.os,h.tape,h.output,by simp[World.setCell]; exact h.size,fun k hk hne=>(Below.heap_setCell _ _ _ _ (by intro e; exact hne (by rw[e]))).trans (h.block k hk hne)⟩
theorem vG{w2:World}(h:w.grownBy w1 (some g))(hb:Below w1.heap.size w1 w2):w.grownBy w2 (some g):=
 ⟨hb.os.trans h.os,hb.tape.trans h.tape,hb.output.trans h.output,Fe h.size hb.size,fun k hk hne=>(hb.block k (Fd hk h.size)).trans (h.block k hk hne)⟩
theorem iO(k:Int)(w:World):Calls prog 189 #[.i_ k] w fun e w'=>e=.returned (.bool (decide (0<=k∧k<90)))∧w'=w:=by
 by_cases h0:0<=k
 ·by_cases h1:k<90
  ·go_enter func189,ntmps189
   go_wp2_with fail;go_ret;exact⟨by simp[h0,h1],rfl⟩
  ·go_enter func189,ntmps189
   go_wp2_with fail;go_ret;exact⟨by simp[h1],rfl⟩
 ·go_enter func189,ntmps189
  go_wp2_with fail;go_ret;exact⟨by simp; omega,rfl⟩
theorem pD(g:Nat)(F:Int->ByteArray)(n:Int)(c:Bool)(l:Int)(w:World)(h:ay w g F n c l):Calls prog 190 #[p_ g 0] w fun e w'=>e=.returned (.bool (c && l == 0))∧w'=w:=by
 have hc:=h.ct;have hl:=h.lf
 cases c
 ·go_enter func190,ntmps190
  go_wp2_with fail;go_ret;exact⟨rfl,rfl⟩
 ·go_enter func190,ntmps190
  go_wp2_with fail;go_ret;exact⟨rfl,rfl⟩
theorem ue(g:Nat)(F:Int->ByteArray)(n:Int)(c:Bool)(l:Int)(w:World)(h:ay w g F n c l):Calls prog 299 #[p_ g 0] w fun e w'=>e=.returned (.int .i64 n)∧w'=w:=by
 have hc:=h.wr;go_enter func299,ntmps299
 go_wp2_with fail;go_ret;exact⟨rfl,rfl⟩
theorem zH(g:Nat)(F:Int->ByteArray)(n:Int)(c:Bool)(l:Int)(k:Nat)(w:World)(h:ay w g F n c l)(hk:k<90):Calls prog 182 #[p_ g 0,.i_ k] w fun e w'=>e=.returned (.tuple #[.string (F k),.nilIface])∧w'=w:=by
 have hc:=h.blk k hk;have b:decide ((0:Int)<=(k:Int)∧(k:Int)<90)=true:=by simp; omega
 go_enter func182,ntmps182
 go_wp2_with fail;refine (iO k _).mono ?_;rintro e w' ⟨rfl,rfl⟩;rw[b];clear b;go_wp2_with fail;go_ret2;exact⟨rfl,rfl⟩
def upd(F:Int->ByteArray)(k:Int)(s:ByteArray):Int->ByteArray:=fun j=>if j=k then s else F j
theorem ay.set(h:ay w g F n c l){k:Nat}(hk:k<90)(s:ByteArray):ay (w.setCell ⟨g,k,none⟩ (.string s)) g (upd F k s) n c l:=by
 have f:=h.blk k hk;refine⟨fun j hj=>?_,?_,?_,?_,fun j hj=>?_⟩
 ·have m:=h.blk j hj
  by_cases e:j=k
  ·subst e; go_simp; simp[upd]
  ·have o:¬ (j:Int)=(k:Int):=by omega
   go_simp;simp[upd,o]
 ·have:=h.wr; have b:90≠k:=by omega
  go_simp
 ·have:=h.ct; have b:91≠k:=by omega
  go_simp
 ·have:=h.lf; have b:92≠k:=by omega
  go_simp
 ·simpa using h.fz j hj
theorem ay.setWr(h:ay w g F n c l)(m:Int):ay (w.setCell ⟨g,90,none⟩ (.int .i64 m)) g F m c l:=by
 refine⟨fun j hj=>?_,?_,?_,?_,fun j hj=>by simpa using h.fz j hj⟩
 ·have b:=h.blk j hj; have f:j≠90:=by omega
  go_simp
 ·have:=h.wr; go_simp
 ·have:=h.ct; go_simp
 ·have:=h.lf; go_simp
theorem ay.setCt(h:ay w g F n c l)(m:Bool):ay (w.setCell ⟨g,91,none⟩ (.bool m)) g F n m l:=by
 refine⟨fun j hj=>?_,?_,?_,?_,fun j hj=>by simpa using h.fz j hj⟩
 ·have b:=h.blk j hj; have f:j≠91:=by omega
  go_simp
 ·have:=h.wr; go_simp
 ·have:=h.ct; go_simp
 ·have:=h.lf; go_simp
theorem ay.setLf(h:ay w g F n c l)(m:Int):ay (w.setCell ⟨g,92,none⟩ (.int .i64 m)) g F n c m:=by
 refine⟨fun j hj=>?_,?_,?_,?_,fun j hj=>by simpa using h.fz j hj⟩
 ·have b:=h.blk j hj; have f:j≠92:=by omega
  go_simp
 ·have:=h.wr; go_simp
 ·have:=h.ct; go_simp
 ·have:=h.lf; go_simp
theorem ay.drew{w:World}{g:Nat}{F:Int->ByteArray}{n:Int}{c:Bool}{l:Int}(h:ay w g F n c l):ay w.drew g F n c l:=⟨h.blk,h.wr,h.ct,h.lf,h.fz⟩
theorem Db(g:Nat)(F:Int->ByteArray)(n:Int)(c:Bool)(l k:Int)(hk:0<=k)(w:World)(h:ay w g F n c l):Calls prog 15 #[p_ g 0,.i_ k] w fun e w'=>e=.returned (.tuple #[])∧ay w' g F n true k∧w.grownBy w' (some g):=by
 have hc:=h.ct;have hl:=h.lf;have f1:=h.fz 91 (by omega)
 have f2:=h.fz 92 (by omega)
 have hm:max k 0=k:=by omega
 have hd:decide (0<=k)=true:=by simp; omega
 have b:J (ay ((w.setCell (a_ g 91) (.bool true)).setCell (a_ g 92) (.i_ k)) g F n true k):=(h.setCt _).setLf _;have f:J (w.grownBy ((w.setCell (a_ g 91) (.bool true)).setCell (a_ g 92) (.i_ k)) (some g)):=jI (jI (pC w g) 91 _) 92 _;clear h;go_enter func15,ntmps15
 go_wp2_with fail
 go_end0
 exact⟨rfl,b.o,f.o⟩
theorem BG(g:Nat)(F:Int->ByteArray)(n:Int)(c:Bool)(l k:Int)(hk:k<0)(w:World)(h:ay w g F n c l):Calls prog 15 #[p_ g 0,.i_ k] w fun e w'=>e=.returned (.tuple #[])∧ay w' g F n false 0∧w.grownBy w' (some g):=by
 have hc:=h.ct;have hl:=h.lf;have f1:=h.fz 91 (by omega)
 have f2:=h.fz 92 (by omega)
 have hm:max k 0=0:=by omega
 have hd:decide (0<=k)=false:=by simp; omega
 have b:J (ay ((w.setCell (a_ g 91) (.bool false)).setCell (a_ g 92) (.i_ 0)) g F n false 0):=(h.setCt _).setLf _;have f:J (w.grownBy ((w.setCell (a_ g 91) (.bool false)).setCell (a_ g 92) (.i_ 0)) (some g)):=jI (jI (pC w g) 91 _) 92 _;clear h;go_enter func15,ntmps15
 go_wp2_with fail
 go_end0
 exact⟨rfl,b.o,f.o⟩
theorem xf(g:Nat)(F:Int->ByteArray)(n:Int)(k:Int)(s:ByteArray)(w:World)(h:ay w g F n true 0)(hk:0<=k∧k<90)(hs:¬ 240<s.size):Calls prog 116 #[p_ g 0,.i_ k,.string s] w fun e w'=>e=.returned (.iface 47 (.int .i64 14))∧w'=w:=by
 have b:¬ (240:Int)<(s.size:Int):=by omega
 go_enter func116,ntmps116
 go_wp2_with fail;refine (iO k _).mono ?_;rintro e w' ⟨rfl,rfl⟩;rw[decide_eq_true hk];go_wp2_with fail;refine (pD g F n true 0 _ h).mono ?_;rintro e w' ⟨rfl,rfl⟩;go_wp2_with fail;go_ret;exact⟨rfl,rfl⟩
theorem ol(s:ByteArray)(w:World)(hs:s.size<=281474976710656):Calls prog 191 #[.string s] w fun e w'=>e=.returned (.string s)∧Below w.heap.size w w':=by
 go_enter func191,ntmps191
 go_wp2_with fail;refine (Tryz.stringslite_Clone s _ hs).mono ?_;rintro e w' ⟨rfl,hb⟩;go_wp2_with fail;go_ret;exact⟨rfl,hb⟩
theorem ro(g:Nat)(F:Int->ByteArray)(n l:Int)(k:Nat)(s:ByteArray)(w:World)(h:ay w g F n false l)(hg:g<w.heap.size)(hk:k<90)(hs:¬ 240<s.size)(hn0:0<=n)(hn:n<100000):
 Calls prog 116 #[p_ g 0,.i_ k,.string s] w fun e w'=>e=.returned .nilIface∧ay w' g (upd F k s) (n+1) false l∧w.grownBy w' (some g):=by
 have j:¬ (240:Int)<(s.size:Int):=by omega
 have f:decide ((0:Int)<=(k:Int)∧(k:Int)<90)=true:=by simp; omega
 go_enter func116,ntmps116
 go_wp2_with fail;refine (iO k _).mono ?_;rintro e w' ⟨rfl,rfl⟩;rw[f];clear f;go_wp2_with fail;refine (pD g F n false l _ h).mono ?_;rintro e w' ⟨rfl,rfl⟩;go_wp2_with fail;have b:=h.blk k hk;have c:=h.fz k (by omega)
 go_cut [] from 21 to 45 (fun wx=>ay wx g (upd F k s) n false l∧w'.grownBy wx (some g))
 case first=>
  go_region_with (go_at_call 191; refine (ol s _ (by omega)).mono ?_; rintro e w2 ⟨rfl,hb2⟩; have k0:=(hb2.cell (p:=(a_ g k)) (by exact hg)).trans b; have k1:=(hb2.frozen (p:=(a_ g k)) (by exact hg)).trans c)
  all_goals (go_wp2_with fail; go_meet)
  all_goals exact⟨((h.drew).below hb2 hg).set hk s,jI (vG (pC _ g) (((E9 _ _).drew).trans hb2)) k _⟩
 case rest=>
  obtain⟨hdk,hb⟩:=hcut;have hc:=hdk.ct;have hw:=hdk.wr;have f1:=hdk.fz 90 (by omega)
  go_wp2_with fail;go_ret;exact⟨rfl,hdk.setWr _,jI hb 90 _⟩
theorem xg(g:Nat)(F:Int->ByteArray)(n l:Int)(k:Nat)(s:ByteArray)(w:World)(h:ay w g F n true l)(hl0:0<l)(hl1:l<=9223372036854775807)(hg:g<w.heap.size)(hk:k<90)(hs:¬ 240<s.size)(hn0:0<=n)(hn:n<100000):
 Calls prog 116 #[p_ g 0,.i_ k,.string s] w fun e w'=>e=.returned .nilIface∧ay w' g (upd F k s) (n+1) true (l - 1)∧w.grownBy w' (some g):=by
 have m:¬ (240:Int)<(s.size:Int):=by omega
 have j:decide ((0:Int)<=(k:Int)∧(k:Int)<90)=true:=by simp; omega
 go_enter func116,ntmps116
 go_wp2_with fail;refine (iO k _).mono ?_;rintro e w' ⟨rfl,rfl⟩;rw[j];clear j;go_wp2_with fail;refine (pD g F n true l _ h).mono ?_;rintro e w' ⟨rfl,rfl⟩;have b:(true && l == 0)=false:=by simp; omega
 rw[b];clear b;go_wp2_with fail;have c:=h.blk k hk;have f:=h.fz k (by omega)
 go_cut [] from 21 to 45 (fun wx=>ay wx g (upd F k s) n true l∧w'.grownBy wx (some g))
 case first=>
  go_region_with (go_at_call 191; refine (ol s _ (by omega)).mono ?_; rintro e w2 ⟨rfl,hb2⟩; have k0:=(hb2.cell (p:=(a_ g k)) (by exact hg)).trans c; have k1:=(hb2.frozen (p:=(a_ g k)) (by exact hg)).trans f)
  all_goals (go_wp2_with fail; go_meet)
  all_goals exact⟨((h.drew).below hb2 hg).set hk s,jI (vG (pC _ g) (((E9 _ _).drew).trans hb2)) k _⟩
 case rest=>
  obtain⟨hdk,hb⟩:=hcut;have hc:=hdk.ct;have hw:=hdk.wr;have f1:=hdk.fz 90 (by omega)
  have hl:=hdk.lf;have f2:=hdk.fz 92 (by omega)
  go_wp2_with fail;go_ret;exact⟨rfl,(hdk.setWr _).setLf _,jI (jI hb 90 _) 92 _⟩
end Go.Proofs.YtlailakofhenkabGreatDoor
namespace Go.Proofs.YtlailakofhenkabGreatDoor
open Go Go.RowKit Tok Sc Ev Tryz
abbrev tag0:List UInt8->List UInt8:=tag 0
theorem jm:yR tag0:=⟨fun l=>Hex.bR _ _,fun l hm=>by
 have:=wz _ _ _ hm;simp[dJ] at this⟩
theorem zI(xs:List ByteArray)(g c:Nat)(w:World)(hw:aO w g xs)(hn:xs.length<=10)(hc:xs.length<=c)(hl:(Lib.join (xs.map (·.data.toList)) [32]).length<=5000):
 Calls prog 114 #[.slice (o_ g 0) xs.length c,.string ⟨#[32]⟩] w fun r w'=>r=.returned (.string (bs8 (Lib.join (xs.map (·.data.toList)) [32])))∧Below w.heap.size w w':=
 strings_Join g 0 c xs ⟨#[32]⟩ w hw.2 hw.1 (by omega) hc (Fe hl (by omega))
theorem pE(t:List UInt8)(w:World)(h:t.length<=5000):Calls prog 137 #[.i_ 0,.string (bs8 t)] w fun e w'=>e=.returned (.string (bs8 (tag0 t)))∧Below w.heap.size w w':=jl 0 (bs8 t) w (by rw[dC]; omega)
theorem vH(xs:List ByteArray)(g c:Nat)(w:World)(hw:aO w g xs)(hn:xs.length<=10)(hc:xs.length<=c)(hl:(Lib.join (xs.map (·.data.toList)) [32]).length<=5000):
 Calls prog 117 #[.slice (o_ g 0) xs.length c] w fun r w'=>r=.returned (.string (bs8 (sealL tag0 (Lib.join (xs.map (·.data.toList)) [32]))))∧Below w.heap.size w w':=by
 have j:=zI xs g c w hw hn hc hl;have k:=fun (W:World)=>pE (Lib.join (xs.map (·.data.toList)) [32]) W hl;generalize Lib.join (xs.map (·.data.toList)) [32]=T at *;have m:J (sealL tag0 T=tag0 T ++ 32::T):=rfl;have n:(tag0 T).length=16:=jm.len T;have n1:¬ 9223372036854775807<(tag0 T).length+1:=by omega
 have n2:¬ 9223372036854775807<(tag0 T).length+1+T.length:=by omega
 generalize tag0 T=G at *;clear hw hn hc;go_enter func117,ntmps117
 go_wp2_with fail;refine j.mono ?_;rintro e1 w1 ⟨rfl,hb1⟩;have b:J _:=hb1;clear hb1 j;go_wp2_with fail;refine (k _).mono ?_;rintro e2 w2 ⟨rfl,hb2⟩;have f:J _:=b.o.tm hb2;clear hb2 k;go_wp2_with fail;go_ret;refine⟨?_,f.o⟩;rw[m.o];show Ending.returned (.string ((⟨G.toArray⟩:ByteArray) ++ ⟨#[32]⟩ ++ ⟨T.toArray⟩))=_
 congr 2
 apply ByteArray.ext
 simp[ByteArray.data_append]
theorem xh(G:List UInt8)(h:G.length=16)(W:World):Calls prog 145 #[.string (bs8 G),.string (bs8 G)] W fun e w'=>e=.returned (.bool true)∧∃n,w'=W.drewN n:=by
 have:=mw (bs8 G) (bs8 G) W (by rw[dC]; omega) (by rw[dC]; omega)
 rwa [decide_eq_true (show (bs8 G).data.toList=(bs8 G).data.toList from rfl)] at this
theorem xi(G:List UInt8)(h:G.length=16)(W:World):Calls prog 145 #[.e_,.string (bs8 G)] W fun e w'=>e=.returned (.bool false)∧∃n,w'=W.drewN n:=by
 have:=mw ⟨#[]⟩ (bs8 G) W (by rw[show (⟨#[]⟩:ByteArray).size=0 from rfl]; omega) (by rw[dC]; omega)
 rwa [decide_eq_false (p:=(⟨#[]⟩:ByteArray).data.toList=(bs8 G).data.toList) (fun e=>by
  have b:=congrArg List.length e;rw[show (bs8 G).data.toList=G from rfl,h] at b
  simp at b)] at this
theorem xj(t:List UInt8)(w:World)(hl:t.length<=5000)(hL:aU w):
 Calls prog 183 #[.string (bs8 (sealL tag0 t))] w fun r w'=>r=.returned (.string (bs8 t))∧Below w.heap.size w w':=by
 obtain⟨m,hm⟩:=hL;have g:=mf jm t;have b:=strings_Cut (bs8 (sealL tag0 t)) ⟨#[32]⟩ m w (by rw[dC]; omega) hm
 rw[show (⟨#[32]⟩:ByteArray).data.toList= [32] from rfl,show (bs8 (sealL tag0 t)).data.toList=sealL tag0 t from rfl,yT jm t] at b
 have p:=fun (W:World)=>pE t W hl;have c:(tag0 t).length=16:=jm.len t;have j:∀(W:World),Calls prog 145 #[.string (bs8 (tag0 t)),.string (bs8 (tag0 t))] W fun e w'=>e=.returned (.bool true)∧∃n,w'=W.drewN n:=xh _ c;simp only at b;generalize sealL tag0 t=S at *;generalize tag0 t=G at *;clear hm g c;go_enter func183,ntmps183
 go_wp2_with fail
 refine b.mono ?_;rintro e1 w1 ⟨rfl,d1,rfl⟩;have f:J (Below w.heap.size w (w.drewN d1)):=below_drewN (E9 _ _) d1;clear b;go_wp2_with fail
 refine (p _).mono ?_;rintro e2 w2 ⟨rfl,hb2⟩;have k:J (Below w.heap.size w w2):=f.o.trans (hb2.mono f.o.size);clear hb2 p;go_wp2_with fail
 refine (j _).mono ?_;rintro e3 w3 ⟨rfl,d3,rfl⟩;have o:J (Below w.heap.size w (w2.drewN d3)):=below_drewN k.o d3;go_wp2_with fail
 go_ret;exact⟨rfl,o.o⟩
theorem rp(w:World)(hL:aU w):
 Calls prog 183 #[.e_] w fun r w'=>r=.returned (.string ⟨#[]⟩)∧Below w.heap.size w w':=by
 obtain⟨m,hm⟩:=hL;have b:=strings_Cut ⟨#[]⟩ ⟨#[32]⟩ m w (by rw[show (⟨#[]⟩:ByteArray).size=0 from rfl]; omega) hm
 rw[show (⟨#[32]⟩:ByteArray).data.toList= [32] from rfl,show (⟨#[]⟩:ByteArray).data.toList= [] from rfl,jc (by simp)] at b
 have o:=fun (W:World)=>pE [] W (by simp)
 have c:(tag0 []).length=16:=jm.len [];have g:∀(W:World),Calls prog 145 #[.e_,.string (bs8 (tag0 []))] W fun e w'=>e=.returned (.bool false)∧∃n,w'=W.drewN n:=xi _ c;simp only at b;generalize tag0 []=G at *;clear hm c;go_enter func183,ntmps183
 go_wp2_with fail
 refine b.mono ?_;rintro e1 w1 ⟨rfl,d1,rfl⟩;have f:J (Below w.heap.size w (w.drewN d1)):=below_drewN (E9 _ _) d1;clear b;go_wp2_with fail
 refine (o _).mono ?_;rintro e2 w2 ⟨rfl,hb2⟩;have j:J (Below w.heap.size w w2):=f.o.trans (hb2.mono f.o.size);clear hb2 o;go_wp2_with fail
 refine (g _).mono ?_;rintro e3 w3 ⟨rfl,d3,rfl⟩;have k:J (Below w.heap.size w (w2.drewN d3)):=below_drewN j.o d3;go_wp2_with fail
 go_ret;exact⟨rfl,k.o⟩
theorem gG(g:Nat)(F:Int->ByteArray)(n:Int)(c:Bool)(l:Int)(k:Nat)(t:List UInt8)(w:World)(hd:ay w g F n c l)(hk:k<90)(hF:F k=bs8 (inBlock tag0 t))(hl:t.length<=5000)(hL:aU w):
 Calls prog 111 #[p_ g 0,.i_ k] w fun r w'=>r=.returned (.string (bs8 t))∧Below w.heap.size w w':=by
 have b:=zH g F n c l k w hd hk;rw[hF] at b
 have j:∀(W:World),aU W->Calls prog 183 #[.string (bs8 (inBlock tag0 t))] W fun r w'=>r=.returned (.string (bs8 t))∧Below W.heap.size W w':=fun W hW=>by
  unfold inBlock;split
  ·rename_i h0
   subst h0;exact rp W hW
  ·exact xj t W hl hW
 generalize inBlock tag0 t=X at *;have m:J _:=hL;clear hd hF hL;go_enter func111,ntmps111
 go_wp2_with fail;refine b.mono ?_;rintro e1 w1 ⟨rfl,rfl⟩;clear b;go_wp2_with fail;refine (j _ m.o).mono ?_;rintro e2 w2 ⟨rfl,hb2⟩;have f:J _:=hb2;clear hb2 j;go_wp2_with fail;go_ret;exact⟨rfl,f.o⟩
end Go.Proofs.YtlailakofhenkabGreatDoor
