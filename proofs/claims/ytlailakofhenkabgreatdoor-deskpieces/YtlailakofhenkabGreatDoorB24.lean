import Derived.Test.YtlailakofhenkabGreatDoorB23
set_option maxRecDepth 100000
set_option maxHeartbeats 4000000
namespace Go.Proofs.YtlailakofhenkabGreatDoor
open Go.RowKit Tok
theorem split_of2 {l x y:List UInt8} (h:Lib.splitK [46] 0 2 l= [x,y]):l=x ++ 46::y:=by
 rcases nilOr 46 l with hn | ⟨a,b,rfl,hn⟩
 ·rw [splitK_no hn] at h; simp at h
 ·rw [splitK_at b hn] at h
  rcases nilOr 46 b with hm | ⟨c,d,rfl,hm⟩
  ·rw [splitK_no hm] at h; simp at h; rw [h.1,h.2]
  ·rw [splitK_at d hm] at h; simp [Lib.splitK] at h
theorem split_of3 {l x y z:List UInt8} (h:Lib.splitK [46] 0 2 l= [x,y,z]):l=x ++ 46::(y ++ 46::z):=by
 rcases nilOr 46 l with hn | ⟨a,b,rfl,hn⟩
 ·rw [splitK_no hn] at h; simp at h
 ·rw [splitK_at b hn] at h
  rcases nilOr 46 b with hm | ⟨c,d,rfl,hm⟩
  ·rw [splitK_no hm] at h; simp at h
  ·rw [splitK_at d hm] at h; simp [Lib.splitK] at h; rw [h.1,h.2.1,h.2.2]
theorem split_two {x y:List UInt8} (hx:46∉x) (hy:46∉y):Lib.splitK [46] 0 2 (x ++ 46::y)= [x,y]:=by
 rw [splitK_at y hx,splitK_no hy]
theorem split_three {x y z:List UInt8} (hx:46∉x) (hy:46∉y):Lib.splitK [46] 0 2 (x ++ 46::(y ++ 46::z))= [x,y,z]:=by
 rw [splitK_at _ hx,splitK_at _ hy]; rfl
theorem body_must {t:T} (h:may t):∃ (letter b:List UInt8) (ns:List Int),body t=letter ++ 46::b∧(46:UInt8)∉letter∧Lib.splitK [46] 0 2 b=ns.map Lib.itoa∧(∀ n∈ns,okN n)∧((letter= [114]∧ns.length=2)∨(letter= [97]∧ns.length=3)):=by
 obtain ⟨k,f,g,e⟩:=t;obtain ⟨hk,hf,hg⟩:=h;simp only at hk hf hg;rcases hk with ⟨rfl,rfl⟩ | ⟨rfl,he⟩
 ·refine ⟨[114],Lib.itoa f ++ 46::Lib.itoa g,[f,g],rfl,by simp,?_,by simp [hf,hg],.inl ⟨rfl,rfl⟩⟩
  exact split_two (itoa_nodot hf.1) (itoa_nodot hg.1)
 ·refine ⟨[97],Lib.itoa f ++ 46::(Lib.itoa g ++ 46::Lib.itoa e),[f,g,e],?_,by simp,?_,by simp [hf,hg,he],.inr ⟨rfl,rfl⟩⟩
  ·unfold body; rw [if_neg (by simp)]; rfl
  ·exact split_three (itoa_nodot hf.1) (itoa_nodot hg.1)
theorem itoa_map_inj:∀ {a b:List Int},(∀ n∈a,okN n)→(∀ n∈b,okN n)→a.map Lib.itoa=b.map Lib.itoa→a=b
 |[],[],_,_,_=>rfl
 |[],_::_,_,_,h=>by simp at h
 |_::_,[],_,_,h=>by simp at h
 |x::a,y::b,ha,hb,h=>by
  simp only [List.map_cons,List.cons.injEq] at h;have hx:=ha x (by simp)
  have hy:=hb y (by simp)
  rw [itoa_inj hx.1 (by have:=hx.2; omega) hy.1 (by have:=hy.2; omega) h.1,itoa_map_inj (fun n hn=>ha n (by simp [hn])) (fun n hn=>hb n (by simp [hn])) h.2]
theorem body_cut {s:List UInt8} {t:T} (h:may t) (he:body t=s):∃ ns:List Int,Lib.splitK [46] 0 2 (Lib.cut s [46]).2.1=ns.map Lib.itoa∧(∀ n∈ns,okN n)∧(((Lib.cut s [46]).1= [114]∧ns.length=2)∨((Lib.cut s [46]).1= [97]∧ns.length=3)):=by
 obtain ⟨letter,b,ns,e,hl,h1,h2,h3⟩:=body_must h;rw [← he,e,cut_at b hl];exact ⟨ns,h1,h2,h3⟩
theorem cut_back {s:List UInt8} (h:(Lib.cut s [46]).2.1≠ []):s=(Lib.cut s [46]).1 ++ 46::(Lib.cut s [46]).2.1:=by
 rcases nilOr 46 s with hn | ⟨a,b,rfl,hn⟩
 ·rw [cut_no hn] at h; simp at h
 ·rw [cut_at b hn]
theorem isTag_is (s:ByteArray) (w:World) (_hs:s.size≤5000):Calls Tryz.prog 144 #[.string s] w fun e w'=>e=.returned (.bool (hex16B s.data.toList))∧w'=w:=by
 have hlen:s.data.toList.length=s.size:=Array.length_toList;by_cases h16:s.size=16
 ·have HALL:Hid (∀ k (h:k<s.size),s.data.toList.take (k+1)=s.data.toList.take k ++ [s[k]]):=fun k h=>by rw [List.take_succ_eq_append_getElem (by simpa using h)]; rfl
  have HBAD:Hid (∀ k (h:k<s.size),¬ isHex s[k]→hex16B s.data.toList=false):=fun k h hn=>hex16B_f (fun hh=>hn (hh.2 _ (by
   show s.data[k]∈s.data.toList
   exact Array.mem_toList_iff.2 (Array.getElem_mem h))))
  have HGOOD:Hid ((∀ b∈s.data.toList.take 16,isHex b)→hex16B s.data.toList=true):=fun h=>hex16B_t ⟨by rw [hlen,h16],by rwa [List.take_of_length_le (by omega)] at h⟩
  have HLEN:Hid (s.data.toList.length=s.size):=hlen;have HSZ:Hid (s.size=16):=h16;clear hlen;go_enter Tryz.func144,Tryz.ntmps144
  go_wp2_with fail
  go_loopg [9] 16 (fun gk i wr=>∃ k:Nat,k+gk=16∧i=.int .i64 k∧(∀ b∈s.data.toList.take k,isHex b)∧wr=w)
  case atStart=>exact ⟨0,by omega,rfl,by simp,rfl⟩
  case round=>
   obtain ⟨k,hk,rfl,hall,rfl⟩:=hrel;have HK:Hid (k+gk=16):=hk;have hk16:k≤16:=by omega
   have HA:Hid (∀ b∈s.data.toList.take k,isHex b):=hall;clear hk hall;by_cases hlt:k<16
   ·have hks:k<s.size:=by omega
    by_cases hx:isHex s[k]
    ·have hd:isHexB s[k]=true:=isHexB_t hx
     have HX:Hid (isHex s[k]):=hx;clear hx;go_wp2_with fail
     refine (isHex_is _ _).mono ?_;rintro e w' ⟨rfl,rfl⟩;rw [hd];go_wp2_with fail
     go_roundg (gk - 1)
     case measure=>have:=HK.out; omega
     case rel=>
      refine ⟨k+1,by have:=HK.out; omega,by go_num,?_,rfl⟩
      rw [HALL.out k hks];intro b hb;simp only [List.mem_append,List.mem_singleton] at hb;rcases hb with hb | rfl
      ·exact HA.out b hb
      ·exact HX.out
    ·have hd:isHexB s[k]=false:=isHexB_f hx
     have HX:=HBAD.out k hks hx;have HX:Hid (hex16B s.data.toList=false):=HX;clear hx;go_wp2_with fail
     refine (isHex_is _ _).mono ?_;rintro e w' ⟨rfl,rfl⟩;rw [hd];go_wp2_with fail
     go_ret;exact ⟨by rw [HX.out]; rfl,rfl⟩
   ·obtain rfl:k=16:=by omega
    go_wp2_with fail
    go_ret;exact ⟨by rw [HGOOD.out HA.out]; rfl,rfl⟩
 ·have hd:hex16B s.data.toList=false:=hex16B_f (fun h=>h16 (by rw [← hlen]; exact h.1))
  have hne:¬ (s.size:Int)=16:=by omega
  clear h16;go_enter Tryz.func144,Tryz.ntmps144
  go_wp2_with fail
  go_ret;exact ⟨by rw [hd]; rfl,rfl⟩
theorem list2 {α:Type} {l:List α} (h:l.length=2):∃ x y,l= [x,y]:=by
 match l,h with
 |[x,y],_=>exact ⟨x,y,rfl⟩
theorem list3 {α:Type} {l:List α} (h:l.length=3):∃ x y z,l= [x,y,z]:=by
 match l,h with
 |[x,y,z],_=>exact ⟨x,y,z,rfl⟩
theorem bcell {W w1:World} (hb:Below W.heap.size W w1):(∀ b o,b<W.heap.size→w1.cell? ⟨b,o,none⟩=W.cell? ⟨b,o,none⟩)∧(∀ b o,b<W.heap.size→w1.frozen? ⟨b,o,none⟩=W.frozen? ⟨b,o,none⟩):=
 ⟨fun b o h=>hb.cell (p:=⟨b,o,none⟩) h,fun b o h=>hb.frozen (p:=⟨b,o,none⟩) h⟩
theorem readBody_is (s:ByteArray) (w:World) (hs:s.size≤5000) (hL:LibsR w):Calls Tryz.prog 143 #[.string s] w fun e w'=>Below w.heap.size w w'∧
 ((∃ t,e=.returned (.tuple #[tokV t,.bool true])∧may t∧body t=s.data.toList)∨(e=.returned (.tuple #[tokV zero,.bool false])∧∀ t,may t→body t≠s.data.toList)):=by
 have HL:Hid (LibsR w):=hL;have HCB:Hid ((Lib.cut s.data.toList [46]).2.1≠ []→s.data.toList=(Lib.cut s.data.toList [46]).1 ++ 46::(Lib.cut s.data.toList [46]).2.1):=cut_back;have HNO:Hid (∀ t,may t→body t=s.data.toList→∃ ns:List Int,Lib.splitK [46] 0 2 (Lib.cut s.data.toList [46]).2.1=ns.map Lib.itoa∧(∀ n∈ns,okN n)∧(((Lib.cut s.data.toList [46]).1= [114]∧ns.length=2)∨((Lib.cut s.data.toList [46]).1= [97]∧ns.length=3))):=fun t h1 h2=>body_cut h1 h2
 have hrl:(Lib.cut s.data.toList [46]).2.1.length≤s.data.toList.length:=by
  rcases nilOr 46 s.data.toList with hn | ⟨a,b,e,hn⟩
  ·rw [cut_no hn]; simp
  ·rw [e,cut_at b hn]; simp; omega
 rw [show s.data.toList.length=s.size from Array.length_toList] at hrl
 have hB0:Below w.heap.size w (w.alloc (.cells #[.int .i64 0,.int .i64 0,.int .i64 0,.int .i64 0] 142)):=(Below.refl _ _).alloc (Nat.le_refl _) _;have hLW:=hL.below hB0 rfl;obtain ⟨m,hm⟩:=hLW.len;have hcut:=Tryz.strings_Cut s ⟨#[46]⟩ m _ (by omega) hm
 rw [show (⟨#[46]⟩:ByteArray).data.toList= [46] from rfl] at hcut
 have HB0:Hid (Below w.heap.size w (w.alloc (.cells #[.int .i64 0,.int .i64 0,.int .i64 0,.int .i64 0] 142))):=hB0;have HLW:Hid (LibsR (w.alloc (.cells #[.int .i64 0,.int .i64 0,.int .i64 0,.int .i64 0] 142))):=hLW;generalize (Lib.cut s.data.toList [46]).1=L at *;generalize (Lib.cut s.data.toList [46]).2.1=R at *;generalize (Lib.cut s.data.toList [46]).2.2=F at *;clear hL hB0 hLW hm;go_enter Tryz.func143,Tryz.ntmps143
 go_wp2_with fail
 refine hcut.mono ?_;rintro e w1 ⟨rfl,d1,rfl⟩;have HB1:Hid (Below w.heap.size w (World.drewN (w.alloc (.cells #[.int .i64 0,.int .i64 0,.int .i64 0,.int .i64 0] 142)) d1)):=below_drewN HB0.out d1;have hLW1:=HL.out.below HB1.out rfl;clear hcut;go_wp2_with fail
 refine (readNumbers_is ⟨R.toArray⟩ _ (by simp [ByteArray.size]; omega) hLW1).mono ?_
 rintro e w2 ⟨hb2,⟨ns,g,cap,rfl,hsp,hok,hrow⟩ | ⟨rfl,hbad⟩⟩
 ·obtain ⟨hc,hf⟩:=bcell hb2
  have HB2:Hid (Below w.heap.size w w2):=HB1.out.trans (hb2.mono HB1.out.size);have hz:w.heap.size+1≤w2.heap.size:=by have:=hb2.size; simp at this; omega
  clear hb2 hLW1
  have HNB:Hid (¬ ((L= [114]∧ns.length=2)∨(L= [97]∧ns.length=3))→∀ t,may t→body t≠s.data.toList):=by
   intro hn t ht he;obtain ⟨ns',e1,e2,e3⟩:=HNO.out t ht he;obtain rfl:=itoa_map_inj e2 hok (e1.symm.trans hsp);exact hn e3
  have HRB:Hid (s.data.toList=L ++ 46::R∨R= []):=by
   by_cases h:R= []
   ·exact .inr h
   ·exact .inl (HCB.out h)
  by_cases h1:L= [114]∧ns.length=2
  ·obtain ⟨rfl,hl⟩:=h1
   obtain ⟨x,y,rfl⟩:=list2 hl;have c0:=hrow.holds 0 _ rfl;have c1:=hrow.holds 1 _ rfl
   have HR:Hid (s.data.toList=body ⟨1,x,y,0⟩∧may ⟨1,x,y,0⟩):=by
    have e:=split_of2 hsp;refine ⟨?_,.inl ⟨rfl,rfl⟩,hok x (by simp),hok y (by simp)⟩
    rcases HRB.out with h | h
    ·rw [h,show R=_ from e]; rfl
    ·subst h; simp at e
   clear hsp hok hrow hl HRB HNB HNO HCB;go_wp2_with fail
   go_region
   go_wp2_with fail
   exact bodyPost_ret (v:=.tuple #[tokV ⟨1,x,y,0⟩,.bool true]) (by simp [results,Tryz.results143,go_sem,tokV,hc]) rfl ⟨((((HB2.out.setCell (Nat.le_refl _) _).setCell (Nat.le_refl _) _).setCell (Nat.le_refl _) _).setCell (Nat.le_refl _) _).drew,.inl ⟨_,rfl,HR.out.2,HR.out.1.symm⟩⟩
  ·by_cases h2:L= [97]∧ns.length=3
   ·obtain ⟨rfl,hl⟩:=h2
    obtain ⟨x,y,z,rfl⟩:=list3 hl;have c0:=hrow.holds 0 _ rfl;have c1:=hrow.holds 1 _ rfl;have c2:=hrow.holds 2 _ rfl
    have HR:Hid (s.data.toList=body ⟨2,x,y,z⟩∧may ⟨2,x,y,z⟩):=by
     have e:=split_of3 hsp;refine ⟨?_,.inr ⟨rfl,hok z (by simp)⟩,hok x (by simp),hok y (by simp)⟩
     rcases HRB.out with h | h
     ·rw [h,show R=_ from e]; rfl
     ·subst h; simp at e
    clear hsp hok hrow hl HRB HNB HNO HCB h1;go_wp2_with fail
    go_region
    go_wp2_with fail
    exact bodyPost_ret (v:=.tuple #[tokV ⟨2,x,y,z⟩,.bool true]) (by simp [results,Tryz.results143,go_sem,tokV,hc]) rfl ⟨((((HB2.out.setCell (Nat.le_refl _) _).setCell (Nat.le_refl _) _).setCell (Nat.le_refl _) _).setCell (Nat.le_refl _) _).drew,.inl ⟨_,rfl,HR.out.2,HR.out.1.symm⟩⟩
   ·have HX:Hid (∀ t,may t→body t≠s.data.toList):=HNB.out (fun h=>h.elim h1 h2)
    clear hsp hok hrow HRB HNB HNO HCB;go_wp2_with fail
    all_goals try (exfalso; simp_all; omega)
    all_goals
     exact bodyPost_ret (v:=.tuple #[tokV zero,.bool false]) (by simp [results,Tryz.results143,go_sem,tokV,zero,hc]) rfl ⟨((((HB2.out).setCell (Nat.le_refl _) _).setCell (Nat.le_refl _) _).setCell (Nat.le_refl _) _).setCell (Nat.le_refl _) _,.inr ⟨rfl,HX.out⟩⟩
 ·obtain ⟨hc,hf⟩:=bcell hb2
  have HB2:Hid (Below w.heap.size w w2):=HB1.out.trans (hb2.mono HB1.out.size);have hz:w.heap.size+1≤w2.heap.size:=by have:=hb2.size; simp at this; omega
  have HX:Hid (∀ t,may t→body t≠s.data.toList):=by
   intro t ht he;obtain ⟨ns',e1,e2,e3⟩:=HNO.out t ht he;exact hbad ⟨ns',e1,e2⟩
  clear hb2 hbad HNO HCB hLW1;go_wp2_with fail
  exact bodyPost_ret (v:=.tuple #[tokV zero,.bool false]) (by simp [results,Tryz.results143,go_sem,tokV,zero,hc]) rfl ⟨((((HB2.out).setCell (Nat.le_refl _) _).setCell (Nat.le_refl _) _).setCell (Nat.le_refl _) _).setCell (Nat.le_refl _) _,.inr ⟨rfl,HX.out⟩⟩
theorem ext_list (s:ByteArray) (i j:Nat):(s.extract i j).data.toList=(s.data.toList.drop i).take (j - i):=by
 simp
def errP:Nat→Value
 |0=>.nilIface
 |1=>.iface 47 (.int .i64 3)
 |_=>.iface 47 (.int .i64 5)
theorem readP_is (key:Int) (s:ByteArray) (w:World) (hs:s.size≤5000) (hL:LibsR w):Calls Tryz.prog 91 #[.int .i64 key,.string s] w fun e w'=>Below w.heap.size w w'∧
 ∃ t n,Out (tag key) s.data.toList t n∧e=.returned (.tuple #[tokV t,errP n]):=by
 have HL:Hid (LibsR w):=hL;have hB0:Below w.heap.size w (w.alloc (.cells #[.int .i64 0,.int .i64 0,.int .i64 0,.int .i64 0] 142)):=(Below.refl _ _).alloc (Nat.le_refl _) _;have HB0:Hid (Below w.heap.size w (w.alloc (.cells #[.int .i64 0,.int .i64 0,.int .i64 0,.int .i64 0] 142))):=hB0;have HLW:Hid (LibsR (w.alloc (.cells #[.int .i64 0,.int .i64 0,.int .i64 0,.int .i64 0] 142))):=hL.below hB0 rfl;clear hL hB0;have hlen:s.data.toList.length=s.size:=Array.length_toList;rcases lastOr 46 s.data.toList with hno | ⟨a,b,hab,hb⟩
 ·have hlast:=last_no hno
  have HF:Hid (∀ t tag,¬ Tok.Form s.data.toList t tag):=by
   intro t tag h;apply hno
   rw [h.2.2]; simp
  clear hno hlen;go_enter Tryz.func91,Tryz.ntmps91
  go_wp2_with fail
  refine (Tryz.strings_LastIndex_one s ⟨#[46]⟩ rfl (by omega) _).mono ?_
  rintro e w1 ⟨rfl,rfl⟩;have hl2:Lib.lastIndexByte s (((⟨#[46]⟩:ByteArray)[0]'(by decide)).toNat:Int)=-1:=hlast
  rw [hl2];clear hl2 hlast;go_wp2_with fail
  exact bodyPost_ret (v:=.tuple #[tokV zero,.iface 47 (.int .i64 3)]) (by simp [results,Tryz.results91,go_sem,tokV,zero]) rfl ⟨HB0.out,zero,1,Out.form HF.out,rfl⟩
 ·have hlast:=last_at hab hb
  have hsz:a.length+(b.length+1)=s.size:=by rw [← hlen,hab]; simp
  have HAB:Hid (s.data.toList=a ++ 46::b):=hab;have hx1:s.extract 0 a.length=⟨a.toArray⟩:=bstr (by rw [ext_list,hab]; simp)
  have hx2:s.extract (a.length+1) s.size=⟨b.toArray⟩:=bstr (by rw [ext_list,hab,← hsz,show a.length+(b.length+1) - (a.length+1)=b.length by omega]; simp)
  have HX1:Hid (s.extract 0 a.length=⟨a.toArray⟩):=hx1;have HX2:Hid (s.extract (a.length+1) s.size=⟨b.toArray⟩):=hx2;clear hx1 hx2;have HNB:Hid ((46:UInt8)∉b):=hb;clear hab hb;go_enter Tryz.func91,Tryz.ntmps91
  go_wp2_with fail
  refine (Tryz.strings_LastIndex_one s ⟨#[46]⟩ rfl (by omega) _).mono ?_
  rintro e w1 ⟨rfl,rfl⟩;have hl2:Lib.lastIndexByte s (((⟨#[46]⟩:ByteArray)[0]'(by decide)).toNat:Int)=a.length:=hlast
  rw [hl2];clear hl2 hlast;go_wp2_with fail
  go_region
  rw [HX1.out,HX2.out];have HB1:Hid (Below w.heap.size w ((w.alloc (.cells #[.int .i64 0,.int .i64 0,.int .i64 0,.int .i64 0] 142)).drew)):=HB0.out.drew;have hL1:=HL.out.below HB1.out rfl;go_wp2_with fail
  refine (readBody_is ⟨a.toArray⟩ _ (by simp [ByteArray.size]; omega) hL1).mono ?_
  rintro e w2 ⟨hb2,⟨t,rfl,htm,htb⟩ | ⟨rfl,hbad⟩⟩
  ·obtain ⟨hc,hf⟩:=bcell hb2
   have HB2:Hid (Below w.heap.size w w2):=HB1.out.trans (hb2.mono HB1.out.size);have hz:w.heap.size<w2.heap.size:=by have:=hb2.size; simp at this; omega
   have hz':w.heap.size≠w2.heap.size:=by omega
   have hz1:w.heap.size<w2.heap.size+1:=by omega
   clear hb2 hL1;unfold tokV;simp only;go_wp2_with fail
   have HF:Hid (∀ t' tag',Tok.Form s.data.toList t' tag'→t'=t∧tag'=b):=by
    intro t' tag' h;have e:=HAB.out.symm.trans h.2.2;obtain ⟨e1,e2⟩:=part_last e HNB.out (hex16_nodot h.2.1);exact ⟨body_inj h.1 htm (by rw [← e1,htb]),e2.symm⟩
   have HM:Hid (may t):=htm;have HTB:Hid (body t=a):=htb;clear htm htb;refine (isTag_is ⟨b.toArray⟩ _ (by simp [ByteArray.size]; omega)).mono ?_
   rintro e w3 ⟨rfl,rfl⟩;by_cases hx:hex16 b
   ·have hd:hex16B (⟨b.toArray⟩:ByteArray).data.toList=true:=hex16B_t hx
    rw [hd];have HX:Hid (hex16 b):=hx;clear hd hx;go_wp2_with fail
    refine (macTag_list key a _ (by omega)).mono ?_
    rintro e w4 ⟨rfl,hb4⟩;obtain ⟨hc4,hf4⟩:=bcell hb4;have HB4:Hid (Below w.heap.size w w4):=(HB2.out.alloc HB2.out.size _).trans (hb4.mono (Nat.le_trans HB2.out.size (by simp)))
    have hz4:w2.heap.size<w4.heap.size:=by have:=hb4.size; simp at this; omega
    clear hb4;go_wp2_with fail
    refine (same_any ⟨b.toArray⟩ ⟨(tag key a).toArray⟩ _ (by simp [ByteArray.size]; omega) (by simp [ByteArray.size,tag_len])).mono ?_
    rintro e w5 ⟨rfl,d5,rfl⟩;by_cases hg:b=tag key a
    ·have hd:decide ((⟨b.toArray⟩:ByteArray).data.toList=(⟨(tag key a).toArray⟩:ByteArray).data.toList)=true:=decide_eq_true hg
     rw [hd];have HG:Hid (Out (tag key) s.data.toList t 0):=Out.good t b ⟨HM.out,HX.out,by rw [HAB.out,HTB.out]⟩ (by rw [HTB.out]; exact hg)
     clear hd hg;go_wp2_with fail
     exact bodyPost_ret (v:=.tuple #[tokV t,.nilIface]) (by simp [results,Tryz.results91,go_sem,tokV,hc4,hc,hz,hz1]) rfl ⟨(((((below_drewN HB4.out _).setCell (Nat.le_refl _) _).setCell (Nat.le_refl _) _).setCell (Nat.le_refl _) _).setCell (Nat.le_refl _) _),t,0,HG.out,rfl⟩
    ·have hd:decide ((⟨b.toArray⟩:ByteArray).data.toList=(⟨(tag key a).toArray⟩:ByteArray).data.toList)=false:=decide_eq_false hg
     rw [hd];have HG:Hid (Out (tag key) s.data.toList zero 2):=Out.name t b ⟨HM.out,HX.out,by rw [HAB.out,HTB.out]⟩ (by rw [HTB.out]; exact hg)
     clear hd hg;go_wp2_with fail
     exact bodyPost_ret (v:=.tuple #[tokV zero,.iface 47 (.int .i64 5)]) (by simp [results,Tryz.results91,go_sem,tokV,zero,hc4,hc,hz,hz1]) rfl ⟨(((((below_drewN HB4.out _).setCell (Nat.le_refl _) _).setCell (Nat.le_refl _) _).setCell (Nat.le_refl _) _).setCell (Nat.le_refl _) _),zero,2,HG.out,rfl⟩
   ·have hd:hex16B (⟨b.toArray⟩:ByteArray).data.toList=false:=hex16B_f hx
    rw [hd];have HG:Hid (Out (tag key) s.data.toList zero 1):=Out.form (fun t' tag' h=>hx ((HF.out t' tag' h).2 ▸ h.2.1));clear hd hx;go_wp2_with fail
    exact bodyPost_ret (v:=.tuple #[tokV zero,.iface 47 (.int .i64 3)]) (by simp [results,Tryz.results91,go_sem,tokV,zero,hc,hz]) rfl ⟨((((HB2.out.setCell (Nat.le_refl _) _).setCell (Nat.le_refl _) _).setCell (Nat.le_refl _) _).setCell (Nat.le_refl _) _).alloc (by simpa using HB2.out.size) _,zero,1,HG.out,rfl⟩
  ·obtain ⟨hc,hf⟩:=bcell hb2
   have HB2:Hid (Below w.heap.size w w2):=HB1.out.trans (hb2.mono HB1.out.size);have hz:w.heap.size<w2.heap.size:=by have:=hb2.size; simp at this; omega
   have hz':w.heap.size≠w2.heap.size:=by omega
   have hz1:w.heap.size<w2.heap.size+1:=by omega
   clear hb2 hL1;unfold tokV zero;simp only;go_wp2_with fail
   have HG:Hid (Out (tag key) s.data.toList zero 1):=Out.form (fun t' tag' h=>by
    have e:=HAB.out.symm.trans h.2.2;obtain ⟨e1,e2⟩:=part_last e HNB.out (hex16_nodot h.2.1);exact hbad t' h.1 e1.symm)
   clear hbad;exact bodyPost_ret (v:=.tuple #[tokV zero,.iface 47 (.int .i64 3)]) (by simp [results,Tryz.results91,go_sem,tokV,zero,hc,hz]) rfl ⟨((((HB2.out.setCell (Nat.le_refl _) _).setCell (Nat.le_refl _) _).setCell (Nat.le_refl _) _).setCell (Nat.le_refl _) _).alloc (by simpa using HB2.out.size) _,zero,1,HG.out,rfl⟩
end Go.Proofs.YtlailakofhenkabGreatDoor
