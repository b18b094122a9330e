import Derived.Test.YtlailakofhenkabGreatDoorB10
import Derived.Test.YtlailakofhenkabGreatDoorB11
set_option maxHeartbeats 1000000
namespace Go.Proofs.YtlailakofhenkabGreatDoor
open Go.RowKit
structure IsDisk (w:World) (g:Nat) (F:Int→ByteArray) (n:Int) (c:Bool) (l:Int):Prop where
 blk:∀ j:Nat,j<90→w.cell? ⟨g,j,none⟩=some (.string (F j))
 wr:w.cell? ⟨g,90,none⟩=some (.int .i64 n)
 ct:w.cell? ⟨g,91,none⟩=some (.bool c)
 lf:w.cell? ⟨g,92,none⟩=some (.int .i64 l)
 fz:∀ j:Nat,j<93→w.frozen? ⟨g,j,none⟩=false
theorem IsDisk.below {B:Nat} {w w':World} {g:Nat} {F:Int→ByteArray} {n:Int} {c:Bool} {l:Int} (h:IsDisk w g F n c l) (hb:Below B w w') (hg:g<B):IsDisk w' g F n c l:=
 ⟨fun j hj=>(hb.cell (p:=⟨g,j,none⟩) hg).trans (h.blk j hj),(hb.cell (p:=⟨g,90,none⟩) hg).trans h.wr,(hb.cell (p:=⟨g,91,none⟩) hg).trans h.ct,(hb.cell (p:=⟨g,92,none⟩) hg).trans h.lf,fun j hj=>(hb.frozen (p:=⟨g,j,none⟩) hg).trans (h.fz j hj)⟩
theorem grRefl (w:World) (g:Nat):w.grownBy w (some g):=⟨rfl,rfl,rfl,Nat.le_refl _,fun _ _ _=>rfl⟩
theorem grSet {w w1:World} {g:Nat} (h:w.grownBy w1 (some g)) (o:Nat) (v:Value):w.grownBy (w1.setCell ⟨g,o,none⟩ v) (some g):=
 ⟨h.os,h.tape,h.output,by simp [World.setCell]; exact h.size,fun k hk hne=>(Below.heap_setCell _ _ _ _ (by intro e; exact hne (by rw [e]))).trans (h.block k hk hne)⟩
theorem grBelow {w w1 w2:World} {g:Nat} (h:w.grownBy w1 (some g)) (hb:Below w1.heap.size w1 w2):w.grownBy w2 (some g):=
 ⟨hb.os.trans h.os,hb.tape.trans h.tape,hb.output.trans h.output,Nat.le_trans h.size hb.size,fun k hk hne=>(hb.block k (Nat.lt_of_lt_of_le hk h.size)).trans (h.block k hk hne)⟩
theorem there_any (k:Int) (w:World):Calls Tryz.prog 189 #[.int .i64 k] w fun e w'=>e=.returned (.bool (decide (0≤k∧k<90)))∧w'=w:=by
 by_cases h0:0≤k
 ·by_cases h1:k<90
  ·go_enter Tryz.func189,Tryz.ntmps189
   go_wp2_with fail
   go_ret;exact ⟨by simp [h0,h1],rfl⟩
  ·go_enter Tryz.func189,Tryz.ntmps189
   go_wp2_with fail
   go_ret;exact ⟨by simp [h1],rfl⟩
 ·go_enter Tryz.func189,Tryz.ntmps189
  go_wp2_with fail
  go_ret;exact ⟨by simp; omega,rfl⟩
theorem off_any (g:Nat) (F:Int→ByteArray) (n:Int) (c:Bool) (l:Int) (w:World) (h:IsDisk w g F n c l):Calls Tryz.prog 190 #[.pointer (some ⟨g,0,none⟩)] w fun e w'=>e=.returned (.bool (c && l == 0))∧w'=w:=by
 have hc:=h.ct;have hl:=h.lf
 cases c
 ·go_enter Tryz.func190,Tryz.ntmps190
  go_wp2_with fail
  go_ret;exact ⟨rfl,rfl⟩
 ·go_enter Tryz.func190,Tryz.ntmps190
  go_wp2_with fail
  go_ret;exact ⟨rfl,rfl⟩
theorem writes_any (g:Nat) (F:Int→ByteArray) (n:Int) (c:Bool) (l:Int) (w:World) (h:IsDisk w g F n c l):Calls Tryz.prog 299 #[.pointer (some ⟨g,0,none⟩)] w fun e w'=>e=.returned (.int .i64 n)∧w'=w:=by
 have hc:=h.wr;go_enter Tryz.func299,Tryz.ntmps299
 go_wp2_with fail
 go_ret;exact ⟨rfl,rfl⟩
theorem read_yes (g:Nat) (F:Int→ByteArray) (n:Int) (c:Bool) (l:Int) (k:Nat) (w:World) (h:IsDisk w g F n c l) (hk:k<90):Calls Tryz.prog 182 #[.pointer (some ⟨g,0,none⟩),.int .i64 k] w fun e w'=>e=.returned (.tuple #[.string (F k),.nilIface])∧w'=w:=by
 have hc:=h.blk k hk;have hd:decide ((0:Int)≤(k:Int)∧(k:Int)<90)=true:=by simp; omega
 go_enter Tryz.func182,Tryz.ntmps182
 go_wp2_with fail
 refine (there_any k _).mono ?_;rintro e w' ⟨rfl,rfl⟩;rw [hd];clear hd;go_wp2_with fail
 go_ret2;exact ⟨rfl,rfl⟩
def upd (F:Int→ByteArray) (k:Int) (s:ByteArray):Int→ByteArray:=fun j=>if j=k then s else F j
theorem IsDisk.set {w:World} {g:Nat} {F:Int→ByteArray} {n:Int} {c:Bool} {l:Int} (h:IsDisk w g F n c l) {k:Nat} (hk:k<90) (s:ByteArray):IsDisk (w.setCell ⟨g,k,none⟩ (.string s)) g (upd F k s) n c l:=by
 have hold:=h.blk k hk;refine ⟨fun j hj=>?_,?_,?_,?_,fun j hj=>?_⟩
 ·have hj2:=h.blk j hj
  by_cases e:j=k
  ·subst e; go_simp; simp [upd]
  ·have e':¬ (j:Int)=(k:Int):=by omega
   go_simp;simp [upd,e']
 ·have:=h.wr; have hne:90≠k:=by omega
  go_simp
 ·have:=h.ct; have hne:91≠k:=by omega
  go_simp
 ·have:=h.lf; have hne:92≠k:=by omega
  go_simp
 ·simpa using h.fz j hj
theorem IsDisk.setWr {w:World} {g:Nat} {F:Int→ByteArray} {n:Int} {c:Bool} {l:Int} (h:IsDisk w g F n c l) (m:Int):IsDisk (w.setCell ⟨g,90,none⟩ (.int .i64 m)) g F m c l:=by
 refine ⟨fun j hj=>?_,?_,?_,?_,fun j hj=>by simpa using h.fz j hj⟩
 ·have hj2:=h.blk j hj; have hne:j≠90:=by omega
  go_simp
 ·have:=h.wr; go_simp
 ·have:=h.ct; go_simp
 ·have:=h.lf; go_simp
theorem IsDisk.setCt {w:World} {g:Nat} {F:Int→ByteArray} {n:Int} {c:Bool} {l:Int} (h:IsDisk w g F n c l) (m:Bool):IsDisk (w.setCell ⟨g,91,none⟩ (.bool m)) g F n m l:=by
 refine ⟨fun j hj=>?_,?_,?_,?_,fun j hj=>by simpa using h.fz j hj⟩
 ·have hj2:=h.blk j hj; have hne:j≠91:=by omega
  go_simp
 ·have:=h.wr; go_simp
 ·have:=h.ct; go_simp
 ·have:=h.lf; go_simp
theorem IsDisk.setLf {w:World} {g:Nat} {F:Int→ByteArray} {n:Int} {c:Bool} {l:Int} (h:IsDisk w g F n c l) (m:Int):IsDisk (w.setCell ⟨g,92,none⟩ (.int .i64 m)) g F n c m:=by
 refine ⟨fun j hj=>?_,?_,?_,?_,fun j hj=>by simpa using h.fz j hj⟩
 ·have hj2:=h.blk j hj; have hne:j≠92:=by omega
  go_simp
 ·have:=h.wr; go_simp
 ·have:=h.ct; go_simp
 ·have:=h.lf; go_simp
theorem IsDisk.drew {w:World} {g:Nat} {F:Int→ByteArray} {n:Int} {c:Bool} {l:Int} (h:IsDisk w g F n c l):IsDisk w.drew g F n c l:=⟨h.blk,h.wr,h.ct,h.lf,h.fz⟩
theorem cut_on (g:Nat) (F:Int→ByteArray) (n:Int) (c:Bool) (l k:Int) (hk:0≤k) (w:World) (h:IsDisk w g F n c l):Calls Tryz.prog 15 #[.pointer (some ⟨g,0,none⟩),.int .i64 k] w fun e w'=>e=.returned (.tuple #[])∧IsDisk w' g F n true k∧w.grownBy w' (some g):=by
 have hc:=h.ct;have hl:=h.lf;have f1:=h.fz 91 (by omega)
 have f2:=h.fz 92 (by omega)
 have hm:max k 0=k:=by omega
 have hd:decide (0≤k)=true:=by simp; omega
 have HS:Hid (IsDisk ((w.setCell ⟨g,91,none⟩ (.bool true)).setCell ⟨g,92,none⟩ (.int .i64 k)) g F n true k):=(h.setCt _).setLf _;have HB:Hid (w.grownBy ((w.setCell ⟨g,91,none⟩ (.bool true)).setCell ⟨g,92,none⟩ (.int .i64 k)) (some g)):=grSet (grSet (grRefl w g) 91 _) 92 _;clear h;go_enter Tryz.func15,Tryz.ntmps15
 go_wp2_with fail
 go_end0
 exact ⟨rfl,HS.out,HB.out⟩
theorem cut_off (g:Nat) (F:Int→ByteArray) (n:Int) (c:Bool) (l k:Int) (hk:k<0) (w:World) (h:IsDisk w g F n c l):Calls Tryz.prog 15 #[.pointer (some ⟨g,0,none⟩),.int .i64 k] w fun e w'=>e=.returned (.tuple #[])∧IsDisk w' g F n false 0∧w.grownBy w' (some g):=by
 have hc:=h.ct;have hl:=h.lf;have f1:=h.fz 91 (by omega)
 have f2:=h.fz 92 (by omega)
 have hm:max k 0=0:=by omega
 have hd:decide (0≤k)=false:=by simp; omega
 have HS:Hid (IsDisk ((w.setCell ⟨g,91,none⟩ (.bool false)).setCell ⟨g,92,none⟩ (.int .i64 0)) g F n false 0):=(h.setCt _).setLf _;have HB:Hid (w.grownBy ((w.setCell ⟨g,91,none⟩ (.bool false)).setCell ⟨g,92,none⟩ (.int .i64 0)) (some g)):=grSet (grSet (grRefl w g) 91 _) 92 _;clear h;go_enter Tryz.func15,Tryz.ntmps15
 go_wp2_with fail
 go_end0
 exact ⟨rfl,HS.out,HB.out⟩
theorem write_off (g:Nat) (F:Int→ByteArray) (n:Int) (k:Int) (s:ByteArray) (w:World) (h:IsDisk w g F n true 0) (hk:0≤k∧k<90) (hs:¬ 240<s.size):Calls Tryz.prog 116 #[.pointer (some ⟨g,0,none⟩),.int .i64 k,.string s] w fun e w'=>e=.returned (.iface 47 (.int .i64 14))∧w'=w:=by
 have hs':¬ (240:Int)<(s.size:Int):=by omega
 go_enter Tryz.func116,Tryz.ntmps116
 go_wp2_with fail
 refine (there_any k _).mono ?_;rintro e w' ⟨rfl,rfl⟩;rw [decide_eq_true hk];go_wp2_with fail
 refine (off_any g F n true 0 _ h).mono ?_;rintro e w' ⟨rfl,rfl⟩;go_wp2_with fail
 go_ret;exact ⟨rfl,rfl⟩
theorem clone_any (s:ByteArray) (w:World) (hs:s.size≤281474976710656):Calls Tryz.prog 191 #[.string s] w fun e w'=>e=.returned (.string s)∧Below w.heap.size w w':=by
 go_enter Tryz.func191,Tryz.ntmps191
 go_wp2_with fail
 refine (Tryz.stringslite_Clone s _ hs).mono ?_;rintro e w' ⟨rfl,hb⟩;go_wp2_with fail
 go_ret;exact ⟨rfl,hb⟩
theorem write_plain (g:Nat) (F:Int→ByteArray) (n l:Int) (k:Nat) (s:ByteArray) (w:World) (h:IsDisk w g F n false l) (hg:g<w.heap.size) (hk:k<90) (hs:¬ 240<s.size) (hn0:0≤n) (hn:n<100000) :
 Calls Tryz.prog 116 #[.pointer (some ⟨g,0,none⟩),.int .i64 k,.string s] w fun e w'=>e=.returned .nilIface∧IsDisk w' g (upd F k s) (n+1) false l∧w.grownBy w' (some g):=by
 have hs':¬ (240:Int)<(s.size:Int):=by omega
 have hd:decide ((0:Int)≤(k:Int)∧(k:Int)<90)=true:=by simp; omega
 go_enter Tryz.func116,Tryz.ntmps116
 go_wp2_with fail
 refine (there_any k _).mono ?_;rintro e w' ⟨rfl,rfl⟩;rw [hd];clear hd;go_wp2_with fail
 refine (off_any g F n false l _ h).mono ?_;rintro e w' ⟨rfl,rfl⟩;go_wp2_with fail
 have hold:=h.blk k hk;have hfz:=h.fz k (by omega)
 go_cut [] from 21 to 45 (fun wx=>IsDisk wx g (upd F k s) n false l∧w'.grownBy wx (some g))
 case first=>
  go_region_with (go_at_call 191; refine (clone_any s _ (by omega)).mono ?_; rintro e w2 ⟨rfl,hb2⟩; have k0:=(hb2.cell (p:=⟨g,k,none⟩) (by exact hg)).trans hold; have k1:=(hb2.frozen (p:=⟨g,k,none⟩) (by exact hg)).trans hfz)
  all_goals (go_wp2_with fail; go_meet)
  all_goals exact ⟨((h.drew).below hb2 hg).set hk s,grSet (grBelow (grRefl _ g) (((Below.refl _ _).drew).trans hb2)) k _⟩
 case rest=>
  obtain ⟨hdk,hb⟩:=hcut;have hc:=hdk.ct;have hw:=hdk.wr;have f1:=hdk.fz 90 (by omega)
  go_wp2_with fail
  go_ret;exact ⟨rfl,hdk.setWr _,grSet hb 90 _⟩
theorem write_cut (g:Nat) (F:Int→ByteArray) (n l:Int) (k:Nat) (s:ByteArray) (w:World) (h:IsDisk w g F n true l) (hl0:0<l) (hl1:l≤9223372036854775807) (hg:g<w.heap.size) (hk:k<90) (hs:¬ 240<s.size) (hn0:0≤n) (hn:n<100000) :
 Calls Tryz.prog 116 #[.pointer (some ⟨g,0,none⟩),.int .i64 k,.string s] w fun e w'=>e=.returned .nilIface∧IsDisk w' g (upd F k s) (n+1) true (l - 1)∧w.grownBy w' (some g):=by
 have hs':¬ (240:Int)<(s.size:Int):=by omega
 have hd:decide ((0:Int)≤(k:Int)∧(k:Int)<90)=true:=by simp; omega
 go_enter Tryz.func116,Tryz.ntmps116
 go_wp2_with fail
 refine (there_any k _).mono ?_;rintro e w' ⟨rfl,rfl⟩;rw [hd];clear hd;go_wp2_with fail
 refine (off_any g F n true l _ h).mono ?_;rintro e w' ⟨rfl,rfl⟩;have hle:(true && l == 0)=false:=by simp; omega
 rw [hle];clear hle;go_wp2_with fail
 have hold:=h.blk k hk;have hfz:=h.fz k (by omega)
 go_cut [] from 21 to 45 (fun wx=>IsDisk wx g (upd F k s) n true l∧w'.grownBy wx (some g))
 case first=>
  go_region_with (go_at_call 191; refine (clone_any s _ (by omega)).mono ?_; rintro e w2 ⟨rfl,hb2⟩; have k0:=(hb2.cell (p:=⟨g,k,none⟩) (by exact hg)).trans hold; have k1:=(hb2.frozen (p:=⟨g,k,none⟩) (by exact hg)).trans hfz)
  all_goals (go_wp2_with fail; go_meet)
  all_goals exact ⟨((h.drew).below hb2 hg).set hk s,grSet (grBelow (grRefl _ g) (((Below.refl _ _).drew).trans hb2)) k _⟩
 case rest=>
  obtain ⟨hdk,hb⟩:=hcut;have hc:=hdk.ct;have hw:=hdk.wr;have f1:=hdk.fz 90 (by omega)
  have hl:=hdk.lf;have f2:=hdk.fz 92 (by omega)
  go_wp2_with fail
  go_ret;exact ⟨rfl,(hdk.setWr _).setLf _,grSet (grSet hb 90 _) 92 _⟩
end Go.Proofs.YtlailakofhenkabGreatDoor
namespace Go.Proofs.YtlailakofhenkabGreatDoor
open Go Go.RowKit Tok Sc Ev
abbrev tag0:List UInt8→List UInt8:=tag 0
theorem tagOk0:TagOk tag0:=⟨fun l=>Hex.hexsN_length _ _,fun l hm=>by
 have:=hexsN_hex _ _ _ hm;simp [isHex] at this⟩
theorem joinW_is (xs:List ByteArray) (g c:Nat) (w:World) (hw:WordsAt w g xs) (hn:xs.length≤10) (hc:xs.length≤c) (hl:(Lib.join (xs.map (·.data.toList)) [32]).length≤5000) :
 Calls Tryz.prog 114 #[.slice (some ⟨g,0,none⟩) xs.length c,.string ⟨#[32]⟩] w fun r w'=>r=.returned (.string (bs8 (Lib.join (xs.map (·.data.toList)) [32])))∧Below w.heap.size w w':=
 Tryz.strings_Join g 0 c xs ⟨#[32]⟩ w hw.2 hw.1 (by omega) hc (Nat.le_trans hl (by omega))
theorem tag0_is (t:List UInt8) (w:World) (h:t.length≤5000):Calls Tryz.prog 137 #[.int .i64 0,.string (bs8 t)] w fun e w'=>e=.returned (.string (bs8 (tag0 t)))∧Below w.heap.size w w':=macTag_any 0 (bs8 t) w (by rw [bsize]; omega)
theorem seal_is (xs:List ByteArray) (g c:Nat) (w:World) (hw:WordsAt w g xs) (hn:xs.length≤10) (hc:xs.length≤c) (hl:(Lib.join (xs.map (·.data.toList)) [32]).length≤5000) :
 Calls Tryz.prog 117 #[.slice (some ⟨g,0,none⟩) xs.length c] w fun r w'=>r=.returned (.string (bs8 (sealL tag0 (Lib.join (xs.map (·.data.toList)) [32]))))∧Below w.heap.size w w':=by
 have HJ:=joinW_is xs g c w hw hn hc hl;have HT:=fun (W:World)=>tag0_is (Lib.join (xs.map (·.data.toList)) [32]) W hl;generalize Lib.join (xs.map (·.data.toList)) [32]=T at *;have HS:Hid (sealL tag0 T=tag0 T ++ 32::T):=rfl;have h16:(tag0 T).length=16:=tagOk0.len T;have n1:¬ 9223372036854775807<(tag0 T).length+1:=by omega
 have n2:¬ 9223372036854775807<(tag0 T).length+1+T.length:=by omega
 generalize tag0 T=G at *;clear hw hn hc;go_enter Tryz.func117,Tryz.ntmps117
 go_wp2_with fail
 refine HJ.mono ?_;rintro e1 w1 ⟨rfl,hb1⟩;have HB1:Hid (Below w.heap.size w w1):=hb1;clear hb1 HJ;go_wp2_with fail
 refine (HT _).mono ?_;rintro e2 w2 ⟨rfl,hb2⟩;have HB2:Hid (Below w.heap.size w w2):=HB1.out.trans (hb2.mono HB1.out.size);clear hb2 HT;go_wp2_with fail
 go_ret;refine ⟨?_,HB2.out⟩;rw [HS.out];show Ending.returned (.string ((⟨G.toArray⟩:ByteArray) ++ ⟨#[32]⟩ ++ ⟨T.toArray⟩))=_
 congr 2
 apply ByteArray.ext
 simp [ByteArray.data_append]
theorem same_self (G:List UInt8) (h:G.length=16) (W:World):Calls Tryz.prog 145 #[.string (bs8 G),.string (bs8 G)] W fun e w'=>e=.returned (.bool true)∧∃ n,w'=W.drewN n:=by
 have:=same_any (bs8 G) (bs8 G) W (by rw [bsize]; omega) (by rw [bsize]; omega)
 rwa [decide_eq_true (show (bs8 G).data.toList=(bs8 G).data.toList from rfl)] at this
theorem same_none (G:List UInt8) (h:G.length=16) (W:World):Calls Tryz.prog 145 #[.string ⟨#[]⟩,.string (bs8 G)] W fun e w'=>e=.returned (.bool false)∧∃ n,w'=W.drewN n:=by
 have:=same_any ⟨#[]⟩ (bs8 G) W (by rw [show (⟨#[]⟩:ByteArray).size=0 from rfl]; omega) (by rw [bsize]; omega)
 rwa [decide_eq_false (p:=(⟨#[]⟩:ByteArray).data.toList=(bs8 G).data.toList) (fun e=>by
  have h2:=congrArg List.length e;rw [show (bs8 G).data.toList=G from rfl,h] at h2
  simp at h2)] at this
theorem unseal_is (t:List UInt8) (w:World) (hl:t.length≤5000) (hL:LenOk w) :
 Calls Tryz.prog 183 #[.string (bs8 (sealL tag0 t))] w fun r w'=>r=.returned (.string (bs8 t))∧Below w.heap.size w w':=by
 obtain ⟨m,hm⟩:=hL;have hsl:=seal_len tagOk0 t;have hcut:=Tryz.strings_Cut (bs8 (sealL tag0 t)) ⟨#[32]⟩ m w (by rw [bsize]; omega) hm
 rw [show (⟨#[32]⟩:ByteArray).data.toList= [32] from rfl,show (bs8 (sealL tag0 t)).data.toList=sealL tag0 t from rfl,cut_seal tagOk0 t] at hcut
 have HT:=fun (W:World)=>tag0_is t W hl;have h16:(tag0 t).length=16:=tagOk0.len t;have HSM:∀ (W:World),Calls Tryz.prog 145 #[.string (bs8 (tag0 t)),.string (bs8 (tag0 t))] W fun e w'=>e=.returned (.bool true)∧∃ n,w'=W.drewN n:=same_self _ h16;simp only at hcut;generalize sealL tag0 t=S at *;generalize tag0 t=G at *;clear hm hsl h16;go_enter Tryz.func183,Tryz.ntmps183
 go_wp2_with fail
 refine hcut.mono ?_;rintro e1 w1 ⟨rfl,d1,rfl⟩;have HB1:Hid (Below w.heap.size w (w.drewN d1)):=below_drewN (Below.refl _ _) d1;clear hcut;go_wp2_with fail
 refine (HT _).mono ?_;rintro e2 w2 ⟨rfl,hb2⟩;have HB2:Hid (Below w.heap.size w w2):=HB1.out.trans (hb2.mono HB1.out.size);clear hb2 HT;go_wp2_with fail
 refine (HSM _).mono ?_;rintro e3 w3 ⟨rfl,d3,rfl⟩;have HB3:Hid (Below w.heap.size w (w2.drewN d3)):=below_drewN HB2.out d3;go_wp2_with fail
 go_ret;exact ⟨rfl,HB3.out⟩
theorem unseal_none (w:World) (hL:LenOk w) :
 Calls Tryz.prog 183 #[.string ⟨#[]⟩] w fun r w'=>r=.returned (.string ⟨#[]⟩)∧Below w.heap.size w w':=by
 obtain ⟨m,hm⟩:=hL;have hcut:=Tryz.strings_Cut ⟨#[]⟩ ⟨#[32]⟩ m w (by rw [show (⟨#[]⟩:ByteArray).size=0 from rfl]; omega) hm
 rw [show (⟨#[32]⟩:ByteArray).data.toList= [32] from rfl,show (⟨#[]⟩:ByteArray).data.toList= [] from rfl,cut_no (by simp)] at hcut
 have HT:=fun (W:World)=>tag0_is [] W (by simp)
 have h16:(tag0 []).length=16:=tagOk0.len [];have HSM:∀ (W:World),Calls Tryz.prog 145 #[.string ⟨#[]⟩,.string (bs8 (tag0 []))] W fun e w'=>e=.returned (.bool false)∧∃ n,w'=W.drewN n:=same_none _ h16;simp only at hcut;generalize tag0 []=G at *;clear hm h16;go_enter Tryz.func183,Tryz.ntmps183
 go_wp2_with fail
 refine hcut.mono ?_;rintro e1 w1 ⟨rfl,d1,rfl⟩;have HB1:Hid (Below w.heap.size w (w.drewN d1)):=below_drewN (Below.refl _ _) d1;clear hcut;go_wp2_with fail
 refine (HT _).mono ?_;rintro e2 w2 ⟨rfl,hb2⟩;have HB2:Hid (Below w.heap.size w w2):=HB1.out.trans (hb2.mono HB1.out.size);clear hb2 HT;go_wp2_with fail
 refine (HSM _).mono ?_;rintro e3 w3 ⟨rfl,d3,rfl⟩;have HB3:Hid (Below w.heap.size w (w2.drewN d3)):=below_drewN HB2.out d3;go_wp2_with fail
 go_ret;exact ⟨rfl,HB3.out⟩
theorem readBlock_is (g:Nat) (F:Int→ByteArray) (n:Int) (c:Bool) (l:Int) (k:Nat) (t:List UInt8) (w:World) (hd:IsDisk w g F n c l) (hk:k<90) (hF:F k=bs8 (inBlock tag0 t)) (hl:t.length≤5000) (hL:LenOk w) :
 Calls Tryz.prog 111 #[.pointer (some ⟨g,0,none⟩),.int .i64 k] w fun r w'=>r=.returned (.string (bs8 t))∧Below w.heap.size w w':=by
 have HR:=read_yes g F n c l k w hd hk;rw [hF] at HR
 have HU:∀ (W:World),LenOk W→Calls Tryz.prog 183 #[.string (bs8 (inBlock tag0 t))] W fun r w'=>r=.returned (.string (bs8 t))∧Below W.heap.size W w':=fun W hW=>by
  unfold inBlock;split
  ·rename_i h0
   subst h0;exact unseal_none W hW
  ·exact unseal_is t W hl hW
 generalize inBlock tag0 t=X at *;have HL:Hid (LenOk w):=hL;clear hd hF hL;go_enter Tryz.func111,Tryz.ntmps111
 go_wp2_with fail
 refine HR.mono ?_;rintro e1 w1 ⟨rfl,rfl⟩;clear HR;go_wp2_with fail
 refine (HU _ HL.out).mono ?_;rintro e2 w2 ⟨rfl,hb2⟩;have HB2:Hid (Below w1.heap.size w1 w2):=hb2;clear hb2 HU;go_wp2_with fail
 go_ret;exact ⟨rfl,HB2.out⟩
end Go.Proofs.YtlailakofhenkabGreatDoor
