import Derived.Test.YtlailakofhenkabGreatDoorB18
set_option maxHeartbeats 4000000
set_option maxRecDepth 100000
namespace Go.Proofs.YtlailakofhenkabGreatDoor
open Go.RowKit Sip Hex Tryz
variable {B m n:Nat}{W w w':World}
theorem io.below(h:io w)(hb:Below B w w')(hB:9<B):io w':=(hb.cell (p:=(a_ 9 15)) hB).trans h
theorem uq(c:Nat):Lib.repeatL (⟨#[48]⟩:ByteArray).data.toList c=List.replicate c 48:=by
 induction c with
 |zero=>rfl
 |succ c ih=>rw[Lib.repeatL,ih]; rfl
theorem ur(key:Int)(s:ByteArray)(w:World)(hs:s.size<=1000000)(hT:io w)(hTs:9<w.heap.size):
 Calls prog 134 #[.i_ key,.string s] w fun e w'=>e=.returned (.string ⟨(tag key s.data.toList).toArray⟩)∧Below w.heap.size w w':=by
 have j:=zG (IntKind.u64.wrap key) (rl (IntKind.u64.wrap key) 32) s.data.toList;obtain⟨n,hn⟩:=Int.eq_ofNat_of_zero_le j.1;have q:Hid (tag key s.data.toList=cS 16 n):=by unfold tag Hid; rw[hn]; rfl
 have r:Hid _:=hn;have g:n<16 ^ 16:=by omega
 have k:Hid (io w):=hT;clear hn j hT;go_enter func134,ntmps134
 go_wp2_with fail
 refine (kb _ _).mono ?_;rintro e w1 ⟨rfl,n1,rfl⟩;go_wp2_with fail
 refine (ub _ _ s _ hs).mono ?_;rintro e w2 ⟨rfl,hb2⟩;rw[r.o];have b:Below w.heap.size w w2:=(below_drewN (E9 _ _) n1).trans hb2;have f:=b.size;go_wp2_with fail
 refine (xy n g _ (k.o.below b hTs) (Fd hTs f)).mono ?_;rintro e w3 ⟨rfl,hb3⟩;have m:=wu 15 n 16 (by decide) g (by decide)
 have t:Hid _:=Bg 15 n 16 (by decide) g (by decide)
 generalize hexMin 15 n=X at *;obtain⟨c,hc⟩:∃c,c=16 - X.length:=⟨_,rfl⟩;have o:Hid _:=hc;have p:c<=16:=by omega
 clear hc;go_wp2_with fail
 have v:Hid ((16:Int) - (X.length:Int)=(c:Int)):=by have:=o.o; unfold Hid; omega
 rw[v.o];refine (strings_Repeat _ c _ (by omega) (by simp[ByteArray.size]; omega)).mono ?_
 rintro e w4 ⟨rfl,hb4⟩;rw[uq]
 go_wp2_with fail
 go_ret;refine⟨?_,b.trans ((hb3.mono f).trans (hb4.mono (Fe f hb3.size)))⟩;rw[q.o,<- t.o,<- o.o];rfl
open Tok
def aL(t:T):Value:=.agg #[.int .i64 t.k,.int .i64 t.f,.int .i64 t.g,.int .i64 t.e]
theorem rT(w:World)(k:Nat)(os:Array Obj):Below w.heap.size w (Go.Sort.grow (w.drewN k) os):=by
 have h:=below_drewN (E9 w.heap.size w) k;have b:(w.drewN k).heap=w.heap:=by simp
 refine⟨h.os,h.tape,h.output,?_,fun i hi=>?_⟩
 ·show w.heap.size<=((w.drewN k).heap ++ os).size
  rw[b,Array.size_append]; omega
 ·show ((w.drewN k).heap ++ os)[i]?=w.heap[i]?
  rw[b,Array.getElem?_append_left hi]
theorem rU{name:String}{k:IntKind}{zs:List Int}{g:Nat}(h:Lib.TabIs prog w name k zs)(hb:Below B w w')(hg:prog.globalNamed name=some g)(hB:g<B):Lib.TabIs prog w' name k zs:=by
 unfold Lib.TabIs World.var? at *;simp only[hg,Option.bind_some] at h ⊢;rw[hb.block g hB];exact h
def xz(n:Nat):Prop:=3<n∧9<n∧0<n
theorem xz.le(h:xz n)(k:n<=m):xz m:=⟨Fd h.1 k,Fd h.2.1 k,Fd h.2.2 k⟩
structure kf (w:World):Prop where
 big:xz w.heap.size
 pow : Lib.TabIs prog w "internal/strconv.uint64pow10" .u64 Lib.pow10Tab
 t16:io w
 err:ErrVar w
theorem D7: prog.globalNamed "internal/strconv.uint64pow10" = some 3 := by kernel_rfl
theorem kf.below{B:Nat}{w w':World}(h:kf w)(hb:Below B w w')(hB:xz B):kf w' where
 big:=h.big.le hb.size
 pow:=rU h.pow hb D7 hB.1
 t16:=h.t16.below hb hB.2.1
 err:=(hb.cell (p:=(a_ 0 0)) hB.2.2).trans h.err
theorem lG(n:Int)(w:World)(h0:0<=n)(h1:n<=9223372036854775807)(hL:kf w):Calls prog 57 #[.i_ n] w fun e w'=>e=.returned (.string ⟨(Lib.itoa n).toArray⟩)∧Below w.heap.size w w':=by
 refine (strconv_Itoa n (by omega) h1 w hL.pow).mono ?_;rintro e w' ⟨rfl,k,os,rfl⟩;exact⟨rfl,rT _ _ _⟩
theorem fB(n:Int)(w:World):Calls prog 215 #[.i_ n] w fun e w'=>e=.returned (.bool (okB n))∧w'=w:=by
 by_cases h0:0<=n
 ·by_cases h1:n<=1099511627776
  ·have b:J (okB n=true):=dt ⟨h0,h1⟩
   go_enter func215,ntmps215
   go_wp2_with fail;go_ret;exact⟨by rw[b.o]; rfl,rfl⟩
  ·have b:J (okB n=false):=jB (fun h=>h1 h.2)
   go_enter func215,ntmps215
   go_wp2_with fail;go_ret;exact⟨by rw[b.o]; rfl,rfl⟩
 ·have b:J (okB n=false):=jB (fun h=>h0 h.1)
  go_enter func215,ntmps215
  go_wp2_with fail;go_ret;exact⟨by rw[b.o]; rfl,rfl⟩
theorem dM(n:Int)(w:World):Calls prog 66 #[.i_ n,.i_ 0,.i_ 1099511627776] w fun e w'=>e=.returned (.bool (okB n))∧w'=w:=by
 by_cases h0:0<=n
 ·by_cases h1:n<=1099511627776
  ·have b:J (okB n=true):=dt ⟨h0,h1⟩
   go_enter func66,ntmps66
   go_wp2_with fail;go_ret;exact⟨by rw[b.o]; rfl,rfl⟩
  ·have b:J (okB n=false):=jB (fun h=>h1 h.2)
   go_enter func66,ntmps66
   go_wp2_with fail;go_ret;exact⟨by rw[b.o]; rfl,rfl⟩
 ·have b:J (okB n=false):=jB (fun h=>h0 h.1)
  go_enter func66,ntmps66
  go_wp2_with fail;go_ret;exact⟨by rw[b.o]; rfl,rfl⟩
theorem rV(t:T)(w:World):Calls prog 135 #[aL t] w fun e w'=>e=.returned (.bool (mayB t))∧Below w.heap.size w w':=by
 obtain⟨k,f,g,e⟩:=t;unfold aL;simp only;go_enter func135,ntmps135
 go_wp2_with (go_at_call 215; refine (fB _ _).mono ?_; rintro e w' ⟨rfl,rfl⟩)
 all_goals (go_ret; refine⟨congrArg Ending.returned (congrArg Value.bool ?_),(E9 w.heap.size w).alloc (Fa _) _⟩)
 all_goals simp_all [mayB]
variable {l s x y z:List UInt8}
theorem lj{x:ByteArray}(h:x.data.toList=l):x=⟨l.toArray⟩:=by
 apply ByteArray.ext
 apply Array.toList_inj.1
 simpa using h
theorem eZ(n:Int)(h0:0<=n)(h1:n<=9223372036854775807)(hL:kf W):∀d os,Calls prog 57 #[.i_ n] (Go.Sort.grow (redrawn W d) os) fun e w''=>e=.returned (.string ⟨(Lib.itoa n).toArray⟩)∧∃p:Regrown,w''=Go.Sort.grow (redrawn W p.d) p.os:=
 fun d os=>Calls.regrown_of (lG n _ h0 h1 (hL.below (below_regrown W d os) hL.big))
theorem mixed:prog.follows .mixedOrders=true:=by kernel_rfl
theorem zZ(t:T)(w:World)(h:may t)(hL:kf w):Calls prog 136 #[aL t] w fun e w'=>e=.returned (.string ⟨(body t).toArray⟩)∧Below w.heap.size w w':=by
 obtain⟨k,f,g,e⟩:=t;obtain⟨hk,hf,hg⟩:=h;unfold okN at hf hg;simp only at hk hf hg;have r:=bA w (.cells (Q_ k f g e) 142);have j:=hL.below r hL.big;have D:(w.alloc (.cells (Q_ k f g e) 142)).c_ w.heap.size 0=some (.i_ k):=by simp
 have E:(w.alloc (.cells (Q_ k f g e) 142)).c_ w.heap.size 1=some (.i_ f):=by simp
 have F:(w.alloc (.cells (Q_ k f g e) 142)).c_ w.heap.size 2=some (.i_ g):=by simp
 have G:(w.alloc (.cells (Q_ k f g e) 142)).c_ w.heap.size 3=some (.i_ e):=by simp
 have n:w.heap.size<(w.alloc (.cells (Q_ k f g e) 142)).heap.size:=by simp
 have H:=Lib.itoa_length_le f (by omega) (by omega)
 have I:=Lib.itoa_length_le g (by omega) (by omega)
 have n1:¬ 9223372036854775807<1+(Lib.itoa f).length:=by omega
 have n2:¬ 9223372036854775807<1+(Lib.itoa f).length+1:=by omega
 have n3:¬ 9223372036854775807<1+(Lib.itoa f).length+1+(Lib.itoa g).length:=by omega
 have v:=eZ f hf.1 (by omega) j
 have z:=eZ g hg.1 (by omega) j
 have J:=cell_regrown E;have L:=cell_regrown F;unfold aL;simp only;go_enter func136,ntmps136
 go_wp2_with fail;generalize w.alloc _=W at *;have A:Hid _:=j;have B:Hid _:=r;have o:Hid _:=n;have m:Hid (w.heap.size<=W.heap.size):=r.size;clear hL j r n;generalize hbb:w.heap.size=b at *;have q:Hid _:=hbb;clear hbb;refine wp_region_quiet_below mixed (by kernel_rfl) ?_
 repeat (quiet_step (first | exact v _ _ | exact z _ _))
 refine wpQuiet_nil ?_;intro W2 hw';obtain⟨⟨dq,osq⟩,hw''⟩:=hw';have c:Below W.heap.size W W2:=by rw[hw'']; exact below_regrown W dq osq
 have s:=A.o.below c A.o.big;have e0:=(c.cell (p:=(a_ b 0)) o.o).trans D;have e3:=(c.cell (p:=(a_ b 3)) o.o).trans G;clear hw'' v z J L;rcases hk with ⟨rfl,rfl⟩ | ⟨rfl,he⟩
 ·go_wp2_with fail
  go_ret;exact⟨congrArg Ending.returned (congrArg Value.string (lj (by simp[body]))),by rw[q.o]; exact B.o.trans (c.mono m.o)⟩
 ·unfold okN at he
  have M:=Lib.itoa_length_le e (by omega) (by omega)
  have C:Hid (0<=e∧e<=1099511627776):=he;clear he;go_wp2_with fail;refine (lG e _ C.o.1 (by have:=C.o.2; omega) s).mono ?_
  rintro e1 w3 ⟨rfl,hb3⟩;go_wp2_with fail;go_ret;exact⟨congrArg Ending.returned (congrArg Value.string (lj (by simp[body]))),by rw[q.o]; exact (B.o.trans (c.mono m.o)).trans (hb3.mono (Fe m.o c.size))⟩
theorem rW(t:T)(w:World)(h:may t)(hL:kf w):Calls prog 133 #[aL t] w fun e w'=>e=.returned (.string ⟨(body t).toArray⟩)∧Below w.heap.size w w':=by
 obtain⟨k,f,g,e⟩:=t;obtain⟨hk,hf,hg⟩:=h;unfold okN at hf hg;simp only at hk hf hg;have n:=bA w (.cells (Q_ k f g e) 137);have c:=hL.below n hL.big;have c0:(w.alloc (.cells (Q_ k f g e) 137)).c_ w.heap.size 0=some (.i_ k):=by simp
 have r:(w.alloc (.cells (Q_ k f g e) 137)).c_ w.heap.size 1=some (.i_ f):=by simp
 have s:(w.alloc (.cells (Q_ k f g e) 137)).c_ w.heap.size 2=some (.i_ g):=by simp
 have v:(w.alloc (.cells (Q_ k f g e) 137)).c_ w.heap.size 3=some (.i_ e):=by simp
 have z:=Lib.itoa_length_le f (by omega) (by omega)
 have A:=Lib.itoa_length_le g (by omega) (by omega)
 have n1:¬ 9223372036854775807<2+(Lib.itoa f).length:=by omega
 have n2:¬ 9223372036854775807<2+(Lib.itoa f).length+1:=by omega
 have n3:¬ 9223372036854775807<2+(Lib.itoa f).length+1+(Lib.itoa g).length:=by omega
 have n4:¬ 9223372036854775807<2+(Lib.itoa f).length+1+(Lib.itoa g).length+1:=by omega
 have j:=eZ f hf.1 (by omega) c
 have m:=eZ g hg.1 (by omega) c
 have o:=cell_regrown r;have p:=cell_regrown s;rcases hk with ⟨rfl,rfl⟩ | ⟨rfl,he⟩
 ·unfold aL
  simp only;go_enter func133,ntmps133
  go_wp2_with fail;refine wp_region_quiet_below mixed (by kernel_rfl) ?_
  repeat (quiet_step (first | exact j _ _ | exact m _ _))
  refine wpQuiet_nil ?_;intro W2 hw';obtain⟨⟨dq,osq⟩,hw''⟩:=hw';have b:=below_regrown (w.alloc (.cells (Q_ 1 f g 0) 137)) dq osq;rw[<- hw''] at b;clear hw'' j m o p;go_wp2_with fail;go_ret;exact⟨congrArg Ending.returned (congrArg Value.string (lj (by simp[body]))),n.tm b⟩
 ·unfold okN at he
  have B:=Lib.itoa_length_le e (by omega) (by omega)
  have n5:¬ 9223372036854775807<2+(Lib.itoa f).length+1+(Lib.itoa g).length+1+(Lib.itoa e).length:=by omega
  have q:=eZ e he.1 (by omega) c
  have C:=cell_regrown v;unfold aL;simp only;go_enter func133,ntmps133
  go_wp2_with fail;refine wp_region_quiet_below mixed (by kernel_rfl) ?_
  repeat (quiet_step (first | exact j _ _ | exact m _ _ | exact q _ _))
  refine wpQuiet_nil ?_;intro W2 hw';obtain⟨⟨dq,osq⟩,hw''⟩:=hw';have b:=below_regrown (w.alloc (.cells (Q_ 2 f g e) 137)) dq osq;rw[<- hw''] at b;clear hw'' j m q o p C;go_wp2_with fail;go_ret;exact⟨congrArg Ending.returned (congrArg Value.string (lj (by simp[body]))),n.tm b⟩
variable {t:T}
theorem mN(h:may t):(body t).length<=70:=by
 obtain⟨k,f,g,e⟩:=t;obtain⟨hk,hf,hg⟩:=h;unfold okN at *;simp only at hk hf hg;have b:=Lib.itoa_length_le f (by omega) (by omega)
 have c:=Lib.itoa_length_le g (by omega) (by omega)
 unfold body;simp only;rcases hk with ⟨rfl,rfl⟩ | ⟨rfl,he⟩
 ·rw[if_pos rfl]; simp; omega
 ·have j:=Lib.itoa_length_le e (by omega) (by omega)
  rw[if_neg (by decide)]; simp; omega
def ip(key:Int)(t:T):List UInt8:=body t ++ 46::tag key (body t)
theorem kP(key:Int)(l:List UInt8)(w:World)(hl:l.length<=9223372036854775807):Calls prog 137 #[.i_ key,.string ⟨l.toArray⟩] w fun e w'=>e=.returned (.string ⟨(tag key l).toArray⟩)∧Below w.heap.size w w':=by
 have h:=jl key ⟨l.toArray⟩ w (by simpa[ByteArray.size] using hl)
 simpa using h
theorem fC(key:Int)(l:List UInt8)(w:World)(hl:l.length<=1000000)(hL:kf w):Calls prog 134 #[.i_ key,.string ⟨l.toArray⟩] w fun e w'=>e=.returned (.string ⟨(tag key l).toArray⟩)∧Below w.heap.size w w':=by
 have h:=ur key ⟨l.toArray⟩ w (by simpa[ByteArray.size] using hl) hL.t16 hL.big.2.1
 simpa using h
theorem lH(key:Int)(l:List UInt8):(tag key l).length=16:=Hex.bR _ _
theorem jp(key:Int)(t:T)(w:World)(h:may t)(hL:kf w):Calls prog 81 #[.i_ key,aL t] w fun e w'=>e=.returned (.tuple #[.string ⟨(ip key t).toArray⟩,.nilIface])∧Below w.heap.size w w':=by
 have z:mayB t=true:=yF h;have hl:=mN h;have A:=lH key (body t);have C:J _:=h;have o:J _:=hL;have D:J (ip key t=body t ++ 46::tag key (body t)):=rfl;clear h hL;obtain⟨k,f,g,e⟩:=t;unfold aL;simp only;go_enter func81,ntmps81
 go_wp2_with fail;refine (rV ⟨k,f,g,e⟩ _).mono ?_;rintro e1 w1 ⟨rfl,hb1⟩;rw[z];have b:=bA w (.cells (Q_ k f g e) 142);have q:=(hb1.cell (p:=(a_ w.heap.size 0)) (by simp)).trans (World.cell?_alloc_at _ _ _ _ rfl)
 have r:=(hb1.cell (p:=(a_ w.heap.size 1)) (by simp)).trans (World.cell?_alloc_at _ _ _ _ rfl)
 have s:=(hb1.cell (p:=(a_ w.heap.size 2)) (by simp)).trans (World.cell?_alloc_at _ _ _ _ rfl)
 have v:=(hb1.cell (p:=(a_ w.heap.size 3)) (by simp)).trans (World.cell?_alloc_at _ _ _ _ rfl)
 simp at q r s v
 have c:J _:=b.tm hb1;have j:=o.o.below c.o o.o.big;clear hb1 b;go_wp2_with fail;refine (zZ ⟨k,f,g,e⟩ _ C.o j).mono ?_;rintro e2 w2 ⟨rfl,hb2⟩;have m:J _:=c.o.tm hb2;clear hb2 q r s v;generalize body ⟨k,f,g,e⟩=B at *;go_wp2_with fail;refine (kP key B _ (by omega)).mono ?_;rintro e3 w3 ⟨rfl,hb3⟩;have n:J _:=m.o.tm hb3;clear hb3;generalize tag key B=G at *;go_wp2_with fail;go_ret2;refine⟨?_,n.o⟩;rw[D.o];refine congrArg Ending.returned (congrArg Value.tuple ?_);rw[show (⟨B.toArray⟩ ++ ⟨#[46]⟩ ++ ⟨G.toArray⟩:ByteArray)=⟨(B ++ 46::G).toArray⟩ from lj (by simp)]
 rfl
theorem xA(key:Int)(t:T)(w:World)(h:¬ may t):Calls prog 81 #[.i_ key,aL t] w fun e w'=>e=.returned (.tuple #[.string ByteArray.empty,.iface 47 (.int .i64 1)])∧Below w.heap.size w w':=by
 have j:mayB t=false:=CV h;clear h;obtain⟨k,f,g,e⟩:=t;unfold aL;simp only;go_enter func81,ntmps81
 go_wp2_with fail;refine (rV ⟨k,f,g,e⟩ _).mono ?_;rintro e1 w1 ⟨rfl,hb1⟩;rw[j];have b:=bA w (.cells (Q_ k f g e) 142);have c:J _:=b.tm hb1;clear hb1 b;go_wp2_with fail;go_ret2;exact⟨rfl,c.o⟩
theorem kg(key:Int)(t:T)(w:World)(h:¬ may t):Calls prog 79 #[.i_ key,aL t] w fun e w'=>e=.returned (.tuple #[.string ByteArray.empty,.int .i64 1])∧Below w.heap.size w w':=by
 have b:J _:=h;clear h;obtain⟨k,f,g,e⟩:=t;unfold aL;simp only;go_enter func79,ntmps79
 go_wp2_with (go_at_call 66; refine (dM _ _).mono ?_; rintro e w' ⟨rfl,rfl⟩)
 all_goals first
  |(refine absurd ?_ b.o; simp_all [may,<- cU]; done)
  |(go_ret2; exact⟨rfl,bA _ _⟩)
theorem fe(key:Int)(t:T)(w:World)(h:may t)(hL:kf w):Calls prog 79 #[.i_ key,aL t] w fun e w'=>e=.returned (.tuple #[.string ⟨(ip key t).toArray⟩,.int .i64 0])∧Below w.heap.size w w':=by
 have D:=mN h;have o:=lH key (body t);have r:J (ip key t=body t ++ 46::tag key (body t)):=rfl;have E:J _:=hL;obtain⟨k,f,g,e⟩:=t;have q:=bA w (.cells (Q_ k f g e) 137);have c:=hL.below q hL.big;have s:=cell_regrown (show (w.alloc (.cells (Q_ k f g e) 137)).c_ w.heap.size 0=some (.i_ k) by simp)
 have v:=cell_regrown (show (w.alloc (.cells (Q_ k f g e) 137)).c_ w.heap.size 1=some (.i_ f) by simp)
 have z:=cell_regrown (show (w.alloc (.cells (Q_ k f g e) 137)).c_ w.heap.size 2=some (.i_ g) by simp)
 have A:=cell_regrown (show (w.alloc (.cells (Q_ k f g e) 137)).c_ w.heap.size 3=some (.i_ e) by simp)
 have m:∀d os,Calls prog 133 #[.agg (Q_ k f g e)] (Go.Sort.grow (redrawn (w.alloc (.cells (Q_ k f g e) 137)) d) os) fun e' w''=>e'=.returned (.string ⟨(body ⟨k,f,g,e⟩).toArray⟩)∧∃p:Regrown,w''=Go.Sort.grow (redrawn (w.alloc (.cells (Q_ k f g e) 137)) p.d) p.os:=
  fun d os=>Calls.regrown_of (rW ⟨k,f,g,e⟩ _ h (c.below (below_regrown _ d os) c.big))
 have n:∀d os,Calls prog 134 #[.i_ key,.string ⟨(body ⟨k,f,g,e⟩).toArray⟩] (Go.Sort.grow (redrawn (w.alloc (.cells (Q_ k f g e) 137)) d) os) fun e' w''=>e'=.returned (.string ⟨(tag key (body ⟨k,f,g,e⟩)).toArray⟩)∧∃p:Regrown,w''=Go.Sort.grow (redrawn (w.alloc (.cells (Q_ k f g e) 137)) p.d) p.os:=
  fun d os=>Calls.regrown_of (fC key _ _ (by omega) (c.below (below_regrown _ d os) c.big))
 have C:J _:=q;clear q hL c;obtain⟨hk,hf,hg⟩:=h;simp only at hk hf hg;have n1:¬ 9223372036854775807<(body ⟨k,f,g,e⟩).length+1:=by omega
 have n2:¬ 9223372036854775807<(body ⟨k,f,g,e⟩).length+1+(tag key (body ⟨k,f,g,e⟩)).length:=by omega
 clear D o;generalize hb:body ⟨k,f,g,e⟩=B at *;generalize tag key B=G at *;clear hb;have F:okB f=true:=dt hf;have H:okB g=true:=dt hg;rcases hk with ⟨rfl,rfl⟩ | ⟨rfl,he⟩
 ·unfold aL
  simp only;go_enter func79,ntmps79
  go_wp2_with (go_at_call 66; refine (dM _ _).mono ?_; rintro e w' ⟨rfl,rfl⟩)
  refine wp_region_quiet_below mixed (by kernel_rfl) ?_
  repeat (quiet_step (first | exact m _ _ | exact n _ _))
  refine wpQuiet_nil ?_;intro W2 hw';obtain⟨⟨dq,osq⟩,hw''⟩:=hw';have b:=below_regrown (w.alloc (.cells (Q_ 1 f g 0) 137)) dq osq;rw[<- hw''] at b;have j:J _:=C.o.tm b;clear hw'' b m n s v z A;go_wp2_with fail;go_ret2;refine⟨?_,j.o⟩;rw[r.o];refine congrArg Ending.returned (congrArg Value.tuple ?_);rw[show (⟨B.toArray⟩ ++ ⟨#[46]⟩ ++ ⟨G.toArray⟩:ByteArray)=⟨(B ++ 46::G).toArray⟩ from lj (by simp)]
  rfl
 ·have I:okB e=true:=dt he
  unfold aL;simp only;go_enter func79,ntmps79
  go_wp2_with (go_at_call 66; refine (dM _ _).mono ?_; rintro e w' ⟨rfl,rfl⟩)
  refine wp_region_quiet_below mixed (by kernel_rfl) ?_
  repeat (quiet_step (first | exact m _ _ | exact n _ _))
  refine wpQuiet_nil ?_;intro W2 hw';obtain⟨⟨dq,osq⟩,hw''⟩:=hw';have b:=below_regrown (w.alloc (.cells (Q_ 2 f g e) 137)) dq osq;rw[<- hw''] at b;have j:J _:=C.o.tm b;clear hw'' b m n s v z A;go_wp2_with fail;go_ret2;refine⟨?_,j.o⟩;rw[r.o];refine congrArg Ending.returned (congrArg Value.tuple ?_);rw[show (⟨B.toArray⟩ ++ ⟨#[46]⟩ ++ ⟨G.toArray⟩:ByteArray)=⟨(B ++ 46::G).toArray⟩ from lj (by simp)]
  rfl
def rX(n:Nat):Prop:=2<n∧4<n∧5<n
theorem rX.le(h:rX n)(k:n<=m):rX m:=⟨Fd h.1 k,Fd h.2.1 k,Fd h.2.2 k⟩
structure av (w:World):Prop where
 base:kf w
 big:rX w.heap.size
 len:∃m,w.cell? ⟨2,0,none⟩=some (.int .i64 m)
 syn:∃ev,w.cell? ⟨4,0,none⟩=some ev∧(ev=.nilIface∨∃te pe,ev=.iface te pe)
 rng:∃ev,w.cell? ⟨5,0,none⟩=some ev∧(ev=.nilIface∨∃te pe,ev=.iface te pe)
theorem av.below{B:Nat}{w w':World}(h:av w)(hb:Below B w w')(hB:w.heap.size=B):av w' where
 base:=h.base.below hb (hB ▸ h.base.big)
 big:=h.big.le hb.size
 len:=by
  obtain⟨m,hm⟩:=h.len;exact⟨m,(hb.cell (p:=(a_ 2 0)) (hB ▸ h.big.1)).trans hm⟩
 syn:=by
  obtain⟨m,hm,k⟩:=h.syn;exact⟨m,(hb.cell (p:=(a_ 4 0)) (hB ▸ h.big.2.1)).trans hm,k⟩
 rng:=by
  obtain⟨m,hm,k⟩:=h.rng;exact⟨m,(hb.cell (p:=(a_ 5 0)) (hB ▸ h.big.2.2)).trans hm,k⟩
theorem iq(s:ByteArray)(v:Int)(w:World)(hs:s.size<=10000)(h:Lib.atoiAll s.data.toList=.ok v):Calls prog 181 #[.string s] w fun e w'=>e=.returned (.tuple #[.int .i64 v,.nilIface])∧Below w.heap.size w w':=by
 refine (strconv_Atoi_ok s (by omega) v h w).mono ?_;rintro e w' ⟨rfl,rfl | ⟨t,rfl⟩⟩
 ·exact⟨rfl,E9 _ _⟩
 ·exact⟨rfl,Joins.below_bytesWorld _ _ _ _ (Fa _)⟩
theorem pS(s:ByteArray)(w:World)(hs:s.size<=10000)(hL:av w)(h:∀v,Lib.atoiAll s.data.toList≠.ok v):Calls prog 181 #[.string s] w fun e w'=>∃v te pe,e=.returned (.tuple #[.int .i64 v,.iface te pe])∧Below w.heap.size w w':=by
 cases hc:Lib.atoiAll s.data.toList with
 |ok v=>exact absurd hc (h v)
 |range=>
  obtain⟨ev,h1,h2⟩:=hL.rng;refine (strconv_Atoi_range s (by omega) hc ev w h1 h2).mono ?_;rintro e w' ⟨N,rfl,_,_,hb⟩;exact⟨_,_,_,rfl,hb⟩
 |_=>
  obtain⟨ev,h1,h2⟩:=hL.syn;refine (strconv_Atoi_syntax s (by omega) hc ev w h1 h2).mono ?_;rintro e w' ⟨N,rfl,_,_,hb⟩;exact⟨_,_,_,rfl,hb⟩
theorem oy(c:UInt8)(k:Nat)(l:List UInt8):∀x∈Lib.splitK [c] 0 k l,x.length<=l.length:=by
 induction k generalizing l with
 |zero=>intro x hx; simp[Lib.splitK] at hx; subst hx; exact Fa _
 |succ k ih=>
  rcases eO c l with h | ⟨a,b,rfl,h⟩
  ·rw[bJ h]; intro x hx; simp at hx; subst hx; exact Fa _
  ·rw[bK b h]
   intro x hx;simp only[List.mem_cons] at hx;rcases hx with rfl | hx
   ·simp
   ·have:=ih b x hx
    simp; omega
theorem rY(c:UInt8)(w:World):Calls prog 224 #[.int .u8 (c.toNat:Int)] w fun e w'=>e=.returned (.bool (fF c))∧w'=w:=by
 have b:J (fF c=(decide (48<=c.toNat∧c.toNat<=57) || decide (97<=c.toNat∧c.toNat<=102))):=rfl;generalize c.toNat=n at *;go_enter func224,ntmps224
 go_wp2_with fail
 all_goals (go_ret; refine⟨congrArg Ending.returned (congrArg Value.bool ?_),rfl⟩; rw[b.o,Bool.eq_iff_iff]; simp; try omega)
theorem mO(s:ByteArray)(w:World)(hs:s.size<=5000)(hL:av w):Calls prog 223 #[.string s] w fun e w'=>Below w.heap.size w w'∧
 ((∃(ns:List Int) (g cap:Nat),e=.returned (.tuple #[.slice (some ⟨g,0,none⟩) ns.length cap,.bool true])∧Lib.splitK [46] 0 2 s.data.toList=ns.map Lib.itoa∧(∀n∈ns,okN n)∧aN w.heap.size w' g cap ns.length (ns.map (Value.int .i64)))∨
  (e=.returned (.tuple #[.slice none 0 0,.bool false])∧¬ ∃ns:List Int,Lib.splitK [46] 0 2 s.data.toList=ns.map Lib.itoa∧∀n∈ns,okN n)):=by
 obtain⟨m,hm⟩:=hL.len;have HL:Hid _:=hL;have E:=Lib.splitB_data ⟨#[46]⟩ 0 (min 3 (s.size+1) - 1) s
 have e3:Lib.splitK [46] 0 (min 3 (s.size+1) - 1) s.data.toList=Lib.splitK [46] 0 2 s.data.toList:=by
  have:=ph 46 s.data.toList;rwa [show s.data.toList.length=s.size from Fg] at this
 rw[show (⟨#[46]⟩:ByteArray).data.toList= [46] from rfl,e3] at E
 have Ed:=Lib.splitB_length_le ⟨#[46]⟩ 0 (min 3 (s.size+1) - 1) s;have L:=strings_SplitN s ⟨#[46]⟩ 3 m w (by omega) hm (by decide) (by decide) (by decide)
 generalize hP:Lib.splitB ⟨#[46]⟩ 0 (min 3 (s.size+1) - 1) s=ps at *;have HP:Hid _:=E;have hN:ps.length<=min 3 (s.size+1):=by omega
 have hN3:ps.length<=3:=by omega
 generalize min 3 (s.size+1)=N at *;have Ee:=run_make_row' (P:=prog) 23 3 (.i_ 0) 8 underlying23 (by kernel_rfl) rfl .i64 .i64 ps.length (by omega) (by omega)
 clear E e3 hP hL;go_enter func223,ntmps223
 go_wp2_with fail
 refine L.mono ?_;rintro e w1 ⟨rfl,rfl⟩;clear L;go_wp2_with fail
 have M:Below w.heap.size w ((w.alloc (.cells (Lib.cellsOf ps N) 9)).alloc (.cells (madeCells #[.i_ 0] ps.length) 3)):=by
  repeat (first | exact Below.refl _ _ | refine Below.alloc ?_ (by simp) _)
 have A:∀i x,ps[i]?=some x->((w.alloc (.cells (Lib.cellsOf ps N) 9)).alloc (.cells (madeCells #[.i_ 0] ps.length) 3)).cell? (a_ w.heap.size i)=some (.string x):=by
  intro i x hx;have hi:=(List.getElem?_eq_some_iff.1 hx).1;rw[World.cell?_alloc_lt _ _ _ (by simp),World.cell?_alloc_new]
  unfold Lib.cellsOf;rw[List.getElem?_toArray,List.getElem?_append_left (by simpa using hi),List.getElem?_map,hx]
  rfl
 have o:aN w.heap.size ((w.alloc (.cells (Lib.cellsOf ps N) 9)).alloc (.cells (madeCells #[.i_ 0] ps.length) 3)) (w.heap.size+1) ps.length ps.length ((List.replicate ps.length (0:Int)).map (Value.int .i64)):=by
  have Ef:(madeCells #[.i_ 0] ps.length).toList=List.replicate ps.length (.i_ 0):=toList_madeCells_one _ _
  have q:∀j,j<ps.length->((w.alloc (.cells (Lib.cellsOf ps N) 9)).alloc (.cells (madeCells #[.i_ 0] ps.length) 3)).cell? (a_ (w.heap.size+1) j)=some (.i_ 0):=by
   intro j hj;rw[World.cell?_alloc_at _ _ _ _ (by simp)]
   rw[<- Array.getElem?_toList,Ef,List.getElem?_replicate,if_pos hj]
  refine⟨by omega,by simp,by simp,Nat.le_refl _,by unfold maxLen; omega,fun j u hj=>?_,fun j hj=>⟨by rw[q j hj]; rfl,World.frozen?_alloc_at _ _ _ _ (by simp)⟩⟩
  have F:=(List.getElem?_eq_some_iff.1 hj).1;simp only[List.map_replicate,List.length_replicate] at F;rw[List.map_replicate,List.getElem?_replicate,if_pos F] at hj;rw[q j F]; exact hj
 have B:w.heap.size+1<((w.alloc (.cells (Lib.cellsOf ps N) 9)).alloc (.cells (madeCells #[.i_ 0] ps.length) 3)).heap.size:=by simp
 generalize ((w.alloc (.cells (Lib.cellsOf ps N) 9)).alloc (.cells (madeCells #[.i_ 0] ps.length) 3))=W at *;clear Ee
 go_loopg [17] ps.length (fun gk iv wr=>∃(j:Nat) (ns:List Int),j+gk=ps.length∧iv=.i_ j∧ns.length=j∧(ps.take j).map (·.data.toList)=ns.map Lib.itoa∧(∀n∈ns,okN n)∧Below w.heap.size w wr∧
  (∀i x,ps[i]?=some x->wr.cell? (a_ w.heap.size i)=some (.string x))∧w.heap.size+1<wr.heap.size∧aN w.heap.size wr (w.heap.size+1) ps.length ps.length ((ns ++ List.replicate gk 0).map (Value.int .i64)))
 case atStart=>exact⟨0,[],by omega,rfl,rfl,by simp,by simp,M,A,B,by simpa using o⟩
 case round=>
  obtain⟨j,ns,hk,rfl,k,hit,hok,hb,A,hsz,hrow⟩:=hrel;have HK:Hid _:=hk;have G:Hid _:=k;have O:Hid _:=hit;have R:Hid _:=hok;have T:Hid _:=hb;have U:Hid _:=A;have H:Hid _:=hsz;have C:Hid _:=hrow;have Eh:j<=ps.length:=by omega
  clear hk k hit hok hb A hsz hrow M o B;by_cases hj:j<ps.length
  ·obtain⟨x,hx⟩:∃x,ps[j]?=some x:=⟨_,Fh hj⟩
   have HX:Hid _:=hx;have hc:=U.o j x hx
   have hxs:x.size<=5000:=by
    have V:x.data.toList∈Lib.splitK [46] 0 2 s.data.toList:=by
     rw[<- HP.o];exact List.mem_map.2 ⟨x,FE hx,rfl⟩
    have:=oy 46 2 s.data.toList _ V;have e1:x.data.toList.length=x.size:=Fg;have e2:s.data.toList.length=s.size:=Fg;omega
   clear hx;have hjI:(j:Int)<(ps.length:Int):=by omega
   have Eg:=HL.o.below T.o rfl;by_cases hgood:∃n,okN n∧Lib.itoa n=x.data.toList
   ·obtain⟨n,hn,hnx⟩:=hgood
    have b:Lib.atoiAll x.data.toList=.ok n:=by rw[<- hnx]; exact dl hn.1 (by have:=hn.2; omega)
    obtain rfl:x=⟨(Lib.itoa n).toArray⟩:=lj hnx.symm;have X:okB n=true:=dt hn;have J:Hid _:=hn;clear hnx hn;go_wp2_with fail
    refine (iq _ n _ (by omega) b).mono ?_
    rintro e w2 ⟨rfl,hb2⟩;have f:Hid _:=T.o.tm hb2;have Y:Hid _:=hb2;clear hb2 b;go_wp2_with fail
    refine (fB n _).mono ?_;rintro e w3 ⟨rfl,rfl⟩;rw[X];go_wp2_with fail
    refine (lG n _ J.o.1 (by have:=J.o.2; omega) (HL.o.below f.o rfl).base).mono ?_
    rintro e w3 ⟨rfl,hb3⟩;have I:Hid _:=f.o.tm hb3;have r:Hid _:=Y.o.tm hb3;clear hb3;have t:Hid _:=C.o.below r.o H.o;have c:=t.o.there j hj;obtain⟨old,hold⟩:=Option.isSome_iff_exists.1 c.1;have hfz:=c.2;clear c;go_wp2_with fail
    go_roundg (gk - 1)
    case measure=>have:=HK.o; omega
    case rel=>
     have hk:=HK.o;have k:=G.o;obtain⟨g',rfl⟩:∃g',gk=g'+1:=⟨gk - 1,by omega⟩
     refine⟨j+1,ns ++ [n],by omega,by go_num,by simp[k],?_,?_,?_,?_,?_,?_⟩
     ·rw[List.take_add_one,HX.o,List.map_append,O.o]; simp
     ·intro y hy
      simp only[List.mem_append,List.mem_singleton] at hy;rcases hy with hy | rfl
      ·exact R.o y hy
      ·exact J.o
     ·exact I.o.setCell (p:=(a_ (w.heap.size+1) j)) (by simp) _
     ·intro i x hx
      refine (((Below.refl (w.heap.size+1) w3).setCell (p:=(a_ (w.heap.size+1) j)) (Nat.le_refl _) _).cell (p:=(a_ w.heap.size i)) (by simp)).trans ?_
      exact (r.o.cell (p:=(a_ w.heap.size i)) (by have:=H.o; simp; omega)).trans (U.o i x hx)
     ·have h1:=H.o
      have h2:=r.o.size;simp[World.setCell]; omega
     ·have h:=t.o.store hj (.i_ n)
      have e1:((ns ++ List.replicate (g'+1) 0).map (Value.int .i64)).set j (.i_ n)=((ns ++ [n] ++ List.replicate g' 0).map (Value.int .i64)):=by
       rw[List.map_append,List.set_append_right _ _ (by simp[k])]
       simp[k,List.replicate_succ]
      rw[e1] at h;exact h
   ·have z:Hid (¬ ∃ns:List Int,Lib.splitK [46] 0 2 s.data.toList=ns.map Lib.itoa∧∀n∈ns,okN n):=by
     rintro ⟨ms,h1,h2⟩;rw[<- HP.o] at h1;have Z:(ps.map (·.data.toList))[j]?=(ms.map Lib.itoa)[j]?:=by rw[h1]
     rw[List.getElem?_map,List.getElem?_map,HX.o] at Z
     cases hm2:ms[j]? with
     |none=>rw[hm2] at Z; cases Z
     |some y=>
      rw[hm2] at Z;exact hgood ⟨y,h2 y (FE hm2),(Option.some.inj Z).symm⟩
    by_cases b:∃v,Lib.atoiAll x.data.toList=.ok v
    ·obtain⟨v,b⟩:=b
     go_wp2_with fail
     refine (iq _ v _ (by omega) b).mono ?_
     rintro e w2 ⟨rfl,hb2⟩;have f:Hid _:=T.o.tm hb2;obtain⟨hv0,hv1⟩:=Lib.atoiAll_bounds b;have HV:Hid (0<=v->v<=9223372036854775807):=fun _=>hv1;clear hb2 b hv0 hv1;by_cases hv:okN v
     ·have X:okB v=true:=dt hv
      have hne:(Lib.itoa v == x.toList)=false:=by
       rw[beq_eq_false_iff_ne,ByteArray.toList_eq];intro he;exact hgood ⟨v,hv,he⟩
      have J:Hid _:=hv;clear hv hgood;go_wp2_with fail
      refine (fB v _).mono ?_;rintro e w3 ⟨rfl,rfl⟩;rw[X];go_wp2_with fail
      refine (lG v _ J.o.1 (HV.o J.o.1) (HL.o.below f.o rfl).base).mono ?_;rintro e w3 ⟨rfl,hb3⟩;have I:Hid _:=f.o.tm hb3;clear hb3;go_wp2_with fail
      go_ret2;exact⟨I.o,.inr ⟨rfl,z.o⟩⟩
     ·have X:okB v=false:=jB hv
      clear hv hgood;go_wp2_with fail
      refine (fB v _).mono ?_;rintro e w3 ⟨rfl,rfl⟩;rw[X];go_wp2_with fail
      go_ret2;exact⟨f.o,.inr ⟨rfl,z.o⟩⟩
    ·have D:∀v,Lib.atoiAll x.data.toList≠.ok v:=fun v h=>b ⟨v,h⟩
     clear hgood b;go_wp2_with fail
     refine (pS _ _ (by omega) Eg D).mono ?_
     rintro e w2 ⟨v,te,pe,rfl,hb2⟩;have f:Hid _:=T.o.tm hb2;clear hb2 D;go_wp2_with fail
     go_ret2;exact⟨f.o,.inr ⟨rfl,z.o⟩⟩
  ·obtain rfl:j=ps.length:=by omega
   go_wp2_with fail
   go_ret2;refine⟨T.o,.inl ⟨ns,w.heap.size+1,ps.length,?_,?_,R.o,?_⟩⟩
   ·rw[G.o]; rfl
   ·rw[<- HP.o,<- O.o,List.take_of_length_le (Nat.le_refl _)]
   ·have h:=C.o
    have e0:gk=0:=by have:=HK.o; omega
    rw[e0,List.replicate_zero,List.append_nil] at h;rw[G.o];exact h
theorem xB(h:Lib.splitK [46] 0 2 l= [x,y]):l=x ++ 46::y:=by
 rcases eO 46 l with hn | ⟨a,b,rfl,hn⟩
 ·rw[bJ hn] at h; simp at h
 ·rw[bK b hn] at h
  rcases eO 46 b with hm | ⟨c,d,rfl,hm⟩
  ·rw[bJ hm] at h; simp at h; rw[h.1,h.2]
  ·rw[bK d hm] at h; simp[Lib.splitK] at h
theorem xC(h:Lib.splitK [46] 0 2 l= [x,y,z]):l=x ++ 46::(y ++ 46::z):=by
 rcases eO 46 l with hn | ⟨a,b,rfl,hn⟩
 ·rw[bJ hn] at h; simp at h
 ·rw[bK b hn] at h
  rcases eO 46 b with hm | ⟨c,d,rfl,hm⟩
  ·rw[bJ hm] at h; simp at h
  ·rw[bK d hm] at h; simp[Lib.splitK] at h; rw[h.1,h.2.1,h.2.2]
theorem xD(hx:46∉x)(hy:46∉y):Lib.splitK [46] 0 2 (x ++ 46::y)= [x,y]:=by
 rw[bK y hx,bJ hy]
theorem rZ(hx:46∉x)(hy:46∉y):Lib.splitK [46] 0 2 (x ++ 46::(y ++ 46::z))= [x,y,z]:=by
 rw[bK _ hx,bK _ hy]; rfl
theorem xE(h:may t):∃(letter b:List UInt8) (ns:List Int),body t=letter ++ 46::b∧(46:UInt8)∉letter∧Lib.splitK [46] 0 2 b=ns.map Lib.itoa∧(∀n∈ns,okN n)∧((letter= [114]∧ns.length=2)∨(letter= [97]∧ns.length=3)):=by
 obtain⟨k,f,g,e⟩:=t;obtain⟨hk,hf,hg⟩:=h;simp only at hk hf hg;rcases hk with ⟨rfl,rfl⟩ | ⟨rfl,he⟩
 ·refine⟨[114],Lib.itoa f ++ 46::Lib.itoa g,[f,g],rfl,by simp,?_,by simp[hf,hg],.inl ⟨rfl,rfl⟩⟩
  exact xD (bg hf.1) (bg hg.1)
 ·refine⟨[97],Lib.itoa f ++ 46::(Lib.itoa g ++ 46::Lib.itoa e),[f,g,e],?_,by simp,?_,by simp[hf,hg,he],.inr ⟨rfl,rfl⟩⟩
  ·unfold body; rw[if_neg (by simp)]; rfl
  ·exact rZ (bg hf.1) (bg hg.1)
theorem jK:∀ {a b:List Int},(∀n∈a,okN n)->(∀n∈b,okN n)->a.map Lib.itoa=b.map Lib.itoa->a=b
 |[],[],_,_,_=>rfl
 |[],_::_,_,_,h=>by simp at h
 |_::_,[],_,_,h=>by simp at h
 |x::a,y::b,ha,hb,h=>by
  simp only[List.map_cons,List.cons.injEq] at h;have hx:=ha x (by simp)
  have c:=hb y (by simp)
  rw[eS hx.1 (by have:=hx.2; omega) c.1 (by have:=c.2; omega) h.1,jK (fun n hn=>ha n (by simp[hn])) (fun n hn=>hb n (by simp[hn])) h.2]
theorem z9(h:may t)(he:body t=s):∃ns:List Int,Lib.splitK [46] 0 2 (Lib.cut s [46]).2.1=ns.map Lib.itoa∧(∀n∈ns,okN n)∧(((Lib.cut s [46]).1= [114]∧ns.length=2)∨((Lib.cut s [46]).1= [97]∧ns.length=3)):=by
 obtain⟨letter,b,ns,e,hl,h1,h2,h3⟩:=xE h;rw[<- he,e,gV b hl];exact⟨ns,h1,h2,h3⟩
theorem Aa(h:(Lib.cut s [46]).2.1≠ []):s=(Lib.cut s [46]).1 ++ 46::(Lib.cut s [46]).2.1:=by
 rcases eO 46 s with hn | ⟨a,b,rfl,hn⟩
 ·rw[jc hn] at h; simp at h
 ·rw[gV b hn]
theorem Ab(s:ByteArray)(w:World)(_hs:s.size<=5000):Calls prog 144 #[.string s] w fun e w'=>e=.returned (.bool (fG s.data.toList))∧w'=w:=by
 have c:s.data.toList.length=s.size:=Fg;by_cases h16:s.size=16
 ·have g:J (∀k (h:k<s.size),s.data.toList.take (k+1)=s.data.toList.take k ++ [s[k]]):=fun k h=>by rw[List.take_succ_eq_append_getElem (by simpa using h)]; rfl
  have j:J (∀k (h:k<s.size),¬ dJ s[k]->fG s.data.toList=false):=fun k h hn=>lT (fun hh=>hn (hh.2 _ (by
   show s.data[k]∈s.data.toList
   exact Array.mem_toList_iff.2 (Array.getElem_mem h))))
  have f:J ((∀b∈s.data.toList.take 16,dJ b)->fG s.data.toList=true):=fun h=>qJ ⟨by rw[c,h16],by rwa [List.take_of_length_le (by omega)] at h⟩
  have p:J _:=c;have v:J _:=h16;clear c;go_enter func144,ntmps144
  go_wp2_with fail;go_loopg [9] 16 (fun gk i wr=>∃k:Nat,k+gk=16∧i=.i_ k∧(∀b∈s.data.toList.take k,dJ b)∧wr=w)
  case atStart=>exact⟨0,by omega,rfl,by simp,rfl⟩
  case round=>
   obtain⟨k,hk,rfl,hall,rfl⟩:=hrel;have q:J _:=hk;have r:k<=16:=by omega
   have t:J _:=hall;clear hk hall;by_cases hlt:k<16
   ·have m:k<s.size:=by omega
    by_cases hx:dJ s[k]
    ·have n:fF s[k]=true:=yG hx
     have o:J _:=hx;clear hx;go_wp2_with fail;refine (rY _ _).mono ?_;rintro e w' ⟨rfl,rfl⟩;rw[n];go_wp2_with fail;go_roundg (gk - 1)
     case measure=>have:=q.o; omega
     case rel=>
      refine⟨k+1,by have:=q.o; omega,by go_num,?_,rfl⟩
      rw[g.o k m];intro b hb;simp only[List.mem_append,List.mem_singleton] at hb;rcases hb with hb | rfl
      ·exact t.o b hb
      ·exact o.o
    ·have n:fF s[k]=false:=yH hx
     have o:=j.o k m hx;have o:J _:=o;clear hx;go_wp2_with fail;refine (rY _ _).mono ?_;rintro e w' ⟨rfl,rfl⟩;rw[n];go_wp2_with fail;go_ret;exact⟨by rw[o.o]; rfl,rfl⟩
   ·obtain rfl:k=16:=by omega
    go_wp2_with fail;go_ret;exact⟨by rw[f.o t.o]; rfl,rfl⟩
 ·have n:fG s.data.toList=false:=lT (fun h=>h16 (by rw[<- c]; exact h.1))
  have z:¬ (s.size:Int)=16:=by omega
  clear h16;go_enter func144,ntmps144
  go_wp2_with fail;go_ret;exact⟨by rw[n]; rfl,rfl⟩
theorem DR{α:Type}{l:List α}(h:l.length=2):∃x y,l= [x,y]:=by
 match l,h with
 |[x,y],_=>exact⟨x,y,rfl⟩
theorem DT{α:Type}{l:List α}(h:l.length=3):∃x y z,l= [x,y,z]:=by
 match l,h with
 |[x,y,z],_=>exact⟨x,y,z,rfl⟩
theorem sa{w1:World}(hb:Below W.heap.size W w1):(∀b o,b<W.heap.size->w1.cell? ⟨b,o,none⟩=W.cell? ⟨b,o,none⟩)∧(∀b o,b<W.heap.size->w1.frozen? ⟨b,o,none⟩=W.frozen? ⟨b,o,none⟩):=
 ⟨fun b o h=>hb.cell (p:=(a_ b o)) h,fun b o h=>hb.frozen (p:=(a_ b o)) h⟩
theorem sb(s:ByteArray)(w:World)(hs:s.size<=5000)(hL:av w):Calls prog 143 #[.string s] w fun e w'=>Below w.heap.size w w'∧
 ((∃t,e=.returned (.tuple #[aL t,.bool true])∧may t∧body t=s.data.toList)∨(e=.returned (.tuple #[aL zero,.bool false])∧∀t,may t->body t≠s.data.toList)):=by
 have H:Hid _:=hL;have f:Hid ((Lib.cut s.data.toList [46]).2.1≠ []->s.data.toList=(Lib.cut s.data.toList [46]).1 ++ 46::(Lib.cut s.data.toList [46]).2.1):=Aa;have c:Hid (∀t,may t->body t=s.data.toList->∃ns:List Int,Lib.splitK [46] 0 2 (Lib.cut s.data.toList [46]).2.1=ns.map Lib.itoa∧(∀n∈ns,okN n)∧(((Lib.cut s.data.toList [46]).1= [114]∧ns.length=2)∨((Lib.cut s.data.toList [46]).1= [97]∧ns.length=3))):=fun t h1 h2=>z9 h1 h2
 have D:(Lib.cut s.data.toList [46]).2.1.length<=s.data.toList.length:=by
  rcases eO 46 s.data.toList with hn | ⟨a,b,e,hn⟩
  ·rw[jc hn]; simp
  ·rw[e,gV b hn]; simp; omega
 rw[show s.data.toList.length=s.size from Array.length_toList] at D
 have A:Below w.heap.size w (w.alloc (.cells (Q_ 0 0 0 0) 142)):=(E9 _ _).alloc (Fa _) _;have B:=hL.below A rfl;obtain⟨m,hm⟩:=B.len;have j:=strings_Cut s ⟨#[46]⟩ m _ (by omega) hm
 rw[show (⟨#[46]⟩:ByteArray).data.toList= [46] from rfl] at j
 have E:Hid _:=A;have I:Hid _:=B;generalize (Lib.cut s.data.toList [46]).1=L at *;generalize (Lib.cut s.data.toList [46]).2.1=R at *;generalize (Lib.cut s.data.toList [46]).2.2=F at *;clear hL A B hm;go_enter func143,ntmps143
 go_wp2_with fail
 refine j.mono ?_;rintro e w1 ⟨rfl,d1,rfl⟩;have k:Hid _:=below_drewN E.o d1;have o:=H.o.below k.o rfl;clear j;go_wp2_with fail
 refine (mO ⟨R.toArray⟩ _ (by simp[ByteArray.size]; omega) o).mono ?_
 rintro e w2 ⟨hb2,⟨ns,g,cap,rfl,hsp,hok,hrow⟩ | ⟨rfl,hbad⟩⟩
 ·obtain⟨hc,hf⟩:=sa hb2
  have p:Hid _:=k.o.trans (hb2.mono k.o.size);have J:w.heap.size+1<=w2.heap.size:=by have:=hb2.size; simp at this; omega
  clear hb2 o
  have r:Hid (¬ ((L= [114]∧ns.length=2)∨(L= [97]∧ns.length=3))->∀t,may t->body t≠s.data.toList):=by
   intro hn t ht he;obtain⟨ns',e1,e2,e3⟩:=c.o t ht he;obtain rfl:=jK e2 hok (e1.symm.trans hsp);exact hn e3
  have q:Hid (s.data.toList=L ++ 46::R∨R= []):=by
   by_cases h:R= []
   ·exact .inr h
   ·exact .inl (f.o h)
  by_cases h1:L= [114]∧ns.length=2
  ·obtain⟨rfl,hl⟩:=h1
   obtain⟨x,y,rfl⟩:=DR hl;have M:=hrow.holds 0 _ rfl;have N:=hrow.holds 1 _ rfl
   have C:Hid (s.data.toList=body ⟨1,x,y,0⟩∧may ⟨1,x,y,0⟩):=by
    have e:=xB hsp;refine⟨?_,.inl ⟨rfl,rfl⟩,hok x (by simp),hok y (by simp)⟩
    rcases q.o with h | h
    ·rw[h,show R=_ from e]; rfl
    ·subst h; simp at e
   clear hsp hok hrow hl q r c f;go_wp2_with fail
   go_region
   go_wp2_with fail
   exact bodyPost_ret (v:=.tuple #[aL ⟨1,x,y,0⟩,.bool true]) (by simp[results,results143,go_sem,aL,hc]) rfl ⟨((((p.o.setCell (Nat.le_refl _) _).setCell (Nat.le_refl _) _).setCell (Nat.le_refl _) _).setCell (Nat.le_refl _) _).drew,.inl ⟨_,rfl,C.o.2,C.o.1.symm⟩⟩
  ·by_cases h2:L= [97]∧ns.length=3
   ·obtain⟨rfl,hl⟩:=h2
    obtain⟨x,y,z,rfl⟩:=DT hl;have M:=hrow.holds 0 _ rfl;have N:=hrow.holds 1 _ rfl;have c2:=hrow.holds 2 _ rfl
    have C:Hid (s.data.toList=body ⟨2,x,y,z⟩∧may ⟨2,x,y,z⟩):=by
     have e:=xC hsp;refine⟨?_,.inr ⟨rfl,hok z (by simp)⟩,hok x (by simp),hok y (by simp)⟩
     rcases q.o with h | h
     ·rw[h,show R=_ from e]; rfl
     ·subst h; simp at e
    clear hsp hok hrow hl q r c f h1;go_wp2_with fail
    go_region
    go_wp2_with fail
    exact bodyPost_ret (v:=.tuple #[aL ⟨2,x,y,z⟩,.bool true]) (by simp[results,results143,go_sem,aL,hc]) rfl ⟨((((p.o.setCell (Nat.le_refl _) _).setCell (Nat.le_refl _) _).setCell (Nat.le_refl _) _).setCell (Nat.le_refl _) _).drew,.inl ⟨_,rfl,C.o.2,C.o.1.symm⟩⟩
   ·have G:Hid _:=r.o (fun h=>h.elim h1 h2)
    clear hsp hok hrow q r c f;go_wp2_with fail
    all_goals try (exfalso; simp_all; omega)
    all_goals
     exact bodyPost_ret (v:=.tuple #[aL zero,.bool false]) (by simp[results,results143,go_sem,aL,zero,hc]) rfl ⟨((((p.o).setCell (Nat.le_refl _) _).setCell (Nat.le_refl _) _).setCell (Nat.le_refl _) _).setCell (Nat.le_refl _) _,.inr ⟨rfl,G.o⟩⟩
 ·obtain⟨hc,hf⟩:=sa hb2
  have p:Hid _:=k.o.trans (hb2.mono k.o.size);have J:w.heap.size+1<=w2.heap.size:=by have:=hb2.size; simp at this; omega
  have G:Hid (∀t,may t->body t≠s.data.toList):=by
   intro t ht he;obtain⟨ns',e1,e2,e3⟩:=c.o t ht he;exact hbad ⟨ns',e1,e2⟩
  clear hb2 hbad c f o;go_wp2_with fail
  exact bodyPost_ret (v:=.tuple #[aL zero,.bool false]) (by simp[results,results143,go_sem,aL,zero,hc]) rfl ⟨((((p.o).setCell (Nat.le_refl _) _).setCell (Nat.le_refl _) _).setCell (Nat.le_refl _) _).setCell (Nat.le_refl _) _,.inr ⟨rfl,G.o⟩⟩
end Go.Proofs.YtlailakofhenkabGreatDoor
