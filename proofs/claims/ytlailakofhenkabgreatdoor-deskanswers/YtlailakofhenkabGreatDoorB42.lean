import Derived.Test.YtlailakofhenkabGreatDoorB41
set_option maxRecDepth 100000
set_option maxHeartbeats 16000000
namespace Go.Proofs.YtlailakofhenkabGreatDoor
open Go Go.RowKit Tok Sc Ev Tryz
def iU(n:Nat):Code->Option Code
 |.seq a b=>match a with
  |.region id o x=>if id=n then some (.seq (.region id o x) b) else iU n b
  |a=>match iU n a with | some x=>some x | none=>iU n b
 |.block _ c=>iU n c
 |.scope c=>iU n c
 |_=>none
def A2(n:Nat)(f:Func):Code:=(f.body.bind (iU n)).getD .skip
def Frm(s:Nat->Value):Array Value:=((List.range 334).map s).toArray
theorem ck(s:Nat->Value):Frm s=List.toArray [s 0,s 1,s 2,s 3,s 4,s 5,s 6,s 7,s 8,s 9,s 10,s 11,s 12,s 13,s 14,s 15,s 16,s 17,s 18,s 19,s 20,s 21,s 22,s 23,s 24,s 25,s 26,s 27,s 28,s 29,s 30,s 31,s 32,s 33,s 34,s 35,s 36,s 37,s 38,s 39,s 40,s 41,s 42,s 43,s 44,s 45,s 46,s 47,s 48,s 49,s 50,s 51,s 52,s 53,s 54,s 55,s 56,s 57,s 58,s 59,s 60,s 61,s 62,s 63,s 64,s 65,s 66,s 67,s 68,s 69,s 70,s 71,s 72,s 73,s 74,s 75,s 76,s 77,s 78,s 79,s 80,s 81,s 82,s 83,s 84,s 85,s 86,s 87,s 88,s 89,s 90,s 91,s 92,s 93,s 94,s 95,s 96,s 97,s 98,s 99,s 100,s 101,s 102,s 103,s 104,s 105,s 106,s 107,s 108,s 109,s 110,s 111,s 112,s 113,s 114,s 115,s 116,s 117,s 118,s 119,s 120,s 121,s 122,s 123,s 124,s 125,s 126,s 127,s 128,s 129,s 130,s 131,s 132,s 133,s 134,s 135,s 136,s 137,s 138,s 139,s 140,s 141,s 142,s 143,s 144,s 145,s 146,s 147,s 148,s 149,s 150,s 151,s 152,s 153,s 154,s 155,s 156,s 157,s 158,s 159,s 160,s 161,s 162,s 163,s 164,s 165,s 166,s 167,s 168,s 169,s 170,s 171,s 172,s 173,s 174,s 175,s 176,s 177,s 178,s 179,s 180,s 181,s 182,s 183,s 184,s 185,s 186,s 187,s 188,s 189,s 190,s 191,s 192,s 193,s 194,s 195,s 196,s 197,s 198,s 199,s 200,s 201,s 202,s 203,s 204,s 205,s 206,s 207,s 208,s 209,s 210,s 211,s 212,s 213,s 214,s 215,s 216,s 217,s 218,s 219,s 220,s 221,s 222,s 223,s 224,s 225,s 226,s 227,s 228,s 229,s 230,s 231,s 232,s 233,s 234,s 235,s 236,s 237,s 238,s 239,s 240,s 241,s 242,s 243,s 244,s 245,s 246,s 247,s 248,s 249,s 250,s 251,s 252,s 253,s 254,s 255,s 256,s 257,s 258,s 259,s 260,s 261,s 262,s 263,s 264,s 265,s 266,s 267,s 268,s 269,s 270,s 271,s 272,s 273,s 274,s 275,s 276,s 277,s 278,s 279,s 280,s 281,s 282,s 283,s 284,s 285,s 286,s 287,s 288,s 289,s 290,s 291,s 292,s 293,s 294,s 295,s 296,s 297,s 298,s 299,s 300,s 301,s 302,s 303,s 304,s 305,s 306,s 307,s 308,s 309,s 310,s 311,s 312,s 313,s 314,s 315,s 316,s 317,s 318,s 319,s 320,s 321,s 322,s 323,s 324,s 325,s 326,s 327,s 328,s 329,s 330,s 331,s 332,s 333]:=by
 unfold Frm;exact congrArg List.toArray rfl
theorem Dz{P:Program}{c:Code}{Q:Exit->Act->World->Prop}{l:List Value}{ds:List Deferred}{w:World}(hl:l.length=334)(h:c.wp P Q { tmps:=Frm (fun n=>l.getD n undef),defers:=ds } w):c.wp P Q { tmps:=l.toArray,defers:=ds } w:=by
 have e:Frm (fun n=>l.getD n undef)=l.toArray:=by
  unfold Frm;refine congrArg List.toArray (List.ext_getElem (by simp[hl]) fun i h1 h2=>?_)
  rw[List.getElem_map,List.getElem_range,List.getD_eq_getElem?_getD,List.getElem?_eq_getElem h2];rfl
 rwa [e] at h
def th(B N:Nat)(w0:World)(gh:Nat)(d:Dk)(c:Word)(ws:List Word)(ns:List Int)(e:Ending)(w':World):Prop:=
 ∃(o:Dk × List UInt8 × Nat) (x:ByteArray) (gx gr:Nat) (v:Value),e=.returned (.tuple #[.string x,.int .i64 (o.2.2:Nat)])∧aW d c ws ns o∧(o.2.2=0->x=Ev.bs o.2.1)∧Ho B (N+22) w' gh gx gr o.1 v∧Below B w0 w'
structure de (B N:Nat) (w0:World) (gb gh gx gr:Nat) (d:Dk) (v vn:Value) (ao:Option Addr) (k:Nat) (ws:List Word) (ns:List Int) (w:World):Prop where
 ho:Ho B N w gh gx gr d v
 nums:aE w0.heap.size w vn (ns.map (Value.int .i64))
 box:w.cell? ⟨gb,0,none⟩=some (.slice ao ws.length k)
 words:ws≠ []->∃g o,ao=some ⟨g,o,none⟩∧fK w g o (ws.map Ev.bs)
 below:Below w0.heap.size w0 w
 base:B<=w0.heap.size
 nb:gb≠gr
 apart:∀g o,ao=some ⟨g,o,none⟩->g≠gr
def cZ(c:Word)(fs:List Bool):Prop:=∀(B N:Nat) (w0 W:World) (gb gh gx gr:Nat) (d:Dk) (v vn:Value) (ao:Option Addr) (k:Nat) (ws:List Word) (ns:List Int) (R:Ending->World->Prop) (s:Nat->Value),Hid (de B N w0 gb gh gx gr d v vn ao k ws ns W)->Hid (N<97000)->Hid (∀x∈ws,x.length<=5000)->Hid (numsW fs ws=some ns)->Hid (∀e w',th B N w0 gh d c ws ns e w'->R e w')->
 s 0=.pointer (some ⟨gh,0,none⟩)->s 1=.string (Ev.bs c)->s 5=.pointer (some ⟨gb,0,none⟩)->s 10=vn->(A2 14 Tryz.f103).wp prog (bodyPost prog Tryz.f103 R) { tmps:=Frm s,defers:= [] } W
structure BWs (w:World) (gb g o k:Nat) (ws:List Word):Prop where
 box:w.cell? ⟨gb,0,none⟩=some (.slice (some ⟨g,o,none⟩) ws.length k)
 words:fK w g o (ws.map Ev.bs)
theorem BWs.keep{l:List Nat}{w w':World}{gb g o k:Nat}{ws:List Word}(h:BWs w gb g o k ws)(hk:af l w w')(h1:gb∉l)(h2:g∉l):BWs w' gb g o k ws:=
 ⟨(hk.cell (p:=(a_ gb 0)) (Fc _ _ h.box) h1).trans h.box,⟨fun j x hj=>(hk.cell (p:=(a_ g (o+j))) (h.words.lt (by intro e; rw[e] at hj; simp at hj)) h2).trans (h.words.holds j x hj),fun hn=>Nat.lt_of_lt_of_le (h.words.lt hn) hk.size⟩⟩
theorem BWs.at{w:World}{gb g o k:Nat}{ws:List Word}(h:BWs w gb g o k ws){i:Nat}{x:Word}(hx:ws[i]?=some x):w.cell? ⟨g,o+i,none⟩=some (.string (Ev.bs x)):=
 h.words.holds i _ (by rw[List.getElem?_map,hx]; rfl)
theorem av.toE{w:World}(h:av w):bv w:=⟨h.base.big.1,h.base.pow,h.len⟩
theorem ti(i:Int)(w:World)(hi:okN i)(hL:av w):Calls prog 104 #[.slice (o_ w.heap.size 0) 1 1] (w.alloc (.cells #[.int .i64 i] 3)) fun e w'=>e=.returned (.string (Ev.bs (Lib.itoa i)))∧Below w.heap.size w w':=by
 have b:=bA w (.cells #[.i_ i] 3);refine (pz [i] w.heap.size 1 _ (by simp) (by simpa using hi) (CM w i _ _ rfl) (hL.on b).toE).mono ?_;rintro e w' ⟨rfl,h⟩;refine⟨?_,b.tm h⟩;simp[told,Lib.join_one,Ev.bs]
theorem DY(w:World)(a b:Int)(t:TypeId):gR (w.alloc (.cells #[.int .i64 a,.int .i64 b] t)) w.heap.size [a,b]:=
 ⟨by simp,fun j hj=>by
  match j,hj with
  |0,_=>exact (Fb _ _ _ _ rfl).trans rfl
  |1,_=>exact (Fb _ _ _ _ rfl).trans rfl⟩
theorem DZ(a b:Int)(w:World)(ha:0<=a∧a<=1099511627777)(hb2:0<=b∧b<=1099511627777)(hl:(told [a,b]).length<=100000)(hL:av w):Calls prog 104 #[.slice (o_ w.heap.size 0) 2 2] (w.alloc (.cells #[.int .i64 a,.int .i64 b] 3)) fun e w'=>e=.returned (.string (Ev.bs (Lib.itoa a ++ 32::Lib.itoa b)))∧Below w.heap.size w w':=by
 have c:=bA w (.cells #[.i_ a,.i_ b] 3);refine (rj [a,b] w.heap.size 2 _ (by simp) (fun n hn=>by simp at hn; rcases hn with rfl | rfl <;> omega) hl (DY w a b _) (hL.on c).toE).mono ?_
 rintro e w' ⟨rfl,h⟩;refine⟨?_,c.tm h⟩;unfold told Ev.bs;rw[List.map_cons,List.map_cons,bV];simp[Lib.join_one]
theorem yd{s:St}(h:Ev.dy s):(told [s.clock,s.next]).length<=100000:=by
 have h1:=ar h.clock
 have h2:(Lib.itoa s.next).length<=13:=by
  have h3:=h.next0;have h4:=h.next1;by_cases h5:s.next<=1099511627776
  ·exact ar ⟨by omega,h5⟩
  ·rw[show s.next=1099511627777 from by omega]
   decide +kernel
 unfold told;rw[List.map_cons,List.map_cons,bV];simp[Lib.join_one]
 omega
theorem ye{r:Rul}{p:Pub}(h:Ev.dy p.st):okN (sweepM r p).2.1:=by
 unfold sweepM;split
 ·exact⟨by simp,by simp⟩
 ·rename_i f hf
  have b:=(h.may f (List.mem_of_find?_eq_some hf)).1.1.1;simp only;split
  ·exact b
  ·exact⟨by omega,by omega⟩
theorem kx(x:Word):(aG x).length<=x.length:=by
 unfold aG;split
 ·simp
 ·exact Fa _
theorem A3{r:Rul}{p:Pub}{t:T}{n:Nat}(h:Ev.dy p.st):okN (showM r p t n).1.id∧(okN (showM r p t n).1.gen∧okN (showM r p t n).1.made∧okN (showM r p t n).1.used)∧Small 5000 (showM r p t n).1:=by
 by_cases hz:(showM r p t n).2=0
 ·have b:=sP h hz
  exact⟨b.1.1,b.1.2,ec b⟩
 ·rw[oS hz]
  unfold okN Small zeroF;decide
theorem Eb{r:Rul}{p:Pub}{t:T}{n m:Nat}{s:List UInt8}{l:List Word}(hg:Ev.dy p.st)(hout:Sc.Out s l m):∃b,(lookM r p.st 1 t n=0->m=0->fp (ae l) (famM p.st t).scope.data.toList b 0)∧((lookM r p.st 1 t n≠0∨m≠0)->b=false):=by
 by_cases hk:lookM r p.st 1 t n=0
 ·by_cases hm:m=0
  ·subst hm
   have c:bP (famM p.st t):=dw hg (du (look_ok hk).1).2.2.1;obtain⟨l2,q2,-⟩:=c.2.2.2.2;exact⟨inB l l2,fun _ _=>⟨l,0,l2,0,eR hout,q2,.inr (.inr ⟨rfl,rfl,rfl,rfl⟩)⟩,fun h=>by rcases h with h | h; exact absurd hk h; exact absurd rfl h⟩
  ·exact⟨false,fun _ h=>absurd h hm,fun _=>rfl⟩
 ·exact⟨false,fun h=>absurd h hk,fun _=>rfl⟩
theorem tj{tx:T->ByteArray}{r:Rul}{p:Pub}{y:Word}{t:T}{n m:Nat}{sc:ByteArray}{b:Bool}:rotateM tx r p (am (aG y)) (Ev.bs (aG y)) t n sc m b=rotateM tx r p (am y) (Ev.bs y) t n sc m b:=by
 by_cases h:y= [95]
 ·subst h
  rw[show am [95]=false from by decide,show am (aG [95])=false from by decide]
  unfold rotateM;rw[if_pos rfl,if_pos rfl]
 ·rw[show aG y=y from if_neg h]
theorem DA(w:World):(zeroValue 3).run prog w=.ok (.int .i64 0) w:=by kernel_rfl
def nf(key:Int)(t:T):ByteArray:=if mayB t=true then ⟨(ip key t).toArray⟩ else ByteArray.empty
def writeN(t:T):Nat:=if mayB t=true then 0 else 1
theorem DC(key:Int)(t:T)(w:World)(hL:kf w):Calls prog 79 #[.i_ key,aL t] w fun e w'=>e=.returned (.tuple #[.string (nf key t),.int .i64 (writeN t:Nat)])∧Below w.heap.size w w':=by
 unfold nf writeN
 cases hm:mayB t with
 |true=>exact fe key t w (fO.1 hm) hL
 |false=>exact kg key t w (fun h=>by rw[fO.2 h] at hm; cases hm)
open Go.Maps Go.WideMaps in
theorem CA(W:World)(x:Word)(hx:x.length<=5000):∃w1 w2,(Instr.mapUpdate 262 (.map (some W.heap.size)) (.string ⟨#[114]⟩) (.int .i64 1)).run prog (W.alloc (.map #[] 0))=.ok () w1∧(Instr.mapUpdate 262 (.map (some W.heap.size)) (.string ⟨#[97]⟩) (.int .i64 2)).run prog w1=.ok () w2∧(Instr.lookup 262 (.map (some W.heap.size)) (.string (Ev.bs x)) false).run prog w2=.ok (.int .i64 (cw x)) w2∧Below W.heap.size W w2:=by
 have K:=Go.Maps.string_keyed (P:=prog) underlying9;have b:∀s:ByteArray,s.size<=5000->keyOf prog 9 (.string s)=some (kh s.data.toList):=fun s hs=>keyOf_string_mk underlying9 (by unfold maxLen; omega)
 have j:=dr.made kh prog 9 3 W;obtain⟨w1,r1,h1,g1⟩:=j.store K sg underlying262 (by unfold maxLen; omega) (key:=.string ⟨#[114]⟩) (val:=.i_ 1) (b _ (by decide)) (by exact trivial) (plainElem_int underlying3 (by decide))
 obtain⟨w2,r2,h2,g2⟩:=h1.store K sg underlying262 (by unfold maxLen; omega) (key:=.string ⟨#[97]⟩) (val:=.i_ 2) (b _ (by decide)) (by exact trivial) (plainElem_int underlying3 (by decide))
 have c:=h2.look K underlying262 (DA w2) (plainElem_int underlying3 (by decide)) (key:=.string (Ev.bs x)) (b _ (by rw[aT]; exact hx))
 rw[bsL] at c;refine⟨w1,w2,r1,r2,?_,?_⟩
 ·rw[c]
  refine congrArg (fun u=>Result.ok u w2) ?_;show (ut (ut (fun _=>none) [114] (.i_ 1)) [97] (.i_ 2) x).getD (.i_ 0)=.i_ (cw x)
  unfold ut cw;by_cases e1:x= [97]
  ·subst e1; rfl
  ·by_cases e2:x= [114]
   ·subst e2; rfl
   ·rw[if_neg e1,if_neg e2,if_neg e2,if_neg e1]; rfl
 ·have f:=bA W (.map #[] 0)
  have g:=f.grown g1 f.size (fun k e=>by cases e; exact Fa _)
  exact g.grown g2 g.size (fun k e=>by cases e; exact Fa _)
theorem A4(r:Rul):Cz r=dB r:=by
 unfold Cz dB;simp[Bool.and_assoc]
section
variable {B N : Nat} {w0 W w' : World} {gb gh gx gr k : Nat} {d : Dk} {v vn : Value} {ao : Option Addr} {c : Word} {ws : List Word} {ns : List Int}
theorem de.to(h:de B N w0 gb gh gx gr d v vn ao k ws ns W){q:Pub}{v':Value}{a:List UInt8}{n:Nat}{x:ByteArray}(ht:RTo N gr v W w' q v')(hd:aW d c ws ns (⟨d.r,q⟩,a,n))(hx:n=0->x=Ev.bs a):
 th B N w0 gh d c ws ns (.returned (.tuple #[.string x,.int .i64 (n:Nat)])) w':=by
 obtain⟨h1,h2⟩:=Ho.to (r:=d.r) (p:=d.p) h.ho ht;exact⟨_,x,gx,gr,v',rfl,hd,hx,h1,(h.below.mono h.base).trans h2⟩
theorem de.same(h:de B N w0 gb gh gx gr d v vn ao k ws ns W){a:List UInt8}{n:Nat}{x:ByteArray}(hb:Below W.heap.size W w')(hd:aW d c ws ns (d,a,n))(hx:n=0->x=Ev.bs a):
 th B N w0 gh d c ws ns (.returned (.tuple #[.string x,.int .i64 (n:Nat)])) w':=
 ⟨_,x,gx,gr,v,rfl,hd,hx,(h.ho.on hb).mono (by omega),(h.below.mono h.base).trans (hb.mono (Fe h.base h.below.size))⟩
theorem de.on(h:de B N w0 gb gh gx gr d v vn ao k ws ns W)(hb:Below W.heap.size W w'):de B N w0 gb gh gx gr d v vn ao k ws ns w':=
 ⟨h.ho.on hb,h.nums.on hb,(hb.cell (p:=(a_ gb 0)) (Fc _ _ h.box)).trans h.box,fun hn=>by obtain⟨g,o,e,hw⟩:=h.words hn; exact⟨g,o,e,hw.on hb⟩,h.below.tm hb,h.base,h.nb,h.apart⟩
theorem de.bws{g o:Nat}(h:de B N w0 gb gh gx gr d v vn (some ⟨g,o,none⟩) k ws ns W)(hn:ws≠ []):BWs W gb g o k ws:=by
 obtain⟨g',o',e,hw⟩:=h.words hn;simp only[Option.some.injEq,Addr.mk.injEq,and_true] at e;obtain⟨rfl,rfl⟩:=e;exact⟨h.box,hw⟩
theorem CB{x:Word}{i:Int}(h:numsW [true] [x]=some [i]):i<=9223372036854775807:=by
 simp only[numsW] at h
 cases hx:numW x with
 |none=>rw[hx] at h; cases h
 |some j=>
  rw[hx] at h;simp at h
  have:=Lib.atoiAll_bounds (iR hx).1;omega
theorem CC{ns:List Int}(h:numsW [true,false] ws=some ns):∃x y i,ws= [x,y]∧ns= [i]:=by
 match ws,h with
 |[x,y],h=>
  simp only[numsW] at h
  cases hx:numW x with
  |none=>rw[hx] at h; cases h
  |some i=>rw[hx] at h; simp at h; exact⟨x,y,i,rfl,h.symm⟩
 |[],h=>cases h
 |[x],h=>
  simp only[numsW] at h
  cases hx:numW x with
  |none=>rw[hx] at h; cases h
  |some i=>rw[hx] at h; cases h
 |x::y::z::l,h=>
  simp only[numsW] at h
  cases hx:numW x with
  |none=>rw[hx] at h; cases h
  |some i=>rw[hx] at h; cases h
theorem yg{ns:List Int}(h:numsW [false,true,true,true] ws=some ns):∃x ys a b e,ws=x::ys∧ys.length=3∧ns= [a,b,e]:=by
 match ws,h with
 |[],h=>cases h
 |x::ys,h=>
  have c:ys.length=3:=Classical.byContradiction fun hn=>by
   have:numsW [true,true,true] ys=none:=jy (by simpa using fun e=>hn e.symm)
   simp only[numsW] at h this;rw[this] at h
   cases h
  match ys,c with
  |[y1,y2,y3],_=>
   simp only[numsW] at h
   cases h1:numW y1 <;> cases h2:numW y2 <;> cases h3:numW y3 <;> rw[h1] at h <;> simp[h2,h3] at h
   exact⟨x,_,_,_,_,rfl,rfl,h.symm⟩
theorem tl{a b e:Value}(h:aE B W vn [a,b,e]):∃g c,vn=.slice (some ⟨g,0,none⟩) 3 c:=by
 rcases h with ⟨-,h⟩ | ⟨g,c,rfl,hr⟩
 ·cases h
 ·exact⟨g,c,rfl⟩
theorem ej{g c:Nat}{cs:List Value}(h:aE B W (.slice (some ⟨g,0,none⟩) cs.length c) cs){i:Nat}{u:Value}(hi:cs[i]?=some u):W.cell? ⟨g,i,none⟩=some u:=by
 obtain⟨g',e,h1⟩:=aE.cell (cs:=cs) h i _ hi;simp only[Option.some.injEq,Addr.mk.injEq,and_true] at e;obtain rfl:=e;exact h1
theorem yh{ns:List Int}(h:numsW [true,true,true,true] ws=some ns):∃a b c e,ws.length=4∧ns= [a,b,c,e]:=by
 have f:ws.length=4:=Classical.byContradiction fun hn=>by
  rw[jy (by simpa using fun e=>hn e.symm)] at h
  cases h
 match ws,f with
 |[y0,y1,y2,y3],_=>
  simp only[numsW] at h
  cases h0:numW y0 <;> cases h1:numW y1 <;> cases h2:numW y2 <;> cases h3:numW y3 <;> rw[h0] at h <;> simp[h1,h2,h3] at h
  exact⟨_,_,_,_,rfl,h.symm⟩
theorem u9{a b c e:Value}(h:aE B W vn [a,b,c,e]):∃g k,vn=.slice (some ⟨g,0,none⟩) 4 k:=by
 rcases h with ⟨-,h⟩ | ⟨g,c,rfl,hr⟩
 ·cases h
 ·exact⟨g,c,rfl⟩
theorem tp{ns:List Int}(h:numsW [false,false,false] ws=some ns):∃x y z,ws= [x,y,z]∧ns= []:=by
 match ws,h with
 |[x,y,z],h=>exact⟨x,y,z,rfl,(Option.some.inj h).symm⟩
 |[],h=>cases h
 |[x],h=>cases h
 |[x,y],h=>cases h
 |x::y::z::u::l,h=>cases h
theorem de.fresh{W1 w2:World}(h:de B N w0 gb gh gx gr d v vn ao k ws ns W1)(hdoc:aF w2 W1.heap.size fU (.slice none 0 0))(hb:Below W1.heap.size W1 w2){a b cc e:Int}{x:List UInt8}(hr:fA ⟨a,b,cc,e⟩)(hd:aW d c ws ns (⟨⟨a,b,cc,e⟩,fU⟩,x,0)):
 th B N w0 gh d c ws ns (.returned (.tuple #[.string (Ev.bs x),.int .i64 0])) ((w2.alloc (.cells #[.pointer (some ⟨W1.heap.size,0,none⟩),.int .i64 a,.int .i64 b,.int .i64 cc,.int .i64 e] 65)).setCell ⟨gh,0,none⟩ (.pointer (some ⟨w2.heap.size,0,none⟩))):=by
 have g:=bA w2 (.cells #[.pointer (some ⟨W1.heap.size,0,none⟩),.int .i64 a,.int .i64 b,.int .i64 cc,.int .i64 e] 65);have A:=h.ho.lt;have n:=hdoc.lt;have o:=hb.size;have f:=hb.trans (g.mono o);have q:=h.on f;have j:∀(i:Nat) (u:Value),(#[Value.pointer (some ⟨W1.heap.size,0,none⟩),.int .i64 a,.int .i64 b,.int .i64 cc,.int .i64 e])[i]?=some u->(w2.alloc (.cells #[.pointer (some ⟨W1.heap.size,0,none⟩),.int .i64 a,.int .i64 b,.int .i64 cc,.int .i64 e] 65)).cell? ⟨w2.heap.size,i,none⟩=some u:=fun i u hu=>(Fb _ _ _ _ rfl).trans hu;have r:eD (w2.alloc (.cells #[.pointer (some ⟨W1.heap.size,0,none⟩),.int .i64 a,.int .i64 b,.int .i64 cc,.int .i64 e] 65)) w2.heap.size W1.heap.size ⟨a,b,cc,e⟩:=⟨j 0 _ rfl,j 1 _ rfl,j 2 _ rfl,j 3 _ rfl,j 4 _ rfl,by simp⟩
 have s:=hdoc.on g;have t:=Fe h.base h.below.size;have C:=h.ho.bh;generalize (w2.alloc _)=WA at *;have z:af [gh] WA (WA.setCell ⟨gh,0,none⟩ (.pointer (some ⟨w2.heap.size,0,none⟩))):=(af.refl _ _).setCell (p:=⟨gh,0,none⟩) (.inl (by simp)) _
 have m:Below B WA (WA.setCell ⟨gh,0,none⟩ (.pointer (some ⟨w2.heap.size,0,none⟩))):=z.below (Nat.le_trans t f.size) (fun y hy=>by simp at hy; omega)
 refine⟨_,Ev.bs x,w2.heap.size,W1.heap.size,.slice none 0 0,rfl,hd,fun _=>rfl,⟨⟨s.elsewhere z (fun y hy=>by simp at hy; exact⟨by omega,az.nil _ _ _⟩),bS pM (by omega),r.keep z (by simp; omega),q.ho.rv.libs.belowO m h.ho.ob,hr,n,az.nil _ _ _,h.ho.rv.old.mono (by have:=h.ho.rv.doc.lt; omega)⟩,?_,?_,by omega,by omega,az.nil _ _ _,h.ho.bh,t,h.ho.ob⟩,((h.below.mono h.base).trans (f.mono t)).trans m⟩
 ·exact World.cell?_setCell_same' _ _ _ (by rw[q.ho.c0]; rfl)
 ·have:=q.ho.f0
  simpa using this
theorem RTo.keepK{q:Pub}(h1:aF w' gr q v)(h2:cr (N+22) q)(hk:af [gr] W w'):RTo N gr v W w' q v:=⟨h1,h2,hk,.inl rfl⟩
theorem iV{a:Value}(h:aE B W vn [a]):∃g c,vn=.slice (some ⟨g,0,none⟩) 1 c∧W.cell? ⟨g,0,none⟩=some a:=by
 rcases h with ⟨-,h⟩ | ⟨g,c,rfl,hr⟩
 ·cases h
 ·exact⟨g,c,rfl,hr.holds 0 a rfl⟩
theorem vc{ns:List Int}(h:numsW [true] ws=some ns):∃x i,ws= [x]∧ns= [i]:=by
 match ws,h with
 |[x],h=>
  simp only[numsW] at h
  cases hx:numW x with
  |none=>rw[hx] at h; cases h
  |some i=>rw[hx] at h; simp at h; exact⟨x,i,rfl,h.symm⟩
 |[],h=>cases h
 |x::y::l,h=>
  simp only[numsW] at h
  cases hx:numW x with
  |none=>rw[hx] at h; cases h
  |some i=>rw[hx] at h; cases h
theorem vd{ns:List Int}(h:numsW [false] ws=some ns):∃x,ws= [x]∧ns= []:=by
 match ws,h with
 |[x],h=>exact⟨x,rfl,(Option.some.inj h).symm⟩
 |[],h=>cases h
 |x::y::l,h=>cases h
theorem lh(h:de B N w0 gb gh gx gr d v vn ao k ws ns W){i:Nat}{x:Word}(hx:ws[i]?=some x):∃g o,ao=some ⟨g,o,none⟩∧W.cell? ⟨g,o+i,none⟩=some (.string (Ev.bs x))∧fK W g o (ws.map Ev.bs):=by
 obtain⟨g,o,e,hw⟩:=h.words (by rintro rfl; simp at hx)
 exact⟨g,o,e,hw.holds i _ (by rw[List.getElem?_map,hx]; rfl),hw⟩
theorem tq{g c:Nat}{i:Int}(h:aE B W (.slice (some ⟨g,0,none⟩) 1 c) [.int .i64 i]):W.cell? ⟨g,0,none⟩=some (.int .i64 i):=by
 obtain⟨g',e,h1⟩:=aE.cell (cs:= [.i_ i]) h 0 _ rfl;simp only[Option.some.injEq,Addr.mk.injEq,and_true] at e;obtain rfl:=e;exact h1
theorem oY{g o:Nat}(h:de B N w0 gb gh gx gr d v vn (some ⟨g,o,none⟩) k ws ns W){i:Nat}{x:Word}(hx:ws[i]?=some x):W.cell? ⟨g,o+i,none⟩=some (.string (Ev.bs x)):=by
 obtain⟨g',o',e,h1,-⟩:=lh h hx;simp only[Option.some.injEq,Addr.mk.injEq,and_true] at e;obtain⟨rfl,rfl⟩:=e;exact h1
end
end Go.Proofs.YtlailakofhenkabGreatDoor
namespace Go.Proofs.YtlailakofhenkabGreatDoor
open Go Go.RowKit Tok Sc Ev RegD
attribute [local go_sem] rA oA
theorem tr:cZ dg [true,true,true,true]:=by
 intro B N w0 W gb gh gx gr d v vn ao k ws ns R s HI HNN _ HNU HR h0 h1 h5 h10;replace h1:s 1=.string ⟨#[110,101,119]⟩:=h1
 rw[ck,h0,h1,h5,h10];clear h0 h1 h5 h10;have q0:=HI.out.ho.c0;have q1:=HI.out.ho.rv.box.c0;obtain⟨a,b,c,e,-,rfl⟩:=yh HNU.out;obtain⟨gn,cn,rfl⟩:=u9 HI.out.nums;conv=>arg 2; whnf
 go_upto_region 18 with fail;refine region_ (fun W'=>de B N w0 gb gh gx gr d v (.slice (o_ gn 0) 4 cn) ao k ws [a,b,c,e] W') 14 (HI.out.on (E9 _ _).drew) fun hH=>?_;refine an [(0,.slice (o_ gn 0) 4 cn),(1,p_ gn 0),(2,.i_ a),(3,.slice (o_ gn 0) 4 cn),(4,p_ gn 1),(5,.i_ b),(6,.slice (o_ gn 0) 4 cn),(7,p_ gn 2),(8,.i_ c),(9,.slice (o_ gn 0) 4 cn),(10,p_ gn 3),(11,.i_ e),(12,.agg (Q_ a b c e))] hH (fun W hW=>by have m:=ej (cs:= [.i_ a,.i_ b,.i_ c,.i_ e]) (i:=0) hW.nums rfl; have m:=ej (cs:= [.i_ a,.i_ b,.i_ c,.i_ e]) (i:=1) hW.nums rfl; have m:=ej (cs:= [.i_ a,.i_ b,.i_ c,.i_ e]) (i:=2) hW.nums rfl; have m:=ej (cs:= [.i_ a,.i_ b,.i_ c,.i_ e]) (i:=3) hW.nums rfl;go_simp) ?_;simp only[pA,oA,Act.put,pS1]
 refine one_ 13 ?_; intro K hK; go_simp;refine hK.out _ _ (hH.on (bA _ _)) ?_;clear hK hH;intro hH;clear K;clear hH;refine late_ 14 ?_; intro K hK; go_simp;refine hK.out _ _ ?_;clear hK K;refine done_ ?_;go_wp2_with fail;have o:J _:=(RuB.made W a b c e 54).on (E9 _ _).drew;have p:J _:=HI.out.on ((E9 _ _).alloc (Fa _) (.cells (Q_ a b c e) 54)).drew;refine (td _ a b c e).mono ?_;rintro e1 w1 ⟨rfl,hb1⟩;have q:J _:=o.o.on hb1;have f:J _:=p.o.on hb1;rw[A4];clear hb1
 cases hr:dB ⟨a,b,c,e⟩ with
 |false=>
  go_wp2_with fail;exact HR.out _ _ (f.o.same (n:=2) (Below.refl _ _) (lK ⟨a,b,c,e,rfl,(if_neg (by simp[hr])).symm⟩) (fun h=>by cases h))
 |true=>
  go_upto_region 21 with fail;refine region_ (fun W'=>RuB W' W.heap.size ⟨a,b,c,e⟩∧de B N w0 gb gh gx gr d v (.slice (o_ gn 0) 4 cn) ao k ws [a,b,c,e] W') 7 ⟨q.o.on (E9 _ _).drew,f.o.on (E9 _ _).drew⟩ fun hH=>?_;refine an [(0,p_ gh 0),(2,.agg (Q_ a b c e))] hH (fun W hW=>by obtain⟨m,a1,a2,a3,-⟩:=hW.1;go_simp) ?_;simp only[pA,oA,Act.put,pS1]
  refine one_ 1 ?_; intro K hK; go_simp;refine (kY _).mono ?_;rintro e2 w2 ⟨rfl,hdoc,hb2⟩;have g:J _:=hdoc;have r:J _:=hb2;go_wp2_with fail;refine hK.out _ _ (⟨hH.1.on hb2,hH.2.on hb2⟩) ?_;clear hK hH;intro hH;clear K;clear hdoc hb2;refine an [(3,.agg (V_ w1.drew.heap.size a b c e))] hH (fun W hW=>by go_simp) ?_;simp only[pA,oA,Act.put,pS1]
  refine one_ 4 ?_; intro K hK; go_simp;refine hK.out _ _ (⟨hH.1.on (bA _ _),hH.2.on (bA _ _)⟩) ?_;clear hK hH;intro hH;clear K;refine an [(5,p_ gh 0),(6,p_ gh 0)] hH (fun W hW=>by go_simp) ?_;simp only[pA,oA,Act.put,pS1]
  have j:J _:=hH.2;have s0:=j.o.ho.c0;have s1:=j.o.ho.f0;clear hH;refine late_ 7 ?_; intro K hK; go_simp;refine hK.out _ _ ?_;clear hK K;refine done_ ?_;go_wp2_with fail;exact HR.out _ _ (de.fresh (f.o.on (E9 _ _).drew) g.o r.o (ko hr) (lK ⟨a,b,c,e,rfl,(if_pos hr).symm⟩))
theorem qp:cZ bM []:=by
 intro B N w0 W gb gh gx gr d v vn ao k ws ns R s HI HNN _ HNU HR h0 h1 h5 h10;replace h1:s 1=.string ⟨#[111,112,101,110]⟩:=h1
 rw[ck,h0,h1,h5,h10];clear h0 h1 h5 h10;have q0:=HI.out.ho.c0;have q1:=HI.out.ho.rv.box.c0;conv=>arg 2; whnf
 go_wp2_with fail;refine (uO _ gr d.p v HI.out.ho.rv.doc).mono ?_;rintro e1 w1 ⟨rfl,hr1,hk1⟩;have b:J _:=RTo.keepK (N:=N) hr1 (bS (BQ HI.out.ho.rv.ok) (by omega)) hk1
 clear hr1 hk1;go_wp2_with fail;exact HR.out _ _ (HI.out.to b.o (sA rfl) (fun _=>rfl))
theorem nI:cZ bj [false,false,false]:=by
 intro B N w0 W gb gh gx gr d v vn ao k ws ns R s HI HNN HX5 HNU HR h0 h1 h5 h10;replace h1:s 1=.string ⟨#[103,114,97,110,116]⟩:=h1
 rw[ck,h0,h1,h5,h10];clear h0 h1 h5 h10;have q0:=HI.out.ho.c0;have q1:=HI.out.ho.rv.box.c0;obtain⟨x,y,z,rfl,rfl⟩:=tp HNU.out;obtain⟨g,o,rfl,-,-⟩:=lh (i:=1) HI.out rfl;have b:J (x.length<=5000∧y.length<=5000∧(aG z).length<=5000):=⟨HX5.out x (by simp),HX5.out y (by simp),Nat.le_trans (kx z) (HX5.out z (by simp))⟩
 obtain⟨l,m,hout⟩:=Sc.gY (aG z);have c:J _:=hout;clear hout;conv=>arg 2; whnf
 go_upto_region 25 with fail
 refine wpR (fun W'=>BWs W' gb g o k [x,y,z]) 13 (by kernel_rfl) ((HI.out.on (Below.refl _ _).drew).bws (by simp)) (fun hH=>?_)
 refine tk1 0 (v:=.pointer (some ⟨gx,0,none⟩)) rfl (by kernel_rfl) (fun _ _ _ h=>h) (.inl ⟨by rfl,fun W hW=>by go_simp⟩) hH ?_
 simp only[Act.put,pS1,pS2,pS3];refine tk1 1 (v:=.slice (some ⟨g,o,none⟩) 3 k) rfl (by kernel_rfl) (fun _ _ _ h=>h) (.inl ⟨by rfl,fun W hW=>by have j:=hW.box; go_simp⟩) hH ?_
 simp only[Act.put,pS1,pS2,pS3];refine tk1 2 (v:=.pointer (some ⟨g,o,none⟩)) rfl (by kernel_rfl) (fun _ _ _ h=>h) (.inl ⟨by rfl,fun W hW=>by go_simp⟩) hH ?_
 simp only[Act.put,pS1,pS2,pS3];refine tk1 3 (oi:=?oi3x5) (v:=.string (Ev.bs x)) ?hi3x5 ?hB3x5 ?hQ3x5 ?hy3x5 hH ?rest3x5
 case hi3x5=>rfl
 case hB3x5=>kernel_rfl
 case hQ3x5=>exact fun _ _ _ h=>h
 case hy3x5=>exact .inl ⟨by rfl,fun W hW=>by
  have j:=(by simpa using hW.at (i:=0) rfl:W.cell? ⟨g,o,none⟩=some (.string (Ev.bs x)))
  go_simp⟩
 simp only[Act.put,pS1,pS2,pS3];refine tk1 4 (v:=.slice (some ⟨g,o,none⟩) 3 k) rfl (by kernel_rfl) (fun _ _ _ h=>h) (.inl ⟨by rfl,fun W hW=>by have j:=hW.box; go_simp⟩) hH ?_
 simp only[Act.put,pS1,pS2,pS3];refine tk1 5 (v:=.pointer (some ⟨g,o+1,none⟩)) rfl (by kernel_rfl) (fun _ _ _ h=>h) (.inl ⟨by rfl,fun W hW=>by go_simp⟩) hH ?_
 simp only[Act.put,pS1,pS2,pS3];refine tk1 6 (v:=.string (Ev.bs y)) rfl (by kernel_rfl) (fun _ _ _ h=>h) (.inl ⟨by rfl,fun W hW=>by have j:=hW.at (i:=1) rfl; go_simp⟩) hH ?_
 simp only[Act.put,pS1,pS2,pS3];refine tk1 7 (v:=.func (.func 159) #[] #[.pointer (some ⟨gb,0,none⟩)]) rfl (by kernel_rfl) (fun _ _ _ h=>h) (.inl ⟨by rfl,fun W hW=>by go_simp⟩) hH ?_
 simp only[Act.put,pS1,pS2,pS3];refine wpO 8 rfl (by kernel_rfl) ?_; intro K hK; go_simp
 have f:J _:=jv gb g o k _ 2 (Ev.bs z) W.drew rfl hH.box hH.words;rw[bsL] at f;refine Calls.mono f.o ?_;rintro e1 w1 ⟨rfl,hw⟩;obtain rfl:w1=W.drew:=hw;go_wp2_with fail
 refine hK.out _ _ (hH) ?_;clear hK hH;intro hH;clear K;refine wpO 9 rfl (by kernel_rfl) ?_; intro K hK; go_simp
 have q:=sY N W.drew gx gr d.r d.p v (Ev.bs x) (Ev.bs y) (Ev.bs (aG z)) l m (HI.out.on (Below.refl _ _).drew).ho.rv (by rw[aT]; exact b.o.1) (by rw[aT]; exact b.o.2.1) (by rw[aT]; exact b.o.2.2) (by rw[bsL]; exact c.o) (by have:=HNN.out; omega)
 rw[bsL,bsL] at q;refine q.mono ?_;rintro e2 w2 ⟨rfl,v2,ht⟩;have n:J _:=RTo.pre (E9 _ _).drew ht;go_wp2_with fail
 refine hK.out _ _ (hH.keep ht.keep (by have:=HI.out.nb; simp; omega) (by have:=HI.out.apart g o rfl; simp; omega)) ?_
 clear hK hH;intro hH;clear K;clear ht;refine tk1 10 (v:=.string (cX (txtB d.r) d.p (am x && am y) (Ev.bs x) (Ev.bs y) ⟨(ae l).toArray⟩ m).2.1) rfl (by kernel_rfl) (fun _ _ _ h=>h) (.inl ⟨by rfl,fun W hW=>by go_simp⟩) hH ?_
 simp only[Act.put,pS1,pS2,pS3];refine tk1 11 (v:=.int .i64 ((cX (txtB d.r) d.p (am x && am y) (Ev.bs x) (Ev.bs y) ⟨(ae l).toArray⟩ m).2.2:Nat)) rfl (by kernel_rfl) (fun _ _ _ h=>h) (.inl ⟨by rfl,fun W hW=>by go_simp⟩) hH ?_
 simp only[Act.put,pS1,pS2,pS3];refine tk1 12 (v:=.string (cX (txtB d.r) d.p (am x && am y) (Ev.bs x) (Ev.bs y) ⟨(ae l).toArray⟩ m).2.1) rfl (by kernel_rfl) (fun _ _ _ h=>h) (.inl ⟨by rfl,fun W hW=>by go_simp⟩) hH ?_
 simp only[Act.put,pS1,pS2,pS3];clear hH;refine wpL 13 rfl (by kernel_rfl) (by kernel_rfl) ?_; intro K hK; go_simp
 refine hK.out _ _ ?_;clear hK K;refine wpE (by kernel_rfl) ?_ _
 go_wp2_with fail
 exact HR.out _ _ (HI.out.to n.o (oM ⟨x,y,z,l,m,rfl,c.o,rfl⟩) (fun _=>by simp[Ev.bs]; rfl))
theorem ng:cZ aR [false,false,false]:=by
 intro B N w0 W gb gh gx gr d v vn ao k ws ns R s HI HNN HX5 HNU HR h0 h1 h5 h10;replace h1:s 1=.string ⟨#[114,111,116,97,116,101]⟩:=h1
 rw[ck,h0,h1,h5,h10];clear h0 h1 h5 h10;have q0:=HI.out.ho.c0;have q1:=HI.out.ho.rv.box.c0;obtain⟨x,y,z,rfl,rfl⟩:=tp HNU.out;obtain⟨g,o,rfl,-,-⟩:=lh (i:=1) HI.out rfl;have c:J (x.length<=5000∧y.length<=5000∧(aG z).length<=5000):=⟨HX5.out x (by simp),HX5.out y (by simp),Nat.le_trans (kx z) (HX5.out z (by simp))⟩
 obtain⟨l,m,hout⟩:=Sc.gY (aG z);have f:J _:=hout;clear hout;obtain⟨t,n,htok⟩:=Tok.out_any (tag d.r.key) x;have j:J _:=htok;obtain⟨b,hb1,hb2⟩:=Eb (HI.out.ho.rv.ok.good) (r:=d.r) (t:=t) (n:=n) f.o;have q:J _:=hb1;have C:J _:=hb2;clear htok hb1 hb2;conv=>arg 2; whnf
 go_upto_region 27 with fail
 refine wpR (fun W'=>BWs W' gb g o k [x,y,z]) 13 (by kernel_rfl) ((HI.out.on (Below.refl _ _).drew).bws (by simp)) (fun hH=>?_)
 refine tk1 0 (v:=.pointer (some ⟨gx,0,none⟩)) rfl (by kernel_rfl) (fun _ _ _ h=>h) (.inl ⟨by rfl,fun W hW=>by go_simp⟩) hH ?_
 simp only[Act.put,pS1,pS2,pS3];refine tk1 1 (v:=.slice (some ⟨g,o,none⟩) 3 k) rfl (by kernel_rfl) (fun _ _ _ h=>h) (.inl ⟨by rfl,fun W hW=>by have D:=hW.box; go_simp⟩) hH ?_
 simp only[Act.put,pS1,pS2,pS3];refine tk1 2 (v:=.pointer (some ⟨g,o,none⟩)) rfl (by kernel_rfl) (fun _ _ _ h=>h) (.inl ⟨by rfl,fun W hW=>by go_simp⟩) hH ?_
 simp only[Act.put,pS1,pS2,pS3];refine tk1 3 (oi:=?oi3x5) (v:=.string (Ev.bs x)) ?hi3x5 ?hB3x5 ?hQ3x5 ?hy3x5 hH ?rest3x5
 case hi3x5=>rfl
 case hB3x5=>kernel_rfl
 case hQ3x5=>exact fun _ _ _ h=>h
 case hy3x5=>exact .inl ⟨by rfl,fun W hW=>by
  have D:=(by simpa using hW.at (i:=0) rfl:W.cell? ⟨g,o,none⟩=some (.string (Ev.bs x)))
  go_simp⟩
 simp only[Act.put,pS1,pS2,pS3];refine tk1 4 (v:=.slice (some ⟨g,o,none⟩) 3 k) rfl (by kernel_rfl) (fun _ _ _ h=>h) (.inl ⟨by rfl,fun W hW=>by have D:=hW.box; go_simp⟩) hH ?_
 simp only[Act.put,pS1,pS2,pS3];refine tk1 5 (v:=.pointer (some ⟨g,o+1,none⟩)) rfl (by kernel_rfl) (fun _ _ _ h=>h) (.inl ⟨by rfl,fun W hW=>by go_simp⟩) hH ?_
 simp only[Act.put,pS1,pS2,pS3];refine tk1 6 (v:=.string (Ev.bs y)) rfl (by kernel_rfl) (fun _ _ _ h=>h) (.inl ⟨by rfl,fun W hW=>by have D:=hW.at (i:=1) rfl; go_simp⟩) hH ?_
 simp only[Act.put,pS1,pS2,pS3];refine tk1 7 (v:=.func (.func 159) #[] #[.pointer (some ⟨gb,0,none⟩)]) rfl (by kernel_rfl) (fun _ _ _ h=>h) (.inl ⟨by rfl,fun W hW=>by go_simp⟩) hH ?_
 simp only[Act.put,pS1,pS2,pS3];refine wpO 8 rfl (by kernel_rfl) ?_; intro K hK; go_simp
 have A:J _:=jv gb g o k _ 2 (Ev.bs z) W.drew rfl hH.box hH.words;rw[bsL] at A;refine Calls.mono A.o ?_;rintro e1 w1 ⟨rfl,hw⟩;obtain rfl:w1=W.drew:=hw;go_wp2_with fail
 refine hK.out _ _ (hH) ?_;clear hK hH;intro hH;clear K;refine wpO 9 rfl (by kernel_rfl) ?_; intro K hK; go_simp
 have F:=qm N W.drew gx gr d.r d.p v (Ev.bs x) (Ev.bs y) (Ev.bs (aG z)) t n l m b (HI.out.on (Below.refl _ _).drew).ho.rv (by rw[aT]; exact c.o.1) (by rw[aT]; exact c.o.2.1) (by rw[aT]; exact c.o.2.2) (by rw[bsL]; exact j.o) (by rw[bsL]; exact f.o) q.o (by have:=HNN.out; omega)
 rw[bsL] at F;refine F.mono ?_;rintro e2 w2 ⟨rfl,v2,ht⟩;have E:J _:=RTo.pre (E9 _ _).drew ht;go_wp2_with fail
 refine hK.out _ _ (hH.keep ht.keep (by have:=HI.out.nb; simp; omega) (by have:=HI.out.apart g o rfl; simp; omega)) ?_
 clear hK hH;intro hH;clear K;clear ht;refine tk1 10 (v:=.string (rotateM (txtB d.r) d.r d.p (am y) (Ev.bs y) t n ⟨(ae l).toArray⟩ m b).2.1) rfl (by kernel_rfl) (fun _ _ _ h=>h) (.inl ⟨by rfl,fun W hW=>by go_simp⟩) hH ?_
 simp only[Act.put,pS1,pS2,pS3];refine tk1 11 (v:=.int .i64 ((rotateM (txtB d.r) d.r d.p (am y) (Ev.bs y) t n ⟨(ae l).toArray⟩ m b).2.2:Nat)) rfl (by kernel_rfl) (fun _ _ _ h=>h) (.inl ⟨by rfl,fun W hW=>by go_simp⟩) hH ?_
 simp only[Act.put,pS1,pS2,pS3];refine tk1 12 (v:=.string (rotateM (txtB d.r) d.r d.p (am y) (Ev.bs y) t n ⟨(ae l).toArray⟩ m b).2.1) rfl (by kernel_rfl) (fun _ _ _ h=>h) (.inl ⟨by rfl,fun W hW=>by go_simp⟩) hH ?_
 simp only[Act.put,pS1,pS2,pS3];clear hH;refine wpL 13 rfl (by kernel_rfl) (by kernel_rfl) ?_; intro K hK; go_simp
 refine hK.out _ _ ?_;clear hK K;refine wpE (by kernel_rfl) ?_ _
 go_wp2_with fail
 exact HR.out _ _ (HI.out.to E.o (mW ⟨x,y,z,t,n,l,m,b,rfl,j.o,f.o,q.o,C.o,(by rw[tj]; rfl)⟩) (fun _=>by simp[Ev.bs]; rfl))
theorem qq:cZ cA [false]:=by
 intro B N w0 W gb gh gx gr d v vn ao k ws ns R s HI HNN HX5 HNU HR h0 h1 h5 h10;replace h1:s 1=.string ⟨#[109,105,110,116]⟩:=h1
 rw[ck,h0,h1,h5,h10];clear h0 h1 h5 h10;have q0:=HI.out.ho.c0;have q1:=HI.out.ho.rv.box.c0;obtain⟨x,rfl,rfl⟩:=vd HNU.out;obtain⟨g,o,rfl,hx0,hwo⟩:=lh (i:=0) HI.out rfl;have f:J _:=hwo;clear hwo;rw[Nat.add_zero] at hx0;have qb:=HI.out.box;obtain⟨t,n,htok⟩:=Tok.out_any (tag d.r.key) x;have b:J _:=htok;clear htok;conv=>arg 2; whnf
 go_wp2_with fail;refine (uX N W gx gr d.r d.p v (Ev.bs x) t n HI.out.ho.rv (by rw[aT]; exact HX5.out x (by simp)) (by rw[bsL]; exact b.o)).mono ?_
 rintro e1 w1 ⟨rfl,hb⟩;have c:J _:=hb;clear hb;go_wp2_with fail;exact HR.out _ _ (HI.out.same c.o (sB ⟨x,t,n,rfl,b.o,rfl⟩) (fun _=>by simp[Ev.bs]; rfl))
theorem qr:cZ cI [false]:=by
 intro B N w0 W gb gh gx gr d v vn ao k ws ns R s HI HNN HX5 HNU HR h0 h1 h5 h10;replace h1:s 1=.string ⟨#[115,104,111,119]⟩:=h1
 rw[ck,h0,h1,h5,h10];clear h0 h1 h5 h10;have q0:=HI.out.ho.c0;have q1:=HI.out.ho.rv.box.c0;obtain⟨x,rfl,rfl⟩:=vd HNU.out;obtain⟨g,o,rfl,hx0,hwo⟩:=lh (i:=0) HI.out rfl;have D:J _:=hwo;clear hwo;rw[Nat.add_zero] at hx0;have qb:=HI.out.box;obtain⟨t,n,htok⟩:=Tok.out_any (tag d.r.key) x;have j:J _:=htok;clear htok;conv=>arg 2; whnf
 go_wp2_with fail;have E:J _:=HI.out.ho.rv.ok.good;refine (uW N W gx gr d.r d.p v (Ev.bs x) t n HI.out.ho.rv (by rw[aT]; exact HX5.out x (by simp)) (by rw[bsL]; exact j.o)).mono ?_
 rintro e1 w1 ⟨rfl,hb⟩;have b:J _:=hb;clear hb;have c:J _:=A3 (r:=d.r) (t:=t) (n:=n) E.o;have A:J _:=(HI.out.ho.rv.on b.o).libs;generalize hF:showM d.r d.p t n=F at *;obtain⟨f,m⟩:=F;obtain⟨f1,f2,f3,f4,f5,f6,f7,f8,f9⟩:=f;unfold ap ac at *;simp only;go_wp2_with fail;have q:=bA w1 (.cells (F_ f1 f2 f3 f4 f5 f6 f7 f8 f9) 40);have z:J _:=q;clear q;refine (oW ⟨f1,f2,f3,f4,f5,f6,f7,f8,f9⟩ _ c.o.1 c.o.2.1 c.o.2.2 (A.o.on z.o).toE).mono ?_;rintro e2 w2 ⟨rfl,hb⟩;have C:J _:=b.o.trans ((z.o.tm hb).mono b.o.size);clear hb;go_wp2_with fail;exact HR.out _ _ (HI.out.same C.o (sC ⟨x,t,n,rfl,j.o,by rw[show showM d.r d.p t n=_ from hF]⟩) (fun _=>rfl))
theorem qt:cZ cu [true]:=by
 intro B N w0 W gb gh gx gr d v vn ao k ws ns R s HI HNN _ HNU HR h0 h1 h5 h10;replace h1:s 1=.string ⟨#[107,105,108,108]⟩:=h1
 rw[ck,h0,h1,h5,h10];clear h0 h1 h5 h10;have q0:=HI.out.ho.c0;have q1:=HI.out.ho.rv.box.c0;obtain⟨x,i,rfl,rfl⟩:=vc HNU.out;obtain⟨gn,cn,rfl,hn0⟩:=iV HI.out.nums;conv=>arg 2; whnf
 go_wp2_with fail;refine (uU N W gx gr d.r d.p v i HI.out.ho.rv (by have:=HNN.out; omega)).mono ?_
 rintro e1 w1 ⟨rfl,v1,ht⟩;have b:J _:=ht;clear ht;go_wp2_with fail;exact HR.out _ _ (HI.out.to b.o (sD ⟨i,rfl,rfl⟩) (fun _=>rfl))
theorem qu:cZ cC []:=by
 intro B N w0 W gb gh gx gr d v vn ao k ws ns R s HI HNN _ HNU HR h0 h1 h5 h10;replace h1:s 1=.string ⟨#[115,97,118,101]⟩:=h1
 rw[ck,h0,h1,h5,h10];clear h0 h1 h5 h10;have q0:=HI.out.ho.c0;have q1:=HI.out.ho.rv.box.c0;conv=>arg 2; whnf
 go_wp2_with fail;refine (na _ gr d.p v HI.out.ho.rv.doc (by have:=HI.out.ho.rv.ok.few; have:=HNN.out; omega) HI.out.ho.rv.ok.good.len HI.out.ho.rv.ok.left).mono ?_
 rintro e1 w1 ⟨rfl,hr1,hk1⟩;have b:J _:=RTo.keepK (N:=N) hr1 (bS (lD HI.out.ho.rv.ok) (by omega)) hk1
 clear hr1 hk1;go_wp2_with fail;exact HR.out _ _ (HI.out.to b.o (sE rfl) (fun _=>rfl))
theorem tu:cZ dS [true]:=by
 intro B N w0 W gb gh gx gr d v vn ao k ws ns R s HI HNN _ HNU HR h0 h1 h5 h10;replace h1:s 1=.string ⟨#[99,117,116]⟩:=h1
 rw[ck,h0,h1,h5,h10];clear h0 h1 h5 h10;have q0:=HI.out.ho.c0;have q1:=HI.out.ho.rv.box.c0;obtain⟨x,i,rfl,rfl⟩:=vc HNU.out;obtain⟨gn,cn,rfl,-⟩:=iV HI.out.nums;have c:J _:=CB HNU.out;conv=>arg 2; whnf
 go_upto_region 38 with fail;refine region_ (fun W'=>de B N w0 gb gh gx gr d v (.slice (o_ gn 0) 1 cn) ao k [x] [i] W') 7 (HI.out.on (E9 _ _).drew) fun hH=>?_;refine an [(0,p_ gx 0),(1,p_ gx 0),(2,p_ gx 0),(3,p_ gr 0),(4,.slice (o_ gn 0) 1 cn),(5,p_ gn 0),(6,.i_ i)] hH (fun W hW=>by have g:=hW.ho.rv.box.c0; have g:=tq hW.nums;go_simp) ?_;simp only[pA,oA,Act.put,pS1]
 have b:J _:=hH;clear hH;refine late_ 7 ?_; intro K hK; go_simp;go_at_call 41;refine (xZ _ gr d.p v i b.o.ho.rv.doc).mono ?_;rintro e1 w1 ⟨rfl,hr1,hk1⟩;have f:J _:=RTo.keepK (N:=N) hr1 (bS (zO b.o.ho.rv.ok i c.o) (by omega)) hk1
 clear hr1 hk1;refine hK.out _ _ ?_;clear hK K;refine done_ ?_;go_wp2_with fail;exact HR.out _ _ (b.o.to f.o (we ⟨i,rfl,rfl⟩) (fun _=>rfl))
theorem qv:cZ dd [true]:=by
 intro B N w0 W gb gh gx gr d v vn ao k ws ns R s HI HNN _ HNU HR h0 h1 h5 h10;replace h1:s 1=.string ⟨#[116,105,99,107]⟩:=h1
 rw[ck,h0,h1,h5,h10];clear h0 h1 h5 h10;have q0:=HI.out.ho.c0;have q1:=HI.out.ho.rv.box.c0;obtain⟨x,i,rfl,rfl⟩:=vc HNU.out;obtain⟨gn,cn,rfl,hn0⟩:=iV HI.out.nums;conv=>arg 2; whnf
 go_wp2_with fail;refine (uV N W gx gr d.r d.p v i HI.out.ho.rv (by have:=HNN.out; omega)).mono ?_
 rintro e1 w1 ⟨rfl,v1,ht⟩;have c:J _:=ht;have b:J _:=HI.out.ho.rv.to ht;clear ht;have r0:=b.o.box.c0;have r1:=b.o.doc.c0;have g:J _:=ti (eX d.p i).1.st.clock w1 b.o.ok.good.clock b.o.libs;go_wp2_with fail;refine Calls.mono g.o ?_;rintro e2 w2 ⟨rfl,hb⟩;have f:J _:=RTo.post c.o hb;clear hb;go_wp2_with fail;exact HR.out _ _ (HI.out.to f.o (sF ⟨i,rfl,rfl⟩) (fun _=>rfl))
theorem nJ:cZ bY []:=by
 intro B N w0 W gb gh gx gr d v vn ao k ws ns R s HI HNN _ HNU HR h0 h1 h5 h10;replace h1:s 1=.string ⟨#[115,119,101,101,112]⟩:=h1
 rw[ck,h0,h1,h5,h10];clear h0 h1 h5 h10;have q0:=HI.out.ho.c0;have q1:=HI.out.ho.rv.box.c0;conv=>arg 2; whnf
 go_wp2_with fail;refine (sZ N W gx gr d.r d.p v HI.out.ho.rv (by have:=HNN.out; omega)).mono ?_
 rintro e1 w1 ⟨rfl,v1,ht⟩;have b:J _:=ht;have f:J _:=ti (sweepM d.r d.p).2.1 w1 (ye HI.out.ho.rv.ok.good) (HI.out.ho.rv.to ht).libs;clear ht;go_wp2_with fail;refine Calls.mono f.o ?_;rintro e2 w2 ⟨rfl,hb⟩;have c:J _:=RTo.post b.o hb;clear hb;go_wp2_with fail;exact HR.out _ _ (HI.out.to c.o (oN rfl) (fun _=>rfl))
theorem nh:cZ bC []:=by
 intro B N w0 W gb gh gx gr d v vn ao k ws ns R s HI HNN _ HNU HR h0 b h5 h10;replace b:s 1=.string ⟨#[119,114,105,116,101,115]⟩:=b
 rw[ck,h0,b,h5,h10];clear h0 b h5 h10;have q0:=HI.out.ho.c0;have q1:=HI.out.ho.rv.box.c0;have r1:=HI.out.ho.rv.doc.c4;conv=>arg 2; whnf
 go_wp2_with fail;have f:J _:=ti (d.p.n:Int) W (by have b:=HI.out.ho.rv.ok.few; have h2:=HNN.out; exact⟨by omega,by omega⟩) HI.out.ho.rv.libs
 refine Calls.mono f.o ?_;rintro e2 w2 ⟨rfl,hb⟩;have c:J _:=hb;clear hb;go_wp2_with fail;exact HR.out _ _ (HI.out.same c.o (mX rfl) (fun _=>rfl))
end Go.Proofs.YtlailakofhenkabGreatDoor
