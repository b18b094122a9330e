import Derived.Test.YtlailakofhenkabGreatDoorB29
import Derived.Test.YtlailakofhenkabGreatDoorB31
set_option maxRecDepth 100000
namespace Go.Proofs.YtlailakofhenkabGreatDoor
open Go Go.RowKit Tok
def thrownE (n:Int):Ending:=.panicked [{ v:=.iface 47 (.int .i64 n),recovered:=false }]
def dkWordB (s:ByteArray):ByteArray:=if s.data.toList= [] then ⟨#[95]⟩ else s
def dkTextB (s:ByteArray):ByteArray:=if s.data.toList= [95] then ⟨#[]⟩ else s
theorem dkWordOf_is (s:ByteArray) (w:World):Calls Tryz.prog 301 #[.string s] w fun e w'=>e=.returned (.string (dkWordB s))∧w'=w:=by
 by_cases h:s.data.toList= []
 ·have he:s.toList.isEmpty=true:=by rw [ByteArray.toList_eq,h]; rfl
  have HW:Hid (dkWordB s=⟨#[95]⟩):=if_pos h;clear h;go_enter Tryz.func301,Tryz.ntmps301
  go_wp2_with fail
  go_ret;exact ⟨by rw [HW.out]; rfl,rfl⟩
 ·have he:s.toList.isEmpty=false:=by rw [ByteArray.toList_eq,List.isEmpty_eq_false_iff]; exact h
  have HW:Hid (dkWordB s=s):=if_neg h;clear h;go_enter Tryz.func301,Tryz.ntmps301
  go_wp2_with fail
  go_ret;exact ⟨by rw [HW.out]; rfl,rfl⟩
theorem dkTextOf_is (s:ByteArray) (w:World):Calls Tryz.prog 248 #[.string s] w fun e w'=>e=.returned (.string (dkTextB s))∧w'=w:=by
 by_cases h:s.data.toList= [95]
 ·obtain rfl:s=⟨#[95]⟩:=by
   obtain ⟨⟨l⟩⟩:=s;simp at h
   subst h; rfl
  have HW:Hid (dkTextB ⟨#[95]⟩=⟨#[]⟩):=rfl;clear h;go_enter Tryz.func248,Tryz.ntmps248
  go_wp2_with fail
  go_ret;exact ⟨by rw [HW.out]; rfl,rfl⟩
 ·have he:(s.toList == [95])=false:=by rw [ByteArray.toList_eq]; simpa using h
  have HW:Hid (dkTextB s=s):=if_neg h;clear h;go_enter Tryz.func248,Tryz.ntmps248
  go_wp2_with fail
  go_ret;exact ⟨by rw [HW.out]; rfl,rfl⟩
def dkKindB (s:ByteArray):Int:=if s.data.toList= [114] then 1 else if s.data.toList= [97] then 2 else 0
theorem isBlank_is (c:Int) (w:World):Calls Tryz.prog 155 #[.int .i32 c] w fun e w'=>e=.returned (.bool (decide (c=32)))∧w'=w:=by
 by_cases h:c=32
 ·subst h
  go_enter Tryz.func155,Tryz.ntmps155
  go_wp2_with fail
  go_ret;exact ⟨rfl,rfl⟩
 ·have he:(c == 32)=false:=by simp [h]
  have HW:Hid (decide (c=32)=false):=decide_eq_false h;clear h;go_enter Tryz.func155,Tryz.ntmps155
  go_wp2_with fail
  go_ret;exact ⟨by rw [HW.out]; rfl,rfl⟩
theorem errnoOf_is (n:Int) (w:World):Calls Tryz.prog 153 #[.iface 47 (.int .i64 n)] w fun e w'=>e=.returned (.int .i64 n)∧w'=w:=by
 have ta:∀ (v:Value) (w:World),(Instr.typeAssert (.iface 47 v) 20 47 true).run Tryz.prog w=.ok (.tuple #[v,.bool true]) w:=fun v w=>by kernel_rfl
 go_enter Tryz.func153,Tryz.ntmps153
 go_wp2_with fail
 go_ret;exact ⟨rfl,rfl⟩
theorem dkKindOf_is (s:ByteArray) (w:World):Calls Tryz.prog 302 #[.string s] w fun e w'=>(e=if dkKindB s=0 then thrownE 3 else .returned (.int .i64 (dkKindB s)))∧w'=w:=by
 by_cases h:s.data.toList= [114]
 ·obtain rfl:s=⟨#[114]⟩:=by
   obtain ⟨⟨l⟩⟩:=s;simp at h
   subst h; rfl
  clear h;go_enter Tryz.func302,Tryz.ntmps302
  go_wp2_with fail
  go_ret;exact ⟨rfl,rfl⟩
 ·by_cases h2:s.data.toList= [97]
  ·obtain rfl:s=⟨#[97]⟩:=by
    obtain ⟨⟨l⟩⟩:=s;simp at h2
    subst h2; rfl
   clear h h2;go_enter Tryz.func302,Tryz.ntmps302
   go_wp2_with fail
   go_ret;exact ⟨rfl,rfl⟩
  ·have he:(s.toList == [114])=false:=by rw [ByteArray.toList_eq]; simpa using h
   have he2:(s.toList == [97])=false:=by rw [ByteArray.toList_eq]; simpa using h2
   have HW:Hid (dkKindB s=0):=(if_neg h).trans (if_neg h2);clear h h2;go_enter Tryz.func302,Tryz.ntmps302
   go_wp2_with fail
   exact ⟨rfl,rfl,rfl⟩
theorem check_ok (w:World):Calls Tryz.prog 294 #[.nilIface] w fun e w'=>e=.returned (.tuple #[])∧w'=w:=by
 go_enter Tryz.func294,Tryz.ntmps294
 go_wp2_with fail
 go_end0
 exact ⟨rfl,rfl⟩
theorem check_no (n:Nat) (w:World) (hE:ErrVar w):Calls Tryz.prog 294 #[errQ (n+1)] w fun e w'=>e=thrownE (n+1:Nat)∧Below w.heap.size w w':=by
 rw [errQ_succ];have HT:Hid _:=tell_err (n+1:Nat) w hE;clear hE;go_enter Tryz.func294,Tryz.ntmps294
 go_wp2_with fail
 refine Calls.mono HT.out ?_;rintro e1 w1 ⟨rfl,hb1⟩;have HB:Hid _:=hb1;clear hb1;go_wp2_with fail
 exact ⟨rfl,rfl,HB.out⟩
theorem mustS_ok (x:ByteArray) (w:World):Calls Tryz.prog 295 #[.string x,.nilIface] w fun e w'=>e=.returned (.string x)∧w'=w:=by
 go_enter Tryz.func295,Tryz.ntmps295
 go_wp2_with fail
 refine (check_ok _).mono ?_;rintro e1 w1 ⟨rfl,rfl⟩;go_wp2_with fail
 go_ret;exact ⟨rfl,rfl⟩
theorem mustS_no (x:ByteArray) (n:Nat) (w:World) (hE:ErrVar w):Calls Tryz.prog 295 #[.string x,errQ (n+1)] w fun e w'=>e=thrownE (n+1:Nat)∧Below w.heap.size w w':=by
 have HC:Hid _:=check_no n w hE;clear hE;go_enter Tryz.func295,Tryz.ntmps295
 go_wp2_with fail
 refine Calls.mono HC.out ?_;rintro e1 w1 ⟨rfl,hb1⟩;unfold thrownE;have HB:Hid _:=hb1;clear hb1;go_wp2_with fail
 exact ⟨rfl,rfl,HB.out⟩
theorem mustI_ok (x:Int) (w:World):Calls Tryz.prog 298 #[.int .i64 x,.nilIface] w fun e w'=>e=.returned (.int .i64 x)∧w'=w:=by
 go_enter Tryz.func298,Tryz.ntmps298
 go_wp2_with fail
 refine (check_ok _).mono ?_;rintro e1 w1 ⟨rfl,rfl⟩;go_wp2_with fail
 go_ret;exact ⟨rfl,rfl⟩
theorem mustI_no (x:Int) (n:Nat) (w:World) (hE:ErrVar w):Calls Tryz.prog 298 #[.int .i64 x,errQ (n+1)] w fun e w'=>e=thrownE (n+1:Nat)∧Below w.heap.size w w':=by
 have HC:Hid _:=check_no n w hE;clear hE;go_enter Tryz.func298,Tryz.ntmps298
 go_wp2_with fail
 refine Calls.mono HC.out ?_;rintro e1 w1 ⟨rfl,hb1⟩;unfold thrownE;have HB:Hid _:=hb1;clear hb1;go_wp2_with fail
 exact ⟨rfl,rfl,HB.out⟩
theorem mustT_ok (x:Option Addr) (w:World):Calls Tryz.prog 225 #[.pointer x,.nilIface] w fun e w'=>e=.returned (.pointer x)∧w'=w:=by
 go_enter Tryz.func225,Tryz.ntmps225
 go_wp2_with fail
 refine (check_ok _).mono ?_;rintro e1 w1 ⟨rfl,rfl⟩;go_wp2_with fail
 go_ret;exact ⟨rfl,rfl⟩
theorem mustV_ok (x:Option Addr) (w:World):Calls Tryz.prog 226 #[.pointer x,.nilIface] w fun e w'=>e=.returned (.pointer x)∧w'=w:=by
 go_enter Tryz.func226,Tryz.ntmps226
 go_wp2_with fail
 refine (check_ok _).mono ?_;rintro e1 w1 ⟨rfl,rfl⟩;go_wp2_with fail
 go_ret;exact ⟨rfl,rfl⟩
theorem mustV_no (x:Option Addr) (n:Nat) (w:World) (hE:ErrVar w):Calls Tryz.prog 226 #[.pointer x,errQ (n+1)] w fun e w'=>e=thrownE (n+1:Nat)∧Below w.heap.size w w':=by
 have HC:Hid _:=check_no n w hE;clear hE;go_enter Tryz.func226,Tryz.ntmps226
 go_wp2_with fail
 refine Calls.mono HC.out ?_;rintro e1 w1 ⟨rfl,hb1⟩;unfold thrownE;have HB:Hid _:=hb1;clear hb1;go_wp2_with fail
 exact ⟨rfl,rfl,HB.out⟩
end Go.Proofs.YtlailakofhenkabGreatDoor
namespace Go.Proofs.YtlailakofhenkabGreatDoor.Ev
open Go.Lib Tok Sc
structure Dk where
 r:Rul
 p:Pub
def zeroP:Pub:=⟨⟨0,1,[]⟩,0,0,false,0,false⟩
def startDk:Dk:=⟨⟨1,20,100,5⟩,zeroP⟩
def wordsL (s:List UInt8):List Word:=(parts 32 s).filter (fun x=>decide (x≠ []))
def numW (w:Word):Option Int:=match atoiAll w with
 |.ok v=>if itoa v=w then some v else none
 |_=>none
def textW (w:Word):Word:=if w= [95] then [] else w
def numsW:List Bool→List Word→Option (List Int)
 |[],[]=>some []
 |false::f,_::ws=>numsW f ws
 |true::f,w::ws=>match numW w with
  |some n=>(numsW f ws).map (n::·)
  |none=>none
 |_,_=>none
def famL (f:Fam):List UInt8:=join ([itoa f.id,f.client.data.toList,f.subject.data.toList,wordL f.scope.data.toList,itoa f.gen,itoa f.made,itoa f.used,wordL f.request.data.toList] ++ if f.dead=true then [[100,101,97,100]] else []) [32]
def stateL (s:St):List UInt8:=join ((itoa s.clock ++ 32::itoa s.next)::s.fams.map famL) [44,32]
def boolL (b:Bool):List UInt8:=if b=true then [116,114,117,101] else [102,97,108,115,101]
def cCut:Word:= [99,117,116]
def cFams:Word:= [102,97,109,105,108,105,101,115]
def cGrant:Word:= [103,114,97,110,116]
def cHelp:Word:= [104,101,108,112]
def cKill:Word:= [107,105,108,108]
def cLeast:Word:= [108,101,97,115,116]
def cLog:Word:= [108,111,103]
def cMint:Word:= [109,105,110,116]
def cNew:Word:= [110,101,119]
def cOpen:Word:= [111,112,101,110]
def cRotate:Word:= [114,111,116,97,116,101]
def cSave:Word:= [115,97,118,101]
def cShow:Word:= [115,104,111,119]
def cSweep:Word:= [115,119,101,101,112]
def cTag:Word:= [116,97,103]
def cTick:Word:= [116,105,99,107]
def cToken:Word:= [116,111,107,101,110]
def cWrites:Word:= [119,114,105,116,101,115]
def helpL:List UInt8:=join [cCut,cFams,cGrant,cHelp,cKill,cLeast,cLog,cMint,cNew,cOpen,cRotate,cSave,cShow,cSweep,cTag,cTick,cToken,cWrites] [32]
def formOf (c:Word):Option (List Bool):=
 if c=cCut then some [true] else if c=cFams then some [] else if c=cGrant then some [false,false,false] else if c=cHelp then some [] else if c=cKill then some [true]
 else if c=cLeast then some [false] else if c=cLog then some [] else if c=cMint then some [false] else if c=cNew then some [true,true,true,true] else if c=cOpen then some []
 else if c=cRotate then some [false,false,false] else if c=cSave then some [] else if c=cShow then some [false] else if c=cSweep then some [] else if c=cTag then some [true,false]
 else if c=cTick then some [true] else if c=cToken then some [false,true,true,true] else if c=cWrites then some [] else none
def tagM (key:Int) (l:List UInt8):List UInt8:=Hex.hexsN 16 (Sip.sip (IntKind.u64.wrap key) (Sip.rl (IntKind.u64.wrap key) 32) l).toNat
def bs (l:List UInt8):ByteArray:=⟨l.toArray⟩
def txtW (r:Rul) (t:T):ByteArray:=bs (body t ++ 46::tagM r.key (body t))
def rightB (r:Rul):Bool:=okB r.key && (okB r.idle && (okB r.life && okB r.access))
def openD (d:Dk):Dk:=⟨d.r,openP d.p⟩
def pickT (p:Pub × ByteArray × Nat) (r:Rul):Dk × List UInt8 × Nat:=(⟨r,p.1⟩,p.2.1.data.toList,p.2.2)
def kindW (w:Word):Int:=if w= [114] then 1 else if w= [97] then 2 else 0
def DoesR (d:Dk) (c:Word) (ws:List Word) (ns:List Int) (o:Dk × List UInt8 × Nat):Prop:=
 if c=cNew then ∃ k i l a,ns= [k,i,l,a]∧o=(if rightB ⟨k,i,l,a⟩=true then (⟨⟨k,i,l,a⟩,zeroP⟩,cNew,0) else (d,[],2))
 else if c=cOpen then o=(openD d,cOpen,0)
 else if c=cGrant then ∃ x y z l n,ws= [x,y,z]∧Sc.Out (textW z) l n∧o=pickT (grantM (txtW d.r) d.p (nameB x && nameB y) (bs x) (bs y) (bs (joined l)) n) d.r
 else if c=cRotate then ∃ x y z t n l m b,ws= [x,y,z]∧Tok.Out (tagM d.r.key) x t n∧Sc.Out (textW z) l m∧(lookM d.r d.p.st 1 t n=0→m=0→WOut (joined l) (famM d.p.st t).scope.data.toList b 0)∧((lookM d.r d.p.st 1 t n≠0∨m≠0)→b=false)∧o=pickT (rotateM (txtW d.r) d.r d.p (nameB (textW y)) (bs (textW y)) t n (bs (joined l)) m b) d.r
 else if c=cMint then ∃ x t n,ws= [x]∧Tok.Out (tagM d.r.key) x t n∧o=(d,(mintM (txtW d.r) d.r d.p t n).1.data.toList,(mintM (txtW d.r) d.r d.p t n).2)
 else if c=cShow then ∃ x t n,ws= [x]∧Tok.Out (tagM d.r.key) x t n∧o=(d,famL (showM d.r d.p t n).1,(showM d.r d.p t n).2)
 else if c=cKill then ∃ i,ns= [i]∧o=(⟨d.r,(killM d.p i).1⟩,cKill,(killM d.p i).2)
 else if c=cSave then o=(⟨d.r,(saveP d.p).1⟩,cSave,(saveP d.p).2)
 else if c=cCut then ∃ i,ns= [i]∧o=(⟨d.r,cutP d.p i⟩,cCut,0)
 else if c=cTick then ∃ i,ns= [i]∧o=(⟨d.r,(tickM d.p i).1⟩,itoa (tickM d.p i).1.st.clock,(tickM d.p i).2)
 else if c=cSweep then o=(⟨d.r,(sweepM d.r d.p).1⟩,itoa (sweepM d.r d.p).2.1,(sweepM d.r d.p).2.2)
 else if c=cWrites then o=(d,itoa d.p.n,0)
 else if c=cLog then o=(d,itoa d.p.lg ++ 32::boolL d.p.dn,0)
 else if c=cFams then o=(d,stateL d.p.st,0)
 else if c=cLeast then ∃ x l n,ws= [x]∧Sc.Out (textW x) l n∧o=(d,wordL (joined l),n)
 else if c=cTag then ∃ i x y,ns= [i]∧ws= [x,y]∧o=(d,tagM i y,0)
 else if c=cToken then ∃ x a b e ys,ns= [a,b,e]∧ws=x::ys∧o=(if kindW x=0 then (d,[],3) else if mayB ⟨kindW x,a,b,e⟩=true then (d,(txtW d.r ⟨kindW x,a,b,e⟩).data.toList,0) else (d,[],1))
 else o=(d,helpL,0)
def errL (n:Nat):List UInt8:= [101,114,114,111,114,32] ++ itoa n
def told (o:Dk × List UInt8 × Nat):List UInt8:=if o.2.2=0 then o.2.1 else errL o.2.2
def LineR (d:Dk) (s:List UInt8) (d':Dk) (a:List UInt8):Prop:=match wordsL s with
 |[]=>d'=d∧a= [111,107]
 |c::ws=>match formOf c with
  |none=>d'=d∧a=errL 3
  |some f=>match numsW f ws with
   |none=>d'=d∧a=errL 3
   |some ns=>∃ o,DoesR d c ws ns o∧d'=o.1∧a=told o
def SessR:List (List UInt8)→Dk→List UInt8→Prop
 |[],_,o=>o= []
 |s::ls,d,o=>∃ d' a o',LineR d s d' a∧SessR ls d' o'∧o=a ++ 10::o'
def trimF (s:List UInt8):List UInt8:=if s.getLast?=some 10 then s.dropLast else s
def linesL (s:List UInt8):List (List UInt8):=parts 10 (trimF s)
def SessionR (s o:List UInt8):Prop:=if 20000<s.length then o=errL 4 ++ [10] else SessR (linesL s) startDk o
theorem does_inj {d:Dk} {c:Word} {ws:List Word} {ns:List Int} {o o':Dk × List UInt8 × Nat} (h:DoesR d c ws ns o) (h':DoesR d c ws ns o'):o=o':=by
 unfold DoesR at h h';by_cases e1:c=cNew
 ·rw [if_pos e1] at h h'
  obtain ⟨k,i,l,a,h1,h2⟩:=h;obtain ⟨k',i',l',a',h1',h2'⟩:=h';rw [h1] at h1';simp only [List.cons.injEq,and_true] at h1';obtain ⟨rfl,rfl,rfl,rfl⟩:=h1';rw [h2,h2']
 rw [if_neg e1] at h h';by_cases e2:c=cOpen
 ·rw [if_pos e2] at h h'; rw [h,h']
 rw [if_neg e2] at h h';by_cases e3:c=cGrant
 ·rw [if_pos e3] at h h'
  obtain ⟨x,y,z,l,n,h1,h2,h3⟩:=h;obtain ⟨x',y',z',l',n',h1',h2',h3'⟩:=h';rw [h1] at h1';simp only [List.cons.injEq,and_true] at h1';obtain ⟨rfl,rfl,rfl⟩:=h1';obtain ⟨rfl,rfl⟩:=Sc.out_inj h2 h2';rw [h3,h3']
 rw [if_neg e3] at h h';by_cases e4:c=cRotate
 ·rw [if_pos e4] at h h'
  obtain ⟨x,y,z,t,n,l,m,b,h1,h2,h3,h4,h5,h6⟩:=h;obtain ⟨x',y',z',t',n',l',m',b',h1',h2',h3',h4',h5',h6'⟩:=h';rw [h1] at h1';simp only [List.cons.injEq,and_true] at h1';obtain ⟨rfl,rfl,rfl⟩:=h1';obtain ⟨rfl,rfl⟩:=Tok.out_inj h2 h2';obtain ⟨rfl,rfl⟩:=Sc.out_inj h3 h3'
  have hb:b=b':=by
   by_cases q1:lookM d.r d.p.st 1 t n=0
   ·by_cases q2:m=0
    ·exact (wout_inj (h4 q1 q2) (h4' q1 q2)).1
    ·rw [h5 (.inr q2),h5' (.inr q2)]
   ·rw [h5 (.inl q1),h5' (.inl q1)]
  subst hb;rw [h6,h6']
 rw [if_neg e4] at h h';by_cases e5:c=cMint
 ·rw [if_pos e5] at h h'
  obtain ⟨x,t,n,h1,h2,h3⟩:=h;obtain ⟨x',t',n',h1',h2',h3'⟩:=h';rw [h1] at h1';simp only [List.cons.injEq,and_true] at h1';obtain rfl:=h1';obtain ⟨rfl,rfl⟩:=Tok.out_inj h2 h2';rw [h3,h3']
 rw [if_neg e5] at h h';by_cases e6:c=cShow
 ·rw [if_pos e6] at h h'
  obtain ⟨x,t,n,h1,h2,h3⟩:=h;obtain ⟨x',t',n',h1',h2',h3'⟩:=h';rw [h1] at h1';simp only [List.cons.injEq,and_true] at h1';obtain rfl:=h1';obtain ⟨rfl,rfl⟩:=Tok.out_inj h2 h2';rw [h3,h3']
 rw [if_neg e6] at h h';by_cases e7:c=cKill
 ·rw [if_pos e7] at h h'
  obtain ⟨i,h1,h2⟩:=h;obtain ⟨i',h1',h2'⟩:=h';rw [h1] at h1';simp only [List.cons.injEq,and_true] at h1';obtain rfl:=h1';rw [h2,h2']
 rw [if_neg e7] at h h';by_cases e8:c=cSave
 ·rw [if_pos e8] at h h'; rw [h,h']
 rw [if_neg e8] at h h';by_cases e9:c=cCut
 ·rw [if_pos e9] at h h'
  obtain ⟨i,h1,h2⟩:=h;obtain ⟨i',h1',h2'⟩:=h';rw [h1] at h1';simp only [List.cons.injEq,and_true] at h1';obtain rfl:=h1';rw [h2,h2']
 rw [if_neg e9] at h h';by_cases e10:c=cTick
 ·rw [if_pos e10] at h h'
  obtain ⟨i,h1,h2⟩:=h;obtain ⟨i',h1',h2'⟩:=h';rw [h1] at h1';simp only [List.cons.injEq,and_true] at h1';obtain rfl:=h1';rw [h2,h2']
 rw [if_neg e10] at h h';by_cases e11:c=cSweep
 ·rw [if_pos e11] at h h'; rw [h,h']
 rw [if_neg e11] at h h';by_cases e12:c=cWrites
 ·rw [if_pos e12] at h h'; rw [h,h']
 rw [if_neg e12] at h h';by_cases e13:c=cLog
 ·rw [if_pos e13] at h h'; rw [h,h']
 rw [if_neg e13] at h h';by_cases e14:c=cFams
 ·rw [if_pos e14] at h h'; rw [h,h']
 rw [if_neg e14] at h h';by_cases e15:c=cLeast
 ·rw [if_pos e15] at h h'
  obtain ⟨x,l,n,h1,h2,h3⟩:=h;obtain ⟨x',l',n',h1',h2',h3'⟩:=h';rw [h1] at h1';simp only [List.cons.injEq,and_true] at h1';obtain rfl:=h1';obtain ⟨rfl,rfl⟩:=Sc.out_inj h2 h2';rw [h3,h3']
 rw [if_neg e15] at h h';by_cases e16:c=cTag
 ·rw [if_pos e16] at h h'
  obtain ⟨i,x,y,h1,h2,h3⟩:=h;obtain ⟨i',x',y',h1',h2',h3'⟩:=h';rw [h1] at h1';rw [h2] at h2';simp only [List.cons.injEq,and_true] at h1' h2';obtain rfl:=h1';obtain ⟨rfl,rfl⟩:=h2';rw [h3,h3']
 rw [if_neg e16] at h h';by_cases e17:c=cToken
 ·rw [if_pos e17] at h h'
  obtain ⟨x,a,b,e,ys,h1,h2,h3⟩:=h;obtain ⟨x',a',b',e',ys',h1',h2',h3'⟩:=h';rw [h1] at h1';rw [h2] at h2';simp only [List.cons.injEq,and_true] at h1' h2';obtain ⟨rfl,rfl,rfl⟩:=h1';obtain ⟨rfl,rfl⟩:=h2';rw [h3,h3']
 rw [if_neg e17] at h h';rw [h,h']
theorem answer_inj {d:Dk} {s:List UInt8} {d1 d2:Dk} {a1 a2:List UInt8} (h:LineR d s d1 a1) (h':LineR d s d2 a2):d1=d2∧a1=a2:=by
 unfold LineR at h h';split at h
 ·rename_i h0
  rw [h0] at h';exact ⟨h.1.trans h'.1.symm,h.2.trans h'.2.symm⟩
 ·rename_i h0
  rw [h0] at h';simp only at h';split at h
  ·rename_i h1
   rw [h1] at h';exact ⟨h.1.trans h'.1.symm,h.2.trans h'.2.symm⟩
  ·rename_i h1
   rw [h1] at h';simp only at h';split at h
   ·rename_i h2
    rw [h2] at h';exact ⟨h.1.trans h'.1.symm,h.2.trans h'.2.symm⟩
   ·rename_i h2
    rw [h2] at h';obtain ⟨o,g1,rfl,rfl⟩:=h;obtain ⟨o',g1',rfl,rfl⟩:=h';obtain rfl:=does_inj g1 g1';exact ⟨rfl,rfl⟩
theorem sess_inj:∀ (ls:List (List UInt8)) (d:Dk) (o o':List UInt8),SessR ls d o→SessR ls d o'→o=o'
 |[],_,_,_,h,h'=>Eq.trans h (Eq.symm h')
 |s::ls,d,o,o',h,h'=>by
  obtain ⟨d1,a1,o1,h1,h2,rfl⟩:=h;obtain ⟨d2,a2,o2,h1',h2',rfl⟩:=h';obtain ⟨rfl,rfl⟩:=answer_inj h1 h1';rw [sess_inj ls d1 o1 o2 h2 h2']
theorem session_inj {s o o':List UInt8} (h:SessionR s o) (h':SessionR s o'):o=o':=by
 unfold SessionR at h h';split at h
 ·rename_i hl; rw [if_pos hl] at h'; rw [h,h']
 ·rename_i hl; rw [if_neg hl] at h'; exact sess_inj _ _ _ _ h h'
theorem sess_app:∀ (ls ms:List (List UInt8)) (d:Dk) (o o':List UInt8),SessR ls d o→SessR (ls ++ ms) d o'→∃ z,o'=o ++ z
 |[],ms,d,o,o',h,_=>⟨o',by rw [show o= [] from h]; rfl⟩
 |s::ls,ms,d,o,o',h,h'=>by
  obtain ⟨d1,a1,o1,h1,h2,rfl⟩:=h;obtain ⟨d2,a2,o2,h1',h2',rfl⟩:=h';obtain ⟨rfl,rfl⟩:=answer_inj h1 h1';obtain ⟨z,rfl⟩:=sess_app ls ms d1 o1 o2 h2 h2';exact ⟨z,by simp⟩
theorem trim_feed (a:List UInt8):trimF (a ++ [10])=a:=by
 unfold trimF;rw [if_pos (by simp)]
 simp
theorem parts_app {c:UInt8}:∀ (n:Nat) (a b:List UInt8),a.length≤n→parts c (a ++ c::b)=parts c a ++ parts c b
 |n,a,b,hn=>by
  by_cases hc:c∈a
  ·obtain ⟨x,y,rfl,hx⟩:=List.append_of_mem hc |>.elim fun x h=>h.elim fun y h=>(List.eq_append_cons_of_mem hc).elim fun x h=>h.elim fun y h=>(⟨x,y,h.1,h.2⟩:∃ x y,a=x ++ c::y∧c∉x)
   cases n with
   |zero=>simp at hn
   |succ n=>
    rw [List.append_assoc,List.cons_append,parts_at _ hx,parts_app n y b (by simp at hn; omega),parts_at _ hx,List.cons_append]
  ·rw [parts_at _ hc,parts_no hc]
   rfl
theorem lines_app (a b:List UInt8):∃ ms,linesL (a ++ 10::b)=linesL (a ++ [10]) ++ ms:=by
 unfold linesL;rw [trim_feed];by_cases hb:b= []
 ·subst hb
  rw [trim_feed];exact ⟨[],by simp⟩
 ·refine ⟨parts 10 (trimF b),?_⟩
  have e:trimF (a ++ 10::b)=a ++ 10::trimF b:=by
   unfold trimF
   have h1:(a ++ 10::b).getLast?=b.getLast?:=by
    rw [List.getLast?_append,List.getLast?_cons]
    cases h:b.getLast? with
    |none=>exact absurd (List.getLast?_eq_none_iff.1 h) hb
    |some x=>simp
   rw [h1];split
   ·rw [List.dropLast_append_of_ne_nil (by simp),List.dropLast_cons_of_ne_nil hb]
   ·rfl
  rw [e];exact parts_app _ a (trimF b) (Nat.le_refl _)
end Go.Proofs.YtlailakofhenkabGreatDoor.Ev
namespace Go.Proofs.YtlailakofhenkabGreatDoor
open Go Go.RowKit Tok Sc Ev
theorem itoaR_is (n:Int) (w:World) (h0:-9223372036854775808≤n) (h1:n≤9223372036854775807) (hL:LibsR w):Calls Tryz.prog 57 #[.int .i64 n] w fun e w'=>e=.returned (.string ⟨(Lib.itoa n).toArray⟩)∧Below w.heap.size w w':=by
 refine (Tryz.strconv_Itoa n h0 h1 w hL.base.pow).mono ?_
 rintro e w' ⟨rfl,k,os,rfl⟩;exact ⟨rfl,belowGrownE w k os⟩
theorem numW_some {x:Word} {v:Int} (h:numW x=some v):Lib.atoiAll x=.ok v∧Lib.itoa v=x:=by
 unfold numW at h;split at h
 ·rename_i v' hv
  split at h
  ·rename_i he
   injection h with h;subst h;exact ⟨hv,he⟩
  ·cases h
 ·cases h
theorem numW_none {x:Word} (h:numW x=none):(∀ v,Lib.atoiAll x≠.ok v)∨∃ v,Lib.atoiAll x=.ok v∧Lib.itoa v≠x:=by
 by_cases hv:∃ v,Lib.atoiAll x=.ok v
 ·obtain ⟨v,hv⟩:=hv
  refine .inr ⟨v,hv,fun he=>?_⟩;unfold numW at h;rw [hv] at h;simp only [he,if_true] at h
  cases h
 ·exact .inl (fun v h'=>hv ⟨v,h'⟩)
theorem numberOf_yes (s:ByteArray) (v:Int) (w:World) (hs:s.size≤10000) (hL:LibsR w) (h:numW s.data.toList=some v):Calls Tryz.prog 249 #[.string s] w fun e w'=>e=.returned (.int .i64 v)∧Below w.heap.size w w':=by
 obtain ⟨h1,h2⟩:=numW_some h;obtain ⟨b1,b2⟩:=Lib.atoiAll_bounds h1;have HA:Hid _:=atoi_yes s v w hs h1;have HI:=fun (W:World) (hW:LibsR W)=>itoaR_is v W b1 b2 hW;rw [show (⟨(Lib.itoa v).toArray⟩:ByteArray)=s from by rw [h2]] at HI
 have HL:Hid (LibsR w):=hL;clear h h1 h2 b1 b2 hs hL;go_enter Tryz.func249,Tryz.ntmps249
 go_wp2_with fail
 refine Calls.mono HA.out ?_;rintro e1 w1 ⟨rfl,hb1⟩;have HB1:Hid _:=hb1;clear hb1;go_wp2_with fail
 refine (HI _ (HL.out.below HB1.out rfl)).mono ?_;rintro e2 w2 ⟨rfl,hb2⟩;have HB2:Hid (Below w.heap.size w w2):=HB1.out.trans (hb2.mono HB1.out.size);clear hb2;go_wp2_with fail
 go_ret;exact ⟨rfl,HB2.out⟩
theorem numberOf_no (s:ByteArray) (w:World) (hs:s.size≤10000) (hL:LibsR w) (h:numW s.data.toList=none):Calls Tryz.prog 249 #[.string s] w fun e w'=>e=thrownE 3∧Below w.heap.size w w':=by
 rcases numW_none h with h1 | ⟨v,h1,h2⟩
 ·have HA:Hid _:=atoi_no s w hs hL h1
  clear h h1 hs hL;go_enter Tryz.func249,Tryz.ntmps249
  go_wp2_with fail
  refine Calls.mono HA.out ?_;rintro e1 w1 ⟨v,te,pe,rfl,hb1⟩;have HB1:Hid _:=hb1;clear hb1;go_wp2_with fail
  exact ⟨rfl,rfl,HB1.out⟩
 ·obtain ⟨b1,b2⟩:=Lib.atoiAll_bounds h1
  have HA:Hid _:=atoi_yes s v w hs h1;have HI:=fun (W:World) (hW:LibsR W)=>itoaR_is v W b1 b2 hW;have HL:Hid (LibsR w):=hL
  have hne:(((⟨(Lib.itoa v).toArray⟩:ByteArray)).toList == s.toList)=false:=by
   rw [ByteArray.toList_eq,ByteArray.toList_eq];simpa using h2
  generalize (⟨(Lib.itoa v).toArray⟩:ByteArray)=u at *;clear h h1 h2 b1 b2 hs hL;go_enter Tryz.func249,Tryz.ntmps249
  go_wp2_with fail
  refine Calls.mono HA.out ?_;rintro e1 w1 ⟨rfl,hb1⟩;have HB1:Hid _:=hb1;clear hb1;go_wp2_with fail
  refine (HI _ (HL.out.below HB1.out rfl)).mono ?_;rintro e2 w2 ⟨rfl,hb2⟩;have HB2:Hid (Below w.heap.size w w2):=HB1.out.trans (hb2.mono HB1.out.size);clear hb2;go_wp2_with fail
  exact ⟨rfl,rfl,HB2.out⟩
end Go.Proofs.YtlailakofhenkabGreatDoor
namespace Go.Proofs.YtlailakofhenkabGreatDoor.Ev
open Go Go.Lib Tok Sc
theorem decN_facts (n b0 b1 b2 b3:Nat) (hn:1≤n):(b0=32∧decodeN n b0 b1 b2 b3=(32,1))∨(b0≠32∧(decodeN n b0 b1 b2 b3).1≠32∧1≤(decodeN n b0 b1 b2 b3).2∧(decodeN n b0 b1 b2 b3).2≤n∧(decodeN n b0 b1 b2 b3).2≤4∧(1<(decodeN n b0 b1 b2 b3).2→b1≠32)∧(2<(decodeN n b0 b1 b2 b3).2→b2≠32)∧(3<(decodeN n b0 b1 b2 b3).2→b3≠32)):=by
 by_cases h:b0=32
 ·subst h
  exact .inl ⟨rfl,by simp [decodeN]⟩
 ·refine .inr ⟨h,?_⟩
  unfold decodeN;repeat' split
  all_goals (simp only; omega)
def fldB:List UInt8→List UInt8→List (List UInt8)
 |cur,[]=>if cur= [] then [] else [cur]
 |cur,b::t=>if b=32 then (if cur= [] then fldB [] t else cur::fldB [] t) else fldB (cur ++ [b]) t
theorem fldB_skip:∀ (x cur y:List UInt8),(∀ b∈x,b≠32)→fldB cur (x ++ y)=fldB (cur ++ x) y
 |[],cur,y,_=>by simp
 |b::x,cur,y,h=>by
  rw [List.cons_append,fldB,if_neg (h b (by simp)),fldB_skip x _ y (fun c hc=>h c (by simp [hc]))]
  simp
theorem fldB_words:∀ (l cur:List UInt8),(32:UInt8)∉cur→fldB cur l=wordsL (cur ++ l)
 |[],cur,h=>by
  unfold wordsL;rw [List.append_nil,parts_no h,fldB];by_cases hc:cur= []
  ·subst hc; simp
  ·simp [hc]
 |b::t,cur,h=>by
  rw [fldB];by_cases hb:b=32
  ·subst hb
   have e:wordsL (cur ++ 32::t)=(if cur= [] then wordsL t else cur::wordsL t):=by
    unfold wordsL;rw [parts_at t h];by_cases hc:cur= []
    ·subst hc; simp
    ·simp [hc]
   rw [e,if_pos rfl,fldB_words t [] (by simp),List.nil_append]
  ·rw [if_neg hb,fldB_words t (cur ++ [b]) (by simp [h]; exact fun e=>hb e.symm)]
   simp
def curOf (L:List UInt8) (st:Option Nat) (pos:Nat):List UInt8:=match st with
 |none=> []
 |some a=>(L.drop a).take (pos - a)
theorem extB (s:ByteArray) (i j:Nat):(s.extract i j).data.toList=(s.data.toList.drop i).take (j - i):=by
 simp
theorem drop_take_app (L:List UInt8) (a pos k:Nat) (h:a≤pos):(L.drop a).take (pos+k - a)=(L.drop a).take (pos - a) ++ (L.drop pos).take k:=by
 rw [show pos+k - a=(pos - a)+k by omega,List.take_add,List.drop_drop,show a+(pos - a)=pos by omega]
theorem spans_fld (s:ByteArray):∀ (f pos:Nat) (st:Option Nat) (acc:List (Nat × Nat)),s.size - pos≤f→pos≤s.size→(∀ a,st=some a→a<pos)→
 (closeSpans s (spansFromP (fun r=>decide (r=32)) s f pos st acc)).map (fun x=>(s.extract x.1 x.2).data.toList)=acc.map (fun x=>(s.extract x.1 x.2).data.toList) ++ fldB (curOf s.data.toList st pos) (s.data.toList.drop pos)
 |f,pos,st,acc,hf,hp,hst=>by
  have hlen:s.data.toList.length=s.size:=Array.length_toList;by_cases hlt:pos<s.size
  ·cases f with
   |zero=>omega
   |succ f=>
    unfold spansFromP;rw [if_pos hlt];have hd:=decode_N s pos;have hcons:s.data.toList.drop pos=s.data.toList[pos]'(by omega)::s.data.toList.drop (pos+1):=List.drop_eq_getElem_cons (by omega)
    have g0:s.data.toList.getD pos 0=s.data.toList[pos]'(by omega):=by simp [List.getD,List.getElem?_eq_getElem (show pos<s.data.toList.length by omega)]
    rcases decN_facts (s.data.toList.length - pos) (s.data.toList.getD pos 0).toNat (s.data.toList.getD (pos+1) 0).toNat (s.data.toList.getD (pos+2) 0).toNat (s.data.toList.getD (pos+3) 0).toNat (by omega) with ⟨h1,h2⟩ | ⟨h0,h1,h2,h3,h4,h5,h6,h7⟩
    ·rw [← hd] at h2
     have hb:s.data.toList[pos]'(by omega)=32:=by rw [← g0]; exact UInt8.toNat.inj h1
     rw [h2];simp only [decide_true,if_true]
     cases st with
     |some a=>
      simp only;rw [spans_fld s f (pos+1) none _ (by omega) (by omega) (fun a h=>by cases h),hcons,hb,fldB,if_pos rfl]
      have ha:=hst a rfl
      have hne:curOf s.data.toList (some a) pos≠ []:=by
       intro h
       have:=congrArg List.length h;simp only [curOf,List.length_take,List.length_drop,List.length_nil] at this;omega
      rw [if_neg hne];simp only [List.map_append,List.map_cons,List.map_nil,List.append_assoc,List.singleton_append,curOf];rw [extB]
     |none=>
      simp only;rw [spans_fld s f (pos+1) none _ (by omega) (by omega) (fun a h=>by cases h),hcons,hb,fldB,if_pos rfl,if_pos (show curOf s.data.toList none pos= [] from rfl)]
      rfl
    ·rw [← hd] at h1 h2 h3 h4 h5 h6 h7
     have hx:∀ b∈(s.data.toList.drop pos).take (Utf8.decode s pos).2,b≠32:=by
      intro b hb;obtain ⟨j,hj,rfl⟩:=List.mem_iff_getElem.1 hb;simp only [List.length_take,List.length_drop] at hj;rw [List.getElem_take,List.getElem_drop];have gj:s.data.toList.getD (pos+j) 0=s.data.toList[pos+j]'(by omega):=by simp [List.getD,List.getElem?_eq_getElem (show pos+j<s.data.toList.length by omega)]
      rw [← gj];intro e;have e2:(s.data.toList.getD (pos+j) 0).toNat=32:=by rw [e]; rfl
      have hj4:j=0∨j=1∨j=2∨j=3:=by omega
      rcases hj4 with rfl | rfl | rfl | rfl
      ·exact h0 e2
      ·exact h5 (by omega) e2
      ·exact h6 (by omega) e2
      ·exact h7 (by omega) e2
     have hsplit:s.data.toList.drop pos=(s.data.toList.drop pos).take (Utf8.decode s pos).2 ++ s.data.toList.drop (pos+(Utf8.decode s pos).2):=by
      rw [← List.drop_drop,List.take_append_drop]
     have hp2:decide ((Utf8.decode s pos).1=32)=false:=decide_eq_false h1;rw [hp2];simp only [Bool.false_eq_true,if_false]
     cases st with
     |some a=>
      simp only;have ha:=hst a rfl;rw [spans_fld s f _ (some a) _ (by omega) (by omega) (fun b h=>by cases h; omega)]
      congr 1
      rw [hsplit,fldB_skip _ _ _ hx];congr 1
      exact drop_take_app s.data.toList a pos _ (by omega)
     |none=>
      simp only;rw [spans_fld s f _ (some pos) _ (by omega) (by omega) (fun b h=>by cases h; omega)]
      congr 1
      rw [hsplit,fldB_skip _ _ _ hx];congr 1
      simp [curOf]
  ·obtain rfl:pos=s.size:=by omega
   rw [spansFromP_end _ _ _ _ _ _ hlt];have hd0:s.data.toList.drop s.size= []:=List.drop_eq_nil_of_le (by omega)
   rw [hd0,fldB]
   cases st with
   |none=>simp [closeSpans,curOf]
   |some a=>
    have ha:=hst a rfl
    have hne:curOf s.data.toList (some a) s.size≠ []:=by
     intro h
     have:=congrArg List.length h;simp only [curOf,List.length_take,List.length_drop,List.length_nil] at this;omega
    rw [if_neg hne];simp only [closeSpans,List.map_append,List.map_cons,List.map_nil,curOf];rw [extB]
theorem fields_words (s:ByteArray):(goFieldsP (fun r=>decide (r=32)) s).map (·.data.toList)=wordsL s.data.toList:=by
 unfold goFieldsP spansOfP;rw [List.map_map];have h:=spans_fld s s.size 0 none [] (by omega) (by omega) (fun a h=>by cases h)
 have e:((fun x:ByteArray=>x.data.toList)∘fun x:Nat × Nat=>s.extract x.1 x.2)=fun x=>(s.extract x.1 x.2).data.toList:=rfl;rw [e,h];simp only [List.map_nil,List.nil_append,curOf,List.drop_zero];rw [fldB_words _ [] (by simp),List.nil_append]
end Go.Proofs.YtlailakofhenkabGreatDoor.Ev
namespace Go.Proofs.YtlailakofhenkabGreatDoor
open Go Go.RowKit Go.Shelf Tok Sc Ev
theorem blankAt (w:World):PredAtRunes Tryz.prog 155 #[] (fun r=>decide (r=32)) w:=by
 intro W x hx hb;unfold FnGives;refine (isBlank_is (x:Int) W).mono ?_;rintro e w' ⟨rfl,rfl⟩;refine ⟨?_,0,rfl⟩;congr 2
 by_cases h:x=32
 ·subst h; rfl
 ·have h2:¬ (x:Int)=32:=by omega
  show decide ((x:Int)=32)=decide (x=32)
  rw [decide_eq_false h,decide_eq_false h2]
theorem rowAt_owned {B:Nat} {w:World} {e:TypeId} {A c n:Nat} {cs:List Value} (h:w.ownsRow B e 1 (.slice (some ⟨A,0,none⟩) n c) n cs):RowAt B w A c n cs:=by
 have hown:=h;rcases h.2 with ⟨hv,h0⟩ | ⟨g',cc,cur,hv,hge,hh,hle,hmx,hsz,htk⟩
 ·cases hv
 ·simp only [Value.slice.injEq,Option.some.injEq,Addr.mk.injEq,and_true,true_and] at hv
  obtain ⟨rfl,rfl⟩:=hv
  have hlt:A<w.heap.size:=by
   rcases Nat.lt_or_ge A w.heap.size with h | h
   ·exact h
   ·rw [Array.getElem?_eq_none h] at hh; cases hh
  refine ⟨hge,hlt,?_,hle,hmx,fun j v hj=>?_,fun j hj=>?_⟩
  ·have h1:=hown.1
   omega
  ·have hj2:=hown.cells (g:=A) rfl j v hj
   rw [Addr.add_lit,Nat.zero_add] at hj2; exact hj2
  ·have hjc:j<cur.size:=by omega
   simp [World.cell?,World.frozen?,hh,hjc]
theorem fields_is (s:ByteArray) (w:World) (hs:s.size≤30000):Calls Tryz.prog 154 #[.string s,.func (.func 155) #[] #[]] w fun e w'=>∃ v,e=.returned v∧Words w.heap.size w' v ((wordsL s.data.toList).map Ev.bs)∧Below w.heap.size w w':=by
 refine (Tryz.strings_FieldsFunc_runes 155 #[] (enters_of Tryz.func155 (by kernel_rfl) rfl) _ s w (by omega) (blankAt w)).mono ?_
 rintro e w' ⟨a,rfl,ha,hr,hb⟩
 have hx:Lib.goFieldsP (fun r=>decide (r=32)) s=(wordsL s.data.toList).map Ev.bs:=by
  rw [← fields_words,List.map_map];refine (List.map_id _).symm.trans (List.map_congr_left fun x _=>?_);show x=Ev.bs x.data.toList
  unfold Ev.bs;simp
 rw [hx] at hr;rw [hx];exact ⟨_,rfl,.inr ⟨a,_,rfl,rowAt_owned hr⟩,hb⟩
end Go.Proofs.YtlailakofhenkabGreatDoor
