import Derived.Stop.Asserts
import Derived.Test.YtlailakofhenkabGreatDoorB9
set_option maxRecDepth 100000
set_option maxHeartbeats 8000000
namespace Go.Proofs.YtlailakofhenkabGreatDoor
open Go.RowKit Go.Extern.Stop Go.Stop Go.Extern Tryz
namespace ErrAs
theorem valueOfPE(t:Addr)(w:World):(ReflectliteValue.unpack (.iface 123 (.pointer (some t)))).run prog w
 = .ok (.agg #[.pointer (some ⟨10,123,none⟩),.pointer (some ⟨w.heap.size,0,none⟩),.int .u64 150]) (w.alloc (.cells #[.pointer (some t)] 123)):=by kernel_rfl
theorem typePE(a : Addr)(w : World): (ReflectliteValue.methodAny (ReflectliteValue.valueError "reflectlite.Value.Type" 0) (fun t _ _ _ => ReflectliteType.toType t) #[.agg #[.pointer (some ⟨10, 123, none⟩), .pointer (some a), .int .u64 150]]).run prog w
 = .ok (.iface 283 (.agg #[.pointer (some ⟨10,123,none⟩)])) w:=by kernel_rfl
theorem kindPE(w:World):((ReflectliteType.abiMethod fun t=>Functor.map (fun a:Nat=>Value.int IntKind.u8 (a:Int)) (Rtype.kind t)) #[.pointer (some ⟨10,123,none⟩)]).run prog w=.ok (.int .u8 22) w:=by kernel_rfl
theorem kindE(w:World):((ReflectliteType.abiMethod fun t=>Functor.map (fun a:Nat=>Value.int IntKind.u8 (a:Int)) (Rtype.kind t)) #[.pointer (some ⟨10,47,none⟩)]).run prog w=.ok (.int .u8 2) w:=by kernel_rfl
theorem rlm(z:Sem Value)(f:TypeId->Addr->Nat->Nat->Sem Value)(v:Value):
 ReflectliteValue.method z f #[v]=(do match <- ReflectliteValue.parts v with | none=>z | some (t,a,fl)=>f t a fl (fl % 32)):=rfl
theorem vE(a:Addr)(w:World):(ReflectliteValue.parts (.agg #[.pointer (some ⟨10,123,none⟩),.pointer (some a),.int .u64 150])).run prog w=.ok (some (123,a,150)) w:=by kernel_rfl
theorem isNilPE(a p:Addr)(W:World)(ha:W.cell? a=some (.pointer (some p))):
 (ReflectliteValue.method (ReflectliteValue.valueError "reflectlite.Value.IsNil" 0) ReflectliteValue.isNil #[.agg #[.pointer (some ⟨10, 123, none⟩), .pointer (some a), .int .u64 150]]).run prog W = .ok (.bool false) W := by
 rw[rlm];simp only[Sem.run_bind,vE,Result.andThen];simp[ReflectliteValue.isNil,loadVar,isAgg,underlying,underlying123,ha,Result.andThen]
theorem methodKind(h : Value)(w : World): (Go.method 552 283 (.agg #[h]) "Kind").run prog w = .ok (401, h) w := by kernel_rfl
theorem methodElem(h : Value)(w : World): (Go.method 552 283 (.agg #[h]) "Elem").run prog w = .ok (414, .agg #[h]) w := by kernel_rfl
theorem methodImplements(h : Value)(w : World): (Go.method 552 283 (.agg #[h]) "Implements").run prog w = .ok (415, .agg #[h]) w := by kernel_rfl
theorem methodAssignableTo(h : Value)(w : World): (Go.method 552 283 (.agg #[h]) "AssignableTo").run prog w = .ok (412, .agg #[h]) w := by kernel_rfl
theorem elemPE(w:World):(ReflectliteType.method ReflectliteType.elem #[.agg #[.pointer (some ⟨10,123,none⟩)]]).run prog w=.ok (.iface 283 (.agg #[.pointer (some ⟨10,47,none⟩)])) w:=by kernel_rfl
theorem implementsE(w : World): (ReflectliteType.relation "Implements" ReflectliteType.implements_ #[.agg #[.pointer (some ⟨10, 47, none⟩)], .iface 283 (.agg #[.pointer (some ⟨10, 31, none⟩)])]).run prog w = .ok (.bool true) w := by kernel_rfl
theorem typeOfE(v:Value)(w:World):(ReflectliteType.typeOf #[.iface 47 v]).run prog w=.ok (.iface 283 (.agg #[.pointer (some ⟨10,47,none⟩)])) w:=by kernel_rfl
theorem assignableE(w : World): (ReflectliteType.relation "AssignableTo" ReflectliteType.assignableTo #[.agg #[.pointer (some ⟨10, 47, none⟩)], .iface 283 (.agg #[.pointer (some ⟨10, 47, none⟩)])]).run prog w = .ok (.bool true) w := by kernel_rfl
theorem valueOfE(n:Int)(w:World):(ReflectliteValue.unpack (.iface 47 (.int .i64 n))).run prog w
 = .ok (.agg #[.pointer (some ⟨10,47,none⟩),.pointer (some ⟨w.heap.size,0,none⟩),.int .u64 130]) (w.alloc (.cells #[.int .i64 n] 47)):=by kernel_rfl
theorem zx(w:World):(Rtype.elem? 123).run prog w=.ok (some 47) w:=by kernel_rfl
theorem mkE(p:Addr)(w:World):(ReflectliteValue.mk 47 p ReflectliteValue.flagAddr).run prog w=.ok (.agg #[.pointer (some ⟨10,47,none⟩),.pointer (some p),.int .u64 386]) w:=by kernel_rfl
theorem elemVPE(a p:Addr)(W:World)(ha:W.cell? a=some (.pointer (some p))):
 (ReflectliteValue.method (ReflectliteValue.valueError "reflectlite.Value.Elem" 0) ReflectliteValue.elem #[.agg #[.pointer (some ⟨10, 123, none⟩), .pointer (some a), .int .u64 150]]).run prog W
  = .ok (.agg #[.pointer (some ⟨10,47,none⟩),.pointer (some p),.int .u64 386]) W:=by
 rw[rlm];simp only[Sem.run_bind,vE,Result.andThen];simp[ReflectliteValue.elem,loadVar,isAgg,underlying,underlying123,ha,Result.andThen,zx,mkE]
theorem rls(v x:Value):ReflectliteValue.set #[v,x]=(do
 let (some (dst,a,fl),some (src,b,_)):=(<- ReflectliteValue.parts v,<- ReflectliteValue.parts x)
  |unsupported (.noEntry "extern/(internal/reflectlite.Value).Set.zeroValue")
 if fl / ReflectliteValue.flagAddr % 2 == 0 then unsupported (.noEntry "extern/(internal/reflectlite.Value).Set.unaddressable")
 let val <- loadVar src b
 if <- Rtype.directlyAssignable dst src then storeVar dst a val
 else if <- Rtype.implements dst src then
  if (<- Rtype.kind src) == 20 then
   match val with
   |.nilIface => unsupported (.noEntry "extern/reflectlite: a nil value of one interface type handed on as a value of another")
   |_=>storeVar dst a val
  else storeVar dst a (.iface src val)
 else panicString ("reflectlite.Set: value of type " ++ (← Rtype.spelt src) ++ " is not assignable to type " ++ (← Rtype.spelt dst))
 pure (.tuple #[])):=rfl
theorem BC(a:Addr)(w:World):(ReflectliteValue.parts (.agg #[.pointer (some ⟨10,47,none⟩),.pointer (some a),.int .u64 386])).run prog w=.ok (some (47,a,386)) w:=by kernel_rfl
theorem C1(a:Addr)(w:World):(ReflectliteValue.parts (.agg #[.pointer (some ⟨10,47,none⟩),.pointer (some a),.int .u64 130])).run prog w=.ok (some (47,a,130)) w:=by kernel_rfl
theorem BD(w:World):(Rtype.directlyAssignable 47 47).run prog w=.ok true w:=by kernel_rfl
theorem setE(ta b:Addr)(n:Int)(old:Value)(W:World)(hb:W.cell? b=some (.int .i64 n))(ht:W.cell? ta=some old)(hf:W.frozen? ta=false):
 (ReflectliteValue.set #[.agg #[.pointer (some ⟨10,47,none⟩),.pointer (some ta),.int .u64 386],.agg #[.pointer (some ⟨10,47,none⟩),.pointer (some b),.int .u64 130]]).run prog W
  = .ok (.tuple #[]) (W.setCell ta (.int .i64 n)):=by
 rw[rls];simp only[Sem.run_bind,BC,C1,Result.andThen];simp[ReflectliteValue.flagAddr,loadVar,isAgg,underlying,underlying47,hb,Result.andThen,BD,storeVar,Value.cells,storeCells,Addr.add]
 rw[run_store prog W ta _ _ (by rfl)]
 simp[ht,hf]
end ErrAs
end Go.Proofs.YtlailakofhenkabGreatDoor
namespace Go.Proofs.YtlailakofhenkabGreatDoor
open Go.RowKit Go.Extern.Stop Go.Stop Go.Extern Tryz
def ErrVar(w:World):Prop:=w.cell? ⟨0,0,none⟩=some (.iface 283 (.agg #[.pointer (some ⟨10,31,none⟩)]))
theorem C2(n:Int)(t:Addr)(old:Value)(w:World)(hg:ErrVar w)(ht0:w.cell? t=some old)(hf0:w.frozen? t=false):
 Calls prog 60 #[.iface 47 (.i_ n),.iface 123 (.pointer (some t))] w fun ev w'=>ev=.returned (.bool true)∧∃w1,Below w.heap.size w w1∧w'=w1.setCell t (.int .i64 n):=by
 have h6:=@run_callFunc_extern prog 121 _ (fun args=>ReflectliteValue.unpack (args.getD 0 (.tuple #[]))) func121 (by kernel_rfl) (by kernel_rfl) (by kernel_rfl) (by kernel_rfl)
 have h7 := @run_callFunc_extern prog 122 _ (ReflectliteValue.methodAny (ReflectliteValue.valueError "reflectlite.Value.Type" 0) (fun t _ _ _ => ReflectliteType.toType t)) func122 (by kernel_rfl) (by kernel_rfl) (by kernel_rfl) (by kernel_rfl)
 have h8 := @run_callFunc_extern prog 123 _ (ReflectliteValue.method (ReflectliteValue.valueError "reflectlite.Value.IsNil" 0) ReflectliteValue.isNil) func123 (by kernel_rfl) (by kernel_rfl) (by kernel_rfl) (by kernel_rfl)
 have f:=@run_callFunc_extern prog 401 _ (ReflectliteType.abiMethod fun t=>do pure (.int .u8 (<- Rtype.kind t))) func401 (by kernel_rfl) (by kernel_rfl) (by kernel_rfl) (by kernel_rfl)
 have g:=@run_callFunc_extern prog 414 _ (ReflectliteType.method ReflectliteType.elem) func414 (by kernel_rfl) (by kernel_rfl) (by kernel_rfl) (by kernel_rfl)
 have j := @run_callFunc_extern prog 415 _ (ReflectliteType.relation "Implements" ReflectliteType.implements_) func415 (by kernel_rfl) (by kernel_rfl) (by kernel_rfl) (by kernel_rfl)
 have k:=@run_callFunc_extern prog 195 _ ReflectliteType.typeOf func195 (by kernel_rfl) (by kernel_rfl) (by kernel_rfl) (by kernel_rfl)
 have m := @run_callFunc_extern prog 412 _ (ReflectliteType.relation "AssignableTo" ReflectliteType.assignableTo) func412 (by kernel_rfl) (by kernel_rfl) (by kernel_rfl) (by kernel_rfl)
 have o := @run_callFunc_extern prog 196 _ (ReflectliteValue.method (ReflectliteValue.valueError "reflectlite.Value.Elem" 0) ReflectliteValue.elem) func196 (by kernel_rfl) (by kernel_rfl) (by kernel_rfl) (by kernel_rfl)
 have p:=@run_callFunc_extern prog 197 _ ReflectliteValue.set func197 (by kernel_rfl) (by kernel_rfl) (by kernel_rfl) (by kernel_rfl)
 have tO:=ErrAs.typeOfE;have mA:=ErrAs.methodAssignableTo;have q:=ErrAs.assignableE;have r:=ErrAs.valueOfE n;have f6:=ErrAs.valueOfPE;have f7:=ErrAs.typePE;have mK:=ErrAs.methodKind;have mE:=ErrAs.methodElem;have mI:=ErrAs.methodImplements;have s:=ErrAs.kindPE;have v:=ErrAs.kindE;have z:=ErrAs.elemPE;have A:=ErrAs.implementsE;have n8:=ErrAs.isNilPE (a_ w.heap.size 0) t ((w.alloc (.cells #[.pointer (some t)] 123)).alloc (.cells #[p_ 10 123,p_ w.heap.size 0,.int .u64 150] 206)) (by simp)
 have c:0<w.heap.size:=Fc _ _ hg
 have B:((w.alloc (.cells #[.pointer (some t)] 123)).alloc (.cells #[p_ 10 123,p_ w.heap.size 0,.int .u64 150] 206)).cell? (a_ 0 0)=some (.iface 283 (.agg #[p_ 10 31])):=by
  rw[World.cell?_alloc_lt _ _ (a_ 0 0) (by simp <;> omega),World.cell?_alloc_lt _ _ (a_ 0 0) c]; exact hg
 have b:t.block<w.heap.size:=Fc _ _ ht0;have el:=ErrAs.elemVPE (a_ w.heap.size 0) t (((w.alloc (.cells #[.pointer (some t)] 123)).alloc (.cells #[p_ 10 123,p_ w.heap.size 0,.int .u64 150] 206)).alloc (.cells #[p_ 10 123,p_ w.heap.size 0,.int .u64 150] 206)) (by rw[World.cell?_alloc_lt _ _ (a_ w.heap.size 0) (by simp; omega)]; simp)
 have st:=ErrAs.setE t (a_ (w.heap.size+1+1+1) 0) n old ((((w.alloc (.cells #[.pointer (some t)] 123)).alloc (.cells #[p_ 10 123,p_ w.heap.size 0,.int .u64 150] 206)).alloc (.cells #[p_ 10 123,p_ w.heap.size 0,.int .u64 150] 206)).alloc (.cells #[.i_ n] 47))
  (by rw[World.cell?_alloc_at _ _ _ _ (by simp)]; rfl)
  (by rw[World.cell?_alloc_lt _ _ t (by simp; omega),World.cell?_alloc_lt _ _ t (by simp; omega),World.cell?_alloc_lt _ _ t (by simp; omega),World.cell?_alloc_lt _ _ t b]; exact ht0)
  (by rw[World.frozen?_alloc_old _ _ t (by simp; omega),World.frozen?_alloc_old _ _ t (by simp; omega),World.frozen?_alloc_old _ _ t (by simp; omega),World.frozen?_alloc_old _ _ t (Nat.ne_of_lt b)]; exact hf0)
 have HG:J (ErrVar w):=hg;clear hg;go_enter func60,ntmps60
 go_wp2
 refine wp_loop_rounds 1 ?_;rw[rounds_succ];go_wp2
 go_ret;refine⟨rfl,_,?_,rfl⟩;repeat (first | exact Below.refl _ _ | refine Below.alloc ?_ (by simp; try omega) _)
theorem zy(w:World):Calls prog 18 #[.nilIface] w fun e w'=>e=.returned (.int .i64 0)∧w'=w:=by
 go_enter func18,ntmps18
 go_wp2_with fail;go_ret;exact⟨rfl,rfl⟩
theorem rk(n:Int)(w:World)(hg:ErrVar w):Calls prog 18 #[.iface 47 (.i_ n)] w fun e w'=>e=.returned (.int .i64 n)∧Below w.heap.size w w':=by
 have b:0<w.heap.size:=Fc _ _ hg;have c:J (ErrVar w):=hg;clear hg;go_enter func18,ntmps18
 go_wp2_with fail
 refine (C2 n _ (.i_ 0) _ ?_ ?_ ?_).mono ?_
 ·exact (World.cell?_alloc_lt _ _ (a_ 0 0) b).trans c.o
 ·simp
 ·simp
 rintro e w' ⟨rfl,w1,hb,rfl⟩;have f:=(hb.cell (p:=(a_ w.heap.size 0)) (by simp))
 have g:w1.cell? (a_ w.heap.size 0)=some (.i_ 0):=by rw[f]; simp
 go_wp2_with fail
 go_ret;refine⟨rfl,?_⟩;exact (((Below.refl w.heap.size w).alloc (Nat.le_refl _) _).trans (hb.mono (by simp))).setCell (p:=(a_ w.heap.size 0)) (Nat.le_refl _) _
open Go
theorem ErrVar.on{w w':World}(h:ErrVar w)(hb:Below w.heap.size w w'):ErrVar w':=(hb.cell (p:=(a_ 0 0)) (Fc _ _ h)).trans h
open Tok Sc Ev
theorem zz(s:ByteArray)(hs:s.size<=5000):
 (Lib.splitB ⟨#[32]⟩ 0 (min 10 (s.size+1) - 1) s).map (·.data.toList)=Lib.splitK [32] 0 (min 10 (s.data.toList.length+1) - 1) s.data.toList∧
 0<(Lib.splitB ⟨#[32]⟩ 0 (min 10 (s.size+1) - 1) s).length∧(Lib.splitB ⟨#[32]⟩ 0 (min 10 (s.size+1) - 1) s).length<=5000∧
 ∀x∈Lib.splitB ⟨#[32]⟩ 0 (min 10 (s.size+1) - 1) s,x.size<=5000:=by
 have b:=Lib.splitB_data ⟨#[32]⟩ 0 (min 10 (s.size+1) - 1) s;rw[show (⟨#[32]⟩:ByteArray).data.toList= [32] from rfl] at b
 have c:s.data.toList.length=s.size:=Fg;have h2:=Lib.splitB_length_le ⟨#[32]⟩ 0 (min 10 (s.size+1) - 1) s;refine⟨by rw[c]; exact b,?_,by omega,fun x hx=>?_⟩
 ·have:=tZ 32 (min 10 (s.size+1) - 1) s.data.toList
  rw[<- b,List.length_map] at this;exact this
 ·have:=tY 32 (min 10 (s.size+1) - 1) s.data.toList x.data.toList (by rw[<- b]; exact List.mem_map.2 ⟨x,hx,rfl⟩)
  have h3:x.data.toList.length=x.size:=Fg;omega
def C3(s:ByteArray)(r:Ending):Prop:=(∃e,Ev.may e∧s=bs8 (line e)∧r=.returned (.tuple #[evV e,.nilIface]))∨((∀e,Ev.may e->s≠bs8 (line e))∧r=.returned (.tuple #[evV zeroE,.iface 47 (.int .i64 3)]))
theorem zA(s:ByteArray)(w:World)(hs:s.size<=5000)(hL:aY w):Calls prog 59 #[.string s] w fun r w'=>C3 s r∧Below w.heap.size w w':=by
 obtain⟨m,hm⟩:=hL.base.len;have HL:Hid (aY w):=hL;obtain⟨hp1,hp2,hp3,hp4⟩:=zz s hs;have Eh:=Lib.cell?_alloc_some (.cells (g_ 0 0 0) 42) hm;have Ei:=strings_SplitN s ⟨#[32]⟩ 10 m _ (by omega) Eh (by decide) (by decide) (by decide)
 generalize hP:Lib.splitB ⟨#[32]⟩ 0 (min 10 (s.size+1) - 1) s=ps at *;have HP:Hid (ps.map (·.data.toList)=Lib.splitK [32] 0 (min 10 (s.data.toList.length+1) - 1) s.data.toList):=hp1;generalize min 10 (s.size+1)=N at *;have Ej:Hid (∀(g c:Nat) (W:World),aO W g ps->aY W->Calls prog 119 #[.slice (o_ g 0) ps.length c] W fun r w'=>∃e,r=.returned (evV e)∧iX ps e∧Small 5000 e.fam∧Below W.heap.size W w'):=fun g c W h1 h2=>tX ps g c W hp2 hp3 hp4 h1 h2;go_enter func59,ntmps59
 go_wp2_with fail
 refine Ei.mono ?_;rintro e w1 ⟨rfl,rfl⟩;have Y:=li (w.alloc (.cells (g_ 0 0 0) 42)) ps N 9;rw[show ((w.alloc (.cells (g_ 0 0 0) 42)):World).heap.size=w.heap.size+1 by simp] at Y
 have Z:Hid (Below w.heap.size w ((w.alloc (.cells (g_ 0 0 0) 42)).alloc (.cells (Lib.cellsOf ps N) 9))):=(bA _ _).alloc (by simp) _
 have Ek:=HL.o.below Z.o;have Ed:cG ((w.alloc (.cells (g_ 0 0 0) 42)).alloc (.cells (Lib.cellsOf ps N) 9)) w.heap.size zeroE:=(bU w zeroE 42 _ rfl).on (bA _ _);have El:∀i,((w.alloc (.cells (g_ 0 0 0) 42)).alloc (.cells (Lib.cellsOf ps N) 9)).frozen? (a_ w.heap.size i)=false:=fun i=>((bA _ _).frozen (p:=(a_ w.heap.size i)) (by simp)).trans (World.frozen?_alloc_at _ _ _ _ rfl)
 have Em:=Ej.o _ N _ Y Ek;go_wp2_with fail
 refine Em.mono ?_;rintro e2 w2 ⟨e,rfl,ht,hsm,hb2⟩;have Ee:Hid (Below w.heap.size w w2):=Z.o.tm hb2;have HT:Hid (iX ps e):=ht;have B:Hid (cG w2 w.heap.size zeroE):=Ed.on hb2;have Ef:Hid (∀i,w2.frozen? (a_ w.heap.size i)=false):=fun i=>(hb2.frozen (p:=(a_ w.heap.size i)) Ed.lt).trans (El i);have En:cG (w2.alloc (.cells (E_ e.kind e.fam.id e.fam.client e.fam.subject e.fam.scope e.fam.gen e.fam.made e.fam.used e.fam.request e.fam.dead e.id e.time) 42)) w2.heap.size e:=bU w2 e 42 _ rfl;have V:Hid (Below w.heap.size w (w2.alloc (.cells (E_ e.kind e.fam.id e.fam.client e.fam.subject e.fam.scope e.fam.gen e.fam.made e.fam.used e.fam.request e.fam.dead e.id e.time) 42))):=Ee.o.alloc Ee.o.size _;have Eg:=HL.o.below V.o;by_cases hm:Ev.may e
 ·have A:=ji e _ hm hsm Eg.base
  have HM:Hid (Ev.may e):=hm;have Eo:Hid _:=En;obtain⟨k,⟨f1,f2,f3,f4,f5,f6,f7,f8,f9⟩,i,t⟩:=e;unfold evV aX at A ⊢;simp only at A ⊢;go_wp2_with fail
  refine A.mono ?_;rintro e4 w4 ⟨rfl,hb4⟩;have n:Hid (cG w4 w2.heap.size ⟨k,⟨f1,f2,f3,f4,f5,f6,f7,f8,f9⟩,i,t⟩):=Eo.o.on hb4;have T:Hid (Below w.heap.size w w4):=V.o.tm hb4;have d0:=n.o.c0; have d1:=n.o.fam.c0; have d2:=n.o.fam.c1; have d3:=n.o.fam.c2; have d4:=n.o.fam.c3; have d5:=n.o.fam.c4; have d6:=n.o.fam.c5; have d7:=n.o.fam.c6; have d8:=n.o.fam.c7; have d9:=n.o.fam.c8; have Ep:=n.o.c10; have Er:=n.o.c11;simp only at d0 d1 d2 d3 d4 d5 d6 d7 d8 d9 Ep Er;have f:=(B.o.on (bA _ _)).on hb4;have fz:∀i,w4.frozen? (a_ w.heap.size i)=false:=fun i=>((hb4.frozen (p:=(a_ w.heap.size i)) (by have:=B.o.lt; simp; omega)).trans ((bA _ _).frozen (p:=(a_ w.heap.size i)) B.o.lt)).trans (Ef.o i)
  have c0:=f.c0; have c1:=f.fam.c0; have c2:=f.fam.c1; have c3:=f.fam.c2; have c4:=f.fam.c3; have c5:=f.fam.c4; have c6:=f.fam.c5; have c7:=f.fam.c6; have c8:=f.fam.c7; have c9:=f.fam.c8; have c10:=f.c10; have c11:=f.c11;simp only[zeroE,zeroF] at c0 c1 c2 c3 c4 c5 c6 c7 c8 c9 c10 c11
  have U:Hid (∀j,j<12->(w4.cell? (a_ w.heap.size (0+j))).isSome=true):=by
   show ∀j,j<12->(w4.cell? (a_ w.heap.size (0+j))).isSome=true
   intro j hj;rw[Nat.zero_add];match j,hj with
   |0,_=>rw[c0]; rfl
   |1,_=>rw[c1]; rfl
   |2,_=>rw[c2]; rfl
   |3,_=>rw[c3]; rfl
   |4,_=>rw[c4]; rfl
   |5,_=>rw[c5]; rfl
   |6,_=>rw[c6]; rfl
   |7,_=>rw[c7]; rfl
   |8,_=>rw[c8]; rfl
   |9,_=>rw[c9]; rfl
   |10,_=>rw[c10]; rfl
   |11,_=>rw[c11]; rfl
  generalize hx:bs8 (line ⟨k,⟨f1,f2,f3,f4,f5,f6,f7,f8,f9⟩,i,t⟩)=x at *;by_cases hxs:x=s
  ·subst hxs
   go_wp2_with fail
   have b:∀j,j<((H_ k f1 f2 f3 f4 f5 f6 f7 f8 f9 i t):List Value).length->(w4.cell? (a_ w.heap.size (0+j))).isSome=true:=U.o;have C:Hid (Below w.heap.size w (w4.setCells w.heap.size 0 (H_ k f1 f2 f3 f4 f5 f6 f7 f8 f9 i t))):=T.o.trans (aa (Fa _) _ 0 w4);have D:=World.cell?_setCells_in w.heap.size (H_ k f1 f2 f3 f4 f5 f6 f7 f8 f9 i t) 0 w4 b 0 (by simp)
   have E:=World.cell?_setCells_in w.heap.size (H_ k f1 f2 f3 f4 f5 f6 f7 f8 f9 i t) 0 w4 b 1 (by simp)
   have F:=World.cell?_setCells_in w.heap.size (H_ k f1 f2 f3 f4 f5 f6 f7 f8 f9 i t) 0 w4 b 2 (by simp)
   have G:=World.cell?_setCells_in w.heap.size (H_ k f1 f2 f3 f4 f5 f6 f7 f8 f9 i t) 0 w4 b 3 (by simp)
   have H:=World.cell?_setCells_in w.heap.size (H_ k f1 f2 f3 f4 f5 f6 f7 f8 f9 i t) 0 w4 b 4 (by simp)
   have I:=World.cell?_setCells_in w.heap.size (H_ k f1 f2 f3 f4 f5 f6 f7 f8 f9 i t) 0 w4 b 5 (by simp)
   have J:=World.cell?_setCells_in w.heap.size (H_ k f1 f2 f3 f4 f5 f6 f7 f8 f9 i t) 0 w4 b 6 (by simp)
   have L:=World.cell?_setCells_in w.heap.size (H_ k f1 f2 f3 f4 f5 f6 f7 f8 f9 i t) 0 w4 b 7 (by simp)
   have M:=World.cell?_setCells_in w.heap.size (H_ k f1 f2 f3 f4 f5 f6 f7 f8 f9 i t) 0 w4 b 8 (by simp)
   have O:=World.cell?_setCells_in w.heap.size (H_ k f1 f2 f3 f4 f5 f6 f7 f8 f9 i t) 0 w4 b 9 (by simp)
   have o:=World.cell?_setCells_in w.heap.size (H_ k f1 f2 f3 f4 f5 f6 f7 f8 f9 i t) 0 w4 b 10 (by simp)
   have q:=World.cell?_setCells_in w.heap.size (H_ k f1 f2 f3 f4 f5 f6 f7 f8 f9 i t) 0 w4 b 11 (by simp)
   generalize hWW:World.setCell _ (a_ w.heap.size 11) _=WW;have z:w4.setCells w.heap.size 0 (H_ k f1 f2 f3 f4 f5 f6 f7 f8 f9 i t)=WW:=hWW;have R:Hid (Below w.heap.size w WW):=by rw[<- z]; exact C.o
   rw[z] at D E F G H I J L M O o q;simp only[Nat.zero_add,List.getElem_cons_zero,List.getElem_cons_succ] at D E F G H I J L M O o q;exact bodyPost_ret (v:=.tuple #[.agg (E_ k f1 f2 f3 f4 f5 f6 f7 f8 f9 i t),.nilIface]) (by simp[results,results59,go_sem,D,E,F,G,H,I,J,L,M,O,o,q]) rfl ⟨.inl ⟨_,HM.o,hx.symm,rfl⟩,R.o⟩
  ·have X:Hid (∀e',Ev.may e'->s≠bs8 (line e')):=fun e' he hs=>by
    have h1:ps.map (·.data.toList)=aQ e':=by
     rw[HP.o,hs];exact lW he
    have h2:=HT.o e' he h1;exact hxs (by rw[<- hx,h2,hs])
   have hxb:(x.toList == s.toList)=false:=by
    rw[beq_eq_false_iff_ne];intro h;exact hxs (aK (by rwa [ByteArray.toList_eq,ByteArray.toList_eq] at h))
   go_wp2_with fail
   have b:∀j,j<((h_ 0 0 0):List Value).length->(w4.cell? (a_ w.heap.size (0+j))).isSome=true:=U.o;have C:Hid (Below w.heap.size w (w4.setCells w.heap.size 0 (h_ 0 0 0))):=T.o.trans (aa (Fa _) _ 0 w4);have D:=World.cell?_setCells_in w.heap.size (h_ 0 0 0) 0 w4 b 0 (by simp)
   have E:=World.cell?_setCells_in w.heap.size (h_ 0 0 0) 0 w4 b 1 (by simp)
   have F:=World.cell?_setCells_in w.heap.size (h_ 0 0 0) 0 w4 b 2 (by simp)
   have G:=World.cell?_setCells_in w.heap.size (h_ 0 0 0) 0 w4 b 3 (by simp)
   have H:=World.cell?_setCells_in w.heap.size (h_ 0 0 0) 0 w4 b 4 (by simp)
   have I:=World.cell?_setCells_in w.heap.size (h_ 0 0 0) 0 w4 b 5 (by simp)
   have J:=World.cell?_setCells_in w.heap.size (h_ 0 0 0) 0 w4 b 6 (by simp)
   have L:=World.cell?_setCells_in w.heap.size (h_ 0 0 0) 0 w4 b 7 (by simp)
   have M:=World.cell?_setCells_in w.heap.size (h_ 0 0 0) 0 w4 b 8 (by simp)
   have O:=World.cell?_setCells_in w.heap.size (h_ 0 0 0) 0 w4 b 9 (by simp)
   have o:=World.cell?_setCells_in w.heap.size (h_ 0 0 0) 0 w4 b 10 (by simp)
   have q:=World.cell?_setCells_in w.heap.size (h_ 0 0 0) 0 w4 b 11 (by simp)
   generalize hWW:World.setCell _ (a_ w.heap.size 11) _=WW;have z:w4.setCells w.heap.size 0 (h_ 0 0 0)=WW:=hWW;have R:Hid (Below w.heap.size w WW):=by rw[<- z]; exact C.o
   rw[z] at D E F G H I J L M O o q;simp only[Nat.zero_add,List.getElem_cons_zero,List.getElem_cons_succ] at D E F G H I J L M O o q;exact bodyPost_ret (v:=.tuple #[.agg (g_ 0 0 0),.iface 47 (.i_ 3)]) (by simp[results,results59,go_sem,D,E,F,G,H,I,J,L,M,O,o,q]) rfl ⟨.inr ⟨X.o,rfl⟩,R.o⟩
 ·have A:=og e _ hm hsm Eg.base.len
  have HM:Hid (¬ Ev.may e):=hm;obtain⟨k,⟨f1,f2,f3,f4,f5,f6,f7,f8,f9⟩,i,t⟩:=e;unfold evV aX at A ⊢;simp only at A ⊢;go_wp2_with fail
  refine A.mono ?_;rintro e4 w4 ⟨rfl,hb4⟩;have T:Hid (Below w.heap.size w w4):=V.o.tm hb4;have f:=(B.o.on (bA _ _)).on hb4;have fz:∀i,w4.frozen? (a_ w.heap.size i)=false:=fun i=>((hb4.frozen (p:=(a_ w.heap.size i)) (by have:=B.o.lt; simp; omega)).trans ((bA _ _).frozen (p:=(a_ w.heap.size i)) B.o.lt)).trans (Ef.o i)
  have c0:=f.c0; have c1:=f.fam.c0; have c2:=f.fam.c1; have c3:=f.fam.c2; have c4:=f.fam.c3; have c5:=f.fam.c4; have c6:=f.fam.c5; have c7:=f.fam.c6; have c8:=f.fam.c7; have c9:=f.fam.c8; have c10:=f.c10; have c11:=f.c11;simp only[zeroE,zeroF] at c0 c1 c2 c3 c4 c5 c6 c7 c8 c9 c10 c11
  have U:Hid (∀j,j<12->(w4.cell? (a_ w.heap.size (0+j))).isSome=true):=by
   show ∀j,j<12->(w4.cell? (a_ w.heap.size (0+j))).isSome=true
   intro j hj;rw[Nat.zero_add];match j,hj with
   |0,_=>rw[c0]; rfl
   |1,_=>rw[c1]; rfl
   |2,_=>rw[c2]; rfl
   |3,_=>rw[c3]; rfl
   |4,_=>rw[c4]; rfl
   |5,_=>rw[c5]; rfl
   |6,_=>rw[c6]; rfl
   |7,_=>rw[c7]; rfl
   |8,_=>rw[c8]; rfl
   |9,_=>rw[c9]; rfl
   |10,_=>rw[c10]; rfl
   |11,_=>rw[c11]; rfl
  have X:Hid (∀e',Ev.may e'->s≠bs8 (line e')):=fun e' he hs=>by
   have h1:ps.map (·.data.toList)=aQ e':=by
    rw[HP.o,hs];exact lW he
   have h2:=HT.o e' he h1;exact HM.o (h2 ▸ he)
  go_wp2_with fail
  have b:∀j,j<((h_ 0 0 0):List Value).length->(w4.cell? (a_ w.heap.size (0+j))).isSome=true:=U.o;have C:Hid (Below w.heap.size w (w4.setCells w.heap.size 0 (h_ 0 0 0))):=T.o.trans (aa (Fa _) _ 0 w4);have D:=World.cell?_setCells_in w.heap.size (h_ 0 0 0) 0 w4 b 0 (by simp)
  have E:=World.cell?_setCells_in w.heap.size (h_ 0 0 0) 0 w4 b 1 (by simp)
  have F:=World.cell?_setCells_in w.heap.size (h_ 0 0 0) 0 w4 b 2 (by simp)
  have G:=World.cell?_setCells_in w.heap.size (h_ 0 0 0) 0 w4 b 3 (by simp)
  have H:=World.cell?_setCells_in w.heap.size (h_ 0 0 0) 0 w4 b 4 (by simp)
  have I:=World.cell?_setCells_in w.heap.size (h_ 0 0 0) 0 w4 b 5 (by simp)
  have J:=World.cell?_setCells_in w.heap.size (h_ 0 0 0) 0 w4 b 6 (by simp)
  have L:=World.cell?_setCells_in w.heap.size (h_ 0 0 0) 0 w4 b 7 (by simp)
  have M:=World.cell?_setCells_in w.heap.size (h_ 0 0 0) 0 w4 b 8 (by simp)
  have O:=World.cell?_setCells_in w.heap.size (h_ 0 0 0) 0 w4 b 9 (by simp)
  have o:=World.cell?_setCells_in w.heap.size (h_ 0 0 0) 0 w4 b 10 (by simp)
  have q:=World.cell?_setCells_in w.heap.size (h_ 0 0 0) 0 w4 b 11 (by simp)
  generalize hWW:World.setCell _ (a_ w.heap.size 11) _=WW;have z:w4.setCells w.heap.size 0 (h_ 0 0 0)=WW:=hWW;have R:Hid (Below w.heap.size w WW):=by rw[<- z]; exact C.o
  rw[z] at D E F G H I J L M O o q;simp only[Nat.zero_add,List.getElem_cons_zero,List.getElem_cons_succ] at D E F G H I J L M O o q;exact bodyPost_ret (v:=.tuple #[.agg (g_ 0 0 0),.iface 47 (.i_ 3)]) (by simp[results,results59,go_sem,D,E,F,G,H,I,J,L,M,O,o,q]) rfl ⟨.inr ⟨X.o,rfl⟩,R.o⟩
end Go.Proofs.YtlailakofhenkabGreatDoor
namespace Go.Proofs.YtlailakofhenkabGreatDoor
open Go.RowKit Sip Tryz
theorem fR(x:Int)(k:Int)(w:World)(k0:0<k)(k1:k<64):
 Calls prog 218 #[.int .u64 x,.i_ k] w fun e w'=>e=.returned (.int .u64 (rl x k))∧w'=w:=by
 have hk:=DH k k0 k1;go_enter func218,ntmps218
 go_wp2
 go_ret;exact⟨rfl,rfl⟩
theorem DM(x:Int)(w:World):Calls prog 218 #[.int .u64 x,.i_ 4] w fun e w'=>e=.returned (.int .u64 (rl x 4))∧w'=w:=fR x 4 w (by decide) (by decide)
theorem C4(x:Int)(w:World):Calls prog 218 #[.int .u64 x,.i_ 13] w fun e w'=>e=.returned (.int .u64 (rl x 13))∧w'=w:=fR x 13 w (by decide) (by decide)
theorem C5(x:Int)(w:World):Calls prog 218 #[.int .u64 x,.i_ 16] w fun e w'=>e=.returned (.int .u64 (rl x 16))∧w'=w:=fR x 16 w (by decide) (by decide)
theorem C6(x:Int)(w:World):Calls prog 218 #[.int .u64 x,.i_ 17] w fun e w'=>e=.returned (.int .u64 (rl x 17))∧w'=w:=fR x 17 w (by decide) (by decide)
theorem C7(x:Int)(w:World):Calls prog 218 #[.int .u64 x,.i_ 21] w fun e w'=>e=.returned (.int .u64 (rl x 21))∧w'=w:=fR x 21 w (by decide) (by decide)
theorem t9(x:Int)(w:World):Calls prog 218 #[.int .u64 x,.i_ 32] w fun e w'=>e=.returned (.int .u64 (rl x 32))∧w'=w:=fR x 32 w (by decide) (by decide)
theorem il(x:Int)(k:Int)(w:World)(k0:0<k)(k1:k<64):
 Calls prog 212 #[.int .u64 x,.i_ k] w fun e w'=>e=.returned (.int .u64 (rl x k))∧∃n,w'=w.drewN n:=by
 go_enter func212,ntmps212
 go_wp2
 go_quiet (fail)
 go_wp2
 go_ret;exact⟨rfl,_,rfl⟩
structure bX (w:World) (g:Nat) (s:St):Prop where
 a:w.cell? ⟨g,0,none⟩=some (.int .u64 s.a)
 b:w.cell? ⟨g,1,none⟩=some (.int .u64 s.b)
 c:w.cell? ⟨g,2,none⟩=some (.int .u64 s.c)
 d:w.cell? ⟨g,3,none⟩=some (.int .u64 s.d)
 fa:w.frozen? ⟨g,0,none⟩=false
 fb:w.frozen? ⟨g,1,none⟩=false
 fc:w.frozen? ⟨g,2,none⟩=false
 fd:w.frozen? ⟨g,3,none⟩=false
theorem bX.drew{w:World}{g:Nat}{s:St}(h:bX w g s):bX w.drew g s:=⟨h.a,h.b,h.c,h.d,h.fa,h.fb,h.fc,h.fd⟩
variable {g:Nat}{s:St}{w:World}
theorem bX.setA(h:bX w g s)(x:Int):bX (w.setCell ⟨g,0,none⟩ (.int .u64 x)) g ⟨x,s.b,s.c,s.d⟩:=by
 obtain⟨ha,hb,hc,hd,fa,fb,fc,fd⟩:=h;constructor <;> go_simp
theorem bX.setB(h:bX w g s)(x:Int):bX (w.setCell ⟨g,1,none⟩ (.int .u64 x)) g ⟨s.a,x,s.c,s.d⟩:=by
 obtain⟨ha,hb,hc,hd,fa,fb,fc,fd⟩:=h;constructor <;> go_simp
theorem bX.setC(h:bX w g s)(x:Int):bX (w.setCell ⟨g,2,none⟩ (.int .u64 x)) g ⟨s.a,s.b,x,s.d⟩:=by
 obtain⟨ha,hb,hc,hd,fa,fb,fc,fd⟩:=h;constructor <;> go_simp
theorem bX.setD(h:bX w g s)(x:Int):bX (w.setCell ⟨g,3,none⟩ (.int .u64 x)) g ⟨s.a,s.b,s.c,x⟩:=by
 obtain⟨ha,hb,hc,hd,fa,fb,fc,fd⟩:=h;constructor <;> go_simp
theorem mu(s:St)(g n B:Nat)(hB:B<=g)(w:World)(hn:n<100)(h:bX w g s):
 Calls prog 287 #[p_ g 0,.i_ n] w fun e w'=>e=.returned (.tuple #[])∧bX w' g (rnds n s)∧Below B w w':=by
 go_enter func287,ntmps287
 go_wp2
 go_loopg [5] n (fun gg i wr=>∃k:Nat,k<=n∧gg=n - k∧i=.i_ k∧bX wr g (rnds k s)∧Below B w wr)
 case atStart=>exact⟨0,Fo _,rfl,rfl,h,E9 _ _⟩
 case round=>
  obtain⟨k,hk,hgk,rfl,hst,hb⟩:=hrel;have C:J _:=hgk;clear hgk;have D:J (rnd (rnds k s)=rnds (k+1) s):=rfl;generalize hq:rnds k s=q at *;have E:J _:=hq;clear hq;obtain⟨a,b,c,d⟩:=q;obtain⟨ha,hbb,hc,hd,fa,fb,fc,fd⟩:=hst;dsimp only at ha hbb hc hd
  by_cases hlt:k<n
  ·go_wp2
   go_cut [] from 6 to 119 (fun wx=>bX wx g ⟨(ad a b),b,c,d⟩∧Below B w wx)
   case first=>
    go_region
    all_goals (go_wp2_with fail; go_meet)
    all_goals exact⟨((⟨ha,hbb,hc,hd,fa,fb,fc,fd⟩:bX _ g ⟨a,b,c,d⟩).setA _).drew,(hb.setCell (p:=(a_ g _)) hB _).drew⟩
   obtain⟨a1,ha1⟩:∃x,x=ad a b:=⟨_,rfl⟩;rw[<- ha1] at hcut;have f:J _:=ha1;clear ha1 ha hbb hc hd fa fb fc fd hb;obtain⟨⟨ha,hbb,hc,hd,fa,fb,fc,fd⟩,hb⟩:=hcut;dsimp only at ha hbb hc hd
   go_wp2
   go_cut [] from 6 to 119 (fun wx=>bX wx g ⟨a1,(xr (rl b 13) a1),c,d⟩∧Below B w wx)
   case first=>
    go_region_with (go_at_call 218; refine (C4 _ _).mono ?_; rintro e w' ⟨rfl,rfl⟩)
    all_goals (go_wp2_with fail; go_meet)
    all_goals exact⟨((⟨ha,hbb,hc,hd,fa,fb,fc,fd⟩:bX _ g ⟨a1,b,c,d⟩).setB _).drew,(hb.setCell (p:=(a_ g _)) hB _).drew⟩
   obtain⟨b1,hb1⟩:∃x,x=xr (rl b 13) a1:=⟨_,rfl⟩;rw[<- hb1] at hcut;have j:J _:=hb1;clear hb1 ha hbb hc hd fa fb fc fd hb;obtain⟨⟨ha,hbb,hc,hd,fa,fb,fc,fd⟩,hb⟩:=hcut;dsimp only at ha hbb hc hd
   go_upto_region 4 with fail;go_cut [] from 6 to 119 (fun wx=>bX wx g ⟨(rl a1 32),b1,c,d⟩∧Below B w wx)
   case first=>
    go_wp2_with (go_at_call 218; refine (t9 _ _).mono ?_; rintro e w' ⟨rfl,rfl⟩)
    all_goals (go_wp2_with fail; go_meet)
    all_goals exact⟨((⟨ha,hbb,hc,hd,fa,fb,fc,fd⟩:bX _ g ⟨a1,b1,c,d⟩).setA _),(hb.setCell (p:=(a_ g _)) hB _)⟩
   obtain⟨a2,ha2⟩:∃x,x=rl a1 32:=⟨_,rfl⟩;rw[<- ha2] at hcut;have m:J _:=ha2;clear ha2 ha hbb hc hd fa fb fc fd hb;obtain⟨⟨ha,hbb,hc,hd,fa,fb,fc,fd⟩,hb⟩:=hcut;dsimp only at ha hbb hc hd
   go_wp2
   go_cut [] from 6 to 119 (fun wx=>bX wx g ⟨a2,b1,(ad c d),d⟩∧Below B w wx)
   case first=>
    go_region
    all_goals (go_wp2_with fail; go_meet)
    all_goals exact⟨((⟨ha,hbb,hc,hd,fa,fb,fc,fd⟩:bX _ g ⟨a2,b1,c,d⟩).setC _).drew,(hb.setCell (p:=(a_ g _)) hB _).drew⟩
   obtain⟨c1,hc1⟩:∃x,x=ad c d:=⟨_,rfl⟩;rw[<- hc1] at hcut;have o:J _:=hc1;clear hc1 ha hbb hc hd fa fb fc fd hb;obtain⟨⟨ha,hbb,hc,hd,fa,fb,fc,fd⟩,hb⟩:=hcut;dsimp only at ha hbb hc hd
   go_wp2
   go_cut [] from 6 to 119 (fun wx=>bX wx g ⟨a2,b1,c1,(xr (rl d 16) c1)⟩∧Below B w wx)
   case first=>
    go_region_with (go_at_call 218; refine (C5 _ _).mono ?_; rintro e w' ⟨rfl,rfl⟩)
    all_goals (go_wp2_with fail; go_meet)
    all_goals exact⟨((⟨ha,hbb,hc,hd,fa,fb,fc,fd⟩:bX _ g ⟨a2,b1,c1,d⟩).setD _).drew,(hb.setCell (p:=(a_ g _)) hB _).drew⟩
   obtain⟨d1,hd1⟩:∃x,x=xr (rl d 16) c1:=⟨_,rfl⟩;rw[<- hd1] at hcut;have r:J _:=hd1;clear hd1 ha hbb hc hd fa fb fc fd hb;obtain⟨⟨ha,hbb,hc,hd,fa,fb,fc,fd⟩,hb⟩:=hcut;dsimp only at ha hbb hc hd
   go_wp2
   go_cut [] from 6 to 119 (fun wx=>bX wx g ⟨(ad a2 d1),b1,c1,d1⟩∧Below B w wx)
   case first=>
    go_region
    all_goals (go_wp2_with fail; go_meet)
    all_goals exact⟨((⟨ha,hbb,hc,hd,fa,fb,fc,fd⟩:bX _ g ⟨a2,b1,c1,d1⟩).setA _).drew,(hb.setCell (p:=(a_ g _)) hB _).drew⟩
   obtain⟨a3,ha3⟩:∃x,x=ad a2 d1:=⟨_,rfl⟩;rw[<- ha3] at hcut;have t:J _:=ha3;clear ha3 ha hbb hc hd fa fb fc fd hb;obtain⟨⟨ha,hbb,hc,hd,fa,fb,fc,fd⟩,hb⟩:=hcut;dsimp only at ha hbb hc hd
   go_wp2
   go_cut [] from 6 to 119 (fun wx=>bX wx g ⟨a3,b1,c1,(xr (rl d1 21) a3)⟩∧Below B w wx)
   case first=>
    go_region_with (go_at_call 218; refine (C7 _ _).mono ?_; rintro e w' ⟨rfl,rfl⟩)
    all_goals (go_wp2_with fail; go_meet)
    all_goals exact⟨((⟨ha,hbb,hc,hd,fa,fb,fc,fd⟩:bX _ g ⟨a3,b1,c1,d1⟩).setD _).drew,(hb.setCell (p:=(a_ g _)) hB _).drew⟩
   obtain⟨d2,hd2⟩:∃x,x=xr (rl d1 21) a3:=⟨_,rfl⟩;rw[<- hd2] at hcut;have v:J _:=hd2;clear hd2 ha hbb hc hd fa fb fc fd hb;obtain⟨⟨ha,hbb,hc,hd,fa,fb,fc,fd⟩,hb⟩:=hcut;dsimp only at ha hbb hc hd
   go_wp2
   go_cut [] from 6 to 119 (fun wx=>bX wx g ⟨a3,b1,(ad c1 b1),d2⟩∧Below B w wx)
   case first=>
    go_region
    all_goals (go_wp2_with fail; go_meet)
    all_goals exact⟨((⟨ha,hbb,hc,hd,fa,fb,fc,fd⟩:bX _ g ⟨a3,b1,c1,d2⟩).setC _).drew,(hb.setCell (p:=(a_ g _)) hB _).drew⟩
   obtain⟨c2,hc2⟩:∃x,x=ad c1 b1:=⟨_,rfl⟩;rw[<- hc2] at hcut;have z:J _:=hc2;clear hc2 ha hbb hc hd fa fb fc fd hb;obtain⟨⟨ha,hbb,hc,hd,fa,fb,fc,fd⟩,hb⟩:=hcut;dsimp only at ha hbb hc hd
   go_wp2
   go_cut [] from 6 to 119 (fun wx=>bX wx g ⟨a3,(xr (rl b1 17) c2),c2,d2⟩∧Below B w wx)
   case first=>
    go_region_with (go_at_call 218; refine (C6 _ _).mono ?_; rintro e w' ⟨rfl,rfl⟩)
    all_goals (go_wp2_with fail; go_meet)
    all_goals exact⟨((⟨ha,hbb,hc,hd,fa,fb,fc,fd⟩:bX _ g ⟨a3,b1,c2,d2⟩).setB _).drew,(hb.setCell (p:=(a_ g _)) hB _).drew⟩
   obtain⟨b2,hb2⟩:∃x,x=xr (rl b1 17) c2:=⟨_,rfl⟩;rw[<- hb2] at hcut;have A:J _:=hb2;clear hb2 ha hbb hc hd fa fb fc fd hb;obtain⟨⟨ha,hbb,hc,hd,fa,fb,fc,fd⟩,hb⟩:=hcut;dsimp only at ha hbb hc hd
   go_wp2_with (go_at_call 218; refine (t9 _ _).mono ?_; rintro e w' ⟨rfl,rfl⟩)
   go_roundg (n - (k+1))
   case measure=>have:=C.o; omega
   case rel=>
    refine⟨k+1,by omega,rfl,by go_num,?_,(hb.setCell (p:=(a_ g _)) hB _)⟩
    rw[<- D.o]
    have F:rnd ⟨a,b,c,d⟩=⟨a3,b2,rl c2 32,d2⟩:=by
     rw[A.o,z.o,v.o,t.o,r.o,o.o,m.o,j.o,f.o]; rfl
    rw[F];exact (⟨ha,hbb,hc,hd,fa,fb,fc,fd⟩:bX _ g ⟨a3,b2,c2,d2⟩).setC _
  ·obtain rfl:k=n:=by omega
   go_wp2
   go_end0
   exact⟨rfl,by rw[E.o]; exact⟨ha,hbb,hc,hd,fa,fb,fc,fd⟩,hb⟩
theorem xb(x:Int)(w:World):Calls prog 212 #[.int .u64 x,.i_ 13] w fun e w'=>e=.returned (.int .u64 (rl x 13))∧∃n,w'=w.drewN n:=il x 13 w (by decide) (by decide)
theorem xc(x:Int)(w:World):Calls prog 212 #[.int .u64 x,.i_ 16] w fun e w'=>e=.returned (.int .u64 (rl x 16))∧∃n,w'=w.drewN n:=il x 16 w (by decide) (by decide)
theorem xd(x:Int)(w:World):Calls prog 212 #[.int .u64 x,.i_ 17] w fun e w'=>e=.returned (.int .u64 (rl x 17))∧∃n,w'=w.drewN n:=il x 17 w (by decide) (by decide)
theorem xe(x:Int)(w:World):Calls prog 212 #[.int .u64 x,.i_ 21] w fun e w'=>e=.returned (.int .u64 (rl x 21))∧∃n,w'=w.drewN n:=il x 21 w (by decide) (by decide)
theorem kb(x:Int)(w:World):Calls prog 212 #[.int .u64 x,.i_ 32] w fun e w'=>e=.returned (.int .u64 (rl x 32))∧∃n,w'=w.drewN n:=il x 32 w (by decide) (by decide)
theorem iY(s:St)(n:Nat)(w:World)(hn:n<100):
 Calls prog 281 #[.agg #[.int .u64 s.a,.int .u64 s.b,.int .u64 s.c,.int .u64 s.d],.i_ n] w fun e w'=>e=.returned (.agg #[.int .u64 (rnds n s).a,.int .u64 (rnds n s).b,.int .u64 (rnds n s).c,.int .u64 (rnds n s).d])∧Below w.heap.size w w':=by
 go_enter func281,ntmps281
 go_wp2
 go_quiet (fail)
 go_wp2
 generalize hW:(w.alloc _).alloc _=W;have g:J _:=hW;clear hW;go_loopw [5,6,7,8,18] (fun a b c d i wr=>∃k m:Nat,k<=n∧i=.i_ k∧a=.int .u64 (rnds k s).a∧b=.int .u64 (rnds k s).b∧c=.int .u64 (rnds k s).c∧d=.int .u64 (rnds k s).d∧wr=W.drewN m) (fun _ _ _ _ i _=>n - (intOf i).toNat)
 case atStart=>exact⟨0,nq,Fo _,rfl,rfl,rfl,rfl,rfl,rfl⟩
 case round=>
  obtain⟨k,m,hk,rfl,rfl,rfl,rfl,rfl,rfl⟩:=hrel;have f:J (rnd (rnds k s)=rnds (k+1) s):=rfl;generalize hq:rnds k s=q at *;have j:J _:=hq;clear hq;obtain⟨a,b,c,d⟩:=q;dsimp only
  by_cases hlt:k<n
  ·go_wp2_with fail
   refine (xb _ _).mono ?_;rintro e w' ⟨rfl,n1,rfl⟩;go_wp2_with fail;refine (kb _ _).mono ?_;rintro e w' ⟨rfl,n2,rfl⟩;go_wp2_with fail;refine (xc _ _).mono ?_;rintro e w' ⟨rfl,n3,rfl⟩;go_wp2_with fail;refine (xe _ _).mono ?_;rintro e w' ⟨rfl,n4,rfl⟩;go_wp2_with fail;refine (xd _ _).mono ?_;rintro e w' ⟨rfl,n5,rfl⟩;go_wp2_with fail;refine (kb _ _).mono ?_;rintro e w' ⟨rfl,n6,rfl⟩;go_wp2_with fail;go_roundw
   case rel=>exact⟨k+1,_,by omega,by go_num,by rw[<- f.o]; rfl,by rw[<- f.o]; rfl,by rw[<- f.o]; rfl,by rw[<- f.o]; rfl,rfl⟩
   case measure=>simp[intOf]; omega
  ·obtain rfl:k=n:=by omega
   subst g;go_wp2
   refine bodyPost_ret (v:=.agg #[.int .u64 a,.int .u64 b,.int .u64 c,.int .u64 d]) ?_ rfl ⟨?_,?_⟩
   ·simp[results,results281,go_sem]
   ·rw[j.o]
   ·repeat (first | exact Below.refl _ _ | refine Below.setCell ?_ (by simp) _ | refine below_drewN ?_ _ | refine Below.alloc ?_ (by simp) _)
end Go.Proofs.YtlailakofhenkabGreatDoor
namespace Go.Proofs.YtlailakofhenkabGreatDoor
namespace Sip
def fin(top:Nat):Nat->St->List UInt8->Int
 |0,q,l=>lR (eatS q ((le l+top*256 ^ 7:Nat):Int))
 |f+1,q,l=>if 8<=l.length then fin top f (eatS q (le (l.take 8))) (l.drop 8) else lR (eatS q ((le l+top*256 ^ 7:Nat):Int))
def sip(k0 k1:Int)(l:List UInt8):Int:=fin (l.length % 256) l.length (start k0 k1) l
def pad(l:List UInt8):List UInt8:=l ++ List.replicate (7 - l.length % 8) 0 ++ [UInt8.ofNat (l.length % 256)]
def ny:Nat->St->List UInt8->St
 |0,q,_=>q
 |f+1,q,l=>ny f (eatS q (le (l.take 8))) (l.drop 8)
theorem zB(n:Nat):le (List.replicate n 0)=0:=by
 induction n with
 |zero=>rfl
 |succ n ih=>simp[List.replicate_succ,le,ih]
theorem oh(l r:List UInt8):le (l ++ r)=le l+le r*256 ^ l.length:=by
 induction l with
 |nil=>simp[le]
 |cons c l ih=>simp only[List.cons_append,le,ih,List.length_cons,Nat.pow_succ]; rw[Nat.mul_add,Nat.add_assoc,Nat.mul_left_comm,Nat.mul_comm (256 ^ l.length) 256]
theorem zC(r:List UInt8)(n:Nat)(h:r.length<=7)(hn:n<256):
 le (r ++ List.replicate (7 - r.length) 0 ++ [UInt8.ofNat n])=le r+n*256 ^ 7:=by
 rw[oh,oh,zB];have e:(r ++ List.replicate (7 - r.length) 0).length=7:=by simp; omega
 rw[e];simp[le,Nat.mod_eq_of_lt hn]
theorem zD(top:Nat)(ht:top<256)(f:Nat)(q:St)(l:List UInt8)(hf:l.length<=f)(T:Nat)(hT:(l ++ List.replicate (7 - l.length % 8) 0 ++ [UInt8.ofNat top]).length=8*T):
 fin top f q l=lR (ny T q (l ++ List.replicate (7 - l.length % 8) 0 ++ [UInt8.ofNat top])):=by
 induction f generalizing q l T with
 |zero=>
  obtain rfl:l= []:=List.eq_nil_of_length_eq_zero (by omega)
  obtain rfl:T=1:=by simp at hT; omega
  have h:=zC [] top (by simp) ht
  simp only[fin,ny];simp at h ⊢
  rw[h];simp
 |succ f ih=>
  by_cases h8:8<=l.length
  ·obtain⟨T',rfl⟩:∃T',T=T'+1:=⟨T - 1,by simp at hT; omega⟩
   simp only[fin,if_pos h8,ny];have hd:(l.drop 8).length=l.length - 8:=Fu;have g:(l.drop 8).length % 8=l.length % 8:=by omega
   have c:(l ++ List.replicate (7 - l.length % 8) 0 ++ [UInt8.ofNat top]).take 8=l.take 8:=by
    rw[List.append_assoc,List.take_append_of_le_length h8]
   have b:(l ++ List.replicate (7 - l.length % 8) 0 ++ [UInt8.ofNat top]).drop 8=l.drop 8 ++ List.replicate (7 - (l.drop 8).length % 8) 0 ++ [UInt8.ofNat top]:=by
    rw[g,List.append_assoc,List.drop_append_of_le_length h8,List.append_assoc]
   rw[c,b];refine ih _ _ (by omega) T' ?_;rw[<- b,List.length_drop,hT]; omega
  ·have j:l.length % 8=l.length:=by omega
   obtain rfl:T=1:=by simp at hT; omega
   simp only[fin,if_neg h8,ny];rw[j,List.take_of_length_le (by simp; omega),zC l top (by omega) ht]
theorem BE(k0 k1:Int)(l:List UInt8)(T:Nat)(hT:(pad l).length=8*T):sip k0 k1 l=lR (ny T (start k0 k1) (pad l)):=
 zD _ (by omega) _ _ _ (Fa _) T hT
theorem C8(X:List UInt8)(d:Nat)(hX:X.length=8)(hd:d<8):
 IntKind.u64.wrap (IntKind.u64.wrap ((le (X.drop (d+1)):Int)*256)+IntKind.u64.wrap ((X[d]?.getD 0).toNat:Int))=(le (X.drop d):Int):=by
 have b:X.drop d=X[d]::X.drop (d+1):=List.drop_eq_getElem_cons (by omega)
 have h1:le (X.drop d)=(X[d]?.getD 0).toNat+256*le (X.drop (d+1)):=by rw[b,List.getElem?_eq_getElem (by omega)]; rfl
 have h2:=yB (X.drop d);have h3:256 ^ (X.drop d).length<=256 ^ 8:=Nat.pow_le_pow_right (by decide) (by rw[List.length_drop]; omega)
 have h4:(256:Nat) ^ 8=18446744073709551616:=by decide
 rw[IntKind.wrap_u64,IntKind.wrap_u64,IntKind.wrap_u64];omega
theorem zE(l:List UInt8)(n:Nat)(h:l.length<=7):
 bits .or .u64 (le l:Int) (IntKind.u64.wrap ((n:Int)*72057594037927936))=((le l+n % 256*256 ^ 7:Nat):Int):=by
 have b:le l<256 ^ 7:=Fd (yB l) (Nat.pow_le_pow_right (by decide) h)
 have c:IntKind.u64.wrap ((n:Int)*72057594037927936)=((n % 256*256 ^ 7:Nat):Int):=by rw[IntKind.wrap_u64]; omega
 rw[c,gZ _ _ (by omega) (by omega),kD _ _ _ b]
end Sip
end Go.Proofs.YtlailakofhenkabGreatDoor
