import Derived.Test.YtlailakofhenkabGreatDoorB43
set_option maxRecDepth 100000
set_option maxHeartbeats 16000000
namespace Go.Proofs.YtlailakofhenkabGreatDoor
open Go Go.RowKit Tok Sc Ev Tryz RegD
attribute [local go_sem] rA oA
theorem wl(c:UInt8)(t:List UInt8)(hl:t.length<=5000)(W:World)(hL:aU W):
 Calls prog 102 #[.string (Ev.bs t),.string ⟨#[c]⟩] W fun e W'=>e=.returned (.slice (some ⟨W.heap.size,0,none⟩) (parts c t).length (parts c t).length)∧aO W' W.heap.size ((parts c t).map Ev.bs)∧Below W.heap.size W W':=by
 obtain⟨m,hm⟩:=hL;refine (strings_Split (Ev.bs t) ⟨#[c]⟩ m W (by rw[aT]; omega) hm (by show 0<1; decide)).mono ?_
 have f:=gW c (Ev.bs t);have h2:=Lib.splitB_all ⟨#[c]⟩ (by show 0<1; decide) 0 _ (Ev.bs t) rfl
 rw[show (Ev.bs t).data.toList=t from rfl] at f
 generalize Lib.splitB ⟨#[c]⟩ 0 (Lib.countB (Ev.bs t) ⟨#[c]⟩) (Ev.bs t)=ps at *;generalize Lib.countB (Ev.bs t) ⟨#[c]⟩=N at *
 have b:ps=(parts c t).map Ev.bs:=by
  rw[<- f,List.map_map];exact (List.map_id' ps).symm
 rintro e w' ⟨rfl,rfl⟩
 have g:N+1=(parts c t).length:=by
  have h3:ps.length=(parts c t).length:=by rw[b,List.length_map]
  omega
 refine⟨by rw[g],?_,bA _ _⟩
 rw[<- b];exact bH W ps _
theorem yo:fA cM.r:=⟨by unfold okN cM; decide,by unfold okN cM; decide,by unfold okN cM; decide,by unfold okN cM; decide⟩
theorem yp(w1 w2:World)(hdoc:aF w2 w1.heap.size fU (.slice none 0 0))(hb:Below w1.heap.size w1 w2)(hL:av w1)(hO:bE w1.heap.size):
 Ho w1.heap.size 0 ((w2.alloc (.cells #[.pointer (some ⟨w1.heap.size,0,none⟩),.int .i64 1,.int .i64 20,.int .i64 100,.int .i64 5] 65)).alloc (.cells #[.pointer (some ⟨w2.heap.size,0,none⟩)] 175)) (w2.heap.size+1) w2.heap.size w1.heap.size cM (.slice none 0 0)∧Below w1.heap.size w1 ((w2.alloc (.cells #[.pointer (some ⟨w1.heap.size,0,none⟩),.int .i64 1,.int .i64 20,.int .i64 100,.int .i64 5] 65)).alloc (.cells #[.pointer (some ⟨w2.heap.size,0,none⟩)] 175)):=by
 have c:=bA w2 (.cells #[.pointer (some ⟨w1.heap.size,0,none⟩),.int .i64 1,.int .i64 20,.int .i64 100,.int .i64 5] 65);have m:Below w2.heap.size w2 ((w2.alloc (.cells #[.pointer (some ⟨w1.heap.size,0,none⟩),.int .i64 1,.int .i64 20,.int .i64 100,.int .i64 5] 65)).alloc (.cells #[.pointer (some ⟨w2.heap.size,0,none⟩)] 175)):=c.alloc c.size _;have b:(w2.alloc (.cells #[.pointer (some ⟨w1.heap.size,0,none⟩),.int .i64 1,.int .i64 20,.int .i64 100,.int .i64 5] 65)).heap.size=w2.heap.size+1:=by simp
 have f:=hb.tm m;have g:∀(i:Nat) (u:Value),(#[Value.pointer (some ⟨w1.heap.size,0,none⟩),.int .i64 1,.int .i64 20,.int .i64 100,.int .i64 5])[i]?=some u->(((w2.alloc (.cells #[.pointer (some ⟨w1.heap.size,0,none⟩),.int .i64 1,.int .i64 20,.int .i64 100,.int .i64 5] 65)).alloc (.cells #[.pointer (some ⟨w2.heap.size,0,none⟩)] 175))).cell? ⟨w2.heap.size,i,none⟩=some u:=fun i u hu=>(World.cell?_alloc_lt _ _ _ (by rw[b]; exact Fj _)).trans ((Fb _ _ _ _ rfl).trans hu)
 have n:(((w2.alloc (.cells #[.pointer (some ⟨w1.heap.size,0,none⟩),.int .i64 1,.int .i64 20,.int .i64 100,.int .i64 5] 65)).alloc (.cells #[.pointer (some ⟨w2.heap.size,0,none⟩)] 175))).cell? ⟨w2.heap.size+1,0,none⟩=some (.pointer (some ⟨w2.heap.size,0,none⟩)):=by
  rw[<- b];exact (Fb _ _ _ _ rfl).trans rfl
 have o:(((w2.alloc (.cells #[.pointer (some ⟨w1.heap.size,0,none⟩),.int .i64 1,.int .i64 20,.int .i64 100,.int .i64 5] 65)).alloc (.cells #[.pointer (some ⟨w2.heap.size,0,none⟩)] 175))).frozen? ⟨w2.heap.size+1,0,none⟩=false:=by
  rw[<- b];exact Ff _ _ _ _ rfl
 have j:=hdoc.lt;have k:eD ((w2.alloc (.cells #[.pointer (some ⟨w1.heap.size,0,none⟩),.int .i64 1,.int .i64 20,.int .i64 100,.int .i64 5] 65)).alloc (.cells #[.pointer (some ⟨w2.heap.size,0,none⟩)] 175)) w2.heap.size w1.heap.size ⟨1,20,100,5⟩:=⟨g 0 _ rfl,g 1 _ rfl,g 2 _ rfl,g 3 _ rfl,g 4 _ rfl,by simp; omega⟩
 exact⟨⟨⟨hdoc.on m,bS pM (by omega),k,hL.on f,yo,j,az.nil _ _ _,hO⟩,n,o,by omega,by omega,az.nil _ _ _,by omega,Fa _,hO⟩,f⟩
structure LI (w1 W:World) (s:List UInt8) (gh gx gr j:Nat) (d:Dk) (v:Value) (out:List UInt8):Prop where
 sess:iD ((ax s).take j) cM d out
 ho:Ho w1.heap.size (22*j) W gh gx gr d v
 below:Below w1.heap.size w1 W
 len:out.length<=j*100001
theorem LI.on{w1 W W':World}{s:List UInt8}{gh gx gr j:Nat}{d:Dk}{v:Value}{out:List UInt8}(h:LI w1 W s gh gx gr j d v out)(hb:Below W.heap.size W W'):LI w1 W' s gh gx gr j d v out:=
 ⟨h.sess,h.ho.on hb,h.below.tm hb,h.len⟩
variable {s:List UInt8}
theorem LI.next{w1 W W':World}{L a:List UInt8}{gh gx gr gx' gr' j:Nat}{d d':Dk}{v v':Value}{out:List UInt8}(h:LI w1 W s gh gx gr j d v out)(hL:(ax s)[j]?=some L)(hr:cJ d L d' a)(ha:a.length<=100000)(ho:Ho w1.heap.size (22*j+22) W' gh gx' gr' d' v')(hb:Below w1.heap.size W W'):LI w1 W' s gh gx' gr' (j+1) d' v' (out ++ a ++ [10]):=by
 refine⟨?_,ho.mono (by omega),h.below.trans hb,?_⟩
 ·rw[vg hL]
  exact h.sess.snoc hr
 ·have:=h.len
  simp only[List.length_append,List.length_cons,List.length_nil];omega
theorem iH(h:s.length<=4000):(∀x∈ax s,x.length<=4000)∧(ax s).length<=4001:=by
 have b:=dG (c:=10) _ (fW s) (Fa _);have h2:=qe s;exact⟨fun x hx=>by have:=b.1 x hx; omega,by have:=b.2; unfold ax; omega⟩
theorem kz(s:List UInt8)(w1:World)(gl gm k:Nat)(R:Ending->World->Prop)(s0:ByteArray)(s1 s4 s5 s6 s7 s8 s9 s10 s11 s12 s13 s14 s15 s16 s17 s18 s19 s20 s21 s22 s23 s24 s25 s26 s27 s28 s29 s30 s31 s32 s33 s34 s35 s36 s37 s38 s39 s40 s41 s42 s43 s44 s45 s46 s47 s48 s49 s50 s51 s52 s53 s54 s55 s56 s57 s58 s59 s60 s61 s62 s63 s64 s65 s66 s67 s68 s69 s70 s71 s72 s73 s74 s75 s76 s77 s78 s79 s80 s81 s82 s83 s84 s85:Value)(HS:Hid (s.length<=4000))(HWL:Hid (aO w1 gl ((ax s).map Ev.bs)))(HF:Hid (bo w1 gm))(HL:Hid (av w1))(HO:Hid (bE w1.heap.size))(HR:Hid (∀o w',kS (ax s) cM o->Below w1.heap.size w1 w'->R (.returned (.string ⟨o.toArray⟩)) w')):
 (A2 6 Tryz.f49).wp prog (bodyPost prog Tryz.f49 R) { tmps:=(List.toArray (.string s0::s1::.string ⟨#[]⟩::.slice (some ⟨gl,0,none⟩) (ax s).length k::s4::s5::s6::s7::s8::s9::s10::s11::s12::s13::s14::s15::s16::s17::s18::s19::s20::s21::s22::s23::s24::s25::s26::s27::s28::s29::s30::s31::s32::s33::s34::s35::s36::s37::s38::s39::s40::s41::s42::s43::s44::s45::s46::s47::s48::s49::s50::s51::s52::s53::s54::s55::s56::s57::s58::s59::s60::s61::s62::s63::s64::s65::s66::s67::s68::s69::s70::s71::s72::s73::s74::s75::s76::s77::s78::s79::s80::s81::s82::s83::s84::s85:: [])),defers:= [] } w1:=by
 have M:Hid _:=iH HS.o;have Ed:Hid _:=HF.o.map.lt;have Ee:Hid _:=Fc _ _ HF.o.cell;have Ef:Hid _:=HWL.o.1;conv=>arg 2; whnf
 go_wp2_with fail;refine (kY w1).mono ?_;rintro e1 w2 ⟨rfl,hdoc,hb1⟩;obtain⟨hh,hbb⟩:=yp w1 w2 hdoc hb1 HL.o HO.o;have HH:Hid (LI w1 ((w2.alloc (.cells (V_ w1.heap.size 1 20 100 5) 65)).alloc (.cells #[p_ w2.heap.size 0] 175)) s (w2.heap.size+1) w2.heap.size w1.heap.size 0 cM (.slice none 0 0) []):=⟨⟨rfl,rfl⟩,hh,hbb,Fo _⟩;clear hh hbb hdoc hb1;go_upto_region 8 with fail;have N:(w2.alloc (.cells (V_ w1.heap.size 1 20 100 5) 65)).heap.size=w2.heap.size+1:=by simp
 try rw[N]
 clear N;generalize hgh:w2.heap.size+1=gh at *;generalize ((w2.alloc _).alloc _)=W0 at *;clear hgh;go_wp2_with fail;go_loopg [5,43] (ax s).length (fun gk ov iv wr=>∃(j gx gr:Nat) (d:Dk) (v:Value) (out:List UInt8),j+gk=(ax s).length∧iv=.i_ j∧ov=.string ⟨out.toArray⟩∧Hid (LI w1 wr s gh gx gr j d v out))
 case atStart=>exact⟨0,_,_,_,_,[],by omega,rfl,rfl,HH⟩
 case round=>
  obtain⟨j,gx,gr,d,v,out,hj,rfl,rfl,HI⟩:=hrel;have C:Hid _:=hj;clear hj;by_cases hlt:j<(ax s).length
  ·obtain⟨L,hx⟩:∃x,(ax s)[j]?=some x:=⟨_,Fh hlt⟩
   have HX:Hid _:=hx
   have O:wr.c_ gl j=some (.string (Ev.bs L)):=by
    have g:=HWL.o.2 j (Ev.bs L) (by rw[List.getElem?_map,hx]; rfl)
    rw[Nat.zero_add] at g;exact (HI.out.below.cell (p:=(a_ gl j)) Ef.o).trans g
   have T:(j:Int)<((ax s).length:Int):=by omega
   have r:Hid _:=M.o.1 L (FE hx);have Eg:Hid _:=wl 32 L (by have:=r.o; omega) wr HI.out.ho.rv.libs.len
   clear hx;go_wp2_with fail;refine Calls.mono Eg.o ?_;rintro e3 w3 ⟨rfl,hwa,hb3⟩;have U:Hid _:=hwa;have D:Hid _:=HI.out.on hb3;have E:Hid ((parts 32 L).length<=4001):=(show _<=_ by have:=(dG (c:=32) _ L (Fa _)).2; have:=r.o; omega)
   have HPW:Hid (∀x∈parts 32 L,x.length<=4000):=fun x hx=>by have:=(dG (c:=32) _ L (Fa _)).1 x hx; have:=r.o; omega
   have Eh:Hid _:=U.o.1;have Ei:Hid _:=yn L;clear hwa hb3 O T HI;generalize gk=gq at *;generalize wr.heap.size=g3 at *;go_wp2_with fail;go_loopg [8,50] (parts 32 L).length (fun gk vn iv wx=>∃i:Nat,i+gk=(parts 32 L).length∧iv=.i_ i∧Hid (aw w3.heap.size wx vn ((fL (parts 32 L) i).map Ev.bs))∧Hid (Below w3.heap.size w3 wx))
   case atStart=>exact⟨0,by omega,rfl,.inl ⟨rfl,rfl⟩,E9 _ _⟩
   case round=>
    obtain⟨i,hi,rfl,HWD,HBX⟩:=hrel;have V:Hid _:=hi;clear hi;by_cases hlt2:i<(parts 32 L).length
    ·obtain⟨x,hx⟩:∃x,(parts 32 L)[i]?=some x:=⟨_,Fh hlt2⟩
     have O:wr.c_ g3 i=some (.string (Ev.bs x)):=by
      have g:=U.o.2 i (Ev.bs x) (by rw[List.getElem?_map,hx]; rfl)
      rw[Nat.zero_add] at g;exact (HBX.out.cell (p:=(a_ g3 i)) Eh.o).trans g
     have Ej:(i:Int)<((parts 32 L).length:Int):=by omega
     have t:Hid _:=vj hx;clear hx;by_cases he:x= []
     ·have hq:(Ev.bs x).toList.isEmpty=true:=by rw[he,ByteArray.toList_eq]; rfl
      rw[if_pos he,List.append_nil] at t;clear he;go_wp2_with fail;go_roundg (gk - 1)
      case measure=>have:=V.o; omega
      case rel=>exact⟨i+1,by have:=V.o; omega,congrArg (Value.int .i64) (by have:=E.o; unfold wrap64; omega),(show aw _ _ _ _ by rw[t.o]; exact HWD.out),HBX⟩
     ·have hq:(Ev.bs x).toList.isEmpty=false:=by
       rw[ByteArray.toList_eq,List.isEmpty_eq_false_iff];exact he
      rw[if_neg he] at t;clear he;have F:=bA wr (.cells #[.string (Ev.bs x)] 9);have Ek:Hid _:=HWD.out.below F (Fa _);have X:Hid _:=HBX.out.tm F;have El:Hid (((fL (parts 32 L) i).map Ev.bs).length<=1000000):=(show _<=_ by have h1:=A6 (parts 32 L) i; have h2:=E.o; rw[List.length_map]; omega)
      obtain⟨i0,hi0,hz0,hz1,hz2⟩:=nZ;clear F;go_wp2_with (at_builtin; refine bz _ rfl _ _ 66 rfl 9 i0 underlying66 hi0 hz0 hz1 hz2 w3.heap.size _ _ rfl Ek.o X.o.size (a_ wr.heap.size 0) 1 _ rfl ((Fb _ _ _ _ rfl).trans rfl) El.o ?_)
      intro v8 w8 hw8 hb8;have Em:Hid (aw w3.heap.size w8 v8 ((fL (parts 32 L) (i+1)).map Ev.bs)):=(show aw _ _ _ _ by rw[t.o,List.map_append]; exact hw8)
      have En:Hid _:=X.o.trans hb8;clear hw8 hb8 hi0 hz0 hz1 hz2;go_wp2_with fail;go_roundg (gk - 1)
      case measure=>have:=V.o; omega
      case rel=>exact⟨i+1,by have:=V.o; omega,congrArg (Value.int .i64) (by have:=E.o; unfold wrap64; omega),Em,En⟩
    ·obtain rfl:i=(parts 32 L).length:=by have:=V.o; omega
     rw[Ei.o] at HWD;have b:Hid _:=D.o.on HBX.out;have Eo:Hid _:=D.o.ho.rv.doc.lt;have G:Hid (out.length<=500000000):=(show _<=_ by have h1:=D.o.len; have h2:=M.o.2; omega)
     have HJ:Hid (22*j<97000):=(show _<_ by have h2:=M.o.2; omega)
     have H:Hid (∀a:List UInt8,(⟨out.toArray⟩:ByteArray) ++ (⟨a.toArray⟩ ++ ⟨#[10]⟩)=⟨(out ++ a ++ [10]).toArray⟩):=fun a=>aK (by simp)
     have B:∀(a:List UInt8) (W:World) (d':Dk) (gx' gr':Nat) (v':Value),a.length<=100000->cJ d L d' a->Ho w1.heap.size (22*j+22) W gh gx' gr' d' v'->Below w1.heap.size wr W->LI w1 W s gh gx' gr' (j+1) d' v' (out ++ a ++ [10]):=fun a W d' gx' gr' v' h1 h2 h3 h4=>b.o.next HX.o h2 h1 h3 h4;have m:Hid _:=B;clear B hlt2
     cases hwl:bN L with
     |nil=>
      rw[hwl] at HWD;have q:Hid _:=m.o [111,107] wr d gx gr v (by decide) (sN hwl) (b.o.ho.mono (by omega)) (E9 _ _)
      obtain⟨b8,c8,rfl⟩:=HWD.out.slice;simp only[List.map_nil,List.length_nil];clear hwl;have n1:¬ 9223372036854775807<out.length+3:=by have:=G.o; omega
      go_wp2_with fail;go_roundg (gq - 1)
      case measure=>have:=C.o; omega
      case rel=>exact⟨j+1,gx,gr,d,v,out ++ [111,107] ++ [10],by have:=C.o; omega,congrArg (Value.int .i64) (by have:=M.o.2; unfold wrap64; omega),congrArg Value.string (H.o [111,107]),q⟩
     |cons c ws=>
      rw[hwl] at HWD;have Ep:Hid _:=hwl;have Er:Hid (∀x∈c::ws,x.length<=5000):=fun x hx=>by have g:=(kX L).1 x (by rw[hwl]; exact hx); have:=r.o; omega
      clear hwl;obtain⟨g8,c8,rfl,hg8,hc8,hcells⟩:=mZ (aE.words HWD.out) (by simp)
      simp only[List.length_map,List.length_cons] at hc8 ⊢;have Es:Hid _:=hc8;have f:wr.c_ g8 0=some (.string (Ev.bs c)):=hcells 0 _ rfl
      have Et:Hid (fK wr g8 1 (ws.map Ev.bs)):=⟨fun i x hi=>by
       rw[Nat.add_comm 1 i];exact hcells (i+1) _ (by simp only[List.map_cons,List.getElem?_cons_succ,List.getElem?_map,hi,Option.map_some]),fun _=>World.block_lt_of_cell? _ _ f⟩
      obtain⟨ba,HBA⟩:∃ba:Option Addr,Hid (ba=if c8=1 then o_ g8 0 else o_ g8 1):=⟨_,rfl⟩
      have Eu:Hid (ws≠ []->ba=o_ g8 1):=fun hne=>by
       have g:=List.length_pos_iff.2 hne;rw[HBA.out,if_neg (by have:=Es.o; omega)]
      have Ew:Hid (∀a o,ba=o_ a o->a≠gr):=fun a o he=>by
       rw[HBA.out] at he;have g:=Eo.o;split at he <;> (simp only[Option.some.injEq,Addr.mk.injEq] at he; omega)
      have z:Hid (Below wr.heap.size wr wr.drew):=(E9 _ _).drew;have Ex:Hid _:=qy w1.heap.size (22*j) wr.drew gm gh gx gr d v L c ws g8 1 (c8 - 1) ba ((HF.o.below b.o.below Ee.o Ed.o).on z.o) (b.o.ho.on z.o) HJ.o Eu.o (Et.o.on z.o) Er.o b.o.below.size Ew.o Ep.o;have Ey:¬ ((ws.length:Int)+1<1):=by omega
      have Ez:(0:Int)<(ws.length:Int)+1:=by omega
      clear hg8 hc8 hcells;go_upto_region 20 with fail;refine region_ (fun _=>True) 11 (trivial) fun hH=>?_;refine RegD.take1 0 (p_ gh 0) rfl hH (fun W hW=>by go_simp) ?_;simp only[Act.put,pS1,pS2,pS3];refine RegD.take1 1 (.slice (o_ g8 0) (ws.length+1) c8) rfl hH (fun W hW=>by go_simp) ?_;simp only[Act.put,pS1,pS2,pS3];refine RegD.take1 2 (p_ g8 0) rfl hH (fun W hW=>by go_simp) ?_;simp only[Act.put,pS1,pS2,pS3];refine RegD.take1 4 (.slice (o_ g8 0) (ws.length+1) c8) rfl hH (fun W hW=>by go_simp) ?_;simp only[Act.put,pS1,pS2,pS3];refine RegD.take1 5 (.slice ba ws.length (c8 - 1)) rfl hH (fun W hW=>by rw[HBA.out]; go_simp) ?_
      simp only[Act.put,pS1,pS2,pS3];refine one_ 3 ?_; intro K hK; go_simp;refine hK.out _ _ (trivial) ?_;clear hK hH;intro hH;clear K;refine one_ 6 ?_; intro K hK; go_simp;refine Calls.mono Ex.o ?_;rintro e4 w4 ⟨d',x,n,gx',gr',v',a,rfl,hline,hn,ha,hx0,hx1,hho,hb4⟩;have I:Hid _:=(z.o.mono b.o.below.size).trans hb4;have A:Hid _:=ha;have Y:Hid _:=hn;have EA:Hid _:=hx0;have EB:Hid _:=hx1;have Z:Hid _:=hline;have J:Hid _:=hho;clear ha hn hx0 hx1 hline hho hb4;go_wp2_with fail;refine hK.out _ _ (trivial) ?_;clear hK hH;intro hH;clear K;refine an [(7,.tuple #[.string x,.i_ (n:Nat)]),(8,.string x),(9,.i_ (n:Nat)),(10,.string x)] hH (fun W hW=>by go_simp) ?_;simp only[pA,oA,Act.put,pS1]
      refine late_ 11 ?_; intro K hK; go_simp;refine hK.out _ _ ?_;clear hK K;refine done_ ?_;clear hH f Ey Ez;by_cases hz:n=0
      ·have EC:=EA.o hz
       subst hz;subst EC;rw[show ((0:Nat):Int)=0 from rfl]
       have n1:¬ 9223372036854775807<a.length+1:=by have:=A.o; omega
       have n2:¬ 9223372036854775807<out.length+(a.length+1):=by have:=A.o; have:=G.o; omega
       have q:Hid _:=m.o a w4 d' gx' gr' v' A.o Z.o J.o I.o;go_wp2_with fail;go_roundg (gq - 1)
       case measure=>have:=C.o; omega
       case rel=>exact⟨j+1,gx',gr',d',v',out ++ a ++ [10],by have:=C.o; omega,congrArg (Value.int .i64) (by have:=M.o.2; unfold wrap64; omega),congrArg Value.string (H.o a),q⟩
      ·have hq:((n:Int) == 0)=false:=beq_eq_false_iff_ne.2 (by omega)
       have hq2:¬ (n:Int)=0:=by omega
       have ED:Hid _:=ti (n:Int) w4 ⟨by omega,by have:=Y.o; omega⟩ J.o.rv.libs
       obtain rfl:=EB.o hz
       have EE:Hid ((⟨#[101,114,114,111,114,32]⟩:ByteArray) ++ Ev.bs (Lib.itoa (n:Int))=⟨(errL n).toArray⟩):=by
        show _=_
        unfold errL;exact aK (by simp[Ev.bs])
       have EF:(Lib.itoa (n:Int)).length<=13:=ar ⟨by omega,by have:=Y.o; omega⟩
       have n1:¬ 9223372036854775807<6+(Lib.itoa (n:Int)).length:=by omega
       have n2:¬ 9223372036854775807<6+(Lib.itoa (n:Int)).length+1:=by omega
       have n3:¬ 9223372036854775807<out.length+(6+(Lib.itoa (n:Int)).length+1):=by have:=G.o; omega
       clear EF;go_wp2_with fail;refine Calls.mono ED.o ?_;rintro e5 w5 ⟨rfl,hb5⟩;have q:Hid _:=m.o (errL n) w5 d' gx' gr' v' A.o Z.o (J.o.on hb5) (I.o.trans (hb5.mono (Fe b.o.below.size I.o.size)));clear hb5;go_wp2_with fail;go_roundg (gq - 1)
       case measure=>have:=C.o; omega
       case rel=>exact⟨j+1,gx',gr',d',v',out ++ errL n ++ [10],by have:=C.o; omega,congrArg (Value.int .i64) (by have:=M.o.2; unfold wrap64; omega),congrArg Value.string (by rw[EE.o]; exact H.o _),q⟩
  ·obtain rfl:j=(ax s).length:=by have:=C.o; omega
   have EG:Hid (kS (ax s) cM out):=by
    have g:=HI.out.sess;rw[List.take_length] at g;exact g.sess
   go_wp2_with fail;exact HR.o _ _ EG.o HI.out.below
theorem last_at{l:List (List UInt8)}{m:Nat}{q:List UInt8}(hm:l.length=m+1)(h:l[m]?=some q):l.getLast?=some q:=by
 rw[List.getLast?_eq_getElem?,hm];exact h
theorem nM(s:ByteArray)(w:World)(gm:Nat)(hs:s.size<=4000)(hF:bo w gm)(hL:av w)(hO:bE w.heap.size):
 Calls prog 49 #[.string s] w fun e w'=>∃o,e=.returned (.string ⟨o.toArray⟩)∧ey s.data.toList o∧Below w.heap.size w w':=by
 have C:s.data.toList.length=s.size:=Fg;have t:Ev.bs s.data.toList=s:=by simp[Ev.bs]
 have k:Hid _:=wl 10 s.data.toList (by omega) w hL.len
 rw[t] at k;have c:Hid (s.data.toList.length<=4000):=(show _<=_ by omega)
 have D:Hid (bo w gm):=hF;have E:Hid (av w):=hL;have F:Hid (bE w.heap.size):=hO;have G:¬ (20000:Int)<(s.size:Int):=by omega
 clear C t hF hL hO hs;generalize hsd:s.data.toList=L at *;clear hsd;go_enter func49,ntmps49
 go_wp2_with fail
 refine Calls.mono k.o ?_;rintro e1 w1 ⟨rfl,hwa,hb1⟩;have b:Hid (aO w1 w.heap.size ((parts 10 L).map Ev.bs)):=hwa;have v:Hid (Below w.heap.size w w1):=hb1;have n:Hid (bo w1 gm):=D.o.on hb1;have p:Hid (av w1):=E.o.on hb1;have r:Hid (bE w1.heap.size):=F.o.mono hb1.size
 have f:Hid (∀o w',kS (ax L) cM o->Below w1.heap.size w1 w'->∃o',Ending.returned (.string ⟨o.toArray⟩)=.returned (.string ⟨o'.toArray⟩)∧ey L o'∧Below w.heap.size w w'):=fun o w' h1 h2=>⟨o,rfl,by
  unfold ey;rw[if_neg (by have:=c.o; omega)]
  exact h1,v.o.trans (h2.mono v.o.size)⟩
 have M:=ym L
 have H:wrap64 ((ax L).length:Int)=((ax L).length:Int):=by
  have z:=(iH c.o).2;unfold wrap64;omega
 have A:wrap64 (((ax L).length:Int) - 1)=((ax L).length:Int) - 1:=by
  have z:=(iH c.o).2;unfold wrap64;omega
 clear hwa hb1 G k;by_cases hz:L.getLast?=some 10
 ·rw[yl hz] at b ⊢
  have I:Hid (aO w1 w.heap.size ((ax L).map Ev.bs)):=⟨b.o.1,fun j x hj=>b.o.2 j x (by
   rw[List.map_append,List.getElem?_append_left (List.getElem?_eq_some_iff.1 hj).1];exact hj)⟩
  have N:w1.cell? ⟨w.heap.size,(ax L).length,none⟩=some (.string (Ev.bs [])):=by
   have z:=b.o.2 (ax L).length (Ev.bs []) (by rw[List.map_append,List.getElem?_append_right (by simp)]; simp)
   rwa [Fl] at z
  have O:(Ev.bs []).toList.isEmpty=true:=by rw[ByteArray.toList_eq]; rfl
  simp only[List.length_append,List.length_cons,List.length_nil,Nat.zero_add];clear hz b;have g:(1:Int)<((ax L).length:Int)+1:=by omega
  go_upto_region 6 with (refine (show Code.wp _ (Code.seq (Code.region 6 _ _) _) _ _ _ from wk.out ?_))
  refine⟨?_⟩;exact kz L w1 w.heap.size gm ((ax L).length+1) _ s _ _ _ _ _ _ _ _ _ _ _ _ _ _ _ _ _ _ _ _ _ _ _ _ _ _ _ _ _ _ _ _ _ _ _ _ _ _ _ _ _ _ _ _ _ _ _ _ _ _ _ _ _ _ _ _ _ _ _ _ _ _ _ _ _ _ _ _ _ _ _ _ _ _ _ _ _ _ _ _ _ _ _ c I n p r f
 ·rw[o0 hz] at b ⊢
  by_cases h1:(ax L).length=1
  ·have g:¬ (1:Int)<((ax L).length:Int):=by omega
   clear hz h1;go_upto_region 6 with (refine (show Code.wp _ (Code.seq (Code.region 6 _ _) _) _ _ _ from wk.out ?_))
   refine⟨?_⟩;exact kz L w1 w.heap.size gm (ax L).length _ s _ _ _ _ _ _ _ _ _ _ _ _ _ _ _ _ _ _ _ _ _ _ _ _ _ _ _ _ _ _ _ _ _ _ _ _ _ _ _ _ _ _ _ _ _ _ _ _ _ _ _ _ _ _ _ _ _ _ _ _ _ _ _ _ _ _ _ _ _ _ _ _ _ _ _ _ _ _ _ _ _ _ _ c b n p r f
  ·have g:(1:Int)<((ax L).length:Int):=by omega
   obtain⟨m,hm⟩:∃m,(ax L).length=m+1:=⟨(ax L).length - 1,by omega⟩
   obtain⟨q,hx⟩:∃x,(ax L)[m]?=some x:=⟨_,Fh (by omega)⟩
   have B:q≠ []:=fun e=>vi hz (by omega) (by rw[last_at hm hx,e])
   have O:(Ev.bs q).toList.isEmpty=false:=by
    rw[ByteArray.toList_eq,List.isEmpty_eq_false_iff];exact B
   have N:w1.cell? (a_ w.heap.size m)=some (.string (Ev.bs q)):=by
    have z:=b.o.2 m (Ev.bs q) (by rw[List.getElem?_map,hx]; rfl)
    rwa [Fl] at z
   have J:((ax L).length:Int) - 1=(m:Int):=by omega
   rw[J] at A;have R:(m:Int)<((ax L).length:Int):=by omega
   clear hz h1 B hx hm H;go_upto_region 6 with (refine (show Code.wp _ (Code.seq (Code.region 6 _ _) _) _ _ _ from wk.out ?_))
   refine⟨?_⟩;exact kz L w1 w.heap.size gm (ax L).length _ s _ _ _ _ _ _ _ _ _ _ _ _ _ _ _ _ _ _ _ _ _ _ _ _ _ _ _ _ _ _ _ _ _ _ _ _ _ _ _ _ _ _ _ _ _ _ _ _ _ _ _ _ _ _ _ _ _ _ _ _ _ _ _ _ _ _ _ _ _ _ _ _ _ _ _ _ _ _ _ _ _ _ _ c b n p r f
theorem lm(s:ByteArray)(w:World)(hs:20000<s.size)(hm:s.size<=1000000):
 Calls prog 49 #[.string s] w fun e w'=>e=.returned (.string ⟨(errL 4 ++ [10]).toArray⟩)∧w'=w:=by
 have b:(20000:Int)<(s.size:Int):=by omega
 have c:J ((⟨#[101,114,114,111,114,32,52,10]⟩:ByteArray)=⟨(errL 4 ++ [10]).toArray⟩):=by
  show _=_
  decide +kernel
 clear hs hm;go_enter func49,ntmps49
 go_wp2_with fail;go_ret;exact⟨congrArg (fun x=>Ending.returned (.string x)) c.o,rfl⟩
theorem ni(s:ByteArray)(w:World)(gm:Nat)(hn:s.size<=4000)(hF:bo w gm)(hL:av w)(hO:bE w.heap.size):
 Calls prog 8 #[.string s] w fun e w'=>e=.returned (.bool true)∧Below w.heap.size w w':=by
 have m:¬ (4000:Int)<(s.size:Int):=by omega
 have n:¬ (30000:Int)<(s.size:Int):=by omega
 have g:J (s.size<=4000):=hn;have p:J (bo w gm):=hF;have j:J (av w):=hL;have k:J (bE w.heap.size):=hO;clear hn hF hL hO;go_enter func8,ntmps8
 go_wp2_with fail
 refine (nG s w g.o j.o k.o).mono ?_;rintro e1 w1 ⟨o,rfl,hse,hb1⟩;have b:J _:=hb1;have c:J _:=hse;clear hse hb1;go_wp2_with fail
 refine (nM s w1 gm g.o (p.o.on b.o) (j.o.on b.o) (k.o.mono b.o.size)).mono ?_;rintro e2 w2 ⟨o2,rfl,hs2,hb2⟩;obtain rfl:=sm c.o hs2;have f:J _:=b.o.trans (hb2.mono b.o.size);clear hs2 hb2;go_wp2_with fail
 go_ret;exact⟨by simp,f.o⟩
theorem ln(s:ByteArray)(w:World)(hn:20000<s.size)(hm:s.size<=30000)(hL:av w):
 Calls prog 8 #[.string s] w fun e w'=>e=.returned (.bool true)∧Below w.heap.size w w':=by
 have g:(4000:Int)<(s.size:Int):=by omega
 have j:¬ (s.size:Int)<=20000:=by omega
 have k:¬ (30000:Int)<(s.size:Int):=by omega
 have c:J _:=hn;have f:J _:=hm;have m:J _:=hL;clear hn hm hL;go_enter func8,ntmps8
 go_wp2_with fail;refine (qg s w c.o (by have:=f.o; omega) m.o).mono ?_
 rintro e1 w1 ⟨rfl,hb1⟩;have b:J _:=hb1;clear hb1;go_wp2_with fail;refine (lm s w1 c.o (by have:=f.o; omega)).mono ?_
 rintro e2 w2 ⟨rfl,rfl⟩;generalize errL 4 ++ [10]=q at *;go_wp2_with fail;go_ret;exact⟨by simp,b.o⟩
theorem lq(s:ByteArray)(w:World)(hn:(4000<s.size∧s.size<=20000)∨30000<s.size)(hm:s.size<=140737488355328):
 Calls prog 8 #[.string s] w fun e w'=>e=.returned (.bool true)∧Below w.heap.size w w':=by
 rcases hn with ⟨h1,h2⟩ | h3
 ·have b:(4000:Int)<(s.size:Int):=by omega
  have c:(s.size:Int)<=20000:=by omega
  clear h1 h2 hm;go_enter func8,ntmps8
  go_wp2_with fail;go_ret;exact⟨rfl,E9 _ _⟩
 ·have b:(4000:Int)<(s.size:Int):=by omega
  have c:¬ (s.size:Int)<=20000:=by omega
  have f:(30000:Int)<(s.size:Int):=by omega
  clear h3 hm;go_enter func8,ntmps8
  go_wp2_with fail;go_ret;exact⟨rfl,E9 _ _⟩
end Go.Proofs.YtlailakofhenkabGreatDoor
