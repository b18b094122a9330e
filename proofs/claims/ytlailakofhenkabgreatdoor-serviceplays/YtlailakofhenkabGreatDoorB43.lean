import Derived.Test.YtlailakofhenkabGreatDoorB42
set_option maxRecDepth 100000
set_option maxHeartbeats 16000000
namespace Go.Proofs.YtlailakofhenkabGreatDoor
open Go Go.RowKit Tok Sc Ev
theorem servicePlaysLaw (k i l a:Int) (asks:List Ask6) (ao:Option Addr) (gA off cap:Nat) (w:World) (hao:0<asks.length→ao=some ⟨gA,off,none⟩) (hgA:gA<w.heap.size) (hrow:Ask6Row w gA off asks) (hsz:∀ x∈asks,x.c.size+x.s.size+x.o.size≤10000000000000000∧x.n≤9223372036854775807) (hn:asks.length≤100)
 (hL:LibsR w) (hO:OldsR w.heap.size) :
 Calls Tryz.prog 4 #[.agg #[.int .i64 k,.int .i64 i,.int .i64 l,.int .i64 a],.slice ao asks.length cap] w fun r w'=>r=.returned (.bool true)∧Below w.heap.size w w':=by
 have hn':¬ (100:Int)<(asks.length:Int):=by omega
 have hb0:Below w.heap.size w (w.alloc (.cells #[.int .i64 k,.int .i64 i,.int .i64 l,.int .i64 a] 54)):=(Below.refl _ _).alloc (Nat.le_refl _) _;have HB0:Hid _:=hb0;have HRB:Hid _:=RuB.made w k i l a 54;have HLB:Hid _:=hL.on hb0;have HOB:Hid (OldsR (w.alloc (.cells #[.int .i64 k,.int .i64 i,.int .i64 l,.int .i64 a] 54)).heap.size):=hO.mono hb0.size;have HG:Hid _:=Nat.lt_of_lt_of_le hgA hb0.size;have HR:Hid (Ask6Row (w.alloc (.cells #[.int .i64 k,.int .i64 i,.int .i64 l,.int .i64 a] 54)) gA off asks):=fun j hj m x hx=>(hb0.cell (p:=⟨gA,off+j*6+m,none⟩) hgA).trans (hrow j hj m x hx);have HS:Hid (∀ x∈asks,x.c.size+x.s.size+x.o.size≤10000000000000000∧x.n≤9223372036854775807):=hsz;have HN:Hid (asks.length≤100):=hn;clear hrow hsz hL hO hb0 hgA hn;go_enter Tryz.func4,Tryz.ntmps4
 go_upto_region 1 with fail
 generalize hWB:(w.alloc (.cells #[.int .i64 k,.int .i64 i,.int .i64 l,.int .i64 a] 54))=WB at *;clear hWB;have HDB:Hid _:=db_zero WB HLB.out.toA HLB.out.base.err HOB.out.toA;have HBD:Hid (Below WB.heap.size WB (WB.alloc (.cells Tryz.zeroCells28 28))):=(Below.refl _ _).alloc (Nat.le_refl _) _;go_wp2_with fail
 refine (openS_is 0 _ WB.heap.size _ HDB.out (by omega)).mono ?_
 rintro e1 w1 ⟨gs,v,rfl,hle,hsp,hb1⟩;have HSP1:Hid (SP 0 w1 gs WB.heap.size emptyP v):=hsp;have HB1:Hid (Below WB.heap.size WB w1):=HBD.out.trans (hb1.mono HBD.out.size);clear hle hsp hb1 HDB HBD;have u0:=(HRB.out.on HB1.out).c0;have u1:=(HRB.out.on HB1.out).c1;have u2:=(HRB.out.on HB1.out).c2;have u3:=(HRB.out.on HB1.out).c3;go_wp2_with fail
 refine (newNil_is w1 k i l a).mono ?_;rintro e2 w2 ⟨rfl,hb2⟩;have HB2:Hid (Below WB.heap.size WB w2):=HB1.out.trans (hb2.mono HB1.out.size);have HSP2:Hid _:=HSP1.out.on hb2;clear hb2 u0 u1 u2 u3 HSP1;have u0:=(HRB.out.on HB2.out).c0;have u1:=(HRB.out.on HB2.out).c1;have u2:=(HRB.out.on HB2.out).c2;have u3:=(HRB.out.on HB2.out).c3
 cases hr:rulB ⟨k,i,l,a⟩ with
 |false=>
  as_aux_lemma=>
   go_wp2_with fail
   refine (newBad_is w2 gs k i l a hr).mono ?_;rintro e3 w3 ⟨rfl,hb3⟩;have HB3:Hid (Below WB.heap.size WB w3):=HB2.out.trans (hb3.mono HB2.out.size);clear hb3 u0 u1 u2 u3;go_wp2_with fail
   refine (bareZ2 7 _ (HLB.out.on HB3.out).base.err).mono ?_;rintro e4 w4 ⟨rfl,hb4⟩;have HB4:Hid (Below WB.heap.size WB w4):=HB3.out.trans (hb4.mono HB3.out.size);clear hb4;have u0:=(HRB.out.on HB4.out).c0;have u1:=(HRB.out.on HB4.out).c1;have u2:=(HRB.out.on HB4.out).c2;have u3:=(HRB.out.on HB4.out).c3;go_wp2_with fail
   refine (refRight_is w4 k i l a).mono ?_;rintro e5 w5 ⟨rfl,hb5⟩;have HB5:Hid (Below WB.heap.size WB w5):=HB4.out.trans (hb5.mono HB4.out.size);clear hb5 u0 u1 u2 u3;rw [hr];go_wp2_with fail
   refine (bareZ2 2 _ (HLB.out.on HB5.out).base.err).mono ?_;rintro e6 w6 ⟨rfl,hb6⟩;have HB6:Hid (Below WB.heap.size WB w6):=HB5.out.trans (hb6.mono HB5.out.size);clear hb6;go_wp2_with fail
   go_ret;exact ⟨rfl,HB0.out.trans (HB6.out.mono (Nat.le_of_lt HRB.out.lt))⟩
 |true=>
  go_wp2_with fail
  refine (new_is 0 w2 gs WB.heap.size k i l a emptyP v HSP2.out (HLB.out.on HB2.out) (rulB_iff.1 hr) HOB.out).mono ?_;rintro e3 w3 ⟨gv,rfl,hle3,hs3,hb3⟩;have HB3:Hid (Below WB.heap.size WB w3):=HB2.out.trans (hb3.mono HB2.out.size);have HS3:Hid _:=hs3;clear hb3 hle3 hs3 u0 u1 u2 u3;go_wp2_with fail
  refine (bareZ2 7 _ (HLB.out.on HB3.out).base.err).mono ?_;rintro e4 w4 ⟨rfl,hb4⟩;have HB4:Hid (Below WB.heap.size WB w4):=HB3.out.trans (hb4.mono HB3.out.size);have HS4:Hid _:=HS3.out.on hb4;clear hb4 HS3;have u0:=(HRB.out.on HB4.out).c0;have u1:=(HRB.out.on HB4.out).c1;have u2:=(HRB.out.on HB4.out).c2;have u3:=(HRB.out.on HB4.out).c3;go_wp2_with fail
  refine (refRight_is w4 k i l a).mono ?_;rintro e5 w5 ⟨rfl,hb5⟩;have HB5:Hid (Below WB.heap.size WB w5):=HB4.out.trans (hb5.mono HB4.out.size);have HS5:Hid _:=HS4.out.on hb5;clear hb5 u0 u1 u2 u3 HS4;rw [hr];go_upto_region 15 with fail
  refine RegD.R_ (fun W=>RuB W w.heap.size k i l a∧SvIs 0 W gv gs WB.heap.size ⟨k,i,l,a⟩ emptyP v∧Below WB.heap.size WB W) 2 (by kernel_rfl) (⟨HRB.out.on HB5.out.drew,HS5.out.on (Below.refl _ _).drew,HB5.out.drew⟩) (fun hH=>?_)
  refine RegD.T_ 1 (v:=.agg #[.int .i64 k,.int .i64 i,.int .i64 l,.int .i64 a]) rfl (by kernel_rfl) (fun _ _ _ h=>h) (.inl ⟨by rfl,fun W hW=>by have a0:=hW.1.c0; have a1:=hW.1.c1; have a2:=hW.1.c2; have a3:=hW.1.c3; go_simp⟩) hH ?_
  simp only [Act.put,pS1,pS2,pS3];refine RegD.O_ 0 rfl (by kernel_rfl) ?_; intro K hK; go_simp
  go_at_call 25
  have HH6:Hid _:=hH;refine (newStore_is _).mono ?_;rintro e6 w6 ⟨rfl,hr6,hb6⟩;have HR6:Hid _:=hr6;have HB6:Hid _:=hb6;go_wp2_with fail
  refine hK.out _ _ (⟨hH.1.on hb6,hH.2.1.on hb6,hH.2.2.trans (hb6.mono hH.2.2.size)⟩) ?_;clear hK hH;intro hH;clear K;have HBG:Hid _:=begin_pv HH6.out.2.1 HH6.out.2.2 HR6.out (Nat.le_refl _) HB6.out HH6.out.2.1.box.lt HOB.out;clear hr6 hb6;clear hH;refine RegD.L_ 2 rfl (by kernel_rfl) (by kernel_rfl) ?_; intro K hK; go_simp
  refine hK.out _ _ ?_;clear hK K;refine RegD.L_ 3 rfl (by kernel_rfl) (by kernel_rfl) ?_; intro K hK; go_simp
  refine hK.out _ _ ?_;clear hK K;refine RegD.L_ 4 rfl (by kernel_rfl) (by kernel_rfl) ?_; intro K hK; go_simp
  refine hK.out _ _ ?_;clear hK K;refine RegD.D_ (by kernel_rfl) ?_ _
  clear HR6 HB6 HH6 HS5 HB5 HB4 HB3 HB2 HB1 HSP2;have hds:w5.drew.heap.size=w5.heap.size:=rfl;rw [hds] at HBG;clear hds;have HPV0:Hid _:=HBG.out.1;clear HBG;go_wp2_with fail
  generalize hWA:(w6.alloc (.cells #[.pointer (some ⟨w5.heap.size,0,none⟩),.int .i64 k,.int .i64 i,.int .i64 l,.int .i64 a] 65))=WA at *;clear hWA;generalize hgx:w6.heap.size=gx at *;clear hgx;generalize hgr:w5.heap.size=gr at *;clear hgr;go_loopg [6,10,12,13] asks.length (fun gk sp cv tv iv wr=>∃ (j gs gv:Nat) (p:Pub) (v vr:Value) (tks:List ByteArray) (bt:Option Addr) (ct:Nat),j+gk=asks.length∧iv=.int .i64 j∧sp=.pointer (some ⟨gs,0,none⟩)∧cv=.pointer (some ⟨gv,0,none⟩)∧tv=.slice bt tks.length ct∧Hid (PV WB j (44*j) gv gs WB.heap.size gx gr ⟨k,i,l,a⟩ p p v vr (.slice bt tks.length ct) tks wr))
  case atStart=>exact ⟨0,_,_,_,_,_,[],_,_,by omega,rfl,rfl,rfl,rfl,HPV0⟩
  case round=>
   as_aux_lemma=>
    obtain ⟨j,gs,gv,p,v,vr,tks,bt,ct,hj,rfl,rfl,rfl,rfl,HP⟩:=hrel;have HJ:Hid (j+gk=asks.length):=hj;clear hj HPV0;by_cases hlt:j<asks.length
    ·have hltI:(j:Int)<(asks.length:Int):=by omega
     obtain rfl:=hao (by omega)
     obtain ⟨hse,hkm⟩:=HS.out asks[j] (List.getElem_mem hlt);have he:∀ (m:Nat) (x:Value),(ask6 asks[j])[m]?=some x→wr.cell? ⟨gA,off+j*6+m,none⟩=some x:=fun m x hx=>(HP.out.bel.cell (p:=⟨gA,off+j*6+m,none⟩) HG.out).trans (HR.out j hlt m x hx);generalize asks[j]=x at *;obtain ⟨xw,xn,xt,xc,xs,xo⟩:=x;have HN4:Hid (j<100):=by have:=HN.out; show j<100; omega
     have HXN:Hid (xn≤9223372036854775807):=hkm;have HSE:Hid (xc.size+xs.size+xo.size≤10000000000000000):=hse;have k0:=he 0 _ rfl;have k1:=he 1 _ rfl;have k2:=he 2 _ rfl;have k3:=he 3 _ rfl;have k4:=he 4 _ rfl;have k5:=he 5 _ rfl;simp only [Nat.add_zero] at k0;simp only at k0 k1 k2 k3 k4 k5;clear he hkm hse;have HX0:Hid _:=XA.made wr xw xn xt xc xs xo 68;have HAL:Hid (Below wr.heap.size wr (wr.alloc (.cells #[.int .i64 xw,.int .i64 xn,.int .i64 xt,.string xc,.string xs,.string xo] 68))):=(Below.refl _ _).alloc (Nat.le_refl _) _;have HP0:Hid _:=HP.out.on HAL.out
     have HNE:Hid (wr.heap.size≠gs∧wr.heap.size≠gr∧wr.heap.size≠gv∧wr.heap.size≠gx∧wr.heap.size≠WB.heap.size):=by
      obtain ⟨h1,h2,h3,h4,h5⟩:=HP.out.lts;show _≠_∧_≠_∧_≠_∧_≠_∧_≠_
      omega
     go_upto_region 21 with fail
     clear HAL k0 k1 k2 k3 k4 k5 HP;generalize hW2:(wr.alloc (.cells #[.int .i64 xw,.int .i64 xn,.int .i64 xt,.string xc,.string xs,.string xo] 68))=W2 at *;clear hW2;generalize hga:wr.heap.size=ga at *;clear hga;have x3:=HX0.out.c3;have x4:=HX0.out.c4;have x5:=HX0.out.c5;have hw1:IntKind.i64.wrap ((xc.size:Int)+(xs.size:Int))=(xc.size:Int)+(xs.size:Int):=by rw [IntKind.wrap_i64]; have:=HSE.out; omega
     have hw2:IntKind.i64.wrap ((xc.size:Int)+(xs.size:Int)+(xo.size:Int))=(xc.size:Int)+(xs.size:Int)+(xo.size:Int):=by rw [IntKind.wrap_i64]; have:=HSE.out; omega
     by_cases hsm:xc.size+xs.size+xo.size≤300
     ·have hsmI:¬ (300:Int)<(xc.size:Int)+(xs.size:Int)+(xo.size:Int):=by omega
      have HSZ:Hid (xc.size+xs.size+xo.size≤300):=hsm;clear hsm;go_upto_region 24 with fail
      clear x3 x4 x5 hw1 hw2 hsmI;have x2:=HX0.out.c2;go_cut [107] from 76 to 311 (fun c wx=>c=.bool (decide (0≤xt∧0<tks.length))∧wx=W2)
      case first=>
       by_cases ht:0≤xt
       ·have htI:(0:Int)≤xt:=ht
        by_cases hl:0<tks.length
        ·have hlI:(0:Int)<(tks.length:Int):=by omega
         go_wp2_with fail
         go_meet
         case rel=>exact ⟨congrArg Value.bool (decide_eq_true (p:=0≤xt∧0<tks.length) ⟨ht,hl⟩).symm,rfl⟩
        ·have hlI:¬ (0:Int)<(tks.length:Int):=by omega
         go_wp2_with fail
         go_meet
         case rel=>exact ⟨congrArg Value.bool (decide_eq_false (p:=0≤xt∧0<tks.length) (fun h=>by have:=h.2; omega)).symm,rfl⟩
       ·have htI:¬ (0:Int)≤xt:=ht
        go_wp2_with fail
        go_meet
        case rel=>exact ⟨congrArg Value.bool (decide_eq_false (p:=0≤xt∧0<tks.length) (fun h=>by have:=h.1; omega)).symm,rfl⟩
      case rest=>
       as_aux_lemma=>
        obtain ⟨rfl,hwc⟩:=hcut;obtain rfl:=hwc.symm;go_upto_if 107 with fail
        go_cut [15] from 76 to 311 (fun tx wx=>∃ t:ByteArray,tx=.string t∧Hid (t.size≤5000)∧wx=W2)
        case first=>
         by_cases hb:0≤xt∧0<tks.length
         ·rw [decide_eq_true hb]
          obtain ⟨m,hml,hm⟩:=rem_in xt tks.length hb.1 hb.2 (by have:=HP0.out.tn; have:=HN4.out; omega)
          obtain ⟨gt,hbt,hct⟩:=HP0.out.toks.cell m hml;obtain rfl:=hbt;have HSM:Hid (tks[m].size≤5000):=HP0.out.ts _ (List.getElem_mem hml);generalize htq:tks[m]=tq at *;clear htq;have hmI1:¬ (m:Int)<0:=by omega
          have hmI2:(m:Int)<(tks.length:Int):=by omega
          have hlI:¬ ((tks.length:Int)=0):=by omega
          clear hb;go_wp2_with fail
          go_meet
          case rel=>exact ⟨_,rfl,HSM,rfl⟩
         ·rw [decide_eq_false hb]
          clear hb;go_wp2_with fail
          go_meet
          case rel=>exact ⟨xc,rfl,(by have:=HSZ.out; show xc.size≤5000; omega),rfl⟩
        case rest=>
         as_aux_lemma=>
          obtain ⟨t,rfl,HTS,hwc⟩:=hcut;obtain rfl:=hwc.symm;clear x2;have x0:=HX0.out.c0;go_upto_block 2 with fail
          clear x0;have HXA:Hid _:=HX0;have HPV:Hid _:=HP0;clear HX0 HP0;generalize hW5:W2=W5 at *;clear hW5;refine svSwitch_is WB W5 k i l a j w.heap.size gs gv gx gr ga p v vr tks bt ct xw xn xt xc xs xo t _ _ _ _ _ _ _ _ _ _ _ _ _ _ _ _ _ _ _ _ _ _ _ _ _ _ _ _ _ _ _ _ _ _ _ _ _ _ _ _ _ _ _ _ _ _ _ _ _ _ _ _ _ _ _ _ _ _ _ _ _ _ _ _ _ _ _ _ _ _ _ _ _ _ _ _ _ _ _ _ _ _ _ _ _ _ _ _ _ _ _ _ _ _ _ _ _ _ _ _ _ _ _ _ _ _ _ _ _ _ _ _ _ _ _ _ _ _ _ _ _ _ _ _ _ _ _ _ _ _ _ _ _ _ _ _ _ _ _ _ _ _ _ _ _ _ _ _ _ _ _ _ _ _ _ _ _ _ _ _ _ _ _ _ _ _ _ _ _ _ _ _ _ _ _ _ _ _ _ _ _ _ _ _ _ _ _ _ _ _ _ _ _ _ _ _ _ _ _ _ _ _ _ _ _ _ _ _ _ _ _ _ _ _ _ _ _ _ _ _ _ _ _ _ _ _ _ _ _ _ _ _ _ _ _ _ _ _ _ _ _ _ _ _ _ _ _ _ _ _ _ _ _ _ _ _ _ _ _ _ _ _ _ _ _ _ _ _ _ _ _ _ _ _ _ _ _ _ _ _ _ _ _ _ _ _ _ _ _ _ _ _ _ _ _ _ _ _ _ _ HPV HXA HNE HRB HN4 HXN HSZ HTS _ _ (fun c a b w hab h=>⟨hab ▸ h.1,h.2⟩) ?_
          intro u4 u6 u7 u10 u16 u17 u18 u19 u20 u21 u22 u76 u77 u78 u79 u80 u81 u82 u83 u84 u85 u86 u87 u88 u89 u90 u91 u92 u93 u94 u95 u96 u97 u98 u99 u100 u101 u102 u103 u104 u105 u106 u107 u108 u109 u110 u111 u112 u113 u114 u115 u116 u117 u118 u119 u120 u121 u122 u123 u124 u125 u126 u127 u128 u129 u130 u131 u132 u133 u134 u135 u136 u137 u138 u139 u140 u141 u142 u143 u144 u145 u146 u147 u148 u149 u150 u151 u152 u153 u154 u155 u156 u157 u158 u159 u160 u161 u162 u163 u164 u165 u166 u167 u168 u169 u170 u171 u172 u173 u174 u175 u176 u177 u178 u179 u180 u181 u182 u183 u184 u185 u186 u187 u188 u189 u190 u191 u192 u193 u194 u195 u196 u197 u198 u199 u200 u201 u202 u203 u204 u205 u206 u207 u208 u209 u210 u211 u212 u213 u214 u215 u216 u217 u218 u219 u220 u221 u222 u223 u224 u225 u226 u227 u228 u229 u230 u231 u232 u233 u234 u235 u236 u237 u238 u239 u240 u241 u242 u243 u244 u245 u246 u247 u248 u249 u250 u251 u252 u253 u254 u255 u256 u257 u258 u259 u260 u261 u262 u263 u264 u265 u266 u267 u268 u269 u270 u271 u272 u273 u274 u275 u276 u277 u278 u279 u280 u281 u282 u283 u284 u285 u286 u287 u288 u289 u290 u291 u292 u293 u294 u295 u296 u297 u298 u299 u300 u301 u302 u303 u304 u305 u306 u307 u308 u309 u310 u311 wx hcut
          obtain ⟨gs,gv,p,v,vr,x,n,HXS,rfl,rfl,rfl,rfl,rfl,rfl,HPC⟩:=hcut;clear HXA HPV HNE
          as_aux_lemma=>
           go_upto_region 73 with fail
           refine RegD.R_ (fun W=>PV WB j (44*j+44) gv gs WB.heap.size gx gr ⟨k,i,l,a⟩ p p v vr (.slice bt tks.length ct) tks W) 21 (by kernel_rfl) (HPC.out.on (Below.refl _ _).drew) (fun hH=>?_)
           refine RegD.T_ 0 (v:=errQ n) rfl (by kernel_rfl) (fun _ _ _ h=>h) (.inl ⟨by rfl,fun W hW=>by go_simp⟩) hH ?_
           simp only [Act.put,pS1,pS2,pS3];refine RegD.T_ 1 (v:=.int .i64 (n:Nat)) rfl (by kernel_rfl) (fun _ _ _ h=>h) (.inl ⟨by rfl,fun W hW=>by go_simp⟩) hH ?_
           simp only [Act.put,pS1,pS2,pS3];refine RegD.O_ 2 rfl (by kernel_rfl) ?_; intro K hK; go_simp
           go_at_call 23
           refine (bareZ2 n _ hH.two.sv.libs.base.err).mono ?_;rintro e6 w6 ⟨rfl,hb6⟩;go_wp2_with fail
           refine hK.out _ _ (hH.on hb6) ?_;clear hK hH;intro hH;clear K;clear hb6;refine RegD.T_ 3 (v:=.bool false) rfl (by kernel_rfl) (fun _ _ _ h=>h) (.inl ⟨by rfl,fun W hW=>by go_simp⟩) hH ?_
           simp only [Act.put,pS1,pS2,pS3];refine RegD.T_ 4 (v:=.bool false) rfl (by kernel_rfl) (fun _ _ _ h=>h) (.inl ⟨by rfl,fun W hW=>by go_simp⟩) hH ?_
           simp only [Act.put,pS1,pS2,pS3];refine RegD.T_ 5 (v:=.string x) rfl (by kernel_rfl) (fun _ _ _ h=>h) (.inl ⟨by rfl,fun W hW=>by go_simp⟩) hH ?_
           simp only [Act.put,pS1,pS2,pS3];refine RegD.T_ 6 (v:=.string x) rfl (by kernel_rfl) (fun _ _ _ h=>h) (.inl ⟨by rfl,fun W hW=>by go_simp⟩) hH ?_
           simp only [Act.put,pS1,pS2,pS3];refine RegD.T_ 7 (v:=.bool false) rfl (by kernel_rfl) (fun _ _ _ h=>h) (.inl ⟨by rfl,fun W hW=>by go_simp⟩) hH ?_
           simp only [Act.put,pS1,pS2,pS3];refine RegD.T_ 8 (v:=.bool false) rfl (by kernel_rfl) (fun _ _ _ h=>h) (.inl ⟨by rfl,fun W hW=>by go_simp⟩) hH ?_
           simp only [Act.put,pS1,pS2,pS3];refine RegD.T_ 9 (v:=.bool false) rfl (by kernel_rfl) (fun _ _ _ h=>h) (.inl ⟨by rfl,fun W hW=>by go_simp⟩) hH ?_
           simp only [Act.put,pS1,pS2,pS3];refine RegD.T_ 10 (v:=.pointer (some ⟨gv,0,none⟩)) rfl (by kernel_rfl) (fun _ _ _ h=>h) (.inl ⟨by rfl,fun W hW=>by go_simp⟩) hH ?_
           simp only [Act.put,pS1,pS2,pS3];refine RegD.T_ 12 (v:=.pointer (some ⟨gx,0,none⟩)) rfl (by kernel_rfl) (fun _ _ _ h=>h) (.inl ⟨by rfl,fun W hW=>by go_simp⟩) hH ?_
           simp only [Act.put,pS1,pS2,pS3];refine RegD.T_ 13 (v:=.pointer (some ⟨gx,0,none⟩)) rfl (by kernel_rfl) (fun _ _ _ h=>h) (.inl ⟨by rfl,fun W hW=>by go_simp⟩) hH ?_
           simp only [Act.put,pS1,pS2,pS3];refine RegD.T_ 14 (v:=.pointer (some ⟨gx,0,none⟩)) rfl (by kernel_rfl) (fun _ _ _ h=>h) (.inl ⟨by rfl,fun W hW=>by go_simp⟩) hH ?_
           simp only [Act.put,pS1,pS2,pS3];refine RegD.T_ 15 (v:=.pointer (some ⟨gr,0,none⟩)) rfl (by kernel_rfl) (fun _ _ _ h=>h) (.inl ⟨by rfl,fun W hW=>by have a0:=hW.two.rv.box.c0; go_simp⟩) hH ?_
           simp only [Act.put,pS1,pS2,pS3];refine RegD.T_ 16 (v:=.pointer (some ⟨gr,0,none⟩)) rfl (by kernel_rfl) (fun _ _ _ h=>h) (.inl ⟨by rfl,fun W hW=>by go_simp⟩) hH ?_
           simp only [Act.put,pS1,pS2,pS3];refine RegD.T_ 17 (v:=.pointer (some ⟨gr,0,none⟩)) rfl (by kernel_rfl) (fun _ _ _ h=>h) (.inl ⟨by rfl,fun W hW=>by go_simp⟩) hH ?_
           simp only [Act.put,pS1,pS2,pS3];refine RegD.T_ 18 (v:=.agg #[.int .i64 p.st.clock,.int .i64 p.st.next,vr]) rfl (by kernel_rfl) (fun _ _ _ h=>h) (.inl ⟨by rfl,fun W hW=>by have a0:=hW.two.rv.doc.c0; have a1:=hW.two.rv.doc.c1; have a2:=hW.two.rv.doc.c2; go_simp⟩) hH ?_
           simp only [Act.put,pS1,pS2,pS3];refine RegD.O_ 11 rfl (by kernel_rfl) ?_; intro K hK; go_simp
           go_at_call 43
           refine (svState_is _ _ _ _ _ _ _ _ hH.two.sv).mono ?_;rintro e6 w6 ⟨v6,rfl,hf6,hb6⟩;obtain ⟨b6,c6,rfl⟩:=RowsK.slice hf6;unfold stV;go_wp2_with fail
           refine hK.out _ _ (hH.on hb6) ?_;clear hK hH;intro hH;clear K;clear hb6;refine RegD.O_ 19 rfl (by kernel_rfl) ?_; intro K hK; go_simp
           go_at_call 21
           refine (same_is _ _ hf6 hH.two.rv.doc.fam (by have:=hH.two.sv.sp.ok.good.len; omega)).mono ?_
           rintro e7 w7 ⟨rfl,hb7⟩;go_wp2_with fail
           refine hK.out _ _ (hH.on hb7) ?_;clear hK hH;intro hH;clear K;clear hf6 hb7;refine RegD.T_ 20 (v:=.bool false) rfl (by kernel_rfl) (fun _ _ _ h=>h) (.inl ⟨by rfl,fun W hW=>by go_simp⟩) hH ?_
           simp only [Act.put,pS1,pS2,pS3];have HPD:Hid _:=hH;clear hH;refine RegD.L_ 21 rfl (by kernel_rfl) (by kernel_rfl) ?_; intro K hK; go_simp
           refine hK.out _ _ ?_;clear hK K;refine RegD.D_ (by kernel_rfl) ?_ _
           obtain ⟨bx,hbx⟩:∃ bx:Bool,x.toList.isEmpty=bx:=⟨_,rfl⟩
           cases bx with
           |true=>
            go_wp2_with fail
            go_roundg (gk - 1)
            case measure=>have:=HJ.out; omega
            case rel=>exact ⟨j+1,_,_,_,_,_,tks,_,_,by have:=HJ.out; omega,by go_num,rfl,rfl,rfl,HPD.out.mono (Nat.le_succ j) (by omega)⟩
           |false=>
            as_aux_lemma=>
             have hal:Below w7.heap.size w7 (w7.alloc (.cells #[.string x] 9)):=(Below.refl _ _).alloc (Nat.le_refl _) _;have HHA:Hid _:=HPD.out.on hal;clear hal;obtain ⟨i0,hi,hz0,hz1,hz2⟩:=infoStr;have HLT:Hid (WB.heap.size+1≤(w7.alloc (.cells #[.string x] 9)).heap.size):=HHA.out.lts.1;have hlx:tks.length≤1000000:=by have h1:=HHA.out.tn; have h2:=HN4.out; omega
             go_wp2_with (at_builtin; refine wpList_append_wordsK _ rfl _ _ 66 rfl 9 i0 Tryz.underlying66 hi hz0 hz1 hz2 (WB.heap.size+1) _ tks rfl HHA.out.toks HLT.out ⟨w7.heap.size,0,none⟩ 1 x rfl ((World.cell?_alloc_at _ _ _ _ rfl).trans rfl) hlx ?_)
             intro vn wn hwn hsn hkn hnn han;have hkn2:∀ l:List Nat,(∀ g o n' c',(Value.slice bt tks.length ct)=.slice (some ⟨g,o,none⟩) n' c'→g∈l)→Keep l (w7.alloc (.cells #[.string x] 9)) wn:=fun l hl=>hkn l (fun g o e=>hl g o _ _ (by rw [e]))
             have HNT:Hid _:=HHA.out.note HXS.out hwn hkn2 (fun b hb=>hnn b (by simpa using hb)) (fun y h1 h2=>han y h1 (fun b hb=>h2 b (by simpa using hb)))
             clear hwn hsn hkn hkn2 hnn han hi hz0 hz1 hz2 hlx;obtain ⟨bn,cn,rfl⟩:=HNT.out.toks.slice;go_wp2_with fail
             go_roundg (gk - 1)
             case measure=>have:=HJ.out; omega
             case rel=>exact ⟨j+1,_,_,_,_,_,tks ++ [x],_,_,by have:=HJ.out; omega,by go_num,rfl,rfl,(by simp),HNT.out.mono (Nat.le_refl _) (by omega)⟩
     ·have hsmI:(300:Int)<(xc.size:Int)+(xs.size:Int)+(xo.size:Int):=by omega
      clear hsm;go_wp2_with fail
      go_ret;exact ⟨rfl,HB0.out.trans (HP0.out.bel.mono (Nat.le_of_lt HRB.out.lt))⟩
    ·obtain rfl:j=asks.length:=by have:=HJ.out; omega
     go_wp2_with fail
     go_ret;exact ⟨rfl,HB0.out.trans (HP.out.bel.mono (Nat.le_of_lt HRB.out.lt))⟩
end Go.Proofs.YtlailakofhenkabGreatDoor
