import Derived.Test.YtlailakofhenkabGreatDoorB41
set_option maxRecDepth 100000
set_option maxHeartbeats 32000000
namespace Go.Proofs.YtlailakofhenkabGreatDoor
open Go Go.RowKit Tok Sc Ev
theorem svSwitch_is (WB W5:World) (k i l a:Int) (j gu gs gv gx gr ga:Nat) (p:Pub) (v vr:Value) (tks:List ByteArray) (bt:Option Addr) (ct:Nat) (xw xn xt:Int) (xc xs xo t:ByteArray) (s0 s1 s3 s4 s7 s8 s9 s13 s19 s20 s21 s22 s23 s24 s25 s26 s27 s28 s29 s30 s31 s32 s33 s34 s35 s36 s37 s38 s39 s40 s41 s42 s43 s44 s45 s46 s47 s48 s49 s50 s51 s52 s53 s54 s55 s56 s57 s58 s59 s60 s61 s62 s63 s64 s65 s66 s67 s68 s69 s70 s71 s72 s73 s74 s75 s76 s77 s78 s79 s80 s81 s82 s83 s84 s85 s86 s87 s88 s89 s90 s91 s92 s93 s94 s95 s96 s97 s98 s99 s100 s101 s102 s103 s104 s105 s106 s107 s108 s109 s110 s111 s112 s113 s114 s115 s116 s118 s119 s120 s121 s122 s123 s124 s125 s126 s127 s128 s129 s130 s131 s132 s133 s134 s135 s136 s137 s138 s139 s140 s141 s142 s143 s144 s145 s146 s147 s148 s149 s150 s151 s152 s153 s154 s155 s156 s157 s158 s159 s160 s161 s162 s163 s164 s165 s166 s167 s168 s169 s170 s171 s172 s173 s174 s175 s176 s177 s178 s179 s180 s181 s182 s183 s184 s185 s186 s187 s188 s189 s190 s191 s192 s193 s194 s195 s196 s197 s198 s199 s200 s201 s202 s203 s204 s205 s206 s207 s208 s209 s210 s211 s212 s213 s214 s215 s216 s217 s218 s219 s220 s221 s222 s223 s224 s225 s226 s227 s228 s229 s230 s231 s232 s233 s234 s235 s236 s237 s238 s239 s240 s241 s242 s243 s244 s245 s246 s247 s248 s249 s250 s251 s252 s253 s254 s255 s256 s257 s258 s259 s260 s261 s262 s263 s264 s265 s266 s267 s268 s269 s270 s271 s272 s273 s274 s275 s276 s277 s278 s279 s280 s281 s282 s283 s284 s285 s286 s287 s288 s289 s290 s291 s292 s293 s294 s295 s296 s297 s298 s299 s300 s301 s302 s303 s304 s305 s306 s307 s308 s309 s310 s311:Value) (HPV:Hid (PV WB j (44*j) gv gs WB.heap.size gx gr ⟨k,i,l,a⟩ p p v vr (.slice bt tks.length ct) tks W5)) (HXA:Hid (XA W5 ga xw xn xt xc xs xo)) (HNE:Hid (ga≠gs∧ga≠gr∧ga≠gv∧ga≠gx∧ga≠WB.heap.size)) (HRB:Hid (RuB WB gu k i l a)) (HN4:Hid (j<100)) (HXN:Hid (xn≤9223372036854775807)) (HSZ:Hid (xc.size+xs.size+xo.size≤300)) (HTS:Hid (t.size≤5000)) (K:Act→World→Prop) (Q':Exit→Act→World→Prop) (hQP:∀ (c:List PanicEntry) (a b:Act) (w:World),a.defers=b.defers→Q' (.panic c) a w→Q' (.panic c) b w) (hK:∀ (u4 u6 u7 u10 u16 u17 u18 u19 u20 u21 u22 u76 u77 u78 u79 u80 u81 u82 u83 u84 u85 u86 u87 u88 u89 u90 u91 u92 u93 u94 u95 u96 u97 u98 u99 u100 u101 u102 u103 u104 u105 u106 u107 u108 u109 u110 u111 u112 u113 u114 u115 u116 u117 u118 u119 u120 u121 u122 u123 u124 u125 u126 u127 u128 u129 u130 u131 u132 u133 u134 u135 u136 u137 u138 u139 u140 u141 u142 u143 u144 u145 u146 u147 u148 u149 u150 u151 u152 u153 u154 u155 u156 u157 u158 u159 u160 u161 u162 u163 u164 u165 u166 u167 u168 u169 u170 u171 u172 u173 u174 u175 u176 u177 u178 u179 u180 u181 u182 u183 u184 u185 u186 u187 u188 u189 u190 u191 u192 u193 u194 u195 u196 u197 u198 u199 u200 u201 u202 u203 u204 u205 u206 u207 u208 u209 u210 u211 u212 u213 u214 u215 u216 u217 u218 u219 u220 u221 u222 u223 u224 u225 u226 u227 u228 u229 u230 u231 u232 u233 u234 u235 u236 u237 u238 u239 u240 u241 u242 u243 u244 u245 u246 u247 u248 u249 u250 u251 u252 u253 u254 u255 u256 u257 u258 u259 u260 u261 u262 u263 u264 u265 u266 u267 u268 u269 u270 u271 u272 u273 u274 u275 u276 u277 u278 u279 u280 u281 u282 u283 u284 u285 u286 u287 u288 u289 u290 u291 u292 u293 u294 u295 u296 u297 u298 u299 u300 u301 u302 u303 u304 u305 u306 u307 u308 u309 u310 u311:Value) (wx:World),(∃ (gs gv:Nat) (p:Pub) (v vr:Value) (x:ByteArray) (n:Nat),Hid (x.size≤5000)∧u6=.pointer (some ⟨gs,0,none⟩)∧u7=errQ n∧u10=.pointer (some ⟨gv,0,none⟩)∧u16=.string x∧u17=.string x∧u18=.int .i64 (n:Nat)∧Hid (PV WB j (44*j+44) gv gs WB.heap.size gx gr ⟨k,i,l,a⟩ p p v vr (.slice bt tks.length ct) tks wx))→K { tmps:=(List.toArray (s0::s1::.pointer (some ⟨gu,0,none⟩)::s3::u4::.pointer (some ⟨WB.heap.size,0,none⟩)::u6::u7::s8::s9::u10::.pointer (some ⟨gx,0,none⟩)::.slice bt tks.length ct::s13::.pointer (some ⟨ga,0,none⟩)::.string t::u16::u17::u18::u19::u20::u21::u22::s23::s24::s25::s26::s27::s28::s29::s30::s31::s32::s33::s34::s35::s36::s37::s38::s39::s40::s41::s42::s43::s44::s45::s46::s47::s48::s49::s50::s51::s52::s53::s54::s55::s56::s57::s58::s59::s60::s61::s62::s63::s64::s65::s66::s67::s68::s69::s70::s71::s72::s73::s74::s75::u76::u77::u78::u79::u80::u81::u82::u83::u84::u85::u86::u87::u88::u89::u90::u91::u92::u93::u94::u95::u96::u97::u98::u99::u100::u101::u102::u103::u104::u105::u106::u107::u108::u109::u110::u111::u112::u113::u114::u115::u116::u117::u118::u119::u120::u121::u122::u123::u124::u125::u126::u127::u128::u129::u130::u131::u132::u133::u134::u135::u136::u137::u138::u139::u140::u141::u142::u143::u144::u145::u146::u147::u148::u149::u150::u151::u152::u153::u154::u155::u156::u157::u158::u159::u160::u161::u162::u163::u164::u165::u166::u167::u168::u169::u170::u171::u172::u173::u174::u175::u176::u177::u178::u179::u180::u181::u182::u183::u184::u185::u186::u187::u188::u189::u190::u191::u192::u193::u194::u195::u196::u197::u198::u199::u200::u201::u202::u203::u204::u205::u206::u207::u208::u209::u210::u211::u212::u213::u214::u215::u216::u217::u218::u219::u220::u221::u222::u223::u224::u225::u226::u227::u228::u229::u230::u231::u232::u233::u234::u235::u236::u237::u238::u239::u240::u241::u242::u243::u244::u245::u246::u247::u248::u249::u250::u251::u252::u253::u254::u255::u256::u257::u258::u259::u260::u261::u262::u263::u264::u265::u266::u267::u268::u269::u270::u271::u272::u273::u274::u275::u276::u277::u278::u279::u280::u281::u282::u283::u284::u285::u286::u287::u288::u289::u290::u291::u292::u293::u294::u295::u296::u297::u298::u299::u300::u301::u302::u303::u304::u305::u306::u307::u308::u309::u310::u311::([]:List Value))),defers:= [] } wx) :
 (theBlk 2 Tryz.f4).wp Tryz.prog (Exit.then K Q') { tmps:=(List.toArray (s0::s1::.pointer (some ⟨gu,0,none⟩)::s3::s4::.pointer (some ⟨WB.heap.size,0,none⟩)::.pointer (some ⟨gs,0,none⟩)::s7::s8::s9::.pointer (some ⟨gv,0,none⟩)::.pointer (some ⟨gx,0,none⟩)::.slice bt tks.length ct::s13::.pointer (some ⟨ga,0,none⟩)::.string t::.string ⟨#[]⟩::.string ⟨#[]⟩::.int .i64 0::s19::s20::s21::s22::s23::s24::s25::s26::s27::s28::s29::s30::s31::s32::s33::s34::s35::s36::s37::s38::s39::s40::s41::s42::s43::s44::s45::s46::s47::s48::s49::s50::s51::s52::s53::s54::s55::s56::s57::s58::s59::s60::s61::s62::s63::s64::s65::s66::s67::s68::s69::s70::s71::s72::s73::s74::s75::s76::s77::s78::s79::s80::s81::s82::s83::s84::s85::s86::s87::s88::s89::s90::s91::s92::s93::s94::s95::s96::s97::s98::s99::s100::s101::s102::s103::s104::s105::s106::s107::s108::s109::s110::s111::s112::s113::s114::s115::s116::.int .i64 xw::s118::s119::s120::s121::s122::s123::s124::s125::s126::s127::s128::s129::s130::s131::s132::s133::s134::s135::s136::s137::s138::s139::s140::s141::s142::s143::s144::s145::s146::s147::s148::s149::s150::s151::s152::s153::s154::s155::s156::s157::s158::s159::s160::s161::s162::s163::s164::s165::s166::s167::s168::s169::s170::s171::s172::s173::s174::s175::s176::s177::s178::s179::s180::s181::s182::s183::s184::s185::s186::s187::s188::s189::s190::s191::s192::s193::s194::s195::s196::s197::s198::s199::s200::s201::s202::s203::s204::s205::s206::s207::s208::s209::s210::s211::s212::s213::s214::s215::s216::s217::s218::s219::s220::s221::s222::s223::s224::s225::s226::s227::s228::s229::s230::s231::s232::s233::s234::s235::s236::s237::s238::s239::s240::s241::s242::s243::s244::s245::s246::s247::s248::s249::s250::s251::s252::s253::s254::s255::s256::s257::s258::s259::s260::s261::s262::s263::s264::s265::s266::s267::s268::s269::s270::s271::s272::s273::s274::s275::s276::s277::s278::s279::s280::s281::s282::s283::s284::s285::s286::s287::s288::s289::s290::s291::s292::s293::s294::s295::s296::s297::s298::s299::s300::s301::s302::s303::s304::s305::s306::s307::s308::s309::s310::s311::([]:List Value))),defers:= [] } W5:=by
 by_cases hd1:xw=0∨xw=1∨xw=2∨xw=3∨xw=4
 ·exact svSwA_is WB W5 k i l a j gu gs gv gx gr ga p v vr tks bt ct xw xn xt xc xs xo t s0 s1 s3 s4 s7 s8 s9 s13 s19 s20 s21 s22 s23 s24 s25 s26 s27 s28 s29 s30 s31 s32 s33 s34 s35 s36 s37 s38 s39 s40 s41 s42 s43 s44 s45 s46 s47 s48 s49 s50 s51 s52 s53 s54 s55 s56 s57 s58 s59 s60 s61 s62 s63 s64 s65 s66 s67 s68 s69 s70 s71 s72 s73 s74 s75 s76 s77 s78 s79 s80 s81 s82 s83 s84 s85 s86 s87 s88 s89 s90 s91 s92 s93 s94 s95 s96 s97 s98 s99 s100 s101 s102 s103 s104 s105 s106 s107 s108 s109 s110 s111 s112 s113 s114 s115 s116 s118 s119 s120 s121 s122 s123 s124 s125 s126 s127 s128 s129 s130 s131 s132 s133 s134 s135 s136 s137 s138 s139 s140 s141 s142 s143 s144 s145 s146 s147 s148 s149 s150 s151 s152 s153 s154 s155 s156 s157 s158 s159 s160 s161 s162 s163 s164 s165 s166 s167 s168 s169 s170 s171 s172 s173 s174 s175 s176 s177 s178 s179 s180 s181 s182 s183 s184 s185 s186 s187 s188 s189 s190 s191 s192 s193 s194 s195 s196 s197 s198 s199 s200 s201 s202 s203 s204 s205 s206 s207 s208 s209 s210 s211 s212 s213 s214 s215 s216 s217 s218 s219 s220 s221 s222 s223 s224 s225 s226 s227 s228 s229 s230 s231 s232 s233 s234 s235 s236 s237 s238 s239 s240 s241 s242 s243 s244 s245 s246 s247 s248 s249 s250 s251 s252 s253 s254 s255 s256 s257 s258 s259 s260 s261 s262 s263 s264 s265 s266 s267 s268 s269 s270 s271 s272 s273 s274 s275 s276 s277 s278 s279 s280 s281 s282 s283 s284 s285 s286 s287 s288 s289 s290 s291 s292 s293 s294 s295 s296 s297 s298 s299 s300 s301 s302 s303 s304 s305 s306 s307 s308 s309 s310 s311 HPV HXA HNE HRB HN4 HXN HSZ HTS hd1 K Q' hQP hK
 conv=>arg 2; whnf
 go_cut [6,7,10,16,17,18] from 76 to 311 (fun sx ex cx yx zx nx wx=>∃ (gs gv:Nat) (p:Pub) (v vr:Value) (x:ByteArray) (n:Nat),Hid (x.size≤5000)∧sx=.pointer (some ⟨gs,0,none⟩)∧ex=errQ n∧cx=.pointer (some ⟨gv,0,none⟩)∧yx=.string x∧zx=.string x∧nx=.int .i64 (n:Nat)∧Hid (PV WB j (44*j+44) gv gs WB.heap.size gx gr ⟨k,i,l,a⟩ p p v vr (.slice bt tks.length ct) tks wx))
 case rest=>
  exact hK _ _ _ _ _ _ _ _ _ _ _ _ _ _ _ _ _ _ _ _ _ _ _ _ _ _ _ _ _ _ _ _ _ _ _ _ _ _ _ _ _ _ _ _ _ _ _ _ _ _ _ _ _ _ _ _ _ _ _ _ _ _ _ _ _ _ _ _ _ _ _ _ _ _ _ _ _ _ _ _ _ _ _ _ _ _ _ _ _ _ _ _ _ _ _ _ _ _ _ _ _ _ _ _ _ _ _ _ _ _ _ _ _ _ _ _ _ _ _ _ _ _ _ _ _ _ _ _ _ _ _ _ _ _ _ _ _ _ _ _ _ _ _ _ _ _ _ _ _ _ _ _ _ _ _ _ _ _ _ _ _ _ _ _ _ _ _ _ _ _ _ _ _ _ _ _ _ _ _ _ _ _ _ _ _ _ _ _ _ _ _ _ _ _ _ _ _ _ _ _ _ _ _ _ _ _ _ _ _ _ _ _ _ _ _ _ _ _ _ _ _ _ _ _ _ _ _ _ _ _ _ _ _ _ _ _ _ _ _ _ _ _ _ _ _ _ _ _ hcut
 case first=>
  clear hK;have q0:=HXA;have q1:=HNE;have q2:=HRB;have q3:=HN4;have q4:=HXN;have q5:=HSZ;have q6:=HTS;have q7:=hQP;clear q0 q1 q2 q3 q4 q5 q6 q7;by_cases hd:5≤xw∧xw≤9
  ·rcases (by omega:xw=5∨xw=6∨xw=7∨xw=8∨xw=9) with rfl | rfl | rfl | rfl | rfl
   ·clear hd1
    obtain ⟨n,q,hR,hP⟩:=pairTick (44*j) gv gs WB.heap.size gx gr ⟨k,i,l,a⟩ p v vr xn (by have:=HN4.out; omega)
    have HXS:Hid ((⟨#[]⟩:ByteArray).size≤5000):=(by decide:(⟨#[]⟩:ByteArray).size≤5000)
    have HCR:Hid _:=hR;have HCP:Hid _:=hP;clear hR hP;have x1:=HXA.out.c1;go_wp2_with fail
    refine (HCR.out _ HPV.out.two.rv).mono ?_;rintro e7 w7 ⟨rfl,vr7,hto⟩;have HP7:Hid _:=HPV.out.toR hto;have HX7:Hid _:=HXA.out.keep hto.keep (by have:=HNE.out; simp; omega)
    clear hto;clear x1;have x1:=HX7.out.c1;go_wp2_with fail
    refine (HCP.out _ HP7.out.two.sv).mono ?_;rintro e8 w8 ⟨rfl,v8,hto⟩;have HP8:Hid _:=HP7.out.toP hto;clear hto;clear x1;go_wp2_with fail
    go_meet
    case rel=>exact ⟨gs,gv,_,_,_,⟨#[]⟩,n,HXS,rfl,rfl,rfl,rfl,rfl,rfl,HP8.out.mono (Nat.le_refl _) (by omega)⟩
   ·clear hd1
    obtain ⟨si,n,q,hR,hP⟩:=pairSweep (44*j) gv gs WB.heap.size gx gr ⟨k,i,l,a⟩ p v vr (by have:=HN4.out; omega)
    have HXS:Hid ((⟨#[]⟩:ByteArray).size≤5000):=(by decide:(⟨#[]⟩:ByteArray).size≤5000)
    have HCR:Hid _:=hR;have HCP:Hid _:=hP;clear hR hP;go_wp2_with fail
    refine (HCR.out _ HPV.out.two.rv).mono ?_;rintro e7 w7 ⟨rfl,vr7,hto⟩;have HP7:Hid _:=HPV.out.toR hto;have HX7:Hid _:=HXA.out.keep hto.keep (by have:=HNE.out; simp; omega)
    clear hto;go_wp2_with fail
    refine (HCP.out _ HP7.out.two.sv).mono ?_;rintro e8 w8 ⟨rfl,v8,hto⟩;have HP8:Hid _:=HP7.out.toP hto;clear hto;go_wp2_with fail
    go_meet
    case rel=>exact ⟨gs,gv,_,_,_,⟨#[]⟩,n,HXS,rfl,rfl,rfl,rfl,rfl,rfl,HP8.out.mono (Nat.le_refl _) (by omega)⟩
   ·clear hd1
    have HXS:Hid ((⟨#[]⟩:ByteArray).size≤5000):=(by decide:(⟨#[]⟩:ByteArray).size≤5000)
    have b0:=HPV.out.two.rv.box.c0;go_wp2_with fail
    refine (twoSaveR _ _ _ _ _ _ _ _ _ HPV.out.two.two (by have:=HN4.out; omega)).mono ?_
    rintro e7 w7 ⟨rfl,ht7,hk7⟩;have HP7:Hid _:=HPV.out.re ht7 hk7 (by simp)
    clear ht7 hk7 b0;go_wp2_with fail
    refine (twoSaveP _ _ _ _ _ _ _ _ _ HP7.out.two.two (by have:=HN4.out; omega)).mono ?_
    rintro e8 w8 ⟨rfl,ht8,hk8⟩;have HP8:Hid _:=HP7.out.re ht8 hk8 (by simp)
    clear ht8 hk8;go_wp2_with fail
    go_meet
    case rel=>exact ⟨gs,gv,_,_,_,⟨#[]⟩,(saveP p).2,HXS,rfl,rfl,rfl,rfl,rfl,rfl,HP8.out.mono (Nat.le_refl _) (by omega)⟩
   ·clear hd1
    have HXS:Hid ((⟨#[]⟩:ByteArray).size≤5000):=(by decide:(⟨#[]⟩:ByteArray).size≤5000)
    have x1:=HXA.out.c1;go_wp2_with fail
    refine (twoCutP _ _ _ _ _ _ _ _ _ xn HXN.out HPV.out.two.two).mono ?_;rintro e7 w7 ⟨rfl,ht7,hk7⟩;have HP7:Hid _:=HPV.out.re ht7 hk7 (by simp)
    have HX7:Hid _:=HXA.out.keep hk7 (by have:=HNE.out; simp; omega)
    clear ht7 hk7 x1;go_upto_region 62 with fail
    refine RegD.R_ (fun W=>XA W ga 8 xn xt xc xs xo∧PV WB j (44*j) gv gs WB.heap.size gx gr ⟨k,i,l,a⟩ (cutP p xn) p v vr (.slice bt tks.length ct) tks W) 6 (by kernel_rfl) (⟨HX7.out.on (Below.refl _ _).drew,HP7.out.on (Below.refl _ _).drew⟩) (fun hH=>?_)
    refine RegD.T_ 0 (v:=.pointer (some ⟨gx,0,none⟩)) rfl (by kernel_rfl) (fun c a w h=>hQP c _ _ w (by rfl) h) (.inl ⟨by rfl,fun W hW=>by go_simp⟩) hH ?_
    simp only [Act.put,pS1,pS2,pS3];refine RegD.T_ 1 (v:=.pointer (some ⟨gx,0,none⟩)) rfl (by kernel_rfl) (fun c a w h=>hQP c _ _ w (by rfl) h) (.inl ⟨by rfl,fun W hW=>by go_simp⟩) hH ?_
    simp only [Act.put,pS1,pS2,pS3];refine RegD.T_ 2 (v:=.pointer (some ⟨gx,0,none⟩)) rfl (by kernel_rfl) (fun c a w h=>hQP c _ _ w (by rfl) h) (.inl ⟨by rfl,fun W hW=>by go_simp⟩) hH ?_
    simp only [Act.put,pS1,pS2,pS3];refine RegD.T_ 3 (v:=.pointer (some ⟨gr,0,none⟩)) rfl (by kernel_rfl) (fun c a w h=>hQP c _ _ w (by rfl) h) (.inl ⟨by rfl,fun W hW=>by have a0:=hW.2.two.rv.box.c0; go_simp⟩) hH ?_
    simp only [Act.put,pS1,pS2,pS3];refine RegD.T_ 4 (v:=.pointer (some ⟨ga,1,none⟩)) rfl (by kernel_rfl) (fun c a w h=>hQP c _ _ w (by rfl) h) (.inl ⟨by rfl,fun W hW=>by go_simp⟩) hH ?_
    simp only [Act.put,pS1,pS2,pS3];refine RegD.T_ 5 (v:=.int .i64 xn) rfl (by kernel_rfl) (fun c a w h=>hQP c _ _ w (by rfl) h) (.inl ⟨by rfl,fun W hW=>by have a0:=hW.1.c1; go_simp⟩) hH ?_
    simp only [Act.put,pS1,pS2,pS3];refine RegD.L_ 6 rfl (by kernel_rfl) (by kernel_rfl) ?_; intro K hK; go_simp
    go_at_call 41
    refine (twoCutR _ _ _ _ _ _ _ _ _ xn HXN.out hH.2.two.two).mono ?_;rintro e8 w8 ⟨rfl,ht8,hk8⟩;have HP8:Hid _:=hH.2.re ht8 hk8 (by simp)
    clear ht8 hk8 hH;go_wp2_with fail
    refine hK.out _ _ ?_;clear hK K;refine RegD.D_ (by kernel_rfl) ?_ _
    go_wp2_with fail
    go_meet
    case rel=>exact ⟨gs,gv,_,_,_,⟨#[]⟩,0,HXS,rfl,rfl,rfl,rfl,rfl,rfl,HP8.out.mono (Nat.le_refl _) (by omega)⟩
   ·clear hd1
    have HXS:Hid ((⟨#[]⟩:ByteArray).size≤5000):=(by decide:(⟨#[]⟩:ByteArray).size≤5000)
    go_wp2_with fail
    refine (twoCutP _ _ _ _ _ _ _ _ _ (-1) (by omega) HPV.out.two.two).mono ?_
    rintro e7 w7 ⟨rfl,ht7,hk7⟩;have HP7:Hid _:=HPV.out.re ht7 hk7 (by simp)
    clear ht7 hk7;go_wp2_with fail
    refine (twoOpenP _ _ _ _ _ _ _ _ _ HP7.out.two.two (by have:=HN4.out; omega)).mono ?_
    rintro e8 w8 ⟨g8,v8,rfl,hle8,ht8,-,hb8⟩;have HT8:Hid (w7.heap.size≤g8∧Two (44*j) w8 g8 WB.heap.size gr ⟨p.st,p.lg,p.n,false,-1,false⟩ p v8 vr∧Below w7.heap.size w7 w8):=⟨hle8,ht8,hb8⟩;have HB8:Hid (Below WB.heap.size WB w8):=HP7.out.bel.trans (hb8.mono HP7.out.bel.size);clear hle8 ht8 hb8;have u0:=(HRB.out.on HB8.out).c0;have u1:=(HRB.out.on HB8.out).c1;have u2:=(HRB.out.on HB8.out).c2;have u3:=(HRB.out.on HB8.out).c3;go_wp2_with fail
    refine (new_is (44*j) w8 g8 WB.heap.size k i l a _ v8 HT8.out.2.1.prog (HP7.out.two.sv.libs.on HT8.out.2.2) HPV.out.two.sv.rul HPV.out.two.sv.old).mono ?_;rintro e9 w9 ⟨g9,rfl,hle9,hs9,hb9⟩;have HP9:Hid _:=HP7.out.anew HT8.out.1 HT8.out.2.1 HT8.out.2.2 hle9 hs9 hb9;clear hle9 hs9 hb9 u0 u1 u2 u3;have b0:=HP9.out.two.rv.box.c0;go_wp2_with fail
    refine (twoOpenR _ _ _ _ _ _ _ _ _ HP9.out.two.two).mono ?_;rintro e10 w10 ⟨rfl,ht10,hk10⟩;have HP10:Hid _:=(HP9.out.re ht10 hk10 (by simp)).left rfl p.l
    clear ht10 hk10 b0;go_wp2_with fail
    go_meet
    case rel=>exact ⟨g8,g9,_,_,_,⟨#[]⟩,0,HXS,rfl,rfl,rfl,rfl,rfl,rfl,HP10.out.mono (Nat.le_refl _) (by omega)⟩
  ·have b0:(xw == 0)=false:=by simp; omega
   have b1:(xw == 1)=false:=by simp; omega
   have b2:(xw == 2)=false:=by simp; omega
   have b3:(xw == 3)=false:=by simp; omega
   have b4:(xw == 4)=false:=by simp; omega
   have b5:(xw == 5)=false:=by simp; omega
   have b6:(xw == 6)=false:=by simp; omega
   have b7:(xw == 7)=false:=by simp; omega
   have b8:(xw == 8)=false:=by simp; omega
   have b9:(xw == 9)=false:=by simp; omega
   have HXS:Hid ((⟨#[]⟩:ByteArray).size≤5000):=(by decide:(⟨#[]⟩:ByteArray).size≤5000)
   clear hd hd1;go_wp2_with fail
   go_meet
   case rel=>exact ⟨gs,gv,_,_,_,⟨#[]⟩,0,HXS,rfl,rfl,rfl,rfl,rfl,rfl,HPV.out.mono (Nat.le_refl _) (by omega)⟩
end Go.Proofs.YtlailakofhenkabGreatDoor
